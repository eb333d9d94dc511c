import PyProof.Rows.All
import Wide.All
import OpenK.AllK
import Wide.FinOn
import HandS.Base
import HandS.Call
import HandS.Exc
import HandS.Ends
import HandS.Head0
import HandS.Head1
import HandS.Head2
import HandS.Head3
import HandS.HeadEnd
import HandS.HeadHook1
import HandS.HeadHook2
import KE.KStateDown
import KE.KExcIs
import KE.KExcInit
import HandS.HeadNt
import HandS.Property
import HandS.ClsMeth
import HandS.HeadHook4
import HandS.EndTab
import HandS.ForMost
import HandS.TupAny
import HandS.ReCall
import HandS.IsInst
import HandS.Gcd
import HandS.StrMore
import HandS.Defaults
import HandS.Style
import HandS.ExcInit
import HandS.ExcField
import HandS.Lambda
import HandS.More
import HandS.DictComp
import HandS.HotCalls
import KE.KTryMore
import HandS.WordsExc
import HandS.Deep
import HandS.Strs
import KE.DataMinMax
import KE.SortData
import PyProof.SeqIndex
import HandS.Zip
import KE.KDictZip
import KE.KItemsList
import PyProof.CollectIter
import PyProof.WalksMore
import HandS.SortInts
import HandS.SetBool
import HandS.TupSets
import HandS.Comp
import HandS.SortRule
import HandS.List
import HandS.MakeKwOnly
import PyProof.InstEq
import OpenK.KOps
import HandS.OwnEq
import PyProof.Rows.Range3
import PyProof.ListTruth
import KE.SortCalls
import KE.GoesEnum
import HandS.Small
import PyProof.NeKinds
import PyProof.EqAt
import PyProof.WalkInts
import PyProof.PureStr
import PyProof.P3In
import HandS.CallLocal
import OpenK.KMake
import PyProof.StrOps2
import OpenK.KMeth
import KE.KOpsOwn
import HandS.Words
import PyProof.FitsReplace
import HandS.Text
import PySem.Challenge.RW_stucklots_k21_whole_arcs_joined_and_cove
set_option Elab.async false
set_option linter.all false
set_option maxRecDepth 100000
set_option maxHeartbeats 8000000
/-! Wg: a head by one run in the kernel: facts, defs and one more test of one's own; what is asked of an error's class. -/
namespace Dl
open PySem PySem.Spec PyProof.Rows L2
/-- what the module's names stand for, what their classes hold, their code -/
def dvA (g : Addr → Option Obj) (a : Addr) : List Addr := match g a with
  | some ⟨_, _, .dict es _, _⟩ => es.toList.flatMap fun e => He.refV e.val
  | _ => []
def fnA (g : Addr → Option Obj) (a : Addr) : List Addr := match g a with
  | some ⟨_, _, .func fd, _⟩ => He.refV fd.code ++ He.refV fd.defaults
  | some ⟨_, _, .fields vs, _⟩ => vs.toList.flatMap He.refV
  | _ => []
def clA (g : Addr → Option Obj) (a : Addr) : List Addr := match g a with
  | some ⟨_, _, .cls cd, _⟩ => cd.ns :: (dvA g cd.ns ++ (dvA g cd.ns).flatMap (fnA g))
  | _ => fnA g a
def asP (g : Addr → Option Obj) : List Addr := mainGlobals :: (dvA g mainGlobals ++ (dvA g mainGlobals).flatMap (clA g))
def obsE (fa : List He.Fa) (fn : List He.DefD) (ex : PySem.W.Frag → Bool) (K : PySem.W.Frag) : Bool × He.AlD := (ex K, He.obsD fa fn K)
def hookE (fa : List He.Fa) (fn : List He.DefD) (ex : PySem.W.Frag → Bool) : PySem.W.Hook where
  α := Bool × He.AlD
  obs := fun s => obsE fa fn ex (He.frG s.heap.get? (asP s.heap.get?))
  val := fun _ => (true, He.valD fn)
  says := fun _ h => ∃ K : PySem.W.Frag, K.In h ∧ He.SaysD fa fn K ∧ ex K = true
  of := fun _ _ e => ⟨_, He.frG_in, congrArg (fun z : Bool × He.AlD => z.2) e, congrArg (fun z : Bool × He.AlD => z.1) e⟩
  keeps := fun _ _ _ ⟨K, hK, c, x⟩ k => ⟨K, PySem.W.Frag.In.keeps hK k, c, x⟩
def obsEG (fa : List He.Fa) (fn : List He.DefD) (ex : PySem.W.Frag → Bool) (g : Addr → Option Obj) : Bool × He.AlD := obsE fa fn ex (He.frG g (asP g))
theorem obsEG_eq {fa : List He.Fa} {fn : List He.DefD} {ex : PySem.W.Frag → Bool} {g : Addr → Option Obj} {s : Shared} (h : ∀ a, g a = s.heap.get? a) : obsEG fa fn ex g = (hookE fa fn ex).obs s := by
  have e : g = s.heap.get? := funext h
  rw [e] <;> rfl
/-- the class at C hangs on a built-in one whose mro is bmB -/
def ogB (K : PySem.W.Frag) (C : Addr) (bmB : List Value) (newId : String) : Bool := PySem.W.excInitIn K C bmB newId && (match PySem.W.clsIn K C with
  | some cd => cd.hasDict && (match cd.mro with | .ref _ :: bm => PySem.W.excTail bmB bm | _ => false)
  | none => false)
/-- .. and nothing of its own is in the way -/
def ogP (K : PySem.W.Frag) (C : Addr) (fs : List Str) : Bool := PySem.W.findIn K (.ref C) "__setattr__" == some (some (.builtin "object.__setattr__")) && PySem.W.subIn K (.ref C) (.type "BaseException") == some true &&
  PySem.W.typeIn K (.ref C) == some (.type "type") && PySem.W.keepIn K (.ref C) && PySem.W.findIn K (.ref C) "__getattribute__" == some (some (.builtin "BaseException.__getattribute__")) && PySem.W.findIn K (.ref C) "__getattr__" == some none &&
  PySem.W.hasDictIn K C && fs.all (fun f => PySem.W.findIn K (.ref C) f == some none)
/-- what more is asked of the class of an exception -/
def ogQ (K : PySem.W.Frag) (C : Addr) : Bool := (PySem.W.clsIn K C).isSome && PySem.W.findIn K (.ref C) "__class__" == some (some (.builtin "object.__class__")) && PySem.W.specialIn K (.builtin "object.__class__") "__get__" == some (some (.builtin "getset_descriptor.__get__")) &&
  PySem.W.takesIn K (.builtin "object.__class__") == some true && PySem.W.mroIn K C (.type "object") == some true
end Dl
/-! Wq: such a head for a text with classes of its own: their properties, constants, operators. -/
namespace Dl
open PySem PySem.Spec PyProof.Rows L2
/-- what the records in a class's table hold, and what belongs to it -/
def qFld (g : Addr → Option Obj) (a : Addr) : List Addr := match g a with
  | some ⟨_, _, .fields vs, _⟩ => vs.toList.flatMap He.refV
  | _ => []
def qRec (g : Addr → Option Obj) (a : Addr) : List Addr := match g a with
  | some ⟨_, _, .cls cd, _⟩ => (dvA g cd.ns).flatMap fun v => (qFld g v).flatMap (fnA g)
  | _ => []
def asQ (g : Addr → Option Obj) : List Addr := cStatics :: (asP g ++ (dvA g mainGlobals).flatMap (qRec g))
def obsQ (fa : List He.Fa) (fn : List He5.DefA) (ex : PySem.W.Frag → Bool) (K : PySem.W.Frag) : Bool × He.AlD := (ex K, He5.obsA fa fn K)
def hookQ (fa : List He.Fa) (fn : List He5.DefA) (ex : PySem.W.Frag → Bool) : PySem.W.Hook where
  α := Bool × He.AlD
  obs := fun s => obsQ fa fn ex (He.frG s.heap.get? (asQ s.heap.get?))
  val := fun _ => (true, He5.valA fn)
  says := fun _ h => ∃ K : PySem.W.Frag, K.In h ∧ He5.SaysA fa fn K ∧ ex K = true
  of := fun _ _ e => ⟨_, He.frG_in, congrArg (fun z : Bool × He.AlD => z.2) e, congrArg (fun z : Bool × He.AlD => z.1) e⟩
  keeps := fun _ _ _ ⟨K, hK, c, x⟩ k => ⟨K, PySem.W.Frag.In.keeps hK k, c, x⟩
def obsQG (fa : List He.Fa) (fn : List He5.DefA) (ex : PySem.W.Frag → Bool) (g : Addr → Option Obj) : Bool × He.AlD := obsQ fa fn ex (He.frG g (asQ g))
theorem obsQG_eq {fa : List He.Fa} {fn : List He5.DefA} {ex : PySem.W.Frag → Bool} {g : Addr → Option Obj} {s : Shared} (h : ∀ a, g a = s.heap.get? a) : obsQG fa fn ex g = (hookQ fa fn ex).obs s := by
  have e : g = s.heap.get? := funext h
  rw [e] <;> rfl
/-! ### classes -/
def qCls (K : PySem.W.Frag) (C : Addr) : Bool := PySem.W.readsIn K C (.type "type") && (He.eqO (PySem.W.findIn K (.ref C) "__class__") (some (some (.builtin "object.__class__"))) && (He.eqO (PySem.W.specialIn K (.builtin "object.__class__") "__get__") (some (some (.builtin "getset_descriptor.__get__"))) &&
  (decide (PySem.W.takesIn K (.builtin "object.__class__") = some true) && decide (PySem.W.mroIn K C (.type "object") = some true))))
def qProp (K : PySem.W.Frag) (C : Addr) (f : Str) : Bool := He.eqO (PySem.W.findIn K (.ref C) f) (some (some (.ref (He.ma K C f)))) && (He.eqO (PySem.W.specialIn K (.ref (He.ma K C f)) "__get__") (some (some (.builtin "property.__get__"))) && (decide (PySem.W.takesIn K (.ref (He.ma K C f)) = some true) &&
  (match PySem.W.recIn K (He.ma K C f) "property" with
  | some (.ref _ :: _) => true
  | _ => false)))
def qVal (K : PySem.W.Frag) (C : Addr) (f : Str) (v : V) : Bool := match PySem.W.findCls K (.ref C) (.type "type") f with
  | some (.val u) => He.relB v u
  | _ => false
def qEq (K : PySem.W.Frag) (C : Addr) : Bool := He.eqO (PySem.W.findIn K (.ref C) "__eq__") (some (some (.ref (He.ma K C "__eq__")))) && (PySem.W.isFn K (.ref (He.ma K C "__eq__")) && (He.eqO (PySem.W.findIn K (.ref C) "__ne__") (some (some (.builtin "object.__ne__"))) && decide (PySem.W.mroIn K C (.type "object") = some true)))
def qKit (K : PySem.W.Frag) (t c : Value) (b : Bool) : Bool := decide (PySem.W.kitOne K t c = some b)
end Dl
/-! Xh: such a head for a text with lambdas: the tables of the defs that make them; an error's class as one test. -/
namespace Dl
open PySem PySem.Spec PyProof.Rows L2
/-- what is told: facts and defs, one more test, and of the defs of tf that their tables are empty and not in K -/
structure SaysY (fa : List He.Fa) (fn : List He5.DefA) (tf : List He.Defn) (ex : PySem.W.Frag → Bool) (h : Heap) (K : PySem.W.Frag) : Prop where
  a : He5.SaysA fa fn K
  more : ex K = true
  tab : ∀ p ∈ tf, PySem.W.codeHdIn K (He.cT K p).1 (He.cT K p).2 = true ∧ K.lookup (He.cT K p).2 = none ∧ h.get? (He.cT K p).2 = some { cls := .none, data := .fields #[] }
def obsY (fa : List He.Fa) (fn : List He5.DefA) (tf : List He.Defn) (ex : PySem.W.Frag → Bool) (g : Addr → Option Obj) (K : PySem.W.Frag) : (Bool × Bool) × He.AlD := ((ex K, He.tabsB g tf K), He5.obsA fa fn K)
theorem saysY_of {fa : List He.Fa} {fn : List He5.DefA} {tf : List He.Defn} {ex : PySem.W.Frag → Bool} {h : Heap} {as : List Addr} (e : obsY fa fn tf ex h.get? (He.frT h.get? as) = ((true, true), He5.valA fn)) : SaysY fa fn tf ex h (He.frT h.get? as) := by
  have e0 : ex (He.frT h.get? as) = true := congrArg (fun z : (Bool × Bool) × He.AlD => z.1.1) e
  have e1 : He.tabsB h.get? tf (He.frT h.get? as) = true := congrArg (fun z : (Bool × Bool) × He.AlD => z.1.2) e
  refine ⟨congrArg (fun z : (Bool × Bool) × He.AlD => z.2) e, e0, fun p hp => ?_⟩
  obtain ⟨k1, k2⟩ := He.ba (List.all_eq_true.mp e1 p hp)
  cases q : h.get? (He.cT (He.frT h.get? as) p).2 with
  | none => rw [q] at k2; cases k2
  | some o =>
    rw [q] at k2
    exact ⟨k1, He.frT_none q k2, by rw [He.emptyTab_eq k2]⟩
def hookY (fa : List He.Fa) (fn : List He5.DefA) (tf : List He.Defn) (ex : PySem.W.Frag → Bool) : PySem.W.Hook where
  α := (Bool × Bool) × He.AlD
  obs := fun s => obsY fa fn tf ex s.heap.get? (He.frT s.heap.get? (asQ s.heap.get?))
  val := fun _ => ((true, true), He5.valA fn)
  says := fun _ h => ∃ K : PySem.W.Frag, K.In h ∧ SaysY fa fn tf ex h K
  of := fun _ _ e => ⟨_, He.frT_in, saysY_of e⟩
  keeps := fun _ _ _ ⟨K, hK, c⟩ k => ⟨K, PySem.W.Frag.In.keeps hK k, c.a, c.more, fun p hp => ⟨(c.tab p hp).1, (c.tab p hp).2.1, k _ _ (c.tab p hp).2.2⟩⟩
def obsYG (fa : List He.Fa) (fn : List He5.DefA) (tf : List He.Defn) (ex : PySem.W.Frag → Bool) (g : Addr → Option Obj) : (Bool × Bool) × He.AlD := obsY fa fn tf ex g (He.frT g (asQ g))
theorem obsYG_eq {fa : List He.Fa} {fn : List He5.DefA} {tf : List He.Defn} {ex : PySem.W.Frag → Bool} {g : Addr → Option Obj} {s : Shared} (h : ∀ a, g a = s.heap.get? a) : obsYG fa fn tf ex g = (hookY fa fn tf ex).obs s := by
  have e : g = s.heap.get? := funext h
  rw [e] <;> rfl
/-- a law's end over such a head -/
theorem walk_ofY {l : PySem.W.OpenLaw} {n k : Nat} {q : Program} {loose : List Str} {XP : (Str → Option Value) → Heap → Prop} {YP : World → Heap → Prop} {d : DefRec} {CX : CXT} {x : Str} (m1 : l.most = some n) (m2 : n ≤ sizeLine) (m3 : d.params.defaults = []) (m4 : Room k callerA)
    (F : ∀ (w : World) (mg : Str → Option Value) (fa : Addr) (h : Heap), YP w h → h.Ns mainGlobals mg → mg d.name = some (.ref fa) → ∃ K : PySem.W.Frag, K.In h ∧ LamX.LawAtS l w K CX k n x mg fa h)
    (m5 : ∀ (H : Hp) (s : Shared) (e : Value) (s' : Shared), CX [] H s (fun _ _ _ => False) e s' → False) : PySem.W.WalkO q loose XP YP l.row.toRowW d [] (fun f vs => PySem.call f vs) := by
  refine Att.attach_callB m1 m3 fun w s₀ s₁ mg mb fa o pm cd doc a vs ns gr y _ _ _ em eo ei el eb eg => ?_
  obtain ⟨K, kx, fd, cs, sp, t1, t2, t3, t4, t5, t6⟩ := F w mg fa _ y gr.T.g em
  exact LamX.law_callTs kx gr.T.g gr.T.b gr.T.builtins gr.T.nolimit eg t1 t2 t3 gr.T.bmain eo ei (Nat.le_trans el m2) m4 t6 t4 (fun H z1 z2 => t5 H a ns el eb z1 z2) fun H e s' => m5 H s₁ e s'
/-- the class at C: an own one that hangs on ValueError by own ones -/
def oexB (K : PySem.W.Frag) (C : Addr) : Bool := match K.lookup C with
  | some ⟨.type "type", _, .cls cd, sl⟩ => (match cd.mro, sl.toList with
    | .ref E :: bm, [_, _, _, _, some (.builtin z), _] => E == C && (z == "ValueError.__new__" && (!cd.hasDel && (cd.hasDict && PySem.HandSPX.refsVE bm)))
    | _, _ => false)
  | _ => false
end Dl
namespace K21
open PySem PySem.Spec PyProof.Rows L2 Dl
def topS (i : Nat) : Stmt := PySem.Challenge.pw_stucklots_k21_whole_arcs_joined_and_cove.main.body.getD i (.Pass ⟨0, 0, 0, 0⟩)
def gcdB (K : PySem.W.Frag) : Bool := match PySem.W.nsIn K mainGlobals "gcd" with
  | some (some (.builtin z)) => z == "math.gcd"
  | _ => false
def bareB (K : PySem.W.Frag) (C : Addr) : Bool := PySem.W.makesIn K C && (He.eqO (PySem.W.findIn K (.ref C) "__init__") (some (some (.builtin "object.__init__"))) && PySem.W.keepIn K (.ref C))
def orB (K : PySem.W.Frag) (C : Addr) : Bool := PySem.W.selfFirst K C && (He.eqO (PySem.W.findIn K (.ref C) (dunderR (PySem.Operator.info .BitOr).2)) (some none) && (He.eqO (PySem.W.findIn K (.ref C) (PySem.dunder (PySem.Operator.info .BitOr).2)) (some (some (.ref (He.ma K C "__or__")))) && PySem.W.isFn K (.ref (He.ma K C "__or__"))))
def oddB1 (K : PySem.W.Frag) (C : Addr) (T : String) : Bool := qKit K (.type T) (.ref C) false && (decide (PySem.W.subIn K (.type T) (.ref C) = some false) && ((PySem.W.findIn K (.type T) (PySem.dunder (PySem.Operator.info .BitOr).2)).isSome && (PySem.W.findIn K (.type T) (dunderR (PySem.Operator.info .BitOr).2)).isSome))
def oddB (K : PySem.W.Frag) (C : Addr) : Bool := ["NoneType", "tuple", "list", "str", "int", "dict"].all (oddB1 K C)
def hEx (K : PySem.W.Frag) : Bool :=
  qCls K (He.ga K "Arc") && (qCls K (He.ga K "NoEnd") && (bareB K (He.ga K "NoEnd") && (qKit K (.type "tuple") (.ref (He.ga K "NoEnd")) false && (qKit K (.ref (He.ga K "NoEnd")) (.ref (He.ga K "NoEnd")) true && (qKit K (.ref (He.ga K "Arc")) (.ref (He.ga K "Arc")) true && (qEq K (He.ga K "Arc") && (qProp K (He.ga K "Arc") "start" && (qProp K (He.ga K "Arc") "stop" && (qProp K (He.ga K "Arc") "is_whole" && (He5.wrapB K (He.ga K "Arc") "classmethod" "classmethod.__get__" "whole" && (PySem.W.fnIn K (He5.wf K (He.ga K "Arc") "classmethod" "whole") && (gcdB K && (PySem.W.notFirst K (He.ga K "Arc") (.ref (He.ga K "Arc")) && (orB K (He.ga K "Arc") && (oddB K (He.ga K "Arc") && (oexB K (He.ga K "NoJoining") && (ogP K (He.ga K "NoJoining") ["code"] && (decide (PySem.W.exmAny K (.ref (He.ga K "NoJoining")) [.ref (He.ga K "LotError"), .ref (He.ga K "Missing")] = some true)))))))))))))))))))
def hFa0 : List He.Fa := [.glo "is_any_number", .glo "is_number_pair", .glo "is_bounded_pair", .glo "is_direction", .glo "check_direction", .glo "cross", .glo "turned_half", .glo "span_between", .glo "turned_span", .glo "in_span", .glo "in_any_span", .glo "spans_meet", .glo "joined_span", .glo "arc_with", .glo "_law_open", .glo "_law_draw", .glo "_law_of", .glo "_law_same", .glo "_law_field", .glo "_law_try", .glo "_law_cross", .glo "_law_half", .glo "_law_reduced", .glo "_law_ahead", .glo "_law_round", .glo "_law_mid", .glo "_law_mids", .glo "_law_angle", .glo "_law_within", .glo "_law_dir"]
def hFa1 : List He.Fa := [.glo "_law_arc_of_two", .glo "_law_arc_made", .glo "_law_joined_so", .glo "law", .glo "Arc", .glo "NoEnd", .glo "NoJoining", .glo "LotError", .glo "Missing", .free "isinstance", .free "int", .free "bool", .free "str", .free "tuple", .free "list", .free "len", .free "abs", .free "all", .free "any", .free "range", .free "max", .free "zip", .free "ValueError", .free "LookupError", .int "DIRECTION_BOUND" 999, .cls "Arc", .mkr "Arc", .noat "Arc" "_span", .meth "Arc" "__init__", .meth "Arc" "__len__"]
def hFa2 : List He.Fa := [.meth "Arc" "__eq__", .meth "Arc" "__contains__", .meth "Arc" "turned", .meth "Arc" "covers", .meth "Arc" "__or__", .meth "NoJoining" "__init__", .cls "NoEnd"]
def hFa : List He.Fa := hFa0 ++ (hFa1 ++ (hFa2))
def hFn0 : List He5.DefA := [⟨fun K => He.fAd K ("is_any_number", none), "is_any_number", "is_any_number", defArgs (topS 8), defBody (topS 8), defScope (topS 8), [], []⟩, ⟨fun K => He.fAd K ("is_number_pair", none), "is_number_pair", "is_number_pair", defArgs (topS 9), defBody (topS 9), defScope (topS 9), [], []⟩, ⟨fun K => He.fAd K ("is_bounded_pair", none), "is_bounded_pair", "is_bounded_pair", defArgs (topS 10), defBody (topS 10), defScope (topS 10), [], []⟩, ⟨fun K => He.fAd K ("is_direction", none), "is_direction", "is_direction", defArgs (topS 11), defBody (topS 11), defScope (topS 11), [], []⟩, ⟨fun K => He.fAd K ("check_direction", none), "check_direction", "check_direction", defArgs (topS 13), defBody (topS 13), defScope (topS 13), [], []⟩, ⟨fun K => He.fAd K ("cross", none), "cross", "cross", defArgs (topS 14), defBody (topS 14), defScope (topS 14), [], []⟩, ⟨fun K => He.fAd K ("turned_half", none), "turned_half", "turned_half", defArgs (topS 15), defBody (topS 15), defScope (topS 15), [], []⟩, ⟨fun K => He.fAd K ("span_between", none), "span_between", "span_between", defArgs (topS 16), defBody (topS 16), defScope (topS 16), [], []⟩, ⟨fun K => He.fAd K ("turned_span", none), "turned_span", "turned_span", defArgs (topS 17), defBody (topS 17), defScope (topS 17), [], []⟩, ⟨fun K => He.fAd K ("in_span", none), "in_span", "in_span", defArgs (topS 18), defBody (topS 18), defScope (topS 18), [], []⟩, ⟨fun K => He.fAd K ("in_any_span", none), "in_any_span", "in_any_span", defArgs (topS 19), defBody (topS 19), defScope (topS 19), [], []⟩, ⟨fun K => He.fAd K ("spans_meet", none), "spans_meet", "spans_meet", defArgs (topS 20), defBody (topS 20), defScope (topS 20), [], []⟩, ⟨fun K => He.fAd K ("joined_span", none), "joined_span", "joined_span", defArgs (topS 21), defBody (topS 21), defScope (topS 21), [], []⟩, ⟨fun K => He.fAd K ("arc_with", none), "arc_with", "arc_with", defArgs (topS 25), defBody (topS 25), defScope (topS 25), [], []⟩, ⟨fun K => He.fAd K ("_law_open", none), "_law_open", "_law_open", defArgs (topS 27), defBody (topS 27), defScope (topS 27), [], []⟩, ⟨fun K => He.fAd K ("_law_draw", none), "_law_draw", "_law_draw", defArgs (topS 28), defBody (topS 28), defScope (topS 28), [], []⟩, ⟨fun K => He.fAd K ("_law_of", none), "_law_of", "_law_of", defArgs (topS 29), defBody (topS 29), defScope (topS 29), [], []⟩, ⟨fun K => He.fAd K ("_law_same", none), "_law_same", "_law_same", defArgs (topS 30), defBody (topS 30), defScope (topS 30), [], []⟩, ⟨fun K => He.fAd K ("_law_field", none), "_law_field", "_law_field", defArgs (topS 31), defBody (topS 31), defScope (topS 31), [], []⟩, ⟨fun K => He.fAd K ("_law_try", none), "_law_try", "_law_try", defArgs (topS 32), defBody (topS 32), defScope (topS 32), [], []⟩, ⟨fun K => He.fAd K ("_law_cross", none), "_law_cross", "_law_cross", defArgs (topS 33), defBody (topS 33), defScope (topS 33), [], []⟩, ⟨fun K => He.fAd K ("_law_half", none), "_law_half", "_law_half", defArgs (topS 34), defBody (topS 34), defScope (topS 34), [], []⟩, ⟨fun K => He.fAd K ("_law_reduced", none), "_law_reduced", "_law_reduced", defArgs (topS 35), defBody (topS 35), defScope (topS 35), [], []⟩, ⟨fun K => He.fAd K ("_law_ahead", none), "_law_ahead", "_law_ahead", defArgs (topS 36), defBody (topS 36), defScope (topS 36), [], []⟩, ⟨fun K => He.fAd K ("_law_round", none), "_law_round", "_law_round", defArgs (topS 37), defBody (topS 37), defScope (topS 37), [], []⟩, ⟨fun K => He.fAd K ("_law_mid", none), "_law_mid", "_law_mid", defArgs (topS 38), defBody (topS 38), defScope (topS 38), [], []⟩, ⟨fun K => He.fAd K ("_law_mids", none), "_law_mids", "_law_mids", defArgs (topS 39), defBody (topS 39), defScope (topS 39), [], []⟩, ⟨fun K => He.fAd K ("_law_angle", none), "_law_angle", "_law_angle", defArgs (topS 40), defBody (topS 40), defScope (topS 40), [], []⟩, ⟨fun K => He.fAd K ("_law_within", none), "_law_within", "_law_within", defArgs (topS 41), defBody (topS 41), defScope (topS 41), [], []⟩, ⟨fun K => He.fAd K ("_law_dir", none), "_law_dir", "_law_dir", defArgs (topS 42), defBody (topS 42), defScope (topS 42), [], []⟩]
def hFn1 : List He5.DefA := [⟨fun K => He.fAd K ("_law_arc_of_two", none), "_law_arc_of_two", "_law_arc_of_two", defArgs (topS 43), defBody (topS 43), defScope (topS 43), [], []⟩, ⟨fun K => He.fAd K ("_law_arc_made", none), "_law_arc_made", "_law_arc_made", defArgs (topS 44), defBody (topS 44), defScope (topS 44), [], []⟩, ⟨fun K => He.fAd K ("_law_joined_so", none), "_law_joined_so", "_law_joined_so", defArgs (topS 45), defBody (topS 45), defScope (topS 45), [], []⟩, ⟨fun K => He.fAd K ("law", none), "law", "law", defArgs (topS 46), defBody (topS 46), defScope (topS 46), [], []⟩, ⟨fun K => He.fAd K ("Arc", some "__init__"), "__init__", "Arc.__init__", defArgs (inClass (topS 24) 0), defBody (inClass (topS 24) 0), defScope (inClass (topS 24) 0), [], []⟩, ⟨fun K => He.fAd K ("Arc", some "__len__"), "__len__", "Arc.__len__", defArgs (inClass (topS 24) 11), defBody (inClass (topS 24) 11), defScope (inClass (topS 24) 11), [], []⟩, ⟨fun K => He.fAd K ("Arc", some "__eq__"), "__eq__", "Arc.__eq__", defArgs (inClass (topS 24) 10), defBody (inClass (topS 24) 10), defScope (inClass (topS 24) 10), [], []⟩, ⟨fun K => He.fAd K ("Arc", some "__contains__"), "__contains__", "Arc.__contains__", defArgs (inClass (topS 24) 6), defBody (inClass (topS 24) 6), defScope (inClass (topS 24) 6), [], []⟩, ⟨fun K => He.fAd K ("Arc", some "turned"), "turned", "Arc.turned", defArgs (inClass (topS 24) 7), defBody (inClass (topS 24) 7), defScope (inClass (topS 24) 7), [], []⟩, ⟨fun K => He.fAd K ("Arc", some "covers"), "covers", "Arc.covers", defArgs (inClass (topS 24) 8), defBody (inClass (topS 24) 8), defScope (inClass (topS 24) 8), [], []⟩, ⟨fun K => He.fAd K ("Arc", some "__or__"), "__or__", "Arc.__or__", defArgs (inClass (topS 24) 9), defBody (inClass (topS 24) 9), defScope (inClass (topS 24) 9), [], []⟩, ⟨fun K => He.fAd K ("NoJoining", some "__init__"), "__init__", "NoJoining.__init__", defArgs (inClass (topS 4) 0), defBody (inClass (topS 4) 0), defScope (inClass (topS 4) 0), [], []⟩, ⟨fun K => He5.wf K (He.ga K "Arc") "property" "start", "start", "Arc.start", defArgs (inClass (topS 24) 2), defBody (inClass (topS 24) 2), defScope (inClass (topS 24) 2), [], []⟩, ⟨fun K => He5.wf K (He.ga K "Arc") "property" "stop", "stop", "Arc.stop", defArgs (inClass (topS 24) 3), defBody (inClass (topS 24) 3), defScope (inClass (topS 24) 3), [], []⟩, ⟨fun K => He5.wf K (He.ga K "Arc") "property" "is_whole", "is_whole", "Arc.is_whole", defArgs (inClass (topS 24) 4), defBody (inClass (topS 24) 4), defScope (inClass (topS 24) 4), [], []⟩, ⟨fun K => He5.wf K (He.ga K "Arc") "classmethod" "whole", "whole", "Arc.whole", defArgs (inClass (topS 24) 1), defBody (inClass (topS 24) 1), defScope (inClass (topS 24) 1), [], []⟩]
def hFn : List He5.DefA := hFn0 ++ (hFn1)
def hNm0 : List PySem.Str := ["LotError", "InvalidDirection", "NoJoining", "Missing", "DIRECTION_BOUND", "is_any_number", "is_number_pair", "is_bounded_pair", "is_direction", "check_direction", "cross", "turned_half", "span_between", "turned_span", "in_span", "in_any_span", "spans_meet", "joined_span", "NoEnd", "Arc", "arc_with", "_law_open", "_law_draw", "_law_of", "_law_same", "_law_field", "_law_try", "_law_cross", "_law_half", "_law_reduced"]
def hNm1 : List PySem.Str := ["_law_ahead", "_law_round", "_law_mid", "_law_mids", "_law_angle", "_law_within", "_law_dir", "_law_arc_of_two", "_law_arc_made", "_law_joined_so"]
def hNm : List PySem.Str := hNm0 ++ (hNm1)
abbrev hR : PySem.W.OpenRow := PySem.W.OpenLaw.row PySem.Challenge.rw_stucklots_k21_whole_arcs_joined_and_cove
def hTf : List He.Defn := [("law", none)]
abbrev hk : PySem.W.Hook := hookY hFa hFn hTf hEx
def hOb (s : PySem.W.SharedT) : (Bool × Bool) × He.AlD := obsYG hFa hFn hTf hEx (HandSHeadRun.getT s)
theorem hOb_eq (s : PySem.W.SharedT) : hOb s = hk.obs s.abs := obsYG_eq (HandSHeadRun.getT_eq s)
end K21
namespace K21
open PySem PySem.W PySem.Calls PyProof.Rows
theorem run (w : World) : HandSHeadRun.RunEqI hR (PySem.W.view hR.prog [0, 46]) hk hOb 30000 hNm w := by
  unfold HandSHeadRun.RunEqI
  kernel_rfl
end K21
/-! Da: tuples whose object is known: no dict hangs on it, so their methods can be called. -/
namespace Dl
open PySem PySem.Spec PyProof.Rows L2
/-- a new tuple, its object known -/
def NewT (Q : VK) (H : Hp) (xs : List V) : Prop := ∀ (p : Addr) (ob : Obj), H p = none → ob.dict = none → Q (.ref p) (upd H p (.frz ob (.tup xs)))
section
variable {X : Cx} {pins : List (Addr × Obj)} {σ : L2.St} {H : Hp} {s : Shared} {Q : VK}
theorem newT_ep {xs : List V} {its : List Value} (I : Inv X pins σ H s) (rv : Vals xs its) (hz : xs.length ≤ sizeLine) (q : NewT Q H xs) :
    EP X pins σ Q (.ref s.heap.objs.size) { s with heap := s.heap.push { cls := .type "tuple", data := .seq its.toArray } } := by
  have hf : H s.heap.objs.size = none := I.hok.fresh (Nat.le_refl _)
  have hg : (s.heap.push { cls := .type "tuple", data := .seq its.toArray }).get? s.heap.objs.size = some { cls := .type "tuple", data := .seq its.toArray } := Heap.get?_push_size _ rfl
  exact ⟨.ref s.heap.objs.size, upd H s.heap.objs.size (.frz { cls := .type "tuple", data := .seq its.toArray } (.tup xs)),
    I.laid (t' := s.toks) (fun b u e => Heap.get?_push_of_some _ e) (Nat.le_refl _) ⟨hg, hz, its, rv, ⟨_, hg, rfl, _, rfl⟩⟩, rfl, q _ _ hf rfl⟩
/-- (e, ..) -/
def zTup (t : TA) : TE := fun σ H Q => t σ H fun xs H1 => xs.length ≤ sizeLine ∧ NewT Q H1 xs
theorem pe_tupZ {es : List Expr} {t : TA} {cx : Nat} {pos : Pos} (h : PA X es t) : PE X (.Tuple es cx pos) (zTup t) := by
  refine ⟨fun pins s σ H Q I hq => ?_⟩
  refine wpAny_Tuple_spliced (thn (h.run pos pins s σ H _ I hq) fun us s1 ⟨xs, H1, I1, rv, hz, q⟩ => ⟨by rw [← rv.length]; exact hz, newT_ep I1 rv hz q⟩)
/-- t + u -/
def zCat (K : PySem.W.Frag) : R2 := fun x y H Q => ∃ a b xs ys, x = .ref a ∧ y = .ref b ∧ SqT K H a xs ∧ SqT K H b ys ∧ xs.length + ys.length ≤ sizeLine ∧
  (xs = [] → Q (.ref b) H) ∧ (xs ≠ [] → ys = [] → Q (.ref a) H) ∧ (xs ≠ [] → ys ≠ [] → NewT Q H (xs ++ ys))
theorem op_catZ : OpR X (binaryOp .Add) (zCat X.K) := by
  intro pins s σ H x y v u Q I rx ry ⟨a, b, xs, ys, e1, e2, ha, hb, hz, q0, q1, q2⟩
  subst e1 e2
  cases rx
  cases ry
  obtain ⟨its, r1, p1, _⟩ := I.tuple ha
  obtain ⟨jts, r2, p2, _⟩ := I.tuple hb
  by_cases hx : xs = []
  · subst hx
    cases r1
    exact cat_tup0 p1 p2 ⟨.ref b, H, I, rfl, q0 rfl⟩
  · refine HT.cat_tup p1 p2 (fun z => hx (r1.nil_iff.mp z)) (fun z => ⟨.ref a, H, I, rfl, q1 hx (r2.nil_iff.mp z)⟩) (fun z => ?_) (by rw [← r1.length, ← r2.length]; exact hz)
    exact newT_ep I (r1.append r2) (by rw [List.length_append]; exact hz) (q2 hx fun w => z (r2.nil_iff.mpr w))
/-- t[lo:hi] -/
def zSl (K : PySem.W.Frag) : V → Option Int → Option Int → Hp → VK → Prop := fun x lo hi H Q => ∃ a xs, x = .ref a ∧ SqT K H a xs ∧
  (HT.sIx xs.length 0 lo = 0 ∧ HT.sIx xs.length xs.length hi = xs.length → Q (.ref a) H) ∧ (¬ (HT.sIx xs.length 0 lo = 0 ∧ HT.sIx xs.length xs.length hi = xs.length) → NewT Q H (cutV xs lo hi))
theorem sl_tupZ : SlR X (zSl X.K) := by
  intro pins s σ H x v vl vu lo hi sl Q I rx hs pl pu ⟨a, xs, e, hx, q1, q2⟩
  subst e
  cases rx
  obtain ⟨its, rv, ht, hz⟩ := I.tuple hx
  have hlen : its.toArray.size = xs.length := by rw [List.size_toArray]; exact rv.length.symm
  refine ⟨"tuple", _, PyProof.Rows.slot_tuple_getitem.lookup, ht.typeIs, ?_⟩
  by_cases hw : HT.sIx xs.length 0 lo = 0 ∧ HT.sIx xs.length xs.length hi = xs.length
  · exact getItem_tuple_whole ht hs pl pu (by rw [hlen]; exact hw) ⟨.ref a, H, I, rfl, q1 hw⟩
  · refine HT.getItem_tuple_cut ht hs pl pu (by rw [hlen]; exact hw) ?_ (by rw [hlen]; exact hz)
    rw [hlen]
    exact newT_ep I ((rv.drop (HT.sIx xs.length 0 lo)).take (HT.sIx xs.length xs.length hi - HT.sIx xs.length 0 lo)) (Nat.le_trans (cutV_length xs lo hi) hz) (q2 hw)
/-- tuple(xs) -/
def zOf (K : PySem.W.Frag) : List V → Hp → VK → Prop := fun ws H Q => ∃ p ys, ws = [.ref p] ∧ ((SqL K H p ys ∧ NewT Q H ys) ∨ (SqT K H p ys ∧ Q (.ref p) H))
theorem call_tupZ : CallR X (.type "tuple") (zOf X.K) := by
  intro pins s σ H ws us Q I r ⟨p, ys, e, h⟩
  subst e
  obtain ⟨u, rfl, rx⟩ := vals1 r
  cases rx
  rcases h with ⟨hq, q⟩ | ⟨hq, q⟩
  · obtain ⟨its, rv, pl, hz⟩ := I.list hq
    have hlen := rv.length
    refine call_tuple_list pl.isList (fun h' kp => ?_) (by simp only [List.size_toArray] <;> omega)
    exact newT_ep (s := { s with heap := h' }) (I.kept (t' := s.toks) kp) rv hz q
  · obtain ⟨its, rv, pl, hz⟩ := I.tuple hq
    exact call_tuple_same pl ⟨.ref p, H, I, rfl, q⟩
/-- the type of such a tuple -/
def tyZ (x : V) (H : Hp) : Prop := ∃ p ob xs, x = .ref p ∧ H p = some (.frz ob (.tup xs)) ∧ ob.dict = none
theorem ty_tup : TyOk X "tuple" tyZ := by
  intro pins σ H s x v I rx ⟨p, ob, xs, e, h, hd⟩
  subst e
  cases rx
  obtain ⟨hg, hz, its, rv, o2, hg2, hc, _⟩ := I.hok p _ h
  rw [hg] at hg2
  cases hg2
  exact ⟨⟨ob, hg, hc⟩, fun a e => by cases e; exact ⟨ob, hg, hd⟩⟩
/-- isinstance(x, (c1, c2)) over such a tuple -/
def zIsi2 (K : PySem.W.Frag) : List V → Hp → VK → Prop := fun ws H Q => ∃ (x : V) (tp : Addr) (ob : Obj) (cs : List V) (t : Value) (us : List Value) (b : Bool), ws = [x, .ref tp] ∧ H tp = some (.frz ob (.tup cs)) ∧ Paired ClsV cs us ∧
  TyX K H x t ∧ PySem.W.kitAny K t us = some b ∧ Q (.bl b) H
theorem call_isiZ : CallR X (.builtin "isinstance") (zIsi2 X.K) := by
  intro pins s σ H ws us Q I r ⟨x, tp, ob, cs, t, vs, b, e0, hT, k, ty, e, q⟩
  subst e0
  obtain ⟨u1, u2, rfl, r1, r2⟩ := vals2 r
  cases (show u2 = Value.ref tp from r2)
  obtain ⟨P, Z, p, hx⟩ := kit_of I r1 ty
  obtain ⟨_, _, its, rv, o, h1, h2, n, h3⟩ := I.hok tp _ hT
  have e3 := ClsV.all k rv
  subst e3
  obtain ⟨oc, od, dt, sl⟩ := o
  simp only at h2 h3
  subst h2 h3
  exact PySem.W.kia_tup Z I.kIn p h1 e hx fun tk => ⟨.bl b, H, I.tok tk, rfl, q⟩
end
end Dl
/-! A layer of plain data over HandS: what a value stands for (Dd), a heap of two parts (what is frozen: G; all: H), the box of draws at B, and a calculus of readings by data alone (WE, WT, WA, WS). -/
namespace Dl
open PySem L2
/-- the box's address; the tables of code objects -/
structure Bt where
  a : Addr
  T : List (Addr × Str)
/-- the object of an exception, its class, its dict -/
def xo (a C d : Addr) : HO := .ext fun h => ∃ (oe : Obj) (vs : Array Value), h.get? a = some oe ∧ oe.cls = .ref C ∧ oe.dict = some d ∧ oe.data = .fields vs
inductive D where
  | non | bl (b : Bool) | int (i : Int) | str (z : Str) | tup (xs : List D) | lst (xs : List D) | dic (ks : List Key) (xs : List D) | cls (n : String) | box | exn (C : Addr) (ks : List Str) (xs : List D) | obj (C : Addr) (ks : List Str) (xs : List D) | adr (a : Addr)
mutual
inductive Dd (K : PySem.W.Frag) (B : Bt) (G : Hp) : V → D → Prop
  | non : Dd K B G .non .non
  | bl (b : Bool) : Dd K B G (.bl b) (.bl b)
  | int (i : Int) : Dd K B G (.int i) (.int i)
  | str (z : Str) : Dd K B G (.str z) (.str z)
  | tup {a : Addr} {ob : Obj} {vs : List V} {ds : List D} : G a = some (.frz ob (.tup vs)) ∧ ob.dict = none → Dds K B G vs ds → Dd K B G (.ref a) (.tup ds)
  | lst {a : Addr} {vs : List V} {ds : List D} : G a = some (.lst vs) → Dds K B G vs ds → Dd K B G (.ref a) (.lst ds)
  | dic {a : Addr} {kvs : List (Key × V)} {ds : List D} : G a = some (.dK kvs) → Dds K B G (kvs.map (·.2)) ds → Dd K B G (.ref a) (.dic (kvs.map (·.1)) ds)
  | cls (n : String) : Dd K B G (.ty n) (.cls n)
  | box : Dd K B G (.ref B.a) .box
  | exn {a C d : Addr} {fs : List (Str × V)} {ds : List D} : G a = some (xo a C d) → G d = some (.xd fs) → Dds K B G (fs.map (·.2)) ds → Dd K B G (.ref a) (.exn C (fs.map (·.1)) ds)
  | obj {a C dx : Addr} {fs : List (Str × V)} {ds : List D} : G a = some (.ins C dx fs) → Dds K B G (fs.map (·.2)) ds → Dd K B G (.ref a) (.obj C (fs.map (·.1)) ds)
  | adr (a : Addr) : Dd K B G (.ref a) (.adr a)
inductive Dds (K : PySem.W.Frag) (B : Bt) (G : Hp) : List V → List D → Prop
  | nil : Dds K B G [] []
  | cons {v : V} {vs : List V} {d : D} {ds : List D} : Dd K B G v d → Dds K B G vs ds → Dds K B G (v :: vs) (d :: ds)
end
section
variable {K : PySem.W.Frag} {B : Bt} {G G1 G2 H H1 H2 : Hp}
mutual
theorem Dd.mono (s : Same G G1) : ∀ {v : V} {d : D}, Dd K B G v d → Dd K B G1 v d
  | _, _, .non => .non
  | _, _, .bl b => .bl b
  | _, _, .int i => .int i
  | _, _, .str z => .str z
  | _, _, .tup h t => .tup ⟨s _ _ h.1, h.2⟩ (Dds.mono s t)
  | _, _, .lst h t => .lst (s _ _ h) (Dds.mono s t)
  | _, _, .dic h t => .dic (s _ _ h) (Dds.mono s t)
  | _, _, .cls n => .cls n
  | _, _, .box => .box
  | _, _, .exn h h' t => .exn (s _ _ h) (s _ _ h') (Dds.mono s t)
  | _, _, .obj h t => .obj (s _ _ h) (Dds.mono s t)
  | _, _, .adr a => .adr a
theorem Dds.mono (s : Same G G1) : ∀ {vs : List V} {ds : List D}, Dds K B G vs ds → Dds K B G1 vs ds
  | _, _, .nil => .nil
  | _, _, .cons h t => .cons (Dd.mono s h) (Dds.mono s t)
end
theorem Dds.length : ∀ {vs : List V} {ds : List D}, Dds K B G vs ds → vs.length = ds.length
  | _, _, .nil => rfl
  | _, _, .cons _ t => by rw [List.length_cons, List.length_cons, Dds.length t]
theorem Dds.get : ∀ {vs : List V} {ds : List D} {i : Nat} {d : D}, Dds K B G vs ds → ds[i]? = some d → ∃ v, vs[i]? = some v ∧ Dd K B G v d
  | _, _, _, _, .nil, e => by simp at e
  | _, _, 0, _, .cons h _, e => by simp at e; subst e; exact ⟨_, rfl, h⟩
  | _, _, i + 1, d, .cons _ t, e => by
    obtain ⟨v, h1, h2⟩ := Dds.get (i := i) (d := d) t (by simpa using e)
    exact ⟨v, by simpa using h1, h2⟩
theorem Dds.get' : ∀ {vs : List V} {ds : List D} {i : Nat} {v : V}, Dds K B G vs ds → vs[i]? = some v → ∃ d, ds[i]? = some d ∧ Dd K B G v d
  | _, _, _, _, .nil, e => by simp at e
  | _, _, 0, _, .cons h _, e => by simp at e; subst e; exact ⟨_, rfl, h⟩
  | _, _, i + 1, v, .cons _ t, e => by
    obtain ⟨d, h1, h2⟩ := Dds.get' (i := i) (v := v) t (by simpa using e)
    exact ⟨d, by simpa using h1, h2⟩
theorem Dds.append : ∀ {vs ws : List V} {ds es : List D}, Dds K B G vs ds → Dds K B G ws es → Dds K B G (vs ++ ws) (ds ++ es)
  | _, _, _, _, .nil, q => q
  | _, _, _, _, .cons h t, q => .cons h (Dds.append t q)
theorem Dds.take : ∀ (n : Nat) {vs : List V} {ds : List D}, Dds K B G vs ds → Dds K B G (vs.take n) (ds.take n)
  | 0, _, _, _ => .nil
  | _ + 1, _, _, .nil => .nil
  | n + 1, _, _, .cons h t => .cons h (Dds.take n t)
theorem Dds.drop : ∀ (n : Nat) {vs : List V} {ds : List D}, Dds K B G vs ds → Dds K B G (vs.drop n) (ds.drop n)
  | 0, _, _, t => t
  | _ + 1, _, _, .nil => .nil
  | n + 1, _, _, .cons _ t => Dds.drop n t
theorem Dds.rev {vs : List V} {ds : List D} (h : Dds K B G vs ds) : Dds K B G vs.reverse ds.reverse := by
  induction vs generalizing ds with
  | nil => cases h; exact .nil
  | cons v vs ih =>
    cases h with
    | cons a t => rw [List.reverse_cons, List.reverse_cons]; exact (ih t).append (.cons a .nil)
theorem Dds.ints : ∀ {vs : List V} {ns : List Int}, Dds K B G vs (ns.map D.int) → vs = ns.map V.int
  | _, [], .nil => rfl
  | _, _ :: _, .cons h t => by cases h; rw [Dds.ints t]; rfl
theorem Dds.bls : ∀ {vs : List V} {ns : List Bool}, Dds K B G vs (ns.map D.bl) → vs = ns.map V.bl
  | _, [], .nil => rfl
  | _, _ :: _, .cons h t => by cases h; rw [Dds.bls t]; rfl
theorem Dds.strs : ∀ {vs : List V} {ns : List Str}, Dds K B G vs (ns.map D.str) → vs = ns.map V.str
  | _, [], .nil => rfl
  | _, _ :: _, .cons h t => by cases h; rw [Dds.strs t]; rfl
theorem Dds.repl {vs : List V} {ds : List D} (h : Dds K B G vs ds) : ∀ n : Nat, Dds K B G (List.replicate n vs).flatten (List.replicate n ds).flatten
  | 0 => .nil
  | n + 1 => by
    rw [List.replicate_succ, List.replicate_succ, List.flatten_cons, List.flatten_cons]
    exact h.append (Dds.repl h n)

/-! ### the box, the state -/
def Bx (G H : Hp) (B : Addr) : Prop := ∃ (c : Addr) (cells : List Int) (p r m n : Int), H B = some (.lst [.ref c, .int p, .int r, .int m, .int n]) ∧ G c = some (.lst (cells.map V.int)) ∧ cells.length ≤ 63 ∧ 0 ≤ p ∧ 0 ≤ r ∧ 0 ≤ m ∧ m < 2147483648 ∧ 0 ≤ n
/-- no table -/
def nt (o : HO) : Prop := ∀ ps, o ≠ .tbl ps
theorem nt_lst {xs : List V} : nt (.lst xs) := fun _ z => nomatch z
theorem nt_tup {ob : Obj} {xs : List V} : nt (.frz ob (.tup xs)) := fun _ z => nomatch z
theorem SqT.ofZ {K : PySem.W.Frag} {H : Hp} {a : Addr} {ob : Obj} {xs : List V} (h : H a = some (.frz ob (.tup xs))) : SqT K H a xs := .inl (.inr ⟨_, h⟩)
structure Go (B : Bt) (G H G1 H1 : Hp) : Prop where
  s : Same G G1
  k : ∀ a o, a ≠ B.a → nt o → H a = some o → H1 a = some o
  n : ∀ a o, nt o → H a = some o → G a = none → G1 a = none
  c : ∀ c r, H B.a = some (.lst (.ref c :: r)) → ∃ r', H1 B.a = some (.lst (.ref c :: r'))
structure Ok (B : Bt) (G H : Hp) : Prop where
  u : Same G H
  b : G B.a = none
  x : Bx G H B.a
  t : LamX.Tabs B.T H
  f : ∀ a o, G a = some o → nt o
theorem Ok.hb (o : Ok B G H) : H B.a ≠ none := by
  obtain ⟨_, _, _, _, _, _, e, _⟩ := o.x
  rw [e]; exact fun z => nomatch z
theorem Go.refl : Go B G H G H := ⟨Same.refl G, fun _ _ _ _ h => h, fun _ _ _ _ h => h, fun _ r h => ⟨r, h⟩⟩
theorem Go.trans (o : Ok B G1 H1) (a : Go B G H G1 H1) (b : Go B G1 H1 G2 H2) : Go B G H G2 H2 :=
  ⟨a.s.trans b.s, fun x u ne ht h => b.k x u ne ht (a.k x u ne ht h), fun x u ht h g => by
    by_cases e : x = B.a
    · obtain ⟨_, _, _, _, _, _, e2, _⟩ := o.x
      exact b.n x _ nt_lst (by rw [e]; exact e2) (a.n x u ht h g)
    · exact b.n x u ht (a.k x u e ht h) (a.n x u ht h g), fun c r h => by
    obtain ⟨r', h'⟩ := a.c c r h
    exact b.c c r' h'⟩
theorem Ok.fresh (o : Ok B G H) {p : Addr} (h : H p = none) : G p = none := by
  cases q : G p with
  | none => rfl
  | some u => rw [o.u p u q] at h; cases h
theorem Ok.neB (o : Ok B G H) {p : Addr} (h : H p = none) : p ≠ B.a := fun e => o.hb (e ▸ h)
theorem same_upd {p : Addr} {o : HO} (h : H p = none) : Same H (upd H p o) := fun b x e => by
  rw [upd_ne (ne_of_none e h)]; exact e
theorem upd_some {p a : Addr} {o : HO} (h : H a ≠ none) : upd H p o a ≠ none := by
  by_cases e : a = p
  · rw [e, upd_same]; exact fun z => nomatch z
  · rw [upd_ne e]; exact h
/-- a new object, frozen -/
theorem new_go (o : Ok B G H) {p : Addr} {x : HO} (h : H p = none) : Go B G H (upd G p x) (upd H p x) := by
  refine ⟨same_upd (o.fresh h), fun a u _ _ e => same_upd h a u e, fun a u _ ha hg => ?_, fun c r e => ⟨r, same_upd h _ _ e⟩⟩
  by_cases e : a = p
  · rw [e, h] at ha; cases ha
  · rw [upd_ne e]; exact hg
theorem new_ok (o : Ok B G H) {p : Addr} {x : HO} (hx : nt x) (h : H p = none) : Ok B (upd G p x) (upd H p x) := by
  have nb := o.neB h
  refine ⟨fun a u e => ?_, by rw [upd_ne nb.symm]; exact o.b, ?_, o.t.ext fun b u e => same_upd h b u e, fun a u e => ?_⟩
  · by_cases q : a = p
    · rw [q, upd_same] at e ⊢; exact e
    · rw [upd_ne q] at e ⊢; exact o.u a u e
  · obtain ⟨c, cells, p', r, m, n, e, g, w⟩ := o.x
    exact ⟨c, cells, p', r, m, n, by rw [upd_ne nb.symm]; exact e, same_upd (o.fresh h) _ _ g, w⟩
  · by_cases q : a = p
    · rw [q, upd_same] at e; cases e; exact hx
    · rw [upd_ne q] at e; exact o.f a u e
/-- a new object, not frozen -/
theorem loose_go (o : Ok B G H) {p : Addr} {x : HO} (h : H p = none) : Go B G H G (upd H p x) := ⟨Same.refl G, fun a u _ _ e => same_upd h a u e, fun _ _ _ _ g => g, fun c r e => ⟨r, same_upd h _ _ e⟩⟩
theorem loose_ok (o : Ok B G H) {p : Addr} {x : HO} (h : H p = none) : Ok B G (upd H p x) := by
  have nb := o.neB h
  refine ⟨fun a u e => same_upd h _ _ (o.u a u e), o.b, ?_, o.t.ext fun b u e => same_upd h b u e, o.f⟩
  obtain ⟨c, cells, p', r, m, n, e, g, w⟩ := o.x
  exact ⟨c, cells, p', r, m, n, by rw [upd_ne nb.symm]; exact e, g, w⟩
/-- a list is written: the tables stand -/
theorem tabs_upd {T : List (Addr × Str)} {p : Addr} {ys : List V} {x : HO} (t : LamX.Tabs T H) (hp : H p = some (.lst ys)) : LamX.Tabs T (upd H p x) := fun q hq => by
  obtain ⟨ps, h1, h2, h3⟩ := t q hq
  refine ⟨ps, by rw [upd_ne (fun e => by rw [e, hp] at h1; cases h1)]; exact h1, h2, fun pos cv hc => ?_⟩
  obtain ⟨c, e1, e2⟩ := h3 pos cv hc
  refine ⟨c, e1, ?_⟩
  rw [upd_ne (fun e => by
    rw [e, hp] at e2
    have e3 : HO.lst ys = LamX.CodeO p q.2 := Option.some.inj e2
    unfold LamX.CodeO at e3
    cases e3)]
  exact e2
/-- an object that is not frozen is written -/
theorem write_ok (o : Ok B G H) {p : Addr} {ys : List V} {x : HO} (hp : H p = some (.lst ys)) (g : G p = none) (nb : p ≠ B.a) : Ok B G (upd H p x) := by
  refine ⟨fun a u e => ?_, o.b, ?_, tabs_upd o.t hp, o.f⟩
  · rw [upd_ne (ne_of_none e g)]; exact o.u a u e
  obtain ⟨c, cells, p', r, m, n, e, g', w⟩ := o.x
  exact ⟨c, cells, p', r, m, n, by rw [upd_ne nb.symm]; exact e, g', w⟩
/-- .. is frozen -/
theorem freeze_ok (o : Ok B G H) {p : Addr} {x : HO} (hx : nt x) (nb : p ≠ B.a) (g : G p = none) (h : H p = some x) : Ok B (upd G p x) H := by
  refine ⟨fun a u e => ?_, by rw [upd_ne nb.symm]; exact o.b, ?_, o.t, fun a u e => ?_⟩
  · by_cases q : a = p
    · rw [q, upd_same] at e; rw [q, h]; exact e
    · rw [upd_ne q] at e; exact o.u a u e
  · obtain ⟨c, cells, p', r, m, n, e, g', w⟩ := o.x
    exact ⟨c, cells, p', r, m, n, e, same_upd g _ _ g', w⟩
  · by_cases q : a = p
    · rw [q, upd_same] at e; cases e; exact hx
    · rw [upd_ne q] at e; exact o.f a u e

inductive Sd where
  | no | val (d : D) | own (ds : List D)
structure Stt (K : PySem.W.Frag) (B : Bt) (G0 H0 G H : Hp) (σ : St) (δ : List Sd) : Prop where
  go : Go B G0 H0 G H
  ok : Ok B G H
  len : σ.length = δ.length
  val : ∀ (i : Nat) d, δ[i]? = some (.val d) → ∃ v, σ[i]? = some (some v) ∧ Dd K B G v d
  own : ∀ (i : Nat) ds, δ[i]? = some (.own ds) → ∃ a vs, σ[i]? = some (some (.ref a)) ∧ a ≠ B.a ∧ (∀ o, nt o → H0 a ≠ some o) ∧ G a = none ∧ H a = some (.lst vs) ∧ Dds K B G vs ds
  apart : ∀ (i j : Nat) ds es a, δ[i]? = some (.own ds) → δ[j]? = some (.own es) → σ[i]? = some (some (.ref a)) → σ[j]? = some (some (.ref a)) → i = j
theorem Stt.on {G0 H0 : Hp} {σ : St} {δ : List Sd} (s : Stt K B G0 H0 G H σ δ) (g : Go B G H G1 H1) (o : Ok B G1 H1) : Stt K B G0 H0 G1 H1 σ δ := by
  refine ⟨s.go.trans s.ok g, o, s.len, fun i d e => ?_, fun i ds e => ?_, s.apart⟩
  · obtain ⟨v, h, q⟩ := s.val i d e
    exact ⟨v, h, q.mono g.s⟩
  · obtain ⟨a, vs, h, nb, f, ga, ha, q⟩ := s.own i ds e
    exact ⟨a, vs, h, nb, f, g.n a _ nt_lst ha ga, g.k a _ nb nt_lst ha, q.mono g.s⟩
theorem Stt.setVal {G0 H0 : Hp} {σ : St} {δ : List Sd} {v : V} {d : D} (s : Stt K B G0 H0 G H σ δ) (i : Nat) (q : Dd K B G v d) : Stt K B G0 H0 G H (σ.set i (some v)) (δ.set i (.val d)) := by
  refine ⟨s.go, s.ok, by rw [List.length_set, List.length_set, s.len], fun j e h => ?_, fun j ds h => ?_, fun j l ds es a h1 h2 h3 h4 => ?_⟩
  · rw [List.getElem?_set] at h
    by_cases ij : i = j
    · rw [if_pos ij] at h
      split at h
      · rename_i hl
        cases h
        refine ⟨v, ?_, q⟩
        rw [List.getElem?_set, if_pos ij, if_pos (by rw [s.len]; exact hl)]
      · cases h
    · rw [if_neg ij] at h
      obtain ⟨w, h1, h2⟩ := s.val j e h
      exact ⟨w, by rw [List.getElem?_set, if_neg ij]; exact h1, h2⟩
  · rw [List.getElem?_set] at h
    by_cases ij : i = j
    · rw [if_pos ij] at h
      split at h <;> cases h
    · rw [if_neg ij] at h
      obtain ⟨a, vs, h1, h2⟩ := s.own j ds h
      exact ⟨a, vs, by rw [List.getElem?_set, if_neg ij]; exact h1, h2⟩
  · rw [List.getElem?_set] at h1 h2 h3 h4
    by_cases ij : i = j
    · rw [if_pos ij] at h1; split at h1 <;> cases h1
    · by_cases il : i = l
      · rw [if_pos il] at h2; split at h2 <;> cases h2
      · rw [if_neg ij] at h1 h3
        rw [if_neg il] at h2 h4
        exact s.apart j l ds es a h1 h2 h3 h4
theorem Stt.wipe1 {G0 H0 : Hp} {σ : St} {δ : List Sd} (s : Stt K B G0 H0 G H σ δ) (i : Nat) : Stt K B G0 H0 G H (σ.set i none) (δ.set i .no) := by
  refine ⟨s.go, s.ok, by rw [List.length_set, List.length_set, s.len], fun j e h => ?_, fun j ds h => ?_, fun j l ds es a h1 h2 h3 h4 => ?_⟩
  · rw [List.getElem?_set] at h
    by_cases ij : i = j
    · rw [if_pos ij] at h; split at h <;> cases h
    · rw [if_neg ij] at h
      obtain ⟨w, h1, h2⟩ := s.val j e h
      exact ⟨w, by rw [List.getElem?_set, if_neg ij]; exact h1, h2⟩
  · rw [List.getElem?_set] at h
    by_cases ij : i = j
    · rw [if_pos ij] at h; split at h <;> cases h
    · rw [if_neg ij] at h
      obtain ⟨a, vs, h1, h2⟩ := s.own j ds h
      exact ⟨a, vs, by rw [List.getElem?_set, if_neg ij]; exact h1, h2⟩
  · rw [List.getElem?_set] at h1 h2 h3 h4
    by_cases ij : i = j
    · rw [if_pos ij] at h1; split at h1 <;> cases h1
    · by_cases il : i = l
      · rw [if_pos il] at h2; split at h2 <;> cases h2
      · rw [if_neg ij] at h1 h3
        rw [if_neg il] at h2 h4
        exact s.apart j l ds es a h1 h2 h3 h4
end

/-! ### the judgements -/
/-- what is wished of an exception: how it goes on, and what is due of it, by the slots, its class, its fields -/
structure Xc where
  W : WX := fun _ _ _ _ => False
  ex : List Sd → Addr → List Str → List D → Prop := fun _ _ _ _ => False
section
variable (K : PySem.W.Frag) (B : Bt)
/-- at d: an exception's dict with such fields -/
def Xd (G : Hp) (d : Addr) (ks : List Str) (ds : List D) : Prop := ∃ fs : List (Str × V), G d = some (.xd fs) ∧ fs.map (·.1) = ks ∧ Dds K B G (fs.map (·.2)) ds
def CtX (X : Xc) (σ : St) (δ : List Sd) (G H : Hp) : Prop := ∀ C d ks ds G1 H1, Go B G H G1 H1 → Ok B G1 H1 → Xd K B G1 d ks ds → X.ex δ C ks ds → X.W (.ref C) (some d) σ H1
def Ct (G H : Hp) (P : D → Prop) (Q : VK) : Prop := ∀ v d G1 H1, Go B G H G1 H1 → Ok B G1 H1 → Dd K B G1 v d → P d → Q v H1
def WEx (X : Xc) (te : TE) (δ : List Sd) (P : D → Prop)  : Prop := ∀ G0 H0 σ G H Q, Stt K B G0 H0 G H σ δ → CtX K B X σ δ G H → Ct K B G H P Q → te σ H Q
def WTx (X : Xc) (tt : TT) (δ : List Sd) (P : Bool → Prop)  : Prop := ∀ G0 H0 σ G H (Q : Bool → Hp → Prop), Stt K B G0 H0 G H σ δ → CtX K B X σ δ G H → (∀ b G1 H1, Go B G H G1 H1 → Ok B G1 H1 → P b → Q b H1) → tt σ H Q
def WAx (X : Xc) (ta : TA) (δ : List Sd) (P : List D → Prop)  : Prop := ∀ G0 H0 σ G H (Q : List V → Hp → Prop), Stt K B G0 H0 G H σ δ → CtX K B X σ δ G H → (∀ vs ds G1 H1, Go B G H G1 H1 → Ok B G1 H1 → Dds K B G1 vs ds → P ds → Q vs H1) → ta σ H Q
def WOx (X : Xc) (to : TO) (δ : List Sd) (P : Option Int → Prop)  : Prop := ∀ G0 H0 σ G H (Q : Option Int → Hp → Prop), Stt K B G0 H0 G H σ δ → CtX K B X σ δ G H → (∀ b G1 H1, Go B G H G1 H1 → Ok B G1 H1 → P b → Q b H1) → to σ H Q
abbrev WE (te : TE) (δ : List Sd) (P : D → Prop) : Prop := WEx K B {} te δ P
abbrev WT (tt : TT) (δ : List Sd) (P : Bool → Prop) : Prop := WTx K B {} tt δ P
abbrev WA (ta : TA) (δ : List Sd) (P : List D → Prop) : Prop := WAx K B {} ta δ P
abbrev WO (to : TO) (δ : List Sd) (P : Option Int → Prop) : Prop := WOx K B {} to δ P
/-- operations on values -/
def RO (r : R2) (a b : D) (P : D → Prop) : Prop := ∀ G H x y Q, Ok B G H → Dd K B G x a → Dd K B G y b → Ct K B G H P Q → r x y H Q
def R1 (r : V → Hp → VK → Prop) (a : D) (P : D → Prop) : Prop := ∀ G H x Q, Ok B G H → Dd K B G x a → Ct K B G H P Q → r x H Q
def RC (r : List V → Hp → VK → Prop) (ds : List D) (P : D → Prop) : Prop := ∀ G H vs Q, Ok B G H → Dds K B G vs ds → Ct K B G H P Q → r vs H Q
def RM (r : V → List V → Hp → VK → Prop) (a : D) (ds : List D) (P : D → Prop) : Prop := ∀ G H x vs Q, Ok B G H → Dd K B G x a → Dds K B G vs ds → Ct K B G H P Q → r x vs H Q
def RS (r : V → Option Int → Option Int → Hp → VK → Prop) (a : D) (lo hi : Option Int) (P : D → Prop) : Prop := ∀ G H x Q, Ok B G H → Dd K B G x a → Ct K B G H P Q → r x lo hi H Q
/-- a statement: what follows (by the slots), what is handed back, what is raised -/
structure Out where
  nx : List Sd → Prop
  rt : D → Prop
  bk : List Sd → Prop := fun _ => False
  ct : List Sd → Prop := fun _ => False
  x : Xc := {}
  ro : List D → Prop := fun _ => False
/-- what is handed back: a frozen value, or a list of the def's own -/
def RT (O : Out) (G0 H0 : Hp) (r : VK) : Prop := (∀ v d G1 H1, Go B G0 H0 G1 H1 → Ok B G1 H1 → Dd K B G1 v d → O.rt d → r v H1) ∧
  ∀ a vs ds G1 H1, Go B G0 H0 G1 H1 → Ok B G1 H1 → a ≠ B.a → (∀ o, nt o → H0 a ≠ some o) → G1 a = none → H1 a = some (.lst vs) → Dds K B G1 vs ds → O.ro ds → r (.ref a) H1
def XS (X : Xc) (G0 H0 G : Hp) : Prop := ∀ σ1 δ1 G1 H1, Same G G1 → Stt K B G0 H0 G1 H1 σ1 δ1 → ∀ C d ks ds, Xd K B G1 d ks ds → X.ex δ1 C ks ds → X.W (.ref C) (some d) σ1 H1
def WS (ts : TS) (δ : List Sd) (O : Out) : Prop := ∀ G0 H0 σ G H (E : Ends), Stt K B G0 H0 G H σ δ → XS K B O.x G0 H0 G →
  (∀ σ1 δ1 G1 H1, Same G G1 → Stt K B G0 H0 G1 H1 σ1 δ1 → O.nx δ1 → E.nx σ1 H1) → RT K B O G0 H0 E.rt →
  (∀ σ1 δ1 G1 H1, Same G G1 → Stt K B G0 H0 G1 H1 σ1 δ1 → O.bk δ1 → E.bk σ1 H1) → (∀ σ1 δ1 G1 H1, Same G G1 → Stt K B G0 H0 G1 H1 σ1 δ1 → O.ct δ1 → E.ct σ1 H1) → ts E σ H
/-- a def's promise by data -/
def SpD (pre : List D → Prop) (post : List D → D → Prop) : Sp := fun vs H Q _ => ∃ B G ds, Ok B G H ∧ Dds K B G vs ds ∧ pre ds ∧ Ct K B G H (post ds) Q
/-- .. of a def that hands back a new list -/
def SpN (pre : List D → Prop) (post : List D → List D → Prop) : Sp := fun vs H Q _ => ∃ B G ds, Ok B G H ∧ Dds K B G vs ds ∧ pre ds ∧ ∀ a ws es G1 H1, Go B G H G1 H1 → Ok B G1 H1 → a ≠ B.a → (∀ o, nt o → H a ≠ some o) → G1 a = none → H1 a = some (.lst ws) → Dds K B G1 ws es → post ds es → Q (.ref a) H1
/-- .. of a def that may raise -/
def SpX (pre : List D → Prop) (post : List D → D → Prop) (exc : List D → Addr → List Str → List D → Prop) : Sp := fun vs H Q E => ∃ B G ds, Ok B G H ∧ Dds K B G vs ds ∧ pre ds ∧ Ct K B G H (post ds) Q ∧ ∀ C d ks es G1 H1, Go B G H G1 H1 → Ok B G1 H1 → Xd K B G1 d ks es → exc ds C ks es → E (.ref C) (some d) H1
end
section
variable {K : PySem.W.Frag} {B : Bt} {δ : List Sd} {X : Xc} {G G1 H H1 G0 H0 : Hp} {σ : St}
theorem CtX.on (q : CtX K B X σ δ G H) (g : Go B G H G1 H1) (o : Ok B G1 H1) : CtX K B X σ δ G1 H1 := fun C d ks ds G2 H2 g2 o2 hd p => q C d ks ds G2 H2 (g.trans o g2) o2 hd p
theorem ctx0 : CtX K B {} σ δ G H := fun _ _ _ _ _ _ _ _ _ z => z.elim
theorem XS.ct (q : XS K B X G0 H0 G) (s : Stt K B G0 H0 G H σ δ) : CtX K B X σ δ G H := fun C d ks ds G1 H1 g o hd p => q σ δ G1 H1 g.s (s.on g o) C d ks ds hd p
theorem XS.on (q : XS K B X G0 H0 G) (m : Same G G1) : XS K B X G0 H0 G1 := fun σ1 δ1 G2 H2 m2 => q σ1 δ1 G2 H2 (m.trans m2)
theorem xs0 : XS K B {} G0 H0 G := fun _ _ _ _ _ _ _ _ _ _ _ z => z.elim
end

section
variable {K : PySem.W.Frag} {B : Bt} {δ : List Sd} {P P' : D → Prop} {ta tb te : TE} {tt tu : TT} {X : Xc}
theorem Ct.nil {G H : Hp} {Q : VK} {v : V} {d : D} (o : Ok B G H) (q : Ct K B G H P Q) (h : Dd K B G v d) (p : P d) : Q v H := q v d G H Go.refl o h p
theorem Ct.on {G H G1 H1 : Hp} {Q : VK} (q : Ct K B G H P Q) (g : Go B G H G1 H1) (o : Ok B G1 H1) : Ct K B G1 H1 P Q := fun v d G2 H2 g2 o2 h p => q v d G2 H2 (g.trans o g2) o2 h p
theorem Ct.new {G H : Hp} {Q : VK} {d : D} {x : HO} {p : Addr} (o : Ok B G H) (q : Ct K B G H P Q) (hx : nt x) (h : H p = none) (hd : Dd K B (upd G p x) (.ref p) d) (hp : P d) : Q (.ref p) (upd H p x) := q _ d _ _ (new_go o h) (new_ok o hx h) hd hp
theorem WEx.mono (h : WEx K B X te δ P) (m : ∀ d, P d → P' d) : WEx K B X te δ P' := fun G0 H0 σ G H Q s xx q => h G0 H0 σ G H Q s xx fun v d G1 H1 g o hd p => q v d G1 H1 g o hd (m d p)
theorem WTx.mono {P P' : Bool → Prop} (h : WTx K B X tt δ P) (m : ∀ d, P d → P' d) : WTx K B X tt δ P' := fun G0 H0 σ G H Q s xx q => h G0 H0 σ G H Q s xx fun v G1 H1 g o p => q v G1 H1 g o (m v p)
theorem we_var {i : Nat} {d : D} (h : δ[i]? = some (.val d)) (p : P d) : WEx K B X (tVar i) δ P := fun _ _ _ _ _ _ s _ q => by
  obtain ⟨v, h1, h2⟩ := s.val i d h
  exact ⟨v, h1, q.nil s.ok h2 p⟩
theorem we_int {i : Int} (p : P (.int i)) : WEx K B X (tC (.int i)) δ P := fun _ _ _ _ _ _ s _ q => q.nil s.ok (.int i) p
theorem we_str {z : Str} (p : P (.str z)) : WEx K B X (tC (.str z)) δ P := fun _ _ _ _ _ _ s _ q => q.nil s.ok (.str z) p
theorem we_bl {b : Bool} (p : P (.bl b)) : WEx K B X (tC (.bl b)) δ P := fun _ _ _ _ _ _ s _ q => q.nil s.ok (.bl b) p
theorem we_non (p : P .non) : WEx K B X (tC .non) δ P := fun _ _ _ _ _ _ s _ q => q.nil s.ok .non p
theorem we_op {r : R2} (h : WEx K B X ta δ fun a => WEx K B X tb δ fun b => RO K B r a b P) : WEx K B X (tOp r ta tb) δ P := fun G0 H0 σ G H Q s xx q =>
  h G0 H0 σ G H _ s xx fun x a G1 H1 g1 o1 hx wb => wb G0 H0 σ G1 H1 _ (s.on g1 o1) (xx.on g1 o1) fun y b G2 H2 g2 o2 hy rr => rr G2 H2 x y Q o2 (hx.mono g2.s) hy ((q.on g1 o1).on g2 o2)
theorem we_un {r : V → Hp → VK → Prop} (h : WEx K B X ta δ fun a => R1 K B r a P) : WEx K B X (tUn r ta) δ P := fun G0 H0 σ G H Q s xx q =>
  h G0 H0 σ G H _ s xx fun x a G1 H1 g1 o1 hx rr => rr G1 H1 x Q o1 hx (q.on g1 o1)
theorem we_andV (h : WEx K B X ta δ fun a => ∃ c, a = .bl c ∧ if c = true then WEx K B X tb δ P else P (.bl false)) : WEx K B X (tAndV ta tb) δ P := fun G0 H0 σ G H Q s xx q =>
  h G0 H0 σ G H _ s xx fun x a G1 H1 g1 o1 hx ⟨c, e, w⟩ => by
    subst e
    cases hx
    refine ⟨c, rfl, ?_⟩
    cases c with
    | true => exact w G0 H0 σ G1 H1 Q (s.on g1 o1) (xx.on g1 o1) (q.on g1 o1)
    | false => exact (q.on g1 o1).nil o1 (.bl false) w
theorem we_orV (h : WEx K B X ta δ fun a => ∃ c, a = .bl c ∧ if c = true then P (.bl true) else WEx K B X tb δ P) : WEx K B X (tOrV ta tb) δ P := fun G0 H0 σ G H Q s xx q =>
  h G0 H0 σ G H _ s xx fun x a G1 H1 g1 o1 hx ⟨c, e, w⟩ => by
    subst e
    cases hx
    refine ⟨c, rfl, ?_⟩
    cases c with
    | true => exact (q.on g1 o1).nil o1 (.bl true) w
    | false => exact w G0 H0 σ G1 H1 Q (s.on g1 o1) (xx.on g1 o1) (q.on g1 o1)
theorem we_notV (h : WEx K B X ta δ fun a => ∃ c, a = .bl c ∧ P (.bl (!c))) : WEx K B X (tNotV ta) δ P := fun G0 H0 σ G H Q s xx q =>
  h G0 H0 σ G H _ s xx fun x a G1 H1 g1 o1 hx ⟨c, e, w⟩ => by
    subst e
    cases hx
    exact ⟨c, rfl, (q.on g1 o1).nil o1 (.bl _) w⟩
theorem we_if (h : WTx K B X tt δ fun c => if c = true then WEx K B X ta δ P else WEx K B X tb δ P) : WEx K B X (tIf tt ta tb) δ P := fun G0 H0 σ G H Q s xx q =>
  h G0 H0 σ G H _ s xx fun c G1 H1 g1 o1 w => by
    cases c with
    | true => exact w G0 H0 σ G1 H1 Q (s.on g1 o1) (xx.on g1 o1) (q.on g1 o1)
    | false => exact w G0 H0 σ G1 H1 Q (s.on g1 o1) (xx.on g1 o1) (q.on g1 o1)
theorem wt_test {P : Bool → Prop} (h : WEx K B X te δ fun a => ∃ c, a = .bl c ∧ P c) : WTx K B X (tTest te) δ P := fun G0 H0 σ G H Q s xx q =>
  h G0 H0 σ G H _ s xx fun x a G1 H1 g1 o1 hx ⟨c, e, w⟩ => by
    subst e
    cases hx
    exact ⟨c, rfl, q c G1 H1 g1 o1 w⟩
theorem wt_B {P : Bool → Prop} (h : WEx K B X te δ fun a => ∃ c, a = .bl c ∧ P c) : WTx K B X (tB te) δ P := fun G0 H0 σ G H Q s xx q =>
  h G0 H0 σ G H _ s xx fun x a G1 H1 g1 o1 hx ⟨c, e, w⟩ => by
    subst e
    cases hx
    exact ⟨c, rfl, q c G1 H1 g1 o1 w⟩
theorem wt_and {P : Bool → Prop} (h : WTx K B X tt δ fun c => if c = true then WTx K B X tu δ P else P false) : WTx K B X (tAnd tt tu) δ P := fun G0 H0 σ G H Q s xx q =>
  h G0 H0 σ G H _ s xx fun c G1 H1 g1 o1 w => by
    cases c with
    | true => exact w G0 H0 σ G1 H1 Q (s.on g1 o1) (xx.on g1 o1) fun b G2 H2 g2 o2 p => q b G2 H2 (g1.trans o1 g2) o2 p
    | false => exact q false G1 H1 g1 o1 w
theorem wt_or {P : Bool → Prop} (h : WTx K B X tt δ fun c => if c = true then P true else WTx K B X tu δ P) : WTx K B X (tOr tt tu) δ P := fun G0 H0 σ G H Q s xx q =>
  h G0 H0 σ G H _ s xx fun c G1 H1 g1 o1 w => by
    cases c with
    | true => exact q true G1 H1 g1 o1 w
    | false => exact w G0 H0 σ G1 H1 Q (s.on g1 o1) (xx.on g1 o1) fun b G2 H2 g2 o2 p => q b G2 H2 (g1.trans o1 g2) o2 p
theorem wt_not {P : Bool → Prop} (h : WTx K B X tt δ fun c => P (!c)) : WTx K B X (tNot tt) δ P := fun G0 H0 σ G H Q s xx q =>
  h G0 H0 σ G H _ s xx fun c G1 H1 g1 o1 w => q (!c) G1 H1 g1 o1 w
theorem wt_yes {P : Bool → Prop} (h : P true) : WTx K B X tYes δ P := fun _ _ _ G H _ s _ q => q true G H Go.refl s.ok h
theorem we_chain {tc : TE} {r r' : R2} (h : WEx K B X ta δ fun a => WEx K B X tb δ fun b => RO K B r a b fun z => ∃ k, z = .bl k ∧ if k = true then WEx K B X tc δ (fun c => RO K B r' b c P) else P (.bl false)) : WEx K B X (tChain r r' ta tb tc) δ P := fun G0 H0 σ G H Q s xx q =>
  h G0 H0 σ G H _ s xx fun x a G1 H1 g1 o1 hx wb => wb G0 H0 σ G1 H1 _ (s.on g1 o1) (xx.on g1 o1) fun y b G2 H2 g2 o2 hy rr => rr G2 H2 x y _ o2 (hx.mono g2.s) hy fun z d G3 H3 g3 o3 hz ⟨k, e, w⟩ => by
    subst e
    cases hz
    refine ⟨k, rfl, ?_⟩
    have q3 := ((q.on g1 o1).on g2 o2).on g3 o3
    cases k with
    | true => exact w G0 H0 σ G3 H3 _ (((s.on g1 o1).on g2 o2).on g3 o3) (((xx.on g1 o1).on g2 o2).on g3 o3) fun c' e' G4 H4 g4 o4 hc rr' => rr' G4 H4 y c' Q o4 ((hy.mono g3.s).mono g4.s) hc (q3.on g4 o4)
    | false => exact q3.nil o3 (.bl false) w
theorem wa_nil {P : List D → Prop} (p : P []) : WAx K B X tNil δ P := fun _ _ _ G H _ s _ q => q [] [] G H Go.refl s.ok .nil p
theorem wa_cons {tr : TA} {P : List D → Prop} (h : WEx K B X ta δ fun a => WAx K B X tr δ fun ds => P (a :: ds)) : WAx K B X (tCons ta tr) δ P := fun G0 H0 σ G H Q s xx q =>
  h G0 H0 σ G H _ s xx fun x a G1 H1 g1 o1 hx w => w G0 H0 σ G1 H1 _ (s.on g1 o1) (xx.on g1 o1) fun vs ds G2 H2 g2 o2 hs p => q (x :: vs) (a :: ds) G2 H2 (g1.trans o1 g2) o2 (.cons (hx.mono g2.s) hs) p
theorem we_tup {t : TA} (h : WAx K B X t δ fun ds => ds.length ≤ 1000 ∧ P (.tup ds)) : WEx K B X (zTup t) δ P := fun G0 H0 σ G H Q s xx q =>
  h G0 H0 σ G H _ s xx fun vs ds G1 H1 g1 o1 hs ⟨l, p⟩ => ⟨by rw [hs.length]; exact Nat.le_trans l (by decide), fun a ob ha hd => (q.on g1 o1).new o1 nt_tup ha (.tup ⟨upd_same, hd⟩ (hs.mono (same_upd (o1.fresh ha)))) p⟩
theorem we_lst {t : TA} (h : WAx K B X t δ fun ds => ds.length ≤ 1000 ∧ P (.lst ds)) : WEx K B X (tLst t) δ P := fun G0 H0 σ G H Q s xx q =>
  h G0 H0 σ G H _ s xx fun vs ds G1 H1 g1 o1 hs ⟨l, p⟩ => ⟨by rw [hs.length]; exact Nat.le_trans l (by decide), fun a ha => (q.on g1 o1).new o1 nt_lst ha (.lst upd_same (hs.mono (same_upd (o1.fresh ha)))) p⟩
theorem we_cb {r : List V → Hp → VK → Prop} {t : TA} (h : WAx K B X t δ fun ds => RC K B r ds P) : WEx K B X (tCB r t) δ P := fun G0 H0 σ G H Q s xx q =>
  h G0 H0 σ G H _ s xx fun vs ds G1 H1 g1 o1 hs rr => rr G1 H1 vs Q o1 hs (q.on g1 o1)
theorem we_call {pre : List D → Prop} {post : List D → D → Prop} {E : XK} {t : TA} (h : WAx K B X t δ fun ds => pre ds ∧ ∀ d, post ds d → P d) : WEx K B X (tCall (SpD K pre post) [] E t) δ P := fun G0 H0 σ G H Q s xx q =>
  h G0 H0 σ G H _ s xx fun vs ds G1 H1 g1 o1 hs ⟨p, m⟩ => by
    rw [List.append_nil]
    exact ⟨B, G1, ds, o1, hs, p, fun v d G2 H2 g2 o2 hd pd => (q.on g1 o1) v d G2 H2 g2 o2 hd (m d pd)⟩
theorem we_bm {T : String} {r : V → List V → Hp → VK → Prop} {to : TE} {t : TA} (hT : ∀ G H x z, Ok B G H → Dd K B G x (.str z) → tyV K T x H) (h : WEx K B X to δ fun a => (∃ z, a = .str z) ∧ WAx K B X t δ fun ds => RM K B r a ds P) : WEx K B X (tBM K T r to t) δ P := fun G0 H0 σ G H Q s xx q =>
  h G0 H0 σ G H _ s xx fun x a G1 H1 g1 o1 hx ⟨⟨z, e⟩, w⟩ => by
    subst e
    exact ⟨hT G1 H1 x z o1 hx, w G0 H0 σ G1 H1 _ (s.on g1 o1) (xx.on g1 o1) fun vs ds G2 H2 g2 o2 hs rr => rr G2 H2 x vs Q o2 (hx.mono g2.s) hs ((q.on g1 o1).on g2 o2)⟩
theorem we_bm0 {T : String} {r : V → List V → Hp → VK → Prop} {to : TE} (hT : ∀ G H x z, Ok B G H → Dd K B G x (.str z) → tyV K T x H) (h : WEx K B X to δ fun a => (∃ z, a = .str z) ∧ RM K B r a [] P) : WEx K B X (tBM0 K T r to) δ P := fun G0 H0 σ G H Q s xx q =>
  h G0 H0 σ G H _ s xx fun x a G1 H1 g1 o1 hx ⟨⟨z, e⟩, w⟩ => by
    subst e
    exact ⟨hT G1 H1 x z o1 hx, w G1 H1 x [] Q o1 hx .nil (q.on g1 o1)⟩
theorem wo_none {P : Option Int → Prop} (p : P none) : WOx K B X tNoPart δ P := fun _ _ _ G H _ s _ q => q none G H Go.refl s.ok p
theorem wo_some {P : Option Int → Prop} (h : WEx K B X te δ fun a => ∃ i, a = .int i ∧ P (some i)) : WOx K B X (tPart te) δ P := fun G0 H0 σ G H Q s xx q =>
  h G0 H0 σ G H _ s xx fun x a G1 H1 g1 o1 hx ⟨i, e, p⟩ => by
    subst e
    cases hx
    exact ⟨i, rfl, q (some i) G1 H1 g1 o1 p⟩
theorem we_sl {r : V → Option Int → Option Int → Hp → VK → Prop} {tl th : TO} (h : WEx K B X te δ fun a => WOx K B X tl δ fun lo => WOx K B X th δ fun hi => RS K B r a lo hi P) : WEx K B X (tSl r te tl th) δ P := fun G0 H0 σ G H Q s xx q =>
  h G0 H0 σ G H _ s xx fun x a G1 H1 g1 o1 hx w => w G0 H0 σ G1 H1 _ (s.on g1 o1) (xx.on g1 o1) fun lo G2 H2 g2 o2 w2 => w2 G0 H0 σ G2 H2 _ ((s.on g1 o1).on g2 o2) ((xx.on g1 o1).on g2 o2) fun hi G3 H3 g3 o3 rr =>
    rr G3 H3 x Q o3 ((hx.mono g2.s).mono g3.s) (((q.on g1 o1).on g2 o2).on g3 o3)

/-! ### statements -/
variable {O : Out} {t u : TS}
theorem ws_seq (h : WS K B t δ { O with nx := fun δ1 => WS K B u δ1 O }) : WS K B (tSeq t u) δ O := fun G0 H0 σ G H E s xx n r b c =>
  h G0 H0 σ G H { E with nx := u E } s xx (fun σ1 δ1 G1 H1 m s1 w => w G0 H0 σ1 G1 H1 E s1 (xx.on m) (fun σ2 δ2 G2 H2 m2 => n σ2 δ2 G2 H2 (m.trans m2)) r (fun σ2 δ2 G2 H2 m2 => b σ2 δ2 G2 H2 (m.trans m2)) (fun σ2 δ2 G2 H2 m2 => c σ2 δ2 G2 H2 (m.trans m2))) r b c
theorem ws_next (h : O.nx δ) : WS K B tNext δ O := fun _ _ σ G H _ s _ n _ _ _ => n σ δ G H (Same.refl _) s h
theorem ws_break (h : O.bk δ) : WS K B tBreak δ O := fun _ _ σ G H _ s _ _ _ b _ => b σ δ G H (Same.refl _) s h
theorem ws_cont (h : O.ct δ) : WS K B tCont δ O := fun _ _ σ G H _ s _ _ _ _ c => c σ δ G H (Same.refl _) s h
theorem ws_ret (h : WEx K B O.x te δ O.rt) : WS K B (tRet te) δ O := fun G0 H0 σ G H E s xx _ r _ _ => h G0 H0 σ G H _ s (xx.ct s) fun v d G1 H1 g o hd p => r.1 v d G1 H1 (s.go.trans s.ok g) o hd p
theorem ws_retN (h : O.rt .non) : WS K B tRetN δ O := fun _ _ _ G H _ s _ _ r _ _ => r.1 .non .non G H s.go s.ok .non h
theorem ws_if (h : WTx K B O.x tt δ fun c => if c = true then WS K B t δ O else WS K B u δ O) : WS K B (tIfS tt t u) δ O := fun G0 H0 σ G H E s xx n r b c =>
  h G0 H0 σ G H _ s (xx.ct s) fun k G1 H1 g1 o1 w => by
    cases k with
    | true => exact w G0 H0 σ G1 H1 E (s.on g1 o1) (xx.on g1.s) (fun σ2 δ2 G2 H2 m2 => n σ2 δ2 G2 H2 (g1.s.trans m2)) r (fun σ2 δ2 G2 H2 m2 => b σ2 δ2 G2 H2 (g1.s.trans m2)) (fun σ2 δ2 G2 H2 m2 => c σ2 δ2 G2 H2 (g1.s.trans m2))
    | false => exact w G0 H0 σ G1 H1 E (s.on g1 o1) (xx.on g1.s) (fun σ2 δ2 G2 H2 m2 => n σ2 δ2 G2 H2 (g1.s.trans m2)) r (fun σ2 δ2 G2 H2 m2 => b σ2 δ2 G2 H2 (g1.s.trans m2)) (fun σ2 δ2 G2 H2 m2 => c σ2 δ2 G2 H2 (g1.s.trans m2))
theorem ws_set {i : Nat} (h : WEx K B O.x te δ fun d => O.nx (δ.set i (.val d))) : WS K B (tAsg te (gName i)) δ O := fun G0 H0 σ G H E s xx n _ _ _ =>
  h G0 H0 σ G H _ s (xx.ct s) fun v d G1 H1 g o hd p => n _ _ G1 H1 g.s ((s.on g o).setVal i hd) p
theorem ws_drop (h : WEx K B O.x te δ fun _ => O.nx δ) : WS K B (tDrop te) δ O := fun G0 H0 σ G H E s xx n _ _ _ =>
  h G0 H0 σ G H _ s (xx.ct s) fun v d G1 H1 g o hd p => n _ _ G1 H1 g.s (s.on g o) p
theorem ws_par {i j : Nat} {ta : TA} (h : WAx K B O.x ta δ fun ds => ∃ a b, ds = [a, b] ∧ O.nx ((δ.set i (.val a)).set j (.val b))) : WS K B (tPar i j ta) δ O := fun G0 H0 σ G H E s xx n _ _ _ =>
  h G0 H0 σ G H _ s (xx.ct s) fun vs ds G1 H1 g o hs ⟨a, b, e, p⟩ => by
    subst e
    cases hs with
    | cons h1 t1 =>
      cases t1 with
      | cons h2 t2 =>
        cases t2
        exact ⟨_, _, rfl, n _ _ G1 H1 g.s (((s.on g o).setVal i h1).setVal j h2) p⟩
end
end Dl
namespace Dl
open PySem L2
section
variable {K : PySem.W.Frag} {B : Bt} {δ : List Sd} {P P' : D → Prop} {ta tb te : TE} {tt tu : TT} {O : Out} {X : Xc}
theorem we_cls {n : String} (p : P (.cls n)) : WEx K B X (tC (.ty n)) δ P := fun _ _ _ _ _ _ s _ q => q.nil s.ok (.cls n) p
/-! ### operations on values -/
theorem ro_int0 {f : Int → Int → Int} {i j : Int} (p : P (.int (f i j))) : RO K B (rI0 fun i j => .int (f i j)) (.int i) (.int j) P := fun _ _ _ _ _ o hx hy q => by
  cases hx; cases hy
  exact ⟨i, j, rfl, rfl, q.nil o (.int _) p⟩
theorem ro_bl0 {f : Int → Int → Bool} {i j : Int} (p : P (.bl (f i j))) : RO K B (rI0 fun i j => .bl (f i j)) (.int i) (.int j) P := fun _ _ _ _ _ o hx hy q => by
  cases hx; cases hy
  exact ⟨i, j, rfl, rfl, q.nil o (.bl _) p⟩
theorem ro_int {C : Int → Int → Prop} {f : Int → Int → Int} {i j : Int} (c : C i j) (p : P (.int (f i j))) : RO K B (rI C fun i j => .int (f i j)) (.int i) (.int j) P := fun _ _ _ _ _ o hx hy q => by
  cases hx; cases hy
  exact ⟨i, j, rfl, rfl, c, q.nil o (.int _) p⟩
theorem r1_int {f : Int → Int} {i : Int} (p : P (.int (f i))) : R1 K B (rU fun i => .int (f i)) (.int i) P := fun _ _ _ _ o hx q => by
  cases hx
  exact ⟨i, rfl, q.nil o (.int _) p⟩
/-- the flat ones as values -/
def D.v : D → V
  | .non => .non | .bl b => .bl b | .int i => .int i | .str z => .str z | .cls n => .ty n | _ => .ref 0
def D.flat : D → Bool
  | .non => true | .bl _ => true | .int _ => true | .str _ => true | _ => false
theorem Dd.flat {G : Hp} {v : V} {d : D} (h : Dd K B G v d) (f : d.flat = true) : v = d.v := by
  cases h <;> first | rfl | cases f
theorem ro_eq {a b : D} (fa : a.flat = true) (fb : b.flat = true) (s : scal a.v b.v = true) (p : P (.bl (decide (a.v = b.v)))) : RO K B rEq a b P := fun _ _ _ _ _ o hx hy q => by
  rw [hx.flat fa, hy.flat fb]
  exact ⟨s, q.nil o (.bl _) p⟩
theorem ro_ne {a b : D} (fa : a.flat = true) (fb : b.flat = true) (s : scal a.v b.v = true) (p : P (.bl (!decide (a.v = b.v)))) : RO K B rNe a b P := fun _ _ _ _ _ o hx hy q => by
  rw [hx.flat fa, hy.flat fb]
  exact ⟨s, q.nil o (.bl _) p⟩
theorem ro_eqI {i j : Int} (p : P (.bl (decide (i = j)))) : RO K B rEq (.int i) (.int j) P := ro_eq rfl rfl rfl (by
  have e : decide (D.v (.int i) = D.v (.int j)) = decide (i = j) := by
    apply decide_eq_decide.mpr
    exact ⟨fun h => V.int.inj h, fun h => by rw [h]⟩
  rw [e]; exact p)
theorem ro_neI {i j : Int} (p : P (.bl (!decide (i = j)))) : RO K B rNe (.int i) (.int j) P := ro_ne rfl rfl rfl (by
  have e : decide (D.v (.int i) = D.v (.int j)) = decide (i = j) := by
    apply decide_eq_decide.mpr
    exact ⟨fun h => V.int.inj h, fun h => by rw [h]⟩
  rw [e]; exact p)
theorem ro_eqB {i j : Bool} (p : P (.bl (decide (i = j)))) : RO K B rEq (.bl i) (.bl j) P := ro_eq rfl rfl rfl (by
  have e : decide (D.v (.bl i) = D.v (.bl j)) = decide (i = j) := by
    apply decide_eq_decide.mpr
    exact ⟨fun h => V.bl.inj h, fun h => by rw [h]⟩
  rw [e]; exact p)
theorem ro_neB {i j : Bool} (p : P (.bl (!decide (i = j)))) : RO K B rNe (.bl i) (.bl j) P := ro_ne rfl rfl rfl (by
  have e : decide (D.v (.bl i) = D.v (.bl j)) = decide (i = j) := by
    apply decide_eq_decide.mpr
    exact ⟨fun h => V.bl.inj h, fun h => by rw [h]⟩
  rw [e]; exact p)
theorem ro_eqS {i j : Str} (p : P (.bl (decide (i = j)))) : RO K B rEq (.str i) (.str j) P := ro_eq rfl rfl rfl (by
  have e : decide (D.v (.str i) = D.v (.str j)) = decide (i = j) := by
    apply decide_eq_decide.mpr
    exact ⟨fun h => V.str.inj h, fun h => by rw [h]⟩
  rw [e]; exact p)
theorem ro_neS {i j : Str} (p : P (.bl (!decide (i = j)))) : RO K B rNe (.str i) (.str j) P := ro_ne rfl rfl rfl (by
  have e : decide (D.v (.str i) = D.v (.str j)) = decide (i = j) := by
    apply decide_eq_decide.mpr
    exact ⟨fun h => V.str.inj h, fun h => by rw [h]⟩
  rw [e]; exact p)
theorem sz1000 {n : Nat} (h : n ≤ 1000) : n ≤ sizeLine := Nat.le_trans h (by decide)
/-- items -/
theorem atI_dd {G : Hp} {vs : List V} {ds : List D} {i : Int} {d : D} (h : Dds K B G vs ds) (e : atI ds i = some d) : ∃ v, atI vs i = some v ∧ Dd K B G v d := by
  unfold atI at e ⊢
  rw [h.length]
  cases q : ixN ds.length i with
  | none => rw [q] at e; cases e
  | some j =>
    rw [q] at e
    exact h.get e
theorem ro_ixL {ds : List D} {i : Int} {d : D} (e : atI ds i = some d) (p : P d) : RO K B (rIxL K) (.lst ds) (.int i) P := fun _ _ _ _ _ o hx hy q => by
  cases hy
  cases hx with
  | lst h t =>
    obtain ⟨v, h1, h2⟩ := atI_dd t e
    exact ⟨_, _, i, v, rfl, rfl, SqL.of (o.u _ _ h), h1, q.nil o h2 p⟩
theorem ro_ixT {ds : List D} {i : Int} {d : D} (e : atI ds i = some d) (p : P d) : RO K B (rIxT K) (.tup ds) (.int i) P := fun _ _ _ _ _ o hx hy q => by
  cases hy
  cases hx with
  | tup h t =>
    obtain ⟨v, h1, h2⟩ := atI_dd t e
    exact ⟨_, _, i, v, rfl, rfl, SqT.ofZ (o.u _ _ h.1), h1, q.nil o h2 p⟩
theorem ro_ixS {z : Str} {i : Int} {c : Nat} (l : z.length ≤ 100000) (e : atI z.cps.toList i = some c) (p : P (.str ⟨#[c]⟩)) : RO K B rIxS (.str z) (.int i) P := fun _ _ _ _ _ o hx hy q => by
  cases hy; cases hx
  exact ⟨z, i, c, rfl, rfl, Nat.le_trans l (by decide), e, q.nil o (.str _) p⟩
theorem ro_ixsL {ds : List D} {i : Int} {d : D} (e : atI ds i = some d) (p : P d) : RO K B (rIx K) (.lst ds) (.int i) P := fun G H x y Q o hx hy q => .inl (ro_ixL e p G H x y Q o hx hy q)
theorem ro_ixsT {ds : List D} {i : Int} {d : D} (e : atI ds i = some d) (p : P d) : RO K B (rIx K) (.tup ds) (.int i) P := fun G H x y Q o hx hy q => .inr (.inl (ro_ixT e p G H x y Q o hx hy q))
theorem ro_ixsS {z : Str} {i : Int} {c : Nat} (l : z.length ≤ 100000) (e : atI z.cps.toList i = some c) (p : P (.str ⟨#[c]⟩)) : RO K B (rIx K) (.str z) (.int i) P := fun G H x y Q o hx hy q => .inr (.inr (ro_ixS l e p G H x y Q o hx hy q))
theorem ro_inS {i j : Str} (p : P (.bl (!(Builtin.Str.occurrences j i 0 j.length 1).isEmpty))) : RO K B (fun x y H Q => ∃ i j, x = .str i ∧ y = .str j ∧ Q (.bl (!(Builtin.Str.occurrences j i 0 j.length 1).isEmpty)) H) (.str i) (.str j) P := fun _ _ _ _ _ o hx hy q => by
  cases hx; cases hy
  exact ⟨i, j, rfl, rfl, q.nil o (.bl _) p⟩
theorem ro_addS {i j : Str} (l : i.length + j.length ≤ 100000) (p : P (.str (i ++ j))) : RO K B (fun x y H Q => ∃ i j, x = .str i ∧ y = .str j ∧ i.length + j.length ≤ sizeLine ∧ Q (.str (i ++ j)) H) (.str i) (.str j) P := fun _ _ _ _ _ o hx hy q => by
  cases hx; cases hy
  exact ⟨i, j, rfl, rfl, Nat.le_trans l (by decide), q.nil o (.str _) p⟩
theorem ro_cat {ds es : List D} (l : ds.length + es.length ≤ 1000) (p : P (.lst (ds ++ es))) : RO K B rCat (.lst ds) (.lst es) P := fun _ _ _ _ _ o hx hy q => by
  cases hx with
  | lst h t =>
    cases hy with
    | lst h' t' => exact ⟨_, _, _, _, rfl, rfl, o.u _ _ h, o.u _ _ h', sz1000 (by rw [t.length, t'.length]; exact l), fun a ha => q.new o nt_lst ha (.lst upd_same ((t.append t').mono (same_upd (o.fresh ha)))) p⟩
theorem ro_rep {ds : List D} {k : Int} (h1 : 0 ≤ k) (h2 : k ≤ 1000) (l : ds.length * k.toNat ≤ 1000) (p : P (.lst (List.replicate k.toNat ds).flatten)) : RO K B rRep (.lst ds) (.int k) P := fun _ _ _ _ _ o hx hy q => by
  cases hy
  cases hx with
  | lst h t => exact ⟨_, k, _, rfl, rfl, o.u _ _ h, by omega, by omega, sz1000 (by rw [t.length]; exact l), fun a ha => q.new o nt_lst ha (.lst upd_same ((t.repl _).mono (same_upd (o.fresh ha)))) p⟩
theorem ro_catA {ds es : List D} (l : ds.length + es.length ≤ 1000) (p : P (.tup (ds ++ es))) : RO K B (zCat K) (.tup ds) (.tup es) P := fun _ _ _ _ _ o hx hy q => by
  have hx0 := hx
  have hy0 := hy
  cases hx with
  | tup h t =>
    cases hy with
    | tup h' t' =>
      refine ⟨_, _, _, _, rfl, rfl, SqT.ofZ (o.u _ _ h.1), SqT.ofZ (o.u _ _ h'.1), sz1000 (by rw [t.length, t'.length]; exact l), fun e => ?_, fun _ e => ?_, fun _ _ a ob ha hd => q.new o nt_tup ha (.tup ⟨upd_same, hd⟩ ((t.append t').mono (same_upd (o.fresh ha)))) p⟩
      · have e2 : ds = [] := by
          have := t.length; rw [e] at this; exact List.length_eq_zero_iff.mp this.symm
        subst e2
        exact q.nil o hy0 p
      · have e2 : es = [] := by
          have := t'.length; rw [e] at this; exact List.length_eq_zero_iff.mp this.symm
        subst e2
        rw [List.append_nil] at p
        exact q.nil o hx0 p
/-- slices -/
def cutD (ds : List D) (lo hi : Option Int) : List D := (ds.drop (HT.sIx ds.length 0 lo)).take (HT.sIx ds.length ds.length hi - HT.sIx ds.length 0 lo)
theorem cutV_dd {G : Hp} {vs : List V} {ds : List D} {lo hi : Option Int} (h : Dds K B G vs ds) : Dds K B G (cutV vs lo hi) (cutD ds lo hi) := by
  unfold cutV cutD
  rw [h.length]
  exact (h.drop _).take _
theorem rs_L {ds : List D} {lo hi : Option Int} (p : P (.lst (cutD ds lo hi))) : RS K B (rSlL K) (.lst ds) lo hi P := fun _ _ _ _ o hx q => by
  cases hx with
  | lst h t => exact ⟨_, _, rfl, SqL.of (o.u _ _ h), fun a ha => q.new o nt_lst ha (.lst upd_same ((cutV_dd t).mono (same_upd (o.fresh ha)))) p⟩
theorem rs_T {ds : List D} {lo hi : Option Int} (p : P (.tup (cutD ds lo hi))) : RS K B (zSl K) (.tup ds) lo hi P := fun _ _ _ _ o hx q => by
  have hx0 := hx
  cases hx with
  | tup h t =>
    refine ⟨_, _, rfl, SqT.ofZ (o.u _ _ h.1), fun e => ?_, fun _ a ob ha hd => q.new o nt_tup ha (.tup ⟨upd_same, hd⟩ ((cutV_dd t).mono (same_upd (o.fresh ha)))) p⟩
    rw [t.length] at e
    have e2 : cutD ds lo hi = ds := by
      show (ds.drop (HT.sIx ds.length 0 lo)).take (HT.sIx ds.length ds.length hi - HT.sIx ds.length 0 lo) = ds
      rw [e.1, e.2]
      simp
    rw [e2] at p
    exact q.nil o hx0 p
theorem rs_S {z : Str} {lo hi : Option Int} (l : z.length ≤ 100000) (p : P (.str (cutS z lo hi))) : RS K B rSlS (.str z) lo hi P := fun _ _ _ _ o hx q => by
  cases hx
  exact ⟨z, rfl, Nat.le_trans l (by decide), q.nil o (.str _) p⟩
/-! ### calls of built-ins -/
def D.tyn : D → String
  | .non => "NoneType" | .bl _ => "bool" | .int _ => "int" | .str _ => "str" | .tup _ => "tuple" | .lst _ => "list" | .dic _ _ => "dict" | .cls _ => "type" | .box => "list" | .exn _ _ _ => "type" | .obj _ _ _ => "object" | .adr _ => "object"
def D.isCls : D → Bool
  | .cls _ => true | .exn _ _ _ => true | .obj _ _ _ => true | .adr _ => true | _ => false
theorem Dd.tyx {G H : Hp} {v : V} {d : D} (o : Ok B G H) (h : Dd K B G v d) (nc : d.isCls = false) : TyX K H v (.type d.tyn) := by
  cases h with
  | non => exact .base .non
  | bl b => exact .base (.bl b)
  | int i => exact .base (.int i)
  | str z => exact .base (.str z)
  | tup h _ => exact .fTuple (o.u _ _ h.1)
  | lst h _ => exact .base (.lst (o.u _ _ h))
  | dic h _ => exact .base (.dK (o.u _ _ h))
  | cls n => cases nc
  | exn _ _ _ => cases nc
  | obj _ _ => cases nc
  | adr _ => cases nc
  | box =>
    obtain ⟨_, _, _, _, _, _, e, _⟩ := o.x
    exact .base (.lst e)
theorem rc_isi {a : D} {n : String} {b : Bool} (nc : a.isCls = false) (e : kitB a.tyn n = some b) (p : P (.bl b)) : RC K B (rIsi K) [a, .cls n] P := fun _ _ _ _ o hs q => by
  cases hs with
  | cons h1 t =>
    cases t with
    | cons h2 t2 =>
      cases t2; cases h2
      exact ⟨_, _, _, _, b, rfl, .ty n, h1.tyx o nc, kit_ty e, q.nil o (.bl b) p⟩
theorem rc_isi2 {a : D} {n m : String} {b c : Bool} (nc : a.isCls = false) (e1 : kitB a.tyn n = some b) (e2 : kitB a.tyn m = some c) (p : P (.bl (b || c))) : RC K B (zIsi2 K) [a, .tup [.cls n, .cls m]] P := fun G H _ _ o hs q => by
  cases hs with
  | cons h1 t =>
    cases t with
    | cons h2 t2 =>
      cases t2
      cases h2 with
      | tup hg ht =>
        cases ht with
        | cons k1 t3 =>
          cases t3 with
          | cons k2 t4 =>
            cases t4; cases k1; cases k2
            refine ⟨_, _, _, _, _, [.type n, .type m], (b || c), rfl, o.u _ _ hg.1, .cons (.ty n) (.cons (.ty m) .nil), h1.tyx o nc, ?_, q.nil o (.bl _) p⟩
            have f1 : PySem.W.kitOne K (.type a.tyn) (.type n) = some b := kit_ty e1
            have f2 : PySem.W.kitOne K (.type a.tyn) (.type m) = some c := kit_ty e2
            cases b <;> cases c <;> simp [PySem.W.kitAny, f1, f2]
def D.len? : D → Option Nat
  | .str z => some z.length | .tup ds => some ds.length | .lst ds => some ds.length | _ => none
theorem rc_len {a : D} {n : Nat} (e : a.len? = some n) (l : n ≤ 100000) (p : P (.int n)) : RC K B (fun xs H Q => ∃ x n, xs = [x] ∧ LenV K x H n ∧ Q (.int n) H) [a] P := fun _ _ _ _ o hs q => by
  cases hs with
  | cons h t =>
    cases t
    cases h with
    | str z => cases e; exact ⟨_, _, rfl, ⟨Nat.le_trans l (by decide), rfl⟩, q.nil o (.int _) p⟩
    | tup h t => cases e; exact ⟨_, _, rfl, .inr ⟨_, SqT.ofZ (o.u _ _ h.1), t.length.symm⟩, q.nil o (.int _) p⟩
    | lst h t => cases e; exact ⟨_, _, rfl, .inl ⟨_, SqL.of (o.u _ _ h), t.length.symm⟩, q.nil o (.int _) p⟩
    | _ => cases e
theorem rc_abs {i : Int} (p : P (.int (if i < 0 then -i else i))) : RC K B (fun xs H Q => ∃ i, xs = [.int i] ∧ Q (.int (if i < 0 then -i else i)) H) [.int i] P := fun _ _ _ _ o hs q => by
  cases hs with
  | cons h t => cases t; cases h; exact ⟨i, rfl, q.nil o (.int _) p⟩
theorem rc_int1 {i : Int} (p : P (.int i)) : RC K B (fun xs H Q => (∃ i, xs = [.int i] ∧ Q (.int i) H) ∨ ∃ k, xs = [.bl k] ∧ Q (.int (if k then 1 else 0)) H) [.int i] P := fun _ _ _ _ o hs q => by
  cases hs with
  | cons h t => cases t; cases h; exact .inl ⟨i, rfl, q.nil o (.int _) p⟩
theorem rc_intS {a : Str} {n : Int} (e : PySem.intText? a = some n) (l : a.length ≤ 640) (p : P (.int n)) : RC K B (fun xs H Q => ∃ a n, xs = [.str a] ∧ PySem.intText? a = some n ∧ a.length ≤ 640 ∧ Q (.int n) H) [.str a] P := fun _ _ _ _ o hs q => by
  cases hs with
  | cons h t => cases t; cases h; exact ⟨a, n, rfl, e, l, q.nil o (.int _) p⟩
theorem rc_gcd {i j : Int} (p : P (.int ((Nat.gcd i.natAbs j.natAbs : Nat) : Int))) : RC K B rGcd [.int i, .int j] P := fun _ _ _ _ o hs q => by
  cases hs with
  | cons h t =>
    cases t with
    | cons h2 t2 => cases t2; cases h; cases h2; exact ⟨i, j, rfl, q.nil o (.int _) p⟩
theorem rc_all {bs : List Bool} (p : P (.bl (bs.all id))) : RC K B (rAll K) [.lst (bs.map D.bl)] P := fun _ _ _ _ o hs q => by
  cases hs with
  | cons h t =>
    cases t
    cases h with
    | lst h t => rw [t.bls] at h; exact ⟨_, bs, rfl, SqL.of (o.u _ _ h), q.nil o (.bl _) p⟩
theorem rc_any {bs : List Bool} (p : P (.bl (bs.any id))) : RC K B (rAny K) [.lst (bs.map D.bl)] P := fun _ _ _ _ o hs q => by
  cases hs with
  | cons h t =>
    cases t
    cases h with
    | lst h t => rw [t.bls] at h; exact ⟨_, bs, rfl, SqL.of (o.u _ _ h), q.nil o (.bl _) p⟩
theorem rc_listOf {ds : List D} (p : P (.lst ds)) : RC K B (fun xs H Q => ∃ p ys, xs = [.ref p] ∧ (SqL K H p ys ∨ SqT K H p ys) ∧ ∀ l, H l = none → Q (.ref l) (upd H l (.lst ys))) [.lst ds] P ∧ RC K B (fun xs H Q => ∃ p ys, xs = [.ref p] ∧ (SqL K H p ys ∨ SqT K H p ys) ∧ ∀ l, H l = none → Q (.ref l) (upd H l (.lst ys))) [.tup ds] P := by
  constructor
  · intro _ _ _ _ o hs q
    cases hs with
    | cons h t =>
      cases t
      cases h with
      | lst h t => exact ⟨_, _, rfl, .inl (SqL.of (o.u _ _ h)), fun l hl => q.new o nt_lst hl (.lst upd_same (t.mono (same_upd (o.fresh hl)))) p⟩
  · intro _ _ _ _ o hs q
    cases hs with
    | cons h t =>
      cases t
      cases h with
      | tup h t => exact ⟨_, _, rfl, .inr (SqT.ofZ (o.u _ _ h.1)), fun l hl => q.new o nt_lst hl (.lst upd_same (t.mono (same_upd (o.fresh hl)))) p⟩
/-! ### methods of texts -/
theorem ty_str {G H : Hp} {x : V} {z : Str} (_ : Ok B G H) (h : Dd K B G x (.str z)) : tyV K "str" x H := by
  cases h; rfl
theorem rm_join {a : Str} {ys : List Str} (l : (ys.map (·.length)).sum + ys.length * a.length ≤ 16777216) (p : P (.str (Txt.join a ys))) : RM K B (fun x xs H Q => ∃ a p, ∃ ys : List Str, x = .str a ∧ xs = [.ref p] ∧ (SqL K H p (ys.map V.str) ∨ SqT K H p (ys.map V.str)) ∧ (ys.map (·.length)).sum + ys.length * a.length ≤ 16777216 ∧ Q (.str (Txt.join a ys)) H) (.str a) [.lst (ys.map D.str)] P := fun _ _ _ _ _ o hx hs q => by
  cases hx
  cases hs with
  | cons h t =>
    cases t
    cases h with
    | lst h t => rw [t.strs] at h; exact ⟨a, _, ys, rfl, rfl, .inl (SqL.of (o.u _ _ h)), l, q.nil o (.str _) p⟩
end
end Dl
namespace Dl
open PySem L2
section
variable (K : PySem.W.Frag) (B : Bt)
/-- what an iterator hands out, by data -/
def ItOk (J : It) (its : List D) (G1 : Hp) : Prop := ∀ G H i, Same G1 G → Ok B G H → (i < its.length → J.go i H) ∧ (∀ x H', i < its.length → J.yld i H x H' → ∃ d G', its[i]? = some d ∧ Go B G H G' H' ∧ Ok B G' H' ∧ Dd K B G' x d) ∧ (i = its.length → J.stop i H)
def WIx (X : Xc) (wi : TI) (δ : List Sd) (P : List D → Prop) : Prop := ∀ G0 H0 σ G H (R : It → Hp → Prop), Stt K B G0 H0 G H σ δ → CtX K B X σ δ G H → (∀ J its G1 H1, Go B G H G1 H1 → Ok B G1 H1 → ItOk K B J its G1 → P its → R J H1) → wi σ H R
abbrev WI (wi : TI) (δ : List Sd) (P : List D → Prop) : Prop := WIx K B {} wi δ P
end
section
variable {K : PySem.W.Frag} {B : Bt} {δ : List Sd} {P P' : D → Prop} {ta tb te : TE} {tt tu : TT} {O : Out} {X : Xc}
theorem it_list {G : Hp} {a : Addr} {vs : List V} {ds : List D} (h : G a = some (.lst vs)) (t : Dds K B G vs ds) : ItOk K B (Itl K a) ds G := by
  intro G1 H1 i s o
  have h1 : SqL K H1 a vs := SqL.of (o.u _ _ (s _ _ h))
  have l := t.length
  refine ⟨fun hi => ?_, fun x H' hi y => ?_, fun e => ⟨vs, h1, by omega⟩⟩
  · obtain ⟨v, e1, _⟩ := t.get (List.getElem?_eq_getElem hi)
    exact ⟨vs, v, h1, e1⟩
  · obtain ⟨rfl, f⟩ := y
    obtain ⟨d, e1, e2⟩ := t.get' (f vs h1)
    exact ⟨d, G1, e1, Go.refl, o, e2.mono s⟩
theorem it_tup {G : Hp} {a : Addr} {vs : List V} {ds : List D} {ob : Obj} (h : G a = some (.frz ob (.tup vs)) ∧ ob.dict = none) (t : Dds K B G vs ds) : ItOk K B (Itt K a) ds G := by
  intro G1 H1 i s o
  have h1 : SqT K H1 a vs := SqT.ofZ (o.u _ _ (s _ _ h.1))
  have l := t.length
  refine ⟨fun hi => ?_, fun x H' hi y => ?_, fun e => ⟨vs, h1, by omega⟩⟩
  · obtain ⟨v, e1, _⟩ := t.get (List.getElem?_eq_getElem hi)
    exact ⟨vs, v, h1, e1⟩
  · obtain ⟨rfl, f⟩ := y
    obtain ⟨d, e1, e2⟩ := t.get' (f vs h1)
    exact ⟨d, G1, e1, Go.refl, o, e2.mono s⟩
def signs (z : Str) : List D := z.cps.toList.map fun c => .str ⟨#[c]⟩
theorem it_str {G : Hp} {z : Str} : ItOk K B (Its z) (signs z) G := by
  intro G1 H1 i s o
  have l : (signs z).length = z.cps.size := by unfold signs; rw [List.length_map, Array.length_toList]
  refine ⟨fun hi => by show i < z.cps.size; omega, fun x H' hi y => ?_, fun e => by show z.cps.size ≤ i; omega⟩
  obtain ⟨rfl, c, e, rfl⟩ := y
  refine ⟨.str ⟨#[c]⟩, G1, ?_, Go.refl, o, .str _⟩
  unfold signs
  rw [List.getElem?_map, Array.getElem?_toList, e]
  rfl
def upto (lo : Int) (n : Nat) : List D := (List.range n).map fun (k : Nat) => .int (lo + (k : Int))
theorem it_range {G : Hp} {lo : Int} {n : Nat} : ItOk K B (Itr lo n) (upto lo n) G := by
  intro G1 H1 i s o
  have l : (upto lo n).length = n := by unfold upto; rw [List.length_map, List.length_range]
  refine ⟨fun hi => by show i < n; omega, fun x H' hi y => ?_, fun e => by show n ≤ i; omega⟩
  obtain ⟨rfl, rfl⟩ := y
  refine ⟨.int (lo + i), G1, ?_, Go.refl, o, .int _⟩
  unfold upto
  rw [List.getElem?_map, List.getElem?_range (by omega)]
  rfl
theorem wi_list {P : List D → Prop} (h : WEx K B X te δ fun d => ∃ ds, d = .lst ds ∧ P ds) : WIx K B X (iList K te) δ P := fun G0 H0 σ G H R s xx q =>
  h G0 H0 σ G H _ s xx fun x a G1 H1 g1 o1 hx ⟨ds, e, p⟩ => by
    subst e
    cases hx with
    | lst h t => exact ⟨_, rfl, ⟨_, SqL.of (o1.u _ _ h)⟩, q _ ds G1 H1 g1 o1 (it_list h t) p⟩
theorem wi_tup {P : List D → Prop} (h : WEx K B X te δ fun d => ∃ ds, d = .tup ds ∧ P ds) : WIx K B X (iTup K te) δ P := fun G0 H0 σ G H R s xx q =>
  h G0 H0 σ G H _ s xx fun x a G1 H1 g1 o1 hx ⟨ds, e, p⟩ => by
    subst e
    cases hx with
    | tup h t => exact ⟨_, rfl, ⟨_, SqT.ofZ (o1.u _ _ h.1)⟩, q _ ds G1 H1 g1 o1 (it_tup h t) p⟩
theorem wi_str {P : List D → Prop} (h : WEx K B X te δ fun d => ∃ z, d = .str z ∧ P (signs z)) : WIx K B X (iStr te) δ P := fun G0 H0 σ G H R s xx q =>
  h G0 H0 σ G H _ s xx fun x a G1 H1 g1 o1 hx ⟨z, e, p⟩ => by
    subst e
    cases hx
    exact ⟨z, rfl, q _ (signs z) G1 H1 g1 o1 it_str p⟩
/-- a for loop over names, by a word -/
theorem ws_for {wi : TI} {i : Nat} {t : TS} (h : WIx K B O.x wi δ fun its => ∃ I : Nat → List Sd → Prop, I 0 δ ∧ (∀ k d δ1, its[k]? = some d → I k δ1 → WS K B t (δ1.set i (.val d)) { nx := I (k + 1), rt := O.rt, bk := O.nx, ct := I (k + 1), x := O.x, ro := O.ro }) ∧ ∀ δ1, I its.length δ1 → O.nx δ1) : WS K B (tFor wi (gName i) t) δ O := fun G0 H0 σ G H E s xx n r b c =>
  h G0 H0 σ G H _ s (xx.ct s) fun J its G1 H1 g1 o1 it ⟨I, i0, turn, last⟩ => by
    refine ⟨fun k m σ H => m = its.length - k ∧ k ≤ its.length ∧ ∃ G δ1, Stt K B G0 H0 G H σ δ1 ∧ Same G1 G ∧ I k δ1, ⟨_, rfl, Nat.zero_le _, G1, δ, s.on g1 o1, Same.refl _, i0⟩, ?_⟩
    rintro k m σ2 H2 ⟨rfl, hk, G2, δ2, s2, sm, ik⟩
    obtain ⟨f1, f2, f3⟩ := it G2 H2 k sm s2.ok
    by_cases hlt : k < its.length
    · refine .inr ⟨f1 hlt, fun σ' H' => ∃ G δ1, Stt K B G0 H0 G H' σ' δ1 ∧ Same G1 G ∧ I (k + 1) δ1, fun σ' H' hN => ⟨its.length - (k + 1), by omega, rfl, hlt, hN⟩, fun x H' y => ?_⟩
      obtain ⟨d, G3, e1, g3, o3, hd⟩ := f2 x H' hlt y
      have s3 := (s2.on g3 o3).setVal i hd
      have sm3 := sm.trans g3.s
      refine turn k d δ2 e1 ik G0 H0 _ G3 H' _ s3 (xx.on (g1.s.trans sm3)) (fun σ4 δ4 G4 H4 m4 s4 p4 => ⟨G4, δ4, s4, sm3.trans m4, p4⟩) r (fun σ4 δ4 G4 H4 m4 s4 p4 => n _ _ _ _ ((g1.s.trans sm3).trans m4) s4 p4) (fun σ4 δ4 G4 H4 m4 s4 p4 => ⟨G4, δ4, s4, sm3.trans m4, p4⟩)
    · have ek : k = its.length := by omega
      subst ek
      exact .inl ⟨f3 rfl, n _ _ _ _ (g1.s.trans sm) s2 (last δ2 ik)⟩
end
end Dl
namespace Dl
open PySem PySem.Spec PyProof.Rows L2
section
variable {K : PySem.W.Frag} {B : Bt} {δ : List Sd} {P P' : D → Prop} {ta tb te : TE} {tt tu : TT} {O : Out} {X : Xc}
theorem wi_range1 {P : List D → Prop} {ta : TA} (h : WAx K B X ta δ fun ds => ∃ j : Int, ds = [.int j] ∧ -(2 ^ 62) ≤ j ∧ j < 2 ^ 62 ∧ P (upto 0 j.toNat)) : WIx K B X (iRng1 ta) δ P := fun G0 H0 σ G H R s xx q =>
  h G0 H0 σ G H _ s xx fun vs ds G1 H1 g1 o1 hs ⟨j, e, l1, l2, p⟩ => by
    subst e
    cases hs with
    | cons h t => cases t; cases h; exact ⟨j, rfl, l1, l2, q _ _ G1 H1 g1 o1 it_range p⟩
theorem wi_range2 {P : List D → Prop} {ta : TA} (h : WAx K B X ta δ fun ds => ∃ i j : Int, ds = [.int i, .int j] ∧ (-(2 ^ 62) ≤ i ∧ i < 2 ^ 62 ∧ -(2 ^ 62) ≤ j ∧ j < 2 ^ 62) ∧ P (upto i (j - i).toNat)) : WIx K B X (iRng2 ta) δ P := fun G0 H0 σ G H R s xx q =>
  h G0 H0 σ G H _ s xx fun vs ds G1 H1 g1 o1 hs ⟨i, j, e, l, p⟩ => by
    subst e
    cases hs with
    | cons h t =>
      cases t with
      | cons h2 t2 => cases t2; cases h; cases h2; exact ⟨i, j, rfl, l, q _ _ G1 H1 g1 o1 it_range p⟩
theorem wipe_set {σ : L2.St} {i : Nat} {v : V} : wipe ((wipe σ [i]).set i (some v)) [i] = wipe σ [i] := by
  show (((σ.set i none).set i (some v)).set i none) = σ.set i none
  rw [List.set_set, List.set_set]
/-- a comprehension of one clause over a name, by a word -/
theorem we_lc {wi : TI} {i : Nat} {te : TE} (h : WIx K B X wi δ fun its => its.length ≤ 1000 ∧ ∃ I : Nat → List D → Prop, I 0 [] ∧ (∀ k d acc, its[k]? = some d → I k acc → WT K B tt (δ.set i (.val d)) fun b => if b = true then WE K B te (δ.set i (.val d)) fun y => I (k + 1) (acc ++ [y]) else I (k + 1) acc) ∧ ∀ acc, I its.length acc → P (.lst acc)) :
    WEx K B X (tLc wi (gName i) tt te [i]) δ P := fun G0 H0 σ G H Q s xx q =>
  h G0 H0 σ G H _ s xx fun J its G1 H1 g1 o1 it ⟨hlen, I, i0, turn, last⟩ => by
    intro A hA
    have s1 := s.on g1 o1
    have q1 := q.on g1 o1
    have nAB := o1.neB hA
    have gA1 : G1 A = none := o1.fresh hA
    have nn : ∀ (a : Addr), H1 a ≠ none → a ≠ A := fun a h e => h (e ▸ hA)
    refine ⟨fun k m H => m = its.length - k ∧ k ≤ its.length ∧ ∃ G vs acc, Go B G1 H1 G H ∧ G A = none ∧ Ok B G H ∧ H A = some (.lst vs) ∧ Dds K B G vs acc ∧ acc.length ≤ k ∧ I k acc,
      ⟨_, rfl, Nat.zero_le _, G1, [], [], loose_go o1 hA, gA1, loose_ok o1 hA, upd_same, .nil, Nat.le_refl _, i0⟩, ?_⟩
    rintro k m H2 ⟨rfl, hk, G2, vs, acc, g2, gA, o2, hV, hD, hL, ik⟩
    obtain ⟨f1, f2, f3⟩ := it G2 H2 k g2.s o2
    have st : Stt K B G0 H0 G2 H2 σ δ := s1.on g2 o2
    by_cases hlt : k < its.length
    · refine .inr ⟨f1 hlt, fun H' => ∃ G vs acc, Go B G1 H1 G H' ∧ G A = none ∧ Ok B G H' ∧ H' A = some (.lst vs) ∧ Dds K B G vs acc ∧ acc.length ≤ k + 1 ∧ I (k + 1) acc,
        fun H' hN => ⟨its.length - (k + 1), by omega, rfl, hlt, hN⟩, fun x H3 y => ?_⟩
      obtain ⟨d, G3, e1, g3, o3, hd⟩ := f2 x H3 hlt y
      have s3 : Stt K B G0 H0 G3 H3 ((wipe σ [i]).set i (some x)) (δ.set i (.val d)) := by
        have z := ((st.on g3 o3).wipe1 i).setVal i hd
        rw [List.set_set (l := δ)] at z
        exact z
      have hV3 := g3.k A _ nAB nt_lst hV
      have gA3 := g3.n A _ nt_lst hV gA
      refine ⟨wipe_set, turn k d acc e1 ik G0 H0 _ G3 H3 _ s3 ctx0 fun b G4 H4 g4 o4 w => ?_⟩
      have hV4 := g4.k A _ nAB nt_lst hV3
      have gA4 := g4.n A _ nt_lst hV3 gA3
      have go4 : Go B G1 H1 G4 H4 := (g2.trans o2 g3).trans o3 g4
      have hD4 : Dds K B G4 vs acc := (hD.mono g3.s).mono g4.s
      cases b with
      | false => exact ⟨G4, vs, acc, go4, gA4, o4, hV4, hD4, Nat.le_succ_of_le hL, w⟩
      | true =>
        refine w G0 H0 _ G4 H4 _ (s3.on g4 o4) ctx0 fun y e G5 H5 g5 o5 hy w5 => ?_
        have hV5 := g5.k A _ nAB nt_lst hV4
        have gA5 := g5.n A _ nt_lst hV4 gA4
        have go5 : Go B G1 H1 G5 H5 := go4.trans o4 g5
        refine ⟨vs, hV5, Nat.lt_of_le_of_lt (by rw [hD.length]; omega : vs.length ≤ 1000) (by decide), G5, vs ++ [y], acc ++ [e], ?_, gA5, write_ok o5 hV5 gA5 nAB, upd_same, (hD4.mono g5.s).append (.cons hy .nil), by rw [List.length_append, List.length_singleton]; omega, w5⟩
        refine ⟨go5.s, fun a o nb ht h => ?_, go5.n, fun c r h => ?_⟩
        · rw [upd_ne (nn a (by rw [h]; exact fun z => nomatch z))]; exact go5.k a o nb ht h
        · obtain ⟨r', h'⟩ := go5.c c r h
          exact ⟨r', by rw [upd_ne nAB.symm]; exact h'⟩
    · have ek : k = its.length := by omega
      subst ek
      refine .inl ⟨f3 rfl, q1 (.ref A) (.lst acc) (upd G2 A (.lst vs)) H2 ⟨g2.s.trans (same_upd gA), g2.k, fun a o ht h g => ?_, g2.c⟩ (freeze_ok o2 nt_lst nAB gA hV) (.lst upd_same (hD.mono (same_upd gA))) (last acc ik)⟩
      rw [upd_ne (nn a (by rw [h]; exact fun z => nomatch z))]
      exact g2.n a o ht h g
theorem getElem_mem' {α : Type} {xs : List α} {k : Nat} {d : α} (h : xs[k]? = some d) : d ∈ xs := List.mem_of_getElem? h
/-- .. each item once, by a function -/
theorem we_lcmap {wi : TI} {i : Nat} {te : TE} (f : D → D) (h : WIx K B X wi δ fun its => its.length ≤ 1000 ∧ (∀ d, d ∈ its → WE K B te (δ.set i (.val d)) fun y => y = f d) ∧ P (.lst (its.map f))) : WEx K B X (tLc wi (gName i) tYes te [i]) δ P :=
  we_lc fun G0 H0 σ G H R s xx q => h G0 H0 σ G H R s xx fun J its G1 H1 g1 o1 it ⟨l, w, p⟩ => q J its G1 H1 g1 o1 it ⟨l, fun k acc => acc = (its.take k).map f, rfl, fun k d acc e ea => wt_yes (by
    show WE K B te _ _
    refine (w d (getElem_mem' e)).mono fun y ey => ?_
    show acc ++ [y] = (its.take (k + 1)).map f
    have ea' : acc = (its.take k).map f := ea
    rw [ey, ea', List.take_add_one, e, List.map_append]
    rfl), fun acc ea => by rw [ea, List.take_length]; exact p⟩
/-- .. each item by some answer with a property -/
theorem we_lcall {wi : TI} {i : Nat} {te : TE} (R : D → Prop) (h : WIx K B X wi δ fun its => its.length ≤ 1000 ∧ (∀ d, d ∈ its → WE K B te (δ.set i (.val d)) R) ∧ ∀ acc, acc.length = its.length → (∀ d ∈ acc, R d) → P (.lst acc)) : WEx K B X (tLc wi (gName i) tYes te [i]) δ P :=
  we_lc fun G0 H0 σ G H Rr s xx q => h G0 H0 σ G H Rr s xx fun J its G1 H1 g1 o1 it ⟨l, w, p⟩ => q J its G1 H1 g1 o1 it ⟨l, fun k acc => acc.length = k ∧ ∀ d ∈ acc, R d, ⟨rfl, fun _ z => nomatch z⟩, fun k d acc e ⟨el, ea⟩ => wt_yes (by
    show WE K B te _ _
    refine (w d (getElem_mem' e)).mono fun y ey => ⟨by rw [List.length_append, el]; rfl, fun z hz => ?_⟩
    rcases List.mem_append.mp hz with hz | hz
    · exact ea z hz
    · rw [List.mem_singleton.mp hz]; exact ey), fun acc ⟨el, ea⟩ => p acc el ea⟩
/-- a while loop by a word and a measure -/
theorem ws_while {t : TS} (I : Nat → List Sd → Prop) (h0 : ∃ m, I m δ) (h : ∀ m δ1, I m δ1 → WTx K B O.x tt δ1 fun b => if b = true then WS K B t δ1 { nx := fun δ2 => ∃ m', m' < m ∧ I m' δ2, rt := O.rt, bk := O.nx, ct := fun δ2 => ∃ m', m' < m ∧ I m' δ2, x := O.x, ro := O.ro } else O.nx δ1) : WS K B (tWhile tt t) δ O := fun G0 H0 σ G H E s xx n r b c => by
  obtain ⟨m0, i0⟩ := h0
  refine ⟨fun m σ H1 => ∃ G1 δ1, Stt K B G0 H0 G1 H1 σ δ1 ∧ Same G G1 ∧ I m δ1, ⟨m0, G, δ, s, Same.refl _, i0⟩, ?_⟩
  rintro m σ1 H1 ⟨G1, δ1, s1, sm, im⟩
  refine h m δ1 im G0 H0 σ1 G1 H1 _ s1 ((xx.on sm).ct s1) fun k G2 H2 g2 o2 w => ?_
  have s2 := s1.on g2 o2
  have sm2 := sm.trans g2.s
  cases k with
  | false => exact n _ _ _ _ sm2 s2 w
  | true =>
    refine ⟨fun σ' H' => ∃ m', m' < m ∧ ∃ G1 δ1, Stt K B G0 H0 G1 H' σ' δ1 ∧ Same G G1 ∧ I m' δ1, fun σ' H' ⟨m', hm, z⟩ => ⟨m', hm, z⟩, ?_⟩
    exact w G0 H0 σ1 G2 H2 _ s2 (xx.on sm2) (fun σ3 δ3 G3 H3 m3 s3 ⟨m', hm, z⟩ => ⟨m', hm, G3, δ3, s3, sm2.trans m3, z⟩) r (fun σ3 δ3 G3 H3 m3 s3 p => n _ _ _ _ (sm2.trans m3) s3 p) (fun σ3 δ3 G3 H3 m3 s3 ⟨m', hm, z⟩ => ⟨m', hm, G3, δ3, s3, sm2.trans m3, z⟩)
end

/-! ### defs -/
def init (N : List Str) (ds : List D) : List Sd := ds.map .val ++ List.replicate (N.length - ds.length) .no
section
variable {P : Program} {w : World} {K : PySem.W.Frag} {mg : Str → Option Value} {base : Heap}
theorem stt_start {B : Bt} {G H : Hp} {N : List Str} {vs : List V} {ds : List D} (o : Ok B G H) (h : Dds K B G vs ds) : Stt K B G H G H (L2.start N vs) (init N ds) := by
  have l := h.length
  refine ⟨Go.refl, o, ?_, fun i d e => ?_, fun i es e => ?_, fun i j es fs a e1 e2 e3 e4 => ?_⟩
  · unfold L2.start init
    simp only [List.length_append, List.length_map, List.length_replicate, l]
  · unfold init at e
    unfold L2.start
    rw [List.getElem?_append] at e ⊢
    rw [List.length_map] at e ⊢
    by_cases hi : i < ds.length
    · rw [if_pos hi, List.getElem?_map, List.getElem?_eq_getElem hi] at e
      obtain ⟨v, e1, e2⟩ := h.get (List.getElem?_eq_getElem hi)
      have e' : ds[i] = d := by simpa using e
      rw [if_pos (by omega), List.getElem?_map, e1]
      exact ⟨v, rfl, e' ▸ e2⟩
    · rw [if_neg hi, List.getElem?_replicate] at e
      split at e <;> cases e
  · unfold init at e
    rw [List.getElem?_append, List.length_map] at e
    by_cases hi : i < ds.length
    · rw [if_pos hi, List.getElem?_map, List.getElem?_eq_getElem hi] at e
      cases e
    · rw [if_neg hi, List.getElem?_replicate] at e
      split at e <;> cases e
  · unfold init at e1
    rw [List.getElem?_append, List.length_map] at e1
    by_cases hi : i < ds.length
    · rw [if_pos hi, List.getElem?_map, List.getElem?_eq_getElem hi] at e1
      cases e1
    · rw [if_neg hi, List.getElem?_replicate] at e1
      split at e1 <;> cases e1
/-- a def that may be called by its name -/
structure Cl (P : Program) (w : World) (K : PySem.W.Frag) (mg : Str → Option Value) (base : Heap) (k : Nat) (x : Str) (st : Stmt) (ps : List Str) (sp : Sp) : Prop where
  ex : ∃ (f : Addr) (fd : FuncData), Fun K x x st f fd ∧ FnOk P w K mg base CX0 k f fd ps sp ∧ mg x = some (.ref f) ∧ Binds K fd ps []
/-- .. by keywords alone -/
structure Ck (P : Program) (w : World) (K : PySem.W.Frag) (mg : Str → Option Value) (base : Heap) (k : Nat) (x : Str) (ks : List Str) (sp : Sp) (gV : List V → List V) : Prop where
  ex : ∃ (f : Addr) (fd : FuncData) (ps : List Str) (g : List Value → List Value), FnOk P w K mg base CX0 k f fd ps sp ∧ mg x = some (.ref f) ∧ PySem.W.keepIn K (.ref f) = true ∧ KBn K fd ps 0 ks (fun _ ws => g ws) (fun _ zs => gV zs)
/-- a def of the text as it stands behind the top -/
structure Df (K : PySem.W.Frag) (mg : Str → Option Value) (x : Str) (st : Stmt) : Prop where
  ex : ∃ (f : Addr) (fd : FuncData), Fun K x x st f fd ∧ mg x = some (.ref f)
theorem cl_of {x : Str} {st : Stmt} {N ps : List Str} {k : Nat} {pre : List D → Prop} {post : List D → D → Prop} (F : Df K mg x st) (S : FnScope N ps (defScope st))
    (hb : ∀ (kV doc pm : Value) (an : Option Addr) (cdv ct : Value) (us : List Value), us.length = ps.length → bindArgs (PySem.W.fnOf x x (defArgs st) (defBody st) (defScope st) .none kV doc pm an cdv ct) ⟨us, []⟩ = pure (ps.zip us))
    (hl : ∀ ds, pre ds → ds.length = ps.length)
    (h : ∀ (f : Addr) (cdv : Value) (A : Around) (outer : List Env) (s : Shared) (H : Hp) (E : XK), Room k (A.deeper (envOfC x (defScope st) s.heap.objs.size f cdv)) →
      ∃ t, PSs (cxOf CX0 P w K mg base N x (defScope st) f cdv A outer s H E).nox (defBody st) t ∧ ∀ B ds, pre ds → WS K B t (init N ds) { nx := fun _ => post ds .non, rt := post ds }) : Cl P w K mg base (k + 1) x st ps (SpD K pre post) := by
  obtain ⟨f, fd, F, hm⟩ := F.ex
  refine ⟨f, fd, F, F.ok S (fun vs H Q E hsp => ?_) (fun cdv A outer s H vs Q E hr hsp => ?_), hm, F.binds hb⟩
  · obtain ⟨B, G, ds, o, hs, p, q⟩ := hsp
    exact hs.length.trans (hl ds p)
  · obtain ⟨B, G, ds, o, hs, p, q⟩ := hsp
    obtain ⟨t, ht, ww⟩ := h f cdv A outer s H E hr
    exact ⟨t, ht, ww B ds p G H _ G H _ (stt_start o hs) xs0 (fun σ1 δ1 G1 H1 _ s1 z => q .non .non G1 H1 s1.go s1.ok .non z) ⟨fun v d G1 H1 g o1 hd z => q v d G1 H1 g o1 hd z, fun _ _ _ _ _ _ _ _ _ _ _ _ z => z.elim⟩ (fun _ _ _ _ _ _ z => z.elim) (fun _ _ _ _ _ _ z => z.elim)⟩
/-- .. a new list -/
theorem cln_of {x : Str} {st : Stmt} {N ps : List Str} {k : Nat} {pre : List D → Prop} {post : List D → List D → Prop} (F : Df K mg x st) (S : FnScope N ps (defScope st))
    (hb : ∀ (kV doc pm : Value) (an : Option Addr) (cdv ct : Value) (us : List Value), us.length = ps.length → bindArgs (PySem.W.fnOf x x (defArgs st) (defBody st) (defScope st) .none kV doc pm an cdv ct) ⟨us, []⟩ = pure (ps.zip us))
    (hl : ∀ ds, pre ds → ds.length = ps.length)
    (h : ∀ (f : Addr) (cdv : Value) (A : Around) (outer : List Env) (s : Shared) (H : Hp) (E : XK), Room k (A.deeper (envOfC x (defScope st) s.heap.objs.size f cdv)) →
      ∃ t, PSs (cxOf CX0 P w K mg base N x (defScope st) f cdv A outer s H E).nox (defBody st) t ∧ ∀ B ds, pre ds → WS K B t (init N ds) { nx := fun _ => False, rt := fun _ => False, ro := post ds }) : Cl P w K mg base (k + 1) x st ps (SpN K pre post) := by
  obtain ⟨f, fd, F, hm⟩ := F.ex
  refine ⟨f, fd, F, F.ok S (fun vs H Q E hsp => ?_) (fun cdv A outer s H vs Q E hr hsp => ?_), hm, F.binds hb⟩
  · obtain ⟨B, G, ds, o, hs, p, q⟩ := hsp
    exact hs.length.trans (hl ds p)
  · obtain ⟨B, G, ds, o, hs, p, q⟩ := hsp
    obtain ⟨t, ht, ww⟩ := h f cdv A outer s H E hr
    exact ⟨t, ht, ww B ds p G H _ G H _ (stt_start o hs) xs0 (fun σ1 δ1 G1 H1 _ s1 z => z.elim) ⟨fun v d G1 H1 g o1 hd z => z.elim, fun a vs es G1 H1 g o1 nb fr ga ha hd z => q a vs es G1 H1 g o1 nb fr ga ha hd z⟩ (fun _ _ _ _ _ _ z => z.elim) (fun _ _ _ _ _ _ z => z.elim)⟩
theorem Cl.imp {k : Nat} {x : Str} {st : Stmt} {ps : List Str} {sp sp' : Sp} (c : Cl P w K mg base k x st ps sp) (h : ∀ vs H Q E, sp' vs H Q E → sp vs H Q E) : Cl P w K mg base k x st ps sp' := by
  obtain ⟨f, fd, F0, F, r⟩ := c.ex
  exact ⟨f, fd, F0, F.imp h, r⟩
theorem Cl.frz {k : Nat} {x : Str} {st : Stmt} {ps : List Str} {pre : List D → Prop} {post : List D → List D → Prop} {post' : List D → D → Prop} (c : Cl P w K mg base k x st ps (SpN K pre post)) (h : ∀ ds es, post ds es → post' ds (.lst es)) : Cl P w K mg base k x st ps (SpD K pre post') :=
  c.imp fun vs H Q E ⟨B, G, ds, o, hs, p, q⟩ => ⟨B, G, ds, o, hs, p, fun a ws es G1 H1 g o1 nb fr ga ha hd z => q (.ref a) (.lst es) (upd G1 a (.lst ws)) H1 ⟨g.s.trans (same_upd ga), g.k, fun b u ht e hg => by
    rw [upd_ne (fun e2 => fr u ht (by rw [← e2]; exact e))]; exact g.n b u ht e hg, g.c⟩ (freeze_ok o1 nt_lst nb ga ha) (.lst upd_same (hd.mono (same_upd ga))) (h ds es z)⟩
theorem ck_of {x : Str} {st : Stmt} {k : Nat} {ps ks : List Str} {sp : Sp} {gV : List V → List V} (c : Cl P w K mg base k x st ps sp) (g : List Value → List Value)
    (hb : ∀ (kV doc pm : Value) (an : Option Addr) (cdv ct : Value) (ws : List Value), ws.length = ks.length → bindArgs (PySem.W.fnOf x x (defArgs st) (defBody st) (defScope st) .none kV doc pm an cdv ct) ⟨[], ks.zip ws⟩ = pure (ps.zip (g ws)))
    (hr : ∀ {zs : List V} {ws : List Value}, Vals zs ws → Vals (gV zs) (g ws)) : Ck P w K mg base k x ks sp gV := by
  obtain ⟨f, fd, F, G, hm, _⟩ := c.ex
  have kp := F.kp
  obtain ⟨oc, od, kV, doc, pm, an, cdv, ct, osl, rfl, lk, hcd⟩ := F.ex
  refine ⟨f, _, ps, g, G, hm, kp, ⟨fun s us ws _ l1 l2 => ?_, fun _ r => hr r⟩⟩
  have e : us = [] := List.length_eq_zero_iff.mp l1
  subst e
  exact .of_eq (hb kV doc pm an cdv ct ws l2)
end
section
variable {X : Cx} {k j : Nat} {x : Str} {st : Stmt} {ps ks : List Str} {sp : Sp} {p pos : Pos} {e : Expr} {es : List Expr} {t tk : TA} {kws : List Keyword} {gV : List V → List V}
theorem pe_c (c : Cl X.prog X.w X.K X.mg X.base k x st ps sp) (hr : Room j X.A) (hk : k ≤ j) (hg : Gl X x) (ha : PA X (e :: es) t)
    (hdb : (x == ("__debug__" : Str)) = false := by decide) (he : starEach (e :: es) X.env = (false, eval e X.env) :: starEach es X.env := by rfl) (hpl : (backTo pos (starEach es X.env)).any (·.1) = false := by rfl) :
    PE X (.Call (.Name x p) (e :: es) [] pos) (tCall sp [] E0 t) := by
  obtain ⟨f, fd, F0, F, hm, b⟩ := c.ex
  exact pe_call F (hr.mono hk) hg hm F0.kp b .nil pass0 ha hdb he hpl
theorem pe_c0 (c : Cl X.prog X.w X.K X.mg X.base k x st ps sp) (hr : Room j X.A) (hk : k ≤ j) (hg : Gl X x) (hdb : (x == ("__debug__" : Str)) = false := by decide) :
    PE X (.Call (.Name x p) [] [] pos) (tCall sp [] E0 tNil) := by
  obtain ⟨f, fd, F0, F, hm, b⟩ := c.ex
  exact pe_call0 F (hr.mono hk) hg hm F0.kp b .nil pass0 hdb
/-- f(k = v, ..) -/
def tCk (m : Nat) (sp : Sp) (gV : List V → List V) (tk : TA) : TE := fun σ H Q => tk σ H fun zs H2 => zs.length = m ∧ sp (gV zs) H2 Q E0
theorem pe_ck (c : Ck X.prog X.w X.K X.mg X.base k x ks sp gV) (hr : Room j X.A) (hk : k ≤ j) (hg : Gl X x) (hkw : PK X kws tk)
    (hall : (backToKw pos (keywordEach kws X.env)).all (·.1.isSome) = true := by rfl) (hks : (backToKw pos (keywordEach kws X.env)).filterMap (·.1) = ks := by rfl) (hdb : (x == ("__debug__" : Str)) = false := by decide)
    (hpl : ((backTo pos (starEach [] X.env)).any (·.1) || (backToKw pos (keywordEach kws X.env)).any (·.1.isNone)) = false := by rfl) :
    PE X (.Call (.Name x p) [] kws pos) (tCk ks.length sp gV tk) := by
  obtain ⟨f, fd, ps, g, F, hm, kp, b⟩ := c.ex
  refine ⟨fun pins s σ H Q I h => ?_⟩
  refine wpAny_Call_Name_kw (ld_glob I hg hm ?_ hdb)
  refine PySem.W.callWith_KW0 (h₀ := X.base) I.ok.mod.kin kp hall ?_ hpl
  refine thn (hkw.run pos pins s σ H _ I h) fun ws s2 ⟨zs, H2, I2, rz, l2, q2⟩ => ⟨I2.kIn, ?_⟩
  rw [hks]
  exact run_fnN F (hr.mono hk) b pass0 I2 .nil rz rfl l2 q2
end
section
variable {K : PySem.W.Frag} {B : Bt} {δ : List Sd} {P : D → Prop} {X : Xc}
theorem we_ck {pre : List D → Prop} {post : List D → D → Prop} {m : Nat} {gV : List V → List V} {gD : List D → List D} {tk : TA} (hg : ∀ G vs ds, Dds K B G vs ds → Dds K B G (gV vs) (gD ds)) (h : WAx K B X tk δ fun ds => ds.length = m ∧ pre (gD ds) ∧ ∀ d, post (gD ds) d → P d) : WEx K B X (tCk m (SpD K pre post) gV tk) δ P := fun G0 H0 σ G H Q s xx q =>
  h G0 H0 σ G H _ s xx fun vs ds G1 H1 g1 o1 hs ⟨l, p, mm⟩ =>
    ⟨hs.length.trans l, B, G1, gD ds, o1, hg _ _ _ hs, p, fun v d G2 H2 g2 o2 hd pd => (q.on g1 o1) v d G2 H2 g2 o2 hd (mm d pd)⟩
end
end Dl
namespace Dl
open PySem PySem.Spec PyProof.Rows L2
section
variable {K : PySem.W.Frag} {B : Bt} {P : D → Prop} {a : D}
def isInt : D → Bool | .int _ => true | .bl _ => true | _ => false
def isBool : D → Bool | .bl _ => true | _ => false
def isStr : D → Bool | .str _ => true | _ => false
def isTup : D → Bool | .tup _ => true | _ => false
def isLst : D → Bool | .lst _ => true | .box => true | _ => false
def isDic : D → Bool | .dic _ _ => true | _ => false
theorem rc_int (nc : a.isCls = false) (p : P (.bl (isInt a))) : RC K B (rIsi K) [a, .cls "int"] P := by
  cases a <;> first | (exact Bool.noConfusion nc) | exact rc_isi rfl (by dsimp only [D.tyn, isInt, isBool, isStr, isTup, isLst, isDic]; decide +kernel) p
theorem rc_bool (nc : a.isCls = false) (p : P (.bl (isBool a))) : RC K B (rIsi K) [a, .cls "bool"] P := by
  cases a <;> first | (exact Bool.noConfusion nc) | exact rc_isi rfl (by dsimp only [D.tyn, isInt, isBool, isStr, isTup, isLst, isDic]; decide +kernel) p
theorem rc_str (nc : a.isCls = false) (p : P (.bl (isStr a))) : RC K B (rIsi K) [a, .cls "str"] P := by
  cases a <;> first | (exact Bool.noConfusion nc) | exact rc_isi rfl (by dsimp only [D.tyn, isInt, isBool, isStr, isTup, isLst, isDic]; decide +kernel) p
theorem rc_tuple (nc : a.isCls = false) (p : P (.bl (isTup a))) : RC K B (rIsi K) [a, .cls "tuple"] P := by
  cases a <;> first | (exact Bool.noConfusion nc) | exact rc_isi rfl (by dsimp only [D.tyn, isInt, isBool, isStr, isTup, isLst, isDic]; decide +kernel) p
theorem rc_list (nc : a.isCls = false) (p : P (.bl (isLst a))) : RC K B (rIsi K) [a, .cls "list"] P := by
  cases a <;> first | (exact Bool.noConfusion nc) | exact rc_isi rfl (by dsimp only [D.tyn, isInt, isBool, isStr, isTup, isLst, isDic]; decide +kernel) p
theorem rc_dict (nc : a.isCls = false) (p : P (.bl (isDic a))) : RC K B (rIsi K) [a, .cls "dict"] P := by
  cases a <;> first | (exact Bool.noConfusion nc) | exact rc_isi rfl (by dsimp only [D.tyn, isInt, isBool, isStr, isTup, isLst, isDic]; decide +kernel) p
theorem rc_lt (nc : a.isCls = false) (p : P (.bl (isLst a || isTup a))) : RC K B (zIsi2 K) [a, .tup [.cls "list", .cls "tuple"]] P := by
  cases a <;> first | (exact Bool.noConfusion nc) | exact rc_isi2 rfl (by dsimp only [D.tyn, isLst, isTup]; decide +kernel) (by dsimp only [D.tyn, isLst, isTup]; decide +kernel) p
theorem rc_allf {f : D → Bool} {xs : List D} (p : P (.bl (xs.all f))) : RC K B (rAll K) [.lst (xs.map fun d => .bl (f d))] P := by
  have e : (xs.map fun d => D.bl (f d)) = (xs.map f).map D.bl := by rw [List.map_map]; rfl
  rw [e]
  refine rc_all ?_
  rw [List.all_map]
  exact p
theorem ro_inC {c : Nat} {z : Str} (p : P (.bl (decide (c ∈ z.cps.toList)))) : RO K B (fun x y H Q => ∃ (c : Nat) (z : Str), x = .str ⟨#[c]⟩ ∧ y = .str z ∧ Q (.bl (decide (c ∈ z.cps.toList))) H) (.str ⟨#[c]⟩) (.str z) P := fun _ _ _ _ _ o hx hy q => by
  cases hx; cases hy
  exact ⟨c, z, rfl, rfl, q.nil o (.bl _) p⟩
variable {δ : List Sd} {X : Xc}
theorem we_callF {pre : List D → Prop} {F : List D → D} {E : XK} {t : TA} (h : WAx K B X t δ fun ds => pre ds ∧ P (F ds)) : WEx K B X (tCall (SpD K pre fun ds r => r = F ds) [] E t) δ P := we_call fun G0 H0 σ G H Q s xx q => h G0 H0 σ G H Q s xx fun vs ds G1 H1 g o hs ⟨a, b⟩ => q vs ds G1 H1 g o hs ⟨a, fun _ e => e ▸ b⟩
def p1 (q : D → Prop) : List D → Prop | [d] => q d | _ => False
def p2 (q : D → D → Prop) : List D → Prop | [a, b] => q a b | _ => False
def p3 (q : D → D → D → Prop) : List D → Prop | [a, b, c] => q a b c | _ => False
def f1 (f : D → D) : List D → D | [d] => f d | _ => .non
def f2 (f : D → D → D) : List D → D | [a, b] => f a b | _ => .non
def f3 (f : D → D → D → D) : List D → D | [a, b, c] => f a b c | _ => .non
theorem p1_len {q : D → Prop} : ∀ ds, p1 q ds → ds.length = 1 | [_], _ => rfl
theorem p2_len {q : D → D → Prop} : ∀ ds, p2 q ds → ds.length = 2 | [_, _], _ => rfl
theorem p3_len {q : D → D → D → Prop} : ∀ ds, p3 q ds → ds.length = 3 | [_, _, _], _ => rfl
theorem p1_ex {q : D → Prop} : ∀ {ds}, p1 q ds → ∃ d, ds = [d] ∧ q d | [d], h => ⟨d, rfl, h⟩
theorem p2_ex {q : D → D → Prop} : ∀ {ds}, p2 q ds → ∃ a b, ds = [a, b] ∧ q a b | [a, b], h => ⟨a, b, rfl, h⟩
theorem p3_ex {q : D → D → D → Prop} : ∀ {ds}, p3 q ds → ∃ a b c, ds = [a, b, c] ∧ q a b c | [a, b, c], h => ⟨a, b, c, rfl, h⟩
end
end Dl
/-! Local lists that are changed: a slot of the kind own. -/
namespace Dl
open PySem L2
section
variable {K : PySem.W.Frag} {B : Bt} {G G1 H H1 G0 H0 : Hp} {σ : L2.St} {δ : List Sd} {P : D → Prop} {ta tb te : TE} {O : Out} {X : Xc}
theorem own_set (i j : Nat) (x : Sd) (δ : List Sd) {ds : List D} (h : (δ.set i x)[j]? = some (.own ds)) : (i = j ∧ x = .own ds ∧ i < δ.length) ∨ (i ≠ j ∧ δ[j]? = some (.own ds)) := by
  rw [List.getElem?_set] at h
  by_cases ij : i = j
  · rw [if_pos ij] at h
    split at h
    · rename_i hl
      exact .inl ⟨ij, Option.some.inj h, by omega⟩
    · cases h
  · rw [if_neg ij] at h
    exact .inr ⟨ij, h⟩
/-- a new list in a slot -/
theorem Stt.setOwn {p : Addr} {vs : List V} {ds : List D} (s : Stt K B G0 H0 G H σ δ) (i : Nat) (hp : H p = none) (h0 : ∀ o, nt o → H0 p ≠ some o) (hd : Dds K B G vs ds) : Stt K B G0 H0 G (upd H p (.lst vs)) (σ.set i (some (.ref p))) (δ.set i (.own ds)) := by
  have nb := s.ok.neB hp
  have s2 := s.on (loose_go s.ok (x := .lst vs) hp) (loose_ok s.ok hp)
  have old : ∀ (j : Nat) es a, δ[j]? = some (.own es) → σ[j]? = some (some (.ref a)) → a ≠ p := fun j es a h1 h2 e => by
    obtain ⟨b, ws, e1, _, _, _, e2, _⟩ := s.own j es h1
    rw [h2] at e1
    cases e1
    rw [e, hp] at e2
    cases e2
  refine ⟨s2.go, s2.ok, by rw [List.length_set, List.length_set, s.len], fun j d h => ?_, fun j es h => ?_, fun j l es fs a h1 h2 h3 h4 => ?_⟩
  · rw [List.getElem?_set] at h
    by_cases ij : i = j
    · rw [if_pos ij] at h; split at h <;> cases h
    · rw [if_neg ij] at h
      obtain ⟨v, e1, e2⟩ := s.val j d h
      exact ⟨v, by rw [List.getElem?_set, if_neg ij]; exact e1, e2⟩
  · rcases own_set i j _ δ h with ⟨ij, e, hl⟩ | ⟨ij, e⟩
    · cases e
      exact ⟨p, vs, by rw [List.getElem?_set, if_pos ij, if_pos (by rw [s.len]; omega)], nb, h0, s.ok.fresh hp, upd_same, hd⟩
    · obtain ⟨a, ws, e1, e2⟩ := s2.own j es e
      exact ⟨a, ws, by rw [List.getElem?_set, if_neg ij]; exact e1, e2⟩
  · rw [List.getElem?_set] at h3 h4
    rcases own_set i j _ δ h1 with ⟨ij, _, _⟩ | ⟨ij, e1⟩
    · rcases own_set i l _ δ h2 with ⟨il, _, _⟩ | ⟨il, e2⟩
      · exact ij.symm.trans il
      · rw [if_pos ij] at h3
        rw [if_neg il] at h4
        split at h3
        · cases h3; exact absurd rfl (old l fs _ e2 h4)
        · cases h3
    · rcases own_set i l _ δ h2 with ⟨il, _, _⟩ | ⟨il, e2⟩
      · rw [if_pos il] at h4
        rw [if_neg ij] at h3
        split at h4
        · cases h4; exact absurd rfl (old j es _ e1 h3)
        · cases h4
      · rw [if_neg ij] at h3
        rw [if_neg il] at h4
        exact s.apart j l es fs a e1 e2 h3 h4
theorem ws_setOwn {i : Nat} {t : TA} (h : WAx K B O.x t δ fun ds => ds.length ≤ 1000 ∧ O.nx (δ.set i (.own ds))) : WS K B (tAsg (tLst t) (gName i)) δ O := fun G0 H0 σ G H E s xx n _ _ _ =>
  h G0 H0 σ G H _ s (xx.ct s) fun vs ds G1 H1 g o hs ⟨l, p⟩ => ⟨by rw [hs.length]; exact sz1000 l, fun a ha => by
    have s1 := s.on g o
    have h0 : ∀ u, nt u → H0 a ≠ some u := fun u ht q => by
      by_cases e : a = B.a
      · exact absurd ha (e ▸ o.hb)
      · rw [s1.go.k a u e ht q] at ha; cases ha
    exact n _ _ G1 _ g.s (s1.setOwn i ha h0 hs) p⟩
/-- len, an item, a slice of it -/
theorem we_ownLen {i : Nat} {ds : List D} (h : δ[i]? = some (.own ds)) (p : P (.int (ds.length : Int))) : WEx K B X (tCB (fun xs H Q => ∃ x n, xs = [x] ∧ LenV K x H n ∧ Q (.int n) H) (tCons (tVar i) tNil)) δ P := fun _ _ _ _ _ _ s _ q => by
  obtain ⟨a, vs, e1, _, _, _, e2, e3⟩ := s.own i ds h
  refine ⟨_, e1, _, _, rfl, .inl ⟨_, SqL.of e2, rfl⟩, ?_⟩
  rw [e3.length]
  exact q.nil s.ok (.int _) p
theorem we_ownIx {i : Nat} {ds : List D} (h : δ[i]? = some (.own ds)) (hb : WEx K B X tb δ fun d => ∃ j x, d = .int j ∧ atI ds j = some x ∧ P x) : WEx K B X (tOp (rIxL K) (tVar i) tb) δ P := fun G0 H0 σ G H Q s xx q => by
  obtain ⟨a, vs, e1, nb, _, _, e2, e3⟩ := s.own i ds h
  refine ⟨_, e1, hb G0 H0 σ G H _ s xx fun y d G1 H1 g1 o1 hy ⟨j, x, ed, ea, p⟩ => ?_⟩
  subst ed
  cases hy
  obtain ⟨v, h1, h2⟩ := atI_dd (e3.mono g1.s) ea
  exact ⟨a, vs, j, v, rfl, rfl, SqL.of (g1.k a _ nb nt_lst e2), h1, (q.on g1 o1).nil o1 h2 p⟩
theorem we_ownSl {i : Nat} {ds : List D} {tl th : TO} (h : δ[i]? = some (.own ds)) (hb : WOx K B X tl δ fun lo => WOx K B X th δ fun hi => P (.lst (cutD ds lo hi))) : WEx K B X (tSl (rSlL K) (tVar i) tl th) δ P := fun G0 H0 σ G H Q s xx q => by
  obtain ⟨a, vs, e1, nb, _, _, e2, e3⟩ := s.own i ds h
  refine ⟨_, e1, hb G0 H0 σ G H _ s xx fun lo G1 H1 g1 o1 w => w G0 H0 σ G1 H1 _ (s.on g1 o1) (xx.on g1 o1) fun hi G2 H2 g2 o2 p => ?_⟩
  have g := g1.trans o1 g2
  exact ⟨a, vs, rfl, SqL.of (g.k a _ nb nt_lst e2), fun r hr => (q.on g o2).new o2 nt_lst hr (.lst upd_same ((cutV_dd (e3.mono g.s)).mono (same_upd (o2.fresh hr)))) p⟩
/-- it is handed back -/
theorem ws_retOwn {i : Nat} {ds : List D} (h : δ[i]? = some (.own ds)) (p : O.ro ds) : WS K B (tRet (tVar i)) δ O := fun G0 H0 σ G H E s _ _ r _ _ => by
  obtain ⟨a, vs, e1, nb, e0, eg, e2, e3⟩ := s.own i ds h
  exact ⟨_, e1, r.2 a vs ds G H s.go s.ok nb e0 eg e2 e3 p⟩
/-- .. as a value -/
theorem ws_retOwnV {i : Nat} {ds : List D} (h : δ[i]? = some (.own ds)) (p : O.rt (.lst ds)) : WS K B (tRet (tVar i)) δ O := fun G0 H0 σ G H E s _ _ r _ _ => by
  obtain ⟨a, vs, e1, nb, e0, eg, e2, e3⟩ := s.own i ds h
  refine ⟨_, e1, r.1 (.ref a) (.lst ds) (upd G a (.lst vs)) H ⟨s.go.s.trans (same_upd eg), s.go.k, fun x u ht hx hg => ?_, s.go.c⟩ (freeze_ok s.ok nt_lst nb eg e2) (.lst upd_same (e3.mono (same_upd eg))) p⟩
  have ne : x ≠ a := fun e => e0 u ht (e ▸ hx)
  rw [upd_ne ne]
  exact s.go.n x u ht hx hg
/-- x = f(..), f handing back a new list -/
theorem Stt.tookOwn {a : Addr} {vs : List V} {ds : List D} (s : Stt K B G0 H0 G H σ δ) (i : Nat) (nb : a ≠ B.a) (h0 : ∀ o, nt o → H0 a ≠ some o) (ga : G a = none) (ha : H a = some (.lst vs)) (hd : Dds K B G vs ds) (old : ∀ (j : Nat) es b, δ[j]? = some (.own es) → σ[j]? = some (some (.ref b)) → b ≠ a) : Stt K B G0 H0 G H (σ.set i (some (.ref a))) (δ.set i (.own ds)) := by
  refine ⟨s.go, s.ok, by rw [List.length_set, List.length_set, s.len], fun j d h => ?_, fun j es h => ?_, fun j l es fs b h1 h2 h3 h4 => ?_⟩
  · rw [List.getElem?_set] at h
    by_cases ij : i = j
    · rw [if_pos ij] at h; split at h <;> cases h
    · rw [if_neg ij] at h
      obtain ⟨v, e1, e2⟩ := s.val j d h
      exact ⟨v, by rw [List.getElem?_set, if_neg ij]; exact e1, e2⟩
  · rcases own_set i j _ δ h with ⟨ij, e, hl⟩ | ⟨ij, e⟩
    · cases e
      exact ⟨a, vs, by rw [List.getElem?_set, if_pos ij, if_pos (by rw [s.len]; omega)], nb, h0, ga, ha, hd⟩
    · obtain ⟨b, ws, e1, e2⟩ := s.own j es e
      exact ⟨b, ws, by rw [List.getElem?_set, if_neg ij]; exact e1, e2⟩
  · rw [List.getElem?_set] at h3 h4
    rcases own_set i j _ δ h1 with ⟨ij, _, _⟩ | ⟨ij, e1⟩
    · rcases own_set i l _ δ h2 with ⟨il, _, _⟩ | ⟨il, e2⟩
      · exact ij.symm.trans il
      · rw [if_pos ij] at h3
        rw [if_neg il] at h4
        split at h3
        · cases h3; exact absurd rfl (old l fs _ e2 h4)
        · cases h3
    · rcases own_set i l _ δ h2 with ⟨il, _, _⟩ | ⟨il, e2⟩
      · rw [if_pos il] at h4
        rw [if_neg ij] at h3
        split at h4
        · cases h4; exact absurd rfl (old j es _ e1 h3)
        · cases h4
      · rw [if_neg ij] at h3
        rw [if_neg il] at h4
        exact s.apart j l es fs b e1 e2 h3 h4
theorem ws_setN {i : Nat} {pre : List D → Prop} {post : List D → List D → Prop} {E : XK} {t : TA} (h : WAx K B O.x t δ fun ds => pre ds ∧ ∀ es, post ds es → O.nx (δ.set i (.own es))) : WS K B (tAsg (tCall (SpN K pre post) [] E t) (gName i)) δ O := fun G0 H0 σ G H E' s xx n _ _ _ =>
  h G0 H0 σ G H _ s (xx.ct s) fun vs ds G1 H1 g1 o1 hs ⟨p, m⟩ => by
    rw [List.append_nil]
    refine ⟨B, G1, ds, o1, hs, p, fun a ws es G2 H2 g2 o2 nb fr ga ha hd pe => ?_⟩
    have s1 := s.on g1 o1
    have s2 := s1.on g2 o2
    have fr0 : ∀ o, nt o → H0 a ≠ some o := fun o ht e => fr o ht (s1.go.k a o nb ht e)
    refine n _ _ G2 H2 (g1.s.trans g2.s) (s2.tookOwn i nb fr0 ga ha hd fun j fs b e1 e2 eb => ?_) (m es pe)
    obtain ⟨b', us, f1, f2, f3, f4, f5, f6⟩ := s1.own j fs e1
    rw [e2] at f1
    cases f1
    exact fr _ nt_lst (eb ▸ f5)
/-- it is written anew -/
theorem Stt.putOwn {i : Nat} {a : Addr} {vs vs' : List V} {ds ds' : List D} (s : Stt K B G0 H0 G H σ δ) (h : δ[i]? = some (.own ds)) (ha : σ[i]? = some (some (.ref a))) (hd : Dds K B G vs' ds') : Stt K B G0 H0 G (upd H a (.lst vs')) σ (δ.set i (.own ds')) := by
  obtain ⟨a', ws, e1, nb, e0, eg, e2, e3⟩ := s.own i ds h
  rw [ha] at e1
  cases e1
  have hl : i < δ.length := (List.getElem?_eq_some_iff.mp h).1
  refine ⟨⟨s.go.s, fun x u ne ht e => ?_, s.go.n, fun c r e => ?_⟩, write_ok s.ok e2 eg nb, by rw [List.length_set]; exact s.len, fun j d e => ?_, fun j es e => ?_, fun j l es fs x h1 h2 h3 h4 => ?_⟩
  · rw [upd_ne (fun q => e0 u ht (by rw [← q]; exact e))]
    exact s.go.k x u ne ht e
  · rw [upd_ne nb.symm]
    exact s.go.c c r e
  · rw [List.getElem?_set] at e
    by_cases ij : i = j
    · rw [if_pos ij] at e; split at e <;> cases e
    · rw [if_neg ij] at e
      exact s.val j d e
  · rcases own_set i j _ δ e with ⟨ij, e', _⟩ | ⟨ij, e'⟩
    · cases e'
      exact ⟨a, vs', by rw [← ij]; exact ha, nb, e0, eg, upd_same, hd⟩
    · obtain ⟨b, us, f1, f2, f3, f4, f5, f6⟩ := s.own j es e'
      have nba : b ≠ a := fun eb => ij (s.apart i j ds es a h e' ha (eb ▸ f1))
      exact ⟨b, us, f1, f2, f3, f4, by rw [upd_ne nba]; exact f5, f6⟩
  · rcases own_set i j _ δ h1 with ⟨ij, _, _⟩ | ⟨ij, e1⟩
    · rcases own_set i l _ δ h2 with ⟨il, _, _⟩ | ⟨il, e2'⟩
      · exact ij.symm.trans il
      · rw [← ij] at h3 ⊢
        exact s.apart i l ds fs x h e2' h3 h4
    · rcases own_set i l _ δ h2 with ⟨il, _, _⟩ | ⟨il, e2'⟩
      · rw [← il] at h4 ⊢
        exact s.apart j i es ds x e1 h h3 h4
      · exact s.apart j l es fs x e1 e2' h3 h4
theorem ws_append {i : Nat} {ds : List D} {T : String} (hT : T = "list") (h : δ[i]? = some (.own ds)) (l : ds.length < 1000) (he : WEx K B O.x te δ fun d => O.nx (δ.set i (.own (ds ++ [d])))) : WS K B (tDrop (tBM K T rAppend (tVar i) (tCons te tNil))) δ O := fun G0 H0 σ G H E s xx n _ _ _ => by
  obtain ⟨a, vs, e1, nb, e0, eg, e2, e3⟩ := s.own i ds h
  refine ⟨_, e1, .inl ⟨hT, _, SqL.of e2⟩, he G0 H0 σ G H _ s (xx.ct s) fun v d G1 H1 g o hd p => ?_⟩
  have s1 := s.on g o
  have h1 := g.k a _ nb nt_lst e2
  refine ⟨a, vs, v, rfl, rfl, h1, Nat.lt_of_le_of_lt (by rw [e3.length]; omega : vs.length ≤ 1000) (by decide), ?_⟩
  exact n _ _ G1 _ g.s (s1.putOwn h e1 ((e3.mono g.s).append (.cons hd .nil)) (vs := vs)) p
theorem ws_insert {i : Nat} {ds : List D} {T : String} (hT : T = "list") (h : δ[i]? = some (.own ds)) (l : ds.length < 1000) (ha : WEx K B O.x ta δ fun d => ∃ j : Nat, d = .int (j : Int) ∧ j ≤ 1000 ∧ WEx K B O.x te δ fun x => O.nx (δ.set i (.own (ds.take j ++ [x] ++ ds.drop j)))) :
    WS K B (tDrop (tBM K T (fun x vs H Q => ∃ (l : Addr) (xs : List V) (i : Int) (y : V), x = .ref l ∧ vs = [.int i, y] ∧ H l = some (.lst xs) ∧ xs.length < sizeLine ∧ 0 ≤ i ∧ i < 2 ^ 63 ∧ Q .non (upd H l (.lst (xs.take i.toNat ++ [y] ++ xs.drop i.toNat)))) (tVar i) (tCons ta (tCons te tNil)))) δ O := fun G0 H0 σ G H E s xx n _ _ _ => by
  obtain ⟨a, vs, e1, nb, e0, eg, e2, e3⟩ := s.own i ds h
  refine ⟨_, e1, .inl ⟨hT, _, SqL.of e2⟩, ha G0 H0 σ G H _ s (xx.ct s) fun v d G1 H1 g1 o1 hd ⟨j, ej, hj, w⟩ => ?_⟩
  subst ej
  cases hd
  refine w G0 H0 σ G1 H1 _ (s.on g1 o1) ((xx.ct s).on g1 o1) fun y x G2 H2 g2 o2 hy p => ?_
  have g := g1.trans o1 g2
  have s2 := s.on g o2
  refine ⟨a, vs, (j : Int), y, rfl, rfl, g.k a _ nb nt_lst e2, Nat.lt_of_le_of_lt (by rw [e3.length]; omega : vs.length ≤ 1000) (by decide), by omega, by omega, ?_⟩
  have ed := e3.mono g.s
  have hn := s2.putOwn h e1 (((ed.take j).append (.cons hy .nil)).append (ed.drop j)) (vs := vs)
  rw [Int.toNat_natCast]
  exact n _ _ G2 _ g.s hn p
/-- a frozen list is let go: back to what is not frozen -/
theorem melt {a : Addr} {vs : List V} (o1 : Ok B G H) (nb : a ≠ B.a) (eg : G a = none) (e2 : H a = some (.lst vs)) (g2 : Go B (upd G a (.lst vs)) H G1 H1) (o2 : Ok B G1 H1) : ∃ G3, Go B G H G3 H1 ∧ Ok B G3 H1 := by
  have sf : Same G (upd G a (.lst vs)) := same_upd eg
  let G3 : Hp := fun x => if x = a then none else G1 x
  have sub : Same G3 G1 := fun x u e => by
    by_cases ex : x = a
    · have e' : (if x = a then none else G1 x) = some u := e
      rw [if_pos ex] at e'; cases e'
    · have e' : (if x = a then none else G1 x) = some u := e
      rw [if_neg ex] at e'; exact e'
  have at3 : ∀ x, x ≠ a → G3 x = G1 x := fun x ex => if_neg ex
  refine ⟨G3, ⟨fun x u e => ?_, g2.k, fun x u ht hx hg => ?_, g2.c⟩, ⟨sub.trans o2.u, by rw [at3 B.a nb.symm]; exact o2.b, ?_, o2.t, fun x u e => o2.f x u (sub x u e)⟩⟩
  · rw [at3 x (ne_of_none e eg)]; exact g2.s x u (sf x u e)
  · by_cases ex : x = a
    · exact if_pos ex
    · rw [at3 x ex]; exact g2.n x u ht hx (by rw [upd_ne ex]; exact hg)
  · obtain ⟨c, cells, p, r, m, n, hB, hc, w⟩ := o2.x
    obtain ⟨c1, cells1, p1, r1, m1, n1, hB1, hc1, _⟩ := o1.x
    obtain ⟨r', hB'⟩ := g2.c c1 _ hB1
    rw [hB] at hB'
    have ec : c = c1 := by
      have := HO.lst.inj (Option.some.inj hB')
      exact V.ref.inj (List.cons.inj this).1
    have nca : c ≠ a := by rw [ec]; exact ne_of_none hc1 eg
    exact ⟨c, cells, p, r, m, n, hB, by rw [at3 c nca]; exact hc, w⟩
theorem dd_flat {v : V} {d : D} (hv : v = d.v) (hf : d.flat = true) : Dd K B G v d := by
  rw [hv]
  cases d <;> first | exact .non | exact .bl _ | exact .int _ | exact .str _ | cases hf
/-- it is handed to a def that answers by something flat -/
theorem we_callOwn {i : Nat} {ds : List D} {pre : List D → Prop} {post : List D → D → Prop} {E : XK} {tr : TA} (h : δ[i]? = some (.own ds)) (hr : WAx K B X tr δ fun es => pre (.lst ds :: es) ∧ ∀ d, post (.lst ds :: es) d → d.flat = true ∧ P d) : WEx K B X (tCall (SpD K pre post) [] E (tCons (tVar i) tr)) δ P := fun G0 H0 σ G H Q s xx q => by
  obtain ⟨a, vs, e1, nb, e0, eg, e2, e3⟩ := s.own i ds h
  refine ⟨_, e1, hr G0 H0 σ G H _ s xx fun ws es G1 H1 g1 o1 hs ⟨hp, hq⟩ => ?_⟩
  have h1 : H1 a = some (.lst vs) := g1.k a _ nb nt_lst e2
  have hg1 : G1 a = none := g1.n a _ nt_lst e2 eg
  have sf : Same G1 (upd G1 a (.lst vs)) := same_upd hg1
  show SpD K pre post ((V.ref a :: ws) ++ []) H1 Q E
  rw [List.append_nil]
  refine ⟨B, upd G1 a (.lst vs), .lst ds :: es, freeze_ok o1 nt_lst nb hg1 h1, .cons (.lst upd_same ((e3.mono g1.s).mono sf)) (hs.mono sf), hp, fun v d G2 H2 g2 o2 hd pd => ?_⟩
  obtain ⟨hf, hP⟩ := hq d pd
  obtain ⟨G3, go3, ok3⟩ := melt o1 nb hg1 h1 g2 o2
  exact (q.on g1 o1) v d G3 H2 go3 ok3 (dd_flat (hd.flat hf) hf) hP
end
end Dl
/-! Dr: an expression that only reads a local list: the list is frozen for as long as the expression runs. -/
namespace Dl
open PySem L2
section
variable {K : PySem.W.Frag} {B : Bt} {G H : Hp} {δ : List Sd} {P : D → Prop} {te : TE} {X : Xc}
theorem Stt.frz {G0 H0 : Hp} {σ : L2.St} {i : Nat} {ds : List D} {a : Addr} {vs : List V} (s : Stt K B G0 H0 G H σ δ) (h : δ[i]? = some (.own ds)) (e1 : σ[i]? = some (some (.ref a))) (nb : a ≠ B.a) (e0 : ∀ o, nt o → H0 a ≠ some o) (eg : G a = none) (e2 : H a = some (.lst vs)) (e3 : Dds K B G vs ds) : Stt K B G0 H0 (upd G a (.lst vs)) H σ (δ.set i (.val (.lst ds))) := by
  have sf : Same G (upd G a (.lst vs)) := same_upd eg
  have off : ∀ (j : Nat) es, (δ.set i (.val (.lst ds)))[j]? = some (.own es) → i ≠ j ∧ δ[j]? = some (.own es) := fun j es hj => by
    rw [List.getElem?_set] at hj
    by_cases ij : i = j
    · rw [if_pos ij] at hj
      split at hj <;> cases hj
    · rw [if_neg ij] at hj
      exact ⟨ij, hj⟩
  refine ⟨⟨s.go.s.trans sf, s.go.k, fun x u ht hx hg => ?_, s.go.c⟩, freeze_ok s.ok nt_lst nb eg e2, by rw [List.length_set, s.len], fun j d hj => ?_, fun j es hj => ?_, fun j l ds1 es1 b h1 h2 h3 h4 => ?_⟩
  · have ne : x ≠ a := fun e => e0 u ht (e ▸ hx)
    rw [upd_ne ne]
    exact s.go.n x u ht hx hg
  · rw [List.getElem?_set] at hj
    by_cases ij : i = j
    · rw [if_pos ij] at hj
      split at hj
      · cases hj
        exact ⟨_, ij ▸ e1, .lst upd_same (e3.mono sf)⟩
      · cases hj
    · rw [if_neg ij] at hj
      obtain ⟨v, q1, q2⟩ := s.val j d hj
      exact ⟨v, q1, q2.mono sf⟩
  · obtain ⟨ij, hj⟩ := off j es hj
    obtain ⟨b, ws, q1, q2, q3, q4, q5, q6⟩ := s.own j es hj
    have ne : b ≠ a := fun e => ij (s.apart i j ds es a h hj e1 (e ▸ q1))
    exact ⟨b, ws, q1, q2, q3, by rw [upd_ne ne]; exact q4, q5, q6.mono sf⟩
  · exact s.apart j l ds1 es1 b (off j _ h1).2 (off l _ h2).2 h3 h4
theorem we_frz {i : Nat} {ds : List D} (h : δ[i]? = some (.own ds)) (w : WE K B te (δ.set i (.val (.lst ds))) fun d => d.flat = true ∧ P d) : WEx K B X te δ P := fun G0 H0 σ G H Q s xx q => by
  obtain ⟨a, vs, e1, nb, e0, eg, e2, e3⟩ := s.own i ds h
  refine w G0 H0 σ _ H _ (s.frz h e1 nb e0 eg e2 e3) ctx0 fun v d G2 H2 g2 o2 hd ⟨hf, hP⟩ => ?_
  obtain ⟨G3, go3, ok3⟩ := melt s.ok nb eg e2 g2 o2
  exact q v d G3 H2 go3 ok3 (dd_flat (hd.flat hf) hf) hP
theorem wt_frz {tt : TT} {P : Bool → Prop} {i : Nat} {ds : List D} (h : δ[i]? = some (.own ds)) (w : WT K B tt (δ.set i (.val (.lst ds))) P) : WTx K B X tt δ P := fun G0 H0 σ G H Q s xx q => by
  obtain ⟨a, vs, e1, nb, e0, eg, e2, e3⟩ := s.own i ds h
  refine w G0 H0 σ _ H _ (s.frz h e1 nb e0 eg e2 e3) ctx0 fun b G2 H2 g2 o2 hP => ?_
  obtain ⟨G3, go3, ok3⟩ := melt s.ok nb eg e2 g2 o2
  exact q b G3 H2 go3 ok3 hP
end
end Dl
/-! == of two values: scalars, or dicts of flat values -/
namespace Dl
open PySem L2
def rEqU : R2 := fun x y H Q => rEq x y H Q ∨ rEqDA x y H Q
theorem op_eqU {X : Cx} (hu : X.A.units < cLine) : OpR X (compareOp .Eq) rEqU := by
  intro pins s σ H x y v u Q I rx ry h
  rcases h with h | h
  · exact op_eq pins s σ H x y v u Q I rx ry h
  · exact op_eq_dictA hu pins s σ H x y v u Q I rx ry h
theorem u0 {k : Nat} {A : Around} (hr : Room k A) : A.units < cLine := by have := hr.un; omega
end Dl
/-! Tx: a caught exception as an object of the heap: try .. except (A, B) as n; its fields; a def that it is handed to. -/
namespace Dl
open PySem PySem.Spec PyProof.Rows L2
theorem xo_ok {P : Program} {w : World} {H : Hp} {h : Heap} {a C d : Addr} {oe : Obj} {vs : Array Value} (he : h.get? a = some oe) (hc : oe.cls = .ref C) (hd : oe.dict = some d) (hv : oe.data = .fields vs) : ObjOk P w H h a (xo a C d) :=
  ⟨⟨oe, vs, he, hc, hd, hv⟩, ⟨oe, he⟩, fun _ _ ⟨o, v, q, r⟩ k => ⟨o, v, k o q, r⟩⟩
theorem xo_nt {a C d : Addr} : nt (xo a C d) := fun ps z => by
  unfold xo at z
  cases z
theorem xd_nt {fs : List (Str × V)} : nt (.xd fs) := fun ps z => nomatch z
theorem xo_at {P : Program} {w : World} {H : Hp} {h : Heap} {a C d : Addr} (hok : HOk P w H h) (e : H a = some (xo a C d)) : ∃ (oe : Obj) (vs : Array Value), h.get? a = some oe ∧ oe.cls = .ref C ∧ oe.dict = some d ∧ oe.data = .fields vs := by
  have x : ObjOk P w H h a (.ext fun h => ∃ (oe : Obj) (vs : Array Value), h.get? a = some oe ∧ oe.cls = .ref C ∧ oe.dict = some d ∧ oe.data = .fields vs) := hok a _ e
  exact x.1
section
variable {X : Cx} {pins : List (Addr × Obj)} {σ : L2.St} {H : Hp} {s : Shared}
/-- an object that came behind the entry is tracked from now on -/
theorem Inv_track {a C d : Addr} {oe : Obj} {vs : Array Value} (I : Inv X pins σ H s) (na : H a = none) (he : s.heap.get? a = some oe) (hc : oe.cls = .ref C) (hd : oe.dict = some d) (hv : oe.data = .fields vs)
    (n0 : X.s_0.heap.get? a = none) (nL : a ≠ X.env.locals) (nP : ∀ p ∈ X.pn ++ pins, p.1 ≠ a) (nC : ∀ x c, X.env.cells.lookup x = some c → c ≠ a) : Inv X pins σ (upd H a (xo a C d)) s := by
  have ne0 : ∀ b o, X.s_0.heap.get? b = some o → b ≠ a := fun b o e z => by rw [z, n0] at e; cases e
  have sm : ∀ b u, H b = some u → b ≠ a := fun b u e => ne_of_none e na
  refine ⟨I.ok, I.os, I.bare, ⟨fun b o e n => ?_, fun b o e n => ?_, fun b o e n hx => ?_, I.base.there, fun b xs e => ?_, fun b o u e => ?_, fun b ps e => ?_⟩, I.loc, I.cell, ?_, fun x c e => ?_, fun p hp => ?_, fun b u e => ?_, I.len⟩
  · exact I.base.keep b o e n
  · exact I.base.slot b o e n
  · rw [upd_ne (ne0 b o e)]; exact I.base.free b o e n hx
  · have z := I.base.tups b xs e
    rw [upd_ne (sm b _ z)]; exact z
  · have z := I.base.frzs b o u e
    rw [upd_ne (sm b _ z)]; exact z
  · obtain ⟨m, z⟩ := I.base.tbls b ps e
    exact ⟨m, by rw [upd_ne (sm b _ z)]; exact z⟩
  · rw [upd_ne (Ne.symm nL)]; exact I.free
  · rw [upd_ne (nC x c e)]; exact I.freeC x c e
  · obtain ⟨h1, h2, h3, h4, h5⟩ := I.pin p hp
    exact ⟨h1, by rw [upd_ne (nP p hp)]; exact h2, h3, h4, h5⟩
  · by_cases hb : b = a
    · rw [hb, upd_same] at e
      cases e
      rw [hb]
      exact xo_ok he hc hd hv
    · rw [upd_ne hb] at e
      exact (I.hok b u e).stay (fun c v _ q => q) (fun c q => by rw [upd_ne (sm c _ q)]; exact q) fun c xs q => by rw [upd_ne (sm c _ q)]; exact q
theorem flyZ_keeps {B : Heap} {l : List Env} {a : Addr} {Z : Obj → Prop} {h h' : Heap} (fl : HandSPX.FlyingZ B l a Z h) (k : ∀ b o, h.get? b = some o → h'.get? b = some o) : HandSPX.FlyingZ B l a Z h' := by
  obtain ⟨f1, f2, f3, oe, vs, T, oT, ts, he, hz, hd, h1, hn, hne, hT, hdT, h3⟩ := fl
  exact ⟨fun b o q => k b o (f1 b o q), f2, f3.of_keeps fun b o q _ => ⟨o, k b o q, rfl⟩, oe, vs, T, oT, ts, k _ _ he, hz, hd, h1, hn, hne, k _ _ hT, hdT, h3⟩
theorem Inv_suite0 (I : Inv X pins σ H s) (a : Addr) : Inv (X.suite a (X.pn ++ pins)) [] σ H s :=
  ⟨I.ok.suite _ _, I.os, I.bare, I.base, I.loc, I.cell, I.free, I.freeC, fun p hp => I.pin p (by rw [List.append_nil] at hp; exact hp), I.hok, I.len⟩
theorem Inv_unsuite0 {a : Addr} {pn' : List (Addr × Obj)} (I : Inv (X.suite a (X.pn ++ pins)) pn' σ H s) (ok : X.Ok) : Inv X pins σ H s :=
  ⟨ok, I.os, I.bare, I.base, I.loc, I.cell, I.free, I.freeC, fun p hp => I.pin p (List.mem_append_left _ hp), I.hok, I.len⟩
end
/-- what the clause 'except (c1, c2) as n' wishes -/
def wTup (K : PySem.W.Frag) (c1 c2 : Value) (i : Nat) (ts : TS) (Wout : WX) (D : Ends) : WX := fun cls d σ H =>
  ∃ b, PySem.W.exmAny K cls [c1, c2] = some b ∧ (b = true → ∃ C dd, cls = .ref C ∧ d = some dd ∧ ∀ a, H a = none → ts { nx := fun σ' H' => D.nx (σ'.set i none) H', rt := D.rt, bk := fun σ' H' => D.bk (σ'.set i none) H', ct := fun σ' H' => D.ct (σ'.set i none) H' } (σ.set i (some (.ref a))) (upd H a (xo a C dd))) ∧
    (b = false → Wout cls d σ H)
section
variable {X : Cx} {x1 x2 n : Str} {c1 c2 : Value} {i kk : Nat} {body suite : List Stmt} {b₀ : Stmt} {np1 np2 tpos pos pos' : Pos} {tb : WX → TS} {ts : TS} {Wout : WX}
theorem ps_try_tup (hs : X.stack = X.env :: X.outer) (hf : X.env.frame = some X.env.locals) (hex : X.ex = []) (hN : X.N.Nodup) (hi : X.N[i]? = some n) (hln : X.env.kindOf n = some .local) (hc1 : Names X x1 c1) (hc2 : Names X x2 c2) (tk : Takes X Wout)
    (hb : ∀ (W : WX) (pn : List (Addr × Obj)) (xe : Value → Shared → Prop), Takes (X.tr pn xe) W → PassesOwn (model X.prog X.w) X.A X.env xe → PSs (X.tr pn xe) body (tb W))
    (hsu : ∀ (a : Addr) (pn : List (Addr × Obj)), PSs (X.suite a pn) (b₀ :: suite) ts) :
    PS X (.Try body [.ExceptHandler (some (.Tuple [.Name x1 np1, .Name x2 np2] kk tpos)) (some n) (b₀ :: suite) pos'] [] [] pos) (fun D σ H => tb (wTup X.K c1 c2 i ts Wout D) D σ H) := by
  refine ⟨fun pins s σ H D I h => ?_⟩
  have ok := I.ok
  have hfr : X.A.frames = some (X.env :: X.outer) := by rw [ok.frames, hs]
  have hloc : Loc X.env.scope n := .inl hln
  refine wpAny_Try_except ?_
  refine wpAny_mono ((hb (wTup X.K c1 c2 i ts Wout D) (X.pn ++ pins) (fun e s₁ => wpAny (model X.prog X.w) X.A (noteFrame e X.env) (fun _ s₂ => wpAny (model X.prog X.w) X.A (setFlight e none) (fun _ s₃ =>
    wpAny (model X.prog X.w) X.A (handleBy e X.env [.ExceptHandler (some (.Tuple [.Name x1 np1, .Name x2 np2] kk tpos)) (some n) (b₀ :: suite) pos']) (SP X pins D) X.xe s₃) X.xe s₂) X.xe s₁) (fun u s' xx => ?_) PassesOwn.looking).run [] s σ H D (I.toTry _) h) (fun f s1 hsp => ?_) (fun e s1 he => he)
  · -- the catch
    obtain ⟨a, B, sI, pins', σ', H', cls, d, rfl, J', nb, up, sky, na, os, ag, b, hb1, hyes, hno⟩ := xx
    have J : Inv X pins σ' H' sI := J'.ofTry ok
    have sky' : Sky B (X.env :: X.outer) a (Zc cls d) X.env.locals s'.heap := by rw [← hs]; exact sky
    show wpAny (model X.prog X.w) X.A (noteFrame (.ref a) X.env) _ _ _
    refine Sky.land Zc.steady hfr hf sky' fun h3 fl3 up3 => ?_
    have J3 : Inv X pins σ' H' { s' with heap := h3 } := J.landed nb fl3.1 (up.trans up3) os ag
    obtain ⟨oe3, vs3, he3, hz3, hd3⟩ := fl3.there
    have notFr : ∀ {h : Heap} {o : Obj} {vs : Array Value}, h.FunFrames B (X.env :: X.outer) → h.get? a = some o → o.data = .fields vs → a ∉ frs (X.env :: X.outer) := fun {h o vs} ff e dd hm => by
      obtain ⟨_, o', e', hnf⟩ := ff.mem hm
      rw [e] at e'; cases e'
      exact hnf _ dd
    have nfr := notFr fl3.2.2.1 he3 hd3
    have nL : a ≠ X.env.locals := fun z => nfr (List.mem_filterMap.mpr ⟨X.env, List.mem_cons_self, by rw [hf, z]⟩)
    -- it came behind the entry
    have nI : ∀ b o, sI.heap.get? b = some o → b ≠ a := fun b o e z => by
      have q := nb b o e (by rw [z, hs]; exact nfr)
      rw [z, fl3.2.1] at q; cases q
    have n0 : X.s_0.heap.get? a = none := by
      cases e : X.s_0.heap.get? a with
      | none => rfl
      | some o =>
        obtain ⟨o', q⟩ := J.base.there a o e (by rw [hex]; exact fun z => nomatch z)
        exact absurd rfl (nI a o' q)
    have nP : ∀ p ∈ X.pn ++ pins, p.1 ≠ a := fun p hp => nI p.1 p.2 (J.pin p hp).1
    have nC : ∀ x c, X.env.cells.lookup x = some c → c ≠ a := fun x c e => by
      obtain ⟨v, o, ho, _⟩ := J.cell x c e
      exact nI c o ho
    have S3 := Inv_suite0 J3 a
    refine wpAny_handleBy_cons (codeAny_handlers_test ?_) (by intro q; cases q)
    have nm : ∀ {x : Str} {c : Value} {np : Pos} {h' : Heap} {t' : Nat} {Q : Value → Shared → Prop} {E : Value → Shared → Prop}, Names X x c → Q c { s' with heap := h3 } → wpAny (model X.prog X.w) (X.A.mark (some (.ref a))) (eval (.Name x np) X.env) Q E { s' with heap := h3 } := fun {x c np h' t' Q E} hc q => by
      obtain ⟨hg, hdbg, hm | ⟨hm, hv, hnn⟩⟩ := hc
      · exact ld_glob (X := X.suite a (X.pn ++ pins)) S3 hg hm q hdbg
      · exact ld_blt (X := X.suite a (X.pn ++ pins)) S3 hg hm hv q hnn hdbg
    refine wpAny_Tuple ?_
    refine wpAny_items_cons (nm (h' := h3) (t' := 0) hc1 ?_)
    refine wpAny_items_cons (nm (h' := h3) (t' := 0) hc2 ?_)
    refine wpAny_items_nil ⟨by size_fits, ?_⟩
    have kp : ∀ q o, h3.get? q = some o → (h3.push { cls := .type "tuple", data := .seq [c1, c2].toArray }).get? q = some o := fun _ _ z => Heap.get?_push_of_some _ z
    have LT : PySem.W.Looks (model X.prog X.w) h3 (typeOf (.ref a)) cls := fun A Q E s k q => wpAny_typeOf_ref (k _ _ he3) (by rw [hz3.1]; exact q)
    refine (PySem.W.exm_tup2 (J3.kIn.keeps kp) (LT.keeps kp) (Heap.get?_push_size h3 rfl) hb1).here ?_
    have fl5 := flyZ_keeps fl3 kp
    have up5 : s'.heap.UpToSlots (h3.push { cls := .type "tuple", data := .seq [c1, c2].toArray }) := up3.trans (Heap.UpToSlots.of_keeps kp)
    cases b with
    | true =>
      obtain ⟨C, dd, eC, ed, hy2⟩ := hyes rfl
      subst eC ed
      refine codeAny_handlers_suite_as ?_
      refine HandSPX.lands_againZ fl5 fun h4 fl4 up4 => ?_
      have J4 : Inv X pins σ' H' { s' with heap := h4 } := J.landed nb fl4.1 ((up.trans up5).trans up4) os ag
      obtain ⟨oe4, vs4, he4, hz4, hd4⟩ := fl4.there
      have J5 := Inv_track J4 na he4 hz4.1 hz4.2 hd4 n0 nL nP nC
      have S4 := Inv_suite0 J5 a
      refine store_ok (X := X.suite a (X.pn ++ pins)) (v := .ref a) S4 hN hi hloc rfl (fun s5 S5 => ?_) (.inr hln)
      refine wpAny_mono ((hsu a (X.pn ++ pins)).run [] s5 _ _ _ S5 (hy2 a na)) (fun f s6 hsp => ?_) (fun _ _ z => False.elim z)
      have end_ : ∀ {σ6 : L2.St} {H6 : Hp} {Q : Shared → Prop}, Inv (X.suite a (X.pn ++ pins)) [] σ6 H6 s6 → (∀ s7, Inv X pins (σ6.set i none) H6 s7 → Q s7) →
          wpAny (model X.prog X.w) X.A (do bindName X.env n .none; unbindBehindTheSuite X.env n pos') (fun _ s7 => Q s7) X.xe s6 := fun {σ6 H6 Q} S6 hq => gone_ok (Inv_unsuite0 S6 ok) hN hi hln hq
      cases f with
      | next =>
        obtain ⟨σ6, H6, S6, q6⟩ := hsp
        exact end_ S6 fun s7 J7 => ⟨_, _, J7, q6⟩
      | brk =>
        obtain ⟨σ6, H6, S6, q6⟩ := hsp
        exact end_ S6 fun s7 J7 => ⟨_, _, J7, q6⟩
      | cont =>
        obtain ⟨σ6, H6, S6, q6⟩ := hsp
        exact end_ S6 fun s7 J7 => ⟨_, _, J7, q6⟩
      | ret u =>
        obtain ⟨v6, σ6, H6, S6, r6, q6⟩ := hsp
        exact end_ S6 fun s7 J7 => ⟨_, _, _, J7, r6, q6⟩
    | false =>
      show wpAny _ X.A (handleBy (.ref a) X.env []) _ _ _
      refine wpAny_handleBy_nil ?_
      obtain ⟨k1, k2, k3, oe, vs, T, oT, ts', he, hz, hd, h1, hr⟩ := id fl5
      unfold PySem.passOn
      refine wpAny_bind (wpAny_field he hd h1 ?_)
      rw [if_neg (show ¬ ((Value.ref T == Value.none) = true) from by simp)]
      have fin : wpAny (model X.prog X.w) X.A (setFlight (.ref a) X.env.frame) (fun _ s4 => wpAny (model X.prog X.w) X.A (throw (.ref a) : Sem Flow) (SP X pins D) X.xe s4) X.xe { s' with heap := h3.push { cls := .type "tuple", data := .seq [c1, c2].toArray } } := by
        rw [hf]
        refine HandSPX.setFlight_upZ fl5 fun h4 hh4 up4 => wpAny_throw (tk _ _ ?_)
        exact ⟨a, B, sI, pins, σ', H', cls, d, rfl, J, nb, (up.trans up5).trans up4, .inr (.inr (by rw [hs]; exact hh4)), na, os, ag, hno rfl⟩
      first
        | exact wpAny_bind (wpAny_pure (wpAny_bind fin))
        | exact wpAny_bind fin
  · cases f with
    | next =>
      obtain ⟨σ', H', J', q⟩ := hsp
      exact wpAny_execs_nil ⟨σ', H', J'.ofTry ok, q⟩
    | brk =>
      obtain ⟨σ', H', J', q⟩ := hsp
      exact ⟨σ', H', J'.ofTry ok, q⟩
    | cont =>
      obtain ⟨σ', H', J', q⟩ := hsp
      exact ⟨σ', H', J'.ofTry ok, q⟩
    | ret u =>
      obtain ⟨v, σ', H', J', r, q⟩ := hsp
      exact ⟨v, σ', H', J'.ofTry ok, r, q⟩
end
/-! ### its fields -/
/-- e.f of an exception that is tracked -/
def tXv (K : PySem.W.Frag) (f : Str) (te : TE) : TE := fun σ H Q => te σ H fun x H1 => ∃ (a C d : Addr) (fs : List (Str × V)) (v : V), x = .ref a ∧ H1 a = some (xo a C d) ∧ H1 d = some (.xd fs) ∧ fs.lookup f = some v ∧ XfC K C ∧ PySem.W.findIn K (.ref C) f = some none ∧ Q v H1
theorem pe_xv {X : Cx} {e : Expr} {te : TE} {pos : Pos} {n : Str} (he : PE X e te) (hb : attributeBase e n X.env (eval e X.env) = eval e X.env := by rfl) : PE X (.Attribute e n pos) (tXv X.K n te) := by
  refine ⟨fun pins s σ H Q I h => ?_⟩
  refine attr_of hb (thn (he.run pins s σ H _ I h) fun u s1 hh => ?_)
  obtain ⟨x, H1, I1, rx, a, C, d, fs, v, ex, ea, ed, l, T, hno, q⟩ := hh
  subst ex
  obtain rfl : u = Value.ref a := rx
  obtain ⟨oe, vs, ha, hc, hd, hf⟩ := xo_at I1.hok ea
  have hx : ObjOk X.prog X.w H1 s1.heap d (.xd fs) := I1.hok d _ ed
  obtain ⟨mA, hns, hr⟩ := hx
  obtain ⟨od, ho, hl⟩ := lookIn_ns hns
  obtain ⟨u, hu, ru⟩ := RelO.some_of (v := v) (o := mA n) (by rw [← l]; exact hr n)
  have J : PySem.W.InstAt s1.heap a oe C (some od) := ⟨ha, hc, by unfold PySem.W.notCls; rw [hf] <;> rfl, by rw [hd]; exact ho⟩
  exact HandSPX.exc_get I1.kIn J T.ga T.gg T.exC (PySem.W.findObj_own T.hdC hno rfl (by rw [hl, hu])) (handed_of ru) ⟨v, H1, I1.tok _, ru, q⟩
end Dl
/-! Ty: a def that is called while an exception is handled, and raises nothing. -/
namespace Dl
open PySem PySem.Spec PyProof.Rows L2
open L2H (RoomH roomH_of)
structure FnT (P : Program) (w : World) (K : PySem.W.Frag) (mg : Str → Option Value) (base : Heap) (k : Nat) (f : Addr) (fd : FuncData) (ps : List Str) (sp : Sp) : Prop where
  len : ∀ vs H Q E, sp vs H Q E → vs.length = ps.length
  run : ∀ (A : Around) (outer : List Env) (s : Shared) (H : Hp) (args : Args) (us : List Value) (vs : List V) (Q : VK) (E : XK), RoomH k A → Env0 P w K mg base A outer s H → BindsTo s fd args (ps.zip us) → Vals vs us → sp vs H Q E →
    codeAny (model P w) A (.call (.ref f) args) (CR L2.CX0 outer P w H s Q E) s
def cxT (P : Program) (w : World) (K : PySem.W.Frag) (mg : Str → Option Value) (base : Heap) (N : List Str) (qual : Str) (scope : Scope) (f : Addr) (cd : Value) (A : Around) (outer : List Env) (s : Shared) (H : Hp) (E : XK) : Cx :=
  { cxOf L2.CX0 P w K mg base N qual scope f cd A outer s H E with calm := false }
theorem inv_startT {P : Program} {w : World} {K : PySem.W.Frag} {mg : Str → Option Value} {base : Heap} {N ps : List Str} {qual : Str} {scope : Scope} {f : Addr} {cd : Value} {A : Around} {outer : List Env} {s s1 : Shared} {H : Hp} {E : XK} {us : List Value} {vs : List V}
    (S : FnScope N ps scope) (e0 : Env0 P w K mg base A outer s H) (hl : vs.length = ps.length) (r : Vals vs us)
    (x : InCallC s s.heap.objs.size (bindL (envOfC qual scope s.heap.objs.size f cd).kindOf (ps.zip us) fun _ => none) (cellsFrom (s.heap.objs.size + 1) scope.names []) (bindC (envOfC qual scope s.heap.objs.size f cd).kindOf (ps.zip us) fun _ => none) s1) :
    Inv (cxT P w K mg base N qual scope f cd A outer s H E) [] (L2.start N vs) H s1 := by
  have hpl : ps.length ≤ N.length := by have := congrArg List.length S.pre; rw [List.length_take] at this; omega
  obtain ⟨h1, tk, rfl, hk⟩ := x.done
  have noA : ∀ b : Addr, b ∉ (cxT P w K mg base N qual scope f cd A outer s H E).ex := fun b z => absurd (show b ∈ ([] : List Addr) from z) (by simp)
  refine ⟨⟨e0.mod, S.kind, rfl, rfl, Nat.le_refl _, fun y z c h1 h2 => ?_, fun y hy => ?_, fun y c _ h => ?_, (fun z => Bool.noConfusion (show false = true from z)), Around.frames_deeper e0.frames, .inr ⟨rfl, rfl⟩, fun b z => absurd z (noA b), e0.bs, e0.bsz, fun b _ _ => noA b, fun b z => absurd z (noA b), e0.funs, e0.frf⟩,
    rfl, e0.bare, Un.kept hk, ⟨_, x.toInCall.ns, fun i y v h1 h2 h3 => ?_⟩, fun y c h => ⟨_, x.cell y c h⟩, e0.hok.fresh (Nat.le_refl _), fun y c h => ?_, fun q hq => ?_, e0.hok.kept hk, ?_⟩
  · exact name_of_addr x.apart (PySem.mem_of_lookup h1) (PySem.mem_of_lookup h2)
  · have hy : scope.names.lookup y = some .cell ∨ scope.names.lookup y = some .free := hy
    rcases hy with hy | hy
    · exact cell_has hy
    · exact absurd rfl (S.nofree _ (PySem.mem_of_lookup hy))
  · exact Nat.le_of_lt (x.above y c (PySem.mem_of_lookup h))
  · have hi : i < vs.length := by
      unfold L2.start at h2
      by_cases hi : i < vs.length
      · exact hi
      · rw [List.getElem?_append_right (by simpa using hi)] at h2
        rw [List.getElem?_replicate] at h2
        split at h2 <;> cases h2
    have ha : vs[i]? = some v := by
      unfold L2.start at h2
      rw [List.getElem?_append_left (by simpa using hi), List.getElem?_map] at h2
      cases e : vs[i]? with
      | none => rw [e] at h2; cases h2
      | some a => rw [e] at h2; cases h2; rfl
    obtain ⟨u, hu, rv⟩ := r.get ha
    have hp : ps[i]? = some y := by
      rw [← S.pre, List.getElem?_take_of_lt (by omega)]; exact h1
    have ndP : ps.Nodup := by rw [← S.pre]; exact S.nd.sublist (List.take_sublist _ _)
    refine ⟨u, rv, ?_⟩
    rcases S.par y (List.mem_of_getElem? hp) with k | k
    · exact .inl ⟨k, bindL_get ndP hp hu k⟩
    · obtain ⟨c, e⟩ := cell_has (n := s.heap.objs.size + 1) k
      refine .inr ⟨.inl k, c, e, ?_⟩
      have q := x.cell y c e
      rw [bindC_get ndP hp hu (by show scope.names.lookup y ≠ _; rw [k]; decide)] at q
      exact q
  · exact e0.hok.fresh (Nat.le_of_lt (x.above y c (PySem.mem_of_lookup h)))
  · exact absurd (show q ∈ ([] : List (Addr × Obj)) from hq) (by simp)
  · unfold L2.start
    show _ = N.length
    rw [List.length_append, List.length_map, List.length_replicate]
    omega
theorem fn_ofT {P : Program} {w : World} {K : PySem.W.Frag} {mg : Str → Option Value} {base : Heap} {k : Nat} {f : Addr} {name qual : Str} {params : Arguments} {body : List Stmt} {scope : Scope} {dV kV doc pm cdv ct oc : Value} {an od : Option Addr}
    {osl : Array (Option Value)} {N ps : List Str} {sp : Sp} (lk : K.lookup f = some ⟨oc, od, .func (PySem.W.fnOf name qual params body scope dV kV doc pm an cdv ct), osl⟩) (hcd : PySem.W.codeIn K cdv qual = true) (S : FnScope N ps scope)
    (len : ∀ vs H Q E, sp vs H Q E → vs.length = ps.length)
    (hbody : ∀ (A : Around) (outer : List Env) (s : Shared) (H : Hp) (vs : List V) (Q : VK) (E : XK), RoomH k (A.deeper (envOfC qual scope s.heap.objs.size f cdv)) → sp vs H Q E →
      ∃ t, PSs (cxT P w K mg base N qual scope f cdv A outer s H E).nox body t ∧ t { nx := fun _ H' => Q .non H', rt := Q } (L2.start N vs) H) :
    FnT P w K mg base (k + 1) f (PySem.W.fnOf name qual params body scope dV kV doc pm an cdv ct) ps sp := by
  refine ⟨len, fun A outer s H args us vs Q E hr e0 hb r hsp => ?_⟩
  have hl := len _ _ _ _ hsp
  have KX : K.In s.heap := e0.mod.kin.keeps fun b o e => (e0.bs b o e).1
  have lim : s.heap.NoLimit := e0.mod.nolimit.keeps fun b o e => (e0.bs b o e).1
  have hkind : ∀ y ∈ ps.zip us, scope.names.lookup y.1 = some .local ∨ (scope.names.lookup y.1 = some .cell ∧ ((cellsFrom (s.heap.objs.size + 1) scope.names []).lookup y.1).isSome = true) := fun ⟨n, v⟩ hy => by
    rcases S.par n (List.of_mem_zip hy).1 with q | q
    · exact .inl q
    · exact .inr ⟨q, PySem.W.cellsFrom_some _ _ _ (.inl q)⟩
  refine codeAny_call_function hr.depth (KX _ _ lk) rfl S.co S.gen rfl (PySem.W.codeRec_of KX hcd) (hb _ _ _ _ ?_)
  refine wpAny_newFunctionEnv_cells S.kind hkind fun env he s1 x => ?_
  subst he
  refine ⟨lim.keeps x.toInCall.keep, codeAny_func ?_⟩
  obtain ⟨t, ht, hq⟩ := hbody A outer s H vs Q E (hr.deeper _) hsp
  have I : Inv (cxT P w K mg base N qual scope f cdv A outer s H E) [] (L2.start N vs) H s1 := inv_startT S e0 hl r x
  refine wpAny_mono (ht.nox.run [] s1 (L2.start N vs) H _ I hq) (fun fl s' hs => ?_) fun e s' hs => hs
  have fin : ∀ {σ' : L2.St} {H' : Hp} {v : V} {u : Value}, Inv (cxT P w K mg base N qual scope f cdv A outer s H E) [] σ' H' s' → L2.RelV v u → Q v H' → CE outer P w H s Q u s' :=
    fun {σ' H' v u} J rv q => ⟨v, H', J.os, J.bare, J.base, J.hok, rv, q⟩
  cases fl with
  | ret u =>
    obtain ⟨v, σ', H', J, rv, q⟩ := hs
    exact fin J rv q
  | next =>
    obtain ⟨σ', H', J, q⟩ := hs
    exact fin (v := V.non) (u := Value.none) J rfl q
  | brk =>
    obtain ⟨_, _, _, q⟩ := hs
    exact False.elim q
  | cont =>
    obtain ⟨_, _, _, q⟩ := hs
    exact False.elim q
section
variable {X : Cx} {k : Nat} {f : Addr} {fd : FuncData} {ps : List Str} {sp : Sp} {x : Str} {q pos : Pos} {e : Expr} {es : List Expr} {t : TA}
theorem run_fnT {pins : List (Addr × Obj)} {σ : L2.St} {H : Hp} {s : Shared} {Q : VK} {us : List Value} {vs : List V} (F : FnT X.prog X.w X.K X.mg X.base k f fd ps sp) (hr : RoomH k X.A) (hb : Binds X.K fd ps [])
    (I : Inv X pins σ H s) (r : Vals vs us) (h : sp vs H Q L2.E0) : wpAny (model X.prog X.w) X.A (call (.ref f) us) (EP X pins σ Q) X.xe s := by
  have hl : us.length = ps.length := by rw [← r.length]; exact F.len _ _ _ _ h
  have b := hb s us I.kIn (by rw [List.append_nil]; exact hl)
  rw [List.append_nil] at b
  refine wpAny_call (codeAny_mono (F.run X.A X.stack s H ⟨us, []⟩ us vs Q L2.E0 hr I.env0 b r h) fun r s' hq => ?_)
  cases r with
  | error e => exact False.elim hq
  | ok fl =>
    cases fl with
    | ret u => exact I.after hq
    | next => exact False.elim hq
    | brk => exact False.elim hq
    | cont => exact False.elim hq
theorem pe_callT (F : FnT X.prog X.w X.K X.mg X.base k f fd ps sp) (hr : RoomH k X.A) (hg : Gl X x) (hm : X.mg x = some (.ref f)) (hk : PySem.W.keepIn X.K (.ref f) = true) (hb : Binds X.K fd ps [])
    (ha : PA X (e :: es) t) (hdb : (x == ("__debug__" : Str)) = false := by decide) (he : starEach (e :: es) X.env = (false, eval e X.env) :: starEach es X.env := by rfl) (hpl : (backTo pos (starEach es X.env)).any (·.1) = false := by rfl) :
    PE X (.Call (.Name x q) (e :: es) [] pos) (tCall sp [] L2.E0 t) := by
  refine ⟨fun pins s σ H Q I h => ?_⟩
  refine wpAny_Call_Name_kw (ld_glob I hg hm ?_ hdb)
  refine PySem.W.callWith_K (h₀ := X.base) I.ok.mod.kin hk (thn (ha.run pos pins s σ H _ I h) fun us s1 ⟨vs, H1, I1, r, q⟩ => ⟨I1.kIn, ?_⟩) he hpl
  have q2 : sp vs H1 Q L2.E0 := by
    have q3 : sp (vs ++ []) H1 Q L2.E0 := q
    rw [List.append_nil] at q3
    exact q3
  exact run_fnT F hr hb I1 r q2
end
end Dl
/-! Tz: exceptions by data: raise, a def that may raise, fields of an exception, except. -/
namespace Dl
open PySem PySem.Spec PyProof.Rows L2
section
variable {K : PySem.W.Frag} {B : Bt} {G H : Hp} {δ : List Sd} {P : D → Prop} {X : Xc} {O : Out} {te : TE} {ta : TA}
theorem lookup_putD (f g : Str) (y : D) (fs : List (Str × D)) : ((f, y) :: fs).lookup g = if g = f then some y else fs.lookup g := by
  by_cases h : g = f
  · subst h
    simp [List.lookup]
  · have e : (g == f) = false := by simpa using h
    rw [if_neg h]
    simp [List.lookup, e]
theorem lookup_dd : ∀ {fs : List (Str × V)} {ds : List D} {f : Str} {x : D}, Dds K B G (fs.map (·.2)) ds → ((fs.map (·.1)).zip ds).lookup f = some x → ∃ v, fs.lookup f = some v ∧ Dd K B G v x
  | [], _, _, _, _, e => by simp at e
  | (g, v) :: fs, _, f, x, .cons h t, e => by
    rw [List.map_cons, List.zip_cons_cons, lookup_putD] at e
    rw [lookup_put]
    by_cases q : f = g
    · rw [if_pos q] at e ⊢
      cases e
      exact ⟨v, rfl, h⟩
    · rw [if_neg q] at e ⊢
      exact lookup_dd t e
/-- what is known of an own exception class: its fields may be read -/
structure XcF (K : PySem.W.Frag) (C : Addr) (fs : List Str) : Prop where
  x : XfC K C
  n : ∀ f ∈ fs, PySem.W.findIn K (.ref C) f = some none
theorem we_xv {f : Str} (h : WEx K B X te δ fun d => ∃ C ks ds x, d = .exn C ks ds ∧ (ks.zip ds).lookup f = some x ∧ (XfC K C ∧ PySem.W.findIn K (.ref C) f = some none) ∧ P x) : WEx K B X (tXv K f te) δ P := fun G0 H0 σ G H Q s xx q =>
  h G0 H0 σ G H _ s xx fun v d G1 H1 g1 o1 hv ⟨C, ks, ds, x, e, l, T, p⟩ => by
    subst e
    cases hv with
    | exn h1 h2 t =>
      obtain ⟨u, l2, hu⟩ := lookup_dd t l
      exact ⟨_, _, _, _, u, rfl, o1.u _ _ h1, o1.u _ _ h2, l2, T.1, T.2, (q.on g1 o1).nil o1 hu p⟩
/-- what an __init__ promises that stores its n arguments and a code: mk, the fields -/
def spIni (C : Addr) (n : Nat) (mk : List V → List (Str × V)) : Sp := fun vs H Q _ => ∃ (a : Addr) (ws : List V), vs = .ref a :: ws ∧ ws.length = n ∧ H a = some (exo a C none) ∧ ∀ d, H d = none → d ≠ a → Q .non (upd (upd H d (exd d (mk ws))) a (exo a C (some d)))
theorem ini_heap {H : Hp} {a C d : Addr} {fs : List (Str × V)} (na : H a = none) (nd : d ≠ a) : upd (del (upd (upd (upd H a (exo a C none)) d (exd d fs)) a (exo a C (some d))) a) d (.xd fs) = upd H d (.xd fs) := by
  funext b
  by_cases hb : b = d
  · rw [hb, upd_same, upd_same]
  · rw [upd_ne hb, upd_ne hb]
    by_cases ha : b = a
    · rw [ha, del_same, na]
    · rw [del_ne ha, upd_ne ha, upd_ne hb, upd_ne ha]
/-- raise C(e, ..) -/
theorem ws_raise {C : Addr} {n : Nat} {mk : List V → List (Str × V)} {ks : List Str} {mkD : List D → List D} (hn : n ≤ 1000) (hk : ∀ ws : List V, ws.length = n → (mk ws).map (·.1) = ks) (hm : ∀ {G : Hp} {ws : List V} {ds : List D}, Dds K B G ws ds → ws.length = n → Dds K B G ((mk ws).map (·.2)) (mkD ds))
    (h : WAx K B O.x ta δ fun ds => ds.length = n ∧ O.x.ex δ C ks (mkD ds)) : WS K B (fun _ σ H => tMkO C (spIni C n mk) [] ta σ H fun cls d H' => O.x.W cls d σ H') δ O := fun G0 H0 σ G H E s xx _ _ _ _ =>
  h G0 H0 σ G H _ s (xx.ct s) fun vs ds G1 H1 g1 o1 hs ⟨l, p⟩ => by
    have lv : vs.length = n := hs.length.trans l
    refine ⟨by omega, fun a na => ⟨a, vs, by rw [List.append_nil], lv, upd_same, fun d nd hda => ⟨rfl, d, mk vs, upd_same, ?_, ?_, ?_⟩⟩⟩
    · rw [upd_ne hda, upd_same]
    · rw [upd_ne hda] at nd; exact nd
    · rw [upd_ne hda] at nd
      rw [ini_heap na hda]
      have g2 := new_go o1 (x := .xd (mk vs)) nd
      have o2 := new_ok o1 xd_nt nd (x := .xd (mk vs))
      refine ((xx.ct s).on g1 o1) C d ks (mkD ds) _ _ g2 o2 ⟨mk vs, upd_same, hk vs lv, (hm hs lv).mono g2.s⟩ p
/-- a call that may raise -/
theorem we_callX {pre : List D → Prop} {post : List D → D → Prop} {exc : List D → Addr → List Str → List D → Prop} {t : TA} (h : WAx K B X t δ fun ds => pre ds ∧ (∀ d, post ds d → P d) ∧ ∀ C ks es, exc ds C ks es → X.ex δ C ks es) : WEx K B X (tCallS (SpX K pre post exc) (L2.WE X.W) t) δ P := fun G0 H0 σ G H Q s xx q =>
  h G0 H0 σ G H _ s xx fun vs ds G1 H1 g1 o1 hs ⟨p, m, ex⟩ =>
    ⟨B, G1, ds, o1, hs, p, fun v d G2 H2 g2 o2 hd pd => (q.on g1 o1) v d G2 H2 g2 o2 hd (m d pd), fun C d ks es G2 H2 g2 o2 hd pe => (xx.on g1 o1) C d ks es G2 H2 g2 o2 hd (ex C ks es pe)⟩
end
/-! ### defs that may raise -/
section
variable {P : Program} {w : World} {K : PySem.W.Frag} {mg : Str → Option Value} {base : Heap}
structure Clx (P : Program) (w : World) (K : PySem.W.Frag) (mg : Str → Option Value) (base : Heap) (k : Nat) (x : Str) (st : Stmt) (ps : List Str) (sp : Sp) : Prop where
  ex : ∃ (f : Addr) (fd : FuncData), Fun K x x st f fd ∧ FnOk P w K mg base (L2.CX P w) k f fd ps sp ∧ mg x = some (.ref f) ∧ Binds K fd ps []
/-- .. by keywords alone -/
structure Ckx (P : Program) (w : World) (K : PySem.W.Frag) (mg : Str → Option Value) (base : Heap) (k : Nat) (x : Str) (ks : List Str) (sp : Sp) (gV : List V → List V) : Prop where
  ex : ∃ (f : Addr) (fd : FuncData) (ps : List Str) (g : List Value → List Value), FnOk P w K mg base (L2.CX P w) k f fd ps sp ∧ mg x = some (.ref f) ∧ PySem.W.keepIn K (.ref f) = true ∧ KBn K fd ps 0 ks (fun _ ws => g ws) (fun _ zs => gV zs)
theorem clx_of {x : Str} {st : Stmt} {N ps : List Str} {k : Nat} {pre : List D → Prop} {post : List D → D → Prop} {exc : List D → Addr → List Str → List D → Prop} (F : Df K mg x st) (S : FnScope N ps (defScope st))
    (hb : ∀ (kV doc pm : Value) (an : Option Addr) (cdv ct : Value) (us : List Value), us.length = ps.length → bindArgs (PySem.W.fnOf x x (defArgs st) (defBody st) (defScope st) .none kV doc pm an cdv ct) ⟨us, []⟩ = pure (ps.zip us))
    (hl : ∀ ds, pre ds → ds.length = ps.length)
    (h : ∀ (f : Addr) (cdv : Value) (A : Around) (outer : List Env) (s : Shared) (H : Hp) (E : XK), Room k (A.deeper (envOfC x (defScope st) s.heap.objs.size f cdv)) →
      ∃ t, PSs (cxOf (L2.CX P w) P w K mg base N x (defScope st) f cdv A outer s H E) (defBody st) t ∧ ∀ B ds, pre ds → WS K B t (init N ds) { nx := fun _ => post ds .non, rt := post ds, x := { W := fun cls d _ H => E cls d H, ex := fun _ => exc ds } }) : Clx P w K mg base (k + 1) x st ps (SpX K pre post exc) := by
  obtain ⟨f, fd, F, hm⟩ := F.ex
  refine ⟨f, fd, F, F.okX S (fun vs H Q E hsp => ?_) (fun cdv A outer s H vs Q E hr hsp => ?_), hm, F.binds hb⟩
  · obtain ⟨B, G, ds, o, hs, p, q, _⟩ := hsp
    exact hs.length.trans (hl ds p)
  · obtain ⟨B, G, ds, o, hs, p, q, qx⟩ := hsp
    obtain ⟨t, ht, ww⟩ := h f cdv A outer s H E hr
    refine ⟨t, ht, ww B ds p G H _ G H _ (stt_start o hs) (fun σ1 δ1 G1 H1 m s1 C d ks es hd pe => qx C d ks es G1 H1 s1.go s1.ok hd pe) (fun σ1 δ1 G1 H1 _ s1 z => q .non .non G1 H1 s1.go s1.ok .non z) ⟨fun v d G1 H1 g o1 hd z => q v d G1 H1 g o1 hd z, fun _ _ _ _ _ _ _ _ _ _ _ _ z => z.elim⟩ (fun _ _ _ _ _ _ z => z.elim) (fun _ _ _ _ _ _ z => z.elim)⟩
theorem ckx_of {x : Str} {st : Stmt} {k : Nat} {ps ks : List Str} {sp : Sp} {gV : List V → List V} (c : Clx P w K mg base k x st ps sp) (g : List Value → List Value)
    (hb : ∀ (kV doc pm : Value) (an : Option Addr) (cdv ct : Value) (ws : List Value), ws.length = ks.length → bindArgs (PySem.W.fnOf x x (defArgs st) (defBody st) (defScope st) .none kV doc pm an cdv ct) ⟨[], ks.zip ws⟩ = pure (ps.zip (g ws)))
    (hr : ∀ {zs : List V} {ws : List Value}, Vals zs ws → Vals (gV zs) (g ws)) : Ckx P w K mg base k x ks sp gV := by
  obtain ⟨f, fd, F, G, hm, _⟩ := c.ex
  have kp := F.kp
  obtain ⟨oc, od, kV, doc, pm, an, cdv, ct, osl, rfl, lk, hcd⟩ := F.ex
  refine ⟨f, _, ps, g, G, hm, kp, ⟨fun s us ws _ l1 l2 => ?_, fun _ r => hr r⟩⟩
  have e : us = [] := List.length_eq_zero_iff.mp l1
  subst e
  exact .of_eq (hb kV doc pm an cdv ct ws l2)
end
section
variable {X : Cx} {W : WX} {k j : Nat} {x : Str} {st : Stmt} {ps ks : List Str} {sp : Sp} {p pos : Pos} {e : Expr} {es : List Expr} {t tk : TA} {kws : List Keyword} {gV : List V → List V}
theorem pe_cx (c : Clx X.prog X.w X.K X.mg X.base k x st ps sp) (tk : Takes X W) (hr : Room j X.A) (hk : k ≤ j) (hg : Gl X x) (ha : PA X (e :: es) t)
    (hdb : (x == ("__debug__" : Str)) = false := by decide) (he : starEach (e :: es) X.env = (false, eval e X.env) :: starEach es X.env := by rfl) (hpl : (backTo pos (starEach es X.env)).any (·.1) = false := by rfl) :
    PE X (.Call (.Name x p) (e :: es) [] pos) (tCallS sp (L2.WE W) t) := by
  obtain ⟨f, fd, F0, F, hm, b⟩ := c.ex
  exact pe_callS F (hr.mono hk) hg hm F0.kp b (fun σ => passAt tk σ) ha hdb he hpl
/-- f(k = v, ..) that may raise -/
def tCkX (m : Nat) (sp : Sp) (gV : List V → List V) (W : WX) (tk : TA) : TE := fun σ H Q => tk σ H fun zs H2 => zs.length = m ∧ sp (gV zs) H2 Q (L2.WE W σ)
theorem pe_ckx {E : XK} (c : Ckx X.prog X.w X.K X.mg X.base k x ks sp gV) (tk2 : Takes X (fun cls d _ H => E cls d H)) (hr : Room j X.A) (hk : k ≤ j) (hg : Gl X x) (hkw : PK X kws tk)
    (hall : (backToKw pos (keywordEach kws X.env)).all (·.1.isSome) = true := by rfl) (hks : (backToKw pos (keywordEach kws X.env)).filterMap (·.1) = ks := by rfl) (hdb : (x == ("__debug__" : Str)) = false := by decide)
    (hpl : ((backTo pos (starEach [] X.env)).any (·.1) || (backToKw pos (keywordEach kws X.env)).any (·.1.isNone)) = false := by rfl) :
    PE X (.Call (.Name x p) [] kws pos) (tCkX ks.length sp gV (fun cls d _ H => E cls d H) tk) := by
  obtain ⟨f, fd, ps, g, F, hm, kp, b⟩ := c.ex
  refine ⟨fun pins s σ H Q I h => ?_⟩
  refine wpAny_Call_Name_kw (ld_glob I hg hm ?_ hdb)
  refine PySem.W.callWith_KW0 (h₀ := X.base) I.ok.mod.kin kp hall ?_ hpl
  refine thn (hkw.run pos pins s σ H _ I h) fun ws s2 ⟨zs, H2, I2, rz, l2, q2⟩ => ⟨I2.kIn, ?_⟩
  rw [hks]
  exact run_fnN F (hr.mono hk) b (passes_call tk2 fun _ _ _ _ h => h) I2 .nil rz rfl l2 q2
end
section
variable {K : PySem.W.Frag} {B : Bt} {δ : List Sd} {P : D → Prop} {X : Xc}
theorem we_ckx {pre : List D → Prop} {post : List D → D → Prop} {exc : List D → Addr → List Str → List D → Prop} {m : Nat} {gV : List V → List V} {gD : List D → List D} {tk : TA} (hg : ∀ G vs ds, Dds K B G vs ds → Dds K B G (gV vs) (gD ds)) (h : WAx K B X tk δ fun ds => ds.length = m ∧ pre (gD ds) ∧ (∀ d, post (gD ds) d → P d) ∧ ∀ C ks es, exc (gD ds) C ks es → X.ex δ C ks es) : WEx K B X (tCkX m (SpX K pre post exc) gV X.W tk) δ P := fun G0 H0 σ G H Q s xx q =>
  h G0 H0 σ G H _ s xx fun vs ds G1 H1 g1 o1 hs ⟨l, p, mm, ex⟩ =>
    ⟨hs.length.trans l, B, G1, gD ds, o1, hg _ _ _ hs, p, fun v d G2 H2 g2 o2 hd pd => (q.on g1 o1) v d G2 H2 g2 o2 hd (mm d pd), fun C d ks es G2 H2 g2 o2 hd pe => (xx.on g1 o1) C d ks es G2 H2 g2 o2 hd (ex C ks es pe)⟩
end
end Dl
/-! Ta: a lambda handed to a def that calls it in a try and answers ('told', value) or by the error that was caught. -/
namespace Dl
open PySem PySem.Spec PyProof.Rows L2 LamX
open L2H (RoomH roomH_of)
section
variable {X : Cx} {pins : List (Addr × Obj)} {σ : L2.St} {H : Hp} {s : Shared}
/-- x(), in the def that got the lambda; what is raised goes on by the slots as they stand -/
theorem pe_actS {CXg : CXT} {Eg : XK} {Ng : List Str} {qg : Str} {sg : Scope} {g f c' : Addr} {cdg pm ctv : Value} {params : Arguments} {body : Expr} {scope : Scope} {k i : Nat} {a : Str} {pn : List (Addr × Obj)} {xe : Value → Shared → Prop} {W : WX} {tb : XK → TE} {p1 p2 : Pos}
    (I : L2.Inv X pins σ H s) (L : LamS X.env.scope scope) (hf : s.heap.get? f = some (PySem.W.kla_obj "<lambda>" (X.env.qual ++ "<lambda>") params body scope (cloFrom X.env.cells scope.names []) pm c' ctv)) (hfn : H f = none) (hfr : f ∉ frs X.stack)
    (hbind : bindArgs (PySem.W.kla_fn "<lambda>" (X.env.qual ++ "<lambda>") params body scope (cloFrom X.env.cells scope.names []) pm (.ref c') ctv) ⟨[], []⟩ = pure [])
    (tk : Takes ((cxOf CXg X.prog X.w X.K X.mg X.base Ng qg sg g cdg X.A X.stack s H Eg).tr pn xe) W) (hr : Room (k + 1) (X.A.deeper (envOfC qg sg s.heap.objs.size g cdg)))
    (hbody : ∀ (A : Around) (outer : List Env) (s : Shared) (H : Hp) (E : XK), Room k (A.deeper (lamEnv X scope s.heap.objs.size f c')) → PE (lamCx X A outer s H E scope f c') body (tb E))
    (hN : Ng[i]? = some a) (hv : Vis sg a) (hd : (a == ("__debug__" : Str)) = false := by decide) (hcd : (a == ("__classdict__" : Str)) = false := by decide) :
    PE ((cxOf CXg X.prog X.w X.K X.mg X.base Ng qg sg g cdg X.A X.stack s H Eg).tr pn xe) (.Call (.Name a p1) [] [] p2)
      (fun σZ HZ Q => σZ[i]? = some (some (.ref f)) ∧ HZ c' = some (CodeO c' (X.env.qual ++ "<lambda>")) ∧ tb (L2.WE W σZ) σ HZ Q) := by
  refine ⟨fun pinsZ sZ σZ HZ Q IZ h => ?_⟩
  obtain ⟨hs, hc, ht⟩ := h
  refine wpAny_Call_Name_kw (thn ((pe_var (pos := p1) (i := i) hN hv hd hcd).run pinsZ sZ σZ HZ (fun v H1 => v = .ref f ∧ H1 = HZ) IZ ⟨.ref f, hs, rfl, rfl⟩) fun u s1 ⟨v, H1, I1, r1, q1⟩ => ?_)
  obtain ⟨ev, eH⟩ := q1
  subst ev
  rw [eH] at I1
  obtain rfl : u = Value.ref f := r1
  have of1 : s1.heap.get? f = some (PySem.W.kla_obj "<lambda>" (X.env.qual ++ "<lambda>") params body scope (cloFrom X.env.cells scope.names []) pm c' ctv) := I1.base.keep f _ hf hfn hfr (fun z => nomatch (show f ∈ ([] : List Addr) from z))
  refine PySem.W.callWith_F0 ⟨_, _, _, _, of1⟩ ?_
  have un : Un (frs X.stack) [] H HZ s.heap s1.heap := I1.base
  obtain ⟨⟨oc, vs, t, hoc, hdc, hvc⟩, _, _⟩ := I1.hok c' _ hc
  have rc : codeAny (model X.prog X.w) (X.A.deeper (envOfC qg sg s.heap.objs.size g cdg)) (.call (.ref f) ⟨[], []⟩) (CR (L2.CX X.prog X.w) (envOfC qg sg s.heap.objs.size g cdg :: X.stack) X.prog X.w HZ s1 Q (L2.WE W σZ)) s1 := by
    refine PySem.W.kla_callFunE hr.depth of1 rfl L.co L.gen rfl ⟨c', oc, vs, t, rfl, hoc, hdc, hvc⟩ ?_
    rw [hbind]
    refine wpAny_pure (wpAny_newFunctionEnv (fun y hy => (L.own y hy).2) (fun y hy => absurd hy (by simp)) (fun h₁ hns hsb => ⟨I1.nolimit.fresh _ hsb, ?_⟩) L.kind)
    show codeAny _ _ (.expr body (lamEnv X scope s1.heap.objs.size f c')) _ _
    have kp : ∀ b o, s1.heap.get? b = some o → h₁.get? b = some o := fun b o e => hsb.extBut b o (Nat.ne_of_lt (Heap.lt_size e)) (Heap.get?_push_of_some _ e)
    have J : L2.Inv (lamCx X (X.A.deeper (envOfC qg sg s.heap.objs.size g cdg)) (envOfC qg sg s.heap.objs.size g cdg :: X.stack) s1 HZ (L2.WE W σZ) scope f c') [] σ HZ { s1 with heap := h₁, toks := s1.toks + ([] : List (Str × Value)).length } :=
      lam_start2 I L I1.env0 hr.hd un hns kp
    refine PySem.W.kla_codeExpr (wpAny_mono ((hbody _ _ s1 HZ (L2.WE W σZ) (hr.deeper _)).run [] _ _ HZ Q J ht) (fun v s' hq => ?_) fun e s' hq => hq)
    obtain ⟨w', H', J', rv, q⟩ := hq
    exact ⟨w', H', J'.os, J'.bare, J'.base, J'.hok, rv, q⟩
  refine wpAny_call (codeAny_mono rc fun r s' hq => ?_)
  cases r with
  | error e => exact passAt tk σZ pinsZ HZ s1 e s' I1 hq
  | ok fl =>
    cases fl with
    | ret u => exact I1.after hq
    | next => exact False.elim hq
    | brk => exact False.elim hq
    | cont => exact False.elim hq
end
/-- the def that calls what it got -/
def GivesS (X : Cx) (Ng : List Str) (x : Str) (sg : Scope) (g : Addr) (cdg : Value) (bg : List Stmt) (a : Str) (q : Str) (j : Nat) (TT : (XK → Hp → VK → Prop) → Hp → VK → Prop) : Prop :=
  ∀ (f c' : Addr) (s : Shared) (H : Hp) (Q : VK) (tl : XK → Hp → VK → Prop), Room (j + 1) (X.A.deeper (envOfC x sg s.heap.objs.size g cdg)) →
    (∀ (W : WX) (pn : List (Addr × Obj)) (xe : Value → Shared → Prop) (p1 p2 : Pos), Takes ((cxOf C8.CX0 X.prog X.w X.K X.mg X.base Ng x sg g cdg X.A X.stack s H C8.E0).tr pn xe) W →
      PE ((cxOf C8.CX0 X.prog X.w X.K X.mg X.base Ng x sg g cdg X.A X.stack s H C8.E0).tr pn xe) (.Call (.Name a p1) [] [] p2) (fun σZ HZ Q => σZ[0]? = some (some (.ref f)) ∧ HZ c' = some (CodeO c' q) ∧ tl (L2.WE W σZ) HZ Q)) →
    H c' = some (CodeO c' q) → TT tl H Q →
    ∃ t, PSs (cxOf C8.CX0 X.prog X.w X.K X.mg X.base Ng x sg g cdg X.A X.stack s H C8.E0).nox bg t ∧ t { nx := fun _ H' => Q .non H', rt := Q } (L2.start Ng [.ref f]) H
section
variable {X : Cx}
/-- x(lambda: body) -/
theorem pe_lamS {T : List (Addr × Str)} {TT : (XK → Hp → VK → Prop) → Hp → VK → Prop} {x a : Str} {g c P : Addr} {k : Nat} {pg : Arguments} {bg : List Stmt} {sg : Scope} {dV kV doc pm cdv ct oc : Value} {an od : Option Addr} {osl : Array (Option Value)} {Ng : List Str}
    {params : Arguments} {body : Expr} {scope : Scope} {t : XK → TE} {p lpos pos : Pos} (hg : Gl X x) (hm : X.mg x = some (.ref g)) (hk : PySem.W.keepIn X.K (.ref g) = true)
    (lk : X.K.lookup g = some ⟨oc, od, .func (PySem.W.fnOf x x pg bg sg dV kV doc pm an cdv ct), osl⟩) (hcg : PySem.W.codeIn X.K cdv x = true) (hb : L2.Binds X.K (PySem.W.fnOf x x pg bg sg dV kV doc pm an cdv ct) [a] []) (Sg : FnScope Ng [a] sg) (hNg : Ng[0]? = some a) (hva : Vis sg a)
    (hG : GivesS X Ng x sg g cdv bg a (X.env.qual ++ "<lambda>") k TT)
    (TB : TabB X.base X.mg c P) (hcode : X.env.code = .ref c) (hmT : (P, X.env.qual ++ "<lambda>") ∈ T) (hu : ∀ p ∈ T, p.1 = P → p.2 = X.env.qual ++ "<lambda>") (hr : Room (k + 2) X.A) (L : LamS X.env.scope scope) (hdef : defaultsOf params X.env = ([], []))
    (hbind : ∀ (q : Str) (cl : List (Str × Addr)) (pm cv ctv : Value), bindArgs (PySem.W.kla_fn "<lambda>" q params body scope cl pm cv ctv) ⟨[], []⟩ = pure [])
    (hbody : ∀ (A : Around) (outer : List Env) (s : Shared) (H : Hp) (E : XK) (f c' : Addr), Room k (A.deeper (lamEnv X scope s.heap.objs.size f c')) → PE (lamCx X A outer s H E scope f c') body (t E))
    (hdb : (x == ("__debug__" : Str)) = false := by decide) (hd : (a == ("__debug__" : Str)) = false := by decide) (hcd : (a == ("__classdict__" : Str)) = false := by decide) :
    PE X (.Call (.Name x p) [.Lambda params body scope lpos] [] pos) (tLam T TT t) := by
  refine ⟨fun pins s σ H Q I h => ?_⟩
  obtain ⟨hT, h⟩ := h
  refine wpAny_Call_Name_kw (ld_glob I hg hm ?_ hdb)
  refine PySem.W.callWith_K (h₀ := X.base) I.ok.mod.kin hk ?_ (by rfl) (by rfl)
  show wpAny _ _ (spliced ((false, eval (.Lambda params body scope lpos) X.env) :: backTo pos (starEach [] X.env))) _ _ s
  refine Calls.spliced_cons (lam_make2 I TB hcode hmT hu hT hdef (L.has I.ok) fun f c' pm' ctv H1 s' I1 eN T1 hf hfn hfr hco => ?_)
  refine Calls.spliced_nil ⟨I1.kIn, ?_⟩
  have rc : codeAny (model X.prog X.w) X.A (.call (.ref g) ⟨[.ref f], []⟩) (CR C8.CX0 X.stack X.prog X.w H1 s' Q C8.E0) s' := by
    refine run_ofS (N := Ng) (ps := [a]) (us := [.ref f]) (vs := [.ref f]) lk hcg Sg hr I1.env0 (hb s' [.ref f] I1.kIn rfl) (.cons rfl .nil) rfl fun hr' => ?_
    obtain ⟨t', ht', hq'⟩ := hG f c' s' H1 Q (fun E H' Q' => t E σ H' Q') hr' (fun W pn xe p1 p2 tk => pe_actS (i := 0) I1 L hf hfn hfr (hbind _ _ _ _ _) tk hr' (fun A outer s H E hr2 => hbody A outer s H E f c' hr2) hNg hva hd hcd) hco (h H1 eN T1)
    exact ⟨t', ht'.nox, hq'⟩
  refine wpAny_call (codeAny_mono rc fun r s2 hq => ?_)
  cases r with
  | error e => exact (show False from hq).elim
  | ok fl =>
    cases fl with
    | ret u => exact I1.after hq
    | next => exact False.elim hq
    | brk => exact False.elim hq
    | cont => exact False.elim hq
/-- the suite: return ('no', e.code) + fields(e) -/
def tSuite (K : PySem.W.Frag) (spF : Sp) : TS := tRet (tOp (zCat K) (zTup (tCons (tC (.str "no")) (tCons (tXv K "code" (tVar 1)) tNil))) (tCall spF [] L2.E0 (tCons (tVar 1) tNil)))
def TGot (K : PySem.W.Frag) (c1 c2 : Value) (spF : Sp) : (XK → Hp → VK → Prop) → Hp → VK → Prop := fun tl H Q => ∀ f : Addr,
  tl (L2.WE (wTup K c1 c2 1 (tSuite K spF) (fun _ _ _ _ => False) { nx := fun _ H' => Q .non H', rt := Q }) [some (.ref f), none]) H fun v H1 => ([.str "told", v] : List V).length ≤ sizeLine ∧ NewT Q H1 [.str "told", v]
theorem got_gives {a x1 x2 n xf x q : Str} {sg : Scope} {g : Addr} {cdg c1 c2 : Value} {j kf ff kk k2 k3 : Nat} {fdF : FuncData} {psF : List Str} {spF : Sp} {P1 P2 P3 P4 P5 P6 P7 P8 P9 P10 P11 P12 P13 P14 P15 P16 P17 P18 P19 : Pos} {kn kt kq : Nat}
    (Sg : FnScope [a, n] [a] sg) (h1 : sg.names.lookup x1 = some .globalImplicit) (h2 : sg.names.lookup x2 = some .globalImplicit) (d1 : (x1 == ("__debug__" : Str)) = false) (d2 : (x2 == ("__debug__" : Str)) = false) (hn : sg.names.lookup n = some .local)
    (m1 : X.mg x1 = some c1) (m2 : X.mg x2 = some c2) (hgf : sg.names.lookup xf = some .globalImplicit) (mf : X.mg xf = some (.ref ff)) (kf' : PySem.W.keepIn X.K (.ref ff) = true) (bf : Binds X.K fdF psF []) (dF : (xf == ("__debug__" : Str)) = false) (dn : (n == ("__debug__" : Str)) = false) (dnc : (n == ("__classdict__" : Str)) = false)
    (F : FnT X.prog X.w X.K X.mg X.base kf ff fdF psF spF) (hj : kf ≤ j + 1) :
    GivesS X [a, n] x sg g cdg [.Try [.Return (some (.Tuple [.Constant (.str "told") kt P1, .Call (.Name a P2) [] [] P3] k2 P4)) P5] [.ExceptHandler (some (.Tuple [.Name x1 P6, .Name x2 P7] kk P8)) (some n) [.Return (some (.BinOp (.Tuple [.Constant (.str "no") kn P9, .Attribute (.Name n P10) "code" P11] k3 P12) .Add (.Call (.Name xf P13) [.Name n P14] [] P15) P16)) P17] P18] [] [] P19] a q j (TGot X.K c1 c2 spF) := by
  intro f c' s H Q tl hr act hc h
  have vn : Vis sg n := .inl hn
  refine ⟨_, pss_one (ps_try_tup (X := (cxOf C8.CX0 X.prog X.w X.K X.mg X.base [a, n] x sg g cdg X.A X.stack s H C8.E0).nox) (c1 := c1) (c2 := c2) (i := 1) (ts := tSuite X.K spF)
      (tb := fun W => tRet (zTup (tCons (tC (.str "told")) (tCons (fun σZ HZ Q => σZ[0]? = some (some (.ref f)) ∧ HZ c' = some (CodeO c' q) ∧ tl (L2.WE W σZ) HZ Q) tNil))))
      rfl rfl rfl Sg.nd rfl (show sg.names.lookup n = some .local from hn) ⟨h1, d1, .inl m1⟩ ⟨h2, d2, .inl m2⟩ L2.takes0 (fun W pn xe tk _ => pss_one (ps_ret (pe_tupZ (pa_cons pe_str (pa_cons (act W pn xe P2 P3 tk) pa_nil))))) (fun a' pn => ?_)), ?_⟩
  · have hrH : RoomH kf (((cxOf C8.CX0 X.prog X.w X.K X.mg X.base [a, n] x sg g cdg X.A X.stack s H C8.E0).nox.suite a' pn)).A := ⟨(roomH_of hr).mono hj |>.dp, (roomH_of hr).mono hj |>.un⟩
    have ve : ∀ {pp : Pos}, PE ((cxOf C8.CX0 X.prog X.w X.K X.mg X.base [a, n] x sg g cdg X.A X.stack s H C8.E0).nox.suite a' pn) (.Name n pp) (tVar 1) := fun {pp} => pe_var (pos := pp) (i := 1) rfl vn dn dnc
    exact pss_one (ps_ret (pe_op op_catZ (pe_tupZ (pa_cons pe_str (pa_cons (pe_xv ve) pa_nil))) (pe_callT (X := ((cxOf C8.CX0 X.prog X.w X.K X.mg X.base [a, n] x sg g cdg X.A X.stack s H C8.E0).nox.suite a' pn)) F hrH hgf mf kf' bf (pa_cons ve pa_nil) dF)))
  · exact ⟨rfl, hc, h f⟩
end
end Dl
namespace Dl
open PySem PySem.Spec PyProof.Rows L2 LamX
section
variable {K : PySem.W.Frag} {B : Bt} {G H H1 : Hp} {δ : List Sd} {P : D → Prop} {X : Xc}
/-- all but the tables stands: a state by data -/
theorem ext_go (o : Ok B G H) (e : ExtN H H1) (t : Tabs B.T H1) : Go B G H G H1 ∧ Ok B G H1 := by
  refine ⟨⟨Same.refl G, fun a u _ ht h => e a u h ht, fun _ _ _ _ h => h, fun c r h => ⟨r, e _ _ h nt_lst⟩⟩, ⟨fun a u h => e a u (o.u a u h) (o.f a u h), o.b, ?_, t, o.f⟩⟩
  obtain ⟨c, cells, p', r, m, n, h, g', w⟩ := o.x
  exact ⟨c, cells, p', r, m, n, e _ _ h nt_lst, g', w⟩
theorem we_got {c1 c2 : Value} {preF : List D → Prop} {postF : List D → D → Prop} {te : XK → TE} {R : D → Prop} {exc : Addr → List Str → List D → Prop}
    (hb : ∀ E : XK, WEx K B { W := fun cls d _ H => E cls d H, ex := fun _ => exc } (te E) δ R) (hv : ∀ d, R d → P (.tup [.str "told", d]))
    (hx : ∀ C ks ds, exc C ks ds → PySem.W.exmAny K (.ref C) [c1, c2] = some true ∧ WS K B (tSuite K (SpD K preF postF)) [.no, .val (.exn C ks ds)] { nx := fun _ => False, rt := P }) :
    WEx K B X (tLam B.T (TGot K c1 c2 (SpD K preF postF)) te) δ P := fun G0 H0 σ G H Q s xx q => by
  refine ⟨s.ok.t, fun H1 hE hT f => ?_⟩
  obtain ⟨g1, o1⟩ := ext_go s.ok hE hT
  refine hb _ G0 H0 σ G H1 _ (s.on g1 o1) (fun C d ks ds G2 H2 g2 o2 hd pe => ?_) fun v d G2 H2 g2 o2 hd pd => ?_
  · obtain ⟨hm, hw⟩ := hx C ks ds pe
    refine ⟨true, hm, fun _ => ⟨C, d, rfl, rfl, fun a na => ?_⟩, fun z => absurd z (by decide)⟩
    obtain ⟨fs, e1, rfl, e3⟩ := hd
    have hda : d ≠ a := fun z => by
      have z2 := o2.u _ _ e1
      rw [z, na] at z2; cases z2
    have g3 := new_go o2 (x := xo a C d) na
    have o3 := new_ok o2 (xo_nt (a := a) (C := C) (d := d)) na
    have st : Stt K B (upd G2 a (xo a C d)) (upd H2 a (xo a C d)) (upd G2 a (xo a C d)) (upd H2 a (xo a C d)) ([some (V.ref f), none].set 1 (some (V.ref a))) [.no, .val (.exn C (fs.map (·.1)) ds)] := by
      refine ⟨Go.refl, o3, rfl, fun i d' h => ?_, fun i es h => ?_, fun i j es es' x h => ?_⟩
      · match i, h with
        | 0, h => cases h
        | 1, h => cases h; exact ⟨.ref a, rfl, .exn upd_same (by rw [upd_ne hda]; exact e1) (e3.mono g3.s)⟩
        | n + 2, h => cases h
      · match i, h with
        | 0, h => cases h
        | 1, h => cases h
        | n + 2, h => cases h
      · match i, h with
        | 0, h => cases h
        | 1, h => cases h
        | n + 2, h => cases h
    exact hw _ _ _ _ _ _ st xs0 (fun _ _ _ _ _ _ z => z.elim) ⟨fun v d' G4 H4 g4 o4 hd' pd' => (((q.on g1 o1).on g2 o2).on g3 o3) v d' G4 H4 g4 o4 hd' pd', fun _ _ _ _ _ _ _ _ _ _ _ _ z => z.elim⟩ (fun _ _ _ _ _ _ z => z.elim) (fun _ _ _ _ _ _ z => z.elim)
  · refine ⟨by show 2 ≤ sizeLine; decide, fun p ob hp hdn => ?_⟩
    exact ((q.on g1 o1).on g2 o2).new o2 nt_tup hp (.tup ⟨upd_same, hdn⟩ ((Dds.cons (.str "told") (.cons hd .nil)).mono (same_upd (o2.fresh hp)))) (hv d pd)
end
end Dl
namespace Dl
open PySem PySem.Spec PyProof.Rows L2 LamX
/-! ### raise C(..) of an own class whose __init__ stores -/
structure Rz (P : Program) (w : World) (K : PySem.W.Frag) (mg : Str → Option Value) (base : Heap) (k : Nat) (x : Str) (C : Addr) (n : Nat) (mk : List V → List (Str × V)) : Prop where
  ex : ∃ (fI : Addr) (fd : FuncData) (ps : List Str), OexC K C ∧ PySem.W.findIn K (.ref C) "__init__" = some (some (.ref fI)) ∧ PySem.W.typeIn K (.ref fI) = some (.type "function") ∧ FnOk P w K mg base L2.CX0 k fI fd ps (spIni C n mk) ∧ Binds K fd ps [] ∧ mg x = some (.ref C)
/-- what the top tells of such a class -/
structure Er (K : PySem.W.Frag) (mg : Str → Option Value) (x q : Str) (C : Addr) (st : Stmt) (fs : List Str) : Prop where
  o : OexC K C
  xf : XfC K C
  n : ∀ f ∈ fs, PySem.W.findIn K (.ref C) f = some none
  i : ∃ (fI : Addr) (fd : FuncData), Fun K "__init__" q st fI fd ∧ PySem.W.findIn K (.ref C) "__init__" = some (some (.ref fI)) ∧ PySem.W.typeIn K (.ref fI) = some (.type "function")
  g : mg x = some (.ref C)
section
variable {X : Cx} {W : WX} {k j n : Nat} {x : Str} {C : Addr} {mk : List V → List (Str × V)} {e : Expr} {es : List Expr} {ta : TA} {p pos pos2 : Pos}
theorem ps_rz (R : Rz X.prog X.w X.K X.mg X.base k x C n mk) (tk : Takes X W) (hc : X.calm = true) (hr : Room j X.A) (hk : k + 1 ≤ j) (hg : Gl X x) (ha : PA X (e :: es) ta) (hdb : (x == ("__debug__" : Str)) = false := by decide)
    (he : starEach (e :: es) X.env = (false, eval e X.env) :: starEach es X.env := by rfl) (hpl : (backTo pos (starEach es X.env)).any (·.1) = false := by rfl) :
    PS X (.Raise (some (.Call (.Name x p) (e :: es) [] pos)) none pos2) (fun _ σ H => tMkO C (spIni C n mk) [] ta σ H fun cls d H' => W cls d σ H') := by
  obtain ⟨fI, fd, ps, T, i, t, F, b, m⟩ := R.ex
  exact ps_raise hc tk (pmk_oex T i t F (hr.mono hk) b .nil (fun _ _ _ _ _ _ _ h => h.elim) hg m ha hdb he hpl)
end
section
variable {P : Program} {w : World} {K : PySem.W.Frag} {mg : Str → Option Value} {base : Heap}
/-- __init__(self, f): self.f = f; self.code = z -/
theorem rz1 {x q f z : Str} {C : Addr} {st : Stmt} {k : Nat} (E : Er K mg x q C st [f, ("code" : Str)]) (S : FnScope [("self" : Str), f] [("self" : Str), f] (defScope st)) (hf : (f == ("__debug__" : Str)) = false) (hf2 : (f == ("__classdict__" : Str)) = false)
    (hb : ∀ (kV doc pm : Value) (an : Option Addr) (cdv ct : Value) (us : List Value), us.length = 2 → bindArgs (PySem.W.fnOf "__init__" q (defArgs st) (defBody st) (defScope st) .none kV doc pm an cdv ct) ⟨us, []⟩ = pure ([("self" : Str), f].zip us))
    {p1 p2 p3 p4 p5 p6 p7 p8 : Pos} {KZ : Nat} (eb : defBody st = [.Assign [.Attribute (.Name "self" p1) f p2] (.Name f p3) p4, .Assign [.Attribute (.Name "self" p5) "code" p6] (.Constant (.str z) KZ p7) p8])
    (sw1 : ∀ (f0 : Addr) (cdv : Value) (A : Around) (outer : List Env) (s : Shared) (H : Hp) (E : XK), swapsWith (.Name f p3) (some (.Attribute (.Name "self" p1) f p2)) p4.line (cxOf L2.CX0 P w K mg base [("self" : Str), f] q (defScope st) f0 cdv A outer s H E).nox.env = pure false)
    (sw2 : ∀ (f0 : Addr) (cdv : Value) (A : Around) (outer : List Env) (s : Shared) (H : Hp) (E : XK), swapsWith (.Constant (.str z) KZ p7) (some (.Attribute (.Name "self" p5) "code" p6)) p8.line (cxOf L2.CX0 P w K mg base [("self" : Str), f] q (defScope st) f0 cdv A outer s H E).nox.env = pure false) :
    Rz P w K mg base (k + 1) x C 1 (fun ws => [("code", .str z), (f, ws.headD .non)]) := by
  obtain ⟨fI, fd, F, i, t⟩ := E.i
  refine ⟨fI, fd, [("self" : Str), f], E.o, i, t, F.ok S (fun vs H Q E' h => ?_) (fun cdv A outer s H vs Q E' hr h => ?_), F.binds hb, E.g⟩
  · obtain ⟨a, ws, rfl, l, _⟩ := h
    rw [List.length_cons, l]; rfl
  · obtain ⟨a, ws, rfl, l, hA, hq⟩ := h
    obtain ⟨v, rfl⟩ : ∃ v, ws = [v] := by
      match ws, l with
      | [v], _ => exact ⟨v, rfl⟩
    rw [eb]
    have vs0 : Vis (defScope st) "self" := (S.par "self" (by simp)).elim .inl (fun h => .inr (.inl h))
    have vs1 : Vis (defScope st) f := (S.par f (by simp)).elim .inl (fun h => .inr (.inl h))
    refine ⟨_, pss_cons (ps_ost (pe_var (i := 0) rfl vs0) (pe_var (i := 1) rfl vs1 hf hf2) (sw1 _ _ _ _ _ _ _)) (pss_one (ps_ost (pe_var (i := 0) rfl vs0) pe_str (sw2 _ _ _ _ _ _ _))), ?_⟩
    refine ⟨v, rfl, .ref a, rfl, a, C, rfl, E.o, E.n f (by simp), .inl ⟨hA, fun dx nd ne => ?_⟩⟩
    refine ⟨.ref a, rfl, a, C, rfl, E.o, E.n "code" (by simp), .inr ⟨dx, [(f, v)], upd_same, ?_, (by show 1 ≤ 900; decide), ?_⟩⟩
    · rw [upd_ne ne, upd_same]
    · have e : upd (upd (upd H dx (exd dx [(f, v)])) a (exo a C (some dx))) dx (exd dx [("code", .str z), (f, v)]) = upd (upd H dx (exd dx [("code", .str z), (f, v)])) a (exo a C (some dx)) := by
        funext b
        by_cases hb : b = dx
        · rw [hb, upd_same, upd_ne ne, upd_same]
        · rw [upd_ne hb]
          by_cases ha : b = a
          · rw [ha, upd_same, upd_same]
          · rw [upd_ne ha, upd_ne ha, upd_ne hb, upd_ne hb]
      show Q .non (upd (upd (upd H dx (exd dx [(f, v)])) a (exo a C (some dx))) dx (exd dx [("code", .str z), (f, v)]))
      rw [e]
      exact hq dx nd ne
end
end Dl
namespace Dl
open PySem L2
section
variable {K : PySem.W.Frag} {B : Bt} {δ : List Sd} {te : TE} {O : Out}
/-- a, b = a list of two, a tuple of two; a, b, c = x, y, z -/
theorem ws_unl2 {i j : Nat} (h : WEx K B O.x te δ fun d => ∃ a b, d = .lst [a, b] ∧ O.nx ((δ.set i (.val a)).set j (.val b))) : WS K B (tAsg te (gLst K 2 (gCons (gName i) (gCons (gName j) gNil)))) δ O := fun G0 H0 σ G H E s xx n _ _ _ =>
  h G0 H0 σ G H _ s (xx.ct s) fun v d G1 H1 g o hd ⟨a, b, e, p⟩ => by
    subst e
    cases hd with
    | lst hg t =>
      cases t with
      | cons h1 t =>
        cases t with
        | cons h2 t =>
          cases t
          exact ⟨_, _, rfl, SqL.of (o.u _ _ hg), rfl, _, _, rfl, _, _, rfl, rfl, n _ _ G1 H1 g.s (((s.on g o).setVal i h1).setVal j h2) p⟩
theorem ws_unt2 {i j : Nat} (h : WEx K B O.x te δ fun d => ∃ a b, d = .tup [a, b] ∧ O.nx ((δ.set i (.val a)).set j (.val b))) : WS K B (tAsg te (gTup K 2 (gCons (gName i) (gCons (gName j) gNil)))) δ O := fun G0 H0 σ G H E s xx n _ _ _ =>
  h G0 H0 σ G H _ s (xx.ct s) fun v d G1 H1 g o hd ⟨a, b, e, p⟩ => by
    subst e
    cases hd with
    | tup hg t =>
      cases t with
      | cons h1 t =>
        cases t with
        | cons h2 t =>
          cases t
          exact ⟨_, _, rfl, SqT.ofZ (o.u _ _ hg.1), rfl, _, _, rfl, _, _, rfl, rfl, n _ _ G1 H1 g.s (((s.on g o).setVal i h1).setVal j h2) p⟩
theorem ws_par3 {i j l : Nat} {ta : TA} (h : WAx K B O.x ta δ fun ds => ∃ a b c, ds = [a, b, c] ∧ O.nx (((δ.set i (.val a)).set j (.val b)).set l (.val c))) : WS K B (tPar3 i j l ta) δ O := fun G0 H0 σ G H E s xx n _ _ _ =>
  h G0 H0 σ G H _ s (xx.ct s) fun vs ds G1 H1 g o hs ⟨a, b, c, e, p⟩ => by
    subst e
    cases hs with
    | cons h1 t1 =>
      cases t1 with
      | cons h2 t2 =>
        cases t2 with
        | cons h3 t3 =>
          cases t3
          exact ⟨_, _, _, rfl, n _ _ G1 H1 g.s ((((s.on g o).setVal i h1).setVal j h2).setVal l h3) p⟩
end
end Dl
namespace Dl
open PySem L2
theorem u65 {k : Nat} {A : Around} (hr : Room k A) : A.units + 65 < cLine := by have := hr.un; omega
end Dl
namespace Dl
open PySem PySem.Spec PyProof.Rows L2
open L2H (RoomH roomH_of)
section
variable {P : Program} {w : World} {K : PySem.W.Frag} {mg : Str → Option Value} {base : Heap}
/-- a def that may be called where an error is handled -/
structure ClHot (P : Program) (w : World) (K : PySem.W.Frag) (mg : Str → Option Value) (base : Heap) (k : Nat) (x : Str) (ps : List Str) (sp : Sp) : Prop where
  ex : ∃ (ff : Addr) (fd : FuncData), FnT P w K mg base k ff fd ps sp ∧ mg x = some (.ref ff) ∧ PySem.W.keepIn K (.ref ff) = true ∧ Binds K fd ps []
theorem clHot_of {x : Str} {st : Stmt} {N ps : List Str} {k : Nat} {pre : List D → Prop} {post : List D → D → Prop} (F : Df K mg x st) (S : FnScope N ps (defScope st))
    (hb : ∀ (kV doc pm : Value) (an : Option Addr) (cdv ct : Value) (us : List Value), us.length = ps.length → bindArgs (PySem.W.fnOf x x (defArgs st) (defBody st) (defScope st) .none kV doc pm an cdv ct) ⟨us, []⟩ = pure (ps.zip us))
    (hl : ∀ ds, pre ds → ds.length = ps.length)
    (h : ∀ (f : Addr) (cdv : Value) (A : Around) (outer : List Env) (s : Shared) (H : Hp) (E : XK), RoomH k (A.deeper (envOfC x (defScope st) s.heap.objs.size f cdv)) →
      ∃ t, PSs (cxT P w K mg base N x (defScope st) f cdv A outer s H E).nox (defBody st) t ∧ ∀ B ds, pre ds → WS K B t (init N ds) { nx := fun _ => post ds .non, rt := post ds }) : ClHot P w K mg base (k + 1) x ps (SpD K pre post) := by
  obtain ⟨f, fd, F, hm⟩ := F.ex
  have kp := F.kp
  have hbd := F.binds hb
  obtain ⟨oc, od, kV, doc, pm, an, cdv, ct, osl, rfl, lk, hcd⟩ := F.ex
  refine ⟨f, _, fn_ofT lk hcd S (fun vs H Q E hsp => ?_) (fun A outer s H vs Q E hr hsp => ?_), hm, kp, hbd⟩
  · obtain ⟨B, G, ds, o, hs, p, q⟩ := hsp
    exact hs.length.trans (hl ds p)
  · obtain ⟨B, G, ds, o, hs, p, q⟩ := hsp
    obtain ⟨t, ht, ww⟩ := h f cdv A outer s H E hr
    exact ⟨t, ht, ww B ds p G H _ G H _ (stt_start o hs) xs0 (fun σ1 δ1 G1 H1 _ s1 z => q .non .non G1 H1 s1.go s1.ok .non z) ⟨fun v d G1 H1 g o1 hd z => q v d G1 H1 g o1 hd z, fun _ _ _ _ _ _ _ _ _ _ _ _ z => z.elim⟩ (fun _ _ _ _ _ _ z => z.elim) (fun _ _ _ _ _ _ z => z.elim)⟩
end
end Dl
/-! Ua: a tuple of deep data: its least item, the place of an item; rules of HandS' form, then by plain data. -/
namespace Dl
open PySem PySem.Spec PyProof.Rows L2
section
variable {X : Cx}
/-- t.index(x) -/
def rIdxT (K : PySem.W.Frag) : V → List V → Hp → VK → Prop := fun x ws H Q => ∃ (a : Addr) (ys : List V) (y : V) (d : PyData) (ds : List PyData) (j : Nat) (z : PyData), x = .ref a ∧ ws = [y] ∧ SqT K H a ys ∧ DpAll K H ys ds ∧ Dp K H y d ∧
  PyData.canLayAll0 ds = true ∧ d.canLay0 = true ∧ d.depth ≤ 60 ∧ ds[j]? = some z ∧ PyData.eqv z d = true ∧ (∀ (m : Nat) (z' : PyData), m < j → ds[m]? = some z' → PyData.eqv z' d = false) ∧ Q (.int (j : Nat)) H
theorem mt_idxT (hu : X.A.units + 65 < cLine) : MtR X "tuple.index" (rIdxT X.K) := by
  intro pins s σ H x ws v us Q I rx rws h
  obtain ⟨a, ys, y, d, ds, j, z, rfl, rfl, hs, ha, hy, hxs, hd, hdp, hz, hzj, hno, q⟩ := h
  cases rx
  obtain ⟨u, rfl, ru⟩ := vals1 rws
  obtain ⟨bs, r1⟩ := Dp.reads I d y u hy ru
  obtain ⟨its, rv, pl, hlen⟩ := I.tuple hs
  obtain ⟨as, r2⟩ := Dp.readsAll I ds ys its ha rv
  have hmap : its.map (SeqAt.readOf s.heap) = ds := SeqAt.readsAll_map ds its as hxs r2
  have hn : its.length = ds.length := by rw [← hmap, List.length_map]
  obtain ⟨⟨cls, dd, dt, sl⟩, ho, hc, n, hdt⟩ := pl
  simp only at hc hdt
  subst hc
  subst hdt
  have hjd := (List.getElem?_eq_some_iff.mp hz).1
  have hj : j < its.toArray.size := by rw [List.size_toArray, hn]; exact hjd
  have e0 : ∀ (m : Nat) (hm : m < its.toArray.size), ds[m]? = some (SeqAt.readOf s.heap its.toArray[m]) := fun m hm => by
    have hm' : m < its.length := by simpa using hm
    rw [← hmap, List.getElem?_map, List.getElem?_eq_getElem hm']
    simp
  have hroom : X.A.units + 1 + min (PyData.depthAll ds) d.depth < cLine := by
    have : min (PyData.depthAll ds) d.depth ≤ d.depth := Nat.min_le_right ..
    omega
  have eqs : ∀ y, y ∈ its.toArray → SeqAt.EqAt X.A.in1 s y u (PyData.eqv (SeqAt.readOf s.heap y) d) := SeqAt.items_eqAt (vs := its.toArray) (A := X.A) (show ReadsAll s.heap its.toArray.toList ds as from r2) r1 hxs hd hroom
  refine call_meets PySem.F.slot_tuple_index ⟨_, ho, rfl⟩ PySem.F.entry_tuple_index (PySem.F.args_tuple_index_2 _ _)
    (SeqAt.tuple_index2_found a its.toArray n dd sl u (fun m => PyData.eqv ((ds[m]?).getD .none) d) j hj (Nat.zero_le _) hj ?_ ?_) ⟨ho, fun m hm => ?_, ?_⟩
  · show PyData.eqv ((ds[j]?).getD .none) d = true
    rw [hz]; exact hzj
  · intro m hm _ hmj
    show PyData.eqv ((ds[m]?).getD .none) d = false
    rw [e0 m hm]
    exact hno m _ hmj (e0 m hm)
  · have := eqs its.toArray[m] (Array.getElem_mem hm)
    have e1 : PyData.eqv ((ds[m]?).getD .none) d = PyData.eqv (SeqAt.readOf s.heap its.toArray[m]) d := by rw [e0 m hm]; rfl
    exact e1 ▸ this
  · exact ⟨.int (j : Nat), H, I.tok _, ⟨_, rfl⟩, q⟩
/-! ### pairs of numbers -/
abbrev Pr2 := Int × Int
def pairP (p : Pr2) : PyData := .tuple [.int p.1, .int p.2]
def pairD (p : Pr2) : D := .tup [.int p.1, .int p.2]
def ltPr (p q : Pr2) : Bool := decide (p.1 < q.1 ∨ (p.1 = q.1 ∧ p.2 < q.2))
def minPr (p : Pr2) (ps : List Pr2) : Pr2 := ps.foldl (fun a y => if ltPr y a = true then y else a) p
theorem lay_pairP (p : Pr2) : (pairP p).canLay0 = true := by simp [pairP, PyData.canLay0, PyData.canLayAll0]
theorem lay_pairPs : ∀ ps : List Pr2, PyData.canLayAll0 (ps.map pairP) = true
  | [] => by simp [PyData.canLayAll0]
  | p :: ps => by simp [PyData.canLayAll0, lay_pairP p, lay_pairPs ps]
theorem dep_pairP (p : Pr2) : (pairP p).depth ≤ 2 := by simp [pairP, PyData.depth, PyData.depthAll]
theorem dep_pairPs : ∀ ps : List Pr2, PyData.depthAll (ps.map pairP) ≤ 2
  | [] => by simp [PyData.depthAll]
  | p :: ps => by
    have h1 := dep_pairP p
    have h2 := dep_pairPs ps
    simp only [List.map_cons, PyData.depthAll]
    omega
theorem eqv_pairP (p q : Pr2) : PyData.eqv (pairP p) (pairP q) = decide (p = q) := by
  rw [Bool.eq_iff_iff]
  unfold pairP
  simp [PyData.eqv, PyData.eqvAll, Prod.ext_iff]
theorem lt_pairP (p q : Pr2) : PySem.W.dataLt (pairP p) (pairP q) = ltPr p q := PySem.W.dataLt_ii _ _ _ _
theorem min_pairP (ps : List Pr2) : ∀ p : Pr2, PySem.W.minD (pairP p) (ps.map pairP) = pairP (minPr p ps) := by
  induction ps with
  | nil => intro p; rfl
  | cons q ps ih =>
    intro p
    unfold PySem.W.minD minPr at ih ⊢
    rw [List.map_cons, List.foldl_cons, List.foldl_cons, lt_pairP]
    by_cases h : ltPr q p = true
    · rw [if_pos h, if_pos h]; exact ih q
    · rw [if_neg h, if_neg h]; exact ih p
theorem alike_pairP (ps : List Pr2) : PySem.W.AlikeAll (ps.map pairP) := by
  constructor
  · intro x hx y hy
    obtain ⟨p, _, rfl⟩ := List.mem_map.mp hx
    obtain ⟨q, _, rfl⟩ := List.mem_map.mp hy
    simp [pairP, PySem.W.alike, PySem.W.alikeAll]
  · intro x hx
    obtain ⟨p, _, rfl⟩ := List.mem_map.mp hx
    exact fun z => nomatch z
/-- min(t), of a tuple of pairs -/
def rMinT (K : PySem.W.Frag) : List V → Hp → VK → Prop := fun ws H Q => ∃ (a : Addr) (ys : List V) (p : Pr2) (ps : List Pr2), ws = [.ref a] ∧ SqT K H a ys ∧ DpAll K H ys ((p :: ps).map pairP) ∧
  ∀ (i : Nat) (y : V), ys[i]? = some y → (p :: ps)[i]? = some (minPr p ps) → Q y H
theorem call_minT (hc : X.calm = true) (hu : X.A.units + 65 < cLine) : CallR X (.builtin "min") (rMinT X.K) := by
  intro pins s σ H vs us Q I r h
  obtain ⟨a, ys, p, ps, rfl, hs, ha, q⟩ := h
  obtain ⟨its, rv, pl, _⟩ := I.tuple hs
  rw [Vals.ref1 r]
  obtain ⟨as, r2⟩ := Dp.readsAll I _ ys its ha rv
  have hmap : its.map (SeqAt.readOf s.heap) = (p :: ps).map pairP := SeqAt.readsAll_map _ its as (lay_pairPs _) r2
  have hdp := dep_pairPs (p :: ps)
  refine PySem.W.min_tuple_data (vs := its.toArray) (x := pairP p) (xs := ps.map pairP) (I.ok.hd hc) (show s.heap.IsTuple a its.toArray from pl) (show ReadsAll s.heap its.toArray.toList ((p :: ps).map pairP) as from r2) (alike_pairP (p :: ps)) (show X.A.units + 1 + PyData.depthAll ((p :: ps).map pairP) < cLine by omega) fun i v h' tk bs hi rd keep => ?_
  have hi' : its[i]? = some v := by simpa using hi
  have hyl : ys.length = its.length := rv.length
  have hil : i < its.length := (List.getElem?_eq_some_iff.mp hi').1
  have hy : ys[i]? = some ys[i] := List.getElem?_eq_getElem (by omega)
  obtain ⟨w, hw, rw'⟩ := rv.get hy
  have ew : w = v := by rw [hi'] at hw; exact (Option.some.inj hw).symm
  subst ew
  obtain ⟨cs, rd0, hl2, _, _⟩ := PySem.W.readsAll_at r2 i w hi'
  have hlen2 : i < (p :: ps).length := by simpa using hl2
  have e1 : ((p :: ps).map pairP).getD i .none = pairP (p :: ps)[i] := by
    rw [List.getD_eq_getElem?_getD, List.getElem?_map, List.getElem?_eq_getElem hlen2]
    rfl
  rw [e1] at rd0
  have rd1 := PySem.W.reads_keeps keep rd0
  rw [min_pairP] at rd
  have e2 : pairP (p :: ps)[i] = pairP (minPr p ps) := (SeqAt.readOf_eq (lay_pairP _) rd1).symm.trans (SeqAt.readOf_eq (lay_pairP _) rd)
  have e3 : (p :: ps)[i] = minPr p ps := by
    have := eqv_pairP (p :: ps)[i] (minPr p ps)
    rw [e2, eqv_pairP] at this
    simpa using this
  exact ⟨ys[i], H, I.kept keep, rw', q i _ hy (by rw [List.getElem?_eq_getElem hlen2, e3])⟩
end
/-! ### by plain data -/
section
variable {K : PySem.W.Frag} {B : Bt} {P : D → Prop} {δ : List Sd} {X : Xc}
theorem dp_pr {G H : Hp} {v : V} {p : Pr2} (o : Ok B G H) (h : Dd K B G v (pairD p)) : Dp K H v (pairP p) := by
  unfold pairD at h
  cases h with
  | tup hg t =>
    cases t with
    | cons h1 t =>
      cases t with
      | cons h2 t =>
        cases t
        cases h1
        cases h2
        exact .tup (SqT.ofZ (o.u _ _ hg.1)) (.cons (.int _) (.cons (.int _) .nil))
theorem dpa_pr {G H : Hp} (o : Ok B G H) : ∀ (ps : List Pr2) {vs : List V}, Dds K B G vs (ps.map pairD) → DpAll K H vs (ps.map pairP)
  | [], _, .nil => .nil
  | _ :: ps, _, .cons h t => .cons (dp_pr o h) (dpa_pr o ps t)
/-- min(t) -/
theorem rc_minT {p : Pr2} {ps : List Pr2} (h : P (pairD (minPr p ps))) : RC K B (rMinT K) [.tup ((p :: ps).map pairD)] P := fun G H vs Q o hs q => by
  cases hs with
  | cons h1 t1 =>
    cases t1
    cases h1 with
    | tup hg t =>
      refine ⟨_, _, p, ps, rfl, SqT.ofZ (o.u _ _ hg.1), dpa_pr o (p :: ps) t, fun i y hy e => ?_⟩
      obtain ⟨d, hd, hdd⟩ := t.get' hy
      rw [List.getElem?_map, e] at hd
      cases hd
      exact q.nil o hdd h
/-- t.index(p) -/
theorem we_idxT {to : TE} {ta : TA} (h : WEx K B X to δ fun a => ∃ ps : List Pr2, a = .tup (ps.map pairD) ∧ WAx K B X ta δ fun ds => ∃ p, ds = [pairD p] ∧ p ∈ ps ∧ P (.int (ps.idxOf p : Nat))) : WEx K B X (tMG tyZ (rIdxT K) to ta) δ P := fun G0 H0 σ G H Q s xx q =>
  h G0 H0 σ G H _ s xx fun x a G1 H1 g1 o1 hx ⟨ps, e, w⟩ => by
    subst e
    cases hx with
    | tup hg t =>
      refine ⟨⟨_, _, _, rfl, o1.u _ _ hg.1, hg.2⟩, w G0 H0 σ G1 H1 _ (s.on g1 o1) (xx.on g1 o1) fun vs ds G2 H2 g2 o2 hs ⟨p, e2, hm, hp⟩ => ?_⟩
      subst e2
      cases hs with
      | cons h2 t2 =>
        cases t2
        have tt := t.mono g2.s
        have hl : ps.idxOf p < ps.length := List.idxOf_lt_length_of_mem hm
        refine ⟨_, _, _, pairP p, ps.map pairP, ps.idxOf p, pairP p, rfl, rfl, SqT.ofZ (o2.u _ _ (g2.s _ _ hg.1)), dpa_pr o2 ps tt, dp_pr o2 h2, lay_pairPs ps, lay_pairP p, Nat.le_trans (dep_pairP p) (by decide), ?_, ?_, ?_, ((q.on g1 o1).on g2 o2).nil o2 (.int _) hp⟩
        · rw [List.getElem?_map, List.getElem?_eq_getElem hl, List.getElem_idxOf hl]
          rfl
        · rw [eqv_pairP, decide_eq_true rfl]
        · intro m z hmj hz
          rw [List.getElem?_map] at hz
          cases e3 : ps[m]? with
          | none => rw [e3] at hz; cases hz
          | some p' =>
            rw [e3] at hz
            cases hz
            rw [eqv_pairP, decide_eq_false_iff_not]
            intro e4
            subst e4
            have := List.not_of_lt_findIdx (p := (· == p')) hmj
            have e5 : ps[m]'(by omega) = p' := by
              have := List.getElem?_eq_some_iff.mp e3
              exact this.2
            simp [e5] at this
end
end Dl
/-! Ub: a comprehension over pairs: for a, b in xs. -/
namespace Dl
open PySem PySem.Spec PyProof.Rows L2
section
variable {K : PySem.W.Frag} {B : Bt} {P : D → Prop} {δ : List Sd} {X : Xc} {tt : TT}
/-- a comprehension of one clause over a pair of names, by a word -/
theorem we_lcP {wi : TI} {i j : Nat} (hij : i ≠ j) {te : TE} (h : WIx K B X wi δ fun its => its.length ≤ 1000 ∧ ∃ I : Nat → List D → Prop, I 0 [] ∧ (∀ k d acc, its[k]? = some d → I k acc → ∃ d1 d2, d = .tup [d1, d2] ∧ WT K B tt ((δ.set i (.val d1)).set j (.val d2)) fun b => if b = true then WE K B te ((δ.set i (.val d1)).set j (.val d2)) fun y => I (k + 1) (acc ++ [y]) else I (k + 1) acc) ∧ ∀ acc, I its.length acc → P (.lst acc)) :
    WEx K B X (tLc wi (gTup K 2 (gCons (gName i) (gCons (gName j) gNil))) tt te [i, j]) δ P := fun G0 H0 σ G H Q s xx q =>
  h G0 H0 σ G H _ s xx fun J its G1 H1 g1 o1 it ⟨hlen, I, i0, turn, last⟩ => by
    intro A hA
    have s1 := s.on g1 o1
    have q1 := q.on g1 o1
    have nAB := o1.neB hA
    have gA1 : G1 A = none := o1.fresh hA
    have nn : ∀ (a : Addr), H1 a ≠ none → a ≠ A := fun a h e => h (e ▸ hA)
    refine ⟨fun k m H => m = its.length - k ∧ k ≤ its.length ∧ ∃ G vs acc, Go B G1 H1 G H ∧ G A = none ∧ Ok B G H ∧ H A = some (.lst vs) ∧ Dds K B G vs acc ∧ acc.length ≤ k ∧ I k acc,
      ⟨_, rfl, Nat.zero_le _, G1, [], [], loose_go o1 hA, gA1, loose_ok o1 hA, upd_same, .nil, Nat.le_refl _, i0⟩, ?_⟩
    rintro k m H2 ⟨rfl, hk, G2, vs, acc, g2, gA, o2, hV, hD, hL, ik⟩
    obtain ⟨f1, f2, f3⟩ := it G2 H2 k g2.s o2
    have st : Stt K B G0 H0 G2 H2 σ δ := s1.on g2 o2
    by_cases hlt : k < its.length
    · refine .inr ⟨f1 hlt, fun H' => ∃ G vs acc, Go B G1 H1 G H' ∧ G A = none ∧ Ok B G H' ∧ H' A = some (.lst vs) ∧ Dds K B G vs acc ∧ acc.length ≤ k + 1 ∧ I (k + 1) acc,
        fun H' hN => ⟨its.length - (k + 1), by omega, rfl, hlt, hN⟩, fun x H3 y => ?_⟩
      obtain ⟨d, G3, e1, g3, o3, hd⟩ := f2 x H3 hlt y
      obtain ⟨d1, d2, ed, tn⟩ := turn k d acc e1 ik
      subst ed
      cases hd with
      | tup hg ht =>
      cases ht with
      | cons hd1 ht =>
      cases ht with
      | cons hd2 ht =>
      cases ht
      rename_i x1 x2
      have s3 : Stt K B G0 H0 G3 H3 (((wipe σ [i, j]).set i (some x1)).set j (some x2)) ((δ.set i (.val d1)).set j (.val d2)) := by
        have z := ((((st.on g3 o3).wipe1 j).wipe1 i).setVal i hd1).setVal j hd2
        have ez : (((δ.set j Sd.no).set i Sd.no).set i (.val d1)).set j (.val d2) = (δ.set i (.val d1)).set j (.val d2) := by
          rw [List.set_set, List.set_comm (l := δ) _ _ (Ne.symm hij), List.set_set]
        rw [ez] at z
        exact z
      have hV3 := g3.k A _ nAB nt_lst hV
      have gA3 := g3.n A _ nt_lst hV gA
      refine ⟨_, _, rfl, SqT.ofZ (o3.u _ _ hg.1), rfl, _, _, rfl, _, _, rfl, rfl, ?_, tn G0 H0 _ G3 H3 _ s3 ctx0 fun b G4 H4 g4 o4 w => ?_⟩
      · show ((((((σ.set j none).set i none).set i (some x1)).set j (some x2)).set j none).set i none) = (σ.set j none).set i none
        apply List.ext_getElem?
        intro n
        simp only [List.getElem?_set, List.length_set]
        by_cases h1 : i = n <;> by_cases h2 : j = n <;> simp [h1, h2]
      have hV4 := g4.k A _ nAB nt_lst hV3
      have gA4 := g4.n A _ nt_lst hV3 gA3
      have go4 : Go B G1 H1 G4 H4 := (g2.trans o2 g3).trans o3 g4
      have hD4 : Dds K B G4 vs acc := (hD.mono g3.s).mono g4.s
      cases b with
      | false => exact ⟨G4, vs, acc, go4, gA4, o4, hV4, hD4, Nat.le_succ_of_le hL, w⟩
      | true =>
        refine w G0 H0 _ G4 H4 _ (s3.on g4 o4) ctx0 fun y e G5 H5 g5 o5 hy w5 => ?_
        have hV5 := g5.k A _ nAB nt_lst hV4
        have gA5 := g5.n A _ nt_lst hV4 gA4
        have go5 : Go B G1 H1 G5 H5 := go4.trans o4 g5
        refine ⟨vs, hV5, Nat.lt_of_le_of_lt (by rw [hD.length]; omega : vs.length ≤ 1000) (by decide), G5, vs ++ [y], acc ++ [e], ?_, gA5, write_ok o5 hV5 gA5 nAB, upd_same, (hD4.mono g5.s).append (.cons hy .nil), by rw [List.length_append, List.length_singleton]; omega, w5⟩
        refine ⟨go5.s, fun a o nb ht h => ?_, go5.n, fun c r h => ?_⟩
        · rw [upd_ne (nn a (by rw [h]; exact fun z => nomatch z))]; exact go5.k a o nb ht h
        · obtain ⟨r', h'⟩ := go5.c c r h
          exact ⟨r', by rw [upd_ne nAB.symm]; exact h'⟩
    · have ek : k = its.length := by omega
      subst ek
      refine .inl ⟨f3 rfl, q1 (.ref A) (.lst acc) (upd G2 A (.lst vs)) H2 ⟨g2.s.trans (same_upd gA), g2.k, fun a o ht h g => ?_, g2.c⟩ (freeze_ok o2 nt_lst nAB gA hV) (.lst upd_same (hD.mono (same_upd gA))) (last acc ik)⟩
      rw [upd_ne (nn a (by rw [h]; exact fun z => nomatch z))]
      exact g2.n a o ht h g
end
end Dl
/-! Ve: list(zip(t, u)) of two tuples, at the library's level. -/
namespace Lz
open PySem PySem.Calls PyProof.Rows PyProof.V PySem.Spec
section
variable {P : Program} {w : World} {A : Around} {E : Value → Shared → Prop} {s : Shared} {z TI TO T i1 i2 l1 l2 : Addr} {f : Bool} {oT : Obj} {k1 k2 : Nat} {xs ys : Array Value} {x y : Value}
theorem held_item {R : Value → Shared → Prop} (D : ZipApart z TI TO i1 i2 l1 l2) (q0 : IsZipHeld s.heap z TI TO T f) (qT : s.heap.get? T = some oT) (qI : IsPair s.heap TI (.ref i1) (.ref i2))
    (q1 : s.heap.IsTupleIter i1 l1 k1) (q2 : s.heap.IsTupleIter i2 l2 k2) (q3 : s.heap.IsTuple l1 xs) (q4 : s.heap.IsTuple l2 ys) (ex : xs[k1]? = some x) (ey : ys[k2]? = some y)
    (h : ∀ g, IsZipHeld g z TI TO T true → g.IsTupleIter i1 l1 (k1 + 1) → g.IsTupleIter i2 l2 (k2 + 1) → IsPair g s.heap.objs.size x y → g.objs.size = s.heap.objs.size + 1 →
      (∀ c o, c ≠ z → c ≠ i1 → c ≠ i2 → s.heap.get? c = some o → g.get? c = some o) → R (.ref s.heap.objs.size) { s with heap := g }) :
    wpAny (model P w) A (Builtin.«zip.__next__» ⟨[.ref z], []⟩) (fun fin t => ∃ v, fin = .done (.ret v) ∧ R v t) E s := by
  show wpAny _ _ (field (.ref z) 2 >>= _) _ _ _; refine wpAny_bind (wpAny_field q0 rfl (x := .bool false) rfl ?_); show wpAny _ _ (field (.ref z) 3 >>= _) _ _ _
  refine wpAny_bind (wpAny_field q0 rfl (x := .ref TI) rfl (wpAny_bind (wpAny_seqItems qI rfl ?_))); show wpAny _ _ (Builtin.SmallTypes.ownedTupleIsFree (.ref z) >>= _) _ _ _
  refine wpAny_bind (wpAny_tupleHeld_zip q0 qT fun g1 p0 m1 => ?_); simp only [Bool.false_eq_true, if_false]; refine wpAny_bind ?_; rw [← Array.forIn_toList]
  simp only [List.forIn_cons, List.forIn_nil]; refine wpAny_bind (wpAny_bind (wpAny_holding ?_)); show wpAny _ _ (Builtin.SmallTypes.nextOf (.ref i1) >>= _) _ _ _
  refine wpAny_bind (RZ.nextOf_tuple_item (s := { s with heap := g1 }) (q1.extBut m1.extBut D.i1z) (q3.extBut m1.extBut D.l1z) ex fun g2 p1 m2 => wpAny_pure (wpAny_pure ?_))
  refine wpAny_bind (wpAny_bind (wpAny_holding ?_)); show wpAny _ _ (Builtin.SmallTypes.nextOf (.ref i2) >>= _) _ _ _
  refine wpAny_bind (RZ.nextOf_tuple_item (s := { s with heap := g2 }) ((q2.extBut m1.extBut D.i2z).extBut m2.extBut D.i12.symm) ((q4.extBut m1.extBut D.l2z).extBut m2.extBut D.l2i1) ey fun g3 p2 m3 => wpAny_pure (wpAny_pure (wpAny_pure ?_)))
  show wpAny _ _ (newTuple [x, y] >>= _) _ _ _; refine wpAny_bind (wpAny_newTuple ?_)
  have eN : g3.objs.size = s.heap.objs.size := by rw [m3.1, m2.1, m1.1]
  have p3 : IsZipHeld g3 z TI TO T true := m3.extBut _ _ D.i2z.symm (m2.extBut _ _ D.i1z.symm p0)
  have kp : ∀ c o, c ≠ z → c ≠ i1 → c ≠ i2 → s.heap.get? c = some o → g3.get? c = some o := fun c o a b d e => m3.extBut _ _ d (m2.extBut _ _ b (m1.extBut _ _ a e))
  have p4 : g3.IsTupleIter i1 l1 (k1 + 1) := p1.extBut m3.extBut D.i12
  refine wpAny_pure ⟨_, rfl, ?_⟩; show R (.ref g3.objs.size) _
  have p5 : IsPair (g3.push { cls := .type "tuple", data := .seq #[x, y] }) g3.objs.size x y := Heap.get?_push_size _ rfl
  have p6 : (g3.push { cls := .type "tuple", data := .seq #[x, y] }).objs.size = g3.objs.size + 1 := Heap.size_push ..
  rw [eN] at p5 p6 ⊢
  exact h _ (Heap.get?_push_of_some _ p3) (p4.at fun o e => Heap.get?_push_of_some _ e) (p2.at fun o e => Heap.get?_push_of_some _ e) p5 p6 fun c o a b d e => Heap.get?_push_of_some _ (kp c o a b d e)
theorem held_end {R : Fin → Shared → Prop} (hh : A.handled = none) (D : ZipApart z TI TO i1 i2 l1 l2) (q0 : IsZipHeld s.heap z TI TO T f) (qT : s.heap.get? T = some oT) (qI : IsPair s.heap TI (.ref i1) (.ref i2))
    (q1 : s.heap.IsTupleIter i1 l1 k1) (q3 : s.heap.IsTuple l1 xs) (ex : xs[k1]? = none)
    (h : ∀ g e, (∀ c o, c ≠ z → c ≠ i1 → s.heap.get? c = some o → g.get? c = some o) → (∃ o, g.get? e = some o ∧ o.cls = .type "StopIteration") → E (.ref e) { s with heap := g }) :
    wpAny (model P w) A (Builtin.«zip.__next__» ⟨[.ref z], []⟩) R E s := by
  show wpAny _ _ (field (.ref z) 2 >>= _) _ _ _; refine wpAny_bind (wpAny_field q0 rfl (x := .bool false) rfl ?_); show wpAny _ _ (field (.ref z) 3 >>= _) _ _ _
  refine wpAny_bind (wpAny_field q0 rfl (x := .ref TI) rfl (wpAny_bind (wpAny_seqItems qI rfl ?_))); show wpAny _ _ (Builtin.SmallTypes.ownedTupleIsFree (.ref z) >>= _) _ _ _
  refine wpAny_bind (wpAny_tupleHeld_zip q0 qT fun g1 p0 m1 => ?_); simp only [Bool.false_eq_true, if_false]; refine wpAny_bind ?_; rw [← Array.forIn_toList]
  simp only [List.forIn_cons, List.forIn_nil]; refine wpAny_bind (wpAny_bind (wpAny_holding ?_)); show wpAny _ _ (Builtin.SmallTypes.nextOf (.ref i1) >>= _) _ _ _
  exact wpAny_bind (RZ.nextOf_tuple_end (s := { s with heap := g1 }) hh (q1.extBut m1.extBut D.i1z) (q3.extBut m1.extBut D.l1z) ex fun g2 e m2 he => h g2 e (fun c o a b x => m2 _ _ b (m1.extBut _ _ a x)) he)
/-- where a zip of two tuples stands, ahead of its turn k -/
structure St (xs ys : Array Value) (z TI TO i1 i2 l1 l2 S : Addr) (k : Nat) (h : Heap) : Prop where
  ti : IsPair h TI (.ref i1) (.ref i2)
  a : h.IsTupleIter i1 l1 k
  b : h.IsTupleIter i2 l2 k
  x : h.IsTuple l1 xs
  y : h.IsTuple l2 ys
  m : (IsZip h z TI TO .none ∧ ∃ a b, IsPair h TO a b) ∨ ∃ T f oT, IsZipHeld h z TI TO T f ∧ h.get? T = some oT ∧ T ≠ z ∧ T ≠ i1 ∧ T ≠ i2 ∧ T ≠ S
theorem St.keep {S : Addr} {k : Nat} {h g : Heap} (t : St xs ys z TI TO i1 i2 l1 l2 S k h) (hS : S ≠ z ∧ S ≠ TI ∧ S ≠ TO ∧ S ≠ i1 ∧ S ≠ i2 ∧ S ≠ l1 ∧ S ≠ l2) (kp : ∀ c o, c ≠ S → h.get? c = some o → g.get? c = some o) : St xs ys z TI TO i1 i2 l1 l2 S k g := by
  obtain ⟨n1, n2, n3, n4, n5, n6, n7⟩ := hS
  refine ⟨kp _ _ n2.symm t.ti, t.a.at fun o e => kp _ o n4.symm e, t.b.at fun o e => kp _ o n5.symm e, t.x.at fun o e => kp _ o n6.symm e, t.y.at fun o e => kp _ o n7.symm e, ?_⟩
  rcases t.m with ⟨q, a, b, r⟩ | ⟨T, f, oT, q, r, r1, r2, r3, r4⟩
  · exact .inl ⟨kp _ _ n1.symm q, a, b, kp _ _ n3.symm r⟩
  · exact .inr ⟨T, f, oT, kp _ _ n1.symm q, kp _ _ r4 r, r1, r2, r3, r4⟩
theorem turn {S : Addr} {k : Nat} {R : Option Value → Shared → Prop} (D : ZipApart z TI TO i1 i2 l1 l2) (t : St xs ys z TI TO i1 i2 l1 l2 S k s.heap) (hS : S < s.heap.objs.size) (ex : xs[k]? = some x) (ey : ys[k]? = some y)
    (h : ∀ g, St xs ys z TI TO i1 i2 l1 l2 S (k + 1) g → IsPair g s.heap.objs.size x y → g.objs.size = s.heap.objs.size + 1 → (∀ c o, c ≠ z → c ≠ TO → c ≠ i1 → c ≠ i2 → s.heap.get? c = some o → g.get? c = some o) → R (some (.ref s.heap.objs.size)) { s with heap := g }) :
    wpAny (model P w) A (pyNext (.ref z)) R E s := by
  have lt : ∀ {c o}, s.heap.get? c = some o → s.heap.objs.size ≠ c := fun e => Nat.ne_of_gt (Heap.lt_size e)
  have n1 : s.heap.objs.size ≠ i1 := let ⟨_, e, _⟩ := t.a; lt e
  have n2 : s.heap.objs.size ≠ i2 := let ⟨_, e, _⟩ := t.b; lt e
  rcases t.m with ⟨q, a, b, r⟩ | ⟨T, f, oT, q, r, r1, r2, r3, r4⟩
  · refine RZ.pyNext_zipT_item D q t.ti r t.a t.b t.x t.y ex ey fun g a1 a2 a3 a4 a5 a6 kp => h g ⟨kp _ _ D.TIz D.TITO D.TIi1 D.TIi2 t.ti, a3, a4, t.x.at fun o e => kp _ o D.l1z D.l1TO D.l1i1 D.l1i2 e, t.y.at fun o e => kp _ o D.l2z D.l2TO D.l2i1 D.l2i2 e, ?_⟩ a5 a6 kp
    exact .inr ⟨s.heap.objs.size, false, _, a1, a5, lt q, n1, n2, Nat.ne_of_gt hS⟩
  · have ty : s.TypeIs (.ref z) "zip" := ⟨_, q, rfl⟩
    unfold pyNext
    refine wpAny_bind (wpAny_attempt (wpAny_callSpecial?_slot (name := Str.ofString "__next__") ty F.slot_zip_next (wpAny_call_entry F.slot_zip_next ty F.entry_zip_next (held_item D q r t.ti t.a t.b t.x t.y ex ey fun g a1 a3 a4 a5 a6 kp => wpAny_pure (h g ?_ a5 a6 fun c o c1 _ c3 c4 e => kp c o c1 c3 c4 e)) (F.args_zip_next_1 _))))
    exact ⟨kp _ _ D.TIz D.TIi1 D.TIi2 t.ti, a3, a4, t.x.at fun o e => kp _ o D.l1z D.l1i1 D.l1i2 e, t.y.at fun o e => kp _ o D.l2z D.l2i1 D.l2i2 e, .inr ⟨T, true, oT, a1, kp _ _ r1 r2 r3 r, r1, r2, r3, r4⟩⟩
theorem last {S : Addr} {k : Nat} {R : Option Value → Shared → Prop} (hh : A.handled = none) (D : ZipApart z TI TO i1 i2 l1 l2) (t : St xs ys z TI TO i1 i2 l1 l2 S k s.heap) (ex : xs[k]? = none)
    (h : ∀ g, (∀ c o, c ≠ z → c ≠ TO → c ≠ i1 → c ≠ i2 → s.heap.get? c = some o → g.get? c = some o) → R none { s with heap := g }) : wpAny (model P w) A (pyNext (.ref z)) R E s := by
  rcases t.m with ⟨q, a, b, r⟩ | ⟨T, f, oT, q, r, r1, r2, r3, r4⟩
  · exact RZ.pyNext_zipT_end hh D q t.ti r t.a t.b t.x t.y (.inl ex) h
  · have ty : s.TypeIs (.ref z) "zip" := ⟨_, q, rfl⟩
    unfold pyNext
    refine wpAny_bind (wpAny_attempt (wpAny_callSpecial?_slot (name := Str.ofString "__next__") ty F.slot_zip_next (wpAny_call_entry F.slot_zip_next ty F.entry_zip_next (held_end hh D q r t.ti t.a t.x ex fun g e kp he => ?_) (F.args_zip_next_1 _))))
    obtain ⟨o, ho, hc⟩ := he
    exact wpAny_bind (wpAny_isInstance (T := "StopIteration") (b := true) ⟨o, ho, hc⟩ isSubtype_stop (wpAny_pure (h _ fun c o c1 _ c3 _ e => kp c o c1 c3 e)))
/-- the new tuples: above lo, rising, with the pairs -/
structure Got (xs ys : Array Value) (lo : Addr) (h : Heap) (as : List Addr) : Prop where
  rise : as.Pairwise (· < ·)
  above : ∀ a ∈ as, lo < a
  pairs : ∀ (j : Nat) (a : Addr), as[j]? = some a → ∃ x y, xs[j]? = some x ∧ ys[j]? = some y ∧ IsPair h a x y
theorem Got.there {lo : Addr} {h : Heap} {as : List Addr} (g : Got xs ys lo h as) {a : Addr} (ha : a ∈ as) : a < h.objs.size := by
  obtain ⟨j, hj⟩ := List.mem_iff_getElem?.mp ha
  obtain ⟨_, _, _, _, e⟩ := g.pairs j a hj
  exact Heap.lt_size e
theorem loop {S : Addr} {R : Result → Shared → Prop} (hh : A.handled = none) (D : ZipApart z TI TO i1 i2 l1 l2) (hl : xs.size = ys.size) (hn : xs.size ≤ sizeLine) (below : z < S ∧ TI < S ∧ TO < S ∧ i1 < S ∧ i2 < S ∧ l1 < S ∧ l2 < S) (res : Value) {h0 : Heap} {N : Nat} (hN : N ≤ z ∧ N ≤ TO ∧ N ≤ i1 ∧ N ≤ i2 ∧ N ≤ S)
    (fin : ∀ g tk acc c as, (∀ b o, b < N → h0.get? b = some o → g.get? b = some o) → g.get? S = some { cls := .type "list", dict := none, data := .seq acc c, slots := #[] } → as.length = xs.size → Got xs ys S g as → acc.toList = as.map Value.ref → R (.ok (.ret res)) { s with heap := g, toks := tk }) :
    ∀ (k i : Nat) (h : Heap) (tk c : Nat) (acc : Array Value) (as : List Addr), xs.size - i = k → i ≤ xs.size → St xs ys z TI TO i1 i2 l1 l2 S i h → (∀ b o, b < N → h0.get? b = some o → h.get? b = some o) →
      h.get? S = some { cls := .type "list", dict := none, data := .seq acc c, slots := #[] } → acc.toList = as.map Value.ref → as.length = i → Got xs ys S h as →
      codeAny (model P w) A (.builtin "list.extend.loop" ⟨[.ref S, .ref z, res], []⟩) R { s with heap := h, toks := tk } := by
  obtain ⟨b1, b2, b3, b4, b5, b6, b7⟩ := below
  obtain ⟨N1, N2, N3, N4, N5⟩ := hN
  have hS : S ≠ z ∧ S ≠ TI ∧ S ≠ TO ∧ S ≠ i1 ∧ S ≠ i2 ∧ S ≠ l1 ∧ S ≠ l2 := ⟨Nat.ne_of_gt b1, Nat.ne_of_gt b2, Nat.ne_of_gt b3, Nat.ne_of_gt b4, Nat.ne_of_gt b5, Nat.ne_of_gt b6, Nat.ne_of_gt b7⟩
  have lo : ∀ b, b < N → b ≠ z ∧ b ≠ TO ∧ b ≠ i1 ∧ b ≠ i2 ∧ b ≠ S := fun b hb => ⟨Nat.ne_of_lt (Nat.lt_of_lt_of_le hb N1), Nat.ne_of_lt (Nat.lt_of_lt_of_le hb N2), Nat.ne_of_lt (Nat.lt_of_lt_of_le hb N3), Nat.ne_of_lt (Nat.lt_of_lt_of_le hb N4), Nat.ne_of_lt (Nat.lt_of_lt_of_le hb N5)⟩
  have hi' : ∀ b, S ≤ b → b ≠ z ∧ b ≠ TO ∧ b ≠ i1 ∧ b ≠ i2 := fun b hb => ⟨Nat.ne_of_gt (Nat.lt_of_lt_of_le b1 hb), Nat.ne_of_gt (Nat.lt_of_lt_of_le b3 hb), Nat.ne_of_gt (Nat.lt_of_lt_of_le b4 hb), Nat.ne_of_gt (Nat.lt_of_lt_of_le b5 hb)⟩
  intro k
  induction k with
  | zero =>
    intro i h tk c acc as hk hi st keep qS qa ql G
    refine codeAny_builtin PySem.F.entry_extend_loop ?_; rw [Around.under_plainId PySem.F.plain_extend_loop _]; show wpAny _ A.in1 (pyNext (.ref z) >>= _) _ _ _
    refine wpAny_bind (last (s := { s with heap := h, toks := tk }) (A := A.in1) hh D st (Array.getElem?_eq_none (by omega)) fun g kp => wpAny_pure ?_)
    have up : ∀ b o, S ≤ b → h.get? b = some o → g.get? b = some o := fun b o hb e => kp b o (hi' b hb).1 (hi' b hb).2.1 (hi' b hb).2.2.1 (hi' b hb).2.2.2 e
    refine fin g tk acc c as (fun b o hb e => kp b o (lo b hb).1 (lo b hb).2.1 (lo b hb).2.2.1 (lo b hb).2.2.2.1 (keep b o hb e)) (up S _ (Nat.le_refl _) qS) (by omega) ⟨G.rise, G.above, fun j a hj => ?_⟩ qa
    obtain ⟨u, v, e1, e2, e3⟩ := G.pairs j a hj
    exact ⟨u, v, e1, e2, up a _ (Nat.le_of_lt (G.above a (List.mem_of_getElem? hj))) e3⟩
  | succ k ih =>
    intro i h tk c acc as hk hi st keep qS qa ql G
    have hlt : i < xs.size := by omega
    have ex := Array.getElem?_eq_getElem hlt
    have ey := Array.getElem?_eq_getElem (show i < ys.size by omega)
    have hsz : acc.size = i := by rw [← Array.length_toList, qa, List.length_map, ql]
    refine codeAny_builtin PySem.F.entry_extend_loop ?_; rw [Around.under_plainId PySem.F.plain_extend_loop _]; show wpAny _ A.in1 (pyNext (.ref z) >>= _) _ _ _
    refine wpAny_bind (turn (s := { s with heap := h, toks := tk }) (S := S) D st (Heap.lt_size qS) ex ey fun g st' ht hz kp => ?_)
    dsimp only at ht hz kp ⊢
    have hSl : S < h.objs.size := Heap.lt_size qS
    have kpS : ∀ b o, S ≤ b → h.get? b = some o → g.get? b = some o := fun b o hb e => kp b o (hi' b hb).1 (hi' b hb).2.1 (hi' b hb).2.2.1 (hi' b hb).2.2.2 e
    have qS' := kpS S _ (Nat.le_refl _) qS
    have up : ∀ b o, b ≠ S → g.get? b = some o → (g.update S (Obj.mapSeq (·.push (Value.ref h.objs.size)))).get? b = some o := fun b o hb e => (Heap.get?_update_other _ _ (Ne.symm hb)).trans e
    show wpAny _ A.in1 (updateSeq S (·.push (Value.ref h.objs.size)) >>= _) _ _ _; refine wpAny_bind ?_
    refine wpAny_updateSeq qS' rfl (wpAny_pure ⟨plainId_quiet PySem.F.plain_extend_loop _, ih (i + 1) _ tk _ (acc.push (Value.ref h.objs.size)) (as ++ [h.objs.size]) (by omega) hlt (st'.keep hS up)
      (fun b o hb e => up b o (lo b hb).2.2.2.2 (kp b o (lo b hb).1 (lo b hb).2.1 (lo b hb).2.2.1 (lo b hb).2.2.2.1 (keep b o hb e))) (Heap.get?_update_self _ qS' rfl) (by rw [Array.toList_push, qa, List.map_append]; rfl) (by rw [List.length_append, ql]; rfl) ⟨?_, ?_, ?_⟩⟩) (by rw [hsz]; omega) (by show (acc.push (Value.ref h.objs.size)).size ≤ sizeLine + 1; rw [Array.size_push, hsz]; omega)
    · exact List.pairwise_append.mpr ⟨G.rise, List.pairwise_singleton _ _, fun a ha b hb => by rw [List.mem_singleton.mp hb]; exact G.there ha⟩
    · intro a ha
      rcases List.mem_append.mp ha with ha | ha
      · exact G.above a ha
      · rw [List.mem_singleton.mp ha]; exact hSl
    · intro j b hj
      rcases Nat.lt_trichotomy j as.length with h1 | h1 | h1
      · rw [List.getElem?_append_left h1] at hj
        obtain ⟨u, v, e1, e2, e3⟩ := G.pairs j b hj
        have hb := G.above b (List.mem_of_getElem? hj)
        exact ⟨u, v, e1, e2, up b _ (Nat.ne_of_gt hb) (kpS b _ (Nat.le_of_lt hb) e3)⟩
      · subst h1
        have hb : h.objs.size = b := by simpa using hj
        subst hb
        exact ⟨_, _, by rw [ql]; exact ex, by rw [ql]; exact ey, up _ _ (Nat.ne_of_gt hSl) ht⟩
      · have e0 : (as ++ [h.objs.size])[j]? = none := List.getElem?_eq_none (by rw [List.length_append, List.length_singleton]; omega)
        rw [e0] at hj; cases hj
end
theorem zip_nolen : typeLookup (.type "zip") "__len__" = pure none := by rw [typeLookup_type, builtinLookup_eq_fast]; kernel_rfl
theorem zip_nohint : typeLookup (.type "zip") "__length_hint__" = pure none := by rw [typeLookup_type, builtinLookup_eq_fast]; kernel_rfl
section
variable {P : Program} {w : World} {A : Around} {E : Value → Shared → Prop} {s : Shared} {l1 l2 : Addr} {xs ys : Array Value}
theorem hint {r : Addr} (hT : s.TypeIs (.ref r) "zip") {Q : Bool → Shared → Prop} (h : Q true s) : wpAny (model P w) A (Builtin.List.listLengthHint (.ref r)) Q E s := by
  unfold Builtin.List.listLengthHint
  refine wpAny_bind (wpAny_specialOf hT zip_nolen ?_)
  show wpAny _ _ (specialOf (Value.ref r) (Str.ofString "__length_hint__") >>= _) _ _ _
  refine wpAny_bind (wpAny_specialOf hT zip_nohint ?_)
  exact wpAny_pure h
variable {z TI TO i1 i2 : Addr}
theorem grow {R : Result → Shared → Prop} (hh : A.handled = none) (D : ZipApart z TI TO i1 i2 l1 l2) (hl : xs.size = ys.size) (hn : xs.size ≤ sizeLine) {S : Addr} (below : z < S ∧ TI < S ∧ TO < S ∧ i1 < S ∧ i2 < S ∧ l1 < S ∧ l2 < S) {N : Nat} (hN : N ≤ z ∧ N ≤ TO ∧ N ≤ i1 ∧ N ≤ i2 ∧ N ≤ S)
    (q0 : IsZip s.heap z TI TO .none) {a b : Value} (q1 : IsPair s.heap TO a b) (st : St xs ys z TI TO i1 i2 l1 l2 S 0 s.heap) (c0 : Nat) (qS : s.heap.get? S = some { cls := .type "list", data := .seq #[] c0 })
    (fin : ∀ g tk acc c as, (∀ b o, b < N → s.heap.get? b = some o → g.get? b = some o) → g.get? S = some { cls := .type "list", dict := none, data := .seq acc c, slots := #[] } → as.length = xs.size → Got xs ys S g as → acc.toList = as.map Value.ref → R (.ok (.ret .none)) { s with heap := g, toks := tk }) :
    wpAny (model P w) A.in1 (Builtin.List.listExtendWith (.ref S) (.ref z) .none) (fun fin t => match fin with | .done f => R (.ok f) t | .again c' => c'.quiet = true ∧ codeAny (model P w) A c' R t) (fun e t => R (.error e) t) s := by
  have hS : S ≠ z ∧ S ≠ TI ∧ S ≠ TO ∧ S ≠ i1 ∧ S ≠ i2 ∧ S ≠ l1 ∧ S ≠ l2 := by
    obtain ⟨b1, b2, b3, b4, b5, b6, b7⟩ := below
    exact ⟨Nat.ne_of_gt b1, Nat.ne_of_gt b2, Nat.ne_of_gt b3, Nat.ne_of_gt b4, Nat.ne_of_gt b5, Nat.ne_of_gt b6, Nat.ne_of_gt b7⟩
  unfold Builtin.List.listExtendWith
  refine wpAny_bind (wpAny_typeOf (T := "zip") ⟨_, q0, rfl⟩ ?_)
  have e1 : Builtin.List.listSameRef (.ref S) (.ref z) = false := by simp [Builtin.List.listSameRef, hS.1]
  have e2 : (Value.type "zip" == Value.type "list") = false := by decide
  have e3 : (Value.type "zip" == Value.type "tuple") = false := by decide
  simp only [e1, e2, e3, Bool.or_false, Bool.false_eq_true, if_false]
  refine wpAny_bind (wpAny_pyIter_zip q0 (wpAny_bind (wpAny_holding (hint ⟨_, q0, rfl⟩ ?_))))
  refine wpAny_ite_split (fun _ => ?_) (fun hab => absurd rfl hab); refine wpAny_bind (wpAny_rule (wpAny_bind ?_))
  show wpAny _ _ (updateSeq S (·.push .none) >>= fun _ => updateSeq S (·.pop)) _ _ _; refine wpAny_bind (wpAny_updateSeq qS rfl ?_)
  have s2 := Heap.get?_update_self (Obj.mapSeq (·.push Value.none)) qS rfl
  refine wpAny_updateSeq (hz := by seq_fits) s2 rfl ?_
  have s3 := Heap.get?_update_self (Obj.mapSeq (·.pop)) s2 rfl
  have oth : ∀ b o, b ≠ S → s.heap.get? b = some o → ((s.heap.update S (Obj.mapSeq (·.push Value.none))).update S (Obj.mapSeq (·.pop))).get? b = some o := fun b o hb e => (Heap.get?_update_other _ _ (Ne.symm hb)).trans ((Heap.get?_update_other _ _ (Ne.symm hb)).trans e)
  refine wpAny_pure ⟨plainId_quiet PySem.F.plain_extend_loop _, loop (s := s) (h0 := s.heap) hh D hl hn below .none hN fin xs.size 0 _ _ _ #[] [] (Nat.sub_zero _) (Nat.zero_le _) (st.keep hS oth) (fun b o hb e => oth b o (Nat.ne_of_lt (Nat.lt_of_lt_of_le hb hN.2.2.2.2)) e) s3 rfl rfl ⟨List.Pairwise.nil, (fun _ h => nomatch h), (fun j a h => by simp at h)⟩⟩
/-- list(z), z a new zip of two tuples -/
theorem call_list {Q : Value → Shared → Prop} (hh : A.handled = none) (D : ZipApart z TI TO i1 i2 l1 l2) (hl : xs.size = ys.size) (hn : xs.size ≤ sizeLine) {N : Nat} (hN : N ≤ z ∧ N ≤ TO ∧ N ≤ i1 ∧ N ≤ i2 ∧ N ≤ s.heap.objs.size) (below : z < s.heap.objs.size ∧ TI < s.heap.objs.size ∧ TO < s.heap.objs.size ∧ i1 < s.heap.objs.size ∧ i2 < s.heap.objs.size ∧ l1 < s.heap.objs.size ∧ l2 < s.heap.objs.size)
    (q0 : IsZip s.heap z TI TO .none) {a b : Value} (q1 : IsPair s.heap TO a b) (qI : IsPair s.heap TI (.ref i1) (.ref i2)) (p1 : s.heap.IsTupleIter i1 l1 0) (p2 : s.heap.IsTupleIter i2 l2 0) (p3 : s.heap.IsTuple l1 xs) (p4 : s.heap.IsTuple l2 ys)
    (fin : ∀ g tk acc c as, (∀ b o, b < N → s.heap.get? b = some o → g.get? b = some o) → g.get? s.heap.objs.size = some { cls := .type "list", dict := none, data := .seq acc c, slots := #[] } → as.length = xs.size → Got xs ys s.heap.objs.size g as → acc.toList = as.map Value.ref → Q (.ref s.heap.objs.size) { s with heap := g, toks := tk }) :
    wpAny (model P w) A (call (.type "list") [.ref z]) Q E s := by
  refine callType_codes (Q₁ := fun obj t => obj = .ref s.heap.objs.size ∧ t = { s with heap := s.heap.push { cls := .type "list", data := .seq #[] } }) PySem.F.called_list (PySem.F.typeCall_list_1 _) PySem.F.entry_list_init (code_list_new _ ⟨rfl, rfl⟩) fun obj t h1 => ?_
  obtain ⟨rfl, rfl⟩ := h1
  have qS : (s.heap.push { cls := .type "list", data := .seq #[] }).get? s.heap.objs.size = some { cls := .type "list", data := .seq #[] } := Heap.get?_push_size _ rfl
  have up : ∀ b o, s.heap.get? b = some o → (s.heap.push { cls := .type "list", data := .seq #[] }).get? b = some o := fun b o e => Heap.get?_push_of_some _ e
  refine ⟨⟨_, qS, rfl⟩, PySem.F.args_list_init_2 _ _, ?_⟩
  show wpAny _ _ (do let old ← Builtin.List.listItems (.ref s.heap.objs.size); Builtin.List.listUpdate (.ref s.heap.objs.size) (fun _ => #[]); letGo old.toList.reverse; Builtin.List.listExtendWith (.ref s.heap.objs.size) (.ref z) .none) _ _ _
  refine wpAny_bind ?_
  unfold Builtin.List.listItems
  refine wpAny_bind (wpAny_seqItems qS rfl (wpAny_pure ?_))
  show wpAny _ _ (updateSeq s.heap.objs.size (fun _ => #[]) >>= fun _ => letGo (#[] : Array Value).toList.reverse >>= fun _ => Builtin.List.listExtendWith (.ref s.heap.objs.size) (.ref z) .none) _ _ _
  refine wpAny_bind (wpAny_updateSeq qS rfl (wpAny_bind (wpAny_letGo ?_)))
  have s2 := Heap.get?_update_self (Obj.mapSeq (fun _ => (#[] : Array Value))) qS rfl
  have oth : ∀ b o, b < s.heap.objs.size → s.heap.get? b = some o → ((s.heap.push { cls := .type "list", data := .seq #[] }).update s.heap.objs.size (Obj.mapSeq (fun _ => (#[] : Array Value)))).get? b = some o := fun b o hb e => (Heap.get?_update_other _ _ (Nat.ne_of_gt hb)).trans (up b o e)
  obtain ⟨b1, b2, b3, b4, b5, b6, b7⟩ := below
  refine grow (A := A.in1) hh D hl hn ⟨b1, b2, b3, b4, b5, b6, b7⟩ hN (oth z _ b1 q0) (oth TO _ b3 q1) ⟨oth TI _ b2 qI, p1.at fun o e => oth _ o b4 e, p2.at fun o e => oth _ o b5 e, p3.at fun o e => oth _ o b6 e, p4.at fun o e => oth _ o b7 e, .inl ⟨oth z _ b1 q0, a, b, oth TO _ b3 q1⟩⟩ _ s2 fun g tk acc c as kp k1 k2 k3 k4 => ?_
  exact ⟨rfl, fin g tk acc c as (fun b o hb e => kp b o hb (oth b o (Nat.lt_of_lt_of_le hb hN.2.2.2.2) e)) k1 k2 k3 k4⟩
end
end Lz
/-! Vf: list(zip(t, u)) of two tuples, by data. -/
namespace Dl
open PySem PySem.Spec PyProof.Rows L2
abbrev ZR := Addr × Obj × V × V
abbrev zO (r : ZR) : HO := .frz r.2.1 (.tup [r.2.2.1, r.2.2.2])
def putZ : Hp → List ZR → Hp
  | H, [] => H
  | H, r :: rs => putZ (upd H r.1 (zO r)) rs
theorem putZ_off {b : Addr} : ∀ (rs : List ZR) (H : Hp), b ∉ rs.map (·.1) → putZ H rs b = H b
  | [], _, _ => rfl
  | r :: rs, H, h => by
    show putZ (upd H r.1 (zO r)) rs b = H b
    rw [List.map_cons] at h
    rw [putZ_off rs _ (fun z => h (List.mem_cons_of_mem _ z)), upd_ne (fun z => h (by rw [z]; exact List.mem_cons_self))]
theorem putZ_at : ∀ (rs : List ZR) (H : Hp), (rs.map (·.1)).Nodup → ∀ r ∈ rs, putZ H rs r.1 = some (zO r)
  | [], _, _, _, h => by cases h
  | q :: rs, H, n, r, h => by
    rw [List.map_cons] at n
    have n' := List.nodup_cons.mp n
    show putZ (upd H q.1 (zO q)) rs r.1 = _
    rcases List.mem_cons.mp h with e | h
    · rw [e, putZ_off rs _ n'.1, upd_same]
    · exact putZ_at rs _ n'.2 r h
theorem mk_rs {g : Heap} : ∀ (as : List Addr) (its jts : List Value) (xs ys : List V), Vals xs its → Vals ys jts → as.length = xs.length → xs.length = ys.length →
    (∀ (j : Nat) (a : Addr), as[j]? = some a → ∃ u v, its[j]? = some u ∧ jts[j]? = some v ∧ IsPair g a u v) →
    ∃ rs : List ZR, rs.map (·.1) = as ∧ rs.map (fun r => (r.2.2.1, r.2.2.2)) = xs.zip ys ∧ ∀ r ∈ rs, ∃ u v, r.2.1 = { cls := .type "tuple", data := .seq #[u, v] } ∧ IsPair g r.1 u v ∧ RelV r.2.2.1 u ∧ RelV r.2.2.2 v
  | [], _, _, [], _, _, _, _, _, _ => ⟨[], rfl, by simp, fun _ h => nomatch h⟩
  | [], _, _, _ :: _, _, _, _, h, _, _ => by cases h
  | _ :: _, _, _, [], _, _, _, h, _, _ => by cases h
  | _ :: _, _, _, _ :: _, [], _, _, _, h, _ => by cases h
  | a :: as, u0 :: _, v0 :: _, x :: xs, y :: ys, .cons rx tx, .cons ry ty, h1, h2, hp => by
    obtain ⟨rs, e1, e2, e3⟩ := mk_rs as _ _ xs ys tx ty (Nat.succ.inj h1) (Nat.succ.inj h2) (fun j b e => hp (j + 1) b (by simpa using e))
    obtain ⟨u, v, q1, q2, q3⟩ := hp 0 a rfl
    simp only [List.getElem?_cons_zero, Option.some.injEq] at q1 q2
    subst q1 q2
    refine ⟨(a, { cls := .type "tuple", data := .seq #[u0, v0] }, x, y) :: rs, by rw [List.map_cons, e1], by rw [List.map_cons, e2]; rfl, fun r hr => ?_⟩
    rcases List.mem_cons.mp hr with e | hr
    · rw [e]; exact ⟨_, _, rfl, q3, rx, ry⟩
    · exact e3 r hr
/-- what list(zip(t, u)) of two tuples makes -/
def NewZ (Q : VK) (H : Hp) (xs ys : List V) : Prop := ∀ (p : Addr) (rs : List ZR), H p = none → (∀ r ∈ rs, H r.1 = none ∧ r.2.1.dict = none) → (rs.map (·.1)).Nodup → p ∉ rs.map (·.1) → rs.map (fun r => (r.2.2.1, r.2.2.2)) = xs.zip ys →
  Q (.ref p) (upd (putZ H rs) p (.lst (rs.map fun r => V.ref r.1)))
theorem refs_vals : ∀ rs : List ZR, Vals (rs.map fun r => V.ref r.1) ((rs.map (·.1)).map Value.ref)
  | [] => .nil
  | _ :: rs => .cons rfl (refs_vals rs)
section
variable {X : Cx} {pins : List (Addr × Obj)} {σ : L2.St} {H : Hp} {s : Shared} {Q : VK}
theorem newZ_ep {xs ys : List V} {its jts : List Value} (I : Inv X pins σ H s) (rx : Vals xs its) (ry : Vals ys jts) (hz : xs.length ≤ sizeLine) (hl : xs.length = ys.length) {g : Heap} {tk c : Nat} {acc : Array Value} {as : List Addr} {p : Addr}
    (kp : ∀ b o, s.heap.get? b = some o → g.get? b = some o) (hp : s.heap.objs.size ≤ p) (gS : g.get? p = some { cls := .type "list", dict := none, data := .seq acc c, slots := #[] }) (hlen : as.length = its.toArray.size) (G : Lz.Got its.toArray jts.toArray p g as) (ea : acc.toList = as.map Value.ref) (q : NewZ Q H xs ys) :
    EP X pins σ Q (.ref p) { s with heap := g, toks := tk } := by
  have la : as.length = xs.length := by rw [hlen, List.size_toArray, rx.length]
  obtain ⟨rs, e1, e2, e3⟩ := mk_rs (g := g) as its jts xs ys rx ry la hl (fun j a e => by
    obtain ⟨u, v, h1, h2, h3⟩ := G.pairs j a e
    exact ⟨u, v, by simpa using h1, by simpa using h2, h3⟩)
  have nd : (rs.map (·.1)).Nodup := by
    rw [e1]
    exact List.Pairwise.imp (fun {a b} (h : a < b) => Nat.ne_of_lt h) G.rise
  have fr : ∀ b, s.heap.objs.size ≤ b → H b = none := fun b h => I.hok.fresh h
  have hi : ∀ r ∈ rs, p < r.1 := fun r h => G.above r.1 (by rw [← e1]; exact List.mem_map_of_mem h)
  have hpn : p ∉ rs.map (·.1) := fun z => by rw [e1] at z; exact Nat.lt_irrefl _ (G.above p z)
  have lr : rs.length ≤ sizeLine := by
    have : rs.length = as.length := by rw [← e1, List.length_map]
    omega
  have dn : ∀ r ∈ rs, r.2.1.dict = none := fun r h => by obtain ⟨u, v, e, _⟩ := e3 r h; rw [e]
  have frr : ∀ r ∈ rs, H r.1 = none := fun r h => fr _ (Nat.le_trans hp (Nat.le_of_lt (hi r h)))
  have off : ∀ b, b ≠ p → b ∉ rs.map (·.1) → upd (putZ H rs) p (.lst (rs.map fun r => V.ref r.1)) b = H b := fun b h1 h2 => by rw [upd_ne h1, putZ_off rs H h2]
  have up : ∀ b u, H b = some u → upd (putZ H rs) p (.lst (rs.map fun r => V.ref r.1)) b = some u := fun b u e => by
    rw [off b (fun z => by rw [z, fr p hp] at e; cases e) (fun z => by
      obtain ⟨r, hr, er⟩ := List.mem_map.mp z
      rw [← er, frr r hr] at e; cases e)]
    exact e
  refine ⟨.ref p, upd (putZ H rs) p (.lst (rs.map fun r => V.ref r.1)), ?_, rfl, q p rs (fr p hp) (fun r h => ⟨frr r h, dn r h⟩) nd hpn e2⟩
  refine I.call' (ch := []) rfl ⟨fun b o z _ _ _ => kp b o z, fun b o z _ _ _ => ⟨o.slots, kp b o z⟩, fun b o z n _ => ?_, fun b o z _ => ⟨o, kp b o z⟩, fun b ws z => up b _ z, fun b o u z => up b _ z, fun b ps z => ⟨#[], by rw [up b _ z]; simp⟩⟩ (fun b u z => ?_) I.bare fun b z => by simp at z
  · have hb := Heap.lt_size z
    rw [off b (fun w => by rw [w] at hb; exact absurd hb (Nat.not_lt.mpr hp)) (fun w => by
      obtain ⟨r, hr, er⟩ := List.mem_map.mp w
      rw [← er] at hb
      exact absurd hb (Nat.not_lt.mpr (Nat.le_trans hp (Nat.le_of_lt (hi r hr)))))]
    exact n
  · by_cases h1 : b = p
    · rw [h1, upd_same] at z
      cases z
      rw [h1]
      refine ⟨by rw [List.length_map]; exact lr, acc.toList, c, by rw [ea, ← e1]; exact refs_vals rs, ?_⟩
      rw [Array.toArray_toList]
      exact gS
    · by_cases h2 : b ∈ rs.map (·.1)
      · obtain ⟨r, hr, er⟩ := List.mem_map.mp h2
        rw [upd_ne h1, ← er, putZ_at rs H nd r hr] at z
        cases z
        obtain ⟨u, v, f1, f2, f3, f4⟩ := e3 r hr
        rw [← er]
        refine ⟨by rw [f1]; exact f2, by show 2 ≤ sizeLine; decide, [u, v], .cons f3 (.cons f4 .nil), ⟨_, f2, rfl, _, rfl⟩⟩
      · rw [off b h1 h2] at z
        exact (I.hok b u z).stay (fun d v _ y => kp d v y) (fun d y => up d _ y) fun d ws y => up d _ y
/-- list(zip(t, u)) -/
def tLz (K : PySem.W.Frag) (ta : TA) : TE := fun σ H Q => ta σ H fun vs H1 => ∃ a b xs ys, vs = [.ref a, .ref b] ∧ SqT K H1 a xs ∧ SqT K H1 b ys ∧ xs.length = ys.length ∧ NewZ Q H1 xs ys
theorem pe_lz {e e2 : Expr} {ta : TA} {p p2 pos cpos : Pos} (hc : X.calm = true) (hg : Gl X "list") (hm : X.mg "list" = none) (hg2 : Gl X "zip") (hm2 : X.mg "zip" = none) (ha : PA X [e, e2] ta)
    (hs : starEach [.Call (.Name "zip" p2) [e, e2] [] cpos] X.env = (false, eval (.Call (.Name "zip" p2) [e, e2] [] cpos) X.env) :: starEach [] X.env := by rfl)
    (hs2 : starEach [e, e2] X.env = (false, eval e X.env) :: starEach [e2] X.env := by rfl) (hpl : (backTo cpos (starEach [e2] X.env)).any (·.1) = false := by rfl) (hv : bootBuiltins "list" = some (.type "list") := by decide +kernel) :
    PE X (.Call (.Name "list" p) [.Call (.Name "zip" p2) [e, e2] [] cpos] [] pos) (tLz X.K ta) := by
  refine ⟨fun pins s σ H Q I hq => ?_⟩
  refine wpAny_Call_Name_kw (ld_blt I hg hm hv (PyProof.Rows.callWith_type1 ?_ hs rfl)); rw [hs]
  show wpAny _ _ (spliced ((false, eval (.Call (.Name "zip" p2) [e, e2] [] cpos) X.env) :: backTo pos (starEach [] X.env))) _ _ s
  refine Calls.spliced_cons (Call_ (ld_blt I hg2 hm2 PyProof.Rows.boot_zip (PyProof.Rows.callWith_type1 (thn (ha.run cpos pins s σ H _ I hq) fun us s1 ⟨vs, H1, I1, r1, q1⟩ => ?_) hs2 hpl)))
  obtain ⟨a, b, xs, ys, ex, hx, hy, hl, q⟩ := q1
  subst ex
  cases r1 with
  | cons r rr =>
    cases rr with
    | cons r' rr =>
      cases rr
      cases r
      cases r'
      obtain ⟨its, rv, k1, hz⟩ := I1.tuple hx
      obtain ⟨jts, rw, k2, _⟩ := I1.tuple hy
      obtain ⟨o1, ho1, _⟩ := id k1
      obtain ⟨o2, ho2, _⟩ := id k2
      have la := Heap.lt_size ho1
      have lb := Heap.lt_size ho2
      refine RZ.call_zipT (show s1.heap.IsTuple a its.toArray from k1) (show s1.heap.IsTuple b jts.toArray from k2) fun h' hz' hTI hTO h1 h2 hsz hk => Calls.spliced_nil ?_
      refine Lz.call_list (s := { s1 with heap := h' }) (N := s1.heap.objs.size) (xs := its.toArray) (ys := jts.toArray) (I1.ok.hd hc) (PySem.W.ktu_apart s1.heap.objs.size a b la lb) (by simp only [List.size_toArray]; rw [← rv.length, ← rw.length]; exact hl) (by simp only [List.size_toArray]; rw [← rv.length]; exact hz) ⟨Nat.le_add_right _ _, Nat.le_add_right _ _, Nat.le_refl _, Nat.le_add_right _ _, ?_⟩ ⟨?_, ?_, ?_, ?_, ?_, ?_, ?_⟩ hz' hTO hTI h1 h2 (let ⟨o, ho, r⟩ := k1; ⟨o, hk _ _ ho, r⟩) (let ⟨o, ho, r⟩ := k2; ⟨o, hk _ _ ho, r⟩) fun g tk acc c as kp gS ln G ea => ?_
      · show s1.heap.objs.size ≤ h'.objs.size; rw [hsz]; exact Nat.le_add_right _ _
      · show _ < h'.objs.size; rw [hsz]; exact Nat.add_lt_add_left (by decide) _
      · show _ < h'.objs.size; rw [hsz]; exact Nat.add_lt_add_left (by decide) _
      · show _ < h'.objs.size; rw [hsz]; exact Nat.add_lt_add_left (by decide) _
      · show _ < h'.objs.size; rw [hsz]; exact Nat.lt_add_of_pos_right (by decide)
      · show _ < h'.objs.size; rw [hsz]; exact Nat.add_lt_add_left (by decide) _
      · show _ < h'.objs.size; rw [hsz]; exact Nat.lt_of_lt_of_le la (Nat.le_add_right _ _)
      · show _ < h'.objs.size; rw [hsz]; exact Nat.lt_of_lt_of_le lb (Nat.le_add_right _ _)
      · exact newZ_ep (p := h'.objs.size) I1 rv rw hz hl (fun b o z => kp b o (Heap.lt_size z) (hk b o z)) (by rw [hsz]; exact Nat.le_add_right _ _) gS ln G ea q
end
section
variable {K : PySem.W.Frag} {B : Bt} {P : D → Prop} {δ : List Sd} {X : Xc} {G H : Hp}
theorem putZ_ok : ∀ (rs : List ZR) (G H : Hp), Ok B G H → (∀ r ∈ rs, H r.1 = none ∧ r.2.1.dict = none) → (rs.map (·.1)).Nodup → Go B G H (putZ G rs) (putZ H rs) ∧ Ok B (putZ G rs) (putZ H rs)
  | [], _, _, o, _, _ => ⟨Go.refl, o⟩
  | r :: rs, G, H, o, h, n => by
    rw [List.map_cons] at n
    have n' := List.nodup_cons.mp n
    have h0 := (h r List.mem_cons_self).1
    have o1 := new_ok (x := zO r) o nt_tup h0
    obtain ⟨g2, o2⟩ := putZ_ok rs _ _ o1 (fun q hq => ⟨by
      rw [upd_ne (fun z => n'.1 (by rw [← z]; exact List.mem_map_of_mem hq))]
      exact (h q (List.mem_cons_of_mem _ hq)).1, (h q (List.mem_cons_of_mem _ hq)).2⟩) n'.2
    exact ⟨(new_go o h0).trans o1 g2, o2⟩
theorem putZ_dds {G0 : Hp} : ∀ (rs : List ZR) (xs ys : List V) (as bs : List D), Dds K B G0 xs as → Dds K B G0 ys bs → rs.map (fun r => (r.2.2.1, r.2.2.2)) = xs.zip ys → (∀ r ∈ rs, G0 r.1 = some (zO r) ∧ r.2.1.dict = none) →
    Dds K B G0 (rs.map fun r => V.ref r.1) ((as.zip bs).map fun q => .tup [q.1, q.2])
  | [], [], _, _, _, .nil, _, _, _ => by simp; exact .nil
  | [], _ :: _, [], _, _, _, .nil, _, _ => by simp; exact .nil
  | [], _ :: _, _ :: _, _, _, _, _, e, _ => by simp at e
  | _ :: _, [], _, _, _, _, _, e, _ => by simp at e
  | _ :: _, _ :: _, [], _, _, _, _, e, _ => by simp at e
  | r :: rs, x :: xs, y :: ys, _, _, .cons hx tx, .cons hy ty, e, h => by
    rw [List.map_cons, List.zip_cons_cons] at e
    injection e with e1 e2
    have h0 := h r List.mem_cons_self
    have ih := putZ_dds rs xs ys _ _ tx ty e2 fun q hq => h q (List.mem_cons_of_mem _ hq)
    rw [Prod.mk.injEq] at e1
    refine .cons (.tup ⟨h0.1, h0.2⟩ ?_) ih
    rw [e1.1, e1.2]
    exact .cons hx (.cons hy .nil)
theorem we_lz {ta : TA} (h : WAx K B X ta δ fun ds => ∃ as bs, ds = [.tup as, .tup bs] ∧ as.length = bs.length ∧ P (.lst ((as.zip bs).map fun q => .tup [q.1, q.2]))) : WEx K B X (tLz K ta) δ P := fun G0 H0 σ G H Q s xx q =>
  h G0 H0 σ G H _ s xx fun vs ds G1 H1 g o hs ⟨as, bs, e, hl, hp⟩ => by
    subst e
    cases hs with
    | cons h1 t =>
      cases t with
      | cons h2 t =>
        cases t
        cases h1 with
        | tup g1 d1 =>
          cases h2 with
          | tup g2 d2 =>
            refine ⟨_, _, _, _, rfl, SqT.ofZ (o.u _ _ g1.1), SqT.ofZ (o.u _ _ g2.1), by rw [d1.length, d2.length]; exact hl, fun p rs f1 f2 f3 f4 f5 => ?_⟩
            obtain ⟨g3, o3⟩ := putZ_ok rs G1 H1 o f2 f3
            have fp : putZ H1 rs p = none := by rw [putZ_off rs _ f4]; exact f1
            have at3 : ∀ r ∈ rs, putZ G1 rs r.1 = some (zO r) ∧ r.2.1.dict = none := fun r hr => ⟨putZ_at rs G1 f3 r hr, (f2 r hr).2⟩
            have d3 := putZ_dds rs _ _ _ _ (d1.mono g3.s) (d2.mono g3.s) f5 at3
            exact q _ _ _ _ ((g.trans o g3).trans o3 (new_go o3 fp)) (new_ok o3 nt_lst fp) (.lst upd_same (d3.mono (same_upd (o3.fresh fp)))) hp
end
end Dl
/-! Vg: a, b, *c = t, t a tuple. -/
namespace Lz
open PySem PySem.Calls PyProof.Rows PyProof.V PySem.Spec
section
variable {P : Program} {w : World} {A : Around} {E : Value → Shared → Prop} {s : Shared}
/-- a tuple's iterator, k items ahead of it gone -/
theorem walk_from (hh : A.handled = none) (I t : Addr) (hne : t ≠ I) (items : Array Value) (k : Nat) (hk : k ≤ items.size) :
    Walks P w A I [I, t] [I] (items.size - k) (fun i v => items[k + i]? = some v) (fun i h => h.IsTupleIter I t (k + i) ∧ h.IsTuple t items) where
  sub := (PySem.Walks.tuple (prog := P) (w := w) hh I t hne items).sub
  frame := fun i h h' st q => (PySem.Walks.tuple (prog := P) (w := w) hh I t hne items).frame (k + i) h h' st q
  item := fun i s Q E hi st hQ => (PySem.Walks.tuple (prog := P) (w := w) hh I t hne items).item (k + i) s Q E (by omega) st fun v h' tk a b c => hQ v h' tk a b c
  done := fun s Q E st hQ => (PySem.Walks.tuple (prog := P) (w := w) hh I t hne items).done s Q E (by rw [show k + (items.size - k) = items.size by omega] at st; exact st) hQ
  self := fun i s Q E st hQ => (PySem.Walks.tuple (prog := P) (w := w) hh I t hne items).self (k + i) s Q E st hQ
theorem unpack_star {t : Addr} {items : Array Value} {k : Nat} {R : List Value → Shared → Prop} (hh : A.handled = none) (ht : s.heap.IsTuple t items) (hk : k ≤ items.size) (hz : items.size ≤ sizeLine)
    (h : ∀ (g : Heap) (tk : Nat), (∀ b o, s.heap.get? b = some o → g.get? b = some o) → R (items.toList.take k ++ [.ref g.objs.size]) { s with heap := g.push { cls := .type "list", data := .seq (items.toList.drop k).toArray }, toks := tk }) :
    wpAny (model P w) A (unpackItems (.ref t) (k + 1) (some k)) R E s := by
  have hne : t ≠ s.heap.objs.size := let ⟨o, ho, _⟩ := ht; Nat.ne_of_lt (Heap.lt_size ho)
  unfold unpackItems
  refine wpAny_bind ?_
  unfold notIterableAtAll
  refine wpAny_bind (wpAny_specialOf ht.typeIs F.slot_tuple_iter.lookup (wpAny_pure ?_))
  simp only [Bool.false_eq_true, if_false]
  refine wpAny_bind (wpAny_holding (wpAny_pyIter_tuple ht (wpAny_bind (wpAny_holding (wpAny_draw_tuple hne k 0 _ _ ⟨_, Heap.get?_push_size _ rfl, rfl, rfl⟩ (ht.push _) (by omega) fun g1 p1 m1 => ?_)))))
  have q1 : g1.IsTuple t items := (ht.push _).extBut m1.extBut hne
  rw [List.drop_zero, if_neg (by rw [List.length_take, Array.length_toList]; omega)]
  have sz : s.heap.objs.size < g1.objs.size := let ⟨_, e, _⟩ := p1; Heap.lt_size e
  have tl : t < g1.objs.size := let ⟨_, e, _⟩ := q1; Heap.lt_size e
  refine wpAny_bind (wpAny_holding (wpAny_collect_iter (s := { s with heap := g1 }) (T := "tuple_iterator") (.inr (.inr (.inr rfl))) (walk_from (A := A.in1) hh s.heap.objs.size t hne items k hk).toS (fun i s' st => st.1.typeIs) ⟨by simpa using p1, q1⟩ (fun b hb => ?_) List.mem_cons_self (fun s' acc mv ac => ?_) (by omega)))
  · rcases List.mem_cons.mp hb with e | hb
    · rw [e]; exact sz
    · rw [List.mem_singleton.mp hb]; exact tl
  have eacc : acc.toList = items.toList.drop k := by
    apply List.ext_getElem?
    intro j
    rw [List.getElem?_drop, Array.getElem?_toList, Array.getElem?_toList]
    cases e : acc[j]? with
    | some v => exact (ac.2 j v e).symm
    | none =>
      have hj : acc.size ≤ j := Array.getElem?_eq_none_iff.mp e
      rw [ac.1] at hj
      exact (Array.getElem?_eq_none (by omega)).symm
  rw [eacc]
  have hm : k + 1 - 1 - k = 0 := by omega
  simp only [hm, Nat.not_lt_zero, if_false, Nat.sub_zero, List.take_length, List.drop_length, List.append_nil]
  obtain ⟨hp, g, d, tk, os⟩ := s'
  obtain ⟨m1', m2, m3, m4, m5⟩ := mv
  simp only at m2 m3 m4
  subst m2 m3 m4
  refine wpAny_bind (wpAny_newObj_type ?_ (by show (items.toList.drop k).toArray.size ≤ sizeLine; rw [List.size_toArray, List.length_drop, Array.length_toList]; omega))
  refine wpAny_pure (h _ tk fun b o e => m1' b o (fun z => ?_) (m1.extBut b o (Nat.ne_of_lt (Heap.lt_size e)) (Heap.get?_push_of_some _ e)))
  rw [List.mem_singleton.mp z] at e
  exact absurd (Heap.lt_size e) (Nat.lt_irrefl _)
end
end Lz
namespace Dl
open PySem PySem.Spec PyProof.Rows L2
section
variable {X : Cx}
theorem pgs_star {e : Expr} {es : List Expr} {t : TG} {u : TGs} {p : Pos} (h1 : PG X e t) (h2 : PGs X es u) (hs : (assignEach (.Starred e p :: es) X.env).map (·.2) = assign e X.env :: (assignEach es X.env).map (·.2) := by rfl) : PGs X (.Starred e p :: es) (gCons t u) :=
  ⟨fun pins s σ H vs us Q I r h => by
    obtain ⟨v, vr, e1, h⟩ := h
    subst e1
    cases r with
    | cons r rr =>
      rw [hs]
      exact assignInOrder_cons (thn (h1.run pins s σ H _ _ _ I r h) fun _ s1 ⟨σ1, H1, I1, q1⟩ => h2.run pins s1 σ1 H1 _ _ Q I1 rr q1)⟩
/-- (a, .., *c) = a tuple -/
def gStar (K : PySem.W.Frag) (k : Nat) (t : TGs) : TG := fun v σ H Q => ∃ a xs, v = .ref a ∧ SqT K H a xs ∧ k ≤ xs.length ∧ ∀ l, H l = none → t (xs.take k ++ [.ref l]) σ (upd H l (.lst (xs.drop k))) Q
theorem pg_star {es : List Expr} {k c : Nat} {t : TGs} {pos : Pos} (hc : X.calm = true) (h : PGs X es t) (hn : (assignEach es X.env).length = k + 1 := by rfl) (hst : (assignEach es X.env).findIdx? (·.1) = some k := by rfl) : PG X (.Tuple es c pos) (gStar X.K k t) := by
  refine ⟨fun pins s σ H v u Q I r hw => ?_⟩
  obtain ⟨a, xs, e1, hq, hl, hw⟩ := hw
  subst e1
  cases r
  obtain ⟨its, rv, ht, hz⟩ := I.tuple hq
  have el := rv.length
  rw [assign_Tuple]
  refine wpAny_bind (wpAny_standAt ?_)
  unfold unpack
  rw [hn, hst]
  refine wpAny_bind (wpAny_holding (Lz.unpack_star (items := its.toArray) (I.ok.hd hc) (show s.heap.IsTuple a its.toArray from ht) (by rw [List.size_toArray]; omega) (by rw [List.size_toArray]; omega) fun g tk kp => ?_))
  have I1 : Inv X pins σ H { s with heap := g, toks := tk } := I.kept kp
  have hg : (g.push { cls := .type "list", data := .seq (its.drop k).toArray }).get? g.objs.size = some { cls := .type "list", data := .seq (its.drop k).toArray } := Heap.get?_push_size _ rfl
  have hf : H g.objs.size = none := I1.hok.fresh (Nat.le_refl _)
  have I2 : Inv X pins σ (upd H g.objs.size (.lst (xs.drop k))) { s with heap := g.push { cls := .type "list", data := .seq (its.drop k).toArray }, toks := tk } :=
    I1.laid (t' := tk) (fun b u e => Heap.get?_push_of_some _ e) (Nat.le_refl _) ⟨by rw [List.length_drop]; omega, its.drop k, 0, rv.drop k, hg⟩
  exact h.run pins _ σ _ _ _ Q I2 ((rv.take k).append (.cons (show RelV (V.ref g.objs.size) (Value.ref g.objs.size) from rfl) .nil)) (hw g.objs.size hf)
end
section
variable {K : PySem.W.Frag} {B : Bt} {P : D → Prop} {δ : List Sd} {O : Out} {te : TE}
theorem ws_star2 {i j l : Nat} (h : WEx K B O.x te δ fun d => ∃ a b r, d = .tup (a :: b :: r) ∧ O.nx (((δ.set i (.val a)).set j (.val b)).set l (.val (.lst r)))) : WS K B (tAsg te (gStar K 2 (gCons (gName i) (gCons (gName j) (gCons (gName l) gNil))))) δ O := fun G0 H0 σ G H E s xx n _ _ _ =>
  h G0 H0 σ G H _ s (xx.ct s) fun v d G1 H1 g o hd ⟨a, b, r, e, p⟩ => by
    subst e
    cases hd with
    | tup hg t =>
      cases t with
      | cons h1 t =>
        cases t with
        | cons h2 t =>
          rename_i vs
          refine ⟨_, _, rfl, SqT.ofZ (o.u _ _ hg.1), by simp, fun q hq => ⟨_, _, rfl, _, _, rfl, _, _, rfl, rfl, ?_⟩⟩
          have g2 := new_go (x := HO.lst vs) o hq
          have o2 := new_ok (x := HO.lst vs) o nt_lst hq
          exact n _ _ _ _ (g.s.trans g2.s) ((((s.on (g.trans o g2) o2).setVal i (h1.mono g2.s)).setVal j (h2.mono g2.s)).setVal l (.lst upd_same (t.mono g2.s))) p
end
end Dl
/-! Vh: a loop over a list or a tuple, whichever it is; sorted(ints); a, b, c, d = t; bounds of products. -/
namespace Dl
open PySem PySem.Spec PyProof.Rows L2
/-- for .. in xs, a list or a tuple -/
def iAny (K : PySem.W.Frag) (tl : TE) : TI := fun σ H R => tl σ H fun x H1 => ∃ a, x = .ref a ∧ (((∃ xs, SqL K H1 a xs) ∧ R (Itl K a) H1) ∨ ((∃ xs, SqT K H1 a xs) ∧ R (Itt K a) H1))
theorem pi_any {X : Cx} {tg l : Expr} {tl : TE} (hl : PE X l tl) : PI X tg l (iAny X.K tl) := by
  refine ⟨fun pins s σ H R I h => thn (hl.run pins s σ H _ I h) fun v s1 ⟨x, H1, I1, r1, a, e, q1⟩ => ?_⟩
  subst e
  cases r1
  have fp : ∀ b, b ∈ [s1.heap.objs.size] → FpOk X pins H1 b := fun b hb => by
    rw [List.mem_singleton.mp hb]
    exact I1.fpOk (Nat.le_refl _) (I1.hok.fresh (Nat.le_refl _))
  rcases q1 with ⟨⟨xs, hq⟩, q⟩ | ⟨⟨xs, hq⟩, q⟩
  · obtain ⟨its, rv, p, hz⟩ := I1.list hq
    exact wpAny_pyIter_list p.isList ⟨s1.heap.objs.size, [s1.heap.objs.size], _, _, H1, rfl, I1.kept (t' := s1.toks) fun b o e => Heap.get?_push_of_some _ e, turn_list a _, ⟨_, Heap.get?_push_size _ rfl, rfl, rfl⟩, fp, q⟩
  · obtain ⟨its, rv, p, hz⟩ := I1.tuple hq
    exact wpAny_pyIter_tuple (show s1.heap.IsTuple a its.toArray from p) ⟨s1.heap.objs.size, [s1.heap.objs.size], _, _, H1, rfl, I1.kept (t' := s1.toks) fun b o e => Heap.get?_push_of_some _ e, turn_tuple a _, ⟨_, Heap.get?_push_size _ rfl, rfl, rfl⟩, fp, q⟩
section
variable {K : PySem.W.Frag} {B : Bt} {δ : List Sd} {X : Xc} {O : Out} {te : TE} {Q : D → Prop}
theorem wi_any {P : List D → Prop} (h : WEx K B X te δ fun d => ∃ ds, (d = .lst ds ∨ d = .tup ds) ∧ P ds) : WIx K B X (iAny K te) δ P := fun G0 H0 σ G H R s xx q =>
  h G0 H0 σ G H _ s xx fun x a G1 H1 g1 o1 hx ⟨ds, e, p⟩ => by
    rcases e with e | e
    · subst e
      cases hx with
      | lst h t => exact ⟨_, rfl, .inl ⟨⟨_, SqL.of (o1.u _ _ h)⟩, q _ ds G1 H1 g1 o1 (it_list h t) p⟩⟩
    · subst e
      cases hx with
      | tup h t => exact ⟨_, rfl, .inr ⟨⟨_, SqT.ofZ (o1.u _ _ h.1)⟩, q _ ds G1 H1 g1 o1 (it_tup h t) p⟩⟩
theorem Dds.ofInts {G : Hp} : ∀ ns : List Int, Dds K B G (ns.map V.int) (ns.map D.int)
  | [] => .nil
  | _ :: ns => .cons (.int _) (Dds.ofInts ns)
theorem rc_sortI {ns : List Int} (h : ∀ ms : List Int, ms.Perm ns → ms.Pairwise (· ≤ ·) → Q (.lst (ms.map D.int))) : RC K B (rSortedI K) [.lst (ns.map D.int)] Q := fun G H vs R o hs q => by
  cases hs with
  | cons h1 t1 =>
    cases t1
    cases h1 with
    | lst hg t =>
      refine ⟨_, ns, rfl, by rw [← Dds.ints t]; exact SqL.of (o.u _ _ hg), fun ms p h1 h2 h3 => ?_⟩
      exact q.new o nt_lst h3 (.lst upd_same (Dds.ofInts ms)) (h ms h1 h2)
theorem ws_unt4 {i j l m : Nat} (h : WEx K B O.x te δ fun d => ∃ a b c e, d = .tup [a, b, c, e] ∧ O.nx ((((δ.set i (.val a)).set j (.val b)).set l (.val c)).set m (.val e))) : WS K B (tAsg te (gTup K 4 (gCons (gName i) (gCons (gName j) (gCons (gName l) (gCons (gName m) gNil)))))) δ O := fun G0 H0 σ G H E s xx n _ _ _ =>
  h G0 H0 σ G H _ s (xx.ct s) fun v d G1 H1 g o hd ⟨a, b, c, e, ed, p⟩ => by
    subst ed
    cases hd with
    | tup hg t =>
      cases t with
      | cons h1 t =>
        cases t with
        | cons h2 t =>
          cases t with
          | cons h3 t =>
            cases t with
            | cons h4 t =>
              cases t
              exact ⟨_, _, rfl, SqT.ofZ (o.u _ _ hg.1), rfl, _, _, rfl, _, _, rfl, _, _, rfl, _, _, rfl, rfl, n _ _ G1 H1 g.s (((((s.on g o).setVal i h1).setVal j h2).setVal l h3).setVal m h4) p⟩
end
theorem mulB {x y m n : Int} (hx : -m ≤ x ∧ x ≤ m) (hy : -n ≤ y ∧ y ≤ n) : -(m * n) ≤ x * y ∧ x * y ≤ m * n := by
  have h1 : x.natAbs ≤ m.natAbs := by omega
  have h2 : y.natAbs ≤ n.natAbs := by omega
  have h3 : (x * y).natAbs ≤ m.natAbs * n.natAbs := by rw [Int.natAbs_mul]; exact Nat.mul_le_mul h1 h2
  have h4 : ((m.natAbs * n.natAbs : Nat) : Int) = m * n := by
    rw [Int.natCast_mul, Int.natAbs_of_nonneg (by omega), Int.natAbs_of_nonneg (by omega)]
  omega
end Dl
/-! Vi: {elt for t0 in i0 if .. for t1 in i1 if ..}, elt a tuple of ints. -/
namespace S2
open PySem PySem.Spec PyProof.Rows L2
abbrev sc2 (elt t0 i0 : Expr) (f0 : List Expr) (t1 i1 : Expr) (f1 : List Expr) (scope : Scope) (pos : Pos) : Expr := .SetComp elt [⟨t0, i0, f0, 0⟩, ⟨t1, i1, f1, 0⟩] scope pos
section
variable {P : Program} {w : World} {A : Around} {R : Result → Shared → Prop} {s : Shared} {elt t0 i0 t1 i1 : Expr} {f0 f1 : List Expr} {scope : Scope} {pos : Pos} {it acc : Value} {env : Env}
theorem turn_out : compTurn (sc2 elt t0 i0 f0 t1 i1 f1 scope pos) 0 it acc env = (do
    standAt i0.pos
    match ← pyNext it with
    | none => pure (.done .next)
    | some u =>
      letOwnedTupleGo t0 it u
      assign t0 env u
      let mut b := true
      for c in f0 do
        if b then b ← isTrue c env (eval c env)
      if b then
        let y ← eval i1 env
        standAt i1.pos
        let z ← foldedSetIterable i1 env y
        let _ ← runOwn (.compStart (sc2 elt t0 i0 f0 t1 i1 f1 scope pos) 1 (← holding [z] (pyIter z)) acc env) env
      again (.compLoop (sc2 elt t0 i0 f0 t1 i1 f1 scope pos) 0 it acc env)) := by rfl
theorem turn_in : compTurn (sc2 elt t0 i0 f0 t1 i1 f1 scope pos) 1 it acc env = (do
    standAt i1.pos
    match ← pyNext it with
    | none => pure (.done .next)
    | some u =>
      letOwnedTupleGo t1 it u
      assign t1 env u
      let mut b := true
      for c in f1 do
        if b then b ← isTrue c env (eval c env)
      if b then
        (do let y ← eval elt env; standAt elt.pos; let _ ← call (.builtin "set.add") [acc, y])
      again (.compLoop (sc2 elt t0 i0 f0 t1 i1 f1 scope pos) 1 it acc env)) := by rfl
/-- the tests of a clause -/
abbrev tests (env : Env) (fs : List Expr) : Sem Bool := forIn fs true fun c r => if r = true then do let b ← isTrue c env (eval c env); pure (ForInStep.yield b) else pure (ForInStep.yield r)
abbrev Nb (P : Program) (w : World) (A : Around) (env : Env) (R : Result → Shared → Prop) : Value → Shared → Prop := notedBy (model P w) A env fun e t => R (.error e) t
theorem loop_out (hs : ∀ x, foldedSetIterable i1 env x = pure x) (I : Nat → Shared → Prop)
    (step : ∀ n s, I n s → wpAny (model P w) A (pyNext it) (fun r t => match r with
      | none => R (.ok .next) t
      | some u => wpAny (model P w) A (letOwnedTupleGo t0 it u) (fun _ t => wpAny (model P w) A (assign t0 env u) (fun _ t => wpAny (model P w) A (tests env f0) (fun b t =>
          if b = true then wpAny (model P w) A (eval i1 env) (fun x t => wpAny (model P w) A (pyIter x) (fun it1 t =>
            codeAny (model P w) A (.compStart (sc2 elt t0 i0 f0 t1 i1 f1 scope pos) 1 it1 acc env) (fun r t => match r with
              | .ok _ => ∃ m, m < n ∧ I m t
              | .error _ => False) t) (Nb P w A env R) t) (Nb P w A env R) t
          else ∃ m, m < n ∧ I m t) (Nb P w A env R) t) (Nb P w A env R) t) (Nb P w A env R) t) (Nb P w A env R) s)
    (n : Nat) (h : I n s) : codeAny (model P w) A (.compLoop (sc2 elt t0 i0 f0 t1 i1 f1 scope pos) 0 it acc env) R s := by
  refine codeAny_loop rfl I (fun n s hI => ?_) n h
  show wpAny _ A ((compTurn (sc2 elt t0 i0 f0 t1 i1 f1 scope pos) 0 it acc env).onRaise (fun x => do noteFrame x env; theTreesLotGoes x)) _ _ s
  refine wpAny_noted ?_; rw [turn_out]
  refine wpAny_bind (wpAny_standAt (wpAny_bind (wpAny_mono (step n s hI) (fun r t k => ?_) fun _ _ z => z)))
  cases r with
  | none => exact wpAny_pure k
  | some u =>
    refine wpAny_bind (wpAny_mono k (fun _ t k => wpAny_bind (wpAny_mono k (fun _ t k => wpAny_bind (wpAny_mono k (fun b t k => ?_) fun _ _ z => z)) fun _ _ z => z)) fun _ _ z => z)
    cases b with
    | false => exact wpAny_pure ⟨rfl, k⟩
    | true =>
      refine wpAny_bind (wpAny_mono k (fun x t k => wpAny_bind (wpAny_standAt (wpAny_bind (wpAny_of_eq (hs x) (wpAny_bind (wpAny_holding (wpAny_mono k (fun it1 t k => ?_) fun _ _ z => z))))))) fun _ _ z => z)
      refine wpAny_bind (wpAny_runOwn ?_); rw [Around.mark_none]
      refine codeAny_mono k fun r t hr => ?_
      cases r with
      | ok f => first | exact wpAny_pure ⟨rfl, hr⟩ | exact wpAny_bind (wpAny_pure (wpAny_pure ⟨rfl, hr⟩))
      | error e => exact hr.elim
theorem loop_in (I : Nat → Shared → Prop)
    (step : ∀ n s, I n s → wpAny (model P w) A (pyNext it) (fun r t => match r with
      | none => R (.ok .next) t
      | some u => wpAny (model P w) A (letOwnedTupleGo t1 it u) (fun _ t => wpAny (model P w) A (assign t1 env u) (fun _ t => wpAny (model P w) A (tests env f1) (fun b t =>
          if b = true then wpAny (model P w) A (eval elt env) (fun x t => wpAny (model P w) A (call (.builtin "set.add") [acc, x]) (fun _ t => ∃ m, m < n ∧ I m t) (Nb P w A env R) t) (Nb P w A env R) t
          else ∃ m, m < n ∧ I m t) (Nb P w A env R) t) (Nb P w A env R) t) (Nb P w A env R) t) (Nb P w A env R) s)
    (n : Nat) (h : I n s) : codeAny (model P w) A (.compLoop (sc2 elt t0 i0 f0 t1 i1 f1 scope pos) 1 it acc env) R s := by
  refine codeAny_loop rfl I (fun n s hI => ?_) n h
  show wpAny _ A ((compTurn (sc2 elt t0 i0 f0 t1 i1 f1 scope pos) 1 it acc env).onRaise (fun x => do noteFrame x env; theTreesLotGoes x)) _ _ s
  refine wpAny_noted ?_; rw [turn_in]
  refine wpAny_bind (wpAny_standAt (wpAny_bind (wpAny_mono (step n s hI) (fun r t k => ?_) fun _ _ z => z)))
  cases r with
  | none => exact wpAny_pure k
  | some u =>
    refine wpAny_bind (wpAny_mono k (fun _ t k => wpAny_bind (wpAny_mono k (fun _ t k => wpAny_bind (wpAny_mono k (fun b t k => ?_) fun _ _ z => z)) fun _ _ z => z)) fun _ _ z => z)
    cases b with
    | false => exact wpAny_pure ⟨rfl, k⟩
    | true => exact wpAny_bind (wpAny_bind (wpAny_mono k (fun x t k => wpAny_bind (wpAny_standAt (wpAny_bind (wpAny_mono k (fun _ t k => wpAny_pure (wpAny_pure ⟨rfl, k⟩)) fun _ _ z => z)))) fun _ _ z => z))
theorem start_in (h0 : codeAny (model P w) A (.compLoop (sc2 elt t0 i0 f0 t1 i1 f1 scope pos) 1 it acc env) R s)
    (h : wpAny (model P w) A (pyIter it) (fun it' t => codeAny (model P w) A (.compLoop (sc2 elt t0 i0 f0 t1 i1 f1 scope pos) 1 it' acc env) R t) (Nb P w A env R) s) :
    codeAny (model P w) A (.compStart (sc2 elt t0 i0 f0 t1 i1 f1 scope pos) 1 it acc env) R s := by
  refine codeAny_of_tree ?_
  show wpAny _ _ ((compStart (sc2 elt t0 i0 f0 t1 i1 f1 scope pos) 1 it acc env).onRaise (fun x => do noteFrame x env; standAt theWindowsPlace)) _ _ s
  refine wpAny_notedAt ?_; unfold compStart; show wpAny _ _ (ask >>= _) _ _ s
  refine wpAny_bind (wpAny_askSetting (wpAny_ite ?_)); split
  · first | exact wpAny_bind (wpAny_pure (wpAny_pure (And.intro rfl h0))) | exact wpAny_pure (And.intro rfl h0)
  · first
      | exact wpAny_bind (wpAny_rule (wpAny_bind (wpAny_standAt (wpAny_bind (wpAny_mono h (fun _ t k => wpAny_pure (And.intro rfl k)) fun _ _ z => z)))))
      | (refine wpAny_bind (wpAny_rule ?_); show wpAny _ _ (standAt i1.pos >>= _) _ _ s; exact wpAny_bind (wpAny_standAt (wpAny_bind (wpAny_mono h (fun _ t k => wpAny_pure (And.intro rfl k)) fun _ _ z => z))))
end
section
variable {X : Cx}
/-- set.add of a tuple of ints -/
theorem addT {pins : List (Addr × Obj)} {σ : L2.St} {H : Hp} {s : Shared} {E : Value → Shared → Prop} {D t : Addr} {k : List Int} {L : List (Addr × List Int)} {Q : Value → Shared → Prop} (I : Inv X pins σ H s) (hD : H D = some (SetTO X.prog X.w D L)) (hL : ∀ p ∈ L, SqT X.K H p.1 (p.2.map V.int)) (ht : SqT X.K H t (k.map V.int)) (hu : X.A.units + 64 < cLine) (few : L.length + 1 < 64)
    (h : ∀ L' s', (k ∈ L.map (·.2) → L' = L) → (k ∉ L.map (·.2) → L'.Perm ((t, k) :: L)) → Inv X pins σ (upd H D (SetTO X.prog X.w D L')) s' → Q .none s') : wpAny (model X.prog X.w) X.A (call (.builtin "set.add") [.ref D, .ref t]) Q E s := by
  have R0 : SetT0 X.prog X.w s.heap D L := (I.hok D _ hD).1
  obtain ⟨es, ep, tb, R⟩ := R0.full fun p hp => I.isT (hL p hp)
  obtain ⟨o, ho, hex, hd⟩ := R.ob
  have hT : s.TypeIs (.ref D) "set" := ⟨o, ho, hex.1⟩
  refine wpAny_call_entry F.slot_set_add hT F.entry_set_add ?_ (F.args_set_add_2 _ _)
  unfold Builtin.«set.add» Builtin.Frozenset.oneOther; simp only [List.isEmpty_nil, bind_assoc]
  unfold Builtin.Frozenset.addrOf setAdd; refine wpAny_bind (wpAny_pure ?_); try dsimp only
  refine wpAny_bind (wpAny_pure ?_); try dsimp only
  refine wpAny_bind (wpAny_holding (wpAny_bind (wpAny_pyHash_tuple (show X.A.units + 1 < cLine by omega) (I.isT ht) ?_)))
  refine add_at (s := { s with toks := s.toks + (k.length + 1) }) (R.keep (fun _ e => e) R.tup) (I.isT ht) (show X.A.units + 1 < cLine by omega) few fun b g L' es' ep' t' sb R' c1 c2 => ?_
  show wpAny _ _ (ret Value.none) _ _ _; refine wpAny_pure ⟨_, rfl, h L' _ c1 c2 ?_⟩
  obtain ⟨o', ho', _⟩ := R'.ob
  exact I.write (e := D) (t' := s.toks + (k.length + 1)) (by rw [hD]; trivial) (.inl rfl) (fun b u hb hu => (sb.2 b hb).trans hu) ⟨o', ho'⟩ (setTO_new R'.t0)
/-- {elt for g in wi if tt for g1 in wi1 if tt1}: D the new set -/
def tS2 (K : PySem.W.Frag) (P : Program) (w : World) (wi : TI) (g : TG) (tt : TT) (wi1 : TI) (g1 : TG) (tt1 : TT) (te : TE) (vs vs1 : List Nat) : TE := fun σ H Q => wi σ H fun J H1 => ∀ D, H1 D = none → ∃ W : Nat → Nat → Hp → Prop, (∃ m, W 0 m (upd H1 D (SetTO P w D []))) ∧ ∀ i m H, W i m H →
  (J.stop i H ∧ Q (.ref D) H) ∨ (J.go i H ∧ ∃ Nx : Hp → Prop, (∀ H', Nx H' → ∃ m', m' < m ∧ W (i + 1) m' H') ∧ ∀ x H', J.yld i H x H' → g x (wipe σ vs) H' fun σ2 H2 => wipe σ2 vs = wipe σ vs ∧ tt σ2 H2 fun b H3 =>
    if b = true then wi1 σ2 H3 fun J1 H4 => ∃ W1 : Nat → Nat → Hp → Prop, (∃ m, W1 0 m H4) ∧ ∀ j k H, W1 j k H →
      (J1.stop j H ∧ Nx H) ∨ (J1.go j H ∧ ∃ Nx1 : Hp → Prop, (∀ H', Nx1 H' → ∃ k', k' < k ∧ W1 (j + 1) k' H') ∧ ∀ x H', J1.yld j H x H' → g1 x (wipe σ2 vs1) H' fun σ3 H5 => wipe σ3 vs1 = wipe σ2 vs1 ∧ tt1 σ3 H5 fun b H6 =>
        if b = true then te σ3 H6 fun y H7 => ∃ t n L, y = .ref t ∧ SqT K H7 t (n.map V.int) ∧ H7 D = some (SetTO P w D L) ∧ (∀ p ∈ L, SqT K H7 p.1 (p.2.map V.int)) ∧ L.length + 1 < 64 ∧ ∀ L', (n ∈ L.map (·.2) → L' = L) → (n ∉ L.map (·.2) → L'.Perm ((t, n) :: L)) → Nx1 (upd H7 D (SetTO P w D L')) else Nx1 H6)
    else Nx H3)
theorem pe_s2 {elt tg iter tg1 iter1 : Expr} {fs fs1 : List Expr} {scope : Scope} {own : List (Str × Nat)} {vs1 : List Nat} {pos : Pos} {wi wi1 : TI} {g g1 : TG} {tt tt1 : TT} {te : TE} (hc : X.calm = true) (hN : X.N.Nodup) (hu : X.A.units + 64 < cLine) (hi : PI X tg iter wi) (ok : BlkOk X.N X.env.scope scope own) (hv : ∀ i ∈ vs1, i ∈ own.map (·.2))
    (hg : ∀ (s : Shared) (H : Hp) (C : Addr) (cl : List (Str × Addr)) (fp : List Addr), PG (X.blk s H scope (compEnvC scope cl C X.env) fp) tg g) (ht : ∀ (s : Shared) (H : Hp) (C : Addr) (cl : List (Str × Addr)) (fp : List Addr), PTs (X.blk s H scope (compEnvC scope cl C X.env) fp) fs tt)
    (hi1 : ∀ (s : Shared) (H : Hp) (C : Addr) (cl : List (Str × Addr)) (fp : List Addr), PI (X.blk s H scope (compEnvC scope cl C X.env) fp) tg1 iter1 wi1) (hg1 : ∀ (s : Shared) (H : Hp) (C : Addr) (cl : List (Str × Addr)) (fp : List Addr), PG (X.blk s H scope (compEnvC scope cl C X.env) fp) tg1 g1)
    (ht1 : ∀ (s : Shared) (H : Hp) (C : Addr) (cl : List (Str × Addr)) (fp : List Addr), PTs (X.blk s H scope (compEnvC scope cl C X.env) fp) fs1 tt1) (he : ∀ (s : Shared) (H : Hp) (C : Addr) (cl : List (Str × Addr)) (fp : List Addr), PE (X.blk s H scope (compEnvC scope cl C X.env) fp) elt te)
    (hs : ∀ x, foldedSetIterable iter X.env x = pure x := by intro _; rfl) (hs1 : ∀ env x, foldedSetIterable iter1 env x = pure x := by intro _ _; rfl) :
    PE X (sc2 elt tg iter fs tg1 iter1 fs1 scope pos) (tS2 X.K X.prog X.w wi g tt wi1 g1 tt1 te (own.map (·.2)) vs1) := by
  refine ⟨fun pins s σ H Q I h => ?_⟩
  have cells : ∀ y ∈ scope.names, y.2 = .free → ∃ c, X.env.cells.lookup y.1 = some c := fun y hy e => (ok.free y hy e).elim (fun z => I.ok.has _ (.inl z)) fun z => I.ok.has _ (.inr z)
  show wpAny (model X.prog X.w) X.A (comprehension (sc2 elt tg iter fs tg1 iter1 fs1 scope pos) scope X.env _ (newSet (.type "set")) _ (eval iter X.env)) _ X.xe s
  refine wpAny_comprehension_free rfl hs (closure_ok cells) ok.kind (fun y hy e => by rw [ok.uniq y hy, e]) (thn (hi.run pins s σ H _ I h) fun _ t1 k => thn k fun _ t2 ⟨it, fp, tn, J, H2, e, I2, T, st2, f2, q⟩ => ?_)
  subst e
  refine PpSet.newSet_ok (newEnv_comp ?_)
  generalize eD : t2.heap.objs.size = D
  have nD : H2 D = none := I2.hok.fresh (Nat.le_of_eq eD)
  obtain ⟨W, ⟨m0, w0⟩, turn⟩ := q D nD
  generalize e3 : ({ t2 with heap := t2.heap.push { cls := .type "set", dict := none, data := .set #[] 0 (.fresh 0 0 (!X.w.params.followText "set-order")) } } : Shared) = t3
  have p3 : t3.heap = t2.heap.push { cls := .type "set", dict := none, data := .set #[] 0 (.fresh 0 0 (!X.w.params.followText "set-order")) } := by rw [← e3]
  have k3 : ∀ b o, t2.heap.get? b = some o → t3.heap.get? b = some o := fun b o z => by rw [p3]; exact Heap.get?_push_of_some _ z
  have I3 : Inv X pins σ (upd H2 D (SetTO X.prog X.w D [])) t3 := by
    rw [← e3]
    refine I2.laid (t' := t2.toks) (fun b o z => Heap.get?_push_of_some _ z) (Nat.le_of_eq eD) (setTO_new (setTR_fresh (h := t2.heap.push _) ?_).t0)
    rw [← eD]; exact Heap.get?_push_size _ rfl
  have below : ∀ b ∈ fp, b < t2.heap.objs.size := fun b hb => let ⟨_, z, _⟩ := T.obj _ _ st2 b hb; Heap.lt_size z
  have f3 : ∀ b ∈ fp, FpOk X pins (upd H2 D (SetTO X.prog X.w D [])) b ∧ b < t3.heap.objs.size := fun b hb => by
    have lt := below b hb
    refine ⟨⟨?_, (f2 b hb).2⟩, by rw [p3, Heap.size_push]; exact Nat.lt_succ_of_lt lt⟩
    rw [upd_ne (by rw [← eD]; exact Nat.ne_of_lt lt)]; exact (f2 b hb).1
  have st3 : tn 0 t3.heap := T.keep _ _ _ st2 fun b _ o z => k3 b o z
  have I4 := block_start I3 ok hN f3
  generalize eC : cellsFrom (t3.heap.objs.size + 1) scope.names (cloFrom X.env.cells scope.names []) = cl at I4
  have qg := hg t3 (upd H2 D (SetTO X.prog X.w D [])) t3.heap.objs.size cl fp
  have qt := ht t3 (upd H2 D (SetTO X.prog X.w D [])) t3.heap.objs.size cl fp
  have qi1 := hi1 t3 (upd H2 D (SetTO X.prog X.w D [])) t3.heap.objs.size cl fp
  have qg1 := hg1 t3 (upd H2 D (SetTO X.prog X.w D [])) t3.heap.objs.size cl fp
  have qt1 := ht1 t3 (upd H2 D (SetTO X.prog X.w D [])) t3.heap.objs.size cl fp
  have qe := he t3 (upd H2 D (SetTO X.prog X.w D [])) t3.heap.objs.size cl fp
  show codeAny (model X.prog X.w) X.A (.compStart (sc2 elt tg iter fs tg1 iter1 fs1 scope pos) 0 (.ref it) (.ref D) (compEnvC scope cl t3.heap.objs.size X.env)) (compPost (model X.prog X.w) X.A X.xe none (EP X pins σ Q) (.ref D) t3.heap.objs.size) _
  have nfp : ∀ b ∈ fp, (upd H2 D (SetTO X.prog X.w D [])) b = none := fun b hb => (f3 b hb).1.1
  generalize eE : compEnvC scope cl t3.heap.objs.size X.env = ce at I4 qg qt qi1 qg1 qt1 qe ⊢
  have eL : ce.locals = t3.heap.objs.size := by rw [← eE]; rfl
  generalize upd H2 D (SetTO X.prog X.w D []) = H3 at I3 I4 qg qt qi1 qg1 qt1 qe w0 nfp f3
  generalize e4 : ({ t3 with heap := pushCells (t3.heap.push { cls := .type "dict", data := .dict #[] }) scope.names } : Shared) = t4 at I4 ⊢
  have st4 : tn 0 t4.heap := T.keep _ _ _ st3 fun b _ o z => by rw [← e4]; exact pushCells_keeps _ _ _ _ (Heap.get?_push_of_some _ z)
  have still : ∀ {τ : L2.St} {G : Hp} {t : Shared}, Inv (X.blk t3 H3 scope ce fp) [] τ G t → (∀ b ∈ fp, G b = none) → ∀ b ∈ fp, FpOk (X.blk t3 H3 scope ce fp) [] G b := fun {τ G t} J n b hb => ⟨n b hb, (J.ok.exf b hb).1, J.ok.exfs b hb, .inl hb, fun x c z => (J.ok.exf b hb).2 x c z, fun p hp => absurd (show p ∈ ([] : List (Addr × Obj)) ++ [] from hp) (by simp)⟩
  have all : codeAny (model X.prog X.w) X.A (.compLoop (sc2 elt tg iter fs tg1 iter1 fs1 scope pos) 0 (.ref it) (.ref D) ce) (compPost (model X.prog X.w) X.A X.xe none (EP X pins σ Q) (.ref D) t3.heap.objs.size) t4 := by
    refine loop_out (hs1 ce) (fun n t => ∃ i G, Inv (X.blk t3 H3 scope ce fp) [] (wipe σ (own.map (·.2))) G t ∧ tn i t.heap ∧ (∀ b ∈ fp, G b = none) ∧ W i n G) ?_ m0 ⟨0, H3, I4, st4, nfp, w0⟩
    rintro n t5 ⟨i, H5, I5, st5, n5, w5⟩
    rcases turn i n H5 w5 with ⟨stop, fin⟩ | ⟨go, Nx, hNx, step⟩
    · refine thnF (T.done (X.blk t3 H3 scope ce fp) rfl rfl rfl hc i [] t5 _ H5 (fun _ _ => False) I5 (still I5 n5) st5 stop) fun r t6 ⟨hr, I6⟩ => ?_
      subst hr
      have I7 : Inv X pins σ H5 t6 := I3.call' (ch := fp) I6.os I6.base I6.hok I6.bare fun b hb => ⟨(f3 b hb).1.2.2.2.1, (f3 b hb).1.2.1, (f3 b hb).1.2.2.2.2.1, (f3 b hb).1.2.2.2.2.2⟩
      have nC : H5 t3.heap.objs.size = none := by rw [← eL]; exact I6.free
      obtain ⟨m, hm, _⟩ := I6.loc
      have hm : t6.heap.Ns ce.locals m := hm
      rw [eL] at hm
      have fC := I3.fpOk (Nat.le_refl _) nC
      obtain ⟨c0, c1, c2, c3, c4, c5⟩ := fC
      exact ⟨m, hm, fun h'' sb => ⟨.ref D, H5, I7.turned (t' := t6.toks) (fun b o hb z => (sb.2 b hb).trans z) c0 c1 c3 c4 c5, rfl, fin⟩⟩
    · refine thnF (T.item (X.blk t3 H3 scope ce fp) rfl rfl rfl hc i [] t5 _ H5 (fun _ _ => False) I5 (still I5 n5) st5 go) fun r t6 ⟨u, hr, k6⟩ => ?_
      subst hr
      refine thnF k6 fun _ t7 ⟨x, H7, I7, r7, y7, st7, n7⟩ => ?_
      have J7 := I7.pinned (still I7 n7) (T.obj _ _ st7)
      refine thnF (qg.run _ t7 _ H7 x u _ J7 r7 (step x H7 y7)) fun _ t8 ⟨σ8, H8, I8, w8, q8⟩ => thnF (qt.run _ t8 σ8 H8 _ I8 q8) fun b t9 ⟨H9, I9, q9⟩ => ?_
      have fin : ∀ {τ : L2.St} {t : Shared} {G : Hp}, Inv (X.blk t3 H3 scope ce fp) ([] ++ pinsAt fp t7.heap) τ G t → (wipe σ (own.map (·.2))).length = τ.length → (∀ (j : Nat) v, (wipe σ (own.map (·.2)))[j]? = some (some v) → τ[j]? = some (some v)) → Nx G →
          ∃ m, m < n ∧ ∃ i G, Inv (X.blk t3 H3 scope ce fp) [] (wipe σ (own.map (·.2))) G t ∧ tn i t.heap ∧ (∀ b ∈ fp, G b = none) ∧ W i m G := fun {τ t G} J hl hk nx => by
        obtain ⟨m', hm, w'⟩ := hNx G nx
        have pin : ∀ b ∈ fp, ∀ o, t7.heap.get? b = some o → t.heap.get? b = some o ∧ G b = none := fun b hb o z => let y := J.pin (b, o) (List.mem_append_right _ (List.mem_append_right _ (mem_pinsAt hb z))); ⟨y.1, y.2.1⟩
        exact ⟨m', hm, i + 1, G, (J.unpinned (pins := [])).weak hl hk, T.keep _ _ _ st7 fun b hb o z => (pin b hb o z).1, fun b hb => let ⟨o, z, _⟩ := T.obj _ _ st7 b hb; (pin b hb o z).2, w'⟩
      have l8 : (wipe σ (own.map (·.2))).length = σ8.length := by rw [← w8, wipe_length]
      have k8 : ∀ (j : Nat) v, (wipe σ (own.map (·.2)))[j]? = some (some v) → σ8[j]? = some (some v) := fun j v z => by rw [← w8] at z; exact (wipe_some z).1
      have k9 : ∀ (j : Nat) v, (wipe σ (own.map (·.2)))[j]? = some (some v) → (wipe σ8 vs1)[j]? = some (some v) := fun j v z => by
        rw [← w8] at z
        obtain ⟨z1, z2⟩ := wipe_some z
        rw [wipe_out fun y => z2 (hv j y)]; exact z1
      cases b with
      | false =>
        simp only [Bool.false_eq_true, if_false] at q9 ⊢
        exact fin I9 l8 k8 q9
      | true =>
        simp only [if_true] at q9 ⊢
        refine thnF (qi1.run _ t9 σ8 H9 _ I9 q9) fun xv t10 kx => thnF kx fun iv t11 ⟨it1, fp1, tn1, J1, H11, ei, I11, T1, st11, f11, W1, ⟨m1, w1⟩, turn1⟩ => ?_
        subst ei
        have still1 : ∀ {G : Hp}, (∀ b ∈ fp1, G b = none) → ∀ b ∈ fp1, FpOk (X.blk t3 H3 scope ce fp) ([] ++ pinsAt fp t7.heap) G b := fun n b hb => ⟨n b hb, (f11 b hb).2⟩
        have inner : codeAny (model X.prog X.w) X.A (.compLoop (sc2 elt tg iter fs tg1 iter1 fs1 scope pos) 1 (.ref it1) (.ref D) ce)
            (fun r t => match r with
              | .ok _ => ∃ m, m < n ∧ ∃ i G, Inv (X.blk t3 H3 scope ce fp) [] (wipe σ (own.map (·.2))) G t ∧ tn i t.heap ∧ (∀ b ∈ fp, G b = none) ∧ W i m G
              | .error _ => False) t11 := by
          refine loop_in (fun k t => ∃ j G, Inv (X.blk t3 H3 scope ce fp) ([] ++ pinsAt fp t7.heap) (wipe σ8 vs1) G t ∧ tn1 j t.heap ∧ (∀ b ∈ fp1, G b = none) ∧ W1 j k G) ?_ m1 ⟨0, H11, I11.weak (wipe_length _ _) (fun j v z => (wipe_some z).1), st11, fun b hb => (f11 b hb).1, w1⟩
          rintro k t12 ⟨j, H12, I12, st12, n12, w12⟩
          rcases turn1 j k H12 w12 with ⟨stop1, nx1⟩ | ⟨go1, Nx1, hNx1, step1⟩
          · refine thnF (T1.done (X.blk t3 H3 scope ce fp) rfl rfl rfl hc j _ t12 (wipe σ8 vs1) H12 (fun _ _ => False) I12 (still1 n12) st12 stop1) fun r t13 ⟨hr, I13⟩ => ?_
            subst hr
            exact fin I13 (l8.trans (wipe_length σ8 vs1).symm) k9 nx1
          · refine thnF (T1.item (X.blk t3 H3 scope ce fp) rfl rfl rfl hc j _ t12 (wipe σ8 vs1) H12 (fun _ _ => False) I12 (still1 n12) st12 go1) fun r t13 ⟨u1, hr, k13⟩ => ?_
            subst hr
            refine thnF k13 fun _ t14 ⟨x1, H14, I14, r14, y14, st14, n14⟩ => ?_
            have J14 := I14.pinned (still1 n14) (T1.obj _ _ st14)
            refine thnF (qg1.run _ t14 (wipe σ8 vs1) H14 x1 u1 _ J14 r14 (step1 x1 H14 y14)) fun _ t15 ⟨σ15, H15, I15, w15, q15⟩ => thnF (qt1.run _ t15 σ15 H15 _ I15 q15) fun b1 t16 ⟨H16, I16, q16⟩ => ?_
            have fin1 : ∀ {t : Shared} {G : Hp}, Inv (X.blk t3 H3 scope ce fp) (([] ++ pinsAt fp t7.heap) ++ pinsAt fp1 t14.heap) σ15 G t → Nx1 G → ∃ m, m < k ∧ ∃ j G, Inv (X.blk t3 H3 scope ce fp) ([] ++ pinsAt fp t7.heap) (wipe σ8 vs1) G t ∧ tn1 j t.heap ∧ (∀ b ∈ fp1, G b = none) ∧ W1 j m G := fun {t G} J nx => by
              obtain ⟨m', hm, w'⟩ := hNx1 G nx
              have pin : ∀ b ∈ fp1, ∀ o, t14.heap.get? b = some o → t.heap.get? b = some o ∧ G b = none := fun b hb o z => let y := J.pin (b, o) (List.mem_append_right _ (List.mem_append_right _ (mem_pinsAt hb z))); ⟨y.1, y.2.1⟩
              exact ⟨m', hm, j + 1, G, J.unpinned.weak (by rw [← w15, wipe_length]) (fun j v z => by rw [← w15] at z; exact (wipe_some z).1), T1.keep _ _ _ st14 fun b hb o z => (pin b hb o z).1, fun b hb => let ⟨o, z, _⟩ := T1.obj _ _ st14 b hb; (pin b hb o z).2, w'⟩
            cases b1 with
            | false =>
              simp only [Bool.false_eq_true, if_false] at q16 ⊢
              exact fin1 I16 q16
            | true =>
              simp only [if_true] at q16 ⊢
              refine thnF (qe.run _ t16 σ15 H16 _ I16 q16) fun z t17 ⟨yv, H17, I17, r17, tp, nn, L, ey, ht17, hD17, hL17, few, nx⟩ => ?_
              subst ey
              cases (show z = Value.ref tp from r17)
              exact addT (X := X.blk t3 H3 scope ce fp) I17 hD17 hL17 ht17 hu few fun L' t18 c1 c2 I18 => fin1 I18 (nx L' c1 c2)
        exact start_in inner (T1.self X.A 0 _ _ _ st11 inner)
  exact PpSet.codeAny_compStart_set all (T.self X.A 0 _ _ _ st4 all)
end
end S2
/-! Vj: sorted(set of pairs of ints), whatever their signs; sorted(list of pairs). -/
namespace S2
open PySem PySem.Spec PyProof.Rows L2
abbrev Ps := List (Addr × List Int)
/-- the pair of an address -/
def keyOf (L : Ps) (v : Value) : Int × Int := match L.find? fun p => decide (Value.ref p.1 = v) with
  | some (_, [x, y]) => (x, y)
  | _ => (0, 0)
/-- not behind it: by the first number, then by the second -/
def pLe (k l : List Int) : Prop := ∀ x y x' y', k = [x, y] → l = [x', y'] → x < x' ∨ (x = x' ∧ y ≤ y')
section
variable {P : Program} {w : World} {A : Around} {E : Value → Shared → Prop} {s : Shared} {a : Addr} {L : Ps} {es : Array (Int × Value)} {ep : Nat} {t : SetTable}
theorem keyOf_at (one : ∀ q ∈ L, ∀ r ∈ L, q.1 = r.1 → q = r) {p : Addr × List Int} (hp : p ∈ L) {x y : Int} (e : p.2 = [x, y]) : keyOf L (.ref p.1) = (x, y) := by
  unfold keyOf
  cases h : L.find? fun q => decide (Value.ref q.1 = Value.ref p.1) with
  | none => exact absurd (List.find?_eq_none.mp h p hp) (by simp)
  | some q =>
    have hq := List.mem_of_find?_eq_some h
    have e1 : Value.ref q.1 = Value.ref p.1 := by simpa using List.find?_some h
    injection e1 with e1
    have e2 := one q hq p hp e1
    rw [e2]
    obtain ⟨p1, p2⟩ := p
    simp only at e
    rw [e]
theorem out_ps (one : ∀ q ∈ L, ∀ r ∈ L, q.1 = r.1 → q = r) (nL : L.Nodup) (h2 : ∀ p ∈ L, ∃ x y, p.2 = [x, y]) {vs out : List Value} (pm : vs.Perm (L.map fun q => Value.ref q.1)) (po : out.Perm vs) (hs : SrtO.Srtd (fun v u => SrtO.lexB (keyOf L v) (keyOf L u)) out) :
    ∃ M : Ps, out = M.map (fun q => Value.ref q.1) ∧ M.Perm L ∧ M.Pairwise fun q r => pLe q.2 r.2 := by
  have back : ∀ v ∈ vs, ∃ q ∈ L, Value.ref q.1 = v := fun v hv => List.mem_map.mp (pm.mem_iff.mp hv)
  have pref : ∀ us : List Value, (∀ v ∈ us, ∃ q ∈ L, Value.ref q.1 = v) → ∃ M : Ps, us = M.map (fun q => Value.ref q.1) ∧ ∀ q ∈ M, q ∈ L := by
    intro us
    induction us with
    | nil => intro _; exact ⟨[], rfl, fun _ z => nomatch z⟩
    | cons v us ih =>
      intro hv
      obtain ⟨q, hq, e⟩ := hv v List.mem_cons_self
      obtain ⟨M, e1, h1⟩ := ih fun u hu => hv u (List.mem_cons_of_mem _ hu)
      exact ⟨q :: M, by rw [List.map_cons, e, e1], fun r hr => (List.mem_cons.mp hr).elim (fun z => z ▸ hq) (h1 r)⟩
  obtain ⟨M, eM, hM⟩ := pref out fun v hv => back v (po.mem_iff.mp hv)
  have inj : ∀ q ∈ L, ∀ r ∈ L, Value.ref q.1 = Value.ref r.1 → q = r := fun q hq r hr e => by injection e with e; exact one q hq r hr e
  have pm2 : (M.map fun q => Value.ref q.1).Perm (L.map fun q => Value.ref q.1) := by rw [← eM]; exact po.trans pm
  have nref : (L.map fun q => Value.ref q.1).Nodup := List.pairwise_map.mpr (List.Pairwise.imp_of_mem (fun {q r} hq hr hne e => hne (inj q hq r hr e)) nL)
  refine ⟨M, eM, (List.perm_ext_iff_of_nodup (nodup_of_map (pm2.nodup_iff.mpr nref)) nL).mpr fun q => ⟨hM q, fun hq => ?_⟩, ?_⟩
  · obtain ⟨r, hr, e⟩ := List.mem_map.mp (pm2.mem_iff.mpr (List.mem_map.mpr ⟨q, hq, rfl⟩))
    rw [← inj r (hM r hr) q hq e]; exact hr
  · have hs' : SrtO.Srtd (fun v u => SrtO.lexB (keyOf L v) (keyOf L u)) (M.map fun q => Value.ref q.1) := by rw [← eM]; exact hs
    have hs2 := List.pairwise_map.mp hs'
    refine List.Pairwise.imp_of_mem (fun {q r} hq hr h x y x' y' e1 e2 => ?_) hs2
    have f1 := keyOf_at one (hM q hq) e1
    have f2 := keyOf_at one (hM r hr) e2
    have h' : SrtO.lexB (keyOf L (.ref r.1)) (keyOf L (.ref q.1)) = false := h
    rw [f1, f2] at h'
    have := SrtO.lexB_no.mp h'
    dsimp only at this
    omega
theorem sorted_set (R : SetTR P w s.heap a L es ep t) (hh : A.handled = none) {Q : Value → Shared → Prop} (h2 : ∀ p ∈ L, ∃ x y, p.2 = [x, y])
    (hQ : ∀ s' p (out : Array Value) (c : Nat) (L' : Ps), (∀ b o, s.heap.get? b = some o → s'.heap.get? b = some o) → s'.gens = s.gens → s'.os = s.os → s.heap.objs.size ≤ p → s'.heap.get? p = some (seqObj "list" out c) → out.toList = L'.map (fun q => Value.ref q.1) → L'.Perm L → L'.Pairwise (fun q r => pLe q.2 r.2) → Q (.ref p) s') :
    wpAny (model P w) A (call (.builtin "sorted") [.ref a]) Q E s := by
  obtain ⟨o, ho, hex, hd⟩ := R.ob
  have hsz := R.size
  have few := R.few
  have one : ∀ q ∈ L, ∀ r ∈ L, q.1 = r.1 → q = r := fun q hq r hr e => by
    have z1 := R.tup q hq
    rw [e] at z1
    exact Prod.ext e (z1.inj (R.tup r hr))
  refine Calls.call_function_entry kind_sorted plain_sorted entry_sorted (args_sorted1 _) ?_; unfold Builtin.«sorted»
  refine wpAny_bind (m := checkCount "sorted" 1 1 _) (wpAny_pure (wpAny_bind (collect_set (A := A.in1) hh ⟨o, ho, hex.1, hd⟩ R.fits (by unfold scanBound; omega) R.tab.ris R.led fun s1 vs k1 hz g1 o1 pm => ?_)))
  have ev : es.toList.map (·.2) = L.map fun q => Value.ref q.1 := by rw [R.rows]; unfold rowsOf; rw [List.map_map] <;> rfl
  rw [ev] at pm
  have lv : vs.length < 64 := by rw [pm.length_eq, List.length_map]; exact few
  have back : ∀ v ∈ vs, ∃ q ∈ L, Value.ref q.1 = v := fun v hv => List.mem_map.mp (pm.mem_iff.mp hv)
  refine wpAny_bind (wpAny_newList ?_ (by rw [sizeLine_eq]; omega))
  have hoL : (s1.heap.push (seqObj "list" vs.toArray 0)).get? s1.heap.objs.size = some (seqObj "list" vs.toArray 0) := Heap.get?_push_size _ rfl
  have pr : ∀ v ∈ vs, Srt.IsPair (s1.heap.push (seqObj "list" vs.toArray 0)) v (keyOf L v).1 (keyOf L v).2 := fun v hv => by
    obtain ⟨q, hq, rfl⟩ := back v hv
    obtain ⟨x, y, e⟩ := h2 q hq
    rw [keyOf_at one hq e]
    have z := isT_keep (R.tup q hq) fun b u z => Heap.get?_push_of_some (seqObj "list" vs.toArray 0) (k1 b u z)
    rw [e] at z
    obtain ⟨oq, items, n, hoq, hcq, hdq, hi⟩ := z
    obtain ⟨u, hu, ei⟩ : ∃ us, items.toList = us ∧ IntsAre us [x, y] := ⟨_, rfl, ints_of_items hi⟩
    match u, ei, hu with
    | [_, _], .cons _ t1 (.cons _ t2 .nil), hu =>
      refine ⟨_, oq, t1, t2, n, rfl, hoq, hcq, ?_⟩
      rw [hdq]
      congr 1
      rw [← Array.toArray_toList (xs := items), hu]
  have hso : 2 ≤ vs.length → SrtO.SortableO P w A.in1.in1 { s1 with heap := s1.heap.push (seqObj "list" vs.toArray 0) } s1.heap.objs.size vs fun v u => SrtO.lexB (keyOf L v) (keyOf L u) := fun h => SrtO.pairs_sortableO (by omega) pr fun o e => by
    have e' : some o = some (seqObj "list" vs.toArray 0) := e.symm.trans hoL
    cases e'
    exact fun c => absurd (Value.type.inj c) (by decide)
  refine wpAny_bind (wpAny_holding (wpAny_call_entry slot_list_sort ⟨_, hoL, rfl⟩ entry_list_sort (SrtO.list_sort_ord (s := { s1 with heap := s1.heap.push (seqObj "list" vs.toArray 0) }) (SrtO.swo_lex (keyOf L)) hoL (by rw [sizeLine_eq]; omega) hso fun out hs hb => ⟨_, rfl, ?_⟩) (args_list_sort _)))
  obtain ⟨c, hc⟩ := sortedHeap_at (vs := vs) (out := out.toArray) hoL
  obtain ⟨M, eM, pL, pw⟩ := out_ps one (nodup_of_map R.nd) h2 pm hb.perm hs
  refine wpAny_pure ⟨_, rfl, hQ _ s1.heap.objs.size out.toArray c M (fun b u e => ?_) g1 o1 hz hc (by rw [List.toList_toArray]; exact eM) pL pw⟩
  have q := k1 b u e
  have lt := Heap.lt_size q
  show (sortedHeap (s1.heap.push (seqObj "list" vs.toArray 0)) s1.heap.objs.size vs out.toArray).get? b = some u
  rw [sortedHeap_old (Nat.ne_of_lt lt) (by rw [size_push']; exact Nat.lt_succ_of_lt lt)]
  exact Heap.get?_push_of_some _ q
end
section
variable {X : Cx}
/-- sorted(set of pairs) -/
def rSortS (K : PySem.W.Frag) (P : Program) (w : World) : List V → Hp → VK → Prop := fun vs H Q => ∃ (a : Addr) (L : Ps), vs = [V.ref a] ∧ H a = some (SetTO P w a L) ∧ (∀ p ∈ L, SqT K H p.1 (p.2.map V.int)) ∧ (∀ p ∈ L, ∃ x y, p.2 = [x, y]) ∧
  ∀ (M : Ps) (p : Addr), M.Perm L → (M.map (·.2)).Nodup → M.Pairwise (fun q r => pLe q.2 r.2) → H p = none → Q (.ref p) (upd H p (.lst (M.map fun q => V.ref q.1)))
theorem cr_sortS (hc : X.calm = true) : CallR X (.builtin "sorted") (rSortS X.K X.prog X.w) := by
  intro pins s σ H vs us Q I r ⟨a, L, e, ha, hk, h2, q⟩
  subst e
  have R0 : SetT0 X.prog X.w s.heap a L := (I.hok a _ ha).1
  obtain ⟨es, ep, t, R⟩ := R0.full fun p hp => I.isT (hk p hp)
  rw [Vals.ref1 r]
  refine sorted_set R (I.ok.hd hc) h2 fun s' p out c M k g o hp hg ho pm pw => ?_
  have lM : (M.map fun q => V.ref q.1).length ≤ sizeLine := by have := R.few; rw [List.length_map, pm.length_eq, sizeLine_eq]; omega
  have hn : H p = none := I.hok.fresh hp
  obtain ⟨hp', g', d', t', os'⟩ := s'
  have J : Inv X pins σ (upd H p (.lst (M.map fun q => V.ref q.1))) ⟨hp', g', d', t', os'⟩ :=
    I.call' (ch := []) o (Un.laid k hp hn) (I.hok.laid k hp ⟨lM, out.toList, c, by rw [ho]; exact vals_of_refs M, hg⟩) (by show AllBare g'; rw [show g' = s.gens from g]; exact I.bare) (fun _ z => nomatch z)
  exact ⟨.ref p, _, J, rfl, q M p pm ((pm.map (·.2)).nodup_iff.mpr R.nd) pw hn⟩
theorem pair_at {pins : List (Addr × Obj)} {σ : L2.St} {H : Hp} {s : Shared} {b : Addr} {x y : Int} (I : Inv X pins σ H s) (h : SqT X.K H b [V.int x, V.int y]) : Srt.IsPair s.heap (.ref b) x y := by
  obtain ⟨its, rv, ⟨o, ho, hc, n, hd⟩, _⟩ := I.tuple h
  obtain ⟨u1, u2, e, r1, r2⟩ := vals2 rv
  subst e
  obtain ⟨t1, rfl⟩ := r1
  obtain ⟨t2, rfl⟩ := r2
  exact ⟨b, o, t1, t2, n, rfl, ho, hc, hd⟩
/-- sorted(list of different pairs) -/
def rSortL (K : PySem.W.Frag) : List V → Hp → VK → Prop := fun vs H Q => ∃ (a : Addr) (L : Ps), vs = [V.ref a] ∧ SqL K H a (L.map fun p => V.ref p.1) ∧ (∀ p ∈ L, SqT K H p.1 (p.2.map V.int)) ∧ (∀ p ∈ L, ∃ x y, p.2 = [x, y]) ∧ (L.map (·.2)).Nodup ∧
  ∀ (M : Ps) (p : Addr), M.Perm L → M.Pairwise (fun q r => pLe q.2 r.2) → H p = none → Q (.ref p) (upd H p (.lst (M.map fun q => V.ref q.1)))
theorem cr_sortL : CallR X (.builtin "sorted") (rSortL X.K) := by
  intro pins s σ H vs us Q I r ⟨a, L, e, ha, hk, h2, nd, q⟩
  subst e
  obtain ⟨its, rv, hl, hz⟩ := I.list ha
  rw [Vals.ref1 r]
  have ei : its = L.map fun p => Value.ref p.1 := refs_of_vals rv
  have one : ∀ q ∈ L, ∀ r ∈ L, q.1 = r.1 → q = r := fun q hq r hr e => by
    have z := I.tuple_inj (hk q hq) (by rw [e]; exact hk r hr)
    exact Prod.ext e ((List.map_inj_right fun _ _ h => V.int.inj h).mp z)
  have nL : L.Nodup := nodup_of_map nd
  refine SrtO.sorted_pairsO (k := keyOf L) hl.isList (by rw [← rv.length]; exact hz) (fun v hv => ?_) fun h' d out hs hb kp hd ⟨n, hn⟩ => ?_
  · rw [ei] at hv
    obtain ⟨p, hp, rfl⟩ := List.mem_map.mp hv
    obtain ⟨x, y, e⟩ := h2 p hp
    rw [keyOf_at one hp e]
    have z := hk p hp
    rw [e] at z
    exact pair_at I z
  · obtain ⟨M, eM, pL, pw⟩ := out_ps one nL h2 (List.Perm.of_eq ei) hb.perm hs
    refine ⟨.ref d, upd H d (.lst (M.map fun q => V.ref q.1)), I.laid (t' := s.toks) kp hd ⟨?_, out, n, by rw [eM]; exact vals_of_refs M, hn⟩, rfl, q M d pL pw (I.hok.fresh hd)⟩
    rw [List.length_map] at hz ⊢
    rw [pL.length_eq]; exact hz
end
end S2
/-! Vk: sorted({.. for i in .. for j in .. if ..}) and sorted([pairs]) by data. -/
namespace Dl
open PySem PySem.Spec PyProof.Rows L2 S2
/-- a heap of any size -/
theorem heap_of : ∀ n : Nat, ∃ h : Heap, h.objs.size = n
  | 0 => ⟨{}, rfl⟩
  | n + 1 => by
    obtain ⟨h, e⟩ := heap_of n
    exact ⟨h.push { cls := .none, data := .fields #[] }, by rw [Heap.size_push, e]⟩
theorem set_ne_code {P : Program} {w : World} {a : Addr} {L : Ps} {q : Str} : SetTO P w a L ≠ LamX.CodeO a q := by
  intro e
  obtain ⟨h, eh⟩ := heap_of a
  injection e with e
  have h1 : SetT0 P w (h.push { cls := .none, data := .fields #[.none, .str q 0] }) a L := by
    have z := congrFun e (h.push { cls := .none, data := .fields #[.none, .str q 0] })
    rw [z]
    exact ⟨_, _, 0, by rw [← eh]; exact Heap.get?_push_size _ rfl, rfl, rfl⟩
  obtain ⟨es, ep, t, ⟨o, ho, _, hd⟩, _⟩ := h1.ex
  rw [← eh, Heap.get?_push_size _ rfl] at ho
  cases ho
  cases hd
section
variable {K : PySem.W.Frag} {B : Bt} {G H G1 H1 : Hp} {P : Program} {w : World}
theorem writeS_ok (o : Ok B G H) {D : Addr} {L L' : Ps} (hp : H D = some (SetTO P w D L)) (g : G D = none) (nb : D ≠ B.a) : Ok B G (upd H D (SetTO P w D L')) := by
  refine ⟨fun a u e => ?_, o.b, ?_, fun q hq => ?_, o.f⟩
  · rw [upd_ne (ne_of_none e g)]; exact o.u a u e
  · obtain ⟨c, cells, p', r, m, n, e, g', k⟩ := o.x
    exact ⟨c, cells, p', r, m, n, by rw [upd_ne nb.symm]; exact e, g', k⟩
  · obtain ⟨ps, h1, h2, h3⟩ := o.t q hq
    refine ⟨ps, by rw [upd_ne (fun e => by rw [e, hp] at h1; cases h1)]; exact h1, h2, fun pos cv hc => ?_⟩
    obtain ⟨c, e1, e2⟩ := h3 pos cv hc
    exact ⟨c, e1, by rw [upd_ne (fun e => by rw [e, hp] at e2; exact set_ne_code (Option.some.inj e2))]; exact e2⟩
theorem writeS_go {D : Addr} {x : HO} (g : Go B G1 H1 G H) (hD : H1 D = none) (nb : D ≠ B.a) : Go B G1 H1 G (upd H D x) :=
  ⟨g.s, fun a o ne ht h => by rw [upd_ne (ne_of_none h hD)]; exact g.k a o ne ht h, g.n, fun c r h => by
    obtain ⟨r', h'⟩ := g.c c r h
    exact ⟨r', by rw [upd_ne nb.symm]; exact h'⟩⟩
theorem nt_set {D : Addr} {L : Ps} : nt (SetTO P w D L) := fun _ z => by unfold SetTO at z; cases z
/-- the tuples of a set, frozen -/
def FrzL (G : Hp) (L : Ps) : Prop := ∀ q ∈ L, ∃ (ob : Obj) (x y : Int), G q.1 = some (.frz ob (.tup [V.int x, V.int y])) ∧ ob.dict = none ∧ q.2 = [x, y]
theorem FrzL.mono {L : Ps} (h : FrzL G L) (s : Same G G1) : FrzL G1 L := fun q hq => by
  obtain ⟨ob, x, y, e, r⟩ := h q hq
  exact ⟨ob, x, y, s _ _ e, r⟩
theorem FrzL.sq {L : Ps} (h : FrzL G L) (o : Ok B G H) : ∀ q ∈ L, SqT K H q.1 (q.2.map V.int) := fun q hq => by
  obtain ⟨ob, x, y, e, _, e2⟩ := h q hq
  rw [e2]
  exact SqT.ofZ (o.u _ _ e)
def prOf : List Int → Pr2
  | [x, y] => (x, y)
  | _ => (0, 0)
theorem FrzL.dds : ∀ {L : Ps}, FrzL G L → Dds K B G (L.map fun q => V.ref q.1) ((L.map fun q => prOf q.2).map pairD)
  | [], _ => .nil
  | q :: L, h => by
    obtain ⟨ob, x, y, e, d, e2⟩ := h q List.mem_cons_self
    have hp : pairD (prOf q.2) = .tup [.int x, .int y] := by rw [e2]; rfl
    rw [List.map_cons, List.map_cons, List.map_cons, hp]
    exact .cons (.tup ⟨e, d⟩ (.cons (.int x) (.cons (.int y) .nil))) (FrzL.dds fun r hr => h r (List.mem_cons_of_mem _ hr))
def pLt (p q : Pr2) : Prop := p.1 < q.1 ∨ (p.1 = q.1 ∧ p.2 < q.2)
theorem FrzL.asc {L : Ps} (h : FrzL G L) (nd : (L.map (·.2)).Nodup) (pw : L.Pairwise fun q r => pLe q.2 r.2) : (L.map fun q => prOf q.2).Pairwise pLt := by
  refine List.pairwise_map.mpr ?_
  refine List.Pairwise.imp_of_mem (fun {q r} hq hr hh => ?_) (List.Pairwise.and pw (List.pairwise_map.mp nd))
  obtain ⟨h1, h2⟩ := hh
  obtain ⟨_, x, y, _, _, e1⟩ := h q hq
  obtain ⟨_, x', y', _, _, e2⟩ := h r hr
  have := h1 x y x' y' e1 e2
  rw [e1, e2]
  show x < x' ∨ (x = x' ∧ y < y')
  rcases this with z | ⟨z1, z2⟩
  · exact .inl z
  · refine .inr ⟨z1, ?_⟩
    rcases Int.lt_or_eq_of_le z2 with z | z
    · exact z
    · exact absurd (by rw [e1, e2, z1, z]) h2
theorem FrzL.mem {L : Ps} (h : FrzL G L) {r : Pr2} : r ∈ (L.map fun q => prOf q.2) ↔ [r.1, r.2] ∈ L.map (·.2) := by
  constructor
  · intro hr
    obtain ⟨q, hq, e⟩ := List.mem_map.mp hr
    obtain ⟨_, x, y, _, _, e2⟩ := h q hq
    rw [e2] at e
    refine List.mem_map.mpr ⟨q, hq, ?_⟩
    rw [e2, ← e]
    rfl
  · intro hr
    obtain ⟨q, hq, e⟩ := List.mem_map.mp hr
    refine List.mem_map.mpr ⟨q, hq, ?_⟩
    show prOf q.2 = r
    rw [show q.2 = [r.1, r.2] from e]
    rfl
end
section
variable {K : PySem.W.Frag} {B : Bt} {P : D → Prop} {δ : List Sd} {X : Xc} {Pg : Program} {w : World}
/-- what the loop's set has: the pairs of a list of cases -/
structure SetI (K : PySem.W.Frag) (B : Bt) (Pg : Program) (w : World) (D : Addr) (G1 H1 : Hp) (S : Pr2 → Prop) (n : Nat) (G H : Hp) (L : Ps) : Prop where
  go : Go B G1 H1 G H
  gn : G D = none
  ok : Ok B G H
  st : H D = some (SetTO Pg w D L)
  frz : FrzL G L
  mem : ∀ r : Pr2, [r.1, r.2] ∈ L.map (·.2) ↔ S r
  len : L.length ≤ n
/-- the run of it: what is handed on is a new list, ever so loose -/
theorem s2_core {wi wi1 : TI} {i j : Nat} (hij : i ≠ j) {tt1 : TT} {te : TE} {its its1 : List D} {f : D → D → Option Pr2} (hlen : its.length * its1.length < 63)
    (h : WIx K B X wi δ fun xs => xs = its) (hin : ∀ d1 ∈ its, WI K B wi1 ((δ.set i (.val d1)).set j .no) fun ys => ys = its1)
    (ht : ∀ d1 ∈ its, ∀ d2 ∈ its1, WT K B tt1 ((δ.set i (.val d1)).set j (.val d2)) fun b => if b = true then WE K B te ((δ.set i (.val d1)).set j (.val d2)) fun y => ∃ p, y = pairD p ∧ f d1 d2 = some p else f d1 d2 = none)
    {G0 H0 G H : Hp} {σ : L2.St} {Q : VK} (s : Stt K B G0 H0 G H σ δ) (xx : CtX K B X σ δ G H)
    (q : ∀ (p : Addr) (G2 H2 : Hp) (vs : List V) (rs : List Pr2), Go B G H G2 H2 → Ok B G2 H2 → H2 p = none → Dds K B G2 vs (rs.map pairD) → rs.Pairwise pLt → (∀ r, r ∈ rs ↔ ∃ d1 ∈ its, ∃ d2 ∈ its1, f d1 d2 = some r) → Q (.ref p) (upd H2 p (.lst vs))) :
    tCB (rSortS K Pg w) (tCons (tS2 K Pg w wi (gName i) tYes wi1 (gName j) tt1 te [i, j] [j]) tNil) σ H Q :=
  h G0 H0 σ G H _ s xx fun J xs G1 H1 g1 o1 it e => by
    subst e
    intro D hD
    have s1 := s.on g1 o1
    have nb := o1.neB hD
    have gD1 : G1 D = none := o1.fresh hD
    refine ⟨fun k m H => m = xs.length - k ∧ k ≤ xs.length ∧ ∃ G L, SetI K B Pg w D G1 H1 (fun r => ∃ d1 ∈ xs.take k, ∃ d2 ∈ its1, f d1 d2 = some r) (k * its1.length) G H L,
      ⟨_, rfl, Nat.zero_le _, G1, [], loose_go o1 hD, gD1, loose_ok o1 hD, upd_same, (fun _ z => nomatch z), (fun r => ⟨fun z => (nomatch z), fun ⟨_, z, _⟩ => nomatch z⟩), Nat.zero_le _⟩, ?_⟩
    rintro k m H2 ⟨rfl, hk, G2, L, I2⟩
    obtain ⟨f1, f2, f3⟩ := it G2 H2 k I2.go.s I2.ok
    by_cases hlt : k < xs.length
    · refine .inr ⟨f1 hlt, fun H' => ∃ G L, SetI K B Pg w D G1 H1 (fun r => ∃ d1 ∈ xs.take (k + 1), ∃ d2 ∈ its1, f d1 d2 = some r) ((k + 1) * its1.length) G H' L, fun H' hN => ⟨xs.length - (k + 1), by omega, rfl, hlt, hN⟩, fun x H3 y => ?_⟩
      obtain ⟨d1, G3, e1, g3, o3, hd1⟩ := f2 x H3 hlt y
      have hd1m : d1 ∈ xs := List.mem_of_getElem? e1
      have go3 : Go B G1 H1 G3 H3 := I2.go.trans I2.ok g3
      have st3 : Stt K B G0 H0 G3 H3 ((wipe σ [i, j]).set i (some x)) ((δ.set i (.val d1)).set j .no) := by
        have z := (((s1.on go3 o3).wipe1 j).wipe1 i).setVal i hd1
        have ez : ((δ.set j Sd.no).set i Sd.no).set i (.val d1) = (δ.set i (.val d1)).set j .no := by rw [List.set_set, List.set_comm (l := δ) _ _ (Ne.symm hij)]
        rw [ez] at z
        exact z
      refine ⟨?_, ?_⟩
      · show ((((σ.set j none).set i none).set i (some x)).set j none).set i none = (σ.set j none).set i none
        apply List.ext_getElem?
        intro n
        simp only [List.getElem?_set, List.length_set]
        by_cases h1 : i = n <;> by_cases h2 : j = n <;> simp [h1, h2]
      dsimp only [tYes]
      rw [if_pos rfl]
      refine hin d1 hd1m G0 H0 _ G3 H3 _ st3 ctx0 fun J1 ys G4 H4 g4 o4 it1 ey => ?_
      subst ey
      have hV4 := g4.k D _ nb nt_set (g3.k D _ nb nt_set I2.st)
      have gn4 : G4 D = none := g4.n D _ nt_set (g3.k D _ nb nt_set I2.st) (g3.n D _ nt_set I2.st I2.gn)
      have go4 : Go B G1 H1 G4 H4 := go3.trans o3 g4
      refine ⟨fun l m H => m = ys.length - l ∧ l ≤ ys.length ∧ ∃ G L, Same G4 G ∧ SetI K B Pg w D G1 H1 (fun r => (∃ d1 ∈ xs.take k, ∃ d2 ∈ ys, f d1 d2 = some r) ∨ ∃ d2 ∈ ys.take l, f d1 d2 = some r) (k * ys.length + l) G H L,
        ⟨_, rfl, Nat.zero_le _, G4, L, Same.refl _, go4, gn4, o4, hV4, I2.frz.mono (g3.s.trans g4.s), (fun r => (I2.mem r).trans ⟨.inl, fun z => z.elim id fun ⟨_, z, _⟩ => nomatch z⟩), I2.len⟩, ?_⟩
      rintro l m H5 ⟨rfl, hl, G5, L5, s45, I5⟩
      obtain ⟨f4, f5, f6⟩ := it1 G5 H5 l s45 I5.ok
      by_cases hlt1 : l < ys.length
      · refine .inr ⟨f4 hlt1, fun H' => ∃ G L, Same G4 G ∧ SetI K B Pg w D G1 H1 (fun r => (∃ d1 ∈ xs.take k, ∃ d2 ∈ ys, f d1 d2 = some r) ∨ ∃ d2 ∈ ys.take (l + 1), f d1 d2 = some r) (k * ys.length + (l + 1)) G H' L, fun H' hN => ⟨ys.length - (l + 1), by omega, rfl, hlt1, hN⟩, fun z H6 yz => ?_⟩
        obtain ⟨d2, G6, e2, g6, o6, hd2⟩ := f5 z H6 hlt1 yz
        have hd2m : d2 ∈ ys := List.mem_of_getElem? e2
        have go6 : Go B G1 H1 G6 H6 := I5.go.trans I5.ok g6
        have st6 : Stt K B G0 H0 G6 H6 ((wipe ((wipe σ [i, j]).set i (some x)) [j]).set j (some z)) ((δ.set i (.val d1)).set j (.val d2)) := by
          have hd1' := ((hd1.mono g4.s).mono s45).mono g6.s
          have z := (((((s1.on go6 o6).wipe1 j).wipe1 i).setVal i hd1').wipe1 j).setVal j hd2
          have ez : (((((δ.set j Sd.no).set i Sd.no).set i (.val d1)).set j Sd.no).set j (.val d2)) = (δ.set i (.val d1)).set j (.val d2) := by
            rw [List.set_set, List.set_set, List.set_comm (l := δ) _ _ (Ne.symm hij), List.set_set]
          rw [ez] at z
          exact z
        refine ⟨?_, ?_⟩
        · show (((((σ.set j none).set i none).set i (some x)).set j none).set j (some z)).set j none = ((((σ.set j none).set i none).set i (some x)).set j none)
          rw [List.set_set, List.set_set]
        have hat6 := g6.k D _ nb nt_set I5.st
        have gn6 : G6 D = none := g6.n D _ nt_set I5.st I5.gn
        have bound : k * ys.length + l < 63 := by
          have : (k + 1) * ys.length ≤ xs.length * ys.length := Nat.mul_le_mul_right _ hlt
          rw [Nat.succ_mul] at this
          omega
        refine ht d1 hd1m d2 hd2m G0 H0 _ G6 H6 _ st6 ctx0 fun b G7 H7 g7 o7 hb => ?_
        have tk : ys.take (l + 1) = ys.take l ++ [d2] := by rw [List.take_add_one, e2]; rfl
        have hat7 := g7.k D _ nb nt_set hat6
        have gn7 : G7 D = none := g7.n D _ nt_set hat6 gn6
        have go7 : Go B G1 H1 G7 H7 := go6.trans o6 g7
        have s47 : Same G4 G7 := (s45.trans g6.s).trans g7.s
        cases b with
        | false =>
          have hb : f d1 d2 = none := hb
          rw [if_neg Bool.false_ne_true]
          refine ⟨G7, L5, s47, go7, gn7, o7, hat7, I5.frz.mono (g6.s.trans g7.s), fun r => (I5.mem r).trans ⟨fun z => z.imp id fun ⟨d, hd, e⟩ => ⟨d, by rw [tk]; exact List.mem_append_left _ hd, e⟩, fun z => z.imp id fun ⟨d, hd, e⟩ => ?_⟩, by have := I5.len; omega⟩
          rw [tk] at hd
          rcases List.mem_append.mp hd with hd | hd
          · exact ⟨d, hd, e⟩
          · rw [List.mem_singleton.mp hd, hb] at e; cases e
        | true =>
          have hb : WE K B te ((δ.set i (.val d1)).set j (.val d2)) fun y => ∃ p, y = pairD p ∧ f d1 d2 = some p := hb
          rw [if_pos rfl]
          refine hb G0 H0 _ G7 H7 _ (st6.on g7 o7) ctx0 fun y e G8 H8 g8 o8 hy ⟨p, ep, ef⟩ => ?_
          subst ep
          have hat8 := g8.k D _ nb nt_set hat7
          have gn8 : G8 D = none := g8.n D _ nt_set hat7 gn7
          have go8 : Go B G1 H1 G8 H8 := go7.trans o7 g8
          have fz8 : FrzL G8 L5 := I5.frz.mono ((g6.s.trans g7.s).trans g8.s)
          unfold pairD at hy
          cases hy with
          | tup ha tt =>
            cases tt with
            | cons t1 tt =>
              cases tt with
              | cons t2 tt =>
                cases tt
                cases t1
                cases t2
                rename_i ta ob
                refine ⟨ta, [p.1, p.2], L5, rfl, SqT.ofZ (o8.u _ _ ha.1), hat8, fz8.sq o8, by have := I5.len; omega, fun L' c1 c2 => ?_⟩
                have mem_iff : ∀ r : Pr2, [r.1, r.2] ∈ L'.map (·.2) ↔ ([r.1, r.2] = [p.1, p.2] ∨ [r.1, r.2] ∈ L5.map (·.2)) := fun r => by
                  by_cases hm : [p.1, p.2] ∈ L5.map (·.2)
                  · rw [c1 hm]
                    exact ⟨.inr, fun z => z.elim (fun e => by rw [e]; exact hm) id⟩
                  · rw [((c2 hm).map (·.2)).mem_iff, List.map_cons, List.mem_cons]
                have frz' : FrzL G8 L' := by
                  by_cases hm : [p.1, p.2] ∈ L5.map (·.2)
                  · rw [c1 hm]; exact fz8
                  · intro q hq
                    rcases List.mem_cons.mp ((c2 hm).mem_iff.mp hq) with z | z
                    · rw [z]; exact ⟨ob, p.1, p.2, ha.1, ha.2, rfl⟩
                    · exact fz8 q z
                have len' : L'.length ≤ k * ys.length + (l + 1) := by
                  have := I5.len
                  by_cases hm : [p.1, p.2] ∈ L5.map (·.2)
                  · rw [c1 hm]; omega
                  · rw [(c2 hm).length_eq, List.length_cons]; omega
                refine ⟨G8, L', s47.trans g8.s, writeS_go go8 hD nb, gn8, writeS_ok o8 hat8 gn8 nb, upd_same, frz', fun r => (mem_iff r).trans ?_, len'⟩
                have hp : [r.1, r.2] = [p.1, p.2] ↔ r = p := ⟨fun z => by
                  injection z with z1 z2
                  injection z2 with z2 _
                  exact Prod.ext z1 z2, fun z => by rw [z]⟩
                rw [hp, I5.mem r]
                constructor
                · rintro (z | z | ⟨d, hd, e⟩)
                  · exact .inr ⟨d2, by rw [tk]; exact List.mem_append_right _ (List.mem_singleton.mpr rfl), by rw [z]; exact ef⟩
                  · exact .inl z
                  · exact .inr ⟨d, by rw [tk]; exact List.mem_append_left _ hd, e⟩
                · rintro (z | ⟨d, hd, e⟩)
                  · exact .inr (.inl z)
                  · rw [tk] at hd
                    rcases List.mem_append.mp hd with hd | hd
                    · exact .inr (.inr ⟨d, hd, e⟩)
                    · rw [List.mem_singleton.mp hd, ef] at e
                      exact .inl (Option.some.inj e).symm
      · have el : l = ys.length := by omega
        subst el
        refine .inl ⟨f6 rfl, G5, L5, I5.go, I5.gn, I5.ok, I5.st, I5.frz, fun r => (I5.mem r).trans ?_, by have := I5.len; rw [Nat.succ_mul]; exact this⟩
        have tk : xs.take (k + 1) = xs.take k ++ [d1] := by rw [List.take_add_one, e1]; rfl
        rw [List.take_length]
        constructor
        · rintro (⟨d, hd, z⟩ | z)
          · exact ⟨d, by rw [tk]; exact List.mem_append_left _ hd, z⟩
          · exact ⟨d1, by rw [tk]; exact List.mem_append_right _ (List.mem_singleton.mpr rfl), z⟩
        · rintro ⟨d, hd, z⟩
          rw [tk] at hd
          rcases List.mem_append.mp hd with hd | hd
          · exact .inl ⟨d, hd, z⟩
          · rw [List.mem_singleton.mp hd] at z; exact .inr z
    · have ek : k = xs.length := by omega
      subst ek
      refine .inl ⟨f3 rfl, ?_⟩
      refine ⟨D, L, rfl, I2.st, I2.frz.sq I2.ok, fun p hp => ?_, fun M p pm nd pw hp => ?_⟩
      · obtain ⟨_, x, y, _, _, e⟩ := I2.frz p hp
        exact ⟨x, y, e⟩
      · have fM : FrzL G2 M := fun r hr => I2.frz r (pm.mem_iff.mp hr)
        refine q p G2 H2 _ _ (g1.trans o1 I2.go) I2.ok hp (fM.dds (B := B) (K := K)) (fM.asc nd pw) fun r => ?_
        rw [fM.mem, (pm.map (·.2)).mem_iff, I2.mem r, List.take_length]
theorem we_sortS2 {wi wi1 : TI} {i j : Nat} (hij : i ≠ j) {tt1 : TT} {te : TE} {its its1 : List D} {f : D → D → Option Pr2} (hlen : its.length * its1.length < 63)
    (h : WIx K B X wi δ fun xs => xs = its) (hin : ∀ d1 ∈ its, WI K B wi1 ((δ.set i (.val d1)).set j .no) fun ys => ys = its1)
    (ht : ∀ d1 ∈ its, ∀ d2 ∈ its1, WT K B tt1 ((δ.set i (.val d1)).set j (.val d2)) fun b => if b = true then WE K B te ((δ.set i (.val d1)).set j (.val d2)) fun y => ∃ p, y = pairD p ∧ f d1 d2 = some p else f d1 d2 = none)
    (fin : ∀ rs : List Pr2, rs.Pairwise pLt → (∀ r, r ∈ rs ↔ ∃ d1 ∈ its, ∃ d2 ∈ its1, f d1 d2 = some r) → P (.lst (rs.map pairD))) :
    WEx K B X (tCB (rSortS K Pg w) (tCons (tS2 K Pg w wi (gName i) tYes wi1 (gName j) tt1 te [i, j] [j]) tNil)) δ P := fun G0 H0 σ G H Q s xx q =>
  s2_core hij hlen h hin ht s xx fun p G2 H2 vs rs g o hp hd pw m => q (.ref p) _ (upd G2 p (.lst vs)) _ (g.trans o (new_go o hp)) (new_ok o nt_lst hp) (.lst upd_same (hd.mono (same_upd (o.fresh hp)))) (fin rs pw m)
/-- return sorted({..}): a new list of the caller's own -/
theorem ws_retS2 {O : Out} {wi wi1 : TI} {i j : Nat} (hij : i ≠ j) {tt1 : TT} {te : TE} {its its1 : List D} {f : D → D → Option Pr2} (hlen : its.length * its1.length < 63)
    (h : WIx K B O.x wi δ fun xs => xs = its) (hin : ∀ d1 ∈ its, WI K B wi1 ((δ.set i (.val d1)).set j .no) fun ys => ys = its1)
    (ht : ∀ d1 ∈ its, ∀ d2 ∈ its1, WT K B tt1 ((δ.set i (.val d1)).set j (.val d2)) fun b => if b = true then WE K B te ((δ.set i (.val d1)).set j (.val d2)) fun y => ∃ p, y = pairD p ∧ f d1 d2 = some p else f d1 d2 = none)
    (fin : ∀ rs : List Pr2, rs.Pairwise pLt → (∀ r, r ∈ rs ↔ ∃ d1 ∈ its, ∃ d2 ∈ its1, f d1 d2 = some r) → O.ro (rs.map pairD)) :
    WS K B (tRet (tCB (rSortS K Pg w) (tCons (tS2 K Pg w wi (gName i) tYes wi1 (gName j) tt1 te [i, j] [j]) tNil))) δ O := fun G0 H0 σ G H E s xx _ r _ _ =>
  s2_core hij hlen h hin ht s (xx.ct s) fun p G2 H2 vs rs g o hp hd pw m => by
    have s1 := s.on g o
    have h0 : ∀ u, nt u → H0 p ≠ some u := fun u ht q => by
      by_cases e : p = B.a
      · exact absurd hp (e ▸ o.hb)
      · rw [s1.go.k p u e ht q] at hp; cases hp
    have s2 := s1.on (loose_go o (x := .lst vs) hp) (loose_ok o hp)
    exact r.2 p vs _ G2 _ s2.go s2.ok (o.neB hp) h0 (o.fresh hp) upd_same hd (fin rs pw m)
end
end Dl
namespace Dl
open PySem PySem.Spec PyProof.Rows L2 S2
section
variable {K : PySem.W.Frag} {B : Bt} {Q : D → Prop}
theorem frzL_of {G : Hp} : ∀ {vs : List V} {ps : List Pr2}, Dds K B G vs (ps.map pairD) → ∃ L : Ps, L.map (fun q => V.ref q.1) = vs ∧ L.map (·.2) = ps.map (fun p => [p.1, p.2]) ∧ FrzL G L
  | _, [], .nil => ⟨[], rfl, rfl, fun _ z => nomatch z⟩
  | _, p :: ps, .cons h t => by
    obtain ⟨L, e1, e2, e3⟩ := frzL_of t
    unfold pairD at h
    cases h with
    | tup ha tt =>
      cases tt with
      | cons t1 tt =>
        cases tt with
        | cons t2 tt =>
          cases tt
          cases t1
          cases t2
          rename_i ta ob
          refine ⟨(ta, [p.1, p.2]) :: L, by rw [List.map_cons, e1], by rw [List.map_cons, e2, List.map_cons], fun q hq => ?_⟩
          rcases List.mem_cons.mp hq with z | z
          · rw [z]; exact ⟨ob, p.1, p.2, ha.1, ha.2, rfl⟩
          · exact e3 q z
theorem list2_inj {p q : Pr2} (h : ([p.1, p.2] : List Int) = [q.1, q.2]) : p = q := by
  injection h with h1 h2
  injection h2 with h2 _
  exact Prod.ext h1 h2
/-- sorted([pairs]), all different -/
theorem rc_sortP {ps : List Pr2} (nd : ps.Nodup) (h : ∀ rs : List Pr2, rs.Perm ps → rs.Pairwise pLt → Q (.lst (rs.map pairD))) : RC K B (rSortL K) [.lst (ps.map pairD)] Q := fun G H vs R o hs q => by
  cases hs with
  | cons h1 t1 =>
    cases t1
    cases h1 with
    | lst hg t =>
      obtain ⟨L, e1, e2, e3⟩ := frzL_of t
      have nd2 : (L.map (·.2)).Nodup := by
        rw [e2]
        exact List.pairwise_map.mpr (nd.imp fun hne e => hne (list2_inj e))
      refine ⟨_, L, rfl, by rw [e1]; exact SqL.of (o.u _ _ hg), e3.sq o, fun p hp => ?_, nd2, fun M p pm pw hp => ?_⟩
      · obtain ⟨_, x, y, _, _, e⟩ := e3 p hp
        exact ⟨x, y, e⟩
      · have fM : FrzL G M := fun r hr => e3 r (pm.mem_iff.mp hr)
        have ndM : (M.map (·.2)).Nodup := (pm.map (·.2)).nodup_iff.mpr nd2
        refine q.new o nt_lst hp (.lst upd_same ((fM.dds (B := B) (K := K)).mono (same_upd (o.fresh hp)))) (h _ ?_ (fM.asc ndM pw))
        have eL : L.map (fun q => prOf q.2) = ps := by
          have z : (L.map (·.2)).map prOf = (ps.map fun p => [p.1, p.2]).map prOf := by rw [e2]
          rw [List.map_map, List.map_map] at z
          have z2 : ps.map (prOf ∘ fun p : Pr2 => [p.1, p.2]) = ps := by
            conv => rhs; rw [← List.map_id ps]
            rfl
          rw [z2] at z
          exact z
        have := pm.map fun q => prOf q.2
        rw [eL] at this
        exact this
end
end Dl
/-! Vl: for a, b in xs; max and min of whole numbers; pairs compared. -/
namespace Dl
open PySem PySem.Spec PyProof.Rows L2 S2
section
variable {K : PySem.W.Frag} {B : Bt} {δ : List Sd} {O : Out} {Q : D → Prop}
theorem ws_forP {wi : TI} {i j : Nat} {t : TS} (h : WIx K B O.x wi δ fun its => ∃ I : Nat → List Sd → Prop, I 0 δ ∧ (∀ k d δ1, its[k]? = some d → I k δ1 → ∃ d1 d2, d = .tup [d1, d2] ∧ WS K B t ((δ1.set i (.val d1)).set j (.val d2)) { nx := I (k + 1), rt := O.rt, bk := O.nx, ct := I (k + 1), x := O.x, ro := O.ro }) ∧ ∀ δ1, I its.length δ1 → O.nx δ1) : WS K B (tFor wi (gTup K 2 (gCons (gName i) (gCons (gName j) gNil))) t) δ O := fun G0 H0 σ G H E s xx n r b c =>
  h G0 H0 σ G H _ s (xx.ct s) fun J its G1 H1 g1 o1 it ⟨I, i0, turn, last⟩ => by
    refine ⟨fun k m σ H => m = its.length - k ∧ k ≤ its.length ∧ ∃ G δ1, Stt K B G0 H0 G H σ δ1 ∧ Same G1 G ∧ I k δ1, ⟨_, rfl, Nat.zero_le _, G1, δ, s.on g1 o1, Same.refl _, i0⟩, ?_⟩
    rintro k m σ2 H2 ⟨rfl, hk, G2, δ2, s2, sm, ik⟩
    obtain ⟨f1, f2, f3⟩ := it G2 H2 k sm s2.ok
    by_cases hlt : k < its.length
    · refine .inr ⟨f1 hlt, fun σ' H' => ∃ G δ1, Stt K B G0 H0 G H' σ' δ1 ∧ Same G1 G ∧ I (k + 1) δ1, fun σ' H' hN => ⟨its.length - (k + 1), by omega, rfl, hlt, hN⟩, fun x H' y => ?_⟩
      obtain ⟨d, G3, e1, g3, o3, hd⟩ := f2 x H' hlt y
      obtain ⟨d1, d2, ed, tn⟩ := turn k d δ2 e1 ik
      subst ed
      cases hd with
      | tup hg ht =>
      cases ht with
      | cons hd1 ht =>
      cases ht with
      | cons hd2 ht =>
      cases ht
      have s3 := ((s2.on g3 o3).setVal i hd1).setVal j hd2
      have sm3 := sm.trans g3.s
      refine ⟨_, _, rfl, SqT.ofZ (o3.u _ _ hg.1), rfl, _, _, rfl, _, _, rfl, rfl, ?_⟩
      refine tn G0 H0 _ G3 H' _ s3 (xx.on (g1.s.trans sm3)) (fun σ4 δ4 G4 H4 m4 s4 p4 => ⟨G4, δ4, s4, sm3.trans m4, p4⟩) r (fun σ4 δ4 G4 H4 m4 s4 p4 => n _ _ _ _ ((g1.s.trans sm3).trans m4) s4 p4) (fun σ4 δ4 G4 H4 m4 s4 p4 => ⟨G4, δ4, s4, sm3.trans m4, p4⟩)
    · have ek : k = its.length := by omega
      subst ek
      exact .inl ⟨f3 rfl, n _ _ _ _ (g1.s.trans sm) s2 (last δ2 ik)⟩
/-- max(xs), min(xs) -/
theorem rc_max {ns : List Int} (h0 : 0 < ns.length) (h : ∀ m, m ∈ ns → (∀ y ∈ ns, y ≤ m) → Q (.int m)) : RC K B (rMax K) [.lst (ns.map D.int)] Q := fun G H vs R o hs q => by
  cases hs with
  | cons h1 t1 =>
    cases t1
    cases h1 with
    | lst hg t => exact ⟨_, ns, rfl, by rw [← Dds.ints t]; exact SqL.of (o.u _ _ hg), h0, fun m hm hle => q.nil o (.int _) (h m hm hle)⟩
theorem rc_min {ns : List Int} (h0 : 0 < ns.length) (h : ∀ m, m ∈ ns → (∀ y ∈ ns, m ≤ y) → Q (.int m)) : RC K B (rMin K) [.lst (ns.map D.int)] Q := fun G H vs R o hs q => by
  cases hs with
  | cons h1 t1 =>
    cases t1
    cases h1 with
    | lst hg t => exact ⟨_, ns, rfl, by rw [← Dds.ints t]; exact SqL.of (o.u _ _ hg), h0, fun m hm hle => q.nil o (.int _) (h m hm hle)⟩
theorem sh_pairP (p : Pr2) : SeqAt.shaped (pairP p) = true := by
  unfold pairP SeqAt.shaped
  simp [PyData.canLay0, PyData.canLayAll0, PyData.depth, PyData.depthAll]
theorem sh_pairPs (ps : List Pr2) : SeqAt.shaped (.list (ps.map pairP)) = true := by
  unfold SeqAt.shaped
  rw [Bool.and_eq_true, decide_eq_true_eq]
  refine ⟨by rw [PyData.canLay0]; exact lay_pairPs ps, ?_⟩
  rw [PyData.depth]
  have := dep_pairPs ps
  omega
theorem dp_prs {G H : Hp} (o : Ok B G H) {ps : List Pr2} {x : V} (hx : Dd K B G x (.lst (ps.map pairD))) : Dp K H x (.list (ps.map pairP)) := by
  generalize e : D.lst (ps.map pairD) = d at hx
  cases hx with
  | lst hg t => cases e; exact .lst (SqL.of (o.u _ _ hg)) (dpa_pr o ps t)
  | _ => cases e
/-- p not in ps, of pairs -/
theorem ro_niP {p : Pr2} {ps : List Pr2} (h : Q (.bl (!decide (p ∈ ps)))) : RO K B (rNotInD K) (pairD p) (.lst (ps.map pairD)) Q := fun G H x y _ o hx hy q => by
  refine ⟨pairP p, ps.map pairP, dp_pr o hx, dp_prs o hy, sh_pairP p, sh_pairPs ps, ?_⟩
  have e : ((ps.map pairP).any fun z => PyData.eqv z (pairP p)) = decide (p ∈ ps) := by
    rw [Bool.eq_iff_iff, List.any_map, List.any_eq_true, decide_eq_true_eq]
    constructor
    · rintro ⟨z, hz, e⟩
      have e' : PyData.eqv (pairP z) (pairP p) = true := e
      rw [eqv_pairP] at e'
      rw [← of_decide_eq_true e']; exact hz
    · intro hz
      exact ⟨p, hz, by show PyData.eqv (pairP p) (pairP p) = true; rw [eqv_pairP]; exact decide_eq_true rfl⟩
  rw [e]
  exact q.nil o (.bl _) h
theorem ro_eqPr {p r : Pr2} (h : Q (.bl (decide (p = r)))) : RO K B (rEqD K) (pairD p) (pairD r) Q := fun G H x y _ o hx hy q => by
  refine ⟨pairP p, pairP r, dp_pr o hx, dp_pr o hy, sh_pairP _, sh_pairP _, ?_⟩
  rw [eqv_pairP]
  exact q.nil o (.bl _) h
theorem ro_nePr {p r : Pr2} (h : Q (.bl (!decide (p = r)))) : RO K B (rNeD K) (pairD p) (pairD r) Q := fun G H x y _ o hx hy q => by
  refine ⟨pairP p, pairP r, dp_pr o hx, dp_pr o hy, sh_pairP _, sh_pairP _, ?_⟩
  rw [eqv_pairP]
  exact q.nil o (.bl _) h
def unD : D → Pr2
  | .tup [.int x, .int y] => (x, y)
  | _ => (0, 0)
theorem unD_pair (p : Pr2) : unD (pairD p) = p := rfl
theorem mem_pairs {ps : List Pr2} {d : D} (h : d ∈ ps.map pairD) : ∃ p ∈ ps, d = pairD p := by
  obtain ⟨p, hp, e⟩ := List.mem_map.mp h
  exact ⟨p, hp, e.symm⟩
variable {X : Xc} {P : D → Prop}
theorem WIx.mono {wi : TI} {P P' : List D → Prop} (h : WIx K B X wi δ P) (m : ∀ its, P its → P' its) : WIx K B X wi δ P' := fun G0 H0 σ G H R s xx q => h G0 H0 σ G H R s xx fun J its G1 H1 g o it p => q J its G1 H1 g o it (m its p)
/-- [e for p in pairs] -/
theorem we_lcQ {wi : TI} {i : Nat} {te : TE} {ps : List Pr2} (f : Pr2 → D) (hl : ps.length ≤ 1000) (h : WIx K B X wi δ fun its => its = ps.map pairD) (hw : ∀ x ∈ ps, WE K B te (δ.set i (.val (pairD x))) fun y => y = f x) (hp : P (.lst (ps.map f))) : WEx K B X (tLc wi (gName i) tYes te [i]) δ P :=
  we_lcmap (fun d => f (unD d)) (h.mono fun its e => by
    subst e
    refine ⟨by rw [List.length_map]; exact hl, fun d hd => ?_, ?_⟩
    · obtain ⟨p, hm, rfl⟩ := mem_pairs hd
      exact hw p hm
    · rw [List.map_map]
      exact hp)
/-- [e for p, q in pairs of pairs] -/
theorem we_lcPQ {wi : TI} {i j : Nat} (hij : i ≠ j) {te : TE} {es : List (Pr2 × Pr2)} (f : Pr2 × Pr2 → D) (hl : es.length ≤ 1000) (h : WIx K B X wi δ fun its => its = es.map fun e => D.tup [pairD e.1, pairD e.2]) (hw : ∀ x ∈ es, WE K B te ((δ.set i (.val (pairD x.1))).set j (.val (pairD x.2))) fun y => y = f x) (hp : P (.lst (es.map f))) : WEx K B X (tLc wi (gTup K 2 (gCons (gName i) (gCons (gName j) gNil))) tYes te [i, j]) δ P :=
  we_lcP hij (h.mono fun its e => by
    subst e
    refine ⟨by rw [List.length_map]; exact hl, fun n acc => acc = (es.take n).map f, rfl, fun n d acc hd hacc => ?_, fun acc hacc => ?_⟩
    · rw [List.getElem?_map] at hd
      obtain ⟨x, hx, rfl⟩ : ∃ x, es[n]? = some x ∧ D.tup [pairD x.1, pairD x.2] = d := by
        cases e : es[n]? with
        | none => rw [e] at hd; cases hd
        | some q => rw [e] at hd; exact ⟨q, rfl, Option.some.inj hd⟩
      refine ⟨_, _, rfl, wt_yes ?_⟩
      rw [if_pos rfl]
      refine (hw x (List.mem_of_getElem? hx)).mono fun y ey => ?_
      show acc ++ [y] = (es.take (n + 1)).map f
      rw [show acc = (es.take n).map f from hacc, ey, List.take_add_one, hx, List.map_append]
      rfl
    · have hacc' : acc = (es.take (es.map fun e => D.tup [pairD e.1, pairD e.2]).length).map f := hacc
      rw [List.length_map, List.take_length] at hacc'
      rw [hacc']
      exact hp)
/-- sorted(xs), xs a list of the def's own -/
theorem we_ownSort {i : Nat} {ps : List Pr2} (h : δ[i]? = some (.own (ps.map pairD))) (nd : ps.Nodup) (p : ∀ rs : List Pr2, rs.Perm ps → rs.Pairwise pLt → P (.lst (rs.map pairD))) : WEx K B X (tCB (rSortL K) (tCons (tVar i) tNil)) δ P := fun G0 H0 σ G H Q s xx q => by
  obtain ⟨a, vs, e1, nb, _, _, e2, e3⟩ := s.own i _ h
  refine ⟨_, e1, ?_⟩
  obtain ⟨L, f1, f2, f3⟩ := frzL_of e3
  have nd2 : (L.map (·.2)).Nodup := by
    rw [f2]
    exact List.pairwise_map.mpr (nd.imp fun hne e => hne (list2_inj e))
  refine ⟨_, L, rfl, by rw [f1]; exact SqL.of e2, f3.sq s.ok, fun p hp => ?_, nd2, fun M p' pm pw hp => ?_⟩
  · obtain ⟨_, x, y, _, _, e⟩ := f3 p hp
    exact ⟨x, y, e⟩
  · have fM : FrzL G M := fun r hr => f3 r (pm.mem_iff.mp hr)
    have ndM : (M.map (·.2)).Nodup := (pm.map (·.2)).nodup_iff.mpr nd2
    refine q.new s.ok nt_lst hp (.lst upd_same ((fM.dds (B := B) (K := K)).mono (same_upd (s.ok.fresh hp)))) (p _ ?_ (fM.asc ndM pw))
    have eL : L.map (fun q => prOf q.2) = ps := by
      have z : (L.map (·.2)).map prOf = (ps.map fun p => [p.1, p.2]).map prOf := by rw [f2]
      rw [List.map_map, List.map_map] at z
      have z2 : ps.map (prOf ∘ fun p : Pr2 => [p.1, p.2]) = ps := by
        conv => rhs; rw [← List.map_id ps]
        rfl
      rw [z2] at z
      exact z
    have := pm.map fun q => prOf q.2
    rw [eL] at this
    exact this
end
end Dl
/-! We: instances of the program's classes as data: fields, methods, properties, making. -/
namespace Dl
open PySem PySem.Spec PyProof.Rows L2
/-- a statement that is never reached -/
theorem ps_never {X : Cx} {st : Stmt} : PS X st (fun _ _ _ => False) := ⟨fun _ _ _ _ _ _ h => h.elim⟩
theorem nt_ins {C dx : Addr} {fs : List (Str × V)} : nt (.ins C dx fs) := fun _ z => nomatch z
theorem nt_own {x : Addr} : nt (.own x) := fun _ z => nomatch z
section
variable {K : PySem.W.Frag} {B : Bt} {G H : Hp} {δ : List Sd} {P : D → Prop} {X : Xc} {te : TE} {ta : TA} {C : Addr} {m f : Str}
theorem lookup_nod : ∀ {fs : List (Str × V)} {ds : List D} {f : Str}, fs.length = ds.length → ((fs.map (·.1)).zip ds).lookup f = none → fs.lookup f = none
  | [], _, _, _, _ => rfl
  | (g, v) :: fs, d :: ds, f, l, e => by
    rw [List.map_cons, List.zip_cons_cons, lookup_putD] at e
    rw [lookup_put]
    by_cases q : f = g
    · rw [if_pos q] at e; cases e
    · rw [if_neg q] at e ⊢
      exact lookup_nod (by simpa using l) e
theorem we_fld (h : WEx K B X te δ fun d => ∃ C ks ds x, d = .obj C ks ds ∧ (ks.zip ds).lookup f = some x ∧ (Cls K C ∧ NoAttr K C f) ∧ P x) : WEx K B X (tFld K te f) δ P := fun G0 H0 σ G H Q s xx q =>
  h G0 H0 σ G H _ s xx fun v d G1 H1 g1 o1 hv ⟨C, ks, ds, x, e, l, T, p⟩ => by
    subst e
    cases hv with
    | obj h1 t =>
      obtain ⟨u, l2, hu⟩ := lookup_dd t l
      exact ⟨_, _, _, _, u, rfl, o1.u _ _ h1, T.1, T.2, l2, (q.on g1 o1).nil o1 hu p⟩
/-- e.m(..) -/
theorem we_meth {pre : List D → Prop} {post : List D → D → Prop} {E : XK} (h : WEx K B X te δ fun d => ∃ ks ds, d = .obj C ks ds ∧ (ks.zip ds).lookup m = none ∧ WAx K B X ta δ fun as => pre (d :: as) ∧ ∀ r, post (d :: as) r → P r) : WEx K B X (tMeth C m (SpD K pre post) [] E te ta) δ P := fun G0 H0 σ G H Q s xx q =>
  h G0 H0 σ G H _ s xx fun v d G1 H1 g1 o1 hv ⟨ks, ds, e, l, w⟩ => by
    subst e
    cases hv with
    | obj h1 t =>
      refine ⟨_, _, _, rfl, o1.u _ _ h1, lookup_nod (by rw [← t.length, List.length_map]) l, w G0 H0 σ G1 H1 _ (s.on g1 o1) (xx.on g1 o1) fun vs as G2 H2 g2 o2 hs ⟨p, mm⟩ => ?_⟩
      rw [List.append_nil]
      exact ⟨B, G2, _, o2, .cons (.obj (g2.s _ _ h1) (t.mono g2.s)) hs, p, fun v' d' G3 H3 g3 o3 hd pd => ((q.on g1 o1).on g2 o2) v' d' G3 H3 g3 o3 hd (mm d' pd)⟩
/-- e.f, a property -/
theorem we_prop {pre : List D → Prop} {post : List D → D → Prop} {E : XK} (h : WEx K B X te δ fun d => ∃ ks ds, d = .obj C ks ds ∧ pre [d] ∧ ∀ r, post [d] r → P r) : WEx K B X (tProp C (SpD K pre post) [] E te) δ P := fun G0 H0 σ G H Q s xx q =>
  h G0 H0 σ G H _ s xx fun v d G1 H1 g1 o1 hv ⟨ks, ds, e, p, mm⟩ => by
    subst e
    cases hv with
    | obj h1 t => exact ⟨_, _, _, rfl, o1.u _ _ h1, B, G1, _, o1, .cons (.obj h1 t) .nil, p, fun v' d' G3 H3 g3 o3 hd pd => (q.on g1 o1) v' d' G3 H3 g3 o3 hd (mm d' pd)⟩
end
/-! ### making -/
/-- what an __init__ promises that fills a bare instance -/
def SpI (K : PySem.W.Frag) (C : Addr) (pre : List D → Prop) (post : List D → D → Prop) : Sp := fun vs H Q _ => ∃ (B : Bt) (G H1 : Hp) (x dx : Addr) (ws : List V) (ds : List D), vs = .ref x :: ws ∧ H1 x = none ∧ H1 dx = none ∧ dx ≠ x ∧ H = upd (upd H1 dx (.own x)) x (.ins C dx []) ∧ Ok B G H1 ∧ Dds K B G ws ds ∧ pre ds ∧
  ∀ d G2 H2, Go B G H1 G2 H2 → Ok B G2 H2 → Dd K B G2 (.ref x) d → post ds d → Q .non H2
section
variable {K : PySem.W.Frag} {B : Bt} {δ : List Sd} {P : D → Prop} {X : Xc} {ta tk : TA} {C : Addr} {pre : List D → Prop} {post : List D → D → Prop} {E : XK}
theorem we_make (h : WAx K B X ta δ fun ds => pre ds ∧ ∀ d, post ds d → P d) : WEx K B X (tMake C (SpI K C pre post) [] E ta) δ P := fun G0 H0 σ G H Q s xx q =>
  h G0 H0 σ G H _ s xx fun vs ds G1 H1 g1 o1 hs ⟨p, mm⟩ x dx nx ndx ne => by
    rw [List.append_nil]
    exact ⟨B, G1, H1, x, dx, vs, ds, rfl, nx, ndx, ne, rfl, o1, hs, p, fun d G2 H2 g o hd pd => ⟨rfl, (q.on g1 o1) (.ref x) d G2 H2 g o hd (mm d pd)⟩⟩
/-- C(k = v, ..): the names in the other order -/
theorem we_makeK {m : Nat} (h : WAx K B X tk δ fun ds => ds.length = m ∧ pre ds.reverse ∧ ∀ d, post ds.reverse d → P d) : WEx K B X (tMakeK C 0 m (SpI K C pre post) (fun us ws => us ++ ws.reverse) E tNil tk) δ P := fun G0 H0 σ G H Q s xx q =>
  h G0 H0 σ G H _ s xx fun vs ds G1 H1 g1 o1 hs ⟨l, p, mm⟩ => ⟨rfl, hs.length.trans l, fun x dx nx ndx ne =>
    ⟨B, G1, H1, x, dx, vs.reverse, ds.reverse, rfl, nx, ndx, ne, rfl, o1, hs.rev, p, fun d G2 H2 g o hd pd => ⟨rfl, (q.on g1 o1) (.ref x) d G2 H2 g o hd (mm d pd)⟩⟩⟩
end
/-- an instance that is being filled -/
structure Fil (K : PySem.W.Frag) (B : Bt) (C x dx : Addr) (G0 H1 G H : Hp) (fs : List (Str × V)) (ds : List D) : Prop where
  go : Go B G0 H1 G H
  ok : Ok B G H
  ins : H x = some (.ins C dx fs)
  gx : G x = none
  nx : H1 x = none
  ob : Ok B G0 H1
  dd : Dds K B G (fs.map (·.2)) ds
section
variable {K : PySem.W.Frag} {B : Bt} {C x dx : Addr} {G0 H1 G H G2 H2 : Hp} {fs : List (Str × V)} {ds : List D}
theorem Fil.start (o : Ok B G0 H1) (nx : H1 x = none) (ndx : H1 dx = none) (ne : dx ≠ x) : Fil K B C x dx G0 H1 G0 (upd (upd H1 dx (.own x)) x (.ins C dx [])) [] [] := by
  have g1 := loose_go o (x := .own x) ndx
  have o1 := loose_ok o (x := .own x) ndx
  have nx2 : upd H1 dx (.own x) x = none := by rw [upd_ne ne.symm]; exact nx
  exact ⟨g1.trans o1 (loose_go o1 nx2), loose_ok o1 nx2, upd_same, o.fresh nx, nx, o, .nil⟩
theorem Fil.nb (f : Fil K B C x dx G0 H1 G H fs ds) : x ≠ B.a := f.ob.neB f.nx
theorem Fil.on (f : Fil K B C x dx G0 H1 G H fs ds) (g : Go B G H G2 H2) (o2 : Ok B G2 H2) : Fil K B C x dx G0 H1 G2 H2 fs ds :=
  ⟨f.go.trans f.ok g, o2, g.k x _ f.nb nt_ins f.ins, g.n x _ nt_ins f.ins f.gx, f.nx, f.ob, f.dd.mono g.s⟩
theorem tabs_ins {T : List (Addr × Str)} {p : Addr} {o : HO} (t : LamX.Tabs T H) (hp : H p = some (.ins C dx fs)) : LamX.Tabs T (upd H p o) := fun q hq => by
  obtain ⟨ps, h1, h2, h3⟩ := t q hq
  refine ⟨ps, by rw [upd_ne (fun e => by rw [e, hp] at h1; cases h1)]; exact h1, h2, fun pos cv hc => ?_⟩
  obtain ⟨c, e1, e2⟩ := h3 pos cv hc
  refine ⟨c, e1, ?_⟩
  rw [upd_ne (fun e => by
    rw [e, hp] at e2
    have e3 : HO.ins C dx fs = LamX.CodeO p q.2 := Option.some.inj e2
    unfold LamX.CodeO at e3
    cases e3)]
  exact e2
/-- a field is stored -/
theorem Fil.put (f : Fil K B C x dx G0 H1 G H fs ds) {fs' : List (Str × V)} {ds' : List D} (hd : Dds K B G (fs'.map (·.2)) ds') : Fil K B C x dx G0 H1 G (upd H x (.ins C dx fs')) fs' ds' := by
  have nb := f.nb
  have o := f.ok
  refine ⟨⟨f.go.s, fun a u ne ht h => ?_, f.go.n, fun c r h => ?_⟩, ⟨fun a u e => ?_, o.b, ?_, tabs_ins o.t f.ins, o.f⟩, upd_same, f.gx, f.nx, f.ob, hd⟩
  · rw [upd_ne (ne_of_none h f.nx)]; exact f.go.k a u ne ht h
  · obtain ⟨r', h'⟩ := f.go.c c r h
    exact ⟨r', by rw [upd_ne nb.symm]; exact h'⟩
  · rw [upd_ne (ne_of_none e f.gx)]; exact o.u a u e
  · obtain ⟨c, cells, p', r, m, n, e, g', w⟩ := o.x
    exact ⟨c, cells, p', r, m, n, by rw [upd_ne nb.symm]; exact e, g', w⟩
/-- it is done: frozen from now on -/
theorem Fil.done (f : Fil K B C x dx G0 H1 G H fs ds) : Go B G0 H1 (upd G x (.ins C dx fs)) H ∧ Ok B (upd G x (.ins C dx fs)) H ∧ Dd K B (upd G x (.ins C dx fs)) (.ref x) (.obj C (fs.map (·.1)) ds) := by
  have s : Same G (upd G x (.ins C dx fs)) := same_upd f.gx
  refine ⟨⟨f.go.s.trans s, f.go.k, fun a u ht h g => ?_, f.go.c⟩, freeze_ok f.ok nt_ins f.nb f.gx f.ins, .obj upd_same (f.dd.mono s)⟩
  rw [upd_ne (ne_of_none h f.nx)]
  exact f.go.n a u ht h g
/-- a state without lists of its own: on a base of its own -/
theorem Stt.rebase {σ : L2.St} {δ : List Sd} (s : Stt K B G0 H1 G H σ δ) (no : ∀ (i : Nat) es, δ[i]? ≠ some (.own es)) (o : Ok B G2 H2) (m : Same G G2) : Stt K B G2 H2 G2 H2 σ δ :=
  ⟨Go.refl, o, s.len, fun i d e => let ⟨v, h, q⟩ := s.val i d e; ⟨v, h, q.mono m⟩, fun i ds e => absurd e (no i ds), fun i j ds es a e => absurd e (no i ds)⟩
/-- self.n = e -/
theorem fld_step {σ : L2.St} {δ : List Sd} {te : TE} {n : Str} {d : D} {ti : Nat} {E : Ends} (f : Fil K B C x dx G0 H1 G H fs ds) (s : Stt K B G H G H σ δ) (no : ∀ (i : Nat) es, δ[i]? ≠ some (.own es)) (hx : δ[ti]? = some (.val (.adr x))) (c : Cls K C) (na : NoAttr K C n) (hl : fs.length < 1000)
    (he : WE K B te δ (fun r => r = d)) (hq : ∀ v G2 H2, Dd K B G2 v d → Same G G2 → Fil K B C x dx G0 H1 G2 H2 fs ds → Stt K B G2 (upd H2 x (.ins C dx (putF n v fs))) G2 (upd H2 x (.ins C dx (putF n v fs))) σ δ → E.nx σ (upd H2 x (.ins C dx (putF n v fs)))) : sFld K (tVar ti) te n E σ H := by
  refine he _ _ σ G H _ s ctx0 fun v r G2 H2 g o hv e => ?_
  subst e
  obtain ⟨u, hu, hd⟩ := s.val ti _ hx
  cases hd
  have f2 := f.on g o
  refine ⟨_, hu, x, C, dx, fs, rfl, f2.ins, c, na, hl, hq v G2 H2 hv g.s f2 ?_⟩
  have nb := f2.nb
  have o3 : Ok B G2 (upd H2 x (.ins C dx (putF n v fs))) := by
    refine ⟨fun a u e => by rw [upd_ne (ne_of_none e f2.gx)]; exact o.u a u e, o.b, ?_, tabs_ins o.t f2.ins, o.f⟩
    obtain ⟨c, cells, p', r, m, n, e, g', w⟩ := o.x
    exact ⟨c, cells, p', r, m, n, by rw [upd_ne nb.symm]; exact e, g', w⟩
  exact s.rebase no o3 g.s
end
end Dl
/-! Wf: ==, !=, len, bool, repr by a class's own methods; isinstance of it. -/
namespace Dl
open PySem PySem.Spec PyProof.Rows L2
section
variable {X : Cx} {n : Nat} {pins : List (Addr × Obj)} {σ : L2.St} {H : Hp} {s : Shared} {f C a dx : Addr} {fd : FuncData} {ps : List Str} {sp : Sp} {fs : List (Str × V)} {Q : VK} {A : Around} {E : Value → Shared → Prop}
/-- an own def called by the interpreter, below the running body -/
theorem call_below {us : List Value} {vs : List V} (F : FnOk X.prog X.w X.K X.mg X.base L2.CX0 n f fd ps sp) (hb : Binds X.K fd ps []) (sb : L2.Sub X n A) (I : Inv X pins σ H s) (r : Vals vs us) (h : sp vs H Q (fun _ _ _ => False)) :
    wpAny (model X.prog X.w) A (call (.ref f) us) (EP X pins σ Q) E s := by
  have e0 : Env0 X.prog X.w X.K X.mg X.base A X.stack s H := by
    have e := I.env0
    exact ⟨by rw [sb.fr]; exact e.frames, e.mod, e.bs, e.bsz, e.funs, e.frf, e.hok, e.bare⟩
  have hl := F.len _ _ _ _ h
  have hbb := hb s us I.kIn (by rw [List.append_nil, ← hl, r.length])
  rw [List.append_nil] at hbb
  refine wpAny_call (codeAny_mono (F.run A X.stack s H ⟨us, []⟩ us vs Q (fun _ _ _ => False) sb.room e0 hbb r h) fun r s' hq => ?_)
  cases r with
  | error e => exact False.elim hq
  | ok fl =>
    cases fl with
    | ret w =>
      obtain ⟨z, H', I', rz, q⟩ := I.after hq
      exact ⟨z, H', I', rz, q⟩
    | next => exact False.elim hq
    | brk => exact False.elim hq
    | cont => exact False.elim hq
/-- what is asked of an own class whose instances are compared: its __eq__ is the def at f, its __ne__ object's -/
structure OwnEq (K : PySem.W.Frag) (C f : Addr) : Prop where
  eq : PySem.W.findIn K (.ref C) "__eq__" = some (some (.ref f))
  fn : PySem.W.isFn K (.ref f) = true
  ne : PySem.W.findIn K (.ref C) "__ne__" = some (some (.builtin "object.__ne__"))
  ob : PySem.W.mroIn K C (.type "object") = some true
/-- x == y, x an instance: what its __eq__ promises -/
def rOeq (K : PySem.W.Frag) (C : Addr) (sp : Sp) (no : Bool) : R2 := fun x y H Q => ∃ (a dx : Addr) (fs : List (Str × V)) (t : Value), x = .ref a ∧ H a = some (.ins C dx fs) ∧ TyX K H y t ∧ PySem.W.notFirst K C t = true ∧ sp [x, y] H (fun v H' => ∃ b : Bool, v = .bl b ∧ Q (.bl (no.xor b)) H') (fun _ _ _ => False)
theorem op_oeq (F : FnOk X.prog X.w X.K X.mg X.base L2.CX0 n f fd ps sp) (hb : Binds X.K fd ps []) (hr : Room n X.A) (T : OwnEq X.K C f) : OpR X (compareOp .Eq) (rOeq X.K C sp false) := by
  intro pins s σ H x y v u Q I rx ry hq
  obtain ⟨a, dx, fs, t, rfl, ea, ty, nf, h⟩ := hq
  obtain rfl : v = Value.ref a := rx
  obtain ⟨mA, J, _⟩ := ins_get I.hok ea
  obtain ⟨od, J, _⟩ := J.look
  obtain ⟨m, hF⟩ := I.fr
  obtain ⟨Pk, Z, p, _⟩ := kit_of I ry ty
  show wpAny (model X.prog X.w) X.A (richCompare .Eq (.ref a) u) (EP X pins σ Q) X.xe s
  refine PySem.W.cmp_K (op := .Eq) (tb := t) hr.units0 hF I.ok.mod.kin J (Z.ty _ _ I.kIn p) nf T.eq T.fn ?_
  refine wpAny_mono (call_below F hb ⟨hr, rfl⟩ I (.cons (show RelV (V.ref a) (Value.ref a) from rfl) (.cons ry .nil)) h) (fun w s' hw => ?_) fun _ _ e => e
  obtain ⟨z, H', I', rz, b, rfl, q⟩ := hw
  cases rz
  rw [Bool.false_xor] at q
  exact ⟨.bl b, H', I', rfl, q⟩
theorem ifb_B {args : List Value} {Qo : Option Value → Shared → Prop} {name : Str} {id : String} {x : Addr} {ox : Obj} {od : Option Obj} {K : PySem.W.Frag} {Mo : Model} (kin : K.In s.heap) (J : PySem.W.InstAt s.heap x ox C od) (hs : PySem.W.findIn K (.ref C) name = some (some (.builtin id)))
    (hb : ∀ self : Value, bindSpecial (.builtin id) self = pure (.builtin id, [self])) (h : wpAny Mo A (call (.builtin id) (.ref x :: args)) (fun v => Qo (some v)) E s) : wpAny Mo A (callSpecialIfBound? (.ref x) name args) Qo E s := by
  simp only [callSpecialIfBound?, bindSpecialIfBound?]
  refine wpAny_holding (wpAny_bind (wpAny_bind (wpAny_bind (J.type.here ((PySem.W.looks_findIn kin hs).here ?_)))))
  refine wpAny_bind (wpAny_askSetting (wpAny_ite ?_))
  have fin : wpAny Mo A (call (.builtin id) ([.ref x] ++ args) >>= fun v => pure (some v)) Qo E s := wpAny_bind (wpAny_mono h (fun v s' h' => wpAny_pure h') fun _ _ h' => h')
  split
  · rw [hb]; exact wpAny_bind (wpAny_pure (wpAny_pure (by exact fin)))
  · rw [hb]; exact wpAny_tryCatch (wpAny_bind (wpAny_pure (wpAny_pure (by exact fin))))
/-- object.__ne__ asks __eq__ -/
theorem ne_body {x : Addr} {ox : Obj} {od : Option Obj} {K : PySem.W.Frag} {b : Value} {P : Program} {w : World} {Qf : Fin → Shared → Prop} (kin : K.In s.heap) (J : PySem.W.InstAt s.heap x ox C od) (T : OwnEq K C f) (hu : A.units < cLine)
    (h : wpAny (model P w) A (call (.ref f) [.ref x, b]) (fun v s' => ∃ r, v = .bool r ∧ Qf (.done (.ret (.bool (!r)))) s') E s) : wpAny (model P w) A (Builtin.«object.__ne__» ⟨[.ref x, b], []⟩) Qf E s := by
  unfold Builtin.«object.__ne__»
  refine wpAny_bind (wpAny_of_eq (a := ((Value.ref x : Value), [b])) (by first | rfl | (simp only [slotArgs]; rfl)) ?_)
  refine wpAny_bind (wpAny_cRoomFor hu ?_)
  refine wpAny_bind (PySem.W.ifBound_K kin J T.eq T.fn (wpAny_mono h (fun v s' hv => ?_) fun _ _ e => e))
  obtain ⟨r, rfl, q⟩ := hv
  refine wpAny_bind (wpAny_truthy_bool ?_)
  exact wpAny_pure q
theorem op_one (F : FnOk X.prog X.w X.K X.mg X.base L2.CX0 n f fd ps sp) (hb : Binds X.K fd ps []) (hr : Room (n + 1) X.A) (T : OwnEq X.K C f) : OpR X (compareOp .NotEq) (rOeq X.K C sp true) := by
  intro pins s σ H x y v u Q I rx ry hq
  obtain ⟨a, dx, fs, t, rfl, ea, ty, nf, h⟩ := hq
  obtain rfl : v = Value.ref a := rx
  obtain ⟨mA, J, _⟩ := ins_get I.hok ea
  obtain ⟨od, J, _⟩ := J.look
  obtain ⟨m, hF⟩ := I.fr
  obtain ⟨Pk, Z, p, _⟩ := kit_of I ry ty
  have hty := Z.ty (model X.prog X.w) _ I.kIn p
  have sb : L2.Sub X (n + 1) X.A := ⟨hr, rfl⟩
  have isob : PySem.W.Looks (model X.prog X.w) s.heap (isInstance (.ref a) (.type "object")) true := J.type.andThen (PySem.W.looks_mroIn I.kIn T.ob)
  have one : wpAny (model X.prog X.w) X.A (tryCompare (.ref a) (cmpInfo .NotEq).2.1 u) (fun r s' => ∃ v, r = some v ∧ EP X pins σ Q v s') X.xe s := by
    unfold tryCompare
    refine wpAny_bind (ifb_B I.kIn J T.ne PySem.F.cmp_object.ne.bind ?_)
    refine wpAny_call (codeAny_call_builtin PySem.F.cmp_object.ne.plain PySem.F.cmpEntry_ne (PySem.W.check_slot PySem.F.cmpKind_ne PySem.F.cmpSplit_ne isob (PySem.F.cmpArgs_ne _ _) (ne_body I.kIn J T sb.in1.room.units0 ?_)))
    refine wpAny_mono (call_below F hb sb.in1 I (.cons (show RelV (V.ref a) (Value.ref a) from rfl) (.cons ry .nil)) h) (fun w s' hw => ?_) fun _ _ e => e
    obtain ⟨z, H', I', rz, b, rfl, q⟩ := hw
    cases rz
    rw [Bool.true_xor] at q
    exact ⟨b, rfl, wpAny_pure ⟨_, rfl, .bl (!b), H', I', rfl, q⟩⟩
  show wpAny (model X.prog X.w) X.A (richCompare .NotEq (.ref a) u) (EP X pins σ Q) X.xe s
  unfold richCompare
  simp only [oneThing_ref]
  refine wpAny_holding (wpAny_bind (wpAny_cRoomFor hr.units0 ?_))
  refine wpAny_bind (J.type.here (wpAny_bind (hty.here ?_)))
  split
  · rename_i q
    have e : PySem.W.subIn X.K t (.ref C) = some false := by
      rcases Bool.or_eq_true_iff.mp nf with e | e
      · rw [beq_iff_eq.mp e] at q; simp at q
      · exact beq_iff_eq.mp e
    refine wpAny_bind ((PySem.W.looks_subIn I.kIn e).here ?_)
    simp only [Bool.false_eq_true, if_false]
    refine wpAny_bind (wpAny_mono one (fun r s' z => ?_) fun _ _ e => e)
    obtain ⟨v, rfl, hq⟩ := z
    exact wpAny_pure hq
  · refine wpAny_bind (wpAny_pure ?_)
    simp only [Bool.false_eq_true, if_false]
    refine wpAny_bind (wpAny_mono one (fun r s' z => ?_) fun _ _ e => e)
    obtain ⟨v, rfl, hq⟩ := z
    exact wpAny_pure hq
/-- len(x) by the class's own __len__ -/
def rOlen (C : Addr) (sp : Sp) : List V → Hp → VK → Prop := fun xs H Q => ∃ (a dx : Addr) (fs : List (Str × V)), xs = [.ref a] ∧ H a = some (.ins C dx fs) ∧ sp [.ref a] H (fun v H' => ∃ k : Nat, v = .int k ∧ k ≤ 1000000 ∧ Q (.int k) H') (fun _ _ _ => False)
theorem call_olen (F : FnOk X.prog X.w X.K X.mg X.base L2.CX0 n f fd ps sp) (hb : Binds X.K fd ps []) (hr : Room (n + 1) X.A) (hs : PySem.W.findIn X.K (.ref C) "__len__" = some (some (.ref f))) (hf : PySem.W.isFn X.K (.ref f) = true) : CallR X (.builtin "len") (rOlen C sp) := by
  intro pins s σ H xs us Q I r h
  obtain ⟨a, dx, fs, rfl, ea, h⟩ := h
  obtain ⟨u, rfl, rx⟩ := vals1 r
  obtain rfl : u = Value.ref a := rx
  obtain ⟨mA, J, _⟩ := ins_get I.hok ea
  obtain ⟨od, J, _⟩ := J.look
  obtain ⟨m, hF⟩ := I.fr
  have sb : L2.Sub X (n + 1) X.A := ⟨hr, rfl⟩
  refine PySem.W.len_K hF I.ok.mod.kin J hs hf (wpAny_mono (call_below F hb sb.in1 I (.cons (show RelV (V.ref a) (Value.ref a) from rfl) .nil) h) (fun w s' hw => ?_) fun _ _ e => e)
  obtain ⟨z, H', I', rz, k, rfl, hk, q⟩ := hw
  obtain ⟨t, rfl⟩ := (show ∃ t, w = Value.int k t from rz)
  exact ⟨⟨by omega, by omega⟩, .int k, H', I'.tok _, ⟨_, rfl⟩, q⟩
/-- repr(x) by the class's own __repr__ -/
def rOrepr (C : Addr) (sp : Sp) : List V → Hp → VK → Prop := fun xs H Q => ∃ (a dx : Addr) (fs : List (Str × V)), xs = [.ref a] ∧ H a = some (.ins C dx fs) ∧ sp [.ref a] H (fun v H' => ∃ z : Str, v = .str z ∧ Q (.str z) H') (fun _ _ _ => False)
theorem call_orepr (F : FnOk X.prog X.w X.K X.mg X.base L2.CX0 n f fd ps sp) (hb : Binds X.K fd ps []) (hr : Room (n + 1) X.A) (hs : PySem.W.findIn X.K (.ref C) "__repr__" = some (some (.ref f))) (hf : PySem.W.isFn X.K (.ref f) = true) : CallR X (.builtin "repr") (rOrepr C sp) := by
  intro pins s σ H xs us Q I r h
  obtain ⟨a, dx, fs, rfl, ea, h⟩ := h
  obtain ⟨u, rfl, rx⟩ := vals1 r
  obtain rfl : u = Value.ref a := rx
  obtain ⟨mA, J, _⟩ := ins_get I.hok ea
  obtain ⟨od, J, _⟩ := J.look
  obtain ⟨m, hF⟩ := I.fr
  have sb : L2.Sub X (n + 1) X.A := ⟨hr, rfl⟩
  refine PySem.W.repr_K sb.in1.room.units0 hF I.ok.mod.kin J hs hf (wpAny_mono (call_below F hb sb.in1 I (.cons (show RelV (V.ref a) (Value.ref a) from rfl) .nil) h) (fun w s' hw => ?_) fun _ _ e => e)
  obtain ⟨z, H', I', rz, k, rfl, q⟩ := hw
  obtain ⟨t, rfl⟩ := (show ∃ t, w = Value.str k t from rz)
  exact ⟨.str k, H', I', ⟨_, rfl⟩, q⟩
end
end Dl
/-! Wi: the truth of an instance by its __len__; isinstance of it. -/
namespace Dl
open PySem PySem.Spec PyProof.Rows L2
section
variable {P : Program} {w : World} {A : Around} {E : Value → Shared → Prop} {s : Shared} {K : PySem.W.Frag} {x C f : Addr} {ox : Obj} {od : Option Obj}
theorem truthy_own {Q : Bool → Shared → Prop} (kin : K.In s.heap) (J : PySem.W.InstAt s.heap x ox C od) (hb : PySem.W.findIn K (.ref C) "__bool__" = some none) (hs : PySem.W.findIn K (.ref C) "__len__" = some (some (.ref f))) (hf : PySem.W.isFn K (.ref f) = true)
    (h : wpAny (model P w) A.in1 (call (.ref f) [.ref x]) (PySem.W.LenBack fun v s' => ∃ n u, v = .int n u ∧ Q (n != 0) s') E s) : wpAny (model P w) A (truthy (.ref x)) Q E s := by
  have key : wpAny (model P w) A (runValue (.builtin "len" ⟨[.ref x], []⟩)) (fun r s' => ∃ n u, r = .int n u ∧ Q (n != 0) s') E s := by
    refine wpAny_runValue (codeAny_builtin entry_len ?_)
    rw [Around.under_plainId plain_len _]
    unfold Builtin.«len»
    refine wpAny_bind (wpAny_of_eq (a := (Value.ref x)) (by rfl) ?_)
    refine wpAny_bind (m := callSpecial? (.ref x) (Str.ofString "__len__")) (PySem.W.special_fn kin J hs (beq_iff_eq.mp hf) (wpAny_mono h (fun r s' hr => ?_) fun _ _ y => y))
    cases r <;> first | exact hr.elim | skip
    rename_i n u
    obtain ⟨⟨h0, h1⟩, hq⟩ := hr
    refine wpAny_bind (wpAny_holding (wpAny_pure ?_))
    refine wpAny_bind (wpAny_letGo ?_)
    show wpAny _ _ (if n < 0 then _ else _) _ _ _
    rw [if_neg (by omega)]
    show wpAny _ _ (if n ≥ 2 ^ 63 then _ else _) _ _ _
    rw [if_neg (by omega)]
    exact wpAny_bind (wpAny_mkInt (wpAny_pure hq))
  unfold truthy
  refine wpAny_bind (m := callSpecial? (.ref x) (Str.ofString "__bool__")) (wpAny_bind (wpAny_bind (J.type.here ((PySem.W.looks_findIn kin hb).here (wpAny_pure ?_)))))
  refine wpAny_bind (wpAny_bind (J.type.here ((PySem.W.looks_findIn kin hs).here ?_)))
  refine wpAny_bind (wpAny_mono key (fun r s' hr => ?_) fun _ _ y => y)
  obtain ⟨n, u, rfl, q⟩ := hr
  exact wpAny_pure q
theorem truthy_here {M : Model} {v : Value} {Q Q' : Bool → Shared → Prop} {A : Around} {E : Value → Shared → Prop} {s : Shared} (h : wpAny M A (truthy v) Q' E s) (m : ∀ b s', Q' b s' → Q b s') : wpAny M A (truthy v) Q E s := wpAny_mono h m fun _ _ e => e
theorem bool_new {b : Bool} : MeetsIn P w (Builtin.«bool.__new__» ⟨[.type "bool", .ref x], []⟩) (fun A R s => wpAny (model P w) A.in1 (truthy (.ref x)) (fun b s' => R (.ok (.ret (.bool b))) s') (fun e s' => R (.error e) s') s) :=
  .of_wp fun A R s hs => by
    obtain ⟨hp, g, d, tk, os⟩ := s
    have f1 := PySem.F.conv_sub_bool
    repeat (first | with_reducible refine truthy_here hs ?_ | wp_step)
    exact fun b s' h => wpAny_pure ⟨_, rfl, h⟩
end
section
variable {X : Cx} {n : Nat} {f C : Addr} {fd : FuncData} {ps : List Str} {sp : Sp}
/-- bool(x), x an instance, by its __len__ -/
def rObool (C : Addr) (sp : Sp) : List V → Hp → VK → Prop := fun xs H Q => ∃ (a dx : Addr) (fs : List (Str × V)), xs = [.ref a] ∧ H a = some (.ins C dx fs) ∧ sp [.ref a] H (fun v H' => ∃ k : Nat, v = .int k ∧ k ≤ 1000000 ∧ Q (.bl (decide (k ≠ 0))) H') (fun _ _ _ => False)
theorem call_obool (F : FnOk X.prog X.w X.K X.mg X.base L2.CX0 n f fd ps sp) (hb : Binds X.K fd ps []) (hr : Room (n + 3) X.A) (hn : PySem.W.findIn X.K (.ref C) "__bool__" = some none) (hs : PySem.W.findIn X.K (.ref C) "__len__" = some (some (.ref f))) (hf : PySem.W.isFn X.K (.ref f) = true) : CallR X (.type "bool") (rObool C sp) := by
  intro pins s σ H xs us Q I r h
  obtain ⟨a, dx, fs, rfl, ea, h⟩ := h
  obtain ⟨u, rfl, rx⟩ := vals1 r
  obtain rfl : u = Value.ref a := rx
  obtain ⟨mA, J, _⟩ := ins_get I.hok ea
  obtain ⟨od, J, _⟩ := J.look
  have sb : L2.Sub X (n + 3) X.A := ⟨hr, rfl⟩
  refine callType_newIn PySem.F.called_bool PySem.F.newNe_bool (PySem.F.typeCall_bool_1 _) (PySem.F.newCall_bool_1 _) (fun obj => PySem.F.args_object_init_2 obj _) PySem.F.entry_bool_new (bool_new (b := true)) ?_
  refine truthy_own I.kIn J hn hs hf (wpAny_mono (call_below F hb sb.in1.in1.in1 I (.cons (show RelV (V.ref a) (Value.ref a) from rfl) .nil) h) (fun w s' hw => ?_) fun _ _ e => e)
  obtain ⟨z, H', I', rz, k, rfl, hk, q⟩ := hw
  obtain ⟨t, rfl⟩ := (show ∃ t, w = Value.int k t from rz)
  refine ⟨⟨by omega, by omega⟩, k, _, rfl, ⟨rfl, ?_⟩⟩
  have e : ((k : Int) != 0) = decide (k ≠ 0) := by
    by_cases h0 : k = 0
    · subst h0; rfl
    · rw [decide_eq_true h0]; exact bne_iff_ne.mpr (by omega)
  rw [e]
  exact ⟨.bl (decide (k ≠ 0)), H', I'.tok _, rfl, q⟩
end
end Dl
/-! Wj: sorted of a list of nested data (tuples of pairs, texts ..), by what is read. -/
namespace Dl
open PySem PySem.Spec PyProof.Rows L2
/-- not behind it, as data -/
def leD (a b : PyData) : Bool := !PySem.W.dataLt b a
/-- sorted(l), l a list of data that are alike: the items, arranged as the data are -/
def rSortD (K : PySem.W.Frag) : List V → Hp → VK → Prop := fun vs H Q => ∃ (a : Addr) (xs : List V) (ps : List PyData), vs = [V.ref a] ∧ SqL K H a xs ∧ DpAll K H xs ps ∧ PySem.W.AllAlike ps ∧ PySem.W.Sortable ps ∧ (∀ d ∈ ps, d.depth ≤ 50) ∧ xs.length ≤ 1000 ∧ (∀ v ∈ xs, ∃ b, v = V.ref b) ∧
  ∀ (ys : List V) (p : Addr), ys.length = xs.length → (∀ R : V → PyData → Prop, PySem.W.EachIs R xs ps → PySem.W.EachIs R ys (ps.mergeSort leD)) → H p = none → Q (.ref p) (upd H p (.lst ys))
theorem each_of {K : PySem.W.Frag} {X : Cx} {pins : List (Addr × Obj)} {σ : L2.St} {H : Hp} {s : Shared} (I : Inv X pins σ H s) : ∀ {xs : List V} {ps : List PyData} {us : List Value}, DpAll X.K H xs ps → Vals xs us → PySem.W.EachIs (fun v d => ∃ as, Reads s.heap v d as) us ps
  | [], _, _, .nil, .nil => .nil
  | _ :: _, _, _, .cons h t, .cons r u => .cons (Dp.reads I _ _ _ h r) (each_of (K := K) I t u)
theorem each_zip {R : V → PyData → Prop} : ∀ {xs : List V} {ps : List PyData} {us : List Value}, PySem.W.EachIs R xs ps → Vals xs us → PySem.W.EachIs (fun u d => ∃ v, RelV v u ∧ R v d) us ps
  | [], _, _, .nil, .nil => .nil
  | _ :: _, _, _, .cons h t, .cons r u => .cons ⟨_, r, h⟩ (each_zip t u)
/-- a reference as the layer has it -/
def refV : Value → V | .ref a => .ref a | _ => .non
theorem refV_rel {v : V} {u : Value} (h : RelV v u) (hv : ∃ b, v = V.ref b) : v = refV u := by
  obtain ⟨b, rfl⟩ := hv
  cases (show u = Value.ref b from h)
  rfl
theorem each_refs {R : V → PyData → Prop} : ∀ {us : List Value} {ps : List PyData}, (∀ u ∈ us, ∃ b, u = Value.ref b) → PySem.W.EachIs (fun u d => ∃ v, RelV v u ∧ R v d) us ps → PySem.W.EachIs R (us.map refV) ps
  | [], _, _, .nil => .nil
  | u :: us, _, h, .cons ⟨v, r, hr⟩ t => by
    refine .cons ?_ (each_refs (fun u hu => h u (List.mem_cons_of_mem _ hu)) t)
    obtain ⟨b, rfl⟩ := h u List.mem_cons_self
    have : v = V.ref b := by
      cases v <;> first | (cases r; rfl) | (cases r; done) | (obtain ⟨_, z⟩ := r; cases z)
    rw [this] at hr
    exact hr
theorem vals_refs : ∀ {us : List Value}, (∀ u ∈ us, ∃ b, u = Value.ref b) → Vals (us.map refV) us
  | [], _ => .nil
  | u :: us, h => by
    obtain ⟨b, rfl⟩ := h u List.mem_cons_self
    exact .cons rfl (vals_refs fun u hu => h u (List.mem_cons_of_mem _ hu))
theorem cr_sortD {X : Cx} (hu : X.A.units + 60 < cLine) : CallR X (.builtin "sorted") (rSortD X.K) := by
  intro pins s σ H vs us Q I r ⟨a, xs, ps, e, ha, hd, al, so, dp, lx, rf, q⟩
  subst e
  obtain ⟨its, rv, hl, hz⟩ := I.list ha
  rw [Vals.ref1 r]
  have il : its.length ≤ 1000 := by rw [← rv.length]; exact lx
  have iref : ∀ u ∈ its, ∃ b, u = Value.ref b := fun u hu => by
    obtain ⟨i, hi, e⟩ := List.getElem_of_mem hu
    have hx : i < xs.length := by rw [rv.length]; exact hi
    obtain ⟨u', hu', ru⟩ := rv.get (List.getElem?_eq_getElem hx)
    rw [List.getElem?_eq_getElem hi, e] at hu'
    cases hu'
    obtain ⟨b, hb⟩ := rf _ (List.getElem_mem hx)
    rw [hb] at ru
    exact ⟨b, ru⟩
  have each0 := each_of (K := X.K) I hd rv
  let h1 := PySem.W.sortingHeap (PySem.W.copyHeap s.heap its) (s.heap.objs.size + 1) its
  have keep1 : ∀ b o, s.heap.get? b = some o → h1.get? b = some o := fun b o e => PySem.W.sorting_copy_old e
  have each1 : PySem.W.EachIs (fun v d => ∃ as, Reads h1 v d as) its ps := each0.mono fun v d ⟨as, z⟩ => ⟨as, Reads.keeps keep1 z⟩
  have S : PySem.W.SortsAt X.prog X.w X.A.in1.in1 { s with heap := h1 } (PySem.W.dataKind h1 ps) its := PySem.W.SortsAt.data (s := { s with heap := h1 }) each1 al so fun d hd => by
    have := dp d hd
    show X.A.in1.in1.units + d.depth < cLine
    have e : X.A.in1.in1.units ≤ X.A.units + 2 := by first | exact Nat.le_refl _ | (simp [Around.in1]; omega)
    omega
  refine PySem.W.sorted_vals hl.isList S (by rw [sizeLine_eq]; omega) ?_
  have keyed : PySem.W.EachIs (fun v b => (PySem.W.dataKind h1 ps).keyOf v = some (PySem.W.keyToks b)) its ps := (PySem.W.each_mem each1).mono fun v d ⟨⟨as, z⟩, hm⟩ => PySem.W.dataKind_some al hm z
  have out : ∀ R' : Value → PyData → Prop, PySem.W.EachIs R' its ps → PySem.W.EachIs R' (PySem.W.sortVals (PySem.W.dataKind h1 ps) false its its) (ps.mergeSort leD) := fun R' h => by
    have e : (PySem.W.sortLe (PySem.W.dataKind h1 ps).toKeyOrd false PySem.W.keyToks) = leD := by funext a b; rfl
    have z := PySem.W.sortVals_each (rev := false) (κ := PySem.W.dataKind h1 ps) PySem.W.keyToks h keyed
    rw [e] at z
    exact z
  have oref : ∀ u ∈ PySem.W.sortVals (PySem.W.dataKind h1 ps) false its its, ∃ b, u = Value.ref b := fun u hu => iref u (PySem.W.sortVals_mem false hu)
  have lo : (PySem.W.sortVals (PySem.W.dataKind h1 ps) false its its).length = its.length := PySem.W.sortVals_length false rfl
  have hn : H (s.heap.objs.size + 1) = none := I.hok.fresh (Nat.le_succ _)
  have hg := PyProof.Rows.sortedAll_at s.heap its (PySem.W.sortVals (PySem.W.dataKind h1 ps) false its its).toArray
  obtain ⟨n, hg⟩ := hg
  have hv := vals_refs oref
  refine ⟨.ref (s.heap.objs.size + 1), _, I.laid (t' := s.toks) (o := .lst ((PySem.W.sortVals (PySem.W.dataKind h1 ps) false its its).map refV)) (fun b o e => PyProof.Rows.sortedAll_old e) (Nat.le_succ _) ⟨?_, _, n, hv, hg⟩, rfl, q _ _ ?_ (fun R hR => each_refs oref (out _ (each_zip hR rv))) hn⟩
  · rw [List.length_map, lo, sizeLine_eq]; omega
  · rw [List.length_map, lo, rv.length]
theorem u60 {k : Nat} {A : Around} (hr : Room k A) : A.units + 60 < cLine := by have := hr.un; omega
end Dl
/-! Wk: enumerate of a list or a tuple, by what is read. -/
namespace Dl
open PySem PySem.Spec PyProof.Rows L2
open Sem (wp)
set_option maxHeartbeats 1000000 in
theorem meets_enumB {v : Value} {o : Obj} {H : Heap → Prop} (B : Begins v o H) :
    Meets (Builtin.«enumerate.__new__» ⟨[.type "enumerate", v], []⟩) (fun _ R s => H s.heap ∧
      R (.ok (.ret (.ref (s.heap.push o).objs.size))) { s with heap := (s.heap.push o).push { cls := .type "enumerate", data := .fields #[.none, .bool false, .ref s.heap.objs.size, rawInt 0, .none, .none] } }) :=
  .of_wp fun prog w A R s h => by
    obtain ⟨hp, g, d, tk, os⟩ := s; obtain ⟨h1, h⟩ := h
    have hsub := sub_enumerate
    have q1 : ∀ {A' : Around} {E : Value → Shared → Prop} {Q : Value → Shared → Prop}, Q (.ref hp.objs.size) ⟨hp.push o, g, d, tk, os⟩ → wpAny (model prog w) A' (pyIter v) Q E ⟨hp, g, d, tk, os⟩ :=
      fun q => B.iter prog w _ _ ⟨hp, g, d, tk, os⟩ _ h1 q
    wp_walk using q1
    refine wpAny_stack_any fun st => wpAny_pure ?_
    split
    · rename_i c _ _ _ _ _
      cases (c == Value.type "enumerate")
      · wp_walk using q1
        exact ⟨_, rfl, h⟩
      · wp_walk using q1
        exact ⟨_, rfl, h⟩
    · wp_walk using q1
      exact ⟨_, rfl, h⟩
section
variable {prog : Program} {w : World} {A : Around} {E : Value → Shared → Prop} {s : Shared}
theorem enumB {v : Value} {o : Obj} {H : Heap → Prop} {Q : Value → Shared → Prop} (B : Begins v o H) (h1 : H s.heap)
    (h : ∀ h', IsEnum h' (s.heap.objs.size + 1) s.heap.objs.size 0 .none → h'.get? s.heap.objs.size = some o → h'.objs.size = s.heap.objs.size + 2 →
      (∀ b o, s.heap.get? b = some o → h'.get? b = some o) → Q (.ref (s.heap.objs.size + 1)) { s with heap := h' }) :
    wpAny (model prog w) A (call (.type "enumerate") [v]) Q E s := by
  refine callType_new F.called_enumerate (by decide) (F.typeCall_enumerate_1 _) (F.newCall_enumerate_1 _) (fun obj => F.args_object_init_2 obj _) F.entry_enumerate_new
    (meets_enumB B) ⟨h1, ?_⟩
  have hz : (s.heap.push o).objs.size = s.heap.objs.size + 1 := Heap.size_push ..
  show _ ∧ _
  rw [hz]
  have he : IsEnum ((s.heap.push o).push { cls := .type "enumerate", data := .fields #[.none, .bool false, .ref s.heap.objs.size, rawInt 0, .none, .none] }) (s.heap.objs.size + 1) s.heap.objs.size 0 .none := by
    have := Heap.get?_push_size (s.heap.push o) (o := { cls := .type "enumerate", data := .fields #[.none, .bool false, .ref s.heap.objs.size, rawInt 0, .none, .none] }) rfl
    rw [hz] at this; exact this
  refine ⟨⟨_, he, rfl⟩, h _ he (Heap.get?_push_of_some _ (Heap.get?_push_size _ B.free)) (by rw [Heap.size_push, hz]) fun b o x => Heap.get?_push_of_some _ (Heap.get?_push_of_some _ x)⟩
end
/-- the tuple at a, each item in a new pair -/
def IteT (K : PySem.W.Frag) (a : Addr) (n : Nat) : It :=
  ⟨fun i H => ∃ (xs : List V) (x : V), SqT K H a xs ∧ xs.length = n ∧ xs[i]? = some x, fun i H v H' => ∃ T x, v = .ref T ∧ H T = none ∧ H' = upd H T (.tup [.int (i : Nat), x]) ∧ ∀ xs, SqT K H a xs → xs[i]? = some x, fun i H => ∃ xs : List V, SqT K H a xs ∧ xs.length = n ∧ n ≤ i⟩
theorem turn_enumT {P : Program} {w : World} {K : PySem.W.Frag} {elts : List Expr} {kk : Nat} {tpos : Pos} (a e it : Addr) (n : Nat) :
    Turn P w K (.Tuple elts kk tpos) (IteT K a n) [e, it] e (fun i h => (∃ old, IsEnum h e it ((i : Nat) : Int) old) ∧ h.IsTupleIter it a i ∧ e ≠ it ∧ a ≠ e ∧ a ≠ it ∧ i ≤ n) where
  mem := by simp
  obj := fun i h st b hb => by
    obtain ⟨⟨old, he⟩, ⟨o, ho, hc, hd⟩, _⟩ := st
    have e' : b = e ∨ b = it := by simpa using hb
    rcases e' with z | z
    · rw [z]; exact ⟨_, he, fun v q => nomatch q⟩
    · rw [z]; exact ⟨o, ho, fun v q => by rw [hd] at q; cases q⟩
  keep := fun i h h' st k => let ⟨⟨old, he⟩, hi, hne⟩ := st; ⟨⟨old, k e (by simp) _ he⟩, hi.at fun o q => k it (by simp) o q, hne⟩
  item := by
    intro X hP hw hK hc i pins s σ H E I hf st hg
    subst hP hw hK
    obtain ⟨⟨old, he⟩, hit, hne, hae, hai, hin⟩ := st
    obtain ⟨xs, x, hq, hn, hx⟩ := hg
    obtain ⟨its, rv, p, hz⟩ := I.tuple hq
    obtain ⟨u, hu, ru⟩ := rv.get hx
    have hel : e < s.heap.objs.size := Heap.lt_size he
    have hil : it < s.heap.objs.size := by obtain ⟨_, q, _⟩ := hit; exact Heap.lt_size q
    have hix : i < its.length := (List.getElem?_eq_some_iff.mp hu).1
    refine wpAny_pyNext_enum_itemD (Draws.tuple (show X.A.in1.handled = none from I.ok.hd hc) it a hai its.toArray) he ⟨hit, p⟩ (by simpa using hix) hne (by simp [hne, Ne.symm hae]) fun u' h' tk hu' ho st' hT hsz hk => ?_
    have eu : u' = u := by
      have : its.toArray[i]? = some u := by simpa using hu
      rw [this] at hu'
      exact (Option.some.inj hu').symm
    subst eu
    refine ⟨_, rfl, wpAny_letOwnedTupleGo_enum (s := { s with heap := h', toks := tk + 1 }) ho fun h'' he' sb => ?_⟩
    have hT2 : h''.get? s.heap.objs.size = some { cls := .type "tuple", data := .seq #[.int i tk, u'] } := (sb.2 _ (Nat.ne_of_gt hel)).trans hT
    have new : ObjOk X.prog X.w (upd H s.heap.objs.size (.tup [.int (i : Nat), x])) h'' s.heap.objs.size (.tup [.int (i : Nat), x]) :=
      ⟨by show 2 ≤ sizeLine; decide, [.int i tk, u'], .cons ⟨_, rfl⟩ (.cons ru .nil), ⟨_, hT2, rfl, _, rfl⟩⟩
    have I1 : Inv X pins σ (upd H s.heap.objs.size (.tup [.int (i : Nat), x])) { s with heap := h'', toks := tk + 1 } :=
      I.turnedNew (ch := [e, it]) (fun b ob hb q => (sb.2 b (fun z => hb (by simp [z]))).trans (hk b ob (fun z => hb (by simp [z])) (fun z => hb (by simp [z])) q)) hf (Nat.le_refl _) new
    refine ⟨.ref s.heap.objs.size, _, I1, rfl, ⟨_, x, rfl, I.hok.fresh (Nat.le_refl _), rfl, fun ys hy => by rw [I.tuple_inj hy hq]; exact hx⟩, ⟨⟨u', ?_⟩, st'.1.at fun o q => (sb.2 it (Ne.symm hne)).trans q, hne, hae, hai, ?_⟩, fun b hb => ?_⟩
    · have e1 : ((i + 1 : Nat) : Int) = (i : Int) + 1 := by omega
      rw [e1]; exact he'
    · have := (List.getElem?_eq_some_iff.mp hx).1
      omega
    · have hb' : b < s.heap.objs.size := by
        have e' : b = e ∨ b = it := by simpa using hb
        rcases e' with z | z
        · rw [z]; exact hel
        · rw [z]; exact hil
      rw [upd_ne (Nat.ne_of_lt hb')]
      exact (hf b hb).1
  done := by
    intro X hP hw hK hc i pins s σ H E I hf st hg
    subst hP hw hK
    obtain ⟨⟨old, he⟩, hit, hne, hae, hai, hin⟩ := st
    obtain ⟨xs, hq, hn, hx⟩ := hg
    obtain ⟨its, rv, p, hz⟩ := I.tuple hq
    obtain ⟨f0, f1, f2, f3, f4, f5⟩ := hf it (by simp)
    have hl := rv.length
    have hi : i = its.toArray.size := by simp; omega
    exact wpAny_pyNext_enum_endD (Draws.tuple (show X.A.in1.handled = none from I.ok.hd hc) it a hai its.toArray) he (by rw [← hi]; exact ⟨hit, p⟩) fun h' eb => ⟨rfl, I.turned (t' := s.toks) (fun b o hb q => eb b o hb q) f0 f1 f3 f4 f5⟩
  self := fun A i s Q E st h => let ⟨⟨_, he⟩, _⟩ := st; wpAny_pyIter_enum he h
/-- enumerate(x), x a list or a tuple -/
def iEnumA (K : PySem.W.Frag) (ta : TA) : TI := fun σ H R => ta σ H fun vs H1 => ∃ a xs, vs = [.ref a] ∧ ((SqL K H1 a xs ∧ R (Ite K a) H1) ∨ (SqT K H1 a xs ∧ R (IteT K a xs.length) H1))
theorem pi_enumA {X : Cx} {e : Expr} {ta : TA} {p pos tpos : Pos} {elts : List Expr} {kk : Nat} (hg : Gl X "enumerate") (hm : X.mg "enumerate" = none) (ha : PA X [e] ta) (hs : starEach [e] X.env = [(false, eval e X.env)] := by rfl) :
    PI X (.Tuple elts kk tpos) (.Call (.Name "enumerate" p) [e] [] pos) (iEnumA X.K ta) := by
  refine ⟨fun pins s σ H R I h => ?_⟩
  refine Call_ (ld_blt I hg hm boot_enumerate (PyProof.Rows.callWith_type1 (thn (ha.run pos pins s σ H _ I h) fun us s1 ⟨vs, H1, I1, r1, q1⟩ => ?_) hs rfl))
  obtain ⟨a, xs, ex, q⟩ := q1
  subst ex
  cases r1 with
  | cons r rr =>
    cases rr
    cases r
    rcases q with ⟨hq, q⟩ | ⟨hq, q⟩
    · obtain ⟨its, rv, p', hz⟩ := I1.list hq
      refine call_enumerate_list p'.isList fun h' he hit hsz hk => wpAny_pyIter_enum he ?_
      have I2 : Inv X pins σ H1 { s1 with heap := h' } := I1.kept (t' := s1.toks) hk
      refine ⟨s1.heap.objs.size + 1, [s1.heap.objs.size + 1, s1.heap.objs.size], _, _, H1, rfl, I2, turn_enum a (s1.heap.objs.size + 1) s1.heap.objs.size, ⟨⟨.none, he⟩, hit, Nat.succ_ne_self _⟩, fun b hb => ?_, q⟩
      have e' : b = s1.heap.objs.size + 1 ∨ b = s1.heap.objs.size := by simpa using hb
      have hle : s1.heap.objs.size ≤ b := by
        rcases e' with z | z
        · rw [z]; exact Nat.le_add_right _ _
        · rw [z]; exact Nat.le_refl _
      exact I1.fpOk hle (I1.hok.fresh hle)
    · obtain ⟨its, rv, p', hz⟩ := I1.tuple hq
      obtain ⟨o, ho, _⟩ := id p'
      have hal : a < s1.heap.objs.size := Heap.lt_size ho
      refine enumB (begins_tuple a its.toArray) p' fun h' he hit hsz hk => wpAny_pyIter_enum he ?_
      have I2 : Inv X pins σ H1 { s1 with heap := h' } := I1.kept (t' := s1.toks) hk
      refine ⟨s1.heap.objs.size + 1, [s1.heap.objs.size + 1, s1.heap.objs.size], _, _, H1, rfl, I2, turn_enumT a (s1.heap.objs.size + 1) s1.heap.objs.size xs.length, ⟨⟨.none, he⟩, ⟨_, hit, rfl, rfl⟩, Nat.succ_ne_self _, Nat.ne_of_lt (Nat.lt_succ_of_lt hal), Nat.ne_of_lt hal, Nat.zero_le _⟩, fun b hb => ?_, q⟩
      have e' : b = s1.heap.objs.size + 1 ∨ b = s1.heap.objs.size := by simpa using hb
      have hle : s1.heap.objs.size ≤ b := by
        rcases e' with z | z
        · rw [z]; exact Nat.le_add_right _ _
        · rw [z]; exact Nat.le_refl _
      exact I1.fpOk hle (I1.hok.fresh hle)
/-! ### by data -/
/-- the turns: a loose pair of the number and the item -/
def ItP (K : PySem.W.Frag) (B : Bt) (J : It) (ds : List D) (G0 : Hp) : Prop := ∀ G H (i : Nat), Same G0 G → Ok B G H →
  (i < ds.length → J.go i H) ∧ (∀ x H', i < ds.length → J.yld i H x H' → ∃ T v d, x = .ref T ∧ SqT K H' T [.int (i : Int), v] ∧ ds[i]? = some d ∧ Go B G H G H' ∧ Ok B G H' ∧ Dd K B G v d) ∧ (i = ds.length → J.stop i H)
section
variable {K : PySem.W.Frag} {B : Bt} {δ : List Sd} {X : Xc} {O : Out}
theorem itp_list {G : Hp} {a : Addr} {vs : List V} {ds : List D} (h : G a = some (.lst vs)) (t : Dds K B G vs ds) : ItP K B (Ite K a) ds G := by
  intro G1 H1 i s o
  have h1 : SqL K H1 a vs := SqL.of (o.u _ _ (s _ _ h))
  have l := t.length
  refine ⟨fun hi => ?_, fun x H' hi y => ?_, fun e => ⟨vs, h1, by omega⟩⟩
  · obtain ⟨v, e1, _⟩ := t.get (List.getElem?_eq_getElem hi)
    exact ⟨vs, v, h1, e1⟩
  · obtain ⟨T, v, rfl, hT, rfl, f⟩ := y
    obtain ⟨d, e1, e2⟩ := t.get' (f vs h1)
    exact ⟨T, v, d, rfl, SqT.of upd_same, e1, loose_go o hT, loose_ok o hT, e2.mono s⟩
theorem itp_tup {G : Hp} {a : Addr} {ob : Obj} {vs : List V} {ds : List D} (h : G a = some (.frz ob (.tup vs))) (t : Dds K B G vs ds) : ItP K B (IteT K a vs.length) ds G := by
  intro G1 H1 i s o
  have h1 : SqT K H1 a vs := SqT.ofZ (o.u _ _ (s _ _ h))
  have l := t.length
  refine ⟨fun hi => ?_, fun x H' hi y => ?_, fun e => ⟨vs, h1, rfl, by omega⟩⟩
  · obtain ⟨v, e1, _⟩ := t.get (List.getElem?_eq_getElem hi)
    exact ⟨vs, v, h1, rfl, e1⟩
  · obtain ⟨T, v, rfl, hT, rfl, f⟩ := y
    obtain ⟨d, e1, e2⟩ := t.get' (f vs h1)
    exact ⟨T, v, d, rfl, SqT.of upd_same, e1, loose_go o hT, loose_ok o hT, e2.mono s⟩
/-- for i, x in enumerate(xs) -/
theorem ws_forE {ta : TA} {i j : Nat} {t : TS} (h : WAx K B O.x ta δ fun as => ∃ ds, (as = [.lst ds] ∨ as = [.tup ds]) ∧ ∃ I : Nat → List Sd → Prop, I 0 δ ∧ (∀ k d δ1, ds[k]? = some d → I k δ1 → WS K B t ((δ1.set i (.val (.int (k : Int)))).set j (.val d)) { nx := I (k + 1), rt := O.rt, bk := O.nx, ct := I (k + 1), x := O.x, ro := O.ro }) ∧ ∀ δ1, I ds.length δ1 → O.nx δ1) :
    WS K B (tFor (iEnumA K ta) (gTup K 2 (gCons (gName i) (gCons (gName j) gNil))) t) δ O := fun G0 H0 σ G H E s xx n r b c => by
  refine h G0 H0 σ G H _ s (xx.ct s) fun vs as G1 H1 g1 o1 hs ⟨ds, ea, I, i0, turn, last⟩ => ?_
  have main : ∀ J, ItP K B J ds G1 → ∃ W : Nat → Nat → L2.St → Hp → Prop, (∃ m, W 0 m σ H1) ∧ ∀ i' m σ H, W i' m σ H → (J.stop i' H ∧ E.nx σ H) ∨ (J.go i' H ∧ ∃ N : L2.St → Hp → Prop, (∀ σ' H', N σ' H' → ∃ m', m' < m ∧ W (i' + 1) m' σ' H') ∧ ∀ x H', J.yld i' H x H' → gTup K 2 (gCons (gName i) (gCons (gName j) gNil)) x σ H' fun σ2 H2 => t { E with nx := N, ct := N, bk := E.nx } σ2 H2) := fun J it => by
    refine ⟨fun k m σ H => m = ds.length - k ∧ k ≤ ds.length ∧ ∃ G δ1, Stt K B G0 H0 G H σ δ1 ∧ Same G1 G ∧ I k δ1, ⟨_, rfl, Nat.zero_le _, G1, δ, s.on g1 o1, Same.refl _, i0⟩, ?_⟩
    rintro k m σ2 H2 ⟨rfl, hk, G2, δ2, s2, sm, ik⟩
    obtain ⟨f1, f2, f3⟩ := it G2 H2 k sm s2.ok
    by_cases hlt : k < ds.length
    · refine .inr ⟨f1 hlt, fun σ' H' => ∃ G δ1, Stt K B G0 H0 G H' σ' δ1 ∧ Same G1 G ∧ I (k + 1) δ1, fun σ' H' hN => ⟨ds.length - (k + 1), by omega, rfl, hlt, hN⟩, fun x H' y => ?_⟩
      obtain ⟨T, v, d, rfl, sq, e1, g3, o3, hd⟩ := f2 x H' hlt y
      have s3 := ((s2.on g3 o3).setVal i (.int (k : Int))).setVal j hd
      refine ⟨_, _, rfl, sq, rfl, _, _, rfl, _, _, rfl, rfl, ?_⟩
      refine turn k d δ2 e1 ik G0 H0 _ G2 H' _ s3 (xx.on (g1.s.trans sm)) (fun σ4 δ4 G4 H4 m4 s4 p4 => ⟨G4, δ4, s4, sm.trans m4, p4⟩) r (fun σ4 δ4 G4 H4 m4 s4 p4 => n _ _ _ _ ((g1.s.trans sm).trans m4) s4 p4) (fun σ4 δ4 G4 H4 m4 s4 p4 => ⟨G4, δ4, s4, sm.trans m4, p4⟩)
    · have ek : k = ds.length := by omega
      subst ek
      exact .inl ⟨f3 rfl, n _ _ _ _ (g1.s.trans sm) s2 (last δ2 ik)⟩
  rcases ea with ea | ea
  · subst ea
    cases hs with
    | cons h1 t1 =>
      cases t1
      cases h1 with
      | lst hg ht => exact ⟨_, _, rfl, .inl ⟨SqL.of (o1.u _ _ hg), main _ (itp_list hg ht)⟩⟩
  · subst ea
    cases hs with
    | cons h1 t1 =>
      cases t1
      cases h1 with
      | tup hg ht => exact ⟨_, _, rfl, .inr ⟨SqT.ofZ (o1.u _ _ hg.1), main _ (itp_tup hg.1 ht)⟩⟩
end
end Dl
/-! Wl: a dict of the def's own that grows, by a base that grows with it; list.pop. -/
namespace Dl
open PySem PySem.Spec PyProof.Rows L2
/-- x in d, x not in d, of a dict -/
def rNotInK : R2 := fun x y H Q => ∃ a ov, y = .ref a ∧ DGet H a x ov ∧ Q (.bl (!ov.isSome)) H
theorem op_dnotin {X : Cx} (hu : X.A.units + 1 < cLine) : OpR X (compareOp .NotIn) rNotInK := by
  intro pins s σ H x y v u Q I rx ry h
  obtain ⟨a, ov, e, g, q⟩ := h
  subst e
  cases (show u = Value.ref a from ry)
  exact d_notIn hu I g rx fun s' I' => ⟨.bl (!ov.isSome), H, I', rfl, q⟩
theorem u1 {k : Nat} {A : Around} (hr : Room k A) : A.units + 1 < cLine := by have := hr.un; omega
theorem nt_dK {kvs : List (Key × V)} : nt (.dK kvs) := fun _ z => nomatch z
section
variable {K : PySem.W.Frag} {B : Bt} {G0 H0 G H G1 H1 : Hp} {σ : L2.St} {δ : List Sd} {O : Out} {p : Addr} {kvs kvs' : List (Key × V)}
theorem ws_pop {i j : Nat} {ds : List D} {d : D} {T : String} (hT : T = "list") (h : δ[i]? = some (.own (ds ++ [d]))) (w : O.nx ((δ.set i (.own ds)).set j (.val d))) : WS K B (tAsg (tBM0 K T rPop (tVar i)) (gName j)) δ O := fun G0 H0 σ G H E s xx n _ _ _ => by
  obtain ⟨a, vs, e1, nb, e0, eg, e2, e3⟩ := s.own i _ h
  obtain ⟨ws, v, rfl, hw, hv⟩ : ∃ ws v, vs = ws ++ [v] ∧ Dds K B G ws ds ∧ Dd K B G v d := by
    clear s h e2 w xx n
    induction ds generalizing vs with
    | nil =>
      cases e3 with
      | cons h1 t => cases t; exact ⟨[], _, rfl, .nil, h1⟩
    | cons x ds ih =>
      cases e3 with
      | cons h1 t =>
        obtain ⟨ws, v, rfl, h2, h3⟩ := ih _ t
        exact ⟨_ :: ws, v, rfl, .cons h1 h2, h3⟩
  refine ⟨_, e1, .inl ⟨hT, _, SqL.of e2⟩, a, ws ++ [v], v, rfl, rfl, e2, ?_, ?_⟩
  · rw [List.length_append, List.length_singleton, Nat.add_sub_cancel, List.getElem?_append_right (Nat.le_refl _), Nat.sub_self]; rfl
  · rw [List.dropLast_concat]
    exact n _ _ G _ (Same.refl _) ((s.putOwn h e1 hw (vs := [])).setVal j hv) w
structure DBs (B : Bt) (G0 H0 : Hp) (p : Addr) : Prop where
  nb : p ≠ B.a
  h0 : ∀ o, nt o → H0 p ≠ some o
  g0 : G0 p = none
theorem Stt.up (s : Stt K B G0 H0 G H σ δ) (hp : H p = none) (i : Nat) : DBs B G0 H0 p ∧ Stt K B G0 (upd H0 p (.dK kvs)) G (upd H p (.dK kvs)) (σ.set i (some (.ref p))) (δ.set i (.val (.adr p))) := by
  have nb := s.ok.neB hp
  have gp := s.ok.fresh hp
  have s2 : Stt K B G0 (upd H0 p (.dK kvs)) G (upd H p (.dK kvs)) σ δ := by
    refine ⟨⟨s.go.s, fun a o na ht h => ?_, fun a o ht h g => ?_, fun c r h => ?_⟩, loose_ok s.ok hp, s.len, s.val, fun i ds e => ?_, s.apart⟩
    · by_cases e : a = p
      · rw [e, upd_same] at h ⊢; exact h
      · rw [upd_ne e] at h ⊢; exact s.go.k a o na ht h
    · by_cases e : a = p
      · rw [e]; exact gp
      · rw [upd_ne e] at h; exact s.go.n a o ht h g
    · rw [upd_ne nb.symm] at h
      rw [upd_ne nb.symm]
      exact s.go.c c r h
    · obtain ⟨a, vs, e1, e2, e3, e4, e5, e6⟩ := s.own i ds e
      have na : a ≠ p := fun z => by rw [z, hp] at e5; cases e5
      exact ⟨a, vs, e1, e2, fun o ht => by rw [upd_ne na]; exact e3 o ht, e4, by rw [upd_ne na]; exact e5, e6⟩
  refine ⟨⟨nb, fun o ht h => ?_, ?_⟩, s2.setVal i (.adr p)⟩
  · have := s.go.k p o nb ht h
    rw [hp] at this; cases this
  · cases e : G0 p with
    | none => rfl
    | some o => rw [s.go.s p o e] at gp; cases gp
theorem Stt.dk (s : Stt K B G0 (upd H0 p (.dK kvs)) G H σ δ) (b : DBs B G0 H0 p) : H p = some (.dK kvs) ∧ G p = none := ⟨s.go.k p _ b.nb nt_dK upd_same, s.go.n p _ nt_dK upd_same b.g0⟩
theorem Stt.putK (s : Stt K B G0 (upd H0 p (.dK kvs)) G H σ δ) (b : DBs B G0 H0 p) : Stt K B G0 (upd H0 p (.dK kvs')) G (upd H p (.dK kvs')) σ δ := by
  obtain ⟨hp, gp⟩ := s.dk b
  have nb := b.nb
  refine ⟨⟨s.go.s, fun a o na ht h => ?_, fun a o ht h g => ?_, fun c r h => ?_⟩, ⟨fun a u e => ?_, s.ok.b, ?_, ?_, s.ok.f⟩, s.len, s.val, fun i ds e => ?_, s.apart⟩
  · by_cases e : a = p
    · rw [e, upd_same] at h ⊢; exact h
    · rw [upd_ne e] at h ⊢; exact s.go.k a o na ht (by rw [upd_ne e]; exact h)
  · by_cases e : a = p
    · rw [e]; exact gp
    · rw [upd_ne e] at h; exact s.go.n a o ht (by rw [upd_ne e]; exact h) g
  · rw [upd_ne nb.symm] at h
    rw [upd_ne nb.symm]
    exact s.go.c c r (by rw [upd_ne nb.symm]; exact h)
  · rw [upd_ne (ne_of_none e gp)]; exact s.ok.u a u e
  · obtain ⟨c, cells, p', r, m, n, e, g', k⟩ := s.ok.x
    exact ⟨c, cells, p', r, m, n, by rw [upd_ne nb.symm]; exact e, g', k⟩
  · intro q hq
    obtain ⟨ps, h1, h2, h3⟩ := s.ok.t q hq
    refine ⟨ps, by rw [upd_ne (fun e => by rw [e, hp] at h1; cases h1)]; exact h1, h2, fun pos cv hc => ?_⟩
    obtain ⟨c, e1, e2⟩ := h3 pos cv hc
    refine ⟨c, e1, ?_⟩
    rw [upd_ne (fun e => by
      rw [e, hp] at e2
      have e3 : HO.dK kvs = LamX.CodeO p q.2 := Option.some.inj e2
      unfold LamX.CodeO at e3
      cases e3)]
    exact e2
  · obtain ⟨a, vs, e1, e2, e3, e4, e5, e6⟩ := s.own i ds e
    have na : a ≠ p := fun z => by rw [z, hp] at e5; cases e5
    exact ⟨a, vs, e1, e2, fun o ht => by have := e3 o ht; rw [upd_ne na] at this ⊢; exact this, e4, by rw [upd_ne na]; exact e5, e6⟩
theorem Go.down (g : Go B G0 (upd H0 p (.dK kvs)) G H) (b : DBs B G0 H0 p) : Go B G0 H0 G H :=
  ⟨g.s, fun a o na ht h => g.k a o na ht (by rw [upd_ne (fun (e : a = p) => b.h0 o ht (e ▸ h))]; exact h), fun a o ht h gg => g.n a o ht (by rw [upd_ne (fun (e : a = p) => b.h0 o ht (e ▸ h))]; exact h) gg, fun c r h => g.c c r (by rw [upd_ne b.nb.symm]; exact h)⟩
theorem rt_up {r : VK} (h : RT K B O G0 H0 r) (b : DBs B G0 H0 p) : RT K B O G0 (upd H0 p (.dK kvs)) r :=
  ⟨fun v d G1 H1 g o hd hp => h.1 v d G1 H1 (g.down b) o hd hp, fun a vs ds G1 H1 g o na h0 g1 h1 hd hp => h.2 a vs ds G1 H1 (g.down b) o na (fun u ht e => by
    by_cases z : a = p
    · exact b.h0 u ht (z ▸ e)
    · exact h0 u ht (by rw [upd_ne z]; exact e)) g1 h1 hd hp⟩
theorem xs_no {Hb : Hp} {X : Xc} (h : ∀ δ C ks ds, ¬ X.ex δ C ks ds) : XS K B X G0 Hb G := fun _ δ1 _ _ _ _ C _ ks ds _ e => (h δ1 C ks ds e).elim
theorem Stt.down (s : Stt K B G0 (upd H0 p (.dK kvs)) G H σ δ) (b : DBs B G0 H0 p) : Stt K B G0 H0 G H σ δ := by
  obtain ⟨hp, gp⟩ := s.dk b
  refine ⟨s.go.down b, s.ok, s.len, s.val, fun i ds e => ?_, s.apart⟩
  obtain ⟨a, vs, e1, e2, e3, e4, e5, e6⟩ := s.own i ds e
  have na : a ≠ p := fun z => by rw [z, hp] at e5; cases e5
  exact ⟨a, vs, e1, e2, fun o ht z => e3 o ht (by rw [upd_ne na]; exact z), e4, e5, e6⟩
/-- enumerate of a list or a tuple that is read, for a loop by hand -/
theorem enumA_any {R : It → Hp → Prop} {i : Nat} {d : D} {ds : List D} (s : Stt K B G0 H0 G H σ δ) (h : δ[i]? = some (.val d)) (e : d = .lst ds ∨ d = .tup ds) (r : ∀ J, ItP K B J ds G → R J H) : iEnumA K (tCons (tVar i) tNil) σ H R := by
  obtain ⟨v0, ev, hv⟩ := s.val i d h
  rcases e with e | e
  · subst e
    cases hv with
    | lst hg ht => exact ⟨_, ev, _, _, rfl, .inl ⟨SqL.of (s.ok.u _ _ hg), r _ (itp_list hg ht)⟩⟩
  · subst e
    cases hv with
    | tup hg ht => exact ⟨_, ev, _, _, rfl, .inr ⟨SqT.ofZ (s.ok.u _ _ hg.1), r _ (itp_tup hg.1 ht)⟩⟩
end
end Dl
/-! Wm: methods of the program's classes by data. -/
namespace Dl
open PySem PySem.Spec PyProof.Rows L2
section
variable {P : Program} {w : World} {K : PySem.W.Frag} {mg : Str → Option Value} {base : Heap}
/-- a method's promise -/
structure ClM (P : Program) (w : World) (K : PySem.W.Frag) (mg : Str → Option Value) (base : Heap) (k : Nat) (f : Addr) (fd : FuncData) (ps : List Str) (sp : Sp) : Prop where
  ok : FnOk P w K mg base CX0 k f fd ps sp
  bn : Binds K fd ps []
theorem clm_of {x q : Str} {st : Stmt} {f : Addr} {fd : FuncData} {N ps : List Str} {k : Nat} {pre : List D → Prop} {post : List D → D → Prop} (F : Fun K x q st f fd) (S : FnScope N ps (defScope st))
    (hb : ∀ (kV doc pm : Value) (an : Option Addr) (cdv ct : Value) (us : List Value), us.length = ps.length → bindArgs (PySem.W.fnOf x q (defArgs st) (defBody st) (defScope st) .none kV doc pm an cdv ct) ⟨us, []⟩ = pure (ps.zip us))
    (hl : ∀ ds, pre ds → ds.length = ps.length)
    (h : ∀ (cdv : Value) (A : Around) (outer : List Env) (s : Shared) (H : Hp) (E : XK), Room k (A.deeper (envOfC q (defScope st) s.heap.objs.size f cdv)) →
      ∃ t, PSs (cxOf CX0 P w K mg base N q (defScope st) f cdv A outer s H E).nox (defBody st) t ∧ ∀ B ds, pre ds → WS K B t (init N ds) { nx := fun _ => post ds .non, rt := post ds }) : ClM P w K mg base (k + 1) f fd ps (SpD K pre post) := by
  refine ⟨F.ok S (fun vs H Q E hsp => ?_) (fun cdv A outer s H vs Q E hr hsp => ?_), F.binds hb⟩
  · obtain ⟨B, G, ds, o, hs, p, q⟩ := hsp
    exact hs.length.trans (hl ds p)
  · obtain ⟨B, G, ds, o, hs, p, q⟩ := hsp
    obtain ⟨t, ht, ww⟩ := h cdv A outer s H E hr
    exact ⟨t, ht, ww B ds p G H _ G H _ (stt_start o hs) xs0 (fun σ1 δ1 G1 H1 _ s1 z => q .non .non G1 H1 s1.go s1.ok .non z) ⟨fun v d G1 H1 g o1 hd z => q v d G1 H1 g o1 hd z, fun _ _ _ _ _ _ _ _ _ _ _ _ z => z.elim⟩ (fun _ _ _ _ _ _ z => z.elim) (fun _ _ _ _ _ _ z => z.elim)⟩
/-- an __init__ -/
theorem clmi_of {x q : Str} {st : Stmt} {f C : Addr} {fd : FuncData} {N ps : List Str} {k : Nat} {pre : List D → Prop} {post : List D → D → Prop} (F : Fun K x q st f fd) (S : FnScope N ps (defScope st))
    (hb : ∀ (kV doc pm : Value) (an : Option Addr) (cdv ct : Value) (us : List Value), us.length = ps.length → bindArgs (PySem.W.fnOf x q (defArgs st) (defBody st) (defScope st) .none kV doc pm an cdv ct) ⟨us, []⟩ = pure (ps.zip us))
    (hl : ∀ ds, pre ds → ds.length + 1 = ps.length)
    (h : ∀ (cdv : Value) (A : Around) (outer : List Env) (s : Shared) (H : Hp) (E : XK), Room k (A.deeper (envOfC q (defScope st) s.heap.objs.size f cdv)) →
      ∃ t, PSs (cxOf CX0 P w K mg base N q (defScope st) f cdv A outer s H E).nox (defBody st) t ∧ ∀ B ds, pre ds → ∀ (G H1 H : Hp) (x dx : Addr) (σ : L2.St) (Q : VK), Fil K B C x dx G H1 G H [] [] → Stt K B G H G H σ (init N (.adr x :: ds)) →
        (∀ d G2 H2, Go B G H1 G2 H2 → Ok B G2 H2 → Dd K B G2 (.ref x) d → post ds d → Q .non H2) → t { nx := fun _ H' => Q .non H', rt := Q } σ H) : ClM P w K mg base (k + 1) f fd ps (SpI K C pre post) := by
  refine ⟨F.ok S (fun vs H Q E hsp => ?_) (fun cdv A outer s H vs Q E hr hsp => ?_), F.binds hb⟩
  · obtain ⟨B, G, H1, x, dx, ws, ds, rfl, nx, ndx, ne, rfl, o, hs, p, q⟩ := hsp
    rw [List.length_cons, hs.length]
    exact hl ds p
  · obtain ⟨B, G, H1, x, dx, ws, ds, rfl, nx, ndx, ne, rfl, o, hs, p, q⟩ := hsp
    obtain ⟨t, ht, ww⟩ := h cdv A outer s _ E hr
    have f := Fil.start (K := K) (C := C) o nx ndx ne
    exact ⟨t, ht, ww B ds p G H1 _ x dx _ Q f (stt_start f.ok (.cons (.adr x) hs)) q⟩
/-- .. a new list -/
theorem clmn_of {x q : Str} {st : Stmt} {f : Addr} {fd : FuncData} {N ps : List Str} {k : Nat} {pre : List D → Prop} {post : List D → List D → Prop} (F : Fun K x q st f fd) (S : FnScope N ps (defScope st))
    (hb : ∀ (kV doc pm : Value) (an : Option Addr) (cdv ct : Value) (us : List Value), us.length = ps.length → bindArgs (PySem.W.fnOf x q (defArgs st) (defBody st) (defScope st) .none kV doc pm an cdv ct) ⟨us, []⟩ = pure (ps.zip us))
    (hl : ∀ ds, pre ds → ds.length = ps.length)
    (h : ∀ (cdv : Value) (A : Around) (outer : List Env) (s : Shared) (H : Hp) (E : XK), Room k (A.deeper (envOfC q (defScope st) s.heap.objs.size f cdv)) →
      ∃ t, PSs (cxOf CX0 P w K mg base N q (defScope st) f cdv A outer s H E).nox (defBody st) t ∧ ∀ B ds, pre ds → WS K B t (init N ds) { nx := fun _ => False, rt := fun _ => False, ro := post ds }) : ClM P w K mg base (k + 1) f fd ps (SpN K pre post) := by
  refine ⟨F.ok S (fun vs H Q E hsp => ?_) (fun cdv A outer s H vs Q E hr hsp => ?_), F.binds hb⟩
  · obtain ⟨B, G, ds, o, hs, p, q⟩ := hsp
    exact hs.length.trans (hl ds p)
  · obtain ⟨B, G, ds, o, hs, p, q⟩ := hsp
    obtain ⟨t, ht, ww⟩ := h cdv A outer s H E hr
    exact ⟨t, ht, ww B ds p G H _ G H _ (stt_start o hs) xs0 (fun σ1 δ1 G1 H1 _ s1 z => z.elim) ⟨fun v d G1 H1 g o1 hd z => z.elim, fun a vs es G1 H1 g o1 nb fr ga ha hd z => q a vs es G1 H1 g o1 nb fr ga ha hd z⟩ (fun _ _ _ _ _ _ z => z.elim) (fun _ _ _ _ _ _ z => z.elim)⟩
theorem ClM.frz {f : Addr} {fd : FuncData} {k : Nat} {ps : List Str} {pre : List D → Prop} {post : List D → List D → Prop} {post' : List D → D → Prop} (c : ClM P w K mg base k f fd ps (SpN K pre post)) (h : ∀ ds es, post ds es → post' ds (.lst es)) : ClM P w K mg base k f fd ps (SpD K pre post') :=
  ⟨c.ok.imp fun vs H Q E ⟨B, G, ds, o, hs, p, q⟩ => ⟨B, G, ds, o, hs, p, fun a ws es G1 H1 g o1 nb fr ga ha hd z => q (.ref a) (.lst es) (upd G1 a (.lst ws)) H1 ⟨g.s.trans (same_upd ga), g.k, fun b u ht e hg => by
    rw [upd_ne (fun e2 => fr u ht (by rw [← e2]; exact e))]; exact g.n b u ht e hg, g.c⟩ (freeze_ok o1 nt_lst nb ga ha) (.lst upd_same (hd.mono (same_upd ga))) (h ds es z)⟩, c.bn⟩
end
section
variable {K : PySem.W.Frag} {B : Bt} {δ : List Sd} {O : Out} {X : Xc} {P : D → Prop}
abbrev rListOf (K : PySem.W.Frag) : List V → Hp → VK → Prop := fun xs H Q => ∃ p ys, xs = [.ref p] ∧ (SqL K H p ys ∨ SqT K H p ys) ∧ ∀ l, H l = none → Q (.ref l) (upd H l (.lst ys))
/-- return list(xs): a new list -/
theorem ws_retL {ta : TA} (h : WAx K B O.x ta δ fun as => ∃ ds, (as = [.lst ds] ∨ as = [.tup ds]) ∧ O.ro ds) : WS K B (tRet (tCB (rListOf K) ta)) δ O := fun G0 H0 σ G H E s xx n r _ _ => by
  refine h G0 H0 σ G H _ s (xx.ct s) fun vs as G1 H1 g1 o1 hs ⟨ds, e, p⟩ => ?_
  have go : ∀ ys, Dds K B G1 ys ds → ∀ l, H1 l = none → E.rt (.ref l) (upd H1 l (.lst ys)) := fun ys hy l hl => by
    have s1 := s.on g1 o1
    have nb := o1.neB hl
    refine r.2 l ys ds G1 _ (s1.go.trans o1 (loose_go o1 hl)) (loose_ok o1 hl) nb (fun o ht e => ?_) (o1.fresh hl) upd_same hy p
    have := s1.go.k l o nb ht e
    rw [hl] at this
    cases this
  rcases e with e | e
  · subst e
    cases hs with
    | cons h1 t1 =>
      cases t1
      cases h1 with
      | lst hg ht => exact ⟨_, _, rfl, .inl (SqL.of (o1.u _ _ hg)), go _ ht⟩
  · subst e
    cases hs with
    | cons h1 t1 =>
      cases t1
      cases h1 with
      | tup hg ht => exact ⟨_, _, rfl, .inr (SqT.ofZ (o1.u _ _ hg.1)), go _ ht⟩
/-- isinstance(x, C), C a class of the program -/
theorem rc_isiO {C : Addr} {d : D} {t : Value} {b : Bool} (ht : ∀ G H v, Ok B G H → Dd K B G v d → TyX K H v t) (hk : PySem.W.kitOne K t (.ref C) = some b) (p : P (.bl b)) : RC K B (rIsi K) [d, .adr C] P := fun G H vs Q o hs q => by
  cases hs with
  | cons h1 t1 =>
    cases t1 with
    | cons h2 t2 =>
      cases t2
      cases h2
      exact ⟨_, _, t, _, b, rfl, .own C, ht G H _ o h1, hk, q.nil o (.bl b) p⟩
theorem we_adr {C : Addr} (p : P (.adr C)) : WEx K B X (tC (.ref C)) δ P := fun G0 H0 σ G H Q s xx q => q (.ref C) (.adr C) G H Go.refl s.ok (.adr C) p
end
end Dl
/-! Wn: a class's own ==, len, repr, bool by data. -/
namespace Dl
open PySem PySem.Spec PyProof.Rows L2
section
variable {K : PySem.W.Frag} {B : Bt} {P : D → Prop} {C : Addr} {ks : List Str} {ds : List D} {pre : List D → Prop} {post : List D → D → Prop}
theorem rc_olen (p : pre [.obj C ks ds]) (m : ∀ r, post [.obj C ks ds] r → ∃ k : Nat, r = .int k ∧ k ≤ 1000000 ∧ P (.int k)) : RC K B (rOlen C (SpD K pre post)) [.obj C ks ds] P := fun G H vs Q o hs q => by
  cases hs with
  | cons h1 t1 =>
    cases t1
    cases h1 with
    | obj hg t => exact ⟨_, _, _, rfl, o.u _ _ hg, B, G, _, o, .cons (.obj hg t) .nil, p, fun v' d' G3 H3 g3 o3 hd pd => by
        obtain ⟨k, e, hk, p'⟩ := m d' pd
        subst e
        cases hd
        exact ⟨k, rfl, hk, q (.int k) (.int k) G3 H3 g3 o3 (.int k) p'⟩⟩
theorem rc_orepr (p : pre [.obj C ks ds]) (m : ∀ r, post [.obj C ks ds] r → ∃ z : Str, r = .str z ∧ P (.str z)) : RC K B (rOrepr C (SpD K pre post)) [.obj C ks ds] P := fun G H vs Q o hs q => by
  cases hs with
  | cons h1 t1 =>
    cases t1
    cases h1 with
    | obj hg t => exact ⟨_, _, _, rfl, o.u _ _ hg, B, G, _, o, .cons (.obj hg t) .nil, p, fun v' d' G3 H3 g3 o3 hd pd => by
        obtain ⟨z, e, p'⟩ := m d' pd
        subst e
        cases hd
        exact ⟨z, rfl, q (.str z) (.str z) G3 H3 g3 o3 (.str z) p'⟩⟩
theorem ro_oeq {no : Bool} {e : D} {t : Value} (p : pre [.obj C ks ds, e]) (ht : ∀ G H v, Ok B G H → Dd K B G v e → TyX K H v t) (nf : PySem.W.notFirst K C t = true) (m : ∀ r, post [.obj C ks ds, e] r → ∃ b : Bool, r = .bl b ∧ P (.bl (no.xor b))) : RO K B (rOeq K C (SpD K pre post) no) (.obj C ks ds) e P := fun G H x y Q o hx hy q => by
  cases hx with
  | obj hg tt => exact ⟨_, _, _, t, rfl, o.u _ _ hg, ht G H y o hy, nf, B, G, _, o, .cons (.obj hg tt) (.cons hy .nil), p, fun v' d' G3 H3 g3 o3 hd pd => by
      obtain ⟨b, e', p'⟩ := m d' pd
      subst e'
      cases hd
      exact ⟨b, rfl, q _ _ G3 H3 g3 o3 (.bl _) p'⟩⟩
end
end Dl
/-! Wo: a list of the def's own that is only read: by a new copy of it (list, tuple). -/
namespace Dl
open PySem PySem.Spec PyProof.Rows L2
section
variable {K : PySem.W.Frag} {B : Bt} {G H G1 H1 : Hp} {δ : List Sd} {P : D → Prop} {X : Xc}
theorem melt_at {a : Addr} {vs : List V} (o1 : Ok B G H) (nb : a ≠ B.a) (eg : G a = none) (e2 : H a = some (.lst vs)) (g2 : Go B (upd G a (.lst vs)) H G1 H1) (o2 : Ok B G1 H1) : ∃ G3 : Hp, (∀ x, x ≠ a → G3 x = G1 x) ∧ Go B G H G3 H1 ∧ Ok B G3 H1 := by
  have sf : Same G (upd G a (.lst vs)) := same_upd eg
  let G3 : Hp := fun x => if x = a then none else G1 x
  have sub : Same G3 G1 := fun x u e => by
    by_cases ex : x = a
    · have e' : (if x = a then none else G1 x) = some u := e
      rw [if_pos ex] at e'; cases e'
    · have e' : (if x = a then none else G1 x) = some u := e
      rw [if_neg ex] at e'; exact e'
  have at3 : ∀ x, x ≠ a → G3 x = G1 x := fun x ex => if_neg ex
  refine ⟨G3, at3, ⟨fun x u e => ?_, g2.k, fun x u ht hx hg => ?_, g2.c⟩, ⟨sub.trans o2.u, by rw [at3 B.a nb.symm]; exact o2.b, ?_, o2.t, fun x u e => o2.f x u (sub x u e)⟩⟩
  · rw [at3 x (ne_of_none e eg)]; exact g2.s x u (sf x u e)
  · by_cases ex : x = a
    · exact if_pos ex
    · rw [at3 x ex]; exact g2.n x u ht hx (by rw [upd_ne ex]; exact hg)
  · obtain ⟨c, cells, p, r, m, n, hB, hc, w⟩ := o2.x
    obtain ⟨c1, cells1, p1, r1, m1, n1, hB1, hc1, _⟩ := o1.x
    obtain ⟨r', hB'⟩ := g2.c c1 _ hB1
    rw [hB] at hB'
    have ec : c = c1 := by
      have := HO.lst.inj (Option.some.inj hB')
      exact V.ref.inj (List.cons.inj this).1
    have nca : c ≠ a := by rw [ec]; exact ne_of_none hc1 eg
    exact ⟨c, cells, p, r, m, n, hB, by rw [at3 c nca]; exact hc, w⟩
/-- list(xs), xs a list of the def's own: a new list -/
theorem we_listO {i : Nat} {ds : List D} (h : δ[i]? = some (.own ds)) (p : P (.lst ds)) : WEx K B X (tCB (rListOf K) (tCons (tVar i) tNil)) δ P := fun G0 H0 σ G H Q s xx q => by
  obtain ⟨a, vs, e1, nb, e0, eg, e2, e3⟩ := s.own i ds h
  refine ⟨_, e1, a, vs, rfl, .inl (SqL.of e2), fun l hl => ?_⟩
  exact q.new s.ok nt_lst hl (.lst upd_same (e3.mono (same_upd (s.ok.fresh hl)))) p
/-- tuple(xs), xs a list of the def's own -/
theorem we_tupO {i : Nat} {ds : List D} (h : δ[i]? = some (.own ds)) (p : P (.tup ds)) : WEx K B X (tCB (zOf K) (tCons (tVar i) tNil)) δ P := fun G0 H0 σ G H Q s xx q => by
  obtain ⟨a, vs, e1, nb, e0, eg, e2, e3⟩ := s.own i ds h
  exact ⟨_, e1, a, vs, rfl, .inl ⟨SqL.of e2, fun l ob hl hd => q.new s.ok nt_tup hl (.tup ⟨upd_same, hd⟩ (e3.mono (same_upd (s.ok.fresh hl)))) p⟩⟩
end
end Dl
/-! Wp: new lists by methods, stores into a list of one's own, bool of an instance, two names of which one gets a new list. -/
namespace Dl
open PySem PySem.Spec PyProof.Rows L2
section
variable {K : PySem.W.Frag} {B : Bt} {δ : List Sd} {P : D → Prop} {X : Xc} {O : Out} {C : Addr} {m : Str} {E : XK} {pre : List D → Prop} {post : List D → List D → Prop} {te : TE} {ta : TA}
/-- x = o.m(..), a new list -/
theorem ws_setNM {i : Nat} (h : WEx K B O.x te δ fun d => ∃ ks ds, d = .obj C ks ds ∧ (ks.zip ds).lookup m = none ∧ WAx K B O.x ta δ fun as => pre (d :: as) ∧ ∀ es, post (d :: as) es → O.nx (δ.set i (.own es))) : WS K B (tAsg (tMeth C m (SpN K pre post) [] E te ta) (gName i)) δ O := fun G0 H0 σ G H E' s xx n _ _ _ =>
  h G0 H0 σ G H _ s (xx.ct s) fun v d G1 H1 g1 o1 hv ⟨ks, ds, e, l, w⟩ => by
    subst e
    cases hv with
    | obj h1 t =>
      refine ⟨_, _, _, rfl, o1.u _ _ h1, lookup_nod (by rw [← t.length, List.length_map]) l, w G0 H0 σ G1 H1 _ (s.on g1 o1) ((xx.ct s).on g1 o1) fun vs as G2 H2 g2 o2 hs ⟨p, mm⟩ => ?_⟩
      rw [List.append_nil]
      have s2 := (s.on g1 o1).on g2 o2
      refine ⟨B, G2, _, o2, .cons (.obj (g2.s _ _ h1) (t.mono g2.s)) hs, p, fun a ws es G3 H3 g3 o3 nb fr ga ha hd pe => ?_⟩
      have s3 := s2.on g3 o3
      have fr0 : ∀ o, nt o → H0 a ≠ some o := fun o ht e => fr o ht (s2.go.k a o nb ht e)
      refine n _ _ G3 H3 ((g1.s.trans g2.s).trans g3.s) (s3.tookOwn i nb fr0 ga ha hd fun j fs b e1 e2 eb => ?_) (mm es pe)
      obtain ⟨b', us, f1, f2, f3, f4, f5, f6⟩ := s2.own j fs e1
      rw [e2] at f1
      cases f1
      exact fr _ nt_lst (eb ▸ f5)
/-- o.m(..).append(e): a new list that nobody keeps -/
theorem ws_dropNM {T : String} (hT : T = "list") (h : WEx K B O.x te δ fun d => ∃ ks ds, d = .obj C ks ds ∧ (ks.zip ds).lookup m = none ∧ WAx K B O.x ta δ fun as => pre (d :: as) ∧ ∀ es, post (d :: as) es → es.length < 1000 ∧ O.nx δ) {c : V} {dc : D} (hc : ∀ G, Dd K B G c dc) :
    WS K B (tDrop (tBM K T rAppend (tMeth C m (SpN K pre post) [] E te ta) (tCons (tC c) tNil))) δ O := fun G0 H0 σ G H E' s xx n _ _ _ =>
  h G0 H0 σ G H _ s (xx.ct s) fun v d G1 H1 g1 o1 hv ⟨ks, ds, e, l, w⟩ => by
    subst e
    cases hv with
    | obj h1 t =>
      refine ⟨_, _, _, rfl, o1.u _ _ h1, lookup_nod (by rw [← t.length, List.length_map]) l, w G0 H0 σ G1 H1 _ (s.on g1 o1) ((xx.ct s).on g1 o1) fun vs as G2 H2 g2 o2 hs ⟨p, mm⟩ => ?_⟩
      rw [List.append_nil]
      have s2 := (s.on g1 o1).on g2 o2
      refine ⟨B, G2, _, o2, .cons (.obj (g2.s _ _ h1) (t.mono g2.s)) hs, p, fun a ws es G3 H3 g3 o3 nb fr ga ha hd pe => ?_⟩
      obtain ⟨lm, nx⟩ := mm es pe
      have s3 := s2.on g3 o3
      refine ⟨.inl ⟨hT, _, SqL.of ha⟩, a, ws, c, rfl, rfl, ha, Nat.lt_of_le_of_lt (by rw [hd.length]; omega : ws.length ≤ 1000) (by decide), ?_⟩
      -- the list is nobody's: the state stands
      have fr0 : ∀ o, nt o → H0 a ≠ some o := fun o ht e => fr o ht (s2.go.k a o nb ht e)
      have s4 : Stt K B G0 H0 G3 (upd H3 a (.lst (ws ++ [c]))) σ δ := by
        refine ⟨⟨s3.go.s, fun x u ne ht e => ?_, s3.go.n, fun c' r e => ?_⟩, write_ok s3.ok ha ga nb, s3.len, s3.val, fun j es' e => ?_, s3.apart⟩
        · rw [upd_ne (fun q => fr0 u ht (by rw [← q]; exact e))]
          exact s3.go.k x u ne ht e
        · rw [upd_ne nb.symm]; exact s3.go.c c' r e
        · obtain ⟨b, us, f1, f2, f3, f4, f5, f6⟩ := s2.own j es' e
          obtain ⟨b', us', k1, k2, k3, k4, k5, k6⟩ := s3.own j es' e
          rw [f1] at k1
          cases k1
          have nba : b ≠ a := fun eb => fr _ nt_lst (eb ▸ f5)
          exact ⟨b, us', f1, k2, k3, k4, by rw [upd_ne nba]; exact k5, k6⟩
      exact n _ _ G3 _ ((g1.s.trans g2.s).trans g3.s) s4 nx
/-- x[0] = e, x a list of one's own -/
theorem ws_put0 {i : Nat} {d : D} {ds : List D} (h : δ[i]? = some (.own (d :: ds))) (he : WEx K B O.x te δ fun x => O.nx (δ.set i (.own (x :: ds)))) : WS K B (tAsg te (gSub (tVar i) (tC (.int 0)) rSetL)) δ O := fun G0 H0 σ G H E s xx n _ _ _ =>
  he G0 H0 σ G H _ s (xx.ct s) fun v x G1 H1 g o hd p => by
    have s1 := s.on g o
    obtain ⟨a, vs, e1, nb, e0, eg, e2, e3⟩ := s1.own i _ h
    refine ⟨_, e1, a, vs, 0, 0, rfl, rfl, e2, ?_, ?_⟩
    · cases e3 with
      | cons h1 t => simp [ixN]
    · cases e3 with
      | cons h1 t => exact n _ _ G1 _ g.s (s1.putOwn h e1 (.cons hd t) (vs := [])) p
/-- bool(x) by __len__ -/
theorem rc_obool {ks : List Str} {ds : List D} {post : List D → D → Prop} (p : pre [.obj C ks ds]) (mm : ∀ r, post [.obj C ks ds] r → ∃ k : Nat, r = .int k ∧ k ≤ 1000000 ∧ P (.bl (decide (k ≠ 0)))) : RC K B (rObool C (SpD K pre post)) [.obj C ks ds] P := fun G H vs Q o hs q => by
  cases hs with
  | cons h1 t1 =>
    cases t1
    cases h1 with
    | obj hg t => exact ⟨_, _, _, rfl, o.u _ _ hg, B, G, _, o, .cons (.obj hg t) .nil, p, fun v' d' G3 H3 g3 o3 hd pd => by
        obtain ⟨k, e, hk, p'⟩ := mm d' pd
        subst e
        cases hd
        exact ⟨k, rfl, hk, q (.bl _) (.bl _) G3 H3 g3 o3 (.bl _) p'⟩⟩
/-- x, y = (e, f(..)), f hands on a new list -/
theorem ws_parN {i j : Nat} (h : WEx K B O.x te δ fun d => WAx K B O.x ta δ fun ds => pre ds ∧ ∀ es, post ds es → O.nx ((δ.set i (.val d)).set j (.own es))) : WS K B (tPar i j (tCons te (tCons (tCall (SpN K pre post) [] E ta) tNil))) δ O := fun G0 H0 σ G H E' s xx n _ _ _ =>
  h G0 H0 σ G H _ s (xx.ct s) fun v d G1 H1 g1 o1 hv w => by
    refine w G0 H0 σ G1 H1 _ (s.on g1 o1) ((xx.ct s).on g1 o1) fun vs ds G2 H2 g2 o2 hs ⟨p, mm⟩ => ?_
    rw [List.append_nil]
    have s2 := (s.on g1 o1).on g2 o2
    refine ⟨B, G2, ds, o2, hs, p, fun a ws es G3 H3 g3 o3 nb fr ga ha hd pe => ?_⟩
    have s3 := s2.on g3 o3
    have fr0 : ∀ o, nt o → H0 a ≠ some o := fun o ht e => fr o ht (s2.go.k a o nb ht e)
    have s4 := s3.setVal i (hv.mono (g2.s.trans g3.s))
    refine ⟨_, _, rfl, n _ _ G3 H3 ((g1.s.trans g2.s).trans g3.s) (s4.tookOwn j nb fr0 ga ha hd fun l fs b e1 e2 eb => ?_) (mm es pe)⟩
    rw [List.getElem?_set] at e1 e2
    by_cases il : i = l
    · rw [if_pos il] at e1; split at e1 <;> cases e1
    · rw [if_neg il] at e1 e2
      obtain ⟨b', us, f1, f2, f3, f4, f5, f6⟩ := s2.own l fs e1
      rw [e2] at f1
      cases f1
      exact fr _ nt_lst (eb ▸ f5)
/-- x[lo:hi], x a list of one's own -/
theorem we_slO {i : Nat} {ds : List D} {tl th : TO} (h : δ[i]? = some (.own ds)) (w : WOx K B X tl δ fun lo => WOx K B X th δ fun hi => P (.lst (cutD ds lo hi))) : WEx K B X (tSl (rSlL K) (tVar i) tl th) δ P := fun G0 H0 σ G H Q s xx q => by
  obtain ⟨a, vs, e1, nb, e0, eg, e2, e3⟩ := s.own i ds h
  refine ⟨_, e1, w G0 H0 σ G H _ s xx fun lo G2 H2 g2 o2 w2 => w2 G0 H0 σ G2 H2 _ (s.on g2 o2) (xx.on g2 o2) fun hi G3 H3 g3 o3 p => ?_⟩
  have g := g2.trans o2 g3
  refine ⟨a, vs, rfl, SqL.of (g.k a _ nb nt_lst e2), fun p' hp' => ?_⟩
  exact (q.on g o3).new o3 nt_lst hp' (.lst upd_same ((cutV_dd (e3.mono g.s)).mono (same_upd (o3.fresh hp')))) p
end
end Dl
/-! Ws: methods called by keywords, methods with defaults. -/
namespace Dl
open PySem PySem.Spec PyProof.Rows L2
/-- o.m(k = v, ..): the receiver, then the keywords' values by gV -/
def tMethK (C : Addr) (m : Str) (n : Nat) (sp : Sp) (gV : List V → List V → List V) (E : XK) (ta : TE) (tk : TA) : TE := fun σ H Q => ta σ H fun x H1 => ∃ a dx fs, x = .ref a ∧ H1 a = some (.ins C dx fs) ∧ fs.lookup m = none ∧ tk σ H1 fun zs H2 => zs.length = n ∧ sp (gV [x] zs) H2 Q E
section
variable {X : Cx} {CX : CXT} {k : Nat} {f C : Addr} {fd : FuncData} {ps ks : List Str} {sp : Sp} {E : XK} {m : Str} {pos apos : Pos} {o : Expr} {kws : List Keyword} {ta : TE} {tk : TA} {g : List Value → List Value → List Value} {gV : List V → List V → List V}
theorem pe_methK0 {pl : Sem Bool} (he : PE X o ta) (c : Cls X.K C) (hm : Meth X.K C m f) (F : FnOk X.prog X.w X.K X.mg X.base CX k f fd ps sp) (hr : Room k X.A) (hb : KBn X.K fd ps 1 ks g gV) (hx : Passes CX X E) (hkw : PK X kws tk)
    (hall : (backToKw pos (keywordEach kws X.env)).all (·.1.isSome) = true := by rfl) (hks : (backToKw pos (keywordEach kws X.env)).filterMap (·.1) = ks := by rfl)
    (hpl : ((backTo pos (starEach [] X.env)).any (·.1) || (backToKw pos (keywordEach kws X.env)).any (·.1.isNone)) = false := by rfl)
    (ht : eval (.Call (.Attribute o m apos) [] kws pos) X.env = (do
      let ov ← eval o X.env
      standAt apos.atName
      let (f, first) ← holding [ov] (getMethod ov m pl)
      callWith pos f first (backTo pos (starEach [] X.env)) (backToKw pos (keywordEach kws X.env))) := by rfl) :
    PE X (.Call (.Attribute o m apos) [] kws pos) (tMethK C m ks.length sp gV E ta tk) := by
  refine ⟨fun pins s σ H Q I h => ?_⟩
  refine PySem.W.methodCall_KW (pl := pl) (thn (he.run pins s σ H _ I h) fun u s1 ⟨x, H1, I1, rx, a, dx, fs, ex, ea, l, q⟩ => ?_) ht
  subst ex
  obtain rfl : u = Value.ref a := rx
  refine getmeth_ok I1 ea c hm l ?_
  refine PySem.W.callWith_KW0 (first := [.ref a]) (h₀ := X.base) I.ok.mod.kin hm.kp hall ?_ hpl
  refine thn (hkw.run pos pins s1 σ H1 _ I1 q) fun ws s2 ⟨zs, H2, I2, rz, l2, q2⟩ => ⟨I2.kIn, ?_⟩
  rw [hks]
  exact run_fnN (us := [.ref a]) (vs := [.ref a]) F hr hb hx I2 (.cons rfl .nil) rz rfl l2 q2
end
section
variable {K : PySem.W.Frag} {B : Bt} {δ : List Sd} {P : D → Prop} {X : Xc} {te : TE} {tk : TA} {C : Addr} {m : Str}
/-- .. the values in the other order than the parameters -/
theorem we_methK {n : Nat} {pre : List D → Prop} {post : List D → D → Prop} {E : XK} (h : WEx K B X te δ fun d => ∃ ks ds, d = .obj C ks ds ∧ (ks.zip ds).lookup m = none ∧ WAx K B X tk δ fun as => as.length = n ∧ pre (d :: as.reverse) ∧ ∀ r, post (d :: as.reverse) r → P r) : WEx K B X (tMethK C m n (SpD K pre post) (fun us ws => us ++ ws.reverse) E te tk) δ P := fun G0 H0 σ G H Q s xx q =>
  h G0 H0 σ G H _ s xx fun v d G1 H1 g1 o1 hv ⟨ks, ds, e, l, w⟩ => by
    subst e
    cases hv with
    | obj h1 t =>
      refine ⟨_, _, _, rfl, o1.u _ _ h1, lookup_nod (by rw [← t.length, List.length_map]) l, w G0 H0 σ G1 H1 _ (s.on g1 o1) (xx.on g1 o1) fun vs as G2 H2 g2 o2 hs ⟨ln, p, mm⟩ => ?_⟩
      exact ⟨hs.length.trans ln, B, G2, _, o2, .cons (.obj (g2.s _ _ h1) (t.mono g2.s)) hs.rev, p, fun v' d' G3 H3 g3 o3 hd pd => ((q.on g1 o1).on g2 o2) v' d' G3 H3 g3 o3 hd (mm d' pd)⟩
end
section
variable {P : Program} {w : World} {K : PySem.W.Frag} {mg : Str → Option Value} {base : Heap}
/-- how keywords are bound: any def without defaults -/
theorem kb_any {x q : Str} {st : Stmt} {f : Addr} {fd : FuncData} {ps ks : List Str} {n : Nat} (F : Fun K x q st f fd)
    (hk : ∀ (kV doc pm : Value) (an : Option Addr) (cdv ct : Value) (us ws : List Value), us.length = n → ws.length = ks.length → bindArgs (PySem.W.fnOf x q (defArgs st) (defBody st) (defScope st) .none kV doc pm an cdv ct) ⟨us, ks.zip ws⟩ = pure (ps.zip (us ++ ws.reverse))) :
    KBn K fd ps n ks (fun us ws => us ++ ws.reverse) (fun us ws => us ++ ws.reverse) := by
  obtain ⟨oc, od, kV, doc, pm, an, cdv, ct, osl, rfl, lk, hcd⟩ := F.ex
  exact ⟨fun s us ws _ l1 l2 => .of_eq (hk kV doc pm an cdv ct us ws l1 l2), fun r1 r2 => r1.append r2.reverse⟩
/-- a method with defaults, all of its values given -/
theorem clmd_of {x q : Str} {st : Stmt} {f : Addr} {fd : FuncData} {N ps : List Str} {dvs : List V} {k : Nat} {pre : List D → Prop} {post : List D → D → Prop} (F : FunD K x q (defArgs st) (defBody st) (defScope st) dvs [] f fd) (S : FnScope N ps (defScope st)) (hd : dvs ≠ [])
    (hb : ∀ (T : Addr) (kV doc pm : Value) (an : Option Addr) (cdv ct : Value) (us its : List Value), us.length = ps.length → its.length = dvs.length →
      ∃ k, bindArgs (PySem.W.fnOf x q (defArgs st) (defBody st) (defScope st) (.ref T) kV doc pm an cdv ct) ⟨us, []⟩ = seqItems? (.ref T) >>= k ∧ k (some its.toArray) = pure (ps.zip us))
    (hl : ∀ ds, pre ds → ds.length = ps.length)
    (h : ∀ (cdv : Value) (A : Around) (outer : List Env) (s : Shared) (H : Hp) (E : XK), Room k (A.deeper (envOfC q (defScope st) s.heap.objs.size f cdv)) →
      ∃ t, PSs (cxOf CX0 P w K mg base N q (defScope st) f cdv A outer s H E).nox (defBody st) t ∧ ∀ B ds, pre ds → WS K B t (init N ds) { nx := fun _ => post ds .non, rt := post ds }) : ClM P w K mg base (k + 1) f fd ps (SpD K pre post) := by
  refine ⟨F.ok S (fun vs H Q E hsp => ?_) (fun cdv A outer s H vs Q E hr hsp => ?_), ?_⟩
  · obtain ⟨B, G, ds, o, hs, p, q⟩ := hsp
    exact hs.length.trans (hl ds p)
  · obtain ⟨B, G, ds, o, hs, p, q⟩ := hsp
    obtain ⟨t, ht, ww⟩ := h cdv A outer s H E hr
    exact ⟨t, PSs.nox ht, ww B ds p G H _ G H _ (stt_start o hs) xs0 (fun σ1 δ1 G1 H1 _ s1 z => q .non .non G1 H1 s1.go s1.ok .non z) ⟨fun v d G1 H1 g o1 hd z => q v d G1 H1 g o1 hd z, fun _ _ _ _ _ _ _ _ _ _ _ _ z => z.elim⟩ (fun _ _ _ _ _ _ z => z.elim) (fun _ _ _ _ _ _ z => z.elim)⟩
  · obtain ⟨oc, od, dV, kV, doc, pm, an, cdv, ct, osl, rfl, lk, hcd, hD, hK⟩ := F.ex
    rcases hD with ⟨e, _⟩ | ⟨_, T, o, its, m, rfl, lT, oT, rT⟩
    · exact absurd e hd
    · intro s us X hlen
      rw [List.append_nil] at hlen ⊢
      obtain ⟨k, e1, e2⟩ := hb T kV doc pm an cdv ct us its hlen rT.length.symm
      refine BindsTo.of_looks fun M => ?_
      rw [e1]
      exact looks_items X lT oT (.of_pure e2)
end
end Dl
/-! Wt: cuts; comprehensions by a map. -/
namespace Dl
open PySem PySem.Spec PyProof.Rows L2
section
variable {K : PySem.W.Frag} {B : Bt} {δ : List Sd} {P : D → Prop} {X : Xc} {t : TS} {O : Out}
/-- a statement by what it leaves -/
theorem ws_nx {I J : List Sd → Prop} (h : WS K B t δ { O with nx := I }) (m : ∀ δ1, I δ1 → J δ1) : WS K B t δ { O with nx := J } := fun G0 H0 σ G H E s xx n r b c => h G0 H0 σ G H E s xx (fun σ1 δ1 G1 H1 sm s1 z => n σ1 δ1 G1 H1 sm s1 (m δ1 z)) r b c
/-- [e for a in its], its = xs by f, each e = g a -/
theorem we_lcA {α : Type} {xs : List α} {wi : TI} {i : Nat} {te : TE} (f g : α → D) (hl : xs.length ≤ 1000) (h : WIx K B X wi δ fun its => its = xs.map f) (hw : ∀ a ∈ xs, WE K B te (δ.set i (.val (f a))) fun y => y = g a) (hp : P (.lst (xs.map g))) : WEx K B X (tLc wi (gName i) tYes te [i]) δ P :=
  we_lc (h.mono fun its e => by
    subst e
    refine ⟨by rw [List.length_map]; exact hl, fun n acc => acc = (xs.take n).map g, rfl, fun n d acc hd hacc => wt_yes ?_, fun acc hacc => ?_⟩
    · have hacc' : acc = (xs.take n).map g := hacc
      rw [List.getElem?_map] at hd
      obtain ⟨x, hx, rfl⟩ : ∃ x, xs[n]? = some x ∧ f x = d := by
        cases e : xs[n]? with
        | none => rw [e] at hd; cases hd
        | some q => rw [e] at hd; exact ⟨q, rfl, Option.some.inj hd⟩
      rw [if_pos rfl]
      refine (hw x (List.mem_of_getElem? hx)).mono fun y ey => ?_
      show acc ++ [y] = (xs.take (n + 1)).map g
      rw [ey, hacc', List.take_add_one, hx, List.map_append]
      rfl
    · have hacc' : acc = (xs.take (xs.map f).length).map g := hacc
      rw [List.length_map, List.take_length] at hacc'
      rw [hacc']
      exact hp)
/-- .. the items told by the iterator's own promise -/
theorem we_lcB {α : Type} {wi : TI} {i : Nat} {te : TE} (f : α → D) (h : WIx K B X wi δ fun its => ∃ (xs : List α) (g : α → D), its = xs.map f ∧ xs.length ≤ 1000 ∧ (∀ a ∈ xs, WE K B te (δ.set i (.val (f a))) fun y => y = g a) ∧ P (.lst (xs.map g))) : WEx K B X (tLc wi (gName i) tYes te [i]) δ P :=
  we_lc (h.mono fun its ⟨xs, g, e, hl, hw, hp⟩ => by
    subst e
    refine ⟨by rw [List.length_map]; exact hl, fun n acc => acc = (xs.take n).map g, rfl, fun n d acc hd hacc => wt_yes ?_, fun acc hacc => ?_⟩
    · have hacc' : acc = (xs.take n).map g := hacc
      rw [List.getElem?_map] at hd
      obtain ⟨x, hx, rfl⟩ : ∃ x, xs[n]? = some x ∧ f x = d := by
        cases e : xs[n]? with
        | none => rw [e] at hd; cases hd
        | some q => rw [e] at hd; exact ⟨q, rfl, Option.some.inj hd⟩
      rw [if_pos rfl]
      refine (hw x (List.mem_of_getElem? hx)).mono fun y ey => ?_
      show acc ++ [y] = (xs.take (n + 1)).map g
      rw [ey, hacc', List.take_add_one, hx, List.map_append]
      rfl
    · have hacc' : acc = (xs.take (xs.map f).length).map g := hacc
      rw [List.length_map, List.take_length] at hacc'
      rw [hacc']
      exact hp)
end
end Dl
/-! Wu: three targets. -/
namespace Dl
open PySem PySem.Spec PyProof.Rows L2
section
variable {K : PySem.W.Frag} {B : Bt} {δ : List Sd} {te : TE} {O : Out}
theorem ws_unt3 {i j l : Nat} (h : WEx K B O.x te δ fun d => ∃ a b c, d = .tup [a, b, c] ∧ O.nx (((δ.set i (.val a)).set j (.val b)).set l (.val c))) : WS K B (tAsg te (gTup K 3 (gCons (gName i) (gCons (gName j) (gCons (gName l) gNil))))) δ O := fun G0 H0 σ G H E s xx n _ _ _ =>
  h G0 H0 σ G H _ s (xx.ct s) fun v d G1 H1 g o hd ⟨a, b, c, ed, p⟩ => by
    subst ed
    cases hd with
    | tup hg t =>
      cases t with
      | cons h1 t =>
        cases t with
        | cons h2 t =>
          cases t with
          | cons h3 t =>
            cases t
            exact ⟨_, _, rfl, SqT.ofZ (o.u _ _ hg.1), rfl, _, _, rfl, _, _, rfl, _, _, rfl, rfl, n _ _ G1 H1 g.s ((((s.on g o).setVal i h1).setVal j h2).setVal l h3) p⟩
end
end Dl
/-! Wy: a def's own lists: two made at once, one that is only read from here on. -/
namespace Dl
open PySem PySem.Spec PyProof.Rows L2
section
variable {K : PySem.W.Frag} {B : Bt} {δ : List Sd} {O : Out}
/-- from here on the list is only read -/
theorem ws_frzO {i : Nat} {ds : List D} {t : TS} (h : δ[i]? = some (.own ds)) (w : WS K B t (δ.set i (.val (.lst ds))) O) : WS K B t δ O := fun G0 H0 σ G H E s xx n r b c => by
  obtain ⟨a, vs, e1, nb, e0, eg, e2, e3⟩ := s.own i ds h
  have sf : Same G (upd G a (.lst vs)) := same_upd eg
  exact w G0 H0 σ _ H E (s.frz h e1 nb e0 eg e2 e3) (fun σ1 δ1 G1 H1 m => xx σ1 δ1 G1 H1 (sf.trans m)) (fun σ1 δ1 G1 H1 m => n σ1 δ1 G1 H1 (sf.trans m)) r (fun σ1 δ1 G1 H1 m => b σ1 δ1 G1 H1 (sf.trans m)) fun σ1 δ1 G1 H1 m => c σ1 δ1 G1 H1 (sf.trans m)
/-- x, y = [..], [..] -/
theorem ws_parOO {i j : Nat} {ta tb : TA} (h : WAx K B O.x ta δ fun ds => ds.length ≤ 1000 ∧ WAx K B O.x tb δ fun es => es.length ≤ 1000 ∧ O.nx ((δ.set i (.own ds)).set j (.own es))) : WS K B (tPar i j (tCons (tLst ta) (tCons (tLst tb) tNil))) δ O := fun G0 H0 σ G H E s xx n _ _ _ =>
  h G0 H0 σ G H _ s (xx.ct s) fun vs ds G1 H1 g1 o1 hs ⟨l1, w⟩ => ⟨by rw [hs.length]; exact sz1000 l1, fun p hp => by
    have s1 := s.on g1 o1
    have nb := o1.neB hp
    have gp : G1 p = none := o1.fresh hp
    have lg : Go B G1 H1 G1 (upd H1 p (.lst vs)) := loose_go o1 hp
    have lo : Ok B G1 (upd H1 p (.lst vs)) := loose_ok o1 hp
    have s2 := s1.on lg lo
    refine w G0 H0 σ G1 _ _ s2 (((xx.ct s).on g1 o1).on lg lo) fun ws es G2 H2 g2 o2 hs2 ⟨l2, pO⟩ => ⟨by rw [hs2.length]; exact sz1000 l2, fun p2 hp2 => ?_⟩
    have s3 := s2.on g2 o2
    have hp3 : H2 p = some (.lst vs) := g2.k p _ nb nt_lst upd_same
    have gp3 : G2 p = none := g2.n p _ nt_lst upd_same gp
    have fr0 : ∀ o, nt o → H0 p ≠ some o := fun o ht e => by
      have := s1.go.k p o nb ht e
      rw [hp] at this
      cases this
    have s4 := s3.tookOwn i nb fr0 gp3 hp3 (hs.mono g2.s) (fun j' fs b e1 e2 eb => by
      obtain ⟨b', us, f1, _, _, _, f5, _⟩ := s1.own j' fs e1
      rw [e2] at f1
      cases f1
      rw [eb, hp] at f5
      cases f5)
    have h02 : ∀ u, nt u → H0 p2 ≠ some u := fun u ht q => by
      by_cases e : p2 = B.a
      · exact absurd hp2 (e ▸ o2.hb)
      · have := s3.go.k p2 u e ht q
        rw [hp2] at this
        cases this
    exact ⟨_, _, rfl, n _ _ G2 _ ((g1.s.trans lg.s).trans g2.s) (s4.setOwn j hp2 h02 hs2) pO⟩⟩
end
end Dl
/-! Xd: a tuple compared with the empty one, whatever is in it; two own lists made through a tuple (where one of the names is a cell). -/
namespace Dl
open PySem PySem.Spec PyProof.Rows L2
section
variable {X : Cx}
def rT0 (K : PySem.W.Frag) (no : Bool) : R2 := fun x y H Q => ∃ a b xs, x = .ref a ∧ y = .ref b ∧ SqT K H a xs ∧ SqT K H b [] ∧ Q (.bl (no.xor xs.isEmpty)) H
theorem op_eqT0 (hu : X.A.units + 65 < cLine) : OpR X (compareOp .Eq) (rT0 X.K false) := by
  intro pins s σ H x y v u Q I rx ry h
  obtain ⟨a, b, xs, rfl, rfl, ha, hb, q⟩ := h
  cases rx
  cases ry
  obtain ⟨its, rv, pl, _⟩ := I.tuple ha
  obtain ⟨its2, rv2, pl2, _⟩ := I.tuple hb
  cases rv2
  refine SeqAt.RcAt.tuples (e := fun _ => true) pl pl2 (by omega) (fun j h1 h2 => absurd h2 (Nat.not_lt_zero j)) _ _ _ _ ?_
  have e : ((List.range (min its.toArray.size ([] : List Value).toArray.size)).all (fun _ => true) && its.toArray.size == ([] : List Value).toArray.size) = xs.isEmpty := by
    have := rv.length
    cases xs with
    | nil => cases rv; rfl
    | cons c d => cases rv; simp
  rw [e]
  exact ⟨.bl _, H, I, rfl, by rw [Bool.false_xor] at q; exact q⟩
theorem op_neT0 (hu : X.A.units + 65 < cLine) : OpR X (compareOp .NotEq) (rT0 X.K true) := by
  intro pins s σ H x y v u Q I rx ry h
  obtain ⟨a, b, xs, rfl, rfl, ha, hb, q⟩ := h
  cases rx
  cases ry
  obtain ⟨its, rv, pl, _⟩ := I.tuple ha
  obtain ⟨its2, rv2, pl2, _⟩ := I.tuple hb
  cases rv2
  refine SeqAt.RcNeAt.tuples (e := fun _ => true) pl pl2 (by omega) (fun j h1 h2 => absurd h2 (Nat.not_lt_zero j)) _ _ _ _ ?_
  have e : ((List.range (min its.toArray.size ([] : List Value).toArray.size)).all (fun _ => true) && its.toArray.size == ([] : List Value).toArray.size) = xs.isEmpty := by
    have := rv.length
    cases xs with
    | nil => cases rv; rfl
    | cons c d => cases rv; simp
  rw [e]
  exact ⟨.bl _, H, I, rfl, by rw [Bool.true_xor] at q; exact q⟩
end
section
variable {K : PySem.W.Frag} {B : Bt} {δ : List Sd} {O : Out} {P : D → Prop}
theorem ro_T0 {no : Bool} {ds : List D} (p : P (.bl (no.xor ds.isEmpty))) : RO K B (rT0 K no) (.tup ds) (.tup []) P := fun G H x y Q o hx hy q => by
  cases hx with
  | tup hg t =>
    cases hy with
    | tup hg2 t2 =>
      cases t2
      refine ⟨_, _, _, rfl, rfl, SqT.ofZ (o.u _ _ hg.1), SqT.ofZ (o.u _ _ hg2.1), ?_⟩
      have e : ∀ {vs : List V} {ds : List D}, Dds K B G vs ds → vs.isEmpty = ds.isEmpty := fun h => by cases h <;> rfl
      rw [e t]
      exact q.nil o (.bl _) p
/-- x, y = [..], [..] through a tuple -/
theorem ws_tupOO {i j : Nat} {ta tb : TA} (h : WAx K B O.x ta δ fun ds => ds.length ≤ 1000 ∧ WAx K B O.x tb δ fun es => es.length ≤ 1000 ∧ O.nx ((δ.set i (.own ds)).set j (.own es))) : WS K B (tAsg (zTup (tCons (tLst ta) (tCons (tLst tb) tNil))) (gTup K 2 (gCons (gName i) (gCons (gName j) gNil)))) δ O := fun G0 H0 σ G H E s xx n _ _ _ =>
  h G0 H0 σ G H _ s (xx.ct s) fun vs ds G1 H1 g1 o1 hs ⟨l1, w⟩ => ⟨by rw [hs.length]; exact sz1000 l1, fun p hp => by
    have s1 := s.on g1 o1
    have nb := o1.neB hp
    have gp : G1 p = none := o1.fresh hp
    have lg : Go B G1 H1 G1 (upd H1 p (.lst vs)) := loose_go o1 hp
    have lo : Ok B G1 (upd H1 p (.lst vs)) := loose_ok o1 hp
    have s2 := s1.on lg lo
    refine w G0 H0 σ G1 _ _ s2 (((xx.ct s).on g1 o1).on lg lo) fun ws es G2 H2 g2 o2 hs2 ⟨l2, pO⟩ => ⟨by rw [hs2.length]; exact sz1000 l2, fun p2 hp2 => ?_⟩
    have s3 := s2.on g2 o2
    have hp3 : H2 p = some (.lst vs) := g2.k p _ nb nt_lst upd_same
    have gp3 : G2 p = none := g2.n p _ nt_lst upd_same gp
    have fr0 : ∀ o, nt o → H0 p ≠ some o := fun o ht e => by
      have := s1.go.k p o nb ht e
      rw [hp] at this
      cases this
    have s4 := s3.tookOwn i nb fr0 gp3 hp3 (hs.mono g2.s) (fun j' fs b e1 e2 eb => by
      obtain ⟨b', us, f1, _, _, _, f5, _⟩ := s1.own j' fs e1
      rw [e2] at f1
      cases f1
      rw [eb, hp] at f5
      cases f5)
    have h02 : ∀ u, nt u → H0 p2 ≠ some u := fun u ht q => by
      by_cases e : p2 = B.a
      · exact absurd hp2 (e ▸ o2.hb)
      · have := s3.go.k p2 u e ht q
        rw [hp2] at this
        cases this
    have s5 := s4.setOwn j hp2 h02 hs2
    refine ⟨by show 2 ≤ sizeLine; decide, fun pt ob hpt hdn => ?_⟩
    have lg3 := loose_go (B := B) (x := .frz ob (.tup [V.ref p, V.ref p2])) s5.ok hpt
    have lo3 := loose_ok (B := B) (x := .frz ob (.tup [V.ref p, V.ref p2])) s5.ok hpt
    have s6 := s5.on lg3 lo3
    exact ⟨_, _, rfl, SqT.ofZ upd_same, rfl, _, _, rfl, _, _, rfl, rfl, n _ _ G2 _ ((g1.s.trans lg.s).trans g2.s) s6 pO⟩⟩
end
end Dl
/-! Xe: ==, !=, in, not in of pure data (none, numbers, texts, tuples and lists of them), decided as equality of the data. -/
namespace Dl
open PySem PySem.Spec PyProof.Rows L2
mutual
def pur : D → Bool
  | .non => true
  | .int _ => true
  | .str z => PySem.PyData.strOk z
  | .tup xs => purs xs
  | .lst xs => purs xs
  | _ => false
def purs : List D → Bool
  | [] => true
  | d :: ds => pur d && purs ds
end
mutual
def dP : D → PyData
  | .int i => .int i
  | .bl b => .bool b
  | .str z => .str z
  | .tup xs => .tuple (dPs xs)
  | .lst xs => .list (dPs xs)
  | _ => .none
def dPs : List D → List PyData
  | [] => []
  | d :: ds => dP d :: dPs ds
end
mutual
def dpt : D → Nat
  | .tup xs => dpts xs + 1
  | .lst xs => dpts xs + 1
  | _ => 0
def dpts : List D → Nat
  | [] => 0
  | d :: ds => max (dpt d) (dpts ds)
end
mutual
theorem eqv_pur : ∀ a b : D, pur a = true → pur b = true → (PyData.eqv (dP a) (dP b) = true ↔ a = b)
  | .non, b, _, h => by cases b <;> first | exact Bool.noConfusion h | simp [dP, PyData.eqv]
  | .int i, b, _, h => by cases b <;> first | exact Bool.noConfusion h | simp [dP, PyData.eqv]
  | .str i, b, _, h => by cases b <;> first | exact Bool.noConfusion h | simp [dP, PyData.eqv]
  | .tup xs, b, g, h => by
    have g' : purs xs = true := by rw [pur] at g; exact g
    cases b with
    | tup ys =>
      have h' : purs ys = true := by rw [pur] at h; exact h
      have := eqv_purs xs ys g' h'
      simp only [dP, PyData.eqv, this, D.tup.injEq]
    | _ => first | exact Bool.noConfusion h | simp [dP, PyData.eqv]
  | .lst xs, b, g, h => by
    have g' : purs xs = true := by rw [pur] at g; exact g
    cases b with
    | lst ys =>
      have h' : purs ys = true := by rw [pur] at h; exact h
      have := eqv_purs xs ys g' h'
      simp only [dP, PyData.eqv, this, D.lst.injEq]
    | _ => first | exact Bool.noConfusion h | simp [dP, PyData.eqv]
  | .bl _, _, g, _ => Bool.noConfusion g
  | .dic _ _, _, g, _ => Bool.noConfusion g
  | .cls _, _, g, _ => Bool.noConfusion g
  | .box, _, g, _ => Bool.noConfusion g
  | .exn _ _ _, _, g, _ => Bool.noConfusion g
  | .obj _ _ _, _, g, _ => Bool.noConfusion g
  | .adr _, _, g, _ => Bool.noConfusion g
theorem eqv_purs : ∀ as bs : List D, purs as = true → purs bs = true → (PyData.eqvAll (dPs as) (dPs bs) = true ↔ as = bs)
  | [], [], _, _ => by simp [dPs, PyData.eqvAll]
  | [], _ :: _, _, _ => by simp [dPs, PyData.eqvAll]
  | _ :: _, [], _, _ => by simp [dPs, PyData.eqvAll]
  | a :: as, b :: bs, g, h => by
    rw [purs, Bool.and_eq_true] at g h
    have h1 := eqv_pur a b g.1 h.1
    have h2 := eqv_purs as bs g.2 h.2
    simp only [dPs, PyData.eqvAll, Bool.and_eq_true, h1, h2, List.cons.injEq]
end
mutual
theorem lay_pur : ∀ d : D, pur d = true → (dP d).canLay0 = true
  | .non, _ => by simp [dP, PyData.canLay0]
  | .int _, _ => by simp [dP, PyData.canLay0]
  | .str z, h => by rw [pur] at h; simpa [dP, PyData.canLay0] using h
  | .tup xs, h => by rw [pur] at h; simpa [dP, PyData.canLay0] using lay_purs xs h
  | .lst xs, h => by rw [pur] at h; simpa [dP, PyData.canLay0] using lay_purs xs h
  | .bl _, g => Bool.noConfusion g
  | .dic _ _, g => Bool.noConfusion g
  | .cls _, g => Bool.noConfusion g
  | .box, g => Bool.noConfusion g
  | .exn _ _ _, g => Bool.noConfusion g
  | .obj _ _ _, g => Bool.noConfusion g
  | .adr _, g => Bool.noConfusion g
theorem lay_purs : ∀ ds : List D, purs ds = true → PyData.canLayAll0 (dPs ds) = true
  | [], _ => by simp [dPs, PyData.canLayAll0]
  | d :: ds, h => by
    rw [purs, Bool.and_eq_true] at h
    simp [dPs, PyData.canLayAll0, lay_pur d h.1, lay_purs ds h.2]
end
mutual
theorem dpt_dP : ∀ d : D, (dP d).depth = dpt d
  | .tup xs => by simp [dP, PyData.depth, dpt, dpts_dP xs]
  | .lst xs => by simp [dP, PyData.depth, dpt, dpts_dP xs]
  | .non => by simp [dP, PyData.depth, dpt]
  | .int _ => by simp [dP, PyData.depth, dpt]
  | .str _ => by simp [dP, PyData.depth, dpt]
  | .bl _ => by simp [dP, PyData.depth, dpt]
  | .dic _ _ => by simp [dP, PyData.depth, dpt]
  | .cls _ => by simp [dP, PyData.depth, dpt]
  | .box => by simp [dP, PyData.depth, dpt]
  | .exn _ _ _ => by simp [dP, PyData.depth, dpt]
  | .obj _ _ _ => by simp [dP, PyData.depth, dpt]
  | .adr _ => by simp [dP, PyData.depth, dpt]
theorem dpts_dP : ∀ ds : List D, PyData.depthAll (dPs ds) = dpts ds
  | [] => by simp [dPs, PyData.depthAll, dpts]
  | d :: ds => by simp [dPs, PyData.depthAll, dpts, dpt_dP d, dpts_dP ds]
end
theorem sh_pur {d : D} (h : pur d = true) (l : dpt d ≤ 60) : SeqAt.shaped (dP d) = true := by
  unfold SeqAt.shaped
  rw [Bool.and_eq_true, decide_eq_true_eq, dpt_dP]
  exact ⟨lay_pur d h, by omega⟩
theorem dPs_map : ∀ ds : List D, dPs ds = ds.map dP
  | [] => rfl
  | d :: ds => by rw [dPs, dPs_map ds]; rfl
theorem purs_all : ∀ ds : List D, purs ds = ds.all pur
  | [] => rfl
  | d :: ds => by rw [purs, purs_all ds]; rfl
theorem purs_map {α : Type} {f : α → D} {xs : List α} (h : ∀ x ∈ xs, pur (f x) = true) : purs (xs.map f) = true := by
  rw [purs_all, List.all_map, List.all_eq_true]
  exact h
theorem dpts_le {n : Nat} : ∀ {ds : List D}, (∀ d ∈ ds, dpt d ≤ n) → dpts ds ≤ n
  | [], _ => Nat.zero_le _
  | d :: ds, h => by
    rw [dpts]
    exact Nat.max_le.mpr ⟨h d List.mem_cons_self, dpts_le fun x hx => h x (List.mem_cons_of_mem _ hx)⟩
theorem dpts_map {α : Type} {n : Nat} {f : α → D} {xs : List α} (h : ∀ x ∈ xs, dpt (f x) ≤ n) : dpts (xs.map f) ≤ n := dpts_le fun d hd => by
  obtain ⟨x, hx, rfl⟩ := List.mem_map.mp hd
  exact h x hx
section
variable {K : PySem.W.Frag} {B : Bt} {G H : Hp} {P : D → Prop}
mutual
theorem dd_dp (o : Ok B G H) : ∀ (d : D) (v : V), pur d = true → Dd K B G v d → Dp K H v (dP d)
  | .non, _, _, h => by cases h; exact .non
  | .int i, _, _, h => by cases h; exact .int i
  | .str z, _, _, h => by cases h; exact .str z
  | .tup xs, _, g, h => by
    rw [pur] at g
    cases h with
    | tup hg t => rw [dP]; exact .tup (SqT.ofZ (o.u _ _ hg.1)) (dds_dp o xs _ g t)
  | .lst xs, _, g, h => by
    rw [pur] at g
    cases h with
    | lst hg t => rw [dP]; exact .lst (SqL.of (o.u _ _ hg)) (dds_dp o xs _ g t)
  | .bl _, _, g, _ => Bool.noConfusion g
  | .dic _ _, _, g, _ => Bool.noConfusion g
  | .cls _, _, g, _ => Bool.noConfusion g
  | .box, _, g, _ => Bool.noConfusion g
  | .exn _ _ _, _, g, _ => Bool.noConfusion g
  | .obj _ _ _, _, g, _ => Bool.noConfusion g
  | .adr _, _, g, _ => Bool.noConfusion g
theorem dds_dp (o : Ok B G H) : ∀ (ds : List D) (vs : List V), purs ds = true → Dds K B G vs ds → DpAll K H vs (dPs ds)
  | [], _, _, h => by cases h; exact .nil
  | d :: ds, _, g, h => by
    rw [purs, Bool.and_eq_true] at g
    cases h with
    | cons h t => exact .cons (dd_dp o d _ g.1 h) (dds_dp o ds _ g.2 t)
end
theorem ro_eqG {a b : D} (pa : pur a = true) (pb : pur b = true) (la : dpt a ≤ 60) (lb : dpt b ≤ 60) (h : ∀ c : Bool, (c = true ↔ a = b) → P (.bl c)) : RO K B (rEqD K) a b P := fun G H x y _ o hx hy q =>
  ⟨dP a, dP b, dd_dp o a x pa hx, dd_dp o b y pb hy, sh_pur pa la, sh_pur pb lb, q.nil o (.bl _) (h _ (eqv_pur a b pa pb))⟩
theorem ro_neG {a b : D} (pa : pur a = true) (pb : pur b = true) (la : dpt a ≤ 60) (lb : dpt b ≤ 60) (h : ∀ c : Bool, (c = true ↔ a = b) → P (.bl (!c))) : RO K B (rNeD K) a b P := fun G H x y _ o hx hy q =>
  ⟨dP a, dP b, dd_dp o a x pa hx, dd_dp o b y pb hy, sh_pur pa la, sh_pur pb lb, q.nil o (.bl _) (h _ (eqv_pur a b pa pb))⟩
theorem any_pur {d : D} (pd : pur d = true) {ds : List D} (ps : purs ds = true) : ((dPs ds).any fun z => PyData.eqv z (dP d)) = true ↔ d ∈ ds := by
  rw [dPs_map, List.any_map, List.any_eq_true]
  rw [purs_all, List.all_eq_true] at ps
  constructor
  · rintro ⟨z, hz, e⟩
    rw [(eqv_pur d z pd (ps z hz)).mp]
    · exact hz
    · have e' : PyData.eqv (dP z) (dP d) = true := e
      rw [(eqv_pur z d (ps z hz) pd).mp e']
      exact (eqv_pur d d pd pd).mpr rfl
  · intro hz
    exact ⟨d, hz, (eqv_pur d d pd pd).mpr rfl⟩
theorem ro_inG {a : D} {ds : List D} (pa : pur a = true) (pb : purs ds = true) (la : dpt a ≤ 60) (lb : dpts ds ≤ 59) (h : ∀ c : Bool, (c = true ↔ a ∈ ds) → P (.bl c)) : RO K B (rInD K) a (.lst ds) P := fun G H x y _ o hx hy q =>
  ⟨dP a, dPs ds, dd_dp o a x pa hx, by have := dd_dp o (.lst ds) y (by rw [pur]; exact pb) hy; rw [dP] at this; exact this, sh_pur pa la, by have := sh_pur (d := .lst ds) (by rw [pur]; exact pb) (by rw [dpt]; omega); rw [dP] at this; exact this, q.nil o (.bl _) (h _ (any_pur pa pb))⟩
theorem ro_niG {a : D} {ds : List D} (pa : pur a = true) (pb : purs ds = true) (la : dpt a ≤ 60) (lb : dpts ds ≤ 59) (h : ∀ c : Bool, (c = true ↔ a ∈ ds) → P (.bl (!c))) : RO K B (rNotInD K) a (.lst ds) P := fun G H x y _ o hx hy q =>
  ⟨dP a, dPs ds, dd_dp o a x pa hx, by have := dd_dp o (.lst ds) y (by rw [pur]; exact pb) hy; rw [dP] at this; exact this, sh_pur pa la, by have := sh_pur (d := .lst ds) (by rw [pur]; exact pb) (by rw [dpt]; omega); rw [dP] at this; exact this, q.nil o (.bl _) (h _ (any_pur pa pb))⟩
/-- i in ns, i not in ns: numbers -/
theorem inV_ints (i : Int) (ns : List Int) : inV (.int i) (ns.map V.int) = decide (i ∈ ns) := by
  unfold inV
  rw [Bool.eq_iff_iff, decide_eq_true_eq, List.any_map, List.any_eq_true]
  constructor
  · rintro ⟨n, hn, h⟩
    have h' : (n == i) = true := h
    rw [← eq_of_beq h']
    exact hn
  · intro h
    refine ⟨i, h, ?_⟩
    show (i == i) = true
    exact beq_self_eq_true i
theorem flat_ints (ns : List Int) : (ns.map V.int).all flatV = true := by
  rw [List.all_map, List.all_eq_true]
  exact fun _ _ => rfl
theorem ro_niIs {i : Int} {ns : List Int} (h : P (.bl (!decide (i ∈ ns)))) : RO K B (rIn K true) (.int i) (.lst (ns.map D.int)) P := fun G H x y _ o hx hy q => by
  cases hx
  generalize e : D.lst (ns.map D.int) = d at hy
  cases hy with
  | lst hg t =>
    cases e
    have ev := t.ints
    subst ev
    refine ⟨_, _, rfl, .inl (SqL.of (o.u _ _ hg)), rfl, flat_ints ns, ?_⟩
    rw [if_pos rfl, inV_ints]
    exact q.nil o (.bl _) h
  | _ => cases e
theorem ro_inIs {i : Int} {ns : List Int} (h : P (.bl (decide (i ∈ ns)))) : RO K B (rIn K false) (.int i) (.lst (ns.map D.int)) P := fun G H x y _ o hx hy q => by
  cases hx
  generalize e : D.lst (ns.map D.int) = d at hy
  cases hy with
  | lst hg t =>
    cases e
    have ev := t.ints
    subst ev
    refine ⟨_, _, rfl, .inl (SqL.of (o.u _ _ hg)), rfl, flat_ints ns, ?_⟩
    rw [if_neg (by decide), inV_ints]
    exact q.nil o (.bl _) h
  | _ => cases e
end
end Dl
/-! Wv: what may raise: comprehensions, methods; methods' defaults. -/
namespace Dl
open PySem PySem.Spec PyProof.Rows L2
/-- an exception goes on as E takes it, wherever -/
abbrev XE (E : XK) (R : Addr → List Str → List D → Prop) : Xc := { W := fun cls d _ H => E cls d H, ex := fun _ => R }
section
variable {K : PySem.W.Frag} {B : Bt} {δ δ' : List Sd} {P : D → Prop} {E : XK} {R : Addr → List Str → List D → Prop} {tt : TT} {G G1 H H1 : Hp} {σ σ' : L2.St}
theorem xe_mono {te : TE} {Q : D → Prop} (h : WEx K B (XE E R) te δ P) (m : ∀ d, P d → Q d) : WEx K B (XE E R) te δ Q := fun G0 H0 σ G H R s xx q => h G0 H0 σ G H R s xx fun v d G1 H1 g o hd p => q v d G1 H1 g o hd (m d p)
theorem CtX.xe (q : CtX K B (XE E R) σ δ G H) : CtX K B (XE E R) σ' δ' G H := fun C d ks ds G2 H2 g2 o2 hd p => q C d ks ds G2 H2 g2 o2 hd p
theorem we_lcX {wi : TI} {i : Nat} {te : TE} (h : WIx K B (XE E R) wi δ fun its => its.length ≤ 1000 ∧ ∃ I : Nat → List D → Prop, I 0 [] ∧ (∀ k d acc, its[k]? = some d → I k acc → WTx K B (XE E R) tt (δ.set i (.val d)) fun b => if b = true then WEx K B (XE E R) te (δ.set i (.val d)) fun y => I (k + 1) (acc ++ [y]) else I (k + 1) acc) ∧ ∀ acc, I its.length acc → P (.lst acc)) :
    WEx K B (XE E R) (tLc wi (gName i) tt te [i]) δ P := fun G0 H0 σ G H Q s xx q =>
  h G0 H0 σ G H _ s xx fun J its G1 H1 g1 o1 it ⟨hlen, I, i0, turn, last⟩ => by
    intro A hA
    have s1 := s.on g1 o1
    have q1 := q.on g1 o1
    have x1 := xx.on g1 o1
    have nAB := o1.neB hA
    have gA1 : G1 A = none := o1.fresh hA
    have nn : ∀ (a : Addr), H1 a ≠ none → a ≠ A := fun a h e => h (e ▸ hA)
    refine ⟨fun k m H => m = its.length - k ∧ k ≤ its.length ∧ ∃ G vs acc, Go B G1 H1 G H ∧ G A = none ∧ Ok B G H ∧ H A = some (.lst vs) ∧ Dds K B G vs acc ∧ acc.length ≤ k ∧ I k acc,
      ⟨_, rfl, Nat.zero_le _, G1, [], [], loose_go o1 hA, gA1, loose_ok o1 hA, upd_same, .nil, Nat.le_refl _, i0⟩, ?_⟩
    rintro k m H2 ⟨rfl, hk, G2, vs, acc, g2, gA, o2, hV, hD, hL, ik⟩
    obtain ⟨f1, f2, f3⟩ := it G2 H2 k g2.s o2
    have st : Stt K B G0 H0 G2 H2 σ δ := s1.on g2 o2
    have x2 := x1.on g2 o2
    by_cases hlt : k < its.length
    · refine .inr ⟨f1 hlt, fun H' => ∃ G vs acc, Go B G1 H1 G H' ∧ G A = none ∧ Ok B G H' ∧ H' A = some (.lst vs) ∧ Dds K B G vs acc ∧ acc.length ≤ k + 1 ∧ I (k + 1) acc,
        fun H' hN => ⟨its.length - (k + 1), by omega, rfl, hlt, hN⟩, fun x H3 y => ?_⟩
      obtain ⟨d, G3, e1, g3, o3, hd⟩ := f2 x H3 hlt y
      have x3 := x2.on g3 o3
      have s3 : Stt K B G0 H0 G3 H3 ((wipe σ [i]).set i (some x)) (δ.set i (.val d)) := by
        have z := ((st.on g3 o3).wipe1 i).setVal i hd
        rw [List.set_set (l := δ)] at z
        exact z
      have hV3 := g3.k A _ nAB nt_lst hV
      have gA3 := g3.n A _ nt_lst hV gA
      refine ⟨wipe_set, turn k d acc e1 ik G0 H0 _ G3 H3 _ s3 x3.xe fun b G4 H4 g4 o4 w => ?_⟩
      have hV4 := g4.k A _ nAB nt_lst hV3
      have gA4 := g4.n A _ nt_lst hV3 gA3
      have go4 : Go B G1 H1 G4 H4 := (g2.trans o2 g3).trans o3 g4
      have hD4 : Dds K B G4 vs acc := (hD.mono g3.s).mono g4.s
      cases b with
      | false => exact ⟨G4, vs, acc, go4, gA4, o4, hV4, hD4, Nat.le_succ_of_le hL, w⟩
      | true =>
        refine w G0 H0 _ G4 H4 _ (s3.on g4 o4) (x3.on g4 o4).xe fun y e G5 H5 g5 o5 hy w5 => ?_
        have hV5 := g5.k A _ nAB nt_lst hV4
        have gA5 := g5.n A _ nt_lst hV4 gA4
        have go5 : Go B G1 H1 G5 H5 := go4.trans o4 g5
        refine ⟨vs, hV5, Nat.lt_of_le_of_lt (by rw [hD.length]; omega : vs.length ≤ 1000) (by decide), G5, vs ++ [y], acc ++ [e], ?_, gA5, write_ok o5 hV5 gA5 nAB, upd_same, (hD4.mono g5.s).append (.cons hy .nil), by rw [List.length_append, List.length_singleton]; omega, w5⟩
        refine ⟨go5.s, fun a o nb ht h => ?_, go5.n, fun c r h => ?_⟩
        · rw [upd_ne (nn a (by rw [h]; exact fun z => nomatch z))]; exact go5.k a o nb ht h
        · obtain ⟨r', h'⟩ := go5.c c r h
          exact ⟨r', by rw [upd_ne nAB.symm]; exact h'⟩
    · have ek : k = its.length := by omega
      subst ek
      refine .inl ⟨f3 rfl, q1 (.ref A) (.lst acc) (upd G2 A (.lst vs)) H2 ⟨g2.s.trans (same_upd gA), g2.k, fun a o ht h g => ?_, g2.c⟩ (freeze_ok o2 nt_lst nAB gA hV) (.lst upd_same (hD.mono (same_upd gA))) (last acc ik)⟩
      rw [upd_ne (nn a (by rw [h]; exact fun z => nomatch z))]
      exact g2.n a o ht h g
/-- [e for a in its], its = xs by f; e may raise: each value e that comes has Φ a e -/
theorem we_lcAX {α : Type} {xs : List α} {wi : TI} {i : Nat} {te : TE} (f g : α → D) (Φ : α → Prop) (hl : xs.length ≤ 1000) (h : WIx K B (XE E R) wi δ fun its => its = xs.map f) (hw : ∀ a ∈ xs, WEx K B (XE E R) te (δ.set i (.val (f a))) fun y => y = g a ∧ Φ a) (hp : (∀ a ∈ xs, Φ a) → P (.lst (xs.map g))) : WEx K B (XE E R) (tLc wi (gName i) tYes te [i]) δ P :=
  we_lcX (h.mono fun its e => by
    subst e
    refine ⟨by rw [List.length_map]; exact hl, fun n acc => acc = (xs.take n).map g ∧ ∀ a ∈ xs.take n, Φ a, ⟨rfl, fun _ z => nomatch z⟩, fun n d acc hd hacc => wt_yes ?_, fun acc hacc => ?_⟩
    · obtain ⟨hacc', hΦ⟩ := hacc
      rw [List.getElem?_map] at hd
      obtain ⟨x, hx, rfl⟩ : ∃ x, xs[n]? = some x ∧ f x = d := by
        cases e : xs[n]? with
        | none => rw [e] at hd; cases hd
        | some q => rw [e] at hd; exact ⟨q, rfl, Option.some.inj hd⟩
      rw [if_pos rfl]
      refine xe_mono (hw x (List.mem_of_getElem? hx)) fun y ⟨ey, hy⟩ => ⟨?_, ?_⟩
      · rw [ey, hacc', List.take_add_one, hx, List.map_append]
        rfl
      · intro a ha
        rw [List.take_add_one, hx] at ha
        rcases List.mem_append.mp ha with z | z
        · exact hΦ a z
        · have z : a ∈ [x] := z
          rw [List.mem_singleton.mp z]
          exact hy
    · obtain ⟨hacc', hΦ⟩ := hacc
      rw [List.length_map, List.take_length] at hacc' hΦ
      rw [hacc']
      exact hp hΦ)
end
section
variable {P : Program} {w : World} {K : PySem.W.Frag} {mg : Str → Option Value} {base : Heap}
/-- a method that may raise -/
structure ClMz (P : Program) (w : World) (K : PySem.W.Frag) (mg : Str → Option Value) (base : Heap) (k : Nat) (f : Addr) (fd : FuncData) (ps : List Str) (sp : Sp) : Prop where
  ok : FnOk P w K mg base (L2.CX P w) k f fd ps sp
  bn : Binds K fd ps []
theorem clmx_of {x q : Str} {st : Stmt} {f : Addr} {fd : FuncData} {N ps : List Str} {k : Nat} {pre : List D → Prop} {post : List D → D → Prop} {exc : List D → Addr → List Str → List D → Prop} (F : Fun K x q st f fd) (S : FnScope N ps (defScope st))
    (hb : ∀ (kV doc pm : Value) (an : Option Addr) (cdv ct : Value) (us : List Value), us.length = ps.length → bindArgs (PySem.W.fnOf x q (defArgs st) (defBody st) (defScope st) .none kV doc pm an cdv ct) ⟨us, []⟩ = pure (ps.zip us))
    (hl : ∀ ds, pre ds → ds.length = ps.length)
    (h : ∀ (cdv : Value) (A : Around) (outer : List Env) (s : Shared) (H : Hp) (E : XK), Room k (A.deeper (envOfC q (defScope st) s.heap.objs.size f cdv)) →
      ∃ t, PSs (cxOf (L2.CX P w) P w K mg base N q (defScope st) f cdv A outer s H E) (defBody st) t ∧ ∀ B ds, pre ds → WS K B t (init N ds) { nx := fun _ => post ds .non, rt := post ds, x := XE E (exc ds) }) : ClMz P w K mg base (k + 1) f fd ps (SpX K pre post exc) := by
  refine ⟨F.okX S (fun vs H Q E hsp => ?_) (fun cdv A outer s H vs Q E hr hsp => ?_), F.binds hb⟩
  · obtain ⟨B, G, ds, o, hs, p, q, _⟩ := hsp
    exact hs.length.trans (hl ds p)
  · obtain ⟨B, G, ds, o, hs, p, q, qx⟩ := hsp
    obtain ⟨t, ht, ww⟩ := h cdv A outer s H E hr
    refine ⟨t, ht, ww B ds p G H _ G H _ (stt_start o hs) (fun σ1 δ1 G1 H1 m s1 C d ks es hd pe => qx C d ks es G1 H1 s1.go s1.ok hd pe) (fun σ1 δ1 G1 H1 _ s1 z => q .non .non G1 H1 s1.go s1.ok .non z) ⟨fun v d G1 H1 g o1 hd z => q v d G1 H1 g o1 hd z, fun _ _ _ _ _ _ _ _ _ _ _ _ z => z.elim⟩ (fun _ _ _ _ _ _ z => z.elim) (fun _ _ _ _ _ _ z => z.elim)⟩
end
section
variable {K : PySem.W.Frag} {B : Bt} {δ : List Sd} {P : D → Prop} {E : XK} {R : Addr → List Str → List D → Prop} {X : Xc} {te : TE} {ta tk : TA} {C : Addr} {m : Str}
theorem we_methX {pre : List D → Prop} {post : List D → D → Prop} {exc : List D → Addr → List Str → List D → Prop} (h : WEx K B (XE E R) te δ fun d => ∃ ks ds, d = .obj C ks ds ∧ (ks.zip ds).lookup m = none ∧ WAx K B (XE E R) ta δ fun as => pre (d :: as) ∧ (∀ r, post (d :: as) r → P r) ∧ ∀ C ks es, exc (d :: as) C ks es → R C ks es) : WEx K B (XE E R) (tMeth C m (SpX K pre post exc) [] E te ta) δ P := fun G0 H0 σ G H Q s xx q =>
  h G0 H0 σ G H _ s xx fun v d G1 H1 g1 o1 hv ⟨ks, ds, e, l, w⟩ => by
    subst e
    cases hv with
    | obj h1 t =>
      refine ⟨_, _, _, rfl, o1.u _ _ h1, lookup_nod (by rw [← t.length, List.length_map]) l, w G0 H0 σ G1 H1 _ (s.on g1 o1) (xx.on g1 o1) fun vs as G2 H2 g2 o2 hs ⟨p, mm, ex⟩ => ?_⟩
      rw [List.append_nil]
      exact ⟨B, G2, _, o2, .cons (.obj (g2.s _ _ h1) (t.mono g2.s)) hs, p, fun v' d' G3 H3 g3 o3 hd pd => ((q.on g1 o1).on g2 o2) v' d' G3 H3 g3 o3 hd (mm d' pd), fun C' d' ks' es G3 H3 g3 o3 hd pe => ((xx.on g1 o1).on g2 o2) C' d' ks' es G3 H3 g3 o3 hd (ex C' ks' es pe)⟩
theorem we_methKX {n : Nat} {pre : List D → Prop} {post : List D → D → Prop} {exc : List D → Addr → List Str → List D → Prop} (h : WEx K B (XE E R) te δ fun d => ∃ ks ds, d = .obj C ks ds ∧ (ks.zip ds).lookup m = none ∧ WAx K B (XE E R) tk δ fun as => as.length = n ∧ pre (d :: as.reverse) ∧ (∀ r, post (d :: as.reverse) r → P r) ∧ ∀ C ks es, exc (d :: as.reverse) C ks es → R C ks es) : WEx K B (XE E R) (tMethK C m n (SpX K pre post exc) (fun us ws => us ++ ws.reverse) E te tk) δ P := fun G0 H0 σ G H Q s xx q =>
  h G0 H0 σ G H _ s xx fun v d G1 H1 g1 o1 hv ⟨ks, ds, e, l, w⟩ => by
    subst e
    cases hv with
    | obj h1 t =>
      refine ⟨_, _, _, rfl, o1.u _ _ h1, lookup_nod (by rw [← t.length, List.length_map]) l, w G0 H0 σ G1 H1 _ (s.on g1 o1) (xx.on g1 o1) fun vs as G2 H2 g2 o2 hs ⟨ln, p, mm, ex⟩ => ?_⟩
      exact ⟨hs.length.trans ln, B, G2, _, o2, .cons (.obj (g2.s _ _ h1) (t.mono g2.s)) hs.rev, p, fun v' d' G3 H3 g3 o3 hd pd => ((q.on g1 o1).on g2 o2) v' d' G3 H3 g3 o3 hd (mm d' pd), fun C' d' ks' es G3 H3 g3 o3 hd pe => ((xx.on g1 o1).on g2 o2) C' d' ks' es G3 H3 g3 o3 hd (ex C' ks' es pe)⟩
/-- e.m(..), the rest by defaults -/
theorem we_methD {pre : List D → Prop} {post : List D → D → Prop} {dvs : List V} {dd : List D} (hd : ∀ G, Dds K B G dvs dd) (h : WEx K B X te δ fun d => ∃ ks ds, d = .obj C ks ds ∧ (ks.zip ds).lookup m = none ∧ WAx K B X ta δ fun as => pre (d :: (as ++ dd)) ∧ ∀ r, post (d :: (as ++ dd)) r → P r) : WEx K B X (tMeth C m (SpD K pre post) dvs E te ta) δ P := fun G0 H0 σ G H Q s xx q =>
  h G0 H0 σ G H _ s xx fun v d G1 H1 g1 o1 hv ⟨ks, ds, e, l, w⟩ => by
    subst e
    cases hv with
    | obj h1 t =>
      refine ⟨_, _, _, rfl, o1.u _ _ h1, lookup_nod (by rw [← t.length, List.length_map]) l, w G0 H0 σ G1 H1 _ (s.on g1 o1) (xx.on g1 o1) fun vs as G2 H2 g2 o2 hs ⟨p, mm⟩ => ?_⟩
      exact ⟨B, G2, _, o2, .cons (.obj (g2.s _ _ h1) (t.mono g2.s)) (hs.append (hd G2)), p, fun v' d' G3 H3 g3 o3 hd pd => ((q.on g1 o1).on g2 o2) v' d' G3 H3 g3 o3 hd (mm d' pd)⟩
end
section
variable {K : PySem.W.Frag}
/-- how keywords are bound, all parameters given, in a def with defaults -/
theorem kb_dflt {x q : Str} {st : Stmt} {f : Addr} {fd : FuncData} {ps ks : List Str} {dvs : List V} {n : Nat} (F : FunD K x q (defArgs st) (defBody st) (defScope st) dvs [] f fd) (hd : dvs ≠ [])
    (hk : ∀ (T : Addr) (kV doc pm : Value) (an : Option Addr) (cdv ct : Value) (us its ws : List Value), us.length = n → its.length = dvs.length → ws.length = ks.length →
      ∃ k, bindArgs (PySem.W.fnOf x q (defArgs st) (defBody st) (defScope st) (.ref T) kV doc pm an cdv ct) ⟨us, ks.zip ws⟩ = seqItems? (.ref T) >>= k ∧ k (some its.toArray) = pure (ps.zip (us ++ ws.reverse))) :
    KBn K fd ps n ks (fun us ws => us ++ ws.reverse) (fun us ws => us ++ ws.reverse) := by
  obtain ⟨oc, od, dV, kV, doc, pm, an, cdv, ct, osl, rfl, lk, hcd, hD, hK⟩ := F.ex
  rcases hD with ⟨e, _⟩ | ⟨_, T, o, its, m, rfl, lT, oT, rT⟩
  · exact absurd e hd
  · refine ⟨fun s us ws X l1 l2 => ?_, fun r1 r2 => r1.append r2.reverse⟩
    obtain ⟨k, e1, e2⟩ := hk T kV doc pm an cdv ct us its ws l1 rT.length.symm l2
    refine BindsTo.of_looks fun M => ?_
    rw [e1]
    exact looks_items X lT oT (.of_pure e2)
/-- m(..), the last one by its default -/
theorem bd_dflt {x q : Str} {st : Stmt} {f : Addr} {fd : FuncData} {ps : List Str} {dvs : List V} {n : Nat} (F : FunD K x q (defArgs st) (defBody st) (defScope st) dvs [] f fd) (hd : dvs ≠ []) (hn : n + dvs.length = ps.length)
    (h : ∀ (T : Addr) (kV doc pm : Value) (an : Option Addr) (cdv ct : Value) (us its : List Value), us.length = n → its.length = dvs.length →
      ∃ k, bindArgs (PySem.W.fnOf x q (defArgs st) (defBody st) (defScope st) (.ref T) kV doc pm an cdv ct) ⟨us, []⟩ = seqItems? (.ref T) >>= k ∧ k (some its.toArray) = pure (ps.zip (us ++ its))) : ∃ ds, Vals dvs ds ∧ Binds K fd ps ds :=
  F.binds1 n 0 hd hn h
end
section
variable {X : Cx} {W : WX} {k j : Nat} {x : Str} {C : Addr} {mk : List V → List (Str × V)} {p pos pos2 : Pos}
/-- raise C() -/
theorem ps_rz0 (R : Rz X.prog X.w X.K X.mg X.base k x C 0 mk) (tk : Takes X W) (hc : X.calm = true) (hr : Room j X.A) (hk : k + 1 ≤ j) (hg : Gl X x) (hdb : (x == ("__debug__" : Str)) = false := by decide) :
    PS X (.Raise (some (.Call (.Name x p) [] [] pos)) none pos2) (fun _ σ H => tMkO C (spIni C 0 mk) [] tNil σ H fun cls d H' => W cls d σ H') := by
  obtain ⟨fI, fd, ps, T, i, t, F1, b, m⟩ := R.ex
  refine ps_raise hc tk fun pins s σ H Q I h => ?_
  obtain ⟨_, h⟩ := h
  obtain ⟨n1, n2, n3, n4, n5, n6, n7, n8, n9, n10, n11, n12, n13, n14, n15, hC, hbm⟩ := T.cls
  refine wpAny_Call_Name_kw (ld_glob I hg m (PySem.W.callWith_K0 I.kIn T.kC ?_) hdb)
  obtain ⟨hp, g, dr, tk0, os⟩ := s
  have hn : H (hp.objs.size + 1) = none := I.hok.fresh (Nat.le_succ _)
  have kk : ∀ b o, hp.get? b = some o → ((hp.push (PySem.W.kdv_tup [])).push (PySem.HandSPX.excO C hp.objs.size)).get? b = some o := fun _ _ e => Heap.get?_push_of_some _ (Heap.get?_push_of_some _ e)
  have hget : ((hp.push (PySem.W.kdv_tup [])).push (PySem.HandSPX.excO C hp.objs.size)).get? (hp.objs.size + 1) = some (PySem.HandSPX.excO C hp.objs.size) := by heap_get
  have I2 : Inv X pins σ (upd H (hp.objs.size + 1) (exo (hp.objs.size + 1) C none)) ⟨(hp.push (PySem.W.kdv_tup [])).push (PySem.HandSPX.excO C hp.objs.size), g, dr, tk0, os⟩ := I.laid (t' := tk0) kk (Nat.le_succ _) (exo_ok hget)
  have sp := h (hp.objs.size + 1) hn
  have vl : Vals [V.ref (hp.objs.size + 1)] [Value.ref (hp.objs.size + 1)] := .cons rfl .nil
  have bl : BindsTo ⟨(hp.push (PySem.W.kdv_tup [])).push (PySem.HandSPX.excO C hp.objs.size), g, dr, tk0, os⟩ fd ⟨[Value.ref (hp.objs.size + 1)], []⟩ (ps.zip [Value.ref (hp.objs.size + 1)]) := by
    have ll : ([Value.ref (hp.objs.size + 1)] ++ []).length = ps.length := (vl.length.symm.trans (F1.len _ _ _ _ sp))
    exact b _ _ I2.kIn ll
  refine wpAny_call (PySem.HandSPX.call_own F.excBase_ValueError (fun Y => PySem.HandSPX.refsVE_contains Y n5 hbm) (I.kIn _ _ hC) (PySem.W.looks_findIn I.kIn i) (fun self => PySem.W.bind_fn I.kIn self t) (Nat.zero_le _)
    (codeAny_mono (F1.run _ X.stack _ _ ⟨[Value.ref (hp.objs.size + 1)], []⟩ [Value.ref (hp.objs.size + 1)] _ _ (fun _ _ _ => False) ((hr.mono hk).make C [] []) (I2.env0.make C [] []) bl vl sp) fun r s' hq' => ?_))
  cases r with
  | error er => exact False.elim hq'
  | ok fl =>
    cases fl with
    | ret u =>
      obtain ⟨v, H2, os2, bare2, un2, hok2, rv, ev, d, fs, ea, ed, hd1, q2⟩ := hq'
      cases ev
      cases s'
      exact ⟨rv, mk_end (raises_own T.exC T.tyC) I (Nat.le_succ _) kk un2 hok2 os2 bare2 ea ed hd1 q2⟩
    | next => exact hq'.elim
    | brk => exact hq'.elim
    | cont => exact hq'.elim
end
section
variable {P : Program} {w : World} {K : PySem.W.Frag} {mg : Str → Option Value} {base : Heap}
/-- __init__(self): self.code = z -/
theorem rz0 {x q z : Str} {C : Addr} {st : Stmt} {k : Nat} (E : Er K mg x q C st [("code" : Str)]) (S : FnScope [("self" : Str)] [("self" : Str)] (defScope st))
    (hb : ∀ (kV doc pm : Value) (an : Option Addr) (cdv ct : Value) (us : List Value), us.length = 1 → bindArgs (PySem.W.fnOf "__init__" q (defArgs st) (defBody st) (defScope st) .none kV doc pm an cdv ct) ⟨us, []⟩ = pure ([("self" : Str)].zip us))
    {p5 p6 p7 p8 : Pos} {KZ : Nat} (eb : defBody st = [.Assign [.Attribute (.Name "self" p5) "code" p6] (.Constant (.str z) KZ p7) p8])
    (sw2 : ∀ (f0 : Addr) (cdv : Value) (A : Around) (outer : List Env) (s : Shared) (H : Hp) (E : XK), swapsWith (.Constant (.str z) KZ p7) (some (.Attribute (.Name "self" p5) "code" p6)) p8.line (cxOf L2.CX0 P w K mg base [("self" : Str)] q (defScope st) f0 cdv A outer s H E).nox.env = pure false) :
    Rz P w K mg base (k + 1) x C 0 (fun _ => [("code", .str z)]) := by
  obtain ⟨fI, fd, F, i, t⟩ := E.i
  refine ⟨fI, fd, [("self" : Str)], E.o, i, t, F.ok S (fun vs H Q E' h => ?_) (fun cdv A outer s H vs Q E' hr h => ?_), F.binds hb, E.g⟩
  · obtain ⟨a, ws, rfl, l, _⟩ := h
    rw [List.length_cons, l]; rfl
  · obtain ⟨a, ws, rfl, l, hA, hq⟩ := h
    obtain rfl := List.length_eq_zero_iff.mp l
    rw [eb]
    have vs0 : Vis (defScope st) "self" := (S.par "self" (by simp)).elim .inl (fun h => .inr (.inl h))
    refine ⟨_, pss_one (ps_ost (pe_var (i := 0) rfl vs0) pe_str (sw2 _ _ _ _ _ _ _)), ?_⟩
    refine ⟨.ref a, rfl, a, C, rfl, E.o, E.n "code" (by simp), .inl ⟨hA, fun dx nd ne => ?_⟩⟩
    exact hq dx nd ne
end
end Dl
/-! Xc: an instance whose __init__ may raise. -/
namespace Dl
open PySem PySem.Spec PyProof.Rows L2
def SpIX (K : PySem.W.Frag) (C : Addr) (pre : List D → Prop) (post : List D → D → Prop) (exc : List D → Addr → List Str → List D → Prop) : Sp := fun vs H Q E => ∃ (B : Bt) (G H1 : Hp) (x dx : Addr) (ws : List V) (ds : List D), vs = .ref x :: ws ∧ H1 x = none ∧ H1 dx = none ∧ dx ≠ x ∧ H = upd (upd H1 dx (.own x)) x (.ins C dx []) ∧ Ok B G H1 ∧ Dds K B G ws ds ∧ pre ds ∧
  (∀ d G2 H2, Go B G H1 G2 H2 → Ok B G2 H2 → Dd K B G2 (.ref x) d → post ds d → Q .non H2) ∧ ∀ C' d ks es G2 H2, Go B G H1 G2 H2 → Ok B G2 H2 → Xd K B G2 d ks es → exc ds C' ks es → E (.ref C') (some d) H2
section
variable {P : Program} {w : World} {K : PySem.W.Frag} {mg : Str → Option Value} {base : Heap}
theorem clmix_of {x q : Str} {st : Stmt} {f C : Addr} {fd : FuncData} {N ps : List Str} {k : Nat} {pre : List D → Prop} {post : List D → D → Prop} {exc : List D → Addr → List Str → List D → Prop} (F : Fun K x q st f fd) (S : FnScope N ps (defScope st))
    (hb : ∀ (kV doc pm : Value) (an : Option Addr) (cdv ct : Value) (us : List Value), us.length = ps.length → bindArgs (PySem.W.fnOf x q (defArgs st) (defBody st) (defScope st) .none kV doc pm an cdv ct) ⟨us, []⟩ = pure (ps.zip us))
    (hl : ∀ ds, pre ds → ds.length + 1 = ps.length)
    (h : ∀ (cdv : Value) (A : Around) (outer : List Env) (s : Shared) (H : Hp) (E : XK), Room k (A.deeper (envOfC q (defScope st) s.heap.objs.size f cdv)) →
      ∃ t, PSs (cxOf (L2.CX P w) P w K mg base N q (defScope st) f cdv A outer s H E) (defBody st) t ∧ ∀ B ds, pre ds → ∀ (G H1 H : Hp) (x dx : Addr) (σ : L2.St) (Q : VK), Fil K B C x dx G H1 G H [] [] → Stt K B G H G H σ (init N (.adr x :: ds)) →
        (∀ d G2 H2, Go B G H1 G2 H2 → Ok B G2 H2 → Dd K B G2 (.ref x) d → post ds d → Q .non H2) → (∀ C' d ks es G2 H2, Go B G H1 G2 H2 → Ok B G2 H2 → Xd K B G2 d ks es → exc ds C' ks es → E (.ref C') (some d) H2) → t { nx := fun _ H' => Q .non H', rt := Q } σ H) : ClMz P w K mg base (k + 1) f fd ps (SpIX K C pre post exc) := by
  refine ⟨F.okX S (fun vs H Q E hsp => ?_) (fun cdv A outer s H vs Q E hr hsp => ?_), F.binds hb⟩
  · obtain ⟨B, G, H1, x, dx, ws, ds, rfl, nx, ndx, ne, rfl, o, hs, p, q, _⟩ := hsp
    rw [List.length_cons, hs.length]
    exact hl ds p
  · obtain ⟨B, G, H1, x, dx, ws, ds, rfl, nx, ndx, ne, rfl, o, hs, p, q, qx⟩ := hsp
    obtain ⟨t, ht, ww⟩ := h cdv A outer s _ E hr
    have f := Fil.start (K := K) (C := C) o nx ndx ne
    exact ⟨t, ht, ww B ds p G H1 _ x dx _ Q f (stt_start f.ok (.cons (.adr x) hs)) q qx⟩
end
section
variable {K : PySem.W.Frag} {B : Bt} {δ : List Sd} {P : D → Prop} {E : XK} {R : Addr → List Str → List D → Prop} {ta tk : TA} {C : Addr} {pre : List D → Prop} {post : List D → D → Prop} {exc : List D → Addr → List Str → List D → Prop}
theorem we_makeX (h : WAx K B (XE E R) ta δ fun ds => pre ds ∧ (∀ d, post ds d → P d) ∧ ∀ C ks es, exc ds C ks es → R C ks es) : WEx K B (XE E R) (tMake C (SpIX K C pre post exc) [] E ta) δ P := fun G0 H0 σ G H Q s xx q =>
  h G0 H0 σ G H _ s xx fun vs ds G1 H1 g1 o1 hs ⟨p, mm, ex⟩ x dx nx ndx ne => by
    rw [List.append_nil]
    exact ⟨B, G1, H1, x, dx, vs, ds, rfl, nx, ndx, ne, rfl, o1, hs, p, fun d G2 H2 g o hd pd => ⟨rfl, (q.on g1 o1) (.ref x) d G2 H2 g o hd (mm d pd)⟩, fun C' d' ks' es G3 H3 g3 o3 hd pe => (xx.on g1 o1) C' d' ks' es G3 H3 g3 o3 hd (ex C' ks' es pe)⟩
theorem we_makeKX {m : Nat} (h : WAx K B (XE E R) tk δ fun ds => ds.length = m ∧ pre ds.reverse ∧ (∀ d, post ds.reverse d → P d) ∧ ∀ C ks es, exc ds.reverse C ks es → R C ks es) : WEx K B (XE E R) (tMakeK C 0 m (SpIX K C pre post exc) (fun us ws => us ++ ws.reverse) E tNil tk) δ P := fun G0 H0 σ G H Q s xx q =>
  h G0 H0 σ G H _ s xx fun vs ds G1 H1 g1 o1 hs ⟨l, p, mm, ex⟩ => ⟨rfl, hs.length.trans l, fun x dx nx ndx ne =>
    ⟨B, G1, H1, x, dx, vs.reverse, ds.reverse, rfl, nx, ndx, ne, rfl, o1, hs.rev, p, fun d G2 H2 g o hd pd => ⟨rfl, (q.on g1 o1) (.ref x) d G2 H2 g o hd (mm d pd)⟩, fun C' d' ks' es G3 H3 g3 o3 hd pe => (xx.on g1 o1) C' d' ks' es G3 H3 g3 o3 hd (ex C' ks' es pe)⟩⟩
end
end Dl
/-! Xf: texts compared: min and max of two, of a list, of a tuple; x in a tuple of data; what has no list in it outlives a list that is let go. -/
namespace Dl
open PySem PySem.Spec PyProof.Rows L2
/-! ### data without lists -/
mutual
def noL : D → Bool
  | .lst _ => false
  | .tup xs => noLs xs
  | .dic _ xs => noLs xs
  | .exn _ _ xs => noLs xs
  | .obj _ _ xs => noLs xs
  | _ => true
def noLs : List D → Bool
  | [] => true
  | d :: ds => noL d && noLs ds
end
section
variable {K : PySem.W.Frag} {B : Bt} {G2 G3 : Hp} {a : Addr} {ws : List V}
mutual
theorem dd_noL (ga : G2 a = some (.lst ws)) (off : ∀ x, x ≠ a → G3 x = G2 x) : ∀ (d : D) (v : V), noL d = true → Dd K B G2 v d → Dd K B G3 v d
  | .non, _, _, h => by cases h; exact .non
  | .bl b, _, _, h => by cases h; exact .bl b
  | .int i, _, _, h => by cases h; exact .int i
  | .str z, _, _, h => by cases h; exact .str z
  | .cls n, _, _, h => by cases h; exact .cls n
  | .box, _, _, h => by cases h; exact .box
  | .adr b, _, _, h => by cases h; exact .adr b
  | .lst _, _, g, _ => Bool.noConfusion g
  | .tup xs, _, g, h => by
    rw [noL] at g
    cases h with
    | tup hg t =>
      refine .tup ⟨?_, hg.2⟩ (dds_noL ga off xs _ g t)
      rw [off _ (fun e => by rw [e, ga] at hg; cases hg.1)]
      exact hg.1
  | .dic ks xs, _, g, h => by
    rw [noL] at g
    cases h with
    | dic hg t =>
      refine .dic ?_ (dds_noL ga off xs _ g t)
      rw [off _ (fun e => by rw [e, ga] at hg; cases hg)]
      exact hg
  | .exn C ks xs, _, g, h => by
    rw [noL] at g
    cases h with
    | exn h1 h2 t =>
      rename_i d0 fs0
      refine .exn (d := d0) ?_ ?_ (dds_noL ga off xs _ g t)
      · rw [off _ (fun e => by rw [e, ga] at h1; unfold xo at h1; cases h1)]
        exact h1
      · rw [off _ (fun e => by rw [e, ga] at h2; cases h2)]
        exact h2
  | .obj C ks xs, _, g, h => by
    rw [noL] at g
    cases h with
    | obj hg t =>
      rename_i dx0 fs0
      refine .obj (dx := dx0) ?_ (dds_noL ga off xs _ g t)
      rw [off _ (fun e => by rw [e, ga] at hg; cases hg)]
      exact hg
theorem dds_noL (ga : G2 a = some (.lst ws)) (off : ∀ x, x ≠ a → G3 x = G2 x) : ∀ (ds : List D) (vs : List V), noLs ds = true → Dds K B G2 vs ds → Dds K B G3 vs ds
  | [], _, _, h => by cases h; exact .nil
  | d :: ds, _, g, h => by
    rw [noLs, Bool.and_eq_true] at g
    cases h with
    | cons h t => exact .cons (dd_noL ga off d _ g.1 h) (dds_noL ga off ds _ g.2 t)
end
end
section
variable {K : PySem.W.Frag} {B : Bt} {δ : List Sd} {P : D → Prop} {te : TE} {X : Xc}
/-- an expression that reads an own list and answers by what has no list in it -/
theorem we_frzN {i : Nat} {ds : List D} (h : δ[i]? = some (.own ds)) (w : WE K B te (δ.set i (.val (.lst ds))) fun d => noL d = true ∧ P d) : WEx K B X te δ P := fun G0 H0 σ G H Q s xx q => by
  obtain ⟨a, vs, e1, nb, e0, eg, e2, e3⟩ := s.own i ds h
  refine w G0 H0 σ _ H _ (s.frz h e1 nb e0 eg e2 e3) ctx0 fun v d G2 H2 g2 o2 hd ⟨hf, hP⟩ => ?_
  obtain ⟨G3, off, go3, ok3⟩ := melt_at s.ok nb eg e2 g2 o2
  exact q v d G3 H2 go3 ok3 (dd_noL (g2.s _ _ upd_same) off d v hf hd) hP
end
/-! ### texts -/
def ltS (x y : Str) : Bool := decide (x.cps.toList < y.cps.toList)
def minS (x y : Str) : Str := if ltS y x = true then y else x
def maxS (x y : Str) : Str := if ltS x y = true then y else x
section
variable {prog : Program} {w : World} {A : Around} {E : Value → Shared → Prop} {s : Shared}
def strItem (a b : Str) : Nat → Str | 0 => a | _ => b
theorem cmp_strs {op : CmpOp} {P : Nat → Value → Prop} {f : Nat → Str} (hP : ∀ i v, P i v → ∃ t, v = .str (f i) t) (h : op = .Lt ∨ op = .Gt) :
    CmpOf prog w A op P (fun i j => if op = .Lt then ltS (f i) (f j) else ltS (f j) (f i)) := fun i j vi vj s Q E hi hj q => by
  obtain ⟨t, rfl⟩ := hP i vi hi
  obtain ⟨u, rfl⟩ := hP j vj hj
  rcases h with rfl | rfl
  · have q : Q (.bool (ltS (f i) (f j))) s := q
    exact richCompare_gives (op := .Lt) (typeIs_str s _ t) (typeIs_str s _ u) PySem.F.slot_str_lt PySem.F.entry_str_lt (PySem.F.args_str_lt_2 _ _) (gives_str_lt _ _ t u) (fun x => nomatch x) q
  · have q : Q (.bool (ltS (f j) (f i))) s := q
    exact richCompare_gives (op := .Gt) (typeIs_str s _ t) (typeIs_str s _ u) PySem.F.slot_str_gt PySem.F.entry_str_gt (PySem.F.args_str_gt_2 _ _) (gives_str_gt _ _ t u) (fun x => nomatch x) q
theorem pair_item {a b : Str} {t u : Tok} {i : Nat} {v : Value} (h : (#[Value.str a t, Value.str b u] : Array Value)[i]? = some v) : ∃ t, v = .str (strItem a b i) t := by
  match i, h with
  | 0, h => exact ⟨t, (Option.some.inj (show some (Value.str a t) = some v from h)).symm⟩
  | 1, h => exact ⟨u, (Option.some.inj (show some (Value.str b u) = some v from h)).symm⟩
  | n + 2, h => simp at h
theorem min_two_strs {a b : Str} {t u : Tok} {Q : Value → Shared → Prop} (hh : A.handled = none) (h : ∀ h' tk t', (∀ c o, s.heap.get? c = some o → h'.get? c = some o) → Q (.str (minS a b) t') { s with heap := h', toks := tk }) :
    wpAny (model prog w) A (call (.builtin "min") [.str a t, .str b u]) Q E s := by
  have hT : (s.heap.push { cls := .type "tuple", data := .seq #[.str a t, .str b u] }).IsTuple s.heap.objs.size #[.str a t, .str b u] := ⟨_, Heap.get?_push_size _ rfl, rfl, 0, rfl⟩
  refine call_min_two (wpAny_pyIter_tuple hT ?_)
  have hsz : (s.heap.push { cls := .type "tuple", data := .seq #[.str a t, .str b u] }).objs.size = s.heap.objs.size + 1 := Heap.size_push ..
  have cm := cmp_strs (prog := prog) (w := w) (A := A.in1) (op := .Lt) (P := fun i v => (#[Value.str a t, Value.str b u] : Array Value)[i]? = some v) (f := strItem a b) (fun i v hv => pair_item hv) (.inl rfl)
  refine ⟨_, [_, s.heap.objs.size], [_], _, _, _, _, rfl, Walks.tuple (A := A.in1) hh _ s.heap.objs.size (by rw [hsz]; exact Nat.ne_of_lt (Nat.lt_succ_self _)) #[.str a t, .str b u],
    ⟨⟨_, Heap.get?_push_size _ rfl, rfl, rfl⟩, hT.push _⟩, fun c hc => ?_, by simp, cm, fun v h' tk hP hk => ?_⟩
  · show c < ((s.heap.push _).push _).objs.size
    rw [Heap.size_push, hsz]
    rcases List.mem_cons.mp hc with rfl | hc
    · rw [hsz]; exact Nat.lt_succ_self _
    · rw [List.mem_singleton.mp hc]; exact Nat.lt_succ_of_lt (Nat.lt_succ_self _)
  · have hold : ∀ c o, s.heap.get? c = some o → h'.get? c = some o := fun c o e => by
      refine hk c o (fun hm => ?_) (Heap.get?_push_of_some _ (Heap.get?_push_of_some _ e))
      have e1 := List.mem_singleton.mp hm
      have := Heap.lt_size e
      rw [e1, hsz] at this
      exact Nat.lt_irrefl _ (Nat.lt_of_succ_lt this)
    have e2 : argBest (fun i j => if CmpOp.Lt = CmpOp.Lt then ltS (strItem a b i) (strItem a b j) else ltS (strItem a b j) (strItem a b i)) 1 = if ltS b a = true then 1 else 0 := by
      simp [argBest, strItem]
    have hP' : (#[Value.str a t, Value.str b u] : Array Value)[argBest (fun i j => if CmpOp.Lt = CmpOp.Lt then ltS (strItem a b i) (strItem a b j) else ltS (strItem a b j) (strItem a b i)) 1]? = some v := hP
    rw [e2] at hP'
    unfold minS at h
    by_cases hb : ltS b a = true
    · rw [if_pos hb] at hP'
      have := h h' tk u hold
      rw [if_pos hb] at this
      have ev : Value.str b u = v := by simpa using hP'
      rw [← ev]
      exact this
    · rw [if_neg hb] at hP'
      have := h h' tk t hold
      rw [if_neg hb] at this
      have ev : Value.str a t = v := by simpa using hP'
      rw [← ev]
      exact this
theorem max_two_strs {a b : Str} {t u : Tok} {Q : Value → Shared → Prop} (hh : A.handled = none) (h : ∀ h' tk t', (∀ c o, s.heap.get? c = some o → h'.get? c = some o) → Q (.str (maxS a b) t') { s with heap := h', toks := tk }) :
    wpAny (model prog w) A (call (.builtin "max") [.str a t, .str b u]) Q E s := by
  have hT : (s.heap.push { cls := .type "tuple", data := .seq #[.str a t, .str b u] }).IsTuple s.heap.objs.size #[.str a t, .str b u] := ⟨_, Heap.get?_push_size _ rfl, rfl, 0, rfl⟩
  refine call_max_two (wpAny_pyIter_tuple hT ?_)
  have hsz : (s.heap.push { cls := .type "tuple", data := .seq #[.str a t, .str b u] }).objs.size = s.heap.objs.size + 1 := Heap.size_push ..
  have cm := cmp_strs (prog := prog) (w := w) (A := A.in1) (op := .Gt) (P := fun i v => (#[Value.str a t, Value.str b u] : Array Value)[i]? = some v) (f := strItem a b) (fun i v hv => pair_item hv) (.inr rfl)
  refine ⟨_, [_, s.heap.objs.size], [_], _, _, _, _, rfl, Walks.tuple (A := A.in1) hh _ s.heap.objs.size (by rw [hsz]; exact Nat.ne_of_lt (Nat.lt_succ_self _)) #[.str a t, .str b u],
    ⟨⟨_, Heap.get?_push_size _ rfl, rfl, rfl⟩, hT.push _⟩, fun c hc => ?_, by simp, cm, fun v h' tk hP hk => ?_⟩
  · show c < ((s.heap.push _).push _).objs.size
    rw [Heap.size_push, hsz]
    rcases List.mem_cons.mp hc with rfl | hc
    · rw [hsz]; exact Nat.lt_succ_self _
    · rw [List.mem_singleton.mp hc]; exact Nat.lt_succ_of_lt (Nat.lt_succ_self _)
  · have hold : ∀ c o, s.heap.get? c = some o → h'.get? c = some o := fun c o e => by
      refine hk c o (fun hm => ?_) (Heap.get?_push_of_some _ (Heap.get?_push_of_some _ e))
      have e1 := List.mem_singleton.mp hm
      have := Heap.lt_size e
      rw [e1, hsz] at this
      exact Nat.lt_irrefl _ (Nat.lt_of_succ_lt this)
    have e2 : argBest (fun i j => if CmpOp.Gt = CmpOp.Lt then ltS (strItem a b i) (strItem a b j) else ltS (strItem a b j) (strItem a b i)) 1 = if ltS a b = true then 1 else 0 := by
      simp [argBest, strItem]
    have hP' : (#[Value.str a t, Value.str b u] : Array Value)[argBest (fun i j => if CmpOp.Gt = CmpOp.Lt then ltS (strItem a b i) (strItem a b j) else ltS (strItem a b j) (strItem a b i)) 1]? = some v := hP
    rw [e2] at hP'
    unfold maxS at h
    by_cases hb : ltS a b = true
    · rw [if_pos hb] at hP'
      have := h h' tk u hold
      rw [if_pos hb] at this
      have ev : Value.str b u = v := by simpa using hP'
      rw [← ev]
      exact this
    · rw [if_neg hb] at hP'
      have := h h' tk t hold
      rw [if_neg hb] at this
      have ev : Value.str a t = v := by simpa using hP'
      rw [← ev]
      exact this
end
section
variable {X : Cx}
def rMin2S : List V → Hp → VK → Prop := fun xs H Q => ∃ a b, xs = [.str a, .str b] ∧ Q (.str (minS a b)) H
def rMax2S : List V → Hp → VK → Prop := fun xs H Q => ∃ a b, xs = [.str a, .str b] ∧ Q (.str (maxS a b)) H
theorem call_min2S (hc : X.calm = true) : CallR X (.builtin "min") rMin2S := by
  intro pins s σ H xs us Q I r h
  obtain ⟨a, b, rfl, q⟩ := h
  obtain ⟨u, u2, rfl, ⟨t, rfl⟩, ⟨t', rfl⟩⟩ := vals2 r
  exact min_two_strs (I.ok.hd hc) fun h' tk t2 k => ⟨.str (minS a b), H, I.kept k, ⟨_, rfl⟩, q⟩
theorem call_max2S (hc : X.calm = true) : CallR X (.builtin "max") rMax2S := by
  intro pins s σ H xs us Q I r h
  obtain ⟨a, b, rfl, q⟩ := h
  obtain ⟨u, u2, rfl, ⟨t, rfl⟩, ⟨t', rfl⟩⟩ := vals2 r
  exact max_two_strs (I.ok.hd hc) fun h' tk t2 k => ⟨.str (maxS a b), H, I.kept k, ⟨_, rfl⟩, q⟩
/-- x in a tuple of data -/
def rInT (K : PySem.W.Frag) (no : Bool) : R2 := fun x y H Q => ∃ d ds, Dp K H x d ∧ Dp K H y (.tuple ds) ∧ SeqAt.shaped d = true ∧ SeqAt.shaped (.tuple ds) = true ∧ Q (.bl (no.xor (ds.any fun z => PyData.eqv z d))) H
theorem room_T {A : Around} {d : PyData} {ds : List PyData} (sd : SeqAt.shaped d = true) (hu : A.units + 65 < cLine) : A.units + 1 + min (PyData.depthAll ds) d.depth < cLine := by
  have := SeqAt.depth_of_shaped sd
  have : min (PyData.depthAll ds) d.depth ≤ d.depth := Nat.min_le_right ..
  omega
theorem lay_T {ds : List PyData} (s : SeqAt.shaped (.tuple ds) = true) : PyData.canLayAll0 ds = true := by
  have := SeqAt.canLay_of_shaped s
  rw [PyData.canLay0] at this
  exact this
theorem op_inT (hu : X.A.units + 65 < cLine) : OpR X (compareOp .In) (rInT X.K false) := by
  intro pins s σ H x y v u Q I rx ry h
  obtain ⟨d, ds, hd, he, sd, se, q⟩ := h
  obtain ⟨as, r1⟩ := Dp.reads I d x v hd rx
  obtain ⟨bs, r2⟩ := Dp.reads I (.tuple ds) y u he ry
  refine SeqAt.in_tuple_reads r2 r1 (lay_T se) (SeqAt.canLay_of_shaped sd) (room_T sd hu) ?_
  rw [Bool.false_xor] at q
  exact ⟨.bl _, H, I, rfl, q⟩
theorem op_notInT (hu : X.A.units + 65 < cLine) : OpR X (compareOp .NotIn) (rInT X.K true) := by
  intro pins s σ H x y v u Q I rx ry h
  obtain ⟨d, ds, hd, he, sd, se, q⟩ := h
  obtain ⟨as, r1⟩ := Dp.reads I d x v hd rx
  obtain ⟨bs, r2⟩ := Dp.reads I (.tuple ds) y u he ry
  refine SeqAt.notIn_tuple_reads r2 r1 (lay_T se) (SeqAt.canLay_of_shaped sd) (room_T sd hu) ?_
  rw [Bool.true_xor] at q
  exact ⟨.bl _, H, I, rfl, q⟩
end
section
variable {K : PySem.W.Frag} {B : Bt} {P : D → Prop}
theorem rc_min2S {a b : Str} (p : P (.str (minS a b))) : RC K B rMin2S [.str a, .str b] P := fun G H vs Q o hs q => by
  cases hs with
  | cons h1 t =>
    cases t with
    | cons h2 t =>
      cases t
      cases h1
      cases h2
      exact ⟨a, b, rfl, q.nil o (.str _) p⟩
theorem rc_max2S {a b : Str} (p : P (.str (maxS a b))) : RC K B rMax2S [.str a, .str b] P := fun G H vs Q o hs q => by
  cases hs with
  | cons h1 t =>
    cases t with
    | cons h2 t =>
      cases t
      cases h1
      cases h2
      exact ⟨a, b, rfl, q.nil o (.str _) p⟩
theorem ro_inT {no : Bool} {a : D} {ds : List D} (pa : pur a = true) (pb : purs ds = true) (la : dpt a ≤ 60) (lb : dpts ds ≤ 59) (h : ∀ c : Bool, (c = true ↔ a ∈ ds) → P (.bl (no.xor c))) : RO K B (rInT K no) a (.tup ds) P := fun G H x y _ o hx hy q =>
  ⟨dP a, dPs ds, dd_dp o a x pa hx, by have := dd_dp o (.tup ds) y (by rw [pur]; exact pb) hy; rw [dP] at this; exact this, sh_pur pa la, by have := sh_pur (d := .tup ds) (by rw [pur]; exact pb) (by rw [dpt]; omega); rw [dP] at this; exact this, q.nil o (.bl _) (h _ (any_pur pa pb))⟩
end
end Dl
namespace Dl
open PySem PySem.Spec PyProof.Rows L2
/-! ### the truth of an instance by its __bool__ -/
section
variable {P : Program} {w : World} {A : Around} {E : Value → Shared → Prop} {s : Shared} {K : PySem.W.Frag} {x C f : Addr} {ox : Obj} {od : Option Obj}
theorem truthy_bool {Q : Bool → Shared → Prop} (kin : K.In s.heap) (J : PySem.W.InstAt s.heap x ox C od) (hs : PySem.W.findIn K (.ref C) "__bool__" = some (some (.ref f))) (hf : PySem.W.isFn K (.ref f) = true)
    (h : wpAny (model P w) A (call (.ref f) [.ref x]) (fun v s' => ∃ b, v = .bool b ∧ Q b s') E s) : wpAny (model P w) A (truthy (.ref x)) Q E s := by
  unfold truthy
  refine wpAny_bind (m := callSpecial? (.ref x) (Str.ofString "__bool__")) (PySem.W.special_fn kin J hs (beq_iff_eq.mp hf) (wpAny_mono h (fun r s' ⟨b, e, q⟩ => ?_) fun _ _ y => y))
  subst e
  exact wpAny_pure q
end
section
variable {X : Cx} {n : Nat} {f C : Addr} {fd : FuncData} {ps : List Str} {sp : Sp}
def rOtruth (C : Addr) (sp : Sp) : List V → Hp → VK → Prop := fun xs H Q => ∃ (a dx : Addr) (fs : List (Str × V)), xs = [.ref a] ∧ H a = some (.ins C dx fs) ∧ sp [.ref a] H (fun v H' => ∃ b : Bool, v = .bl b ∧ Q (.bl b) H') (fun _ _ _ => False)
theorem call_otruth (F : FnOk X.prog X.w X.K X.mg X.base L2.CX0 n f fd ps sp) (hb : Binds X.K fd ps []) (hr : Room (n + 2) X.A) (hs : PySem.W.findIn X.K (.ref C) "__bool__" = some (some (.ref f))) (hf : PySem.W.isFn X.K (.ref f) = true) : CallR X (.type "bool") (rOtruth C sp) := by
  intro pins s σ H xs us Q I r h
  obtain ⟨a, dx, fs, rfl, ea, h⟩ := h
  obtain ⟨u, rfl, rx⟩ := vals1 r
  obtain rfl : u = Value.ref a := rx
  obtain ⟨mA, J, _⟩ := ins_get I.hok ea
  obtain ⟨od, J, _⟩ := J.look
  have sb : L2.Sub X (n + 2) X.A := ⟨hr, rfl⟩
  refine callType_newIn PySem.F.called_bool PySem.F.newNe_bool (PySem.F.typeCall_bool_1 _) (PySem.F.newCall_bool_1 _) (fun obj => PySem.F.args_object_init_2 obj _) PySem.F.entry_bool_new (bool_new (b := true)) ?_
  refine truthy_bool I.kIn J hs hf (wpAny_mono (call_below F hb sb.in1.in1 I (.cons (show RelV (V.ref a) (Value.ref a) from rfl) .nil) h) (fun w s' hw => ?_) fun _ _ e => e)
  obtain ⟨z, H', I', rz, b, rfl, q⟩ := hw
  cases rz
  exact ⟨b, rfl, rfl, .bl b, H', I', rfl, q⟩
end
section
variable {K : PySem.W.Frag} {B : Bt} {C : Addr} {ks : List Str} {ds : List D} {pre : List D → Prop} {post : List D → D → Prop} {P : D → Prop}
theorem rc_otruth (p : pre [.obj C ks ds]) (m : ∀ r, post [.obj C ks ds] r → ∃ b : Bool, r = .bl b ∧ P (.bl b)) : RC K B (rOtruth C (SpD K pre post)) [.obj C ks ds] P := fun G H vs Q o hs q => by
  cases hs with
  | cons h t =>
    cases t
    generalize e : D.obj C ks ds = d at h
    cases h with
    | obj hg t =>
      cases e
      refine ⟨_, _, _, rfl, o.u _ _ hg, B, G, _, o, .cons (.obj hg t) .nil, p, fun v d G1 H1 g1 o1 hd pd => ?_⟩
      obtain ⟨b, rfl, pb⟩ := m d pd
      cases hd
      exact ⟨b, rfl, (q.on g1 o1).nil o1 (.bl b) pb⟩
    | _ => cases e
end
end Dl
/-! Xg: an instance whose __init__ may raise and whose last field is a new list: made of a list of the def's own. -/
namespace Dl
open PySem PySem.Spec PyProof.Rows L2
def tApp : List TE → TA → TA
  | [], r => r
  | t :: l, r => tCons t (tApp l r)
theorem tApp_eq : ∀ (l : List TE) (r : TA) (σ : L2.St) (H : Hp) (Q : List V → Hp → Prop), tApp l r σ H Q = tApp l tNil σ H fun vs H1 => r σ H1 fun us H2 => Q (vs ++ us) H2
  | [], r, σ, H, Q => rfl
  | t :: l, r, σ, H, Q => by
    show t σ H _ = t σ H _
    congr 1
    funext v H1
    exact tApp_eq l r σ H1 fun vs H2 => Q (v :: vs) H2
/-- the promise: the last field is a list that is new -/
def SpIJ (K : PySem.W.Frag) (C : Addr) (pre : List D → Prop) (post : List D → D → Prop) (exc : List D → Addr → List Str → List D → Prop) : Sp := fun vs H Q E => ∃ (B : Bt) (G H1 : Hp) (x dx : Addr) (ws : List V) (ds : List D), vs = .ref x :: ws ∧ H1 x = none ∧ H1 dx = none ∧ dx ≠ x ∧ H = upd (upd H1 dx (.own x)) x (.ins C dx []) ∧ Ok B G H1 ∧ Dds K B G ws ds ∧ pre ds ∧
  (∀ d G2 H2 fs n p, Go B G H1 G2 H2 → Ok B G2 H2 → Dd K B G2 (.ref x) d → post ds d → G2 x = some (.ins C dx (fs ++ [(n, .ref p)])) → (∀ a o, nt o → a ≠ B.a → H1 a = some o → p ≠ a) → Q .non H2) ∧ ∀ C' d ks es G2 H2, Go B G H1 G2 H2 → Ok B G2 H2 → Xd K B G2 d ks es → exc ds C' ks es → E (.ref C') (some d) H2
section
variable {P : Program} {w : World} {K : PySem.W.Frag} {mg : Str → Option Value} {base : Heap}
theorem clmij_of {x q : Str} {st : Stmt} {f C : Addr} {fd : FuncData} {N ps : List Str} {k : Nat} {pre : List D → Prop} {post : List D → D → Prop} {exc : List D → Addr → List Str → List D → Prop} (F : Fun K x q st f fd) (S : FnScope N ps (defScope st))
    (hb : ∀ (kV doc pm : Value) (an : Option Addr) (cdv ct : Value) (us : List Value), us.length = ps.length → bindArgs (PySem.W.fnOf x q (defArgs st) (defBody st) (defScope st) .none kV doc pm an cdv ct) ⟨us, []⟩ = pure (ps.zip us))
    (hl : ∀ ds, pre ds → ds.length + 1 = ps.length)
    (h : ∀ (cdv : Value) (A : Around) (outer : List Env) (s : Shared) (H : Hp) (E : XK), Room k (A.deeper (envOfC q (defScope st) s.heap.objs.size f cdv)) →
      ∃ t, PSs (cxOf (L2.CX P w) P w K mg base N q (defScope st) f cdv A outer s H E) (defBody st) t ∧ ∀ B ds, pre ds → ∀ (G H1 H : Hp) (x dx : Addr) (σ : L2.St) (Q : VK), Fil K B C x dx G H1 G H [] [] → Stt K B G H G H σ (init N (.adr x :: ds)) →
        (∀ d G2 H2 fs n p, Go B G H1 G2 H2 → Ok B G2 H2 → Dd K B G2 (.ref x) d → post ds d → G2 x = some (.ins C dx (fs ++ [(n, .ref p)])) → (∀ a o, nt o → a ≠ B.a → H1 a = some o → p ≠ a) → Q .non H2) → (∀ C' d ks es G2 H2, Go B G H1 G2 H2 → Ok B G2 H2 → Xd K B G2 d ks es → exc ds C' ks es → E (.ref C') (some d) H2) → t { nx := fun _ H' => Q .non H', rt := Q } σ H) : ClMz P w K mg base (k + 1) f fd ps (SpIJ K C pre post exc) := by
  refine ⟨F.okX S (fun vs H Q E hsp => ?_) (fun cdv A outer s H vs Q E hr hsp => ?_), F.binds hb⟩
  · obtain ⟨B, G, H1, x, dx, ws, ds, rfl, nx, ndx, ne, rfl, o, hs, p, q, _⟩ := hsp
    rw [List.length_cons, hs.length]
    exact hl ds p
  · obtain ⟨B, G, H1, x, dx, ws, ds, rfl, nx, ndx, ne, rfl, o, hs, p, q, qx⟩ := hsp
    obtain ⟨t, ht, ww⟩ := h cdv A outer s _ E hr
    have f := Fil.start (K := K) (C := C) o nx ndx ne
    exact ⟨t, ht, ww B ds p G H1 _ x dx _ Q f (stt_start f.ok (.cons (.adr x) hs)) q qx⟩
/-- the same with defaults -/
theorem clmijd_of {x q : Str} {st : Stmt} {f C : Addr} {fd : FuncData} {N ps : List Str} {dvs : List V} {k : Nat} {pre : List D → Prop} {post : List D → D → Prop} {exc : List D → Addr → List Str → List D → Prop} (F : FunD K x q (defArgs st) (defBody st) (defScope st) dvs [] f fd) (S : FnScope N ps (defScope st))
    (hl : ∀ ds, pre ds → ds.length + 1 = ps.length)
    (h : ∀ (cdv : Value) (A : Around) (outer : List Env) (s : Shared) (H : Hp) (E : XK), Room k (A.deeper (envOfC q (defScope st) s.heap.objs.size f cdv)) →
      ∃ t, PSs (cxOf (L2.CX P w) P w K mg base N q (defScope st) f cdv A outer s H E) (defBody st) t ∧ ∀ B ds, pre ds → ∀ (G H1 H : Hp) (x dx : Addr) (σ : L2.St) (Q : VK), Fil K B C x dx G H1 G H [] [] → Stt K B G H G H σ (init N (.adr x :: ds)) →
        (∀ d G2 H2 fs n p, Go B G H1 G2 H2 → Ok B G2 H2 → Dd K B G2 (.ref x) d → post ds d → G2 x = some (.ins C dx (fs ++ [(n, .ref p)])) → (∀ a o, nt o → a ≠ B.a → H1 a = some o → p ≠ a) → Q .non H2) → (∀ C' d ks es G2 H2, Go B G H1 G2 H2 → Ok B G2 H2 → Xd K B G2 d ks es → exc ds C' ks es → E (.ref C') (some d) H2) → t { nx := fun _ H' => Q .non H', rt := Q } σ H) : FnOk P w K mg base (L2.CX P w) (k + 1) f fd ps (SpIJ K C pre post exc) := by
  refine F.ok (CX := L2.CX P w) S (fun vs H Q E hsp => ?_) (fun cdv A outer s H vs Q E hr hsp => ?_)
  · obtain ⟨B, G, H1, x, dx, ws, ds, rfl, nx, ndx, ne, rfl, o, hs, p, q, _⟩ := hsp
    rw [List.length_cons, hs.length]
    exact hl ds p
  · obtain ⟨B, G, H1, x, dx, ws, ds, rfl, nx, ndx, ne, rfl, o, hs, p, q, qx⟩ := hsp
    obtain ⟨t, ht, ww⟩ := h cdv A outer s _ E hr
    have f := Fil.start (K := K) (C := C) o nx ndx ne
    exact ⟨t, ht, ww B ds p G H1 _ x dx _ Q f (stt_start f.ok (.cons (.adr x) hs)) q qx⟩
end
section
variable {K : PySem.W.Frag} {B : Bt} {δ : List Sd} {P : D → Prop} {E : XK} {R : Addr → List Str → List D → Prop} {ta tk : TA} {C : Addr} {pre : List D → Prop} {post : List D → D → Prop} {exc : List D → Addr → List Str → List D → Prop}
theorem we_makeJX (h : WAx K B (XE E R) ta δ fun ds => pre ds ∧ (∀ d, post ds d → P d) ∧ ∀ C ks es, exc ds C ks es → R C ks es) : WEx K B (XE E R) (tMake C (SpIJ K C pre post exc) [] E ta) δ P := fun G0 H0 σ G H Q s xx q =>
  h G0 H0 σ G H _ s xx fun vs ds G1 H1 g1 o1 hs ⟨p, mm, ex⟩ x dx nx ndx ne => by
    rw [List.append_nil]
    exact ⟨B, G1, H1, x, dx, vs, ds, rfl, nx, ndx, ne, rfl, o1, hs, p, fun d G2 H2 _ _ _ g o hd pd _ _ => ⟨rfl, (q.on g1 o1) (.ref x) d G2 H2 g o hd (mm d pd)⟩, fun C' d' ks' es' G3 H3 g3 o3 hd pe => (xx.on g1 o1) C' d' ks' es' G3 H3 g3 o3 hd (ex C' ks' es' pe)⟩
theorem we_makeJKX {m : Nat} (h : WAx K B (XE E R) tk δ fun ds => ds.length = m ∧ pre ds.reverse ∧ (∀ d, post ds.reverse d → P d) ∧ ∀ C ks es, exc ds.reverse C ks es → R C ks es) : WEx K B (XE E R) (tMakeK C 0 m (SpIJ K C pre post exc) (fun us ws => us ++ ws.reverse) E tNil tk) δ P := fun G0 H0 σ G H Q s xx q =>
  h G0 H0 σ G H _ s xx fun vs ds G1 H1 g1 o1 hs ⟨l, p, mm, ex⟩ => ⟨rfl, hs.length.trans l, fun x dx nx ndx ne =>
    ⟨B, G1, H1, x, dx, vs.reverse, ds.reverse, rfl, nx, ndx, ne, rfl, o1, hs.rev, p, fun d G2 H2 _ _ _ g o hd pd _ _ => ⟨rfl, (q.on g1 o1) (.ref x) d G2 H2 g o hd (mm d pd)⟩, fun C' d' ks' es' G3 H3 g3 o3 hd pe => (xx.on g1 o1) C' d' ks' es' G3 H3 g3 o3 hd (ex C' ks' es' pe)⟩⟩
/-- the object, whose last field is another list, without the list at a -/
theorem dd_objL {G2 G3 : Hp} {a x dx p : Addr} {ws : List V} {fs : List (Str × V)} {n : Str} {ks : List Str} {ds es : List D} (ga : G2 a = some (.lst ws)) (off : ∀ x, x ≠ a → G3 x = G2 x) (hd : Dd K B G2 (.ref x) (.obj C ks (ds ++ [.lst es]))) (gx : G2 x = some (.ins C dx (fs ++ [(n, .ref p)]))) (pa : p ≠ a) (h1 : noLs ds = true) (h2 : noLs es = true) : Dd K B G3 (.ref x) (.obj C ks (ds ++ [.lst es])) := by
  have xa : x ≠ a := fun e => by rw [e, ga] at gx; cases gx
  generalize e : D.obj C ks (ds ++ [.lst es]) = d at hd
  cases hd with
  | obj hg t =>
    rw [gx] at hg
    have hfs := HO.ins.inj (Option.some.inj hg)
    obtain ⟨rfl, rfl, rfl⟩ := hfs
    obtain ⟨_, rfl, rfl⟩ := D.obj.inj e
    clear e
    refine .obj (by rw [off x xa]; exact gx) ?_
    rw [List.map_append] at t ⊢
    have key : ∀ {us : List V} {cs : List D} {u : V} {c : D}, Dds K B G2 (us ++ [u]) (cs ++ [c]) → Dds K B G2 us cs ∧ Dd K B G2 u c := by
      intro us cs
      induction us generalizing cs with
      | nil =>
        intro u c h
        cases cs with
        | nil => cases h with | cons h t => cases t; exact ⟨.nil, h⟩
        | cons c' cs =>
          cases h with
          | cons h t =>
            have := t.length
            simp at this
      | cons u' us ih =>
        intro u c h
        cases cs with
        | nil =>
          cases h with
          | cons h t =>
            have := t.length
            simp at this
        | cons c' cs =>
          cases h with
          | cons h t =>
            obtain ⟨k1, k2⟩ := ih t
            exact ⟨.cons h k1, k2⟩
    obtain ⟨k1, k2⟩ := key t
    refine Dds.append (dds_noL ga off _ _ h1 k1) (.cons ?_ .nil)
    cases k2 with
    | lst hg2 t2 => exact .lst (by rw [off _ pa]; exact hg2) (dds_noL ga off _ _ h2 t2)
  | _ => cases e
/-- how such an instance is made of an own list: what the body's end tells, with the list let go -/
theorem spij_own {G1 H1 : Hp} {a x dx : Addr} {vs : List V} {ws : List V} {ds : List D} {Q : VK} (o1 : Ok B G1 H1) (nb : a ≠ B.a) (eg : G1 a = none) (e2 : H1 a = some (.lst vs)) (nx : H1 x = none) (ndx : H1 dx = none) (ne : dx ≠ x)
    (hs : Dds K B (upd G1 a (.lst vs)) ws ds) (p : pre ds) (m : ∀ d, post ds d → ∃ ks fs es, d = .obj C ks (fs ++ [.lst es]) ∧ noLs fs = true ∧ noLs es = true ∧ P d) (ex : ∀ C ks es, exc ds C ks es → noLs es = true ∧ R C ks es)
    (xx : ∀ C d ks es G2 H2, Go B G1 H1 G2 H2 → Ok B G2 H2 → Xd K B G2 d ks es → R C ks es → E (.ref C) (some d) H2) (q : Ct K B G1 H1 P Q) : SpIJ K C pre post exc (.ref x :: ws) (upd (upd H1 dx (.own x)) x (.ins C dx [])) (fun v H2 => v = .non ∧ Q (.ref x) H2) E := by
  have sf : Same G1 (upd G1 a (.lst vs)) := same_upd eg
  refine ⟨B, upd G1 a (.lst vs), H1, x, dx, _, _, rfl, nx, ndx, ne, rfl, freeze_ok o1 nt_lst nb eg e2, hs, p, fun d G2 H2 fs n p2 g2 o2 hd pd gx fresh => ⟨rfl, ?_⟩, fun C' d' ks' es' G2 H2 g2 o2 hd pe => ?_⟩
  · obtain ⟨ks, fs', es, rfl, n1, n2, hP⟩ := m d pd
    obtain ⟨G3, off, g3, o3⟩ := melt_at o1 nb eg e2 g2 o2
    have ga : G2 a = some (.lst vs) := g2.s a _ upd_same
    exact q (.ref x) _ G3 H2 g3 o3 (dd_objL ga off hd gx (fresh a _ nt_lst nb e2) n1 n2) hP
  · obtain ⟨hn, hR⟩ := ex C' ks' es' pe
    obtain ⟨G3, off, g3, o3⟩ := melt_at o1 nb eg e2 g2 o2
    have ga : G2 a = some (.lst vs) := g2.s a _ upd_same
    obtain ⟨fs, h1, h2, h3⟩ := hd
    exact xx C' d' ks' es' G3 H2 g3 o3 ⟨fs, by rw [off _ (fun e => by rw [e, ga] at h1; cases h1)]; exact h1, h2, dds_noL ga off _ _ hn h3⟩ hR
theorem we_makeOX {i : Nat} {es : List D} {l : List TE} (hi : δ[i]? = some (.own es)) (h : WAx K B (XE E R) (tApp l tNil) δ fun ns => pre (ns ++ [.lst es]) ∧ (∀ d, post (ns ++ [.lst es]) d → ∃ ks fs es, d = .obj C ks (fs ++ [.lst es]) ∧ noLs fs = true ∧ noLs es = true ∧ P d) ∧ ∀ C ks xs, exc (ns ++ [.lst es]) C ks xs → noLs xs = true ∧ R C ks xs) : WEx K B (XE E R) (tMake C (SpIJ K C pre post exc) [] E (tApp l (tCons (tVar i) tNil))) δ P := fun G0 H0 σ G H Q s xx q => by
  unfold tMake
  rw [tApp_eq]
  refine h G0 H0 σ G H _ s xx fun ws ns G1 H1 g1 o1 hn ⟨p, m, ex⟩ => ?_
  have s1 := s.on g1 o1
  obtain ⟨a, vs, e1, nb, e0, eg, e2, e3⟩ := s1.own i es hi
  refine ⟨_, e1, fun x dx nx ndx ne => ?_⟩
  have sf : Same G1 (upd G1 a (.lst vs)) := same_upd eg
  rw [List.append_nil]
  exact spij_own (R := R) o1 nb eg e2 nx ndx ne (Dds.append (hn.mono sf) (.cons (.lst upd_same (e3.mono sf)) .nil)) p m ex (fun C' d' ks' es' G3 H3 g3 o3 hd hR => (xx.on g1 o1) C' d' ks' es' G3 H3 g3 o3 hd hR) (q.on g1 o1)
theorem we_makeOKX {i m : Nat} {es : List D} (hi : δ[i]? = some (.own es)) (h : WAx K B (XE E R) tk δ fun ns => ns.length + 1 = m ∧ pre (ns.reverse ++ [.lst es]) ∧ (∀ d, post (ns.reverse ++ [.lst es]) d → ∃ ks fs es, d = .obj C ks (fs ++ [.lst es]) ∧ noLs fs = true ∧ noLs es = true ∧ P d) ∧ ∀ C ks xs, exc (ns.reverse ++ [.lst es]) C ks xs → noLs xs = true ∧ R C ks xs) : WEx K B (XE E R) (tMakeK C 0 m (SpIJ K C pre post exc) (fun us ws => us ++ ws.reverse) E tNil (tCons (tVar i) tk)) δ P := fun G0 H0 σ G H Q s xx q => by
  obtain ⟨a, vs, e1, nb, e0, eg, e2, e3⟩ := s.own i es hi
  refine ⟨_, e1, ?_⟩
  refine h G0 H0 σ G H _ s xx fun ws ns G1 H1 g1 o1 hn ⟨l, p, mm, ex⟩ => ⟨rfl, ?_, fun x dx nx ndx ne => ?_⟩
  · rw [List.length_cons, hn.length]; exact l
  have h1 : H1 a = some (.lst vs) := g1.k a _ nb nt_lst e2
  have hg1 : G1 a = none := g1.n a _ nt_lst e2 eg
  have sf : Same G1 (upd G1 a (.lst vs)) := same_upd hg1
  have er : (V.ref x :: (V.ref a :: ws).reverse) = V.ref x :: (ws.reverse ++ [V.ref a]) := by rw [List.reverse_cons]
  show SpIJ K C pre post exc (V.ref x :: (V.ref a :: ws).reverse) _ _ _
  rw [er]
  exact spij_own (R := R) o1 nb hg1 h1 nx ndx ne (Dds.append (hn.rev.mono sf) (.cons (.lst upd_same ((e3.mono g1.s).mono sf)) .nil)) p mm ex (fun C' d' ks' es' G3 H3 g3 o3 hd hR => (xx.on g1 o1) C' d' ks' es' G3 H3 g3 o3 hd hR) (q.on g1 o1)
end
end Dl
/-! Xi: a tuple of nothing that stands in K (a default): asked, gone through, made a list of. -/
namespace Dl
open PySem PySem.Spec PyProof.Rows L2
def KT0 (K : PySem.W.Frag) (t : Addr) : Prop := ∃ o n, K.lookup t = some o ∧ o.cls = .type "tuple" ∧ o.data = .seq #[] n
section
variable {K : PySem.W.Frag} {B : Bt} {δ : List Sd} {O : Out} {X : Xc} {P : D → Prop} {a : Addr}
theorem KT0.sq (h : KT0 K a) {H : Hp} : SqT K H a [] := by
  obtain ⟨o, n, h1, h2, h3⟩ := h
  exact .inr ⟨o, #[], n, h1, h2, h3, Nat.zero_le _, .nil⟩
theorem rc_isiK (h : KT0 K a) {n m : String} {b c : Bool} (e1 : kitB "tuple" n = some b) (e2 : kitB "tuple" m = some c) (p : P (.bl (b || c))) : RC K B (zIsi2 K) [.adr a, .tup [.cls n, .cls m]] P := fun G H _ _ o hs q => by
  cases hs with
  | cons h1 t =>
    cases h1
    cases t with
    | cons h2 t2 =>
      cases t2
      cases h2 with
      | tup hg ht =>
        cases ht with
        | cons k1 t3 =>
          cases t3 with
          | cons k2 t4 =>
            cases t4; cases k1; cases k2
            obtain ⟨o', n', l1, l2, l3⟩ := h
            refine ⟨_, _, _, _, _, [.type n, .type m], (b || c), rfl, o.u _ _ hg.1, .cons (.ty n) (.cons (.ty m) .nil), .kTuple l1 l2, ?_, q.nil o (.bl _) p⟩
            have f1 : PySem.W.kitOne K (.type "tuple") (.type n) = some b := kit_ty e1
            have f2 : PySem.W.kitOne K (.type "tuple") (.type m) = some c := kit_ty e2
            cases b <;> cases c <;> simp [PySem.W.kitAny, f1, f2]
theorem rc_lenK (h : KT0 K a) (p : P (.int 0)) : RC K B (fun xs H Q => ∃ x n, xs = [x] ∧ LenV K x H n ∧ Q (.int n) H) [.adr a] P := fun _ _ _ _ o hs q => by
  cases hs with
  | cons h1 t =>
    cases h1
    cases t
    exact ⟨_, 0, rfl, .inr ⟨[], h.sq, rfl⟩, q.nil o (.int _) p⟩
theorem rc_listK (h : KT0 K a) (p : P (.lst [])) : RC K B (rListOf K) [.adr a] P := fun _ _ _ _ o hs q => by
  cases hs with
  | cons h1 t =>
    cases h1
    cases t
    exact ⟨_, [], rfl, .inr h.sq, fun l hl => q.new o nt_lst hl (.lst upd_same .nil) p⟩
/-- for i, x in enumerate(xs), xs such a tuple -/
theorem ws_forEK (h : KT0 K a) {ta : TA} {i j : Nat} {t : TS} (w : WAx K B O.x ta δ fun as => as = [.adr a] ∧ O.nx δ) :
    WS K B (tFor (iEnumA K ta) (gTup K 2 (gCons (gName i) (gCons (gName j) gNil))) t) δ O := fun G0 H0 σ G H E s xx n r b c => by
  refine w G0 H0 σ G H _ s (xx.ct s) fun vs as G1 H1 g1 o1 hs ⟨ea, hn⟩ => ?_
  subst ea
  cases hs with
  | cons h1 t1 =>
    cases t1
    cases h1
    refine ⟨_, [], rfl, .inr ⟨h.sq, ?_⟩⟩
    refine ⟨fun k m σ' H' => σ' = σ ∧ H' = H1 ∧ k = 0, ⟨0, rfl, rfl, rfl⟩, ?_⟩
    rintro k m σ' H' ⟨rfl, rfl, rfl⟩
    exact .inl ⟨⟨[], h.sq, rfl, Nat.le_refl _⟩, n _ _ _ _ g1.s (s.on g1 o1) hn⟩
end
end Dl
/-! Xj: what could raise, where it does not. -/
namespace Dl
open PySem PySem.Spec PyProof.Rows L2
section
variable {P : Program} {w : World} {K : PySem.W.Frag} {mg : Str → Option Value} {base : Heap}
theorem clmz_quiet {k : Nat} {f : Addr} {fd : FuncData} {ps : List Str} {pre pre' : List D → Prop} {post : List D → D → Prop} {exc : List D → Addr → List Str → List D → Prop} (c : ClMz P w K mg base k f fd ps (SpX K pre post exc)) (h : ∀ ds, pre' ds → pre ds ∧ ∀ C ks es, ¬ exc ds C ks es) : ClM P w K mg base k f fd ps (SpD K pre' post) :=
  ⟨⟨fun vs H Q E ⟨B, G, ds, o, hs, p, q⟩ => c.ok.len vs H Q (fun _ _ _ => False) ⟨B, G, ds, o, hs, (h ds p).1, q, fun C d ks es _ _ _ _ _ z => (h ds p).2 C ks es z⟩,
    fun A outer s H args us vs Q E hr he hb hv ⟨B, G, ds, o, hs, p, q⟩ => codeAny_mono (c.ok.run A outer s H args us vs Q (fun _ _ _ => False) hr he hb hv ⟨B, G, ds, o, hs, (h ds p).1, q, fun C d ks es _ _ _ _ _ z => (h ds p).2 C ks es z⟩) fun r s' x => by
      cases r with
      | ok v => cases v <;> exact x
      | error e =>
        obtain ⟨_, _, _, _, _, _, _, _, _, _, _, _, z⟩ := x
        exact z.elim⟩, c.bn⟩
theorem init_quiet {k : Nat} {f C : Addr} {fd : FuncData} {ps : List Str} {pre pre' : List D → Prop} {post : List D → D → Prop} {exc : List D → Addr → List Str → List D → Prop} (c : FnOk P w K mg base (L2.CX P w) k f fd ps (SpIJ K C pre post exc)) (h : ∀ ds, pre' ds → pre ds ∧ ∀ C ks es, ¬ exc ds C ks es) : FnOk P w K mg base CX0 k f fd ps (SpI K C pre' post) :=
  have key : ∀ vs H Q E, SpI K C pre' post vs H Q E → SpIJ K C pre post exc vs H Q (fun _ _ _ => False) := fun vs H Q E ⟨B, G, H1, x, dx, ws, ds, e1, e2, e3, e4, e5, o, hs, p, q⟩ =>
    ⟨B, G, H1, x, dx, ws, ds, e1, e2, e3, e4, e5, o, hs, (h ds p).1, fun d G2 H2 _ _ _ g o2 hd pd _ _ => q d G2 H2 g o2 hd pd, fun C' d ks es _ _ _ _ _ z => (h ds p).2 C' ks es z⟩
  ⟨fun vs H Q E z => c.len vs H Q (fun _ _ _ => False) (key vs H Q E z),
    fun A outer s H args us vs Q E hr he hb hv z => codeAny_mono (c.run A outer s H args us vs Q (fun _ _ _ => False) hr he hb hv (key vs H Q E z)) fun r s' x => by
      cases r with
      | ok v => cases v <;> exact x
      | error e =>
        obtain ⟨_, _, _, _, _, _, _, _, _, _, _, _, z⟩ := x
        exact z.elim⟩
end
end Dl
/-! Xk: the lesser and the greater of two texts in a list or a tuple. -/
namespace Dl
open PySem PySem.Spec PyProof.Rows L2
theorem minD_2 (x y : Str) : PySem.W.minD (.str x) [.str y] = .str (minS x y) := by
  unfold PySem.W.minD minS ltS
  rw [List.foldl_cons, List.foldl_nil, PySem.W.dataLt_str]
  split <;> rfl
theorem maxD_2 (x y : Str) : PySem.W.maxD (.str x) [.str y] = .str (maxS x y) := by
  unfold PySem.W.maxD maxS ltS
  rw [List.foldl_cons, List.foldl_nil, PySem.W.dataLt_str]
  split <;> rfl
theorem alike_2 (x y : Str) : PySem.W.AlikeAll [.str x, .str y] := by
  refine ⟨fun a ha b hb => ?_, fun a ha => ?_⟩
  · simp only [List.mem_cons, List.not_mem_nil, or_false] at ha hb
    rcases ha with rfl | rfl <;> rcases hb with rfl | rfl <;> rfl
  · simp only [List.mem_cons, List.not_mem_nil, or_false] at ha
    rcases ha with rfl | rfl <;> exact fun z => nomatch z
def rMin2L (K : PySem.W.Frag) : List V → Hp → VK → Prop := fun ws H Q => ∃ (a : Addr) (x y : Str), ws = [.ref a] ∧ (SqL K H a [.str x, .str y] ∨ SqT K H a [.str x, .str y]) ∧ Q (.str (minS x y)) H
def rMax2L (K : PySem.W.Frag) : List V → Hp → VK → Prop := fun ws H Q => ∃ (a : Addr) (x y : Str), ws = [.ref a] ∧ (SqL K H a [.str x, .str y] ∨ SqT K H a [.str x, .str y]) ∧ Q (.str (maxS x y)) H
section
variable {X : Cx}
theorem call_min2L (hc : X.calm = true) (hu : X.A.units + 65 < cLine) : CallR X (.builtin "min") (rMin2L X.K) := by
  intro pins s σ H vs us Q I r h
  obtain ⟨a, x, y, rfl, hs, q⟩ := h
  rw [Vals.ref1 r]
  have hd : X.A.units + 1 + PyData.depthAll [PyData.str x, PyData.str y] < cLine := by
    have : PyData.depthAll [PyData.str x, PyData.str y] ≤ 2 := by simp [PyData.depthAll, PyData.depth]
    omega
  rcases hs with hs | hs
  · obtain ⟨its, rv, pl, _⟩ := I.list hs
    obtain ⟨u, u2, rfl, ⟨t, rfl⟩, ⟨t', rfl⟩⟩ := vals2 rv
    refine PySem.W.min_list_data (I.ok.hd hc) pl.isList (.cons (.str x t) (.cons (.str y t') .nil)) (alike_2 x y) hd fun i v h' tk bs _ rd keep => ?_
    rw [minD_2] at rd
    obtain ⟨t'', rfl, _⟩ := PyProof.Rows.reads_str_inv rd
    exact ⟨.str (minS x y), H, I.kept keep, ⟨_, rfl⟩, q⟩
  · obtain ⟨its, rv, pl, _⟩ := I.tuple hs
    obtain ⟨u, u2, rfl, ⟨t, rfl⟩, ⟨t', rfl⟩⟩ := vals2 rv
    refine PySem.W.min_tuple_data (I.ok.hd hc) (show s.heap.IsTuple a _ from pl) (.cons (.str x t) (.cons (.str y t') .nil)) (alike_2 x y) hd fun i v h' tk bs _ rd keep => ?_
    rw [minD_2] at rd
    obtain ⟨t'', rfl, _⟩ := PyProof.Rows.reads_str_inv rd
    exact ⟨.str (minS x y), H, I.kept keep, ⟨_, rfl⟩, q⟩
theorem call_max2L (hc : X.calm = true) (hu : X.A.units + 65 < cLine) : CallR X (.builtin "max") (rMax2L X.K) := by
  intro pins s σ H vs us Q I r h
  obtain ⟨a, x, y, rfl, hs, q⟩ := h
  rw [Vals.ref1 r]
  have hd : X.A.units + 1 + PyData.depthAll [PyData.str x, PyData.str y] < cLine := by
    have : PyData.depthAll [PyData.str x, PyData.str y] ≤ 2 := by simp [PyData.depthAll, PyData.depth]
    omega
  rcases hs with hs | hs
  · obtain ⟨its, rv, pl, _⟩ := I.list hs
    obtain ⟨u, u2, rfl, ⟨t, rfl⟩, ⟨t', rfl⟩⟩ := vals2 rv
    refine PySem.W.max_list_data (I.ok.hd hc) pl.isList (.cons (.str x t) (.cons (.str y t') .nil)) (alike_2 x y) hd fun i v h' tk bs _ rd keep => ?_
    rw [maxD_2] at rd
    obtain ⟨t'', rfl, _⟩ := PyProof.Rows.reads_str_inv rd
    exact ⟨.str (maxS x y), H, I.kept keep, ⟨_, rfl⟩, q⟩
  · obtain ⟨its, rv, pl, _⟩ := I.tuple hs
    obtain ⟨u, u2, rfl, ⟨t, rfl⟩, ⟨t', rfl⟩⟩ := vals2 rv
    refine PySem.W.max_tuple_data (I.ok.hd hc) (show s.heap.IsTuple a _ from pl) (.cons (.str x t) (.cons (.str y t') .nil)) (alike_2 x y) hd fun i v h' tk bs _ rd keep => ?_
    rw [maxD_2] at rd
    obtain ⟨t'', rfl, _⟩ := PyProof.Rows.reads_str_inv rd
    exact ⟨.str (maxS x y), H, I.kept keep, ⟨_, rfl⟩, q⟩
end
section
variable {K : PySem.W.Frag} {B : Bt} {P : D → Prop} {x y : Str}
theorem sq_2 {G H : Hp} {vs : List V} {d : D} (o : Ok B G H) (h : Dds K B G vs [d]) (e : d = .lst [.str x, .str y] ∨ d = .tup [.str x, .str y]) : ∃ a, vs = [.ref a] ∧ (SqL K H a [.str x, .str y] ∨ SqT K H a [.str x, .str y]) := by
  have key : ∀ {us : List V}, Dds K B G us [.str x, .str y] → us = [.str x, .str y] := fun h => by
    cases h with
    | cons h1 t =>
      cases h1
      cases t with
      | cons h2 t =>
        cases h2
        cases t
        rfl
  cases h with
  | cons h1 t =>
    cases t
    rcases e with rfl | rfl
    · cases h1 with
      | lst hg t => exact ⟨_, rfl, .inl (by rw [← key t]; exact SqL.of (o.u _ _ hg))⟩
    · cases h1 with
      | tup hg t => exact ⟨_, rfl, .inr (by rw [← key t]; exact SqT.ofZ (o.u _ _ hg.1))⟩
theorem rc_min2L {d : D} (e : d = .lst [.str x, .str y] ∨ d = .tup [.str x, .str y]) (p : P (.str (minS x y))) : RC K B (rMin2L K) [d] P := fun G H vs Q o hs q => by
  obtain ⟨a, rfl, h⟩ := sq_2 o hs e
  exact ⟨a, x, y, rfl, h, q.nil o (.str _) p⟩
theorem rc_max2L {d : D} (e : d = .lst [.str x, .str y] ∨ d = .tup [.str x, .str y]) (p : P (.str (maxS x y))) : RC K B (rMax2L K) [d] P := fun G H vs Q o hs q => by
  obtain ⟨a, rfl, h⟩ := sq_2 o hs e
  exact ⟨a, x, y, rfl, h, q.nil o (.str _) p⟩
end
end Dl
/-! Xl: a text in a list of texts; x, y = e, [..] through a tuple. -/
namespace Dl
open PySem PySem.Spec PyProof.Rows L2
section
variable {K : PySem.W.Frag} {B : Bt} {δ : List Sd} {O : Out} {P : D → Prop}
theorem Dds.strs2 {G : Hp} : ∀ {vs : List V} {zs : List Str}, Dds K B G vs (zs.map D.str) → vs = zs.map V.str
  | _, [], h => by cases h; rfl
  | _, z :: zs, h => by
    cases h with
    | cons h t => cases h; rw [Dds.strs2 t]; rfl
theorem flat_strs (zs : List Str) : (zs.map V.str).all flatV = true := by
  rw [List.all_map, List.all_eq_true]
  exact fun _ _ => rfl
theorem inV_strs {z : Str} {zs : List Str} : inV (.str z) (zs.map V.str) = decide (z ∈ zs) := by
  unfold inV
  rw [Bool.eq_iff_iff, decide_eq_true_eq, List.any_map, List.any_eq_true]
  constructor
  · rintro ⟨n, hn, h⟩
    have h' : (n == z) = true := h
    rw [← eq_of_beq h']
    exact hn
  · intro h
    refine ⟨z, h, ?_⟩
    show (z == z) = true
    exact beq_self_eq_true z
theorem ro_niSs {z : Str} {zs : List Str} (h : P (.bl (!decide (z ∈ zs)))) : RO K B (rIn K true) (.str z) (.lst (zs.map D.str)) P := fun G H x y _ o hx hy q => by
  cases hx
  generalize e : D.lst (zs.map D.str) = d at hy
  cases hy with
  | lst hg t =>
    cases e
    have ev := t.strs2
    subst ev
    refine ⟨_, _, rfl, .inl (SqL.of (o.u _ _ hg)), rfl, flat_strs zs, ?_⟩
    rw [if_pos rfl, inV_strs]
    exact q.nil o (.bl _) h
  | _ => cases e
theorem ro_inSs {z : Str} {zs : List Str} (h : P (.bl (decide (z ∈ zs)))) : RO K B (rIn K false) (.str z) (.lst (zs.map D.str)) P := fun G H x y _ o hx hy q => by
  cases hx
  generalize e : D.lst (zs.map D.str) = d at hy
  cases hy with
  | lst hg t =>
    cases e
    have ev := t.strs2
    subst ev
    refine ⟨_, _, rfl, .inl (SqL.of (o.u _ _ hg)), rfl, flat_strs zs, ?_⟩
    rw [if_neg (by decide), inV_strs]
    exact q.nil o (.bl _) h
  | _ => cases e
/-- x, y = e, [..] through a tuple -/
theorem ws_tupVO {i j : Nat} {te : TE} {tb : TA} (h : WEx K B O.x te δ fun d => WAx K B O.x tb δ fun es => es.length ≤ 1000 ∧ O.nx ((δ.set i (.val d)).set j (.own es))) : WS K B (tAsg (zTup (tCons te (tCons (tLst tb) tNil))) (gTup K 2 (gCons (gName i) (gCons (gName j) gNil)))) δ O := fun G0 H0 σ G H E s xx n _ _ _ =>
  h G0 H0 σ G H _ s (xx.ct s) fun v d G1 H1 g1 o1 hv w => by
    have s1 := s.on g1 o1
    refine w G0 H0 σ G1 _ _ s1 ((xx.ct s).on g1 o1) fun ws es G2 H2 g2 o2 hs2 ⟨l2, pO⟩ => ⟨by rw [hs2.length]; exact sz1000 l2, fun p2 hp2 => ?_⟩
    have s3 := s1.on g2 o2
    have s4 := s3.setVal i (hv.mono g2.s)
    have h02 : ∀ u, nt u → H0 p2 ≠ some u := fun u ht q => by
      by_cases e : p2 = B.a
      · exact absurd hp2 (e ▸ o2.hb)
      · have := s3.go.k p2 u e ht q
        rw [hp2] at this
        cases this
    have s5 := s4.setOwn j hp2 h02 hs2
    refine ⟨by show 2 ≤ sizeLine; decide, fun pt ob hpt hdn => ?_⟩
    have lg3 := loose_go (B := B) (x := .frz ob (.tup [v, V.ref p2])) s5.ok hpt
    have lo3 := loose_ok (B := B) (x := .frz ob (.tup [v, V.ref p2])) s5.ok hpt
    have s6 := s5.on lg3 lo3
    exact ⟨_, _, rfl, SqT.ofZ upd_same, rfl, _, _, rfl, _, _, rfl, rfl, n _ _ G2 _ (g1.s.trans g2.s) s6 pO⟩
end
end Dl
/-! Xm: a list turned back; a text in a tuple of texts. -/
namespace Dl
open PySem PySem.Spec PyProof.Rows L2
section
variable {K : PySem.W.Frag} {B : Bt} {δ : List Sd} {X : Xc} {P : D → Prop} {te : TE}
theorem we_revL (h : WEx K B X te δ fun d => ∃ ds, d = .lst ds ∧ P (.lst ds.reverse)) : WEx K B X (tRevL K te) δ P := fun G0 H0 σ G H Q s xx q =>
  h G0 H0 σ G H _ s xx fun x d G1 H1 g1 o1 hx ⟨ds, e, p⟩ => by
    subst e
    cases hx with
    | lst hg t => exact ⟨_, _, rfl, SqL.of (o1.u _ _ hg), fun r hr => (q.on g1 o1).new o1 nt_lst hr (.lst upd_same (t.rev.mono (same_upd (o1.fresh hr)))) p⟩
theorem ro_niTs {z : Str} {zs : List Str} (h : P (.bl (!decide (z ∈ zs)))) : RO K B (rIn K true) (.str z) (.tup (zs.map D.str)) P := fun G H x y _ o hx hy q => by
  cases hx
  generalize e : D.tup (zs.map D.str) = d at hy
  cases hy with
  | tup hg t =>
    cases e
    have ev := t.strs2
    subst ev
    refine ⟨_, _, rfl, .inr (SqT.ofZ (o.u _ _ hg.1)), rfl, flat_strs zs, ?_⟩
    rw [if_pos rfl, inV_strs]
    exact q.nil o (.bl _) h
  | _ => cases e
theorem ro_inTs {z : Str} {zs : List Str} (h : P (.bl (decide (z ∈ zs)))) : RO K B (rIn K false) (.str z) (.tup (zs.map D.str)) P := fun G H x y _ o hx hy q => by
  cases hx
  generalize e : D.tup (zs.map D.str) = d at hy
  cases hy with
  | tup hg t =>
    cases e
    have ev := t.strs2
    subst ev
    refine ⟨_, _, rfl, .inr (SqT.ofZ (o.u _ _ hg.1)), rfl, flat_strs zs, ?_⟩
    rw [if_neg (by decide), inV_strs]
    exact q.nil o (.bl _) h
  | _ => cases e
end
theorem nd_len {α : Type} [DecidableEq α] : ∀ {L zs : List α}, L.Nodup → (∀ x ∈ L, x ∈ zs) → L.length ≤ zs.length
  | [], _, _, _ => Nat.zero_le _
  | x :: L, zs, nd, h => by
    have hx := h x List.mem_cons_self
    obtain ⟨h1, h2⟩ := List.nodup_cons.mp nd
    have := nd_len (L := L) (zs := zs.erase x) h2 fun y hy => (List.mem_erase_of_ne (fun e => h1 (by rw [← e]; exact hy))).mpr (h y (List.mem_cons_of_mem _ hy))
    rw [List.length_erase_of_mem hx] at this
    have := List.length_pos_of_mem hx
    rw [List.length_cons]
    omega
theorem free_of {zs L : List Str} (nd : L.Nodup) (h : zs.length < L.length) : ∃ z t, L.filter (fun z => !decide (z ∈ zs)) = z :: t ∧ z ∈ L ∧ z ∉ zs := by
  cases e : L.filter (fun z => !decide (z ∈ zs)) with
  | cons z t =>
    have := List.mem_filter.mp (show z ∈ L.filter (fun z => !decide (z ∈ zs)) by rw [e]; exact List.mem_cons_self)
    exact ⟨z, t, rfl, this.1, by simpa using this.2⟩
  | nil =>
    have := nd_len nd (zs := zs) fun z hz => by
      have := List.filter_eq_nil_iff.mp e z hz
      simpa using this
    omega
theorem strsP_of {P : Str → Prop} : ∀ {es : List D}, (∀ x ∈ es, ∃ z, x = .str z ∧ P z) → ∃ zs : List Str, es = zs.map D.str ∧ ∀ z ∈ zs, P z
  | [], _ => ⟨[], rfl, fun _ z => nomatch z⟩
  | d :: r, h => by
    obtain ⟨c, e, hc⟩ := h d List.mem_cons_self
    obtain ⟨cs, e2, h2⟩ := strsP_of fun x hx => h x (List.mem_cons_of_mem _ hx)
    refine ⟨c :: cs, by rw [e, e2]; rfl, fun z hz => ?_⟩
    rcases List.mem_cons.mp hz with e | hz
    · rw [e]; exact hc
    · exact h2 z hz
theorem ok_cps {z : Str} : PyData.strOk z = true ↔ ∀ c ∈ z.cps.toList, c < 1114112 := by
  unfold PyData.strOk
  rw [Array.all_eq_true']
  simp
theorem ok_cut {z : Str} (h : PyData.strOk z = true) (lo hi : Option Int) : PyData.strOk (cutS z lo hi) = true := by
  rw [ok_cps] at h ⊢
  intro c hc
  refine h c ?_
  have e : (cutS z lo hi).cps.toList = List.take (HT.sIx z.length z.length hi - HT.sIx z.length 0 lo) (List.drop (HT.sIx z.length 0 lo) z.cps.toList) := by unfold cutS; rw [List.toList_toArray]
  rw [e] at hc
  exact List.mem_of_mem_drop (List.mem_of_mem_take hc)
theorem ok_app {x y : Str} (hx : PyData.strOk x = true) (hy : PyData.strOk y = true) : PyData.strOk (x ++ y) = true := by
  rw [ok_cps] at *
  intro c hc
  have e : (x ++ y).cps.toList = x.cps.toList ++ y.cps.toList := by
    show (x.cps ++ y.cps).toList = _
    rw [Array.toList_append]
  rw [e] at hc
  rcases List.mem_append.mp hc with h | h
  · exact hx c h
  · exact hy c h
end Dl
/-! Yf: [e for a, b in zip(xs, ys)], for a, b in zip(xs, ys), two lists or two tuples, by what is read. -/
namespace Dl
open PySem PySem.Spec PyProof.Rows L2
/-- the turns: loose pairs of both items -/
def ItZ (K : PySem.W.Frag) (B : Bt) (J : It) (ds : List (D × D)) (G0 : Hp) : Prop := ∀ G H (i : Nat), Same G0 G → Ok B G H →
  (i < ds.length → J.go i H) ∧ (∀ x H', i < ds.length → J.yld i H x H' → ∃ T v1 v2 d1 d2, x = .ref T ∧ SqT K H' T [v1, v2] ∧ ds[i]? = some (d1, d2) ∧ Go B G H G H' ∧ Ok B G H' ∧ Dd K B G v1 d1 ∧ Dd K B G v2 d2) ∧ (i = ds.length → J.stop i H)
/-- two lists or two tuples, and what zip makes of them -/
def ZipD (as : List D) (its : List (D × D)) : Prop := ∃ xs ys, (as = [.lst xs, .lst ys] ∨ as = [.tup xs, .tup ys]) ∧ its = xs.zip ys
section
variable {K : PySem.W.Frag} {B : Bt} {δ : List Sd} {X : Xc} {O : Out} {P : D → Prop} {tt : TT}
theorem zip_at {α β : Type} {xs : List α} {ys : List β} {i : Nat} (h : i < (xs.zip ys).length) : ∃ x y, xs[i]? = some x ∧ ys[i]? = some y ∧ (xs.zip ys)[i]? = some (x, y) := by
  have l := h
  rw [List.length_zip] at l
  have h1 : i < xs.length := by omega
  have h2 : i < ys.length := by omega
  exact ⟨xs[i], ys[i], List.getElem?_eq_getElem h1, List.getElem?_eq_getElem h2, by rw [List.getElem?_eq_getElem h, List.getElem_zip]⟩
theorem itz_list {G : Hp} {a b : Addr} {vs ws : List V} {ds es : List D} (h : G a = some (.lst vs)) (t : Dds K B G vs ds) (h' : G b = some (.lst ws)) (t' : Dds K B G ws es) : ItZ K B (Itz K a b) (ds.zip es) G := by
  intro G1 H1 i s o
  have h1 : SqL K H1 a vs := SqL.of (o.u _ _ (s _ _ h))
  have h2 : SqL K H1 b ws := SqL.of (o.u _ _ (s _ _ h'))
  refine ⟨fun hi => ?_, fun x H' hi y => ?_, fun e => ⟨vs, ws, h1, h2, by rw [t.length, t'.length, e, List.length_zip]; omega⟩⟩
  · obtain ⟨d, e, e1, e2, _⟩ := zip_at hi
    obtain ⟨v, f1, _⟩ := t.get e1
    obtain ⟨w, f2, _⟩ := t'.get e2
    exact ⟨vs, ws, v, w, h1, h2, f1, f2⟩
  · obtain ⟨T, v, w, rfl, hT, rfl, f1, f2⟩ := y
    obtain ⟨d, e, e1, e2, e3⟩ := zip_at hi
    obtain ⟨d', g1, g2⟩ := t.get' (f1 vs h1)
    obtain ⟨e', g3, g4⟩ := t'.get' (f2 ws h2)
    rw [e1] at g1
    rw [e2] at g3
    cases g1
    cases g3
    exact ⟨T, v, w, d, e, rfl, SqT.of upd_same, e3, loose_go o hT, loose_ok o hT, g2.mono s, g4.mono s⟩
theorem itz_tup {G : Hp} {a b : Addr} {oa ob : Obj} {vs ws : List V} {ds es : List D} (h : G a = some (.frz oa (.tup vs))) (t : Dds K B G vs ds) (h' : G b = some (.frz ob (.tup ws))) (t' : Dds K B G ws es) : ItZ K B (RZ.ItzT K a b) (ds.zip es) G := by
  intro G1 H1 i s o
  have h1 : SqT K H1 a vs := SqT.ofZ (o.u _ _ (s _ _ h))
  have h2 : SqT K H1 b ws := SqT.ofZ (o.u _ _ (s _ _ h'))
  refine ⟨fun hi => ?_, fun x H' hi y => ?_, fun e => ⟨vs, ws, h1, h2, by rw [t.length, t'.length, e, List.length_zip]; omega⟩⟩
  · obtain ⟨d, e, e1, e2, _⟩ := zip_at hi
    obtain ⟨v, f1, _⟩ := t.get e1
    obtain ⟨w, f2, _⟩ := t'.get e2
    exact ⟨vs, ws, v, w, h1, h2, f1, f2⟩
  · obtain ⟨T, v, w, rfl, hT, rfl, f1, f2⟩ := y
    obtain ⟨d, e, e1, e2, e3⟩ := zip_at hi
    obtain ⟨d', g1, g2⟩ := t.get' (f1 vs h1)
    obtain ⟨e', g3, g4⟩ := t'.get' (f2 ws h2)
    rw [e1] at g1
    rw [e2] at g3
    cases g1
    cases g3
    exact ⟨T, v, w, d, e, rfl, SqT.of upd_same, e3, loose_go o hT, loose_ok o hT, g2.mono s, g4.mono s⟩
theorem zip_run {G1 H1 : Hp} {vs : List V} {as : List D} {its : List (D × D)} (o1 : Ok B G1 H1) (hs : Dds K B G1 vs as) (hz : ZipD as its) :
    ∃ a b xs ys, vs = [.ref a, .ref b] ∧ ((SqL K H1 a xs ∧ SqL K H1 b ys ∧ ItZ K B (Itz K a b) its G1) ∨ (SqT K H1 a xs ∧ SqT K H1 b ys ∧ ItZ K B (RZ.ItzT K a b) its G1)) := by
  obtain ⟨xs, ys, e, rfl⟩ := hz
  rcases e with rfl | rfl
  · cases hs with
    | cons h1 t1 =>
      cases t1 with
      | cons h2 t2 =>
        cases t2
        cases h1 with
        | lst g1 t1 =>
          cases h2 with
          | lst g2 t2 => exact ⟨_, _, _, _, rfl, .inl ⟨SqL.of (o1.u _ _ g1), SqL.of (o1.u _ _ g2), itz_list g1 t1 g2 t2⟩⟩
  · cases hs with
    | cons h1 t1 =>
      cases t1 with
      | cons h2 t2 =>
        cases t2
        cases h1 with
        | tup g1 t1 =>
          cases h2 with
          | tup g2 t2 => exact ⟨_, _, _, _, rfl, .inr ⟨SqT.ofZ (o1.u _ _ g1.1), SqT.ofZ (o1.u _ _ g2.1), itz_tup g1.1 t1 g2.1 t2⟩⟩
theorem we_lcZ {ta : TA} {i j : Nat} (hij : i ≠ j) {te : TE} (h : WAx K B X ta δ fun as => ∃ its, ZipD as its ∧ its.length ≤ 1000 ∧ ∃ I : Nat → List D → Prop, I 0 [] ∧ (∀ k d acc, its[k]? = some d → I k acc → WT K B tt ((δ.set i (.val d.1)).set j (.val d.2)) fun b => if b = true then WE K B te ((δ.set i (.val d.1)).set j (.val d.2)) fun y => I (k + 1) (acc ++ [y]) else I (k + 1) acc) ∧ ∀ acc, I its.length acc → P (.lst acc)) :
    WEx K B X (tLc (RZ.iZipA K ta) (gTup K 2 (gCons (gName i) (gCons (gName j) gNil))) tt te [i, j]) δ P := fun G0 H0 σ G H Q s xx q =>
  h G0 H0 σ G H _ s xx fun vs0 as0 G1 H1 g1 o1 hs0 ⟨its, hz0, hlen, I, i0, turn, last⟩ => by
    obtain ⟨a0, b0, xs0, ys0, e0, z0⟩ := zip_run o1 hs0 hz0
    refine ⟨a0, b0, xs0, ys0, e0, z0.imp (fun ⟨z1, z2, it⟩ => ⟨z1, z2, fun A hA => ?_⟩) (fun ⟨z1, z2, it⟩ => ⟨z1, z2, fun A hA => ?_⟩)⟩
    all_goals
      have s1 := s.on g1 o1
      have q1 := q.on g1 o1
      have nAB := o1.neB hA
      have gA1 : G1 A = none := o1.fresh hA
      have nn : ∀ (a : Addr), H1 a ≠ none → a ≠ A := fun a h e => h (e ▸ hA)
      refine ⟨fun k m H => m = its.length - k ∧ k ≤ its.length ∧ ∃ G vs acc, Go B G1 H1 G H ∧ G A = none ∧ Ok B G H ∧ H A = some (.lst vs) ∧ Dds K B G vs acc ∧ acc.length ≤ k ∧ I k acc,
        ⟨_, rfl, Nat.zero_le _, G1, [], [], loose_go o1 hA, gA1, loose_ok o1 hA, upd_same, .nil, Nat.le_refl _, i0⟩, ?_⟩
      rintro k m H2 ⟨rfl, hk, G2, vs, acc, g2, gA, o2, hV, hD, hL, ik⟩
      obtain ⟨f1, f2, f3⟩ := it G2 H2 k g2.s o2
      have st : Stt K B G0 H0 G2 H2 σ δ := s1.on g2 o2
      by_cases hlt : k < its.length
      · refine .inr ⟨f1 hlt, fun H' => ∃ G vs acc, Go B G1 H1 G H' ∧ G A = none ∧ Ok B G H' ∧ H' A = some (.lst vs) ∧ Dds K B G vs acc ∧ acc.length ≤ k + 1 ∧ I (k + 1) acc,
          fun H' hN => ⟨its.length - (k + 1), by omega, rfl, hlt, hN⟩, fun x H3 y => ?_⟩
        obtain ⟨T0, x1, x2, d1, d2, rfl, sq0, e1, g3, o3, hd1, hd2⟩ := f2 x H3 hlt y
        have tn := turn k (d1, d2) acc e1 ik
        have s3 : Stt K B G0 H0 G2 H3 (((wipe σ [i, j]).set i (some x1)).set j (some x2)) ((δ.set i (.val d1)).set j (.val d2)) := by
          have z := ((((st.on g3 o3).wipe1 j).wipe1 i).setVal i hd1).setVal j hd2
          have ez : (((δ.set j Sd.no).set i Sd.no).set i (.val d1)).set j (.val d2) = (δ.set i (.val d1)).set j (.val d2) := by
            rw [List.set_set, List.set_comm (l := δ) _ _ (Ne.symm hij), List.set_set]
          rw [ez] at z
          exact z
        have hV3 := g3.k A _ nAB nt_lst hV
        have gA3 := g3.n A _ nt_lst hV gA
        refine ⟨_, _, rfl, sq0, rfl, _, _, rfl, _, _, rfl, rfl, ?_, tn G0 H0 _ G2 H3 _ s3 ctx0 fun b G4 H4 g4 o4 w => ?_⟩
        · show ((((((σ.set j none).set i none).set i (some x1)).set j (some x2)).set j none).set i none) = (σ.set j none).set i none
          apply List.ext_getElem?
          intro n
          simp only [List.getElem?_set, List.length_set]
          by_cases h1 : i = n <;> by_cases h2 : j = n <;> simp [h1, h2]
        have hV4 := g4.k A _ nAB nt_lst hV3
        have gA4 := g4.n A _ nt_lst hV3 gA3
        have go4 : Go B G1 H1 G4 H4 := (g2.trans o2 g3).trans o3 g4
        have hD4 : Dds K B G4 vs acc := (hD.mono g3.s).mono g4.s
        cases b with
        | false => exact ⟨G4, vs, acc, go4, gA4, o4, hV4, hD4, Nat.le_succ_of_le hL, w⟩
        | true =>
          refine w G0 H0 _ G4 H4 _ (s3.on g4 o4) ctx0 fun y e G5 H5 g5 o5 hy w5 => ?_
          have hV5 := g5.k A _ nAB nt_lst hV4
          have gA5 := g5.n A _ nt_lst hV4 gA4
          have go5 : Go B G1 H1 G5 H5 := go4.trans o4 g5
          refine ⟨vs, hV5, Nat.lt_of_le_of_lt (by rw [hD.length]; omega : vs.length ≤ 1000) (by decide), G5, vs ++ [y], acc ++ [e], ?_, gA5, write_ok o5 hV5 gA5 nAB, upd_same, (hD4.mono g5.s).append (.cons hy .nil), by rw [List.length_append, List.length_singleton]; omega, w5⟩
          refine ⟨go5.s, fun a o nb ht h => ?_, go5.n, fun c r h => ?_⟩
          · rw [upd_ne (nn a (by rw [h]; exact fun z => nomatch z))]; exact go5.k a o nb ht h
          · obtain ⟨r', h'⟩ := go5.c c r h
            exact ⟨r', by rw [upd_ne nAB.symm]; exact h'⟩
      · have ek : k = its.length := by omega
        subst ek
        refine .inl ⟨f3 rfl, q1 (.ref A) (.lst acc) (upd G2 A (.lst vs)) H2 ⟨g2.s.trans (same_upd gA), g2.k, fun a o ht h g => ?_, g2.c⟩ (freeze_ok o2 nt_lst nAB gA hV) (.lst upd_same (hD.mono (same_upd gA))) (last acc ik)⟩
        rw [upd_ne (nn a (by rw [h]; exact fun z => nomatch z))]
        exact g2.n a o ht h g
theorem wax_mo {ta : TA} {P Q : List D → Prop} (h : WAx K B X ta δ P) (m : ∀ d, P d → Q d) : WAx K B X ta δ Q := fun G0 H0 σ G H R s xx q => h G0 H0 σ G H R s xx fun v d G1 H1 g o hd p => q v d G1 H1 g o hd (m d p)
/-- .. each pair once, by a function -/
theorem we_lcZmap {ta : TA} {i j : Nat} (hij : i ≠ j) {te : TE} {its : List (D × D)} (f : D × D → D) (h : WAx K B X ta δ fun as => ZipD as its) (hl : its.length ≤ 1000) (hw : ∀ x ∈ its, WE K B te ((δ.set i (.val x.1)).set j (.val x.2)) fun y => y = f x) (hp : P (.lst (its.map f))) :
    WEx K B X (tLc (RZ.iZipA K ta) (gTup K 2 (gCons (gName i) (gCons (gName j) gNil))) tYes te [i, j]) δ P :=
  we_lcZ hij (wax_mo h fun as z => ⟨its, z, hl, fun n acc => acc = (its.take n).map f, rfl, fun n d acc hd hacc => wt_yes (by
    show WE K B te _ _
    refine (hw d (List.mem_of_getElem? hd)).mono fun y ey => ?_
    show acc ++ [y] = (its.take (n + 1)).map f
    rw [show acc = (its.take n).map f from hacc, ey, List.take_add_one, hd, List.map_append]
    rfl), fun acc hacc => by
    have z : acc = (its.take its.length).map f := hacc
    rw [z, List.take_length]
    exact hp⟩)
end
end Dl
/-! Yo: directions in their round; arcs between them by the places of their ends. Plain mathematics. -/
namespace Rm
def sec (u v : Int) : Bool := decide (v < 0) || (decide (v = 0) && decide (u < 0))
def ahd (u v x y : Int) : Bool := if (sec u v != sec x y) = true then sec x y else decide (0 < u * y - v * x)
/-- in the first half -/
def up (u v : Int) : Prop := 0 < v ∨ (v = 0 ∧ 0 < u)
theorem up_or {u v : Int} (h : u ≠ 0 ∨ v ≠ 0) : (up u v ∧ sec u v = false) ∨ (up (-u) (-v) ∧ sec u v = true) := by
  unfold up sec
  by_cases h1 : v < 0
  · right
    exact ⟨by left; omega, by simp [h1]⟩
  · by_cases h2 : v = 0
    · by_cases h3 : u < 0
      · right; exact ⟨by right; omega, by simp [h2, h3]⟩
      · left; exact ⟨by right; omega, by simp [h2, h3]⟩
    · left; exact ⟨by left; omega, by simp [h1, h2]⟩
theorem ident (u1 v1 u2 v2 u3 v3 : Int) : v2 * (u1 * v3 - v1 * u3) = v3 * (u1 * v2 - v1 * u2) + v1 * (u2 * v3 - v2 * u3) := by
  simp only [Int.mul_sub, ← Int.mul_assoc]
  rw [Int.mul_comm v2 u1, Int.mul_comm v2 v1, Int.mul_comm v3 u1, Int.mul_comm v3 v1, Int.mul_assoc u1 v2 v3, Int.mul_assoc u1 v3 v2, Int.mul_comm v2 v3, Int.mul_assoc v1 v3 u2, Int.mul_comm v3 u2, ← Int.mul_assoc v1 u2 v3]
  omega
theorem up_trans {u1 v1 u2 v2 u3 v3 : Int} (h1 : up u1 v1) (h2 : up u2 v2) (h3 : up u3 v3) (a : 0 < u1 * v2 - v1 * u2) (b : 0 < u2 * v3 - v2 * u3) : 0 < u1 * v3 - v1 * u3 := by
  have p1 : 0 ≤ v1 := by unfold up at h1; omega
  have p2 : 0 ≤ v2 := by unfold up at h2; omega
  have p3 : 0 ≤ v3 := by unfold up at h3; omega
  have q2 : 0 < v2 := by
    rcases h2 with h | ⟨h, h'⟩
    · exact h
    · exfalso
      subst h
      rw [Int.mul_zero, Int.zero_sub] at a
      have := Int.mul_nonneg p1 (Int.le_of_lt h')
      omega
  have q13 : 0 < v1 ∨ 0 < v3 := by
    by_cases e1 : v1 = 0
    · by_cases e3 : v3 = 0
      · exfalso
        subst e3
        have u3p : 0 < u3 := by unfold up at h3; omega
        rw [Int.mul_zero, Int.zero_sub] at b
        have := Int.mul_pos q2 u3p
        omega
      · right; omega
    · left; omega
  have key := ident u1 v1 u2 v2 u3 v3
  have r1 : 0 ≤ v3 * (u1 * v2 - v1 * u2) := Int.mul_nonneg p3 (Int.le_of_lt a)
  have r2 : 0 ≤ v1 * (u2 * v3 - v2 * u3) := Int.mul_nonneg p1 (Int.le_of_lt b)
  have r : 0 < v2 * (u1 * v3 - v1 * u3) := by
    rcases q13 with q | q
    · have := Int.mul_pos q b
      omega
    · have := Int.mul_pos q a
      omega
  exact Int.pos_of_mul_pos_left (by rw [Int.mul_comm]; exact r) q2
theorem ahd_irr (u v : Int) : ahd u v u v = false := by
  unfold ahd
  rw [if_neg (by simp), Int.mul_comm u v]
  exact decide_eq_false (by omega)
theorem neg_cross (u v x y : Int) : (-u) * (-y) - (-v) * (-x) = u * y - v * x := by
  rw [Int.neg_mul_neg, Int.neg_mul_neg]
theorem ahd_trans {u1 v1 u2 v2 u3 v3 : Int} (n1 : u1 ≠ 0 ∨ v1 ≠ 0) (n2 : u2 ≠ 0 ∨ v2 ≠ 0) (n3 : u3 ≠ 0 ∨ v3 ≠ 0) (a : ahd u1 v1 u2 v2 = true) (b : ahd u2 v2 u3 v3 = true) : ahd u1 v1 u3 v3 = true := by
  unfold ahd at a b ⊢
  rcases up_or n1 with ⟨p1, s1⟩ | ⟨p1, s1⟩ <;> rcases up_or n2 with ⟨p2, s2⟩ | ⟨p2, s2⟩ <;> rcases up_or n3 with ⟨p3, s3⟩ | ⟨p3, s3⟩ <;> rw [s1, s2] at a <;> rw [s2, s3] at b <;> rw [s1, s3]
  · have a' : 0 < u1 * v2 - v1 * u2 := by simpa using a
    have b' : 0 < u2 * v3 - v2 * u3 := by simpa using b
    simpa using up_trans p1 p2 p3 a' b'
  · simp
  · simp at b
  · simp
  · simp at a
  · simp at a
  · simp at b
  · have a' : 0 < (-u1) * (-v2) - (-v1) * (-u2) := by rw [neg_cross]; simpa using a
    have b' : 0 < (-u2) * (-v3) - (-v2) * (-u3) := by rw [neg_cross]; simpa using b
    have c := up_trans p1 p2 p3 a' b'
    rw [neg_cross] at c
    simpa using c
theorem abs_eq {u v x y : Int} (g1 : Nat.gcd u.natAbs v.natAbs = 1) (g2 : Nat.gcd x.natAbs y.natAbs = 1) (e : u * y = v * x) : u.natAbs = x.natAbs ∧ v.natAbs = y.natAbs := by
  have e' : u.natAbs * y.natAbs = v.natAbs * x.natAbs := by rw [← Int.natAbs_mul, ← Int.natAbs_mul, e]
  have c1 : Nat.Coprime u.natAbs v.natAbs := g1
  have c2 : Nat.Coprime x.natAbs y.natAbs := g2
  constructor
  · apply Nat.dvd_antisymm
    · exact c1.dvd_of_dvd_mul_left ⟨y.natAbs, e'.symm⟩
    · exact c2.dvd_of_dvd_mul_right ⟨v.natAbs, by rw [e', Nat.mul_comm]⟩
  · apply Nat.dvd_antisymm
    · exact c1.symm.dvd_of_dvd_mul_left ⟨x.natAbs, e'⟩
    · exact c2.symm.dvd_of_dvd_mul_right ⟨u.natAbs, by rw [← e', Nat.mul_comm]⟩
theorem up_same {u v x y : Int} (h1 : up u v) (h2 : up x y) (g1 : Nat.gcd u.natAbs v.natAbs = 1) (g2 : Nat.gcd x.natAbs y.natAbs = 1) (e : u * y = v * x) : u = x ∧ v = y := by
  obtain ⟨e1, e2⟩ := abs_eq g1 g2 e
  have ev : v = y := by unfold up at h1 h2; omega
  subst ev
  refine ⟨?_, rfl⟩
  by_cases hv : v = 0
  · unfold up at h1 h2; omega
  · rw [Int.mul_comm u v] at e
    exact Int.eq_of_mul_eq_mul_left hv e
theorem nz_of {u v : Int} (g : Nat.gcd u.natAbs v.natAbs = 1) : u ≠ 0 ∨ v ≠ 0 := by
  by_cases h : u = 0
  · right
    intro hv
    rw [h, hv] at g
    simp at g
  · exact .inl h
/-- of two directions that are not the same one stands ahead of the other one -/
theorem ahd_total {u v x y : Int} (g1 : Nat.gcd u.natAbs v.natAbs = 1) (g2 : Nat.gcd x.natAbs y.natAbs = 1) (a : ahd u v x y = false) (b : ahd x y u v = false) : u = x ∧ v = y := by
  unfold ahd at a b
  rcases up_or (nz_of g1) with ⟨p1, s1⟩ | ⟨p1, s1⟩ <;> rcases up_or (nz_of g2) with ⟨p2, s2⟩ | ⟨p2, s2⟩ <;> rw [s1, s2] at a <;> rw [s2, s1] at b
  · have a' : ¬ 0 < u * y - v * x := by simpa using a
    have b' : ¬ 0 < x * v - y * u := by simpa using b
    rw [Int.mul_comm x v, Int.mul_comm y u] at b'
    exact up_same p1 p2 g1 g2 (by omega)
  · simp at a
  · simp at b
  · have a' : ¬ 0 < u * y - v * x := by simpa using a
    have b' : ¬ 0 < x * v - y * u := by simpa using b
    rw [Int.mul_comm x v, Int.mul_comm y u] at b'
    have e : (-u) * (-y) = (-v) * (-x) := by rw [Int.neg_mul_neg, Int.neg_mul_neg]; omega
    have r := up_same p1 p2 (by rw [Int.natAbs_neg, Int.natAbs_neg]; exact g1) (by rw [Int.natAbs_neg, Int.natAbs_neg]; exact g2) e
    omega
end Rm
namespace Ad
abbrev P2 := Int × Int
def cr (p q : P2) : Int := p.1 * q.2 - p.2 * q.1
def IsD (p : P2) : Prop := Nat.gcd p.1.natAbs p.2.natAbs = 1
def lt (p q : P2) : Bool := Rm.ahd p.1 p.2 q.1 q.2
def ng (p : P2) : P2 := (-p.1, -p.2)
theorem lt_irr (p : P2) : lt p p = false := Rm.ahd_irr ..
theorem lt_trans {p q r : P2} (hp : IsD p) (hq : IsD q) (hr : IsD r) (a : lt p q = true) (b : lt q r = true) : lt p r = true := Rm.ahd_trans (Rm.nz_of hp) (Rm.nz_of hq) (Rm.nz_of hr) a b
theorem lt_asy {p q : P2} (hp : IsD p) (hq : IsD q) (a : lt p q = true) : lt q p = false := by
  cases h : lt q p with
  | false => rfl
  | true => have := lt_trans hp hq hp a h; rw [lt_irr] at this; cases this
theorem lt_tot {p q : P2} (hp : IsD p) (hq : IsD q) (ne : p ≠ q) (a : lt p q = false) : lt q p = true := by
  cases h : lt q p with
  | true => rfl
  | false => exact absurd (Prod.ext (Rm.ahd_total hp hq a h).1 (Rm.ahd_total hp hq a h).2) ne
theorem cr_swap (p q : P2) : cr q p = -cr p q := by
  unfold cr
  rw [Int.mul_comm q.1, Int.mul_comm q.2]
  omega
theorem cr_self (p : P2) : cr p p = 0 := by
  have := cr_swap p p
  omega
theorem cr_ng1 (p q : P2) : cr (ng p) q = -cr p q := by
  unfold cr ng
  show -p.1 * q.2 - -p.2 * q.1 = _
  rw [Int.neg_mul, Int.neg_mul]
  omega
theorem cr_ng2 (p q : P2) : cr p (ng q) = -cr p q := by
  rw [cr_swap, cr_ng1, cr_swap, Int.neg_neg]
theorem ng_ng (p : P2) : ng (ng p) = p := by
  unfold ng
  exact Prod.ext (by show - -p.1 = p.1; omega) (by show - -p.2 = p.2; omega)
theorem isD_ng {p : P2} (h : IsD p) : IsD (ng p) := by
  unfold IsD ng at *
  show Nat.gcd (-p.1).natAbs (-p.2).natAbs = 1
  rw [Int.natAbs_neg, Int.natAbs_neg]
  exact h
theorem ng_ne {p : P2} (h : IsD p) : ng p ≠ p := fun e => by
  have e1 : -p.1 = p.1 := congrArg Prod.fst e
  have e2 : -p.2 = p.2 := congrArg Prod.snd e
  rcases Rm.nz_of h with z | z <;> omega
/-- strictly between, in the round -/
def cy (s d t : P2) : Bool := (lt s d && lt d t) || (lt d t && lt t s) || (lt t s && lt s d)
def inA (s t d : P2) : Bool := if cr s t < 0 then decide (0 < cr s d) || decide (0 < cr d t) else decide (0 < cr s d) && decide (0 < cr d t)
def upP (p : P2) : Prop := Rm.up p.1 p.2
theorem halves {p : P2} (h : IsD p) : ∃ (a : P2) (k : Bool), IsD a ∧ upP a ∧ Rm.sec p.1 p.2 = k ∧ p = if k then ng a else a := by
  rcases Rm.up_or (Rm.nz_of h) with ⟨u, s⟩ | ⟨u, s⟩
  · exact ⟨p, false, h, u, s, rfl⟩
  · exact ⟨ng p, true, isD_ng h, u, s, by rw [if_pos rfl, ng_ng]⟩
theorem up_eq {a b : P2} (ha : IsD a) (hb : IsD b) (ua : upP a) (ub : upP b) (e : cr a b = 0) : a = b := by
  have := Rm.up_same ua ub ha hb (by unfold cr at e; omega)
  exact Prod.ext this.1 this.2
theorem up_tr {a b c : P2} (ua : upP a) (ub : upP b) (uc : upP c) (x : 0 < cr a b) (y : 0 < cr b c) : 0 < cr a c := Rm.up_trans ua ub uc x y
theorem lt_cr {p q : P2} {k l : Bool} (hk : Rm.sec p.1 p.2 = k) (hl : Rm.sec q.1 q.2 = l) : lt p q = if k = l then decide (0 < cr p q) else l := by
  unfold lt Rm.ahd cr
  rw [hk, hl]
  cases k <;> cases l <;> simp
theorem sec_up {a : P2} (u : upP a) : Rm.sec a.1 a.2 = false := by
  unfold upP Rm.up at u
  unfold Rm.sec
  rcases u with h | ⟨h, h'⟩ <;> simp <;> omega
theorem sec_dn {a : P2} (u : upP a) : Rm.sec (ng a).1 (ng a).2 = true := by
  unfold upP Rm.up at u
  unfold Rm.sec ng
  rcases u with h | ⟨h, h'⟩ <;> simp <;> omega
theorem sec_if {a : P2} (u : upP a) (k : Bool) : Rm.sec (if k then ng a else a).1 (if k then ng a else a).2 = k := by
  cases k
  · exact sec_up u
  · exact sec_dn u
/-- three of the upper half: their places tell all -/
theorem three {α β γ : Int} {k l m : Bool} (h : (α = 0 ∧ γ = β) ∨ (β = 0 ∧ γ = α) ∨ (γ = 0 ∧ β = -α) ∨ (α ≠ 0 ∧ β ≠ 0 ∧ γ ≠ 0 ∧ (0 < α → 0 < β → 0 < γ) ∧ (α < 0 → β < 0 → γ < 0))) (ne : k = m → γ ≠ 0)
    {a b c a' b' c' : Int} (ea : a = if k = l then α else -α) (eb : b = if l = m then β else -β) (ec : c = if k = m then γ else -γ) (eb' : b' = -b) (ea' : a' = -a) (ec' : c' = -c) :
    (if c < 0 then decide (0 < a) || decide (0 < b) else decide (0 < a) && decide (0 < b)) =
      (((if k = l then decide (0 < a) else l) && (if l = m then decide (0 < b) else m)) || ((if l = m then decide (0 < b) else m) && (if m = k then decide (0 < c') else k)) || ((if m = k then decide (0 < c') else k) && (if k = l then decide (0 < a) else l))) := by
  subst eb' ea' ec'
  cases k <;> cases l <;> cases m <;> simp at ea eb ec ne ⊢ <;> subst ea eb ec <;> (try split) <;> (try simp) <;> (first | done | omega | (rw [Bool.eq_iff_iff]; simp; omega))
theorem inA_cy {s d t : P2} (hs : IsD s) (hd : IsD d) (ht : IsD t) (ne : s ≠ t) : inA s t d = cy s d t := by
  obtain ⟨a, k, ha, ua, ka, rfl⟩ := halves hs
  obtain ⟨b, l, hb, ub, kb, rfl⟩ := halves hd
  obtain ⟨c, m, hc, uc, kc, rfl⟩ := halves ht
  unfold inA cy
  rw [lt_cr ka kb, lt_cr kb kc, lt_cr kc ka]
  have e : ∀ (x y : P2) (k l : Bool), cr (if k then ng x else x) (if l then ng y else y) = if k = l then cr x y else -cr x y := by
    intro x y k l
    cases k <;> cases l <;> simp [cr_ng1, cr_ng2]
  refine three (α := cr a b) (β := cr b c) (γ := cr a c) (a' := cr (if l then ng b else b) (if k then ng a else a)) (b' := cr (if m then ng c else c) (if l then ng b else b)) ?_ ?_ (e ..) (e ..) (e ..) (cr_swap ..) (cr_swap ..) (cr_swap ..)
  · by_cases e1 : a = b
    · subst e1; exact .inl ⟨cr_self a, rfl⟩
    · by_cases e2 : b = c
      · subst e2; exact .inr (.inl ⟨cr_self b, rfl⟩)
      · by_cases e3 : a = c
        · subst e3; exact .inr (.inr (.inl ⟨cr_self a, cr_swap ..⟩))
        · refine .inr (.inr (.inr ⟨fun z => e1 (up_eq ha hb ua ub z), fun z => e2 (up_eq hb hc ub uc z), fun z => e3 (up_eq ha hc ua uc z), fun x y => up_tr ua ub uc x y, fun x y => ?_⟩))
          have := up_tr (a := c) (b := b) (c := a) uc ub ua (by rw [cr_swap]; omega) (by rw [cr_swap]; omega)
          rw [cr_swap] at this
          omega
  · intro e1 z
    subst e1
    exact ne (by rw [up_eq ha hc ua uc z])
/-! ### a direction of a pair of numbers, and one between two -/
def gc (v : P2) : Nat := Nat.gcd v.1.natAbs v.2.natAbs
def red (v : P2) : P2 := (v.1.fdiv (gc v : Int), v.2.fdiv (gc v : Int))
theorem gc_pos {v : P2} (h : v ≠ (0, 0)) : 0 < gc v := by
  rcases Nat.eq_zero_or_pos (gc v) with e | e
  · exact absurd (Prod.ext (by have := Nat.eq_zero_of_gcd_eq_zero_left e; show v.1 = 0; omega) (by have := Nat.eq_zero_of_gcd_eq_zero_right e; show v.2 = 0; omega)) h
  · exact e
theorem red_mul {v : P2} (h : v ≠ (0, 0)) : v.1 = (gc v : Int) * (red v).1 ∧ v.2 = (gc v : Int) * (red v).2 := by
  have g0 := gc_pos h
  have d1 : (gc v : Int) ∣ v.1 := Int.ofNat_dvd_left.mpr (Nat.gcd_dvd_left ..)
  have d2 : (gc v : Int) ∣ v.2 := Int.ofNat_dvd_left.mpr (Nat.gcd_dvd_right ..)
  exact ⟨(Int.mul_fdiv_cancel' d1).symm, (Int.mul_fdiv_cancel' d2).symm⟩
theorem red_isD {v : P2} (h : v ≠ (0, 0)) : IsD (red v) := by
  have g0 := gc_pos h
  obtain ⟨e1, e2⟩ := red_mul h
  have a1 : v.1.natAbs = gc v * (red v).1.natAbs := by
    have := congrArg Int.natAbs e1
    rw [Int.natAbs_mul] at this
    exact this
  have a2 : v.2.natAbs = gc v * (red v).2.natAbs := by
    have := congrArg Int.natAbs e2
    rw [Int.natAbs_mul] at this
    exact this
  have e : gc v = gc v * Nat.gcd (red v).1.natAbs (red v).2.natAbs := by
    rw [← Nat.gcd_mul_left, ← a1, ← a2]
    rfl
  show Nat.gcd (red v).1.natAbs (red v).2.natAbs = 1
  exact Nat.eq_of_mul_eq_mul_left g0 (by rw [← e, Nat.mul_one])
theorem cr_red {v : P2} (h : v ≠ (0, 0)) (p : P2) : cr p v = (gc v : Int) * cr p (red v) := by
  obtain ⟨e1, e2⟩ := red_mul h
  unfold cr
  rw [Int.mul_sub, ← Int.mul_assoc, ← Int.mul_assoc, Int.mul_comm (gc v : Int) p.1, Int.mul_comm (gc v : Int) p.2, Int.mul_assoc, Int.mul_assoc, ← e1, ← e2]
theorem red_pos {v : P2} (h : v ≠ (0, 0)) (p : P2) : 0 < cr p (red v) ↔ 0 < cr p v := by
  have g0 : (0 : Int) < (gc v : Int) := by have := gc_pos h; omega
  rw [cr_red h]
  exact ⟨fun z => Int.mul_pos g0 z, fun z => Int.pos_of_mul_pos_left (by rw [Int.mul_comm] at z; exact z) g0⟩
theorem red_le {v : P2} {b : Int} (h : v ≠ (0, 0)) (h1 : -b ≤ v.1 ∧ v.1 ≤ b) (h2 : -b ≤ v.2 ∧ v.2 ≤ b) : (-b ≤ (red v).1 ∧ (red v).1 ≤ b) ∧ (-b ≤ (red v).2 ∧ (red v).2 ≤ b) := by
  obtain ⟨e1, e2⟩ := red_mul h
  have g0 := gc_pos h
  have key : ∀ x y : Int, -b ≤ x ∧ x ≤ b → x = (gc v : Int) * y → -b ≤ y ∧ y ≤ b := by
    intro x y hx e
    have n1 : x.natAbs = gc v * y.natAbs := by
      have := congrArg Int.natAbs e
      rw [Int.natAbs_mul] at this
      exact this
    have n2 : y.natAbs ≤ x.natAbs := by
      rw [n1]
      exact Nat.le_mul_of_pos_left _ g0
    omega
  exact ⟨key _ _ h1 e1, key _ _ h2 e2⟩
def sm (p q : P2) : P2 := (p.1 + q.1, p.2 + q.2)
theorem cr_sm (p q r : P2) : cr p (sm q r) = cr p q + cr p r := by
  unfold cr sm
  show p.1 * (q.2 + r.2) - p.2 * (q.1 + r.1) = _
  rw [Int.mul_add, Int.mul_add]
  omega
theorem sm_nz {d e : P2} (h : cr d e ≠ 0) : sm d e ≠ (0, 0) := fun z => by
  have := cr_sm d d e
  rw [z, cr_self] at this
  unfold cr at this h
  simp at this
  omega
theorem ng_nz {v : P2} (h : v ≠ (0, 0)) : ng v ≠ (0, 0) := fun z => h (by rw [← ng_ng v, z]; rfl)
def mid (d e : P2) : P2 := if 0 < cr d e then red (sm d e) else if cr d e < 0 then red (ng (sm d e)) else if d = e then ng d else (-d.2, d.1)
theorem sq_pos {d : P2} (h : IsD d) : 0 < d.1 * d.1 + d.2 * d.2 := by
  have q1 : 0 ≤ d.1 * d.1 := by rw [← Int.natAbs_mul_self' d.1]; exact Int.mul_nonneg (by omega) (by omega)
  have q2 : 0 ≤ d.2 * d.2 := by rw [← Int.natAbs_mul_self' d.2]; exact Int.mul_nonneg (by omega) (by omega)
  rcases Rm.nz_of h with z | z
  · have : 0 < d.1 * d.1 := by rw [← Int.natAbs_mul_self' d.1]; exact Int.mul_pos (by omega) (by omega)
    omega
  · have : 0 < d.2 * d.2 := by rw [← Int.natAbs_mul_self' d.2]; exact Int.mul_pos (by omega) (by omega)
    omega
theorem opp {d e : P2} (hd : IsD d) (he : IsD e) (h : cr d e = 0) : d = e ∨ e = ng d := by
  obtain ⟨a, k, ha, ua, ka, rfl⟩ := halves hd
  obtain ⟨b, l, hb, ub, kb, rfl⟩ := halves he
  have e0 : cr a b = 0 := by
    revert h
    cases k <;> cases l <;> simp [cr_ng1, cr_ng2]
  have := up_eq ha hb ua ub e0
  subst this
  cases k <;> cases l <;> simp [ng_ng]
theorem mid_isD {d e : P2} (hd : IsD d) : IsD (mid d e) := by
  unfold mid
  split
  · rename_i h; exact red_isD (sm_nz (by omega))
  · split
    · rename_i h; exact red_isD (ng_nz (sm_nz (by omega)))
    · split
      · exact isD_ng hd
      · unfold IsD
        show Nat.gcd (-d.2).natAbs d.1.natAbs = 1
        rw [Int.natAbs_neg, Nat.gcd_comm]
        exact hd
theorem mid_in {d e : P2} (hd : IsD d) (he : IsD e) (ne : d ≠ e) : inA d e (mid d e) = true := by
  unfold inA mid
  by_cases h1 : 0 < cr d e
  · rw [if_pos h1, if_neg (by omega)]
    have z := sm_nz (d := d) (e := e) (by omega)
    have a : 0 < cr d (red (sm d e)) := (red_pos z d).mpr (by rw [cr_sm, cr_self]; omega)
    have b : 0 < cr (ng e) (red (sm d e)) := (red_pos z (ng e)).mpr (by rw [cr_sm, cr_ng1, cr_ng1, cr_self, cr_swap]; omega)
    rw [cr_ng1, cr_swap] at b
    simp; omega
  · rw [if_neg h1]
    by_cases h2 : cr d e < 0
    · rw [if_pos h2, if_pos h2]
      have z := ng_nz (sm_nz (d := d) (e := e) (by omega))
      have a : 0 < cr d (red (ng (sm d e))) := (red_pos z d).mpr (by rw [cr_ng2, cr_sm, cr_self]; omega)
      simp; omega
    · rw [if_neg h2, if_neg h2, if_neg ne]
      rcases opp hd he (by omega) with z | z
      · exact absurd z ne
      · subst z
        have s := sq_pos hd
        have a : cr d (-d.2, d.1) = d.1 * d.1 + d.2 * d.2 := by
          unfold cr
          show d.1 * d.1 - d.2 * -d.2 = _
          rw [Int.mul_neg]
          omega
        rw [cr_ng2, cr_swap d (-d.2, d.1), a]
        simp; omega
/-! ### marks in their round, and one between each two neighbours: by their places -/
def cyN (a b c : Nat) : Bool := (decide (a < b) && decide (b < c)) || (decide (b < c) && decide (c < a)) || (decide (c < a) && decide (a < b))
def code (n p : Nat) : Nat := if p < n then 2 * p else 2 * (p - n) + 1
structure Marks (n : Nat) (m : Nat → P2) : Prop where
  d : ∀ i, i < n → IsD (m i)
  asc : ∀ i j, i < j → j < n → lt (m i) (m j) = true
def md (n : Nat) (m : Nat → P2) (k : Nat) : P2 := mid (m k) (m ((k + 1) % n))
def tst (n : Nat) (m : Nat → P2) (p : Nat) : P2 := if p < n then m p else md n m (p - n)
section
variable {n : Nat} {m : Nat → P2}
theorem Marks.at (M : Marks n m) {i j : Nat} (hi : i < n) (hj : j < n) : Ad.lt (m i) (m j) = decide (i < j) := by
  rcases Nat.lt_trichotomy i j with h | h | h
  · rw [M.asc i j h hj, decide_eq_true h]
  · subst h; rw [lt_irr, decide_eq_false (by omega)]
  · rw [lt_asy (M.d j hj) (M.d i hi) (M.asc j i h hi), decide_eq_false (by omega)]
theorem Marks.mdD (M : Marks n m) {k : Nat} (hk : k < n) : IsD (md n m k) := mid_isD (M.d k hk)
theorem Marks.place (M : Marks n m) {k : Nat} (hk : k < n) : ∃ c : Int, (c = 2 * k + 1 ∨ (k + 1 = n ∧ c = -1)) ∧ ∀ i, i < n → Ad.lt (m i) (md n m k) = decide ((2 * i : Int) < c) ∧ Ad.lt (md n m k) (m i) = decide (c < (2 * i : Int)) := by
  have hx := M.mdD hk
  have up : ∀ i, i < n → Ad.lt (m i) (md n m k) = true → ∀ j, j ≤ i → Ad.lt (m j) (md n m k) = true ∧ Ad.lt (md n m k) (m j) = false := by
    intro i hi h j hj
    have a : Ad.lt (m j) (md n m k) = true := by
      rcases Nat.lt_or_ge j i with z | z
      · exact lt_trans (M.d j (by omega)) (M.d i hi) hx (M.asc j i z hi) h
      · have : j = i := by omega
        subst this; exact h
    exact ⟨a, lt_asy (M.d j (by omega)) hx a⟩
  have dn : ∀ i, i < n → Ad.lt (md n m k) (m i) = true → ∀ j, i ≤ j → j < n → Ad.lt (md n m k) (m j) = true ∧ Ad.lt (m j) (md n m k) = false := by
    intro i hi h j hj hjn
    have a : Ad.lt (md n m k) (m j) = true := by
      rcases Nat.lt_or_ge i j with z | z
      · exact lt_trans hx (M.d i hi) (M.d j hjn) h (M.asc i j z hjn)
      · have : j = i := by omega
        subst this; exact h
    exact ⟨a, lt_asy hx (M.d j hjn) a⟩
  by_cases h1 : n = 1
  · have hk0 : k = 0 := by omega
    subst hk0
    have e : md n m 0 = ng (m 0) := by
      unfold md mid
      rw [h1]
      show (if 0 < cr (m 0) (m 0) then _ else _) = _
      rw [cr_self, if_neg (by decide), if_neg (by decide), if_pos rfl]
    have ne : m 0 ≠ md n m 0 := by rw [e]; exact fun z => ng_ne (M.d 0 hk) z.symm
    cases q : Ad.lt (m 0) (md n m 0) with
    | true => exact ⟨1, .inl rfl, fun i hi => by
        have : i = 0 := by omega
        subst this
        obtain ⟨a, b⟩ := up 0 hk q 0 (Nat.le_refl 0)
        exact ⟨by rw [a]; rfl, by rw [b]; rfl⟩⟩
    | false => exact ⟨-1, .inr ⟨by omega, rfl⟩, fun i hi => by
        have : i = 0 := by omega
        subst this
        obtain ⟨a, b⟩ := dn 0 hk (lt_tot (M.d 0 hk) hx ne q) 0 (Nat.le_refl 0) hk
        exact ⟨by rw [b]; rfl, by rw [a]; rfl⟩⟩
  · have hk' : (k + 1) % n < n := Nat.mod_lt _ (by omega)
    have kne : k ≠ (k + 1) % n := by
      rcases Nat.lt_or_ge (k + 1) n with z | z
      · rw [Nat.mod_eq_of_lt z]; omega
      · have : k + 1 = n := by omega
        rw [this, Nat.mod_self]; omega
    have ne : m k ≠ m ((k + 1) % n) := fun z => by
      have a := M.at hk hk'
      have b := M.at hk' hk
      rw [← z, lt_irr] at a b
      have := of_decide_eq_false a.symm
      have := of_decide_eq_false b.symm
      omega
    have c : inA (m k) (m ((k + 1) % n)) (md n m k) = true := mid_in (M.d k hk) (M.d _ hk') ne
    rw [inA_cy (M.d k hk) hx (M.d _ hk') ne] at c
    unfold cy at c
    rw [M.at hk' hk] at c
    rcases Nat.lt_or_ge (k + 1) n with z | z
    · rw [Nat.mod_eq_of_lt z, decide_eq_false (by omega)] at c
      simp at c
      obtain ⟨c1, c2⟩ := c
      refine ⟨2 * k + 1, .inl rfl, fun i hi => ?_⟩
      rcases Nat.lt_or_ge k i with y | y
      · obtain ⟨a, b⟩ := dn (k + 1) z c2 i (by omega) hi
        exact ⟨by rw [b, decide_eq_false (by omega)], by rw [a, decide_eq_true (by omega)]⟩
      · obtain ⟨a, b⟩ := up k hk c1 i y
        exact ⟨by rw [a, decide_eq_true (by omega)], by rw [b, decide_eq_false (by omega)]⟩
    · have hn : k + 1 = n := by omega
      rw [hn, Nat.mod_self, decide_eq_true (by omega)] at c
      cases q : Ad.lt (m k) (md n m k) with
      | true =>
        refine ⟨2 * k + 1, .inl rfl, fun i hi => ?_⟩
        obtain ⟨a, b⟩ := up k hk q i (by omega)
        exact ⟨by rw [a, decide_eq_true (by omega)], by rw [b, decide_eq_false (by omega)]⟩
      | false =>
        rw [q] at c
        simp at c
        refine ⟨-1, .inr ⟨hn, rfl⟩, fun i hi => ?_⟩
        obtain ⟨a, b⟩ := dn 0 (by omega) c i (Nat.zero_le _) hi
        exact ⟨by rw [b, decide_eq_false (by omega)], by rw [a, decide_eq_true (by omega)]⟩
theorem Marks.inj (M : Marks n m) {i p : Nat} (hi : i < n) (hp : p < 2 * n) : tst n m p = m i ↔ p = i := by
  unfold tst
  constructor
  · intro e
    split at e
    · rename_i h
      have a := M.at h hi
      have b := M.at hi h
      rw [e, lt_irr] at a b
      have := of_decide_eq_false a.symm
      have := of_decide_eq_false b.symm
      omega
    · obtain ⟨c, hc, hh⟩ := M.place (k := p - n) (by omega)
      obtain ⟨a, b⟩ := hh i hi
      rw [e, lt_irr] at a b
      have := of_decide_eq_false a.symm
      have := of_decide_eq_false b.symm
      omega
  · intro e
    subst e
    rw [if_pos hi]
theorem Marks.cyc (M : Marks n m) {i j p : Nat} (hi : i < n) (hj : j < n) (ne : i ≠ j) (hp : p < 2 * n) : inA (m i) (m j) (tst n m p) = cyN (2 * i) (code n p) (2 * j) := by
  have mne : m i ≠ m j := fun z => by
    have := (M.inj hj (p := i) (by omega)).mp (by unfold tst; rw [if_pos hi]; exact z)
    exact ne this
  unfold tst code
  split
  · rename_i h
    rw [inA_cy (M.d i hi) (M.d p h) (M.d j hj) mne]
    unfold cy cyN
    rw [M.at hi h, M.at h hj, M.at hj hi, Bool.eq_iff_iff]
    simp
  · have hk : p - n < n := by omega
    rw [inA_cy (M.d i hi) (M.mdD hk) (M.d j hj) mne]
    obtain ⟨c, hc, hh⟩ := M.place hk
    obtain ⟨a1, b1⟩ := hh i hi
    obtain ⟨a2, b2⟩ := hh j hj
    unfold cy cyN
    rw [a1, b2, M.at hj hi, Bool.eq_iff_iff]
    simp
    omega
end
/-! ### spans, by whatever tells what is strictly within: told once, read of directions and of places -/
section
variable {α β : Type} [DecidableEq α] [DecidableEq β]
def betG (a b : α) : List α := if a = b then [a] else [a, b]
def endG (I : List α → α → Bool) (sps : List (List α)) (e : Option α) : Option α := match e with
  | some a => if sps.any (I · a) then none else some a
  | none => none
def stG (I : List α → α → Bool) (sps : List (List α)) : List α := sps.filterMap fun sp => endG I sps sp.head?
def spG (I : List α → α → Bool) (sps : List (List α)) : List α := sps.filterMap fun sp => endG I sps sp.getLast?
def joG (I : List α → α → Bool) (sps : List (List α)) : List α := match stG I sps, spG I sps with
  | a :: _, b :: _ => betG a b
  | _, _ => []
def meG (I : List α → α → Bool) (s t : List α) : Bool := match s, t with
  | a :: b :: s', c :: d :: t' => decide (a = c) || I (a :: b :: s') c || I (c :: d :: t') a
  | _, _ => true
/-- the same of other things -/
structure Like (I : List α → α → Bool) (J : List β → β → Bool) (φ : α → β) (sps : List (List α)) : Prop where
  inj : ∀ s ∈ sps, ∀ a ∈ s, ∀ t ∈ sps, ∀ b ∈ t, φ a = φ b → a = b
  same : ∀ s ∈ sps, ∀ t ∈ sps, ∀ a ∈ t, J (s.map φ) (φ a) = I s a
variable {I : List α → α → Bool} {J : List β → β → Bool} {φ : α → β} {sps : List (List α)}
theorem Like.endG (L : Like I J φ sps) {s : List α} (hs : s ∈ sps) {e : Option α} (he : ∀ a, e = some a → a ∈ s) : Ad.endG J (sps.map (List.map φ)) (e.map φ) = (Ad.endG I sps e).map φ := by
  cases e with
  | none => rfl
  | some a =>
    show (if (sps.map (List.map φ)).any (J · (φ a)) then none else some (φ a)) = (if sps.any (I · a) then none else some a).map φ
    have : (sps.map (List.map φ)).any (J · (φ a)) = sps.any (I · a) := by
      rw [List.any_map, Bool.eq_iff_iff, List.any_eq_true, List.any_eq_true]
      constructor
      · rintro ⟨x, hx, h⟩; exact ⟨x, hx, by rw [← L.same x hx s hs a (he a rfl)]; exact h⟩
      · rintro ⟨x, hx, h⟩; exact ⟨x, hx, by show J (x.map φ) (φ a) = true; rw [L.same x hx s hs a (he a rfl)]; exact h⟩
    rw [this]
    split <;> rfl
theorem fm_map {γ : Type} {f : List β → Option β} {g : List α → Option α} : ∀ {l : List (List α)}, (∀ s ∈ l, f (s.map φ) = (g s).map φ) → (l.map (List.map φ)).filterMap f = (l.filterMap g).map φ
  | [], _ => rfl
  | s :: l, h => by
    rw [List.map_cons, List.filterMap_cons, List.filterMap_cons, h s List.mem_cons_self, fm_map (γ := γ) fun t ht => h t (List.mem_cons_of_mem _ ht)]
    cases g s <;> rfl
theorem Like.st (L : Like I J φ sps) : stG J (sps.map (List.map φ)) = (stG I sps).map φ := by
  unfold stG
  refine fm_map (γ := Unit) fun s hs => ?_
  rw [List.head?_map]
  exact L.endG hs fun a e => List.mem_of_head? e
theorem Like.sp (L : Like I J φ sps) : spG J (sps.map (List.map φ)) = (spG I sps).map φ := by
  unfold spG
  refine fm_map (γ := Unit) fun s hs => ?_
  rw [List.getLast?_map]
  exact L.endG hs fun a e => List.mem_of_getLast? e
theorem st_mem {a : α} (h : a ∈ stG I sps) : ∃ s ∈ sps, a ∈ s := by
  obtain ⟨s, hs, e⟩ := List.mem_filterMap.mp h
  refine ⟨s, hs, ?_⟩
  cases q : s.head? with
  | none => rw [q] at e; cases e
  | some b =>
    rw [q] at e
    have : b = a := by
      unfold Ad.endG at e
      dsimp only at e
      split at e
      · cases e
      · exact Option.some.inj e
    exact this ▸ List.mem_of_head? q
theorem sp_mem {a : α} (h : a ∈ spG I sps) : ∃ s ∈ sps, a ∈ s := by
  obtain ⟨s, hs, e⟩ := List.mem_filterMap.mp h
  refine ⟨s, hs, ?_⟩
  cases q : s.getLast? with
  | none => rw [q] at e; cases e
  | some b =>
    rw [q] at e
    have : b = a := by
      unfold Ad.endG at e
      dsimp only at e
      split at e
      · cases e
      · exact Option.some.inj e
    exact this ▸ List.mem_of_getLast? q
theorem Like.jo (L : Like I J φ sps) : joG J (sps.map (List.map φ)) = (joG I sps).map φ := by
  unfold joG
  rw [L.st, L.sp]
  cases e1 : stG I sps with
  | nil => rfl
  | cons a r =>
    cases e2 : spG I sps with
    | nil => rfl
    | cons b r' =>
      show betG (φ a) (φ b) = (betG a b).map φ
      unfold betG
      obtain ⟨s, hs, ha⟩ := st_mem (I := I) (sps := sps) (a := a) (by rw [e1]; exact List.mem_cons_self)
      obtain ⟨t, ht, hb⟩ := sp_mem (I := I) (sps := sps) (a := b) (by rw [e2]; exact List.mem_cons_self)
      by_cases e : a = b
      · rw [if_pos e, if_pos (by rw [e])]; rfl
      · rw [if_neg e, if_neg fun z => e (L.inj s hs a ha t ht b hb z)]; rfl
theorem Like.me {s t : List α} (L : Like I J φ [s, t]) : meG J (s.map φ) (t.map φ) = meG I s t := by
  have hs : s ∈ [s, t] := List.mem_cons_self
  have ht : t ∈ [s, t] := List.mem_cons_of_mem _ List.mem_cons_self
  match s, t with
  | [], _ => cases t <;> rfl
  | [_], _ => cases t <;> rfl
  | _ :: _ :: _, [] => rfl
  | _ :: _ :: _, [_] => rfl
  | a :: b :: s', c :: d :: t' =>
    show (decide (φ a = φ c) || J ((a :: b :: s').map φ) (φ c) || J ((c :: d :: t').map φ) (φ a)) = (decide (a = c) || I (a :: b :: s') c || I (c :: d :: t') a)
    rw [L.same _ hs _ ht c List.mem_cons_self, L.same _ ht _ hs a List.mem_cons_self]
    have : decide (φ a = φ c) = decide (a = c) := by
      by_cases e : a = c
      · rw [decide_eq_true e, decide_eq_true (by rw [e])]
      · rw [decide_eq_false e, decide_eq_false fun z => e (L.inj _ hs a List.mem_cons_self _ ht c List.mem_cons_self z)]
    rw [this]
theorem Like.eq {s t : List α} (L : Like I J φ sps) (hs : ∀ a ∈ s, ∃ u ∈ sps, a ∈ u) (ht : ∀ a ∈ t, ∃ u ∈ sps, a ∈ u) : s.map φ = t.map φ ↔ s = t := by
  constructor
  · intro e
    induction s generalizing t with
    | nil => cases t with
      | nil => rfl
      | cons => cases e
    | cons a s ih =>
      cases t with
      | nil => cases e
      | cons b t =>
        obtain ⟨u, hu, ha⟩ := hs a List.mem_cons_self
        obtain ⟨v, hv, hb⟩ := ht b List.mem_cons_self
        have e1 := List.cons.inj e
        rw [L.inj u hu a ha v hv b hb e1.1, ih (fun x hx => hs x (List.mem_cons_of_mem _ hx)) (fun x hx => ht x (List.mem_cons_of_mem _ hx)) e1.2]
  · rintro rfl; rfl
end
/-! ### the places of at most four marks: all of it -/
def inN (n : Nat) (sp : List Nat) (p : Nat) : Bool := match sp with
  | [i, j] => cyN (2 * i) (code n p) (2 * j)
  | sp => !decide (p ∈ sp)
abbrev En := Option (Nat × Nat)
def spN : En → List Nat
  | none => []
  | some (i, j) => betG i j
def allE (n : Nat) : List En := none :: (List.range n).flatMap fun i => (List.range n).map fun j => some (i, j)
def chk (n : Nat) (s t : List Nat) : Bool :=
  let I := inN n
  let me := meG I s t
  let jo := joG I [s, t]
  let ps := List.range (2 * n)
  ((ps.any fun p => I s p && I t p) == me) && ((!me || (ps.all fun p => I jo p == (I s p || I t p)) && ((stG I [s, t]).isEmpty || !(spG I [s, t]).isEmpty) && (meG I t s && (joG I [t, s] == jo))) && ((me && jo == s) == ps.all fun p => I s p || !I t p))
theorem chk_all : ((List.range 5).all fun n => n == 0 || (allE n).all fun e => (allE n).all fun e' => chk n (spN e) (spN e')) = true := by decide +kernel
def inP (sp : List P2) (d : P2) : Bool := match sp with
  | [s, t] => inA s t d
  | sp => !decide (d ∈ sp)
theorem allE_ex {n : Nat} {e : En} (h : e ∈ allE n) : e = none ∨ ∃ i j, i < n ∧ j < n ∧ e = some (i, j) := by
  rcases List.mem_cons.mp h with h | h
  · exact .inl h
  · obtain ⟨i, hi, h⟩ := List.mem_flatMap.mp h
    obtain ⟨j, hj, h⟩ := List.mem_map.mp h
    exact .inr ⟨i, j, List.mem_range.mp hi, List.mem_range.mp hj, h.symm⟩
theorem allE_of {n i j : Nat} (hi : i < n) (hj : j < n) : some (i, j) ∈ allE n :=
  List.mem_cons_of_mem _ (List.mem_flatMap.mpr ⟨i, List.mem_range.mpr hi, List.mem_map.mpr ⟨j, List.mem_range.mpr hj, rfl⟩⟩)
theorem spN_lt {n : Nat} {e : En} (h : e ∈ allE n) {a : Nat} (ha : a ∈ spN e) : a < n := by
  rcases allE_ex h with rfl | ⟨i, j, hi, hj, rfl⟩
  · cases ha
  · have : a ∈ betG i j := ha
    unfold betG at this
    split at this <;> simp at this
    · omega
    · rcases this with rfl | rfl <;> assumption
theorem jo_mem {α : Type} [DecidableEq α] {I : List α → α → Bool} {sps : List (List α)} {a : α} (h : a ∈ joG I sps) : ∃ s ∈ sps, a ∈ s := by
  unfold joG at h
  split at h
  · rename_i x _ y _ e1 e2
    have hx := st_mem (I := I) (sps := sps) (a := x) (by rw [e1]; exact List.mem_cons_self)
    have hy := sp_mem (I := I) (sps := sps) (a := y) (by rw [e2]; exact List.mem_cons_self)
    unfold betG at h
    split at h <;> simp at h
    · rw [h]; exact hx
    · rcases h with rfl | rfl
      · exact hx
      · exact hy
  · cases h
theorem jo_form {α : Type} [DecidableEq α] {I : List α → α → Bool} {sps : List (List α)} : joG I sps = [] ∨ ∃ a b, joG I sps = betG a b := by
  unfold joG
  split
  · exact .inr ⟨_, _, rfl⟩
  · exact .inl rfl
theorem jo_en {n : Nat} {I : List Nat → Nat → Bool} {e e' : En} (h : e ∈ allE n) (h' : e' ∈ allE n) : ∃ u ∈ allE n, joG I [spN e, spN e'] = spN u := by
  have mem : ∀ a ∈ joG I [spN e, spN e'], a < n := fun a ha => by
    obtain ⟨s, hs, h2⟩ := jo_mem ha
    simp at hs
    rcases hs with rfl | rfl
    · exact spN_lt h h2
    · exact spN_lt h' h2
  rcases jo_form (I := I) (sps := [spN e, spN e']) with q | ⟨a, b, q⟩
  · exact ⟨none, List.mem_cons_self, q⟩
  · rw [q] at mem
    have ab : a < n ∧ b < n := by
      unfold betG at mem
      split at mem
      · rename_i z; subst z; have := mem a (by simp); omega
      · exact ⟨mem a (by simp), mem b (by simp)⟩
    exact ⟨some (a, b), allE_of ab.1 ab.2, q⟩
section
variable {n : Nat} {m : Nat → P2}
theorem Marks.inP (M : Marks n m) {e : En} (h : e ∈ allE n) {p : Nat} (hp : p < 2 * n) : Ad.inP ((spN e).map (tst n m)) (tst n m p) = inN n (spN e) p := by
  rcases allE_ex h with rfl | ⟨i, j, hi, hj, rfl⟩
  · rfl
  · have ti : tst n m i = m i := if_pos hi
    have tj : tst n m j = m j := if_pos hj
    show Ad.inP ((betG i j).map (tst n m)) (tst n m p) = inN n (betG i j) p
    unfold betG
    by_cases e : i = j
    · rw [if_pos e]
      show (!decide (tst n m p ∈ [tst n m i])) = !decide (p ∈ [i])
      rw [ti]
      congr 1
      rw [Bool.eq_iff_iff]
      simp [M.inj hi hp]
    · rw [if_neg e]
      show inA (tst n m i) (tst n m j) (tst n m p) = cyN (2 * i) (code n p) (2 * j)
      rw [ti, tj]
      exact M.cyc hi hj e hp
theorem Marks.like (M : Marks n m) {e e' : En} (h : e ∈ allE n) (h' : e' ∈ allE n) : Like (inN n) Ad.inP (tst n m) [spN e, spN e'] := by
  have lt : ∀ s ∈ [spN e, spN e'], ∀ a ∈ s, a < n := fun s hs a ha => by
    simp at hs
    rcases hs with rfl | rfl
    · exact spN_lt h ha
    · exact spN_lt h' ha
  refine ⟨fun s hs a ha t ht b hb z => ?_, fun s hs t ht a ha => ?_⟩
  · have la := lt s hs a ha
    have lb := lt t ht b hb
    rw [show tst n m b = m b from if_pos lb] at z
    exact (M.inj lb (by omega)).mp z
  · have la := lt t ht a ha
    simp at hs
    rcases hs with rfl | rfl
    · exact M.inP h (by omega)
    · exact M.inP h' (by omega)
/-- what the round tells of two spans and of these tests -/
structure Fx (S T ts : List P2) : Prop where
  any : (ts.any fun d => Ad.inP S d && Ad.inP T d) = meG Ad.inP S T
  sym : meG Ad.inP T S = meG Ad.inP S T
  jo : meG Ad.inP S T = true → (∀ d ∈ ts, Ad.inP (joG Ad.inP [S, T]) d = (Ad.inP S d || Ad.inP T d)) ∧ (stG Ad.inP [S, T] ≠ [] → spG Ad.inP [S, T] ≠ []) ∧ joG Ad.inP [T, S] = joG Ad.inP [S, T]
  cov : (meG Ad.inP S T && decide (joG Ad.inP [S, T] = S)) = ts.all fun d => Ad.inP S d || !Ad.inP T d
theorem Marks.fx (M : Marks n m) (h0 : 0 < n) (h4 : n ≤ 4) {e e' : En} (h : e ∈ allE n) (h' : e' ∈ allE n) : Fx ((spN e).map (tst n m)) ((spN e').map (tst n m)) ((List.range (2 * n)).map (tst n m)) := by
  have c : chk n (spN e) (spN e') = true := by
    have q := List.all_eq_true.mp chk_all n (List.mem_range.mpr (by omega))
    have z : (n == 0) = false := by simp; omega
    rw [z, Bool.false_or] at q
    exact List.all_eq_true.mp (List.all_eq_true.mp q e h) e' h'
  have L := M.like h h'
  have L' := M.like h' h
  obtain ⟨u, hu, ju⟩ := jo_en (I := inN n) h h'
  have jo : joG Ad.inP [(spN e).map (tst n m), (spN e').map (tst n m)] = (joG (inN n) [spN e, spN e']).map (tst n m) := L.jo
  have jo' : joG Ad.inP [(spN e').map (tst n m), (spN e).map (tst n m)] = (joG (inN n) [spN e', spN e]).map (tst n m) := L'.jo
  have st : stG Ad.inP [(spN e).map (tst n m), (spN e').map (tst n m)] = (stG (inN n) [spN e, spN e']).map (tst n m) := L.st
  have sp : spG Ad.inP [(spN e).map (tst n m), (spN e').map (tst n m)] = (spG (inN n) [spN e, spN e']).map (tst n m) := L.sp
  unfold chk at c
  simp only [Bool.and_eq_true, Bool.or_eq_true, Bool.not_eq_true', beq_iff_eq, List.isEmpty_iff] at c
  obtain ⟨c1, c2, c3⟩ := c
  refine ⟨?_, ?_, fun hm => ?_, ?_⟩
  · rw [L.me, ← c1, List.any_map]
    rw [Bool.eq_iff_iff, List.any_eq_true, List.any_eq_true]
    constructor
    · rintro ⟨p, hp, q⟩
      have := List.mem_range.mp hp
      refine ⟨p, hp, ?_⟩
      rw [← M.inP h this, ← M.inP h' this]
      exact q
    · rintro ⟨p, hp, q⟩
      have := List.mem_range.mp hp
      refine ⟨p, hp, ?_⟩
      show (Ad.inP _ (tst n m p) && Ad.inP _ (tst n m p)) = true
      rw [M.inP h this, M.inP h' this]
      exact q
  · rw [L.me, L'.me]
    cases q : meG (inN n) (spN e) (spN e') with
    | false =>
      cases q2 : meG (inN n) (spN e') (spN e) with
      | false => rfl
      | true =>
        exfalso
        have c' : chk n (spN e') (spN e) = true := by
          have q := List.all_eq_true.mp chk_all n (List.mem_range.mpr (by omega))
          have z : (n == 0) = false := by simp; omega
          rw [z, Bool.false_or] at q
          exact List.all_eq_true.mp (List.all_eq_true.mp q e' h') e h
        unfold chk at c'
        simp only [Bool.and_eq_true, Bool.or_eq_true, Bool.not_eq_true', beq_iff_eq, List.isEmpty_iff] at c'
        rcases c'.2.1 with z | z
        · exact Bool.noConfusion (q2.symm.trans z)
        · exact Bool.noConfusion (q.symm.trans z.2.1)
    | true =>
      rcases c2 with z | z
      · exact Bool.noConfusion (q.symm.trans z)
      · exact z.2.1
  · rw [L.me] at hm
    rcases c2 with z | ⟨⟨z1, z2⟩, z3, z4⟩
    · exact Bool.noConfusion (hm.symm.trans z)
    refine ⟨fun d hd => ?_, fun ne => ?_, ?_⟩
    · obtain ⟨p, hp, rfl⟩ := List.mem_map.mp hd
      have lp := List.mem_range.mp hp
      have := List.all_eq_true.mp z1 p hp
      rw [beq_iff_eq] at this
      rw [jo, ju, M.inP hu lp, M.inP h lp, M.inP h' lp, ← this, ju]
    · rw [sp]
      rw [st] at ne
      rcases z2 with y | y
      · rw [y] at ne; exact absurd rfl ne
      · intro y2
        rw [List.map_eq_nil_iff] at y2
        rw [y2] at y
        cases y
    · rw [jo, jo', z4]
  · rw [L.me, jo, List.all_map]
    have e1 : decide ((joG (inN n) [spN e, spN e']).map (tst n m) = (spN e).map (tst n m)) = (joG (inN n) [spN e, spN e'] == spN e) := by
      rw [Bool.eq_iff_iff, decide_eq_true_eq, beq_iff_eq]
      exact L.eq (fun a ha => jo_mem ha) fun a ha => ⟨_, List.mem_cons_self, ha⟩
    rw [e1]
    refine c3.trans ?_
    rw [Bool.eq_iff_iff, List.all_eq_true, List.all_eq_true]
    constructor
    · intro q p hp
      have lp := List.mem_range.mp hp
      show (Ad.inP _ (tst n m p) || !Ad.inP _ (tst n m p)) = true
      rw [M.inP h lp, M.inP h' lp]
      exact q p hp
    · intro q p hp
      have lp := List.mem_range.mp hp
      have := q p hp
      show (inN n (spN e) p || !inN n (spN e') p) = true
      rw [← M.inP h lp, ← M.inP h' lp]
      exact this
end
/-- turned by half -/
theorem like_ng {sps : List (List P2)} : Like inP inP ng sps := by
  have inj : ∀ a b : P2, ng a = ng b → a = b := fun a b e => by rw [← ng_ng a, e, ng_ng]
  refine ⟨fun _ _ a _ _ _ b _ => inj a b, fun s _ _ _ a _ => ?_⟩
  match s with
  | [] => rfl
  | [x] =>
    show (!decide (ng a ∈ [ng x])) = !decide (a ∈ [x])
    congr 1
    rw [Bool.eq_iff_iff]
    simp
    exact ⟨inj a x, fun e => by rw [e]⟩
  | [x, y] =>
    show inA (ng x) (ng y) (ng a) = inA x y a
    unfold inA
    simp only [cr_ng1, cr_ng2, Int.neg_neg]
  | x :: y :: z :: r =>
    show (!decide (ng a ∈ (x :: y :: z :: r).map ng)) = !decide (a ∈ x :: y :: z :: r)
    congr 1
    rw [Bool.eq_iff_iff, decide_eq_true_eq, decide_eq_true_eq, List.mem_map]
    exact ⟨fun ⟨b, hb, e⟩ => inj b a e ▸ hb, fun h => ⟨a, h, rfl⟩⟩
/-! ### directions put in their round, each once -/
def Asc (xs : List P2) : Prop := xs.Pairwise fun a b => lt a b = true
def insR (d : P2) : List P2 → List P2
  | [] => [d]
  | x :: r => if lt x d = true then x :: insR d r else if x = d then x :: r else d :: x :: r
def ahead (d : P2) (xs : List P2) : Nat := (xs.filter (lt · d)).length
theorem insR_mem {d x : P2} : ∀ {xs : List P2}, x ∈ insR d xs ↔ x = d ∨ x ∈ xs
  | [] => by simp [insR]
  | y :: r => by
    unfold insR
    split
    · rw [List.mem_cons, insR_mem, List.mem_cons]
      constructor
      · rintro (h | h | h)
        · exact .inr (.inl h)
        · exact .inl h
        · exact .inr (.inr h)
      · rintro (h | h | h)
        · exact .inr (.inl h)
        · exact .inl h
        · exact .inr (.inr h)
    · split
      · rename_i e
        subst e
        simp
      · simp
theorem insR_len {d : P2} : ∀ {xs : List P2}, (insR d xs).length ≤ xs.length + 1
  | [] => Nat.le_refl _
  | y :: r => by
    unfold insR
    split
    · have := insR_len (d := d) (xs := r)
      simp; omega
    · split <;> simp
theorem insR_asc {d : P2} (hd : IsD d) : ∀ {xs : List P2}, (∀ x ∈ xs, IsD x) → Asc xs → Asc (insR d xs)
  | [], _, _ => List.pairwise_singleton ..
  | y :: r, hD, hs => by
    have hy := hD y List.mem_cons_self
    obtain ⟨h1, h2⟩ := List.pairwise_cons.mp hs
    unfold insR
    split
    · rename_i h
      refine List.pairwise_cons.mpr ⟨fun x hx => ?_, insR_asc hd (fun x hx => hD x (List.mem_cons_of_mem _ hx)) h2⟩
      rcases insR_mem.mp hx with rfl | hx
      · exact h
      · exact h1 x hx
    · rename_i h
      split
      · exact hs
      · rename_i ne
        have dy : lt d y = true := lt_tot hy hd ne (Bool.eq_false_iff.mpr h)
        refine List.pairwise_cons.mpr ⟨fun x hx => ?_, hs⟩
        rcases List.mem_cons.mp hx with rfl | hx
        · exact dy
        · exact lt_trans hd hy (hD x (List.mem_cons_of_mem _ hx)) dy (h1 x hx)
theorem none_ahead {d y : P2} {r : List P2} (hd : IsD d) (hy : IsD y) (hD : ∀ x ∈ r, IsD x) (h1 : ∀ x ∈ r, lt y x = true) (h : ¬ lt y d = true) : ahead d (y :: r) = 0 := by
  unfold ahead
  rw [List.length_eq_zero_iff, List.filter_eq_nil_iff]
  intro x hx z
  rcases List.mem_cons.mp hx with rfl | hx
  · exact h z
  · exact h (lt_trans hy (hD x hx) hd (h1 x hx) z)
theorem insR_by {d : P2} (hd : IsD d) : ∀ {xs : List P2}, (∀ x ∈ xs, IsD x) → Asc xs → insR d xs = if ahead d xs = xs.length ∨ xs[ahead d xs]? ≠ some d then xs.take (ahead d xs) ++ [d] ++ xs.drop (ahead d xs) else xs
  | [], _, _ => rfl
  | y :: r, hD, hs => by
    obtain ⟨h1, h2⟩ := List.pairwise_cons.mp hs
    have hy := hD y List.mem_cons_self
    have hr : ∀ x ∈ r, IsD x := fun x hx => hD x (List.mem_cons_of_mem _ hx)
    unfold insR
    by_cases h : lt y d = true
    · rw [if_pos h, insR_by hd hr h2]
      have e : ahead d (y :: r) = ahead d r + 1 := by
        unfold ahead
        rw [List.filter_cons_of_pos (by exact h)]
        rfl
      rw [e, List.getElem?_cons_succ, List.length_cons]
      by_cases q : ahead d r = r.length ∨ r[ahead d r]? ≠ some d
      · rw [if_pos q, if_pos (q.imp (fun z => by omega) id)]
        rfl
      · rw [if_neg q, if_neg (fun z => q (z.imp (fun z => by omega) id))]
    · rw [if_neg h, none_ahead hd hy hr h1 h]
      by_cases q : y = d
      · subst q
        rw [if_pos rfl, if_neg (by simp)]
      · rw [if_neg q, if_pos (.inr (by simp [q]))]
        rfl
theorem ahead_le {d : P2} {xs : List P2} : ahead d xs ≤ xs.length := List.length_filter_le ..
def rndR (ds : List P2) : List P2 := ds.foldl (fun xs d => insR d xs) []
theorem rnd_snoc (ds : List P2) (d : P2) : rndR (ds ++ [d]) = insR d (rndR ds) := by
  unfold rndR
  rw [List.foldl_append]
  rfl
theorem rnd_ok : ∀ (n : Nat) {ds : List P2}, ds.length = n → (∀ d ∈ ds, IsD d) → Asc (rndR ds) ∧ (∀ x, x ∈ rndR ds ↔ x ∈ ds) ∧ (rndR ds).length ≤ ds.length
  | 0, ds, e, _ => by
    rw [List.length_eq_zero_iff.mp e]
    exact ⟨List.Pairwise.nil, fun x => Iff.rfl, Nat.le_refl _⟩
  | n + 1, ds, e, h => by
    obtain ⟨a, b, rfl⟩ : ∃ a b, ds = a ++ [b] := ⟨ds.dropLast, ds.getLast (fun z => by rw [z] at e; cases e), (List.dropLast_concat_getLast _).symm⟩
    have ea : a.length = n := by simp at e; exact e
    obtain ⟨h1, h2, h3⟩ := rnd_ok n ea fun d hd => h d (List.mem_append_left _ hd)
    have hb := h b (List.mem_append_right _ List.mem_cons_self)
    have hD : ∀ x ∈ rndR a, IsD x := fun x hx => h x (List.mem_append_left _ ((h2 x).mp hx))
    rw [rnd_snoc]
    refine ⟨insR_asc hb hD h1, fun x => ?_, ?_⟩
    · rw [insR_mem, h2, List.mem_append, List.mem_singleton]
      exact Or.comm
    · have := insR_len (d := b) (xs := rndR a)
      simp
      omega
/-- marks from a row in its round -/
def mAt (xs : List P2) (i : Nat) : P2 := xs.getD i (1, 0)
theorem mAt_eq {xs : List P2} {i : Nat} (h : i < xs.length) : mAt xs i = xs[i] := by
  unfold mAt
  rw [List.getD_eq_getElem?_getD, List.getElem?_eq_getElem h]
  rfl
theorem marks_of {xs : List P2} (hs : Asc xs) (hD : ∀ x ∈ xs, IsD x) : Marks xs.length (mAt xs) :=
  ⟨fun i hi => by rw [mAt_eq hi]; exact hD _ (List.getElem_mem hi), fun i j hij hj => by rw [mAt_eq (by omega), mAt_eq hj]; exact List.pairwise_iff_getElem.mp hs i j _ _ hij⟩
theorem tests_eq (xs : List P2) : (List.range (2 * xs.length)).map (tst xs.length (mAt xs)) = xs ++ (List.range xs.length).map (md xs.length (mAt xs)) := by
  apply List.ext_getElem
  · simp; omega
  · intro i h1 h2
    rw [List.getElem_map, List.getElem_range]
    unfold tst
    split
    · rename_i h
      rw [List.getElem_append_left h, mAt_eq h]
    · rename_i h
      rw [List.getElem_append_right (by omega), List.getElem_map, List.getElem_range]
def spP : Option (P2 × P2) → List P2
  | none => []
  | some (p, q) => betG p q
theorem sp_en {xs : List P2} (hs : Asc xs) (hD : ∀ x ∈ xs, IsD x) {F : Option (P2 × P2)} (h : ∀ p q, F = some (p, q) → p ∈ xs ∧ q ∈ xs) : ∃ e ∈ allE xs.length, (spN e).map (tst xs.length (mAt xs)) = spP F := by
  have M := marks_of hs hD
  cases F with
  | none => exact ⟨none, List.mem_cons_self, rfl⟩
  | some pq =>
    obtain ⟨p, q⟩ := pq
    obtain ⟨hp, hq⟩ := h p q rfl
    obtain ⟨i, hi, rfl⟩ := List.mem_iff_getElem.mp hp
    obtain ⟨j, hj, rfl⟩ := List.mem_iff_getElem.mp hq
    refine ⟨some (i, j), allE_of hi hj, ?_⟩
    have ti : tst xs.length (mAt xs) i = xs[i] := by unfold tst; rw [if_pos hi, mAt_eq hi]
    have tj : tst xs.length (mAt xs) j = xs[j] := by unfold tst; rw [if_pos hj, mAt_eq hj]
    show (betG i j).map _ = betG xs[i] xs[j]
    unfold betG
    by_cases e : i = j
    · subst e
      rw [if_pos rfl, if_pos rfl, List.map_cons, ti]; rfl
    · rw [if_neg e, if_neg, List.map_cons, List.map_cons, ti, tj]; rfl
      intro z
      refine e ((M.inj hj (p := i) (by omega)).mp ?_)
      rw [ti, z, mAt_eq hj]
def enL (e : Option (P2 × P2)) : List P2 := match e with
  | some (p, q) => [p, q]
  | none => []
/-- all that the round tells of two arcs of ends -/
theorem fx_of {F L : Option (P2 × P2)} (hF : ∀ p q, F = some (p, q) → IsD p ∧ IsD q) (hL : ∀ p q, L = some (p, q) → IsD p ∧ IsD q) {ds : List P2} (hds : ds = enL F ++ enL L) (hne : rndR ds ≠ []) :
    let xs := rndR ds
    let ts := xs ++ (List.range xs.length).map (md xs.length (mAt xs))
    Fx (spP F) (spP L) ts ∧ Fx (spP L) (spP F) ts ∧ Fx (spP F) (spP F) ts ∧ Fx (spP L) (spP L) ts ∧ Fx [] (spP F) ts ∧ Fx [] (spP L) ts := by
  have hd : ∀ d ∈ ds, IsD d := by
    rw [hds]
    intro d h
    rcases List.mem_append.mp h with h | h
    · cases F with
      | none => cases h
      | some pq =>
        obtain ⟨p, q⟩ := pq
        have := hF p q rfl
        simp [enL] at h
        rcases h with rfl | rfl
        · exact this.1
        · exact this.2
    · cases L with
      | none => cases h
      | some pq =>
        obtain ⟨p, q⟩ := pq
        have := hL p q rfl
        simp [enL] at h
        rcases h with rfl | rfl
        · exact this.1
        · exact this.2
  obtain ⟨h1, h2, h3⟩ := rnd_ok _ rfl hd
  have hD : ∀ x ∈ rndR ds, IsD x := fun x hx => hd x ((h2 x).mp hx)
  have M := marks_of h1 hD
  have n0 : 0 < (rndR ds).length := List.length_pos_iff.mpr hne
  have n4 : (rndR ds).length ≤ 4 := by
    have : ds.length ≤ 4 := by rw [hds]; cases F <;> cases L <;> simp [enL]
    omega
  obtain ⟨e, he, ee⟩ := sp_en (F := F) h1 hD fun p q z => by
    subst z
    exact ⟨(h2 p).mpr (by rw [hds]; simp [enL]), (h2 q).mpr (by rw [hds]; simp [enL])⟩
  obtain ⟨e', he', ee'⟩ := sp_en (F := L) h1 hD fun p q z => by
    subst z
    exact ⟨(h2 p).mpr (by rw [hds]; simp [enL]), (h2 q).mpr (by rw [hds]; simp [enL])⟩
  have e0 : (none : En) ∈ allE (rndR ds).length := List.mem_cons_self
  have z0 : (spN (none : En)).map (tst (rndR ds).length (mAt (rndR ds))) = [] := rfl
  show Fx _ _ (_ ++ _) ∧ _
  rw [← tests_eq]
  refine ⟨?_, ?_, ?_, ?_, ?_, ?_⟩
  · rw [← ee, ← ee']; exact M.fx n0 n4 he he'
  · rw [← ee, ← ee']; exact M.fx n0 n4 he' he
  · rw [← ee]; exact M.fx n0 n4 he he
  · rw [← ee']; exact M.fx n0 n4 he' he'
  · rw [← ee, ← z0]; exact M.fx n0 n4 e0 he
  · rw [← ee', ← z0]; exact M.fx n0 n4 e0 he'
/-- and of two whole ones -/
theorem fx_00 {ts : List P2} (h : ts ≠ []) : Fx [] [] ts := by
  refine ⟨?_, rfl, fun _ => ⟨fun d _ => rfl, fun z => absurd rfl z, rfl⟩, ?_⟩
  · show (ts.any fun d => true) = true
    cases ts with
    | nil => exact absurd rfl h
    | cons => rfl
  · show true = ts.all fun d => true
    simp
end Ad
/-! Yg: the truth of a value, by data. -/
namespace Dl
open PySem PySem.Spec PyProof.Rows L2
/-- a list or a tuple is true if it has an item -/
def truD : D → Option Bool
  | .non => some false
  | .bl b => some b
  | .int i => some (i != 0)
  | .lst ds => some (!ds.isEmpty)
  | .tup ds => some (!ds.isEmpty)
  | _ => none
/-- the test that is a value's truth -/
abbrev tTru (K : PySem.W.Frag) (te : TE) : TT := fun σ H Q => te σ H fun x H' => ∃ k, TruV K x H' k ∧ Q k H'
theorem empty_dds {K : PySem.W.Frag} {B : Bt} {G : Hp} {vs : List V} {ds : List D} (h : Dds K B G vs ds) : (!ds.isEmpty) = !vs.isEmpty := by
  cases h <;> rfl
section
variable {K : PySem.W.Frag} {B : Bt} {δ : List Sd} {X : Xc} {te : TE}
theorem wt_truth {P : Bool → Prop} (h : WEx K B X te δ fun d => ∃ k, truD d = some k ∧ P k) : WTx K B X (tTru K te) δ P := fun G0 H0 σ G H Q s xx q =>
  h G0 H0 σ G H _ s xx fun v d G1 H1 g o hv ⟨k, e, p⟩ => by
    have q' := q k G1 H1 g o p
    cases hv with
    | non => cases e; exact ⟨_, rfl, q'⟩
    | bl b => cases e; exact ⟨_, rfl, q'⟩
    | int i => cases e; exact ⟨_, rfl, q'⟩
    | lst hg t => cases e; exact ⟨_, .inl ⟨_, SqL.of (o.u _ _ hg), empty_dds t⟩, q'⟩
    | tup hg t => cases e; exact ⟨_, .inr (.inl ⟨_, SqT.ofZ (o.u _ _ hg.1), empty_dds t⟩), q'⟩
    | _ => cases e
end
end Dl
/-! Yh: C.m(), m a classmethod; cls(..), a local name that holds a class; C(), a class without an __init__ of its own. -/
namespace Dl
open PySem PySem.Spec PyProof.Rows L2 ClX
/-- a class with object's __init__ -/
structure MkB (K : PySem.W.Frag) (C : Addr) : Prop where
  makes : PySem.W.makesIn K C = true
  init : PySem.W.findIn K (.ref C) "__init__" = some (some (.builtin "object.__init__"))
  kp : PySem.W.keepIn K (.ref C) = true
/-- a new instance, without fields -/
def tBare (C : Addr) : TE := fun _ H Q => ∀ x dx, H x = none → H dx = none → dx ≠ x → Q (.ref x) (upd (upd H dx (.own x)) x (.ins C dx []))
section
variable {X : Cx} {pins : List (Addr × Obj)} {σ : L2.St} {H : Hp} {s : Shared} {C p g f : Addr} {mc : Value} {sp : Sp} {E : XK} {CX : CXT} {k : Nat}
theorem run_bare {Q : VK} (M : MkB X.K C) (I : Inv X pins σ H s) (h : ∀ x dx, H x = none → H dx = none → dx ≠ x → Q (.ref x) (upd (upd H dx (.own x)) x (.ins C dx []))) : wpAny (model X.prog X.w) X.A (call (.ref C) []) (EP X pins σ Q) X.xe s := by
  have q := h (s.heap.objs.size + 1) s.heap.objs.size (I.hok.fresh (Nat.le_succ _)) (I.hok.fresh (Nat.le_refl _)) (Nat.ne_of_lt (Nat.lt_succ_self _))
  have I2 := Inv.made (C := C) I
  have Y := PySem.W.makes_of (M := model X.prog X.w) I.kIn M.makes
  have at_ : ((s.heap.push PySem.W.emptyDict).push (PySem.W.instObj C s.heap.objs.size)).get? (s.heap.objs.size + 1) = some (PySem.W.instObj C s.heap.objs.size) := by
    have z := Heap.get?_push_size (s.heap.push PySem.W.emptyDict) (o := PySem.W.instObj C s.heap.objs.size) rfl
    rwa [Heap.size_push] at z
  obtain ⟨hp, gn, dr, tk, os⟩ := s
  have ty : PySem.W.Looks (model X.prog X.w) ((hp.push PySem.W.emptyDict).push (PySem.W.instObj C hp.objs.size)) (typeOf (.ref (hp.objs.size + 1))) (.ref C) := (PySem.W.Looks.ld at_).andThen .now
  have isob : PySem.W.Looks (model X.prog X.w) ((hp.push PySem.W.emptyDict).push (PySem.W.instObj C hp.objs.size)) (isInstance (.ref (hp.objs.size + 1)) (.type "object")) true := ty.andThen (Y.top.keeps fun b o e => Heap.get?_push_of_some _ (Heap.get?_push_of_some _ e))
  refine wpAny_call (PySem.W.make_core Y (PySem.W.looks_findIn I.kIn M.init) (fun self => PySem.W.Looks.of_pure (PySem.W.oi_bind self)) (.inr ⟨rfl, rfl⟩) ?_)
  refine codeAny_call_builtin PySem.W.oi_plain PySem.W.entry_oi (@PySem.W.check_slot (model X.prog X.w) _ _ _ "object.__init__" "object" "__init__" (.ref (hp.objs.size + 1)) [] [] _ PySem.W.oi_kind PySem.W.oi_split isob (PySem.W.oi_args (.ref (hp.objs.size + 1))) ?_)
  rw [PySem.W.oi_run]
  exact wpAny_pure (And.intro rfl ⟨.ref (hp.objs.size + 1), _, I2, rfl, q⟩)
/-- C() -/
theorem pe_bare {x : Str} {p pos : Pos} (M : MkB X.K C) (hg : Gl X x) (hm : X.mg x = some (.ref C)) (hdb : (x == ("__debug__" : Str)) = false := by decide) : PE X (.Call (.Name x p) [] [] pos) (tBare C) := by
  refine ⟨fun pins s σ H Q I h => ?_⟩
  refine wpAny_Call_Name_kw (ld_glob I hg hm ?_ hdb)
  exact PySem.W.callWith_K0 I.kIn M.kp (run_bare M I h)
/-- cls(..), cls a local name that holds the class at C -/
def tMakeL (i : Nat) (C : Addr) (sp : Sp) (E : XK) (t : TA) : TE := fun σ H Q => σ[i]? = some (some (.ref C)) ∧ tMake C sp [] E t σ H Q
theorem pe_makeL {x : Str} {p pos : Pos} {i : Nat} {e : Expr} {es : List Expr} {t : TA} {fd : FuncData} {ps : List Str} (M : Mk X.K C f) (F : FnOk X.prog X.w X.K X.mg X.base CX k f fd ps sp) (hr : Room (k + 1) X.A) (hb : Binds X.K fd ps []) (hx : Passes CX X E) (hN : X.N[i]? = some x) (hv : Vis X.env.scope x) (ha : PA X (e :: es) t)
    (hdb : (x == ("__debug__" : Str)) = false := by decide) (hcd : (x == ("__classdict__" : Str)) = false := by decide)
    (he : starEach (e :: es) X.env = (false, eval e X.env) :: starEach es X.env := by rfl) (hpl : (backTo pos (starEach es X.env)).any (·.1) = false := by rfl) : PE X (.Call (.Name x p) (e :: es) [] pos) (tMakeL i C sp E t) := by
  refine ⟨fun pins s σ H Q I h => ?_⟩
  obtain ⟨hs, ht⟩ := h
  refine wpAny_Call_Name_kw (thn ((pe_var (pos := p) hN hv hdb hcd).run pins s σ H (fun v H1 => v = .ref C ∧ H1 = H) I ⟨.ref C, hs, rfl, rfl⟩) fun u s1 ⟨v, H1, I1, r1, q1⟩ => ?_)
  obtain ⟨rfl, rfl⟩ := q1
  cases r1
  refine PySem.W.callWith_K (h₀ := X.base) I.ok.mod.kin M.kp (thn (ha.run pos pins s1 σ _ _ I1 ht) fun us s2 ⟨vs, H2, I2, r, q⟩ => ⟨I2.kIn, ?_⟩) he hpl
  exact run_make M F hr hb .nil hx I2 r q
/-- C.m(), m a classmethod -/
theorem pe_cmeth0 {o : Expr} {m : Str} {pos apos : Pos} {ta : TE} {pl : Sem Bool} (he : PE X o ta) (r : CRead X.K C mc) (c : CMet X.K C mc m p g) (F : FnR X.prog X.w X.K X.mg X.base CX k g sp) (hr : Room k X.A) (hx : Passes CX X E)
    (ht : eval (.Call (.Attribute o m apos) [] [] pos) X.env = (do
      let ov ← eval o X.env
      standAt apos.atName
      let (f, first) ← holding [ov] (getMethod ov m pl)
      callWith pos f first (backTo pos (starEach [] X.env)) (backToKw pos (keywordEach [] X.env))) := by rfl) :
    PE X (.Call (.Attribute o m apos) [] [] pos) (tCMeth C sp E ta tNil) := by
  refine ⟨fun pins s σ H Q I h => ?_⟩
  refine PySem.W.methodCall_KW (pl := pl) (thn (he.run pins s σ H _ I h) fun u s1 ⟨x, H1, I1, rx, ex, q⟩ => ?_) ht
  subst ex
  obtain rfl : u = Value.ref C := rx
  refine getmethcm_ok I1 r c fun s2 I2 => ?_
  exact PySem.W.callWith_M0 (first := []) ⟨pin_at I2, I2.kIn⟩ c.fi (run_cm (us := []) (vs := []) F hr hx I2 .nil q)
end
section
variable {K : PySem.W.Frag} {B : Bt} {δ : List Sd} {X : Xc} {P : D → Prop} {C : Addr} {ta : TA} {te : TE} {pre : List D → Prop} {post : List D → D → Prop} {E : XK}
theorem we_bare (h : P (.obj C [] [])) : WEx K B X (tBare C) δ P := fun G0 H0 σ G H Q s xx q x dx nx ndx ne => by
  have f := (Fil.start (K := K) (C := C) s.ok nx ndx ne).done
  exact q (.ref x) (.obj C [] []) _ _ f.1 f.2.1 f.2.2 h
theorem we_makeL {i : Nat} {e : XK} (hi : δ[i]? = some (.val (.adr C))) (h : WAx K B X ta δ fun ds => pre ds ∧ ∀ d, post ds d → P d) : WEx K B X (tMakeL i C (SpI K C pre post) e ta) δ P := fun G0 H0 σ G H Q s xx q => by
  obtain ⟨v, e1, hd⟩ := s.val i _ hi
  cases hd
  exact ⟨e1, we_make h G0 H0 σ G H Q s xx q⟩
theorem we_cmeth0 (h : WEx K B X te δ fun d => d = .adr C ∧ pre [.adr C] ∧ ∀ r, post [.adr C] r → P r) : WEx K B X (tCMeth C (SpD K pre post) E te tNil) δ P := fun G0 H0 σ G H Q s xx q =>
  h G0 H0 σ G H _ s xx fun v d G1 H1 g1 o1 hv ⟨e, p, m⟩ => by
    subst e
    cases hv
    exact ⟨rfl, B, G1, _, o1, .cons (.adr C) .nil, p, fun v' d' G3 H3 g3 o3 hd pd => (q.on g1 o1) v' d' G3 H3 g3 o3 hd (m d' pd)⟩
end
end Dl
/-! Yi: xs != ys, two lists of instances that are equal one by one by their class's own ==. -/
namespace GQ
open PySem PySem.SeqAt
open AutoSeq1 (wpAny_loadPart')
open MeetsSeq MeetsSeq2 MeetsSeq3 SeqRoads2
section
variable {prog : Program} {w : World} {A : Around} {R : Result → Shared → Prop} {E : Value → Shared → Prop} {s : Shared}
theorem ne_loopG (l b : Addr) (N : Nat) (I : Nat → Shared → Prop) (hl : ListI prog w A (fun e s' => R (.error e) s') l b N I)
    (fin : ∀ s, I N s → R (.ok (.ret (.bool false))) s) (k : Nat) :
    ∀ i : Nat, N - i = k → i ≤ N → ∀ s, I i s →
      wpAny (model prog w) A.in1 (Builtin.«list.__eq__.loop» ⟨[.ref l, .ref b, rawInt i, rawInt 3], []⟩) (FinOf prog w A R) (fun e s' => R (.error e) s') s := by
  induction k with
  | zero =>
    intro i hk hi s h
    obtain ⟨items, items2, n, n2, hl1, hb1, hs1, hs2, _⟩ := hl _ _ h
    have hi' : i = N := by omega
    have hR : R (.ok (.ret (.bool false))) s := fin s (hi' ▸ h)
    obtain ⟨hp, g, d, tk, os⟩ := s
    wp_walk using wpAny_loadPart' hl1, wpAny_loadPart' hb1
    have hi1 : items[((i : Nat) : Int).toNat]? = none := by simp; omega
    have hi2 : items2[((i : Nat) : Int).toNat]? = none := by simp; omega
    rw [hi1, hi2]
    wp_walk using wpAny_loadPart' hl1, wpAny_loadPart' hb1
    show R (.ok (.ret (.bool (items.size != items2.size)))) _
    rw [hs1, hs2]
    simpa using hR
  | succ k ih =>
    intro i hk hi s h
    obtain ⟨items, items2, n, n2, hl1, hb1, hs1, hs2, turn⟩ := hl _ _ h
    have hlt : i < items.size := by omega
    have hlt2 : i < items2.size := by omega
    have ht := turn hlt hlt2
    obtain ⟨hp, g, d, tk, os⟩ := s
    wp_walk using wpAny_loadPart' hl1, wpAny_loadPart' hb1
    have hi1 : items[((i : Nat) : Int).toNat]? = some items[i] := by simp [hlt]
    have hi2 : items2[((i : Nat) : Int).toNat]? = some items2[i] := by simp [hlt2]
    have hc : ((i : Int) + 1) = ((i + 1 : Nat) : Int) := by omega
    rw [hi1, hi2]
    refine wpAny_bind (wpAny_mono ht (fun r s2 h2 => ?_) fun _ _ x => x)
    obtain ⟨hr, h2⟩ := h2
    subst hr
    have hrec := ih (i + 1) (by omega) (by omega) s2 h2
    obtain ⟨hp2, g2, d2, tk2, os2⟩ := s2
    wp_walk
    rw [hc]
    exact ⟨plainId_quiet plain_eq_loop _, codeAny_builtin entry_eq_loop (by
      rw [Around.under_plainId plain_eq_loop _]
      exact hrec)⟩
theorem list_neG (l b : Addr) (N : Nat) (I : Nat → Shared → Prop) (hl : ListI prog w A (fun e s' => R (.error e) s') l b N I)
    (fin : ∀ s, I N s → R (.ok (.ret (.bool false))) s) {s : Shared} (h : I 0 s) :
    wpAny (model prog w) A.in1 (Builtin.«list.__ne__» ⟨[.ref l, .ref b], []⟩) (FinOf prog w A R) (fun e s' => R (.error e) s') s := by
  obtain ⟨items, items2, n, n2, hl1, hb1, hs1, hs2, _⟩ := hl _ _ h
  have hrec := ne_loopG (A := A) (R := R) l b N I hl fin _ 0 rfl (Nat.zero_le _) s h
  obtain ⟨hp, g, d, tk, os⟩ := s
  have f3 := AutoSeq1.sub_list_list
  have hne : ¬ (items.size != items2.size) = true := by simp [hs1, hs2]
  wp_walk using wpAny_loadPart' hl1, wpAny_loadPart' hb1
  exact ⟨plainId_quiet plain_eq_loop _, codeAny_builtin entry_eq_loop (by
    rw [Around.under_plainId plain_eq_loop _]
    exact hrec)⟩
theorem rc_neListG {l b : Addr} {N : Nat} {Q : Value → Shared → Prop} (hu : A.units < cLine) (I : Nat → Shared → Prop) (hl : ListI prog w A E l b N I)
    (fin : ∀ s, I N s → Q (.bool false) s) (h : I 0 s) : wpAny (model prog w) A (richCompare .NotEq (.ref l) (.ref b)) Q E s := by
  obtain ⟨items, items2, n, n2, hl1, hb1, _, _, _⟩ := hl _ _ h
  refine wpAny_richCompare_same_room (op := .NotEq) ⟨_, hl1, rfl⟩ ⟨_, hb1, rfl⟩ F.slot_list_ne (call_here F.slot_list_ne ⟨_, hl1, rfl⟩ F.entry_list_ne (F.args_list_ne_2 _ _) ?_) hu
  exact list_neG (R := wants (fun v s' => v ≠ .notImplemented ∧ Q v s') E) l b N I hl (fun s' q => ⟨(fun x => nomatch x), fin s' q⟩) h
end
end GQ
namespace Dl
open PySem PySem.Spec PyProof.Rows L2
/-- two lists of instances, equal one by one -/
def rLne (C : Addr) (sp : Sp) : R2 := fun x y H Q => ∃ (a b : Addr) (xs ys : List V) (J : Nat → Hp → Prop), x = .ref a ∧ y = .ref b ∧ xs.length = ys.length ∧ J 0 H ∧
  (∀ i H', J i H' → H' a = some (.lst xs) ∧ H' b = some (.lst ys) ∧ ∀ u v, xs[i]? = some u → ys[i]? = some v → ∃ p q, u = .ref p ∧ v = .ref q ∧ (p = q → J (i + 1) H') ∧
    (p ≠ q → ∃ dx fs dy gs, H' p = some (.ins C dx fs) ∧ H' q = some (.ins C dy gs) ∧ sp [.ref p, .ref q] H' (fun r H2 => r = .bl true ∧ J (i + 1) H2) (fun _ _ _ => False))) ∧
  ∀ H', J xs.length H' → Q (.bl false) H'
section
variable {X : Cx} {n : Nat} {f C : Addr} {fd : FuncData} {ps : List Str} {sp : Sp}
theorem op_lne (F : FnOk X.prog X.w X.K X.mg X.base L2.CX0 n f fd ps sp) (hb : Binds X.K fd ps []) (hr : Room (n + 1) X.A) (T : OwnEq X.K C f) : OpR X (compareOp .NotEq) (rLne C sp) := by
  intro pins s σ H x y v u Q I rx ry hq
  obtain ⟨a, b, xs, ys, J, rfl, rfl, hl, j0, turn, fin⟩ := hq
  cases rx
  cases ry
  show wpAny (model X.prog X.w) X.A (richCompare .NotEq (.ref a) (.ref b)) (EP X pins σ Q) X.xe s
  have sb : L2.Sub X (n + 1) X.A := ⟨hr, rfl⟩
  refine GQ.rc_neListG (N := xs.length) hr.units0 (fun i s' => ∃ H', Inv X pins σ H' s' ∧ J i H') (fun i s' q => ?_) (fun s' q => ?_) ⟨H, I, j0⟩
  · obtain ⟨H1, I1, j1⟩ := q
    obtain ⟨ha, hb', tn⟩ := turn i H1 j1
    obtain ⟨z, its, k, r, e⟩ := I1.hok a _ ha
    obtain ⟨z2, its2, k2, r2, e2⟩ := I1.hok b _ hb'
    refine ⟨its.toArray, its2.toArray, k, k2, e, e2, by rw [List.size_toArray, ← r.length], by rw [List.size_toArray, ← r2.length, ← hl], fun h1 h2 => ?_⟩
    have g1 : its[i]? = some its.toArray[i] := by
      have h1' : i < its.length := by simpa using h1
      rw [List.getElem?_eq_getElem h1'] <;> simp
    have g2 : its2[i]? = some its2.toArray[i] := by
      have h2' : i < its2.length := by simpa using h2
      rw [List.getElem?_eq_getElem h2'] <;> simp
    have k1 : i < xs.length := by rw [r.length]; simpa using h1
    have k2 : i < ys.length := by rw [r2.length]; simpa using h2
    obtain ⟨u, hu, ru⟩ := r.get (List.getElem?_eq_getElem k1)
    obtain ⟨v, hv, rv⟩ := r2.get (List.getElem?_eq_getElem k2)
    rw [g1] at hu
    rw [g2] at hv
    rw [Option.some.inj hu, Option.some.inj hv]
    obtain ⟨p, q, ep, eq, same, own⟩ := tn _ _ (List.getElem?_eq_getElem k1) (List.getElem?_eq_getElem k2)
    rw [ep] at ru
    rw [eq] at rv
    cases ru
    cases rv
    by_cases hpq : p = q
    · subst hpq
      exact SeqAt.EqAt.same (A := X.A.in1) (s := s') (.ref p) X.prog X.w X.xe _ ⟨rfl, H1, I1, same rfl⟩
    · obtain ⟨dx, fs, dy, gs, hp, hq, h⟩ := own hpq
      obtain ⟨mA, Ja, _⟩ := ins_get I1.hok hp
      obtain ⟨mB, Jb, _⟩ := ins_get I1.hok hq
      obtain ⟨od, Ja, _⟩ := Ja.look
      obtain ⟨od', Jb, _⟩ := Jb.look
      obtain ⟨m, hF⟩ := I1.fr
      refine GQ.eqBool_refG hpq (PySem.W.cmp_K (op := .Eq) (tb := .ref C) sb.in1.room.units0 hF I1.ok.mod.kin Ja Jb.type (by simp [PySem.W.notFirst]) T.eq T.fn ?_)
      refine wpAny_mono (call_below F hb sb.in1 I1 (.cons (show RelV (V.ref p) (Value.ref p) from rfl) (.cons (show RelV (V.ref q) (Value.ref q) from rfl) .nil)) h) (fun w s' hw => ?_) fun _ _ e => e
      obtain ⟨z, H', I', rz, ez, j⟩ := hw
      subst ez
      cases rz
      exact ⟨true, rfl, rfl, H', I', j⟩
  · obtain ⟨H1, I1, j1⟩ := q
    exact ⟨.bl false, H1, I1, rfl, fin H1 j1⟩
end
section
variable {K : PySem.W.Frag} {B : Bt} {δ : List Sd} {X : Xc} {P : D → Prop} {C : Addr} {pre : List D → Prop} {post : List D → D → Prop} {tb : TE}
/-- a list of the def's own != a list -/
theorem we_lne {i : Nat} {ds : List D} (hi : δ[i]? = some (.own ds)) (h : WEx K B X tb δ fun e => ∃ es, e = .lst es ∧ es.length = ds.length ∧ (∀ (k : Nat) d e, ds[k]? = some d → es[k]? = some e → (∃ ks fs, d = .obj C ks fs) ∧ (∃ ks fs, e = .obj C ks fs) ∧ pre [d, e] ∧ ∀ r, post [d, e] r → r = .bl true) ∧ P (.bl false)) :
    WEx K B X (tOp (rLne C (SpD K pre post)) (tVar i) tb) δ P := fun G0 H0 σ G H Q s xx q => by
  obtain ⟨a, vs, e1, nb, e0, eg, e2, e3⟩ := s.own i _ hi
  refine ⟨_, e1, h G0 H0 σ G H _ s xx fun y e G1 H1 g1 o1 hy ⟨es, ee, hl, each, p⟩ => ?_⟩
  subst ee
  obtain ⟨b, ws, rfl, hg, t⟩ : ∃ b ws, y = .ref b ∧ G1 b = some (.lst ws) ∧ Dds K B G1 ws es := by
    cases hy with
    | lst hg t => exact ⟨_, _, rfl, hg, t⟩
  have ha := g1.k a _ nb nt_lst e2
  have hb := o1.u _ _ hg
  have nbb : ∀ {z : Addr} {ws : List V}, G1 z = some (.lst ws) → z ≠ B.a := fun hz e => by
    have := o1.b
    rw [← e, hz] at this
    cases this
  refine ⟨a, b, vs, ws, fun k H' => ∃ G', Go B G1 H1 G' H' ∧ Ok B G' H', rfl, rfl, by rw [e3.length, t.length, hl], ⟨G1, Go.refl, o1⟩, ?_, ?_⟩
  · rintro k H' ⟨G', g', o'⟩
    refine ⟨g'.k a _ nb nt_lst ha, g'.k _ _ (nbb hg) nt_lst hb, fun u v hu hv => ?_⟩
    have e3' := (e3.mono g1.s).mono g'.s
    have t' := t.mono g'.s
    obtain ⟨d, hd, du⟩ := e3'.get' hu
    obtain ⟨e, he, dv⟩ := t'.get' hv
    obtain ⟨⟨ks, fs, rfl⟩, ⟨ks', fs', rfl⟩, pr, po⟩ := each k d e hd he
    cases du with
    | obj hgu tu =>
      cases dv with
      | obj hgv tv =>
        exact ⟨_, _, rfl, rfl, fun _ => ⟨G', g', o'⟩, fun _ => ⟨_, _, _, _, o'.u _ _ hgu, o'.u _ _ hgv, B, G', _, o', .cons (.obj hgu tu) (.cons (.obj hgv tv) .nil), pr, fun v' d' G3 H3 g3 o3 hd' pd => by
          have := po d' pd
          subst this
          cases hd'
          exact ⟨rfl, G3, g'.trans o' g3, o3⟩⟩⟩
  · rintro H' ⟨G', g', o'⟩
    exact (q.on g1 o1) (.bl false) (.bl false) G' H' g' o' (.bl false) p
end
end Dl
/-! Yj: for a, b, c in xs. -/
namespace Dl
open PySem PySem.Spec PyProof.Rows L2 S2
section
variable {K : PySem.W.Frag} {B : Bt} {δ : List Sd} {O : Out} {X : Xc} {P : D → Prop}
theorem ws_forT3 {wi : TI} {i j l : Nat} {t : TS} (h : WIx K B O.x wi δ fun its => ∃ I : Nat → List Sd → Prop, I 0 δ ∧ (∀ k d δ1, its[k]? = some d → I k δ1 → ∃ d1 d2 d3, d = .tup [d1, d2, d3] ∧ WS K B t (((δ1.set i (.val d1)).set j (.val d2)).set l (.val d3)) { nx := I (k + 1), rt := O.rt, bk := O.nx, ct := I (k + 1), x := O.x, ro := O.ro }) ∧ ∀ δ1, I its.length δ1 → O.nx δ1) : WS K B (tFor wi (gTup K 3 (gCons (gName i) (gCons (gName j) (gCons (gName l) gNil)))) t) δ O := fun G0 H0 σ G H E s xx n r b c =>
  h G0 H0 σ G H _ s (xx.ct s) fun J its G1 H1 g1 o1 it ⟨I, i0, turn, last⟩ => by
    refine ⟨fun k m σ H => m = its.length - k ∧ k ≤ its.length ∧ ∃ G δ1, Stt K B G0 H0 G H σ δ1 ∧ Same G1 G ∧ I k δ1, ⟨_, rfl, Nat.zero_le _, G1, δ, s.on g1 o1, Same.refl _, i0⟩, ?_⟩
    rintro k m σ2 H2 ⟨rfl, hk, G2, δ2, s2, sm, ik⟩
    obtain ⟨f1, f2, f3⟩ := it G2 H2 k sm s2.ok
    by_cases hlt : k < its.length
    · refine .inr ⟨f1 hlt, fun σ' H' => ∃ G δ1, Stt K B G0 H0 G H' σ' δ1 ∧ Same G1 G ∧ I (k + 1) δ1, fun σ' H' hN => ⟨its.length - (k + 1), by omega, rfl, hlt, hN⟩, fun x H' y => ?_⟩
      obtain ⟨d, G3, e1, g3, o3, hd⟩ := f2 x H' hlt y
      obtain ⟨d1, d2, d3, ed, tn⟩ := turn k d δ2 e1 ik
      subst ed
      cases hd with
      | tup hg ht =>
      cases ht with
      | cons hd1 ht =>
      cases ht with
      | cons hd2 ht =>
      cases ht with
      | cons hd3 ht =>
      cases ht
      have s3 := (((s2.on g3 o3).setVal i hd1).setVal j hd2).setVal l hd3
      have sm3 := sm.trans g3.s
      refine ⟨_, _, rfl, SqT.ofZ (o3.u _ _ hg.1), rfl, _, _, rfl, _, _, rfl, _, _, rfl, rfl, ?_⟩
      refine tn G0 H0 _ G3 H' _ s3 (xx.on (g1.s.trans sm3)) (fun σ4 δ4 G4 H4 m4 s4 p4 => ⟨G4, δ4, s4, sm3.trans m4, p4⟩) r (fun σ4 δ4 G4 H4 m4 s4 p4 => n _ _ _ _ ((g1.s.trans sm3).trans m4) s4 p4) (fun σ4 δ4 G4 H4 m4 s4 p4 => ⟨G4, δ4, s4, sm3.trans m4, p4⟩)
    · have ek : k = its.length := by omega
      subst ek
      exact .inl ⟨f3 rfl, n _ _ _ _ (g1.s.trans sm) s2 (last δ2 ik)⟩
end
end Dl
/-! Yk: a text times 0 or 1; int() of a truth value. -/
namespace Dl
open PySem PySem.Spec PyProof.Rows L2
def rMulS : R2 := fun x y H Q => ∃ (z : Str) (n : Int), x = .str z ∧ y = .int n ∧ (n = 0 ∨ n = 1) ∧ Q (.str (if n = 0 then Str.empty else z)) H
theorem op_mulS {X : Cx} : OpR X (binaryOp .Mult) rMulS := by
  intro pins s σ H x y v u Q I rx ry h
  obtain ⟨z, n, rfl, rfl, hn, q⟩ := h
  obtain ⟨t, rfl⟩ := rx
  obtain ⟨t2, rfl⟩ := ry
  rcases hn with rfl | rfl
  · refine PySem.P.mul_str_none (by decide) (by decide) ?_
    rw [if_pos rfl] at q
    exact ⟨.str Str.empty, H, I.tok _, ⟨_, rfl⟩, q⟩
  · refine PySem.P.mul_str (by decide) (fun _ h => by cases h) (fun _ h => by cases h) ?_
    rw [if_neg (by decide)] at q
    rw [if_neg (by decide), if_pos (by rfl)]
    exact ⟨.str z, H, I, ⟨t, rfl⟩, q⟩
section
variable {K : PySem.W.Frag} {B : Bt} {P : D → Prop}
theorem ro_mulS {z : Str} {n : Int} (hn : n = 0 ∨ n = 1) (p : P (.str (if n = 0 then Str.empty else z))) : RO K B rMulS (.str z) (.int n) P := fun _ _ _ _ _ o hx hy q => by
  cases hx
  cases hy
  exact ⟨z, n, rfl, rfl, hn, q.nil o (.str _) p⟩
theorem rc_intB {k : Bool} (p : P (.int (if k then 1 else 0))) : RC K B (fun xs H Q => (∃ i, xs = [.int i] ∧ Q (.int i) H) ∨ ∃ k, xs = [.bl k] ∧ Q (.int (if k then 1 else 0)) H) [.bl k] P := fun _ _ _ _ o hs q => by
  cases hs with
  | cons h t =>
    cases t
    cases h
    exact .inr ⟨k, rfl, q.nil o (.int _) p⟩
end
end Dl
/-! Yl: x, y = [..], e: a list of the def's own and a value. -/
namespace Dl
open PySem PySem.Spec PyProof.Rows L2
section
variable {K : PySem.W.Frag} {B : Bt} {δ : List Sd} {O : Out}
theorem ws_parOV {i j : Nat} {ta : TA} {te : TE} (h : WAx K B O.x ta δ fun ds => ds.length ≤ 1000 ∧ WEx K B O.x te δ fun d => O.nx ((δ.set i (.own ds)).set j (.val d))) : WS K B (tPar i j (tCons (tLst ta) (tCons te tNil))) δ O := fun G0 H0 σ G H E s xx n _ _ _ =>
  h G0 H0 σ G H _ s (xx.ct s) fun vs ds G1 H1 g1 o1 hs ⟨l1, w⟩ => ⟨by rw [hs.length]; exact sz1000 l1, fun p hp => by
    have s1 := s.on g1 o1
    have nb := o1.neB hp
    have gp : G1 p = none := o1.fresh hp
    have lg : Go B G1 H1 G1 (upd H1 p (.lst vs)) := loose_go o1 hp
    have lo : Ok B G1 (upd H1 p (.lst vs)) := loose_ok o1 hp
    have s2 := s1.on lg lo
    refine w G0 H0 σ G1 _ _ s2 (((xx.ct s).on g1 o1).on lg lo) fun x d G2 H2 g2 o2 hd pO => ?_
    have s3 := s2.on g2 o2
    have hp3 : H2 p = some (.lst vs) := g2.k p _ nb nt_lst upd_same
    have gp3 : G2 p = none := g2.n p _ nt_lst upd_same gp
    have fr0 : ∀ o, nt o → H0 p ≠ some o := fun o ht e => by
      have := s1.go.k p o nb ht e
      rw [hp] at this
      cases this
    have s4 := s3.tookOwn i nb fr0 gp3 hp3 (hs.mono g2.s) (fun j' fs b e1 e2 eb => by
      obtain ⟨b', us, f1, _, _, _, f5, _⟩ := s1.own j' fs e1
      rw [e2] at f1
      cases f1
      rw [eb, hp] at f5
      cases f5)
    exact ⟨_, _, rfl, n _ _ G2 _ ((g1.s.trans lg.s).trans g2.s) (s4.setVal j hd) pO⟩⟩
end
end Dl
/-! Ym: | and in by a class's own methods; a lambda handed to a def that tells ('', value) or (code, fields). -/
namespace Dl
open PySem PySem.Spec PyProof.Rows L2
/-- what is asked of an own class whose instances stand left of | -/
structure OwnBor (K : PySem.W.Frag) (C f : Addr) : Prop where
  at_ : PySem.W.findIn K (.ref C) (PySem.dunder (PySem.Operator.info .BitOr).2) = some (some (.ref f))
  fn : PySem.W.isFn K (.ref f) = true
  one : PySem.W.selfFirst K C = true
  ror : PySem.W.findIn K (.ref C) (dunderR (PySem.Operator.info .BitOr).2) = some none
/-- what may stand right of it: one of the class, or of a built-in type -/
def BorTy (K : PySem.W.Frag) (C : Addr) (t : Value) : Prop := t = .ref C ∨ ∃ (T : String) (fo ro : Option Value), t = .type T ∧ PySem.W.findIn K (.type T) (PySem.dunder (PySem.Operator.info .BitOr).2) = some fo ∧ PySem.W.findIn K (.type T) (dunderR (PySem.Operator.info .BitOr).2) = some ro ∧ PySem.W.subIn K (.type T) (.ref C) = some false
section
variable {prog : Program} {w : World} {A : Around} {E : Value → Shared → Prop} {s : Shared} {K : PySem.W.Frag} {x C L f : Addr} {h₀ : Heap} {m : Str → Option Value} {ox : Obj} {od : Option Obj} {T : String}
open PySem.W PySem.Calls in
theorem bor_ty {op : Operator} {b : Value} {fo ro : Option Value} {Q : Value → Shared → Prop} (F : Fr h₀ L s.heap m) (X₀ : K.In h₀) (I : InstAt s.heap x ox C od) (hb : Looks (model prog w) s.heap (typeOf b) (.type T)) (one : selfFirst K C = true)
    (hs : findIn K (.ref C) (PySem.dunder op.info.2) = some (some (.ref f))) (hf : isFn K (.ref f) = true) (hr : findIn K (.ref C) (dunderR op.info.2) = some none)
    (h1 : findIn K (.type T) (PySem.dunder op.info.2) = some fo) (h2 : findIn K (.type T) (dunderR op.info.2) = some ro) (hu : subIn K (.type T) (.ref C) = some false)
    (h : wpAny (model prog w) A (call (.ref f) [.ref x, b]) (PySem.W.CmpBack Q) E s) : wpAny (model prog w) A (binaryOp op (.ref x) b) Q E s := by
  have X := X₀.keeps F.keep; obtain ⟨cd, rest, hcd, hm⟩ := ksp_first one
  rcases hi : op.info with ⟨sym, n⟩
  rw [hi] at hs hr h1 h2; dsimp only at hs hr h1 h2
  have go := ksp_try X I hs hf h; obtain ⟨hp, g, d, tt, os⟩ := s
  have l1 : Looks (model prog w) hp (typeOf (.ref x)) (.ref C) := I.type; have l2 : Looks (model prog w) hp (typeOf b) (.type T) := hb
  have l3 : Looks (model prog w) hp (fillsNumberSlot (.ref C) n) true := fills_K X hcd hm hs
  have l4 : Looks (model prog w) hp (fillsNumberSlot (.type T) n) ((fo.isSome && !isSeqSlot fo) || (ro.isSome && !isSeqSlot ro)) := ksp_fillsT X h1 h2
  have l5 : Looks (model prog w) hp (isSubtype (.type T) (.ref C)) false := looks_subIn X hu; have l6 : Looks (model prog w) hp (numberSlotInPython (.ref C) n) true := ksp_inPy X hs hr (.inl rfl)
  have l7 : Looks (model prog w) hp (numberSlotInPython (.type T) n) false := Looks.of_pure rfl; have l8 : Looks (model prog w) hp (typeLookup (.type T) (dunderR n)) ro := looks_findIn X h2
  generalize ((fo.isSome && !isSeqSlot fo) || (ro.isSome && !isSeqSlot ro)) = side at l4
  have other : (Value.ref C == Value.type T) = false := Bool.eq_false_iff.mpr fun q => by cases beq_iff_eq.mp q
  simp only [binaryOp, hi]; refine wpAny_holding (wpAny_bind ?_); unfold binaryOp1
  refine wpAny_bind (l1.at (wpAny_bind (l2.at (wpAny_bind (l3.at ?_))))); simp only [other, Bool.false_eq_true, if_false]
  cases side <;> (ksp_lk; refine wpAny_mono go (fun r s' hr' => ?_) fun _ _ e => e; obtain ⟨v, rfl, hq⟩ := hr'; ksp_lk; exact hq)
end
section
variable {X : Cx} {CX : CXT} {n : Nat} {f C : Addr} {fd : FuncData} {ps : List Str} {sp : Sp} {E : XK}
/-- x | y, x an instance: what its __or__ promises -/
def rBor (K : PySem.W.Frag) (C : Addr) (sp : Sp) (E : XK) : R2 := fun x y H Q => ∃ (a dx : Addr) (fs : List (Str × V)) (t : Value), x = .ref a ∧ H a = some (.ins C dx fs) ∧ TyX K H y t ∧ BorTy K C t ∧ sp [x, y] H (fun v H' => ∃ r, v = .ref r ∧ Q (.ref r) H') E
theorem op_bor (O : OwnBor X.K C f) (F : FnOk X.prog X.w X.K X.mg X.base CX n f fd ps sp) (hb : Binds X.K fd ps []) (hr : Room n X.A) (hx : Passes CX X E) : OpR X (binaryOp .BitOr) (rBor X.K C sp E) := by
  intro pins s σ H x y v u Q I rx ry hq
  obtain ⟨a, dx, fs, t, rfl, ea, ty, bt, h⟩ := hq
  obtain rfl : v = Value.ref a := rx
  obtain ⟨mA, J, _⟩ := ins_get I.hok ea
  obtain ⟨od, J, _⟩ := J.look
  obtain ⟨m, hF⟩ := I.fr
  obtain ⟨Pk, Z, p, _⟩ := kit_of I ry ty
  have go : wpAny (model X.prog X.w) X.A (call (.ref f) [.ref a, u]) (PySem.W.CmpBack fun v s' => EP X pins σ Q v s') X.xe s := by
    refine wpAny_mono (run_fn (us := [.ref a, u]) (vs := [.ref a, y]) F hr hb .nil hx I (.cons (show RelV (V.ref a) (Value.ref a) from rfl) (.cons ry .nil)) (by rw [List.append_nil]; exact h)) (fun w s' hw => ?_) fun _ _ e => e
    obtain ⟨z, H', I', rz, r, rfl, q⟩ := hw
    cases rz
    exact ⟨.ref r, H', I', rfl, q⟩
  rcases bt with rfl | ⟨T, fo, ro, rfl, h1, h2, h3⟩
  · exact PySem.W.binop_K hF I.ok.mod.kin J (Z.ty _ _ I.kIn p) O.one O.at_ O.fn go
  · exact bor_ty hF I.ok.mod.kin J (Z.ty _ _ I.kIn p) O.one O.at_ O.fn O.ror h1 h2 h3 go
/-- x in y, y an instance: what its __contains__ promises -/
def rOin (C : Addr) (sp : Sp) : R2 := fun x y H Q => ∃ (a dx : Addr) (fs : List (Str × V)), y = .ref a ∧ H a = some (.ins C dx fs) ∧ sp [y, x] H (fun v H' => ∃ b : Bool, v = .bl b ∧ Q (.bl b) H') (fun _ _ _ => False)
theorem op_oin (hs : PySem.W.findIn X.K (.ref C) "__contains__" = some (some (.ref f))) (hf : PySem.W.isFn X.K (.ref f) = true) (F : FnOk X.prog X.w X.K X.mg X.base L2.CX0 n f fd ps sp) (hb : Binds X.K fd ps []) (hr : Room n X.A) : OpR X (compareOp .In) (rOin C sp) := by
  intro pins s σ H x y v u Q I rx ry hq
  obtain ⟨a, dx, fs, rfl, ea, h⟩ := hq
  obtain rfl : u = Value.ref a := ry
  obtain ⟨mA, J, _⟩ := ins_get I.hok ea
  obtain ⟨od, J, _⟩ := J.look
  obtain ⟨m, hF⟩ := I.fr
  refine PySem.W.in_K hF I.ok.mod.kin J hs hf (wpAny_mono (call_below F hb ⟨hr, rfl⟩ I (.cons (show RelV (V.ref a) (Value.ref a) from rfl) (.cons rx .nil)) h) (fun w s' hw => ?_) fun _ _ e => e)
  obtain ⟨z, H', I', rz, b, rfl, q⟩ := hw
  cases rz
  exact wpAny_truthy_bool ⟨.bl b, H', I', rfl, q⟩
end
section
variable {K : PySem.W.Frag} {B : Bt} {δ : List Sd} {P : D → Prop} {E : XK} {R : Addr → List Str → List D → Prop} {X : Xc} {ta tb : TE} {C : Addr}
theorem we_borX {pre : List D → Prop} {post : List D → D → Prop} {exc : List D → Addr → List Str → List D → Prop} (h : WEx K B (XE E R) ta δ fun a => WEx K B (XE E R) tb δ fun b => ∃ ks ds, a = .obj C ks ds ∧ (∀ G H v, Ok B G H → Dd K B G v b → ∃ t, TyX K H v t ∧ BorTy K C t) ∧ pre [a, b] ∧ (∀ r, post [a, b] r → (∃ C ks ds, r = .obj C ks ds) ∧ P r) ∧ ∀ C ks es, exc [a, b] C ks es → R C ks es) :
    WEx K B (XE E R) (tOp (rBor K C (SpX K pre post exc) E) ta tb) δ P := fun G0 H0 σ G H Q s xx q =>
  h G0 H0 σ G H _ s xx fun v a G1 H1 g1 o1 hv w => w G0 H0 σ G1 H1 _ (s.on g1 o1) (xx.on g1 o1) fun u b G2 H2 g2 o2 hu ⟨ks, ds, e, ht, p, mm, ex⟩ => by
    subst e
    have hv2 := hv.mono g2.s
    obtain ⟨t, ty, bt⟩ := ht G2 H2 u o2 hu
    cases hv2 with
    | obj hg t' =>
      refine ⟨_, _, _, t, rfl, o2.u _ _ hg, ty, bt, B, G2, _, o2, .cons (.obj hg t') (.cons hu .nil), p, fun v' d' G3 H3 g3 o3 hd pd => ?_, fun C' d' ks' es G3 H3 g3 o3 hd pe => ((xx.on g1 o1).on g2 o2) C' d' ks' es G3 H3 g3 o3 hd (ex C' ks' es pe)⟩
      obtain ⟨⟨C2, ks2, ds2, e2⟩, pp⟩ := mm d' pd
      subst e2
      cases hd with
      | obj hg2 t2 => exact ⟨_, rfl, ((q.on g1 o1).on g2 o2) _ _ G3 H3 g3 o3 (.obj hg2 t2) pp⟩
theorem we_bor {pre : List D → Prop} {post : List D → D → Prop} {E : XK} (h : WEx K B X ta δ fun a => WEx K B X tb δ fun b => ∃ ks ds, a = .obj C ks ds ∧ (∀ G H v, Ok B G H → Dd K B G v b → ∃ t, TyX K H v t ∧ BorTy K C t) ∧ pre [a, b] ∧ ∀ r, post [a, b] r → (∃ C ks ds, r = .obj C ks ds) ∧ P r) :
    WEx K B X (tOp (rBor K C (SpD K pre post) E) ta tb) δ P := fun G0 H0 σ G H Q s xx q =>
  h G0 H0 σ G H _ s xx fun v a G1 H1 g1 o1 hv w => w G0 H0 σ G1 H1 _ (s.on g1 o1) (xx.on g1 o1) fun u b G2 H2 g2 o2 hu ⟨ks, ds, e, ht, p, mm⟩ => by
    subst e
    have hv2 := hv.mono g2.s
    obtain ⟨t, ty, bt⟩ := ht G2 H2 u o2 hu
    cases hv2 with
    | obj hg t' =>
      refine ⟨_, _, _, t, rfl, o2.u _ _ hg, ty, bt, B, G2, _, o2, .cons (.obj hg t') (.cons hu .nil), p, fun v' d' G3 H3 g3 o3 hd pd => ?_⟩
      obtain ⟨⟨C2, ks2, ds2, e2⟩, pp⟩ := mm d' pd
      subst e2
      cases hd with
      | obj hg2 t2 => exact ⟨_, rfl, ((q.on g1 o1).on g2 o2) _ _ G3 H3 g3 o3 (.obj hg2 t2) pp⟩
theorem ro_oin {pre : List D → Prop} {post : List D → D → Prop} {ks : List Str} {ds : List D} {e : D} (p : pre [.obj C ks ds, e]) (m : ∀ r, post [.obj C ks ds, e] r → ∃ b : Bool, r = .bl b ∧ P (.bl b)) : RO K B (rOin C (SpD K pre post)) e (.obj C ks ds) P := fun G H x y Q o hx hy q => by
  cases hy with
  | obj hg t =>
    refine ⟨_, _, _, rfl, o.u _ _ hg, B, G, _, o, .cons (.obj hg t) (.cons hx .nil), p, fun v d G1 H1 g1 o1 hd pd => ?_⟩
    obtain ⟨b, rfl, pb⟩ := m d pd
    cases hd
    exact ⟨b, rfl, (q.on g1 o1).nil o1 (.bl b) pb⟩
end
end Dl
/-! Yn: a lambda handed to a def that calls it in a try and answers ('', value), or (code, fields) of the error that was caught. -/
namespace Dl
open PySem PySem.Spec PyProof.Rows L2 LamX
open L2H (RoomH roomH_of)
/-- the suite: return (e.code, fields(e)) -/
def tSuiteP (K : PySem.W.Frag) (spF : Sp) : TS := tRet (zTup (tCons (tXv K "code" (tVar 1)) (tCons (tCall spF [] L2.E0 (tCons (tVar 1) tNil)) tNil)))
def TTry (K : PySem.W.Frag) (c1 c2 : Value) (spF : Sp) : (XK → Hp → VK → Prop) → Hp → VK → Prop := fun tl H Q => ∀ f : Addr,
  tl (L2.WE (wTup K c1 c2 1 (tSuiteP K spF) (fun _ _ _ _ => False) { nx := fun _ H' => Q .non H', rt := Q }) [some (.ref f), none]) H fun v H1 => ([.str "", v] : List V).length ≤ sizeLine ∧ NewT Q H1 [.str "", v]
section
variable {X : Cx}
theorem try_gives {a x1 x2 n xf x q : Str} {sg : Scope} {g : Addr} {cdg c1 c2 : Value} {j kf ff kk k2 k3 : Nat} {fdF : FuncData} {psF : List Str} {spF : Sp} {P1 P2 P3 P4 P5 P6 P7 P8 P10 P11 P12 P13 P14 P15 P17 P18 P19 : Pos} {kt kq : Nat}
    (Sg : FnScope [a, n] [a] sg) (h1 : sg.names.lookup x1 = some .globalImplicit) (h2 : sg.names.lookup x2 = some .globalImplicit) (d1 : (x1 == ("__debug__" : Str)) = false) (d2 : (x2 == ("__debug__" : Str)) = false) (hn : sg.names.lookup n = some .local)
    (m1 : X.mg x1 = some c1) (m2 : X.mg x2 = some c2) (hgf : sg.names.lookup xf = some .globalImplicit) (mf : X.mg xf = some (.ref ff)) (kf' : PySem.W.keepIn X.K (.ref ff) = true) (bf : Binds X.K fdF psF []) (dF : (xf == ("__debug__" : Str)) = false) (dn : (n == ("__debug__" : Str)) = false) (dnc : (n == ("__classdict__" : Str)) = false)
    (F : FnT X.prog X.w X.K X.mg X.base kf ff fdF psF spF) (hj : kf ≤ j + 1) :
    GivesS X [a, n] x sg g cdg [.Try [.Return (some (.Tuple [.Constant (.str "") kt P1, .Call (.Name a P2) [] [] P3] k2 P4)) P5] [.ExceptHandler (some (.Tuple [.Name x1 P6, .Name x2 P7] kk P8)) (some n) [.Return (some (.Tuple [.Attribute (.Name n P10) "code" P11, .Call (.Name xf P13) [.Name n P14] [] P15] k3 P12)) P17] P18] [] [] P19] a q j (TTry X.K c1 c2 spF) := by
  intro f c' s H Q tl hr act hc h
  have vn : Vis sg n := .inl hn
  refine ⟨_, pss_one (ps_try_tup (X := (cxOf C8.CX0 X.prog X.w X.K X.mg X.base [a, n] x sg g cdg X.A X.stack s H C8.E0).nox) (c1 := c1) (c2 := c2) (i := 1) (ts := tSuiteP X.K spF)
      (tb := fun W => tRet (zTup (tCons (tC (.str "")) (tCons (fun σZ HZ Q => σZ[0]? = some (some (.ref f)) ∧ HZ c' = some (CodeO c' q) ∧ tl (L2.WE W σZ) HZ Q) tNil))))
      rfl rfl rfl Sg.nd rfl (show sg.names.lookup n = some .local from hn) ⟨h1, d1, .inl m1⟩ ⟨h2, d2, .inl m2⟩ L2.takes0 (fun W pn xe tk _ => pss_one (ps_ret (pe_tupZ (pa_cons pe_str (pa_cons (act W pn xe P2 P3 tk) pa_nil))))) (fun a' pn => ?_)), ?_⟩
  · have hrH : RoomH kf (((cxOf C8.CX0 X.prog X.w X.K X.mg X.base [a, n] x sg g cdg X.A X.stack s H C8.E0).nox.suite a' pn)).A := ⟨(roomH_of hr).mono hj |>.dp, (roomH_of hr).mono hj |>.un⟩
    have ve : ∀ {pp : Pos}, PE ((cxOf C8.CX0 X.prog X.w X.K X.mg X.base [a, n] x sg g cdg X.A X.stack s H C8.E0).nox.suite a' pn) (.Name n pp) (tVar 1) := fun {pp} => pe_var (pos := pp) (i := 1) rfl vn dn dnc
    exact pss_one (ps_ret (pe_tupZ (pa_cons (pe_xv ve) (pa_cons (pe_callT (X := ((cxOf C8.CX0 X.prog X.w X.K X.mg X.base [a, n] x sg g cdg X.A X.stack s H C8.E0).nox.suite a' pn)) F hrH hgf mf kf' bf (pa_cons ve pa_nil) dF) pa_nil))))
  · exact ⟨rfl, hc, h f⟩
end
section
variable {K : PySem.W.Frag} {B : Bt} {G H H1 : Hp} {δ : List Sd} {P : D → Prop} {X : Xc}
theorem we_try {c1 c2 : Value} {preF : List D → Prop} {postF : List D → D → Prop} {te : XK → TE} {R : D → Prop} {exc : Addr → List Str → List D → Prop}
    (hb : ∀ E : XK, WEx K B { W := fun cls d _ H => E cls d H, ex := fun _ => exc } (te E) δ R) (hv : ∀ d, R d → P (.tup [.str "", d]))
    (hx : ∀ C ks ds, exc C ks ds → PySem.W.exmAny K (.ref C) [c1, c2] = some true ∧ WS K B (tSuiteP K (SpD K preF postF)) [.no, .val (.exn C ks ds)] { nx := fun _ => False, rt := P }) :
    WEx K B X (tLam B.T (TTry K c1 c2 (SpD K preF postF)) te) δ P := fun G0 H0 σ G H Q s xx q => by
  refine ⟨s.ok.t, fun H1 hE hT f => ?_⟩
  obtain ⟨g1, o1⟩ := ext_go s.ok hE hT
  refine hb _ G0 H0 σ G H1 _ (s.on g1 o1) (fun C d ks ds G2 H2 g2 o2 hd pe => ?_) fun v d G2 H2 g2 o2 hd pd => ?_
  · obtain ⟨hm, hw⟩ := hx C ks ds pe
    refine ⟨true, hm, fun _ => ⟨C, d, rfl, rfl, fun a na => ?_⟩, fun z => absurd z (by decide)⟩
    obtain ⟨fs, e1, rfl, e3⟩ := hd
    have hda : d ≠ a := fun z => by
      have z2 := o2.u _ _ e1
      rw [z, na] at z2; cases z2
    have g3 := new_go o2 (x := xo a C d) na
    have o3 := new_ok o2 (xo_nt (a := a) (C := C) (d := d)) na
    have st : Stt K B (upd G2 a (xo a C d)) (upd H2 a (xo a C d)) (upd G2 a (xo a C d)) (upd H2 a (xo a C d)) ([some (V.ref f), none].set 1 (some (V.ref a))) [.no, .val (.exn C (fs.map (·.1)) ds)] := by
      refine ⟨Go.refl, o3, rfl, fun i d' h => ?_, fun i es h => ?_, fun i j es es' x h => ?_⟩
      · match i, h with
        | 0, h => cases h
        | 1, h => cases h; exact ⟨.ref a, rfl, .exn upd_same (by rw [upd_ne hda]; exact e1) (e3.mono g3.s)⟩
        | n + 2, h => cases h
      · match i, h with
        | 0, h => cases h
        | 1, h => cases h
        | n + 2, h => cases h
      · match i, h with
        | 0, h => cases h
        | 1, h => cases h
        | n + 2, h => cases h
    exact hw _ _ _ _ _ _ st xs0 (fun _ _ _ _ _ _ z => z.elim) ⟨fun v d' G4 H4 g4 o4 hd' pd' => (((q.on g1 o1).on g2 o2).on g3 o3) v d' G4 H4 g4 o4 hd' pd', fun _ _ _ _ _ _ _ _ _ _ _ _ z => z.elim⟩ (fun _ _ _ _ _ _ z => z.elim) (fun _ _ _ _ _ _ z => z.elim)
  · refine ⟨by show 2 ≤ sizeLine; decide, fun p ob hp hdn => ?_⟩
    exact ((q.on g1 o1).on g2 o2).new o2 nt_tup hp (.tup ⟨upd_same, hdn⟩ ((Dds.cons (.str "") (.cons hd .nil)).mono (same_upd (o2.fresh hp)))) (hv d pd)
end
end Dl
/-! Yp: a comprehension with a test, by a filter. -/
namespace Dl
open PySem PySem.Spec PyProof.Rows L2
section
variable {K : PySem.W.Frag} {B : Bt} {δ : List Sd} {P : D → Prop} {X : Xc}
theorem we_lcF {α : Type} {xs : List α} {wi : TI} {i : Nat} {tt : TT} {te : TE} (f g : α → D) (b : α → Bool) (hl : xs.length ≤ 1000) (h : WIx K B X wi δ fun its => its = xs.map f) (ht : ∀ a ∈ xs, WT K B tt (δ.set i (.val (f a))) fun c => c = b a) (hw : ∀ a ∈ xs, b a = true → WE K B te (δ.set i (.val (f a))) fun y => y = g a) (hp : P (.lst ((xs.filter b).map g))) : WEx K B X (tLc wi (gName i) tt te [i]) δ P :=
  we_lc (h.mono fun its e => by
    subst e
    refine ⟨by rw [List.length_map]; exact hl, fun n acc => acc = ((xs.take n).filter b).map g, rfl, fun n d acc hd hacc => ?_, fun acc hacc => ?_⟩
    · have hacc' : acc = ((xs.take n).filter b).map g := hacc
      rw [List.getElem?_map] at hd
      obtain ⟨x, hx, rfl⟩ : ∃ x, xs[n]? = some x ∧ f x = d := by
        cases e : xs[n]? with
        | none => rw [e] at hd; cases hd
        | some q => rw [e] at hd; exact ⟨q, rfl, Option.some.inj hd⟩
      have hm := List.mem_of_getElem? hx
      refine (ht x hm).mono fun c ec => ?_
      subst ec
      have st : ((xs.take (n + 1)).filter b).map g = ((xs.take n).filter b).map g ++ (if b x = true then [g x] else []) := by
        rw [List.take_add_one, hx, List.filter_append, List.map_append]
        congr 1
        show ([x].filter b).map g = _
        cases q : b x <;> simp [List.filter, q]
      by_cases q : b x = true
      · rw [if_pos q]
        refine (hw x hm q).mono fun y ey => ?_
        show acc ++ [y] = _
        rw [ey, hacc', st, if_pos q]
      · rw [if_neg q]
        show acc = _
        rw [hacc', st, if_neg q, List.append_nil]
    · have hacc' : acc = ((xs.take (xs.map f).length).filter b).map g := hacc
      rw [List.length_map, List.take_length] at hacc'
      rw [hacc']
      exact hp)
end
end Dl
/-! Wa: exceptions as values: C(..) by place and by name of an own class over any built-in one, its __init__ a def that stores. -/
namespace Dl
open PySem PySem.Spec PyProof.Rows L2
section
variable {prog : Program} {w : World} {A : Around} {E : Value → Shared → Prop} {R : Result → Shared → Prop} {h : Heap} {g : Array GenState} {d : Drawn} {t : Nat} {os : OsState}
variable {nm q : Str} {C N : Addr} {bs bm bmB : List Value} {hdct : Bool} {sn : List Str} {sub : List Value} {ab : Bool} {col : Option Bool} {dd : Option Addr} {k0 k1 k2 k3 k5 : Option Value} {B newId initId : String}
/-- a built-in base: what PyProof tells of it, and that its __new__ takes any arguments -/
structure XB (B newId initId : String) (bmB : List Value) : Prop where
  F : ExcBaseFacts B newId initId bmB
  row : ∀ (c : Value) (us : List Value) (kw : List (Str × Value)), Bind.checkArgs newId ⟨.any, B, B, .cls, [⟨"args", .varPos, false⟩, ⟨"kwargs", .varKw, false⟩]⟩ ⟨c :: us, kw⟩ = pure ()
  pass : ∀ self : Value, refuseLoop self "__setattr__" bmB = pure ()
  ob : bmB.contains (.type "object") = true
theorem xb_VE : XB "ValueError" "ValueError.__new__" "ValueError.__init__" [.type "ValueError", .type "Exception", .type "BaseException", .type "object"] := ⟨PySem.F.excBase_ValueError, fun _ _ _ => by kernel_rfl, PySem.F.store_ValueError.passes, by decide +kernel⟩
theorem xb_LE : XB "LookupError" "LookupError.__new__" "LookupError.__init__" [.type "LookupError", .type "Exception", .type "BaseException", .type "object"] := ⟨PySem.F.excBase_LookupError, fun _ _ _ => by kernel_rfl, PySem.F.store_LookupError.passes, by decide +kernel⟩
theorem xb_IE : XB "IndexError" "IndexError.__new__" "IndexError.__init__" [.type "IndexError", .type "LookupError", .type "Exception", .type "BaseException", .type "object"] := ⟨PySem.F.excBase_IndexError, fun _ _ _ => by kernel_rfl, PySem.F.store_IndexError.passes, by decide +kernel⟩
theorem kw_chk {Mo : Model} (X : XB B newId initId bmB) (hT : ∀ Y : String, bm.contains (.type Y) = bmB.contains (.type Y)) {us : List Value} {kw : List (Str × Value)} {Q : Unit → Shared → Prop} (hq : Q () ⟨h, g, d, t, os⟩)
    (oC : h.get? C = some (excClassObj nm q C N bs bm hdct sn sub ab col dd k0 k1 k2 k3 k5 newId)) : wpAny Mo A (checkBuiltinCall newId ⟨.ref C :: us, kw⟩) Q E ⟨h, g, d, t, os⟩ := by
  have F := X.F
  have yes : (Value.ref C :: bm).contains (.type B) = true := by rw [List.contains_cons, hT B, F.hasB, Bool.or_true]
  have F := X.F
  have ns := F.noStar
  simp only [checkBuiltinCall, F.newKind, F.newSplit, F.newRow, X.row]
  repeat (first | refine wpAny_loadPart_at oC ?_ | (refine wpAny_isSubtype_exc oC ?_; rw [yes]) | refine wpAny_staticBase_exc oC ?_ | refine wpAny_madeBy_exc oC ?_ | simp only [bne_self_eq_false, Bool.false_eq_true, if_false] | wp_step)
  exact hq
theorem kw_new (X : XB B newId initId bmB) (hT : ∀ Y : String, bm.contains (.type Y) = bmB.contains (.type Y)) {us : List Value} {kw : List (Str × Value)} (hz : us.length ≤ sizeLine)
    (oC : h.get? C = some (excClassObj nm q C N bs bm hdct sn sub ab col dd k0 k1 k2 k3 k5 newId))
    (hq : R (.ok (.ret (.ref (h.objs.size + 1)))) ⟨(h.push (PySem.W.kdv_tup us)).push (PySem.HandSPX.excO C h.objs.size), g, d, t, os⟩) : codeAny (model prog w) A (.builtin newId ⟨.ref C :: us, kw⟩) R ⟨h, g, d, t, os⟩ := by
  have F := X.F
  have fe := F.ends
  have yes : (Value.ref C :: bm).contains (.type B) = true := by rw [List.contains_cons, hT B, F.hasB, Bool.or_true]
  have noA : (Value.ref C :: bm).contains (.type "AttributeError") = false := by rw [List.contains_cons, hT _, F.noAttr]; rfl
  have noN : (Value.ref C :: bm).contains (.type "NameError") = false := by rw [List.contains_cons, hT _, F.noName]; rfl
  refine codeAny_builtinAt F.entry ?_
  unfold Builtin.«BaseException.__new__»
  refine PySem.wpAt_bind ?_
  show PySem.wpAt _ _ _ (stack >>= _) _ _ _
  refine PySem.wpAt_bind (PySem.wpAt_stack fun _ _ => PySem.wpAt_of_wpAny ?_)
  wp_walk
  refine PySem.wpAt_of_wpAny ?_
  rw [F.owner]
  repeat (first | with_reducible refine wpAny_madeHere_exc F.canon oC ?_ | with_reducible refine wpAny_loadPart_at oC ?_ | (with_reducible refine wpAny_isSubtype_exc oC ?_; first | rw [yes] | rw [noA] | rw [noN]) | wp_step)
  show R _ _
  rw [Heap.size_push]
  exact hq
theorem kw_type (X : XB B newId initId bmB) (hT : ∀ Y : String, bm.contains (.type Y) = bmB.contains (.type Y)) {us : List Value} {kw : List (Str × Value)} {fI : Addr} {Q : Fin → Shared → Prop} (hz : us.length ≤ sizeLine)
    (oC : h.get? C = some (excClassObj nm q C N bs bm hdct sn sub ab col dd k0 k1 k2 k3 k5 newId))
    (li : PySem.W.Looks (model prog w) h (typeLookup (.ref C) "__init__") (some (.ref fI))) (lb : ∀ self, PySem.W.Looks (model prog w) h (bindSpecial (.ref fI) self) (.ref fI, [self]))
    (hq : codeAny (model prog w) A (.call (.ref fI) ⟨.ref (h.objs.size + 1) :: us, kw⟩)
      (fun r s' => match r with | .ok (.ret v) => v = .none ∧ Q (.done (.ret (.ref (h.objs.size + 1)))) s' | .ok _ => False | .error e => E e s') ⟨(h.push (PySem.W.kdv_tup us)).push (PySem.HandSPX.excO C h.objs.size), g, d, t, os⟩) :
    wpAny (model prog w) A (Builtin.«type.__call__» ⟨.ref C :: us, kw⟩) Q E ⟨h, g, d, t, os⟩ := by
  repeat (first | with_reducible refine wpAny_loadPart_at oC ?_ | with_reducible refine wpAny_madeBy_exc oC ?_ | wp_step)
  refine codeAny_call_builtin_code (Code.quiet_builtin _ X.F.quiet) (kw_chk X hT ?_ oC)
  refine kw_new X hT hz oC ?_
  show wpAny _ _ _ _ _ _
  have kp : ∀ b o, h.get? b = some o → ((h.push (PySem.W.kdv_tup us)).push (PySem.HandSPX.excO C h.objs.size)).get? b = some o := fun _ _ e => Heap.get?_push_of_some _ (Heap.get?_push_of_some _ e)
  have oC1 := kp _ _ oC
  have oe : ((h.push (PySem.W.kdv_tup us)).push (PySem.HandSPX.excO C h.objs.size)).get? (h.objs.size + 1) = some (PySem.HandSPX.excO C h.objs.size) := by heap_get
  have own : (Value.ref C :: bm).contains (.ref C) = true := by simp
  have li1 := li.keeps kp
  have lb1 := (lb (.ref (h.objs.size + 1))).keeps kp
  unfold isInstance
  repeat (first | with_reducible refine wpAny_loadPart_at oe ?_ | (with_reducible refine wpAny_isSubtype_exc oC1 ?_; rw [own]) | wp_step)
  show wpAny _ _ (typeLookup (.ref C) _) _ _ _
  refine li1.at (wpAny_holding (wpAny_bind (lb1.at (wpAny_bind (wpAny_call (codeAny_mono hq fun r s' z => ?_))))))
  rcases r with e | (v | _ | _ | _) <;> first | exact z | exact z.elim | skip
  obtain ⟨rfl, z⟩ := z
  first
    | exact wpAny_pure (wpAny_pure z)
    | (wp_walk; exact z)
/-- C(us, kw): a bare exception, then its __init__ -/
theorem kw_call (X : XB B newId initId bmB) (hT : ∀ Y : String, bm.contains (.type Y) = bmB.contains (.type Y)) {us : List Value} {kw : List (Str × Value)} {fI : Addr} (hz : us.length ≤ sizeLine)
    (oC : h.get? C = some (excClassObj nm q C N bs bm hdct sn sub ab col dd k0 k1 k2 k3 k5 newId))
    (li : PySem.W.Looks (model prog w) h (typeLookup (.ref C) "__init__") (some (.ref fI))) (lb : ∀ self, PySem.W.Looks (model prog w) h (bindSpecial (.ref fI) self) (.ref fI, [self]))
    (hq : codeAny (model prog w) (A.under (.builtin "type.__call__" ⟨.ref C :: us, kw⟩)) (.call (.ref fI) ⟨.ref (h.objs.size + 1) :: us, kw⟩) (PySem.W.InitBack (h.objs.size + 1) R) ⟨(h.push (PySem.W.kdv_tup us)).push (PySem.HandSPX.excO C h.objs.size), g, d, t, os⟩) :
    codeAny (model prog w) A (.call (.ref C) ⟨us, kw⟩) R ⟨h, g, d, t, os⟩ := by
  have f1 := tc_lookup
  have f2 := tc_bind (.ref C)
  have f3 := tc_sub
  have ty : (⟨h, g, d, t, os⟩ : Shared).TypeIs (.ref C) "type" := ⟨_, oC, rfl⟩
  refine codeAny_of_tree ?_
  show wpAny _ _ (callAny (.ref C) _) _ _ _
  repeat (any_goals (first | assumption | with_reducible refine wpAny_loadPart_at oC ?_ | wp_step))
  refine ⟨rfl, ?_⟩
  have ii : PySem.W.Looks (model prog w) h (isInstance (.ref C) (.type "type")) true := fun A Q E s k q => by
    have oC' := k _ _ oC
    have ty' : s.TypeIs (.ref C) "type" := ⟨_, oC', rfl⟩
    unfold isInstance
    repeat (any_goals (first | assumption | with_reducible refine wpAny_loadPart_at oC' ?_ | wp_step))
  refine codeAny_call_builtin_at (Code.quiet_builtin _ (by decide +kernel)) entry_typeCall (PySem.W.check_slot tc_kind tc_split ii (PySem.W.tc_args _ _ _) (kw_type X hT hz oC li lb ?_))
  refine codeAny_mono hq fun r s' z => ?_
  rcases r with e | (v | _ | _ | _) <;> exact z
end
end Dl
/-! Wb: what is asked of such a class, in one test; its __init__'s stores. -/
namespace Dl
open PySem PySem.Spec PyProof.Rows L2
structure OG (K : PySem.W.Frag) (C : Addr) (fs : List Str) : Prop where
  b : ∃ (B newId initId : String) (bmB : List Value), XB B newId initId bmB ∧ ogB K C bmB newId = true
  p : ogP K C fs = true
section
variable {K : PySem.W.Frag} {C : Addr} {fs : List Str}
theorem OG.all (o : OG K C fs) : (PySem.W.findIn K (.ref C) "__setattr__" = some (some (.builtin "object.__setattr__")) ∧ PySem.W.subIn K (.ref C) (.type "BaseException") = some true ∧ PySem.W.typeIn K (.ref C) = some (.type "type") ∧ PySem.W.keepIn K (.ref C) = true) ∧
    (PySem.W.findIn K (.ref C) "__getattribute__" = some (some (.builtin "BaseException.__getattribute__")) ∧ PySem.W.findIn K (.ref C) "__getattr__" = some none ∧ PySem.W.hasDictIn K C = true) ∧ ∀ f ∈ fs, PySem.W.findIn K (.ref C) f = some none := by
  have h := o.p
  unfold ogP at h
  simp only [Bool.and_eq_true, beq_iff_eq, List.all_eq_true] at h
  obtain ⟨⟨⟨⟨⟨⟨⟨h1, h2⟩, h3⟩, h4⟩, h5⟩, h6⟩, h7⟩, h8⟩ := h
  exact ⟨⟨h1, h2, h3, h4⟩, ⟨h5, h6, h7⟩, h8⟩
theorem OG.xf (o : OG K C fs) : XfC K C := by
  obtain ⟨⟨_, h2, _, _⟩, ⟨h5, h6, h7⟩, _⟩ := o.all
  exact ⟨h5, h6, h2, h7⟩
theorem OG.n (o : OG K C fs) {f : Str} (h : f ∈ fs) : PySem.W.findIn K (.ref C) f = some none := o.all.2.2 f h
/-- its class record -/
theorem OG.cd (o : OG K C fs) : ∃ cd, PySem.W.clsIn K C = some cd ∧ cd.hasDict = true ∧ (∀ self, refuseLoop self "__setattr__" cd.mro = pure ()) ∧ cd.mro.contains (.type "object") = true ∧ cd.mro.isEmpty = false := by
  obtain ⟨B, newId, initId, bmB, X, h⟩ := o.b
  unfold ogB at h
  rw [Bool.and_eq_true] at h
  obtain ⟨_, h⟩ := h
  split at h
  · rename_i cd hc
    rw [Bool.and_eq_true] at h
    obtain ⟨hd, h⟩ := h
    refine ⟨cd, hc, hd, ?_⟩
    split at h
    · rename_i C' bm hm
      refine ⟨fun self => ?_, ?_, ?_⟩
      · rw [hm, refuseLoop_ref]
        exact PySem.W.excTail_pass self (X.pass self) bm h
      · rw [hm, List.contains_cons, PySem.W.excTail_contains _ bm h, X.ob, Bool.or_true]
      · rw [hm]; rfl
    · exact Bool.noConfusion h
  · exact Bool.noConfusion h
end
section
variable {prog : Program} {w : World} {A : Around} {R : Result → Shared → Prop} {hp : Heap} {g : Array GenState} {d : Drawn} {t : Nat} {os : OsState}
/-- object.__setattr__ on such an exception, up to the store into its dict -/
theorem osa_to {K : PySem.W.Frag} {f : Str} {tk : Tok} {v : Value} {x C : Addr} {o : Obj} {od : Option Obj} {fs : List Str} (kin : K.In hp) (O : OG K C fs) (hf : f ∈ fs) (J : PySem.W.InstAt hp x o C od) {Q : Fin → Shared → Prop} {E : Value → Shared → Prop}
    (hR : ∀ cd, PySem.W.clsIn K C = some cd → cd.hasDict = true → ∀ A, wpAny (model prog w) A (Builtin.ObjectAttr.storeInOwnDict (.ref x) (.ref C) (.str f tk) f v false) Q E ⟨hp, g, d, t, os⟩) (A' : Around) :
    wpAny (model prog w) A' (Builtin.«object.__setattr__» ⟨[.ref x, .str f tk, v], []⟩) Q E ⟨hp, g, d, t, os⟩ := by
  obtain ⟨cd, hcd, hh, hpass, hob, hne⟩ := O.cd
  have mr : PySem.W.Looks (model prog w) hp (mroOf (.ref C)) cd.mro := (PySem.W.looks_clsIn kin hcd).andThen .now
  have no : PySem.W.Looks (model prog w) hp (Builtin.ObjectAttr.storeTaker? none) none := .now
  rw [PySem.W.osa_eq, refuse_eq]
  refine wpAny_bind (wpAny_bind (J.type.at (wpAny_bind (mr.at ?_))))
  rw [hpass]
  refine wpAny_pure (wpAny_bind (J.type.at (wpAny_bind ((PySem.W.looks_findIn kin (O.n hf)).at (wpAny_bind (no.at ?_))))))
  exact hR cd hcd hh _
/-- the first field: it gets its dict -/
theorem osa_first {K : PySem.W.Frag} {f : Str} {tk : Tok} {v : Value} {x C : Addr} {fv : Array Value} {fs : List Str} (kin : K.In hp) (O : OG K C fs) (hf : f ∈ fs) (hx : hp.get? x = some { cls := .ref C, data := .fields fv })
    (hq : ∀ h' tk' dx, (∀ b o, b ≠ x → hp.get? b = some o → h'.get? b = some o) → hp.objs.size ≤ dx → dx ≠ x → h'.get? x = some { cls := .ref C, dict := some dx, data := .fields fv } →
      h'.Ns1 dx (fun y => if y = f then some v else none) → R (.ok (.ret .none)) ⟨h', g, d, tk', os⟩) :
    codeAny (model prog w) A (.call (.builtin "object.__setattr__") ⟨[.ref x, .str f tk, v], []⟩) R ⟨hp, g, d, t, os⟩ := by
  have J : PySem.W.InstAt hp x { cls := .ref C, data := .fields fv } C none := ⟨hx, rfl, rfl, trivial⟩
  have SF := F.store_object
  obtain ⟨cd0, hcd0, _, _, hob, hne⟩ := O.cd
  have isob : PySem.W.Looks (model prog w) hp (isInstance (.ref x) (.type "object")) true := J.type.andThen (PySem.W.looks_mroIn kin (by unfold PySem.W.mroIn; rw [hcd0, Option.bind_some, if_neg (by rw [hne]; decide), hob]))
  have xne : x ≠ hp.objs.size := Nat.ne_of_lt (Heap.lt_size hx)
  refine codeAny_call_builtin SF.slot.plain SF.entry (@PySem.W.check_slot (model prog w) _ _ ⟨hp, g, d, t, os⟩ "object.__setattr__" "object" "__setattr__" (.ref x) [.str f tk, v] [] _ SF.kind SF.split isob (SF.args (.ref x) (.str f tk) v) ?_)
  refine osa_to kin O hf J (fun cd hcd hh A => ?_) _
  have lc : PySem.W.Looks (model prog w) hp (classData C) cd := PySem.W.looks_clsIn kin hcd
  obtain ⟨nm, bs, mro, ns, qn, hd, sn, sb, ab, col, del⟩ := cd
  dsimp only at hh
  subst hh
  unfold Builtin.ObjectAttr.storeInOwnDict Builtin.ObjectAttr.ownDictForStores
  repeat (first | with_reducible refine PySem.HandSPX.store_in_new ?_ ?_ | with_reducible refine wpAny_loadPart_at hx ?_ | with_reducible refine lc.at ?_ | wp_step)
  · exact ⟨_, #[], _, (Heap.get?_update_ne _ _ _ _ xne.symm).trans (Heap.get?_push_at rfl rfl), rfl, fun e he => absurd he (by simp), fun _ => rfl⟩
  · intro h' tk' ns' sm
    have hx1 : (hp.push { cls := .type "dict", data := .dict #[] }).get? x = some { cls := .ref C, data := .fields fv } := Heap.get?_push_of_some _ hx
    exact hq h' tk' hp.objs.size (fun b o nb ho => (sm.2 b (Nat.ne_of_lt (Heap.lt_size ho))).trans ((Heap.get?_update_ne _ _ _ _ nb).trans (Heap.get?_push_of_some _ ho))) (Nat.le_refl _) xne.symm ((sm.2 x xne).trans (Heap.get?_update_self _ hx1 rfl)) ns'
/-- a further field -/
theorem osa_more {K : PySem.W.Frag} {f : Str} {tk : Tok} {v : Value} {x C dx : Addr} {fv : Array Value} {m0 : Str → Option Value} {nl : List Str} {fs : List Str} (kin : K.In hp) (O : OG K C fs) (hf : f ∈ fs) (hx : hp.get? x = some { cls := .ref C, dict := some dx, data := .fields fv })
    (hns : hp.Ns1 dx m0) (hw : Within m0 nl) (hz : nl.length ≤ 1000)
    (hq : ∀ h' tk', (∀ b o, b ≠ dx → hp.get? b = some o → h'.get? b = some o) → h'.Ns1 dx (fun y => if y = f then some v else m0 y) → R (.ok (.ret .none)) ⟨h', g, d, tk', os⟩) :
    codeAny (model prog w) A (.call (.builtin "object.__setattr__") ⟨[.ref x, .str f tk, v], []⟩) R ⟨hp, g, d, t, os⟩ := by
  obtain ⟨oD, _, _, hoD, _, _⟩ := hns.count hw
  have J : PySem.W.InstAt hp x { cls := .ref C, dict := some dx, data := .fields fv } C (some oD) := ⟨hx, rfl, rfl, hoD⟩
  have SF := F.store_object
  obtain ⟨cd0, hcd0, _, _, hob, hne⟩ := O.cd
  have isob : PySem.W.Looks (model prog w) hp (isInstance (.ref x) (.type "object")) true := J.type.andThen (PySem.W.looks_mroIn kin (by unfold PySem.W.mroIn; rw [hcd0, Option.bind_some, if_neg (by rw [hne]; decide), hob]))
  refine codeAny_call_builtin SF.slot.plain SF.entry (@PySem.W.check_slot (model prog w) _ _ ⟨hp, g, d, t, os⟩ "object.__setattr__" "object" "__setattr__" (.ref x) [.str f tk, v] [] _ SF.kind SF.split isob (SF.args (.ref x) (.str f tk) v) ?_)
  refine osa_to kin O hf J (fun cd hcd hh A => ?_) _
  have lc : PySem.W.Looks (model prog w) hp (classData C) cd := PySem.W.looks_clsIn kin hcd
  obtain ⟨nm, bs, mro, ns, qn, hd, sn, sb, ab, col, del⟩ := cd
  dsimp only at hh
  subst hh
  unfold Builtin.ObjectAttr.storeInOwnDict Builtin.ObjectAttr.ownDictForStores
  repeat (first | with_reducible refine PySem.OEX.store_in_old hns hw hz ?_ | with_reducible refine wpAny_loadPart_at hx ?_ | with_reducible refine lc.at ?_ | wp_step)
  exact fun h' tk' ns' sm => hq h' tk' (fun b o nb ho => (sm.2 b nb).trans ho) ns'
end
/-! ### self.f = e -/
section
variable {X : Cx} {pins : List (Addr × Obj)} {σ : L2.St} {H : Hp} {s : Shared} {a C dx : Addr} {f : Str} {y : V} {u : Value} {fs : List (Str × V)} {Q : Unit → Shared → Prop} {E : Value → Shared → Prop} {A : Around} {ns : List Str}
theorem st_first (O : OG X.K C ns) (I : Inv X pins σ H s) (e : H a = some (exo a C none)) (hf : f ∈ ns) (ry : RelV y u)
    (h : ∀ dx s', H dx = none → dx ≠ a → Inv X pins σ (upd (upd H dx (exd dx [(f, y)])) a (exo a C (some dx))) s' → Q () s') : wpAny (model X.prog X.w) A (setAttr (.ref a) f u) Q E s := by
  obtain ⟨t1, ho⟩ := exo_at I.hok e
  obtain ⟨hp, g, d, t, os⟩ := s
  refine PySem.W.set_plain I.kIn (ox := { cls := .ref C, dict := none, data := .fields #[.ref t1, .none, .none, .none, .bool false, .none] }) (od := none) ⟨ho, rfl, rfl, trivial⟩ O.all.1.1 (osa_first I.kIn O hf ho fun h' tk' dx k dn dne hx hn => ?_)
  have hnd : H dx = none := I.hok.fresh dn
  have nd : ∀ {b : Addr} {o : Obj}, hp.get? b = some o → b ≠ dx := fun q => Nat.ne_of_lt (Nat.lt_of_lt_of_le (Heap.lt_size q) dn)
  have na : ∀ {b : Addr}, H b = none → b ≠ a := fun n z => by rw [z, e] at n; cases n
  have U : Un X.fs [] H (upd (upd H dx (exd dx [(f, y)])) a (exo a C (some dx))) hp h' := ⟨fun b o q n _ _ => k b o (na n) q, fun b o q n _ _ => ⟨o.slots, k b o (na n) q⟩, fun b o q n _ => by rw [upd_ne (na n), upd_ne (nd q)]; exact n,
    fun b o q _ => (Decidable.em (b = a)).elim (fun hb => ⟨_, hb ▸ hx⟩) fun hb => ⟨o, k b o hb q⟩, fun b xs q => by rw [upd_ne (at_ne e q exo_tup), upd_ne (ne_of_none q hnd)]; exact q,
    fun b o v q => by rw [upd_ne (at_ne e q exo_frz), upd_ne (ne_of_none q hnd)]; exact q, fun b ps q => ⟨#[], by rw [upd_ne (at_ne e q exo_tbl), upd_ne (ne_of_none q hnd), q]; simp⟩⟩
  refine h dx _ hnd dne (I.un (t' := tk') U fun b o q => ?_)
  by_cases hb : b = a
  · subst hb; rw [upd_same] at q; cases q; exact exo_ok hx
  · rw [upd_ne hb] at q
    by_cases hd : b = dx
    · subst hd; rw [upd_same] at q; cases q; exact exd_ok hn (relO_put (fs := []) ry fun g => True.intro)
    · rw [upd_ne hd] at q
      exact (I.hok b o q).stay (fun c v hc z => k c v (hc.elim (fun hc => by rw [hc]; exact hb) (fun hc => at_ne e hc exo_own)) z) (fun c hc => by rw [upd_ne (at_ne e hc exo_own), upd_ne (ne_of_none hc hnd)]; exact hc) (fun c xs hc => by rw [upd_ne (at_ne e hc exo_tup), upd_ne (ne_of_none hc hnd)]; exact hc)
theorem st_more (O : OG X.K C ns) (I : Inv X pins σ H s) (e : H a = some (exo a C (some dx))) (ed : H dx = some (exd dx fs)) (hl : fs.length ≤ 900) (hf : f ∈ ns) (ry : RelV y u)
    (h : ∀ s', Inv X pins σ (upd H dx (exd dx ((f, y) :: fs))) s' → Q () s') : wpAny (model X.prog X.w) A (setAttr (.ref a) f u) Q E s := by
  obtain ⟨t1, ho⟩ := exo_at I.hok e
  obtain ⟨mA, hns, rel⟩ := exd_at I.hok ed
  have hw := within_of rel
  obtain ⟨hp, g, d, t, os⟩ := s
  obtain ⟨oD, _, _, hoD, _, _⟩ := hns.count hw
  refine PySem.W.set_plain I.kIn (ox := { cls := .ref C, dict := some dx, data := .fields #[.ref t1, .none, .none, .none, .bool false, .none] }) (od := some oD) ⟨ho, rfl, rfl, hoD⟩ O.all.1.1 (osa_more I.kIn O hf ho hns hw (by rw [List.length_map]; omega) fun h' tk' k hn => ?_)
  have hd : ∃ o, h'.get? dx = some o := by obtain ⟨o, _, _, e', _⟩ := hn; exact ⟨o, e'⟩
  exact h _ (I.write (t' := tk') (x := dx) (e := dx) (o := exd dx ((f, y) :: fs)) (by rw [ed]; exact True.intro) (.inl rfl) k hd (exd_ok hn (relO_put ry rel)))
/-- self.f = e of an exception that is being made -/
def tStG (K : PySem.W.Frag) (f : Str) (to te : TE) : TS := fun D σ H => te σ H fun y H1 => to σ H1 fun x H2 => ∃ (a C : Addr) (ns : List Str), x = .ref a ∧ OG K C ns ∧ f ∈ ns ∧
  ((H2 a = some (exo a C none) ∧ ∀ dx, H2 dx = none → dx ≠ a → D.nx σ (upd (upd H2 dx (exd dx [(f, y)])) a (exo a C (some dx)))) ∨
    ∃ (dx : Addr) (fs : List (Str × V)), H2 a = some (exo a C (some dx)) ∧ H2 dx = some (exd dx fs) ∧ fs.length ≤ 900 ∧ D.nx σ (upd H2 dx (exd dx ((f, y) :: fs))))
theorem ps_stG {o e : Expr} {to te : TE} {p' pos : Pos} (ho : PE X o to) (he : PE X e te) (hs : swapsWith e (some (.Attribute o f p')) pos.line X.env = pure false := by rfl) : PS X (.Assign [.Attribute o f p'] e pos) (tStG X.K f to te) := by
  refine ⟨fun pins s σ H D I h => plainObj_wpAny_Assign_Attribute (thn (he.run pins s σ H _ I h) fun v s1 ⟨y, H1, I1, r1, q1⟩ => thn (ho.run pins s1 σ H1 _ I1 q1) fun u s2 ⟨x, H2, I2, r2, a, C, ns, ex, O, hf, q⟩ => ?_) hs⟩
  subst ex
  obtain rfl : u = Value.ref a := r2
  rcases q with ⟨ea, q⟩ | ⟨dx, fs, ea, ed, hl, q⟩
  · exact st_first O I2 ea hf r1 fun dx s' n ne J => ⟨σ, _, J, q dx n ne⟩
  · exact st_more O I2 ea ed hl hf r1 fun s' J => ⟨σ, _, J, q⟩
end
end Dl
/-! Wc: C(..) by place and by name as a value; isinstance of it. -/
namespace Dl
open PySem PySem.Spec PyProof.Rows L2
def mkF (fs : List Str) (z : Str) (ws : List V) : List (Str × V) := ("code", .str z) :: (fs.zip ws).reverse
theorem mkF_keys {fs : List Str} {z : Str} {ws : List V} (l : ws.length = fs.length) : (mkF fs z ws).map (·.1) = ("code" : Str) :: fs.reverse := by
  unfold mkF
  rw [List.map_cons, List.map_reverse, List.map_fst_zip (Nat.le_of_eq l.symm)]
theorem mkF_dd {K : PySem.W.Frag} {B : Bt} {G : Hp} {fs : List Str} {z : Str} {ws : List V} {ds : List D} (h : Dds K B G ws ds) (l : ws.length = fs.length) : Dds K B G ((mkF fs z ws).map (·.2)) (.str z :: ds.reverse) := by
  unfold mkF
  rw [List.map_cons, List.map_reverse, List.map_snd_zip (Nat.le_of_eq l)]
  exact .cons (.str z) h.rev
/-- a class whose __init__ stores its arguments under the names fs, and a code z -/
structure Rn (P : Program) (w : World) (K : PySem.W.Frag) (mg : Str → Option Value) (base : Heap) (k : Nat) (x : Str) (C : Addr) (fs : List Str) (z : Str) : Prop where
  ex : ∃ (fI : Addr) (fd : FuncData), OG K C (("code" : Str) :: fs) ∧ PySem.W.findIn K (.ref C) "__init__" = some (some (.ref fI)) ∧ PySem.W.typeIn K (.ref fI) = some (.type "function") ∧
    FnOk P w K mg base L2.CX0 k fI fd (("self" : Str) :: fs) (spIni C fs.length (mkF fs z)) ∧ Binds K fd (("self" : Str) :: fs) [] ∧ KBn K fd (("self" : Str) :: fs) 1 fs.reverse (fun us ws => us ++ ws.reverse) (fun us ws => us ++ ws.reverse) ∧ mg x = some (.ref C)
/-- what the top tells of it -/
structure Eg (K : PySem.W.Frag) (mg : Str → Option Value) (x q : Str) (C : Addr) (st : Stmt) (fs : List Str) : Prop where
  o : OG K C (("code" : Str) :: fs)
  i : ∃ (fI : Addr) (fd : FuncData), Fun K "__init__" q st fI fd ∧ PySem.W.findIn K (.ref C) "__init__" = some (some (.ref fI)) ∧ PySem.W.typeIn K (.ref fI) = some (.type "function")
  g : mg x = some (.ref C)
/-- C(..) -/
def tNw (C : Addr) (n : Nat) (mk : List V → List (Str × V)) (ta : TA) : TE := fun σ H Q => ta σ H fun vs H1 => vs.length = n ∧ ∀ d a, H1 d = none → H1 a = none → d ≠ a → Q (.ref a) (upd (upd H1 d (.xd (mk vs))) a (xo a C d))
section
variable {X : Cx} {pins : List (Addr × Obj)} {σ : L2.St} {H : Hp} {s : Shared}
theorem Inv_settle {e d C : Addr} {fs : List (Str × V)} (I : Inv X pins σ (upd (upd (upd H e (exo e C none)) d (exd d fs)) e (exo e C (some d))) s) (he : H e = none) (hd : H d = none) (ne : d ≠ e) : Inv X pins σ (upd (upd H d (.xd fs)) e (xo e C d)) s := by
  have e1 : (upd (upd (upd H e (exo e C none)) d (exd d fs)) e (exo e C (some d))) e = some (exo e C (some d)) := upd_same
  have e2 : (upd (upd (upd H e (exo e C none)) d (exd d fs)) e (exo e C (some d))) d = some (exd d fs) := by rw [upd_ne ne, upd_same]
  obtain ⟨t0, hoe⟩ := exo_at I.hok e1
  obtain ⟨mA, hns, rel⟩ := exd_at I.hok e2
  obtain ⟨hp, g, dr, tk, os⟩ := s
  have J1 := I.write (t' := tk) (x := e) (e := e) (o := xo e C d) (h' := hp) (by rw [e1]; exact True.intro) (.inl rfl) (fun _ _ _ q => q) ⟨_, hoe⟩ (xo_ok hoe rfl rfl rfl)
  have hdo : ∃ o, hp.get? d = some o := by obtain ⟨o, _, _, e', _⟩ := hns; exact ⟨o, e'⟩
  have J2 := J1.write (t' := tk) (x := d) (e := d) (o := .xd fs) (h' := hp) (by rw [upd_ne ne, e2]; exact True.intro) (.inl rfl) (fun _ _ _ q => q) hdo ⟨mA, hns, rel⟩
  have q : upd (upd (upd (upd (upd H e (exo e C none)) d (exd d fs)) e (exo e C (some d))) e (xo e C d)) d (.xd fs) = upd (upd H d (.xd fs)) e (xo e C d) := by
    funext b
    by_cases hb : b = d
    · rw [hb, upd_same, upd_ne ne, upd_same]
    · rw [upd_ne hb]
      by_cases hb2 : b = e
      · rw [hb2, upd_same, upd_same]
      · rw [upd_ne hb2, upd_ne hb2, upd_ne hb, upd_ne hb2, upd_ne hb2, upd_ne hb]
  rw [q] at J2
  exact J2
end
section
variable {X : Cx} {k j : Nat} {x z : Str} {C : Addr} {fs : List Str} {e : Expr} {es : List Expr} {kws : List Keyword} {ta tk : TA} {p pos : Pos}
theorem run_nw {pins : List (Addr × Obj)} {σ : L2.St} {H : Hp} {s : Shared} {Q : VK} {us us' : List Value} {vs' : List V} {kw : List (Str × Value)} {fI : Addr} {fd : FuncData} (O : OG X.K C (("code" : Str) :: fs)) (iC : PySem.W.findIn X.K (.ref C) "__init__" = some (some (.ref fI))) (tI : PySem.W.typeIn X.K (.ref fI) = some (.type "function"))
    (F1 : FnOk X.prog X.w X.K X.mg X.base L2.CX0 k fI fd (("self" : Str) :: fs) (spIni C fs.length (mkF fs z))) (hr : Room (k + 1) X.A) (hb : ∀ (s : Shared) (e : Value), X.K.In s.heap → BindsTo s fd ⟨e :: us, kw⟩ ((("self" : Str) :: fs).zip (e :: us'))) (hz : us.length ≤ sizeLine)
    (I : Inv X pins σ H s) (r : Vals vs' us') (hl : vs'.length = fs.length) (q : ∀ d a, H d = none → H a = none → d ≠ a → Q (.ref a) (upd (upd H d (.xd (mkF fs z vs'))) a (xo a C d))) :
    wpAny (model X.prog X.w) X.A (call (.ref C) us kw) (EP X pins σ Q) X.xe s := by
  obtain ⟨BB, newId, initId, bmB, XF, hog⟩ := O.b
  unfold ogB at hog
  rw [Bool.and_eq_true] at hog
  obtain ⟨nm, N, qn, bs, bm, hdct, sn, sub, ab, col, dd, k0, k1, k2, k3, k5, hC, hT⟩ := PySem.W.excInit_of I.kIn hog.1
  obtain ⟨hp, g, dr, tk, os⟩ := s
  have hn : H (hp.objs.size + 1) = none := I.hok.fresh (Nat.le_succ _)
  have kk : ∀ b o, hp.get? b = some o → ((hp.push (PySem.W.kdv_tup us)).push (PySem.HandSPX.excO C hp.objs.size)).get? b = some o := fun _ _ e => Heap.get?_push_of_some _ (Heap.get?_push_of_some _ e)
  have hget : ((hp.push (PySem.W.kdv_tup us)).push (PySem.HandSPX.excO C hp.objs.size)).get? (hp.objs.size + 1) = some (PySem.HandSPX.excO C hp.objs.size) := by heap_get
  have I2 : Inv X pins σ (upd H (hp.objs.size + 1) (exo (hp.objs.size + 1) C none)) ⟨(hp.push (PySem.W.kdv_tup us)).push (PySem.HandSPX.excO C hp.objs.size), g, dr, tk, os⟩ := I.laid (t' := tk) kk (Nat.le_succ _) (exo_ok hget)
  have sp : spIni C fs.length (mkF fs z) (.ref (hp.objs.size + 1) :: vs') (upd H (hp.objs.size + 1) (exo (hp.objs.size + 1) C none))
      (fun v H2 => v = .non ∧ ∃ d, H d = none ∧ d ≠ hp.objs.size + 1 ∧ H2 = upd (upd (upd H (hp.objs.size + 1) (exo (hp.objs.size + 1) C none)) d (exd d (mkF fs z vs'))) (hp.objs.size + 1) (exo (hp.objs.size + 1) C (some d))) (fun _ _ _ => False) :=
    ⟨_, vs', rfl, hl, upd_same, fun d nd ne => ⟨rfl, d, by rw [upd_ne ne] at nd; exact nd, ne, rfl⟩⟩
  have r2 : Vals (V.ref (hp.objs.size + 1) :: vs') (Value.ref (hp.objs.size + 1) :: us') := .cons rfl r
  refine wpAny_call (kw_call XF hT hz hC (PySem.W.looks_findIn I.kIn iC) (fun self => PySem.W.bind_fn I.kIn self tI)
    (codeAny_mono (F1.run _ X.stack _ _ ⟨Value.ref (hp.objs.size + 1) :: us, kw⟩ (Value.ref (hp.objs.size + 1) :: us') _ _ (fun _ _ _ => False) (hr.make C us kw) (I2.env0.make C us kw) (hb _ _ I2.kIn) r2 sp) fun r s' hq' => ?_))
  cases r with
  | error er => exact False.elim hq'
  | ok fl =>
    cases fl with
    | ret u =>
      obtain ⟨v, H', I3, rv, ev, d, nd, ne, eH⟩ := I2.after hq'
      subst ev eH
      exact ⟨rv, .ref (hp.objs.size + 1), _, Inv_settle I3 hn nd ne, rfl, q d _ nd hn ne⟩
    | next => exact False.elim hq'
    | brk => exact False.elim hq'
    | cont => exact False.elim hq'
/-- C(e, ..) -/
theorem pe_nw (R : Rn X.prog X.w X.K X.mg X.base k x C fs z) (hr : Room j X.A) (hk : k + 1 ≤ j) (hg : Gl X x) (hf : fs.length ≤ 1000) (ha : PA X (e :: es) ta) (hdb : (x == ("__debug__" : Str)) = false := by decide)
    (he : starEach (e :: es) X.env = (false, eval e X.env) :: starEach es X.env := by rfl) (hpl : (backTo pos (starEach es X.env)).any (·.1) = false := by rfl) : PE X (.Call (.Name x p) (e :: es) [] pos) (tNw C fs.length (mkF fs z) ta) := by
  obtain ⟨fI, fd, O, iC, tI, F1, b, _, m⟩ := R.ex
  refine ⟨fun pins s σ H Q I h => wpAny_Call_Name_kw (ld_glob I hg m (PySem.W.callWith_K (h₀ := X.base) I.ok.mod.kin O.all.1.2.2.2 (thn (ha.run pos pins s σ H _ I h) fun us s1 ⟨vs, H1, I1, r1, hz, q1⟩ => ⟨I1.kIn, ?_⟩) he hpl) hdb)⟩
  have ul : us.length = fs.length := by rw [← r1.length, hz]
  refine run_nw (us := us) (us' := us) (kw := []) O iC tI F1 (hr.mono hk) (fun s e kin => ?_) (by rw [ul, sizeLine_eq]; omega) I1 r1 hz q1
  have := b s (e :: us) kin (by rw [List.append_nil, List.length_cons, List.length_cons, ul])
  rw [List.append_nil] at this
  exact this
/-- C() -/
theorem pe_nw0 (R : Rn X.prog X.w X.K X.mg X.base k x C [] z) (hr : Room j X.A) (hk : k + 1 ≤ j) (hg : Gl X x) (hdb : (x == ("__debug__" : Str)) = false := by decide) : PE X (.Call (.Name x p) [] [] pos) (tNw C 0 (mkF [] z) tNil) := by
  obtain ⟨fI, fd, O, iC, tI, F1, b, _, m⟩ := R.ex
  refine ⟨fun pins s σ H Q I h => wpAny_Call_Name_kw (ld_glob I hg m ?_ hdb)⟩
  refine PySem.W.callWith_K0 I.kIn O.all.1.2.2.2 (run_nw (us := []) (us' := []) (vs' := []) (kw := []) O iC tI F1 (hr.mono hk) (fun s e kin => ?_) (by rw [sizeLine_eq]; exact Nat.zero_le _) I .nil rfl h.2)
  have := b s [e] kin (by rfl)
  exact this
/-- C(f = e, ..): the names in the other order -/
theorem pe_nwk (R : Rn X.prog X.w X.K X.mg X.base k x C fs z) (hr : Room j X.A) (hk : k + 1 ≤ j) (hg : Gl X x) (hkw : PK X kws tk)
    (hall : (backToKw pos (keywordEach kws X.env)).all (·.1.isSome) = true := by rfl) (hks : (backToKw pos (keywordEach kws X.env)).filterMap (·.1) = fs.reverse := by rfl) (hdb : (x == ("__debug__" : Str)) = false := by decide)
    (hpl : ((backTo pos (starEach [] X.env)).any (·.1) || (backToKw pos (keywordEach kws X.env)).any (·.1.isNone)) = false := by rfl) :
    PE X (.Call (.Name x p) [] kws pos) (tNw C fs.length (fun ws => mkF fs z ws.reverse) tk) := by
  obtain ⟨fI, fd, O, iC, tI, F1, _, b, m⟩ := R.ex
  refine ⟨fun pins s σ H Q I h => wpAny_Call_Name_kw (ld_glob I hg m (PySem.W.callWith_KW0 (h₀ := X.base) I.ok.mod.kin O.all.1.2.2.2 hall (thn (hkw.run pos pins s σ H _ I h) fun ws s2 ⟨zs, H2, I2, rz, l2, q2⟩ => ⟨I2.kIn, ?_⟩) hpl) hdb)⟩
  rw [hks]
  have wl : ws.length = fs.length := by rw [← rz.length, l2]
  exact run_nw (us := []) (us' := ws.reverse) (vs' := zs.reverse) O iC tI F1 (hr.mono hk) (fun s e kin => b.to s [e] ws kin rfl (by rw [wl, List.length_reverse])) (Nat.zero_le _) I2 rz.reverse (by rw [List.length_reverse, l2]) q2
end
section
variable {K : PySem.W.Frag} {B : Bt} {δ : List Sd} {X : Xc} {P : D → Prop} {C : Addr} {fs : List Str} {z : Str} {ta tk : TA} {te : TE}
theorem we_nwG {mk : List V → List (Str × V)} {ks : List Str} {mkD : List D → List D} {n : Nat} (hk : ∀ ws : List V, ws.length = n → (mk ws).map (·.1) = ks) (hm : ∀ {G : Hp} {ws : List V} {ds : List D}, Dds K B G ws ds → ws.length = n → Dds K B G ((mk ws).map (·.2)) (mkD ds))
    (h : WAx K B X ta δ fun ds => ds.length = n ∧ P (.exn C ks (mkD ds))) : WEx K B X (tNw C n mk ta) δ P := fun G0 H0 σ G H Q s xx q =>
  h G0 H0 σ G H _ s xx fun vs ds G1 H1 g1 o1 hs ⟨l, p⟩ => by
    have lv : vs.length = n := hs.length.trans l
    refine ⟨lv, fun d a nd na ne => ?_⟩
    have g2 := new_go o1 (x := .xd (mk vs)) nd
    have o2 := new_ok o1 xd_nt nd (x := .xd (mk vs))
    have na2 : upd H1 d (.xd (mk vs)) a = none := by rw [upd_ne ne.symm]; exact na
    have g3 := new_go o2 (x := xo a C d) na2
    have o3 := new_ok o2 (xo_nt (a := a) (C := C) (d := d)) na2
    have hd : Dd K B (upd (upd G1 d (.xd (mk vs))) a (xo a C d)) (.ref a) (.exn C ((mk vs).map (·.1)) (mkD ds)) := .exn upd_same (by rw [upd_ne ne]; exact upd_same) ((hm hs lv).mono (g2.s.trans g3.s))
    rw [hk vs lv] at hd
    exact (((q.on g1 o1).on g2 o2).on g3 o3).nil o3 hd p
theorem we_nw (h : WAx K B X ta δ fun ds => ds.length = fs.length ∧ P (.exn C (("code" : Str) :: fs.reverse) (.str z :: ds.reverse))) : WEx K B X (tNw C fs.length (mkF fs z) ta) δ P :=
  we_nwG (fun _ l => mkF_keys l) (fun h l => mkF_dd h l) h
theorem we_nwk (h : WAx K B X ta δ fun ds => ds.length = fs.length ∧ P (.exn C (("code" : Str) :: fs.reverse) (.str z :: ds))) : WEx K B X (tNw C fs.length (fun ws => mkF fs z ws.reverse) ta) δ P :=
  we_nwG (mkD := fun ds => .str z :: ds) (fun _ l => mkF_keys (by rw [List.length_reverse]; exact l)) (fun {G ws ds} h l => by
    have := mkF_dd (fs := fs) (z := z) h.rev (by rw [List.length_reverse]; exact l)
    rw [List.reverse_reverse] at this
    exact this) h
end
/-! ### isinstance(e, C) of such a value -/
def zIsX (K : PySem.W.Frag) : List V → Hp → VK → Prop := fun ws H Q => ∃ (a C d : Addr) (fs : List (Str × V)) (c : V) (u : Value) (b : Bool), ws = [.ref a, c] ∧ ClsV c u ∧ H a = some (xo a C d) ∧ H d = some (.xd fs) ∧ XfC K C ∧ ogQ K C = true ∧ PySem.W.kitOne K (.ref C) u = some b ∧ Q (.bl b) H
theorem call_isX {X : Cx} : CallR X (.builtin "isinstance") (zIsX X.K) := by
  intro pins s σ H xs us Q I r h
  obtain ⟨a, C, d, fs, c, u, b, rfl, k, ea, ed, T, hQ, e, q⟩ := h
  obtain ⟨u1, u2, rfl, r1, r2⟩ := vals2 r
  have e2 := k.eq r2
  subst e2
  obtain rfl : u1 = Value.ref a := r1
  obtain ⟨oe, vs, ha, hc, hd, hf⟩ := xo_at I.hok ea
  obtain ⟨mA, hns, hr⟩ := (show ObjOk X.prog X.w H s.heap d (.xd fs) from I.hok d _ ed)
  obtain ⟨od, ho, hl⟩ := lookIn_ns hns
  have J : PySem.W.InstAt s.heap a oe C (some od) := ⟨ha, hc, by unfold PySem.W.notCls; rw [hf] <;> rfl, by rw [hd]; exact ho⟩
  unfold ogQ at hQ
  simp only [Bool.and_eq_true, beq_iff_eq] at hQ
  obtain ⟨⟨⟨⟨q1, q2⟩, q3⟩, q4⟩, q5⟩ := hQ
  exact PySem.W.kia_one (PySem.W.kitx_exc q1 T.ga T.gg T.exC q2 q3 q4 q5) I.kIn J e (fun z => nomatch z) fun tk => ⟨.bl b, H, I.tok tk, rfl, q⟩
section
variable {K : PySem.W.Frag} {B : Bt} {δ : List Sd} {X : Xc} {P : D → Prop} {te : TE} {c : V} {u : Value}
theorem we_isX (hc : ClsV c u) (h : WEx K B X te δ fun d => ∃ C ks ds b, d = .exn C ks ds ∧ XfC K C ∧ ogQ K C = true ∧ PySem.W.kitOne K (.ref C) u = some b ∧ P (.bl b)) : WEx K B X (tCB (zIsX K) (tCons te (tCons (tC c) tNil))) δ P := fun G0 H0 σ G H Q s xx q =>
  h G0 H0 σ G H _ s xx fun v d G1 H1 g1 o1 hv ⟨C, ks, ds, b, e, T, hQ, k, p⟩ => by
    subst e
    cases hv with
    | exn h1 h2 t => exact ⟨_, C, _, _, c, u, b, rfl, hc, o1.u _ _ h1, o1.u _ _ h2, T, hQ, k, (q.on g1 o1).nil o1 (.bl b) p⟩
end
end Dl
/-! Wd: the __init__ of an error with no, one or two fields. -/
namespace Dl
open PySem PySem.Spec PyProof.Rows L2
section
variable {P : Program} {w : World} {K : PySem.W.Frag} {mg : Str → Option Value} {base : Heap}
theorem upd_again {H : Hp} {a d : Addr} {x y u : HO} (ne : d ≠ a) : upd (upd (upd H d x) a u) d y = upd (upd H d y) a u := by
  funext b
  by_cases hb : b = d
  · rw [hb, upd_same, upd_ne ne, upd_same]
  · rw [upd_ne hb]
    by_cases ha : b = a
    · rw [ha, upd_same, upd_same]
    · rw [upd_ne ha, upd_ne ha, upd_ne hb, upd_ne hb]
theorem kb_rev {q : Str} {st : Stmt} {fI : Addr} {fd : FuncData} {fs : List Str} (F : Fun K "__init__" q st fI fd)
    (hk : ∀ (kV doc pm : Value) (an : Option Addr) (cdv ct : Value) (us ws : List Value), us.length = 1 → ws.length = fs.reverse.length → bindArgs (PySem.W.fnOf "__init__" q (defArgs st) (defBody st) (defScope st) .none kV doc pm an cdv ct) ⟨us, fs.reverse.zip ws⟩ = pure ((("self" : Str) :: fs).zip (us ++ ws.reverse))) :
    KBn K fd (("self" : Str) :: fs) 1 fs.reverse (fun us ws => us ++ ws.reverse) (fun us ws => us ++ ws.reverse) := by
  obtain ⟨oc, od, kV, doc, pm, an, cdv, ct, osl, rfl, lk, hcd⟩ := F.ex
  exact ⟨fun s us ws _ l1 l2 => .of_eq (hk kV doc pm an cdv ct us ws l1 l2), fun r1 r2 => r1.append r2.reverse⟩
/-- __init__(self): self.code = z -/
theorem rn0 {x q z : Str} {C : Addr} {st : Stmt} {k : Nat} (E : Eg K mg x q C st []) (S : FnScope [("self" : Str)] [("self" : Str)] (defScope st))
    (hb : ∀ (kV doc pm : Value) (an : Option Addr) (cdv ct : Value) (us : List Value), us.length = 1 → bindArgs (PySem.W.fnOf "__init__" q (defArgs st) (defBody st) (defScope st) .none kV doc pm an cdv ct) ⟨us, []⟩ = pure ([("self" : Str)].zip us))
    {p5 p6 p7 p8 : Pos} {KZ : Nat} (eb : defBody st = [.Assign [.Attribute (.Name "self" p5) "code" p6] (.Constant (.str z) KZ p7) p8])
    (sw2 : ∀ (f0 : Addr) (cdv : Value) (A : Around) (outer : List Env) (s : Shared) (H : Hp) (E : XK), swapsWith (.Constant (.str z) KZ p7) (some (.Attribute (.Name "self" p5) "code" p6)) p8.line (cxOf L2.CX0 P w K mg base [("self" : Str)] q (defScope st) f0 cdv A outer s H E).nox.env = pure false) :
    Rn P w K mg base (k + 1) x C [] z := by
  obtain ⟨fI, fd, F, i, t⟩ := E.i
  refine ⟨fI, fd, E.o, i, t, F.ok S (fun vs H Q E' h => ?_) (fun cdv A outer s H vs Q E' hr h => ?_), F.binds hb, kb_rev F (fun kV doc pm an cdv ct us ws l1 l2 => ?_), E.g⟩
  · obtain ⟨a, ws, rfl, l, _⟩ := h
    rw [List.length_cons, l]; rfl
  · obtain ⟨a, ws, rfl, l, hA, hq⟩ := h
    cases List.length_eq_zero_iff.mp l
    rw [eb]
    have vs0 : Vis (defScope st) "self" := (S.par "self" (by simp)).elim .inl (fun h => .inr (.inl h))
    refine ⟨_, pss_one (ps_stG (pe_var (i := 0) rfl vs0) pe_str (sw2 _ _ _ _ _ _ _)), ?_⟩
    exact ⟨.ref a, rfl, a, C, _, rfl, E.o, by simp, .inl ⟨hA, fun dx nd ne => hq dx nd ne⟩⟩
  · cases List.length_eq_zero_iff.mp l2
    rw [show us ++ ([] : List Value).reverse = us by simp]
    exact hb kV doc pm an cdv ct us l1
/-- __init__(self, f): self.f = f; self.code = z -/
theorem rn1 {x q f z : Str} {C : Addr} {st : Stmt} {k : Nat} (E : Eg K mg x q C st [f]) (S : FnScope [("self" : Str), f] [("self" : Str), f] (defScope st)) (hf : (f == ("__debug__" : Str)) = false) (hf2 : (f == ("__classdict__" : Str)) = false)
    (hb : ∀ (kV doc pm : Value) (an : Option Addr) (cdv ct : Value) (us : List Value), us.length = 2 → bindArgs (PySem.W.fnOf "__init__" q (defArgs st) (defBody st) (defScope st) .none kV doc pm an cdv ct) ⟨us, []⟩ = pure ([("self" : Str), f].zip us))
    (hk : ∀ (kV doc pm : Value) (an : Option Addr) (cdv ct : Value) (us ws : List Value), us.length = 1 → ws.length = 1 → bindArgs (PySem.W.fnOf "__init__" q (defArgs st) (defBody st) (defScope st) .none kV doc pm an cdv ct) ⟨us, [f].zip ws⟩ = pure ([("self" : Str), f].zip (us ++ ws.reverse)))
    {p1 p2 p3 p4 p5 p6 p7 p8 : Pos} {KZ : Nat} (eb : defBody st = [.Assign [.Attribute (.Name "self" p1) f p2] (.Name f p3) p4, .Assign [.Attribute (.Name "self" p5) "code" p6] (.Constant (.str z) KZ p7) p8])
    (sw1 : ∀ (f0 : Addr) (cdv : Value) (A : Around) (outer : List Env) (s : Shared) (H : Hp) (E : XK), swapsWith (.Name f p3) (some (.Attribute (.Name "self" p1) f p2)) p4.line (cxOf L2.CX0 P w K mg base [("self" : Str), f] q (defScope st) f0 cdv A outer s H E).nox.env = pure false)
    (sw2 : ∀ (f0 : Addr) (cdv : Value) (A : Around) (outer : List Env) (s : Shared) (H : Hp) (E : XK), swapsWith (.Constant (.str z) KZ p7) (some (.Attribute (.Name "self" p5) "code" p6)) p8.line (cxOf L2.CX0 P w K mg base [("self" : Str), f] q (defScope st) f0 cdv A outer s H E).nox.env = pure false) :
    Rn P w K mg base (k + 1) x C [f] z := by
  obtain ⟨fI, fd, F, i, t⟩ := E.i
  refine ⟨fI, fd, E.o, i, t, F.ok S (fun vs H Q E' h => ?_) (fun cdv A outer s H vs Q E' hr h => ?_), F.binds hb, kb_rev F hk, E.g⟩
  · obtain ⟨a, ws, rfl, l, _⟩ := h
    rw [List.length_cons, l]; rfl
  · obtain ⟨a, ws, rfl, l, hA, hq⟩ := h
    obtain ⟨v, rfl⟩ : ∃ v, ws = [v] := by
      match ws, l with
      | [v], _ => exact ⟨v, rfl⟩
    rw [eb]
    have vs0 : Vis (defScope st) "self" := (S.par "self" (by simp)).elim .inl (fun h => .inr (.inl h))
    have vs1 : Vis (defScope st) f := (S.par f (by simp)).elim .inl (fun h => .inr (.inl h))
    refine ⟨_, pss_cons (ps_stG (pe_var (i := 0) rfl vs0) (pe_var (i := 1) rfl vs1 hf hf2) (sw1 _ _ _ _ _ _ _)) (pss_one (ps_stG (pe_var (i := 0) rfl vs0) pe_str (sw2 _ _ _ _ _ _ _))), ?_⟩
    refine ⟨v, rfl, .ref a, rfl, a, C, _, rfl, E.o, by simp, .inl ⟨hA, fun dx nd ne => ⟨.ref a, rfl, a, C, _, rfl, E.o, by simp, .inr ⟨dx, [(f, v)], upd_same, by rw [upd_ne ne, upd_same], by show 1 ≤ 900; decide, ?_⟩⟩⟩⟩
    show Q .non (upd (upd (upd H dx (exd dx [(f, v)])) a (exo a C (some dx))) dx (exd dx [("code", .str z), (f, v)]))
    rw [upd_again ne]
    exact hq dx nd ne
/-- __init__(self, f, g): self.f = f; self.g = g; self.code = z -/
theorem rn2 {x q f1 f2 z : Str} {C : Addr} {st : Stmt} {k : Nat} (E : Eg K mg x q C st [f1, f2]) (S : FnScope [("self" : Str), f1, f2] [("self" : Str), f1, f2] (defScope st)) (hf1 : (f1 == ("__debug__" : Str)) = false) (hf2 : (f1 == ("__classdict__" : Str)) = false) (hg1 : (f2 == ("__debug__" : Str)) = false) (hg2 : (f2 == ("__classdict__" : Str)) = false)
    (hb : ∀ (kV doc pm : Value) (an : Option Addr) (cdv ct : Value) (us : List Value), us.length = 3 → bindArgs (PySem.W.fnOf "__init__" q (defArgs st) (defBody st) (defScope st) .none kV doc pm an cdv ct) ⟨us, []⟩ = pure ([("self" : Str), f1, f2].zip us))
    (hk : ∀ (kV doc pm : Value) (an : Option Addr) (cdv ct : Value) (us ws : List Value), us.length = 1 → ws.length = 2 → bindArgs (PySem.W.fnOf "__init__" q (defArgs st) (defBody st) (defScope st) .none kV doc pm an cdv ct) ⟨us, [f2, f1].zip ws⟩ = pure ([("self" : Str), f1, f2].zip (us ++ ws.reverse)))
    {p1 p2 p3 p4 p5 p6 p7 p8 p9 p10 p11 p12 : Pos} {KZ : Nat} (eb : defBody st = [.Assign [.Attribute (.Name "self" p1) f1 p2] (.Name f1 p3) p4, .Assign [.Attribute (.Name "self" p5) f2 p6] (.Name f2 p7) p8, .Assign [.Attribute (.Name "self" p9) "code" p10] (.Constant (.str z) KZ p11) p12])
    (sw1 : ∀ (f0 : Addr) (cdv : Value) (A : Around) (outer : List Env) (s : Shared) (H : Hp) (E : XK), swapsWith (.Name f1 p3) (some (.Attribute (.Name "self" p1) f1 p2)) p4.line (cxOf L2.CX0 P w K mg base [("self" : Str), f1, f2] q (defScope st) f0 cdv A outer s H E).nox.env = pure false)
    (sw2 : ∀ (f0 : Addr) (cdv : Value) (A : Around) (outer : List Env) (s : Shared) (H : Hp) (E : XK), swapsWith (.Name f2 p7) (some (.Attribute (.Name "self" p5) f2 p6)) p8.line (cxOf L2.CX0 P w K mg base [("self" : Str), f1, f2] q (defScope st) f0 cdv A outer s H E).nox.env = pure false)
    (sw3 : ∀ (f0 : Addr) (cdv : Value) (A : Around) (outer : List Env) (s : Shared) (H : Hp) (E : XK), swapsWith (.Constant (.str z) KZ p11) (some (.Attribute (.Name "self" p9) "code" p10)) p12.line (cxOf L2.CX0 P w K mg base [("self" : Str), f1, f2] q (defScope st) f0 cdv A outer s H E).nox.env = pure false) :
    Rn P w K mg base (k + 1) x C [f1, f2] z := by
  obtain ⟨fI, fd, F, i, t⟩ := E.i
  refine ⟨fI, fd, E.o, i, t, F.ok S (fun vs H Q E' h => ?_) (fun cdv A outer s H vs Q E' hr h => ?_), F.binds hb, kb_rev F hk, E.g⟩
  · obtain ⟨a, ws, rfl, l, _⟩ := h
    rw [List.length_cons, l]; rfl
  · obtain ⟨a, ws, rfl, l, hA, hq⟩ := h
    obtain ⟨v, u, rfl⟩ : ∃ v u, ws = [v, u] := by
      match ws, l with
      | [v, u], _ => exact ⟨v, u, rfl⟩
    rw [eb]
    have vs0 : Vis (defScope st) "self" := (S.par "self" (by simp)).elim .inl (fun h => .inr (.inl h))
    have vs1 : Vis (defScope st) f1 := (S.par f1 (by simp)).elim .inl (fun h => .inr (.inl h))
    have vs2 : Vis (defScope st) f2 := (S.par f2 (by simp)).elim .inl (fun h => .inr (.inl h))
    refine ⟨_, pss_cons (ps_stG (pe_var (i := 0) rfl vs0) (pe_var (i := 1) rfl vs1 hf1 hf2) (sw1 _ _ _ _ _ _ _)) (pss_cons (ps_stG (pe_var (i := 0) rfl vs0) (pe_var (i := 2) rfl vs2 hg1 hg2) (sw2 _ _ _ _ _ _ _)) (pss_one (ps_stG (pe_var (i := 0) rfl vs0) pe_str (sw3 _ _ _ _ _ _ _)))), ?_⟩
    refine ⟨v, rfl, .ref a, rfl, a, C, _, rfl, E.o, by simp, .inl ⟨hA, fun dx nd ne => ⟨u, rfl, .ref a, rfl, a, C, _, rfl, E.o, by simp, .inr ⟨dx, [(f1, v)], upd_same, by rw [upd_ne ne, upd_same], by show 1 ≤ 900; decide, ?_⟩⟩⟩⟩
    refine ⟨.ref a, rfl, a, C, _, rfl, E.o, by simp, .inr ⟨dx, [(f2, u), (f1, v)], by rw [upd_ne ne.symm, upd_same], upd_same, by show 2 ≤ 900; decide, ?_⟩⟩
    show Q .non (upd (upd (upd (upd H dx (exd dx [(f1, v)])) a (exo a C (some dx))) dx (exd dx [(f2, u), (f1, v)])) dx (exd dx [("code", .str z), (f2, u), (f1, v)]))
    rw [upd_again ne, upd_again ne]
    exact hq dx nd ne
end
/-! ### the readings of isinstance(e, C) -/
def tIsX (K : PySem.W.Frag) (c : V) (te : TE) : TE := tCB (zIsX K) (tCons te (tCons (tC c) tNil))
theorem pe_isX {X : Cx} {p pos : Pos} {e1 e2 : Expr} {te : TE} {c : V} (hm : X.mg "isinstance" = none) (h1 : PE X e1 te) (h2 : PE X e2 (tC c)) (hg : Gl X "isinstance" := by rfl)
    (he : starEach [e1, e2] X.env = (false, eval e1 X.env) :: starEach [e2] X.env := by rfl) (he2 : starEach [e2] X.env = (false, eval e2 X.env) :: starEach [] X.env := by rfl) (hpl : (backTo pos (starEach [e2] X.env)).any (·.1) = false := by rfl) :
    PE X (.Call (.Name "isinstance" p) [e1, e2] [] pos) (tIsX X.K c te) :=
  pe_callB (show CallR _ (.builtin "isinstance") (zIsX X.K) from call_isX) hg hm (by decide +kernel) (pa_cons h1 (pa_cons h2 pa_nil (by first | exact he2 | rfl)) (by first | exact he | rfl)) (by decide) (by decide) he hpl
theorem we_isx {K : PySem.W.Frag} {B : Bt} {δ : List Sd} {X : Xc} {P : D → Prop} {te : TE} {c : V} {u : Value} (hc : ClsV c u) (h : WEx K B X te δ fun d => ∃ C ks ds b, d = .exn C ks ds ∧ XfC K C ∧ ogQ K C = true ∧ PySem.W.kitOne K (.ref C) u = some b ∧ P (.bl b)) : WEx K B X (tIsX K c te) δ P := we_isX hc h
/-! ### literals, item by item -/
section
variable {K : PySem.W.Frag} {B : Bt} {δ : List Sd} {X : Xc}
theorem wa_eq0 {δ : List Sd} : WAx K B X tNil δ (fun r => r = []) := wa_nil rfl
theorem wa_eq {te : TE} {ta : TA} {d : D} {ds : List D} (h1 : WEx K B X te δ (fun r => r = d)) (h2 : WAx K B X ta δ (fun r => r = ds)) : WAx K B X (tCons te ta) δ (fun r => r = d :: ds) :=
  wa_cons fun G0 H0 σ G H Q s xx q => h1 G0 H0 σ G H Q s xx fun v x G1 H1 g1 o1 hv e => q v x G1 H1 g1 o1 hv (by
    subst e
    exact fun G0 H0 σ G H Q s xx q => h2 G0 H0 σ G H Q s xx fun vs xs G2 H2 g2 o2 hs e2 => q vs xs G2 H2 g2 o2 hs (by rw [e2]))
theorem wax_to {ta : TA} {ds : List D} {P : List D → Prop} (h : WAx K B X ta δ (fun r => r = ds)) (p : P ds) : WAx K B X ta δ P := fun G0 H0 σ G H Q s xx q => h G0 H0 σ G H Q s xx fun vs xs G1 H1 g1 o1 hs e => q vs xs G1 H1 g1 o1 hs (by rw [e]; exact p)
theorem wex_to {te : TE} {d : D} {P : D → Prop} (h : WEx K B X te δ (fun r => r = d)) (p : P d) : WEx K B X te δ P := h.mono fun _ e => by rw [e]; exact p
variable {C : Addr} {f f2 z : Str} {i j : Nat} {x y : D}
theorem wn0 : WEx K B X (tNw C 0 (mkF [] z) tNil) δ (fun r => r = .exn C ["code"] [.str z]) := we_nw (fs := []) (wa_nil ⟨rfl, rfl⟩)
theorem wn1 (h : δ[i]? = some (.val x)) : WEx K B X (tNw C [f].length (mkF [f] z) (tCons (tVar i) tNil)) δ (fun r => r = .exn C ["code", f] [.str z, x]) := we_nw (fs := [f]) (wa_cons (we_var h (wa_nil ⟨rfl, rfl⟩)))
theorem wn2 (h : δ[i]? = some (.val x)) (h2 : δ[j]? = some (.val y)) : WEx K B X (tNw C [f, f2].length (mkF [f, f2] z) (tCons (tVar i) (tCons (tVar j) tNil))) δ (fun r => r = .exn C ["code", f2, f] [.str z, y, x]) := we_nw (fs := [f, f2]) (wa_cons (we_var h (wa_cons (we_var h2 (wa_nil ⟨rfl, rfl⟩)))))
theorem wk1 (h : δ[i]? = some (.val x)) : WEx K B X (tNw C [f].length (fun ws => mkF [f] z ws.reverse) (tCons (tVar i) tNil)) δ (fun r => r = .exn C ["code", f] [.str z, x]) := we_nwk (fs := [f]) (wa_cons (we_var h (wa_nil ⟨rfl, rfl⟩)))
theorem wk2 (h : δ[i]? = some (.val x)) (h2 : δ[j]? = some (.val y)) : WEx K B X (tNw C [f, f2].length (fun ws => mkF [f, f2] z ws.reverse) (tCons (tVar i) (tCons (tVar j) tNil))) δ (fun r => r = .exn C ["code", f2, f] [.str z, x, y]) := we_nwk (fs := [f, f2]) (wa_cons (we_var h (wa_cons (we_var h2 (wa_nil ⟨rfl, rfl⟩)))))
end
end Dl
/-! Wh: what such a head tells. -/
namespace Dl
open PySem PySem.Spec PyProof.Rows L2
section
variable {K : PySem.W.Frag} {h : Heap} {mg : Str → Option Value}
/-- a def without defaults -/
theorem fn_hk {x q : Str} {st : Stmt} {f : Addr} {fd : FuncData} (F : FunD K x q (defArgs st) (defBody st) (defScope st) [] [] f fd) : Fun K x q st f fd := by
  obtain ⟨oc, od, dV, kV, doc, pm, an, cdv, ct, osl, e, l, c, hd, _⟩ := F.ex
  rcases hd with ⟨_, rfl⟩ | ⟨z, _⟩
  · exact ⟨⟨oc, od, kV, doc, pm, an, cdv, ct, osl, e, l, c⟩, F.kp⟩
  · exact (z rfl).elim
theorem df_hk {x : Str} {st : Stmt} (X : K.In h) (G : h.Ns mainGlobals mg) (a : (He.Fa.glo x).ok K = true) (d : ∃ fd, FunD K x x (defArgs st) (defBody st) (defScope st) [] [] (He.fAd K (x, none)) fd) : Df K mg x st := by
  obtain ⟨fd, F⟩ := d
  exact ⟨He.ga K x, fd, fn_hk F, He.glo_ok X G a⟩
theorem eg_hk {x q : Str} {st : Stmt} {fs : List Str} (X : K.In h) (G : h.Ns mainGlobals mg) (O : OG K (He.ga K x) (("code" : Str) :: fs)) (a : (He.Fa.glo x).ok K = true) (m : (He.Fa.meth x "__init__").ok K = true)
    (d : ∃ fd, FunD K "__init__" q (defArgs st) (defBody st) (defScope st) [] [] (He.fAd K (x, some "__init__")) fd) : Eg K mg x q (He.ga K x) st fs := by
  obtain ⟨fd, F⟩ := d
  have M := He.meth_ok m
  exact ⟨O, ⟨_, fd, fn_hk F, M.at_, beq_iff_eq.mp M.fn⟩, He.glo_ok X G a⟩
end
end Dl
/-! Wr: what such a head tells of classes. -/
namespace Dl
open PySem PySem.Spec PyProof.Rows L2
section
variable {K : PySem.W.Frag} {C : Addr} {f : Str} {v : V}
theorem qCls_read (h : qCls K C = true) : ClX.CRead K C (.type "type") := by
  have N := (He.ba h).1
  refine ⟨N, ?_⟩
  have h := N
  unfold PySem.W.readsIn at h
  obtain ⟨h, _⟩ := He.ba h
  obtain ⟨h, _⟩ := He.ba h
  obtain ⟨h, h3⟩ := He.ba h
  obtain ⟨_, h2⟩ := He.ba h
  unfold PySem.W.specialIn
  rw [beq_iff_eq.mp h2, Option.bind_some]
  exact beq_iff_eq.mp h3
theorem qCls_ty (h : qCls K C = true) (cl : Cls K C) {H : Hp} {a dx : Addr} {fs : List (Str × V)} (e : H a = some (.ins C dx fs)) : TyOf K H (.ref a) (.ref C) := by
  obtain ⟨_, h⟩ := He.ba h
  obtain ⟨h1, h⟩ := He.ba h
  obtain ⟨h2, h⟩ := He.ba h
  obtain ⟨h3, h4⟩ := He.ba h
  exact .ins e cl (He.eqO_ok h1) (He.eqO_ok h2) (of_decide_eq_true h3) (of_decide_eq_true h4)
theorem qProp_ok (h : qProp K C f = true) : PropOf K C f (He.ma K C f) (He5.wf K C "property" f) := by
  obtain ⟨h1, h⟩ := He.ba h
  obtain ⟨h2, h⟩ := He.ba h
  obtain ⟨h3, h4⟩ := He.ba h
  refine ⟨He.eqO_ok h1, He.eqO_ok h2, of_decide_eq_true h3, ?_⟩
  unfold He5.wf
  clear h1 h2 h3
  split at h4
  · rename_i g r e
    exact ⟨r, by rw [e]⟩
  · cases h4
theorem qVal_ok (h : qVal K C f v = true) : ∃ u, ClX.CVal K C (.type "type") f v u := by
  unfold qVal at h
  split at h
  · rename_i u e
    exact ⟨u, e, He.relB_ok h⟩
  · cases h
theorem qEq_ok (h : qEq K C = true) : OwnEq K C (He.ma K C "__eq__") := by
  obtain ⟨h1, h⟩ := He.ba h
  obtain ⟨h2, h⟩ := He.ba h
  obtain ⟨h3, h4⟩ := He.ba h
  exact ⟨He.eqO_ok h1, h2, He.eqO_ok h3, of_decide_eq_true h4⟩
theorem qKit_ok {t c : Value} {b : Bool} (h : qKit K t c b = true) : PySem.W.kitOne K t c = some b := of_decide_eq_true h
/-- a def at any address -/
theorem fa_hk {x q : Str} {st : Stmt} {f : Addr} (d : ∃ fd, FunD K x q (defArgs st) (defBody st) (defScope st) [] [] f fd) : ∃ fd, Fun K x q st f fd := by
  obtain ⟨fd, F⟩ := d
  exact ⟨fd, fn_hk F⟩
end
end Dl
/-! Xb: what such a head tells of an error's class. -/
namespace Dl
open PySem PySem.Spec PyProof.Rows L2
section
variable {K : PySem.W.Frag} {h : Heap} {mg : Str → Option Value} {C : Addr}
theorem oexB_ok (e : oexB K C = true) : ∃ nm q N bs bm sn sub ab col dd k0 k1 k2 k3 k5, K.lookup C = some (excClassObj nm q C N bs bm true sn sub ab col dd k0 k1 k2 k3 k5 "ValueError.__new__") ∧ PySem.HandSPX.refsVE bm = true := by
  unfold oexB at e
  split at e
  · rename_i dd cd sl ho
    split at e
    · rename_i E bm k0 k1 k2 k3 z k5 hm hs
      obtain ⟨h1, e⟩ := He.ba e
      obtain ⟨h2, e⟩ := He.ba e
      obtain ⟨h3, e⟩ := He.ba e
      obtain ⟨h4, h5⟩ := He.ba e
      cases beq_iff_eq.mp h1
      cases beq_iff_eq.mp h2
      obtain ⟨nm, bs, mro, N, q, hd, sn, sub, ab, col, dl⟩ := cd
      have e3 : dl = false := Bool.not_eq_true' _ |>.mp h3
      have e4 : hd = true := h4
      have em : mro = .ref C :: bm := hm
      obtain ⟨l⟩ := sl
      have es : l = [k0, k1, k2, k3, some (.builtin "ValueError.__new__"), k5] := hs
      subst e3 e4 em es
      exact ⟨nm, q, N, bs, bm, sn, sub, ab, col, dd, k0, k1, k2, k3, k5, ho, h5⟩
    · cases e
  · cases e
theorem er_hk {x q : Str} {st : Stmt} {fs : List Str} (X : K.In h) (G : h.Ns mainGlobals mg) (o : oexB K (He.ga K x) = true) (p : ogP K (He.ga K x) fs = true) (a : (He.Fa.glo x).ok K = true) (m : (He.Fa.meth x "__init__").ok K = true)
    (d : ∃ fd, FunD K "__init__" q (defArgs st) (defBody st) (defScope st) [] [] (He.fAd K (x, some "__init__")) fd) : Er K mg x q (He.ga K x) st fs := by
  unfold ogP at p
  simp only [Bool.and_eq_true, beq_iff_eq, List.all_eq_true] at p
  obtain ⟨⟨⟨⟨⟨⟨⟨h1, h2⟩, h3⟩, h4⟩, h5⟩, h6⟩, h7⟩, h8⟩ := p
  obtain ⟨fd, F⟩ := d
  have M := He.meth_ok m
  exact ⟨⟨oexB_ok o, h1, h2, h3, h4⟩, ⟨h5, h6, h2, h7⟩, h8, ⟨_, fd, fn_hk F, M.at_, beq_iff_eq.mp M.fn⟩, He.glo_ok X G a⟩
end
end Dl
namespace K21
open PySem PySem.Spec PyProof.Rows L2 Dl S2
/-! #### Aa -/
theorem pe_gi {X : Cx} {x : Str} {pos : Pos} {i : Int} (hg : Gl X x) (h : ∃ t, X.mg x = some (.int i t)) (hdb : (x == ("__debug__" : Str)) = false := by decide) : PE X (.Name x pos) (tC (.int i)) := by
  obtain ⟨t, e⟩ := h
  exact pe_glob hg e ⟨t, rfl⟩ hdb
theorem pe_gs {X : Cx} {x : Str} {pos : Pos} {z : Str} (hg : Gl X x) (h : ∃ t, X.mg x = some (.str z t)) (hdb : (x == ("__debug__" : Str)) = false := by decide) : PE X (.Name x pos) (tC (.str z)) := by
  obtain ⟨t, e⟩ := h
  exact pe_glob hg e ⟨t, rfl⟩ hdb

structure Gn (mg : Str → Option Value) : Prop where
  g_isinstance : mg "isinstance" = none
  g_int : mg "int" = none
  g_bool : mg "bool" = none
  g_str : mg "str" = none
  g_tuple : mg "tuple" = none
  g_list : mg "list" = none
  g_len : mg "len" = none
  g_abs : mg "abs" = none
  g_all : mg "all" = none
  g_any : mg "any" = none
  g_range : mg "range" = none
  g_max : mg "max" = none
  g_zip : mg "zip" = none
  g_ValueError : mg "ValueError" = none
  g_LookupError : mg "LookupError" = none
  g_gcd : mg "gcd" = some (.builtin "math.gcd")
  g_DIRECTION_BOUND : ∃ t, mg "DIRECTION_BOUND" = some (.int 999 t)
mutual
def sm : D → Bool
  | .str z => decide (z.length ≤ 1000)
  | .tup xs => decide (xs.length ≤ 1000) && sms xs
  | .lst xs => decide (xs.length ≤ 1000) && sms xs
  | .cls _ => false
  | .box => false
  | .exn _ _ _ => false
  | .obj _ _ _ => false
  | .adr _ => false
  | _ => true
def sms : List D → Bool
  | [] => true
  | x :: xs => sm x && sms xs
end
theorem sm_cls {d : D} (h : sm d = true) : d.isCls = false := by
  cases d <;> first | rfl | (exact Bool.noConfusion h)
theorem sms_mem : ∀ {xs : List D} {x : D}, sms xs = true → x ∈ xs → sm x = true
  | y :: ys, x, h, m => by
    have h' : (sm y && sms ys) = true := h
    rw [Bool.and_eq_true] at h'
    rcases List.mem_cons.mp m with e | m
    · rw [e]; exact h'.1
    · exact sms_mem h'.2 m
theorem sm_tup {xs : List D} (h : sm (.tup xs) = true) : xs.length ≤ 1000 ∧ sms xs = true := by
  have h' : (decide (xs.length ≤ 1000) && sms xs) = true := h
  rw [Bool.and_eq_true, decide_eq_true_eq] at h'
  exact h'
def isNum : D → Bool
  | .int _ => true
  | _ => false
abbrev SmP : List D → Prop := p1 fun d => sm d = true
abbrev bl1 (f : D → Bool) : List D → D := f1 fun d => .bl (f d)
abbrev ClB (P : Program) (w : World) (K : PySem.W.Frag) (mg : Str → Option Value) (base : Heap) (k : Nat) (x : Str) (st : Stmt) (v : Str) (f : D → Bool) := Cl P w K mg base k x st [v] (SpD K SmP fun ds r => r = bl1 f ds)
local macro_rules | `(tactic| walk_at "dl") => `(tactic| first
  | (with_reducible refine ws_seq ?_) | (with_reducible refine ws_if ?_) | (with_reducible refine ws_ret ?_) | ((with_reducible refine ws_set ?_); (try dsimp only [List.set])) | ((with_reducible refine ws_par ?_)) | (with_reducible refine ws_drop ?_) | (with_reducible refine ws_next ?_)
  | ((with_reducible refine' we_var ?hv ?_); (case hv => exact rfl)) | (with_reducible refine we_int ?_) | (with_reducible refine we_str ?_) | (with_reducible refine we_bl ?_) | (with_reducible refine we_non ?_) | (with_reducible refine we_cls ?_)
  | (with_reducible refine we_op ?_) | (with_reducible refine we_un ?_) | (with_reducible refine we_andV ?_) | (with_reducible refine we_orV ?_) | (with_reducible refine we_notV ?_) | (with_reducible refine we_if ?_) | (with_reducible refine we_chain ?_)
  | (with_reducible refine we_tup ?_) | (with_reducible refine we_lst ?_) | (with_reducible refine we_cb ?_) | (with_reducible refine we_callF ?_) | (with_reducible refine we_call ?_) | (with_reducible refine we_sl ?_)
  | (with_reducible refine wt_test ?_) | (with_reducible refine wt_B ?_) | (with_reducible refine wt_and ?_) | (with_reducible refine wt_or ?_) | (with_reducible refine wt_not ?_) | (with_reducible refine wt_yes ?_)
  | (with_reducible refine wa_nil ?_) | (with_reducible refine wa_cons ?_) | (with_reducible refine wo_none ?_) | (with_reducible refine wo_some ?_)
  | (with_reducible refine ro_int0 ?_) | (with_reducible refine ro_bl0 ?_) | (with_reducible refine r1_int ?_) | (with_reducible refine ro_eqI ?_) | (with_reducible refine ro_neI ?_) | (with_reducible refine ro_eqB ?_) | (with_reducible refine ro_neB ?_) | (with_reducible refine ro_eqS ?_) | (with_reducible refine ro_neS ?_)
  | (with_reducible refine ro_inC ?_) | (with_reducible refine rc_abs ?_) | (with_reducible refine rc_int1 ?_) | (with_reducible refine rc_gcd ?_)
  | ((with_reducible refine' rc_int ?hc ?_); (case hc => first | exact rfl | assumption | exact sm_cls (by assumption))) | ((with_reducible refine' rc_bool ?hc ?_); (case hc => first | exact rfl | assumption | exact sm_cls (by assumption))) | ((with_reducible refine' rc_str ?hc ?_); (case hc => first | exact rfl | assumption | exact sm_cls (by assumption))) | ((with_reducible refine' rc_tuple ?hc ?_); (case hc => first | exact rfl | assumption | exact sm_cls (by assumption))) | ((with_reducible refine' rc_list ?hc ?_); (case hc => first | exact rfl | assumption | exact sm_cls (by assumption))) | ((with_reducible refine' rc_dict ?hc ?_); (case hc => first | exact rfl | assumption | exact sm_cls (by assumption))) | ((with_reducible refine' rc_lt ?hc ?_); (case hc => first | exact rfl | assumption | exact sm_cls (by assumption)))
  | ((with_reducible refine' rc_len ?he ?hl ?_); (case he => exact rfl); (case hl => first | omega | (simp; omega)))
  | (with_reducible refine rc_allf ?_)
  | (with_reducible refine' And.intro (show List.length _ ≤ 1000 from by exact Nat.le_of_ble_eq_true rfl) ?_)
  | (refine iteT ?_) | (refine iteF ?_) | (with_reducible refine' Exists.intro _ (And.intro rfl ?_)) | (with_reducible refine' Exists.intro _ (Exists.intro _ (And.intro rfl ?_))))
section
variable {P : Program} {w : World} {K : PySem.W.Frag} {mg : Str → Option Value} {base : Heap}
/-! ### is_any_number -/
abbrev s_is_any_number : Stmt := topS 8
abbrev N_is_any_number : List Str := ["value"]
theorem sc_is_any_number : FnScope N_is_any_number ["value"] (defScope s_is_any_number) := ⟨rfl, rfl, rfl, by decide +kernel, rfl, by decide +kernel, by decide +kernel⟩
theorem ok_is_any_number {k : Nat} (G : Gn mg) (F : Df K mg "is_any_number" s_is_any_number) : Cl P w K mg base (k + 1) "is_any_number" s_is_any_number ["value"] (SpD K SmP fun ds r => r = bl1 isNum ds) := by
  refine cl_of F sc_is_any_number (fun _ _ _ _ _ _ us hl => match us, hl with | [_], _ => rfl) p1_len fun f cdv A outer s H E hr => ⟨_, (pss_one (ps_ret (pe_and (pe_callB (show CallR _ (.builtin "isinstance") (rIsi K) from call_isi) (by rfl) G.g_isinstance (by decide +kernel) (pa_cons (pv 0) (pa_cons (pe_bltn (v := .ty "int") (u := .type "int") (by rfl) G.g_int (by decide +kernel) rfl) pa_nil))) (pe_one (pe_not (pe_callB (show CallR _ (.builtin "isinstance") (rIsi K) from call_isi) (by rfl) G.g_isinstance (by decide +kernel) (pa_cons (pv 0) (pa_cons (pe_bltn (v := .ty "bool") (u := .type "bool") (by rfl) G.g_bool (by decide +kernel) rfl) pa_nil)))))))), fun B ds hp => ?_⟩
  obtain ⟨d, rfl, hd⟩ := p1_ex hp
  show WS K B _ [.val d] _
  try dsimp only [cxOf, Cx.nox, Cx.blk]
  have hc := sm_cls hd
  cases d <;> first | (exact Bool.noConfusion hc) | (repeat walk_at "dl")
  all_goals rfl
/-! ### is_number_pair -/
abbrev s_is_number_pair : Stmt := topS 9
abbrev N_is_number_pair : List Str := ["value", "item"]
theorem sc_is_number_pair : FnScope N_is_number_pair ["value"] (defScope s_is_number_pair) := ⟨rfl, rfl, rfl, by decide +kernel, rfl, by decide +kernel, by decide +kernel⟩
def isNumPair : D → Bool
  | .tup xs => decide ((xs.length : Int) = 2) && xs.all isNum
  | _ => false
theorem ok_is_number_pair {k : Nat} (G : Gn mg) (F : Df K mg "is_number_pair" s_is_number_pair) (C_is_any_number : ClB P w K mg base k "is_any_number" s_is_any_number "value" isNum) : ClB P w K mg base (k + 1) "is_number_pair" s_is_number_pair "value" isNumPair := by
  refine cl_of F sc_is_number_pair (fun _ _ _ _ _ _ us hl => match us, hl with | [_], _ => rfl) p1_len fun f cdv A outer s H E hr => ⟨_, (pss_one (ps_ret (pe_and (pe_callB (show CallR _ (.builtin "isinstance") (rIsi K) from call_isi) (by rfl) G.g_isinstance (by decide +kernel) (pa_cons (pv 0) (pa_cons (pe_bltn (v := .ty "tuple") (u := .type "tuple") (by rfl) G.g_tuple (by decide +kernel) rfl) pa_nil))) (pe_and (pe_cmpR op_eq (pe_callB (show CallR _ (.builtin "len") (fun xs H Q => ∃ x n, xs = [x] ∧ LenV K x H n ∧ Q (.int n) H) from call_len) (by rfl) G.g_len (by decide +kernel) (pa_cons (pv 0) pa_nil)) pe_int (nomark _)) (pe_one (pe_callB (cr_all rfl) (by rfl) G.g_all (by decide +kernel) (pa_cons (pe_lc (own := [("item", 1)]) (g := gName 1) (tt := tYes) rfl sc_is_number_pair.nd (pi_tup (pv 0)) (blkOk_by (N := N_is_number_pair) (sc := defScope s_is_number_pair) (by decide +kernel)) (fun _ _ _ _ _ => pg_name (i := 1) sc_is_number_pair.nd rfl (Or.inl rfl)) (fun _ _ _ _ _ => pts_nil) (fun _ _ _ _ _ => (pe_c C_is_any_number hr (by omega) (by rfl) (pa_cons (pv 1) pa_nil)))) pa_nil))))))), fun B ds hp => ?_⟩
  obtain ⟨d, rfl, hd⟩ := p1_ex hp
  show WS K B _ [.val d, .no] _
  try dsimp only [cxOf, Cx.nox, Cx.blk]
  have hc := sm_cls hd
  cases d with
  | tup xs =>
    obtain ⟨hl, hs⟩ := sm_tup hd
    repeat walk_at "dl"
    refine ite2 (fun h => ?_) (fun h => ?_)
    · repeat walk_at "dl"
      refine we_lcmap (fun d => .bl (isNum d)) (wi_tup ?_)
      repeat walk_at "dl"
      refine ⟨by omega, fun d m => ?_, ?_⟩
      · repeat walk_at "dl"
        exact ⟨sms_mem hs m, rfl⟩
      · repeat walk_at "dl"
        show D.bl _ = D.bl (_ && _)
        rw [h, Bool.true_and]
    · show D.bl _ = D.bl (_ && _)
      rw [Bool.eq_false_iff.mpr h, Bool.false_and]
  | cls n => exact Bool.noConfusion hc
  | exn _ _ _ => exact Bool.noConfusion hc
  | obj _ _ _ => exact Bool.noConfusion hc
  | adr _ => exact Bool.noConfusion hc
  | _ => (repeat walk_at "dl"); rfl
/-! ### helpers of Pb -/
theorem and_t {a b : Bool} (h : a = true) : D.bl b = D.bl (a && b) := by rw [h, Bool.true_and]
theorem and_f {a b : Bool} (h : ¬ a = true) : D.bl false = D.bl (a && b) := by rw [Bool.eq_false_iff.mpr h, Bool.false_and]
/-! ### is_bounded_pair -/
abbrev s_is_bounded_pair : Stmt := topS 10
abbrev N_is_bounded_pair : List Str := ["value", "bound", "item"]
theorem sc_is_bounded_pair : FnScope N_is_bounded_pair ["value", "bound"] (defScope s_is_bounded_pair) := ⟨rfl, rfl, rfl, by decide +kernel, rfl, by decide +kernel, by decide +kernel⟩
def inB (b : Int) : D → Bool
  | .int i => decide (-b ≤ i) && decide (i ≤ b)
  | _ => false
def isBnd (b : Int) : D → Bool
  | .tup xs => isNumPair (.tup xs) && xs.all (inB b)
  | _ => false
def bnd : D → D → D
  | d, .int b => .bl (isBnd b d)
  | _, _ => .non
theorem num_ex {d : D} (z : isNum d = true) : ∃ i, d = .int i := by
  cases d <;> first | exact ⟨_, rfl⟩ | exact Bool.noConfusion z
theorem num_mem {xs : List D} (h : isNumPair (.tup xs) = true) {d : D} (m : d ∈ xs) : ∃ i, d = .int i := by
  have h' : (decide ((xs.length : Int) = 2) && xs.all isNum) = true := h
  rw [Bool.and_eq_true] at h'
  have z := List.all_eq_true.mp h'.2 d m
  cases d <;> first | exact ⟨_, rfl⟩ | exact Bool.noConfusion z
theorem ok_is_bounded_pair {k : Nat} (G : Gn mg) (F : Df K mg "is_bounded_pair" s_is_bounded_pair) (C_is_number_pair : ClB P w K mg base k "is_number_pair" s_is_number_pair "value" isNumPair) :
    Cl P w K mg base (k + 1) "is_bounded_pair" s_is_bounded_pair ["value", "bound"] (SpD K (p2 fun d b => sm d = true ∧ ∃ i, b = .int i) fun ds r => r = f2 bnd ds) := by
  refine cl_of F sc_is_bounded_pair (fun _ _ _ _ _ _ us hl => match us, hl with | [_, _], _ => rfl) p2_len fun f cdv A outer s H E hr => ⟨_, (pss_one (ps_ret (pe_and (pe_c C_is_number_pair hr (by omega) (by rfl) (pa_cons (pv 0) pa_nil)) (pe_one (pe_callB (cr_all rfl) (by rfl) G.g_all (by decide +kernel) (pa_cons (pe_lc (own := [("item", 2)]) (g := gName 2) (tt := tYes) rfl sc_is_bounded_pair.nd (pi_tup (pv 0)) (blkOk_by (N := N_is_bounded_pair) (sc := defScope s_is_bounded_pair) (by decide +kernel)) (fun _ _ _ _ _ => pg_name (i := 2) sc_is_bounded_pair.nd rfl (Or.inl rfl)) (fun _ _ _ _ _ => pts_nil) (fun _ _ _ _ _ => (pe_chain op_le op_le (pe_un un_neg (pv 1)) (pv 2) (pv 1)))) pa_nil)))))), fun B ds hp => ?_⟩
  obtain ⟨d, _, rfl, hd, ⟨b, rfl⟩⟩ := p2_ex hp
  show WS K B _ [.val d, .val (.int b), .no] _
  try dsimp only [cxOf, Cx.nox, Cx.blk]
  have hc := sm_cls hd
  cases d with
  | tup xs =>
    obtain ⟨hl, hs⟩ := sm_tup hd
    repeat walk_at "dl"
    refine ⟨hd, ?_⟩
    repeat walk_at "dl"
    refine ite2 (fun h => ?_) (fun h => ?_)
    · repeat walk_at "dl"
      refine we_lcmap (fun d => .bl (inB b d)) (wi_tup ?_)
      repeat walk_at "dl"
      refine ⟨by omega, fun d m => ?_, ?_⟩
      · obtain ⟨i, rfl⟩ := num_mem h m
        repeat walk_at "dl"
        refine ite2 (fun h => ?_) (fun h => ?_)
        · repeat walk_at "dl"
          exact and_t h
        · exact and_f h
      · repeat walk_at "dl"
        exact and_t h
    · exact and_f h
  | cls n => exact Bool.noConfusion hc
  | exn _ _ _ => exact Bool.noConfusion hc
  | obj _ _ _ => exact Bool.noConfusion hc
  | adr _ => exact Bool.noConfusion hc
  | _ => (repeat walk_at "dl"); (refine ⟨hd, ?_⟩); (repeat walk_at "dl"); rfl
abbrev ClN (P : Program) (w : World) (K : PySem.W.Frag) (mg : Str → Option Value) (base : Heap) (k : Nat) := Cl P w K mg base k "is_bounded_pair" s_is_bounded_pair ["value", "bound"] (SpD K (p2 fun d b => sm d = true ∧ ∃ i, b = .int i) fun ds r => r = f2 bnd ds)
theorem all_in {b : Int} : ∀ xs : List D, (xs.all isNum && xs.all (inB b)) = xs.all (inB b)
  | [] => rfl
  | x :: xs => by
    have ih := all_in (b := b) xs
    rw [List.all_cons, List.all_cons]
    cases hx : inB b x with
    | false => rw [Bool.false_and, Bool.and_false]
    | true =>
      have hn : isNum x = true := by
        cases x <;> first | rfl | exact Bool.noConfusion hx
      rw [hn, Bool.true_and, Bool.true_and]
      exact ih
theorem bnd_eq {b : Int} (xs : List D) : isBnd b (.tup xs) = (decide ((xs.length : Int) = 2) && xs.all (inB b)) := by
  show ((decide ((xs.length : Int) = 2) && xs.all isNum) && xs.all (inB b)) = _
  rw [Bool.and_assoc, all_in]
/-! ### is_direction -/
abbrev s_is_direction : Stmt := topS 11
abbrev N_is_direction : List Str := ["value"]
theorem sc_is_direction : FnScope N_is_direction ["value"] (defScope s_is_direction) := ⟨rfl, rfl, rfl, by decide +kernel, rfl, by decide +kernel, by decide +kernel⟩
def gcdD : D → Nat
  | .tup [.int a, .int b] => Nat.gcd a.natAbs b.natAbs
  | _ => 0
def isDir (d : D) : Bool := isBnd 999 d && decide (((gcdD d : Nat) : Int) = 1)
theorem bnd_pair {b : Int} {d : D} (h : isBnd b d = true) : ∃ x y : Int, d = .tup [.int x, .int y] ∧ -b ≤ x ∧ x ≤ b ∧ -b ≤ y ∧ y ≤ b := by
  cases d with
  | tup xs =>
    have h' : ((decide ((xs.length : Int) = 2) && xs.all isNum) && xs.all (inB b)) = true := h
    rw [Bool.and_eq_true, Bool.and_eq_true, decide_eq_true_eq] at h'
    obtain ⟨⟨hl, hn⟩, hb⟩ := h'
    match xs, hl, hn, hb with
    | [x, y], _, hn, hb =>
      have n1 := List.all_eq_true.mp hn x (by simp)
      have n2 := List.all_eq_true.mp hn y (by simp)
      have b1 := List.all_eq_true.mp hb x (by simp)
      have b2 := List.all_eq_true.mp hb y (by simp)
      obtain ⟨i, rfl⟩ := num_ex n1
      obtain ⟨j, rfl⟩ := num_ex n2
      have b1' : (decide (-b ≤ i) && decide (i ≤ b)) = true := b1
      have b2' : (decide (-b ≤ j) && decide (j ≤ b)) = true := b2
      rw [Bool.and_eq_true, decide_eq_true_eq, decide_eq_true_eq] at b1' b2'
      exact ⟨i, j, rfl, b1'.1, b1'.2, b2'.1, b2'.2⟩
    | [], hl, _, _ => simp at hl
    | [_], hl, _, _ => simp at hl
    | _ :: _ :: _ :: r, hl, _, _ => simp at hl; omega
  | _ => exact Bool.noConfusion h
theorem ok_is_direction {k : Nat} (G : Gn mg) (F : Df K mg "is_direction" s_is_direction) (C_is_bounded_pair : ClN P w K mg base k) : ClB P w K mg base (k + 1) "is_direction" s_is_direction "value" isDir := by
  refine cl_of F sc_is_direction (fun _ _ _ _ _ _ us hl => match us, hl with | [_], _ => rfl) p1_len fun f cdv A outer s H E hr => ⟨_, (pss_one (ps_ret (pe_and (pe_c C_is_bounded_pair hr (by omega) (by rfl) (pa_cons (pv 0) (pa_cons (pe_gi rfl G.g_DIRECTION_BOUND) pa_nil))) (pe_one (pe_cmpR op_eq (pe_callBfun cr_gcd (by rfl) G.g_gcd (pa_cons (pe_ix (show IxR _ (rIxT K) from ix_tup) (pv 0) pe_int (fun _ _ => rfl)) (pa_cons (pe_ix (show IxR _ (rIxT K) from ix_tup) (pv 0) pe_int (fun _ _ => rfl)) pa_nil))) pe_int (nomark _)))))), fun B ds hp => ?_⟩
  obtain ⟨d, rfl, hd⟩ := p1_ex hp
  show WS K B _ [.val d] _
  try dsimp only [cxOf, Cx.nox, Cx.blk]
  repeat walk_at "dl"
  refine ⟨⟨hd, _, rfl⟩, ?_⟩
  repeat walk_at "dl"
  refine ite2 (fun h => ?_) (fun h => ?_)
  · obtain ⟨x, y, rfl, _⟩ := bnd_pair h
    repeat walk_at "dl"
    refine ro_ixT (d := .int x) rfl ?_
    repeat walk_at "dl"
    refine ro_ixT (d := .int y) rfl ?_
    repeat walk_at "dl"
    exact and_t h
  · exact and_f h
/-! ### helpers of Pc -/
def inT (t : Str) : D → Bool
  | .str z => match z.cps.toList with
    | [c] => decide (c ∈ t.cps.toList)
    | _ => false
  | _ => false
theorem sm_str {z : Str} (h : sm (.str z) = true) : z.length ≤ 1000 := of_decide_eq_true h
theorem sign_ex {z : Str} {d : D} (m : d ∈ Dl.signs z) : ∃ c, d = .str ⟨#[c]⟩ ∧ c ∈ z.cps.toList := by
  unfold Dl.signs at m
  obtain ⟨c, hc, e⟩ := List.mem_map.mp m
  exact ⟨c, e.symm, hc⟩
theorem signs_len (z : Str) : (Dl.signs z).length = z.length := by
  unfold Dl.signs
  rw [List.length_map, Array.length_toList]
  rfl
/-! ### helpers of Pd -/
theorem abs_nat (i : Int) : (if i < 0 then -i else i) = (i.natAbs : Int) := by
  split <;> omega
/-! ### helpers of Pe -/
theorem cl_raw {x : Str} {st : Stmt} {N ps : List Str} {k : Nat} {pre : List D → Prop} {post : List D → D → Prop} (F : Df K mg x st) (S : FnScope N ps (defScope st))
    (hb : ∀ (kV doc pm : Value) (an : Option Addr) (cdv ct : Value) (us : List Value), us.length = ps.length → bindArgs (PySem.W.fnOf x x (defArgs st) (defBody st) (defScope st) .none kV doc pm an cdv ct) ⟨us, []⟩ = pure (ps.zip us))
    (hl : ∀ ds, pre ds → ds.length = ps.length)
    (h : ∀ (f : Addr) (cdv : Value) (A : Around) (outer : List Env) (s : Shared) (H : Hp) (E : XK) (B : Bt) (G : Hp) (ds : List D) (vs : List V) (Q : VK), Room k (A.deeper (envOfC x (defScope st) s.heap.objs.size f cdv)) → Ok B G H → Dds K B G vs ds → pre ds → Ct K B G H (post ds) Q →
      ∃ t, PSs (cxOf CX0 P w K mg base N x (defScope st) f cdv A outer s H E).nox (defBody st) t ∧ t { nx := fun _ H' => Q .non H', rt := Q } (L2.start N vs) H) : Cl P w K mg base (k + 1) x st ps (SpD K pre post) := by
  obtain ⟨f, fd, F, hm⟩ := F.ex
  refine ⟨f, fd, F, F.ok S (fun vs H Q E hsp => ?_) (fun cdv A outer s H vs Q E hr hsp => ?_), hm, F.binds hb⟩
  · obtain ⟨B, G, ds, o, hs, p, q⟩ := hsp
    exact hs.length.trans (hl ds p)
  · obtain ⟨B, G, ds, o, hs, p, q⟩ := hsp
    exact h f cdv A outer s H E B G ds vs Q hr o hs p q
/-! ### dicts as displays -/
theorem nt_dK {kvs : List (Key × V)} : nt (.dK kvs) := fun _ z => nomatch z
theorem we_dnew {B : Bt} {δ : List Sd} {Pp : D → Prop} (p : Pp (.dic [] [])) : WE K B tDNewK δ Pp := fun _ _ _ G H Q s _ q a ha => q.new s.ok nt_dK ha (.dic (kvs := []) upd_same .nil) p
theorem we_disp1 {B : Bt} {δ : List Sd} {Pp : D → Prop} {z : Str} {i : Int} (p : Pp (.dic [.inr z] [.int i])) : WE K B (tDisp [(tC (.str z), tC (.int i))]) δ Pp := fun _ _ _ G H Q s _ q a ha => by
  refine ⟨upd_same, [(.inr z, .int i)], rfl, Nat.le_of_ble_eq_true rfl, ?_⟩
  have e : mergeK [] [((Sum.inr z : Key), V.int i)] = [(.inr z, .int i)] := rfl
  rw [e, upd_upd]
  exact q.new s.ok nt_dK ha (.dic (kvs := [(.inr z, .int i)]) upd_same (.cons (.int i) .nil)) p
end
/-! #### Ab -/
section
variable {P : Program} {w : World} {K : PySem.W.Frag} {mg : Str → Option Value} {base : Heap}
/-! ### law_draw -/
/-! ### _law_draw -/
abbrev s__law_draw : Stmt := topS 28
abbrev N__law_draw : List Str := ["_law_bag", "_law_many", "_law_seed", "_law_step", "_law_cell", "_law_digit"]
theorem sc__law_draw : FnScope N__law_draw ["_law_bag", "_law_many"] (defScope s__law_draw) := ⟨rfl, rfl, rfl, by decide +kernel, rfl, by decide +kernel, by decide +kernel⟩
abbrev takePre : List D → Prop := p2 fun b m => b = .box ∧ ∃ n : Int, m = .int n ∧ 0 < n ∧ n ≤ 1000000000
def takePost : List D → D → Prop := fun ds r => ∃ n i : Int, ds = [.box, .int n] ∧ r = .int i ∧ 0 ≤ i ∧ i < n
abbrev ClT (P : Program) (w : World) (K : PySem.W.Frag) (mg : Str → Option Value) (base : Heap) (k : Nat) := Cl P w K mg base k "_law_draw" s__law_draw ["_law_bag", "_law_many"] (SpD K takePre takePost)
theorem fm0 {i n : Int} (h : 0 < n) : 0 ≤ i.fmod n ∧ i.fmod n < n := ⟨Int.fmod_nonneg_of_pos i h, Int.fmod_lt_of_pos i h⟩
theorem fd0 {i n : Int} (hi : 0 ≤ i) (h : 0 < n) : 0 ≤ i.fdiv n := by
  rw [Int.fdiv_eq_ediv_of_nonneg _ (by omega)]
  exact Int.ediv_nonneg hi (by omega)
theorem ok__law_draw {k : Nat} (G : Gn mg) (F : Df K mg "_law_draw" s__law_draw) : ClT P w K mg base (k + 1) := by
  refine cl_raw F sc__law_draw (fun _ _ _ _ _ _ us hl => match us, hl with | [_, _], _ => rfl) p2_len fun f cdv A outer s H E B G0 ds vs Q hr ok hs hp q => ?_
  obtain ⟨_, _, rfl, rfl, n, rfl, hn0, hn1⟩ := p2_ex hp
  have ev : vs = [.ref B.a, .int n] := by
    cases hs with
    | cons h1 t =>
      cases t with
      | cons h2 t2 => cases t2; cases h1; cases h2; rfl
  subst ev
  have fin : ∀ (H1 : Hp) (c : Addr) (cells : List Int) (p r m cnt i : Int), (∀ a, a ≠ B.a → H1 a = H a) → H1 B.a = some (.lst [.ref c, .int p, .int r, .int m, .int cnt]) → G0 c = some (.lst (cells.map V.int)) → cells.length ≤ 63 → 0 ≤ p → 0 ≤ r → 0 ≤ m → m < 2147483648 → 0 ≤ cnt → 0 ≤ i → i < n → (∀ c0 r0, H B.a = some (.lst (.ref c0 :: r0)) → c0 = c) → Q (.int i) H1 := by
    intro H1 c cells p r m cnt i hk hB hc hl hp hr hm hm2 hn hi hi2 hcc
    refine q (.int i) (.int i) G0 H1 ⟨Same.refl _, fun a o ne _ e => by rw [hk a ne]; exact e, fun _ _ _ _ g => g, fun c0 r0 e => ⟨[.int p, .int r, .int m, .int cnt], by have ec := hcc c0 r0 e; subst ec; exact hB⟩⟩ ⟨fun a o e => ?_, ok.b, ⟨c, cells, p, r, m, cnt, hB, hc, hl, hp, hr, hm, hm2, hn⟩, ?_, ok.f⟩ (.int i) ⟨n, i, rfl, rfl, hi, hi2⟩
    · have ne : a ≠ B.a := fun z => by rw [z, ok.b] at e; cases e
      rw [hk a ne]
      exact ok.u a o e
    · obtain ⟨c1, cells1, p1, r1, m1, n1, hB1, _⟩ := ok.x
      have e1 : H1 = upd H B.a (.lst [.ref c, .int p, .int r, .int m, .int cnt]) := by
        funext a
        by_cases z : a = B.a
        · rw [z, hB, upd_same]
        · rw [upd_ne z]; exact hk a z
      rw [e1]
      exact tabs_upd ok.t hB1
  obtain ⟨T2, h2, w2⟩ : ∃ T2, PSs (cxOf CX0 P w K mg base N__law_draw "_law_draw" (defScope s__law_draw) f cdv A outer s H E).nox ((defBody s__law_draw).drop 2) T2 ∧
      ∀ (H1 : Hp) (c : Addr) (cells : List Int) (p r m cnt : Int) (y2 y3 y4 y5 : Option V), (∀ a, a ≠ B.a → H1 a = H a) → H1 B.a = some (.lst [.ref c, .int p, .int r, .int m, .int cnt]) → G0 c = some (.lst (cells.map V.int)) → cells.length ≤ 63 → 0 ≤ p → 0 ≤ r → 0 ≤ m → m < 2147483648 → 0 ≤ cnt → (∀ c0 r0, H B.a = some (.lst (.ref c0 :: r0)) → c0 = c) →
        T2 { nx := fun _ H' => Q .non H', rt := Q } [some (.ref B.a), some (.int n), y2, y3, y4, y5] H1 := by
    refine ⟨_, (pss_cons (ps_if (pt_cmpR op_gt (pe_ix (show IxR _ (rIxL K) from ix_list) (pv 0) pe_int (fun _ _ => rfl)) pe_int (nomark _)) (pss_cons (ps_set (i := 5) sc__law_draw.nd rfl (Or.inl rfl) (pe_op op_modN (pe_callTy call_int1 (by rfl) G.g_int (by decide +kernel) (pa_cons (pe_ix (show IxR _ (rIxL K) from ix_list) (pv 0) pe_int (fun _ _ => rfl)) pa_nil)) (pv 1)))
      (pss_cons (ps_asg (pe_op op_fdivN (pe_ix (show IxR _ (rIxL K) from ix_list) (pv 0) pe_int (fun _ _ => rfl)) (pv 1)) (pg_sub (pv 0) pe_int set_list))
      (pss_one (ps_ret (pv 5))))) pss_nil)
      (pss_cons (ps_set (i := 2) sc__law_draw.nd rfl (Or.inl rfl) (pe_ix (show IxR _ (rIxL K) from ix_list) (pv 0) pe_int (fun _ _ => rfl)))
      (pss_cons (ps_set (i := 3) sc__law_draw.nd rfl (Or.inl rfl) (pe_op op_add (pe_op op_add (pe_op op_mul (pv 2) pe_int) (pe_op op_mul (pe_ix (show IxR _ (rIxL K) from ix_list) (pv 0) pe_int (fun _ _ => rfl)) pe_int)) pe_int))
      (pss_cons (ps_asg (pe_op op_modN (pe_callTy call_int1 (by rfl) G.g_int (by decide +kernel) (pa_cons (pe_op op_add (pe_op op_mul (pe_op op_mul (pv 2) (pv 2)) pe_int) (pv 3)) pa_nil)) pe_int) (pg_sub (pv 0) pe_int set_list))
      (pss_one (ps_ret (pe_op op_modN (pe_callTy call_int1 (by rfl) G.g_int (by decide +kernel) (pa_cons (pe_op op_add (pe_op op_fdivN (pe_ix (show IxR _ (rIxL K) from ix_list) (pv 0) pe_int (fun _ _ => rfl)) pe_int) (pe_op op_mul (pe_op op_modN (pe_callTy call_int1 (by rfl) G.g_int (by decide +kernel) (pa_cons (pe_ix (show IxR _ (rIxL K) from ix_list) (pv 0) pe_int (fun _ _ => rfl)) pa_nil)) pe_int) pe_int)) pa_nil)) (pv 1)))))))), ?_⟩
    intro H1 c cells p r m cnt y2 y3 y4 y5 hk hB hc hl hp hr hm hm2 hn hcc
    refine ⟨_, rfl, B.a, _, _, _, rfl, rfl, SqL.of hB, rfl, _, _, rfl, rfl, _, rfl, ?_⟩
    refine ite2 (fun h => ?_) (fun h => ?_)
    · refine ⟨_, rfl, B.a, _, _, _, rfl, rfl, SqL.of hB, rfl, .inl ⟨_, rfl, _, rfl, _, _, rfl, rfl, (show n ≠ 0 by omega), ?_⟩⟩
      refine ⟨_, rfl, B.a, _, _, _, rfl, rfl, SqL.of hB, rfl, _, rfl, _, _, rfl, rfl, (show n ≠ 0 ∧ n.natAbs < 1073741824 from ⟨by omega, by omega⟩), _, rfl, B.a, _, _, _, rfl, rfl, hB, rfl, ?_⟩
      refine ⟨_, rfl, ?_⟩
      have f0 := fm0 (i := r) hn0
      exact fin _ c cells p (r.fdiv n) m cnt _ (fun a ne => by rw [upd_ne ne]; exact hk a ne) upd_same hc hl hp (fd0 hr hn0) hm hm2 hn f0.1 f0.2 hcc
    · -- seed = bag[3]
      refine ⟨_, rfl, B.a, _, _, _, rfl, rfl, SqL.of hB, rfl, ?_⟩
      -- step = seed * 50069 + bag[4] * 110063 + 60101
      refine ⟨_, rfl, _, _, rfl, rfl, .inr ⟨by decide, by decide⟩, _, rfl, B.a, _, _, _, rfl, rfl, SqL.of hB, rfl, _, _, rfl, rfl, .inr ⟨by decide, by decide⟩, _, _, rfl, rfl, _, _, rfl, rfl, ?_⟩
      -- bag[3] = int(seed * seed * 29 + step) % ..
      refine ⟨_, rfl, _, rfl, _, _, rfl, rfl, .inl ⟨by omega, by omega⟩, _, _, rfl, rfl, .inr ⟨by decide, by decide⟩, _, rfl, _, _, rfl, rfl, .inl ⟨_, rfl, _, _, rfl, rfl, (by intro z; exact absurd z (by decide)), _, rfl, B.a, _, _, _, rfl, rfl, hB, rfl, ?_⟩⟩
      have fm := fm0 (i := m * m * 29 + (m * 50069 + cnt * 110063 + 60101)) (n := 2147483587) (by decide)
      -- the answer
      refine ⟨_, rfl, B.a, _, _, _, rfl, rfl, SqL.of upd_same, rfl, _, _, rfl, rfl, ⟨by decide, by decide⟩, _, rfl, B.a, _, _, _, rfl, rfl, SqL.of upd_same, rfl, .inl ⟨_, rfl, _, _, rfl, rfl, (by intro z; exact absurd z (by decide)), _, _, rfl, rfl, .inr ⟨by decide, by decide⟩, _, _, rfl, rfl, .inl ⟨_, rfl, _, rfl, _, _, rfl, rfl, (show n ≠ 0 by omega), ?_⟩⟩⟩
      refine fin _ c cells p r _ cnt _ (fun a ne => by rw [upd_ne ne]; exact hk a ne) upd_same hc hl hp hr fm.1 (by have := fm.2; omega) hn (fm0 hn0).1 (fm0 hn0).2 hcc
  obtain ⟨T1, h1, w1⟩ : ∃ T1, PSs (cxOf CX0 P w K mg base N__law_draw "_law_draw" (defScope s__law_draw) f cdv A outer s H E).nox ((defBody s__law_draw).drop 1) T1 ∧
      ∀ (H1 : Hp) (c : Addr) (cells : List Int) (p r m cnt : Int), (∀ a, a ≠ B.a → H1 a = H a) → H1 B.a = some (.lst [.ref c, .int p, .int r, .int m, .int cnt]) → SqL K H1 c (cells.map V.int) → G0 c = some (.lst (cells.map V.int)) → cells.length ≤ 63 → 0 ≤ p → 0 ≤ r → 0 ≤ m → m < 2147483648 → 0 ≤ cnt → (∀ c0 r0, H B.a = some (.lst (.ref c0 :: r0)) → c0 = c) →
        T1 { nx := fun _ H' => Q .non H', rt := Q } [some (.ref B.a), some (.int n), none, none, none, none] H1 := by
    refine ⟨_, pss_cons (ps_if (PW.pt (pw_and (pt_cmpR op_eq (pe_ix (show IxR _ (rIxL K) from ix_list) (pv 0) pe_int (fun _ _ => rfl)) pe_int (nomark _)) (pw_and1 (pt_cmpR op_lt (pe_ix (show IxR _ (rIxL K) from ix_list) (pv 0) pe_int (fun _ _ => rfl)) (pe_callB (show CallR _ (.builtin "len") (fun xs H Q => ∃ x n, xs = [x] ∧ LenV K x H n ∧ Q (.int n) H) from call_len) (by rfl) G.g_len (by decide +kernel) (pa_cons (pe_ix (show IxR _ (rIxL K) from ix_list) (pv 0) pe_int (fun _ _ => rfl)) pa_nil)) (nomark _))))) (pss_cons (ps_set (i := 4) sc__law_draw.nd rfl (Or.inl rfl) (pe_ix (show IxR _ (rIxL K) from ix_list) (pe_ix (show IxR _ (rIxL K) from ix_list) (pv 0) pe_int (fun _ _ => rfl)) (pe_ix (show IxR _ (rIxL K) from ix_list) (pv 0) pe_int (fun _ _ => rfl)) (fun _ _ => rfl)))
      (pss_cons (ps_asg (pe_op op_add (pe_ix (show IxR _ (rIxL K) from ix_list) (pv 0) pe_int (fun _ _ => rfl)) pe_int) (pg_sub (pv 0) pe_int set_list))
      (pss_one (ps_if (pt_cmpR op_ge (pe_callB call_abs (by rfl) G.g_abs (by decide +kernel) (pa_cons (pv 4) pa_nil)) (pe_op op_pow pe_int pe_int) (nomark _)) (pss_one (ps_asg (pe_callB call_abs (by rfl) G.g_abs (by decide +kernel) (pa_cons (pv 4) pa_nil)) (pg_sub (pv 0) pe_int set_list))) (pss_one (ps_asg (pe_op op_modN (pe_callTy call_int1 (by rfl) G.g_int (by decide +kernel) (pa_cons (pe_op op_add (pe_op op_add (pe_op op_mul (pe_ix (show IxR _ (rIxL K) from ix_list) (pv 0) pe_int (fun _ _ => rfl)) pe_int) (pe_op op_mul (pe_op op_modN (pe_callTy call_int1 (by rfl) G.g_int (by decide +kernel) (pa_cons (pv 4) pa_nil)) pe_int) pe_int)) pe_int) pa_nil)) pe_int) (pg_sub (pv 0) pe_int set_list))))))) pss_nil) h2, ?_⟩
    intro H1 c cells p r m cnt hk1 hB1 hcH hc hl hp hr0 hm hm2 hn1' hcc
    have go0 := w2 H1 c cells p r m cnt none none none none hk1 hB1 hc hl hp hr0 hm hm2 hn1' hcc
    refine ⟨_, rfl, B.a, _, _, _, rfl, rfl, SqL.of hB1, rfl, rfl, _, rfl, ?_⟩
    refine ite2 (fun h => ?_) (fun h => iteF go0)
    have er : r = 0 := V.int.inj (of_decide_eq_true h)
    refine ⟨_, rfl, B.a, _, _, _, rfl, rfl, SqL.of hB1, rfl, _, rfl, B.a, _, _, _, rfl, rfl, SqL.of hB1, rfl, _, _, rfl, .inl ⟨_, hcH, rfl⟩, _, _, rfl, rfl, _, rfl, ?_⟩
    refine ite2 (fun h2 => ?_) (fun h2 => go0)
    have hp2 : p < ((cells.map V.int).length : Int) := of_decide_eq_true h2
    rw [List.length_map] at hp2
    obtain ⟨j, rfl⟩ : ∃ j : Nat, p = (j : Int) := ⟨p.toNat, by omega⟩
    have hj : j < cells.length := by omega
    have hat : atI (cells.map V.int) (j : Int) = some (.int cells[j]) := atI_nat (by rw [List.getElem?_map, List.getElem?_eq_getElem hj]; rfl)
    generalize cells[j] = cell at hat
    -- cell = bag[0][bag[1]]
    refine ⟨_, rfl, B.a, _, _, _, rfl, rfl, SqL.of hB1, rfl, _, rfl, B.a, _, _, _, rfl, rfl, SqL.of hB1, rfl, c, _, _, _, rfl, rfl, hcH, hat, ?_⟩
    -- bag[1] = bag[1] + 1
    refine ⟨_, rfl, B.a, _, _, _, rfl, rfl, SqL.of hB1, rfl, _, _, rfl, rfl, _, rfl, B.a, _, _, _, rfl, rfl, hB1, rfl, ?_⟩
    -- if abs(cell) >= 10 ** 18
    refine ⟨_, rfl, _, rfl, _, _, rfl, rfl, ⟨by decide, by decide, by decide⟩, _, _, rfl, rfl, _, rfl, ?_⟩
    refine ite2 (fun h3 => ?_) (fun h3 => ?_)
    · refine ⟨_, rfl, _, rfl, _, rfl, B.a, _, _, _, rfl, rfl, upd_same, rfl, ?_⟩
      exact w2 _ c cells (j + 1) (if cell < 0 then -cell else cell) _ cnt none none (some (.int cell)) none (fun a ne => by rw [upd_ne ne, upd_ne ne]; exact hk1 a ne) upd_same hc hl (by omega) (by split <;> omega) hm hm2 hn1' hcc
    · refine ⟨_, rfl, B.a, _, _, _, rfl, rfl, SqL.of upd_same, rfl, _, _, rfl, rfl, .inr ⟨by decide, by decide⟩, _, rfl, .inl ⟨_, rfl, _, _, rfl, rfl, (by intro z; exact absurd z (by decide)), _, _, rfl, rfl, .inr ⟨by decide, by decide⟩, _, _, rfl, rfl, _, _, rfl, rfl, .inl ⟨_, rfl, _, _, rfl, rfl, (by intro z; exact absurd z (by decide)), _, rfl, B.a, _, _, _, rfl, rfl, upd_same, rfl, ?_⟩⟩⟩
      have fm := fm0 (i := m * 44017 + cell.fmod 1000381 * 773 + 59) (n := 2147483629) (by decide)
      exact w2 _ c cells (j + 1) r _ cnt none none (some (.int cell)) none (fun a ne => by rw [upd_ne ne, upd_ne ne]; exact hk1 a ne) upd_same hc hl (by omega) hr0 fm.1 (by have := fm.2; omega) hn1' hcc
  refine ⟨_, pss_cons (ps_asg (pe_op op_add (pe_ix (show IxR _ (rIxL K) from ix_list) (pv 0) pe_int (fun _ _ => rfl)) pe_int) (pg_sub (pv 0) pe_int set_list)) h1, ?_⟩
  obtain ⟨c, cells, p, r, m, cnt, hB, hc, hl, hp, hr0, hm, hm2, hn⟩ := ok.x
  show (tSeq _ T1) _ [some (.ref B.a), some (.int n), none, none, none, none] H
  have hcc : ∀ c0 r0, H B.a = some (.lst (.ref c0 :: r0)) → c0 = c := fun c0 r0 e => by
    rw [hB] at e
    exact (V.ref.inj (List.cons.inj (HO.lst.inj (Option.some.inj e))).1).symm
  have cne : c ≠ B.a := fun z => by rw [z, ok.b] at hc; cases hc
  -- bag[4] = bag[4] + 1
  refine ⟨_, rfl, B.a, _, _, _, rfl, rfl, SqL.of hB, rfl, _, _, rfl, rfl, _, rfl, B.a, _, _, _, rfl, rfl, hB, rfl, ?_⟩
  exact w1 _ c cells p r m (cnt + 1) (fun a ne => upd_ne ne) upd_same (SqL.of (by rw [upd_ne cne]; exact ok.u _ _ hc)) hc hl hp hr0 hm hm2 (by omega) hcc

/-! ### law_of -/
/-! ### _law_of -/
/-- the items of a list, a tuple or a text -/
def itemsD : D → List D
  | .lst xs => xs
  | .tup xs => xs
  | .str z => Dl.signs z
  | _ => []
abbrev s__law_of : Stmt := topS 29
abbrev N__law_of : List Str := ["_law_bag", "_law_some"]
theorem sc__law_of : FnScope N__law_of ["_law_bag", "_law_some"] (defScope s__law_of) := ⟨rfl, rfl, rfl, by decide +kernel, rfl, by decide +kernel, by decide +kernel⟩
def isRow (d : D) : Prop := (∃ xs, d = .lst xs) ∨ ∃ z : Str, d = .str z
abbrev ofPre : List D → Prop := p2 fun b l => b = .box ∧ isRow l ∧ 0 < (itemsD l).length ∧ (itemsD l).length ≤ 1000
def ofPost : List D → D → Prop := fun ds r => ∃ l, ds = [.box, l] ∧ r ∈ itemsD l
abbrev ClO (P : Program) (w : World) (K : PySem.W.Frag) (mg : Str → Option Value) (base : Heap) (k : Nat) := Cl P w K mg base k "_law_of" s__law_of ["_law_bag", "_law_some"] (SpD K ofPre ofPost)
theorem len_row {l : D} (h : isRow l) : l.len? = some (itemsD l).length := by
  rcases h with ⟨xs, rfl⟩ | ⟨z, rfl⟩
  · rfl
  · show some z.length = some (Dl.signs z).length
    rw [signs_len]
theorem ok__law_of {k : Nat} (G : Gn mg) (F : Df K mg "_law_of" s__law_of) (C__law_draw : ClT P w K mg base k) : ClO P w K mg base (k + 1) := by
  refine cl_of F sc__law_of (fun _ _ _ _ _ _ us hl => match us, hl with | [_, _], _ => rfl) p2_len fun f cdv A outer s H E hr => ⟨_, (pss_one (ps_ret (pe_ix (show IxR _ (rIx K) from ix_seq) (pv 1) (pe_c C__law_draw hr (by omega) (by rfl) (pa_cons (pv 0) (pa_cons (pe_callB (show CallR _ (.builtin "len") (fun xs H Q => ∃ x n, xs = [x] ∧ LenV K x H n ∧ Q (.int n) H) from call_len) (by rfl) G.g_len (by decide +kernel) (pa_cons (pv 1) pa_nil)) pa_nil))) (fun _ _ => rfl)))), fun B ds hp => ?_⟩
  obtain ⟨_, l, rfl, rfl, hrow, h0, h1⟩ := p2_ex hp
  show WS K B _ [.val .box, .val l] _
  try dsimp only [cxOf, Cx.nox, Cx.blk]
  refine ws_ret (we_op (we_var rfl (we_call (wa_cons (we_var rfl (wa_cons (we_cb (wa_cons (we_var rfl (wa_nil (rc_len (n := (itemsD l).length) (len_row hrow) (by omega) (wa_nil ⟨⟨rfl, _, rfl, by omega, by omega⟩, ?_⟩))))))))))))
  rintro d ⟨n, i, e, rfl, hi0, hi1⟩
  cases e
  obtain ⟨j, rfl⟩ : ∃ j : Nat, i = (j : Int) := ⟨i.toNat, by omega⟩
  have hj : j < (itemsD l).length := by omega
  rcases hrow with ⟨xs, rfl⟩ | ⟨z, rfl⟩
  · exact ro_ixsL (atI_nat (List.getElem?_eq_getElem hj)) ⟨_, rfl, List.getElem_mem hj⟩
  · have hj' : j < z.cps.toList.length := by
      have : (itemsD (.str z)).length = z.cps.toList.length := List.length_map _
      rw [this] at hj
      exact hj
    refine ro_ixsS (by have : (itemsD (.str z)).length = (Dl.signs z).length := rfl; rw [this, signs_len] at h1; omega) (atI_nat (List.getElem?_eq_getElem hj')) ⟨_, rfl, ?_⟩
    exact List.mem_map.mpr ⟨_, List.getElem_mem hj', rfl⟩

/-! ### eqU -/
def isNon : D → Bool | .non => true | _ => false
theorem ro_isN {B : Bt} {Pp : D → Prop} {a : D} (p : Pp (.bl (isNon a))) : RO K B (fun x y H Q => y = .non ∧ Q (.bl (decide (x = .non))) H) a .non Pp := fun _ _ x _ _ o hx hy q => by
  cases hy
  refine ⟨rfl, ?_⟩
  have e : decide (x = V.non) = isNon a := by cases hx <;> rfl
  rw [e]
  exact q.nil o (.bl _) p
theorem ro_eqU1 {B : Bt} {Pp : D → Prop} {a b : D} (h : RO K B rEq a b Pp) : RO K B rEqU a b Pp := fun G H x y Q o hx hy q => .inl (h G H x y Q o hx hy q)
theorem ro_eqU2 {B : Bt} {Pp : D → Prop} {ks : List Key} {xs : List D} (h : (ks = [] ∧ xs = []) ∨ ∃ k x, ks = [k] ∧ xs = [x] ∧ x.flat = true) (p : Pp (.bl true)) : RO K B rEqU (.dic ks xs) (.dic ks xs) Pp := fun G H x y Q o hx hy q => by
  refine .inr ?_
  generalize e1 : D.dic ks xs = d1 at hx
  cases hx with
  | @dic a kvs ds hg t =>
    generalize e2 : D.dic ks xs = d2 at hy
    cases hy with
    | @dic b lvs es hg2 t2 =>
      cases e1
      injection e2 with e3 e4
      subst e4
      refine ⟨a, b, kvs, lvs, rfl, rfl, o.u _ _ hg, o.u _ _ hg2, ?_, ?_, q.nil o (.bl true) p⟩
      · rw [← List.length_map (f := (·.1)) (as := kvs), ← List.length_map (f := (·.1)) (as := lvs), e3]
      · rcases h with ⟨h1, _⟩ | ⟨k, z, h1, h2, hf⟩
        · have : kvs = [] := by simpa using h1
          subst this
          intro p hp; cases hp
        · match kvs, lvs, h1, e3 with
          | [(k1, v1)], [(k2, v2)], h1, e3 =>
            have ek : k1 = k2 := by simpa using e3
            subst ek
            subst h2
            intro p hp
            rw [List.mem_singleton.mp hp]
            cases t with
            | cons a1 _ =>
              cases t2 with
              | cons a2 _ =>
                have f1 := a1.flat hf
                have f2 := a2.flat hf
                have f3 : v1 = z.v := f1
                have f4 : v2 = z.v := f2
                subst f3 f4
                refine ⟨?_, ?_⟩
                · unfold valV
                  rw [List.find?_cons_of_pos (by exact decide_eq_true rfl)]
                  rfl
                · show flatB z.v = true
                  cases z <;> first | rfl | exact Bool.noConfusion hf
          | [], _, h1, _ => simp at h1
          | _ :: _ :: _, _, h1, _ => simp at h1
          | [_], [], _, e3 => simp at e3
          | [_], _ :: _ :: _, _, e3 => simp at e3
    | _ => cases e2
  | _ => cases e1

/-! ### law_same -/
/-- how deep, and of plain things alone -/
def plain : Nat → D → Bool
  | _, .non => true | _, .bl _ => true | _, .int _ => true | _, .str _ => true | _, .dic [] [] => true | _, .dic [_] [x] => x.flat
  | n + 1, .lst xs => decide (xs.length ≤ 1000) && xs.all (plain n)
  | n + 1, .tup xs => decide (xs.length ≤ 1000) && xs.all (plain n)
  | _, _ => false
abbrev samePre (n : Nat) : List D → Prop := p2 fun a b => a = b ∧ plain n a = true
abbrev s__law_same : Stmt := topS 30
abbrev N__law_same : List Str := ["_law_found", "_law_due", "_law_a", "_law_b"]
theorem sc__law_same : FnScope N__law_same ["_law_found", "_law_due"] (defScope s__law_same) := ⟨rfl, rfl, rfl, by decide +kernel, rfl, by decide +kernel, by decide +kernel⟩
abbrev ClS (P : Program) (w : World) (K : PySem.W.Frag) (mg : Str → Option Value) (base : Heap) (k n : Nat) := Cl P w K mg base k "_law_same" s__law_same ["_law_found", "_law_due"] (SpD K (samePre n) fun ds r => r = (fun _ => D.bl true) ds)
theorem zip_self {α : Type} (xs : List α) : xs.zip xs = xs.map fun x => (x, x) := by
  induction xs with
  | nil => rfl
  | cons x xs ih => rw [List.zip_cons_cons, ih, List.map_cons]
theorem same_body {k n : Nat} (G : Gn mg) (F : Df K mg "_law_same" s__law_same) (C__law_same : Cl P w K mg base k "_law_same" s__law_same ["_law_found", "_law_due"] (SpD K (p2 fun a b => a = b ∧ ∃ m, n = m + 1 ∧ plain m a = true) fun ds r => r = (fun _ => D.bl true) ds)) : ClS P w K mg base (k + 1) n := by
  refine cl_of F sc__law_same (fun _ _ _ _ _ _ us hl => match us, hl with | [_, _], _ => rfl) p2_len fun f cdv A outer s H E hr => ?_
  refine ⟨_, (pss_cons (ps_if (PW.pt (pw_or (pt_cmpR op_isN (pv 1) pe_non (nomark _)) (pw_or1 (pt_cmpR op_isN (pv 0) pe_non (nomark _))))) (pss_one (ps_ret (pe_and (pe_cmpR op_isN (pv 1) pe_non (nomark _)) (pe_one (pe_cmpR op_isN (pv 0) pe_non (nomark _)))))) pss_nil)
      (pss_cons (ps_if (pt_val (pe_callB (show CallR _ (.builtin "isinstance") (zIsi2 K) from call_isiZ) (by rfl) G.g_isinstance (by decide +kernel) (pa_cons (pv 1) (pa_cons (pe_tupZ (pa_cons (pe_bltn (v := .ty "list") (u := .type "list") (by rfl) G.g_list (by decide +kernel) rfl) (pa_cons (pe_bltn (v := .ty "tuple") (u := .type "tuple") (by rfl) G.g_tuple (by decide +kernel) rfl) pa_nil))) pa_nil)))) (pss_cons (ps_if (PW.pt (pw_or (pt_cmpR op_ne (pe_callB (show CallR _ (.builtin "isinstance") (rIsi K) from call_isi) (by rfl) G.g_isinstance (by decide +kernel) (pa_cons (pv 0) (pa_cons (pe_bltn (v := .ty "list") (u := .type "list") (by rfl) G.g_list (by decide +kernel) rfl) pa_nil))) (pe_callB (show CallR _ (.builtin "isinstance") (rIsi K) from call_isi) (by rfl) G.g_isinstance (by decide +kernel) (pa_cons (pv 1) (pa_cons (pe_bltn (v := .ty "list") (u := .type "list") (by rfl) G.g_list (by decide +kernel) rfl) pa_nil))) (nomark _)) (pw_or1 (pt_cmpR op_ne (pe_callB (show CallR _ (.builtin "isinstance") (rIsi K) from call_isi) (by rfl) G.g_isinstance (by decide +kernel) (pa_cons (pv 0) (pa_cons (pe_bltn (v := .ty "tuple") (u := .type "tuple") (by rfl) G.g_tuple (by decide +kernel) rfl) pa_nil))) (pe_callB (show CallR _ (.builtin "isinstance") (rIsi K) from call_isi) (by rfl) G.g_isinstance (by decide +kernel) (pa_cons (pv 1) (pa_cons (pe_bltn (v := .ty "tuple") (u := .type "tuple") (by rfl) G.g_tuple (by decide +kernel) rfl) pa_nil))) (nomark _))))) (pss_one (ps_ret pe_bl)) pss_nil)
      (pss_one (ps_ret (pe_and (pe_cmpR op_eq (pe_callB (show CallR _ (.builtin "len") (fun xs H Q => ∃ x n, xs = [x] ∧ LenV K x H n ∧ Q (.int n) H) from call_len) (by rfl) G.g_len (by decide +kernel) (pa_cons (pv 0) pa_nil)) (pe_callB (show CallR _ (.builtin "len") (fun xs H Q => ∃ x n, xs = [x] ∧ LenV K x H n ∧ Q (.int n) H) from call_len) (by rfl) G.g_len (by decide +kernel) (pa_cons (pv 1) pa_nil)) (nomark _)) (pe_one (pe_callB (cr_all rfl) (by rfl) G.g_all (by decide +kernel) (pa_cons (pe_lc (own := [("_law_a", 2), ("_law_b", 3)]) (g := (gTup K 2 (gCons (gName 2) (gCons (gName 3) gNil)))) (tt := tYes) rfl sc__law_same.nd (RZ.pi_zipA rfl G.g_zip (pa_cons (pv 0) (pa_cons (pv 1) pa_nil))) (blkOk_by (N := N__law_same) (sc := defScope s__law_same) (by decide +kernel)) (fun _ _ _ _ _ => show PG _ _ (gTup K 2 (gCons (gName 2) (gCons (gName 3) gNil))) from pg_tup rfl (pgs_cons (pg_name (i := 2) sc__law_same.nd rfl (Or.inl rfl)) (pgs_cons (pg_name (i := 3) sc__law_same.nd rfl (Or.inl rfl)) pgs_nil))) (fun _ _ _ _ _ => pts_nil) (fun _ _ _ _ _ => (pe_c C__law_same hr (by omega) (by rfl) (pa_cons (pv 2) (pa_cons (pv 3) pa_nil))))) pa_nil))))))) pss_nil)
      (pss_cons (ps_if (PW.pt (pw_or (pt_cmpR op_ne (pe_callB (show CallR _ (.builtin "isinstance") (rIsi K) from call_isi) (by rfl) G.g_isinstance (by decide +kernel) (pa_cons (pv 1) (pa_cons (pe_bltn (v := .ty "bool") (u := .type "bool") (by rfl) G.g_bool (by decide +kernel) rfl) pa_nil))) (pe_callB (show CallR _ (.builtin "isinstance") (rIsi K) from call_isi) (by rfl) G.g_isinstance (by decide +kernel) (pa_cons (pv 0) (pa_cons (pe_bltn (v := .ty "bool") (u := .type "bool") (by rfl) G.g_bool (by decide +kernel) rfl) pa_nil))) (nomark _)) (pw_or1 (pt_cmpR op_ne (pe_callB (show CallR _ (.builtin "isinstance") (rIsi K) from call_isi) (by rfl) G.g_isinstance (by decide +kernel) (pa_cons (pv 1) (pa_cons (pe_bltn (v := .ty "int") (u := .type "int") (by rfl) G.g_int (by decide +kernel) rfl) pa_nil))) (pe_callB (show CallR _ (.builtin "isinstance") (rIsi K) from call_isi) (by rfl) G.g_isinstance (by decide +kernel) (pa_cons (pv 0) (pa_cons (pe_bltn (v := .ty "int") (u := .type "int") (by rfl) G.g_int (by decide +kernel) rfl) pa_nil))) (nomark _))))) (pss_one (ps_ret pe_bl)) pss_nil)
      (pss_one (ps_ret (pe_and (pe_cmpR op_eq (pe_callB (show CallR _ (.builtin "isinstance") (rIsi K) from call_isi) (by rfl) G.g_isinstance (by decide +kernel) (pa_cons (pv 1) (pa_cons (pe_bltn (v := .ty "str") (u := .type "str") (by rfl) G.g_str (by decide +kernel) rfl) pa_nil))) (pe_callB (show CallR _ (.builtin "isinstance") (rIsi K) from call_isi) (by rfl) G.g_isinstance (by decide +kernel) (pa_cons (pv 0) (pa_cons (pe_bltn (v := .ty "str") (u := .type "str") (by rfl) G.g_str (by decide +kernel) rfl) pa_nil))) (nomark _)) (pe_one (pe_cmpR (op_eqU (u0 hr)) (pv 0) (pv 1) (nomark _))))))))), fun B ds hp => ?_⟩
  obtain ⟨d, _, rfl, rfl, hd⟩ := p2_ex hp
  show WS K B _ [.val d, .val d, .no, .no] _
  try dsimp only [cxOf, Cx.nox, Cx.blk]
  have deep : ∀ (xs : List D), xs.length ≤ 1000 → (∀ x ∈ xs, ∃ m, n = m + 1 ∧ plain m x = true) → ∀ x ∈ xs.zip xs, ∃ m, x.1 = x.2 ∧ n = m + 1 ∧ plain m x.1 = true := fun xs _ h x hx => by
    rw [zip_self] at hx
    obtain ⟨y, hy, rfl⟩ := List.mem_map.mp hx
    obtain ⟨m, h1, h2⟩ := h y hy
    exact ⟨m, rfl, h1, h2⟩
  have zl : ∀ xs : List D, xs.length ≤ 1000 → (xs.zip xs).length ≤ 1000 := fun xs h => by rw [List.length_zip]; omega
  have zt : ∀ xs : List D, ((xs.zip xs).map fun _ => D.bl true) = (List.replicate xs.length true).map D.bl := fun xs => by
    rw [List.map_replicate]
    apply List.ext_getElem?
    intro i
    simp [List.getElem?_replicate, List.length_zip]
    by_cases h : i < xs.length <;> simp [h]
  have za : ∀ m : Nat, (List.replicate m true).all id = true := fun m => by simp
  cases d with
  | non =>
    repeat walk_at "dl"
    refine ro_isN ?_
    repeat walk_at "dl"
    refine ro_isN ?_
    repeat walk_at "dl"
    refine ro_isN ?_
    repeat walk_at "dl"
    rfl
  | lst xs =>
    cases n with
    | zero => exact Bool.noConfusion hd
    | succ n =>
      have hd' : (decide (xs.length ≤ 1000) && xs.all (plain n)) = true := hd
      rw [Bool.and_eq_true, decide_eq_true_eq] at hd'
      obtain ⟨hl, ha⟩ := hd'
      have dp := deep xs hl fun x hx => ⟨n, rfl, List.all_eq_true.mp ha x hx⟩
      repeat walk_at "dl"
      refine ro_isN ?_
      repeat walk_at "dl"
      refine ro_isN ?_
      repeat walk_at "dl"
      refine ite2 (fun _ => ?_) (fun h => absurd (decide_eq_true rfl) h)
      refine we_cb (wa_cons (we_lcZmap (by decide) (its := xs.zip xs) (fun _ => .bl true) (wa_cons (we_var rfl (wa_cons (we_var rfl (wa_nil ⟨xs, xs, .inl rfl, rfl⟩))))) (zl xs hl) (fun x hx => ?_) ?_))
      · obtain ⟨m, e, e1, e2⟩ := dp x hx
        try dsimp only [List.set]
        exact we_call (wa_cons (we_var rfl (wa_cons (we_var rfl (wa_nil ⟨⟨e, m, e1, e2⟩, fun _ z => z⟩)))))
      · rw [zt]
        refine wa_nil (rc_all ?_)
        rw [za]
  | tup xs =>
    cases n with
    | zero => exact Bool.noConfusion hd
    | succ n =>
      have hd' : (decide (xs.length ≤ 1000) && xs.all (plain n)) = true := hd
      rw [Bool.and_eq_true, decide_eq_true_eq] at hd'
      obtain ⟨hl, ha⟩ := hd'
      have dp := deep xs hl fun x hx => ⟨n, rfl, List.all_eq_true.mp ha x hx⟩
      repeat walk_at "dl"
      refine ro_isN ?_
      repeat walk_at "dl"
      refine ro_isN ?_
      repeat walk_at "dl"
      refine ite2 (fun _ => ?_) (fun h => absurd (decide_eq_true rfl) h)
      refine we_cb (wa_cons (we_lcZmap (by decide) (its := xs.zip xs) (fun _ => .bl true) (wa_cons (we_var rfl (wa_cons (we_var rfl (wa_nil ⟨xs, xs, .inr rfl, rfl⟩))))) (zl xs hl) (fun x hx => ?_) ?_))
      · obtain ⟨m, e, e1, e2⟩ := dp x hx
        try dsimp only [List.set]
        exact we_call (wa_cons (we_var rfl (wa_cons (we_var rfl (wa_nil ⟨⟨e, m, e1, e2⟩, fun _ z => z⟩)))))
      · rw [zt]
        refine wa_nil (rc_all ?_)
        rw [za]
  | cls z => cases n <;> exact Bool.noConfusion hd
  | exn _ _ _ => cases n <;> exact Bool.noConfusion hd
  | obj _ _ _ => cases n <;> exact Bool.noConfusion hd
  | adr _ => cases n <;> exact Bool.noConfusion hd
  | box => cases n <;> exact Bool.noConfusion hd
  | dic ks xs =>
    have hd2 : (ks = [] ∧ xs = []) ∨ ∃ k x, ks = [k] ∧ xs = [x] ∧ x.flat = true := by
      match ks, xs, hd with
      | [], [], _ => exact .inl ⟨rfl, rfl⟩
      | [k], [x], hd => exact .inr ⟨k, x, rfl, rfl, by cases n <;> exact hd⟩
      | [], _ :: _, hd => cases n <;> exact Bool.noConfusion hd
      | [_], [], hd => cases n <;> exact Bool.noConfusion hd
      | [_], _ :: _ :: _, hd => cases n <;> exact Bool.noConfusion hd
      | _ :: _ :: _, _, hd => cases n <;> exact Bool.noConfusion hd
    repeat walk_at "dl"
    refine ro_isN ?_
    repeat walk_at "dl"
    refine ro_isN ?_
    repeat walk_at "dl"
    exact ro_eqU2 hd2 rfl
  | bl b =>
    repeat walk_at "dl"
    refine ro_isN ?_
    repeat walk_at "dl"
    refine ro_isN ?_
    repeat walk_at "dl"
    refine ro_eqU1 (ro_eq rfl rfl rfl ?_)
    show D.bl _ = D.bl true
    rw [decide_eq_true rfl]
  | int i =>
    repeat walk_at "dl"
    refine ro_isN ?_
    repeat walk_at "dl"
    refine ro_isN ?_
    repeat walk_at "dl"
    refine ro_eqU1 (ro_eq rfl rfl rfl ?_)
    show D.bl _ = D.bl true
    rw [decide_eq_true rfl]
  | str z =>
    repeat walk_at "dl"
    refine ro_isN ?_
    repeat walk_at "dl"
    refine ro_isN ?_
    repeat walk_at "dl"
    refine ro_eqU1 (ro_eq rfl rfl rfl ?_)
    show D.bl _ = D.bl true
    rw [decide_eq_true rfl]
theorem ok__law_same {k : Nat} (G : Gn mg) (F : Df K mg "_law_same" s__law_same) : ∀ n : Nat, ClS P w K mg base (k + n + 1) n := by
  intro n
  induction n with
  | zero =>
    refine same_body (k := k) G F ?_
    obtain ⟨f, fd, F, hm⟩ := F.ex
    have no : ∀ vs H Q E, ¬ SpD K (p2 fun a b => a = b ∧ ∃ m, 0 = m + 1 ∧ plain m a = true) (fun ds r => r = (fun _ => D.bl true) ds) vs H Q E := by
      rintro vs H Q E ⟨B, G1, ds, o, hs, hp, q⟩
      obtain ⟨a, b, rfl, e, m', hm, hpl⟩ := p2_ex hp
      exact absurd hm (by omega)
    exact ⟨f, fd, F, ⟨fun vs H Q E h => (no vs H Q E h).elim, fun A outer s H args us vs Q E _ _ _ _ h => (no vs H Q E h).elim⟩, hm, F.binds fun _ _ _ _ _ _ us hl => match us, hl with | [_, _], _ => rfl⟩
  | succ m ih =>
    refine same_body (k := k + m + 1) G F (ih.imp fun vs H Q E h => ?_)
    obtain ⟨B, G1, ds, o, hs, hp, q⟩ := h
    refine ⟨B, G1, ds, o, hs, ?_, q⟩
    obtain ⟨a, b, rfl, e, m', hm, hpl⟩ := p2_ex hp
    cases hm
    exact ⟨e, hpl⟩

/-! ### law_open -/
/-! ### _law_open -/
abbrev s__law_open : Stmt := topS 27
abbrev N__law_open : List Str := ["_law_script", "_law_mixed", "_law_cell"]
theorem sc__law_open : FnScope N__law_open ["_law_script"] (defScope s__law_open) := ⟨rfl, rfl, rfl, by decide +kernel, rfl, by decide +kernel, by decide +kernel⟩
def spBox (K : PySem.W.Frag) : Sp := fun vs H Q _ => ∃ (a : Addr) (ns : List Int), vs = [.ref a] ∧ SqL K H a (ns.map V.int) ∧ ns.length ≤ 63 ∧ ∃ T, LamX.Tabs T H ∧ ∀ B G H', B.T = T → Same H H' → Ok B G H' → Q (.ref B.a) H'
theorem cut63 {ns : List Int} (h : ns.length ≤ 63) : cutV (ns.map V.int) none (some 63) = ns.map V.int := by
  unfold cutV
  rw [HT.sIx_none]
  have e : HT.sIx (ns.map V.int).length (ns.map V.int).length (some 63) = (ns.map V.int).length := by
    rw [show HT.sIx (ns.map V.int).length (ns.map V.int).length (some 63) = min 63 (ns.map V.int).length from HT.sIx_nat _ _ 63, List.length_map]
    omega
  rw [e, List.drop_zero, Nat.sub_zero]
  exact List.take_length
theorem ok__law_open {f : Addr} {fd : FuncData} {k : Nat} (G : Gn mg) (F : Fun K "_law_open" "_law_open" s__law_open f fd) : FnOk P w K mg base CX0 (k + 1) f fd ["_law_script"] (spBox K) := by
  refine F.ok sc__law_open (fun vs H Q E h => ?_) (fun cdv A outer s H vs Q E hr h => ?_)
  · obtain ⟨a, ns, rfl, _⟩ := h
    rfl
  · obtain ⟨a, ns, rfl, hS, hl, T, hT, q⟩ := h
    refine ⟨_, (pss_cons (ps_set (i := 1) sc__law_open.nd rfl (Or.inl rfl) pe_int)
      (pss_cons (ps_for PassesOwn.never rfl (pi_list (pe_slice sl_list (pv 0) po_none (po_some pe_int))) (pg_name (i := 2) sc__law_open.nd rfl (Or.inl rfl)) (pss_one (ps_set (i := 1) sc__law_open.nd rfl (Or.inl rfl) (pe_op op_modN (pe_callTy call_int1 (by rfl) G.g_int (by decide +kernel) (pa_cons (pe_op op_add (pe_op op_add (pe_op op_mul (pv 1) pe_int) (pe_op op_mul (pe_op op_modN (pe_callTy call_int1 (by rfl) G.g_int (by decide +kernel) (pa_cons (pv 2) pa_nil)) pe_int) pe_int)) pe_int) pa_nil)) pe_int))))
      (pss_one (ps_ret (pe_lst (pa_cons (pe_callTy call_list_of (by rfl) G.g_list (by decide +kernel) (pa_cons (pe_slice sl_list (pv 0) po_none (po_some pe_int)) pa_nil)) (pa_cons pe_int (pa_cons pe_int (pa_cons (pv 1) (pa_cons pe_int pa_nil)))))))))), ?_⟩
    -- the loop over script[:63]
    refine ⟨_, rfl, _, rfl, a, _, rfl, hS, fun p np => ?_⟩
    refine ⟨p, rfl, ⟨_, SqL.of upd_same⟩, ?_⟩
    rw [cut63 hl]
    have s1 : Same H (upd H p (.lst (ns.map V.int))) := same_upd np
    refine for_list (xs := ns.map V.int) (fun i σ H1 => ∃ (m : Int) (y : Option V), σ = [some (.ref a), some (.int m), y] ∧ 0 ≤ m ∧ m < 2147483648 ∧ H1 = upd H p (.lst (ns.map V.int))) ⟨1203221, none, rfl, by decide, by decide, rfl⟩ ?_ ?_ ?_
    · rintro i σ H1 _ ⟨m, y, rfl, hm, hm2, rfl⟩
      exact SqL.of upd_same
    · rintro i x σ H1 hx ⟨m, y, rfl, hm, hm2, rfl⟩
      obtain ⟨u, rfl⟩ : ∃ u, x = V.int u := by
        rw [List.getElem?_map] at hx
        cases e : ns[i]? with
        | none => rw [e] at hx; cases hx
        | some u => rw [e] at hx; exact ⟨u, (Option.some.inj hx).symm⟩
      refine ⟨_, rfl, _, _, rfl, rfl, .inr ⟨by decide, by decide⟩, _, rfl, .inl ⟨_, rfl, _, _, rfl, rfl, (by intro z; exact absurd z (by decide)), _, _, rfl, rfl, .inr ⟨by decide, by decide⟩, _, _, rfl, rfl, _, _, rfl, rfl, .inl ⟨_, rfl, _, _, rfl, rfl, (by intro z; exact absurd z (by decide)), ?_⟩⟩⟩
      have fm := fm0 (i := m * 50777 + u.fmod 1000381 * 919 + 43) (n := 2147483587) (by decide)
      exact ⟨_, _, rfl, fm.1, by have := fm.2; omega, rfl⟩
    · rintro σ H1 ⟨m, y, rfl, hm, hm2, rfl⟩
      -- list(script[:63])
      refine ⟨_, rfl, _, rfl, a, _, rfl, s1.seq hS, fun p2 np2 => ?_⟩
      rw [cut63 hl]
      have s2 : Same (upd H p (.lst (ns.map V.int))) (upd (upd H p (.lst (ns.map V.int))) p2 (.lst (ns.map V.int))) := same_upd np2
      generalize hH2 : upd (upd H p (.lst (ns.map V.int))) p2 (.lst (ns.map V.int)) = H2 at s2
      have hp2 : H2 p2 = some (.lst (ns.map V.int)) := by rw [← hH2, upd_same]
      refine ⟨p2, _, rfl, .inl (SqL.of hp2), fun c nc => ?_⟩
      -- the list of the box
      refine ⟨_, rfl, by show 5 ≤ sizeLine; decide, fun B nB => ?_⟩
      have hc : (upd H2 c (.lst (ns.map V.int))) c = some (.lst (ns.map V.int)) := upd_same
      have s3 : Same H2 (upd H2 c (.lst (ns.map V.int))) := same_upd nc
      have s4 : Same (upd H2 c (.lst (ns.map V.int))) (upd (upd H2 c (.lst (ns.map V.int))) B (.lst [.ref c, .int 0, .int 0, .int m, .int 0])) := same_upd nB
      have neB : c ≠ B := ne_of_none hc nB
      have s5 := ((s1.trans s2).trans s3).trans s4
      refine q ⟨B, T⟩ (fun x => if x = c then some (.lst (ns.map V.int)) else none) _ rfl s5 ⟨fun x o e => ?_, ?_, ⟨c, ns, 0, 0, m, 0, upd_same, ?_, hl, Int.le_refl 0, Int.le_refl 0, hm, hm2, Int.le_refl 0⟩, hT.ext fun b o e => s5 b o e, fun x o e => ?_⟩
      · by_cases ex : x = c
        · subst ex
          rw [if_pos rfl] at e
          exact s4 _ _ (e ▸ hc)
        · rw [if_neg ex] at e
          cases e
      · show (if B = c then _ else none) = none
        rw [if_neg (Ne.symm neB)]
      · show (if c = c then _ else none) = _
        rw [if_pos rfl]
      · have e' : (if x = c then some (HO.lst (ns.map V.int)) else none) = some o := e
        by_cases ex : x = c
        · rw [if_pos ex] at e'; cases e'; exact nt_lst
        · rw [if_neg ex] at e'; cases e'

end
/-! #### Ac -/
section
variable {P : Program} {w : World} {K : PySem.W.Frag} {mg : Str → Option Value} {base : Heap}
/-! ### base -/
theorem wex_mono {K : PySem.W.Frag} {B : Bt} {X : Xc} {te : TE} {δ : List Sd} {P Q : D → Prop} (h : WEx K B X te δ P) (m : ∀ d, P d → Q d) : WEx K B X te δ Q := fun G0 H0 σ G H R s xx q => h G0 H0 σ G H R s xx fun v d G1 H1 g o hd p => q v d G1 H1 g o hd (m d p)
theorem wax_mono {K : PySem.W.Frag} {B : Bt} {X : Xc} {ta : TA} {δ : List Sd} {P Q : List D → Prop} (h : WAx K B X ta δ P) (m : ∀ d, P d → Q d) : WAx K B X ta δ Q := fun G0 H0 σ G H R s xx q => h G0 H0 σ G H R s xx fun v d G1 H1 g o hd p => q v d G1 H1 g o hd (m d p)
theorem wa_eq0 {K : PySem.W.Frag} {B : Bt} {X : Xc} {δ : List Sd} : WAx K B X tNil δ (· = []) := wa_nil rfl
theorem wa_eqc {K : PySem.W.Frag} {B : Bt} {X : Xc} {te : TE} {ta : TA} {δ : List Sd} {d : D} {ds : List D} (h1 : WEx K B X te δ (· = d)) (h2 : WAx K B X ta δ (· = ds)) : WAx K B X (tCons te ta) δ (· = d :: ds) :=
  wa_cons (wex_mono h1 fun d' e => wax_mono h2 fun ds' e' => by rw [e, e'])
def polyD (ps : List Pr2) : D := .tup (ps.map Dl.pairD)
/-! ### products of pairs -/
def crs (p q : Pr2) : Int := p.1 * q.2 - p.2 * q.1
def mns (p q : Pr2) : Pr2 := (p.1 - q.1, p.2 - q.2)
def trn (a b c : Pr2) : Int := crs (mns b a) (mns c a)
/-- a pair of numbers up to n -/
def Upto (n : Int) (p : Pr2) : Prop := -n ≤ p.1 ∧ p.1 ≤ n ∧ -n ≤ p.2 ∧ p.2 ≤ n
theorem pairD_inj {p q : Pr2} (h : pairD p = pairD q) : p = q := by
  have h1 := D.tup.inj h
  exact Prod.ext (D.int.inj (List.cons.inj h1).1) (D.int.inj (List.cons.inj (List.cons.inj h1).2).1)
theorem ix0 {p : Pr2} {K : PySem.W.Frag} {B : Bt} {Q : D → Prop} (h : Q (.int p.1)) : RO K B (rIxT K) (pairD p) (.int 0) Q := ro_ixT (d := .int p.1) rfl h
theorem ix1 {p : Pr2} {K : PySem.W.Frag} {B : Bt} {Q : D → Prop} (h : Q (.int p.2)) : RO K B (rIxT K) (pairD p) (.int 1) Q := ro_ixT (d := .int p.2) rfl h
abbrev s_cross : Stmt := topS 14
abbrev N_cross : List Str := ["one", "other"]
theorem sc_cross : FnScope N_cross ["one", "other"] (defScope s_cross) := ⟨rfl, rfl, rfl, by decide +kernel, rfl, by decide +kernel, by decide +kernel⟩
abbrev ClCr (P : Program) (w : World) (K : PySem.W.Frag) (mg : Str → Option Value) (base : Heap) (k : Nat) := Cl P w K mg base k "cross" s_cross ["one", "other"] (SpD K (p2 fun a b => ∃ p q : Pr2, a = pairD p ∧ b = pairD q ∧ Upto 100000000 p ∧ Upto 100000000 q) fun ds r => ∃ p q : Pr2, ds = [pairD p, pairD q] ∧ r = .int (crs p q))
theorem ok_cross {k : Nat} (F : Df K mg "cross" s_cross) : ClCr P w K mg base (k + 1) := by
  refine cl_of F sc_cross (fun _ _ _ _ _ _ us hl => match us, hl with | [_, _], _ => rfl) p2_len fun f cdv A outer s H E hr => ⟨_, (pss_one (ps_ret (pe_op op_sub (pe_op op_mul (pe_ix (show IxR _ (rIxT K) from ix_tup) (pv 0) pe_int (fun _ _ => rfl)) (pe_ix (show IxR _ (rIxT K) from ix_tup) (pv 1) pe_int (fun _ _ => rfl))) (pe_op op_mul (pe_ix (show IxR _ (rIxT K) from ix_tup) (pv 0) pe_int (fun _ _ => rfl)) (pe_ix (show IxR _ (rIxT K) from ix_tup) (pv 1) pe_int (fun _ _ => rfl)))))), fun B ds hp => ?_⟩
  obtain ⟨_, _, rfl, p, q, rfl, rfl, ⟨h1, h2, h3, h4⟩, ⟨h5, h6, h7, h8⟩⟩ := p2_ex hp
  show WS K B _ [.val (pairD p), .val (pairD q)] _
  try dsimp only [cxOf, Cx.nox, Cx.blk]
  repeat walk_at "dl"
  refine ix0 ?_
  repeat walk_at "dl"
  refine ix1 ?_
  refine ro_int (.inl ⟨by omega, by omega⟩) ?_
  repeat walk_at "dl"
  refine ix1 ?_
  repeat walk_at "dl"
  refine ix0 ?_
  refine ro_int (.inl ⟨by omega, by omega⟩) ?_
  repeat walk_at "dl"
  first | rfl | exact ⟨p, q, rfl, rfl⟩
theorem upto_le {n m : Int} {p : Pr2} (h : Upto n p) (l : n ≤ m) : Upto m p := by
  unfold Upto at *
  omega
theorem prs_inj {ps qs : List Pr2} (h : ps.map Dl.pairD = qs.map Dl.pairD) : ps = qs := (List.map_inj_right fun _ _ h => pairD_inj h).mp h
theorem polyD_inj {a b : List Pr2} (h : polyD a = polyD b) : a = b := prs_inj (D.tup.inj h)
def partP (ps : List Pr2) : PyData := .tuple (ps.map pairP)
theorem dp_part {G H : Hp} {v : V} {ps : List Pr2} (o : Ok B G H) (h : Dd K B G v (polyD ps)) : Dp K H v (partP ps) := by
  unfold polyD at h
  cases h with
  | tup hg t => exact .tup (SqT.ofZ (o.u _ _ hg.1)) (dpa_pr o ps t)
theorem eqvAll_map {α : Type} [DecidableEq α] {f : α → PyData} (h : ∀ a b, PyData.eqv (f a) (f b) = decide (a = b)) : ∀ xs ys : List α, PyData.eqvAll (xs.map f) (ys.map f) = decide (xs = ys)
  | [], [] => by simp [PyData.eqvAll]
  | [], _ :: _ => by simp [PyData.eqvAll]
  | _ :: _, [] => by simp [PyData.eqvAll]
  | x :: xs, y :: ys => by
    rw [List.map_cons, List.map_cons, PyData.eqvAll, h, eqvAll_map h xs ys, Bool.eq_iff_iff]
    simp
theorem eqv_partP (a b : List Pr2) : PyData.eqv (partP a) (partP b) = decide (a = b) := by
  unfold partP
  rw [PyData.eqv]
  exact eqvAll_map eqv_pairP a b
theorem isDir_iff {p : Pr2} : isDir (Dl.pairD p) = true ↔ Upto 999 p ∧ Ad.IsD p := by
  unfold isDir
  rw [Bool.and_eq_true, decide_eq_true_eq]
  constructor
  · rintro ⟨h1, h2⟩
    obtain ⟨x, y, e, b1, b2, b3, b4⟩ := bnd_pair h1
    cases pairD_inj (p := p) (q := (x, y)) e
    refine ⟨⟨b1, b2, b3, b4⟩, ?_⟩
    have e2 : gcdD (Dl.pairD (x, y)) = Nat.gcd x.natAbs y.natAbs := rfl
    rw [e2] at h2
    show Nat.gcd x.natAbs y.natAbs = 1
    omega
  · rintro ⟨⟨b1, b2, b3, b4⟩, h⟩
    refine ⟨?_, ?_⟩
    · unfold isBnd Dl.pairD
      simp [isNumPair, inB, isNum, b1, b2, b3, b4]
    · have e2 : gcdD (Dl.pairD p) = Nat.gcd p.1.natAbs p.2.natAbs := rfl
      rw [e2, show Nat.gcd p.1.natAbs p.2.natAbs = 1 from h]
      rfl
theorem sm_pr (p : Pr2) : sm (Dl.pairD p) = true := rfl
theorem isDir_ex {d : D} (h : isDir d = true) : ∃ p : Pr2, d = Dl.pairD p ∧ Upto 999 p ∧ Ad.IsD p := by
  have h1 := h
  unfold isDir at h1
  rw [Bool.and_eq_true] at h1
  obtain ⟨x, y, rfl, _⟩ := bnd_pair h1.1
  exact ⟨(x, y), rfl, (isDir_iff (p := (x, y))).mp h⟩
theorem crs_cr : crs = Ad.cr := rfl
theorem wtx_F {B : Bt} {X : Xc} {tt : TT} {δ : List Sd} {P Q : Bool → Prop} (h : WTx K B X tt δ P) (m : ∀ b, P b → Q b) : WTx K B X tt δ Q := fun G0 H0 σ G H R s xx q => h G0 H0 σ G H R s xx fun b G1 H1 g o hb => q b G1 H1 g o (m b hb)
theorem ws_ifNo {B : Bt} {O : Out} {tt : TT} {t u : TS} {δ : List Sd} (h : WTx K B O.x tt δ (fun b => b = false)) (w : WS K B u δ O) : WS K B (tIfS tt t u) δ O := ws_if (wtx_F h fun b e => by rw [e, if_neg (by decide)]; exact w)

end
/-! #### Ad -/
section
variable {P : Program} {w : World} {K : PySem.W.Frag} {mg : Str → Option Value} {base : Heap}
/-! ### spn -/
/-! ### spans -/
def betw (a b : Pr2) : List Pr2 := if a = b then [a] else [a, b]
def inArc (sp : List Pr2) (d : Pr2) : Bool := match sp with
  | [s, t] => if crs s t < 0 then decide (0 < crs s d) || decide (0 < crs d t) else decide (0 < crs s d) && decide (0 < crs d t)
  | sp => !decide (d ∈ sp)
/-- a span of directions -/
def SpOk (sp : List Pr2) : Prop := sp.length ≤ 2 ∧ ∀ p ∈ sp, Upto 1000 p
theorem betw_ok {a b : Pr2} (h : Upto 1000 a) (h' : Upto 1000 b) : SpOk (betw a b) := by
  unfold betw
  split
  · exact ⟨by show 1 ≤ 2; decide, fun p hp => by rw [List.mem_singleton.mp hp]; exact h⟩
  · refine ⟨by show 2 ≤ 2; decide, fun p hp => ?_⟩
    rcases List.mem_cons.mp hp with e | e
    · rw [e]; exact h
    · rw [List.mem_singleton.mp e]; exact h'
theorem pur_prs (ps : List Pr2) : purs (ps.map Dl.pairD) = true := by
  induction ps with
  | nil => rfl
  | cons p ps ih => show (pur (Dl.pairD p) && purs (ps.map Dl.pairD)) = true; rw [ih]; rfl
theorem dpt_prs (ps : List Pr2) : dpts (ps.map Dl.pairD) ≤ 1 := by
  induction ps with
  | nil => exact Nat.zero_le _
  | cons p ps ih => show max (dpt (Dl.pairD p)) (dpts (ps.map Dl.pairD)) ≤ 1; exact Nat.max_le.mpr ⟨Nat.le_refl 1, ih⟩
theorem pairD_mem {p : Pr2} {ps : List Pr2} : Dl.pairD p ∈ ps.map Dl.pairD ↔ p ∈ ps := by
  rw [List.mem_map]
  exact ⟨fun ⟨q, hq, e⟩ => by rw [← pairD_inj e]; exact hq, fun h => ⟨p, h, rfl⟩⟩
theorem ro_inTp {B : Bt} {no : Bool} {p : Pr2} {ps : List Pr2} {Q : D → Prop} (h : Q (.bl (no.xor (decide (p ∈ ps))))) : RO K B (rInT K no) (Dl.pairD p) (polyD ps) Q :=
  ro_inT rfl (pur_prs ps) (by show 1 ≤ 60; decide) (Nat.le_trans (dpt_prs ps) (by decide)) fun c hc => by
    have e : c = decide (p ∈ ps) := Bool.eq_iff_iff.mpr (by rw [hc, pairD_mem, decide_eq_true_eq])
    rw [e]
    exact h
abbrev s_check_direction : Stmt := topS 13
abbrev N_check_direction : List Str := ["value"]
theorem sc_check_direction : FnScope N_check_direction ["value"] (defScope s_check_direction) := ⟨rfl, rfl, rfl, by decide +kernel, rfl, by decide +kernel, by decide +kernel⟩
abbrev ClCd (P : Program) (w : World) (K : PySem.W.Frag) (mg : Str → Option Value) (base : Heap) (k : Nat) := Cl P w K mg base k "check_direction" s_check_direction ["value"] (SpD K (p1 fun d => sm d = true ∧ isDir d = true) fun _ r => r = .non)
theorem ok_check_direction {k : Nat} (F : Df K mg "check_direction" s_check_direction) (C_is_direction : ClB P w K mg base k "is_direction" s_is_direction "value" isDir) : ClCd P w K mg base (k + 1) := by
  refine cl_of F sc_check_direction (fun _ _ _ _ _ _ us hl => match us, hl with | [_], _ => rfl) p1_len fun f cdv A outer s H E hr => ⟨_, (pss_one (ps_if (pt_not (pt_val (pe_c C_is_direction hr (by omega) (by rfl) (pa_cons (pv 0) pa_nil)))) (pss_one Dl.ps_never) pss_nil)), fun B ds hp => ?_⟩
  obtain ⟨d, rfl, hs, hd⟩ := p1_ex hp
  show WS K B _ [.val d] _
  try dsimp only [cxOf, Cx.nox, Cx.blk]
  refine ws_ifNo (wt_not (wt_B (we_call (wa_cons (we_var rfl (wa_nil ⟨hs, ?_⟩)))))) (ws_next rfl)
  rintro _ rfl
  exact ⟨_, rfl, by show (!isDir d) = false; rw [hd]; rfl⟩
abbrev s_span_between : Stmt := topS 16
abbrev N_span_between : List Str := ["start", "stop"]
theorem sc_span_between : FnScope N_span_between ["start", "stop"] (defScope s_span_between) := ⟨rfl, rfl, rfl, by decide +kernel, rfl, by decide +kernel, by decide +kernel⟩
abbrev ClSb (P : Program) (w : World) (K : PySem.W.Frag) (mg : Str → Option Value) (base : Heap) (k : Nat) := Cl P w K mg base k "span_between" s_span_between ["start", "stop"] (SpD K (p2 fun a b => ∃ p q : Pr2, a = Dl.pairD p ∧ b = Dl.pairD q) fun ds r => ∃ p q : Pr2, ds = [Dl.pairD p, Dl.pairD q] ∧ r = polyD (betw p q))
theorem ok_span_between {k : Nat} (F : Df K mg "span_between" s_span_between) : ClSb P w K mg base (k + 1) := by
  refine cl_of F sc_span_between (fun _ _ _ _ _ _ us hl => match us, hl with | [_, _], _ => rfl) p2_len fun f cdv A outer s H E hr => ⟨_, (pss_one (ps_ret (pe_ifExp (pt_cmpR (op_eqD hr.units) (pv 0) (pv 1) (nomark _)) (pe_tupZ (pa_cons (pv 0) pa_nil)) (pe_tupZ (pa_cons (pv 0) (pa_cons (pv 1) pa_nil)))))), fun B ds hp => ?_⟩
  obtain ⟨_, _, rfl, p, q, rfl, rfl⟩ := p2_ex hp
  show WS K B _ [.val (Dl.pairD p), .val (Dl.pairD q)] _
  try dsimp only [cxOf, Cx.nox, Cx.blk]
  refine ws_ret (we_if (wt_test (we_op (we_var rfl (we_var rfl (ro_eqPr ⟨_, rfl, ?_⟩))))))
  by_cases h : p = q
  · rw [if_pos (decide_eq_true h)]
    exact we_tup (wa_cons (we_var rfl (wa_nil ⟨by show 1 ≤ 1000; decide, p, q, rfl, by unfold betw; rw [if_pos h]; rfl⟩)))
  · rw [if_neg (by rw [decide_eq_false h]; decide)]
    exact we_tup (wa_cons (we_var rfl (wa_cons (we_var rfl (wa_nil ⟨by show 2 ≤ 1000; decide, p, q, rfl, by unfold betw; rw [if_neg h]; rfl⟩)))))
abbrev s_in_span : Stmt := topS 18
abbrev N_in_span : List Str := ["span", "direction", "left_of_start", "right_of_stop", "start", "stop"]
theorem sc_in_span : FnScope N_in_span ["span", "direction"] (defScope s_in_span) := ⟨rfl, rfl, rfl, by decide +kernel, rfl, by decide +kernel, by decide +kernel⟩
abbrev ClIs (P : Program) (w : World) (K : PySem.W.Frag) (mg : Str → Option Value) (base : Heap) (k : Nat) := Cl P w K mg base k "in_span" s_in_span ["span", "direction"] (SpD K (p2 fun a b => ∃ (sp : List Pr2) (d : Pr2), a = polyD sp ∧ b = Dl.pairD d ∧ SpOk sp ∧ Upto 1000 d) fun ds r => ∃ (sp : List Pr2) (d : Pr2), ds = [polyD sp, Dl.pairD d] ∧ r = .bl (inArc sp d))
theorem ok_in_span {k : Nat} (G : Gn mg) (F : Df K mg "in_span" s_in_span) (C_cross : ClCr P w K mg base k) : ClIs P w K mg base (k + 1) := by
  refine cl_of F sc_in_span (fun _ _ _ _ _ _ us hl => match us, hl with | [_, _], _ => rfl) p2_len fun f cdv A outer s H E hr => ⟨_, (pss_cons (ps_if (pt_cmpR op_lt (pe_callB (show CallR _ (.builtin "len") (fun xs H Q => ∃ x n, xs = [x] ∧ LenV K x H n ∧ Q (.int n) H) from call_len) (by rfl) G.g_len (by decide +kernel) (pa_cons (pv 0) pa_nil)) pe_int (nomark _)) (pss_one (ps_ret (pe_cmpR (show OpR _ (compareOp .NotIn) (Dl.rInT K true) from Dl.op_notInT (Dl.u65 hr)) (pv 1) (pv 0) (by rfl)))) pss_nil)
      (pss_cons (ps_asg (pv 0) (show PG _ _ (gTup K 2 (gCons (gName 4) (gCons (gName 5) gNil))) from pg_tup rfl (pgs_cons (pg_name (i := 4) sc_in_span.nd rfl (Or.inl rfl)) (pgs_cons (pg_name (i := 5) sc_in_span.nd rfl (Or.inl rfl)) pgs_nil))))
      (pss_cons (ps_set (i := 2) sc_in_span.nd rfl (Or.inl rfl) (pe_cmpR op_gt (pe_c C_cross hr (by omega) (by rfl) (pa_cons (pv 4) (pa_cons (pv 1) pa_nil))) pe_int (nomark _)))
      (pss_cons (ps_set (i := 3) sc_in_span.nd rfl (Or.inl rfl) (pe_cmpR op_gt (pe_c C_cross hr (by omega) (by rfl) (pa_cons (pv 1) (pa_cons (pv 5) pa_nil))) pe_int (nomark _)))
      (pss_cons (ps_if (pt_cmpR op_lt (pe_c C_cross hr (by omega) (by rfl) (pa_cons (pv 4) (pa_cons (pv 5) pa_nil))) pe_int (nomark _)) (pss_one (ps_ret (pe_or (pv 2) (pe_one (pv 3))))) pss_nil)
      (pss_one (ps_ret (pe_and (pv 2) (pe_one (pv 3)))))))))), fun B ds hp => ?_⟩
  obtain ⟨_, _, rfl, sp, d, rfl, rfl, ⟨hl, hu⟩, hd⟩ := p2_ex hp
  show WS K B _ [.val (polyD sp), .val (Dl.pairD d), .no, .no, .no, .no] _
  try dsimp only [cxOf, Cx.nox, Cx.blk]
  have cr : ∀ {X : Xc} {δ : List Sd} {i j : Nat} {p q : Pr2} {Q : D → Prop}, δ[i]? = some (.val (Dl.pairD p)) → δ[j]? = some (.val (Dl.pairD q)) → Upto 1000 p → Upto 1000 q → Q (.int (crs p q)) → WEx K B X (tCall (SpD K (p2 fun a b => ∃ p q : Pr2, a = Dl.pairD p ∧ b = Dl.pairD q ∧ Upto 100000000 p ∧ Upto 100000000 q) fun ds r => ∃ p q : Pr2, ds = [Dl.pairD p, Dl.pairD q] ∧ r = .int (crs p q)) [] E0 (tCons (tVar i) (tCons (tVar j) tNil))) δ Q := by
    intro X δ i j p q Q hi hj hp hq h
    refine we_call (wa_cons (we_var hi (wa_cons (we_var hj (wa_nil ⟨⟨p, q, rfl, rfl, upto_le hp (by decide), upto_le hq (by decide)⟩, ?_⟩)))))
    rintro _ ⟨p', q', e, rfl⟩
    rw [← pairD_inj (List.cons.inj e).1, ← pairD_inj (List.cons.inj (List.cons.inj e).2).1]
    exact h
  have few : sp.length < 2 → inArc sp d = !decide (d ∈ sp) := fun h => by
    match sp, h with
    | [], _ => rfl
    | [_], _ => rfl
  refine ws_seq (ws_if (wt_test (we_op (we_cb (wa_cons (we_var rfl (wa_nil (rc_len (n := sp.length) (by show some (sp.map Dl.pairD).length = _; rw [List.length_map]) (by omega) (we_int (ro_bl0 ⟨_, rfl, ite2 (fun h => ?_) (fun h => ws_next ?_)⟩))))))))))
  · have h2 := of_decide_eq_true h
    refine ws_ret (we_op (we_var rfl (we_var rfl (ro_inTp ⟨sp, d, rfl, ?_⟩))))
    rw [few (by omega), Bool.true_xor]
  · have h2 : ¬ ((sp.length : Int) < 2) := fun z => h (decide_eq_true z)
    match sp, hl, hu, h2 with
    | [], _, _, h2 => exact absurd (by decide) h2
    | [_], _, _, h2 => exact absurd (show ((1 : Nat) : Int) < 2 by decide) h2
    | _ :: _ :: _ :: _, hl, _, _ => exact absurd hl (by simp)
    | [a, b], _, hu, _ =>
      have ua := hu a (by simp)
      have ub := hu b (by simp)
      refine ws_seq (ws_unt2 (we_var rfl ⟨_, _, rfl, ?_⟩))
      try dsimp only [List.set]
      refine ws_seq (ws_set (we_op (cr (p := a) (q := d) rfl rfl ua hd (we_int (ro_bl0 ?_)))))
      try dsimp only [List.set]
      refine ws_seq (ws_set (we_op (cr (p := d) (q := b) rfl rfl hd ub (we_int (ro_bl0 ?_)))))
      try dsimp only [List.set]
      refine ws_seq (ws_if (wt_test (we_op (cr (p := a) (q := b) rfl rfl ua ub (we_int (ro_bl0 ⟨_, rfl, ite2 (fun h3 => ?_) (fun h3 => ws_next ?_)⟩))))))
      · have e : inArc [a, b] d = (decide (0 < crs a d) || decide (0 < crs d b)) := if_pos (of_decide_eq_true h3)
        refine ws_ret (we_orV (we_var rfl ⟨_, rfl, ?_⟩))
        by_cases c : 0 < crs a d
        · rw [if_pos (decide_eq_true c)]
          exact ⟨[a, b], d, rfl, by rw [e, decide_eq_true c]; rfl⟩
        · rw [if_neg (by rw [decide_eq_false c]; decide)]
          exact we_var rfl ⟨[a, b], d, rfl, by rw [e, decide_eq_false c, Bool.false_or]⟩
      · have e : inArc [a, b] d = (decide (0 < crs a d) && decide (0 < crs d b)) := if_neg fun z => h3 (decide_eq_true z)
        refine ws_ret (we_andV (we_var rfl ⟨_, rfl, ?_⟩))
        by_cases c : 0 < crs a d
        · rw [if_pos (decide_eq_true c)]
          exact we_var rfl ⟨[a, b], d, rfl, by rw [e, decide_eq_true c, Bool.true_and]⟩
        · rw [if_neg (by rw [decide_eq_false c]; decide)]
          exact ⟨[a, b], d, rfl, by rw [e, decide_eq_false c, Bool.false_and]⟩

end
/-! #### Ae -/
section
variable {P : Program} {w : World} {K : PySem.W.Frag} {mg : Str → Option Value} {base : Heap}
/-! ### jn -/
/-! ### spans joined -/
abbrev s_in_any_span : Stmt := topS 19
abbrev N_in_any_span : List Str := ["spans", "direction", "span"]
theorem sc_in_any_span : FnScope N_in_any_span ["spans", "direction"] (defScope s_in_any_span) := ⟨rfl, rfl, rfl, by decide +kernel, rfl, by decide +kernel, by decide +kernel⟩
abbrev ClIa (P : Program) (w : World) (K : PySem.W.Frag) (mg : Str → Option Value) (base : Heap) (k : Nat) := Cl P w K mg base k "in_any_span" s_in_any_span ["spans", "direction"] (SpD K (p2 fun a b => ∃ (sps : List (List Pr2)) (d : Pr2), a = .lst (sps.map polyD) ∧ b = Dl.pairD d ∧ sps.length ≤ 1000 ∧ (∀ sp ∈ sps, SpOk sp) ∧ Upto 1000 d) fun ds r => ∃ (sps : List (List Pr2)) (d : Pr2), ds = [.lst (sps.map polyD), Dl.pairD d] ∧ r = .bl (sps.any (inArc · d)))
theorem ok_in_any_span {k : Nat} (G : Gn mg) (F : Df K mg "in_any_span" s_in_any_span) (C_in_span : ClIs P w K mg base k) : ClIa P w K mg base (k + 1) := by
  refine cl_of F sc_in_any_span (fun _ _ _ _ _ _ us hl => match us, hl with | [_, _], _ => rfl) p2_len fun f cdv A outer s H E hr => ⟨_, (pss_one (ps_ret (pe_callB (cr_any rfl) (by rfl) G.g_any (by decide +kernel) (pa_cons (pe_lc (own := [("span", 2)]) (g := gName 2) (tt := tYes) rfl sc_in_any_span.nd (pi_list (pv 0)) (blkOk_by (N := N_in_any_span) (sc := defScope s_in_any_span) (by decide +kernel)) (fun _ _ _ _ _ => pg_name (i := 2) sc_in_any_span.nd rfl (Or.inl rfl)) (fun _ _ _ _ _ => pts_nil) (fun _ _ _ _ _ => (pe_c C_in_span hr (by omega) (by rfl) (pa_cons (pv 2) (pa_cons (pv 1) pa_nil))))) pa_nil)))), fun B ds hp => ?_⟩
  obtain ⟨_, _, rfl, sps, d, rfl, rfl, hl, hs, hd⟩ := p2_ex hp
  show WS K B _ [.val (.lst (sps.map polyD)), .val (Dl.pairD d), .no] _
  try dsimp only [cxOf, Cx.nox, Cx.blk]
  refine ws_ret (we_cb (wa_cons (we_lcA (xs := sps) polyD (fun sp => .bl (inArc sp d)) hl (wi_list (we_var rfl ⟨_, rfl, rfl⟩)) (fun sp hm => ?_) ?_)))
  · try dsimp only [List.set]
    refine we_call (wa_cons (we_var rfl (wa_cons (we_var rfl (wa_nil ⟨⟨sp, d, rfl, rfl, hs sp hm, hd⟩, ?_⟩)))))
    rintro _ ⟨sp', d', e, rfl⟩
    rw [← polyD_inj (List.cons.inj e).1, ← pairD_inj (List.cons.inj (List.cons.inj e).2).1]
  · rw [show sps.map (fun sp => D.bl (inArc sp d)) = (sps.map (inArc · d)).map D.bl by rw [List.map_map]; rfl]
    refine wa_nil (rc_any ⟨sps, d, rfl, ?_⟩)
    rw [List.any_map]
    rfl
theorem lst_poly_inj {a b : List (List Pr2)} (h : D.lst (a.map polyD) = D.lst (b.map polyD)) : a = b := (List.map_inj_right fun _ _ h => polyD_inj h).mp (D.lst.inj h)
/-- an end of the spans that no span has -/
def endF (sps : List (List Pr2)) (e : Option Pr2) : Option Pr2 := match e with
  | some a => if sps.any (inArc · a) then none else some a
  | none => none
def startsOf (sps : List (List Pr2)) : List Pr2 := sps.filterMap fun sp => endF sps sp.head?
def stopsOf (sps : List (List Pr2)) : List Pr2 := sps.filterMap fun sp => endF sps sp.getLast?
def joinS (sps : List (List Pr2)) : List Pr2 := match startsOf sps, stopsOf sps with
  | a :: _, b :: _ => betw a b
  | _, _ => []
def JnOk (sps : List (List Pr2)) : Prop := sps.length ≤ 1000 ∧ (∀ sp ∈ sps, SpOk sp) ∧ (startsOf sps ≠ [] → stopsOf sps ≠ [])
abbrev s_joined_span : Stmt := topS 21
abbrev N_joined_span : List Str := ["spans", "starts", "stops", "span"]
theorem sc_joined_span : FnScope N_joined_span ["spans"] (defScope s_joined_span) := ⟨rfl, rfl, rfl, by decide +kernel, rfl, by decide +kernel, by decide +kernel⟩
abbrev ClJs (P : Program) (w : World) (K : PySem.W.Frag) (mg : Str → Option Value) (base : Heap) (k : Nat) := Cl P w K mg base k "joined_span" s_joined_span ["spans"] (SpD K (p1 fun a => ∃ sps : List (List Pr2), a = .lst (sps.map polyD) ∧ JnOk sps) fun ds r => ∃ sps : List (List Pr2), ds = [.lst (sps.map polyD)] ∧ r = polyD (joinS sps))
theorem atI_last {ps : List Pr2} {a : Pr2} (h : ps.getLast? = some a) : atI (ps.map Dl.pairD) (-1) = some (Dl.pairD a) := by
  have hne : ps ≠ [] := fun e => by rw [e] at h; cases h
  have hl : 0 < ps.length := List.length_pos_iff.mpr hne
  unfold atI ixN
  rw [List.length_map]
  rw [if_neg (by omega), if_pos (by omega)]
  show (ps.map Dl.pairD)[((-1 : Int) + (ps.length : Int)).toNat]? = _
  rw [show ((-1 : Int) + (ps.length : Int)).toNat = ps.length - 1 by omega, List.getElem?_map, ← List.getLast?_eq_getElem?, h]
  rfl
theorem ok_joined_span {k : Nat} (G : Gn mg) (F : Df K mg "joined_span" s_joined_span) (C_in_any_span : ClIa P w K mg base k) (C_span_between : ClSb P w K mg base k) : ClJs P w K mg base (k + 1) := by
  refine cl_of F sc_joined_span (fun _ _ _ _ _ _ us hl => match us, hl with | [_], _ => rfl) p1_len fun f cdv A outer s H E hr => ⟨_, (pss_cons (ps_setLc (i := 1) (own := [("span", 3)]) (g := gName 3) rfl sc_joined_span.nd rfl rfl (sw_true rfl rfl rfl (by decide +kernel)) (pi_list (pv 0)) (blkOk_by (N := N_joined_span) (sc := defScope s_joined_span) (by decide +kernel)) (fun _ _ _ _ _ => pg_name (i := 3) sc_joined_span.nd rfl (Or.inl rfl)) (fun _ _ _ _ _ => (pts_one (PW.pt (pw_and (show PT _ _ (Dl.tTru K _) from pt_truth (pv 3) (fun _ => rfl)) (pw_and1 (pt_not (pt_val (pe_c C_in_any_span hr (by omega) (by rfl) (pa_cons (pv 0) (pa_cons (pe_ix (show IxR _ (rIxT K) from ix_tup) (pv 3) pe_int (fun _ _ => rfl)) pa_nil)))))))))) (fun _ _ _ _ _ => (pe_ix (show IxR _ (rIxT K) from ix_tup) (pv 3) pe_int (fun _ _ => rfl))))
      (pss_cons (ps_setLc (i := 2) (own := [("span", 3)]) (g := gName 3) rfl sc_joined_span.nd rfl rfl (sw_true rfl rfl rfl (by decide +kernel)) (pi_list (pv 0)) (blkOk_by (N := N_joined_span) (sc := defScope s_joined_span) (by decide +kernel)) (fun _ _ _ _ _ => pg_name (i := 3) sc_joined_span.nd rfl (Or.inl rfl)) (fun _ _ _ _ _ => (pts_one (PW.pt (pw_and (show PT _ _ (Dl.tTru K _) from pt_truth (pv 3) (fun _ => rfl)) (pw_and1 (pt_not (pt_val (pe_c C_in_any_span hr (by omega) (by rfl) (pa_cons (pv 0) (pa_cons (pe_ix (show IxR _ (rIxT K) from ix_tup) (pv 3) (pe_un un_neg pe_int) (fun _ _ => rfl)) pa_nil)))))))))) (fun _ _ _ _ _ => (pe_ix (show IxR _ (rIxT K) from ix_tup) (pv 3) (pe_un un_neg pe_int) (fun _ _ => rfl))))
      (pss_one (ps_ret (pe_ifExp (pt_truth (pv 1) (fun _ => rfl)) (pe_c C_span_between hr (by omega) (by rfl) (pa_cons (pe_ix (show IxR _ (rIxL K) from ix_list) (pv 1) pe_int (fun _ _ => rfl)) (pa_cons (pe_ix (show IxR _ (rIxL K) from ix_list) (pv 2) pe_int (fun _ _ => rfl)) pa_nil))) (pe_tupZ pa_nil)))))), fun B ds hp => ?_⟩
  obtain ⟨_, rfl, sps, rfl, hl, hs, hn⟩ := p1_ex hp
  show WS K B _ [.val (.lst (sps.map polyD)), .no, .no, .no] _
  try dsimp only [cxOf, Cx.nox, Cx.blk]
  have any_ : ∀ {δ : List Sd} {te : TE} {a : Pr2} {Q : D → Prop}, δ[0]? = some (.val (.lst (sps.map polyD))) → Upto 1000 a → WEx K B {} te δ (· = Dl.pairD a) → Q (.bl (sps.any (inArc · a))) → WEx K B {} (tCall (SpD K (p2 fun a b => ∃ (sps : List (List Pr2)) (d : Pr2), a = .lst (sps.map polyD) ∧ b = Dl.pairD d ∧ sps.length ≤ 1000 ∧ (∀ sp ∈ sps, SpOk sp) ∧ Upto 1000 d) fun ds r => ∃ (sps : List (List Pr2)) (d : Pr2), ds = [.lst (sps.map polyD), Dl.pairD d] ∧ r = .bl (sps.any (inArc · d))) [] E0 (tCons (tVar 0) (tCons te tNil))) δ Q := by
    intro δ te a Q h0 ha hw hq
    refine we_call (wa_cons (we_var h0 (wa_cons (wex_mono hw fun d e => ?_))))
    subst e
    refine wa_nil ⟨⟨sps, a, rfl, rfl, hl, hs, ha⟩, ?_⟩
    rintro _ ⟨sps', a', e, rfl⟩
    rw [← lst_poly_inj (List.cons.inj e).1, ← pairD_inj (List.cons.inj (List.cons.inj e).2).1]
    exact hq
  have one : ∀ {n : Nat} {d : D}, (sps.map polyD)[n]? = some d → ∃ sp, sps[n]? = some sp ∧ polyD sp = d := fun {n d} hd => by
    rw [List.getElem?_map] at hd
    cases e : sps[n]? with
    | none => rw [e] at hd; cases hd
    | some q => rw [e] at hd; exact ⟨q, rfl, Option.some.inj hd⟩
  have step : ∀ {n : Nat} {sp : List Pr2} (f : List Pr2 → Option Pr2), sps[n]? = some sp → ((sps.take (n + 1)).filterMap f).map Dl.pairD = ((sps.take n).filterMap f).map Dl.pairD ++ ((f sp).toList.map Dl.pairD) := fun {n sp} f h => by
    rw [List.take_add_one, h, List.filterMap_append, List.map_append]
    cases e : f sp <;> simp [e]
  have emp : ∀ {sp : List Pr2}, (!((sp.map Dl.pairD).isEmpty)) = !sp.isEmpty := fun {sp} => by cases sp <;> rfl
  refine ws_seq (ws_set (we_lc (wi_list (we_var rfl ⟨_, rfl, by rw [List.length_map]; exact hl, fun n acc => acc = ((sps.take n).filterMap fun sp => endF sps sp.head?).map Dl.pairD, rfl, ?_, ?_⟩))))
  · rintro n d acc hd hacc
    have hacc' : acc = ((sps.take n).filterMap fun sp => endF sps sp.head?).map Dl.pairD := hacc
    obtain ⟨sp, hsp, rfl⟩ := one hd
    have hm := List.mem_of_getElem? hsp
    have st := step (fun sp => endF sps sp.head?) hsp
    try dsimp only [List.set]
    refine wt_and (wt_truth (we_var rfl ⟨_, rfl, ?_⟩))
    rw [emp]
    cases sp with
    | nil =>
      rw [if_neg (by decide), if_neg (by decide)]
      show acc = _
      rw [st, hacc']
      exact (List.append_nil _).symm
    | cons a r =>
      have ua := (hs _ hm).2 a List.mem_cons_self
      rw [if_pos (show (!(a :: r).isEmpty) = true from rfl)]
      refine wt_not (wt_B (any_ (a := a) rfl ua (we_op (we_var rfl (we_int (ro_ixT (d := Dl.pairD a) (atI_nat (j := 0) rfl) rfl)))) ⟨_, rfl, ?_⟩))
      by_cases c : sps.any (inArc · a) = true
      · rw [c, if_neg (by decide)]
        show acc = _
        rw [st, hacc']
        show _ = _ ++ (Option.toList (if sps.any (inArc · a) = true then none else some a)).map Dl.pairD
        rw [if_pos c]
        exact (List.append_nil _).symm
      · rw [Bool.eq_false_iff.mpr c, if_pos (by decide)]
        refine we_op (we_var rfl (we_int (ro_ixT (d := Dl.pairD a) (atI_nat (j := 0) rfl) ?_)))
        show acc ++ [Dl.pairD a] = _
        rw [st, hacc']
        show _ = _ ++ (Option.toList (if sps.any (inArc · a) = true then none else some a)).map Dl.pairD
        rw [if_neg c]
        rfl
  rintro acc hacc
  have hacc1 : acc = ((sps.take (sps.map polyD).length).filterMap fun sp => endF sps sp.head?).map Dl.pairD := hacc
  rw [List.length_map, List.take_length] at hacc1
  have hacc2 : acc = (startsOf sps).map Dl.pairD := hacc1
  subst hacc2
  try dsimp only [List.set]
  refine ws_seq (ws_set (we_lc (wi_list (we_var rfl ⟨_, rfl, by rw [List.length_map]; exact hl, fun n acc => acc = ((sps.take n).filterMap fun sp => endF sps sp.getLast?).map Dl.pairD, rfl, ?_, ?_⟩))))
  · rintro n d acc hd hacc
    have hacc' : acc = ((sps.take n).filterMap fun sp => endF sps sp.getLast?).map Dl.pairD := hacc
    obtain ⟨sp, hsp, rfl⟩ := one hd
    have hm := List.mem_of_getElem? hsp
    have st := step (fun sp => endF sps sp.getLast?) hsp
    try dsimp only [List.set]
    refine wt_and (wt_truth (we_var rfl ⟨_, rfl, ?_⟩))
    rw [emp]
    cases el : sp.getLast? with
    | none =>
      have e0 : sp = [] := List.getLast?_eq_none_iff.mp el
      subst e0
      rw [if_neg (by decide), if_neg (by decide)]
      show acc = _
      rw [st, hacc']
      exact (List.append_nil _).symm
    | some a =>
      have ma : a ∈ sp := List.mem_of_getLast? el
      have ua := (hs _ hm).2 a ma
      have hne : (!sp.isEmpty) = true := by cases sp with
        | nil => cases ma
        | cons _ _ => rfl
      rw [hne, if_pos rfl]
      have la := atI_last el
      refine wt_not (wt_B (any_ (a := a) rfl ua (we_op (we_var rfl (we_un (we_int (r1_int (ro_ixT (d := Dl.pairD a) la rfl)))))) ⟨_, rfl, ?_⟩))
      have ef : endF sps sp.getLast? = if sps.any (inArc · a) = true then none else some a := by rw [el]; rfl
      by_cases c : sps.any (inArc · a) = true
      · rw [c, if_neg (by decide)]
        show acc = _
        rw [st, hacc', ef, if_pos c]
        exact (List.append_nil _).symm
      · rw [Bool.eq_false_iff.mpr c, if_pos (by decide)]
        refine we_op (we_var rfl (we_un (we_int (r1_int (ro_ixT (d := Dl.pairD a) la ?_)))))
        show acc ++ [Dl.pairD a] = _
        rw [st, hacc', ef, if_neg c]
        rfl
  rintro acc hacc
  have hacc1 : acc = ((sps.take (sps.map polyD).length).filterMap fun sp => endF sps sp.getLast?).map Dl.pairD := hacc
  rw [List.length_map, List.take_length] at hacc1
  have hacc2 : acc = (stopsOf sps).map Dl.pairD := hacc1
  subst hacc2
  try dsimp only [List.set]
  refine ws_ret (we_if (wt_truth (we_var rfl ⟨_, rfl, ?_⟩)))
  rw [emp]
  cases e1 : startsOf sps with
  | nil =>
    rw [if_neg (by decide)]
    refine we_tup (wa_nil ⟨by show 0 ≤ 1000; decide, sps, rfl, ?_⟩)
    show D.tup [] = polyD (joinS sps)
    unfold joinS
    rw [e1]
    rfl
  | cons a r =>
    rw [if_pos (show (!(a :: r).isEmpty) = true from rfl)]
    cases e2 : stopsOf sps with
    | nil => exact absurd e2 (hn (by rw [e1]; exact fun z => nomatch z))
    | cons b r2 =>
      refine we_call (wa_cons (we_op (we_var rfl (we_int (ro_ixL (d := Dl.pairD a) (atI_nat (j := 0) rfl) (wa_cons (we_op (we_var rfl (we_int (ro_ixL (d := Dl.pairD b) (atI_nat (j := 0) rfl) (wa_nil ⟨⟨a, b, rfl, rfl⟩, ?_⟩)))))))))))
      rintro _ ⟨a', b', e, rfl⟩
      rw [← pairD_inj (List.cons.inj e).1, ← pairD_inj (List.cons.inj (List.cons.inj e).2).1]
      refine ⟨sps, rfl, ?_⟩
      unfold joinS
      rw [e1, e2]

end
/-! #### Af -/
section
variable {P : Program} {w : World} {K : PySem.W.Frag} {mg : Str → Option Value} {base : Heap}
/-! ### arc -/
theorem sh_part (ps : List Pr2) : SeqAt.shaped (partP ps) = true := by
  unfold SeqAt.shaped partP
  rw [Bool.and_eq_true, decide_eq_true_eq]
  refine ⟨by rw [PyData.canLay0]; exact lay_pairPs ps, ?_⟩
  rw [PyData.depth]
  have := dep_pairPs ps
  omega
theorem ro_eqPs {B : Bt} {Pp : D → Prop} {ps qs : List Pr2} (h : Pp (.bl (decide (ps = qs)))) : RO K B (rEqD K) (polyD ps) (polyD qs) Pp := fun G H x y _ o hx hy q => by
  refine ⟨partP ps, partP qs, dp_part o hx, dp_part o hy, sh_part ps, sh_part qs, ?_⟩
  rw [eqv_partP]
  exact q.nil o (.bl _) h
/-! ### class Arc -/
def arcD (CA : Addr) (sp : List Pr2) : D := .obj CA ["_span"] [polyD sp]
/-- the span that Arc(start, stop) holds, spans as part_span gives them -/
def endsSp (sp : List Pr2) : List Pr2 := match sp with
  | [] => []
  | a :: r => betw a ((a :: r).getLast (List.cons_ne_nil a r))
theorem endsSp_betw (a b : Pr2) : endsSp (betw a b) = betw a b := by
  unfold betw
  split
  · rename_i e; subst e; show betw a a = [a]; unfold betw; rw [if_pos rfl]
  · rename_i e; show betw a b = [a, b]; unfold betw; rw [if_neg e]
/-- what an instance of a class without fields is read as -/
def bareD (C : Addr) : D := .obj C [] []
structure AcT (K : PySem.W.Frag) (mg : Str → Option Value) (CA CN : Addr) : Prop where
  m_Arc : mg "Arc" = some (.ref CA)
  m_NoEnd : mg "NoEnd" = some (.ref CN)
  nb : MkB K CN
  cl : Cls K CA
  ns : NoAttr K CA "_span"
  tn : ∀ {H : Hp} {a dx : Addr} {fs : List (Str × V)}, H a = some (.ins CN dx fs) → TyOf K H (.ref a) (.ref CN)
  ty : ∀ {H : Hp} {a dx : Addr} {fs : List (Str × V)}, H a = some (.ins CA dx fs) → TyOf K H (.ref a) (.ref CA)
  kt : PySem.W.kitOne K (.type "tuple") (.ref CN) = some false
  kn : PySem.W.kitOne K (.ref CN) (.ref CN) = some true
  ka : PySem.W.kitOne K (.ref CA) (.ref CA) = some true
theorem clm_raw {sp : Sp} {k : Nat} {f : Addr} {fd : FuncData} {ps : List Str} (F : ClM P w K mg base k f fd ps sp) : FnR P w K mg base CX0 k f sp := (F.ok.raw F.bn .nil).imp fun vs H Q E h => by rw [List.append_nil]; exact h
abbrev s_Arc___init__ : Stmt := inClass (topS 24) 0
abbrev N_Arc___init__ : List Str := ["self", "start", "stop"]
theorem sc_Arc___init__ : FnScope N_Arc___init__ ["self", "start", "stop"] (defScope s_Arc___init__) := ⟨rfl, rfl, rfl, by decide +kernel, rfl, by decide +kernel, by decide +kernel⟩
abbrev aiPre (CN : Addr) : List D → Prop := p2 fun a b => (a = bareD CN ∧ b = bareD CN) ∨ ∃ p q : Pr2, a = Dl.pairD p ∧ b = Dl.pairD q ∧ isDir a = true ∧ isDir b = true ∧ sm a = true ∧ sm b = true
abbrev aiPost (CA CN : Addr) : List D → D → Prop := fun ds r => (ds = [bareD CN, bareD CN] ∧ r = arcD CA []) ∨ ∃ p q : Pr2, ds = [Dl.pairD p, Dl.pairD q] ∧ r = arcD CA (betw p q)
theorem tyN {CA CN : Addr} (MG : AcT K mg CA CN) {B : Bt} : ∀ G H v, Ok B G H → Dd K B G v (bareD CN) → TyX K H v (.ref CN) := fun G H v o h => by
  unfold bareD at h
  generalize ([] : List Str) = ks at h
  generalize ([] : List D) = es at h
  cases h with
  | obj hg _ => exact .base (MG.tn (o.u _ _ hg))
theorem ok_Arc___init__ {k : Nat} {CA CN f : Addr} {fd : FuncData} (G : Gn mg) (MG : AcT K mg CA CN) (F : Fun K "__init__" "Arc.__init__" s_Arc___init__ f fd) (C_check_direction : ClCd P w K mg base k) (C_span_between : ClSb P w K mg base k) : ClM P w K mg base (k + 1) f fd ["self", "start", "stop"] (SpI K CA (aiPre CN) (aiPost CA CN)) := by
  refine clmi_of F sc_Arc___init__ (fun _ _ _ _ _ _ us hl => match us, hl with | [_, _, _], _ => rfl) (fun ds h => by obtain ⟨_, _, rfl, _⟩ := p2_ex h; rfl) fun cdv A outer s H E hr => ⟨_, (pss_one (ps_if (pt_val (pe_callB (show CallR _ (.builtin "isinstance") (rIsi K) from call_isi) (by rfl) G.g_isinstance (by decide +kernel) (pa_cons (pv 1) (pa_cons (pe_glob (v := .ref CN) (by rfl) MG.m_NoEnd rfl) pa_nil)))) (pss_one (ps_fld (pv 0) (pe_tupZ pa_nil) rfl)) (pss_cons (ps_expr (pe_c C_check_direction hr (by omega) (by rfl) (pa_cons (pv 1) pa_nil)))
      (pss_cons (ps_expr (pe_c C_check_direction hr (by omega) (by rfl) (pa_cons (pv 2) pa_nil)))
      (pss_one (ps_fld (pv 0) (pe_c C_span_between hr (by omega) (by rfl) (pa_cons (pv 1) (pa_cons (pv 2) pa_nil))) rfl)))))), fun B ds hp => ?_⟩
  obtain ⟨a, b, rfl, hab⟩ := p2_ex hp
  intro Gb H1 H0 x dx σ Q fi st q
  have st : Stt K B Gb H0 Gb H0 σ [.val (.adr x), .val a, .val b] := st
  have rno : ∀ {Ga Ha : Hp} {r : VK} {nx : List Sd → Prop}, RT K B { nx := nx, rt := fun _ => False } Ga Ha r := ⟨fun _ _ _ _ _ _ _ z => z.elim, fun _ _ _ _ _ _ _ _ _ _ _ _ z => z.elim⟩
  have xno : ∀ {Ga Hb G : Hp}, XS K B {} Ga Hb G := xs_no fun _ _ _ _ z => z
  have noo : ∀ (i : Nat) es, ([.val (.adr x), .val a, .val b] : List Sd)[i]? ≠ some (.own es) := by
    intro i es z
    match i, z with
    | 0, z => cases z
    | 1, z => cases z
    | 2, z => cases z
    | i + 3, z => cases z
  rcases hab with ⟨rfl, rfl⟩ | ⟨p, p2, rfl, rfl, hd1, hd2, hs1, hs2⟩
  · refine (wt_test (P := fun b => b = true) (we_cb (wa_cons (we_var (i := 1) (d := bareD CN) rfl (wa_cons (we_adr (wa_nil (rc_isiO (tyN MG) MG.kn ⟨_, rfl, rfl⟩)))))))) _ _ _ _ _ _ st ctx0 fun c G1 H2 g1 o1 hc => ?_
    subst hc
    rw [if_pos rfl]
    have f1 := fi.on g1 o1
    have s1 := (st.on g1 o1).rebase noo o1 (Same.refl _)
    refine fld_step f1 s1 noo (ti := 0) rfl MG.cl MG.ns (Nat.zero_lt_succ _) (d := polyD []) (we_tup (wa_nil ⟨by show 0 ≤ 1000; decide, rfl⟩)) fun v1 G3 H4 hv1 sm3 f3 s3 => ?_
    have f4 := f3.put (fs' := [("_span", v1)]) (ds' := [polyD []]) (.cons hv1 .nil)
    obtain ⟨g7, o7, d7⟩ := f4.done
    exact q _ _ _ g7 o7 d7 (.inl ⟨rfl, rfl⟩)
  · have tyt : ∀ G H v, Ok B G H → Dd K B G v (Dl.pairD p) → TyX K H v (.type "tuple") := fun G H v o h => h.tyx o rfl
    refine (wt_test (P := fun b => b = false) (we_cb (wa_cons (we_var (i := 1) (d := Dl.pairD p) rfl (wa_cons (we_adr (wa_nil (rc_isiO tyt MG.kt ⟨_, rfl, rfl⟩)))))))) _ _ _ _ _ _ st ctx0 fun c G1 H2 g1 o1 hc => ?_
    subst hc
    rw [if_neg (by decide)]
    have s1 := st.on g1 o1
    refine (ws_drop (O := { nx := fun δ1 => δ1 = [.val (.adr x), .val (Dl.pairD p), .val (Dl.pairD p2)], rt := fun _ => False }) (we_call (wa_cons (we_var (i := 1) (d := Dl.pairD p) rfl (wa_nil ⟨⟨hs1, hd1⟩, fun _ _ => rfl⟩))))) _ _ _ _ _ _ s1 xno ?_ rno (fun _ _ _ _ _ _ z => z.elim) (fun _ _ _ _ _ _ z => z.elim)
    rintro σ2 _ G2 H3 sm2 s2 rfl
    refine (ws_drop (O := { nx := fun δ1 => δ1 = [.val (.adr x), .val (Dl.pairD p), .val (Dl.pairD p2)], rt := fun _ => False }) (we_call (wa_cons (we_var (i := 2) (d := Dl.pairD p2) rfl (wa_nil ⟨⟨hs2, hd2⟩, fun _ _ => rfl⟩))))) _ _ _ _ _ _ s2 xno ?_ rno (fun _ _ _ _ _ _ z => z.elim) (fun _ _ _ _ _ _ z => z.elim)
    rintro σ3 _ G3 H4 sm3 s3 rfl
    have f3 := fi.on s3.go s3.ok
    have s3' := s3.rebase noo s3.ok (Same.refl _)
    refine fld_step f3 s3' noo (ti := 0) rfl MG.cl MG.ns (Nat.zero_lt_succ _) (d := polyD (betw p p2)) (we_call (wa_cons (we_var (i := 1) (d := Dl.pairD p) rfl (wa_cons (we_var (i := 2) (d := Dl.pairD p2) rfl (wa_nil ⟨⟨p, p2, rfl, rfl⟩, ?sb⟩)))))) fun v1 G5 H6 hv1 sm5 f5 s5 => ?_
    case sb =>
      rintro _ ⟨p', q', e, rfl⟩
      rw [← pairD_inj (List.cons.inj e).1, ← pairD_inj (List.cons.inj (List.cons.inj e).2).1]
    have f6 := f5.put (fs' := [("_span", v1)]) (ds' := [polyD (betw p p2)]) (.cons hv1 .nil)
    obtain ⟨g7, o7, d7⟩ := f6.done
    exact q _ _ _ g7 o7 d7 (.inr ⟨p, p2, rfl, rfl⟩)
abbrev s_Arc_whole : Stmt := inClass (topS 24) 1
abbrev N_Arc_whole : List Str := ["cls"]
theorem sc_Arc_whole : FnScope N_Arc_whole ["cls"] (defScope s_Arc_whole) := ⟨rfl, rfl, rfl, by decide +kernel, rfl, by decide +kernel, by decide +kernel⟩
theorem ok_Arc_whole {k : Nat} {CA CN f fi : Addr} {fd fdi : FuncData} (G : Gn mg) (MG : AcT K mg CA CN) (F : Fun K "whole" "Arc.whole" s_Arc_whole f fd) (MK : Mk K CA fi) (CM_init : ClM P w K mg base k fi fdi ["self", "start", "stop"] (SpI K CA (aiPre CN) (aiPost CA CN))) : ClM P w K mg base (k + 1 + 1) f fd ["cls"] (SpD K (p1 fun d => d = .adr CA) fun _ r => r = arcD CA []) := by
  refine clm_of F sc_Arc_whole (fun _ _ _ _ _ _ us hl => match us, hl with | [_], _ => rfl) p1_len fun cdv A outer s H E hr => ⟨_, (pss_one (ps_ret (Dl.pe_makeL (i := 0) MK CM_init.ok hr CM_init.bn pass0 (by rfl) (Or.inl rfl) (pa_cons (Dl.pe_bare MG.nb (by rfl) MG.m_NoEnd) (pa_cons (Dl.pe_bare MG.nb (by rfl) MG.m_NoEnd) pa_nil))))), fun B ds hp => ?_⟩
  obtain ⟨_, rfl, rfl⟩ := p1_ex hp
  show WS K B _ [.val (.adr CA)] _
  refine ws_ret (we_makeL rfl (wa_cons (we_bare (wa_cons (we_bare (wa_nil ⟨.inl ⟨rfl, rfl⟩, ?_⟩))))))
  rintro d (⟨_, rfl⟩ | ⟨p, q, e, _⟩)
  · rfl
  · cases e
/-! ### Arc's methods -/
def AcD (CA : Addr) (d : D) : Prop := ∃ sp : List Pr2, d = arcD CA sp ∧ sp.length ≤ 2
theorem we_spn {B : Bt} {X : Xc} {δ : List Sd} {CA CN : Addr} {te : TE} {sp : List Pr2} {Q : D → Prop} (MG : AcT K mg CA CN) (h : WEx K B X te δ fun d => d = arcD CA sp ∧ Q (polyD sp)) : WEx K B X (tFld K te "_span") δ Q :=
  we_fld (wex_mono h fun d ⟨e, q⟩ => ⟨CA, _, _, polyD sp, e, rfl, ⟨MG.cl, MG.ns⟩, q⟩)
theorem tyA {CA CN : Addr} (MG : AcT K mg CA CN) {B : Bt} {sp : List Pr2} : ∀ G H v, Ok B G H → Dd K B G v (arcD CA sp) → TyX K H v (.ref CA) := fun G H v o h => by
  unfold arcD at h
  generalize (["_span"] : List Str) = ks at h
  cases h with
  | obj hg _ => exact .base (MG.ty (o.u _ _ hg))
abbrev s_Arc_start : Stmt := inClass (topS 24) 2
abbrev N_Arc_start : List Str := ["self"]
theorem sc_Arc_start : FnScope N_Arc_start ["self"] (defScope s_Arc_start) := ⟨rfl, rfl, rfl, by decide +kernel, rfl, by decide +kernel, by decide +kernel⟩
def headE (sp : List Pr2) : D := match sp with | [] => .non | a :: _ => Dl.pairD a
def lastE (sp : List Pr2) : D := match sp.getLast? with | none => .non | some a => Dl.pairD a
theorem ok_Arc_start {k : Nat} {CA CN f : Addr} {fd : FuncData} (G : Gn mg) (MG : AcT K mg CA CN) (F : Fun K "start" "Arc.start" s_Arc_start f fd) : ClM P w K mg base (k + 1) f fd ["self"] (SpD K (p1 (AcD CA)) fun ds r => ∃ sp, ds = [arcD CA sp] ∧ r = headE sp) := by
  refine clm_of F sc_Arc_start (fun _ _ _ _ _ _ us hl => match us, hl with | [_], _ => rfl) p1_len fun cdv A outer s H E hr => ⟨_, (pss_one (ps_ret (pe_ifExp (pt_truth (pe_fld (pv 0) rfl) (fun _ => rfl)) (pe_ix (show IxR _ (rIxT K) from ix_tup) (pe_fld (pv 0) rfl) pe_int (fun _ _ => rfl)) pe_non))), fun B ds hp => ?_⟩
  obtain ⟨_, rfl, sp, rfl, hl⟩ := p1_ex hp
  show WS K B _ [.val (arcD CA sp)] _
  refine ws_ret (we_if (wt_truth (we_spn MG (we_var rfl ⟨rfl, _, rfl, ?_⟩))))
  cases sp with
  | nil => rw [if_neg (by decide)]; exact we_non ⟨_, rfl, rfl⟩
  | cons a r => rw [if_pos (show (!(List.map Dl.pairD (a :: r)).isEmpty) = true from rfl)]; exact we_op (we_spn MG (we_var rfl ⟨rfl, we_int (ro_ixT (d := Dl.pairD a) (atI_nat (j := 0) rfl) ⟨_, rfl, rfl⟩)⟩))
abbrev s_Arc_stop : Stmt := inClass (topS 24) 3
abbrev N_Arc_stop : List Str := ["self"]
theorem sc_Arc_stop : FnScope N_Arc_stop ["self"] (defScope s_Arc_stop) := ⟨rfl, rfl, rfl, by decide +kernel, rfl, by decide +kernel, by decide +kernel⟩
theorem ok_Arc_stop {k : Nat} {CA CN f : Addr} {fd : FuncData} (G : Gn mg) (MG : AcT K mg CA CN) (F : Fun K "stop" "Arc.stop" s_Arc_stop f fd) : ClM P w K mg base (k + 1) f fd ["self"] (SpD K (p1 (AcD CA)) fun ds r => ∃ sp, ds = [arcD CA sp] ∧ r = lastE sp) := by
  refine clm_of F sc_Arc_stop (fun _ _ _ _ _ _ us hl => match us, hl with | [_], _ => rfl) p1_len fun cdv A outer s H E hr => ⟨_, (pss_one (ps_ret (pe_ifExp (pt_truth (pe_fld (pv 0) rfl) (fun _ => rfl)) (pe_ix (show IxR _ (rIxT K) from ix_tup) (pe_fld (pv 0) rfl) (pe_un un_neg pe_int) (fun _ _ => rfl)) pe_non))), fun B ds hp => ?_⟩
  obtain ⟨_, rfl, sp, rfl, hl⟩ := p1_ex hp
  show WS K B _ [.val (arcD CA sp)] _
  refine ws_ret (we_if (wt_truth (we_spn MG (we_var rfl ⟨rfl, _, rfl, ?_⟩))))
  cases e : sp.getLast? with
  | none =>
    rw [List.getLast?_eq_none_iff] at e
    subst e
    rw [if_neg (by decide)]; exact we_non ⟨_, rfl, rfl⟩
  | some a =>
    have ne : sp ≠ [] := fun z => by rw [z] at e; cases e
    rw [if_pos (by cases sp with | nil => exact absurd rfl ne | cons _ _ => rfl)]
    exact we_op (we_spn MG (we_var rfl ⟨rfl, we_un (we_int (r1_int (ro_ixT (d := Dl.pairD a) (atI_last e) ⟨_, rfl, by unfold lastE; rw [e]⟩)))⟩))
abbrev s_Arc_is_whole : Stmt := inClass (topS 24) 4
abbrev N_Arc_is_whole : List Str := ["self"]
theorem sc_Arc_is_whole : FnScope N_Arc_is_whole ["self"] (defScope s_Arc_is_whole) := ⟨rfl, rfl, rfl, by decide +kernel, rfl, by decide +kernel, by decide +kernel⟩
theorem ok_Arc_is_whole {k : Nat} {CA CN f : Addr} {fd : FuncData} (G : Gn mg) (MG : AcT K mg CA CN) (F : Fun K "is_whole" "Arc.is_whole" s_Arc_is_whole f fd) : ClM P w K mg base (k + 1) f fd ["self"] (SpD K (p1 (AcD CA)) fun ds r => ∃ sp, ds = [arcD CA sp] ∧ r = .bl (decide (sp.length = 0))) := by
  refine clm_of F sc_Arc_is_whole (fun _ _ _ _ _ _ us hl => match us, hl with | [_], _ => rfl) p1_len fun cdv A outer s H E hr => ⟨_, (pss_one (ps_ret (pe_cmpR op_eq (pe_callB (show CallR _ (.builtin "len") (fun xs H Q => ∃ x n, xs = [x] ∧ LenV K x H n ∧ Q (.int n) H) from call_len) (by rfl) G.g_len (by decide +kernel) (pa_cons (pe_fld (pv 0) rfl) pa_nil)) pe_int (nomark _)))), fun B ds hp => ?_⟩
  obtain ⟨_, rfl, sp, rfl, hl⟩ := p1_ex hp
  show WS K B _ [.val (arcD CA sp)] _
  refine ws_ret (we_op (we_cb (wa_cons (we_spn MG (we_var rfl ⟨rfl, wa_nil (rc_len (n := sp.length) (by show some (sp.map Dl.pairD).length = _; rw [List.length_map]) (by omega) (we_int (ro_eqI ⟨_, rfl, ?_⟩)))⟩)))))
  by_cases h : sp.length = 0
  · rw [decide_eq_true h, decide_eq_true (by omega)]
  · rw [decide_eq_false h, decide_eq_false (by omega)]
abbrev s_Arc___len__ : Stmt := inClass (topS 24) 11
abbrev N_Arc___len__ : List Str := ["self"]
theorem sc_Arc___len__ : FnScope N_Arc___len__ ["self"] (defScope s_Arc___len__) := ⟨rfl, rfl, rfl, by decide +kernel, rfl, by decide +kernel, by decide +kernel⟩
theorem ok_Arc___len__ {k : Nat} {CA CN f : Addr} {fd : FuncData} (G : Gn mg) (MG : AcT K mg CA CN) (F : Fun K "__len__" "Arc.__len__" s_Arc___len__ f fd) : ClM P w K mg base (k + 1) f fd ["self"] (SpD K (p1 (AcD CA)) fun ds r => ∃ sp : List Pr2, ds = [arcD CA sp] ∧ r = .int (sp.length : Nat)) := by
  refine clm_of F sc_Arc___len__ (fun _ _ _ _ _ _ us hl => match us, hl with | [_], _ => rfl) p1_len fun cdv A outer s H E hr => ⟨_, (pss_one (ps_ret (pe_callB (show CallR _ (.builtin "len") (fun xs H Q => ∃ x n, xs = [x] ∧ LenV K x H n ∧ Q (.int n) H) from call_len) (by rfl) G.g_len (by decide +kernel) (pa_cons (pe_fld (pv 0) rfl) pa_nil)))), fun B ds hp => ?_⟩
  obtain ⟨_, rfl, sp, rfl, hl⟩ := p1_ex hp
  show WS K B _ [.val (arcD CA sp)] _
  exact ws_ret (we_cb (wa_cons (we_spn MG (we_var rfl ⟨rfl, wa_nil (rc_len (n := sp.length) (by show some (sp.map Dl.pairD).length = _; rw [List.length_map]) (by omega) ⟨sp, rfl, rfl⟩)⟩))))
abbrev s_Arc___eq__ : Stmt := inClass (topS 24) 10
abbrev N_Arc___eq__ : List Str := ["self", "other"]
theorem sc_Arc___eq__ : FnScope N_Arc___eq__ ["self", "other"] (defScope s_Arc___eq__) := ⟨rfl, rfl, rfl, by decide +kernel, rfl, by decide +kernel, by decide +kernel⟩
def aeqPost (CA : Addr) : List D → D → Prop := fun ds r => ∃ sp sp' : List Pr2, ds = [arcD CA sp, arcD CA sp'] ∧ r = .bl (decide (sp = sp'))
theorem ok_Arc___eq__ {k : Nat} {CA CN f : Addr} {fd : FuncData} (G : Gn mg) (MG : AcT K mg CA CN) (F : Fun K "__eq__" "Arc.__eq__" s_Arc___eq__ f fd) : ClM P w K mg base (k + 1) f fd ["self", "other"] (SpD K (p2 fun d e => AcD CA d ∧ AcD CA e) (aeqPost CA)) := by
  refine clm_of F sc_Arc___eq__ (fun _ _ _ _ _ _ us hl => match us, hl with | [_, _], _ => rfl) p2_len fun cdv A outer s H E hr => ⟨_, (pss_one (ps_ret (pe_and (pe_callB (show CallR _ (.builtin "isinstance") (rIsi K) from call_isi) (by rfl) G.g_isinstance (by decide +kernel) (pa_cons (pv 1) (pa_cons (pe_glob (v := .ref CA) (by rfl) MG.m_Arc rfl) pa_nil))) (pe_one (pe_cmpR (op_eqD hr.units) (pe_fld (pv 0) rfl) (pe_fld (pv 1) rfl) (nomark _)))))), fun B ds hp => ?_⟩
  obtain ⟨_, _, rfl, ⟨sp, rfl, hl⟩, sp', rfl, hl'⟩ := p2_ex hp
  show WS K B _ [.val (arcD CA sp), .val (arcD CA sp')] _
  refine ws_ret (we_andV (we_cb (wa_cons (we_var rfl (wa_cons (we_adr (wa_nil (rc_isiO (tyA MG) MG.ka ⟨_, rfl, ?_⟩))))))))
  rw [if_pos rfl]
  refine we_op (we_spn MG (we_var rfl ⟨rfl, we_spn MG (we_var rfl ⟨rfl, ro_eqPs ⟨sp, sp', rfl, rfl⟩⟩)⟩))
abbrev s_arc_with : Stmt := topS 25
abbrev N_arc_with : List Str := ["span"]
theorem sc_arc_with : FnScope N_arc_with ["span"] (defScope s_arc_with) := ⟨rfl, rfl, rfl, by decide +kernel, rfl, by decide +kernel, by decide +kernel⟩
abbrev ClAw (P : Program) (w : World) (K : PySem.W.Frag) (mg : Str → Option Value) (base : Heap) (CA : Addr) (k : Nat) := Cl P w K mg base k "arc_with" s_arc_with ["span"] (SpD K (p1 fun d => ∃ sp : List Pr2, d = polyD sp ∧ sp.length ≤ 2 ∧ ∀ p ∈ sp, isDir (Dl.pairD p) = true ∧ sm (Dl.pairD p) = true) fun ds r => ∃ sp : List Pr2, ds = [polyD sp] ∧ r = arcD CA (endsSp sp))
theorem ok_arc_with {k : Nat} {CA CN fi fw : Addr} {mc : Value} {pw : Addr} {fdi fdw : FuncData} (F : Df K mg "arc_with" s_arc_with) (MG : AcT K mg CA CN) (MK : Mk K CA fi) (CM_init : ClM P w K mg base (k + 1) fi fdi ["self", "start", "stop"] (SpI K CA (aiPre CN) (aiPost CA CN))) (AR : ClX.CRead K CA mc) (AM : ClX.CMet K CA mc "whole" pw fw) (CM_whole : ClM P w K mg base (k + 1 + 1) fw fdw ["cls"] (SpD K (p1 fun d => d = .adr CA) fun _ r => r = arcD CA [])) : ClAw P w K mg base CA (k + 1 + 1 + 1) := by
  refine cl_of F sc_arc_with (fun _ _ _ _ _ _ us hl => match us, hl with | [_], _ => rfl) p1_len fun f cdv A outer s H E hr => ⟨_, (pss_one (ps_ret (pe_ifExp (pt_truth (pv 0) (fun _ => rfl)) (pe_make MK CM_init.ok hr (by rfl) MG.m_Arc CM_init.bn .nil pass0 (pa_cons (pe_ix (show IxR _ (rIxT K) from ix_tup) (pv 0) pe_int (fun _ _ => rfl)) (pa_cons (pe_ix (show IxR _ (rIxT K) from ix_tup) (pv 0) (pe_un un_neg pe_int) (fun _ _ => rfl)) pa_nil))) (Dl.pe_cmeth0 (pe_glob (v := .ref CA) (by rfl) MG.m_Arc rfl) AR AM (clm_raw CM_whole) hr pass0)))), fun B ds hp => ?_⟩
  obtain ⟨_, rfl, sp, rfl, hl, hd⟩ := p1_ex hp
  show WS K B _ [.val (polyD sp)] _
  try dsimp only [cxOf, Cx.nox, Cx.blk]
  refine ws_ret (we_if (wt_truth (we_var rfl ⟨_, rfl, ?_⟩)))
  cases sp with
  | nil =>
    rw [if_neg (by decide)]
    exact we_cmeth0 (we_adr ⟨rfl, rfl, fun r e => ⟨[], rfl, e⟩⟩)
  | cons a r =>
    rw [if_pos (show (!(List.map Dl.pairD (a :: r)).isEmpty) = true from rfl)]
    have m0 := hd a (List.mem_cons_self ..)
    have ml := hd _ (List.getLast_mem (List.cons_ne_nil a r))
    have el : (a :: r).getLast? = some ((a :: r).getLast (List.cons_ne_nil a r)) := List.getLast?_eq_some_getLast (List.cons_ne_nil a r)
    refine we_make (wa_cons (we_op (we_var rfl (we_int (ro_ixT (d := Dl.pairD a) (atI_nat (j := 0) rfl) (wa_cons (we_op (we_var rfl (we_un (we_int (r1_int (ro_ixT (atI_last el) (wa_nil ⟨.inr ⟨_, _, rfl, rfl, m0.1, ml.1, m0.2, ml.2⟩, ?_⟩)))))))))))))
    rintro d (⟨e, _⟩ | ⟨p, q, e, rfl⟩)
    · cases e
    · rw [← pairD_inj (List.cons.inj e).1, ← pairD_inj (List.cons.inj (List.cons.inj e).2).1]
      exact ⟨_, rfl, rfl⟩

end
/-! #### Ag -/
section
variable {P : Program} {w : World} {K : PySem.W.Frag} {mg : Str → Option Value} {base : Heap}
/-! ### tupZ -/
theorem rc_tupZ {ds : List D} {K : PySem.W.Frag} {B : Bt} {Q : D → Prop} (p : Q (.tup ds)) : RC K B (zOf K) [.lst ds] Q := fun G H vs R o hs q => by
  cases hs with
  | cons h t =>
    cases t
    cases h with
    | lst hg t => exact ⟨_, _, rfl, .inl ⟨SqL.of (o.u _ _ hg), fun l ob hl hd => q.new o nt_tup hl (.tup ⟨upd_same, hd⟩ (t.mono (same_upd (o.fresh hl)))) p⟩⟩

/-! ### ax -/
/-! ### turned by half; spans that meet -/
abbrev s_turned_half : Stmt := topS 15
abbrev N_turned_half : List Str := ["direction"]
theorem sc_turned_half : FnScope N_turned_half ["direction"] (defScope s_turned_half) := ⟨rfl, rfl, rfl, by decide +kernel, rfl, by decide +kernel, by decide +kernel⟩
abbrev ClTh (P : Program) (w : World) (K : PySem.W.Frag) (mg : Str → Option Value) (base : Heap) (k : Nat) := Cl P w K mg base k "turned_half" s_turned_half ["direction"] (SpD K (p1 fun d => ∃ p : Pr2, d = Dl.pairD p) fun ds r => ∃ p : Pr2, ds = [Dl.pairD p] ∧ r = Dl.pairD (Ad.ng p))
theorem ok_turned_half {k : Nat} (F : Df K mg "turned_half" s_turned_half) : ClTh P w K mg base (k + 1) := by
  refine cl_of F sc_turned_half (fun _ _ _ _ _ _ us hl => match us, hl with | [_], _ => rfl) p1_len fun f cdv A outer s H E hr => ⟨_, (pss_one (ps_ret (pe_tupZ (pa_cons (pe_un un_neg (pe_ix (show IxR _ (rIxT K) from ix_tup) (pv 0) pe_int (fun _ _ => rfl))) (pa_cons (pe_un un_neg (pe_ix (show IxR _ (rIxT K) from ix_tup) (pv 0) pe_int (fun _ _ => rfl))) pa_nil))))), fun B ds hp => ?_⟩
  obtain ⟨_, rfl, p, rfl⟩ := p1_ex hp
  show WS K B _ [.val (Dl.pairD p)] _
  try dsimp only [cxOf, Cx.nox, Cx.blk]
  repeat walk_at "dl"
  refine ix0 ?_
  repeat walk_at "dl"
  refine ix1 ?_
  repeat walk_at "dl"
  first | rfl | exact ⟨p, rfl, rfl⟩
abbrev s_turned_span : Stmt := topS 17
abbrev N_turned_span : List Str := ["span", "end"]
theorem sc_turned_span : FnScope N_turned_span ["span"] (defScope s_turned_span) := ⟨rfl, rfl, rfl, by decide +kernel, rfl, by decide +kernel, by decide +kernel⟩
abbrev ClTs (P : Program) (w : World) (K : PySem.W.Frag) (mg : Str → Option Value) (base : Heap) (k : Nat) := Cl P w K mg base k "turned_span" s_turned_span ["span"] (SpD K (p1 fun d => ∃ sp : List Pr2, d = polyD sp ∧ sp.length ≤ 2) fun ds r => ∃ sp : List Pr2, ds = [polyD sp] ∧ r = polyD (sp.map Ad.ng))
theorem ok_turned_span {k : Nat} (G : Gn mg) (F : Df K mg "turned_span" s_turned_span) (C_turned_half : ClTh P w K mg base k) : ClTs P w K mg base (k + 1) := by
  refine cl_of F sc_turned_span (fun _ _ _ _ _ _ us hl => match us, hl with | [_], _ => rfl) p1_len fun f cdv A outer s H E hr => ⟨_, (pss_one (ps_ret (pe_callTy (show CallR _ (.type "tuple") (zOf K) from call_tupZ) (by rfl) G.g_tuple (by decide +kernel) (pa_cons (pe_lc (own := [("end", 1)]) (g := gName 1) (tt := tYes) rfl sc_turned_span.nd (pi_tup (pv 0)) (blkOk_by (N := N_turned_span) (sc := defScope s_turned_span) (by decide +kernel)) (fun _ _ _ _ _ => pg_name (i := 1) sc_turned_span.nd rfl (Or.inl rfl)) (fun _ _ _ _ _ => pts_nil) (fun _ _ _ _ _ => (pe_c C_turned_half hr (by omega) (by rfl) (pa_cons (pv 1) pa_nil)))) pa_nil)))), fun B ds hp => ?_⟩
  obtain ⟨_, rfl, sp, rfl, hl⟩ := p1_ex hp
  show WS K B _ [.val (polyD sp), .no] _
  try dsimp only [cxOf, Cx.nox, Cx.blk]
  refine ws_ret (we_cb (wa_cons (we_lcA (xs := sp) Dl.pairD (fun p => Dl.pairD (Ad.ng p)) (by omega) (wi_tup (we_var rfl ⟨_, rfl, rfl⟩)) (fun p hm => ?_) (wa_nil (rc_tupZ ⟨sp, rfl, ?_⟩)))))
  · try dsimp only [List.set]
    refine we_call (wa_cons (we_var rfl (wa_nil ⟨⟨p, rfl⟩, ?_⟩)))
    rintro _ ⟨p', e, rfl⟩
    rw [pairD_inj (List.cons.inj e).1]
  · unfold polyD; rw [List.map_map]; rfl
theorem inArc_eq : inArc = Ad.inP := by
  funext sp d
  match sp with
  | [] => rfl
  | [_] => rfl
  | [_, _] => rfl
  | _ :: _ :: _ :: _ => rfl
theorem endF_eq (sps : List (List Pr2)) (o : Option Pr2) : endF sps o = Ad.endG Ad.inP sps o := by
  unfold endF Ad.endG
  rw [inArc_eq]
  cases o <;> rfl
theorem starts_eq (sps : List (List Pr2)) : startsOf sps = Ad.stG Ad.inP sps := by
  unfold startsOf Ad.stG
  congr 1
  funext sp
  exact endF_eq sps _
theorem stops_eq (sps : List (List Pr2)) : stopsOf sps = Ad.spG Ad.inP sps := by
  unfold stopsOf Ad.spG
  congr 1
  funext sp
  exact endF_eq sps _
theorem joinS_eq (sps : List (List Pr2)) : joinS sps = Ad.joG Ad.inP sps := by
  unfold joinS Ad.joG
  rw [starts_eq, stops_eq]
  generalize Ad.stG Ad.inP sps = u
  generalize Ad.spG Ad.inP sps = v
  cases u <;> cases v <;> rfl
theorem betw_eq (a b : Pr2) : betw a b = Ad.betG a b := rfl
/-- two spans that meet -/
def meetS (s t : List Pr2) : Bool := Ad.meG Ad.inP s t
abbrev s_spans_meet : Stmt := topS 20
abbrev N_spans_meet : List Str := ["span", "other"]
theorem sc_spans_meet : FnScope N_spans_meet ["span", "other"] (defScope s_spans_meet) := ⟨rfl, rfl, rfl, by decide +kernel, rfl, by decide +kernel, by decide +kernel⟩
abbrev ClSm (P : Program) (w : World) (K : PySem.W.Frag) (mg : Str → Option Value) (base : Heap) (k : Nat) := Cl P w K mg base k "spans_meet" s_spans_meet ["span", "other"] (SpD K (p2 fun a b => ∃ s t : List Pr2, a = polyD s ∧ b = polyD t ∧ SpOk s ∧ SpOk t) fun ds r => ∃ s t : List Pr2, ds = [polyD s, polyD t] ∧ r = .bl (meetS s t))
theorem ok_spans_meet {k : Nat} (G : Gn mg) (F : Df K mg "spans_meet" s_spans_meet) (C_in_span : ClIs P w K mg base k) : ClSm P w K mg base (k + 1) := by
  refine cl_of F sc_spans_meet (fun _ _ _ _ _ _ us hl => match us, hl with | [_, _], _ => rfl) p2_len fun f cdv A outer s H E hr => ⟨_, (pss_cons (ps_if (PW.pt (pw_or (pt_cmpR op_lt (pe_callB (show CallR _ (.builtin "len") (fun xs H Q => ∃ x n, xs = [x] ∧ LenV K x H n ∧ Q (.int n) H) from call_len) (by rfl) G.g_len (by decide +kernel) (pa_cons (pv 0) pa_nil)) pe_int (nomark _)) (pw_or1 (pt_cmpR op_lt (pe_callB (show CallR _ (.builtin "len") (fun xs H Q => ∃ x n, xs = [x] ∧ LenV K x H n ∧ Q (.int n) H) from call_len) (by rfl) G.g_len (by decide +kernel) (pa_cons (pv 1) pa_nil)) pe_int (nomark _))))) (pss_one (ps_ret pe_bl)) pss_nil)
      (pss_one (ps_ret (pe_or (pe_cmpR (op_eqD hr.units) (pe_ix (show IxR _ (rIxT K) from ix_tup) (pv 0) pe_int (fun _ _ => rfl)) (pe_ix (show IxR _ (rIxT K) from ix_tup) (pv 1) pe_int (fun _ _ => rfl)) (nomark _)) (pe_or (pe_c C_in_span hr (by omega) (by rfl) (pa_cons (pv 0) (pa_cons (pe_ix (show IxR _ (rIxT K) from ix_tup) (pv 1) pe_int (fun _ _ => rfl)) pa_nil))) (pe_one (pe_c C_in_span hr (by omega) (by rfl) (pa_cons (pv 1) (pa_cons (pe_ix (show IxR _ (rIxT K) from ix_tup) (pv 0) pe_int (fun _ _ => rfl)) pa_nil))))))))), fun B ds hp => ?_⟩
  obtain ⟨_, _, rfl, s, t, rfl, rfl, hs, ht⟩ := p2_ex hp
  show WS K B _ [.val (polyD s), .val (polyD t)] _
  try dsimp only [cxOf, Cx.nox, Cx.blk]
  have call : ∀ {X : Xc} {δ : List Sd} {i j : Nat} {u v : List Pr2} {d : Pr2} {Q : D → Prop}, δ[i]? = some (.val (polyD u)) → δ[j]? = some (.val (polyD (d :: v))) → SpOk u → SpOk (d :: v) → Q (.bl (inArc u d)) → WEx K B X (tCall (SpD K (p2 fun a b => ∃ (sp : List Pr2) (d : Pr2), a = polyD sp ∧ b = Dl.pairD d ∧ SpOk sp ∧ Upto 1000 d) fun ds r => ∃ (sp : List Pr2) (d : Pr2), ds = [polyD sp, Dl.pairD d] ∧ r = .bl (inArc sp d)) [] E0 (tCons (tVar i) (tCons (tOp (rIxT K) (tVar j) (tC (.int 0))) tNil))) δ Q := by
    intro X δ i j u v d Q hi hj hu hv h
    refine we_call (wa_cons (we_var hi (wa_cons (we_op (we_var hj (we_int (ro_ixT (d := Dl.pairD d) (atI_nat (j := 0) rfl) (wa_nil ⟨⟨u, d, rfl, rfl, hu, hv.2 d List.mem_cons_self⟩, ?_⟩))))))))
    rintro _ ⟨u', d', e, rfl⟩
    rw [← polyD_inj (List.cons.inj e).1, ← pairD_inj (List.cons.inj (List.cons.inj e).2).1]
    exact h
  have hl := hs.1
  have hl' := ht.1
  refine ws_seq (ws_if (wt_or (wt_test (we_op (we_cb (wa_cons (we_var rfl (wa_nil (rc_len (n := s.length) (by show some (s.map Dl.pairD).length = _; rw [List.length_map]) (by omega) (we_int (ro_bl0 ⟨_, rfl, ite2 (fun h => ?_) (fun h => ?_)⟩)))))))))))
  · have h2 := of_decide_eq_true h
    rw [if_pos rfl]
    refine ws_ret (we_bl ⟨s, t, rfl, ?_⟩)
    match s, h2 with
    | [], _ => cases t <;> rfl
    | [_], _ => cases t <;> rfl
    | _ :: _ :: _, h2 => simp at h2; omega
  have h2 : ¬ ((s.length : Int) < 2) := fun z => h (decide_eq_true z)
  refine wt_test (we_op (we_cb (wa_cons (we_var rfl (wa_nil (rc_len (n := t.length) (by show some (t.map Dl.pairD).length = _; rw [List.length_map]) (by omega) (we_int (ro_bl0 ⟨_, rfl, ite2 (fun h' => ?_) (fun h' => ?_)⟩))))))))
  · have h3 := of_decide_eq_true h'
    refine ws_ret (we_bl ⟨s, t, rfl, ?_⟩)
    match t, h3 with
    | [], _ => cases s <;> first | rfl | (rename_i s; cases s <;> rfl)
    | [_], _ => cases s <;> first | rfl | (rename_i s; cases s <;> rfl)
    | _ :: _ :: _, h3 => simp at h3; omega
  have h3 : ¬ ((t.length : Int) < 2) := fun z => h' (decide_eq_true z)
  match s, t, hs, ht, h2, h3 with
  | [], _, _, _, h2, _ => exact absurd (by decide) h2
  | [_], _, _, _, h2, _ => exact absurd (show ((1 : Nat) : Int) < 2 by decide) h2
  | _ :: _ :: _, [], _, _, _, h3 => exact absurd (by decide) h3
  | _ :: _ :: _, [_], _, _, _, h3 => exact absurd (show ((1 : Nat) : Int) < 2 by decide) h3
  | a :: b :: s, c :: d :: t, hs, ht, _, _ =>
    have e : meetS (a :: b :: s) (c :: d :: t) = (decide (a = c) || inArc (a :: b :: s) c || inArc (c :: d :: t) a) := by rw [inArc_eq]; rfl
    refine ws_next (ws_ret (we_orV (we_op (we_op (we_var rfl (we_int (ro_ixT (d := Dl.pairD a) (atI_nat (j := 0) rfl) ?_)))))))
    refine we_op (we_var rfl (we_int (ro_ixT (d := Dl.pairD c) (atI_nat (j := 0) rfl) ?_)))
    refine ro_eqPr ⟨_, rfl, ?_⟩
    by_cases h1 : a = c
    · rw [if_pos (decide_eq_true h1)]
      exact ⟨_, _, rfl, by rw [e, decide_eq_true h1]; rfl⟩
    rw [if_neg (by rw [decide_eq_false h1]; decide)]
    refine we_orV (call rfl rfl hs ht ⟨_, rfl, ?_⟩)
    cases q : inArc (a :: b :: s) c with
    | true =>
      rw [if_pos rfl]
      exact ⟨_, _, rfl, by rw [e, q, Bool.or_true]; rfl⟩
    | false =>
      rw [if_neg (by decide)]
      exact call rfl rfl ht hs ⟨_, _, rfl, by rw [e, q, decide_eq_false h1]; rfl⟩

end
/-! #### Ah -/
section
variable {P : Program} {w : World} {K : PySem.W.Frag} {mg : Str → Option Value} {base : Heap}
/-! ### ay -/
/-! ### NoJoining -/
abbrev s_NoJoining : Stmt := inClass (topS 4) 0
theorem sc_NoJoining : FnScope ["self"] ["self"] (defScope s_NoJoining) := ⟨rfl, rfl, rfl, by decide +kernel, rfl, by decide +kernel, by decide +kernel⟩
def mkNJ (_ : List V) : List (Str × V) := [("code", .str "NoJoining")]
abbrev RzNJ (P : Program) (w : World) (K : PySem.W.Frag) (mg : Str → Option Value) (base : Heap) (k : Nat) (C : Addr) := Rz P w K mg base k "NoJoining" C 0 mkNJ
theorem ok_NoJoining {k : Nat} {C : Addr} (E : Er K mg "NoJoining" "NoJoining.__init__" C s_NoJoining ["code"]) : RzNJ P w K mg base (k + 1) C :=
  rz0 E sc_NoJoining (fun _ _ _ _ _ _ us hl => match us, hl with | [_], _ => rfl) rfl (fun _ _ _ _ _ _ _ => rfl)
def excNJ (C : Addr) : Addr → List Str → List D → Prop := fun C' ks es => C' = C ∧ ks = [("code" : Str)] ∧ es = [.str "NoJoining"]
theorem ws_raiseNJ {B : Bt} {δ : List Sd} {O : Out} {C : Addr} (h : O.x.ex δ C [("code" : Str)] [.str "NoJoining"]) : WS K B (fun _ σ H => tMkO C (spIni C 0 mkNJ) [] tNil σ H fun cls d H' => O.x.W cls d σ H') δ O :=
  ws_raise (ks := [("code" : Str)]) (mkD := fun _ => [.str "NoJoining"]) (by decide) (fun _ _ => rfl) (fun _ _ => .cons (.str _) .nil) (wa_nil ⟨rfl, h⟩)
/-! ### what arcs hold -/
def WfS (sp : List Pr2) : Prop := sp = [] ∨ ∃ a b, sp = betw a b
def DrOk (sp : List Pr2) : Prop := WfS sp ∧ ∀ p ∈ sp, isDir (Dl.pairD p) = true
theorem WfS.len {sp : List Pr2} (h : WfS sp) : sp.length ≤ 2 := by
  rcases h with rfl | ⟨a, b, rfl⟩
  · exact Nat.zero_le _
  · unfold betw; split <;> simp
theorem WfS.ends {sp : List Pr2} (h : WfS sp) : endsSp sp = sp := by
  rcases h with rfl | ⟨a, b, rfl⟩
  · rfl
  · exact endsSp_betw a b
theorem ng_inj {a b : Pr2} (h : Ad.ng a = Ad.ng b) : a = b := by rw [← Ad.ng_ng a, h, Ad.ng_ng]
theorem WfS.ng {sp : List Pr2} (h : WfS sp) : WfS (sp.map Ad.ng) := by
  rcases h with rfl | ⟨a, b, rfl⟩
  · exact .inl rfl
  · refine .inr ⟨Ad.ng a, Ad.ng b, ?_⟩
    unfold betw
    by_cases e : a = b
    · rw [if_pos e, if_pos (by rw [e])]; rfl
    · rw [if_neg e, if_neg fun z => e (ng_inj z)]; rfl
theorem DrOk.sp {sp : List Pr2} (h : DrOk sp) : SpOk sp := ⟨h.1.len, fun p hp => upto_le (isDir_iff.mp (h.2 p hp)).1 (by decide)⟩
theorem isDir_ng {p : Pr2} (h : isDir (Dl.pairD p) = true) : isDir (Dl.pairD (Ad.ng p)) = true := by
  obtain ⟨⟨h1, h2, h3, h4⟩, hd⟩ := isDir_iff.mp h
  refine isDir_iff.mpr ⟨⟨?_, ?_, ?_, ?_⟩, Ad.isD_ng hd⟩
  · show -999 ≤ -p.1; omega
  · show -p.1 ≤ 999; omega
  · show -999 ≤ -p.2; omega
  · show -p.2 ≤ 999; omega
theorem DrOk.ng {sp : List Pr2} (h : DrOk sp) : DrOk (sp.map Ad.ng) := ⟨h.1.ng, fun p hp => by
  obtain ⟨q, hq, rfl⟩ := List.mem_map.mp hp
  exact isDir_ng (h.2 q hq)⟩
theorem DrOk.jo {s t : List Pr2} (hs : DrOk s) (ht : DrOk t) : DrOk (joinS [s, t]) := by
  rw [joinS_eq]
  refine ⟨?_, fun p hp => ?_⟩
  · rcases Ad.jo_form (I := Ad.inP) (sps := [s, t]) with e | ⟨a, b, e⟩
    · exact .inl e
    · exact .inr ⟨a, b, e⟩
  · obtain ⟨u, hu, h⟩ := Ad.jo_mem hp
    simp at hu
    rcases hu with rfl | rfl
    · exact hs.2 p h
    · exact ht.2 p h
/-- joined_span may be asked of these two -/
def Jn2 (s t : List Pr2) : Prop := meetS s t = true → startsOf [s, t] ≠ [] → stopsOf [s, t] ≠ []
theorem jnok {s t : List Pr2} (hs : DrOk s) (ht : DrOk t) (h : Jn2 s t) (hm : meetS s t = true) : JnOk [s, t] := ⟨by show 2 ≤ 1000; decide, fun u hu => by
  simp at hu
  rcases hu with rfl | rfl
  · exact hs.sp
  · exact ht.sp, h hm⟩
/-! ### Arc's methods, the rest -/
abbrev s_Arc___contains__ : Stmt := inClass (topS 24) 6
abbrev N_Arc___contains__ : List Str := ["self", "direction"]
theorem sc_Arc___contains__ : FnScope N_Arc___contains__ ["self", "direction"] (defScope s_Arc___contains__) := ⟨rfl, rfl, rfl, by decide +kernel, rfl, by decide +kernel, by decide +kernel⟩
def aconPre (CA : Addr) : List D → Prop := p2 fun a d => sm d = true ∧ ∃ sp, a = arcD CA sp ∧ DrOk sp
def aconPost (CA : Addr) : List D → D → Prop := fun ds r => ∃ sp d, ds = [arcD CA sp, d] ∧ ((isDir d = false ∧ r = .bl false) ∨ ∃ p : Pr2, d = Dl.pairD p ∧ isDir d = true ∧ r = .bl (inArc sp p))
theorem ok_Arc___contains__ {k : Nat} {CA CN f : Addr} {fd : FuncData} (G : Gn mg) (MG : AcT K mg CA CN) (F : Fun K "__contains__" "Arc.__contains__" s_Arc___contains__ f fd) (C_is_direction : ClB P w K mg base k "is_direction" s_is_direction "value" isDir) (C_in_span : ClIs P w K mg base k) : ClM P w K mg base (k + 1) f fd ["self", "direction"] (SpD K (aconPre CA) (aconPost CA)) := by
  refine clm_of F sc_Arc___contains__ (fun _ _ _ _ _ _ us hl => match us, hl with | [_, _], _ => rfl) p2_len fun cdv A outer s H E hr => ⟨_, (pss_one (ps_ret (pe_and (pe_c C_is_direction hr (by omega) (by rfl) (pa_cons (pv 1) pa_nil)) (pe_one (pe_c C_in_span hr (by omega) (by rfl) (pa_cons (pe_fld (pv 0) rfl) (pa_cons (pv 1) pa_nil))))))), fun B ds hp => ?_⟩
  obtain ⟨_, d, rfl, hsm, sp, rfl, hd⟩ := p2_ex hp
  show WS K B _ [.val (arcD CA sp), .val d] _
  refine ws_ret (we_andV (we_call (wa_cons (we_var rfl (wa_nil ⟨hsm, ?_⟩)))))
  rintro _ rfl
  refine ⟨_, rfl, ?_⟩
  by_cases h : isDir d = true
  · rw [if_pos h]
    obtain ⟨p, rfl, hu, hi⟩ := isDir_ex h
    refine we_call (wa_cons (we_spn MG (we_var rfl ⟨rfl, wa_cons (we_var rfl (wa_nil ⟨⟨sp, p, rfl, rfl, hd.sp, upto_le hu (by decide)⟩, ?_⟩))⟩)))
    rintro _ ⟨sp', p', e, rfl⟩
    rw [← polyD_inj (List.cons.inj e).1, ← pairD_inj (List.cons.inj (List.cons.inj e).2).1]
    exact ⟨sp, _, rfl, .inr ⟨p, rfl, h, rfl⟩⟩
  · rw [if_neg h]
    exact ⟨sp, d, rfl, .inl ⟨Bool.eq_false_iff.mpr h, rfl⟩⟩
abbrev s_Arc_turned : Stmt := inClass (topS 24) 7
abbrev N_Arc_turned : List Str := ["self"]
theorem sc_Arc_turned : FnScope N_Arc_turned ["self"] (defScope s_Arc_turned) := ⟨rfl, rfl, rfl, by decide +kernel, rfl, by decide +kernel, by decide +kernel⟩
def aturPre (CA : Addr) : List D → Prop := p1 fun a => ∃ sp, a = arcD CA sp ∧ DrOk sp
def aturPost (CA : Addr) : List D → D → Prop := fun ds r => ∃ sp, ds = [arcD CA sp] ∧ r = arcD CA (sp.map Ad.ng)
theorem ok_Arc_turned {k : Nat} {CA CN f : Addr} {fd : FuncData} (G : Gn mg) (MG : AcT K mg CA CN) (F : Fun K "turned" "Arc.turned" s_Arc_turned f fd) (C_turned_span : ClTs P w K mg base k) (C_arc_with : ClAw P w K mg base CA k) : ClM P w K mg base (k + 1) f fd ["self"] (SpD K (aturPre CA) (aturPost CA)) := by
  refine clm_of F sc_Arc_turned (fun _ _ _ _ _ _ us hl => match us, hl with | [_], _ => rfl) p1_len fun cdv A outer s H E hr => ⟨_, (pss_one (ps_ret (pe_c C_arc_with hr (by omega) (by rfl) (pa_cons (pe_c C_turned_span hr (by omega) (by rfl) (pa_cons (pe_fld (pv 0) rfl) pa_nil)) pa_nil)))), fun B ds hp => ?_⟩
  obtain ⟨_, rfl, sp, rfl, hd⟩ := p1_ex hp
  show WS K B _ [.val (arcD CA sp)] _
  refine ws_ret (we_call (wa_cons (we_call (wa_cons (we_spn MG (we_var rfl ⟨rfl, wa_nil ⟨⟨sp, rfl, hd.1.len⟩, ?_⟩⟩))))))
  rintro _ ⟨sp', e, rfl⟩
  rw [← polyD_inj (List.cons.inj e).1]
  refine wa_nil ⟨⟨_, rfl, by rw [List.length_map]; exact hd.1.len, fun p hp => ⟨hd.ng.2 p hp, rfl⟩⟩, ?_⟩
  rintro _ ⟨sp2, e2, rfl⟩
  rw [← polyD_inj (List.cons.inj e2).1, hd.ng.1.ends]
  exact ⟨sp, rfl, rfl⟩
theorem we_spn2 {B : Bt} {X : Xc} {δ : List Sd} {CA CN : Addr} {te te' : TE} {s t : List Pr2} {Q : D → Prop} (MG : AcT K mg CA CN) (h : WEx K B X te δ fun d => d = arcD CA s) (h' : WEx K B X te' δ fun d => d = arcD CA t) (q : Q (.lst ([s, t].map polyD))) : WEx K B X (tLst (tCons (tFld K te "_span") (tCons (tFld K te' "_span") tNil))) δ Q :=
  we_lst (wa_cons (we_spn MG (wex_mono h fun d e => ⟨e, wa_cons (we_spn MG (wex_mono h' fun d e => ⟨e, wa_nil ⟨by show 2 ≤ 1000; decide, q⟩⟩))⟩)))
abbrev s_Arc_covers : Stmt := inClass (topS 24) 8
abbrev N_Arc_covers : List Str := ["self", "other"]
theorem sc_Arc_covers : FnScope N_Arc_covers ["self", "other"] (defScope s_Arc_covers) := ⟨rfl, rfl, rfl, by decide +kernel, rfl, by decide +kernel, by decide +kernel⟩
def acovPre (CA : Addr) : List D → Prop := p2 fun a b => ∃ s t, a = arcD CA s ∧ b = arcD CA t ∧ DrOk s ∧ DrOk t ∧ Jn2 s t
def acovPost (CA : Addr) : List D → D → Prop := fun ds r => ∃ s t, ds = [arcD CA s, arcD CA t] ∧ r = .bl (meetS s t && decide (joinS [s, t] = s))
theorem ok_Arc_covers {k : Nat} {CA CN f : Addr} {fd : FuncData} (G : Gn mg) (MG : AcT K mg CA CN) (F : Fun K "covers" "Arc.covers" s_Arc_covers f fd) (C_spans_meet : ClSm P w K mg base k) (C_joined_span : ClJs P w K mg base k) : ClM P w K mg base (k + 1) f fd ["self", "other"] (SpD K (acovPre CA) (acovPost CA)) := by
  refine clm_of F sc_Arc_covers (fun _ _ _ _ _ _ us hl => match us, hl with | [_, _], _ => rfl) p2_len fun cdv A outer s H E hr => ⟨_, (pss_one (ps_ret (pe_and (pe_c C_spans_meet hr (by omega) (by rfl) (pa_cons (pe_fld (pv 0) rfl) (pa_cons (pe_fld (pv 1) rfl) pa_nil))) (pe_one (pe_cmpR (op_eqD hr.units) (pe_c C_joined_span hr (by omega) (by rfl) (pa_cons (pe_lst (pa_cons (pe_fld (pv 0) rfl) (pa_cons (pe_fld (pv 1) rfl) pa_nil))) pa_nil)) (pe_fld (pv 0) rfl) (nomark _)))))), fun B ds hp => ?_⟩
  obtain ⟨_, _, rfl, s, t, rfl, rfl, hs, ht, hj⟩ := p2_ex hp
  show WS K B _ [.val (arcD CA s), .val (arcD CA t)] _
  refine ws_ret (we_andV (we_call (wa_cons (we_spn MG (we_var rfl ⟨rfl, wa_cons (we_spn MG (we_var rfl ⟨rfl, wa_nil ⟨⟨s, t, rfl, rfl, hs.sp, ht.sp⟩, ?_⟩⟩))⟩)))))
  rintro _ ⟨s', t', e, rfl⟩
  rw [← polyD_inj (List.cons.inj e).1, ← polyD_inj (List.cons.inj (List.cons.inj e).2).1]
  refine ⟨_, rfl, ?_⟩
  cases q : meetS s t with
  | false =>
    rw [if_neg (by decide)]
    exact ⟨s, t, rfl, by rw [q]; rfl⟩
  | true =>
    rw [if_pos rfl]
    refine we_op (we_call (wa_cons (we_spn2 MG (we_var rfl rfl) (we_var rfl rfl) (wa_nil ⟨⟨[s, t], rfl, jnok hs ht hj q⟩, ?_⟩))))
    rintro _ ⟨sps, e2, rfl⟩
    rw [← lst_poly_inj (List.cons.inj e2).1]
    refine we_spn MG (we_var rfl ⟨rfl, ro_eqPs ⟨s, t, rfl, ?_⟩⟩)
    rw [q, Bool.true_and]
abbrev s_Arc___or__ : Stmt := inClass (topS 24) 9
abbrev N_Arc___or__ : List Str := ["self", "other"]
theorem sc_Arc___or__ : FnScope N_Arc___or__ ["self", "other"] (defScope s_Arc___or__) := ⟨rfl, rfl, rfl, by decide +kernel, rfl, by decide +kernel, by decide +kernel⟩
def aorPre (K : PySem.W.Frag) (CA : Addr) : List D → Prop := p2 fun a d => ∃ s, a = arcD CA s ∧ DrOk s ∧ ((∃ t, d = arcD CA t ∧ DrOk t ∧ Jn2 s t) ∨ ((∀ t, d ≠ arcD CA t) ∧ d.isCls = false ∧ PySem.W.kitOne K (.type d.tyn) (.ref CA) = some false))
def aorPost (CA : Addr) : List D → D → Prop := fun ds r => ∃ s t, ds = [arcD CA s, arcD CA t] ∧ meetS s t = true ∧ r = arcD CA (joinS [s, t])
def aorExc (CA CJ : Addr) : List D → Addr → List Str → List D → Prop := fun ds C' ks es => excNJ CJ C' ks es ∧ ∀ s t, ds = [arcD CA s, arcD CA t] → meetS s t = false
theorem ok_Arc___or__ {k : Nat} {CA CN CJ f : Addr} {fd : FuncData} (G : Gn mg) (MG : AcT K mg CA CN) (F : Fun K "__or__" "Arc.__or__" s_Arc___or__ f fd) (R_NoJoining : RzNJ P w K mg base k CJ) (C_spans_meet : ClSm P w K mg base (k + 1)) (C_joined_span : ClJs P w K mg base (k + 1)) (C_arc_with : ClAw P w K mg base CA (k + 1)) : ClMz P w K mg base (k + 1 + 1) f fd ["self", "other"] (SpX K (aorPre K CA) (aorPost CA) (aorExc CA CJ)) := by
  refine clmx_of F sc_Arc___or__ (fun _ _ _ _ _ _ us hl => match us, hl with | [_, _], _ => rfl) p2_len fun cdv A outer s H E hr => ⟨_, (pss_cons (ps_if (PW.pt (pw_or (pt_not (pt_val (pe_callB (show CallR _ (.builtin "isinstance") (rIsi K) from call_isi) (by rfl) G.g_isinstance (by decide +kernel) (pa_cons (pv 1) (pa_cons (pe_glob (v := .ref CA) (by rfl) MG.m_Arc rfl) pa_nil))))) (pw_or1 (pt_not (pt_val (pe_c C_spans_meet hr (by omega) (by rfl) (pa_cons (pe_fld (pv 0) rfl) (pa_cons (pe_fld (pv 1) rfl) pa_nil)))))))) (pss_one (Dl.ps_rz0 R_NoJoining (takes_of rfl rfl rfl rfl) rfl hr (by omega) (by rfl))) pss_nil)
      (pss_one (ps_ret (pe_c C_arc_with hr (by omega) (by rfl) (pa_cons (pe_c C_joined_span hr (by omega) (by rfl) (pa_cons (pe_lst (pa_cons (pe_fld (pv 0) rfl) (pa_cons (pe_fld (pv 1) rfl) pa_nil))) pa_nil)) pa_nil))))), fun B ds hp => ?_⟩
  obtain ⟨_, d, rfl, s, rfl, hs, hd⟩ := p2_ex hp
  show WS K B _ [.val (arcD CA s), .val d] _
  rcases hd with ⟨t, rfl, ht, hj⟩ | ⟨hn, hc, hk⟩
  · refine ws_seq (ws_if (wt_or (wt_not (wt_B (we_cb (wa_cons (we_var rfl (wa_cons (we_adr (wa_nil (rc_isiO (tyA MG) MG.ka ⟨_, rfl, ?_⟩)))))))))))
    rw [if_neg (by decide)]
    refine wt_not (wt_B (we_call (wa_cons (we_spn MG (we_var rfl ⟨rfl, wa_cons (we_spn MG (we_var rfl ⟨rfl, wa_nil ⟨⟨s, t, rfl, rfl, hs.sp, ht.sp⟩, ?_⟩⟩))⟩)))))
    rintro _ ⟨s', t', e, rfl⟩
    rw [← polyD_inj (List.cons.inj e).1, ← polyD_inj (List.cons.inj (List.cons.inj e).2).1]
    refine ⟨_, rfl, ?_⟩
    cases q : meetS s t with
    | false =>
      rw [if_pos (by decide)]
      refine ws_raiseNJ ⟨⟨rfl, rfl, rfl⟩, fun s2 t2 e2 => ?_⟩
      have a1 := polyD_inj (List.cons.inj (D.obj.inj (List.cons.inj e2).1).2.2).1
      have a2 := polyD_inj (List.cons.inj (D.obj.inj (List.cons.inj (List.cons.inj e2).2).1).2.2).1
      rw [← a1, ← a2]
      exact q
    | true =>
      rw [if_neg (by decide)]
      refine ws_next (ws_ret (we_call (wa_cons (we_call (wa_cons (we_spn2 MG (we_var rfl rfl) (we_var rfl rfl) (wa_nil ⟨⟨[s, t], rfl, jnok hs ht hj q⟩, ?_⟩)))))))
      rintro _ ⟨sps, e2, rfl⟩
      rw [← lst_poly_inj (List.cons.inj e2).1]
      have hjo := DrOk.jo hs ht
      refine wa_nil ⟨⟨_, rfl, hjo.1.len, fun p hp => ⟨hjo.2 p hp, rfl⟩⟩, ?_⟩
      rintro _ ⟨sp2, e3, rfl⟩
      rw [← polyD_inj (List.cons.inj e3).1, hjo.1.ends]
      exact ⟨s, t, rfl, q, rfl⟩
  · refine ws_seq (ws_if (wt_or (wt_not (wt_B (we_cb (wa_cons (we_var rfl (wa_cons (we_adr (wa_nil (rc_isiO (fun G H v o h => h.tyx o hc) hk ⟨_, rfl, ?_⟩)))))))))))
    rw [if_pos (by decide), if_pos (by decide)]
    exact ws_raiseNJ ⟨⟨rfl, rfl, rfl⟩, fun s2 t2 e2 => absurd (List.cons.inj (List.cons.inj e2).2).1 (hn t2)⟩

end
/-! #### Ai -/
section
variable {P : Program} {w : World} {K : PySem.W.Frag} {mg : Str → Option Value} {base : Heap}
/-! ### ad -/
/-! ### the law's own directions -/
abbrev s__law_cross : Stmt := topS 33
abbrev N__law_cross : List Str := ["_law_p", "_law_q"]
theorem sc__law_cross : FnScope N__law_cross ["_law_p", "_law_q"] (defScope s__law_cross) := ⟨rfl, rfl, rfl, by decide +kernel, rfl, by decide +kernel, by decide +kernel⟩
abbrev ClLx (P : Program) (w : World) (K : PySem.W.Frag) (mg : Str → Option Value) (base : Heap) (k : Nat) := Cl P w K mg base k "_law_cross" s__law_cross ["_law_p", "_law_q"] (SpD K (p2 fun a b => ∃ p q : Pr2, a = Dl.pairD p ∧ b = Dl.pairD q ∧ Upto 100000000 p ∧ Upto 100000000 q) fun ds r => ∃ p q : Pr2, ds = [Dl.pairD p, Dl.pairD q] ∧ r = .int (Ad.cr p q))
theorem ok__law_cross {k : Nat} (F : Df K mg "_law_cross" s__law_cross) : ClLx P w K mg base (k + 1) := by
  refine cl_of F sc__law_cross (fun _ _ _ _ _ _ us hl => match us, hl with | [_, _], _ => rfl) p2_len fun f cdv A outer s H E hr => ⟨_, (pss_one (ps_ret (pe_op op_sub (pe_op op_mul (pe_ix (show IxR _ (rIxT K) from ix_tup) (pv 0) pe_int (fun _ _ => rfl)) (pe_ix (show IxR _ (rIxT K) from ix_tup) (pv 1) pe_int (fun _ _ => rfl))) (pe_op op_mul (pe_ix (show IxR _ (rIxT K) from ix_tup) (pv 0) pe_int (fun _ _ => rfl)) (pe_ix (show IxR _ (rIxT K) from ix_tup) (pv 1) pe_int (fun _ _ => rfl)))))), fun B ds hp => ?_⟩
  obtain ⟨_, _, rfl, p, q, rfl, rfl, ⟨h1, h2, h3, h4⟩, ⟨h5, h6, h7, h8⟩⟩ := p2_ex hp
  show WS K B _ [.val (Dl.pairD p), .val (Dl.pairD q)] _
  try dsimp only [cxOf, Cx.nox, Cx.blk]
  repeat walk_at "dl"
  refine ix0 ?_
  repeat walk_at "dl"
  refine ix1 ?_
  refine ro_int (.inl ⟨by omega, by omega⟩) ?_
  repeat walk_at "dl"
  refine ix1 ?_
  repeat walk_at "dl"
  refine ix0 ?_
  refine ro_int (.inl ⟨by omega, by omega⟩) ?_
  repeat walk_at "dl"
  first | rfl | exact ⟨p, q, rfl, rfl⟩
theorem we_crs {B : Bt} {X : Xc} {δ : List Sd} {te tf : TE} {p q : Pr2} {Q : D → Prop} {n : Int} (hp : Upto n p) (hq : Upto n q) (hn : n ≤ 100000000) (h : WEx K B X te δ (· = Dl.pairD p)) (h' : WEx K B X tf δ (· = Dl.pairD q)) (w : Q (.int (Ad.cr p q))) : WEx K B X (tCall (SpD K (p2 fun a b => ∃ p q : Pr2, a = Dl.pairD p ∧ b = Dl.pairD q ∧ Upto 100000000 p ∧ Upto 100000000 q) fun ds r => ∃ p q : Pr2, ds = [Dl.pairD p, Dl.pairD q] ∧ r = .int (Ad.cr p q)) [] E0 (tCons te (tCons tf tNil))) δ Q := by
  refine we_call (wa_cons (wex_mono h fun d e => ?_))
  subst e
  refine wa_cons (wex_mono h' fun d e => ?_)
  subst e
  refine wa_nil ⟨⟨p, q, rfl, rfl, upto_le hp hn, upto_le hq hn⟩, ?_⟩
  rintro _ ⟨p', q', e, rfl⟩
  rw [← pairD_inj (List.cons.inj e).1, ← pairD_inj (List.cons.inj (List.cons.inj e).2).1]
  exact w
abbrev s__law_half : Stmt := topS 34
abbrev N__law_half : List Str := ["_law_d"]
theorem sc__law_half : FnScope N__law_half ["_law_d"] (defScope s__law_half) := ⟨rfl, rfl, rfl, by decide +kernel, rfl, by decide +kernel, by decide +kernel⟩
abbrev ClHf (P : Program) (w : World) (K : PySem.W.Frag) (mg : Str → Option Value) (base : Heap) (k : Nat) := Cl P w K mg base k "_law_half" s__law_half ["_law_d"] (SpD K (p1 fun d => ∃ p : Pr2, d = Dl.pairD p) fun ds r => ∃ p : Pr2, ds = [Dl.pairD p] ∧ r = Dl.pairD (Ad.ng p))
theorem ok__law_half {k : Nat} (F : Df K mg "_law_half" s__law_half) : ClHf P w K mg base (k + 1) := by
  refine cl_of F sc__law_half (fun _ _ _ _ _ _ us hl => match us, hl with | [_], _ => rfl) p1_len fun f cdv A outer s H E hr => ⟨_, (pss_one (ps_ret (pe_tupZ (pa_cons (pe_op op_sub pe_int (pe_ix (show IxR _ (rIxT K) from ix_tup) (pv 0) pe_int (fun _ _ => rfl))) (pa_cons (pe_op op_sub pe_int (pe_ix (show IxR _ (rIxT K) from ix_tup) (pv 0) pe_int (fun _ _ => rfl))) pa_nil))))), fun B ds hp => ?_⟩
  obtain ⟨_, rfl, p, rfl⟩ := p1_ex hp
  show WS K B _ [.val (Dl.pairD p)] _
  try dsimp only [cxOf, Cx.nox, Cx.blk]
  repeat walk_at "dl"
  refine ix0 ?_
  repeat walk_at "dl"
  refine ix1 ?_
  repeat walk_at "dl"
  first | exact ⟨p, rfl, by show D.tup [.int (0 - p.1), .int (0 - p.2)] = _; rw [Int.zero_sub, Int.zero_sub]; rfl⟩ | (show D.tup [.int (0 - p.1), .int (0 - p.2)] = _; rw [Int.zero_sub, Int.zero_sub]; rfl)
abbrev s__law_reduced : Stmt := topS 35
abbrev N__law_reduced : List Str := ["_law_v", "_law_a", "_law_b"]
theorem sc__law_reduced : FnScope N__law_reduced ["_law_v"] (defScope s__law_reduced) := ⟨rfl, rfl, rfl, by decide +kernel, rfl, by decide +kernel, by decide +kernel⟩
abbrev ClRd (P : Program) (w : World) (K : PySem.W.Frag) (mg : Str → Option Value) (base : Heap) (k : Nat) := Cl P w K mg base k "_law_reduced" s__law_reduced ["_law_v"] (SpD K (p1 fun d => ∃ p : Pr2, d = Dl.pairD p ∧ p ≠ (0, 0) ∧ Upto 1000000 p) fun ds r => ∃ p : Pr2, ds = [Dl.pairD p] ∧ r = Dl.pairD (Ad.red p))
theorem gc_le {p : Pr2} {n : Nat} (h : p ≠ (0, 0)) (hu : Upto n p) : Ad.gc p ≤ n := by
  obtain ⟨h1, h2, h3, h4⟩ := hu
  by_cases e : p.1 = 0
  · have : p.2.natAbs ≠ 0 := fun z => h (Prod.ext e (by show p.2 = 0; omega))
    exact Nat.le_trans (Nat.le_of_dvd (by omega) (Nat.gcd_dvd_right ..)) (by omega)
  · exact Nat.le_trans (Nat.le_of_dvd (by omega) (Nat.gcd_dvd_left ..)) (by omega)
theorem ok__law_reduced {k : Nat} (G : Gn mg) (F : Df K mg "_law_reduced" s__law_reduced) : ClRd P w K mg base (k + 1) := by
  refine cl_of F sc__law_reduced (fun _ _ _ _ _ _ us hl => match us, hl with | [_], _ => rfl) p1_len fun f cdv A outer s H E hr => ⟨_, (pss_cons (ps_par (i := 1) (j := 2) (by rfl) sc__law_reduced.nd rfl rfl (by decide) rfl rfl (pa_cons (pe_callB call_abs (by rfl) G.g_abs (by decide +kernel) (pa_cons (pe_ix (show IxR _ (rIxT K) from ix_tup) (pv 0) pe_int (fun _ _ => rfl)) pa_nil)) (pa_cons (pe_callB call_abs (by rfl) G.g_abs (by decide +kernel) (pa_cons (pe_ix (show IxR _ (rIxT K) from ix_tup) (pv 0) pe_int (fun _ _ => rfl)) pa_nil)) pa_nil)) (by rfl))
      (pss_cons (ps_while PassesOwn.never (pt_cmpR op_ne (pv 2) pe_int (nomark _)) (pss_one (ps_par (i := 1) (j := 2) (by rfl) sc__law_reduced.nd rfl rfl (by decide) rfl rfl (pa_cons (pv 2) (pa_cons (pe_op op_modN (pe_callTy call_int1 (by rfl) G.g_int (by decide +kernel) (pa_cons (pv 1) pa_nil)) (pv 2)) pa_nil)) (by rfl))))
      (pss_one (ps_ret (pe_tupZ (pa_cons (pe_op op_fdivN (pe_ix (show IxR _ (rIxT K) from ix_tup) (pv 0) pe_int (fun _ _ => rfl)) (pv 1)) (pa_cons (pe_op op_fdivN (pe_ix (show IxR _ (rIxT K) from ix_tup) (pv 0) pe_int (fun _ _ => rfl)) (pv 1)) pa_nil))))))), fun B ds hp => ?_⟩
  obtain ⟨_, rfl, p, rfl, hz, hu⟩ := p1_ex hp
  have g0 := Ad.gc_pos hz
  have gl := gc_le (n := 1000000) hz hu
  show WS K B _ [.val (Dl.pairD p), .no, .no] _
  try dsimp only [cxOf, Cx.nox, Cx.blk]
  repeat walk_at "dl"
  refine ix0 ?_
  repeat walk_at "dl"
  refine ix1 ?_
  repeat walk_at "dl"
  rw [abs_nat, abs_nat]
  refine ws_while (fun m δ1 => ∃ h l : Nat, δ1 = [.val (Dl.pairD p), .val (.int h), .val (.int l)] ∧ Nat.gcd l h = Ad.gc p ∧ m = l) ⟨_, _, _, rfl, Nat.gcd_comm .., rfl⟩ ?_
  rintro m δ1 ⟨h, l, rfl, hg, rfl⟩
  repeat walk_at "dl"
  refine ite2 (fun h0 => ?_) (fun h0 => ?_)
  · have h1 : ¬ (m : Int) = 0 := by simpa using h0
    repeat walk_at "dl"
    refine ro_int h1 ?_
    repeat walk_at "dl"
    refine ⟨h % m, Nat.mod_lt _ (by omega), m, h % m, ?_, ?_, rfl⟩
    · have e : Int.fmod (h : Int) (m : Int) = ((h % m : Nat) : Int) := by
        rw [Int.fmod_eq_emod_of_nonneg _ (by omega)]
        rfl
      rw [e]
      rfl
    · rw [← hg]
      exact (Nat.gcd_rec m h).symm
  · have h1 : (m : Int) = 0 := by simpa using h0
    have h2 : m = 0 := by omega
    subst h2
    rw [Nat.gcd_zero_left] at hg
    subst hg
    have g1 : CDivN p.1 ((Ad.gc p : Nat) : Int) ∧ CDivN p.2 ((Ad.gc p : Nat) : Int) := ⟨⟨by omega, by omega⟩, ⟨by omega, by omega⟩⟩
    repeat walk_at "dl"
    refine ix0 ?_
    repeat walk_at "dl"
    refine ro_int g1.1 ?_
    repeat walk_at "dl"
    refine ix1 ?_
    repeat walk_at "dl"
    refine ro_int g1.2 ?_
    repeat walk_at "dl"
    first | exact ⟨p, rfl, rfl⟩ | rfl
theorem we_red {B : Bt} {X : Xc} {δ : List Sd} {te : TE} {p : Pr2} {Q : D → Prop} (hz : p ≠ (0, 0)) (hu : Upto 1000000 p) (h : WEx K B X te δ (· = Dl.pairD p)) (w : Q (Dl.pairD (Ad.red p))) : WEx K B X (tCall (SpD K (p1 fun d => ∃ p : Pr2, d = Dl.pairD p ∧ p ≠ (0, 0) ∧ Upto 1000000 p) fun ds r => ∃ p : Pr2, ds = [Dl.pairD p] ∧ r = Dl.pairD (Ad.red p)) [] E0 (tCons te tNil)) δ Q := by
  refine we_call (wa_cons (wex_mono h fun d e => ?_))
  subst e
  refine wa_nil ⟨⟨p, rfl, hz, hu⟩, ?_⟩
  rintro _ ⟨p', e, rfl⟩
  rw [← pairD_inj (List.cons.inj e).1]
  exact w
abbrev s__law_ahead : Stmt := topS 36
abbrev N__law_ahead : List Str := ["_law_d", "_law_e", "_law_low", "_law_high"]
theorem sc__law_ahead : FnScope N__law_ahead ["_law_d", "_law_e"] (defScope s__law_ahead) := ⟨rfl, rfl, rfl, by decide +kernel, rfl, by decide +kernel, by decide +kernel⟩
abbrev ClAh (P : Program) (w : World) (K : PySem.W.Frag) (mg : Str → Option Value) (base : Heap) (k : Nat) := Cl P w K mg base k "_law_ahead" s__law_ahead ["_law_d", "_law_e"] (SpD K (p2 fun a b => ∃ p q : Pr2, a = Dl.pairD p ∧ b = Dl.pairD q ∧ Upto 1000000 p ∧ Upto 1000000 q) fun ds r => ∃ p q : Pr2, ds = [Dl.pairD p, Dl.pairD q] ∧ r = .bl (Ad.lt p q))
theorem we_sec {B : Bt} {X : Xc} {δ : List Sd} {i : Nat} {p : Pr2} {Q : D → Prop} (hi : δ[i]? = some (.val (Dl.pairD p))) (h : Q (.int (if Rm.sec p.1 p.2 = true then 1 else 0))) :
    WEx K B X (tCB (fun xs H Q => (∃ i, xs = [.int i] ∧ Q (.int i) H) ∨ ∃ k, xs = [.bl k] ∧ Q (.int (if k then 1 else 0)) H) (tCons (tOrV (tOp (rI0 fun i j => .bl (decide (i < j))) (tOp (rIxT K) (tVar i) (tC (.int 1))) (tC (.int 0))) (tAndV (tOp rEq (tOp (rIxT K) (tVar i) (tC (.int 1))) (tC (.int 0))) (tOp (rI0 fun i j => .bl (decide (i < j))) (tOp (rIxT K) (tVar i) (tC (.int 0))) (tC (.int 0))))) tNil)) δ Q := by
  have fin : ∀ {b : Bool}, b = Rm.sec p.1 p.2 → WAx K B X tNil δ fun ds => RC K B (fun xs H Q => (∃ i, xs = [V.int i] ∧ Q (.int i) H) ∨ ∃ k, xs = [V.bl k] ∧ Q (.int (if k then 1 else 0)) H) (.bl b :: ds) Q := fun e => wa_nil (rc_intB (by rw [e]; exact h))
  refine we_cb (wa_cons (we_orV (we_op (we_op (we_var hi (we_int (ix1 (we_int (ro_bl0 ⟨_, rfl, ?_⟩)))))))))
  by_cases h1 : p.2 < 0
  · rw [if_pos (decide_eq_true h1)]
    exact fin (by unfold Rm.sec; rw [decide_eq_true h1]; rfl)
  rw [if_neg (by rw [decide_eq_false h1]; decide)]
  refine we_andV (we_op (we_op (we_var hi (we_int (ix1 (we_int (ro_eqI ⟨_, rfl, ?_⟩)))))))
  by_cases h2 : p.2 = 0
  · rw [if_pos (decide_eq_true h2)]
    refine we_op (we_op (we_var hi (we_int (ix0 (we_int (ro_bl0 (fin ?_)))))))
    unfold Rm.sec
    rw [decide_eq_false h1, decide_eq_true h2]
    rfl
  · rw [if_neg (by rw [decide_eq_false h2]; decide)]
    exact fin (by unfold Rm.sec; rw [decide_eq_false h1, decide_eq_false h2]; rfl)
theorem ok__law_ahead {k : Nat} (G : Gn mg) (F : Df K mg "_law_ahead" s__law_ahead) (C__law_cross : ClLx P w K mg base k) : ClAh P w K mg base (k + 1) := by
  refine cl_of F sc__law_ahead (fun _ _ _ _ _ _ us hl => match us, hl with | [_, _], _ => rfl) p2_len fun f cdv A outer s H E hr => ⟨_, (pss_cons (ps_par (i := 2) (j := 3) (by rfl) sc__law_ahead.nd rfl rfl (by decide) rfl rfl (pa_cons (pe_callTy call_int1 (by rfl) G.g_int (by decide +kernel) (pa_cons (pe_or (pe_cmpR op_lt (pe_ix (show IxR _ (rIxT K) from ix_tup) (pv 0) pe_int (fun _ _ => rfl)) pe_int (nomark _)) (pe_one (pe_and (pe_cmpR op_eq (pe_ix (show IxR _ (rIxT K) from ix_tup) (pv 0) pe_int (fun _ _ => rfl)) pe_int (nomark _)) (pe_one (pe_cmpR op_lt (pe_ix (show IxR _ (rIxT K) from ix_tup) (pv 0) pe_int (fun _ _ => rfl)) pe_int (nomark _)))))) pa_nil)) (pa_cons (pe_callTy call_int1 (by rfl) G.g_int (by decide +kernel) (pa_cons (pe_or (pe_cmpR op_lt (pe_ix (show IxR _ (rIxT K) from ix_tup) (pv 1) pe_int (fun _ _ => rfl)) pe_int (nomark _)) (pe_one (pe_and (pe_cmpR op_eq (pe_ix (show IxR _ (rIxT K) from ix_tup) (pv 1) pe_int (fun _ _ => rfl)) pe_int (nomark _)) (pe_one (pe_cmpR op_lt (pe_ix (show IxR _ (rIxT K) from ix_tup) (pv 1) pe_int (fun _ _ => rfl)) pe_int (nomark _)))))) pa_nil)) pa_nil)) (by rfl))
      (pss_one (ps_ret (pe_or (pe_cmpR op_lt (pv 2) (pv 3) (nomark _)) (pe_one (pe_and (pe_cmpR op_eq (pv 2) (pv 3) (nomark _)) (pe_one (pe_cmpR op_gt (pe_c C__law_cross hr (by omega) (by rfl) (pa_cons (pv 0) (pa_cons (pv 1) pa_nil))) pe_int (nomark _))))))))), fun B ds hp => ?_⟩
  obtain ⟨_, _, rfl, p, q, rfl, rfl, hu, hv⟩ := p2_ex hp
  show WS K B _ [.val (Dl.pairD p), .val (Dl.pairD q), .no, .no] _
  try dsimp only [cxOf, Cx.nox, Cx.blk]
  refine ws_seq (ws_par (wa_cons (we_sec rfl (wa_cons (we_sec rfl (wa_nil ⟨_, _, rfl, ?_⟩))))))
  try dsimp only [List.set]
  refine ws_ret (we_orV (we_op (we_var rfl (we_var rfl (ro_bl0 ⟨_, rfl, ?_⟩)))))
  have key : ∀ {b : Bool}, b = Ad.lt p q → ∃ p' q' : Pr2, [Dl.pairD p, Dl.pairD q] = [Dl.pairD p', Dl.pairD q'] ∧ D.bl b = .bl (Ad.lt p' q') := fun e => ⟨p, q, rfl, by rw [e]⟩
  have e := Ad.lt_cr (p := p) (q := q) rfl rfl
  revert e
  generalize Rm.sec p.1 p.2 = a
  generalize Rm.sec q.1 q.2 = b
  intro e
  have crx : ∀ {X : Xc} {Q : D → Prop}, Q (.int (Ad.cr p q)) → WEx K B X (tCall (SpD K (p2 fun a b => ∃ p q : Pr2, a = Dl.pairD p ∧ b = Dl.pairD q ∧ Upto 100000000 p ∧ Upto 100000000 q) fun ds r => ∃ p q : Pr2, ds = [Dl.pairD p, Dl.pairD q] ∧ r = .int (Ad.cr p q)) [] E0 (tCons (tVar 0) (tCons (tVar 1) tNil))) [.val (Dl.pairD p), .val (Dl.pairD q), .val (.int (if a = true then 1 else 0)), .val (.int (if b = true then 1 else 0))] Q := fun h => we_crs hu hv (by decide) (we_var rfl rfl) (we_var rfl rfl) h
  cases a <;> cases b
  · refine we_andV (we_op (we_var rfl (we_var rfl (ro_eqI ⟨_, rfl, ?_⟩))))
    exact we_op (crx (we_int (ro_bl0 (key (by rw [e]; rfl)))))
  · exact key (by rw [e]; rfl)
  · refine we_andV (we_op (we_var rfl (we_var rfl (ro_eqI ⟨_, rfl, ?_⟩))))
    exact key (by rw [e]; rfl)
  · refine we_andV (we_op (we_var rfl (we_var rfl (ro_eqI ⟨_, rfl, ?_⟩))))
    exact we_op (crx (we_int (ro_bl0 (key (by rw [e]; rfl)))))
def rowD (ps : List Pr2) : D := .lst (ps.map Dl.pairD)
theorem rowD_inj {a b : List Pr2} (h : rowD a = rowD b) : a = b := prs_inj (D.lst.inj h)
theorem cut_to {ds : List D} {n : Nat} : Dl.cutD ds none (some (n : Int)) = ds.take n := by
  unfold Dl.cutD
  rw [HT.sIx_none, HT.sIx_nat]
  simp [List.take_eq_take_iff]
theorem cut_from {ds : List D} {n : Nat} : Dl.cutD ds (some (n : Int)) none = ds.drop n := by
  unfold Dl.cutD
  rw [HT.sIx_none, HT.sIx_nat]
  rw [show ds.length - min n ds.length = (ds.drop (min n ds.length)).length by rw [List.length_drop], List.take_length]
  by_cases h : n ≤ ds.length
  · rw [Nat.min_eq_left h]
  · rw [Nat.min_eq_right (by omega), List.drop_of_length_le (Nat.le_refl _), List.drop_of_length_le (by omega)]
abbrev s__law_round : Stmt := topS 37
abbrev N__law_round : List Str := ["_law_dirs", "_law_found", "_law_d", "_law_at", "_law_e"]
theorem sc__law_round : FnScope N__law_round ["_law_dirs"] (defScope s__law_round) := ⟨rfl, rfl, rfl, by decide +kernel, rfl, by decide +kernel, by decide +kernel⟩
abbrev ClRo (P : Program) (w : World) (K : PySem.W.Frag) (mg : Str → Option Value) (base : Heap) (k : Nat) := Cl P w K mg base k "_law_round" s__law_round ["_law_dirs"] (SpD K (p1 fun d => ∃ ps : List Pr2, d = rowD ps ∧ ps.length ≤ 100 ∧ ∀ p ∈ ps, Ad.IsD p ∧ Upto 1000 p) fun ds r => ∃ ps : List Pr2, ds = [rowD ps] ∧ r = rowD (Ad.rndR ps))
theorem rnd_take {ps : List Pr2} {n : Nat} {p : Pr2} (h : ps[n]? = some p) : Ad.rndR (ps.take (n + 1)) = Ad.insR p (Ad.rndR (ps.take n)) := by
  rw [List.take_add_one, h]
  exact Ad.rnd_snoc _ _
theorem ok__law_round {k : Nat} (G : Gn mg) (F : Df K mg "_law_round" s__law_round) (C__law_ahead : ClAh P w K mg base k) : ClRo P w K mg base (k + 1) := by
  refine cl_of F sc__law_round (fun _ _ _ _ _ _ us hl => match us, hl with | [_], _ => rfl) p1_len fun f cdv A outer s H E hr => ⟨_, (pss_cons (ps_set (i := 1) sc__law_round.nd rfl (Or.inl rfl) (pe_lst pa_nil))
      (pss_cons (ps_for PassesOwn.never rfl (pi_list (pv 0)) (pg_name (i := 2) sc__law_round.nd rfl (Or.inr rfl)) (pss_cons (ps_set (i := 3) sc__law_round.nd rfl (Or.inl rfl) (pe_callB (show CallR _ (.builtin "len") (fun xs H Q => ∃ x n, xs = [x] ∧ LenV K x H n ∧ Q (.int n) H) from call_len) (by rfl) G.g_len (by decide +kernel) (pa_cons (pe_lc (own := [("_law_e", 4)]) (g := gName 4) rfl sc__law_round.nd (pi_list (pv 1)) (blkOk_by (N := N__law_round) (sc := defScope s__law_round) (by decide +kernel)) (fun _ _ _ _ _ => pg_name (i := 4) sc__law_round.nd rfl (Or.inl rfl)) (fun _ _ _ _ _ => (pts_one (pt_val (pe_c C__law_ahead hr (by omega) (by rfl) (pa_cons (pv 4) (pa_cons (pv 2) pa_nil)))))) (fun _ _ _ _ _ => (pv 4))) pa_nil)))
      (pss_one (ps_if (PW.pt (pw_or (pt_cmpR op_eq (pv 3) (pe_callB (show CallR _ (.builtin "len") (fun xs H Q => ∃ x n, xs = [x] ∧ LenV K x H n ∧ Q (.int n) H) from call_len) (by rfl) G.g_len (by decide +kernel) (pa_cons (pv 1) pa_nil)) (nomark _)) (pw_or1 (pt_cmpR (op_neD hr.units) (pe_ix (show IxR _ (rIxL K) from ix_list) (pv 1) (pv 3) (fun _ _ => rfl)) (pv 2) (nomark _))))) (pss_one (ps_set (i := 1) sc__law_round.nd rfl (Or.inl rfl) (pe_op op_cat (pe_op op_cat (pe_slice sl_list (pv 1) po_none (po_some (pv 3))) (pe_lst (pa_cons (pv 2) pa_nil))) (pe_slice sl_list (pv 1) (po_some (pv 3)) po_none)))) pss_nil))))
      (pss_one (ps_ret (pv 1))))), fun B ds hp => ?_⟩
  obtain ⟨_, rfl, ps, rfl, hl, hu⟩ := p1_ex hp
  show WS K B _ [.val (rowD ps), .no, .no, .no, .no] _
  try dsimp only [cxOf, Cx.nox, Cx.blk]
  refine ws_seq (ws_set (we_lst (wa_nil ⟨by decide, ?_⟩)))
  try dsimp only [List.set]
  refine ws_seq (ws_for (wi_list (we_var rfl ⟨_, rfl, fun n δ1 => ∃ y2 y3 y4 : Sd, δ1 = [.val (rowD ps), .val (rowD (Ad.rndR (ps.take n))), y2, y3, y4], ⟨_, _, _, rfl⟩, ?_, ?_⟩)))
  · rintro n d δ1 hd ⟨y2, y3, y4, rfl⟩
    obtain ⟨p, hp, rfl⟩ : ∃ p, ps[n]? = some p ∧ Dl.pairD p = d := by
      rw [List.getElem?_map] at hd
      cases e : ps[n]? with
      | none => rw [e] at hd; cases hd
      | some q => rw [e] at hd; exact ⟨q, rfl, Option.some.inj hd⟩
    have hm := hu p (List.mem_of_getElem? hp)
    have sub : ∀ x ∈ ps.take n, Ad.IsD x ∧ Upto 1000 x := fun x hx => hu x (List.mem_of_mem_take hx)
    obtain ⟨r1, r2, r3⟩ := Ad.rnd_ok _ rfl fun x hx => (sub x hx).1
    have rU : ∀ x ∈ Ad.rndR (ps.take n), Ad.IsD x ∧ Upto 1000 x := fun x hx => sub x ((r2 x).mp hx)
    have rl : (Ad.rndR (ps.take n)).length ≤ 100 := Nat.le_trans r3 (by rw [List.length_take]; omega)
    have st := rnd_take hp
    rw [Ad.insR_by hm.1 (fun x hx => (rU x hx).1) r1] at st
    have al := Ad.ahead_le (d := p) (xs := Ad.rndR (ps.take n))
    generalize hR : Ad.rndR (ps.take n) = R at *
    try dsimp only [List.set]
    have fl : ∀ {Q : D → Prop} {δ : List Sd} {X : Xc}, δ[1]? = some (.val (rowD R)) → δ[2]? = some (.val (Dl.pairD p)) → 4 < δ.length → Q (.lst ((R.filter (Ad.lt · p)).map Dl.pairD)) → WEx K B X (tLc (iList K (tVar 1)) (gName 4) (tB (tCall (SpD K (p2 fun a b => ∃ p q : Pr2, a = Dl.pairD p ∧ b = Dl.pairD q ∧ Upto 1000000 p ∧ Upto 1000000 q) fun ds r => ∃ p q : Pr2, ds = [Dl.pairD p, Dl.pairD q] ∧ r = .bl (Ad.lt p q)) [] E0 (tCons (tVar 4) (tCons (tVar 2) tNil)))) (tVar 4) [4]) δ Q := by
      intro Q δ X h1 h2 h4 q
      have set4 : ∀ d : D, (δ.set 4 (.val d))[4]? = some (.val d) := fun d => List.getElem?_set_self h4
      have set2 : ∀ d : D, (δ.set 4 (.val d))[2]? = some (.val (Dl.pairD p)) := fun d => by rw [List.getElem?_set_ne (by decide)]; exact h2
      refine we_lcF (xs := R) Dl.pairD Dl.pairD (Ad.lt · p) (by omega) (wi_list (we_var h1 ⟨_, rfl, rfl⟩)) (fun a ha => ?_) (fun a ha _ => we_var (set4 _) rfl) q
      refine wt_B (we_call (wa_cons (we_var (set4 _) (wa_cons (we_var (set2 _) (wa_nil ⟨⟨a, p, rfl, rfl, upto_le (rU a ha).2 (by decide), upto_le hm.2 (by decide)⟩, ?_⟩))))))
      rintro _ ⟨a', p', e, rfl⟩
      rw [← pairD_inj (List.cons.inj e).1, ← pairD_inj (List.cons.inj (List.cons.inj e).2).1]
      exact ⟨_, rfl, rfl⟩
    refine ws_seq (ws_set (we_cb (wa_cons (fl rfl rfl (by show 4 < 5; decide) (wa_nil (rc_len (n := Ad.ahead p R) (by show some ((R.filter (Ad.lt · p)).map Dl.pairD).length = _; rw [List.length_map]; rfl) (by omega) ?_))))))
    try dsimp only [List.set]
    have fin : ∀ {y3 y4 : Sd} {R' : List Pr2}, R' = Ad.rndR (ps.take (n + 1)) → ∃ z2 z3 z4 : Sd, ([.val (rowD ps), .val (rowD R'), .val (Dl.pairD p), y3, y4] : List Sd) = [.val (rowD ps), .val (rowD (Ad.rndR (ps.take (n + 1)))), z2, z3, z4] := fun e => by rw [e]; exact ⟨_, _, _, rfl⟩
    have go : ∀ {X : Xc} {Q : D → Prop} {y4 : Sd}, (Ad.ahead p R = R.length ∨ R[Ad.ahead p R]? ≠ some p) → Q (rowD (Ad.rndR (ps.take (n + 1)))) → WEx K B X (tOp rCat (tOp rCat (tSl (rSlL K) (tVar 1) tNoPart (tPart (tVar 3))) (tLst (tCons (tVar 2) tNil))) (tSl (rSlL K) (tVar 1) (tPart (tVar 3)) tNoPart)) [.val (rowD ps), .val (rowD R), .val (Dl.pairD p), .val (.int (Ad.ahead p R : Nat)), y4] Q := fun {X} {Q} {y4} h q => by
      rw [if_pos h] at st
      have c1 : Dl.cutD (R.map Dl.pairD) none (some (Ad.ahead p R : Nat)) = (R.take (Ad.ahead p R)).map Dl.pairD := by
        rw [cut_to, List.map_take]
      have c2 : Dl.cutD (R.map Dl.pairD) (some (Ad.ahead p R : Nat)) none = (R.drop (Ad.ahead p R)).map Dl.pairD := by
        rw [cut_from, List.map_drop]
      refine we_op (we_op (we_sl (we_var rfl (wo_none (wo_some (we_var rfl ⟨_, rfl, rs_L ?_⟩))))))
      rw [c1]
      refine we_lst (wa_cons (we_var rfl (wa_nil ⟨by show 1 ≤ 1000; decide, ro_cat (by rw [List.length_map, List.length_take]; show _ + 1 ≤ 1000; omega) ?_⟩)))
      refine we_sl (we_var rfl (wo_some (we_var rfl ⟨_, rfl, wo_none (rs_L ?_)⟩)))
      rw [c2]
      refine ro_cat (by rw [List.length_append, List.length_map, List.length_map, List.length_take, List.length_drop]; show _ + 1 + _ ≤ 1000; omega) ?_
      have e : (R.take (Ad.ahead p R)).map Dl.pairD ++ [Dl.pairD p] ++ (R.drop (Ad.ahead p R)).map Dl.pairD = (Ad.rndR (ps.take (n + 1))).map Dl.pairD := by
        rw [st, List.map_append, List.map_append]
        rfl
      rw [e]
      exact q
    refine ws_if (wt_or (wt_test (we_op (we_var rfl (we_cb (wa_cons (we_var rfl (wa_nil (rc_len (n := R.length) (by show some (R.map Dl.pairD).length = _; rw [List.length_map]) (by omega) (ro_eqI ⟨_, rfl, ?_⟩))))))))))
    by_cases h : Ad.ahead p R = R.length
    · rw [if_pos (decide_eq_true (by omega)), if_pos rfl]
      refine ws_set (go (.inl h) ?_)
      try dsimp only [List.set]
      exact ⟨_, _, _, rfl⟩
    rw [if_neg (by rw [decide_eq_false (by omega)]; decide)]
    have hlt : Ad.ahead p R < R.length := by omega
    refine wt_test (we_op (we_op (we_var rfl (we_var rfl (ro_ixL (d := Dl.pairD R[Ad.ahead p R]) (atI_nat (by rw [List.getElem?_map, List.getElem?_eq_getElem hlt]; rfl)) (we_var rfl (ro_nePr ⟨_, rfl, ?_⟩)))))))
    by_cases h2 : R[Ad.ahead p R] = p
    · rw [if_neg (by rw [decide_eq_true h2]; decide)]
      have e : Ad.rndR (ps.take (n + 1)) = R := by
        rw [st, if_neg]
        rintro (z | z)
        · exact h z
        · exact z (by rw [List.getElem?_eq_getElem hlt, h2])
      exact ws_next ⟨.val (Dl.pairD p), .val (.int (Ad.ahead p R : Nat)), y4, by rw [e]⟩
    · rw [if_pos (by rw [decide_eq_false h2]; rfl)]
      refine ws_set (go (.inr fun z => h2 (by rw [List.getElem?_eq_getElem hlt] at z; exact Option.some.inj z)) ?_)
      try dsimp only [List.set]
      exact ⟨_, _, _, rfl⟩
  · rintro δ1 ⟨y2, y3, y4, rfl⟩
    refine ws_ret (we_var rfl ⟨ps, rfl, ?_⟩)
    rw [List.length_map, List.take_length]
abbrev s__law_mid : Stmt := topS 38
abbrev N__law_mid : List Str := ["_law_d", "_law_e", "_law_turn"]
theorem sc__law_mid : FnScope N__law_mid ["_law_d", "_law_e"] (defScope s__law_mid) := ⟨rfl, rfl, rfl, by decide +kernel, rfl, by decide +kernel, by decide +kernel⟩
abbrev ClMd (P : Program) (w : World) (K : PySem.W.Frag) (mg : Str → Option Value) (base : Heap) (k : Nat) := Cl P w K mg base k "_law_mid" s__law_mid ["_law_d", "_law_e"] (SpD K (p2 fun a b => ∃ p q : Pr2, a = Dl.pairD p ∧ b = Dl.pairD q ∧ Upto 1000 p ∧ Upto 1000 q) fun ds r => ∃ p q : Pr2, ds = [Dl.pairD p, Dl.pairD q] ∧ r = Dl.pairD (Ad.mid p q))
theorem ok__law_mid {k : Nat} (G : Gn mg) (F : Df K mg "_law_mid" s__law_mid) (C__law_cross : ClLx P w K mg base k) (C__law_reduced : ClRd P w K mg base k) (C__law_half : ClHf P w K mg base k) : ClMd P w K mg base (k + 1) := by
  refine cl_of F sc__law_mid (fun _ _ _ _ _ _ us hl => match us, hl with | [_, _], _ => rfl) p2_len fun f cdv A outer s H E hr => ⟨_, (pss_cons (ps_set (i := 2) sc__law_mid.nd rfl (Or.inl rfl) (pe_c C__law_cross hr (by omega) (by rfl) (pa_cons (pv 0) (pa_cons (pv 1) pa_nil))))
      (pss_cons (ps_if (pt_cmpR op_gt (pv 2) pe_int (nomark _)) (pss_one (ps_ret (pe_c C__law_reduced hr (by omega) (by rfl) (pa_cons (pe_tupZ (pa_cons (pe_op op_add (pe_ix (show IxR _ (rIxT K) from ix_tup) (pv 0) pe_int (fun _ _ => rfl)) (pe_ix (show IxR _ (rIxT K) from ix_tup) (pv 1) pe_int (fun _ _ => rfl))) (pa_cons (pe_op op_add (pe_ix (show IxR _ (rIxT K) from ix_tup) (pv 0) pe_int (fun _ _ => rfl)) (pe_ix (show IxR _ (rIxT K) from ix_tup) (pv 1) pe_int (fun _ _ => rfl))) pa_nil))) pa_nil)))) pss_nil)
      (pss_cons (ps_if (pt_cmpR op_lt (pv 2) pe_int (nomark _)) (pss_one (ps_ret (pe_c C__law_reduced hr (by omega) (by rfl) (pa_cons (pe_tupZ (pa_cons (pe_op op_sub (pe_op op_sub pe_int (pe_ix (show IxR _ (rIxT K) from ix_tup) (pv 0) pe_int (fun _ _ => rfl))) (pe_ix (show IxR _ (rIxT K) from ix_tup) (pv 1) pe_int (fun _ _ => rfl))) (pa_cons (pe_op op_sub (pe_op op_sub pe_int (pe_ix (show IxR _ (rIxT K) from ix_tup) (pv 0) pe_int (fun _ _ => rfl))) (pe_ix (show IxR _ (rIxT K) from ix_tup) (pv 1) pe_int (fun _ _ => rfl))) pa_nil))) pa_nil)))) pss_nil)
      (pss_one (ps_ret (pe_ifExp (pt_cmpR (op_eqD hr.units) (pv 0) (pv 1) (nomark _)) (pe_c C__law_half hr (by omega) (by rfl) (pa_cons (pv 0) pa_nil)) (pe_tupZ (pa_cons (pe_op op_sub pe_int (pe_ix (show IxR _ (rIxT K) from ix_tup) (pv 0) pe_int (fun _ _ => rfl))) (pa_cons (pe_ix (show IxR _ (rIxT K) from ix_tup) (pv 0) pe_int (fun _ _ => rfl)) pa_nil))))))))), fun B ds hp => ?_⟩
  obtain ⟨_, _, rfl, p, q, rfl, rfl, hu, hv⟩ := p2_ex hp
  show WS K B _ [.val (Dl.pairD p), .val (Dl.pairD q), .no] _
  try dsimp only [cxOf, Cx.nox, Cx.blk]
  refine ws_seq (ws_set (we_crs hu hv (by decide) (we_var rfl rfl) (we_var rfl rfl) ?_))
  try dsimp only [List.set]
  have b : Upto 1000000 (Ad.sm p q) ∧ Upto 1000000 (Ad.ng (Ad.sm p q)) := by
    obtain ⟨h1, h2, h3, h4⟩ := hu
    obtain ⟨h5, h6, h7, h8⟩ := hv
    refine ⟨⟨?_, ?_, ?_, ?_⟩, ⟨?_, ?_, ?_, ?_⟩⟩ <;> simp only [Ad.ng, Ad.sm] <;> omega
  have fin : ∀ {d : D} {m : Pr2}, d = Dl.pairD m → m = Ad.mid p q → ∃ p' q' : Pr2, [Dl.pairD p, Dl.pairD q] = [Dl.pairD p', Dl.pairD q'] ∧ d = Dl.pairD (Ad.mid p' q') := fun e e2 => ⟨p, q, rfl, by rw [e, e2]⟩
  refine ws_seq (ws_if (wt_test (we_op (we_var rfl (we_int (ro_bl0 ⟨_, rfl, ite2 (fun h => ?_) (fun h => ws_next ?_)⟩))))))
  · have h' := of_decide_eq_true h
    refine ws_ret (we_red (p := Ad.sm p q) (Ad.sm_nz (by omega)) b.1 ?_ (fin rfl ?_))
    · repeat (first | walk_at "dl" | refine ix0 ?_ | refine ix1 ?_)
      first | rfl | exact ⟨by show 2 ≤ 1000; decide, rfl⟩
    · unfold Ad.mid; rw [if_pos h']
  have h1 : ¬ 0 < Ad.cr p q := fun z => h (decide_eq_true z)
  refine ws_seq (ws_if (wt_test (we_op (we_var rfl (we_int (ro_bl0 ⟨_, rfl, ite2 (fun h => ?_) (fun h => ws_next ?_)⟩))))))
  · have h' := of_decide_eq_true h
    refine ws_ret (we_red (p := Ad.ng (Ad.sm p q)) (Ad.ng_nz (Ad.sm_nz (by omega))) b.2 ?_ (fin rfl ?_))
    · have e : Dl.pairD (Ad.ng (Ad.sm p q)) = .tup [.int (0 - p.1 - q.1), .int (0 - p.2 - q.2)] := by
        unfold Ad.ng Ad.sm Dl.pairD
        rw [show -(p.1 + q.1) = 0 - p.1 - q.1 by omega, show -(p.2 + q.2) = 0 - p.2 - q.2 by omega]
      rw [e]
      repeat (first | walk_at "dl" | refine ix0 ?_ | refine ix1 ?_)
      first | rfl | exact ⟨by show 2 ≤ 1000; decide, rfl⟩
    · unfold Ad.mid; rw [if_neg h1, if_pos h']
  have h2 : ¬ Ad.cr p q < 0 := fun z => h (decide_eq_true z)
  refine ws_ret (we_if (wt_test (we_op (we_var rfl (we_var rfl (ro_eqPr ⟨_, rfl, ?_⟩))))))
  by_cases e : p = q
  · rw [if_pos (decide_eq_true e)]
    refine we_call (wa_cons (we_var rfl (wa_nil ⟨⟨p, rfl⟩, ?_⟩)))
    rintro _ ⟨p', e', rfl⟩
    rw [← pairD_inj (List.cons.inj e').1]
    exact fin rfl (by unfold Ad.mid; rw [if_neg h1, if_neg h2, if_pos e])
  · rw [if_neg (by rw [decide_eq_false e]; decide)]
    repeat (first | walk_at "dl" | refine ix0 ?_ | refine ix1 ?_)
    show D.tup [.int (0 - p.2), .int p.1] = Dl.pairD (Ad.mid p q)
    rw [Int.zero_sub]
    unfold Ad.mid
    rw [if_neg h1, if_neg h2, if_neg e]
    rfl
abbrev s__law_mids : Stmt := topS 39
abbrev N__law_mids : List Str := ["_law_marks", "_law_k"]
theorem sc__law_mids : FnScope N__law_mids ["_law_marks"] (defScope s__law_mids) := ⟨rfl, rfl, rfl, by decide +kernel, rfl, by decide +kernel, by decide +kernel⟩
abbrev ClMs (P : Program) (w : World) (K : PySem.W.Frag) (mg : Str → Option Value) (base : Heap) (k : Nat) := Cl P w K mg base k "_law_mids" s__law_mids ["_law_marks"] (SpD K (p1 fun d => ∃ ps : List Pr2, d = rowD ps ∧ ps.length ≤ 100 ∧ ∀ p ∈ ps, Upto 1000 p) fun ds r => ∃ ps : List Pr2, ds = [rowD ps] ∧ r = rowD ((List.range ps.length).map (Ad.md ps.length (Ad.mAt ps))))
theorem ok__law_mids {k : Nat} (G : Gn mg) (F : Df K mg "_law_mids" s__law_mids) (C__law_mid : ClMd P w K mg base k) : ClMs P w K mg base (k + 1) := by
  refine cl_of F sc__law_mids (fun _ _ _ _ _ _ us hl => match us, hl with | [_], _ => rfl) p1_len fun f cdv A outer s H E hr => ⟨_, (pss_one (ps_ret (pe_lc (own := [("_law_k", 1)]) (g := gName 1) (tt := tYes) rfl sc__law_mids.nd (pi_range1 rfl G.g_range (pa_cons (pe_callB (show CallR _ (.builtin "len") (fun xs H Q => ∃ x n, xs = [x] ∧ LenV K x H n ∧ Q (.int n) H) from call_len) (by rfl) G.g_len (by decide +kernel) (pa_cons (pv 0) pa_nil)) pa_nil)) (blkOk_by (N := N__law_mids) (sc := defScope s__law_mids) (by decide +kernel)) (fun _ _ _ _ _ => pg_name (i := 1) sc__law_mids.nd rfl (Or.inl rfl)) (fun _ _ _ _ _ => pts_nil) (fun _ _ _ _ _ => (pe_c C__law_mid hr (by omega) (by rfl) (pa_cons (pe_ix (show IxR _ (rIxL K) from ix_list) (pv 0) (pv 1) (fun _ _ => rfl)) (pa_cons (pe_ix (show IxR _ (rIxL K) from ix_list) (pv 0) (pe_op op_modN (pe_callTy call_int1 (by rfl) G.g_int (by decide +kernel) (pa_cons (pe_op op_add (pv 1) pe_int) pa_nil)) (pe_callB (show CallR _ (.builtin "len") (fun xs H Q => ∃ x n, xs = [x] ∧ LenV K x H n ∧ Q (.int n) H) from call_len) (by rfl) G.g_len (by decide +kernel) (pa_cons (pv 0) pa_nil))) (fun _ _ => rfl)) pa_nil))))))), fun B ds hp => ?_⟩
  obtain ⟨_, rfl, ps, rfl, hl, hu⟩ := p1_ex hp
  show WS K B _ [.val (rowD ps), .no] _
  try dsimp only [cxOf, Cx.nox, Cx.blk]
  have ln : (rowD ps).len? = some ps.length := by show some (ps.map Dl.pairD).length = _; rw [List.length_map]
  refine ws_ret (we_lcA (xs := List.range ps.length) (fun j => .int (0 + (j : Int))) (fun j => Dl.pairD (Ad.md ps.length (Ad.mAt ps) j)) (by rw [List.length_range]; omega) (wi_range1 (wa_cons (we_cb (wa_cons (we_var rfl (wa_nil (rc_len ln (by omega) (wa_nil ⟨_, rfl, by omega, by omega, ?_⟩)))))))) (fun j hj => ?_) ?_)
  · unfold Dl.upto
    rw [Int.toNat_natCast]
  · have hj' : j < ps.length := List.mem_range.mp hj
    have hm : (j + 1) % ps.length < ps.length := Nat.mod_lt _ (by omega)
    have a1 : ∀ i : Nat, i < ps.length → ps[i]? = some (Ad.mAt ps i) := fun i hi => by rw [Ad.mAt_eq hi, List.getElem?_eq_getElem hi]
    have a2 : ∀ i : Nat, i < ps.length → Upto 1000 (Ad.mAt ps i) := fun i hi => by rw [Ad.mAt_eq hi]; exact hu _ (List.getElem_mem hi)
    try dsimp only [List.set]
    refine we_call (wa_cons (we_op (we_var rfl (we_var rfl (ro_ixL (d := Dl.pairD (Ad.mAt ps j)) (by rw [Int.zero_add]; exact atI_nat (by rw [List.getElem?_map, a1 j hj']; rfl)) ?_)))))
    refine wa_cons (we_op (we_var rfl (we_op (we_cb (wa_cons (we_op (we_var rfl (we_int (ro_int0 ?_))))))))) 
    refine wa_nil (rc_int1 (we_cb (wa_cons (we_var rfl (wa_nil (rc_len ln (by omega) ?_))))))
    refine ro_int (by omega) ?_
    have e : (0 + (j : Int) + 1).fmod ((ps.length : Nat) : Int) = (((j + 1) % ps.length : Nat) : Int) := by
      rw [Int.fmod_eq_emod_of_nonneg _ (by omega), Int.zero_add]
      rfl
    rw [e]
    refine ro_ixL (d := Dl.pairD (Ad.mAt ps ((j + 1) % ps.length))) (atI_nat (by rw [List.getElem?_map, a1 _ hm]; rfl)) (wa_nil ⟨⟨_, _, rfl, rfl, a2 j hj', a2 _ hm⟩, ?_⟩)
    rintro _ ⟨p', q', e, rfl⟩
    rw [← pairD_inj (List.cons.inj e).1, ← pairD_inj (List.cons.inj (List.cons.inj e).2).1]
    rfl
  · refine ⟨ps, rfl, ?_⟩
    unfold rowD
    rw [List.map_map]
    rfl
def angN (s d : Pr2) : Int := if Ad.cr s d = 0 then (if s = d then 0 else 2) else if 0 < Ad.cr s d then 1 else 3
theorem within_b {a b c u v : Int} (h1 : a = 0 → c = -b) (h2 : b = 0 → c = a) (h3 : ¬ (a = 0 ∧ b = 0)) (hu : (a = 0 ∧ u = 2) ∨ (0 < a ∧ u = 1) ∨ (a < 0 ∧ u = 3)) (hv : (b = 0 ∧ v = 2) ∨ (0 < b ∧ v = 1) ∨ (b < 0 ∧ v = 3)) :
    (decide (u < v) || (decide (u = v) && decide (0 < c))) = if b < 0 then decide (0 < a) || decide (0 < c) else decide (0 < a) && decide (0 < c) := by
  rw [Bool.eq_iff_iff]
  by_cases q : b < 0
  · rw [if_pos q]
    simp only [Bool.or_eq_true, Bool.and_eq_true, decide_eq_true_eq]
    omega
  · rw [if_neg q]
    simp only [Bool.or_eq_true, Bool.and_eq_true, decide_eq_true_eq]
    omega
theorem ang_at {s x : Pr2} (h : s ≠ x) : (Ad.cr s x = 0 ∧ angN s x = 2) ∨ (0 < Ad.cr s x ∧ angN s x = 1) ∨ (Ad.cr s x < 0 ∧ angN s x = 3) := by
  unfold angN
  rw [if_neg h]
  by_cases a : Ad.cr s x = 0
  · exact .inl ⟨a, if_pos a⟩
  · by_cases b : 0 < Ad.cr s x
    · exact .inr (.inl ⟨b, by rw [if_neg a, if_pos b]⟩)
    · exact .inr (.inr ⟨by omega, by rw [if_neg a, if_neg b]⟩)
theorem within_eq {s t d : Pr2} (hs : Ad.IsD s) (ht : Ad.IsD t) (hd : Ad.IsD d) (n1 : s ≠ t) (n2 : d ≠ s) (n3 : d ≠ t) : (decide (angN s d < angN s t) || (decide (angN s d = angN s t) && decide (0 < Ad.cr d t))) = Ad.inA s t d := by
  have h1 : Ad.cr s d = 0 → Ad.cr d t = -Ad.cr s t := fun z => by
    rcases Ad.opp hs hd z with e | e
    · exact absurd e.symm n2
    · rw [e, Ad.cr_ng1]
  have h2 : Ad.cr s t = 0 → Ad.cr d t = Ad.cr s d := fun z => by
    rcases Ad.opp hs ht z with e | e
    · exact absurd e n1
    · rw [e, Ad.cr_ng2, Ad.cr_swap]; omega
  have h3 : ¬ (Ad.cr s d = 0 ∧ Ad.cr s t = 0) := fun ⟨z, z'⟩ => by
    rcases Ad.opp hs hd z with e | e
    · exact n2 e.symm
    · rcases Ad.opp hs ht z' with e' | e'
      · exact n1 e'
      · exact n3 (by rw [e, e'])
  exact within_b h1 h2 h3 (ang_at (Ne.symm n2)) (ang_at n1)
abbrev s__law_angle : Stmt := topS 40
abbrev N__law_angle : List Str := ["_law_s", "_law_d", "_law_turn"]
theorem sc__law_angle : FnScope N__law_angle ["_law_s", "_law_d"] (defScope s__law_angle) := ⟨rfl, rfl, rfl, by decide +kernel, rfl, by decide +kernel, by decide +kernel⟩
abbrev ClAn (P : Program) (w : World) (K : PySem.W.Frag) (mg : Str → Option Value) (base : Heap) (k : Nat) := Cl P w K mg base k "_law_angle" s__law_angle ["_law_s", "_law_d"] (SpD K (p2 fun a b => ∃ p q : Pr2, a = Dl.pairD p ∧ b = Dl.pairD q ∧ Upto 1000000 p ∧ Upto 1000000 q) fun ds r => ∃ p q : Pr2, ds = [Dl.pairD p, Dl.pairD q] ∧ r = .int (angN p q))
theorem ok__law_angle {k : Nat} (G : Gn mg) (F : Df K mg "_law_angle" s__law_angle) (C__law_cross : ClLx P w K mg base k) : ClAn P w K mg base (k + 1) := by
  refine cl_of F sc__law_angle (fun _ _ _ _ _ _ us hl => match us, hl with | [_, _], _ => rfl) p2_len fun f cdv A outer s H E hr => ⟨_, (pss_cons (ps_set (i := 2) sc__law_angle.nd rfl (Or.inl rfl) (pe_c C__law_cross hr (by omega) (by rfl) (pa_cons (pv 0) (pa_cons (pv 1) pa_nil))))
      (pss_cons (ps_if (pt_cmpR op_eq (pv 2) pe_int (nomark _)) (pss_one (ps_ret (pe_ifExp (pt_cmpR (op_eqD hr.units) (pv 0) (pv 1) (nomark _)) pe_int pe_int))) pss_nil)
      (pss_one (ps_ret (pe_ifExp (pt_cmpR op_gt (pv 2) pe_int (nomark _)) pe_int pe_int))))), fun B ds hp => ?_⟩
  obtain ⟨_, _, rfl, p, q, rfl, rfl, hu, hv⟩ := p2_ex hp
  show WS K B _ [.val (Dl.pairD p), .val (Dl.pairD q), .no] _
  try dsimp only [cxOf, Cx.nox, Cx.blk]
  refine ws_seq (ws_set (we_crs hu hv (by decide) (we_var rfl rfl) (we_var rfl rfl) ?_))
  try dsimp only [List.set]
  have fin : ∀ {i : Int}, i = angN p q → ∃ p' q' : Pr2, [Dl.pairD p, Dl.pairD q] = [Dl.pairD p', Dl.pairD q'] ∧ D.int i = .int (angN p' q') := fun e => ⟨p, q, rfl, by rw [e]⟩
  refine ws_seq (ws_if (wt_test (we_op (we_var rfl (we_int (ro_eqI ⟨_, rfl, ite2 (fun h => ?_) (fun h => ws_next ?_)⟩))))))
  · have h' := of_decide_eq_true h
    refine ws_ret (we_if (wt_test (we_op (we_var rfl (we_var rfl (ro_eqPr ⟨_, rfl, ?_⟩))))))
    by_cases e : p = q
    · rw [if_pos (decide_eq_true e)]; exact we_int (fin (by unfold angN; rw [if_pos h', if_pos e]))
    · rw [if_neg (by rw [decide_eq_false e]; decide)]; exact we_int (fin (by unfold angN; rw [if_pos h', if_neg e]))
  · have h' : ¬ Ad.cr p q = 0 := fun z => h (decide_eq_true z)
    refine ws_ret (we_if (wt_test (we_op (we_var rfl (we_int (ro_bl0 ⟨_, rfl, ?_⟩))))))
    by_cases e : 0 < Ad.cr p q
    · rw [if_pos (decide_eq_true e)]; exact we_int (fin (by unfold angN; rw [if_neg h', if_pos e]))
    · rw [if_neg (by rw [decide_eq_false e]; decide)]; exact we_int (fin (by unfold angN; rw [if_neg h', if_neg e]))
abbrev Ens := Option (Pr2 × Pr2)
def ensD : Ens → D
  | none => .non
  | some (p, q) => .tup [Dl.pairD p, Dl.pairD q]
theorem ensD_inj {a b : Ens} (h : ensD a = ensD b) : a = b := by
  match a, b, h with
  | none, none, _ => rfl
  | some (p, q), some (p', q'), h =>
    have h1 := D.tup.inj h
    rw [pairD_inj (List.cons.inj h1).1, pairD_inj (List.cons.inj (List.cons.inj h1).2).1]
def EnOk (n : Int) (e : Ens) : Prop := ∀ p q, e = some (p, q) → (Ad.IsD p ∧ Upto n p) ∧ (Ad.IsD q ∧ Upto n q)
abbrev s__law_within : Stmt := topS 41
abbrev N__law_within : List Str := ["_law_ends", "_law_d", "_law_s", "_law_t", "_law_a", "_law_b"]
theorem sc__law_within : FnScope N__law_within ["_law_ends", "_law_d"] (defScope s__law_within) := ⟨rfl, rfl, rfl, by decide +kernel, rfl, by decide +kernel, by decide +kernel⟩
abbrev ClWi (P : Program) (w : World) (K : PySem.W.Frag) (mg : Str → Option Value) (base : Heap) (k : Nat) := Cl P w K mg base k "_law_within" s__law_within ["_law_ends", "_law_d"] (SpD K (p2 fun a b => ∃ (e : Ens) (d : Pr2), a = ensD e ∧ b = Dl.pairD d ∧ EnOk 1000000 e ∧ Ad.IsD d ∧ Upto 1000000 d) fun ds r => ∃ (e : Ens) (d : Pr2), ds = [ensD e, Dl.pairD d] ∧ r = .bl (Ad.inP (Ad.spP e) d))
theorem ok__law_within {k : Nat} (G : Gn mg) (F : Df K mg "_law_within" s__law_within) (C__law_cross : ClLx P w K mg base k) (C__law_angle : ClAn P w K mg base k) : ClWi P w K mg base (k + 1) := by
  refine cl_of F sc__law_within (fun _ _ _ _ _ _ us hl => match us, hl with | [_, _], _ => rfl) p2_len fun f cdv A outer s H E hr => ⟨_, (pss_cons (ps_if (pt_cmpR op_isN (pv 0) pe_non (nomark _)) (pss_one (ps_ret pe_bl)) pss_nil)
      (pss_cons (ps_asg (pv 0) (show PG _ _ (gTup K 2 (gCons (gName 2) (gCons (gName 3) gNil))) from pg_tup rfl (pgs_cons (pg_name (i := 2) sc__law_within.nd rfl (Or.inl rfl)) (pgs_cons (pg_name (i := 3) sc__law_within.nd rfl (Or.inl rfl)) pgs_nil))))
      (pss_cons (ps_if (PW.pt (pw_or (pt_cmpR (op_eqD hr.units) (pv 2) (pv 3) (nomark _)) (pw_or (pt_cmpR (op_eqD hr.units) (pv 1) (pv 2) (nomark _)) (pw_or1 (pt_cmpR (op_eqD hr.units) (pv 1) (pv 3) (nomark _)))))) (pss_one (ps_ret (pe_and (pe_cmpR (op_eqD hr.units) (pv 2) (pv 3) (nomark _)) (pe_one (pe_cmpR (op_neD hr.units) (pv 1) (pv 2) (nomark _)))))) pss_nil)
      (pss_cons (ps_par (i := 4) (j := 5) (by rfl) sc__law_within.nd rfl rfl (by decide) rfl rfl (pa_cons (pe_c C__law_angle hr (by omega) (by rfl) (pa_cons (pv 2) (pa_cons (pv 1) pa_nil))) (pa_cons (pe_c C__law_angle hr (by omega) (by rfl) (pa_cons (pv 2) (pa_cons (pv 3) pa_nil))) pa_nil)) (by rfl))
      (pss_one (ps_ret (pe_or (pe_cmpR op_lt (pv 4) (pv 5) (nomark _)) (pe_one (pe_and (pe_cmpR op_eq (pv 4) (pv 5) (nomark _)) (pe_one (pe_cmpR op_gt (pe_c C__law_cross hr (by omega) (by rfl) (pa_cons (pv 1) (pa_cons (pv 3) pa_nil))) pe_int (nomark _)))))))))))), fun B ds hp => ?_⟩
  obtain ⟨_, _, rfl, e, d, rfl, rfl, he, hd, hu⟩ := p2_ex hp
  show WS K B _ [.val (ensD e), .val (Dl.pairD d), .no, .no, .no, .no] _
  try dsimp only [cxOf, Cx.nox, Cx.blk]
  cases e with
  | none =>
    refine ws_seq (ws_if (wt_test (we_op (we_var rfl (we_non (ro_isN ⟨_, rfl, ?_⟩))))))
    rw [if_pos (show isNon (ensD none) = true from rfl)]
    exact ws_ret (we_bl ⟨none, d, rfl, rfl⟩)
  | some pq =>
    obtain ⟨p, q⟩ := pq
    obtain ⟨⟨dp, up⟩, dq, uq⟩ := he p q rfl
    refine ws_seq (ws_if (wt_test (we_op (we_var rfl (we_non (ro_isN ⟨_, rfl, ?_⟩))))))
    rw [if_neg (by show ¬ false = true; decide)]
    refine ws_next (ws_seq (ws_unt2 (we_var rfl ⟨_, _, rfl, ?_⟩)))
    try dsimp only [List.set]
    have fin : ∀ {b : Bool}, b = Ad.inP (Ad.spP (some (p, q))) d → ∃ (e' : Ens) (d' : Pr2), [ensD (some (p, q)), Dl.pairD d] = [ensD e', Dl.pairD d'] ∧ D.bl b = .bl (Ad.inP (Ad.spP e') d') := fun e => ⟨some (p, q), d, rfl, by rw [e]⟩
    have eqv : ∀ {X : Xc} {i j : Nat} {δ : List Sd} {a b : Pr2} {Q : D → Prop}, δ[i]? = some (.val (Dl.pairD a)) → δ[j]? = some (.val (Dl.pairD b)) → Q (.bl (decide (a = b))) → WEx K B X (tOp (rEqD K) (tVar i) (tVar j)) δ Q := fun h1 h2 h => we_op (we_var h1 (we_var h2 (ro_eqPr h)))
    have tail : ∀ {O : Out}, O.rt = (fun r => ∃ (e' : Ens) (d' : Pr2), [ensD (some (p, q)), Dl.pairD d] = [ensD e', Dl.pairD d'] ∧ r = .bl (Ad.inP (Ad.spP e') d')) → (p = q ∨ d = p ∨ d = q) → WS K B (tRet (tAndV (tOp (rEqD K) (tVar 2) (tVar 3)) (tOp (rNeD K) (tVar 1) (tVar 2)))) [.val (ensD (some (p, q))), .val (Dl.pairD d), .val (Dl.pairD p), .val (Dl.pairD q), .no, .no] O := fun {O} ho hc => by
      refine ws_ret (we_andV (eqv rfl rfl ⟨_, rfl, ?_⟩))
      rw [ho]
      by_cases h : p = q
      · rw [if_pos (decide_eq_true h)]
        refine we_op (we_var rfl (we_var rfl (ro_nePr (fin ?_))))
        show _ = Ad.inP (Ad.betG p q) d
        unfold Ad.betG
        rw [if_pos h]
        show _ = !decide (d ∈ [p])
        congr 1
        simp
      · rw [if_neg (by rw [decide_eq_false h]; decide)]
        refine fin ?_
        show _ = Ad.inP (Ad.betG p q) d
        unfold Ad.betG
        rw [if_neg h]
        show false = Ad.inA p q d
        unfold Ad.inA
        rcases hc with z | z | z
        · exact absurd z h
        · subst z
          rw [Ad.cr_self]
          split
          · rw [Bool.eq_iff_iff]; simp; omega
          · simp
        · subst z
          rw [Ad.cr_self]
          split
          · rw [Bool.eq_iff_iff]; simp; omega
          · simp
    refine ws_seq (ws_if (wt_or (wt_test (eqv rfl rfl ⟨_, rfl, ?_⟩))))
    by_cases h1 : p = q
    · rw [if_pos (decide_eq_true h1), if_pos rfl]
      exact tail rfl (.inl h1)
    rw [if_neg (by rw [decide_eq_false h1]; decide)]
    refine wt_or (wt_test (eqv rfl rfl ⟨_, rfl, ?_⟩))
    by_cases h2 : d = p
    · rw [if_pos (decide_eq_true h2), if_pos rfl]
      exact tail rfl (.inr (.inl h2))
    rw [if_neg (by rw [decide_eq_false h2]; decide)]
    refine wt_test (eqv rfl rfl ⟨_, rfl, ?_⟩)
    by_cases h3 : d = q
    · rw [if_pos (decide_eq_true h3)]
      exact tail rfl (.inr (.inr h3))
    rw [if_neg (by rw [decide_eq_false h3]; decide)]
    have ang : ∀ {X : Xc} {i j : Nat} {δ : List Sd} {a b : Pr2} {Q : D → Prop}, δ[i]? = some (.val (Dl.pairD a)) → δ[j]? = some (.val (Dl.pairD b)) → Upto 1000000 a → Upto 1000000 b → Q (.int (angN a b)) → WEx K B X (tCall (SpD K (p2 fun a b => ∃ p q : Pr2, a = Dl.pairD p ∧ b = Dl.pairD q ∧ Upto 1000000 p ∧ Upto 1000000 q) fun ds r => ∃ p q : Pr2, ds = [Dl.pairD p, Dl.pairD q] ∧ r = .int (angN p q)) [] E0 (tCons (tVar i) (tCons (tVar j) tNil))) δ Q := by
      intro X i j δ a b Q hi hj ha hb h
      refine we_call (wa_cons (we_var hi (wa_cons (we_var hj (wa_nil ⟨⟨a, b, rfl, rfl, ha, hb⟩, ?_⟩)))))
      rintro _ ⟨p', q', e, rfl⟩
      rw [← pairD_inj (List.cons.inj e).1, ← pairD_inj (List.cons.inj (List.cons.inj e).2).1]
      exact h
    refine ws_next (ws_seq (ws_par (wa_cons (ang rfl rfl up hu (wa_cons (ang rfl rfl up uq (wa_nil ⟨_, _, rfl, ?_⟩)))))))
    try dsimp only [List.set]
    have key : Ad.inP (Ad.spP (some (p, q))) d = Ad.inA p q d := by
      show Ad.inP (Ad.betG p q) d = _
      unfold Ad.betG
      rw [if_neg h1]
      rfl
    have we := within_eq dp dq hd h1 h2 h3
    refine ws_ret (we_orV (we_op (we_var rfl (we_var rfl (ro_bl0 ⟨_, rfl, ?_⟩)))))
    by_cases h4 : angN p d < angN p q
    · rw [if_pos (decide_eq_true h4)]
      exact fin (by rw [key, ← we, decide_eq_true h4]; rfl)
    rw [if_neg (by rw [decide_eq_false h4]; decide)]
    refine we_andV (we_op (we_var rfl (we_var rfl (ro_eqI ⟨_, rfl, ?_⟩))))
    by_cases h5 : angN p d = angN p q
    · rw [if_pos (decide_eq_true h5)]
      exact we_op (we_crs hu uq (by decide) (we_var rfl rfl) (we_var rfl rfl) (we_int (ro_bl0 (fin (by rw [key, ← we, decide_eq_false h4, decide_eq_true h5]; rfl)))))
    · rw [if_neg (by rw [decide_eq_false h5]; decide)]
      exact fin (by rw [key, ← we, decide_eq_false h4, decide_eq_false h5]; rfl)

end
/-! #### Aj -/
section
variable {P : Program} {w : World} {K : PySem.W.Frag} {mg : Str → Option Value} {base : Heap}
/-! ### lits -/
theorem lit_tup {K : PySem.W.Frag} {B : Bt} {X : Xc} {δ : List Sd} {ta : TA} {ds : List D} (h : WAx K B X ta δ (· = ds)) (l : ds.length ≤ 1000) : WEx K B X (zTup ta) δ (· = .tup ds) := we_tup (wax_mono h fun _ e => by rw [e]; exact ⟨l, rfl⟩)
theorem lit_lst {K : PySem.W.Frag} {B : Bt} {X : Xc} {δ : List Sd} {ta : TA} {ds : List D} (h : WAx K B X ta δ (· = ds)) (l : ds.length ≤ 1000) : WEx K B X (tLst ta) δ (· = .lst ds) := we_lst (wax_mono h fun _ e => by rw [e]; exact ⟨l, rfl⟩)
theorem lit_int {K : PySem.W.Frag} {B : Bt} {X : Xc} {δ : List Sd} {n : Int} : WEx K B X (tC (.int n)) δ (· = .int n) := we_int rfl
theorem lit_non {K : PySem.W.Frag} {B : Bt} {X : Xc} {δ : List Sd} : WEx K B X (tC .non) δ (· = .non) := we_non rfl
theorem lit_neg {K : PySem.W.Frag} {B : Bt} {X : Xc} {δ : List Sd} {n : Int} : WEx K B X (tUn (rU fun i => .int (-i)) (tC (.int n))) δ (· = .int (-n)) := we_un (we_int (r1_int rfl))
local macro_rules | `(tactic| walk_at "lits") => `(tactic| repeat' first | exact lit_int | exact lit_neg | exact lit_non | exact wa_eq0 | refine wa_eqc ?_ ?_ | refine lit_tup ?_ (by show _ ≤ 1000; decide) | refine lit_lst ?_ (by show _ ≤ 1000; decide))
theorem we_drw {B : Bt} {X : Xc} {δ : List Sd} {i0 : Nat} {tn : TE} {Q : D → Prop} (h0 : δ[i0]? = some (.val .box)) (h : WEx K B X tn δ (fun d => ∃ n : Int, d = .int n ∧ 0 < n ∧ n ≤ 1000000000 ∧ ∀ i : Int, 0 ≤ i → i < n → Q (.int i))) : WEx K B X (tCall (SpD K takePre takePost) [] E0 (tCons (tVar i0) (tCons tn tNil))) δ Q := by
  refine we_call (wa_cons (we_var h0 (wa_cons (wex_mono h ?_))))
  rintro _ ⟨n, rfl, hn0, hn1, hq⟩
  refine wa_nil ⟨⟨rfl, n, rfl, hn0, hn1⟩, ?_⟩
  rintro _ ⟨n', i, e, rfl, hi0, hi1⟩
  cases e
  exact hq i hi0 hi1
theorem we_off {B : Bt} {X : Xc} {δ : List Sd} {i0 : Nat} {tn : TE} {Q : D → Prop} (h0 : δ[i0]? = some (.val .box)) (h : WEx K B X tn δ (fun d => isRow d ∧ 0 < (itemsD d).length ∧ (itemsD d).length ≤ 1000 ∧ ∀ r ∈ itemsD d, Q r)) : WEx K B X (tCall (SpD K ofPre ofPost) [] E0 (tCons (tVar i0) (tCons tn tNil))) δ Q := by
  refine we_call (wa_cons (we_var h0 (wa_cons (wex_mono h ?_))))
  rintro d ⟨hr, h0, h1, hq⟩
  refine wa_nil ⟨⟨rfl, hr, h0, h1⟩, ?_⟩
  rintro r ⟨l, e, hm⟩
  cases e
  exact hq r hm
theorem ro_inF {B : Bt} {Pp : D → Prop} {z : Str} {ds : List D} {c : Bool} (hf : ds.all D.flat = true) (hc : inV (.str z) (ds.map D.v) = c) (p : Pp (.bl c)) : RO K B (rIn K false) (.str z) (.tup ds) Pp := fun G H x y _ o hx hy q => by
  have key : ∀ {ds : List D} {vs : List V}, Dds K B G vs ds → ds.all D.flat = true → vs = ds.map D.v ∧ vs.all flatV = true := by
    intro ds
    induction ds with
    | nil => intro vs h _; cases h; exact ⟨rfl, rfl⟩
    | cons d ds ih =>
      intro vs h hf
      cases h with
      | cons h t =>
        rw [List.all_cons, Bool.and_eq_true] at hf
        obtain ⟨e1, e2⟩ := ih t hf.2
        have e3 := h.flat hf.1
        refine ⟨by rw [e3, e1]; rfl, ?_⟩
        rw [List.all_cons, e2, Bool.and_true, e3]
        cases d <;> first | rfl | exact Bool.noConfusion hf.1
  cases hx
  cases hy with
  | tup hg t =>
    obtain ⟨e1, e2⟩ := key t hf
    refine ⟨_, _, rfl, .inr (SqT.ofZ (o.u _ _ hg.1)), rfl, e2, ?_⟩
    rw [if_neg (by decide), e1, hc]
    exact q.nil o (.bl c) p

/-! ### ae -/
/-! ### the law's arcs -/
abbrev s__law_dir : Stmt := topS 42
abbrev N__law_dir : List Str := ["_law_bag", "_law_wide", "_law_some"]
theorem sc__law_dir : FnScope N__law_dir ["_law_bag"] (defScope s__law_dir) := ⟨rfl, rfl, rfl, by decide +kernel, rfl, by decide +kernel, by decide +kernel⟩
abbrev ClDi (P : Program) (w : World) (K : PySem.W.Frag) (mg : Str → Option Value) (base : Heap) (k : Nat) := Cl P w K mg base k "_law_dir" s__law_dir ["_law_bag"] (SpD K (p1 fun d => d = .box) fun _ r => ∃ p : Pr2, r = Dl.pairD p ∧ isDir (Dl.pairD p) = true)
def dirs12 : List Pr2 := [(1, 0), (0, 1), (-1, 0), (0, -1), (1, 1), (-1, 1), (-1, -1), (1, -1), (2, 1), (-1, 2), (1, -3), (-3, -2)]
theorem ok__law_dir {k : Nat} (G : Gn mg) (F : Df K mg "_law_dir" s__law_dir) (C__law_draw : ClT P w K mg base k) (C__law_of : ClO P w K mg base k) (C__law_reduced : ClRd P w K mg base k) : ClDi P w K mg base (k + 1) := by
  refine cl_of F sc__law_dir (fun _ _ _ _ _ _ us hl => match us, hl with | [_], _ => rfl) p1_len fun f cdv A outer s H E hr => ⟨_, (pss_cons (ps_set (i := 1) sc__law_dir.nd rfl (Or.inl rfl) (pe_tupZ (pa_cons (pe_op op_sub (pe_c C__law_draw hr (by omega) (by rfl) (pa_cons (pv 0) (pa_cons pe_int pa_nil))) pe_int) (pa_cons (pe_op op_sub (pe_c C__law_draw hr (by omega) (by rfl) (pa_cons (pv 0) (pa_cons pe_int pa_nil))) pe_int) pa_nil))))
      (pss_cons (ps_set (i := 2) sc__law_dir.nd rfl (Or.inl rfl) (pe_lst (pa_cons (pe_tupZ (pa_cons pe_int (pa_cons pe_int pa_nil))) (pa_cons (pe_tupZ (pa_cons pe_int (pa_cons pe_int pa_nil))) (pa_cons (pe_tupZ (pa_cons (pe_un un_neg pe_int) (pa_cons pe_int pa_nil))) (pa_cons (pe_tupZ (pa_cons pe_int (pa_cons (pe_un un_neg pe_int) pa_nil))) (pa_cons (pe_tupZ (pa_cons pe_int (pa_cons pe_int pa_nil))) (pa_cons (pe_tupZ (pa_cons (pe_un un_neg pe_int) (pa_cons pe_int pa_nil))) (pa_cons (pe_tupZ (pa_cons (pe_un un_neg pe_int) (pa_cons (pe_un un_neg pe_int) pa_nil))) (pa_cons (pe_tupZ (pa_cons pe_int (pa_cons (pe_un un_neg pe_int) pa_nil))) (pa_cons (pe_tupZ (pa_cons pe_int (pa_cons pe_int pa_nil))) (pa_cons (pe_tupZ (pa_cons (pe_un un_neg pe_int) (pa_cons pe_int pa_nil))) (pa_cons (pe_tupZ (pa_cons pe_int (pa_cons (pe_un un_neg pe_int) pa_nil))) (pa_cons (pe_tupZ (pa_cons (pe_un un_neg pe_int) (pa_cons (pe_un un_neg pe_int) pa_nil))) pa_nil))))))))))))))
      (pss_one (ps_ret (pe_c C__law_of hr (by omega) (by rfl) (pa_cons (pv 0) (pa_cons (pe_op op_cat (pv 2) (pe_lst (pa_cons (pe_ifExp (pt_cmpR (op_neD hr.units) (pv 1) (pe_tupZ (pa_cons pe_int (pa_cons pe_int pa_nil))) (nomark _)) (pe_c C__law_reduced hr (by omega) (by rfl) (pa_cons (pv 1) pa_nil)) (pe_tupZ (pa_cons pe_int (pa_cons pe_int pa_nil)))) (pa_cons (pe_tupZ (pa_cons pe_int (pa_cons (pe_un un_neg pe_int) pa_nil))) (pa_cons (pe_tupZ (pa_cons (pe_un un_neg pe_int) (pa_cons pe_int pa_nil))) pa_nil))))) pa_nil))))))), fun B ds hp => ?_⟩
  obtain ⟨_, rfl, rfl⟩ := p1_ex hp
  show WS K B _ [.val .box, .no, .no] _
  try dsimp only [cxOf, Cx.nox, Cx.blk]
  refine ws_seq (ws_set (we_tup (wa_cons (we_op (we_drw rfl (we_int ⟨1999, rfl, by decide, by decide, fun x hx0 hx1 => we_int (ro_int0 ?_)⟩))))))
  refine wa_cons (we_op (we_drw rfl (we_int ⟨1999, rfl, by decide, by decide, fun y hy0 hy1 => we_int (ro_int0 (wa_nil ⟨by show 2 ≤ 1000; decide, ?_⟩))⟩)))
  have hu : Upto 999 (x - 999, y - 999) := ⟨by show -999 ≤ x - 999; omega, by show x - 999 ≤ 999; omega, by show -999 ≤ y - 999; omega, by show y - 999 ≤ 999; omega⟩
  change WS K B _ [.val .box, .val (Dl.pairD (x - 999, y - 999)), .no] _
  generalize ((x - 999, y - 999) : Pr2) = v at hu
  refine ws_seq (ws_set (wex_mono (P := (· = rowD dirs12)) (by walk_at "lits") fun d e => ?_))
  subst e
  change WS K B _ [.val .box, .val (Dl.pairD v), .val (rowD dirs12)] _
  have ok12 : ∀ p ∈ dirs12, isDir (Dl.pairD p) = true := fun p hp => List.all_eq_true.mp (show (dirs12.all fun p => isDir (Dl.pairD p)) = true by decide +kernel) p hp
  have l15 : dirs12.length = 12 := rfl
  have go : ∀ {O : Out} {u : Pr2}, isDir (Dl.pairD u) = true → (∀ r, (∃ p : Pr2, r = Dl.pairD p ∧ isDir (Dl.pairD p) = true) → O.rt r) → ∀ r ∈ itemsD (.lst (dirs12.map Dl.pairD ++ [Dl.pairD u, Dl.pairD (999, -998), Dl.pairD (-1, 999)])), O.rt r := fun {O u} hu' ho r hr => ho r (by
    rcases List.mem_append.mp hr with h | h
    · obtain ⟨p, hp, rfl⟩ := List.mem_map.mp h
      exact ⟨p, rfl, ok12 p hp⟩
    · simp only [List.mem_cons, List.not_mem_nil, or_false] at h
      rcases h with rfl | rfl | rfl
      · exact ⟨u, rfl, hu'⟩
      · exact ⟨_, rfl, by decide +kernel⟩
      · exact ⟨_, rfl, by decide +kernel⟩)
  refine ws_ret (we_off rfl (we_op (we_var rfl ?_)))
  refine we_lst (wa_cons (we_if (wt_test (we_op (we_var rfl ?_)))))
  refine wex_mono (P := (· = Dl.pairD (0, 0))) (by walk_at "lits") fun d e => ?_
  subst e
  refine ro_nePr ⟨_, rfl, ?_⟩
  have two : ∀ {X : Xc} {δ : List Sd} {ta : TA} {u : Pr2} {R : D → Prop}, isDir (Dl.pairD u) = true → WAx K B X ta δ (· = [Dl.pairD (999, -998), Dl.pairD (-1, 999)]) → (∀ r, r = D.lst (dirs12.map Dl.pairD ++ [Dl.pairD u, Dl.pairD (999, -998), Dl.pairD (-1, 999)]) → R r) → WAx K B X ta δ fun ds => (Dl.pairD u :: ds).length ≤ 1000 ∧ RO K B rCat (rowD dirs12) (.lst (Dl.pairD u :: ds)) R := fun hu h r => wax_mono h fun ds e => by
    subst e
    exact ⟨by show 3 ≤ 1000; decide, ro_cat (by show 12 + 3 ≤ 1000; decide) (r _ rfl)⟩
  by_cases hz : v = (0, 0)
  · rw [if_neg (by rw [decide_eq_true hz]; decide)]
    refine wex_mono (P := (· = Dl.pairD (1, 0))) (by walk_at "lits") fun d e => ?_
    subst e
    refine two (by decide +kernel) (by walk_at "lits") fun r e => ?_
    subst e
    exact ⟨.inl ⟨_, rfl⟩, by show 0 < 15; decide, by show 15 ≤ 1000; decide, go (by decide +kernel) fun r h => h⟩
  · rw [if_pos (by rw [decide_eq_false hz]; rfl)]
    refine we_red hz (upto_le hu (by decide)) (we_var rfl rfl) ?_
    have hi : isDir (Dl.pairD (Ad.red v)) = true := by
      obtain ⟨⟨a, b⟩, c, d⟩ := Ad.red_le (b := 999) hz ⟨hu.1, hu.2.1⟩ hu.2.2
      exact isDir_iff.mpr ⟨⟨a, b, c, d⟩, Ad.red_isD hz⟩
    refine two hi (by walk_at "lits") fun r e => ?_
    subst e
    exact ⟨.inl ⟨_, rfl⟩, by show 0 < 15; decide, by show 15 ≤ 1000; decide, go hi fun r h => h⟩
theorem we_dirc {B : Bt} {X : Xc} {δ : List Sd} {i : Nat} {Q : D → Prop} (hi : δ[i]? = some (.val .box)) (h : ∀ p : Pr2, isDir (Dl.pairD p) = true → Q (Dl.pairD p)) : WEx K B X (tCall (SpD K (p1 fun d => d = .box) fun _ r => ∃ p : Pr2, r = Dl.pairD p ∧ isDir (Dl.pairD p) = true) [] E0 (tCons (tVar i) tNil)) δ Q := by
  refine we_call (wa_cons (we_var hi (wa_nil ⟨rfl, ?_⟩)))
  rintro _ ⟨p, rfl, hp⟩
  exact h p hp
def EnD (e : Ens) : Prop := ∀ p q, e = some (p, q) → isDir (Dl.pairD p) = true ∧ isDir (Dl.pairD q) = true
theorem EnD.ok {e : Ens} (h : EnD e) {n : Int} (hn : 999 ≤ n) : EnOk n e := fun p q z => by
  obtain ⟨h1, h2⟩ := h p q z
  obtain ⟨u1, d1⟩ := isDir_iff.mp h1
  obtain ⟨u2, d2⟩ := isDir_iff.mp h2
  exact ⟨⟨d1, upto_le u1 hn⟩, d2, upto_le u2 hn⟩
abbrev s__law_arc_of_two : Stmt := topS 43
abbrev N__law_arc_of_two : List Str := ["_law_bag", "_law_known", "_law_d", "_law_e"]
theorem sc__law_arc_of_two : FnScope N__law_arc_of_two ["_law_bag", "_law_known"] (defScope s__law_arc_of_two) := ⟨rfl, rfl, rfl, by decide +kernel, rfl, by decide +kernel, by decide +kernel⟩
abbrev ClA2 (P : Program) (w : World) (K : PySem.W.Frag) (mg : Str → Option Value) (base : Heap) (k : Nat) := Cl P w K mg base k "_law_arc_of_two" s__law_arc_of_two ["_law_bag", "_law_known"] (SpD K (p2 fun d l => d = .box ∧ ∃ ks : List Pr2, l = rowD ks ∧ ks.length ≤ 100 ∧ ∀ p ∈ ks, isDir (Dl.pairD p) = true) fun _ r => ∃ e : Ens, r = ensD e ∧ EnD e)
theorem ok__law_arc_of_two {k : Nat} (G : Gn mg) (F : Df K mg "_law_arc_of_two" s__law_arc_of_two) (C__law_draw : ClT P w K mg base k) (C__law_of : ClO P w K mg base k) (C__law_dir : ClDi P w K mg base k) : ClA2 P w K mg base (k + 1) := by
  refine cl_of F sc__law_arc_of_two (fun _ _ _ _ _ _ us hl => match us, hl with | [_, _], _ => rfl) p2_len fun f cdv A outer s H E hr => ⟨_, (pss_cons (ps_par (i := 2) (j := 3) (by rfl) sc__law_arc_of_two.nd rfl rfl (by decide) rfl rfl (pa_cons (pe_c C__law_of hr (by omega) (by rfl) (pa_cons (pv 0) (pa_cons (pe_op op_cat (pv 1) (pe_lst (pa_cons (pe_c C__law_dir hr (by omega) (by rfl) (pa_cons (pv 0) pa_nil)) pa_nil))) pa_nil))) (pa_cons (pe_c C__law_of hr (by omega) (by rfl) (pa_cons (pv 0) (pa_cons (pe_op op_cat (pv 1) (pe_lst (pa_cons (pe_c C__law_dir hr (by omega) (by rfl) (pa_cons (pv 0) pa_nil)) (pa_cons (pe_c C__law_dir hr (by omega) (by rfl) (pa_cons (pv 0) pa_nil)) pa_nil)))) pa_nil))) pa_nil)) (by rfl))
      (pss_one (ps_ret (pe_ifExp (pt_cmpR op_eq (pe_c C__law_draw hr (by omega) (by rfl) (pa_cons (pv 0) (pa_cons pe_int pa_nil))) pe_int (nomark _)) pe_non (pe_ifExp (pt_cmpR op_eq (pe_c C__law_draw hr (by omega) (by rfl) (pa_cons (pv 0) (pa_cons pe_int pa_nil))) pe_int (nomark _)) (pe_tupZ (pa_cons (pv 2) (pa_cons (pv 2) pa_nil))) (pe_tupZ (pa_cons (pv 2) (pa_cons (pv 3) pa_nil)))))))), fun B ds hp => ?_⟩
  obtain ⟨_, _, rfl, rfl, ks, rfl, hl, hk⟩ := p2_ex hp
  show WS K B _ [.val .box, .val (rowD ks), .no, .no] _
  try dsimp only [cxOf, Cx.nox, Cx.blk]
  have one : ∀ {us : List Pr2}, (∀ p ∈ us, isDir (Dl.pairD p) = true) → ∀ r ∈ itemsD (.lst (ks.map Dl.pairD ++ us.map Dl.pairD)), ∃ q : Pr2, r = Dl.pairD q ∧ isDir (Dl.pairD q) = true := fun {us} hu r hr => by
    rcases List.mem_append.mp hr with h | h
    · obtain ⟨p, hp, rfl⟩ := List.mem_map.mp h
      exact ⟨p, rfl, hk p hp⟩
    · obtain ⟨p, hp, rfl⟩ := List.mem_map.mp h
      exact ⟨p, rfl, hu p hp⟩
  refine ws_seq (ws_par (wa_cons (we_off rfl (we_op (we_var rfl ?_)))))
  refine we_lst (wa_cons (we_dirc rfl fun a ha => wa_nil ⟨by show 1 ≤ 1000; decide, ro_cat (by rw [List.length_map]; show _ + 1 ≤ 1000; omega) ⟨.inl ⟨_, rfl⟩, ?_, ?_, fun r hr => ?_⟩⟩))
  · show 0 < (ks.map Dl.pairD ++ [Dl.pairD a]).length
    rw [List.length_append]; show 0 < _ + 1; omega
  · show (ks.map Dl.pairD ++ [Dl.pairD a]).length ≤ 1000
    rw [List.length_append, List.length_map]; show _ + 1 ≤ 1000; omega
  obtain ⟨d, rfl, hd⟩ := one (us := [a]) (fun p hp => by rw [List.mem_singleton.mp hp]; exact ha) r hr
  refine wa_cons (we_off rfl (we_op (we_var rfl ?_)))
  refine we_lst (wa_cons (we_dirc rfl fun a ha => wa_cons (we_dirc rfl fun b hb => wa_nil ⟨by show 2 ≤ 1000; decide, ro_cat (by rw [List.length_map]; show _ + 2 ≤ 1000; omega) ⟨.inl ⟨_, rfl⟩, ?_, ?_, fun r hr => ?_⟩⟩)))
  · show 0 < (ks.map Dl.pairD ++ [Dl.pairD a, Dl.pairD b]).length
    rw [List.length_append]; show 0 < _ + 2; omega
  · show (ks.map Dl.pairD ++ [Dl.pairD a, Dl.pairD b]).length ≤ 1000
    rw [List.length_append, List.length_map]; show _ + 2 ≤ 1000; omega
  obtain ⟨e, rfl, he⟩ := one (us := [a, b]) (fun p hp => by
    rcases List.mem_cons.mp hp with z | z
    · rw [z]; exact ha
    · rw [List.mem_singleton.mp z]; exact hb) r hr
  refine wa_nil ⟨_, _, rfl, ?_⟩
  try dsimp only [List.set]
  refine ws_ret (we_if (wt_test (we_op (we_drw rfl (we_int ⟨9, rfl, by decide, by decide, fun i _ _ => we_int (ro_eqI ⟨_, rfl, ?_⟩)⟩)))))
  generalize decide (i = 0) = c
  cases c
  · rw [if_neg (by decide)]
    refine we_if (wt_test (we_op (we_drw rfl (we_int ⟨5, rfl, by decide, by decide, fun i _ _ => we_int (ro_eqI ⟨_, rfl, ?_⟩)⟩))))
    generalize decide (i = 0) = c
    cases c
    · rw [if_neg (by decide)]
      exact we_tup (wa_cons (we_var rfl (wa_cons (we_var rfl (wa_nil ⟨by show 2 ≤ 1000; decide, some (d, e), rfl, fun p q z => by cases z; exact ⟨hd, he⟩⟩)))))
    · rw [if_pos rfl]
      exact we_tup (wa_cons (we_var rfl (wa_cons (we_var rfl (wa_nil ⟨by show 2 ≤ 1000; decide, some (d, d), rfl, fun p q z => by cases z; exact ⟨hd, hd⟩⟩)))))
  · rw [if_pos rfl]
    exact we_non ⟨none, rfl, fun p q z => by cases z⟩
abbrev s__law_arc_made : Stmt := topS 44
abbrev N__law_arc_made : List Str := ["_law_ends"]
theorem sc__law_arc_made : FnScope N__law_arc_made ["_law_ends"] (defScope s__law_arc_made) := ⟨rfl, rfl, rfl, by decide +kernel, rfl, by decide +kernel, by decide +kernel⟩
abbrev ClAm (P : Program) (w : World) (K : PySem.W.Frag) (mg : Str → Option Value) (base : Heap) (CA : Addr) (k : Nat) := Cl P w K mg base k "_law_arc_made" s__law_arc_made ["_law_ends"] (SpD K (p1 fun d => ∃ e : Ens, d = ensD e ∧ EnD e) fun ds r => ∃ e : Ens, ds = [ensD e] ∧ r = arcD CA (Ad.spP e))
theorem ok__law_arc_made {k : Nat} {CA CN fi fw : Addr} {mc : Value} {pw : Addr} {fdi fdw : FuncData} (F : Df K mg "_law_arc_made" s__law_arc_made) (MG : AcT K mg CA CN) (MK : Mk K CA fi) (CM_init : ClM P w K mg base (k + 1) fi fdi ["self", "start", "stop"] (SpI K CA (aiPre CN) (aiPost CA CN))) (AR : ClX.CRead K CA mc) (AM : ClX.CMet K CA mc "whole" pw fw) (CM_whole : ClM P w K mg base (k + 1 + 1) fw fdw ["cls"] (SpD K (p1 fun d => d = .adr CA) fun _ r => r = arcD CA [])) : ClAm P w K mg base CA (k + 1 + 1 + 1) := by
  refine cl_of F sc__law_arc_made (fun _ _ _ _ _ _ us hl => match us, hl with | [_], _ => rfl) p1_len fun f cdv A outer s H E hr => ⟨_, (pss_one (ps_ret (pe_ifExp (pt_cmpR op_isN (pv 0) pe_non (nomark _)) (Dl.pe_cmeth0 (pe_glob (v := .ref CA) (by rfl) MG.m_Arc rfl) AR AM (clm_raw CM_whole) hr pass0) (pe_make MK CM_init.ok (hr.mono (by omega)) (by rfl) MG.m_Arc CM_init.bn .nil pass0 (pa_cons (pe_ix (show IxR _ (rIxT K) from ix_tup) (pv 0) pe_int (fun _ _ => rfl)) (pa_cons (pe_ix (show IxR _ (rIxT K) from ix_tup) (pv 0) pe_int (fun _ _ => rfl)) pa_nil)))))), fun B ds hp => ?_⟩
  obtain ⟨_, rfl, e, rfl, hd⟩ := p1_ex hp
  show WS K B _ [.val (ensD e)] _
  try dsimp only [cxOf, Cx.nox, Cx.blk]
  refine ws_ret (we_if (wt_test (we_op (we_var rfl (we_non (ro_isN ⟨_, rfl, ?_⟩))))))
  cases e with
  | none =>
    rw [if_pos (show isNon (ensD none) = true from rfl)]
    exact we_cmeth0 (we_adr ⟨rfl, rfl, fun r e => ⟨none, rfl, e⟩⟩)
  | some pq =>
    obtain ⟨p, q⟩ := pq
    obtain ⟨h1, h2⟩ := hd p q rfl
    rw [if_neg (by show ¬ false = true; decide)]
    refine we_make (wa_cons (we_op (we_var rfl (we_int (ro_ixT (d := Dl.pairD p) rfl ?_)))))
    refine wa_cons (we_op (we_var rfl (we_int (ro_ixT (d := Dl.pairD q) rfl (wa_nil ⟨.inr ⟨p, q, rfl, rfl, h1, h2, rfl, rfl⟩, ?_⟩)))))
    rintro d (⟨e, _⟩ | ⟨p', q', e, rfl⟩)
    · cases e
    · rw [← pairD_inj (List.cons.inj e).1, ← pairD_inj (List.cons.inj (List.cons.inj e).2).1]
      exact ⟨some (p, q), rfl, rfl⟩
/-! ### what is tried -/
abbrev s__law_field : Stmt := topS 31
abbrev N__law_field : List Str := ["_law_e"]
theorem sc__law_field : FnScope N__law_field ["_law_e"] (defScope s__law_field) := ⟨rfl, rfl, rfl, by decide +kernel, rfl, by decide +kernel, by decide +kernel⟩
abbrev njD (C : Addr) : D := .exn C ["code"] [.str "NoJoining"]
def fldPre (K : PySem.W.Frag) : List D → Prop := p1 fun d => ∃ C, d = njD C ∧ XfC K C ∧ PySem.W.findIn K (.ref C) "code" = some none
def fldPost : List D → D → Prop := fun ds r => r = .tup []
theorem lk_code : ([(("code" : Str))].zip [D.str "NoJoining"]).lookup ("code" : Str) = some (.str "NoJoining") := by
  rw [List.zip_cons_cons, lookup_putD, if_pos rfl]
abbrev ClF (P : Program) (w : World) (K : PySem.W.Frag) (mg : Str → Option Value) (base : Heap) (k : Nat) := ClHot P w K mg base k "_law_field" ["_law_e"] (SpD K (fldPre K) fldPost)
theorem ok__law_field {k : Nat} (F : Df K mg "_law_field" s__law_field) : ClF P w K mg base (k + 1) := by
  refine clHot_of F sc__law_field (fun _ _ _ _ _ _ us hl => match us, hl with | [_], _ => rfl) p1_len fun f cdv A outer s H E hr => ⟨_, (pss_cons (ps_if (pt_cmpR op_in_seq (pe_xv (pv 0)) (pe_tupZ (pa_cons pe_str (pa_cons pe_str (pa_cons pe_str pa_nil)))) (by rfl)) (pss_one (ps_ret (pe_tupZ (pa_cons (pe_xv (pv 0)) pa_nil)))) pss_nil)
      (pss_cons (ps_if (pt_cmpR op_in_seq (pe_xv (pv 0)) (pe_tupZ (pa_cons pe_str (pa_cons pe_str (pa_cons pe_str (pa_cons pe_str pa_nil))))) (by rfl)) (pss_one (ps_ret (pe_tupZ (pa_cons (pe_xv (pv 0)) pa_nil)))) pss_nil)
      (pss_cons (ps_if (pt_cmpR op_in_seq (pe_xv (pv 0)) (pe_tupZ (pa_cons pe_str (pa_cons pe_str (pa_cons pe_str pa_nil)))) (by rfl)) (pss_one (ps_ret (pe_tupZ (pa_cons (pe_xv (pv 0)) (pa_cons (pe_xv (pv 0)) pa_nil))))) pss_nil)
      (pss_cons (ps_if (pt_cmpR op_in_seq (pe_xv (pv 0)) (pe_tupZ (pa_cons pe_str (pa_cons pe_str pa_nil))) (by rfl)) (pss_one (ps_ret (pe_tupZ (pa_cons (pe_xv (pv 0)) pa_nil)))) pss_nil)
      (pss_one (ps_ret (pe_ifExp (pt_cmpR op_in_seq (pe_xv (pv 0)) (pe_tupZ (pa_cons pe_str (pa_cons pe_str (pa_cons pe_str pa_nil)))) (by rfl)) (pe_tupZ (pa_cons (pe_xv (pv 0)) pa_nil)) (pe_tupZ pa_nil)))))))), fun B ds hp => ?_⟩
  obtain ⟨d, rfl, C, rfl, hx, hn1⟩ := p1_ex hp
  show WS K B _ [.val (njD C)] _
  try dsimp only [cxT, cxOf, Cx.nox, Cx.blk]
  refine ws_seq (ws_if (wt_test (we_op (we_xv (we_var rfl ⟨C, _, _, _, rfl, lk_code, ⟨hx, hn1⟩, ?_⟩)))))
  repeat walk_at "dl"
  refine ro_inF rfl (c := false) (by decide +kernel) ⟨false, rfl, ?_⟩
  refine iteF (ws_next ?_)
  refine ws_seq (ws_if (wt_test (we_op (we_xv (we_var rfl ⟨C, _, _, _, rfl, lk_code, ⟨hx, hn1⟩, ?_⟩)))))
  repeat walk_at "dl"
  refine ro_inF rfl (c := false) (by decide +kernel) ⟨false, rfl, ?_⟩
  refine iteF (ws_next ?_)
  refine ws_seq (ws_if (wt_test (we_op (we_xv (we_var rfl ⟨C, _, _, _, rfl, lk_code, ⟨hx, hn1⟩, ?_⟩)))))
  repeat walk_at "dl"
  refine ro_inF rfl (c := false) (by decide +kernel) ⟨false, rfl, ?_⟩
  refine iteF (ws_next ?_)
  refine ws_seq (ws_if (wt_test (we_op (we_xv (we_var rfl ⟨C, _, _, _, rfl, lk_code, ⟨hx, hn1⟩, ?_⟩)))))
  repeat walk_at "dl"
  refine ro_inF rfl (c := false) (by decide +kernel) ⟨false, rfl, ?_⟩
  refine iteF (ws_next ?_)
  refine ws_ret (we_if (wt_test (we_op (we_xv (we_var rfl ⟨C, _, _, _, rfl, lk_code, ⟨hx, hn1⟩, ?_⟩)))))
  repeat walk_at "dl"
  refine ro_inF rfl (c := false) (by decide +kernel) ⟨false, rfl, ?_⟩
  refine iteF ?_
  exact we_tup (wa_nil ⟨by decide, rfl⟩)
abbrev s__law_try : Stmt := topS 32
abbrev N__law_try : List Str := ["_law_ask", "_law_e"]
theorem sc__law_try : FnScope N__law_try ["_law_ask"] (defScope s__law_try) := ⟨rfl, rfl, rfl, by decide +kernel, rfl, by decide +kernel, by decide +kernel⟩
open LamX in
theorem pe_tryK {X : Cx} {c Pt CL CM : Addr} {kF j : Nat} {t : XK → TE} {params : Arguments} {body : Expr} {scope : Scope} {p lpos pos : Pos} {T : List (Addr × Str)} (F : Df X.K X.mg "_law_try" s__law_try) (hg : Gl X "_law_try") (m1 : X.mg "LotError" = some (.ref CL)) (m2 : X.mg "Missing" = some (.ref CM)) (C_f : ClF X.prog X.w X.K X.mg X.base kF)
    (TB : TabB X.base X.mg c Pt) (hcode : X.env.code = .ref c) (hT : T = [(Pt, X.env.qual ++ "<lambda>")]) (hr : Room (j + 2) X.A) (hj : kF ≤ j + 1) (L : LamS X.env.scope scope) (hdef : defaultsOf params X.env = ([], []))
    (hbind : ∀ (q : Str) (cl : List (Str × Addr)) (pm cv ctv : Value), bindArgs (PySem.W.kla_fn "<lambda>" q params body scope cl pm cv ctv) ⟨[], []⟩ = pure [])
    (hbody : ∀ (A : Around) (outer : List Env) (s : Shared) (H : Hp) (E : XK) (f c' : Addr), Room j (A.deeper (lamEnv X scope s.heap.objs.size f c')) → PE (lamCx X A outer s H E scope f c') body (t E)) :
    PE X (.Call (.Name "_law_try" p) [.Lambda params body scope lpos] [] pos) (tLam T (TTry X.K (.ref CL) (.ref CM) (SpD X.K (fldPre X.K) fldPost)) t) := by
  obtain ⟨g, fd, F, hm⟩ := F.ex
  have kp := F.kp
  have hb : L2.Binds X.K fd ["_law_ask"] [] := F.binds fun _ _ _ _ _ _ us hl => match us, hl with | [_], _ => rfl
  obtain ⟨oc, od, kV, doc, pm, an, cdv, ct, osl, rfl, lk, hcd⟩ := F.ex
  obtain ⟨ff, fdF, FF, mf, kf, bf⟩ := C_f.ex
  exact pe_lamS (k := j) hg hm kp lk hcd hb sc__law_try rfl (.inl rfl) (try_gives (kq := 0) (j := j) sc__law_try rfl rfl (by decide) (by decide) rfl m1 m2 rfl mf kf bf (by decide) (by decide) (by decide) FF hj) TB hcode (by rw [hT]; exact List.mem_singleton.mpr rfl) (fun q hq _ => by rw [hT] at hq; rw [List.mem_singleton.mp hq]) hr L hdef hbind hbody
structure Xg (K : PySem.W.Frag) (C CL CM : Addr) : Prop where
  xf : XfC K C
  nc : PySem.W.findIn K (.ref C) "code" = some none
  m : PySem.W.exmAny K (.ref C) [.ref CL, .ref CM] = some true
theorem we_tryJ {B : Bt} {X : Xc} {δ : List Sd} {Pp R : D → Prop} {C CL CM : Addr} {te : XK → TE} {Φ : Prop} (XG : Xg K C CL CM) (hb : ∀ E : XK, WEx K B (XE E fun C' ks es => excNJ C C' ks es ∧ Φ) (te E) δ R)
    (hv : ∀ d, R d → Pp (.tup [.str "", d])) (hx : Φ → Pp (.tup [.str "NoJoining", .tup []])) : WEx K B X (LamX.tLam B.T (TTry K (.ref CL) (.ref CM) (SpD K (fldPre K) fldPost)) te) δ Pp := by
  refine we_try (R := R) (exc := fun C' ks es => excNJ C C' ks es ∧ Φ) hb hv ?_
  rintro C' ks es ⟨⟨rfl, rfl, rfl⟩, hΦ⟩
  refine ⟨XG.m, ?_⟩
  refine ws_ret (we_tup (wa_cons (we_xv (we_var rfl ⟨C', _, _, _, rfl, lk_code, ⟨XG.xf, XG.nc⟩, wa_cons (we_call (wa_cons (we_var rfl (wa_nil ⟨⟨C', rfl, XG.xf, XG.nc⟩, ?_⟩))))⟩))))
  rintro _ rfl
  exact wa_nil ⟨by show 2 ≤ 1000; decide, hx hΦ⟩

end
/-! #### Ak -/
section
variable {P : Program} {w : World} {K : PySem.W.Frag} {mg : Str → Option Value} {base : Heap}
/-! ### notN -/
theorem ro_notN {B : Bt} {Pp : D → Prop} {a : D} (p : Pp (.bl (!isNon a))) : RO K B (fun x y H Q => y = .non ∧ Q (.bl (!decide (x = .non))) H) a .non Pp := fun G H x y R o hx hy q => by
  have z := ro_isN (K := K) (B := B) (Pp := fun d => d = .bl (isNon a)) (a := a) rfl
  obtain ⟨e, w⟩ := z G H x y (fun v _ => v = .bl (isNon a)) o hx hy (fun v d _ _ _ _ hd e => by subst e; cases hd; rfl)
  refine ⟨e, ?_⟩
  have w' : decide (x = .non) = isNon a := V.bl.inj w
  rw [w']
  exact q.nil o (.bl _) p

/-! ### jo -/
/-! ### _law_joined_so -/
structure AmT (K : PySem.W.Frag) (CA fSt fSp fWh fCn pSt pSp pWh : Addr) : Prop where
  p_start : PropOf K CA "start" pSt fSt
  p_stop : PropOf K CA "stop" pSp fSp
  p_whole : PropOf K CA "is_whole" pWh fWh
  c_at : PySem.W.findIn K (.ref CA) "__contains__" = some (some (.ref fCn))
  c_fn : PySem.W.isFn K (.ref fCn) = true
abbrev s__law_joined_so : Stmt := topS 45
abbrev N__law_joined_so : List Str := ["_law_joined", "_law_tests", "_law_due", "_law_marks", "_law_ends", "_law_near", "_law_t"]
theorem sc__law_joined_so : FnScope N__law_joined_so ["_law_joined", "_law_tests", "_law_due", "_law_marks"] (defScope s__law_joined_so) := ⟨rfl, rfl, rfl, by decide +kernel, rfl, by decide +kernel, by decide +kernel⟩
def bitsD (bs : List Bool) : D := .lst (bs.map .bl)
def joPre (CA : Addr) : List D → Prop := fun ds => ∃ (J ts ms : List Pr2), ds = [arcD CA J, rowD ts, bitsD (ts.map (Ad.inP J)), rowD ms] ∧ DrOk J ∧ ts.length ≤ 100 ∧ ms.length ≤ 100 ∧ (∀ t ∈ ts, Ad.IsD t ∧ Upto 10000 t) ∧ ∀ p ∈ J, p ∈ ms
abbrev ClJo (P : Program) (w : World) (K : PySem.W.Frag) (mg : Str → Option Value) (base : Heap) (CA : Addr) (k : Nat) := Cl P w K mg base k "_law_joined_so" s__law_joined_so ["_law_joined", "_law_tests", "_law_due", "_law_marks"] (SpD K (joPre CA) fun _ r => r = .bl true)
/-- the ends of a span that an arc may hold -/
def endsJ (J : List Pr2) : Ens := match J with
  | [] => none
  | a :: r => some (a, (a :: r).getLast (List.cons_ne_nil a r))
theorem endsJ_sp {J : List Pr2} (h : WfS J) : Ad.spP (endsJ J) = J := by
  rcases h with rfl | ⟨a, b, rfl⟩
  · rfl
  · unfold betw
    split
    · rename_i e; subst e
      show Ad.betG a a = [a]
      unfold Ad.betG; rw [if_pos rfl]
    · rename_i e
      show Ad.betG a b = [a, b]
      unfold Ad.betG; rw [if_neg e]
theorem endsJ_mem {J : List Pr2} {p q : Pr2} (h : endsJ J = some (p, q)) : p ∈ J ∧ q ∈ J := by
  match J, h with
  | a :: r, h =>
    cases h
    exact ⟨List.mem_cons_self, List.getLast_mem _⟩
theorem lay_bits : ∀ bs : List Bool, PyData.canLayAll0 (bs.map PyData.bool) = true
  | [] => rfl
  | b :: bs => by rw [List.map_cons, PyData.canLayAll0, lay_bits bs]; rfl
theorem dep_bits : ∀ bs : List Bool, PyData.depthAll (bs.map PyData.bool) ≤ 0
  | [] => Nat.le_refl 0
  | b :: bs => by
    rw [List.map_cons, PyData.depthAll]
    exact Nat.max_le.mpr ⟨Nat.le_refl 0, dep_bits bs⟩
theorem dpa_bits {H : Hp} : ∀ bs : List Bool, DpAll K H (bs.map V.bl) (bs.map PyData.bool)
  | [] => .nil
  | b :: bs => .cons (.bl b) (dpa_bits bs)
theorem dp_bits {B : Bt} {G H : Hp} (o : Ok B G H) {bs : List Bool} {x : V} (hx : Dd K B G x (bitsD bs)) : Dp K H x (.list (bs.map PyData.bool)) := by
  unfold bitsD at hx
  cases hx with
  | lst hg t =>
    rw [Dds.bls t] at hg
    exact .lst (SqL.of (o.u _ _ hg)) (dpa_bits bs)
theorem sh_bits (bs : List Bool) : SeqAt.shaped (.list (bs.map PyData.bool)) = true := by
  unfold SeqAt.shaped
  rw [Bool.and_eq_true, decide_eq_true_eq]
  refine ⟨by rw [PyData.canLay0]; exact lay_bits bs, ?_⟩
  rw [PyData.depth]
  have := dep_bits bs
  omega
theorem ro_eqBits {B : Bt} {bs : List Bool} {Q : D → Prop} (h : Q (.bl true)) : RO K B (rEqD K) (bitsD bs) (bitsD bs) Q := fun G H x y _ o hx hy q => by
  refine ⟨_, _, dp_bits o hx, dp_bits o hy, sh_bits bs, sh_bits bs, ?_⟩
  have e : PyData.eqv (.list (bs.map PyData.bool)) (.list (bs.map PyData.bool)) = true := by
    rw [PyData.eqv, eqvAll_map (fun a b => by cases a <;> cases b <;> rfl)]
    exact decide_eq_true rfl
  rw [e]
  exact q.nil o (.bl _) h
theorem ok__law_joined_so {k : Nat} {CA CN fSt fSp fWh fCn pSt pSp pWh : Addr} {dSt dSp dWh dCn : FuncData} (G : Gn mg) (MG : AcT K mg CA CN) (MM : AmT K CA fSt fSp fWh fCn pSt pSp pWh) (F : Df K mg "_law_joined_so" s__law_joined_so) (CM_start : ClM P w K mg base k fSt dSt ["self"] (SpD K (p1 (AcD CA)) fun ds r => ∃ sp, ds = [arcD CA sp] ∧ r = headE sp)) (CM_stop : ClM P w K mg base k fSp dSp ["self"] (SpD K (p1 (AcD CA)) fun ds r => ∃ sp, ds = [arcD CA sp] ∧ r = lastE sp)) (CM_whole : ClM P w K mg base k fWh dWh ["self"] (SpD K (p1 (AcD CA)) fun ds r => ∃ sp, ds = [arcD CA sp] ∧ r = .bl (decide (sp.length = 0)))) (CM_con : ClM P w K mg base (k + 1) fCn dCn ["self", "direction"] (SpD K (aconPre CA) (aconPost CA))) (C__law_within : ClWi P w K mg base (k + 1)) : ClJo P w K mg base CA (k + 1 + 1) := by
  refine cl_of F sc__law_joined_so (fun _ _ _ _ _ _ us hl => match us, hl with | [_, _, _, _], _ => rfl) (fun ds h => by obtain ⟨_, _, _, rfl, _⟩ := h; rfl) fun f cdv A outer s H E hr => ⟨_, (pss_cons (ps_if (pt_not (pt_val (pe_callB (show CallR _ (.builtin "isinstance") (rIsi K) from call_isi) (by rfl) G.g_isinstance (by decide +kernel) (pa_cons (pv 0) (pa_cons (pe_glob (v := .ref CA) (by rfl) MG.m_Arc rfl) pa_nil))))) (pss_one (ps_ret pe_bl)) pss_nil)
      (pss_cons (ps_set (i := 4) sc__law_joined_so.nd rfl (Or.inr rfl) (pe_ifExp (pt_val (pe_prop (pv 0) MG.cl MM.p_whole CM_whole.ok hr CM_whole.bn .nil pass0 rfl)) pe_non (pe_tupZ (pa_cons (pe_prop (pv 0) MG.cl MM.p_start CM_start.ok hr CM_start.bn .nil pass0 rfl) (pa_cons (pe_prop (pv 0) MG.cl MM.p_stop CM_stop.ok hr CM_stop.bn .nil pass0 rfl) pa_nil)))))
      (pss_cons (ps_if (PW.pt (pw_and (pt_cmpR op_notN (pv 4) pe_non (nomark _)) (pw_and1 (PW.pt (pw_or (pt_cmpR (op_notInD (Dl.u65 hr)) (pe_ix (show IxR _ (rIxT K) from ix_tup) (pv 4) pe_int (fun _ _ => rfl)) (pv 3) (by rfl)) (pw_or1 (pt_cmpR (op_notInD (Dl.u65 hr)) (pe_ix (show IxR _ (rIxT K) from ix_tup) (pv 4) pe_int (fun _ _ => rfl)) (pv 3) (by rfl)))))))) (pss_one (ps_ret pe_bl)) pss_nil)
      (pss_cons (ps_setLc (i := 5) (own := [("_law_t", 6)]) (g := gName 6) rfl sc__law_joined_so.nd rfl rfl (sw_true rfl rfl rfl (by decide +kernel)) (pi_list (pv 1)) (blkOk_by (N := N__law_joined_so) (sc := defScope s__law_joined_so) (by decide +kernel)) (fun _ _ _ _ _ => pg_name (i := 6) sc__law_joined_so.nd rfl (Or.inl rfl)) (fun _ _ _ _ _ => (pts_one (pt_cmpR op_le (pe_callB (show CallR _ (.builtin "max") (rMax K) from cr_max rfl) (by rfl) G.g_max (by decide +kernel) (pa_cons (pe_lst (pa_cons (pe_callB call_abs (by rfl) G.g_abs (by decide +kernel) (pa_cons (pe_ix (show IxR _ (rIxT K) from ix_tup) (pv 6) pe_int (fun _ _ => rfl)) pa_nil)) (pa_cons (pe_callB call_abs (by rfl) G.g_abs (by decide +kernel) (pa_cons (pe_ix (show IxR _ (rIxT K) from ix_tup) (pv 6) pe_int (fun _ _ => rfl)) pa_nil)) pa_nil))) pa_nil)) pe_int (nomark _)))) (fun _ _ _ _ _ => (pv 6)))
      (pss_one (ps_ret (pe_and (pe_cmpR (op_eqD hr.units) (pe_lc (own := [("_law_t", 6)]) (g := gName 6) (tt := tYes) rfl sc__law_joined_so.nd (pi_list (pv 1)) (blkOk_by (N := N__law_joined_so) (sc := defScope s__law_joined_so) (by decide +kernel)) (fun _ _ _ _ _ => pg_name (i := 6) sc__law_joined_so.nd rfl (Or.inl rfl)) (fun _ _ _ _ _ => pts_nil) (fun _ _ _ _ _ => (pe_c C__law_within hr (by omega) (by rfl) (pa_cons (pv 4) (pa_cons (pv 6) pa_nil))))) (pv 2) (nomark _)) (pe_one (pe_cmpR (op_eqD hr.units) (pe_lc (own := [("_law_t", 6)]) (g := gName 6) (tt := tYes) rfl sc__law_joined_so.nd (pi_list (pv 5)) (blkOk_by (N := N__law_joined_so) (sc := defScope s__law_joined_so) (by decide +kernel)) (fun _ _ _ _ _ => pg_name (i := 6) sc__law_joined_so.nd rfl (Or.inl rfl)) (fun _ _ _ _ _ => pts_nil) (fun _ _ _ _ _ => (pe_cmpR (show OpR _ (compareOp .In) (Dl.rOin CA (SpD K (aconPre CA) (aconPost CA))) from Dl.op_oin MM.c_at MM.c_fn CM_con.ok CM_con.bn hr) (pv 6) (pv 0) (by rfl)))) (pe_lc (own := [("_law_t", 6)]) (g := gName 6) (tt := tYes) rfl sc__law_joined_so.nd (pi_list (pv 5)) (blkOk_by (N := N__law_joined_so) (sc := defScope s__law_joined_so) (by decide +kernel)) (fun _ _ _ _ _ => pg_name (i := 6) sc__law_joined_so.nd rfl (Or.inl rfl)) (fun _ _ _ _ _ => pts_nil) (fun _ _ _ _ _ => (pe_c C__law_within hr (by omega) (by rfl) (pa_cons (pv 4) (pa_cons (pv 6) pa_nil))))) (nomark _)))))))))), fun B ds hp => ?_⟩
  obtain ⟨J, ts, ms, rfl, hJ, lt, lm, hts, hms⟩ := hp
  show WS K B _ [.val (arcD CA J), .val (rowD ts), .val (bitsD (ts.map (Ad.inP J))), .val (rowD ms), .no, .no, .no] _
  try dsimp only [cxOf, Cx.nox, Cx.blk]
  have aj : ∀ {d : D}, d = arcD CA J → AcD CA d := fun e => ⟨J, e, hJ.1.len⟩
  have inj : ∀ {a b : List Pr2}, arcD CA a = arcD CA b → a = b := fun h => polyD_inj (List.cons.inj (D.obj.inj h).2.2).1
  refine ws_seq (ws_ifNo (wt_not (wt_B (we_cb (wa_cons (we_var rfl (wa_cons (we_adr (wa_nil (rc_isiO (tyA MG) MG.ka ⟨_, rfl, rfl⟩)))))))) ) (ws_next ?_))
  -- the ends
  refine ws_seq (ws_set (wex_mono (P := (· = ensD (endsJ J))) ?_ fun d e => ?_))
  · refine we_if (wt_B (we_prop (we_var rfl ⟨_, _, rfl, aj rfl, ?_⟩)))
    rintro _ ⟨sp, e, rfl⟩
    rw [← inj (List.cons.inj e).1]
    refine ⟨_, rfl, ?_⟩
    cases J with
    | nil =>
      rw [if_pos (by decide)]
      exact we_non rfl
    | cons a r =>
      rw [if_neg (by simp)]
      refine we_tup (wa_cons (we_prop (we_var rfl ⟨_, _, rfl, aj rfl, ?_⟩)))
      rintro _ ⟨sp, e, rfl⟩
      rw [← inj (List.cons.inj e).1]
      refine wa_cons (we_prop (we_var rfl ⟨_, _, rfl, aj rfl, ?_⟩))
      rintro _ ⟨sp, e, rfl⟩
      rw [← inj (List.cons.inj e).1]
      refine wa_nil ⟨by show 2 ≤ 1000; decide, ?_⟩
      show D.tup [headE (a :: r), lastE (a :: r)] = _
      unfold lastE
      rw [List.getLast?_eq_some_getLast (List.cons_ne_nil a r)]
      rfl
  subst e
  try dsimp only [List.set]
  refine ws_seq (ws_ifNo (tt := _) ?_ (ws_next ?_))
  · cases e : endsJ J with
    | none =>
      refine wt_and (wt_test (we_op (we_var rfl (we_non (ro_notN ⟨_, rfl, ?_⟩)))))
      rw [if_neg (by show ¬ (!isNon (ensD none)) = true; decide)]
    | some pq =>
      obtain ⟨p, q⟩ := pq
      obtain ⟨hp, hq⟩ := endsJ_mem e
      refine wt_and (wt_test (we_op (we_var rfl (we_non (ro_notN ⟨_, rfl, ?_⟩)))))
      rw [if_pos (show (!isNon (ensD (some (p, q)))) = true from rfl)]
      refine wt_or (wt_test (we_op (we_op (we_var rfl (we_int (ro_ixT (d := Dl.pairD p) rfl (we_var rfl (ro_niP ⟨_, rfl, ?_⟩))))))))
      rw [decide_eq_true (hms p hp), if_neg (by decide)]
      refine wt_test (we_op (we_op (we_var rfl (we_int (ro_ixT (d := Dl.pairD q) rfl (we_var rfl (ro_niP ⟨_, rfl, ?_⟩)))))))
      rw [decide_eq_true (hms q hq)]
      rfl
  -- the near ones
  have eok : EnOk 1000000 (endsJ J) := fun p q z => by
    obtain ⟨hp, hq⟩ := endsJ_mem z
    obtain ⟨u1, d1⟩ := isDir_iff.mp (hJ.2 p hp)
    obtain ⟨u2, d2⟩ := isDir_iff.mp (hJ.2 q hq)
    exact ⟨⟨d1, upto_le u1 (by decide)⟩, d2, upto_le u2 (by decide)⟩
  have wi : ∀ {X : Xc} {δ : List Sd} {i : Nat} {a : Pr2} {Q : D → Prop}, δ[4]? = some (.val (ensD (endsJ J))) → δ[i]? = some (.val (Dl.pairD a)) → Ad.IsD a ∧ Upto 10000 a → Q (.bl (Ad.inP J a)) → WEx K B X (tCall (SpD K (p2 fun a b => ∃ (e : Ens) (d : Pr2), a = ensD e ∧ b = Dl.pairD d ∧ EnOk 1000000 e ∧ Ad.IsD d ∧ Upto 1000000 d) fun ds r => ∃ (e : Ens) (d : Pr2), ds = [ensD e, Dl.pairD d] ∧ r = .bl (Ad.inP (Ad.spP e) d)) [] E0 (tCons (tVar 4) (tCons (tVar i) tNil))) δ Q := by
    intro X δ i a Q h4 hi ha q
    refine we_call (wa_cons (we_var h4 (wa_cons (we_var hi (wa_nil ⟨⟨_, a, rfl, rfl, eok, ha.1, upto_le ha.2 (by decide)⟩, ?_⟩)))))
    rintro _ ⟨e', a', e, rfl⟩
    rw [← ensD_inj (List.cons.inj e).1, ← pairD_inj (List.cons.inj (List.cons.inj e).2).1, endsJ_sp hJ.1]
    exact q
  have wis : ∀ {X : Xc} {δ : List Sd} {i : Nat} {us : List Pr2} {Q : D → Prop}, δ[4]? = some (.val (ensD (endsJ J))) → δ[i]? = some (.val (rowD us)) → 6 < δ.length → us.length ≤ 100 → (∀ t ∈ us, Ad.IsD t ∧ Upto 10000 t) → Q (bitsD (us.map (Ad.inP J))) → WEx K B X (tLc (iList K (tVar i)) (gName 6) tYes (tCall (SpD K (p2 fun a b => ∃ (e : Ens) (d : Pr2), a = ensD e ∧ b = Dl.pairD d ∧ EnOk 1000000 e ∧ Ad.IsD d ∧ Upto 1000000 d) fun ds r => ∃ (e : Ens) (d : Pr2), ds = [ensD e, Dl.pairD d] ∧ r = .bl (Ad.inP (Ad.spP e) d)) [] E0 (tCons (tVar 4) (tCons (tVar 6) tNil))) [6]) δ Q := by
    intro X δ i us Q h4 hi h6 hl hu q
    refine we_lcA (xs := us) Dl.pairD (fun t => .bl (Ad.inP J t)) (by omega) (wi_list (we_var hi ⟨_, rfl, rfl⟩)) (fun t ht => wi (by rw [List.getElem?_set_ne (by decide)]; exact h4) (List.getElem?_set_self h6) (hu t ht) rfl) ?_
    have e : (us.map fun t => D.bl (Ad.inP J t)) = (us.map (Ad.inP J)).map D.bl := by rw [List.map_map]; rfl
    rw [e]
    exact q
  refine ws_seq (ws_set (we_lcF (xs := ts) Dl.pairD Dl.pairD (fun t => decide (t.1.natAbs ≤ 999 ∧ t.2.natAbs ≤ 999)) (by omega) (wi_list (we_var rfl ⟨_, rfl, rfl⟩)) (fun t ht => ?_) (fun t ht _ => we_var rfl rfl) ?_))
  · try dsimp only [List.set]
    refine wt_test (we_op (we_cb (wa_cons (we_lst (wa_cons (we_cb (wa_cons (we_op (we_var rfl (we_int (ix0 (wa_nil (rc_abs ?_)))))))))))))
    rw [abs_nat]
    refine wa_cons (we_cb (wa_cons (we_op (we_var rfl (we_int (ix1 (wa_nil (rc_abs ?_))))))))
    rw [abs_nat]
    refine wa_nil ⟨by show 2 ≤ 1000; decide, wa_nil (rc_max (ns := [(t.1.natAbs : Int), (t.2.natAbs : Int)]) (by show 0 < 2; decide) fun m hm hy => we_int (ro_bl0 ⟨_, rfl, ?_⟩))⟩
    have y1 := hy _ List.mem_cons_self
    have y2 := hy _ (List.mem_cons_of_mem _ List.mem_cons_self)
    simp only [List.mem_cons, List.not_mem_nil, or_false] at hm
    rw [Bool.eq_iff_iff, decide_eq_true_eq, decide_eq_true_eq]
    omega
  generalize hn : ts.filter (fun t => decide (t.1.natAbs ≤ 999 ∧ t.2.natAbs ≤ 999)) = ns
  have nin : ∀ t ∈ ns, t ∈ ts ∧ Upto 999 t := fun t ht => by
    rw [← hn] at ht
    obtain ⟨h1, h2⟩ := List.mem_filter.mp ht
    have := of_decide_eq_true h2
    exact ⟨h1, by omega, by omega, by omega, by omega⟩
  have nl : ns.length ≤ 100 := by rw [← hn]; exact Nat.le_trans (List.length_filter_le ..) lt
  try dsimp only [List.set]
  refine ws_ret (we_andV (we_op (wis rfl rfl (by show 6 < 7; decide) lt hts (we_var rfl (ro_eqBits ⟨_, rfl, ?_⟩)))))
  rw [if_pos rfl]
  refine we_op (we_lcA (xs := ns) Dl.pairD (fun t => .bl (Ad.inP J t)) (by omega) (wi_list (we_var rfl ⟨_, rfl, rfl⟩)) (fun t ht => ?_) ?_)
  · try dsimp only [List.set]
    obtain ⟨h1, h2⟩ := nin t ht
    refine we_op (we_var rfl (we_var rfl (ro_oin ⟨rfl, J, rfl, hJ⟩ ?_)))
    rintro _ ⟨J', d', e, h⟩
    rw [← inj (List.cons.inj e).1, ← (List.cons.inj (List.cons.inj e).2).1] at h
    rcases h with ⟨z, _⟩ | ⟨p, z, _, rfl⟩
    · rw [isDir_iff.mpr ⟨h2, (hts t h1).1⟩] at z; cases z
    · rw [← pairD_inj z]
      refine ⟨_, rfl, ?_⟩
      rw [inArc_eq]
  · have e : (ns.map fun t => D.bl (Ad.inP J t)) = (ns.map (Ad.inP J)).map D.bl := by rw [List.map_map]; rfl
    rw [e]
    exact wis rfl rfl (by show 6 < 7; decide) nl (fun t ht => hts t (nin t ht).1) (ro_eqBits rfl)

end
/-! #### Al -/
section
variable {P : Program} {w : World} {K : PySem.W.Frag} {mg : Str → Option Value} {base : Heap}
/-! ### la -/
/-! ### law -/
abbrev s_law : Stmt := topS 46
abbrev N_law : List Str := ["_law_script", "_law_bag", "_law_turn", "_law_first", "_law_last", "_law_marks", "_law_tests", "_law_shared", "_law_either", "_law_k", "_law_odd", "_law_some", "_law_made", "_law_here", "_law_there", "_law_told", "_law_due", "_law_t", "_law_a", "_law_b"]
theorem sc_law : FnScope N_law ["_law_script"] (defScope s_law) := ⟨rfl, rfl, rfl, by decide +kernel, rfl, by decide +kernel, by decide +kernel⟩
def loopBody : Stmt → List Stmt
  | .For _ _ b _ _ => b
  | _ => []
abbrev lawT (f c Pt : Addr) : List (Addr × Str) := [(Pt, (envOfC "law" (defScope s_law) 0 f (.ref c)).qual ++ "<lambda>")]
abbrev lcx (P : Program) (w : World) (K : PySem.W.Frag) (mg : Str → Option Value) (base : Heap) (f c : Addr) (A : Around) (outer : List Env) (s : Shared) (H : Hp) (E : XK) : Cx := (cxOf CX0 P w K mg base N_law "law" (defScope s_law) f (.ref c) A outer s H E).nox
abbrev lroom (m : Nat) (f c : Addr) (A : Around) (s : Shared) : Prop := Room (m + 2) (A.deeper (envOfC "law" (defScope s_law) s.heap.objs.size f (.ref c)))
abbrev turnB : List Stmt := loopBody ((defBody s_law).getD 1 (.Pass ⟨0, 0, 0, 0⟩))
abbrev againB : List Stmt := loopBody (turnB.getD 8 (.Pass ⟨0, 0, 0, 0⟩))
/-- what may stand right of | and is no arc -/
def OddT (K : PySem.W.Frag) (CA : Addr) : Prop := ∀ T ∈ ["NoneType", "tuple", "list", "str", "int", "dict"], PySem.W.kitOne K (.type T) (.ref CA) = some false ∧ BorTy K CA (.type T)
abbrev qorPre (CA : Addr) : List D → Prop := fun ds => ∃ s t, ds = [arcD CA s, arcD CA t] ∧ DrOk s ∧ DrOk t ∧ Jn2 s t ∧ meetS s t = true
structure Law (P : Program) (w : World) (K : PySem.W.Frag) (mg : Str → Option Value) (base : Heap) (m : Nat) (CA CN CJ CL CM fw pw fTu fCo fOr fEq f c Pt : Addr) (mc : Value) (dw dTu dCo dOr dEq : FuncData) : Prop where
  G : Gn mg
  MG : AcT K mg CA CN
  try_ : Df K mg "_law_try" s__law_try
  mL : mg "LotError" = some (.ref CL)
  mM : mg "Missing" = some (.ref CM)
  xg : Xg K CJ CL CM
  TB : LamX.TabB base mg c Pt
  fld : ClF P w K mg base (m + 1)
  same : ClS P w K mg base (m + 2) 4
  dr : ClT P w K mg base (m + 2)
  of_ : ClO P w K mg base (m + 2)
  a2 : ClA2 P w K mg base (m + 2)
  am : ClAm P w K mg base CA (m + 2)
  ro : ClRo P w K mg base (m + 2)
  ms : ClMs P w K mg base (m + 2)
  wi : ClWi P w K mg base (m + 2)
  jo : ClJo P w K mg base CA (m + 2)
  cr : ClX.CRead K CA mc
  cm : ClX.CMet K CA mc "whole" pw fw
  wh : ClM P w K mg base (m + 2) fw dw ["cls"] (SpD K (p1 fun d => d = .adr CA) fun _ r => r = arcD CA [])
  m_tu : Meth K CA "turned" fTu
  tu : ClM P w K mg base (m + 2) fTu dTu ["self"] (SpD K (aturPre CA) (aturPost CA))
  m_co : Meth K CA "covers" fCo
  co : ClM P w K mg base (m + 2) fCo dCo ["self", "other"] (SpD K (acovPre CA) (acovPost CA))
  kco : KBn K dCo ["self", "other"] 1 ["other"] (fun us ws => us ++ ws.reverse) (fun us ws => us ++ ws.reverse)
  ob : OwnBor K CA fOr
  orm : ClMz P w K mg base m fOr dOr ["self", "other"] (SpX K (aorPre K CA) (aorPost CA) (aorExc CA CJ))
  eq : OwnEq K CA fEq
  eqm : ClM P w K mg base (m + 1) fEq dEq ["self", "other"] (SpD K (p2 fun d e => AcD CA d ∧ AcD CA e) (aeqPost CA))
  odd : OddT K CA
  nf : PySem.W.notFirst K CA (.ref CA) = true
theorem qor_quiet {CA CJ : Addr} (ds : List D) (h : qorPre CA ds) : aorPre K CA ds ∧ ∀ C' ks es, ¬ aorExc CA CJ ds C' ks es := by
  obtain ⟨s, t, rfl, hs, ht, hj, hm⟩ := h
  refine ⟨⟨s, rfl, hs, .inl ⟨t, rfl, ht, hj⟩⟩, ?_⟩
  rintro C' ks es ⟨_, z⟩
  rw [z s t rfl] at hm
  cases hm
theorem arcD_inj {CA : Addr} {a b : List Pr2} (h : arcD CA a = arcD CA b) : a = b := polyD_inj (List.cons.inj (D.obj.inj h).2.2).1
theorem EnD.dr {e : Ens} (h : EnD e) : DrOk (Ad.spP e) := by
  match e, h with
  | none, _ => exact ⟨.inl rfl, fun _ z => nomatch z⟩
  | some (p, q), h =>
    obtain ⟨h1, h2⟩ := h p q rfl
    refine ⟨.inr ⟨p, q, rfl⟩, fun x hx => ?_⟩
    have hx' : x ∈ Ad.betG p q := hx
    unfold Ad.betG at hx'
    split at hx' <;> simp at hx'
    · rw [hx']; exact h1
    · rcases hx' with rfl | rfl
      · exact h1
      · exact h2
/-- what is known of two arcs of the law and its tests -/
structure LF (F L : Ens) (ms ts : List Pr2) : Prop where
  hF : EnD F
  hL : EnD L
  fx : Ad.Fx (Ad.spP F) (Ad.spP L) ts
  fy : Ad.Fx (Ad.spP L) (Ad.spP F) ts
  fF : Ad.Fx (Ad.spP F) (Ad.spP F) ts
  fL : Ad.Fx (Ad.spP L) (Ad.spP L) ts
  f0 : Ad.Fx [] (Ad.spP F) ts
  f1 : Ad.Fx [] (Ad.spP L) ts
  lt : ts.length ≤ 100
  lm : ms.length ≤ 100
  ok : ∀ t ∈ ts, Ad.IsD t ∧ Upto 10000 t
  mem : ∀ p, p ∈ Ad.spP F ∨ p ∈ Ad.spP L → p ∈ ms
theorem LF.flip {F L : Ens} {ms ts : List Pr2} (h : LF F L ms ts) : LF L F ms ts := ⟨h.hL, h.hF, h.fy, h.fx, h.fL, h.fF, h.f1, h.f0, h.lt, h.lm, h.ok, fun p z => h.mem p z.symm⟩
theorem fx_jn {S T ts : List Pr2} (h : Ad.Fx S T ts) : Jn2 S T := fun hm hs => by
  rw [starts_eq] at hs
  rw [stops_eq]
  exact (h.jo hm).2.1 hs
theorem fx_cov {S T ts : List Pr2} (h : Ad.Fx S T ts) : (meetS S T && decide (joinS [S, T] = S)) = ts.all fun d => Ad.inP S d || !Ad.inP T d := by
  rw [joinS_eq]
  exact h.cov
theorem all_self {S ts : List Pr2} : (ts.all fun d => Ad.inP S d || !Ad.inP S d) = true := by
  rw [List.all_eq_true]
  intro d _
  cases Ad.inP S d <;> rfl
theorem all_whole {T ts : List Pr2} : (ts.all fun d => Ad.inP [] d || !Ad.inP T d) = true := by
  rw [List.all_eq_true]
  intro d _
  rfl
theorem meet_ng (S T : List Pr2) : meetS (S.map Ad.ng) (T.map Ad.ng) = meetS S T := Ad.Like.me (Ad.like_ng (sps := [S, T]))
theorem join_ng (S T : List Pr2) : joinS [S.map Ad.ng, T.map Ad.ng] = (joinS [S, T]).map Ad.ng := by
  rw [joinS_eq, joinS_eq]
  exact Ad.Like.jo (Ad.like_ng (sps := [S, T]))
theorem jn_ng {S T : List Pr2} (h : Jn2 S T) : Jn2 (S.map Ad.ng) (T.map Ad.ng) := fun hm hs => by
  rw [meet_ng] at hm
  have e1 := Ad.Like.st (Ad.like_ng (sps := [S, T]))
  have e2 := Ad.Like.sp (Ad.like_ng (sps := [S, T]))
  have h' := h hm
  rw [starts_eq] at hs h'
  rw [stops_eq] at h' ⊢
  intro z
  have z1 : (Ad.spG Ad.inP [S, T]).map Ad.ng = [] := by rw [← e2]; exact z
  have z2 : Ad.stG Ad.inP [S, T] ≠ [] := fun y => hs (by
    show Ad.stG Ad.inP ([S, T].map (List.map Ad.ng)) = []
    rw [e1, y]; rfl)
  exact h' z2 (List.map_eq_nil_iff.mp z1)
theorem we_bits {B : Bt} {X : Xc} {δ : List Sd} {ta : TA} {te : TE} {i j : Nat} {us : List Pr2} {g h : Pr2 → Bool} {op : Bool → Bool → Bool} {Q : D → Prop} (hij : i ≠ j) (hl : us.length ≤ 100) (hi : i < δ.length) (hj : j < δ.length) (ha : WAx K B X ta δ fun as => as = [bitsD (us.map g), bitsD (us.map h)])
    (he : ∀ (a b : Bool) (δ' : List Sd), δ'[i]? = some (.val (.bl a)) → δ'[j]? = some (.val (.bl b)) → WE K B te δ' fun y => y = .bl (op a b)) (q : Q (bitsD (us.map fun t => op (g t) (h t)))) : WEx K B X (tLc (RZ.iZipA K ta) (gTup K 2 (gCons (gName i) (gCons (gName j) gNil))) tYes te [i, j]) δ Q := by
  have zb : ∀ us : List Pr2, ((us.map g).map D.bl).zip ((us.map h).map D.bl) = us.map fun t => (D.bl (g t), D.bl (h t)) := by
    intro us
    induction us with
    | nil => rfl
    | cons u us ih => rw [List.map_cons, List.map_cons, List.map_cons, List.map_cons, List.zip_cons_cons, ih, List.map_cons]
  let fn : D × D → D := fun x => match x with
    | (.bl a, .bl b) => .bl (op a b)
    | _ => .non
  refine we_lcZmap hij (its := us.map fun t => (D.bl (g t), D.bl (h t))) fn (wax_mono ha fun as e => ⟨_, _, .inl e, (zb us).symm⟩) (by rw [List.length_map]; omega) (fun x hx => ?_) ?_
  · obtain ⟨t, _, rfl⟩ := List.mem_map.mp hx
    refine he _ _ _ ?_ ?_
    · rw [List.getElem?_set_ne (Ne.symm hij), List.getElem?_set_self hi]
    · exact List.getElem?_set_self (by rw [List.length_set]; exact hj)
  · rw [List.map_map]
    have e : (us.map (fn ∘ fun t => (D.bl (g t), D.bl (h t)))) = (us.map fun t => op (g t) (h t)).map D.bl := by rw [List.map_map]; rfl
    rw [e]
    exact q

end
/-! #### Am -/
section
variable {P : Program} {w : World} {K : PySem.W.Frag} {mg : Str → Option Value} {base : Heap}
/-! ### lb -/
abbrev sl (tn fi la mk ts sh ei kk od so md he th to du t a b : Sd) : List Sd := [.no, .val .box, tn, fi, la, mk, ts, sh, ei, kk, od, so, md, he, th, to, du, t, a, b]
def toldD (CA : Addr) (S T : List Pr2) : D := if meetS S T = true then .tup [.str "", arcD CA (joinS [S, T])] else .tup [.str "NoJoining", .tup []]
theorem arc_ty {CA CN : Addr} (MG : AcT K mg CA CN) {B : Bt} {s : List Pr2} : ∀ G H v, Ok B G H → Dd K B G v (arcD CA s) → ∃ t, TyX K H v t ∧ BorTy K CA t := fun G H v o h => ⟨_, tyA MG G H v o h, .inl rfl⟩
/-- the inner turn -/
theorem piece_D {m : Nat} {CA CN CJ CL CM fw pw fTu fCo fOr fEq f c Pt : Addr} {mc : Value} {dw dTu dCo dOr dEq : FuncData} (L : Law P w K mg base m CA CN CJ CL CM fw pw fTu fCo fOr fEq f c Pt mc dw dTu dCo dOr dEq) (A : Around) (outer : List Env) (s : Shared) (H : Hp) (E : XK) (hr : lroom m f c A s) :
    ∃ t, PSs (lcx P w K mg base f c A outer s H E) (againB.drop 0) t ∧ ∀ (Ba : Addr) (O : Out) (F La : Ens) (ms ts : List Pr2) (i : Int) (tn od so to du t' a b : Sd), O.rt = (fun r => r = .bl true) → LF F La ms ts → (i = 0 ∨ i = 1) →
      (∀ to' du' t2 a2 b2, O.nx (sl tn (.val (ensD F)) (.val (ensD La)) (.val (rowD ms)) (.val (rowD ts)) (.val (.bl (meetS (Ad.spP F) (Ad.spP La)))) (.val (bitsD (ts.map fun d => Ad.inP (Ad.spP F) d || Ad.inP (Ad.spP La) d))) (.val (.int i)) od so (.val (.lst [arcD CA (Ad.spP F), arcD CA (Ad.spP La)])) (.val (bitsD (ts.map (Ad.inP (Ad.spP F))))) (.val (bitsD (ts.map (Ad.inP (Ad.spP La))))) to' du' t2 a2 b2)) →
      WS K ⟨Ba, lawT f c Pt⟩ t (sl tn (.val (ensD F)) (.val (ensD La)) (.val (rowD ms)) (.val (rowD ts)) (.val (.bl (meetS (Ad.spP F) (Ad.spP La)))) (.val (bitsD (ts.map fun d => Ad.inP (Ad.spP F) d || Ad.inP (Ad.spP La) d))) (.val (.int i)) od so (.val (.lst [arcD CA (Ad.spP F), arcD CA (Ad.spP La)])) (.val (bitsD (ts.map (Ad.inP (Ad.spP F))))) (.val (bitsD (ts.map (Ad.inP (Ad.spP La))))) to du t' a b) O := by
  have G := L.G
  have MG := L.MG
  have C__law_same := L.same
  have C__law_joined_so := L.jo
  have D__law_try := L.try_
  have m_LotError := L.mL
  have m_Missing := L.mM
  have C__law_field := L.fld
  have TB := L.TB
  have hT : lawT f c Pt = [(Pt, (lcx P w K mg base f c A outer s H E).env.qual ++ "<lambda>")] := rfl
  have QO := clmz_quiet (pre' := qorPre CA) L.orm qor_quiet
  refine ⟨_, (pss_cons (ps_set (i := 15) sc_law.nd rfl (Or.inl rfl) (pe_tryK (j := m) D__law_try (by rfl) m_LotError m_Missing C__law_field TB rfl hT hr (by omega) (LamX.lamS_by (show LamX.lamSB (defScope s_law) _ = true from by decide +kernel)) rfl (fun _ _ _ _ _ => rfl) (fun A outer s H E f c' hr => by exact (pe_op (show OpR _ (binaryOp .BitOr) (Dl.rBor K CA (SpX K (aorPre K CA) (aorPost CA) (aorExc CA CJ)) E) from Dl.op_bor L.ob L.orm.ok L.orm.bn hr (passes_call (takes_of rfl rfl rfl rfl) fun _ _ _ _ h => h)) (pe_ix (show IxR _ (rIxL K) from ix_list) (pv 12) (pv 9) (fun _ _ => rfl)) (pe_ix (show IxR _ (rIxL K) from ix_list) (pv 12) (pe_op op_sub pe_int (pv 9)) (fun _ _ => rfl))))))
      (pss_cons (ps_if (PW.pt (pw_and (pt_not (pt_val (pv 7))) (pw_and1 (pt_not (pt_val (pe_c C__law_same hr (by omega) (by rfl) (pa_cons (pv 15) (pa_cons (pe_tupZ (pa_cons pe_str (pa_cons (pe_tupZ pa_nil) pa_nil))) pa_nil)))))))) (pss_one (ps_ret pe_bl)) pss_nil)
      (pss_cons (ps_if (PW.pt (pw_and (pt_val (pv 7)) (pw_and1 (PW.pt (pw_or (pt_cmpR op_ne (pe_ix (show IxR _ (rIxT K) from ix_tup) (pv 15) pe_int (fun _ _ => rfl)) pe_str (nomark _)) (pw_or1 (pt_not (pt_val (pe_c C__law_joined_so hr (by omega) (by rfl) (pa_cons (pe_ix (show IxR _ (rIxT K) from ix_tup) (pv 15) pe_int (fun _ _ => rfl)) (pa_cons (pv 6) (pa_cons (pv 8) (pa_cons (pv 5) pa_nil))))))))))))) (pss_one (ps_ret pe_bl)) pss_nil)
      (pss_cons (ps_if (PW.pt (pw_and (pt_val (pv 7)) (pw_and1 (pt_cmpR (op_one L.eqm.ok L.eqm.bn hr L.eq) (pe_op (Dl.op_bor L.ob QO.ok QO.bn (hr.mono (show m ≤ m + 2 by omega)) pass0) (pe_meth0 (pe_ix (show IxR _ (rIxL K) from ix_list) (pv 12) (pv 9) (fun _ _ => rfl)) MG.cl L.m_tu L.tu.ok (hr.mono (by omega)) L.tu.bn .nil pass0) (pe_meth0 (pe_ix (show IxR _ (rIxL K) from ix_list) (pv 12) (pe_op op_sub pe_int (pv 9)) (fun _ _ => rfl)) MG.cl L.m_tu L.tu.ok (hr.mono (by omega)) L.tu.bn .nil pass0)) (pe_meth0 (pe_ix (show IxR _ (rIxT K) from ix_tup) (pv 15) pe_int (fun _ _ => rfl)) MG.cl L.m_tu L.tu.ok (hr.mono (by omega)) L.tu.bn .nil pass0) (nomark _))))) (pss_one (ps_ret pe_bl)) pss_nil)
      (pss_cons (ps_set (i := 16) sc_law.nd rfl (Or.inl rfl) (pe_ifExp (pt_cmpR op_eq (pv 9) pe_int (nomark _)) (pe_callB (cr_all rfl) (by rfl) G.g_all (by decide +kernel) (pa_cons (pe_lc (own := [("_law_a", 18), ("_law_b", 19)]) (g := (gTup K 2 (gCons (gName 18) (gCons (gName 19) gNil)))) (tt := tYes) rfl sc_law.nd (RZ.pi_zipA rfl G.g_zip (pa_cons (pv 13) (pa_cons (pv 14) pa_nil))) (blkOk_by (N := N_law) (sc := defScope s_law) (by decide +kernel)) (fun _ _ _ _ _ => show PG _ _ (gTup K 2 (gCons (gName 18) (gCons (gName 19) gNil))) from pg_tup rfl (pgs_cons (pg_name (i := 18) sc_law.nd rfl (Or.inl rfl)) (pgs_cons (pg_name (i := 19) sc_law.nd rfl (Or.inl rfl)) pgs_nil))) (fun _ _ _ _ _ => pts_nil) (fun _ _ _ _ _ => (pe_or (pv 18) (pe_one (pe_not (pv 19)))))) pa_nil)) (pe_callB (cr_all rfl) (by rfl) G.g_all (by decide +kernel) (pa_cons (pe_lc (own := [("_law_a", 18), ("_law_b", 19)]) (g := (gTup K 2 (gCons (gName 18) (gCons (gName 19) gNil)))) (tt := tYes) rfl sc_law.nd (RZ.pi_zipA rfl G.g_zip (pa_cons (pv 13) (pa_cons (pv 14) pa_nil))) (blkOk_by (N := N_law) (sc := defScope s_law) (by decide +kernel)) (fun _ _ _ _ _ => show PG _ _ (gTup K 2 (gCons (gName 18) (gCons (gName 19) gNil))) from pg_tup rfl (pgs_cons (pg_name (i := 18) sc_law.nd rfl (Or.inl rfl)) (pgs_cons (pg_name (i := 19) sc_law.nd rfl (Or.inl rfl)) pgs_nil))) (fun _ _ _ _ _ => pts_nil) (fun _ _ _ _ _ => (pe_or (pv 19) (pe_one (pe_not (pv 18)))))) pa_nil))))
      (pss_one (ps_if (pt_not (pt_val (pe_c C__law_same hr (by omega) (by rfl) (pa_cons (pe_lst (pa_cons (pe_meth (pe_ix (show IxR _ (rIxL K) from ix_list) (pv 12) (pv 9) (fun _ _ => rfl)) MG.cl L.m_co L.co.ok (hr.mono (by omega)) L.co.bn .nil pass0 (pa_cons (pe_ix (show IxR _ (rIxL K) from ix_list) (pv 12) (pe_op op_sub pe_int (pv 9)) (fun _ _ => rfl)) pa_nil)) (pa_cons (Dl.pe_methK0 (pe_ix (show IxR _ (rIxL K) from ix_list) (pv 12) (pv 9) (fun _ _ => rfl)) MG.cl L.m_co L.co.ok (hr.mono (by omega)) L.kco pass0 (pk_cons (pe_ix (show IxR _ (rIxL K) from ix_list) (pv 12) (pv 9) (fun _ _ => rfl)) pk_nil)) (pa_cons (pe_meth (Dl.pe_cmeth0 (pe_glob (v := .ref CA) (by rfl) MG.m_Arc rfl) L.cr L.cm (clm_raw L.wh) (hr.mono (by omega)) pass0) MG.cl L.m_co L.co.ok (hr.mono (by omega)) L.co.bn .nil pass0 (pa_cons (pe_ix (show IxR _ (rIxL K) from ix_list) (pv 12) (pv 9) (fun _ _ => rfl)) pa_nil)) pa_nil)))) (pa_cons (pe_lst (pa_cons (pv 16) (pa_cons pe_bl (pa_cons pe_bl pa_nil)))) pa_nil))))) (pss_one (ps_ret pe_bl)) pss_nil))))))), fun Ba O F La ms ts i tn od so to du t' a b hrt lf hi hO => ?_⟩
  try dsimp only [lcx, cxOf, Cx.nox, Cx.blk]
  have dF := lf.hF.dr
  have dL := lf.hL.dr
  -- the two of this turn
  obtain ⟨S, T, hS, hT2, at0, at1, dS, dT, fx, fself, f0, lt, hsh⟩ : ∃ S T : List Pr2, (S = Ad.spP F ∨ S = Ad.spP La) ∧ (T = Ad.spP F ∨ T = Ad.spP La) ∧ atI [arcD CA (Ad.spP F), arcD CA (Ad.spP La)] i = some (arcD CA S) ∧ atI [arcD CA (Ad.spP F), arcD CA (Ad.spP La)] (1 - i) = some (arcD CA T) ∧ DrOk S ∧ DrOk T ∧ Ad.Fx S T ts ∧ Ad.Fx S S ts ∧ Ad.Fx [] S ts ∧ ((i = 0 ∧ S = Ad.spP F ∧ T = Ad.spP La) ∨ (i = 1 ∧ S = Ad.spP La ∧ T = Ad.spP F)) ∧ meetS (Ad.spP F) (Ad.spP La) = meetS S T := by
    rcases hi with rfl | rfl
    · exact ⟨_, _, .inl rfl, .inr rfl, rfl, rfl, dF, dL, lf.fx, lf.fF, lf.f0, .inl ⟨rfl, rfl, rfl⟩, rfl⟩
    · exact ⟨_, _, .inr rfl, .inl rfl, rfl, rfl, dL, dF, lf.fy, lf.fL, lf.f1, .inr ⟨rfl, rfl, rfl⟩, lf.fy.sym⟩
  have ei : meetS S T = true → (ts.map fun d => Ad.inP (Ad.spP F) d || Ad.inP (Ad.spP La) d) = ts.map (Ad.inP (joinS [S, T])) := fun hm => List.map_congr_left fun d hd => by
    rw [joinS_eq, (fx.jo hm).1 d hd]
    rcases lt with ⟨_, e1, e2⟩ | ⟨_, e1, e2⟩
    · rw [e1, e2]
    · rw [e1, e2, Bool.or_comm]
  have jn := fx_jn fx
  have djo := DrOk.jo dS dT
  have mk0 : ∀ {X : Xc} {δ : List Sd} {Q : D → Prop}, δ[12]? = some (.val (.lst [arcD CA (Ad.spP F), arcD CA (Ad.spP La)])) → δ[9]? = some (.val (.int i)) → Q (arcD CA S) → WEx K ⟨Ba, lawT f c Pt⟩ X (tOp (rIxL K) (tVar 12) (tVar 9)) δ Q := fun h1 h2 q => we_op (we_var h1 (we_var h2 (ro_ixL at0 q)))
  have mk1 : ∀ {X : Xc} {δ : List Sd} {Q : D → Prop}, δ[12]? = some (.val (.lst [arcD CA (Ad.spP F), arcD CA (Ad.spP La)])) → δ[9]? = some (.val (.int i)) → Q (arcD CA T) → WEx K ⟨Ba, lawT f c Pt⟩ X (tOp (rIxL K) (tVar 12) (tOp (rI0 fun i j => .int (i - j)) (tC (.int 1)) (tVar 9))) δ Q := fun h1 h2 q => we_op (we_var h1 (we_op (we_int (we_var h2 (ro_int0 (ro_ixL at1 q))))))
  rw [hsh]
  rw [hsh] at hO
  -- told = _law_try(lambda: made[k] | made[1 - k])
  refine ws_seq (ws_set (wex_mono (P := (· = toldD CA S T)) (we_tryJ (B := ⟨Ba, lawT f c Pt⟩) (R := fun d => meetS S T = true ∧ d = arcD CA (joinS [S, T])) (Φ := meetS S T = false) L.xg (fun E' => ?g1) ?g2 ?g3) fun d e => ?g4))
  case g1 =>
    refine we_borX (mk0 rfl rfl (mk1 rfl rfl ⟨_, _, rfl, arc_ty MG, ⟨S, rfl, dS, .inl ⟨T, rfl, dT, jn⟩⟩, ?_, ?_⟩))
    · rintro r ⟨s', t', e, hm, rfl⟩
      rw [← arcD_inj (List.cons.inj e).1, ← arcD_inj (List.cons.inj (List.cons.inj e).2).1] at hm ⊢
      exact ⟨⟨_, _, _, rfl⟩, hm, rfl⟩
    · rintro C' ks es ⟨h1, h2⟩
      exact ⟨h1, h2 S T rfl⟩
  case g2 =>
    rintro d ⟨hm, rfl⟩
    unfold toldD
    rw [if_pos hm]
  case g3 =>
    intro hm
    unfold toldD
    rw [if_neg (by rw [hm]; decide)]
  case g4 =>
  subst e
  try dsimp only [sl, List.set]
  have same : ∀ {X : Xc} {δ : List Sd} {te tf : TE} {d : D} {Q : D → Prop}, plain 4 d = true → WEx K ⟨Ba, lawT f c Pt⟩ X te δ (· = d) → WEx K ⟨Ba, lawT f c Pt⟩ X tf δ (· = d) → Q (.bl true) → WEx K ⟨Ba, lawT f c Pt⟩ X (tCall (SpD K (samePre 4) fun ds r => r = (fun _ => D.bl true) ds) [] E0 (tCons te (tCons tf tNil))) δ Q := fun hd h1 h2 q => we_call (wa_cons (wex_mono h1 fun x e => by
    subst e
    refine wa_cons (wex_mono h2 fun y e => ?_)
    subst e
    exact wa_nil ⟨⟨rfl, hd⟩, fun r er => by rw [er]; exact q⟩))
  have noj : ∀ {X : Xc} {δ : List Sd}, WEx K ⟨Ba, lawT f c Pt⟩ X (zTup (tCons (tC (.str "NoJoining")) (tCons (zTup tNil) tNil))) δ (· = .tup [.str "NoJoining", .tup []]) := we_tup (wa_cons (we_str (wa_cons (we_tup (wa_nil ⟨by decide, wa_nil ⟨by show 2 ≤ 1000; decide, rfl⟩⟩)))))
  -- not shared
  refine ws_seq (ws_ifNo ?_ (ws_next ?_))
  · refine wt_and (wt_not (wt_B (we_var rfl ⟨_, rfl, ?_⟩)))
    cases hm : meetS S T with
    | true => rw [if_neg (by decide)]
    | false =>
      rw [if_pos (by decide)]
      refine wt_not (wt_B (same (d := .tup [.str "NoJoining", .tup []]) (by decide +kernel) (we_var rfl (by unfold toldD; rw [hm, if_neg (by decide)])) noj ⟨_, rfl, rfl⟩))
  -- joined so
  refine ws_seq (ws_ifNo ?_ (ws_next ?_))
  · refine wt_and (wt_B (we_var rfl ⟨_, rfl, ?_⟩))
    cases hm : meetS S T with
    | false => rw [if_neg (by decide)]
    | true =>
      rw [if_pos rfl]
      have et : toldD CA S T = .tup [.str "", arcD CA (joinS [S, T])] := by unfold toldD; rw [hm, if_pos rfl]
      rw [et]
      refine wt_or (wt_test (we_op (we_op (we_var rfl (we_int (ro_ixT (d := .str "") rfl (we_str (ro_neS ⟨_, rfl, ?_⟩))))))))
      rw [if_neg (by decide)]
      refine wt_not (wt_B (we_call (wa_cons (we_op (we_var rfl (we_int (ro_ixT (d := arcD CA (joinS [S, T])) rfl ?_)))))))
      refine wa_cons (we_var rfl (wa_cons (we_var rfl (wa_cons (we_var rfl ?_)))))
      refine wa_nil ⟨⟨joinS [S, T], ts, ms, by rw [ei hm], djo, lf.lt, lf.lm, lf.ok, fun p hp => ?_⟩, fun r er => ?_⟩
      · rw [joinS_eq] at hp
        obtain ⟨u, hu, h⟩ := Ad.jo_mem hp
        simp at hu
        refine lf.mem p ?_
        rcases hu with rfl | rfl
        · rcases hS with e | e <;> rw [e] at h
          · exact .inl h
          · exact .inr h
        · rcases hT2 with e | e <;> rw [e] at h
          · exact .inl h
          · exact .inr h
      · rw [er]; exact ⟨_, rfl, rfl⟩
  -- turned by half
  refine ws_seq (ws_ifNo ?_ (ws_next ?_))
  · refine wt_and (wt_B (we_var rfl ⟨_, rfl, ?_⟩))
    cases hm : meetS S T with
    | false => rw [if_neg (by decide)]
    | true =>
      rw [if_pos rfl]
      have et : toldD CA S T = .tup [.str "", arcD CA (joinS [S, T])] := by unfold toldD; rw [hm, if_pos rfl]
      rw [et]
      have tur : ∀ {X : Xc} {δ : List Sd} {te : TE} {u : List Pr2} {Q : D → Prop}, DrOk u → WEx K ⟨Ba, lawT f c Pt⟩ X te δ (· = arcD CA u) → Q (arcD CA (u.map Ad.ng)) → WEx K ⟨Ba, lawT f c Pt⟩ X (tMeth CA "turned" (SpD K (aturPre CA) (aturPost CA)) [] E0 te tNil) δ Q := fun {X δ te u Q} hu h q => we_meth (wex_mono h fun d e => by
        subst e
        refine ⟨_, _, rfl, rfl, wa_nil ⟨⟨u, rfl, hu⟩, ?_⟩⟩
        rintro r ⟨u', e, rfl⟩
        rw [← arcD_inj (List.cons.inj e).1]
        exact q)
      refine wt_test (we_op (we_bor (tur dS (mk0 rfl rfl rfl) (tur dT (mk1 rfl rfl rfl) ⟨_, _, rfl, arc_ty MG, ⟨_, _, rfl, dS.ng, dT.ng, jn_ng jn, by rw [meet_ng]; exact hm⟩, ?_⟩))))
      rintro r ⟨s', t', e, hm', rfl⟩
      rw [← arcD_inj (List.cons.inj e).1, ← arcD_inj (List.cons.inj (List.cons.inj e).2).1, join_ng]
      refine ⟨⟨_, _, _, rfl⟩, ?_⟩
      refine tur djo (we_op (we_var rfl (we_int (ro_ixT (d := arcD CA (joinS [S, T])) rfl rfl)))) ?_
      refine ro_oeq ⟨⟨_, rfl, djo.ng.1.len⟩, ⟨_, rfl, djo.ng.1.len⟩⟩ (tyA MG) L.nf ?_
      rintro r ⟨s', t', e, rfl⟩
      rw [← arcD_inj (List.cons.inj e).1, ← arcD_inj (List.cons.inj (List.cons.inj e).2).1]
      exact ⟨_, rfl, _, rfl, by rw [decide_eq_true rfl]; rfl⟩
  -- what is due
  have due : ∀ {X : Xc} {δ : List Sd} {te : TE} {g h : Pr2 → Bool} {op : Bool → Bool → Bool} {Q : D → Prop}, 19 < δ.length → δ[13]? = some (.val (bitsD (ts.map g))) → δ[14]? = some (.val (bitsD (ts.map h))) → (∀ (a b : Bool) (δ' : List Sd), δ'[18]? = some (.val (.bl a)) → δ'[19]? = some (.val (.bl b)) → WE K ⟨Ba, lawT f c Pt⟩ te δ' fun y => y = .bl (op a b)) → Q (.bl (ts.all fun t => op (g t) (h t))) → WEx K ⟨Ba, lawT f c Pt⟩ X (tCB (rAll K) (tCons (tLc (RZ.iZipA K (tCons (tVar 13) (tCons (tVar 14) tNil))) (gTup K 2 (gCons (gName 18) (gCons (gName 19) gNil))) tYes te [18, 19]) tNil)) δ Q := fun {X δ te g h op Q} hl h1 h2 ho q => we_cb (wa_cons (we_bits (by decide) lf.lt (by omega) hl (wa_cons (we_var h1 (wa_cons (we_var h2 (wa_nil rfl))))) ho (wa_nil (rc_all (by rw [List.all_map]; exact q)))))
  have orn : ∀ {i j : Nat} (a b : Bool) (δ' : List Sd), δ'[i]? = some (.val (.bl a)) → δ'[j]? = some (.val (.bl b)) → WE K ⟨Ba, lawT f c Pt⟩ (tOrV (tVar i) (tNotV (tVar j))) δ' fun y => y = .bl (a || !b) := fun a b δ' h1 h2 => we_orV (we_var h1 ⟨_, rfl, by
    cases a
    · rw [if_neg (by decide)]
      exact we_notV (we_var h2 ⟨_, rfl, rfl⟩)
    · rw [if_pos rfl]; rfl⟩)
  refine ws_seq (ws_set (wex_mono (P := (· = .bl (ts.all fun d => Ad.inP S d || !Ad.inP T d))) ?_ fun d e => ?_))
  · refine we_if (wt_test (we_op (we_var rfl (we_int (ro_eqI ⟨_, rfl, ?_⟩)))))
    rcases lt with ⟨e, e1, e2⟩ | ⟨e, e1, e2⟩
    · rw [if_pos (decide_eq_true e)]
      refine due (op := fun a b => a || !b) (by show 19 < 20; decide) rfl rfl (fun a b δ' h1 h2 => orn a b δ' h1 h2) ?_
      rw [e1, e2]
    · rw [if_neg (by rw [e]; decide)]
      refine due (op := fun a b => b || !a) (by show 19 < 20; decide) rfl rfl (fun a b δ' h1 h2 => orn b a δ' h2 h1) ?_
      rw [e1, e2]
  subst e
  try dsimp only [List.set]
  have cov : ∀ {X : Xc} {δ : List Sd} {te tf : TE} {u v : List Pr2} {b : Bool} {Q : D → Prop}, DrOk u → DrOk v → Jn2 u v → (meetS u v && decide (joinS [u, v] = u)) = b → WEx K ⟨Ba, lawT f c Pt⟩ X te δ (· = arcD CA u) → WEx K ⟨Ba, lawT f c Pt⟩ X tf δ (· = arcD CA v) → Q (.bl b) → WEx K ⟨Ba, lawT f c Pt⟩ X (tMeth CA "covers" (SpD K (acovPre CA) (acovPost CA)) [] E0 te (tCons tf tNil)) δ Q := fun {X δ te tf u v b Q} hu hv hj hb h1 h2 q => we_meth (wex_mono h1 fun d e => by
    subst e
    refine ⟨_, _, rfl, rfl, wa_cons (wex_mono h2 fun d e => ?_)⟩
    subst e
    refine wa_nil ⟨⟨u, v, rfl, rfl, hu, hv, hj⟩, ?_⟩
    rintro r ⟨u', v', e, rfl⟩
    rw [← arcD_inj (List.cons.inj e).1, ← arcD_inj (List.cons.inj (List.cons.inj e).2).1, hb]
    exact q)
  have covK : ∀ {X : Xc} {δ : List Sd} {te tf : TE} {u v : List Pr2} {b : Bool} {Q : D → Prop}, DrOk u → DrOk v → Jn2 u v → (meetS u v && decide (joinS [u, v] = u)) = b → WEx K ⟨Ba, lawT f c Pt⟩ X te δ (· = arcD CA u) → WEx K ⟨Ba, lawT f c Pt⟩ X tf δ (· = arcD CA v) → Q (.bl b) → WEx K ⟨Ba, lawT f c Pt⟩ X (tMethK CA "covers" 1 (SpD K (acovPre CA) (acovPost CA)) (fun us ws => us ++ ws.reverse) E0 te (tCons tf tNil)) δ Q := fun {X δ te tf u v b Q} hu hv hj hb h1 h2 q => we_methK (wex_mono h1 fun d e => by
    subst e
    refine ⟨_, _, rfl, rfl, wa_cons (wex_mono h2 fun d e => ?_)⟩
    subst e
    refine wa_nil ⟨rfl, ⟨u, v, rfl, rfl, hu, hv, hj⟩, ?_⟩
    rintro r ⟨u', v', e, rfl⟩
    rw [← arcD_inj (List.cons.inj e).1, ← arcD_inj (List.cons.inj (List.cons.inj e).2).1, hb]
    exact q)
  have d0 : DrOk [] := ⟨.inl rfl, fun _ z => nomatch z⟩
  have who : ∀ {X : Xc} {δ : List Sd}, WEx K ⟨Ba, lawT f c Pt⟩ X (ClX.tCMeth CA (SpD K (p1 fun d => d = .adr CA) fun _ r => r = arcD CA []) E0 (tC (.ref CA)) tNil) δ (· = arcD CA []) := we_cmeth0 (we_adr ⟨rfl, rfl, fun r e => e⟩)
  refine ws_ifNo ?_ (ws_next ?_)
  · refine wt_not (wt_B (same (d := .lst [.bl (ts.all fun d => Ad.inP S d || !Ad.inP T d), .bl true, .bl true]) (by show (decide (3 ≤ 1000) && _) = true; rfl) ?_ ?_ ⟨_, rfl, rfl⟩))
    · refine we_lst (wa_cons (cov dS dT jn (fx_cov fx) (mk0 rfl rfl rfl) (mk1 rfl rfl rfl) (wa_cons (covK dS dS (fx_jn fself) ((fx_cov fself).trans all_self) (mk0 rfl rfl rfl) (mk0 rfl rfl rfl) ?_))))
      exact wa_cons (cov d0 dS (fx_jn f0) ((fx_cov f0).trans all_whole) who (mk0 rfl rfl rfl) (wa_nil ⟨by show 3 ≤ 1000; decide, rfl⟩))
    · exact we_lst (wa_cons (we_var rfl (wa_cons (we_bl (wa_cons (we_bl (wa_nil ⟨by show 3 ≤ 1000; decide, rfl⟩)))))))
  · exact hO _ _ _ _ _

end
/-! #### An -/
section
variable {P : Program} {w : World} {K : PySem.W.Frag} {mg : Str → Option Value} {base : Heap}
/-! ### lc -/
theorem lit_str {K : PySem.W.Frag} {B : Bt} {X : Xc} {δ : List Sd} {z : Str} : WEx K B X (tC (.str z)) δ (· = .str z) := we_str rfl
theorem lit_dic {K : PySem.W.Frag} {B : Bt} {X : Xc} {δ : List Sd} : WEx K B X tDNewK δ (· = .dic [] []) := fun _ _ _ G H Q s _ q a ha => q.new s.ok nt_dK ha (.dic (kvs := []) upd_same .nil) rfl
local macro_rules | `(tactic| walk_at "lits2") => `(tactic| repeat' first | exact lit_int | exact lit_neg | exact lit_non | exact lit_str | exact lit_dic | exact wa_eq0 | refine wa_eqc ?_ ?_ | refine lit_tup ?_ (by show _ ≤ 1000; decide) | refine lit_lst ?_ (by show _ ≤ 1000; decide))
def oddL : List D := [.non, Dl.pairD (1, 0), .lst [], .str "whole", .int 3, .dic [] [], .tup [Dl.pairD (1, 0), Dl.pairD (0, 1)]]
theorem odd_ok {CA : Addr} (h : OddT K CA) {d : D} (hd : d ∈ oddL) : (∀ t, d ≠ arcD CA t) ∧ d.isCls = false ∧ PySem.W.kitOne K (.type d.tyn) (.ref CA) = some false ∧ BorTy K CA (.type d.tyn) := by
  simp only [oddL, List.mem_cons, List.not_mem_nil, or_false] at hd
  rcases hd with rfl | rfl | rfl | rfl | rfl | rfl | rfl <;> exact ⟨(fun t z => nomatch z), rfl, (h _ (by simp [D.tyn, Dl.pairD])).1, (h _ (by simp [D.tyn, Dl.pairD])).2⟩
/-- the end of a turn -/
theorem piece_E {m : Nat} {CA CN CJ CL CM fw pw fTu fCo fOr fEq f c Pt : Addr} {mc : Value} {dw dTu dCo dOr dEq : FuncData} (L : Law P w K mg base m CA CN CJ CL CM fw pw fTu fCo fOr fEq f c Pt mc dw dTu dCo dOr dEq) (A : Around) (outer : List Env) (s : Shared) (H : Hp) (E : XK) (hr : lroom m f c A s) :
    ∃ t, PSs (lcx P w K mg base f c A outer s H E) (turnB.drop 9) t ∧ ∀ (Ba : Addr) (O : Out) (F La : Ens) (tn mk ts sh ei kk od so he th to du t' a b : Sd), O.rt = (fun r => r = .bl true) → EnD F → EnD La →
      (∀ od', O.nx (sl tn (.val (ensD F)) (.val (ensD La)) mk ts sh ei kk od' so (.val (.lst [arcD CA (Ad.spP F), arcD CA (Ad.spP La)])) he th to du t' a b)) →
      WS K ⟨Ba, lawT f c Pt⟩ t (sl tn (.val (ensD F)) (.val (ensD La)) mk ts sh ei kk od so (.val (.lst [arcD CA (Ad.spP F), arcD CA (Ad.spP La)])) he th to du t' a b) O := by
  have G := L.G
  have MG := L.MG
  have C__law_same := L.same
  have C__law_of := L.of_
  have C__law_arc_made := L.am
  have D__law_try := L.try_
  have m_LotError := L.mL
  have m_Missing := L.mM
  have C__law_field := L.fld
  have TB := L.TB
  have hT : lawT f c Pt = [(Pt, (lcx P w K mg base f c A outer s H E).env.qual ++ "<lambda>")] := rfl
  refine ⟨_, (pss_cons (ps_set (i := 10) sc_law.nd rfl (Or.inr rfl) (pe_c C__law_of hr (by omega) (by rfl) (pa_cons (pv 1) (pa_cons (pe_lst (pa_cons pe_non (pa_cons (pe_tupZ (pa_cons pe_int (pa_cons pe_int pa_nil))) (pa_cons (pe_lst pa_nil) (pa_cons pe_str (pa_cons pe_int (pa_cons pe_dnewK (pa_cons (pe_tupZ (pa_cons (pe_tupZ (pa_cons pe_int (pa_cons pe_int pa_nil))) (pa_cons (pe_tupZ (pa_cons pe_int (pa_cons pe_int pa_nil))) pa_nil))) pa_nil)))))))) pa_nil))))
      (pss_cons (ps_if (pt_not (pt_val (pe_c C__law_same hr (by omega) (by rfl) (pa_cons (pe_tryK (j := m) D__law_try (by rfl) m_LotError m_Missing C__law_field TB rfl hT hr (by omega) (LamX.lamS_by (show LamX.lamSB (defScope s_law) _ = true from by decide +kernel)) rfl (fun _ _ _ _ _ => rfl) (fun A outer s H E f c' hr => by exact (pe_op (show OpR _ (binaryOp .BitOr) (Dl.rBor K CA (SpX K (aorPre K CA) (aorPost CA) (aorExc CA CJ)) E) from Dl.op_bor L.ob L.orm.ok L.orm.bn hr (passes_call (takes_of rfl rfl rfl rfl) fun _ _ _ _ h => h)) (pe_ix (show IxR _ (rIxL K) from ix_list) (pv 12) pe_int (fun _ _ => rfl)) (pv 10)))) (pa_cons (pe_tupZ (pa_cons pe_str (pa_cons (pe_tupZ pa_nil) pa_nil))) pa_nil))))) (pss_one (ps_ret pe_bl)) pss_nil)
      (pss_one (ps_if (pt_not (pt_val (pe_c C__law_same hr (by omega) (by rfl) (pa_cons (pe_lst (pa_cons (pe_cmpR (op_oeq L.eqm.ok L.eqm.bn (hr.mono (show m + 1 ≤ m + 2 by omega)) L.eq) (pe_ix (show IxR _ (rIxL K) from ix_list) (pv 12) pe_int (fun _ _ => rfl)) (pe_c C__law_arc_made hr (by omega) (by rfl) (pa_cons (pv 3) pa_nil)) (nomark _)) (pa_cons (pe_cmpR (op_oeq L.eqm.ok L.eqm.bn (hr.mono (show m + 1 ≤ m + 2 by omega)) L.eq) (pe_ix (show IxR _ (rIxL K) from ix_list) (pv 12) pe_int (fun _ _ => rfl)) (pe_c C__law_arc_made hr (by omega) (by rfl) (pa_cons (pv 4) pa_nil)) (nomark _)) pa_nil))) (pa_cons (pe_lst (pa_cons pe_bl (pa_cons pe_bl pa_nil))) pa_nil))))) (pss_one (ps_ret pe_bl)) pss_nil)))), fun Ba O F La tn mk ts sh ei kk od so he th to du t' a b hrt hF hL hO => ?_⟩
  try dsimp only [lcx, cxOf, Cx.nox, Cx.blk]
  have dF := hF.dr
  have dL := hL.dr
  have same : ∀ {X : Xc} {δ : List Sd} {te tf : TE} {d : D} {Q : D → Prop}, plain 4 d = true → WEx K ⟨Ba, lawT f c Pt⟩ X te δ (· = d) → WEx K ⟨Ba, lawT f c Pt⟩ X tf δ (· = d) → Q (.bl true) → WEx K ⟨Ba, lawT f c Pt⟩ X (tCall (SpD K (samePre 4) fun ds r => r = (fun _ => D.bl true) ds) [] E0 (tCons te (tCons tf tNil))) δ Q := fun hd h1 h2 q => we_call (wa_cons (wex_mono h1 fun x e => by
    subst e
    refine wa_cons (wex_mono h2 fun y e => ?_)
    subst e
    exact wa_nil ⟨⟨rfl, hd⟩, fun r er => by rw [er]; exact q⟩))
  have noj : ∀ {X : Xc} {δ : List Sd}, WEx K ⟨Ba, lawT f c Pt⟩ X (zTup (tCons (tC (.str "NoJoining")) (tCons (zTup tNil) tNil))) δ (· = .tup [.str "NoJoining", .tup []]) := we_tup (wa_cons (we_str (wa_cons (we_tup (wa_nil ⟨by decide, wa_nil ⟨by show 2 ≤ 1000; decide, rfl⟩⟩)))))
  refine ws_seq (ws_set (we_off rfl (wex_mono (P := (· = .lst oddL)) (by walk_at "lits2") fun d e => ?_)))
  subst e
  refine ⟨.inl ⟨_, rfl⟩, by show 0 < 7; decide, by show 7 ≤ 1000; decide, fun d hd => ?_⟩
  obtain ⟨na, nc, hk, bt⟩ := odd_ok L.odd hd
  try dsimp only [sl, List.set]
  refine ws_seq (ws_ifNo ?_ (ws_next ?_))
  · refine wt_not (wt_B (same (d := .tup [.str "NoJoining", .tup []]) (by decide +kernel) ?_ noj ⟨_, rfl, rfl⟩))
    refine we_tryJ (B := ⟨Ba, lawT f c Pt⟩) (R := fun _ => False) (Φ := True) L.xg (fun E' => ?_) (fun d z => z.elim) fun _ => rfl
    refine we_borX (we_op (we_var rfl (we_int (ro_ixL (d := arcD CA (Ad.spP F)) rfl (we_var rfl ⟨_, _, rfl, fun G H v o h => ⟨_, h.tyx o nc, bt⟩, ⟨Ad.spP F, rfl, dF, .inr ⟨na, nc, hk⟩⟩, ?_, ?_⟩)))))
    · rintro r ⟨s', t', e, hm, rfl⟩
      exact absurd (List.cons.inj (List.cons.inj e).2).1 (na t')
    · rintro C' ks es ⟨h1, h2⟩
      exact ⟨h1, trivial⟩
  have eqs : ∀ {X : Xc} {δ : List Sd} {te tf : TE} {u : List Pr2} {Q : D → Prop}, DrOk u → WEx K ⟨Ba, lawT f c Pt⟩ X te δ (· = arcD CA u) → WEx K ⟨Ba, lawT f c Pt⟩ X tf δ (· = arcD CA u) → Q (.bl true) → WEx K ⟨Ba, lawT f c Pt⟩ X (tOp (rOeq K CA (SpD K (p2 fun d e => AcD CA d ∧ AcD CA e) (aeqPost CA)) false) te tf) δ Q := fun {X δ te tf u Q} hu h1 h2 q => we_op (wex_mono h1 fun d e => by
    subst e
    refine wex_mono h2 fun d e => ?_
    subst e
    refine ro_oeq ⟨⟨_, rfl, hu.1.len⟩, ⟨_, rfl, hu.1.len⟩⟩ (tyA MG) L.nf ?_
    rintro r ⟨s', t', e, rfl⟩
    rw [← arcD_inj (List.cons.inj e).1, ← arcD_inj (List.cons.inj (List.cons.inj e).2).1]
    exact ⟨_, rfl, by rw [decide_eq_true rfl]; exact q⟩)
  have mkd : ∀ {X : Xc} {δ : List Sd} {i : Nat} {e : Ens}, EnD e → δ[i]? = some (.val (ensD e)) → WEx K ⟨Ba, lawT f c Pt⟩ X (tCall (SpD K (p1 fun d => ∃ e : Ens, d = ensD e ∧ EnD e) fun ds r => ∃ e : Ens, ds = [ensD e] ∧ r = arcD CA (Ad.spP e)) [] E0 (tCons (tVar i) tNil)) δ (· = arcD CA (Ad.spP e)) := fun {X δ i e} he hi => we_call (wa_cons (we_var hi (wa_nil ⟨⟨e, rfl, he⟩, by
    rintro r ⟨e', z, rfl⟩
    rw [← ensD_inj (List.cons.inj z).1]⟩)))
  refine ws_ifNo ?_ (ws_next ?_)
  · refine wt_not (wt_B (same (d := .lst [.bl true, .bl true]) (by decide +kernel) ?_ ?_ ⟨_, rfl, rfl⟩))
    · refine we_lst (wa_cons (eqs dF (we_op (we_var rfl (we_int (ro_ixL (d := arcD CA (Ad.spP F)) rfl rfl)))) (mkd hF rfl) ?_))
      exact wa_cons (eqs dL (we_op (we_var rfl (we_int (ro_ixL (d := arcD CA (Ad.spP La)) rfl rfl)))) (mkd hL rfl) (wa_nil ⟨by show 2 ≤ 1000; decide, rfl⟩))
    · exact we_lst (wa_cons (we_bl (wa_cons (we_bl (wa_nil ⟨by show 2 ≤ 1000; decide, rfl⟩)))))
  · exact hO _
abbrev endsL (e : Ens) : List Pr2 := Ad.enL e
theorem endsL_ok {e : Ens} (h : EnD e) {p : Pr2} (hp : p ∈ endsL e) : isDir (Dl.pairD p) = true := by
  match e, h, hp with
  | some (a, b), h, hp =>
    obtain ⟨h1, h2⟩ := h a b rfl
    rcases List.mem_cons.mp hp with z | z
    · rw [z]; exact h1
    · rw [List.mem_singleton.mp z]; exact h2
theorem sp_ends {e : Ens} {p : Pr2} (h : p ∈ Ad.spP e) : p ∈ endsL e := by
  match e, h with
  | some (a, b), h =>
    have h' : p ∈ Ad.betG a b := h
    unfold Ad.betG at h'
    split at h' <;> simp at h'
    · rw [h']; exact List.mem_cons_self
    · rcases h' with rfl | rfl
      · exact List.mem_cons_self
      · exact List.mem_cons_of_mem _ List.mem_cons_self
theorem endsL_len (e : Ens) : (endsL e).length ≤ 2 := by
  match e with
  | none => exact Nat.zero_le _
  | some (_, _) => exact Nat.le_refl _
theorem mid_up {p q : Pr2} (hp : Upto 1000 p) (hq : Upto 1000 q) : Upto 10000 (Ad.mid p q) := by
  obtain ⟨h1, h2, h3, h4⟩ := hp
  obtain ⟨h5, h6, h7, h8⟩ := hq
  unfold Ad.mid
  split
  · rename_i z
    obtain ⟨⟨a, b⟩, c, d⟩ := Ad.red_le (b := 2000) (Ad.sm_nz (d := p) (e := q) (by omega)) (by simp only [Ad.sm]; omega) (by simp only [Ad.sm]; omega)
    exact ⟨by omega, by omega, by omega, by omega⟩
  · split
    · rename_i z
      obtain ⟨⟨a, b⟩, c, d⟩ := Ad.red_le (b := 2000) (Ad.ng_nz (Ad.sm_nz (d := p) (e := q) (by omega))) (by simp only [Ad.sm, Ad.ng]; omega) (by simp only [Ad.sm, Ad.ng]; omega)
      exact ⟨by omega, by omega, by omega, by omega⟩
    · split
      · exact ⟨by simp only [Ad.ng]; omega, by simp only [Ad.ng]; omega, by simp only [Ad.ng]; omega, by simp only [Ad.ng]; omega⟩
      · exact ⟨by show -10000 ≤ -p.2; omega, by show -p.2 ≤ 10000; omega, by show -10000 ≤ p.1; omega, by show p.1 ≤ 10000; omega⟩
/-- the tests of two arcs -/
def testsL (ms : List Pr2) : List Pr2 := if ms = [] then [(1, 0), (-3, 2)] else ms ++ (List.range ms.length).map (Ad.md ms.length (Ad.mAt ms))
theorem lf_of {F La : Ens} (hF : EnD F) (hL : EnD La) : LF F La (Ad.rndR (endsL F ++ endsL La)) (testsL (Ad.rndR (endsL F ++ endsL La))) := by
  have hds : ∀ p ∈ endsL F ++ endsL La, isDir (Dl.pairD p) = true := fun p hp => by
    rcases List.mem_append.mp hp with h | h
    · exact endsL_ok hF h
    · exact endsL_ok hL h
  have hd : ∀ p ∈ endsL F ++ endsL La, Ad.IsD p := fun p hp => (isDir_iff.mp (hds p hp)).2
  obtain ⟨h1, h2, h3⟩ := Ad.rnd_ok _ rfl hd
  have hl : (endsL F ++ endsL La).length ≤ 4 := by
    rw [List.length_append]
    have := endsL_len F
    have := endsL_len La
    omega
  have rl : (Ad.rndR (endsL F ++ endsL La)).length ≤ 4 := by omega
  have rU : ∀ p ∈ Ad.rndR (endsL F ++ endsL La), Ad.IsD p ∧ Upto 1000 p := fun p hp => by
    obtain ⟨u, d⟩ := isDir_iff.mp (hds p ((h2 p).mp hp))
    exact ⟨d, upto_le u (by decide)⟩
  have mem : ∀ p, p ∈ Ad.spP F ∨ p ∈ Ad.spP La → p ∈ Ad.rndR (endsL F ++ endsL La) := fun p h => (h2 p).mpr (List.mem_append.mpr (h.imp sp_ends sp_ends))
  unfold testsL
  by_cases e : Ad.rndR (endsL F ++ endsL La) = []
  · rw [if_pos e]
    have e2 : endsL F ++ endsL La = [] := by
      rw [List.eq_nil_iff_forall_not_mem]
      intro p hp
      have := (h2 p).mpr hp
      rw [e] at this
      cases this
    obtain ⟨z1, z2⟩ := List.append_eq_nil_iff.mp e2
    have f1 : F = none := by
      match F, z1 with
      | none, _ => rfl
    have f2 : La = none := by
      match La, z2 with
      | none, _ => rfl
    subst f1 f2
    have fx := Ad.fx_00 (ts := [((1 : Int), (0 : Int)), (-3, 2)]) (by simp)
    refine ⟨hF, hL, fx, fx, fx, fx, fx, fx, by show 2 ≤ 100; decide, by omega, fun t ht => ?_, fun p h => ?_⟩
    · simp only [List.mem_cons, List.not_mem_nil, or_false] at ht
      rcases ht with rfl | rfl
      · exact ⟨rfl, by decide, by decide, by decide, by decide⟩
      · exact ⟨rfl, by decide, by decide, by decide, by decide⟩
    · rcases h with h | h <;> cases h
  · rw [if_neg e]
    obtain ⟨a1, a2, a3, a4, a5, a6⟩ := Ad.fx_of (F := F) (L := La) (fun p q z => by obtain ⟨x, y⟩ := hF p q z; exact ⟨(isDir_iff.mp x).2, (isDir_iff.mp y).2⟩) (fun p q z => by obtain ⟨x, y⟩ := hL p q z; exact ⟨(isDir_iff.mp x).2, (isDir_iff.mp y).2⟩) (ds := endsL F ++ endsL La) rfl e
    refine ⟨hF, hL, a1, a2, a3, a4, a5, a6, by rw [List.length_append, List.length_map, List.length_range]; omega, by omega, fun t ht => ?_, mem⟩
    have M := Ad.marks_of h1 fun x hx => (rU x hx).1
    rcases List.mem_append.mp ht with h | h
    · exact ⟨(rU t h).1, upto_le (rU t h).2 (by decide)⟩
    · obtain ⟨k, hk, rfl⟩ := List.mem_map.mp h
      have hk' := List.mem_range.mp hk
      refine ⟨M.mdD hk', mid_up ?_ ?_⟩
      · rw [Ad.mAt_eq hk']; exact (rU _ (List.getElem_mem hk')).2
      · have hm : (k + 1) % (Ad.rndR (endsL F ++ endsL La)).length < (Ad.rndR (endsL F ++ endsL La)).length := Nat.mod_lt _ (by omega)
        rw [Ad.mAt_eq hm]; exact (rU _ (List.getElem_mem hm)).2
theorem pur_row (ps : List Pr2) : pur (rowD ps) = true := pur_prs ps
theorem dpt_row (ps : List Pr2) : dpt (rowD ps) ≤ 60 := by
  have := dpt_prs ps
  show dpts (ps.map Dl.pairD) + 1 ≤ 60
  omega
/-- a turn -/
theorem piece_A {m : Nat} {CA CN CJ CL CM fw pw fTu fCo fOr fEq f c Pt : Addr} {mc : Value} {dw dTu dCo dOr dEq : FuncData} (L : Law P w K mg base m CA CN CJ CL CM fw pw fTu fCo fOr fEq f c Pt mc dw dTu dCo dOr dEq) (A : Around) (outer : List Env) (s : Shared) (H : Hp) (E : XK) (hr : lroom m f c A s) :
    ∃ t, PSs (lcx P w K mg base f c A outer s H E) (turnB.drop 0) t ∧ ∀ (Ba : Addr) (O : Out) (tn fi la mk ts sh ei kk od so md he th to du t' a b : Sd), O.rt = (fun r => r = .bl true) →
      (∀ fi la mk ts sh ei kk od so md he th to du t' a b, O.nx (sl tn fi la mk ts sh ei kk od so md he th to du t' a b)) →
      WS K ⟨Ba, lawT f c Pt⟩ t (sl tn fi la mk ts sh ei kk od so md he th to du t' a b) O := by
  have G := L.G
  have MG := L.MG
  have C__law_draw := L.dr
  have C__law_arc_of_two := L.a2
  have C__law_arc_made := L.am
  have C__law_round := L.ro
  have C__law_mids := L.ms
  have C__law_within := L.wi
  obtain ⟨tD, hD, wD⟩ := piece_D L A outer s H E hr
  obtain ⟨tE, hE, wE⟩ := piece_E L A outer s H E hr
  obtain ⟨t8, h8, w8⟩ : ∃ t8, PSs (lcx P w K mg base f c A outer s H E) (turnB.drop 8) t8 ∧ ∀ (Ba : Addr) (O : Out) (F La : Ens) (ms ts : List Pr2) (tn kk od so to du t' a b : Sd), O.rt = (fun r => r = .bl true) → LF F La ms ts →
      (∀ od' kk' to' du' t2 a2 b2, O.nx (sl tn (.val (ensD F)) (.val (ensD La)) (.val (rowD ms)) (.val (rowD ts)) (.val (.bl (meetS (Ad.spP F) (Ad.spP La)))) (.val (bitsD (ts.map fun d => Ad.inP (Ad.spP F) d || Ad.inP (Ad.spP La) d))) kk' od' so (.val (.lst [arcD CA (Ad.spP F), arcD CA (Ad.spP La)])) (.val (bitsD (ts.map (Ad.inP (Ad.spP F))))) (.val (bitsD (ts.map (Ad.inP (Ad.spP La))))) to' du' t2 a2 b2)) →
      WS K ⟨Ba, lawT f c Pt⟩ t8 (sl tn (.val (ensD F)) (.val (ensD La)) (.val (rowD ms)) (.val (rowD ts)) (.val (.bl (meetS (Ad.spP F) (Ad.spP La)))) (.val (bitsD (ts.map fun d => Ad.inP (Ad.spP F) d || Ad.inP (Ad.spP La) d))) kk od so (.val (.lst [arcD CA (Ad.spP F), arcD CA (Ad.spP La)])) (.val (bitsD (ts.map (Ad.inP (Ad.spP F))))) (.val (bitsD (ts.map (Ad.inP (Ad.spP La))))) to du t' a b) O := by
    refine ⟨_, (pss_cons (ps_for PassesOwn.never rfl (pi_range1 rfl G.g_range (pa_cons pe_int pa_nil)) (pg_name (i := 9) sc_law.nd rfl (Or.inr rfl)) hD) hE), fun Ba O F La ms ts tn kk od so to du t' a b hrt lf hO => ?_⟩
    try dsimp only [lcx, cxOf, Cx.nox, Cx.blk]
    refine ws_seq (ws_for (wi_range1 (wa_cons (we_int (wa_nil ⟨2, rfl, by decide, by decide, fun _ δ1 => ∃ kk' to' du' t2 a2 b2, δ1 = sl tn (.val (ensD F)) (.val (ensD La)) (.val (rowD ms)) (.val (rowD ts)) (.val (.bl (meetS (Ad.spP F) (Ad.spP La)))) (.val (bitsD (ts.map fun d => Ad.inP (Ad.spP F) d || Ad.inP (Ad.spP La) d))) kk' od so (.val (.lst [arcD CA (Ad.spP F), arcD CA (Ad.spP La)])) (.val (bitsD (ts.map (Ad.inP (Ad.spP F))))) (.val (bitsD (ts.map (Ad.inP (Ad.spP La))))) to' du' t2 a2 b2, ⟨_, _, _, _, _, _, rfl⟩, ?_, ?_⟩)))))
    · rintro n d δ1 hd ⟨kk', to', du', t2, a2, b2, rfl⟩
      obtain ⟨i, rfl, hi⟩ : ∃ i : Int, d = .int i ∧ (i = 0 ∨ i = 1) := by
        have hd' : ([D.int 0, D.int 1] : List D)[n]? = some d := hd
        match n, hd' with
        | 0, h => cases h; exact ⟨0, rfl, .inl rfl⟩
        | 1, h => cases h; exact ⟨1, rfl, .inr rfl⟩
      try dsimp only [sl, List.set]
      exact wD Ba _ F La ms ts i _ _ _ _ _ _ _ _ hrt lf hi fun to' du' t2 a2 b2 => ⟨_, _, _, _, _, _, rfl⟩
    · rintro δ1 ⟨kk', to', du', t2, a2, b2, rfl⟩
      exact wE Ba _ F La _ _ _ _ _ _ _ _ _ _ _ _ _ _ _ hrt lf.hF lf.hL fun od' => hO _ _ _ _ _ _ _
  refine ⟨_, (pss_cons (ps_set (i := 3) sc_law.nd rfl (Or.inr rfl) (pe_c C__law_arc_of_two hr (by omega) (by rfl) (pa_cons (pv 1) (pa_cons (pe_lst pa_nil) pa_nil))))
      (pss_cons (ps_set (i := 4) sc_law.nd rfl (Or.inr rfl) (pe_c C__law_arc_of_two hr (by omega) (by rfl) (pa_cons (pv 1) (pa_cons (pe_ifExp (PW.pt (pw_and (pt_cmpR op_notN (pv 3) pe_non (nomark _)) (pw_and1 (pt_cmpR op_eq (pe_c C__law_draw hr (by omega) (by rfl) (pa_cons (pv 1) (pa_cons pe_int pa_nil))) pe_int (nomark _))))) (pe_callTy call_list_of (by rfl) G.g_list (by decide +kernel) (pa_cons (pv 3) pa_nil)) (pe_lst pa_nil)) pa_nil))))
      (pss_cons (ps_asg (pe_tupZ (pa_cons (pe_lst (pa_cons (pv 3) (pa_cons (pv 4) pa_nil))) (pa_cons (pe_lst (pa_cons (pe_c C__law_arc_made hr (by omega) (by rfl) (pa_cons (pv 3) pa_nil)) (pa_cons (pe_c C__law_arc_made hr (by omega) (by rfl) (pa_cons (pv 4) pa_nil)) pa_nil))) pa_nil))) (show PG _ _ (gTup K 2 (gCons (gName 11) (gCons (gName 12) gNil))) from pg_tup rfl (pgs_cons (pg_name (i := 11) sc_law.nd rfl (Or.inl rfl)) (pgs_cons (pg_name (i := 12) sc_law.nd rfl (Or.inr rfl)) pgs_nil))))
      (pss_cons (ps_set (i := 5) sc_law.nd rfl (Or.inl rfl) (pe_c C__law_round hr (by omega) (by rfl) (pa_cons (pe_op op_cat (pe_ifExp (pt_cmpR op_notN (pv 3) pe_non (nomark _)) (pe_callTy call_list_of (by rfl) G.g_list (by decide +kernel) (pa_cons (pv 3) pa_nil)) (pe_lst pa_nil)) (pe_ifExp (pt_cmpR op_notN (pv 4) pe_non (nomark _)) (pe_callTy call_list_of (by rfl) G.g_list (by decide +kernel) (pa_cons (pv 4) pa_nil)) (pe_lst pa_nil))) pa_nil)))
      (pss_cons (ps_set (i := 6) sc_law.nd rfl (Or.inl rfl) (pe_ifExp (pt_cmpR (op_neD hr.units) (pv 5) (pe_lst pa_nil) (nomark _)) (pe_op op_cat (pv 5) (pe_c C__law_mids hr (by omega) (by rfl) (pa_cons (pv 5) pa_nil))) (pe_lst (pa_cons (pe_tupZ (pa_cons pe_int (pa_cons pe_int pa_nil))) (pa_cons (pe_tupZ (pa_cons (pe_un un_neg pe_int) (pa_cons pe_int pa_nil))) pa_nil)))))
      (pss_cons (ps_par (i := 13) (j := 14) (by rfl) sc_law.nd rfl rfl (by decide) rfl rfl (pa_cons (pe_lc (own := [("_law_t", 17)]) (g := gName 17) (tt := tYes) rfl sc_law.nd (pi_list (pv 6)) (blkOk_by (N := N_law) (sc := defScope s_law) (by decide +kernel)) (fun _ _ _ _ _ => pg_name (i := 17) sc_law.nd rfl (Or.inl rfl)) (fun _ _ _ _ _ => pts_nil) (fun _ _ _ _ _ => (pe_c C__law_within hr (by omega) (by rfl) (pa_cons (pv 3) (pa_cons (pv 17) pa_nil))))) (pa_cons (pe_lc (own := [("_law_t", 17)]) (g := gName 17) (tt := tYes) rfl sc_law.nd (pi_list (pv 6)) (blkOk_by (N := N_law) (sc := defScope s_law) (by decide +kernel)) (fun _ _ _ _ _ => pg_name (i := 17) sc_law.nd rfl (Or.inl rfl)) (fun _ _ _ _ _ => pts_nil) (fun _ _ _ _ _ => (pe_c C__law_within hr (by omega) (by rfl) (pa_cons (pv 4) (pa_cons (pv 17) pa_nil))))) pa_nil)) (by rfl))
      (pss_cons (ps_set (i := 7) sc_law.nd rfl (Or.inl rfl) (pe_callB (cr_any rfl) (by rfl) G.g_any (by decide +kernel) (pa_cons (pe_lc (own := [("_law_a", 18), ("_law_b", 19)]) (g := (gTup K 2 (gCons (gName 18) (gCons (gName 19) gNil)))) (tt := tYes) rfl sc_law.nd (RZ.pi_zipA rfl G.g_zip (pa_cons (pv 13) (pa_cons (pv 14) pa_nil))) (blkOk_by (N := N_law) (sc := defScope s_law) (by decide +kernel)) (fun _ _ _ _ _ => show PG _ _ (gTup K 2 (gCons (gName 18) (gCons (gName 19) gNil))) from pg_tup rfl (pgs_cons (pg_name (i := 18) sc_law.nd rfl (Or.inl rfl)) (pgs_cons (pg_name (i := 19) sc_law.nd rfl (Or.inl rfl)) pgs_nil))) (fun _ _ _ _ _ => pts_nil) (fun _ _ _ _ _ => (pe_and (pv 18) (pe_one (pv 19))))) pa_nil)))
      (pss_cons (ps_setLc (i := 8) (own := [("_law_a", 18), ("_law_b", 19)]) (g := (gTup K 2 (gCons (gName 18) (gCons (gName 19) gNil)))) (tt := tYes) rfl sc_law.nd rfl rfl (sw_true rfl rfl rfl (by decide +kernel)) (RZ.pi_zipA rfl G.g_zip (pa_cons (pv 13) (pa_cons (pv 14) pa_nil))) (blkOk_by (N := N_law) (sc := defScope s_law) (by decide +kernel)) (fun _ _ _ _ _ => show PG _ _ (gTup K 2 (gCons (gName 18) (gCons (gName 19) gNil))) from pg_tup rfl (pgs_cons (pg_name (i := 18) sc_law.nd rfl (Or.inl rfl)) (pgs_cons (pg_name (i := 19) sc_law.nd rfl (Or.inl rfl)) pgs_nil))) (fun _ _ _ _ _ => pts_nil) (fun _ _ _ _ _ => (pe_or (pv 18) (pe_one (pv 19)))))
      h8)))))))), fun Ba O tn fi la mk ts sh ei kk od so md he th to du t' a b hrt hO => ?_⟩
  try dsimp only [lcx, cxOf, Cx.nox, Cx.blk]
  have arc2 : ∀ {X : Xc} {δ : List Sd} {te : TE} {Q : D → Prop}, δ[1]? = some (.val .box) → WEx K ⟨Ba, lawT f c Pt⟩ X te δ (fun d => ∃ ks : List Pr2, d = rowD ks ∧ ks.length ≤ 100 ∧ ∀ p ∈ ks, isDir (Dl.pairD p) = true) → (∀ e : Ens, EnD e → Q (ensD e)) → WEx K ⟨Ba, lawT f c Pt⟩ X (tCall (SpD K (p2 fun d l => d = .box ∧ ∃ ks : List Pr2, l = rowD ks ∧ ks.length ≤ 100 ∧ ∀ p ∈ ks, isDir (Dl.pairD p) = true) fun _ r => ∃ e : Ens, r = ensD e ∧ EnD e) [] E0 (tCons (tVar 1) (tCons te tNil))) δ Q := fun {X δ te Q} h1 h q => we_call (wa_cons (we_var h1 (wa_cons (wex_mono h fun d e => by
    refine wa_nil ⟨⟨rfl, e⟩, ?_⟩
    rintro r ⟨e, rfl, he⟩
    exact q e he))))
  have emp : ∀ {X : Xc} {δ : List Sd}, WEx K ⟨Ba, lawT f c Pt⟩ X (tLst tNil) δ (· = rowD []) := we_lst (wa_nil ⟨by decide, rfl⟩)
  refine ws_seq (ws_set (arc2 rfl (wex_mono emp fun d e => ⟨[], e, by decide, fun _ z => nomatch z⟩) fun F hF => ?_))
  try dsimp only [sl, List.set]
  -- the ends as a row
  have lsf : ∀ {X : Xc} {δ : List Sd} {i : Nat} {p q : Pr2}, δ[i]? = some (.val (ensD (some (p, q)))) → WEx K ⟨Ba, lawT f c Pt⟩ X (tCB (rListOf K) (tCons (tVar i) tNil)) δ (· = rowD [p, q]) := fun {X δ i p q} h => we_cb (wa_cons (we_var h (wa_nil ((rc_listOf (P := (· = rowD [p, q])) (ds := [Dl.pairD p, Dl.pairD q]) rfl).2))))
  refine ws_seq (ws_set (arc2 rfl (we_if ?_) fun La hL => ?_))
  · cases F with
    | none =>
      refine wt_and (wt_test (we_op (we_var rfl (we_non (ro_notN ⟨_, rfl, ?_⟩)))))
      rw [if_neg (by show ¬ (!isNon (ensD none)) = true; decide), if_neg (by decide)]
      exact wex_mono emp fun d e => ⟨[], e, by decide, fun _ z => nomatch z⟩
    | some pq =>
      obtain ⟨p, q⟩ := pq
      refine wt_and (wt_test (we_op (we_var rfl (we_non (ro_notN ⟨_, rfl, ?_⟩)))))
      rw [if_pos (show (!isNon (ensD (some (p, q)))) = true from rfl)]
      refine wt_test (we_op (we_drw rfl (we_int ⟨2, rfl, by decide, by decide, fun i _ _ => we_int (ro_eqI ⟨_, rfl, ?_⟩)⟩)))
      generalize decide (i = 0) = c
      cases c
      · rw [if_neg (by decide)]
        exact wex_mono emp fun d e => ⟨[], e, by decide, fun _ z => nomatch z⟩
      · rw [if_pos rfl]
        exact wex_mono (lsf rfl) fun d e => ⟨[p, q], e, by show 2 ≤ 100; decide, fun x hx => endsL_ok hF hx⟩
  try dsimp only [List.set]
  have mkd : ∀ {X : Xc} {δ : List Sd} {i : Nat} {e : Ens} {Q : D → Prop}, EnD e → δ[i]? = some (.val (ensD e)) → Q (arcD CA (Ad.spP e)) → WEx K ⟨Ba, lawT f c Pt⟩ X (tCall (SpD K (p1 fun d => ∃ e : Ens, d = ensD e ∧ EnD e) fun ds r => ∃ e : Ens, ds = [ensD e] ∧ r = arcD CA (Ad.spP e)) [] E0 (tCons (tVar i) tNil)) δ Q := fun {X δ i e Q} he hi q => we_call (wa_cons (we_var hi (wa_nil ⟨⟨e, rfl, he⟩, by
    rintro r ⟨e', z, rfl⟩
    rw [← ensD_inj (List.cons.inj z).1]
    exact q⟩)))
  refine ws_seq (ws_unt2 (we_tup (wa_cons (we_lst (wa_cons (we_var rfl (wa_cons (we_var rfl (wa_nil ⟨by show 2 ≤ 1000; decide, ?_⟩)))))))))
  refine wa_cons (we_lst (wa_cons (mkd hF rfl (wa_cons (mkd hL rfl (wa_nil ⟨by show 2 ≤ 1000; decide, wa_nil ⟨by show 2 ≤ 1000; decide, _, _, rfl, ?_⟩⟩))))))
  try dsimp only [List.set]
  -- the marks
  have row : ∀ {X : Xc} {δ : List Sd} {i : Nat} {e : Ens}, δ[i]? = some (.val (ensD e)) → WEx K ⟨Ba, lawT f c Pt⟩ X (tIf (tTest (tOp (fun x y H Q => y = .non ∧ Q (.bl (!decide (x = .non))) H) (tVar i) (tC .non))) (tCB (rListOf K) (tCons (tVar i) tNil)) (tLst tNil)) δ (· = rowD (endsL e)) := fun {X δ i e} h => by
    cases e with
    | none =>
      refine we_if (wt_test (we_op (we_var h (we_non (ro_notN ⟨_, rfl, ?_⟩)))))
      rw [if_neg (by show ¬ (!isNon (ensD none)) = true; decide)]
      exact emp
    | some pq =>
      obtain ⟨p, q⟩ := pq
      refine we_if (wt_test (we_op (we_var h (we_non (ro_notN ⟨_, rfl, ?_⟩)))))
      rw [if_pos (show (!isNon (ensD (some (p, q)))) = true from rfl)]
      exact lsf h
  have lf := lf_of hF hL
  have hU : ∀ p ∈ endsL F ++ endsL La, Ad.IsD p ∧ Upto 1000 p := fun p hp => by
    have hi : isDir (Dl.pairD p) = true := by
      rcases List.mem_append.mp hp with h | h
      · exact endsL_ok hF h
      · exact endsL_ok hL h
    obtain ⟨u, d⟩ := isDir_iff.mp hi
    exact ⟨d, upto_le u (by decide)⟩
  have lF := endsL_len F
  have lL := endsL_len La
  refine ws_seq (ws_set (we_call (wa_cons (we_op (wex_mono (row rfl) fun d e => ?_)))))
  subst e
  refine wex_mono (row rfl) fun d e => ?_
  subst e
  refine ro_cat (by rw [List.length_map, List.length_map]; omega) (wa_nil ⟨⟨endsL F ++ endsL La, by unfold rowD; rw [List.map_append], by rw [List.length_append]; omega, hU⟩, ?_⟩)
  rintro r ⟨ps, e, rfl⟩
  have e1 : ps = endsL F ++ endsL La := by
    have h := D.lst.inj (List.cons.inj e).1
    rw [← List.map_append] at h
    exact (prs_inj h).symm
  subst e1
  have rU : ∀ p ∈ Ad.rndR (endsL F ++ endsL La), Upto 1000 p := fun p hp => (hU p (((Ad.rnd_ok _ rfl fun x hx => (hU x hx).1).2.1 p).mp hp)).2
  generalize Ad.rndR (endsL F ++ endsL La) = ms at lf rU
  try dsimp only [List.set]
  -- the tests
  have lm := lf.lm
  refine ws_seq (ws_set (wex_mono (P := (· = rowD (testsL ms))) (we_if (wt_test (we_op (we_var rfl (wex_mono emp fun d e => ?_))))) fun d e => ?_))
  · subst e
    refine ro_neG (pur_row ms) (pur_row []) (dpt_row ms) (dpt_row []) fun c' hc => ⟨_, rfl, ?_⟩
    unfold testsL
    by_cases z : ms = []
    · subst z
      rw [hc.mpr rfl, if_neg (by decide), if_pos rfl]
      show WEx K _ _ _ _ (· = .lst [Dl.pairD (1, 0), Dl.pairD (-3, 2)])
      walk_at "lits2"
    · have zc : c' = false := by
        cases q : c' with
        | false => rfl
        | true => exact absurd (rowD_inj (hc.mp q)) z
      rw [zc, if_pos (by decide), if_neg z]
      have tl : (rowD ms).len? = some ms.length := by show some (ms.map Dl.pairD).length = _; rw [List.length_map]
      refine we_op (we_var rfl (we_call (wa_cons (we_var rfl (wa_nil ⟨⟨ms, rfl, lm, rU⟩, ?_⟩)))))
      rintro r ⟨ms', e, rfl⟩
      rw [← rowD_inj (List.cons.inj e).1]
      refine ro_cat (by rw [List.length_map, List.length_map, List.length_map, List.length_range]; omega) ?_
      unfold rowD
      rw [List.map_append]
  subst e
  generalize testsL ms = ts at lf
  try dsimp only [List.set]
  -- what is within
  have wis : ∀ {X : Xc} {δ : List Sd} {i : Nat} {e : Ens} {Q : D → Prop}, i ≠ 17 → EnD e → δ[i]? = some (.val (ensD e)) → δ[6]? = some (.val (rowD ts)) → 17 < δ.length → Q (bitsD (ts.map (Ad.inP (Ad.spP e)))) → WEx K ⟨Ba, lawT f c Pt⟩ X (tLc (iList K (tVar 6)) (gName 17) tYes (tCall (SpD K (p2 fun a b => ∃ (e : Ens) (d : Pr2), a = ensD e ∧ b = Dl.pairD d ∧ EnOk 1000000 e ∧ Ad.IsD d ∧ Upto 1000000 d) fun ds r => ∃ (e : Ens) (d : Pr2), ds = [ensD e, Dl.pairD d] ∧ r = .bl (Ad.inP (Ad.spP e) d)) [] E0 (tCons (tVar i) (tCons (tVar 17) tNil))) [17]) δ Q := by
    intro X δ i e Q ne he hi h6 hl q
    refine we_lcA (xs := ts) Dl.pairD (fun t => .bl (Ad.inP (Ad.spP e) t)) (by have := lf.lt; omega) (wi_list (we_var h6 ⟨_, rfl, rfl⟩)) (fun t ht => ?_) ?_
    · refine we_call (wa_cons (we_var (by rw [List.getElem?_set_ne (Ne.symm ne)]; exact hi) (wa_cons (we_var (List.getElem?_set_self hl) (wa_nil ⟨⟨e, t, rfl, rfl, he.ok (by decide), (lf.ok t ht).1, upto_le (lf.ok t ht).2 (by decide)⟩, ?_⟩)))))
      rintro _ ⟨e', t', z, rfl⟩
      rw [← ensD_inj (List.cons.inj z).1, ← pairD_inj (List.cons.inj (List.cons.inj z).2).1]
    · have e : (ts.map fun t => D.bl (Ad.inP (Ad.spP e) t)) = (ts.map (Ad.inP (Ad.spP e))).map D.bl := by rw [List.map_map]; rfl
      rw [e]
      exact q
  refine ws_seq (ws_par (wa_cons (wis (by decide) hF rfl rfl (by show 17 < 20; decide) (wa_cons (wis (by decide) hL rfl rfl (by show 17 < 20; decide) (wa_nil ⟨_, _, rfl, ?_⟩))))))
  try dsimp only [List.set]
  have zipd : ∀ {X : Xc} {δ : List Sd} {te : TE} {op : Bool → Bool → Bool} {Q : D → Prop}, δ[13]? = some (.val (bitsD (ts.map (Ad.inP (Ad.spP F))))) → δ[14]? = some (.val (bitsD (ts.map (Ad.inP (Ad.spP La))))) → 19 < δ.length → (∀ (a b : Bool) (δ' : List Sd), δ'[18]? = some (.val (.bl a)) → δ'[19]? = some (.val (.bl b)) → WE K ⟨Ba, lawT f c Pt⟩ te δ' fun y => y = .bl (op a b)) → Q (bitsD (ts.map fun t => op (Ad.inP (Ad.spP F) t) (Ad.inP (Ad.spP La) t))) → WEx K ⟨Ba, lawT f c Pt⟩ X (tLc (RZ.iZipA K (tCons (tVar 13) (tCons (tVar 14) tNil))) (gTup K 2 (gCons (gName 18) (gCons (gName 19) gNil))) tYes te [18, 19]) δ Q := fun {X δ te op Q} h1 h2 hl ho q => we_bits (by decide) lf.lt (by omega) hl (wa_cons (we_var h1 (wa_cons (we_var h2 (wa_nil rfl))))) ho q
  refine ws_seq (ws_set (we_cb (wa_cons (zipd (op := fun a b => a && b) rfl rfl (by show 19 < 20; decide) (fun a b δ' h1 h2 => ?_) (wa_nil (rc_any ?_))))))
  · refine we_andV (we_var h1 ⟨_, rfl, ?_⟩)
    cases a
    · rw [if_neg (by decide)]; rfl
    · rw [if_pos rfl]; exact we_var h2 rfl
  rw [List.any_map]
  have em : (ts.any (id ∘ fun t => Ad.inP (Ad.spP F) t && Ad.inP (Ad.spP La) t)) = meetS (Ad.spP F) (Ad.spP La) := lf.fx.any
  rw [em]
  try dsimp only [List.set]
  refine ws_seq (ws_set (zipd (op := fun a b => a || b) rfl rfl (by show 19 < 20; decide) (fun a b δ' h1 h2 => ?_) ?_))
  · refine we_orV (we_var h1 ⟨_, rfl, ?_⟩)
    cases a
    · rw [if_neg (by decide)]; exact we_var h2 rfl
    · rw [if_pos rfl]; rfl
  try dsimp only [List.set]
  exact w8 Ba _ F La ms ts _ _ _ _ _ _ _ _ _ hrt lf fun _ _ _ _ _ _ _ => hO _ _ _ _ _ _ _ _ _ _ _ _ _ _ _ _ _

end
/-! #### Ao -/
section
variable {P : Program} {w : World} {K : PySem.W.Frag} {mg : Str → Option Value} {base : Heap}
/-! ### ld -/
def spLaw (K : PySem.W.Frag) (Pt : Addr) : Sp := fun vs H Q _ => ∃ (a : Addr) (ns : List Int), vs = [.ref a] ∧ SqL K H a (ns.map V.int) ∧ ns.length ≤ 63 ∧ H Pt = some (.tbl #[]) ∧ ∀ H', Q (.bl true) H'
abbrev lawO : Out := { nx := fun _ => False, rt := fun r => r = .bl true }
theorem ok_law {m : Nat} {CA CN CJ CL CM fw pw fTu fCo fOr fEq Pt : Addr} {mc : Value} {dw dTu dCo dOr dEq fd : FuncData} (L : Law P w K mg base m CA CN CJ CL CM fw pw fTu fCo fOr fEq (He.fAd K ("law", none)) (He.codeOf K ("law", none)) Pt mc dw dTu dCo dOr dEq) (C__law_open : Cl P w K mg base (m + 2) "_law_open" s__law_open ["_law_script"] (spBox K))
    (F : FunD K "law" "law" (defArgs s_law) (defBody s_law) (defScope s_law) [] [] (He.fAd K ("law", none)) fd) : FnOk P w K mg base CX0 (m + 3) (He.fAd K ("law", none)) fd ["_law_script"] (spLaw K Pt) := by
  obtain ⟨oc, od, dV', kV, doc, pm, an, cdv, ct, osl, rfl, lk, hcd, hd, _⟩ := F.ex
  obtain ⟨c, rfl⟩ := He.codeIn_ref hcd
  have ec := He.codeOf_eq (p := ("law", none)) lk (c := c) rfl
  rw [ec] at L
  clear ec
  generalize He.fAd K ("law", none) = f at lk L
  refine fn_of (CX := CX0) lk hcd sc_law (fun vs H Q E h => ?_) fun A outer s H vs Q E hr h => ?_
  · obtain ⟨a, ns, rfl, _⟩ := h
    rfl
  obtain ⟨a, ns, rfl, hS, hl, hP, q⟩ := h
  have hr' : lroom m f c A s := hr
  have G := L.G
  obtain ⟨tA, hA, wA⟩ := piece_A L A outer s H E hr'
  obtain ⟨t1, h1, w1⟩ : ∃ t1, PSs (lcx P w K mg base f c A outer s H E) ((defBody s_law).drop 1) t1 ∧ ∀ (Ba : Addr) (y2 y3 y4 y5 y6 y7 y8 y9 y10 y11 y12 y13 y14 y15 y16 y17 y18 y19 : Sd), WS K ⟨Ba, lawT f c Pt⟩ t1 (sl y2 y3 y4 y5 y6 y7 y8 y9 y10 y11 y12 y13 y14 y15 y16 y17 y18 y19) lawO := by
    refine ⟨_, (pss_cons (ps_for PassesOwn.never rfl (pi_range1 rfl G.g_range (pa_cons pe_int pa_nil)) (pg_name (i := 2) sc_law.nd rfl (Or.inl rfl)) hA) (pss_one (ps_ret pe_bl))), fun Ba y2 y3 y4 y5 y6 y7 y8 y9 y10 y11 y12 y13 y14 y15 y16 y17 y18 y19 => ?_⟩
    try dsimp only [lcx, cxOf, Cx.nox, Cx.blk]
    refine ws_seq (ws_for (wi_range1 ?_))
    repeat walk_at "dl"
    refine ⟨by decide, by decide, fun _ δ1 => ∃ y2 y3 y4 y5 y6 y7 y8 y9 y10 y11 y12 y13 y14 y15 y16 y17 y18 y19, δ1 = sl y2 y3 y4 y5 y6 y7 y8 y9 y10 y11 y12 y13 y14 y15 y16 y17 y18 y19, ⟨_, _, _, _, _, _, _, _, _, _, _, _, _, _, _, _, _, _, rfl⟩, ?_, ?_⟩
    · rintro k d δ1 _ ⟨y2, y3, y4, y5, y6, y7, y8, y9, y10, y11, y12, y13, y14, y15, y16, y17, y18, y19, rfl⟩
      try dsimp only [sl, List.set]
      exact wA Ba _ _ _ _ _ _ _ _ _ _ _ _ _ _ _ _ _ _ _ rfl fun _ _ _ _ _ _ _ _ _ _ _ _ _ _ _ _ _ => ⟨_, _, _, _, _, _, _, _, _, _, _, _, _, _, _, _, _, _, rfl⟩
    · rintro δ1 ⟨y2, y3, y4, y5, y6, y7, y8, y9, y10, y11, y12, y13, y14, y15, y16, y17, y18, y19, rfl⟩
      exact ws_ret (we_bl rfl)
  have hT : LamX.Tabs (lawT f c Pt) H := fun p hp => by
    rw [List.mem_singleton.mp hp]
    exact LamX.TabS.nil hP
  have key : ∃ t, PSs (lcx P w K mg base f c A outer s H E) (defBody s_law) t ∧ t { nx := fun _ H' => Q .non H', rt := Q } (start N_law [.ref a]) H := by
    refine ⟨_, pss_cons (ps_set (i := 1) sc_law.nd rfl (Or.inl rfl) (pe_c C__law_open hr (by omega) (by rfl) (pa_cons (pv 0) pa_nil))) h1, ?_⟩
    refine ⟨_, rfl, ⟨a, ns, rfl, hS, hl, lawT f c Pt, hT, fun B G1 H1 hB sm ok => ?_⟩⟩
    obtain ⟨Ba, BT⟩ := B
    have hB' : BT = lawT f c Pt := hB
    subst hB'
    refine w1 Ba .no .no .no .no .no .no .no .no .no .no .no .no .no .no .no .no .no .no G1 H1 _ G1 H1 _ ⟨Go.refl, ok, rfl, fun i d e => ?_, fun i ds e => ?_, fun i j ds es x e1 => ?_⟩ xs0 (fun _ _ _ _ _ _ z => z.elim) ⟨fun v d G2 H2 _ _ hv e => ?_, fun _ _ _ _ _ _ _ _ _ _ _ _ z => z.elim⟩ (fun _ _ _ _ _ _ z => z.elim) (fun _ _ _ _ _ _ z => z.elim)
    · match i, e with
      | 0, e => cases e
      | 1, e => cases e; exact ⟨.ref Ba, rfl, .box⟩
      | 2, e => cases e
      | 3, e => cases e
      | 4, e => cases e
      | 5, e => cases e
      | 6, e => cases e
      | 7, e => cases e
      | 8, e => cases e
      | 9, e => cases e
      | 10, e => cases e
      | 11, e => cases e
      | 12, e => cases e
      | 13, e => cases e
      | 14, e => cases e
      | 15, e => cases e
      | 16, e => cases e
      | 17, e => cases e
      | 18, e => cases e
      | 19, e => cases e
      | n + 20, e => cases e
    · exact absurd e (by match i with
        | 0 => exact fun z => nomatch z
        | 1 => exact fun z => nomatch z
        | 2 => exact fun z => nomatch z
        | 3 => exact fun z => nomatch z
        | 4 => exact fun z => nomatch z
        | 5 => exact fun z => nomatch z
        | 6 => exact fun z => nomatch z
        | 7 => exact fun z => nomatch z
        | 8 => exact fun z => nomatch z
        | 9 => exact fun z => nomatch z
        | 10 => exact fun z => nomatch z
        | 11 => exact fun z => nomatch z
        | 12 => exact fun z => nomatch z
        | 13 => exact fun z => nomatch z
        | 14 => exact fun z => nomatch z
        | 15 => exact fun z => nomatch z
        | 16 => exact fun z => nomatch z
        | 17 => exact fun z => nomatch z
        | 18 => exact fun z => nomatch z
        | 19 => exact fun z => nomatch z
        | n + 20 => exact fun z => nomatch z)
    · exact absurd e1 (by match i with
        | 0 => exact fun z => nomatch z
        | 1 => exact fun z => nomatch z
        | 2 => exact fun z => nomatch z
        | 3 => exact fun z => nomatch z
        | 4 => exact fun z => nomatch z
        | 5 => exact fun z => nomatch z
        | 6 => exact fun z => nomatch z
        | 7 => exact fun z => nomatch z
        | 8 => exact fun z => nomatch z
        | 9 => exact fun z => nomatch z
        | 10 => exact fun z => nomatch z
        | 11 => exact fun z => nomatch z
        | 12 => exact fun z => nomatch z
        | 13 => exact fun z => nomatch z
        | 14 => exact fun z => nomatch z
        | 15 => exact fun z => nomatch z
        | 16 => exact fun z => nomatch z
        | 17 => exact fun z => nomatch z
        | 18 => exact fun z => nomatch z
        | 19 => exact fun z => nomatch z
        | n + 20 => exact fun z => nomatch z)
    · have e' : d = .bl true := e
      subst e'
      cases hv
      exact q H2
  obtain ⟨t, ht, hq⟩ := key
  exact ⟨t, ht.nox, hq⟩

end
/-! #### Ap -/
/-- what the top has written -/
structure Top (K : PySem.W.Frag) (mg : Str → Option Value) (CA CN CJ CL CM aI aL aE aC aT aV aO aW aWp pSt fSt pSp fSp pWh fWh : Addr) : Prop where
  G : Gn mg
  MGA : AcT K mg CA CN
  MM : AmT K CA fSt fSp fWh aC pSt pSp pWh
  mka : Mk K CA aI
  m_tu : Meth K CA "turned" aT
  m_co : Meth K CA "covers" aV
  ob : OwnBor K CA aO
  eq : OwnEq K CA aE
  odd : OddT K CA
  nf : PySem.W.notFirst K CA (.ref CA) = true
  cr : ClX.CRead K CA (.type "type")
  cm : ClX.CMet K CA (.type "type") "whole" aWp aW
  er : Er K mg "NoJoining" "NoJoining.__init__" CJ s_NoJoining ["code"]
  m_LotError : mg "LotError" = some (.ref CL)
  m_Missing : mg "Missing" = some (.ref CM)
  mx : PySem.W.exmAny K (.ref CJ) [.ref CL, .ref CM] = some true
  a_init : ∃ fd, Fun K "__init__" "Arc.__init__" s_Arc___init__ aI fd
  a_eq : ∃ fd, Fun K "__eq__" "Arc.__eq__" s_Arc___eq__ aE fd
  a_con : ∃ fd, Fun K "__contains__" "Arc.__contains__" s_Arc___contains__ aC fd
  a_tur : ∃ fd, Fun K "turned" "Arc.turned" s_Arc_turned aT fd
  a_cov : ∃ fd, Fun K "covers" "Arc.covers" s_Arc_covers aV fd
  a_or : ∃ fd, Fun K "__or__" "Arc.__or__" s_Arc___or__ aO fd
  a_start : ∃ fd, Fun K "start" "Arc.start" s_Arc_start fSt fd
  a_stop : ∃ fd, Fun K "stop" "Arc.stop" s_Arc_stop fSp fd
  a_isw : ∃ fd, Fun K "is_whole" "Arc.is_whole" s_Arc_is_whole fWh fd
  a_whole : ∃ fd, Fun K "whole" "Arc.whole" s_Arc_whole aW fd
  d_is_any_number : Df K mg "is_any_number" s_is_any_number
  d_is_number_pair : Df K mg "is_number_pair" s_is_number_pair
  d_is_bounded_pair : Df K mg "is_bounded_pair" s_is_bounded_pair
  d_is_direction : Df K mg "is_direction" s_is_direction
  d_check_direction : Df K mg "check_direction" s_check_direction
  d_cross : Df K mg "cross" s_cross
  d_turned_half : Df K mg "turned_half" s_turned_half
  d_span_between : Df K mg "span_between" s_span_between
  d_turned_span : Df K mg "turned_span" s_turned_span
  d_in_span : Df K mg "in_span" s_in_span
  d_in_any_span : Df K mg "in_any_span" s_in_any_span
  d_spans_meet : Df K mg "spans_meet" s_spans_meet
  d_joined_span : Df K mg "joined_span" s_joined_span
  d_arc_with : Df K mg "arc_with" s_arc_with
  d__law_open : Df K mg "_law_open" s__law_open
  d__law_draw : Df K mg "_law_draw" s__law_draw
  d__law_of : Df K mg "_law_of" s__law_of
  d__law_same : Df K mg "_law_same" s__law_same
  d__law_field : Df K mg "_law_field" s__law_field
  d__law_try : Df K mg "_law_try" s__law_try
  d__law_cross : Df K mg "_law_cross" s__law_cross
  d__law_half : Df K mg "_law_half" s__law_half
  d__law_reduced : Df K mg "_law_reduced" s__law_reduced
  d__law_ahead : Df K mg "_law_ahead" s__law_ahead
  d__law_round : Df K mg "_law_round" s__law_round
  d__law_mid : Df K mg "_law_mid" s__law_mid
  d__law_mids : Df K mg "_law_mids" s__law_mids
  d__law_angle : Df K mg "_law_angle" s__law_angle
  d__law_within : Df K mg "_law_within" s__law_within
  d__law_dir : Df K mg "_law_dir" s__law_dir
  d__law_arc_of_two : Df K mg "_law_arc_of_two" s__law_arc_of_two
  d__law_arc_made : Df K mg "_law_arc_made" s__law_arc_made
  d__law_joined_so : Df K mg "_law_joined_so" s__law_joined_so
theorem all_law {P : Program} {w : World} {K : PySem.W.Frag} {mg : Str → Option Value} {base : Heap} {fd : FuncData} {CA CN CJ CL CM aI aL aE aC aT aV aO aW aWp pSt fSt pSp fSp pWh fWh Pt : Addr} (T : Top K mg CA CN CJ CL CM aI aL aE aC aT aV aO aW aWp pSt fSt pSp fSp pWh fWh) (TB : LamX.TabB base mg (He.codeOf K ("law", none)) Pt) (F : FunD K "law" "law" (defArgs s_law) (defBody s_law) (defScope s_law) [] [] (He.fAd K ("law", none)) fd) : FnOk P w K mg base CX0 14 (He.fAd K ("law", none)) fd ["_law_script"] (spLaw K Pt) := by
  have G := T.G
  have MA := T.MGA
  obtain ⟨eI, EI⟩ := T.a_init
  obtain ⟨eE, EE⟩ := T.a_eq
  obtain ⟨eC, EC⟩ := T.a_con
  obtain ⟨eT, ET⟩ := T.a_tur
  obtain ⟨eV, EV⟩ := T.a_cov
  obtain ⟨eO, EO⟩ := T.a_or
  obtain ⟨eSt, ESt⟩ := T.a_start
  obtain ⟨eSp, ESp⟩ := T.a_stop
  obtain ⟨eWh, EWh⟩ := T.a_isw
  obtain ⟨eW, EW⟩ := T.a_whole
  have c_is_any_number : ∀ n, Cl P w K mg base (n + 1) "is_any_number" s_is_any_number ["value"] (SpD K SmP fun ds r => r = bl1 isNum ds) := fun n => ok_is_any_number G T.d_is_any_number
  have c_is_number_pair : ∀ n, ClB P w K mg base (n + 2) "is_number_pair" s_is_number_pair "value" isNumPair := fun n => ok_is_number_pair G T.d_is_number_pair (c_is_any_number n)
  have c_is_bounded_pair : ∀ n, Cl P w K mg base (n + 3) "is_bounded_pair" s_is_bounded_pair ["value", "bound"] (SpD K (p2 fun d b => sm d = true ∧ ∃ i, b = .int i) fun ds r => r = f2 bnd ds) := fun n => ok_is_bounded_pair G T.d_is_bounded_pair (c_is_number_pair n)
  have c_is_direction : ∀ n, ClB P w K mg base (n + 4) "is_direction" s_is_direction "value" isDir := fun n => ok_is_direction G T.d_is_direction (c_is_bounded_pair n)
  have c_cross : ∀ n, ClCr P w K mg base (n + 1) := fun n => ok_cross T.d_cross
  have c_check_direction : ∀ n, ClCd P w K mg base (n + 5) := fun n => ok_check_direction T.d_check_direction (c_is_direction n)
  have c_turned_half : ∀ n, ClTh P w K mg base (n + 1) := fun n => ok_turned_half T.d_turned_half
  have c_span_between : ∀ n, ClSb P w K mg base (n + 1) := fun n => ok_span_between T.d_span_between
  have c_turned_span : ∀ n, ClTs P w K mg base (n + 2) := fun n => ok_turned_span G T.d_turned_span (c_turned_half n)
  have c_in_span : ∀ n, ClIs P w K mg base (n + 2) := fun n => ok_in_span G T.d_in_span (c_cross n)
  have c_in_any_span : ∀ n, ClIa P w K mg base (n + 3) := fun n => ok_in_any_span G T.d_in_any_span (c_in_span n)
  have c_spans_meet : ∀ n, ClSm P w K mg base (n + 3) := fun n => ok_spans_meet G T.d_spans_meet (c_in_span n)
  have c_joined_span : ∀ n, ClJs P w K mg base (n + 4) := fun n => ok_joined_span G T.d_joined_span (c_in_any_span n) (c_span_between (n + 2))
  have c__law_draw : ∀ n, ClT P w K mg base (n + 1) := fun n => ok__law_draw G T.d__law_draw
  have c__law_of : ∀ n, ClO P w K mg base (n + 2) := fun n => ok__law_of G T.d__law_of (c__law_draw n)
  have c__law_cross : ∀ n, ClLx P w K mg base (n + 1) := fun n => ok__law_cross T.d__law_cross
  have c__law_half : ∀ n, ClHf P w K mg base (n + 1) := fun n => ok__law_half T.d__law_half
  have c__law_reduced : ∀ n, ClRd P w K mg base (n + 1) := fun n => ok__law_reduced G T.d__law_reduced
  have c__law_ahead : ∀ n, ClAh P w K mg base (n + 2) := fun n => ok__law_ahead G T.d__law_ahead (c__law_cross n)
  have c__law_round : ∀ n, ClRo P w K mg base (n + 3) := fun n => ok__law_round G T.d__law_round (c__law_ahead n)
  have c__law_mid : ∀ n, ClMd P w K mg base (n + 2) := fun n => ok__law_mid G T.d__law_mid (c__law_cross n) (c__law_reduced n) (c__law_half n)
  have c__law_mids : ∀ n, ClMs P w K mg base (n + 3) := fun n => ok__law_mids G T.d__law_mids (c__law_mid n)
  have c__law_angle : ∀ n, ClAn P w K mg base (n + 2) := fun n => ok__law_angle G T.d__law_angle (c__law_cross n)
  have c__law_within : ∀ n, ClWi P w K mg base (n + 3) := fun n => ok__law_within G T.d__law_within (c__law_cross (n + 1)) (c__law_angle n)
  have c__law_dir : ∀ n, ClDi P w K mg base (n + 3) := fun n => ok__law_dir G T.d__law_dir (c__law_draw (n + 1)) (c__law_of n) (c__law_reduced (n + 1))
  have c__law_arc_of_two : ∀ n, ClA2 P w K mg base (n + 4) := fun n => ok__law_arc_of_two G T.d__law_arc_of_two (c__law_draw (n + 2)) (c__law_of (n + 1)) (c__law_dir n)
  have a_init : ∀ n, ClM P w K mg base (n + 6) aI eI ["self", "start", "stop"] (SpI K CA (aiPre CN) (aiPost CA CN)) := fun n => ok_Arc___init__ G MA EI (c_check_direction (n + 0)) (c_span_between (n + 4))
  have a_whole : ∀ n, ClM P w K mg base (n + 8) aW eW ["cls"] (SpD K (p1 fun d => d = .adr CA) fun _ r => r = arcD CA []) := fun n => ok_Arc_whole (k := n + 6) G MA EW T.mka (a_init n)
  have c_arc_with : ∀ n, ClAw P w K mg base CA (n + 9) := fun n => ok_arc_with (k := n + 6) T.d_arc_with MA T.mka (a_init (n + 1)) T.cr T.cm (a_whole n)
  have c_made : ∀ n, ClAm P w K mg base CA (n + 9) := fun n => ok__law_arc_made (k := n + 6) T.d__law_arc_made MA T.mka (a_init (n + 1)) T.cr T.cm (a_whole n)
  have r_NJ : RzNJ P w K mg base 9 CJ := ok_NoJoining (k := 9 - 1) T.er
  have a_con : ClM P w K mg base 12 aC eC ["self", "direction"] (SpD K (aconPre CA) (aconPost CA)) := ok_Arc___contains__ (k := 11) G MA EC (c_is_direction 7) (c_in_span 9)
  have a_tur : ClM P w K mg base 13 aT eT ["self"] (SpD K (aturPre CA) (aturPost CA)) := ok_Arc_turned (k := 12) G MA ET (c_turned_span 10) (c_arc_with 3)
  have a_cov : ClM P w K mg base 13 aV eV ["self", "other"] (SpD K (acovPre CA) (acovPost CA)) := ok_Arc_covers (k := 12) G MA EV (c_spans_meet 9) (c_joined_span 8)
  have k_co : KBn K eV ["self", "other"] 1 ["other"] (fun us ws => us ++ ws.reverse) (fun us ws => us ++ ws.reverse) := kb_any (ps := ["self", "other"]) (ks := ["other"]) (n := 1) EV (fun _ _ _ _ _ _ us ws l1 l2 => match us, ws, l1, l2 with | [_], [_], _, _ => rfl)
  have a_or : ClMz P w K mg base 11 aO eO ["self", "other"] (SpX K (aorPre K CA) (aorPost CA) (aorExc CA CJ)) := ok_Arc___or__ (k := 9) G MA EO r_NJ (c_spans_meet 7) (c_joined_span 6) (c_arc_with 1)
  have a_eq : ClM P w K mg base 12 aE eE ["self", "other"] (SpD K (p2 fun d e => AcD CA d ∧ AcD CA e) (aeqPost CA)) := ok_Arc___eq__ (k := 11) G MA EE
  have c_jo : ClJo P w K mg base CA 13 := ok__law_joined_so (k := 11) G MA T.MM T.d__law_joined_so (ok_Arc_start (k := 10) G MA ESt) (ok_Arc_stop (k := 10) G MA ESp) (ok_Arc_is_whole (k := 10) G MA EWh) a_con (c__law_within 9)
  have c_open : Cl P w K mg base 13 "_law_open" s__law_open ["_law_script"] (spBox K) := by
    obtain ⟨f, fd, F, hm⟩ := T.d__law_open.ex
    exact ⟨f, fd, F, ok__law_open (k := 12) G F, hm, F.binds fun _ _ _ _ _ _ us hl => match us, hl with | [_], _ => rfl⟩
  exact ok_law (m := 11) ⟨G, MA, T.d__law_try, T.m_LotError, T.m_Missing, ⟨T.er.xf, T.er.n "code" (by simp), T.mx⟩, TB, ok__law_field (k := 11) T.d__law_field, ok__law_same (k := 11 + 2 - 5) G T.d__law_same 4, (c__law_draw 12), (c__law_of 11), (c__law_arc_of_two 9), c_made 4, (c__law_round 10), (c__law_mids 10), (c__law_within 10), c_jo, T.cr, T.cm, a_whole 5, T.m_tu, a_tur, T.m_co, a_cov, k_co, T.ob, a_or, T.eq, a_eq, T.odd, T.nf⟩ c_open F
theorem gcd_ok {K : PySem.W.Frag} (h : gcdB K = true) : PySem.W.nsIn K mainGlobals "gcd" = some (some (.builtin "math.gcd")) := by
  unfold gcdB at h
  split at h
  · rename_i z e
    rw [e, eq_of_beq h]
  · cases h
theorem bare_ok {K : PySem.W.Frag} {C : Addr} (h : bareB K C = true) : MkB K C := by
  obtain ⟨h1, h2⟩ := He.ba h
  obtain ⟨h2, h3⟩ := He.ba h2
  exact ⟨h1, He.eqO_ok h2, h3⟩
theorem or_ok {K : PySem.W.Frag} {C : Addr} (h : orB K C = true) : OwnBor K C (He.ma K C "__or__") := by
  obtain ⟨h1, h2⟩ := He.ba h
  obtain ⟨h2, h3⟩ := He.ba h2
  obtain ⟨h3, h4⟩ := He.ba h3
  exact ⟨He.eqO_ok h3, h4, h1, He.eqO_ok h2⟩
theorem odd_of {K : PySem.W.Frag} {C : Addr} (h : oddB K C = true) : OddT K C := fun T hT => by
  have h1 : oddB1 K C T = true := List.all_eq_true.mp h T hT
  obtain ⟨h1, h2⟩ := He.ba h1
  obtain ⟨h2, h3⟩ := He.ba h2
  obtain ⟨h3, h4⟩ := He.ba h3
  obtain ⟨fo, e1⟩ := Option.isSome_iff_exists.mp h3
  obtain ⟨ro, e2⟩ := Option.isSome_iff_exists.mp h4
  exact ⟨qKit_ok h1, .inr ⟨T, fo, ro, rfl, e1, e2, of_decide_eq_true h2⟩⟩
theorem top_hk {K : PySem.W.Frag} {h : Heap} {mg : Str → Option Value} (X : K.In h) (G : h.Ns mainGlobals mg) (c : He5.SaysA hFa hFn K) (hB : hEx K = true) : Top K mg (He.ga K "Arc") (He.ga K "NoEnd") (He.ga K "NoJoining") (He.ga K "LotError") (He.ga K "Missing") (He.ma K (He.ga K "Arc") "__init__") (He.ma K (He.ga K "Arc") "__len__") (He.ma K (He.ga K "Arc") "__eq__") (He.ma K (He.ga K "Arc") "__contains__") (He.ma K (He.ga K "Arc") "turned") (He.ma K (He.ga K "Arc") "covers") (He.ma K (He.ga K "Arc") "__or__") (He5.wf K (He.ga K "Arc") "classmethod" "whole") (He.ma K (He.ga K "Arc") "whole") (He.ma K (He.ga K "Arc") "start") (He5.wf K (He.ga K "Arc") "property" "start") (He.ma K (He.ga K "Arc") "stop") (He5.wf K (He.ga K "Arc") "property" "stop") (He.ma K (He.ga K "Arc") "is_whole") (He5.wf K (He.ga K "Arc") "property" "is_whole") := by
  obtain ⟨b1, hB⟩ := He.ba hB
  obtain ⟨b2, hB⟩ := He.ba hB
  obtain ⟨b3, hB⟩ := He.ba hB
  obtain ⟨b4, hB⟩ := He.ba hB
  obtain ⟨b5, hB⟩ := He.ba hB
  obtain ⟨b6, hB⟩ := He.ba hB
  obtain ⟨b7, hB⟩ := He.ba hB
  obtain ⟨b8, hB⟩ := He.ba hB
  obtain ⟨b9, hB⟩ := He.ba hB
  obtain ⟨b10, hB⟩ := He.ba hB
  obtain ⟨b11, hB⟩ := He.ba hB
  obtain ⟨b12, hB⟩ := He.ba hB
  obtain ⟨b13, hB⟩ := He.ba hB
  obtain ⟨b14, hB⟩ := He.ba hB
  obtain ⟨b15, hB⟩ := He.ba hB
  obtain ⟨b16, hB⟩ := He.ba hB
  obtain ⟨b17, hB⟩ := He.ba hB
  obtain ⟨b18, b19⟩ := He.ba hB
  have ca := (He.cls_ok (c.fact (fa := hFa) (fn := hFn) 55 (f := .cls "Arc") rfl))
  have cn := (He.cls_ok (c.fact (fa := hFa) (fn := hFn) 66 (f := .cls "NoEnd") rfl))
  have mC := (He.meth_ok (c.fact (fa := hFa) (fn := hFn) 61 (f := .meth "Arc" "__contains__") rfl))
  exact ⟨⟨He.free_ok X G (c.fact (fa := hFa) (fn := hFn) 39 (f := .free "isinstance") rfl), He.free_ok X G (c.fact (fa := hFa) (fn := hFn) 40 (f := .free "int") rfl), He.free_ok X G (c.fact (fa := hFa) (fn := hFn) 41 (f := .free "bool") rfl), He.free_ok X G (c.fact (fa := hFa) (fn := hFn) 42 (f := .free "str") rfl), He.free_ok X G (c.fact (fa := hFa) (fn := hFn) 43 (f := .free "tuple") rfl), He.free_ok X G (c.fact (fa := hFa) (fn := hFn) 44 (f := .free "list") rfl), He.free_ok X G (c.fact (fa := hFa) (fn := hFn) 45 (f := .free "len") rfl), He.free_ok X G (c.fact (fa := hFa) (fn := hFn) 46 (f := .free "abs") rfl), He.free_ok X G (c.fact (fa := hFa) (fn := hFn) 47 (f := .free "all") rfl), He.free_ok X G (c.fact (fa := hFa) (fn := hFn) 48 (f := .free "any") rfl), He.free_ok X G (c.fact (fa := hFa) (fn := hFn) 49 (f := .free "range") rfl), He.free_ok X G (c.fact (fa := hFa) (fn := hFn) 50 (f := .free "max") rfl), He.free_ok X G (c.fact (fa := hFa) (fn := hFn) 51 (f := .free "zip") rfl), He.free_ok X G (c.fact (fa := hFa) (fn := hFn) 52 (f := .free "ValueError") rfl), He.free_ok X G (c.fact (fa := hFa) (fn := hFn) 53 (f := .free "LookupError") rfl), PySem.W.mg_of X G (gcd_ok b13), He.int_ok X G (c.fact (fa := hFa) (fn := hFn) 54 (f := .int "DIRECTION_BOUND" 999) rfl)⟩,
    ⟨(He.glo_ok X G (c.fact (fa := hFa) (fn := hFn) 34 (f := .glo "Arc") rfl)), (He.glo_ok X G (c.fact (fa := hFa) (fn := hFn) 35 (f := .glo "NoEnd") rfl)), bare_ok b3, ca, (He.noat_ok (c.fact (fa := hFa) (fn := hFn) 57 (f := .noat "Arc" "_span") rfl)), fun e => qCls_ty b2 cn e, fun e => qCls_ty b1 ca e, qKit_ok b4, qKit_ok b5, qKit_ok b6⟩,
    ⟨qProp_ok b8, qProp_ok b9, qProp_ok b10, mC.at_, mC.fn⟩,
    (He.mkr_ok (c.fact (fa := hFa) (fn := hFn) 56 (f := .mkr "Arc") rfl)), (He.meth_ok (c.fact (fa := hFa) (fn := hFn) 62 (f := .meth "Arc" "turned") rfl)), (He.meth_ok (c.fact (fa := hFa) (fn := hFn) 63 (f := .meth "Arc" "covers") rfl)), or_ok b15, qEq_ok b7, odd_of b16, b14, qCls_read b1, He5.cmet_of b11 b12,
    er_hk X G b17 b18 (c.fact (fa := hFa) (fn := hFn) 36 (f := .glo "NoJoining") rfl) (c.fact (fa := hFa) (fn := hFn) 65 (f := .meth "NoJoining" "__init__") rfl) (c.def_ (fa := hFa) (fn := hFn) 41 rfl), (He.glo_ok X G (c.fact (fa := hFa) (fn := hFn) 37 (f := .glo "LotError") rfl)), (He.glo_ok X G (c.fact (fa := hFa) (fn := hFn) 38 (f := .glo "Missing") rfl)), of_decide_eq_true b19,
    fa_hk (c.def_ (fa := hFa) (fn := hFn) 34 rfl), fa_hk (c.def_ (fa := hFa) (fn := hFn) 36 rfl), fa_hk (c.def_ (fa := hFa) (fn := hFn) 37 rfl), fa_hk (c.def_ (fa := hFa) (fn := hFn) 38 rfl), fa_hk (c.def_ (fa := hFa) (fn := hFn) 39 rfl), fa_hk (c.def_ (fa := hFa) (fn := hFn) 40 rfl), fa_hk (c.def_ (fa := hFa) (fn := hFn) 42 rfl), fa_hk (c.def_ (fa := hFa) (fn := hFn) 43 rfl), fa_hk (c.def_ (fa := hFa) (fn := hFn) 44 rfl), fa_hk (c.def_ (fa := hFa) (fn := hFn) 45 rfl),
    df_hk X G (c.fact (fa := hFa) (fn := hFn) 0 (f := .glo "is_any_number") rfl) (c.def_ (fa := hFa) (fn := hFn) 0 rfl),
    df_hk X G (c.fact (fa := hFa) (fn := hFn) 1 (f := .glo "is_number_pair") rfl) (c.def_ (fa := hFa) (fn := hFn) 1 rfl),
    df_hk X G (c.fact (fa := hFa) (fn := hFn) 2 (f := .glo "is_bounded_pair") rfl) (c.def_ (fa := hFa) (fn := hFn) 2 rfl),
    df_hk X G (c.fact (fa := hFa) (fn := hFn) 3 (f := .glo "is_direction") rfl) (c.def_ (fa := hFa) (fn := hFn) 3 rfl),
    df_hk X G (c.fact (fa := hFa) (fn := hFn) 4 (f := .glo "check_direction") rfl) (c.def_ (fa := hFa) (fn := hFn) 4 rfl),
    df_hk X G (c.fact (fa := hFa) (fn := hFn) 5 (f := .glo "cross") rfl) (c.def_ (fa := hFa) (fn := hFn) 5 rfl),
    df_hk X G (c.fact (fa := hFa) (fn := hFn) 6 (f := .glo "turned_half") rfl) (c.def_ (fa := hFa) (fn := hFn) 6 rfl),
    df_hk X G (c.fact (fa := hFa) (fn := hFn) 7 (f := .glo "span_between") rfl) (c.def_ (fa := hFa) (fn := hFn) 7 rfl),
    df_hk X G (c.fact (fa := hFa) (fn := hFn) 8 (f := .glo "turned_span") rfl) (c.def_ (fa := hFa) (fn := hFn) 8 rfl),
    df_hk X G (c.fact (fa := hFa) (fn := hFn) 9 (f := .glo "in_span") rfl) (c.def_ (fa := hFa) (fn := hFn) 9 rfl),
    df_hk X G (c.fact (fa := hFa) (fn := hFn) 10 (f := .glo "in_any_span") rfl) (c.def_ (fa := hFa) (fn := hFn) 10 rfl),
    df_hk X G (c.fact (fa := hFa) (fn := hFn) 11 (f := .glo "spans_meet") rfl) (c.def_ (fa := hFa) (fn := hFn) 11 rfl),
    df_hk X G (c.fact (fa := hFa) (fn := hFn) 12 (f := .glo "joined_span") rfl) (c.def_ (fa := hFa) (fn := hFn) 12 rfl),
    df_hk X G (c.fact (fa := hFa) (fn := hFn) 13 (f := .glo "arc_with") rfl) (c.def_ (fa := hFa) (fn := hFn) 13 rfl),
    df_hk X G (c.fact (fa := hFa) (fn := hFn) 14 (f := .glo "_law_open") rfl) (c.def_ (fa := hFa) (fn := hFn) 14 rfl),
    df_hk X G (c.fact (fa := hFa) (fn := hFn) 15 (f := .glo "_law_draw") rfl) (c.def_ (fa := hFa) (fn := hFn) 15 rfl),
    df_hk X G (c.fact (fa := hFa) (fn := hFn) 16 (f := .glo "_law_of") rfl) (c.def_ (fa := hFa) (fn := hFn) 16 rfl),
    df_hk X G (c.fact (fa := hFa) (fn := hFn) 17 (f := .glo "_law_same") rfl) (c.def_ (fa := hFa) (fn := hFn) 17 rfl),
    df_hk X G (c.fact (fa := hFa) (fn := hFn) 18 (f := .glo "_law_field") rfl) (c.def_ (fa := hFa) (fn := hFn) 18 rfl),
    df_hk X G (c.fact (fa := hFa) (fn := hFn) 19 (f := .glo "_law_try") rfl) (c.def_ (fa := hFa) (fn := hFn) 19 rfl),
    df_hk X G (c.fact (fa := hFa) (fn := hFn) 20 (f := .glo "_law_cross") rfl) (c.def_ (fa := hFa) (fn := hFn) 20 rfl),
    df_hk X G (c.fact (fa := hFa) (fn := hFn) 21 (f := .glo "_law_half") rfl) (c.def_ (fa := hFa) (fn := hFn) 21 rfl),
    df_hk X G (c.fact (fa := hFa) (fn := hFn) 22 (f := .glo "_law_reduced") rfl) (c.def_ (fa := hFa) (fn := hFn) 22 rfl),
    df_hk X G (c.fact (fa := hFa) (fn := hFn) 23 (f := .glo "_law_ahead") rfl) (c.def_ (fa := hFa) (fn := hFn) 23 rfl),
    df_hk X G (c.fact (fa := hFa) (fn := hFn) 24 (f := .glo "_law_round") rfl) (c.def_ (fa := hFa) (fn := hFn) 24 rfl),
    df_hk X G (c.fact (fa := hFa) (fn := hFn) 25 (f := .glo "_law_mid") rfl) (c.def_ (fa := hFa) (fn := hFn) 25 rfl),
    df_hk X G (c.fact (fa := hFa) (fn := hFn) 26 (f := .glo "_law_mids") rfl) (c.def_ (fa := hFa) (fn := hFn) 26 rfl),
    df_hk X G (c.fact (fa := hFa) (fn := hFn) 27 (f := .glo "_law_angle") rfl) (c.def_ (fa := hFa) (fn := hFn) 27 rfl),
    df_hk X G (c.fact (fa := hFa) (fn := hFn) 28 (f := .glo "_law_within") rfl) (c.def_ (fa := hFa) (fn := hFn) 28 rfl),
    df_hk X G (c.fact (fa := hFa) (fn := hFn) 29 (f := .glo "_law_dir") rfl) (c.def_ (fa := hFa) (fn := hFn) 29 rfl),
    df_hk X G (c.fact (fa := hFa) (fn := hFn) 30 (f := .glo "_law_arc_of_two") rfl) (c.def_ (fa := hFa) (fn := hFn) 30 rfl),
    df_hk X G (c.fact (fa := hFa) (fn := hFn) 31 (f := .glo "_law_arc_made") rfl) (c.def_ (fa := hFa) (fn := hFn) 31 rfl),
    df_hk X G (c.fact (fa := hFa) (fn := hFn) 32 (f := .glo "_law_joined_so") rfl) (c.def_ (fa := hFa) (fn := hFn) 32 rfl)⟩
theorem facts {P : Program} {w : World} {K : PySem.W.Frag} {h : Heap} {mg : Str → Option Value} {f : Addr} (X : K.In h) (G : h.Ns mainGlobals mg) (hfa : mg ("law" : Str) = some (.ref f)) (c : He5.SaysA hFa hFn K) (hB : hEx K = true) :
    ∃ fd : FuncData, (∀ (s : Shared) (v : Value), BindsTo s fd ⟨[v], []⟩ [("_law_script", v)]) ∧ ∀ base : Heap, K.In base → base.Ns mainGlobals mg → (∀ p ∈ [He.cT K ("law", none)], LamX.TabB base mg p.1 p.2) → FnOk P w K mg base CX0 14 f fd ["_law_script"] (spLaw K (He.cT K ("law", none)).2) := by
  obtain ⟨fd, F⟩ := (c.def_ (fa := hFa) (fn := hFn) 33 rfl)
  have e := hfa.symm.trans (He.glo_ok X G (c.fact (fa := hFa) (fn := hFn) 33 (f := .glo "law") rfl))
  cases e
  have b := FunD.bindsA (ps := ["_law_script"]) F fun _ _ _ _ _ _ us hl => match us, hl with | [_], _ => rfl
  exact ⟨fd, fun s v => b s [v] rfl, fun base _ _ TBs => have TB := TBs _ (List.mem_singleton.mpr rfl); all_law (top_hk X G c hB) TB F⟩
end K21
open PySem PySem.W PySem.Calls PyProof.Rows
set_option maxRecDepth 100000 in
set_option maxHeartbeats 0 in
theorem PySem.Challenge.cw_stucklots_k21_whole_arcs_joined_and_cove_holds : PySem.Challenge.rw_stucklots_k21_whole_arcs_joined_and_cove.Holds := by
  w_on; o_law
  refine HandSHeadRun.head_imp (r := OpenLaw.row PySem.Challenge.rw_stucklots_k21_whole_arcs_joined_and_cove) (q := view (OpenLaw.row PySem.Challenge.rw_stucklots_k21_whole_arcs_joined_and_cove).prog [0, 46]) (H := K21.hk) (ob := K21.hOb) (M := 30000) (loose := K21.hNm) (d := HandSHeadRun.topDef (OpenLaw.row PySem.Challenge.rw_stucklots_k21_whole_arcs_joined_and_cove).prog 46) (kwd := []) K21.hOb_eq
    K21.run (by kernel_rfl) (by kernel_rfl) (by kernel_rfl) (by rfl) (by first | assumption | decide +kernel) (by decide +kernel) ⟨rfl, rfl, rfl, rfl, rfl, by decide +kernel⟩ ?hw ?hc
  case hw => w_witness2
  case hc =>
    refine Dl.walk_ofY (l := PySem.Challenge.rw_stucklots_k21_whole_arcs_joined_and_cove) (n := 63) (k := 14) (x := "_law_script") (CX := L2.CX0) rfl (by decide) (by kernel_rfl) ⟨rfl, by decide, by decide⟩ ?F (fun _ _ _ _ z => z)
    intro w mg fa h Y G hmg0
    obtain ⟨K, KX, c⟩ := Y
    have hmg : mg ("law" : PySem.Str) = some (.ref fa) := by
      have e : (HandSHeadRun.topDef (OpenLaw.row PySem.Challenge.rw_stucklots_k21_whole_arcs_joined_and_cove).prog 46).name = ("law" : PySem.Str) := by kernel_rfl
      rw [← e]
      exact hmg0
    obtain ⟨fd, hb, hF⟩ := K21.facts (P := (PySem.Challenge.rw_stucklots_k21_whole_arcs_joined_and_cove).prog) (w := w) KX G hmg c.a c.more
    have ct := c.tab ("law", none) (List.mem_singleton.mpr rfl)
    exact ⟨K, KX, fd, [He.cT K ("law", none)], K21.spLaw K (He.cT K ("law", none)).2, fun p hp => by rw [List.mem_singleton.mp hp]; exact ct.2.2, fun p hp => by rw [List.mem_singleton.mp hp]; exact ct.2.1, fun p hp => by rw [List.mem_singleton.mp hp]; exact PySem.W.codeHd_of_K KX ct.1, hb, fun H a ns hl _ hT hS => ⟨a, ns, rfl, hS, hl, hT _ (List.mem_singleton.mpr rfl), fun _ => rfl⟩, hF⟩
