import PyProof.Rows.All
import Wide.All
import OpenK.AllK
import Wide.FinOn
import HandS.Base
import HandS.Call
import HandS.Exc
import HandS.Ends
import HandS.Head0
import HandS.Head1
import HandS.Head2
import HandS.Head3
import HandS.HeadEnd
import HandS.HeadHook1
import HandS.HeadHook2
import KE.KStateDown
import KE.KExcIs
import KE.KExcInit
import HandS.HeadNt
import HandS.Property
import HandS.ClsMeth
import HandS.HeadHook4
import HandS.EndTab
import HandS.ForMost
import HandS.TupAny
import HandS.ReCall
import HandS.IsInst
import HandS.Gcd
import HandS.StrMore
import HandS.Defaults
import HandS.Style
import HandS.ExcInit
import HandS.ExcField
import HandS.Lambda
import HandS.More
import HandS.DictComp
import PyProof.ListStr
import HandS.HotCalls
import KE.KTryMore
import HandS.WordsExc
import HandS.Deep
import HandS.Strs
import KE.DataMinMax
import KE.SortData
import PyProof.SeqIndex
import HandS.Zip
import KE.KDictZip
import KE.KItemsList
import PyProof.CollectIter
import PyProof.WalksMore
import HandS.SortInts
import HandS.SetBool
import HandS.TupSets
import HandS.Comp
import HandS.SortRule
import HandS.List
import HandS.MakeKwOnly
import PyProof.InstEq
import OpenK.KOps
import HandS.OwnEq
import PyProof.Rows.Range3
import PyProof.ListTruth
import KE.SortCalls
import KE.GoesEnum
import HandS.Small
import KE.GoesRaise
import HandS.Words
import PyProof.FitsReplace
import HandS.Text
import KE.OsSortAny
import HandS.FStr
import PySem.Challenge.RW_stucklots_k08_whole_pieces_moved_and_tur
set_option Elab.async false
set_option linter.all false
set_option maxRecDepth 100000
set_option maxHeartbeats 8000000
/-! Wg: a head by one run in the kernel: facts, defs and one more test of one's own; what is asked of an error's class. -/
namespace Dl
open PySem PySem.Spec PyProof.Rows L2
/-- what the module's names stand for, what their classes hold, their code -/
def dvA (g : Addr → Option Obj) (a : Addr) : List Addr := match g a with
  | some ⟨_, _, .dict es _, _⟩ => es.toList.flatMap fun e => He.refV e.val
  | _ => []
def fnA (g : Addr → Option Obj) (a : Addr) : List Addr := match g a with
  | some ⟨_, _, .func fd, _⟩ => He.refV fd.code ++ He.refV fd.defaults
  | some ⟨_, _, .fields vs, _⟩ => vs.toList.flatMap He.refV
  | _ => []
def clA (g : Addr → Option Obj) (a : Addr) : List Addr := match g a with
  | some ⟨_, _, .cls cd, _⟩ => cd.ns :: (dvA g cd.ns ++ (dvA g cd.ns).flatMap (fnA g))
  | _ => fnA g a
def asP (g : Addr → Option Obj) : List Addr := mainGlobals :: (dvA g mainGlobals ++ (dvA g mainGlobals).flatMap (clA g))
def obsE (fa : List He.Fa) (fn : List He.DefD) (ex : PySem.W.Frag → Bool) (K : PySem.W.Frag) : Bool × He.AlD := (ex K, He.obsD fa fn K)
def hookE (fa : List He.Fa) (fn : List He.DefD) (ex : PySem.W.Frag → Bool) : PySem.W.Hook where
  α := Bool × He.AlD
  obs := fun s => obsE fa fn ex (He.frG s.heap.get? (asP s.heap.get?))
  val := fun _ => (true, He.valD fn)
  says := fun _ h => ∃ K : PySem.W.Frag, K.In h ∧ He.SaysD fa fn K ∧ ex K = true
  of := fun _ _ e => ⟨_, He.frG_in, congrArg (fun z : Bool × He.AlD => z.2) e, congrArg (fun z : Bool × He.AlD => z.1) e⟩
  keeps := fun _ _ _ ⟨K, hK, c, x⟩ k => ⟨K, PySem.W.Frag.In.keeps hK k, c, x⟩
def obsEG (fa : List He.Fa) (fn : List He.DefD) (ex : PySem.W.Frag → Bool) (g : Addr → Option Obj) : Bool × He.AlD := obsE fa fn ex (He.frG g (asP g))
theorem obsEG_eq {fa : List He.Fa} {fn : List He.DefD} {ex : PySem.W.Frag → Bool} {g : Addr → Option Obj} {s : Shared} (h : ∀ a, g a = s.heap.get? a) : obsEG fa fn ex g = (hookE fa fn ex).obs s := by
  have e : g = s.heap.get? := funext h
  rw [e] <;> rfl
/-- the class at C hangs on a built-in one whose mro is bmB -/
def ogB (K : PySem.W.Frag) (C : Addr) (bmB : List Value) (newId : String) : Bool := PySem.W.excInitIn K C bmB newId && (match PySem.W.clsIn K C with
  | some cd => cd.hasDict && (match cd.mro with | .ref _ :: bm => PySem.W.excTail bmB bm | _ => false)
  | none => false)
/-- .. and nothing of its own is in the way -/
def ogP (K : PySem.W.Frag) (C : Addr) (fs : List Str) : Bool := PySem.W.findIn K (.ref C) "__setattr__" == some (some (.builtin "object.__setattr__")) && PySem.W.subIn K (.ref C) (.type "BaseException") == some true &&
  PySem.W.typeIn K (.ref C) == some (.type "type") && PySem.W.keepIn K (.ref C) && PySem.W.findIn K (.ref C) "__getattribute__" == some (some (.builtin "BaseException.__getattribute__")) && PySem.W.findIn K (.ref C) "__getattr__" == some none &&
  PySem.W.hasDictIn K C && fs.all (fun f => PySem.W.findIn K (.ref C) f == some none)
/-- what more is asked of the class of an exception -/
def ogQ (K : PySem.W.Frag) (C : Addr) : Bool := (PySem.W.clsIn K C).isSome && PySem.W.findIn K (.ref C) "__class__" == some (some (.builtin "object.__class__")) && PySem.W.specialIn K (.builtin "object.__class__") "__get__" == some (some (.builtin "getset_descriptor.__get__")) &&
  PySem.W.takesIn K (.builtin "object.__class__") == some true && PySem.W.mroIn K C (.type "object") == some true
end Dl
/-! Wq: such a head for a text with classes of its own: their properties, constants, operators. -/
namespace Dl
open PySem PySem.Spec PyProof.Rows L2
/-- what the records in a class's table hold, and what belongs to it -/
def qFld (g : Addr → Option Obj) (a : Addr) : List Addr := match g a with
  | some ⟨_, _, .fields vs, _⟩ => vs.toList.flatMap He.refV
  | _ => []
def qRec (g : Addr → Option Obj) (a : Addr) : List Addr := match g a with
  | some ⟨_, _, .cls cd, _⟩ => (dvA g cd.ns).flatMap fun v => (qFld g v).flatMap (fnA g)
  | _ => []
def asQ (g : Addr → Option Obj) : List Addr := cStatics :: (asP g ++ (dvA g mainGlobals).flatMap (qRec g))
def obsQ (fa : List He.Fa) (fn : List He5.DefA) (ex : PySem.W.Frag → Bool) (K : PySem.W.Frag) : Bool × He.AlD := (ex K, He5.obsA fa fn K)
def hookQ (fa : List He.Fa) (fn : List He5.DefA) (ex : PySem.W.Frag → Bool) : PySem.W.Hook where
  α := Bool × He.AlD
  obs := fun s => obsQ fa fn ex (He.frG s.heap.get? (asQ s.heap.get?))
  val := fun _ => (true, He5.valA fn)
  says := fun _ h => ∃ K : PySem.W.Frag, K.In h ∧ He5.SaysA fa fn K ∧ ex K = true
  of := fun _ _ e => ⟨_, He.frG_in, congrArg (fun z : Bool × He.AlD => z.2) e, congrArg (fun z : Bool × He.AlD => z.1) e⟩
  keeps := fun _ _ _ ⟨K, hK, c, x⟩ k => ⟨K, PySem.W.Frag.In.keeps hK k, c, x⟩
def obsQG (fa : List He.Fa) (fn : List He5.DefA) (ex : PySem.W.Frag → Bool) (g : Addr → Option Obj) : Bool × He.AlD := obsQ fa fn ex (He.frG g (asQ g))
theorem obsQG_eq {fa : List He.Fa} {fn : List He5.DefA} {ex : PySem.W.Frag → Bool} {g : Addr → Option Obj} {s : Shared} (h : ∀ a, g a = s.heap.get? a) : obsQG fa fn ex g = (hookQ fa fn ex).obs s := by
  have e : g = s.heap.get? := funext h
  rw [e] <;> rfl
/-! ### classes -/
def qCls (K : PySem.W.Frag) (C : Addr) : Bool := PySem.W.readsIn K C (.type "type") && (He.eqO (PySem.W.findIn K (.ref C) "__class__") (some (some (.builtin "object.__class__"))) && (He.eqO (PySem.W.specialIn K (.builtin "object.__class__") "__get__") (some (some (.builtin "getset_descriptor.__get__"))) &&
  (decide (PySem.W.takesIn K (.builtin "object.__class__") = some true) && decide (PySem.W.mroIn K C (.type "object") = some true))))
def qProp (K : PySem.W.Frag) (C : Addr) (f : Str) : Bool := He.eqO (PySem.W.findIn K (.ref C) f) (some (some (.ref (He.ma K C f)))) && (He.eqO (PySem.W.specialIn K (.ref (He.ma K C f)) "__get__") (some (some (.builtin "property.__get__"))) && (decide (PySem.W.takesIn K (.ref (He.ma K C f)) = some true) &&
  (match PySem.W.recIn K (He.ma K C f) "property" with
  | some (.ref _ :: _) => true
  | _ => false)))
def qVal (K : PySem.W.Frag) (C : Addr) (f : Str) (v : V) : Bool := match PySem.W.findCls K (.ref C) (.type "type") f with
  | some (.val u) => He.relB v u
  | _ => false
def qEq (K : PySem.W.Frag) (C : Addr) : Bool := He.eqO (PySem.W.findIn K (.ref C) "__eq__") (some (some (.ref (He.ma K C "__eq__")))) && (PySem.W.isFn K (.ref (He.ma K C "__eq__")) && (He.eqO (PySem.W.findIn K (.ref C) "__ne__") (some (some (.builtin "object.__ne__"))) && decide (PySem.W.mroIn K C (.type "object") = some true)))
def qKit (K : PySem.W.Frag) (t c : Value) (b : Bool) : Bool := decide (PySem.W.kitOne K t c = some b)
end Dl
/-! Xh: such a head for a text with lambdas: the tables of the defs that make them; an error's class as one test. -/
namespace Dl
open PySem PySem.Spec PyProof.Rows L2
/-- what is told: facts and defs, one more test, and of the defs of tf that their tables are empty and not in K -/
structure SaysY (fa : List He.Fa) (fn : List He5.DefA) (tf : List He.Defn) (ex : PySem.W.Frag → Bool) (h : Heap) (K : PySem.W.Frag) : Prop where
  a : He5.SaysA fa fn K
  more : ex K = true
  tab : ∀ p ∈ tf, PySem.W.codeHdIn K (He.cT K p).1 (He.cT K p).2 = true ∧ K.lookup (He.cT K p).2 = none ∧ h.get? (He.cT K p).2 = some { cls := .none, data := .fields #[] }
def obsY (fa : List He.Fa) (fn : List He5.DefA) (tf : List He.Defn) (ex : PySem.W.Frag → Bool) (g : Addr → Option Obj) (K : PySem.W.Frag) : (Bool × Bool) × He.AlD := ((ex K, He.tabsB g tf K), He5.obsA fa fn K)
theorem saysY_of {fa : List He.Fa} {fn : List He5.DefA} {tf : List He.Defn} {ex : PySem.W.Frag → Bool} {h : Heap} {as : List Addr} (e : obsY fa fn tf ex h.get? (He.frT h.get? as) = ((true, true), He5.valA fn)) : SaysY fa fn tf ex h (He.frT h.get? as) := by
  have e0 : ex (He.frT h.get? as) = true := congrArg (fun z : (Bool × Bool) × He.AlD => z.1.1) e
  have e1 : He.tabsB h.get? tf (He.frT h.get? as) = true := congrArg (fun z : (Bool × Bool) × He.AlD => z.1.2) e
  refine ⟨congrArg (fun z : (Bool × Bool) × He.AlD => z.2) e, e0, fun p hp => ?_⟩
  obtain ⟨k1, k2⟩ := He.ba (List.all_eq_true.mp e1 p hp)
  cases q : h.get? (He.cT (He.frT h.get? as) p).2 with
  | none => rw [q] at k2; cases k2
  | some o =>
    rw [q] at k2
    exact ⟨k1, He.frT_none q k2, by rw [He.emptyTab_eq k2]⟩
def hookY (fa : List He.Fa) (fn : List He5.DefA) (tf : List He.Defn) (ex : PySem.W.Frag → Bool) : PySem.W.Hook where
  α := (Bool × Bool) × He.AlD
  obs := fun s => obsY fa fn tf ex s.heap.get? (He.frT s.heap.get? (asQ s.heap.get?))
  val := fun _ => ((true, true), He5.valA fn)
  says := fun _ h => ∃ K : PySem.W.Frag, K.In h ∧ SaysY fa fn tf ex h K
  of := fun _ _ e => ⟨_, He.frT_in, saysY_of e⟩
  keeps := fun _ _ _ ⟨K, hK, c⟩ k => ⟨K, PySem.W.Frag.In.keeps hK k, c.a, c.more, fun p hp => ⟨(c.tab p hp).1, (c.tab p hp).2.1, k _ _ (c.tab p hp).2.2⟩⟩
def obsYG (fa : List He.Fa) (fn : List He5.DefA) (tf : List He.Defn) (ex : PySem.W.Frag → Bool) (g : Addr → Option Obj) : (Bool × Bool) × He.AlD := obsY fa fn tf ex g (He.frT g (asQ g))
theorem obsYG_eq {fa : List He.Fa} {fn : List He5.DefA} {tf : List He.Defn} {ex : PySem.W.Frag → Bool} {g : Addr → Option Obj} {s : Shared} (h : ∀ a, g a = s.heap.get? a) : obsYG fa fn tf ex g = (hookY fa fn tf ex).obs s := by
  have e : g = s.heap.get? := funext h
  rw [e] <;> rfl
/-- a law's end over such a head -/
theorem walk_ofY {l : PySem.W.OpenLaw} {n k : Nat} {q : Program} {loose : List Str} {XP : (Str → Option Value) → Heap → Prop} {YP : World → Heap → Prop} {d : DefRec} {CX : CXT} {x : Str} (m1 : l.most = some n) (m2 : n ≤ sizeLine) (m3 : d.params.defaults = []) (m4 : Room k callerA)
    (F : ∀ (w : World) (mg : Str → Option Value) (fa : Addr) (h : Heap), YP w h → h.Ns mainGlobals mg → mg d.name = some (.ref fa) → ∃ K : PySem.W.Frag, K.In h ∧ LamX.LawAtS l w K CX k n x mg fa h)
    (m5 : ∀ (H : Hp) (s : Shared) (e : Value) (s' : Shared), CX [] H s (fun _ _ _ => False) e s' → False) : PySem.W.WalkO q loose XP YP l.row.toRowW d [] (fun f vs => PySem.call f vs) := by
  refine Att.attach_callB m1 m3 fun w s₀ s₁ mg mb fa o pm cd doc a vs ns gr y _ _ _ em eo ei el eb eg => ?_
  obtain ⟨K, kx, fd, cs, sp, t1, t2, t3, t4, t5, t6⟩ := F w mg fa _ y gr.T.g em
  exact LamX.law_callTs kx gr.T.g gr.T.b gr.T.builtins gr.T.nolimit eg t1 t2 t3 gr.T.bmain eo ei (Nat.le_trans el m2) m4 t6 t4 (fun H z1 z2 => t5 H a ns el eb z1 z2) fun H e s' => m5 H s₁ e s'
/-- the class at C: an own one that hangs on ValueError by own ones -/
def oexB (K : PySem.W.Frag) (C : Addr) : Bool := match K.lookup C with
  | some ⟨.type "type", _, .cls cd, sl⟩ => (match cd.mro, sl.toList with
    | .ref E :: bm, [_, _, _, _, some (.builtin z), _] => E == C && (z == "ValueError.__new__" && (!cd.hasDel && (cd.hasDict && PySem.HandSPX.refsVE bm)))
    | _, _ => false)
  | _ => false
end Dl
namespace K08
open PySem PySem.Spec PyProof.Rows L2 Dl
def topS (i : Nat) : Stmt := PySem.Challenge.pw_stucklots_k08_whole_pieces_moved_and_tur.main.body.getD i (.Pass ⟨0, 0, 0, 0⟩)
def hEx (K : PySem.W.Frag) : Bool :=
  qCls K (He.ga K "Piece") && (qProp K (He.ga K "Piece") "area" && (qVal K (He.ga K "Piece") "PARTS" (.int 4) && (qEq K (He.ga K "Piece") && (PySem.W.notFirst K (He.ga K "Piece") (.ref (He.ga K "Piece")) &&
  (qKit K (.ref (He.ga K "Piece")) (.ref (He.ga K "Piece")) true && (qKit K (.type "str") (.ref (He.ga K "Piece")) false && (qKit K (.type "list") (.ref (He.ga K "Piece")) false &&
  (oexB K (He.ga K "OutOfBounds") && (ogP K (He.ga K "OutOfBounds") ["code"] && decide (PySem.W.exmAny K (.ref (He.ga K "OutOfBounds")) [.ref (He.ga K "LotError"), .ref (He.ga K "Missing")] = some true))))))))))
def hFa0 : List He.Fa := [.glo "is_name", .glo "is_any_number", .glo "is_number_pair", .glo "is_bounded_pair", .glo "is_point", .glo "cross", .glo "turned_pair", .glo "mirrored_pair", .glo "moved_point", .glo "minus", .glo "dot", .glo "bend", .glo "is_part", .glo "others_lie_left", .glo "part_told", .glo "edges", .glo "area_twice", .glo "overlap", .glo "has_dividing_edge", .glo "none_lies_left", .glo "joined", .glo "share_stretch", .glo "first_loose", .glo "moved_part", .glo "turned_part", .glo "mirrored_part", .glo "check_parts", .glo "_law_box", .glo "_law_take", .glo "_law_pick"]
def hFa1 : List He.Fa := [.glo "_law_mixed", .glo "_law_same", .glo "_law_fields", .glo "_law_got", .glo "_law_letters", .glo "_law_word", .glo "_law_cross", .glo "_law_is_whole", .glo "_law_is_spot", .glo "_law_edges", .glo "_law_told", .glo "_law_area", .glo "_law_sent", .glo "_law_quarter", .glo "_law_flipped", .glo "_law_arranged", .glo "_law_rect", .glo "_law_bowl", .glo "_law_shape", .glo "_law_hull", .glo "_law_laid", .glo "_law_piece_so", .glo "_law_inside", .glo "_law_all_spots", .glo "_law_move", .glo "_law_led", .glo "_law_back_so", .glo "law", .glo "Piece", .glo "LotError"]
def hFa2 : List He.Fa := [.glo "Missing", .glo "OutOfBounds", .free "isinstance", .free "int", .free "bool", .free "str", .free "tuple", .free "list", .free "dict", .free "len", .free "abs", .free "all", .free "any", .free "range", .free "sum", .free "min", .free "max", .free "sorted", .free "zip", .free "enumerate", .free "repr", .free "ValueError", .free "LookupError", .int "MOST_LETTERS" 6, .int "POINT_BOUND" 200, .int "LEAST_CORNERS" 3, .int "MOST_CORNERS" 6, .str "LETTERS" "abcdefghijklmnopqrstuvwxyz", .cls "Piece", .mkr "Piece"]
def hFa3 : List He.Fa := [.noat "Piece" "name", .noat "Piece" "_parts", .meth "Piece" "__init__", .meth "Piece" "moved", .meth "Piece" "turned", .meth "Piece" "mirrored", .meth "Piece" "parts", .meth "Piece" "__eq__", .meth "Piece" "__len__", .meth "Piece" "__repr__", .meth "OutOfBounds" "__init__"]
def hFa : List He.Fa := hFa0 ++ (hFa1 ++ (hFa2 ++ (hFa3)))
def hFn0 : List He5.DefA := [⟨fun K => He.fAd K ("is_name", none), "is_name", "is_name", defArgs (topS 14), defBody (topS 14), defScope (topS 14), [], []⟩, ⟨fun K => He.fAd K ("is_any_number", none), "is_any_number", "is_any_number", defArgs (topS 15), defBody (topS 15), defScope (topS 15), [], []⟩, ⟨fun K => He.fAd K ("is_number_pair", none), "is_number_pair", "is_number_pair", defArgs (topS 16), defBody (topS 16), defScope (topS 16), [], []⟩, ⟨fun K => He.fAd K ("is_bounded_pair", none), "is_bounded_pair", "is_bounded_pair", defArgs (topS 17), defBody (topS 17), defScope (topS 17), [], []⟩, ⟨fun K => He.fAd K ("is_point", none), "is_point", "is_point", defArgs (topS 18), defBody (topS 18), defScope (topS 18), [], []⟩, ⟨fun K => He.fAd K ("cross", none), "cross", "cross", defArgs (topS 20), defBody (topS 20), defScope (topS 20), [], []⟩, ⟨fun K => He.fAd K ("turned_pair", none), "turned_pair", "turned_pair", defArgs (topS 21), defBody (topS 21), defScope (topS 21), [], []⟩, ⟨fun K => He.fAd K ("mirrored_pair", none), "mirrored_pair", "mirrored_pair", defArgs (topS 22), defBody (topS 22), defScope (topS 22), [], []⟩, ⟨fun K => He.fAd K ("moved_point", none), "moved_point", "moved_point", defArgs (topS 23), defBody (topS 23), defScope (topS 23), [], []⟩, ⟨fun K => He.fAd K ("minus", none), "minus", "minus", defArgs (topS 27), defBody (topS 27), defScope (topS 27), [], []⟩, ⟨fun K => He.fAd K ("dot", none), "dot", "dot", defArgs (topS 28), defBody (topS 28), defScope (topS 28), [], []⟩, ⟨fun K => He.fAd K ("bend", none), "bend", "bend", defArgs (topS 29), defBody (topS 29), defScope (topS 29), [], []⟩, ⟨fun K => He.fAd K ("is_part", none), "is_part", "is_part", defArgs (topS 30), defBody (topS 30), defScope (topS 30), [], []⟩, ⟨fun K => He.fAd K ("others_lie_left", none), "others_lie_left", "others_lie_left", defArgs (topS 31), defBody (topS 31), defScope (topS 31), [], []⟩, ⟨fun K => He.fAd K ("part_told", none), "part_told", "part_told", defArgs (topS 32), defBody (topS 32), defScope (topS 32), [], []⟩, ⟨fun K => He.fAd K ("edges", none), "edges", "edges", defArgs (topS 33), defBody (topS 33), defScope (topS 33), [], []⟩, ⟨fun K => He.fAd K ("area_twice", none), "area_twice", "area_twice", defArgs (topS 34), defBody (topS 34), defScope (topS 34), [], []⟩, ⟨fun K => He.fAd K ("overlap", none), "overlap", "overlap", defArgs (topS 35), defBody (topS 35), defScope (topS 35), [], []⟩, ⟨fun K => He.fAd K ("has_dividing_edge", none), "has_dividing_edge", "has_dividing_edge", defArgs (topS 36), defBody (topS 36), defScope (topS 36), [], []⟩, ⟨fun K => He.fAd K ("none_lies_left", none), "none_lies_left", "none_lies_left", defArgs (topS 37), defBody (topS 37), defScope (topS 37), [], []⟩, ⟨fun K => He.fAd K ("joined", none), "joined", "joined", defArgs (topS 38), defBody (topS 38), defScope (topS 38), [], []⟩, ⟨fun K => He.fAd K ("share_stretch", none), "share_stretch", "share_stretch", defArgs (topS 39), defBody (topS 39), defScope (topS 39), [], []⟩, ⟨fun K => He.fAd K ("first_loose", none), "first_loose", "first_loose", defArgs (topS 40), defBody (topS 40), defScope (topS 40), [], []⟩, ⟨fun K => He.fAd K ("moved_part", none), "moved_part", "moved_part", defArgs (topS 41), defBody (topS 41), defScope (topS 41), [], []⟩, ⟨fun K => He.fAd K ("turned_part", none), "turned_part", "turned_part", defArgs (topS 42), defBody (topS 42), defScope (topS 42), [], []⟩, ⟨fun K => He.fAd K ("mirrored_part", none), "mirrored_part", "mirrored_part", defArgs (topS 43), defBody (topS 43), defScope (topS 43), [], []⟩, ⟨fun K => He.fAd K ("check_parts", none), "check_parts", "check_parts", defArgs (topS 46), defBody (topS 46), defScope (topS 46), [], []⟩, ⟨fun K => He.fAd K ("_law_box", none), "_law_box", "_law_box", defArgs (topS 48), defBody (topS 48), defScope (topS 48), [], []⟩, ⟨fun K => He.fAd K ("_law_take", none), "_law_take", "_law_take", defArgs (topS 49), defBody (topS 49), defScope (topS 49), [], []⟩, ⟨fun K => He.fAd K ("_law_pick", none), "_law_pick", "_law_pick", defArgs (topS 50), defBody (topS 50), defScope (topS 50), [], []⟩]
def hFn1 : List He5.DefA := [⟨fun K => He.fAd K ("_law_mixed", none), "_law_mixed", "_law_mixed", defArgs (topS 51), defBody (topS 51), defScope (topS 51), [], []⟩, ⟨fun K => He.fAd K ("_law_same", none), "_law_same", "_law_same", defArgs (topS 52), defBody (topS 52), defScope (topS 52), [], []⟩, ⟨fun K => He.fAd K ("_law_fields", none), "_law_fields", "_law_fields", defArgs (topS 53), defBody (topS 53), defScope (topS 53), [], []⟩, ⟨fun K => He.fAd K ("_law_got", none), "_law_got", "_law_got", defArgs (topS 54), defBody (topS 54), defScope (topS 54), [], []⟩, ⟨fun K => He.fAd K ("_law_letters", none), "_law_letters", "_law_letters", defArgs (topS 55), defBody (topS 55), defScope (topS 55), [], []⟩, ⟨fun K => He.fAd K ("_law_word", none), "_law_word", "_law_word", defArgs (topS 56), defBody (topS 56), defScope (topS 56), [], []⟩, ⟨fun K => He.fAd K ("_law_cross", none), "_law_cross", "_law_cross", defArgs (topS 57), defBody (topS 57), defScope (topS 57), [], []⟩, ⟨fun K => He.fAd K ("_law_is_whole", none), "_law_is_whole", "_law_is_whole", defArgs (topS 58), defBody (topS 58), defScope (topS 58), [], []⟩, ⟨fun K => He.fAd K ("_law_is_spot", none), "_law_is_spot", "_law_is_spot", defArgs (topS 59), defBody (topS 59), defScope (topS 59), [], []⟩, ⟨fun K => He.fAd K ("_law_edges", none), "_law_edges", "_law_edges", defArgs (topS 60), defBody (topS 60), defScope (topS 60), [], []⟩, ⟨fun K => He.fAd K ("_law_told", none), "_law_told", "_law_told", defArgs (topS 61), defBody (topS 61), defScope (topS 61), [], []⟩, ⟨fun K => He.fAd K ("_law_area", none), "_law_area", "_law_area", defArgs (topS 62), defBody (topS 62), defScope (topS 62), [], []⟩, ⟨fun K => He.fAd K ("_law_sent", none), "_law_sent", "_law_sent", defArgs (topS 63), defBody (topS 63), defScope (topS 63), [], []⟩, ⟨fun K => He.fAd K ("_law_quarter", none), "_law_quarter", "_law_quarter", defArgs (topS 64), defBody (topS 64), defScope (topS 64), [], []⟩, ⟨fun K => He.fAd K ("_law_flipped", none), "_law_flipped", "_law_flipped", defArgs (topS 65), defBody (topS 65), defScope (topS 65), [], []⟩, ⟨fun K => He.fAd K ("_law_arranged", none), "_law_arranged", "_law_arranged", defArgs (topS 66), defBody (topS 66), defScope (topS 66), [], []⟩, ⟨fun K => He.fAd K ("_law_rect", none), "_law_rect", "_law_rect", defArgs (topS 67), defBody (topS 67), defScope (topS 67), [], []⟩, ⟨fun K => He.fAd K ("_law_bowl", none), "_law_bowl", "_law_bowl", defArgs (topS 68), defBody (topS 68), defScope (topS 68), [], []⟩, ⟨fun K => He.fAd K ("_law_shape", none), "_law_shape", "_law_shape", defArgs (topS 69), defBody (topS 69), defScope (topS 69), [], []⟩, ⟨fun K => He.fAd K ("_law_hull", none), "_law_hull", "_law_hull", defArgs (topS 70), defBody (topS 70), defScope (topS 70), [], []⟩, ⟨fun K => He.fAd K ("_law_laid", none), "_law_laid", "_law_laid", defArgs (topS 71), defBody (topS 71), defScope (topS 71), [], []⟩, ⟨fun K => He.fAd K ("_law_piece_so", none), "_law_piece_so", "_law_piece_so", defArgs (topS 72), defBody (topS 72), defScope (topS 72), [], []⟩, ⟨fun K => He.fAd K ("_law_inside", none), "_law_inside", "_law_inside", defArgs (topS 73), defBody (topS 73), defScope (topS 73), [], []⟩, ⟨fun K => He.fAd K ("_law_all_spots", none), "_law_all_spots", "_law_all_spots", defArgs (topS 74), defBody (topS 74), defScope (topS 74), [], []⟩, ⟨fun K => He.fAd K ("_law_move", none), "_law_move", "_law_move", defArgs (topS 75), defBody (topS 75), defScope (topS 75), [], []⟩, ⟨fun K => He.fAd K ("_law_led", none), "_law_led", "_law_led", defArgs (topS 76), defBody (topS 76), defScope (topS 76), [], []⟩, ⟨fun K => He.fAd K ("_law_back_so", none), "_law_back_so", "_law_back_so", defArgs (topS 77), defBody (topS 77), defScope (topS 77), [], []⟩, ⟨fun K => He.fAd K ("law", none), "law", "law", defArgs (topS 78), defBody (topS 78), defScope (topS 78), [], []⟩, ⟨fun K => He.fAd K ("Piece", some "__init__"), "__init__", "Piece.__init__", defArgs (inClass (topS 45) 1), defBody (inClass (topS 45) 1), defScope (inClass (topS 45) 1), [], []⟩, ⟨fun K => He.fAd K ("Piece", some "moved"), "moved", "Piece.moved", defArgs (inClass (topS 45) 5), defBody (inClass (topS 45) 5), defScope (inClass (topS 45) 5), [], []⟩]
def hFn2 : List He5.DefA := [⟨fun K => He.fAd K ("Piece", some "turned"), "turned", "Piece.turned", defArgs (inClass (topS 45) 6), defBody (inClass (topS 45) 6), defScope (inClass (topS 45) 6), [.int 1], []⟩, ⟨fun K => He.fAd K ("Piece", some "mirrored"), "mirrored", "Piece.mirrored", defArgs (inClass (topS 45) 7), defBody (inClass (topS 45) 7), defScope (inClass (topS 45) 7), [], []⟩, ⟨fun K => He.fAd K ("Piece", some "parts"), "parts", "Piece.parts", defArgs (inClass (topS 45) 3), defBody (inClass (topS 45) 3), defScope (inClass (topS 45) 3), [], []⟩, ⟨fun K => He.fAd K ("Piece", some "__eq__"), "__eq__", "Piece.__eq__", defArgs (inClass (topS 45) 9), defBody (inClass (topS 45) 9), defScope (inClass (topS 45) 9), [], []⟩, ⟨fun K => He.fAd K ("Piece", some "__len__"), "__len__", "Piece.__len__", defArgs (inClass (topS 45) 10), defBody (inClass (topS 45) 10), defScope (inClass (topS 45) 10), [], []⟩, ⟨fun K => He.fAd K ("Piece", some "__repr__"), "__repr__", "Piece.__repr__", defArgs (inClass (topS 45) 11), defBody (inClass (topS 45) 11), defScope (inClass (topS 45) 11), [], []⟩, ⟨fun K => He.fAd K ("OutOfBounds", some "__init__"), "__init__", "OutOfBounds.__init__", defArgs (inClass (topS 8) 0), defBody (inClass (topS 8) 0), defScope (inClass (topS 8) 0), [], []⟩, ⟨fun K => He5.wf K (He.ga K "Piece") "property" "area", "area", "Piece.area", defArgs (inClass (topS 45) 2), defBody (inClass (topS 45) 2), defScope (inClass (topS 45) 2), [], []⟩]
def hFn : List He5.DefA := hFn0 ++ (hFn1 ++ (hFn2))
def hNm0 : List PySem.Str := ["_wall", "LotError", "InvalidName", "InvalidPart", "PartsOverlap", "Loose", "TooMany", "OutOfBounds", "Missing", "LETTERS", "MOST_LETTERS", "POINT_BOUND", "is_name", "is_any_number", "is_number_pair", "is_bounded_pair", "is_point", "cross", "turned_pair", "mirrored_pair", "moved_point", "LEAST_CORNERS", "MOST_CORNERS", "minus", "dot", "bend", "is_part", "others_lie_left", "part_told", "edges"]
def hNm1 : List PySem.Str := ["area_twice", "overlap", "has_dividing_edge", "none_lies_left", "joined", "share_stretch", "first_loose", "moved_part", "turned_part", "mirrored_part", "Piece", "check_parts", "_law_box", "_law_take", "_law_pick", "_law_mixed", "_law_same", "_law_fields", "_law_got", "_law_letters", "_law_word", "_law_cross", "_law_is_whole", "_law_is_spot", "_law_edges", "_law_told", "_law_area", "_law_sent", "_law_quarter", "_law_flipped"]
def hNm2 : List PySem.Str := ["_law_arranged", "_law_rect", "_law_bowl", "_law_shape", "_law_hull", "_law_laid", "_law_piece_so", "_law_inside", "_law_all_spots", "_law_move", "_law_led", "_law_back_so"]
def hNm : List PySem.Str := hNm0 ++ (hNm1 ++ (hNm2))
abbrev hR : PySem.W.OpenRow := PySem.W.OpenLaw.row PySem.Challenge.rw_stucklots_k08_whole_pieces_moved_and_tur
def hTf : List He.Defn := [("_law_led", none)]
abbrev hk : PySem.W.Hook := hookY hFa hFn hTf hEx
def hOb (s : PySem.W.SharedT) : (Bool × Bool) × He.AlD := obsYG hFa hFn hTf hEx (HandSHeadRun.getT s)
theorem hOb_eq (s : PySem.W.SharedT) : hOb s = hk.obs s.abs := obsYG_eq (HandSHeadRun.getT_eq s)
end K08
namespace K08
open PySem PySem.W PySem.Calls PyProof.Rows
theorem run (w : World) : HandSHeadRun.RunEq hR (PySem.W.view hR.prog [78]) hk hOb 30000 hNm w := by
  intro os
  kernel_rfl
end K08
/-! Da: tuples whose object is known: no dict hangs on it, so their methods can be called. -/
namespace Dl
open PySem PySem.Spec PyProof.Rows L2
/-- a new tuple, its object known -/
def NewT (Q : VK) (H : Hp) (xs : List V) : Prop := ∀ (p : Addr) (ob : Obj), H p = none → ob.dict = none → Q (.ref p) (upd H p (.frz ob (.tup xs)))
section
variable {X : Cx} {pins : List (Addr × Obj)} {σ : L2.St} {H : Hp} {s : Shared} {Q : VK}
theorem newT_ep {xs : List V} {its : List Value} (I : Inv X pins σ H s) (rv : Vals xs its) (hz : xs.length ≤ sizeLine) (q : NewT Q H xs) :
    EP X pins σ Q (.ref s.heap.objs.size) { s with heap := s.heap.push { cls := .type "tuple", data := .seq its.toArray } } := by
  have hf : H s.heap.objs.size = none := I.hok.fresh (Nat.le_refl _)
  have hg : (s.heap.push { cls := .type "tuple", data := .seq its.toArray }).get? s.heap.objs.size = some { cls := .type "tuple", data := .seq its.toArray } := Heap.get?_push_size _ rfl
  exact ⟨.ref s.heap.objs.size, upd H s.heap.objs.size (.frz { cls := .type "tuple", data := .seq its.toArray } (.tup xs)),
    I.laid (t' := s.toks) (fun b u e => Heap.get?_push_of_some _ e) (Nat.le_refl _) ⟨hg, hz, its, rv, ⟨_, hg, rfl, _, rfl⟩⟩, rfl, q _ _ hf rfl⟩
/-- (e, ..) -/
def zTup (t : TA) : TE := fun σ H Q => t σ H fun xs H1 => xs.length ≤ sizeLine ∧ NewT Q H1 xs
theorem pe_tupZ {es : List Expr} {t : TA} {cx : Nat} {pos : Pos} (h : PA X es t) : PE X (.Tuple es cx pos) (zTup t) := by
  refine ⟨fun pins s σ H Q I hq => ?_⟩
  refine wpAny_Tuple_spliced (thn (h.run pos pins s σ H _ I hq) fun us s1 ⟨xs, H1, I1, rv, hz, q⟩ => ⟨by rw [← rv.length]; exact hz, newT_ep I1 rv hz q⟩)
/-- t + u -/
def zCat (K : PySem.W.Frag) : R2 := fun x y H Q => ∃ a b xs ys, x = .ref a ∧ y = .ref b ∧ SqT K H a xs ∧ SqT K H b ys ∧ xs.length + ys.length ≤ sizeLine ∧
  (xs = [] → Q (.ref b) H) ∧ (xs ≠ [] → ys = [] → Q (.ref a) H) ∧ (xs ≠ [] → ys ≠ [] → NewT Q H (xs ++ ys))
theorem op_catZ : OpR X (binaryOp .Add) (zCat X.K) := by
  intro pins s σ H x y v u Q I rx ry ⟨a, b, xs, ys, e1, e2, ha, hb, hz, q0, q1, q2⟩
  subst e1 e2
  cases rx
  cases ry
  obtain ⟨its, r1, p1, _⟩ := I.tuple ha
  obtain ⟨jts, r2, p2, _⟩ := I.tuple hb
  by_cases hx : xs = []
  · subst hx
    cases r1
    exact cat_tup0 p1 p2 ⟨.ref b, H, I, rfl, q0 rfl⟩
  · refine HT.cat_tup p1 p2 (fun z => hx (r1.nil_iff.mp z)) (fun z => ⟨.ref a, H, I, rfl, q1 hx (r2.nil_iff.mp z)⟩) (fun z => ?_) (by rw [← r1.length, ← r2.length]; exact hz)
    exact newT_ep I (r1.append r2) (by rw [List.length_append]; exact hz) (q2 hx fun w => z (r2.nil_iff.mpr w))
/-- t[lo:hi] -/
def zSl (K : PySem.W.Frag) : V → Option Int → Option Int → Hp → VK → Prop := fun x lo hi H Q => ∃ a xs, x = .ref a ∧ SqT K H a xs ∧
  (HT.sIx xs.length 0 lo = 0 ∧ HT.sIx xs.length xs.length hi = xs.length → Q (.ref a) H) ∧ (¬ (HT.sIx xs.length 0 lo = 0 ∧ HT.sIx xs.length xs.length hi = xs.length) → NewT Q H (cutV xs lo hi))
theorem sl_tupZ : SlR X (zSl X.K) := by
  intro pins s σ H x v vl vu lo hi sl Q I rx hs pl pu ⟨a, xs, e, hx, q1, q2⟩
  subst e
  cases rx
  obtain ⟨its, rv, ht, hz⟩ := I.tuple hx
  have hlen : its.toArray.size = xs.length := by rw [List.size_toArray]; exact rv.length.symm
  refine ⟨"tuple", _, PyProof.Rows.slot_tuple_getitem.lookup, ht.typeIs, ?_⟩
  by_cases hw : HT.sIx xs.length 0 lo = 0 ∧ HT.sIx xs.length xs.length hi = xs.length
  · exact getItem_tuple_whole ht hs pl pu (by rw [hlen]; exact hw) ⟨.ref a, H, I, rfl, q1 hw⟩
  · refine HT.getItem_tuple_cut ht hs pl pu (by rw [hlen]; exact hw) ?_ (by rw [hlen]; exact hz)
    rw [hlen]
    exact newT_ep I ((rv.drop (HT.sIx xs.length 0 lo)).take (HT.sIx xs.length xs.length hi - HT.sIx xs.length 0 lo)) (Nat.le_trans (cutV_length xs lo hi) hz) (q2 hw)
/-- tuple(xs) -/
def zOf (K : PySem.W.Frag) : List V → Hp → VK → Prop := fun ws H Q => ∃ p ys, ws = [.ref p] ∧ ((SqL K H p ys ∧ NewT Q H ys) ∨ (SqT K H p ys ∧ Q (.ref p) H))
theorem call_tupZ : CallR X (.type "tuple") (zOf X.K) := by
  intro pins s σ H ws us Q I r ⟨p, ys, e, h⟩
  subst e
  obtain ⟨u, rfl, rx⟩ := vals1 r
  cases rx
  rcases h with ⟨hq, q⟩ | ⟨hq, q⟩
  · obtain ⟨its, rv, pl, hz⟩ := I.list hq
    have hlen := rv.length
    refine call_tuple_list pl.isList (fun h' kp => ?_) (by simp only [List.size_toArray] <;> omega)
    exact newT_ep (s := { s with heap := h' }) (I.kept (t' := s.toks) kp) rv hz q
  · obtain ⟨its, rv, pl, hz⟩ := I.tuple hq
    exact call_tuple_same pl ⟨.ref p, H, I, rfl, q⟩
/-- the type of such a tuple -/
def tyZ (x : V) (H : Hp) : Prop := ∃ p ob xs, x = .ref p ∧ H p = some (.frz ob (.tup xs)) ∧ ob.dict = none
theorem ty_tup : TyOk X "tuple" tyZ := by
  intro pins σ H s x v I rx ⟨p, ob, xs, e, h, hd⟩
  subst e
  cases rx
  obtain ⟨hg, hz, its, rv, o2, hg2, hc, _⟩ := I.hok p _ h
  rw [hg] at hg2
  cases hg2
  exact ⟨⟨ob, hg, hc⟩, fun a e => by cases e; exact ⟨ob, hg, hd⟩⟩
/-- isinstance(x, (c1, c2)) over such a tuple -/
def zIsi2 (K : PySem.W.Frag) : List V → Hp → VK → Prop := fun ws H Q => ∃ (x : V) (tp : Addr) (ob : Obj) (cs : List V) (t : Value) (us : List Value) (b : Bool), ws = [x, .ref tp] ∧ H tp = some (.frz ob (.tup cs)) ∧ Paired ClsV cs us ∧
  TyX K H x t ∧ PySem.W.kitAny K t us = some b ∧ Q (.bl b) H
theorem call_isiZ : CallR X (.builtin "isinstance") (zIsi2 X.K) := by
  intro pins s σ H ws us Q I r ⟨x, tp, ob, cs, t, vs, b, e0, hT, k, ty, e, q⟩
  subst e0
  obtain ⟨u1, u2, rfl, r1, r2⟩ := vals2 r
  cases (show u2 = Value.ref tp from r2)
  obtain ⟨P, Z, p, hx⟩ := kit_of I r1 ty
  obtain ⟨_, _, its, rv, o, h1, h2, n, h3⟩ := I.hok tp _ hT
  have e3 := ClsV.all k rv
  subst e3
  obtain ⟨oc, od, dt, sl⟩ := o
  simp only at h2 h3
  subst h2 h3
  exact PySem.W.kia_tup Z I.kIn p h1 e hx fun tk => ⟨.bl b, H, I.tok tk, rfl, q⟩
end
end Dl
/-! A layer of plain data over HandS: what a value stands for (Dd), a heap of two parts (what is frozen: G; all: H), the box of draws at B, and a calculus of readings by data alone (WE, WT, WA, WS). -/
namespace Dl
open PySem L2
/-- the box's address; the tables of code objects -/
structure Bt where
  a : Addr
  T : List (Addr × Str)
/-- the object of an exception, its class, its dict -/
def xo (a C d : Addr) : HO := .ext fun h => ∃ (oe : Obj) (vs : Array Value), h.get? a = some oe ∧ oe.cls = .ref C ∧ oe.dict = some d ∧ oe.data = .fields vs
inductive D where
  | non | bl (b : Bool) | int (i : Int) | str (z : Str) | tup (xs : List D) | lst (xs : List D) | dic (ks : List Key) (xs : List D) | cls (n : String) | box | exn (C : Addr) (ks : List Str) (xs : List D) | obj (C : Addr) (ks : List Str) (xs : List D) | adr (a : Addr)
mutual
inductive Dd (K : PySem.W.Frag) (B : Bt) (G : Hp) : V → D → Prop
  | non : Dd K B G .non .non
  | bl (b : Bool) : Dd K B G (.bl b) (.bl b)
  | int (i : Int) : Dd K B G (.int i) (.int i)
  | str (z : Str) : Dd K B G (.str z) (.str z)
  | tup {a : Addr} {ob : Obj} {vs : List V} {ds : List D} : G a = some (.frz ob (.tup vs)) ∧ ob.dict = none → Dds K B G vs ds → Dd K B G (.ref a) (.tup ds)
  | lst {a : Addr} {vs : List V} {ds : List D} : G a = some (.lst vs) → Dds K B G vs ds → Dd K B G (.ref a) (.lst ds)
  | dic {a : Addr} {kvs : List (Key × V)} {ds : List D} : G a = some (.dK kvs) → Dds K B G (kvs.map (·.2)) ds → Dd K B G (.ref a) (.dic (kvs.map (·.1)) ds)
  | cls (n : String) : Dd K B G (.ty n) (.cls n)
  | box : Dd K B G (.ref B.a) .box
  | exn {a C d : Addr} {fs : List (Str × V)} {ds : List D} : G a = some (xo a C d) → G d = some (.xd fs) → Dds K B G (fs.map (·.2)) ds → Dd K B G (.ref a) (.exn C (fs.map (·.1)) ds)
  | obj {a C dx : Addr} {fs : List (Str × V)} {ds : List D} : G a = some (.ins C dx fs) → Dds K B G (fs.map (·.2)) ds → Dd K B G (.ref a) (.obj C (fs.map (·.1)) ds)
  | adr (a : Addr) : Dd K B G (.ref a) (.adr a)
inductive Dds (K : PySem.W.Frag) (B : Bt) (G : Hp) : List V → List D → Prop
  | nil : Dds K B G [] []
  | cons {v : V} {vs : List V} {d : D} {ds : List D} : Dd K B G v d → Dds K B G vs ds → Dds K B G (v :: vs) (d :: ds)
end
section
variable {K : PySem.W.Frag} {B : Bt} {G G1 G2 H H1 H2 : Hp}
mutual
theorem Dd.mono (s : Same G G1) : ∀ {v : V} {d : D}, Dd K B G v d → Dd K B G1 v d
  | _, _, .non => .non
  | _, _, .bl b => .bl b
  | _, _, .int i => .int i
  | _, _, .str z => .str z
  | _, _, .tup h t => .tup ⟨s _ _ h.1, h.2⟩ (Dds.mono s t)
  | _, _, .lst h t => .lst (s _ _ h) (Dds.mono s t)
  | _, _, .dic h t => .dic (s _ _ h) (Dds.mono s t)
  | _, _, .cls n => .cls n
  | _, _, .box => .box
  | _, _, .exn h h' t => .exn (s _ _ h) (s _ _ h') (Dds.mono s t)
  | _, _, .obj h t => .obj (s _ _ h) (Dds.mono s t)
  | _, _, .adr a => .adr a
theorem Dds.mono (s : Same G G1) : ∀ {vs : List V} {ds : List D}, Dds K B G vs ds → Dds K B G1 vs ds
  | _, _, .nil => .nil
  | _, _, .cons h t => .cons (Dd.mono s h) (Dds.mono s t)
end
theorem Dds.length : ∀ {vs : List V} {ds : List D}, Dds K B G vs ds → vs.length = ds.length
  | _, _, .nil => rfl
  | _, _, .cons _ t => by rw [List.length_cons, List.length_cons, Dds.length t]
theorem Dds.get : ∀ {vs : List V} {ds : List D} {i : Nat} {d : D}, Dds K B G vs ds → ds[i]? = some d → ∃ v, vs[i]? = some v ∧ Dd K B G v d
  | _, _, _, _, .nil, e => by simp at e
  | _, _, 0, _, .cons h _, e => by simp at e; subst e; exact ⟨_, rfl, h⟩
  | _, _, i + 1, d, .cons _ t, e => by
    obtain ⟨v, h1, h2⟩ := Dds.get (i := i) (d := d) t (by simpa using e)
    exact ⟨v, by simpa using h1, h2⟩
theorem Dds.get' : ∀ {vs : List V} {ds : List D} {i : Nat} {v : V}, Dds K B G vs ds → vs[i]? = some v → ∃ d, ds[i]? = some d ∧ Dd K B G v d
  | _, _, _, _, .nil, e => by simp at e
  | _, _, 0, _, .cons h _, e => by simp at e; subst e; exact ⟨_, rfl, h⟩
  | _, _, i + 1, v, .cons _ t, e => by
    obtain ⟨d, h1, h2⟩ := Dds.get' (i := i) (v := v) t (by simpa using e)
    exact ⟨d, by simpa using h1, h2⟩
theorem Dds.append : ∀ {vs ws : List V} {ds es : List D}, Dds K B G vs ds → Dds K B G ws es → Dds K B G (vs ++ ws) (ds ++ es)
  | _, _, _, _, .nil, q => q
  | _, _, _, _, .cons h t, q => .cons h (Dds.append t q)
theorem Dds.take : ∀ (n : Nat) {vs : List V} {ds : List D}, Dds K B G vs ds → Dds K B G (vs.take n) (ds.take n)
  | 0, _, _, _ => .nil
  | _ + 1, _, _, .nil => .nil
  | n + 1, _, _, .cons h t => .cons h (Dds.take n t)
theorem Dds.drop : ∀ (n : Nat) {vs : List V} {ds : List D}, Dds K B G vs ds → Dds K B G (vs.drop n) (ds.drop n)
  | 0, _, _, t => t
  | _ + 1, _, _, .nil => .nil
  | n + 1, _, _, .cons _ t => Dds.drop n t
theorem Dds.rev {vs : List V} {ds : List D} (h : Dds K B G vs ds) : Dds K B G vs.reverse ds.reverse := by
  induction vs generalizing ds with
  | nil => cases h; exact .nil
  | cons v vs ih =>
    cases h with
    | cons a t => rw [List.reverse_cons, List.reverse_cons]; exact (ih t).append (.cons a .nil)
theorem Dds.ints : ∀ {vs : List V} {ns : List Int}, Dds K B G vs (ns.map D.int) → vs = ns.map V.int
  | _, [], .nil => rfl
  | _, _ :: _, .cons h t => by cases h; rw [Dds.ints t]; rfl
theorem Dds.bls : ∀ {vs : List V} {ns : List Bool}, Dds K B G vs (ns.map D.bl) → vs = ns.map V.bl
  | _, [], .nil => rfl
  | _, _ :: _, .cons h t => by cases h; rw [Dds.bls t]; rfl
theorem Dds.strs : ∀ {vs : List V} {ns : List Str}, Dds K B G vs (ns.map D.str) → vs = ns.map V.str
  | _, [], .nil => rfl
  | _, _ :: _, .cons h t => by cases h; rw [Dds.strs t]; rfl
theorem Dds.repl {vs : List V} {ds : List D} (h : Dds K B G vs ds) : ∀ n : Nat, Dds K B G (List.replicate n vs).flatten (List.replicate n ds).flatten
  | 0 => .nil
  | n + 1 => by
    rw [List.replicate_succ, List.replicate_succ, List.flatten_cons, List.flatten_cons]
    exact h.append (Dds.repl h n)

/-! ### the box, the state -/
def Bx (G H : Hp) (B : Addr) : Prop := ∃ (c : Addr) (cells : List Int) (p r m n : Int), H B = some (.lst [.ref c, .int p, .int r, .int m, .int n]) ∧ G c = some (.lst (cells.map V.int)) ∧ cells.length ≤ 63 ∧ 0 ≤ p ∧ 0 ≤ r ∧ 0 ≤ m ∧ m < 2147483587 ∧ 0 ≤ n
/-- no table -/
def nt (o : HO) : Prop := ∀ ps, o ≠ .tbl ps
theorem nt_lst {xs : List V} : nt (.lst xs) := fun _ z => nomatch z
theorem nt_tup {ob : Obj} {xs : List V} : nt (.frz ob (.tup xs)) := fun _ z => nomatch z
theorem SqT.ofZ {K : PySem.W.Frag} {H : Hp} {a : Addr} {ob : Obj} {xs : List V} (h : H a = some (.frz ob (.tup xs))) : SqT K H a xs := .inl (.inr ⟨_, h⟩)
structure Go (B : Bt) (G H G1 H1 : Hp) : Prop where
  s : Same G G1
  k : ∀ a o, a ≠ B.a → nt o → H a = some o → H1 a = some o
  n : ∀ a o, nt o → H a = some o → G a = none → G1 a = none
  c : ∀ c r, H B.a = some (.lst (.ref c :: r)) → ∃ r', H1 B.a = some (.lst (.ref c :: r'))
structure Ok (B : Bt) (G H : Hp) : Prop where
  u : Same G H
  b : G B.a = none
  x : Bx G H B.a
  t : LamX.Tabs B.T H
  f : ∀ a o, G a = some o → nt o
theorem Ok.hb (o : Ok B G H) : H B.a ≠ none := by
  obtain ⟨_, _, _, _, _, _, e, _⟩ := o.x
  rw [e]; exact fun z => nomatch z
theorem Go.refl : Go B G H G H := ⟨Same.refl G, fun _ _ _ _ h => h, fun _ _ _ _ h => h, fun _ r h => ⟨r, h⟩⟩
theorem Go.trans (o : Ok B G1 H1) (a : Go B G H G1 H1) (b : Go B G1 H1 G2 H2) : Go B G H G2 H2 :=
  ⟨a.s.trans b.s, fun x u ne ht h => b.k x u ne ht (a.k x u ne ht h), fun x u ht h g => by
    by_cases e : x = B.a
    · obtain ⟨_, _, _, _, _, _, e2, _⟩ := o.x
      exact b.n x _ nt_lst (by rw [e]; exact e2) (a.n x u ht h g)
    · exact b.n x u ht (a.k x u e ht h) (a.n x u ht h g), fun c r h => by
    obtain ⟨r', h'⟩ := a.c c r h
    exact b.c c r' h'⟩
theorem Ok.fresh (o : Ok B G H) {p : Addr} (h : H p = none) : G p = none := by
  cases q : G p with
  | none => rfl
  | some u => rw [o.u p u q] at h; cases h
theorem Ok.neB (o : Ok B G H) {p : Addr} (h : H p = none) : p ≠ B.a := fun e => o.hb (e ▸ h)
theorem same_upd {p : Addr} {o : HO} (h : H p = none) : Same H (upd H p o) := fun b x e => by
  rw [upd_ne (ne_of_none e h)]; exact e
theorem upd_some {p a : Addr} {o : HO} (h : H a ≠ none) : upd H p o a ≠ none := by
  by_cases e : a = p
  · rw [e, upd_same]; exact fun z => nomatch z
  · rw [upd_ne e]; exact h
/-- a new object, frozen -/
theorem new_go (o : Ok B G H) {p : Addr} {x : HO} (h : H p = none) : Go B G H (upd G p x) (upd H p x) := by
  refine ⟨same_upd (o.fresh h), fun a u _ _ e => same_upd h a u e, fun a u _ ha hg => ?_, fun c r e => ⟨r, same_upd h _ _ e⟩⟩
  by_cases e : a = p
  · rw [e, h] at ha; cases ha
  · rw [upd_ne e]; exact hg
theorem new_ok (o : Ok B G H) {p : Addr} {x : HO} (hx : nt x) (h : H p = none) : Ok B (upd G p x) (upd H p x) := by
  have nb := o.neB h
  refine ⟨fun a u e => ?_, by rw [upd_ne nb.symm]; exact o.b, ?_, o.t.ext fun b u e => same_upd h b u e, fun a u e => ?_⟩
  · by_cases q : a = p
    · rw [q, upd_same] at e ⊢; exact e
    · rw [upd_ne q] at e ⊢; exact o.u a u e
  · obtain ⟨c, cells, p', r, m, n, e, g, w⟩ := o.x
    exact ⟨c, cells, p', r, m, n, by rw [upd_ne nb.symm]; exact e, same_upd (o.fresh h) _ _ g, w⟩
  · by_cases q : a = p
    · rw [q, upd_same] at e; cases e; exact hx
    · rw [upd_ne q] at e; exact o.f a u e
/-- a new object, not frozen -/
theorem loose_go (o : Ok B G H) {p : Addr} {x : HO} (h : H p = none) : Go B G H G (upd H p x) := ⟨Same.refl G, fun a u _ _ e => same_upd h a u e, fun _ _ _ _ g => g, fun c r e => ⟨r, same_upd h _ _ e⟩⟩
theorem loose_ok (o : Ok B G H) {p : Addr} {x : HO} (h : H p = none) : Ok B G (upd H p x) := by
  have nb := o.neB h
  refine ⟨fun a u e => same_upd h _ _ (o.u a u e), o.b, ?_, o.t.ext fun b u e => same_upd h b u e, o.f⟩
  obtain ⟨c, cells, p', r, m, n, e, g, w⟩ := o.x
  exact ⟨c, cells, p', r, m, n, by rw [upd_ne nb.symm]; exact e, g, w⟩
/-- a list is written: the tables stand -/
theorem tabs_upd {T : List (Addr × Str)} {p : Addr} {ys : List V} {x : HO} (t : LamX.Tabs T H) (hp : H p = some (.lst ys)) : LamX.Tabs T (upd H p x) := fun q hq => by
  obtain ⟨ps, h1, h2, h3⟩ := t q hq
  refine ⟨ps, by rw [upd_ne (fun e => by rw [e, hp] at h1; cases h1)]; exact h1, h2, fun pos cv hc => ?_⟩
  obtain ⟨c, e1, e2⟩ := h3 pos cv hc
  refine ⟨c, e1, ?_⟩
  rw [upd_ne (fun e => by
    rw [e, hp] at e2
    have e3 : HO.lst ys = LamX.CodeO p q.2 := Option.some.inj e2
    unfold LamX.CodeO at e3
    cases e3)]
  exact e2
/-- an object that is not frozen is written -/
theorem write_ok (o : Ok B G H) {p : Addr} {ys : List V} {x : HO} (hp : H p = some (.lst ys)) (g : G p = none) (nb : p ≠ B.a) : Ok B G (upd H p x) := by
  refine ⟨fun a u e => ?_, o.b, ?_, tabs_upd o.t hp, o.f⟩
  · rw [upd_ne (ne_of_none e g)]; exact o.u a u e
  obtain ⟨c, cells, p', r, m, n, e, g', w⟩ := o.x
  exact ⟨c, cells, p', r, m, n, by rw [upd_ne nb.symm]; exact e, g', w⟩
/-- .. is frozen -/
theorem freeze_ok (o : Ok B G H) {p : Addr} {x : HO} (hx : nt x) (nb : p ≠ B.a) (g : G p = none) (h : H p = some x) : Ok B (upd G p x) H := by
  refine ⟨fun a u e => ?_, by rw [upd_ne nb.symm]; exact o.b, ?_, o.t, fun a u e => ?_⟩
  · by_cases q : a = p
    · rw [q, upd_same] at e; rw [q, h]; exact e
    · rw [upd_ne q] at e; exact o.u a u e
  · obtain ⟨c, cells, p', r, m, n, e, g', w⟩ := o.x
    exact ⟨c, cells, p', r, m, n, e, same_upd g _ _ g', w⟩
  · by_cases q : a = p
    · rw [q, upd_same] at e; cases e; exact hx
    · rw [upd_ne q] at e; exact o.f a u e

inductive Sd where
  | no | val (d : D) | own (ds : List D)
structure Stt (K : PySem.W.Frag) (B : Bt) (G0 H0 G H : Hp) (σ : St) (δ : List Sd) : Prop where
  go : Go B G0 H0 G H
  ok : Ok B G H
  len : σ.length = δ.length
  val : ∀ (i : Nat) d, δ[i]? = some (.val d) → ∃ v, σ[i]? = some (some v) ∧ Dd K B G v d
  own : ∀ (i : Nat) ds, δ[i]? = some (.own ds) → ∃ a vs, σ[i]? = some (some (.ref a)) ∧ a ≠ B.a ∧ (∀ o, nt o → H0 a ≠ some o) ∧ G a = none ∧ H a = some (.lst vs) ∧ Dds K B G vs ds
  apart : ∀ (i j : Nat) ds es a, δ[i]? = some (.own ds) → δ[j]? = some (.own es) → σ[i]? = some (some (.ref a)) → σ[j]? = some (some (.ref a)) → i = j
theorem Stt.on {G0 H0 : Hp} {σ : St} {δ : List Sd} (s : Stt K B G0 H0 G H σ δ) (g : Go B G H G1 H1) (o : Ok B G1 H1) : Stt K B G0 H0 G1 H1 σ δ := by
  refine ⟨s.go.trans s.ok g, o, s.len, fun i d e => ?_, fun i ds e => ?_, s.apart⟩
  · obtain ⟨v, h, q⟩ := s.val i d e
    exact ⟨v, h, q.mono g.s⟩
  · obtain ⟨a, vs, h, nb, f, ga, ha, q⟩ := s.own i ds e
    exact ⟨a, vs, h, nb, f, g.n a _ nt_lst ha ga, g.k a _ nb nt_lst ha, q.mono g.s⟩
theorem Stt.setVal {G0 H0 : Hp} {σ : St} {δ : List Sd} {v : V} {d : D} (s : Stt K B G0 H0 G H σ δ) (i : Nat) (q : Dd K B G v d) : Stt K B G0 H0 G H (σ.set i (some v)) (δ.set i (.val d)) := by
  refine ⟨s.go, s.ok, by rw [List.length_set, List.length_set, s.len], fun j e h => ?_, fun j ds h => ?_, fun j l ds es a h1 h2 h3 h4 => ?_⟩
  · rw [List.getElem?_set] at h
    by_cases ij : i = j
    · rw [if_pos ij] at h
      split at h
      · rename_i hl
        cases h
        refine ⟨v, ?_, q⟩
        rw [List.getElem?_set, if_pos ij, if_pos (by rw [s.len]; exact hl)]
      · cases h
    · rw [if_neg ij] at h
      obtain ⟨w, h1, h2⟩ := s.val j e h
      exact ⟨w, by rw [List.getElem?_set, if_neg ij]; exact h1, h2⟩
  · rw [List.getElem?_set] at h
    by_cases ij : i = j
    · rw [if_pos ij] at h
      split at h <;> cases h
    · rw [if_neg ij] at h
      obtain ⟨a, vs, h1, h2⟩ := s.own j ds h
      exact ⟨a, vs, by rw [List.getElem?_set, if_neg ij]; exact h1, h2⟩
  · rw [List.getElem?_set] at h1 h2 h3 h4
    by_cases ij : i = j
    · rw [if_pos ij] at h1; split at h1 <;> cases h1
    · by_cases il : i = l
      · rw [if_pos il] at h2; split at h2 <;> cases h2
      · rw [if_neg ij] at h1 h3
        rw [if_neg il] at h2 h4
        exact s.apart j l ds es a h1 h2 h3 h4
theorem Stt.wipe1 {G0 H0 : Hp} {σ : St} {δ : List Sd} (s : Stt K B G0 H0 G H σ δ) (i : Nat) : Stt K B G0 H0 G H (σ.set i none) (δ.set i .no) := by
  refine ⟨s.go, s.ok, by rw [List.length_set, List.length_set, s.len], fun j e h => ?_, fun j ds h => ?_, fun j l ds es a h1 h2 h3 h4 => ?_⟩
  · rw [List.getElem?_set] at h
    by_cases ij : i = j
    · rw [if_pos ij] at h; split at h <;> cases h
    · rw [if_neg ij] at h
      obtain ⟨w, h1, h2⟩ := s.val j e h
      exact ⟨w, by rw [List.getElem?_set, if_neg ij]; exact h1, h2⟩
  · rw [List.getElem?_set] at h
    by_cases ij : i = j
    · rw [if_pos ij] at h; split at h <;> cases h
    · rw [if_neg ij] at h
      obtain ⟨a, vs, h1, h2⟩ := s.own j ds h
      exact ⟨a, vs, by rw [List.getElem?_set, if_neg ij]; exact h1, h2⟩
  · rw [List.getElem?_set] at h1 h2 h3 h4
    by_cases ij : i = j
    · rw [if_pos ij] at h1; split at h1 <;> cases h1
    · by_cases il : i = l
      · rw [if_pos il] at h2; split at h2 <;> cases h2
      · rw [if_neg ij] at h1 h3
        rw [if_neg il] at h2 h4
        exact s.apart j l ds es a h1 h2 h3 h4
end

/-! ### the judgements -/
/-- what is wished of an exception: how it goes on, and what is due of it, by the slots, its class, its fields -/
structure Xc where
  W : WX := fun _ _ _ _ => False
  ex : List Sd → Addr → List Str → List D → Prop := fun _ _ _ _ => False
section
variable (K : PySem.W.Frag) (B : Bt)
/-- at d: an exception's dict with such fields -/
def Xd (G : Hp) (d : Addr) (ks : List Str) (ds : List D) : Prop := ∃ fs : List (Str × V), G d = some (.xd fs) ∧ fs.map (·.1) = ks ∧ Dds K B G (fs.map (·.2)) ds
def CtX (X : Xc) (σ : St) (δ : List Sd) (G H : Hp) : Prop := ∀ C d ks ds G1 H1, Go B G H G1 H1 → Ok B G1 H1 → Xd K B G1 d ks ds → X.ex δ C ks ds → X.W (.ref C) (some d) σ H1
def Ct (G H : Hp) (P : D → Prop) (Q : VK) : Prop := ∀ v d G1 H1, Go B G H G1 H1 → Ok B G1 H1 → Dd K B G1 v d → P d → Q v H1
def WEx (X : Xc) (te : TE) (δ : List Sd) (P : D → Prop)  : Prop := ∀ G0 H0 σ G H Q, Stt K B G0 H0 G H σ δ → CtX K B X σ δ G H → Ct K B G H P Q → te σ H Q
def WTx (X : Xc) (tt : TT) (δ : List Sd) (P : Bool → Prop)  : Prop := ∀ G0 H0 σ G H (Q : Bool → Hp → Prop), Stt K B G0 H0 G H σ δ → CtX K B X σ δ G H → (∀ b G1 H1, Go B G H G1 H1 → Ok B G1 H1 → P b → Q b H1) → tt σ H Q
def WAx (X : Xc) (ta : TA) (δ : List Sd) (P : List D → Prop)  : Prop := ∀ G0 H0 σ G H (Q : List V → Hp → Prop), Stt K B G0 H0 G H σ δ → CtX K B X σ δ G H → (∀ vs ds G1 H1, Go B G H G1 H1 → Ok B G1 H1 → Dds K B G1 vs ds → P ds → Q vs H1) → ta σ H Q
def WOx (X : Xc) (to : TO) (δ : List Sd) (P : Option Int → Prop)  : Prop := ∀ G0 H0 σ G H (Q : Option Int → Hp → Prop), Stt K B G0 H0 G H σ δ → CtX K B X σ δ G H → (∀ b G1 H1, Go B G H G1 H1 → Ok B G1 H1 → P b → Q b H1) → to σ H Q
abbrev WE (te : TE) (δ : List Sd) (P : D → Prop) : Prop := WEx K B {} te δ P
abbrev WT (tt : TT) (δ : List Sd) (P : Bool → Prop) : Prop := WTx K B {} tt δ P
abbrev WA (ta : TA) (δ : List Sd) (P : List D → Prop) : Prop := WAx K B {} ta δ P
abbrev WO (to : TO) (δ : List Sd) (P : Option Int → Prop) : Prop := WOx K B {} to δ P
/-- operations on values -/
def RO (r : R2) (a b : D) (P : D → Prop) : Prop := ∀ G H x y Q, Ok B G H → Dd K B G x a → Dd K B G y b → Ct K B G H P Q → r x y H Q
def R1 (r : V → Hp → VK → Prop) (a : D) (P : D → Prop) : Prop := ∀ G H x Q, Ok B G H → Dd K B G x a → Ct K B G H P Q → r x H Q
def RC (r : List V → Hp → VK → Prop) (ds : List D) (P : D → Prop) : Prop := ∀ G H vs Q, Ok B G H → Dds K B G vs ds → Ct K B G H P Q → r vs H Q
def RM (r : V → List V → Hp → VK → Prop) (a : D) (ds : List D) (P : D → Prop) : Prop := ∀ G H x vs Q, Ok B G H → Dd K B G x a → Dds K B G vs ds → Ct K B G H P Q → r x vs H Q
def RS (r : V → Option Int → Option Int → Hp → VK → Prop) (a : D) (lo hi : Option Int) (P : D → Prop) : Prop := ∀ G H x Q, Ok B G H → Dd K B G x a → Ct K B G H P Q → r x lo hi H Q
/-- a statement: what follows (by the slots), what is handed back, what is raised -/
structure Out where
  nx : List Sd → Prop
  rt : D → Prop
  bk : List Sd → Prop := fun _ => False
  ct : List Sd → Prop := fun _ => False
  x : Xc := {}
  ro : List D → Prop := fun _ => False
/-- what is handed back: a frozen value, or a list of the def's own -/
def RT (O : Out) (G0 H0 : Hp) (r : VK) : Prop := (∀ v d G1 H1, Go B G0 H0 G1 H1 → Ok B G1 H1 → Dd K B G1 v d → O.rt d → r v H1) ∧
  ∀ a vs ds G1 H1, Go B G0 H0 G1 H1 → Ok B G1 H1 → a ≠ B.a → (∀ o, nt o → H0 a ≠ some o) → G1 a = none → H1 a = some (.lst vs) → Dds K B G1 vs ds → O.ro ds → r (.ref a) H1
def XS (X : Xc) (G0 H0 G : Hp) : Prop := ∀ σ1 δ1 G1 H1, Same G G1 → Stt K B G0 H0 G1 H1 σ1 δ1 → ∀ C d ks ds, Xd K B G1 d ks ds → X.ex δ1 C ks ds → X.W (.ref C) (some d) σ1 H1
def WS (ts : TS) (δ : List Sd) (O : Out) : Prop := ∀ G0 H0 σ G H (E : Ends), Stt K B G0 H0 G H σ δ → XS K B O.x G0 H0 G →
  (∀ σ1 δ1 G1 H1, Same G G1 → Stt K B G0 H0 G1 H1 σ1 δ1 → O.nx δ1 → E.nx σ1 H1) → RT K B O G0 H0 E.rt →
  (∀ σ1 δ1 G1 H1, Same G G1 → Stt K B G0 H0 G1 H1 σ1 δ1 → O.bk δ1 → E.bk σ1 H1) → (∀ σ1 δ1 G1 H1, Same G G1 → Stt K B G0 H0 G1 H1 σ1 δ1 → O.ct δ1 → E.ct σ1 H1) → ts E σ H
/-- a def's promise by data -/
def SpD (pre : List D → Prop) (post : List D → D → Prop) : Sp := fun vs H Q _ => ∃ B G ds, Ok B G H ∧ Dds K B G vs ds ∧ pre ds ∧ Ct K B G H (post ds) Q
/-- .. of a def that hands back a new list -/
def SpN (pre : List D → Prop) (post : List D → List D → Prop) : Sp := fun vs H Q _ => ∃ B G ds, Ok B G H ∧ Dds K B G vs ds ∧ pre ds ∧ ∀ a ws es G1 H1, Go B G H G1 H1 → Ok B G1 H1 → a ≠ B.a → (∀ o, nt o → H a ≠ some o) → G1 a = none → H1 a = some (.lst ws) → Dds K B G1 ws es → post ds es → Q (.ref a) H1
/-- .. of a def that may raise -/
def SpX (pre : List D → Prop) (post : List D → D → Prop) (exc : List D → Addr → List Str → List D → Prop) : Sp := fun vs H Q E => ∃ B G ds, Ok B G H ∧ Dds K B G vs ds ∧ pre ds ∧ Ct K B G H (post ds) Q ∧ ∀ C d ks es G1 H1, Go B G H G1 H1 → Ok B G1 H1 → Xd K B G1 d ks es → exc ds C ks es → E (.ref C) (some d) H1
end
section
variable {K : PySem.W.Frag} {B : Bt} {δ : List Sd} {X : Xc} {G G1 H H1 G0 H0 : Hp} {σ : St}
theorem CtX.on (q : CtX K B X σ δ G H) (g : Go B G H G1 H1) (o : Ok B G1 H1) : CtX K B X σ δ G1 H1 := fun C d ks ds G2 H2 g2 o2 hd p => q C d ks ds G2 H2 (g.trans o g2) o2 hd p
theorem ctx0 : CtX K B {} σ δ G H := fun _ _ _ _ _ _ _ _ _ z => z.elim
theorem XS.ct (q : XS K B X G0 H0 G) (s : Stt K B G0 H0 G H σ δ) : CtX K B X σ δ G H := fun C d ks ds G1 H1 g o hd p => q σ δ G1 H1 g.s (s.on g o) C d ks ds hd p
theorem XS.on (q : XS K B X G0 H0 G) (m : Same G G1) : XS K B X G0 H0 G1 := fun σ1 δ1 G2 H2 m2 => q σ1 δ1 G2 H2 (m.trans m2)
theorem xs0 : XS K B {} G0 H0 G := fun _ _ _ _ _ _ _ _ _ _ _ z => z.elim
end

section
variable {K : PySem.W.Frag} {B : Bt} {δ : List Sd} {P P' : D → Prop} {ta tb te : TE} {tt tu : TT} {X : Xc}
theorem Ct.nil {G H : Hp} {Q : VK} {v : V} {d : D} (o : Ok B G H) (q : Ct K B G H P Q) (h : Dd K B G v d) (p : P d) : Q v H := q v d G H Go.refl o h p
theorem Ct.on {G H G1 H1 : Hp} {Q : VK} (q : Ct K B G H P Q) (g : Go B G H G1 H1) (o : Ok B G1 H1) : Ct K B G1 H1 P Q := fun v d G2 H2 g2 o2 h p => q v d G2 H2 (g.trans o g2) o2 h p
theorem Ct.new {G H : Hp} {Q : VK} {d : D} {x : HO} {p : Addr} (o : Ok B G H) (q : Ct K B G H P Q) (hx : nt x) (h : H p = none) (hd : Dd K B (upd G p x) (.ref p) d) (hp : P d) : Q (.ref p) (upd H p x) := q _ d _ _ (new_go o h) (new_ok o hx h) hd hp
theorem WEx.mono (h : WEx K B X te δ P) (m : ∀ d, P d → P' d) : WEx K B X te δ P' := fun G0 H0 σ G H Q s xx q => h G0 H0 σ G H Q s xx fun v d G1 H1 g o hd p => q v d G1 H1 g o hd (m d p)
theorem WTx.mono {P P' : Bool → Prop} (h : WTx K B X tt δ P) (m : ∀ d, P d → P' d) : WTx K B X tt δ P' := fun G0 H0 σ G H Q s xx q => h G0 H0 σ G H Q s xx fun v G1 H1 g o p => q v G1 H1 g o (m v p)
theorem we_var {i : Nat} {d : D} (h : δ[i]? = some (.val d)) (p : P d) : WEx K B X (tVar i) δ P := fun _ _ _ _ _ _ s _ q => by
  obtain ⟨v, h1, h2⟩ := s.val i d h
  exact ⟨v, h1, q.nil s.ok h2 p⟩
theorem we_int {i : Int} (p : P (.int i)) : WEx K B X (tC (.int i)) δ P := fun _ _ _ _ _ _ s _ q => q.nil s.ok (.int i) p
theorem we_str {z : Str} (p : P (.str z)) : WEx K B X (tC (.str z)) δ P := fun _ _ _ _ _ _ s _ q => q.nil s.ok (.str z) p
theorem we_bl {b : Bool} (p : P (.bl b)) : WEx K B X (tC (.bl b)) δ P := fun _ _ _ _ _ _ s _ q => q.nil s.ok (.bl b) p
theorem we_non (p : P .non) : WEx K B X (tC .non) δ P := fun _ _ _ _ _ _ s _ q => q.nil s.ok .non p
theorem we_op {r : R2} (h : WEx K B X ta δ fun a => WEx K B X tb δ fun b => RO K B r a b P) : WEx K B X (tOp r ta tb) δ P := fun G0 H0 σ G H Q s xx q =>
  h G0 H0 σ G H _ s xx fun x a G1 H1 g1 o1 hx wb => wb G0 H0 σ G1 H1 _ (s.on g1 o1) (xx.on g1 o1) fun y b G2 H2 g2 o2 hy rr => rr G2 H2 x y Q o2 (hx.mono g2.s) hy ((q.on g1 o1).on g2 o2)
theorem we_un {r : V → Hp → VK → Prop} (h : WEx K B X ta δ fun a => R1 K B r a P) : WEx K B X (tUn r ta) δ P := fun G0 H0 σ G H Q s xx q =>
  h G0 H0 σ G H _ s xx fun x a G1 H1 g1 o1 hx rr => rr G1 H1 x Q o1 hx (q.on g1 o1)
theorem we_andV (h : WEx K B X ta δ fun a => ∃ c, a = .bl c ∧ if c = true then WEx K B X tb δ P else P (.bl false)) : WEx K B X (tAndV ta tb) δ P := fun G0 H0 σ G H Q s xx q =>
  h G0 H0 σ G H _ s xx fun x a G1 H1 g1 o1 hx ⟨c, e, w⟩ => by
    subst e
    cases hx
    refine ⟨c, rfl, ?_⟩
    cases c with
    | true => exact w G0 H0 σ G1 H1 Q (s.on g1 o1) (xx.on g1 o1) (q.on g1 o1)
    | false => exact (q.on g1 o1).nil o1 (.bl false) w
theorem we_orV (h : WEx K B X ta δ fun a => ∃ c, a = .bl c ∧ if c = true then P (.bl true) else WEx K B X tb δ P) : WEx K B X (tOrV ta tb) δ P := fun G0 H0 σ G H Q s xx q =>
  h G0 H0 σ G H _ s xx fun x a G1 H1 g1 o1 hx ⟨c, e, w⟩ => by
    subst e
    cases hx
    refine ⟨c, rfl, ?_⟩
    cases c with
    | true => exact (q.on g1 o1).nil o1 (.bl true) w
    | false => exact w G0 H0 σ G1 H1 Q (s.on g1 o1) (xx.on g1 o1) (q.on g1 o1)
theorem we_notV (h : WEx K B X ta δ fun a => ∃ c, a = .bl c ∧ P (.bl (!c))) : WEx K B X (tNotV ta) δ P := fun G0 H0 σ G H Q s xx q =>
  h G0 H0 σ G H _ s xx fun x a G1 H1 g1 o1 hx ⟨c, e, w⟩ => by
    subst e
    cases hx
    exact ⟨c, rfl, (q.on g1 o1).nil o1 (.bl _) w⟩
theorem we_if (h : WTx K B X tt δ fun c => if c = true then WEx K B X ta δ P else WEx K B X tb δ P) : WEx K B X (tIf tt ta tb) δ P := fun G0 H0 σ G H Q s xx q =>
  h G0 H0 σ G H _ s xx fun c G1 H1 g1 o1 w => by
    cases c with
    | true => exact w G0 H0 σ G1 H1 Q (s.on g1 o1) (xx.on g1 o1) (q.on g1 o1)
    | false => exact w G0 H0 σ G1 H1 Q (s.on g1 o1) (xx.on g1 o1) (q.on g1 o1)
theorem wt_test {P : Bool → Prop} (h : WEx K B X te δ fun a => ∃ c, a = .bl c ∧ P c) : WTx K B X (tTest te) δ P := fun G0 H0 σ G H Q s xx q =>
  h G0 H0 σ G H _ s xx fun x a G1 H1 g1 o1 hx ⟨c, e, w⟩ => by
    subst e
    cases hx
    exact ⟨c, rfl, q c G1 H1 g1 o1 w⟩
theorem wt_B {P : Bool → Prop} (h : WEx K B X te δ fun a => ∃ c, a = .bl c ∧ P c) : WTx K B X (tB te) δ P := fun G0 H0 σ G H Q s xx q =>
  h G0 H0 σ G H _ s xx fun x a G1 H1 g1 o1 hx ⟨c, e, w⟩ => by
    subst e
    cases hx
    exact ⟨c, rfl, q c G1 H1 g1 o1 w⟩
theorem wt_and {P : Bool → Prop} (h : WTx K B X tt δ fun c => if c = true then WTx K B X tu δ P else P false) : WTx K B X (tAnd tt tu) δ P := fun G0 H0 σ G H Q s xx q =>
  h G0 H0 σ G H _ s xx fun c G1 H1 g1 o1 w => by
    cases c with
    | true => exact w G0 H0 σ G1 H1 Q (s.on g1 o1) (xx.on g1 o1) fun b G2 H2 g2 o2 p => q b G2 H2 (g1.trans o1 g2) o2 p
    | false => exact q false G1 H1 g1 o1 w
theorem wt_or {P : Bool → Prop} (h : WTx K B X tt δ fun c => if c = true then P true else WTx K B X tu δ P) : WTx K B X (tOr tt tu) δ P := fun G0 H0 σ G H Q s xx q =>
  h G0 H0 σ G H _ s xx fun c G1 H1 g1 o1 w => by
    cases c with
    | true => exact q true G1 H1 g1 o1 w
    | false => exact w G0 H0 σ G1 H1 Q (s.on g1 o1) (xx.on g1 o1) fun b G2 H2 g2 o2 p => q b G2 H2 (g1.trans o1 g2) o2 p
theorem wt_not {P : Bool → Prop} (h : WTx K B X tt δ fun c => P (!c)) : WTx K B X (tNot tt) δ P := fun G0 H0 σ G H Q s xx q =>
  h G0 H0 σ G H _ s xx fun c G1 H1 g1 o1 w => q (!c) G1 H1 g1 o1 w
theorem wt_yes {P : Bool → Prop} (h : P true) : WTx K B X tYes δ P := fun _ _ _ G H _ s _ q => q true G H Go.refl s.ok h
theorem we_chain {tc : TE} {r r' : R2} (h : WEx K B X ta δ fun a => WEx K B X tb δ fun b => RO K B r a b fun z => ∃ k, z = .bl k ∧ if k = true then WEx K B X tc δ (fun c => RO K B r' b c P) else P (.bl false)) : WEx K B X (tChain r r' ta tb tc) δ P := fun G0 H0 σ G H Q s xx q =>
  h G0 H0 σ G H _ s xx fun x a G1 H1 g1 o1 hx wb => wb G0 H0 σ G1 H1 _ (s.on g1 o1) (xx.on g1 o1) fun y b G2 H2 g2 o2 hy rr => rr G2 H2 x y _ o2 (hx.mono g2.s) hy fun z d G3 H3 g3 o3 hz ⟨k, e, w⟩ => by
    subst e
    cases hz
    refine ⟨k, rfl, ?_⟩
    have q3 := ((q.on g1 o1).on g2 o2).on g3 o3
    cases k with
    | true => exact w G0 H0 σ G3 H3 _ (((s.on g1 o1).on g2 o2).on g3 o3) (((xx.on g1 o1).on g2 o2).on g3 o3) fun c' e' G4 H4 g4 o4 hc rr' => rr' G4 H4 y c' Q o4 ((hy.mono g3.s).mono g4.s) hc (q3.on g4 o4)
    | false => exact q3.nil o3 (.bl false) w
theorem wa_nil {P : List D → Prop} (p : P []) : WAx K B X tNil δ P := fun _ _ _ G H _ s _ q => q [] [] G H Go.refl s.ok .nil p
theorem wa_cons {tr : TA} {P : List D → Prop} (h : WEx K B X ta δ fun a => WAx K B X tr δ fun ds => P (a :: ds)) : WAx K B X (tCons ta tr) δ P := fun G0 H0 σ G H Q s xx q =>
  h G0 H0 σ G H _ s xx fun x a G1 H1 g1 o1 hx w => w G0 H0 σ G1 H1 _ (s.on g1 o1) (xx.on g1 o1) fun vs ds G2 H2 g2 o2 hs p => q (x :: vs) (a :: ds) G2 H2 (g1.trans o1 g2) o2 (.cons (hx.mono g2.s) hs) p
theorem we_tup {t : TA} (h : WAx K B X t δ fun ds => ds.length ≤ 1000 ∧ P (.tup ds)) : WEx K B X (zTup t) δ P := fun G0 H0 σ G H Q s xx q =>
  h G0 H0 σ G H _ s xx fun vs ds G1 H1 g1 o1 hs ⟨l, p⟩ => ⟨by rw [hs.length]; exact Nat.le_trans l (by decide), fun a ob ha hd => (q.on g1 o1).new o1 nt_tup ha (.tup ⟨upd_same, hd⟩ (hs.mono (same_upd (o1.fresh ha)))) p⟩
theorem we_lst {t : TA} (h : WAx K B X t δ fun ds => ds.length ≤ 1000 ∧ P (.lst ds)) : WEx K B X (tLst t) δ P := fun G0 H0 σ G H Q s xx q =>
  h G0 H0 σ G H _ s xx fun vs ds G1 H1 g1 o1 hs ⟨l, p⟩ => ⟨by rw [hs.length]; exact Nat.le_trans l (by decide), fun a ha => (q.on g1 o1).new o1 nt_lst ha (.lst upd_same (hs.mono (same_upd (o1.fresh ha)))) p⟩
theorem we_cb {r : List V → Hp → VK → Prop} {t : TA} (h : WAx K B X t δ fun ds => RC K B r ds P) : WEx K B X (tCB r t) δ P := fun G0 H0 σ G H Q s xx q =>
  h G0 H0 σ G H _ s xx fun vs ds G1 H1 g1 o1 hs rr => rr G1 H1 vs Q o1 hs (q.on g1 o1)
theorem we_call {pre : List D → Prop} {post : List D → D → Prop} {E : XK} {t : TA} (h : WAx K B X t δ fun ds => pre ds ∧ ∀ d, post ds d → P d) : WEx K B X (tCall (SpD K pre post) [] E t) δ P := fun G0 H0 σ G H Q s xx q =>
  h G0 H0 σ G H _ s xx fun vs ds G1 H1 g1 o1 hs ⟨p, m⟩ => by
    rw [List.append_nil]
    exact ⟨B, G1, ds, o1, hs, p, fun v d G2 H2 g2 o2 hd pd => (q.on g1 o1) v d G2 H2 g2 o2 hd (m d pd)⟩
theorem we_bm {T : String} {r : V → List V → Hp → VK → Prop} {to : TE} {t : TA} (hT : ∀ G H x z, Ok B G H → Dd K B G x (.str z) → tyV K T x H) (h : WEx K B X to δ fun a => (∃ z, a = .str z) ∧ WAx K B X t δ fun ds => RM K B r a ds P) : WEx K B X (tBM K T r to t) δ P := fun G0 H0 σ G H Q s xx q =>
  h G0 H0 σ G H _ s xx fun x a G1 H1 g1 o1 hx ⟨⟨z, e⟩, w⟩ => by
    subst e
    exact ⟨hT G1 H1 x z o1 hx, w G0 H0 σ G1 H1 _ (s.on g1 o1) (xx.on g1 o1) fun vs ds G2 H2 g2 o2 hs rr => rr G2 H2 x vs Q o2 (hx.mono g2.s) hs ((q.on g1 o1).on g2 o2)⟩
theorem we_bm0 {T : String} {r : V → List V → Hp → VK → Prop} {to : TE} (hT : ∀ G H x z, Ok B G H → Dd K B G x (.str z) → tyV K T x H) (h : WEx K B X to δ fun a => (∃ z, a = .str z) ∧ RM K B r a [] P) : WEx K B X (tBM0 K T r to) δ P := fun G0 H0 σ G H Q s xx q =>
  h G0 H0 σ G H _ s xx fun x a G1 H1 g1 o1 hx ⟨⟨z, e⟩, w⟩ => by
    subst e
    exact ⟨hT G1 H1 x z o1 hx, w G1 H1 x [] Q o1 hx .nil (q.on g1 o1)⟩
theorem wo_none {P : Option Int → Prop} (p : P none) : WOx K B X tNoPart δ P := fun _ _ _ G H _ s _ q => q none G H Go.refl s.ok p
theorem wo_some {P : Option Int → Prop} (h : WEx K B X te δ fun a => ∃ i, a = .int i ∧ P (some i)) : WOx K B X (tPart te) δ P := fun G0 H0 σ G H Q s xx q =>
  h G0 H0 σ G H _ s xx fun x a G1 H1 g1 o1 hx ⟨i, e, p⟩ => by
    subst e
    cases hx
    exact ⟨i, rfl, q (some i) G1 H1 g1 o1 p⟩
theorem we_sl {r : V → Option Int → Option Int → Hp → VK → Prop} {tl th : TO} (h : WEx K B X te δ fun a => WOx K B X tl δ fun lo => WOx K B X th δ fun hi => RS K B r a lo hi P) : WEx K B X (tSl r te tl th) δ P := fun G0 H0 σ G H Q s xx q =>
  h G0 H0 σ G H _ s xx fun x a G1 H1 g1 o1 hx w => w G0 H0 σ G1 H1 _ (s.on g1 o1) (xx.on g1 o1) fun lo G2 H2 g2 o2 w2 => w2 G0 H0 σ G2 H2 _ ((s.on g1 o1).on g2 o2) ((xx.on g1 o1).on g2 o2) fun hi G3 H3 g3 o3 rr =>
    rr G3 H3 x Q o3 ((hx.mono g2.s).mono g3.s) (((q.on g1 o1).on g2 o2).on g3 o3)

/-! ### statements -/
variable {O : Out} {t u : TS}
theorem ws_seq (h : WS K B t δ { O with nx := fun δ1 => WS K B u δ1 O }) : WS K B (tSeq t u) δ O := fun G0 H0 σ G H E s xx n r b c =>
  h G0 H0 σ G H { E with nx := u E } s xx (fun σ1 δ1 G1 H1 m s1 w => w G0 H0 σ1 G1 H1 E s1 (xx.on m) (fun σ2 δ2 G2 H2 m2 => n σ2 δ2 G2 H2 (m.trans m2)) r (fun σ2 δ2 G2 H2 m2 => b σ2 δ2 G2 H2 (m.trans m2)) (fun σ2 δ2 G2 H2 m2 => c σ2 δ2 G2 H2 (m.trans m2))) r b c
theorem ws_next (h : O.nx δ) : WS K B tNext δ O := fun _ _ σ G H _ s _ n _ _ _ => n σ δ G H (Same.refl _) s h
theorem ws_break (h : O.bk δ) : WS K B tBreak δ O := fun _ _ σ G H _ s _ _ _ b _ => b σ δ G H (Same.refl _) s h
theorem ws_cont (h : O.ct δ) : WS K B tCont δ O := fun _ _ σ G H _ s _ _ _ _ c => c σ δ G H (Same.refl _) s h
theorem ws_ret (h : WEx K B O.x te δ O.rt) : WS K B (tRet te) δ O := fun G0 H0 σ G H E s xx _ r _ _ => h G0 H0 σ G H _ s (xx.ct s) fun v d G1 H1 g o hd p => r.1 v d G1 H1 (s.go.trans s.ok g) o hd p
theorem ws_retN (h : O.rt .non) : WS K B tRetN δ O := fun _ _ _ G H _ s _ _ r _ _ => r.1 .non .non G H s.go s.ok .non h
theorem ws_if (h : WTx K B O.x tt δ fun c => if c = true then WS K B t δ O else WS K B u δ O) : WS K B (tIfS tt t u) δ O := fun G0 H0 σ G H E s xx n r b c =>
  h G0 H0 σ G H _ s (xx.ct s) fun k G1 H1 g1 o1 w => by
    cases k with
    | true => exact w G0 H0 σ G1 H1 E (s.on g1 o1) (xx.on g1.s) (fun σ2 δ2 G2 H2 m2 => n σ2 δ2 G2 H2 (g1.s.trans m2)) r (fun σ2 δ2 G2 H2 m2 => b σ2 δ2 G2 H2 (g1.s.trans m2)) (fun σ2 δ2 G2 H2 m2 => c σ2 δ2 G2 H2 (g1.s.trans m2))
    | false => exact w G0 H0 σ G1 H1 E (s.on g1 o1) (xx.on g1.s) (fun σ2 δ2 G2 H2 m2 => n σ2 δ2 G2 H2 (g1.s.trans m2)) r (fun σ2 δ2 G2 H2 m2 => b σ2 δ2 G2 H2 (g1.s.trans m2)) (fun σ2 δ2 G2 H2 m2 => c σ2 δ2 G2 H2 (g1.s.trans m2))
theorem ws_set {i : Nat} (h : WEx K B O.x te δ fun d => O.nx (δ.set i (.val d))) : WS K B (tAsg te (gName i)) δ O := fun G0 H0 σ G H E s xx n _ _ _ =>
  h G0 H0 σ G H _ s (xx.ct s) fun v d G1 H1 g o hd p => n _ _ G1 H1 g.s ((s.on g o).setVal i hd) p
theorem ws_drop (h : WEx K B O.x te δ fun _ => O.nx δ) : WS K B (tDrop te) δ O := fun G0 H0 σ G H E s xx n _ _ _ =>
  h G0 H0 σ G H _ s (xx.ct s) fun v d G1 H1 g o hd p => n _ _ G1 H1 g.s (s.on g o) p
theorem ws_par {i j : Nat} {ta : TA} (h : WAx K B O.x ta δ fun ds => ∃ a b, ds = [a, b] ∧ O.nx ((δ.set i (.val a)).set j (.val b))) : WS K B (tPar i j ta) δ O := fun G0 H0 σ G H E s xx n _ _ _ =>
  h G0 H0 σ G H _ s (xx.ct s) fun vs ds G1 H1 g o hs ⟨a, b, e, p⟩ => by
    subst e
    cases hs with
    | cons h1 t1 =>
      cases t1 with
      | cons h2 t2 =>
        cases t2
        exact ⟨_, _, rfl, n _ _ G1 H1 g.s (((s.on g o).setVal i h1).setVal j h2) p⟩
end
end Dl
namespace Dl
open PySem L2
section
variable {K : PySem.W.Frag} {B : Bt} {δ : List Sd} {P P' : D → Prop} {ta tb te : TE} {tt tu : TT} {O : Out} {X : Xc}
theorem we_cls {n : String} (p : P (.cls n)) : WEx K B X (tC (.ty n)) δ P := fun _ _ _ _ _ _ s _ q => q.nil s.ok (.cls n) p
/-! ### operations on values -/
theorem ro_int0 {f : Int → Int → Int} {i j : Int} (p : P (.int (f i j))) : RO K B (rI0 fun i j => .int (f i j)) (.int i) (.int j) P := fun _ _ _ _ _ o hx hy q => by
  cases hx; cases hy
  exact ⟨i, j, rfl, rfl, q.nil o (.int _) p⟩
theorem ro_bl0 {f : Int → Int → Bool} {i j : Int} (p : P (.bl (f i j))) : RO K B (rI0 fun i j => .bl (f i j)) (.int i) (.int j) P := fun _ _ _ _ _ o hx hy q => by
  cases hx; cases hy
  exact ⟨i, j, rfl, rfl, q.nil o (.bl _) p⟩
theorem ro_int {C : Int → Int → Prop} {f : Int → Int → Int} {i j : Int} (c : C i j) (p : P (.int (f i j))) : RO K B (rI C fun i j => .int (f i j)) (.int i) (.int j) P := fun _ _ _ _ _ o hx hy q => by
  cases hx; cases hy
  exact ⟨i, j, rfl, rfl, c, q.nil o (.int _) p⟩
theorem r1_int {f : Int → Int} {i : Int} (p : P (.int (f i))) : R1 K B (rU fun i => .int (f i)) (.int i) P := fun _ _ _ _ o hx q => by
  cases hx
  exact ⟨i, rfl, q.nil o (.int _) p⟩
/-- the flat ones as values -/
def D.v : D → V
  | .non => .non | .bl b => .bl b | .int i => .int i | .str z => .str z | .cls n => .ty n | _ => .ref 0
def D.flat : D → Bool
  | .non => true | .bl _ => true | .int _ => true | .str _ => true | _ => false
theorem Dd.flat {G : Hp} {v : V} {d : D} (h : Dd K B G v d) (f : d.flat = true) : v = d.v := by
  cases h <;> first | rfl | cases f
theorem ro_eq {a b : D} (fa : a.flat = true) (fb : b.flat = true) (s : scal a.v b.v = true) (p : P (.bl (decide (a.v = b.v)))) : RO K B rEq a b P := fun _ _ _ _ _ o hx hy q => by
  rw [hx.flat fa, hy.flat fb]
  exact ⟨s, q.nil o (.bl _) p⟩
theorem ro_ne {a b : D} (fa : a.flat = true) (fb : b.flat = true) (s : scal a.v b.v = true) (p : P (.bl (!decide (a.v = b.v)))) : RO K B rNe a b P := fun _ _ _ _ _ o hx hy q => by
  rw [hx.flat fa, hy.flat fb]
  exact ⟨s, q.nil o (.bl _) p⟩
theorem ro_eqI {i j : Int} (p : P (.bl (decide (i = j)))) : RO K B rEq (.int i) (.int j) P := ro_eq rfl rfl rfl (by
  have e : decide (D.v (.int i) = D.v (.int j)) = decide (i = j) := by
    apply decide_eq_decide.mpr
    exact ⟨fun h => V.int.inj h, fun h => by rw [h]⟩
  rw [e]; exact p)
theorem ro_neI {i j : Int} (p : P (.bl (!decide (i = j)))) : RO K B rNe (.int i) (.int j) P := ro_ne rfl rfl rfl (by
  have e : decide (D.v (.int i) = D.v (.int j)) = decide (i = j) := by
    apply decide_eq_decide.mpr
    exact ⟨fun h => V.int.inj h, fun h => by rw [h]⟩
  rw [e]; exact p)
theorem ro_eqB {i j : Bool} (p : P (.bl (decide (i = j)))) : RO K B rEq (.bl i) (.bl j) P := ro_eq rfl rfl rfl (by
  have e : decide (D.v (.bl i) = D.v (.bl j)) = decide (i = j) := by
    apply decide_eq_decide.mpr
    exact ⟨fun h => V.bl.inj h, fun h => by rw [h]⟩
  rw [e]; exact p)
theorem ro_neB {i j : Bool} (p : P (.bl (!decide (i = j)))) : RO K B rNe (.bl i) (.bl j) P := ro_ne rfl rfl rfl (by
  have e : decide (D.v (.bl i) = D.v (.bl j)) = decide (i = j) := by
    apply decide_eq_decide.mpr
    exact ⟨fun h => V.bl.inj h, fun h => by rw [h]⟩
  rw [e]; exact p)
theorem ro_eqS {i j : Str} (p : P (.bl (decide (i = j)))) : RO K B rEq (.str i) (.str j) P := ro_eq rfl rfl rfl (by
  have e : decide (D.v (.str i) = D.v (.str j)) = decide (i = j) := by
    apply decide_eq_decide.mpr
    exact ⟨fun h => V.str.inj h, fun h => by rw [h]⟩
  rw [e]; exact p)
theorem ro_neS {i j : Str} (p : P (.bl (!decide (i = j)))) : RO K B rNe (.str i) (.str j) P := ro_ne rfl rfl rfl (by
  have e : decide (D.v (.str i) = D.v (.str j)) = decide (i = j) := by
    apply decide_eq_decide.mpr
    exact ⟨fun h => V.str.inj h, fun h => by rw [h]⟩
  rw [e]; exact p)
theorem sz1000 {n : Nat} (h : n ≤ 1000) : n ≤ sizeLine := Nat.le_trans h (by decide)
/-- items -/
theorem atI_dd {G : Hp} {vs : List V} {ds : List D} {i : Int} {d : D} (h : Dds K B G vs ds) (e : atI ds i = some d) : ∃ v, atI vs i = some v ∧ Dd K B G v d := by
  unfold atI at e ⊢
  rw [h.length]
  cases q : ixN ds.length i with
  | none => rw [q] at e; cases e
  | some j =>
    rw [q] at e
    exact h.get e
theorem ro_ixL {ds : List D} {i : Int} {d : D} (e : atI ds i = some d) (p : P d) : RO K B (rIxL K) (.lst ds) (.int i) P := fun _ _ _ _ _ o hx hy q => by
  cases hy
  cases hx with
  | lst h t =>
    obtain ⟨v, h1, h2⟩ := atI_dd t e
    exact ⟨_, _, i, v, rfl, rfl, SqL.of (o.u _ _ h), h1, q.nil o h2 p⟩
theorem ro_ixT {ds : List D} {i : Int} {d : D} (e : atI ds i = some d) (p : P d) : RO K B (rIxT K) (.tup ds) (.int i) P := fun _ _ _ _ _ o hx hy q => by
  cases hy
  cases hx with
  | tup h t =>
    obtain ⟨v, h1, h2⟩ := atI_dd t e
    exact ⟨_, _, i, v, rfl, rfl, SqT.ofZ (o.u _ _ h.1), h1, q.nil o h2 p⟩
theorem ro_ixS {z : Str} {i : Int} {c : Nat} (l : z.length ≤ 100000) (e : atI z.cps.toList i = some c) (p : P (.str ⟨#[c]⟩)) : RO K B rIxS (.str z) (.int i) P := fun _ _ _ _ _ o hx hy q => by
  cases hy; cases hx
  exact ⟨z, i, c, rfl, rfl, Nat.le_trans l (by decide), e, q.nil o (.str _) p⟩
theorem ro_ixsL {ds : List D} {i : Int} {d : D} (e : atI ds i = some d) (p : P d) : RO K B (rIx K) (.lst ds) (.int i) P := fun G H x y Q o hx hy q => .inl (ro_ixL e p G H x y Q o hx hy q)
theorem ro_ixsT {ds : List D} {i : Int} {d : D} (e : atI ds i = some d) (p : P d) : RO K B (rIx K) (.tup ds) (.int i) P := fun G H x y Q o hx hy q => .inr (.inl (ro_ixT e p G H x y Q o hx hy q))
theorem ro_ixsS {z : Str} {i : Int} {c : Nat} (l : z.length ≤ 100000) (e : atI z.cps.toList i = some c) (p : P (.str ⟨#[c]⟩)) : RO K B (rIx K) (.str z) (.int i) P := fun G H x y Q o hx hy q => .inr (.inr (ro_ixS l e p G H x y Q o hx hy q))
theorem ro_inS {i j : Str} (p : P (.bl (!(Builtin.Str.occurrences j i 0 j.length 1).isEmpty))) : RO K B (fun x y H Q => ∃ i j, x = .str i ∧ y = .str j ∧ Q (.bl (!(Builtin.Str.occurrences j i 0 j.length 1).isEmpty)) H) (.str i) (.str j) P := fun _ _ _ _ _ o hx hy q => by
  cases hx; cases hy
  exact ⟨i, j, rfl, rfl, q.nil o (.bl _) p⟩
theorem ro_addS {i j : Str} (l : i.length + j.length ≤ 100000) (p : P (.str (i ++ j))) : RO K B (fun x y H Q => ∃ i j, x = .str i ∧ y = .str j ∧ i.length + j.length ≤ sizeLine ∧ Q (.str (i ++ j)) H) (.str i) (.str j) P := fun _ _ _ _ _ o hx hy q => by
  cases hx; cases hy
  exact ⟨i, j, rfl, rfl, Nat.le_trans l (by decide), q.nil o (.str _) p⟩
theorem ro_cat {ds es : List D} (l : ds.length + es.length ≤ 1000) (p : P (.lst (ds ++ es))) : RO K B rCat (.lst ds) (.lst es) P := fun _ _ _ _ _ o hx hy q => by
  cases hx with
  | lst h t =>
    cases hy with
    | lst h' t' => exact ⟨_, _, _, _, rfl, rfl, o.u _ _ h, o.u _ _ h', sz1000 (by rw [t.length, t'.length]; exact l), fun a ha => q.new o nt_lst ha (.lst upd_same ((t.append t').mono (same_upd (o.fresh ha)))) p⟩
theorem ro_rep {ds : List D} {k : Int} (h1 : 0 ≤ k) (h2 : k ≤ 1000) (l : ds.length * k.toNat ≤ 1000) (p : P (.lst (List.replicate k.toNat ds).flatten)) : RO K B rRep (.lst ds) (.int k) P := fun _ _ _ _ _ o hx hy q => by
  cases hy
  cases hx with
  | lst h t => exact ⟨_, k, _, rfl, rfl, o.u _ _ h, by omega, by omega, sz1000 (by rw [t.length]; exact l), fun a ha => q.new o nt_lst ha (.lst upd_same ((t.repl _).mono (same_upd (o.fresh ha)))) p⟩
theorem ro_catA {ds es : List D} (l : ds.length + es.length ≤ 1000) (p : P (.tup (ds ++ es))) : RO K B (zCat K) (.tup ds) (.tup es) P := fun _ _ _ _ _ o hx hy q => by
  have hx0 := hx
  have hy0 := hy
  cases hx with
  | tup h t =>
    cases hy with
    | tup h' t' =>
      refine ⟨_, _, _, _, rfl, rfl, SqT.ofZ (o.u _ _ h.1), SqT.ofZ (o.u _ _ h'.1), sz1000 (by rw [t.length, t'.length]; exact l), fun e => ?_, fun _ e => ?_, fun _ _ a ob ha hd => q.new o nt_tup ha (.tup ⟨upd_same, hd⟩ ((t.append t').mono (same_upd (o.fresh ha)))) p⟩
      · have e2 : ds = [] := by
          have := t.length; rw [e] at this; exact List.length_eq_zero_iff.mp this.symm
        subst e2
        exact q.nil o hy0 p
      · have e2 : es = [] := by
          have := t'.length; rw [e] at this; exact List.length_eq_zero_iff.mp this.symm
        subst e2
        rw [List.append_nil] at p
        exact q.nil o hx0 p
/-- slices -/
def cutD (ds : List D) (lo hi : Option Int) : List D := (ds.drop (HT.sIx ds.length 0 lo)).take (HT.sIx ds.length ds.length hi - HT.sIx ds.length 0 lo)
theorem cutV_dd {G : Hp} {vs : List V} {ds : List D} {lo hi : Option Int} (h : Dds K B G vs ds) : Dds K B G (cutV vs lo hi) (cutD ds lo hi) := by
  unfold cutV cutD
  rw [h.length]
  exact (h.drop _).take _
theorem rs_L {ds : List D} {lo hi : Option Int} (p : P (.lst (cutD ds lo hi))) : RS K B (rSlL K) (.lst ds) lo hi P := fun _ _ _ _ o hx q => by
  cases hx with
  | lst h t => exact ⟨_, _, rfl, SqL.of (o.u _ _ h), fun a ha => q.new o nt_lst ha (.lst upd_same ((cutV_dd t).mono (same_upd (o.fresh ha)))) p⟩
theorem rs_T {ds : List D} {lo hi : Option Int} (p : P (.tup (cutD ds lo hi))) : RS K B (zSl K) (.tup ds) lo hi P := fun _ _ _ _ o hx q => by
  have hx0 := hx
  cases hx with
  | tup h t =>
    refine ⟨_, _, rfl, SqT.ofZ (o.u _ _ h.1), fun e => ?_, fun _ a ob ha hd => q.new o nt_tup ha (.tup ⟨upd_same, hd⟩ ((cutV_dd t).mono (same_upd (o.fresh ha)))) p⟩
    rw [t.length] at e
    have e2 : cutD ds lo hi = ds := by
      show (ds.drop (HT.sIx ds.length 0 lo)).take (HT.sIx ds.length ds.length hi - HT.sIx ds.length 0 lo) = ds
      rw [e.1, e.2]
      simp
    rw [e2] at p
    exact q.nil o hx0 p
theorem rs_S {z : Str} {lo hi : Option Int} (l : z.length ≤ 100000) (p : P (.str (cutS z lo hi))) : RS K B rSlS (.str z) lo hi P := fun _ _ _ _ o hx q => by
  cases hx
  exact ⟨z, rfl, Nat.le_trans l (by decide), q.nil o (.str _) p⟩
/-! ### calls of built-ins -/
def D.tyn : D → String
  | .non => "NoneType" | .bl _ => "bool" | .int _ => "int" | .str _ => "str" | .tup _ => "tuple" | .lst _ => "list" | .dic _ _ => "dict" | .cls _ => "type" | .box => "list" | .exn _ _ _ => "type" | .obj _ _ _ => "object" | .adr _ => "object"
def D.isCls : D → Bool
  | .cls _ => true | .exn _ _ _ => true | .obj _ _ _ => true | .adr _ => true | _ => false
theorem Dd.tyx {G H : Hp} {v : V} {d : D} (o : Ok B G H) (h : Dd K B G v d) (nc : d.isCls = false) : TyX K H v (.type d.tyn) := by
  cases h with
  | non => exact .base .non
  | bl b => exact .base (.bl b)
  | int i => exact .base (.int i)
  | str z => exact .base (.str z)
  | tup h _ => exact .fTuple (o.u _ _ h.1)
  | lst h _ => exact .base (.lst (o.u _ _ h))
  | dic h _ => exact .base (.dK (o.u _ _ h))
  | cls n => cases nc
  | exn _ _ _ => cases nc
  | obj _ _ => cases nc
  | adr _ => cases nc
  | box =>
    obtain ⟨_, _, _, _, _, _, e, _⟩ := o.x
    exact .base (.lst e)
theorem rc_isi {a : D} {n : String} {b : Bool} (nc : a.isCls = false) (e : kitB a.tyn n = some b) (p : P (.bl b)) : RC K B (rIsi K) [a, .cls n] P := fun _ _ _ _ o hs q => by
  cases hs with
  | cons h1 t =>
    cases t with
    | cons h2 t2 =>
      cases t2; cases h2
      exact ⟨_, _, _, _, b, rfl, .ty n, h1.tyx o nc, kit_ty e, q.nil o (.bl b) p⟩
theorem rc_isi2 {a : D} {n m : String} {b c : Bool} (nc : a.isCls = false) (e1 : kitB a.tyn n = some b) (e2 : kitB a.tyn m = some c) (p : P (.bl (b || c))) : RC K B (zIsi2 K) [a, .tup [.cls n, .cls m]] P := fun G H _ _ o hs q => by
  cases hs with
  | cons h1 t =>
    cases t with
    | cons h2 t2 =>
      cases t2
      cases h2 with
      | tup hg ht =>
        cases ht with
        | cons k1 t3 =>
          cases t3 with
          | cons k2 t4 =>
            cases t4; cases k1; cases k2
            refine ⟨_, _, _, _, _, [.type n, .type m], (b || c), rfl, o.u _ _ hg.1, .cons (.ty n) (.cons (.ty m) .nil), h1.tyx o nc, ?_, q.nil o (.bl _) p⟩
            have f1 : PySem.W.kitOne K (.type a.tyn) (.type n) = some b := kit_ty e1
            have f2 : PySem.W.kitOne K (.type a.tyn) (.type m) = some c := kit_ty e2
            cases b <;> cases c <;> simp [PySem.W.kitAny, f1, f2]
def D.len? : D → Option Nat
  | .str z => some z.length | .tup ds => some ds.length | .lst ds => some ds.length | _ => none
theorem rc_len {a : D} {n : Nat} (e : a.len? = some n) (l : n ≤ 100000) (p : P (.int n)) : RC K B (fun xs H Q => ∃ x n, xs = [x] ∧ LenV K x H n ∧ Q (.int n) H) [a] P := fun _ _ _ _ o hs q => by
  cases hs with
  | cons h t =>
    cases t
    cases h with
    | str z => cases e; exact ⟨_, _, rfl, ⟨Nat.le_trans l (by decide), rfl⟩, q.nil o (.int _) p⟩
    | tup h t => cases e; exact ⟨_, _, rfl, .inr ⟨_, SqT.ofZ (o.u _ _ h.1), t.length.symm⟩, q.nil o (.int _) p⟩
    | lst h t => cases e; exact ⟨_, _, rfl, .inl ⟨_, SqL.of (o.u _ _ h), t.length.symm⟩, q.nil o (.int _) p⟩
    | _ => cases e
theorem rc_abs {i : Int} (p : P (.int (if i < 0 then -i else i))) : RC K B (fun xs H Q => ∃ i, xs = [.int i] ∧ Q (.int (if i < 0 then -i else i)) H) [.int i] P := fun _ _ _ _ o hs q => by
  cases hs with
  | cons h t => cases t; cases h; exact ⟨i, rfl, q.nil o (.int _) p⟩
theorem rc_int1 {i : Int} (p : P (.int i)) : RC K B (fun xs H Q => (∃ i, xs = [.int i] ∧ Q (.int i) H) ∨ ∃ k, xs = [.bl k] ∧ Q (.int (if k then 1 else 0)) H) [.int i] P := fun _ _ _ _ o hs q => by
  cases hs with
  | cons h t => cases t; cases h; exact .inl ⟨i, rfl, q.nil o (.int _) p⟩
theorem rc_intS {a : Str} {n : Int} (e : PySem.intText? a = some n) (l : a.length ≤ 640) (p : P (.int n)) : RC K B (fun xs H Q => ∃ a n, xs = [.str a] ∧ PySem.intText? a = some n ∧ a.length ≤ 640 ∧ Q (.int n) H) [.str a] P := fun _ _ _ _ o hs q => by
  cases hs with
  | cons h t => cases t; cases h; exact ⟨a, n, rfl, e, l, q.nil o (.int _) p⟩
theorem rc_gcd {i j : Int} (p : P (.int ((Nat.gcd i.natAbs j.natAbs : Nat) : Int))) : RC K B rGcd [.int i, .int j] P := fun _ _ _ _ o hs q => by
  cases hs with
  | cons h t =>
    cases t with
    | cons h2 t2 => cases t2; cases h; cases h2; exact ⟨i, j, rfl, q.nil o (.int _) p⟩
theorem rc_all {bs : List Bool} (p : P (.bl (bs.all id))) : RC K B (rAll K) [.lst (bs.map D.bl)] P := fun _ _ _ _ o hs q => by
  cases hs with
  | cons h t =>
    cases t
    cases h with
    | lst h t => rw [t.bls] at h; exact ⟨_, bs, rfl, SqL.of (o.u _ _ h), q.nil o (.bl _) p⟩
theorem rc_any {bs : List Bool} (p : P (.bl (bs.any id))) : RC K B (rAny K) [.lst (bs.map D.bl)] P := fun _ _ _ _ o hs q => by
  cases hs with
  | cons h t =>
    cases t
    cases h with
    | lst h t => rw [t.bls] at h; exact ⟨_, bs, rfl, SqL.of (o.u _ _ h), q.nil o (.bl _) p⟩
theorem rc_listOf {ds : List D} (p : P (.lst ds)) : RC K B (fun xs H Q => ∃ p ys, xs = [.ref p] ∧ (SqL K H p ys ∨ SqT K H p ys) ∧ ∀ l, H l = none → Q (.ref l) (upd H l (.lst ys))) [.lst ds] P ∧ RC K B (fun xs H Q => ∃ p ys, xs = [.ref p] ∧ (SqL K H p ys ∨ SqT K H p ys) ∧ ∀ l, H l = none → Q (.ref l) (upd H l (.lst ys))) [.tup ds] P := by
  constructor
  · intro _ _ _ _ o hs q
    cases hs with
    | cons h t =>
      cases t
      cases h with
      | lst h t => exact ⟨_, _, rfl, .inl (SqL.of (o.u _ _ h)), fun l hl => q.new o nt_lst hl (.lst upd_same (t.mono (same_upd (o.fresh hl)))) p⟩
  · intro _ _ _ _ o hs q
    cases hs with
    | cons h t =>
      cases t
      cases h with
      | tup h t => exact ⟨_, _, rfl, .inr (SqT.ofZ (o.u _ _ h.1)), fun l hl => q.new o nt_lst hl (.lst upd_same (t.mono (same_upd (o.fresh hl)))) p⟩
/-! ### methods of texts -/
theorem ty_str {G H : Hp} {x : V} {z : Str} (_ : Ok B G H) (h : Dd K B G x (.str z)) : tyV K "str" x H := by
  cases h; rfl
theorem rm_join {a : Str} {ys : List Str} (l : (ys.map (·.length)).sum + ys.length * a.length ≤ 16777216) (p : P (.str (Txt.join a ys))) : RM K B (fun x xs H Q => ∃ a p, ∃ ys : List Str, x = .str a ∧ xs = [.ref p] ∧ (SqL K H p (ys.map V.str) ∨ SqT K H p (ys.map V.str)) ∧ (ys.map (·.length)).sum + ys.length * a.length ≤ 16777216 ∧ Q (.str (Txt.join a ys)) H) (.str a) [.lst (ys.map D.str)] P := fun _ _ _ _ _ o hx hs q => by
  cases hx
  cases hs with
  | cons h t =>
    cases t
    cases h with
    | lst h t => rw [t.strs] at h; exact ⟨a, _, ys, rfl, rfl, .inl (SqL.of (o.u _ _ h)), l, q.nil o (.str _) p⟩
end
end Dl
namespace Dl
open PySem L2
section
variable (K : PySem.W.Frag) (B : Bt)
/-- what an iterator hands out, by data -/
def ItOk (J : It) (its : List D) (G1 : Hp) : Prop := ∀ G H i, Same G1 G → Ok B G H → (i < its.length → J.go i H) ∧ (∀ x H', i < its.length → J.yld i H x H' → ∃ d G', its[i]? = some d ∧ Go B G H G' H' ∧ Ok B G' H' ∧ Dd K B G' x d) ∧ (i = its.length → J.stop i H)
def WIx (X : Xc) (wi : TI) (δ : List Sd) (P : List D → Prop) : Prop := ∀ G0 H0 σ G H (R : It → Hp → Prop), Stt K B G0 H0 G H σ δ → CtX K B X σ δ G H → (∀ J its G1 H1, Go B G H G1 H1 → Ok B G1 H1 → ItOk K B J its G1 → P its → R J H1) → wi σ H R
abbrev WI (wi : TI) (δ : List Sd) (P : List D → Prop) : Prop := WIx K B {} wi δ P
end
section
variable {K : PySem.W.Frag} {B : Bt} {δ : List Sd} {P P' : D → Prop} {ta tb te : TE} {tt tu : TT} {O : Out} {X : Xc}
theorem it_list {G : Hp} {a : Addr} {vs : List V} {ds : List D} (h : G a = some (.lst vs)) (t : Dds K B G vs ds) : ItOk K B (Itl K a) ds G := by
  intro G1 H1 i s o
  have h1 : SqL K H1 a vs := SqL.of (o.u _ _ (s _ _ h))
  have l := t.length
  refine ⟨fun hi => ?_, fun x H' hi y => ?_, fun e => ⟨vs, h1, by omega⟩⟩
  · obtain ⟨v, e1, _⟩ := t.get (List.getElem?_eq_getElem hi)
    exact ⟨vs, v, h1, e1⟩
  · obtain ⟨rfl, f⟩ := y
    obtain ⟨d, e1, e2⟩ := t.get' (f vs h1)
    exact ⟨d, G1, e1, Go.refl, o, e2.mono s⟩
theorem it_tup {G : Hp} {a : Addr} {vs : List V} {ds : List D} {ob : Obj} (h : G a = some (.frz ob (.tup vs)) ∧ ob.dict = none) (t : Dds K B G vs ds) : ItOk K B (Itt K a) ds G := by
  intro G1 H1 i s o
  have h1 : SqT K H1 a vs := SqT.ofZ (o.u _ _ (s _ _ h.1))
  have l := t.length
  refine ⟨fun hi => ?_, fun x H' hi y => ?_, fun e => ⟨vs, h1, by omega⟩⟩
  · obtain ⟨v, e1, _⟩ := t.get (List.getElem?_eq_getElem hi)
    exact ⟨vs, v, h1, e1⟩
  · obtain ⟨rfl, f⟩ := y
    obtain ⟨d, e1, e2⟩ := t.get' (f vs h1)
    exact ⟨d, G1, e1, Go.refl, o, e2.mono s⟩
def signs (z : Str) : List D := z.cps.toList.map fun c => .str ⟨#[c]⟩
theorem it_str {G : Hp} {z : Str} : ItOk K B (Its z) (signs z) G := by
  intro G1 H1 i s o
  have l : (signs z).length = z.cps.size := by unfold signs; rw [List.length_map, Array.length_toList]
  refine ⟨fun hi => by show i < z.cps.size; omega, fun x H' hi y => ?_, fun e => by show z.cps.size ≤ i; omega⟩
  obtain ⟨rfl, c, e, rfl⟩ := y
  refine ⟨.str ⟨#[c]⟩, G1, ?_, Go.refl, o, .str _⟩
  unfold signs
  rw [List.getElem?_map, Array.getElem?_toList, e]
  rfl
def upto (lo : Int) (n : Nat) : List D := (List.range n).map fun (k : Nat) => .int (lo + (k : Int))
theorem it_range {G : Hp} {lo : Int} {n : Nat} : ItOk K B (Itr lo n) (upto lo n) G := by
  intro G1 H1 i s o
  have l : (upto lo n).length = n := by unfold upto; rw [List.length_map, List.length_range]
  refine ⟨fun hi => by show i < n; omega, fun x H' hi y => ?_, fun e => by show n ≤ i; omega⟩
  obtain ⟨rfl, rfl⟩ := y
  refine ⟨.int (lo + i), G1, ?_, Go.refl, o, .int _⟩
  unfold upto
  rw [List.getElem?_map, List.getElem?_range (by omega)]
  rfl
theorem wi_list {P : List D → Prop} (h : WEx K B X te δ fun d => ∃ ds, d = .lst ds ∧ P ds) : WIx K B X (iList K te) δ P := fun G0 H0 σ G H R s xx q =>
  h G0 H0 σ G H _ s xx fun x a G1 H1 g1 o1 hx ⟨ds, e, p⟩ => by
    subst e
    cases hx with
    | lst h t => exact ⟨_, rfl, ⟨_, SqL.of (o1.u _ _ h)⟩, q _ ds G1 H1 g1 o1 (it_list h t) p⟩
theorem wi_tup {P : List D → Prop} (h : WEx K B X te δ fun d => ∃ ds, d = .tup ds ∧ P ds) : WIx K B X (iTup K te) δ P := fun G0 H0 σ G H R s xx q =>
  h G0 H0 σ G H _ s xx fun x a G1 H1 g1 o1 hx ⟨ds, e, p⟩ => by
    subst e
    cases hx with
    | tup h t => exact ⟨_, rfl, ⟨_, SqT.ofZ (o1.u _ _ h.1)⟩, q _ ds G1 H1 g1 o1 (it_tup h t) p⟩
theorem wi_str {P : List D → Prop} (h : WEx K B X te δ fun d => ∃ z, d = .str z ∧ P (signs z)) : WIx K B X (iStr te) δ P := fun G0 H0 σ G H R s xx q =>
  h G0 H0 σ G H _ s xx fun x a G1 H1 g1 o1 hx ⟨z, e, p⟩ => by
    subst e
    cases hx
    exact ⟨z, rfl, q _ (signs z) G1 H1 g1 o1 it_str p⟩
/-- a for loop over names, by a word -/
theorem ws_for {wi : TI} {i : Nat} {t : TS} (h : WIx K B O.x wi δ fun its => ∃ I : Nat → List Sd → Prop, I 0 δ ∧ (∀ k d δ1, its[k]? = some d → I k δ1 → WS K B t (δ1.set i (.val d)) { nx := I (k + 1), rt := O.rt, bk := O.nx, ct := I (k + 1), x := O.x, ro := O.ro }) ∧ ∀ δ1, I its.length δ1 → O.nx δ1) : WS K B (tFor wi (gName i) t) δ O := fun G0 H0 σ G H E s xx n r b c =>
  h G0 H0 σ G H _ s (xx.ct s) fun J its G1 H1 g1 o1 it ⟨I, i0, turn, last⟩ => by
    refine ⟨fun k m σ H => m = its.length - k ∧ k ≤ its.length ∧ ∃ G δ1, Stt K B G0 H0 G H σ δ1 ∧ Same G1 G ∧ I k δ1, ⟨_, rfl, Nat.zero_le _, G1, δ, s.on g1 o1, Same.refl _, i0⟩, ?_⟩
    rintro k m σ2 H2 ⟨rfl, hk, G2, δ2, s2, sm, ik⟩
    obtain ⟨f1, f2, f3⟩ := it G2 H2 k sm s2.ok
    by_cases hlt : k < its.length
    · refine .inr ⟨f1 hlt, fun σ' H' => ∃ G δ1, Stt K B G0 H0 G H' σ' δ1 ∧ Same G1 G ∧ I (k + 1) δ1, fun σ' H' hN => ⟨its.length - (k + 1), by omega, rfl, hlt, hN⟩, fun x H' y => ?_⟩
      obtain ⟨d, G3, e1, g3, o3, hd⟩ := f2 x H' hlt y
      have s3 := (s2.on g3 o3).setVal i hd
      have sm3 := sm.trans g3.s
      refine turn k d δ2 e1 ik G0 H0 _ G3 H' _ s3 (xx.on (g1.s.trans sm3)) (fun σ4 δ4 G4 H4 m4 s4 p4 => ⟨G4, δ4, s4, sm3.trans m4, p4⟩) r (fun σ4 δ4 G4 H4 m4 s4 p4 => n _ _ _ _ ((g1.s.trans sm3).trans m4) s4 p4) (fun σ4 δ4 G4 H4 m4 s4 p4 => ⟨G4, δ4, s4, sm3.trans m4, p4⟩)
    · have ek : k = its.length := by omega
      subst ek
      exact .inl ⟨f3 rfl, n _ _ _ _ (g1.s.trans sm) s2 (last δ2 ik)⟩
end
end Dl
namespace Dl
open PySem PySem.Spec PyProof.Rows L2
section
variable {K : PySem.W.Frag} {B : Bt} {δ : List Sd} {P P' : D → Prop} {ta tb te : TE} {tt tu : TT} {O : Out} {X : Xc}
theorem wi_range1 {P : List D → Prop} {ta : TA} (h : WAx K B X ta δ fun ds => ∃ j : Int, ds = [.int j] ∧ -(2 ^ 62) ≤ j ∧ j < 2 ^ 62 ∧ P (upto 0 j.toNat)) : WIx K B X (iRng1 ta) δ P := fun G0 H0 σ G H R s xx q =>
  h G0 H0 σ G H _ s xx fun vs ds G1 H1 g1 o1 hs ⟨j, e, l1, l2, p⟩ => by
    subst e
    cases hs with
    | cons h t => cases t; cases h; exact ⟨j, rfl, l1, l2, q _ _ G1 H1 g1 o1 it_range p⟩
theorem wi_range2 {P : List D → Prop} {ta : TA} (h : WAx K B X ta δ fun ds => ∃ i j : Int, ds = [.int i, .int j] ∧ (-(2 ^ 62) ≤ i ∧ i < 2 ^ 62 ∧ -(2 ^ 62) ≤ j ∧ j < 2 ^ 62) ∧ P (upto i (j - i).toNat)) : WIx K B X (iRng2 ta) δ P := fun G0 H0 σ G H R s xx q =>
  h G0 H0 σ G H _ s xx fun vs ds G1 H1 g1 o1 hs ⟨i, j, e, l, p⟩ => by
    subst e
    cases hs with
    | cons h t =>
      cases t with
      | cons h2 t2 => cases t2; cases h; cases h2; exact ⟨i, j, rfl, l, q _ _ G1 H1 g1 o1 it_range p⟩
theorem wipe_set {σ : L2.St} {i : Nat} {v : V} : wipe ((wipe σ [i]).set i (some v)) [i] = wipe σ [i] := by
  show (((σ.set i none).set i (some v)).set i none) = σ.set i none
  rw [List.set_set, List.set_set]
/-- a comprehension of one clause over a name, by a word -/
theorem we_lc {wi : TI} {i : Nat} {te : TE} (h : WIx K B X wi δ fun its => its.length ≤ 1000 ∧ ∃ I : Nat → List D → Prop, I 0 [] ∧ (∀ k d acc, its[k]? = some d → I k acc → WT K B tt (δ.set i (.val d)) fun b => if b = true then WE K B te (δ.set i (.val d)) fun y => I (k + 1) (acc ++ [y]) else I (k + 1) acc) ∧ ∀ acc, I its.length acc → P (.lst acc)) :
    WEx K B X (tLc wi (gName i) tt te [i]) δ P := fun G0 H0 σ G H Q s xx q =>
  h G0 H0 σ G H _ s xx fun J its G1 H1 g1 o1 it ⟨hlen, I, i0, turn, last⟩ => by
    intro A hA
    have s1 := s.on g1 o1
    have q1 := q.on g1 o1
    have nAB := o1.neB hA
    have gA1 : G1 A = none := o1.fresh hA
    have nn : ∀ (a : Addr), H1 a ≠ none → a ≠ A := fun a h e => h (e ▸ hA)
    refine ⟨fun k m H => m = its.length - k ∧ k ≤ its.length ∧ ∃ G vs acc, Go B G1 H1 G H ∧ G A = none ∧ Ok B G H ∧ H A = some (.lst vs) ∧ Dds K B G vs acc ∧ acc.length ≤ k ∧ I k acc,
      ⟨_, rfl, Nat.zero_le _, G1, [], [], loose_go o1 hA, gA1, loose_ok o1 hA, upd_same, .nil, Nat.le_refl _, i0⟩, ?_⟩
    rintro k m H2 ⟨rfl, hk, G2, vs, acc, g2, gA, o2, hV, hD, hL, ik⟩
    obtain ⟨f1, f2, f3⟩ := it G2 H2 k g2.s o2
    have st : Stt K B G0 H0 G2 H2 σ δ := s1.on g2 o2
    by_cases hlt : k < its.length
    · refine .inr ⟨f1 hlt, fun H' => ∃ G vs acc, Go B G1 H1 G H' ∧ G A = none ∧ Ok B G H' ∧ H' A = some (.lst vs) ∧ Dds K B G vs acc ∧ acc.length ≤ k + 1 ∧ I (k + 1) acc,
        fun H' hN => ⟨its.length - (k + 1), by omega, rfl, hlt, hN⟩, fun x H3 y => ?_⟩
      obtain ⟨d, G3, e1, g3, o3, hd⟩ := f2 x H3 hlt y
      have s3 : Stt K B G0 H0 G3 H3 ((wipe σ [i]).set i (some x)) (δ.set i (.val d)) := by
        have z := ((st.on g3 o3).wipe1 i).setVal i hd
        rw [List.set_set (l := δ)] at z
        exact z
      have hV3 := g3.k A _ nAB nt_lst hV
      have gA3 := g3.n A _ nt_lst hV gA
      refine ⟨wipe_set, turn k d acc e1 ik G0 H0 _ G3 H3 _ s3 ctx0 fun b G4 H4 g4 o4 w => ?_⟩
      have hV4 := g4.k A _ nAB nt_lst hV3
      have gA4 := g4.n A _ nt_lst hV3 gA3
      have go4 : Go B G1 H1 G4 H4 := (g2.trans o2 g3).trans o3 g4
      have hD4 : Dds K B G4 vs acc := (hD.mono g3.s).mono g4.s
      cases b with
      | false => exact ⟨G4, vs, acc, go4, gA4, o4, hV4, hD4, Nat.le_succ_of_le hL, w⟩
      | true =>
        refine w G0 H0 _ G4 H4 _ (s3.on g4 o4) ctx0 fun y e G5 H5 g5 o5 hy w5 => ?_
        have hV5 := g5.k A _ nAB nt_lst hV4
        have gA5 := g5.n A _ nt_lst hV4 gA4
        have go5 : Go B G1 H1 G5 H5 := go4.trans o4 g5
        refine ⟨vs, hV5, Nat.lt_of_le_of_lt (by rw [hD.length]; omega : vs.length ≤ 1000) (by decide), G5, vs ++ [y], acc ++ [e], ?_, gA5, write_ok o5 hV5 gA5 nAB, upd_same, (hD4.mono g5.s).append (.cons hy .nil), by rw [List.length_append, List.length_singleton]; omega, w5⟩
        refine ⟨go5.s, fun a o nb ht h => ?_, go5.n, fun c r h => ?_⟩
        · rw [upd_ne (nn a (by rw [h]; exact fun z => nomatch z))]; exact go5.k a o nb ht h
        · obtain ⟨r', h'⟩ := go5.c c r h
          exact ⟨r', by rw [upd_ne nAB.symm]; exact h'⟩
    · have ek : k = its.length := by omega
      subst ek
      refine .inl ⟨f3 rfl, q1 (.ref A) (.lst acc) (upd G2 A (.lst vs)) H2 ⟨g2.s.trans (same_upd gA), g2.k, fun a o ht h g => ?_, g2.c⟩ (freeze_ok o2 nt_lst nAB gA hV) (.lst upd_same (hD.mono (same_upd gA))) (last acc ik)⟩
      rw [upd_ne (nn a (by rw [h]; exact fun z => nomatch z))]
      exact g2.n a o ht h g
theorem getElem_mem' {α : Type} {xs : List α} {k : Nat} {d : α} (h : xs[k]? = some d) : d ∈ xs := List.mem_of_getElem? h
/-- .. each item once, by a function -/
theorem we_lcmap {wi : TI} {i : Nat} {te : TE} (f : D → D) (h : WIx K B X wi δ fun its => its.length ≤ 1000 ∧ (∀ d, d ∈ its → WE K B te (δ.set i (.val d)) fun y => y = f d) ∧ P (.lst (its.map f))) : WEx K B X (tLc wi (gName i) tYes te [i]) δ P :=
  we_lc fun G0 H0 σ G H R s xx q => h G0 H0 σ G H R s xx fun J its G1 H1 g1 o1 it ⟨l, w, p⟩ => q J its G1 H1 g1 o1 it ⟨l, fun k acc => acc = (its.take k).map f, rfl, fun k d acc e ea => wt_yes (by
    show WE K B te _ _
    refine (w d (getElem_mem' e)).mono fun y ey => ?_
    show acc ++ [y] = (its.take (k + 1)).map f
    have ea' : acc = (its.take k).map f := ea
    rw [ey, ea', List.take_add_one, e, List.map_append]
    rfl), fun acc ea => by rw [ea, List.take_length]; exact p⟩
/-- .. each item by some answer with a property -/
theorem we_lcall {wi : TI} {i : Nat} {te : TE} (R : D → Prop) (h : WIx K B X wi δ fun its => its.length ≤ 1000 ∧ (∀ d, d ∈ its → WE K B te (δ.set i (.val d)) R) ∧ ∀ acc, acc.length = its.length → (∀ d ∈ acc, R d) → P (.lst acc)) : WEx K B X (tLc wi (gName i) tYes te [i]) δ P :=
  we_lc fun G0 H0 σ G H Rr s xx q => h G0 H0 σ G H Rr s xx fun J its G1 H1 g1 o1 it ⟨l, w, p⟩ => q J its G1 H1 g1 o1 it ⟨l, fun k acc => acc.length = k ∧ ∀ d ∈ acc, R d, ⟨rfl, fun _ z => nomatch z⟩, fun k d acc e ⟨el, ea⟩ => wt_yes (by
    show WE K B te _ _
    refine (w d (getElem_mem' e)).mono fun y ey => ⟨by rw [List.length_append, el]; rfl, fun z hz => ?_⟩
    rcases List.mem_append.mp hz with hz | hz
    · exact ea z hz
    · rw [List.mem_singleton.mp hz]; exact ey), fun acc ⟨el, ea⟩ => p acc el ea⟩
/-- a while loop by a word and a measure -/
theorem ws_while {t : TS} (I : Nat → List Sd → Prop) (h0 : ∃ m, I m δ) (h : ∀ m δ1, I m δ1 → WTx K B O.x tt δ1 fun b => if b = true then WS K B t δ1 { nx := fun δ2 => ∃ m', m' < m ∧ I m' δ2, rt := O.rt, bk := O.nx, ct := fun δ2 => ∃ m', m' < m ∧ I m' δ2, x := O.x, ro := O.ro } else O.nx δ1) : WS K B (tWhile tt t) δ O := fun G0 H0 σ G H E s xx n r b c => by
  obtain ⟨m0, i0⟩ := h0
  refine ⟨fun m σ H1 => ∃ G1 δ1, Stt K B G0 H0 G1 H1 σ δ1 ∧ Same G G1 ∧ I m δ1, ⟨m0, G, δ, s, Same.refl _, i0⟩, ?_⟩
  rintro m σ1 H1 ⟨G1, δ1, s1, sm, im⟩
  refine h m δ1 im G0 H0 σ1 G1 H1 _ s1 ((xx.on sm).ct s1) fun k G2 H2 g2 o2 w => ?_
  have s2 := s1.on g2 o2
  have sm2 := sm.trans g2.s
  cases k with
  | false => exact n _ _ _ _ sm2 s2 w
  | true =>
    refine ⟨fun σ' H' => ∃ m', m' < m ∧ ∃ G1 δ1, Stt K B G0 H0 G1 H' σ' δ1 ∧ Same G G1 ∧ I m' δ1, fun σ' H' ⟨m', hm, z⟩ => ⟨m', hm, z⟩, ?_⟩
    exact w G0 H0 σ1 G2 H2 _ s2 (xx.on sm2) (fun σ3 δ3 G3 H3 m3 s3 ⟨m', hm, z⟩ => ⟨m', hm, G3, δ3, s3, sm2.trans m3, z⟩) r (fun σ3 δ3 G3 H3 m3 s3 p => n _ _ _ _ (sm2.trans m3) s3 p) (fun σ3 δ3 G3 H3 m3 s3 ⟨m', hm, z⟩ => ⟨m', hm, G3, δ3, s3, sm2.trans m3, z⟩)
end

/-! ### defs -/
def init (N : List Str) (ds : List D) : List Sd := ds.map .val ++ List.replicate (N.length - ds.length) .no
section
variable {P : Program} {w : World} {K : PySem.W.Frag} {mg : Str → Option Value} {base : Heap}
theorem stt_start {B : Bt} {G H : Hp} {N : List Str} {vs : List V} {ds : List D} (o : Ok B G H) (h : Dds K B G vs ds) : Stt K B G H G H (L2.start N vs) (init N ds) := by
  have l := h.length
  refine ⟨Go.refl, o, ?_, fun i d e => ?_, fun i es e => ?_, fun i j es fs a e1 e2 e3 e4 => ?_⟩
  · unfold L2.start init
    simp only [List.length_append, List.length_map, List.length_replicate, l]
  · unfold init at e
    unfold L2.start
    rw [List.getElem?_append] at e ⊢
    rw [List.length_map] at e ⊢
    by_cases hi : i < ds.length
    · rw [if_pos hi, List.getElem?_map, List.getElem?_eq_getElem hi] at e
      obtain ⟨v, e1, e2⟩ := h.get (List.getElem?_eq_getElem hi)
      have e' : ds[i] = d := by simpa using e
      rw [if_pos (by omega), List.getElem?_map, e1]
      exact ⟨v, rfl, e' ▸ e2⟩
    · rw [if_neg hi, List.getElem?_replicate] at e
      split at e <;> cases e
  · unfold init at e
    rw [List.getElem?_append, List.length_map] at e
    by_cases hi : i < ds.length
    · rw [if_pos hi, List.getElem?_map, List.getElem?_eq_getElem hi] at e
      cases e
    · rw [if_neg hi, List.getElem?_replicate] at e
      split at e <;> cases e
  · unfold init at e1
    rw [List.getElem?_append, List.length_map] at e1
    by_cases hi : i < ds.length
    · rw [if_pos hi, List.getElem?_map, List.getElem?_eq_getElem hi] at e1
      cases e1
    · rw [if_neg hi, List.getElem?_replicate] at e1
      split at e1 <;> cases e1
/-- a def that may be called by its name -/
structure Cl (P : Program) (w : World) (K : PySem.W.Frag) (mg : Str → Option Value) (base : Heap) (k : Nat) (x : Str) (st : Stmt) (ps : List Str) (sp : Sp) : Prop where
  ex : ∃ (f : Addr) (fd : FuncData), Fun K x x st f fd ∧ FnOk P w K mg base CX0 k f fd ps sp ∧ mg x = some (.ref f) ∧ Binds K fd ps []
/-- .. by keywords alone -/
structure Ck (P : Program) (w : World) (K : PySem.W.Frag) (mg : Str → Option Value) (base : Heap) (k : Nat) (x : Str) (ks : List Str) (sp : Sp) (gV : List V → List V) : Prop where
  ex : ∃ (f : Addr) (fd : FuncData) (ps : List Str) (g : List Value → List Value), FnOk P w K mg base CX0 k f fd ps sp ∧ mg x = some (.ref f) ∧ PySem.W.keepIn K (.ref f) = true ∧ KBn K fd ps 0 ks (fun _ ws => g ws) (fun _ zs => gV zs)
/-- a def of the text as it stands behind the top -/
structure Df (K : PySem.W.Frag) (mg : Str → Option Value) (x : Str) (st : Stmt) : Prop where
  ex : ∃ (f : Addr) (fd : FuncData), Fun K x x st f fd ∧ mg x = some (.ref f)
theorem cl_of {x : Str} {st : Stmt} {N ps : List Str} {k : Nat} {pre : List D → Prop} {post : List D → D → Prop} (F : Df K mg x st) (S : FnScope N ps (defScope st))
    (hb : ∀ (kV doc pm : Value) (an : Option Addr) (cdv ct : Value) (us : List Value), us.length = ps.length → bindArgs (PySem.W.fnOf x x (defArgs st) (defBody st) (defScope st) .none kV doc pm an cdv ct) ⟨us, []⟩ = pure (ps.zip us))
    (hl : ∀ ds, pre ds → ds.length = ps.length)
    (h : ∀ (f : Addr) (cdv : Value) (A : Around) (outer : List Env) (s : Shared) (H : Hp) (E : XK), Room k (A.deeper (envOfC x (defScope st) s.heap.objs.size f cdv)) →
      ∃ t, PSs (cxOf CX0 P w K mg base N x (defScope st) f cdv A outer s H E).nox (defBody st) t ∧ ∀ B ds, pre ds → WS K B t (init N ds) { nx := fun _ => post ds .non, rt := post ds }) : Cl P w K mg base (k + 1) x st ps (SpD K pre post) := by
  obtain ⟨f, fd, F, hm⟩ := F.ex
  refine ⟨f, fd, F, F.ok S (fun vs H Q E hsp => ?_) (fun cdv A outer s H vs Q E hr hsp => ?_), hm, F.binds hb⟩
  · obtain ⟨B, G, ds, o, hs, p, q⟩ := hsp
    exact hs.length.trans (hl ds p)
  · obtain ⟨B, G, ds, o, hs, p, q⟩ := hsp
    obtain ⟨t, ht, ww⟩ := h f cdv A outer s H E hr
    exact ⟨t, ht, ww B ds p G H _ G H _ (stt_start o hs) xs0 (fun σ1 δ1 G1 H1 _ s1 z => q .non .non G1 H1 s1.go s1.ok .non z) ⟨fun v d G1 H1 g o1 hd z => q v d G1 H1 g o1 hd z, fun _ _ _ _ _ _ _ _ _ _ _ _ z => z.elim⟩ (fun _ _ _ _ _ _ z => z.elim) (fun _ _ _ _ _ _ z => z.elim)⟩
/-- .. a new list -/
theorem cln_of {x : Str} {st : Stmt} {N ps : List Str} {k : Nat} {pre : List D → Prop} {post : List D → List D → Prop} (F : Df K mg x st) (S : FnScope N ps (defScope st))
    (hb : ∀ (kV doc pm : Value) (an : Option Addr) (cdv ct : Value) (us : List Value), us.length = ps.length → bindArgs (PySem.W.fnOf x x (defArgs st) (defBody st) (defScope st) .none kV doc pm an cdv ct) ⟨us, []⟩ = pure (ps.zip us))
    (hl : ∀ ds, pre ds → ds.length = ps.length)
    (h : ∀ (f : Addr) (cdv : Value) (A : Around) (outer : List Env) (s : Shared) (H : Hp) (E : XK), Room k (A.deeper (envOfC x (defScope st) s.heap.objs.size f cdv)) →
      ∃ t, PSs (cxOf CX0 P w K mg base N x (defScope st) f cdv A outer s H E).nox (defBody st) t ∧ ∀ B ds, pre ds → WS K B t (init N ds) { nx := fun _ => False, rt := fun _ => False, ro := post ds }) : Cl P w K mg base (k + 1) x st ps (SpN K pre post) := by
  obtain ⟨f, fd, F, hm⟩ := F.ex
  refine ⟨f, fd, F, F.ok S (fun vs H Q E hsp => ?_) (fun cdv A outer s H vs Q E hr hsp => ?_), hm, F.binds hb⟩
  · obtain ⟨B, G, ds, o, hs, p, q⟩ := hsp
    exact hs.length.trans (hl ds p)
  · obtain ⟨B, G, ds, o, hs, p, q⟩ := hsp
    obtain ⟨t, ht, ww⟩ := h f cdv A outer s H E hr
    exact ⟨t, ht, ww B ds p G H _ G H _ (stt_start o hs) xs0 (fun σ1 δ1 G1 H1 _ s1 z => z.elim) ⟨fun v d G1 H1 g o1 hd z => z.elim, fun a vs es G1 H1 g o1 nb fr ga ha hd z => q a vs es G1 H1 g o1 nb fr ga ha hd z⟩ (fun _ _ _ _ _ _ z => z.elim) (fun _ _ _ _ _ _ z => z.elim)⟩
theorem Cl.imp {k : Nat} {x : Str} {st : Stmt} {ps : List Str} {sp sp' : Sp} (c : Cl P w K mg base k x st ps sp) (h : ∀ vs H Q E, sp' vs H Q E → sp vs H Q E) : Cl P w K mg base k x st ps sp' := by
  obtain ⟨f, fd, F0, F, r⟩ := c.ex
  exact ⟨f, fd, F0, F.imp h, r⟩
theorem Cl.frz {k : Nat} {x : Str} {st : Stmt} {ps : List Str} {pre : List D → Prop} {post : List D → List D → Prop} {post' : List D → D → Prop} (c : Cl P w K mg base k x st ps (SpN K pre post)) (h : ∀ ds es, post ds es → post' ds (.lst es)) : Cl P w K mg base k x st ps (SpD K pre post') :=
  c.imp fun vs H Q E ⟨B, G, ds, o, hs, p, q⟩ => ⟨B, G, ds, o, hs, p, fun a ws es G1 H1 g o1 nb fr ga ha hd z => q (.ref a) (.lst es) (upd G1 a (.lst ws)) H1 ⟨g.s.trans (same_upd ga), g.k, fun b u ht e hg => by
    rw [upd_ne (fun e2 => fr u ht (by rw [← e2]; exact e))]; exact g.n b u ht e hg, g.c⟩ (freeze_ok o1 nt_lst nb ga ha) (.lst upd_same (hd.mono (same_upd ga))) (h ds es z)⟩
theorem ck_of {x : Str} {st : Stmt} {k : Nat} {ps ks : List Str} {sp : Sp} {gV : List V → List V} (c : Cl P w K mg base k x st ps sp) (g : List Value → List Value)
    (hb : ∀ (kV doc pm : Value) (an : Option Addr) (cdv ct : Value) (ws : List Value), ws.length = ks.length → bindArgs (PySem.W.fnOf x x (defArgs st) (defBody st) (defScope st) .none kV doc pm an cdv ct) ⟨[], ks.zip ws⟩ = pure (ps.zip (g ws)))
    (hr : ∀ {zs : List V} {ws : List Value}, Vals zs ws → Vals (gV zs) (g ws)) : Ck P w K mg base k x ks sp gV := by
  obtain ⟨f, fd, F, G, hm, _⟩ := c.ex
  have kp := F.kp
  obtain ⟨oc, od, kV, doc, pm, an, cdv, ct, osl, rfl, lk, hcd⟩ := F.ex
  refine ⟨f, _, ps, g, G, hm, kp, ⟨fun s us ws _ l1 l2 => ?_, fun _ r => hr r⟩⟩
  have e : us = [] := List.length_eq_zero_iff.mp l1
  subst e
  exact .of_eq (hb kV doc pm an cdv ct ws l2)
end
section
variable {X : Cx} {k j : Nat} {x : Str} {st : Stmt} {ps ks : List Str} {sp : Sp} {p pos : Pos} {e : Expr} {es : List Expr} {t tk : TA} {kws : List Keyword} {gV : List V → List V}
theorem pe_c (c : Cl X.prog X.w X.K X.mg X.base k x st ps sp) (hr : Room j X.A) (hk : k ≤ j) (hg : Gl X x) (ha : PA X (e :: es) t)
    (hdb : (x == ("__debug__" : Str)) = false := by decide) (he : starEach (e :: es) X.env = (false, eval e X.env) :: starEach es X.env := by rfl) (hpl : (backTo pos (starEach es X.env)).any (·.1) = false := by rfl) :
    PE X (.Call (.Name x p) (e :: es) [] pos) (tCall sp [] E0 t) := by
  obtain ⟨f, fd, F0, F, hm, b⟩ := c.ex
  exact pe_call F (hr.mono hk) hg hm F0.kp b .nil pass0 ha hdb he hpl
theorem pe_c0 (c : Cl X.prog X.w X.K X.mg X.base k x st ps sp) (hr : Room j X.A) (hk : k ≤ j) (hg : Gl X x) (hdb : (x == ("__debug__" : Str)) = false := by decide) :
    PE X (.Call (.Name x p) [] [] pos) (tCall sp [] E0 tNil) := by
  obtain ⟨f, fd, F0, F, hm, b⟩ := c.ex
  exact pe_call0 F (hr.mono hk) hg hm F0.kp b .nil pass0 hdb
/-- f(k = v, ..) -/
def tCk (m : Nat) (sp : Sp) (gV : List V → List V) (tk : TA) : TE := fun σ H Q => tk σ H fun zs H2 => zs.length = m ∧ sp (gV zs) H2 Q E0
theorem pe_ck (c : Ck X.prog X.w X.K X.mg X.base k x ks sp gV) (hr : Room j X.A) (hk : k ≤ j) (hg : Gl X x) (hkw : PK X kws tk)
    (hall : (backToKw pos (keywordEach kws X.env)).all (·.1.isSome) = true := by rfl) (hks : (backToKw pos (keywordEach kws X.env)).filterMap (·.1) = ks := by rfl) (hdb : (x == ("__debug__" : Str)) = false := by decide)
    (hpl : ((backTo pos (starEach [] X.env)).any (·.1) || (backToKw pos (keywordEach kws X.env)).any (·.1.isNone)) = false := by rfl) :
    PE X (.Call (.Name x p) [] kws pos) (tCk ks.length sp gV tk) := by
  obtain ⟨f, fd, ps, g, F, hm, kp, b⟩ := c.ex
  refine ⟨fun pins s σ H Q I h => ?_⟩
  refine wpAny_Call_Name_kw (ld_glob I hg hm ?_ hdb)
  refine PySem.W.callWith_KW0 (h₀ := X.base) I.ok.mod.kin kp hall ?_ hpl
  refine thn (hkw.run pos pins s σ H _ I h) fun ws s2 ⟨zs, H2, I2, rz, l2, q2⟩ => ⟨I2.kIn, ?_⟩
  rw [hks]
  exact run_fnN F (hr.mono hk) b pass0 I2 .nil rz rfl l2 q2
end
section
variable {K : PySem.W.Frag} {B : Bt} {δ : List Sd} {P : D → Prop} {X : Xc}
theorem we_ck {pre : List D → Prop} {post : List D → D → Prop} {m : Nat} {gV : List V → List V} {gD : List D → List D} {tk : TA} (hg : ∀ G vs ds, Dds K B G vs ds → Dds K B G (gV vs) (gD ds)) (h : WAx K B X tk δ fun ds => ds.length = m ∧ pre (gD ds) ∧ ∀ d, post (gD ds) d → P d) : WEx K B X (tCk m (SpD K pre post) gV tk) δ P := fun G0 H0 σ G H Q s xx q =>
  h G0 H0 σ G H _ s xx fun vs ds G1 H1 g1 o1 hs ⟨l, p, mm⟩ =>
    ⟨hs.length.trans l, B, G1, gD ds, o1, hg _ _ _ hs, p, fun v d G2 H2 g2 o2 hd pd => (q.on g1 o1) v d G2 H2 g2 o2 hd (mm d pd)⟩
end
end Dl
namespace Dl
open PySem PySem.Spec PyProof.Rows L2
section
variable {K : PySem.W.Frag} {B : Bt} {P : D → Prop} {a : D}
def isInt : D → Bool | .int _ => true | .bl _ => true | _ => false
def isBool : D → Bool | .bl _ => true | _ => false
def isStr : D → Bool | .str _ => true | _ => false
def isTup : D → Bool | .tup _ => true | _ => false
def isLst : D → Bool | .lst _ => true | .box => true | _ => false
def isDic : D → Bool | .dic _ _ => true | _ => false
theorem rc_int (nc : a.isCls = false) (p : P (.bl (isInt a))) : RC K B (rIsi K) [a, .cls "int"] P := by
  cases a <;> first | (exact Bool.noConfusion nc) | exact rc_isi rfl (by dsimp only [D.tyn, isInt, isBool, isStr, isTup, isLst, isDic]; decide +kernel) p
theorem rc_bool (nc : a.isCls = false) (p : P (.bl (isBool a))) : RC K B (rIsi K) [a, .cls "bool"] P := by
  cases a <;> first | (exact Bool.noConfusion nc) | exact rc_isi rfl (by dsimp only [D.tyn, isInt, isBool, isStr, isTup, isLst, isDic]; decide +kernel) p
theorem rc_str (nc : a.isCls = false) (p : P (.bl (isStr a))) : RC K B (rIsi K) [a, .cls "str"] P := by
  cases a <;> first | (exact Bool.noConfusion nc) | exact rc_isi rfl (by dsimp only [D.tyn, isInt, isBool, isStr, isTup, isLst, isDic]; decide +kernel) p
theorem rc_tuple (nc : a.isCls = false) (p : P (.bl (isTup a))) : RC K B (rIsi K) [a, .cls "tuple"] P := by
  cases a <;> first | (exact Bool.noConfusion nc) | exact rc_isi rfl (by dsimp only [D.tyn, isInt, isBool, isStr, isTup, isLst, isDic]; decide +kernel) p
theorem rc_list (nc : a.isCls = false) (p : P (.bl (isLst a))) : RC K B (rIsi K) [a, .cls "list"] P := by
  cases a <;> first | (exact Bool.noConfusion nc) | exact rc_isi rfl (by dsimp only [D.tyn, isInt, isBool, isStr, isTup, isLst, isDic]; decide +kernel) p
theorem rc_dict (nc : a.isCls = false) (p : P (.bl (isDic a))) : RC K B (rIsi K) [a, .cls "dict"] P := by
  cases a <;> first | (exact Bool.noConfusion nc) | exact rc_isi rfl (by dsimp only [D.tyn, isInt, isBool, isStr, isTup, isLst, isDic]; decide +kernel) p
theorem rc_lt (nc : a.isCls = false) (p : P (.bl (isLst a || isTup a))) : RC K B (zIsi2 K) [a, .tup [.cls "list", .cls "tuple"]] P := by
  cases a <;> first | (exact Bool.noConfusion nc) | exact rc_isi2 rfl (by dsimp only [D.tyn, isLst, isTup]; decide +kernel) (by dsimp only [D.tyn, isLst, isTup]; decide +kernel) p
theorem rc_allf {f : D → Bool} {xs : List D} (p : P (.bl (xs.all f))) : RC K B (rAll K) [.lst (xs.map fun d => .bl (f d))] P := by
  have e : (xs.map fun d => D.bl (f d)) = (xs.map f).map D.bl := by rw [List.map_map]; rfl
  rw [e]
  refine rc_all ?_
  rw [List.all_map]
  exact p
theorem ro_inC {c : Nat} {z : Str} (p : P (.bl (decide (c ∈ z.cps.toList)))) : RO K B (fun x y H Q => ∃ (c : Nat) (z : Str), x = .str ⟨#[c]⟩ ∧ y = .str z ∧ Q (.bl (decide (c ∈ z.cps.toList))) H) (.str ⟨#[c]⟩) (.str z) P := fun _ _ _ _ _ o hx hy q => by
  cases hx; cases hy
  exact ⟨c, z, rfl, rfl, q.nil o (.bl _) p⟩
variable {δ : List Sd} {X : Xc}
theorem we_callF {pre : List D → Prop} {F : List D → D} {E : XK} {t : TA} (h : WAx K B X t δ fun ds => pre ds ∧ P (F ds)) : WEx K B X (tCall (SpD K pre fun ds r => r = F ds) [] E t) δ P := we_call fun G0 H0 σ G H Q s xx q => h G0 H0 σ G H Q s xx fun vs ds G1 H1 g o hs ⟨a, b⟩ => q vs ds G1 H1 g o hs ⟨a, fun _ e => e ▸ b⟩
def p1 (q : D → Prop) : List D → Prop | [d] => q d | _ => False
def p2 (q : D → D → Prop) : List D → Prop | [a, b] => q a b | _ => False
def p3 (q : D → D → D → Prop) : List D → Prop | [a, b, c] => q a b c | _ => False
def f1 (f : D → D) : List D → D | [d] => f d | _ => .non
def f2 (f : D → D → D) : List D → D | [a, b] => f a b | _ => .non
def f3 (f : D → D → D → D) : List D → D | [a, b, c] => f a b c | _ => .non
theorem p1_len {q : D → Prop} : ∀ ds, p1 q ds → ds.length = 1 | [_], _ => rfl
theorem p2_len {q : D → D → Prop} : ∀ ds, p2 q ds → ds.length = 2 | [_, _], _ => rfl
theorem p3_len {q : D → D → D → Prop} : ∀ ds, p3 q ds → ds.length = 3 | [_, _, _], _ => rfl
theorem p1_ex {q : D → Prop} : ∀ {ds}, p1 q ds → ∃ d, ds = [d] ∧ q d | [d], h => ⟨d, rfl, h⟩
theorem p2_ex {q : D → D → Prop} : ∀ {ds}, p2 q ds → ∃ a b, ds = [a, b] ∧ q a b | [a, b], h => ⟨a, b, rfl, h⟩
theorem p3_ex {q : D → D → D → Prop} : ∀ {ds}, p3 q ds → ∃ a b c, ds = [a, b, c] ∧ q a b c | [a, b, c], h => ⟨a, b, c, rfl, h⟩
end
end Dl
/-! Local lists that are changed: a slot of the kind own. -/
namespace Dl
open PySem L2
section
variable {K : PySem.W.Frag} {B : Bt} {G G1 H H1 G0 H0 : Hp} {σ : L2.St} {δ : List Sd} {P : D → Prop} {ta tb te : TE} {O : Out} {X : Xc}
theorem own_set (i j : Nat) (x : Sd) (δ : List Sd) {ds : List D} (h : (δ.set i x)[j]? = some (.own ds)) : (i = j ∧ x = .own ds ∧ i < δ.length) ∨ (i ≠ j ∧ δ[j]? = some (.own ds)) := by
  rw [List.getElem?_set] at h
  by_cases ij : i = j
  · rw [if_pos ij] at h
    split at h
    · rename_i hl
      exact .inl ⟨ij, Option.some.inj h, by omega⟩
    · cases h
  · rw [if_neg ij] at h
    exact .inr ⟨ij, h⟩
/-- a new list in a slot -/
theorem Stt.setOwn {p : Addr} {vs : List V} {ds : List D} (s : Stt K B G0 H0 G H σ δ) (i : Nat) (hp : H p = none) (h0 : ∀ o, nt o → H0 p ≠ some o) (hd : Dds K B G vs ds) : Stt K B G0 H0 G (upd H p (.lst vs)) (σ.set i (some (.ref p))) (δ.set i (.own ds)) := by
  have nb := s.ok.neB hp
  have s2 := s.on (loose_go s.ok (x := .lst vs) hp) (loose_ok s.ok hp)
  have old : ∀ (j : Nat) es a, δ[j]? = some (.own es) → σ[j]? = some (some (.ref a)) → a ≠ p := fun j es a h1 h2 e => by
    obtain ⟨b, ws, e1, _, _, _, e2, _⟩ := s.own j es h1
    rw [h2] at e1
    cases e1
    rw [e, hp] at e2
    cases e2
  refine ⟨s2.go, s2.ok, by rw [List.length_set, List.length_set, s.len], fun j d h => ?_, fun j es h => ?_, fun j l es fs a h1 h2 h3 h4 => ?_⟩
  · rw [List.getElem?_set] at h
    by_cases ij : i = j
    · rw [if_pos ij] at h; split at h <;> cases h
    · rw [if_neg ij] at h
      obtain ⟨v, e1, e2⟩ := s.val j d h
      exact ⟨v, by rw [List.getElem?_set, if_neg ij]; exact e1, e2⟩
  · rcases own_set i j _ δ h with ⟨ij, e, hl⟩ | ⟨ij, e⟩
    · cases e
      exact ⟨p, vs, by rw [List.getElem?_set, if_pos ij, if_pos (by rw [s.len]; omega)], nb, h0, s.ok.fresh hp, upd_same, hd⟩
    · obtain ⟨a, ws, e1, e2⟩ := s2.own j es e
      exact ⟨a, ws, by rw [List.getElem?_set, if_neg ij]; exact e1, e2⟩
  · rw [List.getElem?_set] at h3 h4
    rcases own_set i j _ δ h1 with ⟨ij, _, _⟩ | ⟨ij, e1⟩
    · rcases own_set i l _ δ h2 with ⟨il, _, _⟩ | ⟨il, e2⟩
      · exact ij.symm.trans il
      · rw [if_pos ij] at h3
        rw [if_neg il] at h4
        split at h3
        · cases h3; exact absurd rfl (old l fs _ e2 h4)
        · cases h3
    · rcases own_set i l _ δ h2 with ⟨il, _, _⟩ | ⟨il, e2⟩
      · rw [if_pos il] at h4
        rw [if_neg ij] at h3
        split at h4
        · cases h4; exact absurd rfl (old j es _ e1 h3)
        · cases h4
      · rw [if_neg ij] at h3
        rw [if_neg il] at h4
        exact s.apart j l es fs a e1 e2 h3 h4
theorem ws_setOwn {i : Nat} {t : TA} (h : WAx K B O.x t δ fun ds => ds.length ≤ 1000 ∧ O.nx (δ.set i (.own ds))) : WS K B (tAsg (tLst t) (gName i)) δ O := fun G0 H0 σ G H E s xx n _ _ _ =>
  h G0 H0 σ G H _ s (xx.ct s) fun vs ds G1 H1 g o hs ⟨l, p⟩ => ⟨by rw [hs.length]; exact sz1000 l, fun a ha => by
    have s1 := s.on g o
    have h0 : ∀ u, nt u → H0 a ≠ some u := fun u ht q => by
      by_cases e : a = B.a
      · exact absurd ha (e ▸ o.hb)
      · rw [s1.go.k a u e ht q] at ha; cases ha
    exact n _ _ G1 _ g.s (s1.setOwn i ha h0 hs) p⟩
/-- len, an item, a slice of it -/
theorem we_ownLen {i : Nat} {ds : List D} (h : δ[i]? = some (.own ds)) (p : P (.int (ds.length : Int))) : WEx K B X (tCB (fun xs H Q => ∃ x n, xs = [x] ∧ LenV K x H n ∧ Q (.int n) H) (tCons (tVar i) tNil)) δ P := fun _ _ _ _ _ _ s _ q => by
  obtain ⟨a, vs, e1, _, _, _, e2, e3⟩ := s.own i ds h
  refine ⟨_, e1, _, _, rfl, .inl ⟨_, SqL.of e2, rfl⟩, ?_⟩
  rw [e3.length]
  exact q.nil s.ok (.int _) p
theorem we_ownIx {i : Nat} {ds : List D} (h : δ[i]? = some (.own ds)) (hb : WEx K B X tb δ fun d => ∃ j x, d = .int j ∧ atI ds j = some x ∧ P x) : WEx K B X (tOp (rIxL K) (tVar i) tb) δ P := fun G0 H0 σ G H Q s xx q => by
  obtain ⟨a, vs, e1, nb, _, _, e2, e3⟩ := s.own i ds h
  refine ⟨_, e1, hb G0 H0 σ G H _ s xx fun y d G1 H1 g1 o1 hy ⟨j, x, ed, ea, p⟩ => ?_⟩
  subst ed
  cases hy
  obtain ⟨v, h1, h2⟩ := atI_dd (e3.mono g1.s) ea
  exact ⟨a, vs, j, v, rfl, rfl, SqL.of (g1.k a _ nb nt_lst e2), h1, (q.on g1 o1).nil o1 h2 p⟩
theorem we_ownSl {i : Nat} {ds : List D} {tl th : TO} (h : δ[i]? = some (.own ds)) (hb : WOx K B X tl δ fun lo => WOx K B X th δ fun hi => P (.lst (cutD ds lo hi))) : WEx K B X (tSl (rSlL K) (tVar i) tl th) δ P := fun G0 H0 σ G H Q s xx q => by
  obtain ⟨a, vs, e1, nb, _, _, e2, e3⟩ := s.own i ds h
  refine ⟨_, e1, hb G0 H0 σ G H _ s xx fun lo G1 H1 g1 o1 w => w G0 H0 σ G1 H1 _ (s.on g1 o1) (xx.on g1 o1) fun hi G2 H2 g2 o2 p => ?_⟩
  have g := g1.trans o1 g2
  exact ⟨a, vs, rfl, SqL.of (g.k a _ nb nt_lst e2), fun r hr => (q.on g o2).new o2 nt_lst hr (.lst upd_same ((cutV_dd (e3.mono g.s)).mono (same_upd (o2.fresh hr)))) p⟩
/-- it is handed back -/
theorem ws_retOwn {i : Nat} {ds : List D} (h : δ[i]? = some (.own ds)) (p : O.ro ds) : WS K B (tRet (tVar i)) δ O := fun G0 H0 σ G H E s _ _ r _ _ => by
  obtain ⟨a, vs, e1, nb, e0, eg, e2, e3⟩ := s.own i ds h
  exact ⟨_, e1, r.2 a vs ds G H s.go s.ok nb e0 eg e2 e3 p⟩
/-- .. as a value -/
theorem ws_retOwnV {i : Nat} {ds : List D} (h : δ[i]? = some (.own ds)) (p : O.rt (.lst ds)) : WS K B (tRet (tVar i)) δ O := fun G0 H0 σ G H E s _ _ r _ _ => by
  obtain ⟨a, vs, e1, nb, e0, eg, e2, e3⟩ := s.own i ds h
  refine ⟨_, e1, r.1 (.ref a) (.lst ds) (upd G a (.lst vs)) H ⟨s.go.s.trans (same_upd eg), s.go.k, fun x u ht hx hg => ?_, s.go.c⟩ (freeze_ok s.ok nt_lst nb eg e2) (.lst upd_same (e3.mono (same_upd eg))) p⟩
  have ne : x ≠ a := fun e => e0 u ht (e ▸ hx)
  rw [upd_ne ne]
  exact s.go.n x u ht hx hg
/-- x = f(..), f handing back a new list -/
theorem Stt.tookOwn {a : Addr} {vs : List V} {ds : List D} (s : Stt K B G0 H0 G H σ δ) (i : Nat) (nb : a ≠ B.a) (h0 : ∀ o, nt o → H0 a ≠ some o) (ga : G a = none) (ha : H a = some (.lst vs)) (hd : Dds K B G vs ds) (old : ∀ (j : Nat) es b, δ[j]? = some (.own es) → σ[j]? = some (some (.ref b)) → b ≠ a) : Stt K B G0 H0 G H (σ.set i (some (.ref a))) (δ.set i (.own ds)) := by
  refine ⟨s.go, s.ok, by rw [List.length_set, List.length_set, s.len], fun j d h => ?_, fun j es h => ?_, fun j l es fs b h1 h2 h3 h4 => ?_⟩
  · rw [List.getElem?_set] at h
    by_cases ij : i = j
    · rw [if_pos ij] at h; split at h <;> cases h
    · rw [if_neg ij] at h
      obtain ⟨v, e1, e2⟩ := s.val j d h
      exact ⟨v, by rw [List.getElem?_set, if_neg ij]; exact e1, e2⟩
  · rcases own_set i j _ δ h with ⟨ij, e, hl⟩ | ⟨ij, e⟩
    · cases e
      exact ⟨a, vs, by rw [List.getElem?_set, if_pos ij, if_pos (by rw [s.len]; omega)], nb, h0, ga, ha, hd⟩
    · obtain ⟨b, ws, e1, e2⟩ := s.own j es e
      exact ⟨b, ws, by rw [List.getElem?_set, if_neg ij]; exact e1, e2⟩
  · rw [List.getElem?_set] at h3 h4
    rcases own_set i j _ δ h1 with ⟨ij, _, _⟩ | ⟨ij, e1⟩
    · rcases own_set i l _ δ h2 with ⟨il, _, _⟩ | ⟨il, e2⟩
      · exact ij.symm.trans il
      · rw [if_pos ij] at h3
        rw [if_neg il] at h4
        split at h3
        · cases h3; exact absurd rfl (old l fs _ e2 h4)
        · cases h3
    · rcases own_set i l _ δ h2 with ⟨il, _, _⟩ | ⟨il, e2⟩
      · rw [if_pos il] at h4
        rw [if_neg ij] at h3
        split at h4
        · cases h4; exact absurd rfl (old j es _ e1 h3)
        · cases h4
      · rw [if_neg ij] at h3
        rw [if_neg il] at h4
        exact s.apart j l es fs b e1 e2 h3 h4
theorem ws_setN {i : Nat} {pre : List D → Prop} {post : List D → List D → Prop} {E : XK} {t : TA} (h : WAx K B O.x t δ fun ds => pre ds ∧ ∀ es, post ds es → O.nx (δ.set i (.own es))) : WS K B (tAsg (tCall (SpN K pre post) [] E t) (gName i)) δ O := fun G0 H0 σ G H E' s xx n _ _ _ =>
  h G0 H0 σ G H _ s (xx.ct s) fun vs ds G1 H1 g1 o1 hs ⟨p, m⟩ => by
    rw [List.append_nil]
    refine ⟨B, G1, ds, o1, hs, p, fun a ws es G2 H2 g2 o2 nb fr ga ha hd pe => ?_⟩
    have s1 := s.on g1 o1
    have s2 := s1.on g2 o2
    have fr0 : ∀ o, nt o → H0 a ≠ some o := fun o ht e => fr o ht (s1.go.k a o nb ht e)
    refine n _ _ G2 H2 (g1.s.trans g2.s) (s2.tookOwn i nb fr0 ga ha hd fun j fs b e1 e2 eb => ?_) (m es pe)
    obtain ⟨b', us, f1, f2, f3, f4, f5, f6⟩ := s1.own j fs e1
    rw [e2] at f1
    cases f1
    exact fr _ nt_lst (eb ▸ f5)
/-- it is written anew -/
theorem Stt.putOwn {i : Nat} {a : Addr} {vs vs' : List V} {ds ds' : List D} (s : Stt K B G0 H0 G H σ δ) (h : δ[i]? = some (.own ds)) (ha : σ[i]? = some (some (.ref a))) (hd : Dds K B G vs' ds') : Stt K B G0 H0 G (upd H a (.lst vs')) σ (δ.set i (.own ds')) := by
  obtain ⟨a', ws, e1, nb, e0, eg, e2, e3⟩ := s.own i ds h
  rw [ha] at e1
  cases e1
  have hl : i < δ.length := (List.getElem?_eq_some_iff.mp h).1
  refine ⟨⟨s.go.s, fun x u ne ht e => ?_, s.go.n, fun c r e => ?_⟩, write_ok s.ok e2 eg nb, by rw [List.length_set]; exact s.len, fun j d e => ?_, fun j es e => ?_, fun j l es fs x h1 h2 h3 h4 => ?_⟩
  · rw [upd_ne (fun q => e0 u ht (by rw [← q]; exact e))]
    exact s.go.k x u ne ht e
  · rw [upd_ne nb.symm]
    exact s.go.c c r e
  · rw [List.getElem?_set] at e
    by_cases ij : i = j
    · rw [if_pos ij] at e; split at e <;> cases e
    · rw [if_neg ij] at e
      exact s.val j d e
  · rcases own_set i j _ δ e with ⟨ij, e', _⟩ | ⟨ij, e'⟩
    · cases e'
      exact ⟨a, vs', by rw [← ij]; exact ha, nb, e0, eg, upd_same, hd⟩
    · obtain ⟨b, us, f1, f2, f3, f4, f5, f6⟩ := s.own j es e'
      have nba : b ≠ a := fun eb => ij (s.apart i j ds es a h e' ha (eb ▸ f1))
      exact ⟨b, us, f1, f2, f3, f4, by rw [upd_ne nba]; exact f5, f6⟩
  · rcases own_set i j _ δ h1 with ⟨ij, _, _⟩ | ⟨ij, e1⟩
    · rcases own_set i l _ δ h2 with ⟨il, _, _⟩ | ⟨il, e2'⟩
      · exact ij.symm.trans il
      · rw [← ij] at h3 ⊢
        exact s.apart i l ds fs x h e2' h3 h4
    · rcases own_set i l _ δ h2 with ⟨il, _, _⟩ | ⟨il, e2'⟩
      · rw [← il] at h4 ⊢
        exact s.apart j i es ds x e1 h h3 h4
      · exact s.apart j l es fs x e1 e2' h3 h4
theorem ws_append {i : Nat} {ds : List D} {T : String} (hT : T = "list") (h : δ[i]? = some (.own ds)) (l : ds.length < 1000) (he : WEx K B O.x te δ fun d => O.nx (δ.set i (.own (ds ++ [d])))) : WS K B (tDrop (tBM K T rAppend (tVar i) (tCons te tNil))) δ O := fun G0 H0 σ G H E s xx n _ _ _ => by
  obtain ⟨a, vs, e1, nb, e0, eg, e2, e3⟩ := s.own i ds h
  refine ⟨_, e1, .inl ⟨hT, _, SqL.of e2⟩, he G0 H0 σ G H _ s (xx.ct s) fun v d G1 H1 g o hd p => ?_⟩
  have s1 := s.on g o
  have h1 := g.k a _ nb nt_lst e2
  refine ⟨a, vs, v, rfl, rfl, h1, Nat.lt_of_le_of_lt (by rw [e3.length]; omega : vs.length ≤ 1000) (by decide), ?_⟩
  exact n _ _ G1 _ g.s (s1.putOwn h e1 ((e3.mono g.s).append (.cons hd .nil)) (vs := vs)) p
theorem ws_insert {i : Nat} {ds : List D} {T : String} (hT : T = "list") (h : δ[i]? = some (.own ds)) (l : ds.length < 1000) (ha : WEx K B O.x ta δ fun d => ∃ j : Nat, d = .int (j : Int) ∧ j ≤ 1000 ∧ WEx K B O.x te δ fun x => O.nx (δ.set i (.own (ds.take j ++ [x] ++ ds.drop j)))) :
    WS K B (tDrop (tBM K T (fun x vs H Q => ∃ (l : Addr) (xs : List V) (i : Int) (y : V), x = .ref l ∧ vs = [.int i, y] ∧ H l = some (.lst xs) ∧ xs.length < sizeLine ∧ 0 ≤ i ∧ i < 2 ^ 63 ∧ Q .non (upd H l (.lst (xs.take i.toNat ++ [y] ++ xs.drop i.toNat)))) (tVar i) (tCons ta (tCons te tNil)))) δ O := fun G0 H0 σ G H E s xx n _ _ _ => by
  obtain ⟨a, vs, e1, nb, e0, eg, e2, e3⟩ := s.own i ds h
  refine ⟨_, e1, .inl ⟨hT, _, SqL.of e2⟩, ha G0 H0 σ G H _ s (xx.ct s) fun v d G1 H1 g1 o1 hd ⟨j, ej, hj, w⟩ => ?_⟩
  subst ej
  cases hd
  refine w G0 H0 σ G1 H1 _ (s.on g1 o1) ((xx.ct s).on g1 o1) fun y x G2 H2 g2 o2 hy p => ?_
  have g := g1.trans o1 g2
  have s2 := s.on g o2
  refine ⟨a, vs, (j : Int), y, rfl, rfl, g.k a _ nb nt_lst e2, Nat.lt_of_le_of_lt (by rw [e3.length]; omega : vs.length ≤ 1000) (by decide), by omega, by omega, ?_⟩
  have ed := e3.mono g.s
  have hn := s2.putOwn h e1 (((ed.take j).append (.cons hy .nil)).append (ed.drop j)) (vs := vs)
  rw [Int.toNat_natCast]
  exact n _ _ G2 _ g.s hn p
/-- a frozen list is let go: back to what is not frozen -/
theorem melt {a : Addr} {vs : List V} (o1 : Ok B G H) (nb : a ≠ B.a) (eg : G a = none) (e2 : H a = some (.lst vs)) (g2 : Go B (upd G a (.lst vs)) H G1 H1) (o2 : Ok B G1 H1) : ∃ G3, Go B G H G3 H1 ∧ Ok B G3 H1 := by
  have sf : Same G (upd G a (.lst vs)) := same_upd eg
  let G3 : Hp := fun x => if x = a then none else G1 x
  have sub : Same G3 G1 := fun x u e => by
    by_cases ex : x = a
    · have e' : (if x = a then none else G1 x) = some u := e
      rw [if_pos ex] at e'; cases e'
    · have e' : (if x = a then none else G1 x) = some u := e
      rw [if_neg ex] at e'; exact e'
  have at3 : ∀ x, x ≠ a → G3 x = G1 x := fun x ex => if_neg ex
  refine ⟨G3, ⟨fun x u e => ?_, g2.k, fun x u ht hx hg => ?_, g2.c⟩, ⟨sub.trans o2.u, by rw [at3 B.a nb.symm]; exact o2.b, ?_, o2.t, fun x u e => o2.f x u (sub x u e)⟩⟩
  · rw [at3 x (ne_of_none e eg)]; exact g2.s x u (sf x u e)
  · by_cases ex : x = a
    · exact if_pos ex
    · rw [at3 x ex]; exact g2.n x u ht hx (by rw [upd_ne ex]; exact hg)
  · obtain ⟨c, cells, p, r, m, n, hB, hc, w⟩ := o2.x
    obtain ⟨c1, cells1, p1, r1, m1, n1, hB1, hc1, _⟩ := o1.x
    obtain ⟨r', hB'⟩ := g2.c c1 _ hB1
    rw [hB] at hB'
    have ec : c = c1 := by
      have := HO.lst.inj (Option.some.inj hB')
      exact V.ref.inj (List.cons.inj this).1
    have nca : c ≠ a := by rw [ec]; exact ne_of_none hc1 eg
    exact ⟨c, cells, p, r, m, n, hB, by rw [at3 c nca]; exact hc, w⟩
theorem dd_flat {v : V} {d : D} (hv : v = d.v) (hf : d.flat = true) : Dd K B G v d := by
  rw [hv]
  cases d <;> first | exact .non | exact .bl _ | exact .int _ | exact .str _ | cases hf
/-- it is handed to a def that answers by something flat -/
theorem we_callOwn {i : Nat} {ds : List D} {pre : List D → Prop} {post : List D → D → Prop} {E : XK} {tr : TA} (h : δ[i]? = some (.own ds)) (hr : WAx K B X tr δ fun es => pre (.lst ds :: es) ∧ ∀ d, post (.lst ds :: es) d → d.flat = true ∧ P d) : WEx K B X (tCall (SpD K pre post) [] E (tCons (tVar i) tr)) δ P := fun G0 H0 σ G H Q s xx q => by
  obtain ⟨a, vs, e1, nb, e0, eg, e2, e3⟩ := s.own i ds h
  refine ⟨_, e1, hr G0 H0 σ G H _ s xx fun ws es G1 H1 g1 o1 hs ⟨hp, hq⟩ => ?_⟩
  have h1 : H1 a = some (.lst vs) := g1.k a _ nb nt_lst e2
  have hg1 : G1 a = none := g1.n a _ nt_lst e2 eg
  have sf : Same G1 (upd G1 a (.lst vs)) := same_upd hg1
  show SpD K pre post ((V.ref a :: ws) ++ []) H1 Q E
  rw [List.append_nil]
  refine ⟨B, upd G1 a (.lst vs), .lst ds :: es, freeze_ok o1 nt_lst nb hg1 h1, .cons (.lst upd_same ((e3.mono g1.s).mono sf)) (hs.mono sf), hp, fun v d G2 H2 g2 o2 hd pd => ?_⟩
  obtain ⟨hf, hP⟩ := hq d pd
  obtain ⟨G3, go3, ok3⟩ := melt o1 nb hg1 h1 g2 o2
  exact (q.on g1 o1) v d G3 H2 go3 ok3 (dd_flat (hd.flat hf) hf) hP
end
end Dl
/-! Dr: an expression that only reads a local list: the list is frozen for as long as the expression runs. -/
namespace Dl
open PySem L2
section
variable {K : PySem.W.Frag} {B : Bt} {G H : Hp} {δ : List Sd} {P : D → Prop} {te : TE} {X : Xc}
theorem Stt.frz {G0 H0 : Hp} {σ : L2.St} {i : Nat} {ds : List D} {a : Addr} {vs : List V} (s : Stt K B G0 H0 G H σ δ) (h : δ[i]? = some (.own ds)) (e1 : σ[i]? = some (some (.ref a))) (nb : a ≠ B.a) (e0 : ∀ o, nt o → H0 a ≠ some o) (eg : G a = none) (e2 : H a = some (.lst vs)) (e3 : Dds K B G vs ds) : Stt K B G0 H0 (upd G a (.lst vs)) H σ (δ.set i (.val (.lst ds))) := by
  have sf : Same G (upd G a (.lst vs)) := same_upd eg
  have off : ∀ (j : Nat) es, (δ.set i (.val (.lst ds)))[j]? = some (.own es) → i ≠ j ∧ δ[j]? = some (.own es) := fun j es hj => by
    rw [List.getElem?_set] at hj
    by_cases ij : i = j
    · rw [if_pos ij] at hj
      split at hj <;> cases hj
    · rw [if_neg ij] at hj
      exact ⟨ij, hj⟩
  refine ⟨⟨s.go.s.trans sf, s.go.k, fun x u ht hx hg => ?_, s.go.c⟩, freeze_ok s.ok nt_lst nb eg e2, by rw [List.length_set, s.len], fun j d hj => ?_, fun j es hj => ?_, fun j l ds1 es1 b h1 h2 h3 h4 => ?_⟩
  · have ne : x ≠ a := fun e => e0 u ht (e ▸ hx)
    rw [upd_ne ne]
    exact s.go.n x u ht hx hg
  · rw [List.getElem?_set] at hj
    by_cases ij : i = j
    · rw [if_pos ij] at hj
      split at hj
      · cases hj
        exact ⟨_, ij ▸ e1, .lst upd_same (e3.mono sf)⟩
      · cases hj
    · rw [if_neg ij] at hj
      obtain ⟨v, q1, q2⟩ := s.val j d hj
      exact ⟨v, q1, q2.mono sf⟩
  · obtain ⟨ij, hj⟩ := off j es hj
    obtain ⟨b, ws, q1, q2, q3, q4, q5, q6⟩ := s.own j es hj
    have ne : b ≠ a := fun e => ij (s.apart i j ds es a h hj e1 (e ▸ q1))
    exact ⟨b, ws, q1, q2, q3, by rw [upd_ne ne]; exact q4, q5, q6.mono sf⟩
  · exact s.apart j l ds1 es1 b (off j _ h1).2 (off l _ h2).2 h3 h4
theorem we_frz {i : Nat} {ds : List D} (h : δ[i]? = some (.own ds)) (w : WE K B te (δ.set i (.val (.lst ds))) fun d => d.flat = true ∧ P d) : WEx K B X te δ P := fun G0 H0 σ G H Q s xx q => by
  obtain ⟨a, vs, e1, nb, e0, eg, e2, e3⟩ := s.own i ds h
  refine w G0 H0 σ _ H _ (s.frz h e1 nb e0 eg e2 e3) ctx0 fun v d G2 H2 g2 o2 hd ⟨hf, hP⟩ => ?_
  obtain ⟨G3, go3, ok3⟩ := melt s.ok nb eg e2 g2 o2
  exact q v d G3 H2 go3 ok3 (dd_flat (hd.flat hf) hf) hP
theorem wt_frz {tt : TT} {P : Bool → Prop} {i : Nat} {ds : List D} (h : δ[i]? = some (.own ds)) (w : WT K B tt (δ.set i (.val (.lst ds))) P) : WTx K B X tt δ P := fun G0 H0 σ G H Q s xx q => by
  obtain ⟨a, vs, e1, nb, e0, eg, e2, e3⟩ := s.own i ds h
  refine w G0 H0 σ _ H _ (s.frz h e1 nb e0 eg e2 e3) ctx0 fun b G2 H2 g2 o2 hP => ?_
  obtain ⟨G3, go3, ok3⟩ := melt s.ok nb eg e2 g2 o2
  exact q b G3 H2 go3 ok3 hP
end
end Dl
/-! == of two values: scalars, or dicts of flat values -/
namespace Dl
open PySem L2
def rEqU : R2 := fun x y H Q => rEq x y H Q ∨ rEqDA x y H Q
theorem op_eqU {X : Cx} (hu : X.A.units < cLine) : OpR X (compareOp .Eq) rEqU := by
  intro pins s σ H x y v u Q I rx ry h
  rcases h with h | h
  · exact op_eq pins s σ H x y v u Q I rx ry h
  · exact op_eq_dictA hu pins s σ H x y v u Q I rx ry h
theorem u0 {k : Nat} {A : Around} (hr : Room k A) : A.units < cLine := by have := hr.un; omega
end Dl
namespace Dl
open PySem PySem.Spec PyProof.Rows L2 HT
section
variable {prog : Program} {w : World} {A : Around} {E : Value → Shared → Prop} {s : Shared}
theorem sliceApplied_rev2 {sl : Addr} {tk : Tok} {Q : Int × Int × Nat → Shared → Prop} (hs : s.heap.IsSliceOf sl .none .none (.int (-1) tk))
    (h : Q (1, -1, 2) s) : wpAny (model prog w) A (Builtin.Slice.sliceApplied (.ref sl) (pure ((2 : Nat) : Int))) Q E s := by
  obtain ⟨os, hos, hcs, hds⟩ := id hs
  unfold Builtin.Slice.sliceApplied Builtin.Slice.sliceFields
  refine wpAny_bind (wpAny_bind (wpAny_field hos hds (x := .none) rfl (wpAny_bind (wpAny_field hos hds (x := .none) rfl (wpAny_bind (wpAny_field hos hds (x := .int (-1) tk) rfl (wpAny_pure ?_)))))))
  refine wpAny_bind (slicePart_int ?_)
  show wpAny _ _ (if ((-1 : Int) == 0) = true then _ else _) _ _ s
  rw [if_neg (by decide)]
  refine wpAny_bind (slicePart_none (wpAny_bind (slicePart_none (wpAny_bind (wpAny_pure ?_)))))
  exact wpAny_pure h
theorem getItem_tuple_rev2 {t sl : Addr} {a b : Value} {tk : Tok} {Q : Value → Shared → Prop} (ht : IsTup s.heap t #[a, b]) (hs : s.heap.IsSliceOf sl .none .none (.int (-1) tk))
    (h : Q (.ref s.heap.objs.size) { s with heap := s.heap.push { cls := .type "tuple", data := .seq #[b, a] } }) : wpAny (model prog w) A (getItem (.ref t) (.ref sl)) Q E s := by
  have htake : sizeOk (.seq #[b, a]) := by
    show 2 ≤ sizeLine
    decide
  obtain ⟨os, hos, hcs, hds⟩ := id hs
  have hTs : s.TypeIs (.ref sl) "slice" := ⟨os, hos, hcs⟩
  unfold getItem
  try with_reducible refine wpAny_holding ?_
  first | refine wpAny_bind (wpAny_pure ?_) | skip
  refine wpAny_bind (wpAny_sequenceKey ht.typeIs (by decide) ?_)
  refine wpAny_bind (wpAny_callSpecial?_slot (name := Str.ofString "__getitem__") ht.typeIs PyProof.Rows.slot_tuple_getitem
    (wpAny_call_entry PyProof.Rows.slot_tuple_getitem ht.typeIs entry_tuple_getitem ?_ (args_tuple_getitem _ _)))
  show wpAny _ _ (Builtin.Tuple.tupleItemsOf (.ref t) >>= _) _ _ s
  refine wpAny_bind (tupleItemsOf_ ht ?_)
  refine wpAny_bind (wpAny_typeOf hTs ?_)
  rw [if_pos (by decide)]
  refine wpAny_bind (sliceApplied_rev2 hs ?_)
  show wpAny _ _ (if ((1 : Int) == 0 && (-1 : Int) == 1 && (2 : Nat) == 2) = true then _ else _) _ _ s
  rw [if_neg (by decide)]
  have e : ((List.range 2).filterMap fun (m : Nat) => (#[a, b] : Array Value)[((1 : Int) + (m : Int) * -1).toNat]?).toArray = #[b, a] := rfl
  rw [e]
  first
    | exact wpAny_bind (m := Builtin.Tuple.tupleExact _) (wpAny_newObj_type (wpAny_pure ⟨_, rfl, wpAny_pure h⟩) htake)
    | exact wpAny_bind (m := Builtin.Tuple.tupleExact _) (wpAny_newObj_type (wpAny_bind (wpAny_pure (wpAny_pure ⟨_, rfl, wpAny_pure h⟩))) htake)
    | exact wpAny_bind (wpAny_bind (m := Builtin.Tuple.tupleExact _) (wpAny_newObj_type (wpAny_pure (wpAny_pure ⟨_, rfl, wpAny_pure h⟩)) htake))
    | exact wpAny_bind (wpAny_bind (m := Builtin.Tuple.tupleExact _) (wpAny_newObj_type (wpAny_pure ⟨_, rfl, wpAny_pure h⟩) htake))
end
section
variable {X : Cx}
/-- t[::-1] of a pair -/
def tRev2 (K : PySem.W.Frag) (te : TE) : TE := fun σ H Q => te σ H fun x H1 => ∃ a u v, x = .ref a ∧ SqT K H1 a [u, v] ∧ NewT Q H1 [v, u]
theorem pe_revT {e : Expr} {te : TE} {k : Nat} {p1 p2 p3 pos : Pos} (he : PE X e te) : PE X (.Subscript e (.Slice none none (some (.UnaryOp .USub (.Constant (.int 1) k p1) p2)) p3) pos) (tRev2 X.K te) := by
  refine ⟨fun pins s σ H Q I h => ?_⟩
  refine Subscript_ (thn (he.run pins s σ H _ I h) fun v s1 ⟨x, H1, I1, r1, q1⟩ => ?_)
  obtain ⟨a, u, z, ex, hx, q⟩ := q1
  subst ex
  cases r1
  have hst : PO X (some (.UnaryOp .USub (.Constant (.int 1) k p1) p2)) (tPart (tUn (rU fun i => .int (-i)) (tC (.int 1)))) := po_some (pe_un un_neg pe_int)
  refine wpAny_Slice (thn (po_none.run pins s1 σ H1 (fun o H2 => o = none ∧ H2 = H1) I1 ⟨rfl, rfl⟩) fun vl s2 ⟨l, H2, I2, pl, el, e2⟩ => ?_)
  subst el e2
  refine thn (po_none.run pins s2 σ H2 (fun o H3 => o = none ∧ H3 = H2) I2 ⟨rfl, rfl⟩) fun vu s3 ⟨u', H3, I3, pu, eu, e3⟩ => ?_
  subst eu e3
  refine thn (hst.run pins s3 σ H3 (fun o H4 => o = some (-1) ∧ H4 = H3) I3 ⟨1, rfl, -1, rfl, rfl, rfl⟩) fun vs s4 ⟨o, H4, I4, ps, eo, e4⟩ => ?_
  subst eo e4
  have I5 : Inv X pins σ H4 { s4 with heap := s4.heap.push { cls := .type "slice", data := .fields #[vl, vu, vs] } } := I4.kept (t' := s4.toks) fun b ob q => Heap.get?_push_of_some _ q
  obtain ⟨its, r, ht, hz⟩ := I5.tuple hx
  obtain ⟨w1, w2, rfl, rw1, rw2⟩ := vals2 r
  cases pl
  cases pu
  cases ps with
  | int _ tk =>
    show wpAny (model X.prog X.w) X.A (subscriptTail e (.Slice none none (some (.UnaryOp .USub (.Constant (.int 1) k p1) p2)) p3) (.ref a) (.ref s4.heap.objs.size)) (EP X pins σ Q) X.xe { s4 with heap := s4.heap.push { cls := .type "slice", data := .fields #[.none, .none, .int (-1) tk] } }
    refine tail_any (ops := [.ref a, .ref s4.heap.objs.size]) ht.typeIs (PyProof.Rows.slot_tuple_getitem.lookup) ?_ (by with_unfolding_all rfl)
    refine getItem_tuple_rev2 ht (Heap.IsSliceOf.new _ _ _ _) ?_
    exact newT_ep (its := [w2, w1]) I5 (.cons rw2 (.cons rw1 .nil)) (by show 2 ≤ sizeLine; decide) q
/-- list(text) -/
theorem call_list_str (hc : X.calm = true) : CallR X (.type "list") (fun xs H Q => ∃ z, xs = [.str z] ∧ z.length ≤ sizeLine ∧ ∀ l, H l = none → Q (.ref l) (upd H l (.lst (z.cps.toList.map fun c => .str ⟨#[c]⟩)))) := by
  intro pins s σ H xs us Q I r h
  obtain ⟨z, rfl, hz, q⟩ := h
  obtain ⟨u, rfl, rx⟩ := vals1 r
  obtain ⟨t, rfl⟩ := rx
  refine PySem.call_list_str (I.ok.hd hc) z t (fun h' tk acc c' kp e it => ?_) hz
  obtain ⟨h1, h2⟩ := it
  have hv : Vals (z.cps.toList.map fun c => V.str ⟨#[c]⟩) acc.toList := by
    refine vals_of_idx _ _ (by rw [List.length_map, Array.length_toList, Array.length_toList, h1]) fun j u hu => ?_
    rw [Array.getElem?_toList] at hu
    obtain ⟨c, tk', e1, rfl⟩ := h2 j u hu
    exact ⟨.str ⟨#[c]⟩, by rw [List.getElem?_map, Array.getElem?_toList, e1]; rfl, tk', rfl⟩
  refine ⟨.ref s.heap.objs.size, _, I.laid (t' := tk) (o := .lst (z.cps.toList.map fun c => V.str ⟨#[c]⟩)) kp (Nat.le_refl _) ?_, rfl, q _ (I.hok.fresh (Nat.le_refl _))⟩
  exact ⟨by rw [List.length_map, Array.length_toList]; exact hz, acc.toList, c', hv, by rw [Array.toArray_toList]; exact e⟩
end
section
variable {K : PySem.W.Frag} {B : Bt} {δ : List Sd} {P : D → Prop} {te : TE} {Xe : Xc}
theorem we_rev2 (h : WEx K B Xe te δ fun d => ∃ a b, d = .tup [a, b] ∧ P (.tup [b, a])) : WEx K B Xe (tRev2 K te) δ P := fun G0 H0 σ G H Q s xx q =>
  h G0 H0 σ G H _ s xx fun x d G1 H1 g1 o1 hx ⟨a, b, e, p⟩ => by
    subst e
    cases hx with
    | tup hg t =>
      cases t with
      | cons h1 t =>
        cases t with
        | cons h2 t =>
          cases t
          exact ⟨_, _, _, rfl, SqT.ofZ (o1.u _ _ hg.1), fun r ob hr hd => (q.on g1 o1).new o1 nt_tup hr (.tup ⟨upd_same, hd⟩ (.cons (h2.mono (same_upd (o1.fresh hr))) (.cons (h1.mono (same_upd (o1.fresh hr))) .nil))) p⟩
theorem dds_signs {G : Hp} : ∀ cs : List Nat, Dds K B G (cs.map fun c => V.str ⟨#[c]⟩) (cs.map fun c => D.str ⟨#[c]⟩)
  | [] => .nil
  | c :: r => .cons (.str _) (dds_signs r)
theorem rc_listS {z : Str} (l : z.length ≤ 1000) (p : P (.lst (Dl.signs z))) : RC K B (fun xs H Q => ∃ z, xs = [.str z] ∧ z.length ≤ sizeLine ∧ ∀ l, H l = none → Q (.ref l) (upd H l (.lst (z.cps.toList.map fun c => .str ⟨#[c]⟩)))) [.str z] P := fun _ _ _ _ o hs q => by
  cases hs with
  | cons h t =>
    cases t
    cases h
    exact ⟨z, rfl, sz1000 l, fun a ha => q.new o nt_lst ha (.lst upd_same (dds_signs _)) p⟩
end
end Dl
/-! Tx: a caught exception as an object of the heap: try .. except (A, B) as n; its fields; a def that it is handed to. -/
namespace Dl
open PySem PySem.Spec PyProof.Rows L2
theorem xo_ok {P : Program} {w : World} {H : Hp} {h : Heap} {a C d : Addr} {oe : Obj} {vs : Array Value} (he : h.get? a = some oe) (hc : oe.cls = .ref C) (hd : oe.dict = some d) (hv : oe.data = .fields vs) : ObjOk P w H h a (xo a C d) :=
  ⟨⟨oe, vs, he, hc, hd, hv⟩, ⟨oe, he⟩, fun _ _ ⟨o, v, q, r⟩ k => ⟨o, v, k o q, r⟩⟩
theorem xo_nt {a C d : Addr} : nt (xo a C d) := fun ps z => by
  unfold xo at z
  cases z
theorem xd_nt {fs : List (Str × V)} : nt (.xd fs) := fun ps z => nomatch z
theorem xo_at {P : Program} {w : World} {H : Hp} {h : Heap} {a C d : Addr} (hok : HOk P w H h) (e : H a = some (xo a C d)) : ∃ (oe : Obj) (vs : Array Value), h.get? a = some oe ∧ oe.cls = .ref C ∧ oe.dict = some d ∧ oe.data = .fields vs := by
  have x : ObjOk P w H h a (.ext fun h => ∃ (oe : Obj) (vs : Array Value), h.get? a = some oe ∧ oe.cls = .ref C ∧ oe.dict = some d ∧ oe.data = .fields vs) := hok a _ e
  exact x.1
section
variable {X : Cx} {pins : List (Addr × Obj)} {σ : L2.St} {H : Hp} {s : Shared}
/-- an object that came behind the entry is tracked from now on -/
theorem Inv_track {a C d : Addr} {oe : Obj} {vs : Array Value} (I : Inv X pins σ H s) (na : H a = none) (he : s.heap.get? a = some oe) (hc : oe.cls = .ref C) (hd : oe.dict = some d) (hv : oe.data = .fields vs)
    (n0 : X.s_0.heap.get? a = none) (nL : a ≠ X.env.locals) (nP : ∀ p ∈ X.pn ++ pins, p.1 ≠ a) (nC : ∀ x c, X.env.cells.lookup x = some c → c ≠ a) : Inv X pins σ (upd H a (xo a C d)) s := by
  have ne0 : ∀ b o, X.s_0.heap.get? b = some o → b ≠ a := fun b o e z => by rw [z, n0] at e; cases e
  have sm : ∀ b u, H b = some u → b ≠ a := fun b u e => ne_of_none e na
  refine ⟨I.ok, I.os, I.bare, ⟨fun b o e n => ?_, fun b o e n => ?_, fun b o e n hx => ?_, I.base.there, fun b xs e => ?_, fun b o u e => ?_, fun b ps e => ?_⟩, I.loc, I.cell, ?_, fun x c e => ?_, fun p hp => ?_, fun b u e => ?_, I.len⟩
  · exact I.base.keep b o e n
  · exact I.base.slot b o e n
  · rw [upd_ne (ne0 b o e)]; exact I.base.free b o e n hx
  · have z := I.base.tups b xs e
    rw [upd_ne (sm b _ z)]; exact z
  · have z := I.base.frzs b o u e
    rw [upd_ne (sm b _ z)]; exact z
  · obtain ⟨m, z⟩ := I.base.tbls b ps e
    exact ⟨m, by rw [upd_ne (sm b _ z)]; exact z⟩
  · rw [upd_ne (Ne.symm nL)]; exact I.free
  · rw [upd_ne (nC x c e)]; exact I.freeC x c e
  · obtain ⟨h1, h2, h3, h4, h5⟩ := I.pin p hp
    exact ⟨h1, by rw [upd_ne (nP p hp)]; exact h2, h3, h4, h5⟩
  · by_cases hb : b = a
    · rw [hb, upd_same] at e
      cases e
      rw [hb]
      exact xo_ok he hc hd hv
    · rw [upd_ne hb] at e
      exact (I.hok b u e).stay (fun c v _ q => q) (fun c q => by rw [upd_ne (sm c _ q)]; exact q) fun c xs q => by rw [upd_ne (sm c _ q)]; exact q
theorem flyZ_keeps {B : Heap} {l : List Env} {a : Addr} {Z : Obj → Prop} {h h' : Heap} (fl : HandSPX.FlyingZ B l a Z h) (k : ∀ b o, h.get? b = some o → h'.get? b = some o) : HandSPX.FlyingZ B l a Z h' := by
  obtain ⟨f1, f2, f3, oe, vs, T, oT, ts, he, hz, hd, h1, hn, hne, hT, hdT, h3⟩ := fl
  exact ⟨fun b o q => k b o (f1 b o q), f2, f3.of_keeps fun b o q _ => ⟨o, k b o q, rfl⟩, oe, vs, T, oT, ts, k _ _ he, hz, hd, h1, hn, hne, k _ _ hT, hdT, h3⟩
theorem Inv_suite0 (I : Inv X pins σ H s) (a : Addr) : Inv (X.suite a (X.pn ++ pins)) [] σ H s :=
  ⟨I.ok.suite _ _, I.os, I.bare, I.base, I.loc, I.cell, I.free, I.freeC, fun p hp => I.pin p (by rw [List.append_nil] at hp; exact hp), I.hok, I.len⟩
theorem Inv_unsuite0 {a : Addr} {pn' : List (Addr × Obj)} (I : Inv (X.suite a (X.pn ++ pins)) pn' σ H s) (ok : X.Ok) : Inv X pins σ H s :=
  ⟨ok, I.os, I.bare, I.base, I.loc, I.cell, I.free, I.freeC, fun p hp => I.pin p (List.mem_append_left _ hp), I.hok, I.len⟩
end
/-- what the clause 'except (c1, c2) as n' wishes -/
def wTup (K : PySem.W.Frag) (c1 c2 : Value) (i : Nat) (ts : TS) (Wout : WX) (D : Ends) : WX := fun cls d σ H =>
  ∃ b, PySem.W.exmAny K cls [c1, c2] = some b ∧ (b = true → ∃ C dd, cls = .ref C ∧ d = some dd ∧ ∀ a, H a = none → ts { nx := fun σ' H' => D.nx (σ'.set i none) H', rt := D.rt, bk := fun σ' H' => D.bk (σ'.set i none) H', ct := fun σ' H' => D.ct (σ'.set i none) H' } (σ.set i (some (.ref a))) (upd H a (xo a C dd))) ∧
    (b = false → Wout cls d σ H)
section
variable {X : Cx} {x1 x2 n : Str} {c1 c2 : Value} {i kk : Nat} {body suite : List Stmt} {b₀ : Stmt} {np1 np2 tpos pos pos' : Pos} {tb : WX → TS} {ts : TS} {Wout : WX}
theorem ps_try_tup (hs : X.stack = X.env :: X.outer) (hf : X.env.frame = some X.env.locals) (hex : X.ex = []) (hN : X.N.Nodup) (hi : X.N[i]? = some n) (hln : X.env.kindOf n = some .local) (hc1 : Names X x1 c1) (hc2 : Names X x2 c2) (tk : Takes X Wout)
    (hb : ∀ (W : WX) (pn : List (Addr × Obj)) (xe : Value → Shared → Prop), Takes (X.tr pn xe) W → PassesOwn (model X.prog X.w) X.A X.env xe → PSs (X.tr pn xe) body (tb W))
    (hsu : ∀ (a : Addr) (pn : List (Addr × Obj)), PSs (X.suite a pn) (b₀ :: suite) ts) :
    PS X (.Try body [.ExceptHandler (some (.Tuple [.Name x1 np1, .Name x2 np2] kk tpos)) (some n) (b₀ :: suite) pos'] [] [] pos) (fun D σ H => tb (wTup X.K c1 c2 i ts Wout D) D σ H) := by
  refine ⟨fun pins s σ H D I h => ?_⟩
  have ok := I.ok
  have hfr : X.A.frames = some (X.env :: X.outer) := by rw [ok.frames, hs]
  have hloc : Loc X.env.scope n := .inl hln
  refine wpAny_Try_except ?_
  refine wpAny_mono ((hb (wTup X.K c1 c2 i ts Wout D) (X.pn ++ pins) (fun e s₁ => wpAny (model X.prog X.w) X.A (noteFrame e X.env) (fun _ s₂ => wpAny (model X.prog X.w) X.A (setFlight e none) (fun _ s₃ =>
    wpAny (model X.prog X.w) X.A (handleBy e X.env [.ExceptHandler (some (.Tuple [.Name x1 np1, .Name x2 np2] kk tpos)) (some n) (b₀ :: suite) pos']) (SP X pins D) X.xe s₃) X.xe s₂) X.xe s₁) (fun u s' xx => ?_) PassesOwn.looking).run [] s σ H D (I.toTry _) h) (fun f s1 hsp => ?_) (fun e s1 he => he)
  · -- the catch
    obtain ⟨a, B, sI, pins', σ', H', cls, d, rfl, J', nb, up, sky, na, os, ag, b, hb1, hyes, hno⟩ := xx
    have J : Inv X pins σ' H' sI := J'.ofTry ok
    have sky' : Sky B (X.env :: X.outer) a (Zc cls d) X.env.locals s'.heap := by rw [← hs]; exact sky
    show wpAny (model X.prog X.w) X.A (noteFrame (.ref a) X.env) _ _ _
    refine Sky.land Zc.steady hfr hf sky' fun h3 fl3 up3 => ?_
    have J3 : Inv X pins σ' H' { s' with heap := h3 } := J.landed nb fl3.1 (up.trans up3) os ag
    obtain ⟨oe3, vs3, he3, hz3, hd3⟩ := fl3.there
    have notFr : ∀ {h : Heap} {o : Obj} {vs : Array Value}, h.FunFrames B (X.env :: X.outer) → h.get? a = some o → o.data = .fields vs → a ∉ frs (X.env :: X.outer) := fun {h o vs} ff e dd hm => by
      obtain ⟨_, o', e', hnf⟩ := ff.mem hm
      rw [e] at e'; cases e'
      exact hnf _ dd
    have nfr := notFr fl3.2.2.1 he3 hd3
    have nL : a ≠ X.env.locals := fun z => nfr (List.mem_filterMap.mpr ⟨X.env, List.mem_cons_self, by rw [hf, z]⟩)
    -- it came behind the entry
    have nI : ∀ b o, sI.heap.get? b = some o → b ≠ a := fun b o e z => by
      have q := nb b o e (by rw [z, hs]; exact nfr)
      rw [z, fl3.2.1] at q; cases q
    have n0 : X.s_0.heap.get? a = none := by
      cases e : X.s_0.heap.get? a with
      | none => rfl
      | some o =>
        obtain ⟨o', q⟩ := J.base.there a o e (by rw [hex]; exact fun z => nomatch z)
        exact absurd rfl (nI a o' q)
    have nP : ∀ p ∈ X.pn ++ pins, p.1 ≠ a := fun p hp => nI p.1 p.2 (J.pin p hp).1
    have nC : ∀ x c, X.env.cells.lookup x = some c → c ≠ a := fun x c e => by
      obtain ⟨v, o, ho, _⟩ := J.cell x c e
      exact nI c o ho
    have S3 := Inv_suite0 J3 a
    refine wpAny_handleBy_cons (codeAny_handlers_test ?_) (by intro q; cases q)
    have nm : ∀ {x : Str} {c : Value} {np : Pos} {h' : Heap} {t' : Nat} {Q : Value → Shared → Prop} {E : Value → Shared → Prop}, Names X x c → Q c { s' with heap := h3 } → wpAny (model X.prog X.w) (X.A.mark (some (.ref a))) (eval (.Name x np) X.env) Q E { s' with heap := h3 } := fun {x c np h' t' Q E} hc q => by
      obtain ⟨hg, hdbg, hm | ⟨hm, hv, hnn⟩⟩ := hc
      · exact ld_glob (X := X.suite a (X.pn ++ pins)) S3 hg hm q hdbg
      · exact ld_blt (X := X.suite a (X.pn ++ pins)) S3 hg hm hv q hnn hdbg
    refine wpAny_Tuple ?_
    refine wpAny_items_cons (nm (h' := h3) (t' := 0) hc1 ?_)
    refine wpAny_items_cons (nm (h' := h3) (t' := 0) hc2 ?_)
    refine wpAny_items_nil ⟨by size_fits, ?_⟩
    have kp : ∀ q o, h3.get? q = some o → (h3.push { cls := .type "tuple", data := .seq [c1, c2].toArray }).get? q = some o := fun _ _ z => Heap.get?_push_of_some _ z
    have LT : PySem.W.Looks (model X.prog X.w) h3 (typeOf (.ref a)) cls := fun A Q E s k q => wpAny_typeOf_ref (k _ _ he3) (by rw [hz3.1]; exact q)
    refine (PySem.W.exm_tup2 (J3.kIn.keeps kp) (LT.keeps kp) (Heap.get?_push_size h3 rfl) hb1).here ?_
    have fl5 := flyZ_keeps fl3 kp
    have up5 : s'.heap.UpToSlots (h3.push { cls := .type "tuple", data := .seq [c1, c2].toArray }) := up3.trans (Heap.UpToSlots.of_keeps kp)
    cases b with
    | true =>
      obtain ⟨C, dd, eC, ed, hy2⟩ := hyes rfl
      subst eC ed
      refine codeAny_handlers_suite_as ?_
      refine HandSPX.lands_againZ fl5 fun h4 fl4 up4 => ?_
      have J4 : Inv X pins σ' H' { s' with heap := h4 } := J.landed nb fl4.1 ((up.trans up5).trans up4) os ag
      obtain ⟨oe4, vs4, he4, hz4, hd4⟩ := fl4.there
      have J5 := Inv_track J4 na he4 hz4.1 hz4.2 hd4 n0 nL nP nC
      have S4 := Inv_suite0 J5 a
      refine store_ok (X := X.suite a (X.pn ++ pins)) (v := .ref a) S4 hN hi hloc rfl (fun s5 S5 => ?_) (.inr hln)
      refine wpAny_mono ((hsu a (X.pn ++ pins)).run [] s5 _ _ _ S5 (hy2 a na)) (fun f s6 hsp => ?_) (fun _ _ z => False.elim z)
      have end_ : ∀ {σ6 : L2.St} {H6 : Hp} {Q : Shared → Prop}, Inv (X.suite a (X.pn ++ pins)) [] σ6 H6 s6 → (∀ s7, Inv X pins (σ6.set i none) H6 s7 → Q s7) →
          wpAny (model X.prog X.w) X.A (do bindName X.env n .none; unbindBehindTheSuite X.env n pos') (fun _ s7 => Q s7) X.xe s6 := fun {σ6 H6 Q} S6 hq => gone_ok (Inv_unsuite0 S6 ok) hN hi hln hq
      cases f with
      | next =>
        obtain ⟨σ6, H6, S6, q6⟩ := hsp
        exact end_ S6 fun s7 J7 => ⟨_, _, J7, q6⟩
      | brk =>
        obtain ⟨σ6, H6, S6, q6⟩ := hsp
        exact end_ S6 fun s7 J7 => ⟨_, _, J7, q6⟩
      | cont =>
        obtain ⟨σ6, H6, S6, q6⟩ := hsp
        exact end_ S6 fun s7 J7 => ⟨_, _, J7, q6⟩
      | ret u =>
        obtain ⟨v6, σ6, H6, S6, r6, q6⟩ := hsp
        exact end_ S6 fun s7 J7 => ⟨_, _, _, J7, r6, q6⟩
    | false =>
      show wpAny _ X.A (handleBy (.ref a) X.env []) _ _ _
      refine wpAny_handleBy_nil ?_
      obtain ⟨k1, k2, k3, oe, vs, T, oT, ts', he, hz, hd, h1, hr⟩ := id fl5
      unfold PySem.passOn
      refine wpAny_bind (wpAny_field he hd h1 ?_)
      rw [if_neg (show ¬ ((Value.ref T == Value.none) = true) from by simp)]
      have fin : wpAny (model X.prog X.w) X.A (setFlight (.ref a) X.env.frame) (fun _ s4 => wpAny (model X.prog X.w) X.A (throw (.ref a) : Sem Flow) (SP X pins D) X.xe s4) X.xe { s' with heap := h3.push { cls := .type "tuple", data := .seq [c1, c2].toArray } } := by
        rw [hf]
        refine HandSPX.setFlight_upZ fl5 fun h4 hh4 up4 => wpAny_throw (tk _ _ ?_)
        exact ⟨a, B, sI, pins, σ', H', cls, d, rfl, J, nb, (up.trans up5).trans up4, .inr (.inr (by rw [hs]; exact hh4)), na, os, ag, hno rfl⟩
      first
        | exact wpAny_bind (wpAny_pure (wpAny_bind fin))
        | exact wpAny_bind fin
  · cases f with
    | next =>
      obtain ⟨σ', H', J', q⟩ := hsp
      exact wpAny_execs_nil ⟨σ', H', J'.ofTry ok, q⟩
    | brk =>
      obtain ⟨σ', H', J', q⟩ := hsp
      exact ⟨σ', H', J'.ofTry ok, q⟩
    | cont =>
      obtain ⟨σ', H', J', q⟩ := hsp
      exact ⟨σ', H', J'.ofTry ok, q⟩
    | ret u =>
      obtain ⟨v, σ', H', J', r, q⟩ := hsp
      exact ⟨v, σ', H', J'.ofTry ok, r, q⟩
end
/-! ### its fields -/
/-- e.f of an exception that is tracked -/
def tXv (K : PySem.W.Frag) (f : Str) (te : TE) : TE := fun σ H Q => te σ H fun x H1 => ∃ (a C d : Addr) (fs : List (Str × V)) (v : V), x = .ref a ∧ H1 a = some (xo a C d) ∧ H1 d = some (.xd fs) ∧ fs.lookup f = some v ∧ XfC K C ∧ PySem.W.findIn K (.ref C) f = some none ∧ Q v H1
theorem pe_xv {X : Cx} {e : Expr} {te : TE} {pos : Pos} {n : Str} (he : PE X e te) (hb : attributeBase e n X.env (eval e X.env) = eval e X.env := by rfl) : PE X (.Attribute e n pos) (tXv X.K n te) := by
  refine ⟨fun pins s σ H Q I h => ?_⟩
  refine attr_of hb (thn (he.run pins s σ H _ I h) fun u s1 hh => ?_)
  obtain ⟨x, H1, I1, rx, a, C, d, fs, v, ex, ea, ed, l, T, hno, q⟩ := hh
  subst ex
  obtain rfl : u = Value.ref a := rx
  obtain ⟨oe, vs, ha, hc, hd, hf⟩ := xo_at I1.hok ea
  have hx : ObjOk X.prog X.w H1 s1.heap d (.xd fs) := I1.hok d _ ed
  obtain ⟨mA, hns, hr⟩ := hx
  obtain ⟨od, ho, hl⟩ := lookIn_ns hns
  obtain ⟨u, hu, ru⟩ := RelO.some_of (v := v) (o := mA n) (by rw [← l]; exact hr n)
  have J : PySem.W.InstAt s1.heap a oe C (some od) := ⟨ha, hc, by unfold PySem.W.notCls; rw [hf] <;> rfl, by rw [hd]; exact ho⟩
  exact HandSPX.exc_get I1.kIn J T.ga T.gg T.exC (PySem.W.findObj_own T.hdC hno rfl (by rw [hl, hu])) (handed_of ru) ⟨v, H1, I1.tok _, ru, q⟩
end Dl
/-! Ty: a def that is called while an exception is handled, and raises nothing. -/
namespace Dl
open PySem PySem.Spec PyProof.Rows L2
open L2H (RoomH roomH_of)
structure FnT (P : Program) (w : World) (K : PySem.W.Frag) (mg : Str → Option Value) (base : Heap) (k : Nat) (f : Addr) (fd : FuncData) (ps : List Str) (sp : Sp) : Prop where
  len : ∀ vs H Q E, sp vs H Q E → vs.length = ps.length
  run : ∀ (A : Around) (outer : List Env) (s : Shared) (H : Hp) (args : Args) (us : List Value) (vs : List V) (Q : VK) (E : XK), RoomH k A → Env0 P w K mg base A outer s H → BindsTo s fd args (ps.zip us) → Vals vs us → sp vs H Q E →
    codeAny (model P w) A (.call (.ref f) args) (CR L2.CX0 outer P w H s Q E) s
def cxT (P : Program) (w : World) (K : PySem.W.Frag) (mg : Str → Option Value) (base : Heap) (N : List Str) (qual : Str) (scope : Scope) (f : Addr) (cd : Value) (A : Around) (outer : List Env) (s : Shared) (H : Hp) (E : XK) : Cx :=
  { cxOf L2.CX0 P w K mg base N qual scope f cd A outer s H E with calm := false }
theorem inv_startT {P : Program} {w : World} {K : PySem.W.Frag} {mg : Str → Option Value} {base : Heap} {N ps : List Str} {qual : Str} {scope : Scope} {f : Addr} {cd : Value} {A : Around} {outer : List Env} {s s1 : Shared} {H : Hp} {E : XK} {us : List Value} {vs : List V}
    (S : FnScope N ps scope) (e0 : Env0 P w K mg base A outer s H) (hl : vs.length = ps.length) (r : Vals vs us)
    (x : InCallC s s.heap.objs.size (bindL (envOfC qual scope s.heap.objs.size f cd).kindOf (ps.zip us) fun _ => none) (cellsFrom (s.heap.objs.size + 1) scope.names []) (bindC (envOfC qual scope s.heap.objs.size f cd).kindOf (ps.zip us) fun _ => none) s1) :
    Inv (cxT P w K mg base N qual scope f cd A outer s H E) [] (L2.start N vs) H s1 := by
  have hpl : ps.length ≤ N.length := by have := congrArg List.length S.pre; rw [List.length_take] at this; omega
  obtain ⟨h1, tk, rfl, hk⟩ := x.done
  have noA : ∀ b : Addr, b ∉ (cxT P w K mg base N qual scope f cd A outer s H E).ex := fun b z => absurd (show b ∈ ([] : List Addr) from z) (by simp)
  refine ⟨⟨e0.mod, S.kind, rfl, rfl, Nat.le_refl _, fun y z c h1 h2 => ?_, fun y hy => ?_, fun y c _ h => ?_, (fun z => Bool.noConfusion (show false = true from z)), Around.frames_deeper e0.frames, .inr ⟨rfl, rfl⟩, fun b z => absurd z (noA b), e0.bs, e0.bsz, fun b _ _ => noA b, fun b z => absurd z (noA b), e0.funs, e0.frf⟩,
    rfl, e0.bare, Un.kept hk, ⟨_, x.toInCall.ns, fun i y v h1 h2 h3 => ?_⟩, fun y c h => ⟨_, x.cell y c h⟩, e0.hok.fresh (Nat.le_refl _), fun y c h => ?_, fun q hq => ?_, e0.hok.kept hk, ?_⟩
  · exact name_of_addr x.apart (PySem.mem_of_lookup h1) (PySem.mem_of_lookup h2)
  · have hy : scope.names.lookup y = some .cell ∨ scope.names.lookup y = some .free := hy
    rcases hy with hy | hy
    · exact cell_has hy
    · exact absurd rfl (S.nofree _ (PySem.mem_of_lookup hy))
  · exact Nat.le_of_lt (x.above y c (PySem.mem_of_lookup h))
  · have hi : i < vs.length := by
      unfold L2.start at h2
      by_cases hi : i < vs.length
      · exact hi
      · rw [List.getElem?_append_right (by simpa using hi)] at h2
        rw [List.getElem?_replicate] at h2
        split at h2 <;> cases h2
    have ha : vs[i]? = some v := by
      unfold L2.start at h2
      rw [List.getElem?_append_left (by simpa using hi), List.getElem?_map] at h2
      cases e : vs[i]? with
      | none => rw [e] at h2; cases h2
      | some a => rw [e] at h2; cases h2; rfl
    obtain ⟨u, hu, rv⟩ := r.get ha
    have hp : ps[i]? = some y := by
      rw [← S.pre, List.getElem?_take_of_lt (by omega)]; exact h1
    have ndP : ps.Nodup := by rw [← S.pre]; exact S.nd.sublist (List.take_sublist _ _)
    refine ⟨u, rv, ?_⟩
    rcases S.par y (List.mem_of_getElem? hp) with k | k
    · exact .inl ⟨k, bindL_get ndP hp hu k⟩
    · obtain ⟨c, e⟩ := cell_has (n := s.heap.objs.size + 1) k
      refine .inr ⟨.inl k, c, e, ?_⟩
      have q := x.cell y c e
      rw [bindC_get ndP hp hu (by show scope.names.lookup y ≠ _; rw [k]; decide)] at q
      exact q
  · exact e0.hok.fresh (Nat.le_of_lt (x.above y c (PySem.mem_of_lookup h)))
  · exact absurd (show q ∈ ([] : List (Addr × Obj)) from hq) (by simp)
  · unfold L2.start
    show _ = N.length
    rw [List.length_append, List.length_map, List.length_replicate]
    omega
theorem fn_ofT {P : Program} {w : World} {K : PySem.W.Frag} {mg : Str → Option Value} {base : Heap} {k : Nat} {f : Addr} {name qual : Str} {params : Arguments} {body : List Stmt} {scope : Scope} {dV kV doc pm cdv ct oc : Value} {an od : Option Addr}
    {osl : Array (Option Value)} {N ps : List Str} {sp : Sp} (lk : K.lookup f = some ⟨oc, od, .func (PySem.W.fnOf name qual params body scope dV kV doc pm an cdv ct), osl⟩) (hcd : PySem.W.codeIn K cdv qual = true) (S : FnScope N ps scope)
    (len : ∀ vs H Q E, sp vs H Q E → vs.length = ps.length)
    (hbody : ∀ (A : Around) (outer : List Env) (s : Shared) (H : Hp) (vs : List V) (Q : VK) (E : XK), RoomH k (A.deeper (envOfC qual scope s.heap.objs.size f cdv)) → sp vs H Q E →
      ∃ t, PSs (cxT P w K mg base N qual scope f cdv A outer s H E).nox body t ∧ t { nx := fun _ H' => Q .non H', rt := Q } (L2.start N vs) H) :
    FnT P w K mg base (k + 1) f (PySem.W.fnOf name qual params body scope dV kV doc pm an cdv ct) ps sp := by
  refine ⟨len, fun A outer s H args us vs Q E hr e0 hb r hsp => ?_⟩
  have hl := len _ _ _ _ hsp
  have KX : K.In s.heap := e0.mod.kin.keeps fun b o e => (e0.bs b o e).1
  have lim : s.heap.NoLimit := e0.mod.nolimit.keeps fun b o e => (e0.bs b o e).1
  have hkind : ∀ y ∈ ps.zip us, scope.names.lookup y.1 = some .local ∨ (scope.names.lookup y.1 = some .cell ∧ ((cellsFrom (s.heap.objs.size + 1) scope.names []).lookup y.1).isSome = true) := fun ⟨n, v⟩ hy => by
    rcases S.par n (List.of_mem_zip hy).1 with q | q
    · exact .inl q
    · exact .inr ⟨q, PySem.W.cellsFrom_some _ _ _ (.inl q)⟩
  refine codeAny_call_function hr.depth (KX _ _ lk) rfl S.co S.gen rfl (PySem.W.codeRec_of KX hcd) (hb _ _ _ _ ?_)
  refine wpAny_newFunctionEnv_cells S.kind hkind fun env he s1 x => ?_
  subst he
  refine ⟨lim.keeps x.toInCall.keep, codeAny_func ?_⟩
  obtain ⟨t, ht, hq⟩ := hbody A outer s H vs Q E (hr.deeper _) hsp
  have I : Inv (cxT P w K mg base N qual scope f cdv A outer s H E) [] (L2.start N vs) H s1 := inv_startT S e0 hl r x
  refine wpAny_mono (ht.nox.run [] s1 (L2.start N vs) H _ I hq) (fun fl s' hs => ?_) fun e s' hs => hs
  have fin : ∀ {σ' : L2.St} {H' : Hp} {v : V} {u : Value}, Inv (cxT P w K mg base N qual scope f cdv A outer s H E) [] σ' H' s' → L2.RelV v u → Q v H' → CE outer P w H s Q u s' :=
    fun {σ' H' v u} J rv q => ⟨v, H', J.os, J.bare, J.base, J.hok, rv, q⟩
  cases fl with
  | ret u =>
    obtain ⟨v, σ', H', J, rv, q⟩ := hs
    exact fin J rv q
  | next =>
    obtain ⟨σ', H', J, q⟩ := hs
    exact fin (v := V.non) (u := Value.none) J rfl q
  | brk =>
    obtain ⟨_, _, _, q⟩ := hs
    exact False.elim q
  | cont =>
    obtain ⟨_, _, _, q⟩ := hs
    exact False.elim q
section
variable {X : Cx} {k : Nat} {f : Addr} {fd : FuncData} {ps : List Str} {sp : Sp} {x : Str} {q pos : Pos} {e : Expr} {es : List Expr} {t : TA}
theorem run_fnT {pins : List (Addr × Obj)} {σ : L2.St} {H : Hp} {s : Shared} {Q : VK} {us : List Value} {vs : List V} (F : FnT X.prog X.w X.K X.mg X.base k f fd ps sp) (hr : RoomH k X.A) (hb : Binds X.K fd ps [])
    (I : Inv X pins σ H s) (r : Vals vs us) (h : sp vs H Q L2.E0) : wpAny (model X.prog X.w) X.A (call (.ref f) us) (EP X pins σ Q) X.xe s := by
  have hl : us.length = ps.length := by rw [← r.length]; exact F.len _ _ _ _ h
  have b := hb s us I.kIn (by rw [List.append_nil]; exact hl)
  rw [List.append_nil] at b
  refine wpAny_call (codeAny_mono (F.run X.A X.stack s H ⟨us, []⟩ us vs Q L2.E0 hr I.env0 b r h) fun r s' hq => ?_)
  cases r with
  | error e => exact False.elim hq
  | ok fl =>
    cases fl with
    | ret u => exact I.after hq
    | next => exact False.elim hq
    | brk => exact False.elim hq
    | cont => exact False.elim hq
theorem pe_callT (F : FnT X.prog X.w X.K X.mg X.base k f fd ps sp) (hr : RoomH k X.A) (hg : Gl X x) (hm : X.mg x = some (.ref f)) (hk : PySem.W.keepIn X.K (.ref f) = true) (hb : Binds X.K fd ps [])
    (ha : PA X (e :: es) t) (hdb : (x == ("__debug__" : Str)) = false := by decide) (he : starEach (e :: es) X.env = (false, eval e X.env) :: starEach es X.env := by rfl) (hpl : (backTo pos (starEach es X.env)).any (·.1) = false := by rfl) :
    PE X (.Call (.Name x q) (e :: es) [] pos) (tCall sp [] L2.E0 t) := by
  refine ⟨fun pins s σ H Q I h => ?_⟩
  refine wpAny_Call_Name_kw (ld_glob I hg hm ?_ hdb)
  refine PySem.W.callWith_K (h₀ := X.base) I.ok.mod.kin hk (thn (ha.run pos pins s σ H _ I h) fun us s1 ⟨vs, H1, I1, r, q⟩ => ⟨I1.kIn, ?_⟩) he hpl
  have q2 : sp vs H1 Q L2.E0 := by
    have q3 : sp (vs ++ []) H1 Q L2.E0 := q
    rw [List.append_nil] at q3
    exact q3
  exact run_fnT F hr hb I1 r q2
end
end Dl
/-! Tz: exceptions by data: raise, a def that may raise, fields of an exception, except. -/
namespace Dl
open PySem PySem.Spec PyProof.Rows L2
section
variable {K : PySem.W.Frag} {B : Bt} {G H : Hp} {δ : List Sd} {P : D → Prop} {X : Xc} {O : Out} {te : TE} {ta : TA}
theorem lookup_putD (f g : Str) (y : D) (fs : List (Str × D)) : ((f, y) :: fs).lookup g = if g = f then some y else fs.lookup g := by
  by_cases h : g = f
  · subst h
    simp [List.lookup]
  · have e : (g == f) = false := by simpa using h
    rw [if_neg h]
    simp [List.lookup, e]
theorem lookup_dd : ∀ {fs : List (Str × V)} {ds : List D} {f : Str} {x : D}, Dds K B G (fs.map (·.2)) ds → ((fs.map (·.1)).zip ds).lookup f = some x → ∃ v, fs.lookup f = some v ∧ Dd K B G v x
  | [], _, _, _, _, e => by simp at e
  | (g, v) :: fs, _, f, x, .cons h t, e => by
    rw [List.map_cons, List.zip_cons_cons, lookup_putD] at e
    rw [lookup_put]
    by_cases q : f = g
    · rw [if_pos q] at e ⊢
      cases e
      exact ⟨v, rfl, h⟩
    · rw [if_neg q] at e ⊢
      exact lookup_dd t e
/-- what is known of an own exception class: its fields may be read -/
structure XcF (K : PySem.W.Frag) (C : Addr) (fs : List Str) : Prop where
  x : XfC K C
  n : ∀ f ∈ fs, PySem.W.findIn K (.ref C) f = some none
theorem we_xv {f : Str} (h : WEx K B X te δ fun d => ∃ C ks ds x, d = .exn C ks ds ∧ (ks.zip ds).lookup f = some x ∧ (XfC K C ∧ PySem.W.findIn K (.ref C) f = some none) ∧ P x) : WEx K B X (tXv K f te) δ P := fun G0 H0 σ G H Q s xx q =>
  h G0 H0 σ G H _ s xx fun v d G1 H1 g1 o1 hv ⟨C, ks, ds, x, e, l, T, p⟩ => by
    subst e
    cases hv with
    | exn h1 h2 t =>
      obtain ⟨u, l2, hu⟩ := lookup_dd t l
      exact ⟨_, _, _, _, u, rfl, o1.u _ _ h1, o1.u _ _ h2, l2, T.1, T.2, (q.on g1 o1).nil o1 hu p⟩
/-- what an __init__ promises that stores its n arguments and a code: mk, the fields -/
def spIni (C : Addr) (n : Nat) (mk : List V → List (Str × V)) : Sp := fun vs H Q _ => ∃ (a : Addr) (ws : List V), vs = .ref a :: ws ∧ ws.length = n ∧ H a = some (exo a C none) ∧ ∀ d, H d = none → d ≠ a → Q .non (upd (upd H d (exd d (mk ws))) a (exo a C (some d)))
theorem ini_heap {H : Hp} {a C d : Addr} {fs : List (Str × V)} (na : H a = none) (nd : d ≠ a) : upd (del (upd (upd (upd H a (exo a C none)) d (exd d fs)) a (exo a C (some d))) a) d (.xd fs) = upd H d (.xd fs) := by
  funext b
  by_cases hb : b = d
  · rw [hb, upd_same, upd_same]
  · rw [upd_ne hb, upd_ne hb]
    by_cases ha : b = a
    · rw [ha, del_same, na]
    · rw [del_ne ha, upd_ne ha, upd_ne hb, upd_ne ha]
/-- raise C(e, ..) -/
theorem ws_raise {C : Addr} {n : Nat} {mk : List V → List (Str × V)} {ks : List Str} {mkD : List D → List D} (hn : n ≤ 1000) (hk : ∀ ws : List V, ws.length = n → (mk ws).map (·.1) = ks) (hm : ∀ {G : Hp} {ws : List V} {ds : List D}, Dds K B G ws ds → ws.length = n → Dds K B G ((mk ws).map (·.2)) (mkD ds))
    (h : WAx K B O.x ta δ fun ds => ds.length = n ∧ O.x.ex δ C ks (mkD ds)) : WS K B (fun _ σ H => tMkO C (spIni C n mk) [] ta σ H fun cls d H' => O.x.W cls d σ H') δ O := fun G0 H0 σ G H E s xx _ _ _ _ =>
  h G0 H0 σ G H _ s (xx.ct s) fun vs ds G1 H1 g1 o1 hs ⟨l, p⟩ => by
    have lv : vs.length = n := hs.length.trans l
    refine ⟨by omega, fun a na => ⟨a, vs, by rw [List.append_nil], lv, upd_same, fun d nd hda => ⟨rfl, d, mk vs, upd_same, ?_, ?_, ?_⟩⟩⟩
    · rw [upd_ne hda, upd_same]
    · rw [upd_ne hda] at nd; exact nd
    · rw [upd_ne hda] at nd
      rw [ini_heap na hda]
      have g2 := new_go o1 (x := .xd (mk vs)) nd
      have o2 := new_ok o1 xd_nt nd (x := .xd (mk vs))
      refine ((xx.ct s).on g1 o1) C d ks (mkD ds) _ _ g2 o2 ⟨mk vs, upd_same, hk vs lv, (hm hs lv).mono g2.s⟩ p
/-- a call that may raise -/
theorem we_callX {pre : List D → Prop} {post : List D → D → Prop} {exc : List D → Addr → List Str → List D → Prop} {t : TA} (h : WAx K B X t δ fun ds => pre ds ∧ (∀ d, post ds d → P d) ∧ ∀ C ks es, exc ds C ks es → X.ex δ C ks es) : WEx K B X (tCallS (SpX K pre post exc) (L2.WE X.W) t) δ P := fun G0 H0 σ G H Q s xx q =>
  h G0 H0 σ G H _ s xx fun vs ds G1 H1 g1 o1 hs ⟨p, m, ex⟩ =>
    ⟨B, G1, ds, o1, hs, p, fun v d G2 H2 g2 o2 hd pd => (q.on g1 o1) v d G2 H2 g2 o2 hd (m d pd), fun C d ks es G2 H2 g2 o2 hd pe => (xx.on g1 o1) C d ks es G2 H2 g2 o2 hd (ex C ks es pe)⟩
end
/-! ### defs that may raise -/
section
variable {P : Program} {w : World} {K : PySem.W.Frag} {mg : Str → Option Value} {base : Heap}
structure Clx (P : Program) (w : World) (K : PySem.W.Frag) (mg : Str → Option Value) (base : Heap) (k : Nat) (x : Str) (st : Stmt) (ps : List Str) (sp : Sp) : Prop where
  ex : ∃ (f : Addr) (fd : FuncData), Fun K x x st f fd ∧ FnOk P w K mg base (L2.CX P w) k f fd ps sp ∧ mg x = some (.ref f) ∧ Binds K fd ps []
/-- .. by keywords alone -/
structure Ckx (P : Program) (w : World) (K : PySem.W.Frag) (mg : Str → Option Value) (base : Heap) (k : Nat) (x : Str) (ks : List Str) (sp : Sp) (gV : List V → List V) : Prop where
  ex : ∃ (f : Addr) (fd : FuncData) (ps : List Str) (g : List Value → List Value), FnOk P w K mg base (L2.CX P w) k f fd ps sp ∧ mg x = some (.ref f) ∧ PySem.W.keepIn K (.ref f) = true ∧ KBn K fd ps 0 ks (fun _ ws => g ws) (fun _ zs => gV zs)
theorem clx_of {x : Str} {st : Stmt} {N ps : List Str} {k : Nat} {pre : List D → Prop} {post : List D → D → Prop} {exc : List D → Addr → List Str → List D → Prop} (F : Df K mg x st) (S : FnScope N ps (defScope st))
    (hb : ∀ (kV doc pm : Value) (an : Option Addr) (cdv ct : Value) (us : List Value), us.length = ps.length → bindArgs (PySem.W.fnOf x x (defArgs st) (defBody st) (defScope st) .none kV doc pm an cdv ct) ⟨us, []⟩ = pure (ps.zip us))
    (hl : ∀ ds, pre ds → ds.length = ps.length)
    (h : ∀ (f : Addr) (cdv : Value) (A : Around) (outer : List Env) (s : Shared) (H : Hp) (E : XK), Room k (A.deeper (envOfC x (defScope st) s.heap.objs.size f cdv)) →
      ∃ t, PSs (cxOf (L2.CX P w) P w K mg base N x (defScope st) f cdv A outer s H E) (defBody st) t ∧ ∀ B ds, pre ds → WS K B t (init N ds) { nx := fun _ => post ds .non, rt := post ds, x := { W := fun cls d _ H => E cls d H, ex := fun _ => exc ds } }) : Clx P w K mg base (k + 1) x st ps (SpX K pre post exc) := by
  obtain ⟨f, fd, F, hm⟩ := F.ex
  refine ⟨f, fd, F, F.okX S (fun vs H Q E hsp => ?_) (fun cdv A outer s H vs Q E hr hsp => ?_), hm, F.binds hb⟩
  · obtain ⟨B, G, ds, o, hs, p, q, _⟩ := hsp
    exact hs.length.trans (hl ds p)
  · obtain ⟨B, G, ds, o, hs, p, q, qx⟩ := hsp
    obtain ⟨t, ht, ww⟩ := h f cdv A outer s H E hr
    refine ⟨t, ht, ww B ds p G H _ G H _ (stt_start o hs) (fun σ1 δ1 G1 H1 m s1 C d ks es hd pe => qx C d ks es G1 H1 s1.go s1.ok hd pe) (fun σ1 δ1 G1 H1 _ s1 z => q .non .non G1 H1 s1.go s1.ok .non z) ⟨fun v d G1 H1 g o1 hd z => q v d G1 H1 g o1 hd z, fun _ _ _ _ _ _ _ _ _ _ _ _ z => z.elim⟩ (fun _ _ _ _ _ _ z => z.elim) (fun _ _ _ _ _ _ z => z.elim)⟩
theorem ckx_of {x : Str} {st : Stmt} {k : Nat} {ps ks : List Str} {sp : Sp} {gV : List V → List V} (c : Clx P w K mg base k x st ps sp) (g : List Value → List Value)
    (hb : ∀ (kV doc pm : Value) (an : Option Addr) (cdv ct : Value) (ws : List Value), ws.length = ks.length → bindArgs (PySem.W.fnOf x x (defArgs st) (defBody st) (defScope st) .none kV doc pm an cdv ct) ⟨[], ks.zip ws⟩ = pure (ps.zip (g ws)))
    (hr : ∀ {zs : List V} {ws : List Value}, Vals zs ws → Vals (gV zs) (g ws)) : Ckx P w K mg base k x ks sp gV := by
  obtain ⟨f, fd, F, G, hm, _⟩ := c.ex
  have kp := F.kp
  obtain ⟨oc, od, kV, doc, pm, an, cdv, ct, osl, rfl, lk, hcd⟩ := F.ex
  refine ⟨f, _, ps, g, G, hm, kp, ⟨fun s us ws _ l1 l2 => ?_, fun _ r => hr r⟩⟩
  have e : us = [] := List.length_eq_zero_iff.mp l1
  subst e
  exact .of_eq (hb kV doc pm an cdv ct ws l2)
end
section
variable {X : Cx} {W : WX} {k j : Nat} {x : Str} {st : Stmt} {ps ks : List Str} {sp : Sp} {p pos : Pos} {e : Expr} {es : List Expr} {t tk : TA} {kws : List Keyword} {gV : List V → List V}
theorem pe_cx (c : Clx X.prog X.w X.K X.mg X.base k x st ps sp) (tk : Takes X W) (hr : Room j X.A) (hk : k ≤ j) (hg : Gl X x) (ha : PA X (e :: es) t)
    (hdb : (x == ("__debug__" : Str)) = false := by decide) (he : starEach (e :: es) X.env = (false, eval e X.env) :: starEach es X.env := by rfl) (hpl : (backTo pos (starEach es X.env)).any (·.1) = false := by rfl) :
    PE X (.Call (.Name x p) (e :: es) [] pos) (tCallS sp (L2.WE W) t) := by
  obtain ⟨f, fd, F0, F, hm, b⟩ := c.ex
  exact pe_callS F (hr.mono hk) hg hm F0.kp b (fun σ => passAt tk σ) ha hdb he hpl
/-- f(k = v, ..) that may raise -/
def tCkX (m : Nat) (sp : Sp) (gV : List V → List V) (W : WX) (tk : TA) : TE := fun σ H Q => tk σ H fun zs H2 => zs.length = m ∧ sp (gV zs) H2 Q (L2.WE W σ)
theorem pe_ckx {E : XK} (c : Ckx X.prog X.w X.K X.mg X.base k x ks sp gV) (tk2 : Takes X (fun cls d _ H => E cls d H)) (hr : Room j X.A) (hk : k ≤ j) (hg : Gl X x) (hkw : PK X kws tk)
    (hall : (backToKw pos (keywordEach kws X.env)).all (·.1.isSome) = true := by rfl) (hks : (backToKw pos (keywordEach kws X.env)).filterMap (·.1) = ks := by rfl) (hdb : (x == ("__debug__" : Str)) = false := by decide)
    (hpl : ((backTo pos (starEach [] X.env)).any (·.1) || (backToKw pos (keywordEach kws X.env)).any (·.1.isNone)) = false := by rfl) :
    PE X (.Call (.Name x p) [] kws pos) (tCkX ks.length sp gV (fun cls d _ H => E cls d H) tk) := by
  obtain ⟨f, fd, ps, g, F, hm, kp, b⟩ := c.ex
  refine ⟨fun pins s σ H Q I h => ?_⟩
  refine wpAny_Call_Name_kw (ld_glob I hg hm ?_ hdb)
  refine PySem.W.callWith_KW0 (h₀ := X.base) I.ok.mod.kin kp hall ?_ hpl
  refine thn (hkw.run pos pins s σ H _ I h) fun ws s2 ⟨zs, H2, I2, rz, l2, q2⟩ => ⟨I2.kIn, ?_⟩
  rw [hks]
  exact run_fnN F (hr.mono hk) b (passes_call tk2 fun _ _ _ _ h => h) I2 .nil rz rfl l2 q2
end
section
variable {K : PySem.W.Frag} {B : Bt} {δ : List Sd} {P : D → Prop} {X : Xc}
theorem we_ckx {pre : List D → Prop} {post : List D → D → Prop} {exc : List D → Addr → List Str → List D → Prop} {m : Nat} {gV : List V → List V} {gD : List D → List D} {tk : TA} (hg : ∀ G vs ds, Dds K B G vs ds → Dds K B G (gV vs) (gD ds)) (h : WAx K B X tk δ fun ds => ds.length = m ∧ pre (gD ds) ∧ (∀ d, post (gD ds) d → P d) ∧ ∀ C ks es, exc (gD ds) C ks es → X.ex δ C ks es) : WEx K B X (tCkX m (SpX K pre post exc) gV X.W tk) δ P := fun G0 H0 σ G H Q s xx q =>
  h G0 H0 σ G H _ s xx fun vs ds G1 H1 g1 o1 hs ⟨l, p, mm, ex⟩ =>
    ⟨hs.length.trans l, B, G1, gD ds, o1, hg _ _ _ hs, p, fun v d G2 H2 g2 o2 hd pd => (q.on g1 o1) v d G2 H2 g2 o2 hd (mm d pd), fun C d ks es G2 H2 g2 o2 hd pe => (xx.on g1 o1) C d ks es G2 H2 g2 o2 hd (ex C ks es pe)⟩
end
end Dl
/-! Ta: a lambda handed to a def that calls it in a try and answers ('told', value) or by the error that was caught. -/
namespace Dl
open PySem PySem.Spec PyProof.Rows L2 LamX
open L2H (RoomH roomH_of)
section
variable {X : Cx} {pins : List (Addr × Obj)} {σ : L2.St} {H : Hp} {s : Shared}
/-- x(), in the def that got the lambda; what is raised goes on by the slots as they stand -/
theorem pe_actS {CXg : CXT} {Eg : XK} {Ng : List Str} {qg : Str} {sg : Scope} {g f c' : Addr} {cdg pm ctv : Value} {params : Arguments} {body : Expr} {scope : Scope} {k i : Nat} {a : Str} {pn : List (Addr × Obj)} {xe : Value → Shared → Prop} {W : WX} {tb : XK → TE} {p1 p2 : Pos}
    (I : L2.Inv X pins σ H s) (L : LamS X.env.scope scope) (hf : s.heap.get? f = some (PySem.W.kla_obj "<lambda>" (X.env.qual ++ "<lambda>") params body scope (cloFrom X.env.cells scope.names []) pm c' ctv)) (hfn : H f = none) (hfr : f ∉ frs X.stack)
    (hbind : bindArgs (PySem.W.kla_fn "<lambda>" (X.env.qual ++ "<lambda>") params body scope (cloFrom X.env.cells scope.names []) pm (.ref c') ctv) ⟨[], []⟩ = pure [])
    (tk : Takes ((cxOf CXg X.prog X.w X.K X.mg X.base Ng qg sg g cdg X.A X.stack s H Eg).tr pn xe) W) (hr : Room (k + 1) (X.A.deeper (envOfC qg sg s.heap.objs.size g cdg)))
    (hbody : ∀ (A : Around) (outer : List Env) (s : Shared) (H : Hp) (E : XK), Room k (A.deeper (lamEnv X scope s.heap.objs.size f c')) → PE (lamCx X A outer s H E scope f c') body (tb E))
    (hN : Ng[i]? = some a) (hv : Vis sg a) (hd : (a == ("__debug__" : Str)) = false := by decide) (hcd : (a == ("__classdict__" : Str)) = false := by decide) :
    PE ((cxOf CXg X.prog X.w X.K X.mg X.base Ng qg sg g cdg X.A X.stack s H Eg).tr pn xe) (.Call (.Name a p1) [] [] p2)
      (fun σZ HZ Q => σZ[i]? = some (some (.ref f)) ∧ HZ c' = some (CodeO c' (X.env.qual ++ "<lambda>")) ∧ tb (L2.WE W σZ) σ HZ Q) := by
  refine ⟨fun pinsZ sZ σZ HZ Q IZ h => ?_⟩
  obtain ⟨hs, hc, ht⟩ := h
  refine wpAny_Call_Name_kw (thn ((pe_var (pos := p1) (i := i) hN hv hd hcd).run pinsZ sZ σZ HZ (fun v H1 => v = .ref f ∧ H1 = HZ) IZ ⟨.ref f, hs, rfl, rfl⟩) fun u s1 ⟨v, H1, I1, r1, q1⟩ => ?_)
  obtain ⟨ev, eH⟩ := q1
  subst ev
  rw [eH] at I1
  obtain rfl : u = Value.ref f := r1
  have of1 : s1.heap.get? f = some (PySem.W.kla_obj "<lambda>" (X.env.qual ++ "<lambda>") params body scope (cloFrom X.env.cells scope.names []) pm c' ctv) := I1.base.keep f _ hf hfn hfr (fun z => nomatch (show f ∈ ([] : List Addr) from z))
  refine PySem.W.callWith_F0 ⟨_, _, _, _, of1⟩ ?_
  have un : Un (frs X.stack) [] H HZ s.heap s1.heap := I1.base
  obtain ⟨⟨oc, vs, t, hoc, hdc, hvc⟩, _, _⟩ := I1.hok c' _ hc
  have rc : codeAny (model X.prog X.w) (X.A.deeper (envOfC qg sg s.heap.objs.size g cdg)) (.call (.ref f) ⟨[], []⟩) (CR (L2.CX X.prog X.w) (envOfC qg sg s.heap.objs.size g cdg :: X.stack) X.prog X.w HZ s1 Q (L2.WE W σZ)) s1 := by
    refine PySem.W.kla_callFunE hr.depth of1 rfl L.co L.gen rfl ⟨c', oc, vs, t, rfl, hoc, hdc, hvc⟩ ?_
    rw [hbind]
    refine wpAny_pure (wpAny_newFunctionEnv (fun y hy => (L.own y hy).2) (fun y hy => absurd hy (by simp)) (fun h₁ hns hsb => ⟨I1.nolimit.fresh _ hsb, ?_⟩) L.kind)
    show codeAny _ _ (.expr body (lamEnv X scope s1.heap.objs.size f c')) _ _
    have kp : ∀ b o, s1.heap.get? b = some o → h₁.get? b = some o := fun b o e => hsb.extBut b o (Nat.ne_of_lt (Heap.lt_size e)) (Heap.get?_push_of_some _ e)
    have J : L2.Inv (lamCx X (X.A.deeper (envOfC qg sg s.heap.objs.size g cdg)) (envOfC qg sg s.heap.objs.size g cdg :: X.stack) s1 HZ (L2.WE W σZ) scope f c') [] σ HZ { s1 with heap := h₁, toks := s1.toks + ([] : List (Str × Value)).length } :=
      lam_start2 I L I1.env0 hr.hd un hns kp
    refine PySem.W.kla_codeExpr (wpAny_mono ((hbody _ _ s1 HZ (L2.WE W σZ) (hr.deeper _)).run [] _ _ HZ Q J ht) (fun v s' hq => ?_) fun e s' hq => hq)
    obtain ⟨w', H', J', rv, q⟩ := hq
    exact ⟨w', H', J'.os, J'.bare, J'.base, J'.hok, rv, q⟩
  refine wpAny_call (codeAny_mono rc fun r s' hq => ?_)
  cases r with
  | error e => exact passAt tk σZ pinsZ HZ s1 e s' I1 hq
  | ok fl =>
    cases fl with
    | ret u => exact I1.after hq
    | next => exact False.elim hq
    | brk => exact False.elim hq
    | cont => exact False.elim hq
end
/-- the def that calls what it got -/
def GivesS (X : Cx) (Ng : List Str) (x : Str) (sg : Scope) (g : Addr) (cdg : Value) (bg : List Stmt) (a : Str) (q : Str) (j : Nat) (TT : (XK → Hp → VK → Prop) → Hp → VK → Prop) : Prop :=
  ∀ (f c' : Addr) (s : Shared) (H : Hp) (Q : VK) (tl : XK → Hp → VK → Prop), Room (j + 1) (X.A.deeper (envOfC x sg s.heap.objs.size g cdg)) →
    (∀ (W : WX) (pn : List (Addr × Obj)) (xe : Value → Shared → Prop) (p1 p2 : Pos), Takes ((cxOf C8.CX0 X.prog X.w X.K X.mg X.base Ng x sg g cdg X.A X.stack s H C8.E0).tr pn xe) W →
      PE ((cxOf C8.CX0 X.prog X.w X.K X.mg X.base Ng x sg g cdg X.A X.stack s H C8.E0).tr pn xe) (.Call (.Name a p1) [] [] p2) (fun σZ HZ Q => σZ[0]? = some (some (.ref f)) ∧ HZ c' = some (CodeO c' q) ∧ tl (L2.WE W σZ) HZ Q)) →
    H c' = some (CodeO c' q) → TT tl H Q →
    ∃ t, PSs (cxOf C8.CX0 X.prog X.w X.K X.mg X.base Ng x sg g cdg X.A X.stack s H C8.E0).nox bg t ∧ t { nx := fun _ H' => Q .non H', rt := Q } (L2.start Ng [.ref f]) H
section
variable {X : Cx}
/-- x(lambda: body) -/
theorem pe_lamS {T : List (Addr × Str)} {TT : (XK → Hp → VK → Prop) → Hp → VK → Prop} {x a : Str} {g c P : Addr} {k : Nat} {pg : Arguments} {bg : List Stmt} {sg : Scope} {dV kV doc pm cdv ct oc : Value} {an od : Option Addr} {osl : Array (Option Value)} {Ng : List Str}
    {params : Arguments} {body : Expr} {scope : Scope} {t : XK → TE} {p lpos pos : Pos} (hg : Gl X x) (hm : X.mg x = some (.ref g)) (hk : PySem.W.keepIn X.K (.ref g) = true)
    (lk : X.K.lookup g = some ⟨oc, od, .func (PySem.W.fnOf x x pg bg sg dV kV doc pm an cdv ct), osl⟩) (hcg : PySem.W.codeIn X.K cdv x = true) (hb : L2.Binds X.K (PySem.W.fnOf x x pg bg sg dV kV doc pm an cdv ct) [a] []) (Sg : FnScope Ng [a] sg) (hNg : Ng[0]? = some a) (hva : Vis sg a)
    (hG : GivesS X Ng x sg g cdv bg a (X.env.qual ++ "<lambda>") k TT)
    (TB : TabB X.base X.mg c P) (hcode : X.env.code = .ref c) (hmT : (P, X.env.qual ++ "<lambda>") ∈ T) (hu : ∀ p ∈ T, p.1 = P → p.2 = X.env.qual ++ "<lambda>") (hr : Room (k + 2) X.A) (L : LamS X.env.scope scope) (hdef : defaultsOf params X.env = ([], []))
    (hbind : ∀ (q : Str) (cl : List (Str × Addr)) (pm cv ctv : Value), bindArgs (PySem.W.kla_fn "<lambda>" q params body scope cl pm cv ctv) ⟨[], []⟩ = pure [])
    (hbody : ∀ (A : Around) (outer : List Env) (s : Shared) (H : Hp) (E : XK) (f c' : Addr), Room k (A.deeper (lamEnv X scope s.heap.objs.size f c')) → PE (lamCx X A outer s H E scope f c') body (t E))
    (hdb : (x == ("__debug__" : Str)) = false := by decide) (hd : (a == ("__debug__" : Str)) = false := by decide) (hcd : (a == ("__classdict__" : Str)) = false := by decide) :
    PE X (.Call (.Name x p) [.Lambda params body scope lpos] [] pos) (tLam T TT t) := by
  refine ⟨fun pins s σ H Q I h => ?_⟩
  obtain ⟨hT, h⟩ := h
  refine wpAny_Call_Name_kw (ld_glob I hg hm ?_ hdb)
  refine PySem.W.callWith_K (h₀ := X.base) I.ok.mod.kin hk ?_ (by rfl) (by rfl)
  show wpAny _ _ (spliced ((false, eval (.Lambda params body scope lpos) X.env) :: backTo pos (starEach [] X.env))) _ _ s
  refine Calls.spliced_cons (lam_make2 I TB hcode hmT hu hT hdef (L.has I.ok) fun f c' pm' ctv H1 s' I1 eN T1 hf hfn hfr hco => ?_)
  refine Calls.spliced_nil ⟨I1.kIn, ?_⟩
  have rc : codeAny (model X.prog X.w) X.A (.call (.ref g) ⟨[.ref f], []⟩) (CR C8.CX0 X.stack X.prog X.w H1 s' Q C8.E0) s' := by
    refine run_ofS (N := Ng) (ps := [a]) (us := [.ref f]) (vs := [.ref f]) lk hcg Sg hr I1.env0 (hb s' [.ref f] I1.kIn rfl) (.cons rfl .nil) rfl fun hr' => ?_
    obtain ⟨t', ht', hq'⟩ := hG f c' s' H1 Q (fun E H' Q' => t E σ H' Q') hr' (fun W pn xe p1 p2 tk => pe_actS (i := 0) I1 L hf hfn hfr (hbind _ _ _ _ _) tk hr' (fun A outer s H E hr2 => hbody A outer s H E f c' hr2) hNg hva hd hcd) hco (h H1 eN T1)
    exact ⟨t', ht'.nox, hq'⟩
  refine wpAny_call (codeAny_mono rc fun r s2 hq => ?_)
  cases r with
  | error e => exact (show False from hq).elim
  | ok fl =>
    cases fl with
    | ret u => exact I1.after hq
    | next => exact False.elim hq
    | brk => exact False.elim hq
    | cont => exact False.elim hq
/-- the suite: return ('no', e.code) + fields(e) -/
def tSuite (K : PySem.W.Frag) (spF : Sp) : TS := tRet (tOp (zCat K) (zTup (tCons (tC (.str "no")) (tCons (tXv K "code" (tVar 1)) tNil))) (tCall spF [] L2.E0 (tCons (tVar 1) tNil)))
def TGot (K : PySem.W.Frag) (c1 c2 : Value) (spF : Sp) : (XK → Hp → VK → Prop) → Hp → VK → Prop := fun tl H Q => ∀ f : Addr,
  tl (L2.WE (wTup K c1 c2 1 (tSuite K spF) (fun _ _ _ _ => False) { nx := fun _ H' => Q .non H', rt := Q }) [some (.ref f), none]) H fun v H1 => ([.str "told", v] : List V).length ≤ sizeLine ∧ NewT Q H1 [.str "told", v]
theorem got_gives {a x1 x2 n xf x q : Str} {sg : Scope} {g : Addr} {cdg c1 c2 : Value} {j kf ff kk k2 k3 : Nat} {fdF : FuncData} {psF : List Str} {spF : Sp} {P1 P2 P3 P4 P5 P6 P7 P8 P9 P10 P11 P12 P13 P14 P15 P16 P17 P18 P19 : Pos} {kn kt kq : Nat}
    (Sg : FnScope [a, n] [a] sg) (h1 : sg.names.lookup x1 = some .globalImplicit) (h2 : sg.names.lookup x2 = some .globalImplicit) (d1 : (x1 == ("__debug__" : Str)) = false) (d2 : (x2 == ("__debug__" : Str)) = false) (hn : sg.names.lookup n = some .local)
    (m1 : X.mg x1 = some c1) (m2 : X.mg x2 = some c2) (hgf : sg.names.lookup xf = some .globalImplicit) (mf : X.mg xf = some (.ref ff)) (kf' : PySem.W.keepIn X.K (.ref ff) = true) (bf : Binds X.K fdF psF []) (dF : (xf == ("__debug__" : Str)) = false) (dn : (n == ("__debug__" : Str)) = false) (dnc : (n == ("__classdict__" : Str)) = false)
    (F : FnT X.prog X.w X.K X.mg X.base kf ff fdF psF spF) (hj : kf ≤ j + 1) :
    GivesS X [a, n] x sg g cdg [.Try [.Return (some (.Tuple [.Constant (.str "told") kt P1, .Call (.Name a P2) [] [] P3] k2 P4)) P5] [.ExceptHandler (some (.Tuple [.Name x1 P6, .Name x2 P7] kk P8)) (some n) [.Return (some (.BinOp (.Tuple [.Constant (.str "no") kn P9, .Attribute (.Name n P10) "code" P11] k3 P12) .Add (.Call (.Name xf P13) [.Name n P14] [] P15) P16)) P17] P18] [] [] P19] a q j (TGot X.K c1 c2 spF) := by
  intro f c' s H Q tl hr act hc h
  have vn : Vis sg n := .inl hn
  refine ⟨_, pss_one (ps_try_tup (X := (cxOf C8.CX0 X.prog X.w X.K X.mg X.base [a, n] x sg g cdg X.A X.stack s H C8.E0).nox) (c1 := c1) (c2 := c2) (i := 1) (ts := tSuite X.K spF)
      (tb := fun W => tRet (zTup (tCons (tC (.str "told")) (tCons (fun σZ HZ Q => σZ[0]? = some (some (.ref f)) ∧ HZ c' = some (CodeO c' q) ∧ tl (L2.WE W σZ) HZ Q) tNil))))
      rfl rfl rfl Sg.nd rfl (show sg.names.lookup n = some .local from hn) ⟨h1, d1, .inl m1⟩ ⟨h2, d2, .inl m2⟩ L2.takes0 (fun W pn xe tk _ => pss_one (ps_ret (pe_tupZ (pa_cons pe_str (pa_cons (act W pn xe P2 P3 tk) pa_nil))))) (fun a' pn => ?_)), ?_⟩
  · have hrH : RoomH kf (((cxOf C8.CX0 X.prog X.w X.K X.mg X.base [a, n] x sg g cdg X.A X.stack s H C8.E0).nox.suite a' pn)).A := ⟨(roomH_of hr).mono hj |>.dp, (roomH_of hr).mono hj |>.un⟩
    have ve : ∀ {pp : Pos}, PE ((cxOf C8.CX0 X.prog X.w X.K X.mg X.base [a, n] x sg g cdg X.A X.stack s H C8.E0).nox.suite a' pn) (.Name n pp) (tVar 1) := fun {pp} => pe_var (pos := pp) (i := 1) rfl vn dn dnc
    exact pss_one (ps_ret (pe_op op_catZ (pe_tupZ (pa_cons pe_str (pa_cons (pe_xv ve) pa_nil))) (pe_callT (X := ((cxOf C8.CX0 X.prog X.w X.K X.mg X.base [a, n] x sg g cdg X.A X.stack s H C8.E0).nox.suite a' pn)) F hrH hgf mf kf' bf (pa_cons ve pa_nil) dF)))
  · exact ⟨rfl, hc, h f⟩
end
end Dl
namespace Dl
open PySem PySem.Spec PyProof.Rows L2 LamX
section
variable {K : PySem.W.Frag} {B : Bt} {G H H1 : Hp} {δ : List Sd} {P : D → Prop} {X : Xc}
/-- all but the tables stands: a state by data -/
theorem ext_go (o : Ok B G H) (e : ExtN H H1) (t : Tabs B.T H1) : Go B G H G H1 ∧ Ok B G H1 := by
  refine ⟨⟨Same.refl G, fun a u _ ht h => e a u h ht, fun _ _ _ _ h => h, fun c r h => ⟨r, e _ _ h nt_lst⟩⟩, ⟨fun a u h => e a u (o.u a u h) (o.f a u h), o.b, ?_, t, o.f⟩⟩
  obtain ⟨c, cells, p', r, m, n, h, g', w⟩ := o.x
  exact ⟨c, cells, p', r, m, n, e _ _ h nt_lst, g', w⟩
theorem we_got {c1 c2 : Value} {preF : List D → Prop} {postF : List D → D → Prop} {te : XK → TE} {R : D → Prop} {exc : Addr → List Str → List D → Prop}
    (hb : ∀ E : XK, WEx K B { W := fun cls d _ H => E cls d H, ex := fun _ => exc } (te E) δ R) (hv : ∀ d, R d → P (.tup [.str "told", d]))
    (hx : ∀ C ks ds, exc C ks ds → PySem.W.exmAny K (.ref C) [c1, c2] = some true ∧ WS K B (tSuite K (SpD K preF postF)) [.no, .val (.exn C ks ds)] { nx := fun _ => False, rt := P }) :
    WEx K B X (tLam B.T (TGot K c1 c2 (SpD K preF postF)) te) δ P := fun G0 H0 σ G H Q s xx q => by
  refine ⟨s.ok.t, fun H1 hE hT f => ?_⟩
  obtain ⟨g1, o1⟩ := ext_go s.ok hE hT
  refine hb _ G0 H0 σ G H1 _ (s.on g1 o1) (fun C d ks ds G2 H2 g2 o2 hd pe => ?_) fun v d G2 H2 g2 o2 hd pd => ?_
  · obtain ⟨hm, hw⟩ := hx C ks ds pe
    refine ⟨true, hm, fun _ => ⟨C, d, rfl, rfl, fun a na => ?_⟩, fun z => absurd z (by decide)⟩
    obtain ⟨fs, e1, rfl, e3⟩ := hd
    have hda : d ≠ a := fun z => by
      have z2 := o2.u _ _ e1
      rw [z, na] at z2; cases z2
    have g3 := new_go o2 (x := xo a C d) na
    have o3 := new_ok o2 (xo_nt (a := a) (C := C) (d := d)) na
    have st : Stt K B (upd G2 a (xo a C d)) (upd H2 a (xo a C d)) (upd G2 a (xo a C d)) (upd H2 a (xo a C d)) ([some (V.ref f), none].set 1 (some (V.ref a))) [.no, .val (.exn C (fs.map (·.1)) ds)] := by
      refine ⟨Go.refl, o3, rfl, fun i d' h => ?_, fun i es h => ?_, fun i j es es' x h => ?_⟩
      · match i, h with
        | 0, h => cases h
        | 1, h => cases h; exact ⟨.ref a, rfl, .exn upd_same (by rw [upd_ne hda]; exact e1) (e3.mono g3.s)⟩
        | n + 2, h => cases h
      · match i, h with
        | 0, h => cases h
        | 1, h => cases h
        | n + 2, h => cases h
      · match i, h with
        | 0, h => cases h
        | 1, h => cases h
        | n + 2, h => cases h
    exact hw _ _ _ _ _ _ st xs0 (fun _ _ _ _ _ _ z => z.elim) ⟨fun v d' G4 H4 g4 o4 hd' pd' => (((q.on g1 o1).on g2 o2).on g3 o3) v d' G4 H4 g4 o4 hd' pd', fun _ _ _ _ _ _ _ _ _ _ _ _ z => z.elim⟩ (fun _ _ _ _ _ _ z => z.elim) (fun _ _ _ _ _ _ z => z.elim)
  · refine ⟨by show 2 ≤ sizeLine; decide, fun p ob hp hdn => ?_⟩
    exact ((q.on g1 o1).on g2 o2).new o2 nt_tup hp (.tup ⟨upd_same, hdn⟩ ((Dds.cons (.str "told") (.cons hd .nil)).mono (same_upd (o2.fresh hp)))) (hv d pd)
end
end Dl
namespace Dl
open PySem PySem.Spec PyProof.Rows L2 LamX
/-! ### raise C(..) of an own class whose __init__ stores -/
structure Rz (P : Program) (w : World) (K : PySem.W.Frag) (mg : Str → Option Value) (base : Heap) (k : Nat) (x : Str) (C : Addr) (n : Nat) (mk : List V → List (Str × V)) : Prop where
  ex : ∃ (fI : Addr) (fd : FuncData) (ps : List Str), OexC K C ∧ PySem.W.findIn K (.ref C) "__init__" = some (some (.ref fI)) ∧ PySem.W.typeIn K (.ref fI) = some (.type "function") ∧ FnOk P w K mg base L2.CX0 k fI fd ps (spIni C n mk) ∧ Binds K fd ps [] ∧ mg x = some (.ref C)
/-- what the top tells of such a class -/
structure Er (K : PySem.W.Frag) (mg : Str → Option Value) (x q : Str) (C : Addr) (st : Stmt) (fs : List Str) : Prop where
  o : OexC K C
  xf : XfC K C
  n : ∀ f ∈ fs, PySem.W.findIn K (.ref C) f = some none
  i : ∃ (fI : Addr) (fd : FuncData), Fun K "__init__" q st fI fd ∧ PySem.W.findIn K (.ref C) "__init__" = some (some (.ref fI)) ∧ PySem.W.typeIn K (.ref fI) = some (.type "function")
  g : mg x = some (.ref C)
section
variable {X : Cx} {W : WX} {k j n : Nat} {x : Str} {C : Addr} {mk : List V → List (Str × V)} {e : Expr} {es : List Expr} {ta : TA} {p pos pos2 : Pos}
theorem ps_rz (R : Rz X.prog X.w X.K X.mg X.base k x C n mk) (tk : Takes X W) (hc : X.calm = true) (hr : Room j X.A) (hk : k + 1 ≤ j) (hg : Gl X x) (ha : PA X (e :: es) ta) (hdb : (x == ("__debug__" : Str)) = false := by decide)
    (he : starEach (e :: es) X.env = (false, eval e X.env) :: starEach es X.env := by rfl) (hpl : (backTo pos (starEach es X.env)).any (·.1) = false := by rfl) :
    PS X (.Raise (some (.Call (.Name x p) (e :: es) [] pos)) none pos2) (fun _ σ H => tMkO C (spIni C n mk) [] ta σ H fun cls d H' => W cls d σ H') := by
  obtain ⟨fI, fd, ps, T, i, t, F, b, m⟩ := R.ex
  exact ps_raise hc tk (pmk_oex T i t F (hr.mono hk) b .nil (fun _ _ _ _ _ _ _ h => h.elim) hg m ha hdb he hpl)
end
section
variable {P : Program} {w : World} {K : PySem.W.Frag} {mg : Str → Option Value} {base : Heap}
/-- __init__(self, f): self.f = f; self.code = z -/
theorem rz1 {x q f z : Str} {C : Addr} {st : Stmt} {k : Nat} (E : Er K mg x q C st [f, ("code" : Str)]) (S : FnScope [("self" : Str), f] [("self" : Str), f] (defScope st)) (hf : (f == ("__debug__" : Str)) = false) (hf2 : (f == ("__classdict__" : Str)) = false)
    (hb : ∀ (kV doc pm : Value) (an : Option Addr) (cdv ct : Value) (us : List Value), us.length = 2 → bindArgs (PySem.W.fnOf "__init__" q (defArgs st) (defBody st) (defScope st) .none kV doc pm an cdv ct) ⟨us, []⟩ = pure ([("self" : Str), f].zip us))
    {p1 p2 p3 p4 p5 p6 p7 p8 : Pos} {KZ : Nat} (eb : defBody st = [.Assign [.Attribute (.Name "self" p1) f p2] (.Name f p3) p4, .Assign [.Attribute (.Name "self" p5) "code" p6] (.Constant (.str z) KZ p7) p8])
    (sw1 : ∀ (f0 : Addr) (cdv : Value) (A : Around) (outer : List Env) (s : Shared) (H : Hp) (E : XK), swapsWith (.Name f p3) (some (.Attribute (.Name "self" p1) f p2)) p4.line (cxOf L2.CX0 P w K mg base [("self" : Str), f] q (defScope st) f0 cdv A outer s H E).nox.env = pure false)
    (sw2 : ∀ (f0 : Addr) (cdv : Value) (A : Around) (outer : List Env) (s : Shared) (H : Hp) (E : XK), swapsWith (.Constant (.str z) KZ p7) (some (.Attribute (.Name "self" p5) "code" p6)) p8.line (cxOf L2.CX0 P w K mg base [("self" : Str), f] q (defScope st) f0 cdv A outer s H E).nox.env = pure false) :
    Rz P w K mg base (k + 1) x C 1 (fun ws => [("code", .str z), (f, ws.headD .non)]) := by
  obtain ⟨fI, fd, F, i, t⟩ := E.i
  refine ⟨fI, fd, [("self" : Str), f], E.o, i, t, F.ok S (fun vs H Q E' h => ?_) (fun cdv A outer s H vs Q E' hr h => ?_), F.binds hb, E.g⟩
  · obtain ⟨a, ws, rfl, l, _⟩ := h
    rw [List.length_cons, l]; rfl
  · obtain ⟨a, ws, rfl, l, hA, hq⟩ := h
    obtain ⟨v, rfl⟩ : ∃ v, ws = [v] := by
      match ws, l with
      | [v], _ => exact ⟨v, rfl⟩
    rw [eb]
    have vs0 : Vis (defScope st) "self" := (S.par "self" (by simp)).elim .inl (fun h => .inr (.inl h))
    have vs1 : Vis (defScope st) f := (S.par f (by simp)).elim .inl (fun h => .inr (.inl h))
    refine ⟨_, pss_cons (ps_ost (pe_var (i := 0) rfl vs0) (pe_var (i := 1) rfl vs1 hf hf2) (sw1 _ _ _ _ _ _ _)) (pss_one (ps_ost (pe_var (i := 0) rfl vs0) pe_str (sw2 _ _ _ _ _ _ _))), ?_⟩
    refine ⟨v, rfl, .ref a, rfl, a, C, rfl, E.o, E.n f (by simp), .inl ⟨hA, fun dx nd ne => ?_⟩⟩
    refine ⟨.ref a, rfl, a, C, rfl, E.o, E.n "code" (by simp), .inr ⟨dx, [(f, v)], upd_same, ?_, (by show 1 ≤ 900; decide), ?_⟩⟩
    · rw [upd_ne ne, upd_same]
    · have e : upd (upd (upd H dx (exd dx [(f, v)])) a (exo a C (some dx))) dx (exd dx [("code", .str z), (f, v)]) = upd (upd H dx (exd dx [("code", .str z), (f, v)])) a (exo a C (some dx)) := by
        funext b
        by_cases hb : b = dx
        · rw [hb, upd_same, upd_ne ne, upd_same]
        · rw [upd_ne hb]
          by_cases ha : b = a
          · rw [ha, upd_same, upd_same]
          · rw [upd_ne ha, upd_ne ha, upd_ne hb, upd_ne hb]
      show Q .non (upd (upd (upd H dx (exd dx [(f, v)])) a (exo a C (some dx))) dx (exd dx [("code", .str z), (f, v)]))
      rw [e]
      exact hq dx nd ne
end
end Dl
namespace Dl
open PySem L2
section
variable {K : PySem.W.Frag} {B : Bt} {δ : List Sd} {te : TE} {O : Out}
/-- a, b = a list of two, a tuple of two; a, b, c = x, y, z -/
theorem ws_unl2 {i j : Nat} (h : WEx K B O.x te δ fun d => ∃ a b, d = .lst [a, b] ∧ O.nx ((δ.set i (.val a)).set j (.val b))) : WS K B (tAsg te (gLst K 2 (gCons (gName i) (gCons (gName j) gNil)))) δ O := fun G0 H0 σ G H E s xx n _ _ _ =>
  h G0 H0 σ G H _ s (xx.ct s) fun v d G1 H1 g o hd ⟨a, b, e, p⟩ => by
    subst e
    cases hd with
    | lst hg t =>
      cases t with
      | cons h1 t =>
        cases t with
        | cons h2 t =>
          cases t
          exact ⟨_, _, rfl, SqL.of (o.u _ _ hg), rfl, _, _, rfl, _, _, rfl, rfl, n _ _ G1 H1 g.s (((s.on g o).setVal i h1).setVal j h2) p⟩
theorem ws_unt2 {i j : Nat} (h : WEx K B O.x te δ fun d => ∃ a b, d = .tup [a, b] ∧ O.nx ((δ.set i (.val a)).set j (.val b))) : WS K B (tAsg te (gTup K 2 (gCons (gName i) (gCons (gName j) gNil)))) δ O := fun G0 H0 σ G H E s xx n _ _ _ =>
  h G0 H0 σ G H _ s (xx.ct s) fun v d G1 H1 g o hd ⟨a, b, e, p⟩ => by
    subst e
    cases hd with
    | tup hg t =>
      cases t with
      | cons h1 t =>
        cases t with
        | cons h2 t =>
          cases t
          exact ⟨_, _, rfl, SqT.ofZ (o.u _ _ hg.1), rfl, _, _, rfl, _, _, rfl, rfl, n _ _ G1 H1 g.s (((s.on g o).setVal i h1).setVal j h2) p⟩
theorem ws_par3 {i j l : Nat} {ta : TA} (h : WAx K B O.x ta δ fun ds => ∃ a b c, ds = [a, b, c] ∧ O.nx (((δ.set i (.val a)).set j (.val b)).set l (.val c))) : WS K B (tPar3 i j l ta) δ O := fun G0 H0 σ G H E s xx n _ _ _ =>
  h G0 H0 σ G H _ s (xx.ct s) fun vs ds G1 H1 g o hs ⟨a, b, c, e, p⟩ => by
    subst e
    cases hs with
    | cons h1 t1 =>
      cases t1 with
      | cons h2 t2 =>
        cases t2 with
        | cons h3 t3 =>
          cases t3
          exact ⟨_, _, _, rfl, n _ _ G1 H1 g.s ((((s.on g o).setVal i h1).setVal j h2).setVal l h3) p⟩
end
end Dl
namespace Dl
open PySem L2
theorem u65 {k : Nat} {A : Around} (hr : Room k A) : A.units + 65 < cLine := by have := hr.un; omega
end Dl
namespace Dl
open PySem PySem.Spec PyProof.Rows L2
open L2H (RoomH roomH_of)
section
variable {P : Program} {w : World} {K : PySem.W.Frag} {mg : Str → Option Value} {base : Heap}
/-- a def that may be called where an error is handled -/
structure ClHot (P : Program) (w : World) (K : PySem.W.Frag) (mg : Str → Option Value) (base : Heap) (k : Nat) (x : Str) (ps : List Str) (sp : Sp) : Prop where
  ex : ∃ (ff : Addr) (fd : FuncData), FnT P w K mg base k ff fd ps sp ∧ mg x = some (.ref ff) ∧ PySem.W.keepIn K (.ref ff) = true ∧ Binds K fd ps []
theorem clHot_of {x : Str} {st : Stmt} {N ps : List Str} {k : Nat} {pre : List D → Prop} {post : List D → D → Prop} (F : Df K mg x st) (S : FnScope N ps (defScope st))
    (hb : ∀ (kV doc pm : Value) (an : Option Addr) (cdv ct : Value) (us : List Value), us.length = ps.length → bindArgs (PySem.W.fnOf x x (defArgs st) (defBody st) (defScope st) .none kV doc pm an cdv ct) ⟨us, []⟩ = pure (ps.zip us))
    (hl : ∀ ds, pre ds → ds.length = ps.length)
    (h : ∀ (f : Addr) (cdv : Value) (A : Around) (outer : List Env) (s : Shared) (H : Hp) (E : XK), RoomH k (A.deeper (envOfC x (defScope st) s.heap.objs.size f cdv)) →
      ∃ t, PSs (cxT P w K mg base N x (defScope st) f cdv A outer s H E).nox (defBody st) t ∧ ∀ B ds, pre ds → WS K B t (init N ds) { nx := fun _ => post ds .non, rt := post ds }) : ClHot P w K mg base (k + 1) x ps (SpD K pre post) := by
  obtain ⟨f, fd, F, hm⟩ := F.ex
  have kp := F.kp
  have hbd := F.binds hb
  obtain ⟨oc, od, kV, doc, pm, an, cdv, ct, osl, rfl, lk, hcd⟩ := F.ex
  refine ⟨f, _, fn_ofT lk hcd S (fun vs H Q E hsp => ?_) (fun A outer s H vs Q E hr hsp => ?_), hm, kp, hbd⟩
  · obtain ⟨B, G, ds, o, hs, p, q⟩ := hsp
    exact hs.length.trans (hl ds p)
  · obtain ⟨B, G, ds, o, hs, p, q⟩ := hsp
    obtain ⟨t, ht, ww⟩ := h f cdv A outer s H E hr
    exact ⟨t, ht, ww B ds p G H _ G H _ (stt_start o hs) xs0 (fun σ1 δ1 G1 H1 _ s1 z => q .non .non G1 H1 s1.go s1.ok .non z) ⟨fun v d G1 H1 g o1 hd z => q v d G1 H1 g o1 hd z, fun _ _ _ _ _ _ _ _ _ _ _ _ z => z.elim⟩ (fun _ _ _ _ _ _ z => z.elim) (fun _ _ _ _ _ _ z => z.elim)⟩
end
end Dl
/-! Ua: a tuple of deep data: its least item, the place of an item; rules of HandS' form, then by plain data. -/
namespace Dl
open PySem PySem.Spec PyProof.Rows L2
section
variable {X : Cx}
/-- t.index(x) -/
def rIdxT (K : PySem.W.Frag) : V → List V → Hp → VK → Prop := fun x ws H Q => ∃ (a : Addr) (ys : List V) (y : V) (d : PyData) (ds : List PyData) (j : Nat) (z : PyData), x = .ref a ∧ ws = [y] ∧ SqT K H a ys ∧ DpAll K H ys ds ∧ Dp K H y d ∧
  PyData.canLayAll0 ds = true ∧ d.canLay0 = true ∧ d.depth ≤ 60 ∧ ds[j]? = some z ∧ PyData.eqv z d = true ∧ (∀ (m : Nat) (z' : PyData), m < j → ds[m]? = some z' → PyData.eqv z' d = false) ∧ Q (.int (j : Nat)) H
theorem mt_idxT (hu : X.A.units + 65 < cLine) : MtR X "tuple.index" (rIdxT X.K) := by
  intro pins s σ H x ws v us Q I rx rws h
  obtain ⟨a, ys, y, d, ds, j, z, rfl, rfl, hs, ha, hy, hxs, hd, hdp, hz, hzj, hno, q⟩ := h
  cases rx
  obtain ⟨u, rfl, ru⟩ := vals1 rws
  obtain ⟨bs, r1⟩ := Dp.reads I d y u hy ru
  obtain ⟨its, rv, pl, hlen⟩ := I.tuple hs
  obtain ⟨as, r2⟩ := Dp.readsAll I ds ys its ha rv
  have hmap : its.map (SeqAt.readOf s.heap) = ds := SeqAt.readsAll_map ds its as hxs r2
  have hn : its.length = ds.length := by rw [← hmap, List.length_map]
  obtain ⟨⟨cls, dd, dt, sl⟩, ho, hc, n, hdt⟩ := pl
  simp only at hc hdt
  subst hc
  subst hdt
  have hjd := (List.getElem?_eq_some_iff.mp hz).1
  have hj : j < its.toArray.size := by rw [List.size_toArray, hn]; exact hjd
  have e0 : ∀ (m : Nat) (hm : m < its.toArray.size), ds[m]? = some (SeqAt.readOf s.heap its.toArray[m]) := fun m hm => by
    have hm' : m < its.length := by simpa using hm
    rw [← hmap, List.getElem?_map, List.getElem?_eq_getElem hm']
    simp
  have hroom : X.A.units + 1 + min (PyData.depthAll ds) d.depth < cLine := by
    have : min (PyData.depthAll ds) d.depth ≤ d.depth := Nat.min_le_right ..
    omega
  have eqs : ∀ y, y ∈ its.toArray → SeqAt.EqAt X.A.in1 s y u (PyData.eqv (SeqAt.readOf s.heap y) d) := SeqAt.items_eqAt (vs := its.toArray) (A := X.A) (show ReadsAll s.heap its.toArray.toList ds as from r2) r1 hxs hd hroom
  refine call_meets PySem.F.slot_tuple_index ⟨_, ho, rfl⟩ PySem.F.entry_tuple_index (PySem.F.args_tuple_index_2 _ _)
    (SeqAt.tuple_index2_found a its.toArray n dd sl u (fun m => PyData.eqv ((ds[m]?).getD .none) d) j hj (Nat.zero_le _) hj ?_ ?_) ⟨ho, fun m hm => ?_, ?_⟩
  · show PyData.eqv ((ds[j]?).getD .none) d = true
    rw [hz]; exact hzj
  · intro m hm _ hmj
    show PyData.eqv ((ds[m]?).getD .none) d = false
    rw [e0 m hm]
    exact hno m _ hmj (e0 m hm)
  · have := eqs its.toArray[m] (Array.getElem_mem hm)
    have e1 : PyData.eqv ((ds[m]?).getD .none) d = PyData.eqv (SeqAt.readOf s.heap its.toArray[m]) d := by rw [e0 m hm]; rfl
    exact e1 ▸ this
  · exact ⟨.int (j : Nat), H, I.tok _, ⟨_, rfl⟩, q⟩
/-! ### pairs of numbers -/
abbrev Pr2 := Int × Int
def pairP (p : Pr2) : PyData := .tuple [.int p.1, .int p.2]
def pairD (p : Pr2) : D := .tup [.int p.1, .int p.2]
def ltPr (p q : Pr2) : Bool := decide (p.1 < q.1 ∨ (p.1 = q.1 ∧ p.2 < q.2))
def minPr (p : Pr2) (ps : List Pr2) : Pr2 := ps.foldl (fun a y => if ltPr y a = true then y else a) p
theorem lay_pairP (p : Pr2) : (pairP p).canLay0 = true := by simp [pairP, PyData.canLay0, PyData.canLayAll0]
theorem lay_pairPs : ∀ ps : List Pr2, PyData.canLayAll0 (ps.map pairP) = true
  | [] => by simp [PyData.canLayAll0]
  | p :: ps => by simp [PyData.canLayAll0, lay_pairP p, lay_pairPs ps]
theorem dep_pairP (p : Pr2) : (pairP p).depth ≤ 2 := by simp [pairP, PyData.depth, PyData.depthAll]
theorem dep_pairPs : ∀ ps : List Pr2, PyData.depthAll (ps.map pairP) ≤ 2
  | [] => by simp [PyData.depthAll]
  | p :: ps => by
    have h1 := dep_pairP p
    have h2 := dep_pairPs ps
    simp only [List.map_cons, PyData.depthAll]
    omega
theorem eqv_pairP (p q : Pr2) : PyData.eqv (pairP p) (pairP q) = decide (p = q) := by
  rw [Bool.eq_iff_iff]
  unfold pairP
  simp [PyData.eqv, PyData.eqvAll, Prod.ext_iff]
theorem lt_pairP (p q : Pr2) : PySem.W.dataLt (pairP p) (pairP q) = ltPr p q := PySem.W.dataLt_ii _ _ _ _
theorem min_pairP (ps : List Pr2) : ∀ p : Pr2, PySem.W.minD (pairP p) (ps.map pairP) = pairP (minPr p ps) := by
  induction ps with
  | nil => intro p; rfl
  | cons q ps ih =>
    intro p
    unfold PySem.W.minD minPr at ih ⊢
    rw [List.map_cons, List.foldl_cons, List.foldl_cons, lt_pairP]
    by_cases h : ltPr q p = true
    · rw [if_pos h, if_pos h]; exact ih q
    · rw [if_neg h, if_neg h]; exact ih p
theorem alike_pairP (ps : List Pr2) : PySem.W.AlikeAll (ps.map pairP) := by
  constructor
  · intro x hx y hy
    obtain ⟨p, _, rfl⟩ := List.mem_map.mp hx
    obtain ⟨q, _, rfl⟩ := List.mem_map.mp hy
    simp [pairP, PySem.W.alike, PySem.W.alikeAll]
  · intro x hx
    obtain ⟨p, _, rfl⟩ := List.mem_map.mp hx
    exact fun z => nomatch z
/-- min(t), of a tuple of pairs -/
def rMinT (K : PySem.W.Frag) : List V → Hp → VK → Prop := fun ws H Q => ∃ (a : Addr) (ys : List V) (p : Pr2) (ps : List Pr2), ws = [.ref a] ∧ SqT K H a ys ∧ DpAll K H ys ((p :: ps).map pairP) ∧
  ∀ (i : Nat) (y : V), ys[i]? = some y → (p :: ps)[i]? = some (minPr p ps) → Q y H
theorem call_minT (hc : X.calm = true) (hu : X.A.units + 65 < cLine) : CallR X (.builtin "min") (rMinT X.K) := by
  intro pins s σ H vs us Q I r h
  obtain ⟨a, ys, p, ps, rfl, hs, ha, q⟩ := h
  obtain ⟨its, rv, pl, _⟩ := I.tuple hs
  rw [Vals.ref1 r]
  obtain ⟨as, r2⟩ := Dp.readsAll I _ ys its ha rv
  have hmap : its.map (SeqAt.readOf s.heap) = (p :: ps).map pairP := SeqAt.readsAll_map _ its as (lay_pairPs _) r2
  have hdp := dep_pairPs (p :: ps)
  refine PySem.W.min_tuple_data (vs := its.toArray) (x := pairP p) (xs := ps.map pairP) (I.ok.hd hc) (show s.heap.IsTuple a its.toArray from pl) (show ReadsAll s.heap its.toArray.toList ((p :: ps).map pairP) as from r2) (alike_pairP (p :: ps)) (show X.A.units + 1 + PyData.depthAll ((p :: ps).map pairP) < cLine by omega) fun i v h' tk bs hi rd keep => ?_
  have hi' : its[i]? = some v := by simpa using hi
  have hyl : ys.length = its.length := rv.length
  have hil : i < its.length := (List.getElem?_eq_some_iff.mp hi').1
  have hy : ys[i]? = some ys[i] := List.getElem?_eq_getElem (by omega)
  obtain ⟨w, hw, rw'⟩ := rv.get hy
  have ew : w = v := by rw [hi'] at hw; exact (Option.some.inj hw).symm
  subst ew
  obtain ⟨cs, rd0, hl2, _, _⟩ := PySem.W.readsAll_at r2 i w hi'
  have hlen2 : i < (p :: ps).length := by simpa using hl2
  have e1 : ((p :: ps).map pairP).getD i .none = pairP (p :: ps)[i] := by
    rw [List.getD_eq_getElem?_getD, List.getElem?_map, List.getElem?_eq_getElem hlen2]
    rfl
  rw [e1] at rd0
  have rd1 := PySem.W.reads_keeps keep rd0
  rw [min_pairP] at rd
  have e2 : pairP (p :: ps)[i] = pairP (minPr p ps) := (SeqAt.readOf_eq (lay_pairP _) rd1).symm.trans (SeqAt.readOf_eq (lay_pairP _) rd)
  have e3 : (p :: ps)[i] = minPr p ps := by
    have := eqv_pairP (p :: ps)[i] (minPr p ps)
    rw [e2, eqv_pairP] at this
    simpa using this
  exact ⟨ys[i], H, I.kept keep, rw', q i _ hy (by rw [List.getElem?_eq_getElem hlen2, e3])⟩
end
/-! ### by plain data -/
section
variable {K : PySem.W.Frag} {B : Bt} {P : D → Prop} {δ : List Sd} {X : Xc}
theorem dp_pr {G H : Hp} {v : V} {p : Pr2} (o : Ok B G H) (h : Dd K B G v (pairD p)) : Dp K H v (pairP p) := by
  unfold pairD at h
  cases h with
  | tup hg t =>
    cases t with
    | cons h1 t =>
      cases t with
      | cons h2 t =>
        cases t
        cases h1
        cases h2
        exact .tup (SqT.ofZ (o.u _ _ hg.1)) (.cons (.int _) (.cons (.int _) .nil))
theorem dpa_pr {G H : Hp} (o : Ok B G H) : ∀ (ps : List Pr2) {vs : List V}, Dds K B G vs (ps.map pairD) → DpAll K H vs (ps.map pairP)
  | [], _, .nil => .nil
  | _ :: ps, _, .cons h t => .cons (dp_pr o h) (dpa_pr o ps t)
/-- min(t) -/
theorem rc_minT {p : Pr2} {ps : List Pr2} (h : P (pairD (minPr p ps))) : RC K B (rMinT K) [.tup ((p :: ps).map pairD)] P := fun G H vs Q o hs q => by
  cases hs with
  | cons h1 t1 =>
    cases t1
    cases h1 with
    | tup hg t =>
      refine ⟨_, _, p, ps, rfl, SqT.ofZ (o.u _ _ hg.1), dpa_pr o (p :: ps) t, fun i y hy e => ?_⟩
      obtain ⟨d, hd, hdd⟩ := t.get' hy
      rw [List.getElem?_map, e] at hd
      cases hd
      exact q.nil o hdd h
/-- t.index(p) -/
theorem we_idxT {to : TE} {ta : TA} (h : WEx K B X to δ fun a => ∃ ps : List Pr2, a = .tup (ps.map pairD) ∧ WAx K B X ta δ fun ds => ∃ p, ds = [pairD p] ∧ p ∈ ps ∧ P (.int (ps.idxOf p : Nat))) : WEx K B X (tMG tyZ (rIdxT K) to ta) δ P := fun G0 H0 σ G H Q s xx q =>
  h G0 H0 σ G H _ s xx fun x a G1 H1 g1 o1 hx ⟨ps, e, w⟩ => by
    subst e
    cases hx with
    | tup hg t =>
      refine ⟨⟨_, _, _, rfl, o1.u _ _ hg.1, hg.2⟩, w G0 H0 σ G1 H1 _ (s.on g1 o1) (xx.on g1 o1) fun vs ds G2 H2 g2 o2 hs ⟨p, e2, hm, hp⟩ => ?_⟩
      subst e2
      cases hs with
      | cons h2 t2 =>
        cases t2
        have tt := t.mono g2.s
        have hl : ps.idxOf p < ps.length := List.idxOf_lt_length_of_mem hm
        refine ⟨_, _, _, pairP p, ps.map pairP, ps.idxOf p, pairP p, rfl, rfl, SqT.ofZ (o2.u _ _ (g2.s _ _ hg.1)), dpa_pr o2 ps tt, dp_pr o2 h2, lay_pairPs ps, lay_pairP p, Nat.le_trans (dep_pairP p) (by decide), ?_, ?_, ?_, ((q.on g1 o1).on g2 o2).nil o2 (.int _) hp⟩
        · rw [List.getElem?_map, List.getElem?_eq_getElem hl, List.getElem_idxOf hl]
          rfl
        · rw [eqv_pairP, decide_eq_true rfl]
        · intro m z hmj hz
          rw [List.getElem?_map] at hz
          cases e3 : ps[m]? with
          | none => rw [e3] at hz; cases hz
          | some p' =>
            rw [e3] at hz
            cases hz
            rw [eqv_pairP, decide_eq_false_iff_not]
            intro e4
            subst e4
            have := List.not_of_lt_findIdx (p := (· == p')) hmj
            have e5 : ps[m]'(by omega) = p' := by
              have := List.getElem?_eq_some_iff.mp e3
              exact this.2
            simp [e5] at this
end
end Dl
/-! Ub: a comprehension over pairs: for a, b in xs. -/
namespace Dl
open PySem PySem.Spec PyProof.Rows L2
section
variable {K : PySem.W.Frag} {B : Bt} {P : D → Prop} {δ : List Sd} {X : Xc} {tt : TT}
/-- a comprehension of one clause over a pair of names, by a word -/
theorem we_lcP {wi : TI} {i j : Nat} (hij : i ≠ j) {te : TE} (h : WIx K B X wi δ fun its => its.length ≤ 1000 ∧ ∃ I : Nat → List D → Prop, I 0 [] ∧ (∀ k d acc, its[k]? = some d → I k acc → ∃ d1 d2, d = .tup [d1, d2] ∧ WT K B tt ((δ.set i (.val d1)).set j (.val d2)) fun b => if b = true then WE K B te ((δ.set i (.val d1)).set j (.val d2)) fun y => I (k + 1) (acc ++ [y]) else I (k + 1) acc) ∧ ∀ acc, I its.length acc → P (.lst acc)) :
    WEx K B X (tLc wi (gTup K 2 (gCons (gName i) (gCons (gName j) gNil))) tt te [i, j]) δ P := fun G0 H0 σ G H Q s xx q =>
  h G0 H0 σ G H _ s xx fun J its G1 H1 g1 o1 it ⟨hlen, I, i0, turn, last⟩ => by
    intro A hA
    have s1 := s.on g1 o1
    have q1 := q.on g1 o1
    have nAB := o1.neB hA
    have gA1 : G1 A = none := o1.fresh hA
    have nn : ∀ (a : Addr), H1 a ≠ none → a ≠ A := fun a h e => h (e ▸ hA)
    refine ⟨fun k m H => m = its.length - k ∧ k ≤ its.length ∧ ∃ G vs acc, Go B G1 H1 G H ∧ G A = none ∧ Ok B G H ∧ H A = some (.lst vs) ∧ Dds K B G vs acc ∧ acc.length ≤ k ∧ I k acc,
      ⟨_, rfl, Nat.zero_le _, G1, [], [], loose_go o1 hA, gA1, loose_ok o1 hA, upd_same, .nil, Nat.le_refl _, i0⟩, ?_⟩
    rintro k m H2 ⟨rfl, hk, G2, vs, acc, g2, gA, o2, hV, hD, hL, ik⟩
    obtain ⟨f1, f2, f3⟩ := it G2 H2 k g2.s o2
    have st : Stt K B G0 H0 G2 H2 σ δ := s1.on g2 o2
    by_cases hlt : k < its.length
    · refine .inr ⟨f1 hlt, fun H' => ∃ G vs acc, Go B G1 H1 G H' ∧ G A = none ∧ Ok B G H' ∧ H' A = some (.lst vs) ∧ Dds K B G vs acc ∧ acc.length ≤ k + 1 ∧ I (k + 1) acc,
        fun H' hN => ⟨its.length - (k + 1), by omega, rfl, hlt, hN⟩, fun x H3 y => ?_⟩
      obtain ⟨d, G3, e1, g3, o3, hd⟩ := f2 x H3 hlt y
      obtain ⟨d1, d2, ed, tn⟩ := turn k d acc e1 ik
      subst ed
      cases hd with
      | tup hg ht =>
      cases ht with
      | cons hd1 ht =>
      cases ht with
      | cons hd2 ht =>
      cases ht
      rename_i x1 x2
      have s3 : Stt K B G0 H0 G3 H3 (((wipe σ [i, j]).set i (some x1)).set j (some x2)) ((δ.set i (.val d1)).set j (.val d2)) := by
        have z := ((((st.on g3 o3).wipe1 j).wipe1 i).setVal i hd1).setVal j hd2
        have ez : (((δ.set j Sd.no).set i Sd.no).set i (.val d1)).set j (.val d2) = (δ.set i (.val d1)).set j (.val d2) := by
          rw [List.set_set, List.set_comm (l := δ) _ _ (Ne.symm hij), List.set_set]
        rw [ez] at z
        exact z
      have hV3 := g3.k A _ nAB nt_lst hV
      have gA3 := g3.n A _ nt_lst hV gA
      refine ⟨_, _, rfl, SqT.ofZ (o3.u _ _ hg.1), rfl, _, _, rfl, _, _, rfl, rfl, ?_, tn G0 H0 _ G3 H3 _ s3 ctx0 fun b G4 H4 g4 o4 w => ?_⟩
      · show ((((((σ.set j none).set i none).set i (some x1)).set j (some x2)).set j none).set i none) = (σ.set j none).set i none
        apply List.ext_getElem?
        intro n
        simp only [List.getElem?_set, List.length_set]
        by_cases h1 : i = n <;> by_cases h2 : j = n <;> simp [h1, h2]
      have hV4 := g4.k A _ nAB nt_lst hV3
      have gA4 := g4.n A _ nt_lst hV3 gA3
      have go4 : Go B G1 H1 G4 H4 := (g2.trans o2 g3).trans o3 g4
      have hD4 : Dds K B G4 vs acc := (hD.mono g3.s).mono g4.s
      cases b with
      | false => exact ⟨G4, vs, acc, go4, gA4, o4, hV4, hD4, Nat.le_succ_of_le hL, w⟩
      | true =>
        refine w G0 H0 _ G4 H4 _ (s3.on g4 o4) ctx0 fun y e G5 H5 g5 o5 hy w5 => ?_
        have hV5 := g5.k A _ nAB nt_lst hV4
        have gA5 := g5.n A _ nt_lst hV4 gA4
        have go5 : Go B G1 H1 G5 H5 := go4.trans o4 g5
        refine ⟨vs, hV5, Nat.lt_of_le_of_lt (by rw [hD.length]; omega : vs.length ≤ 1000) (by decide), G5, vs ++ [y], acc ++ [e], ?_, gA5, write_ok o5 hV5 gA5 nAB, upd_same, (hD4.mono g5.s).append (.cons hy .nil), by rw [List.length_append, List.length_singleton]; omega, w5⟩
        refine ⟨go5.s, fun a o nb ht h => ?_, go5.n, fun c r h => ?_⟩
        · rw [upd_ne (nn a (by rw [h]; exact fun z => nomatch z))]; exact go5.k a o nb ht h
        · obtain ⟨r', h'⟩ := go5.c c r h
          exact ⟨r', by rw [upd_ne nAB.symm]; exact h'⟩
    · have ek : k = its.length := by omega
      subst ek
      refine .inl ⟨f3 rfl, q1 (.ref A) (.lst acc) (upd G2 A (.lst vs)) H2 ⟨g2.s.trans (same_upd gA), g2.k, fun a o ht h g => ?_, g2.c⟩ (freeze_ok o2 nt_lst nAB gA hV) (.lst upd_same (hD.mono (same_upd gA))) (last acc ik)⟩
      rw [upd_ne (nn a (by rw [h]; exact fun z => nomatch z))]
      exact g2.n a o ht h g
end
end Dl
/-! Uc: t[::-1] of any tuple. -/
namespace Dl
open PySem PySem.Spec PyProof.Rows L2 HT
section
variable {prog : Program} {w : World} {A : Around} {E : Value → Shared → Prop} {s : Shared}
theorem sliceApplied_back {sl : Addr} {tk : Tok} {n : Nat} {Q : Int × Int × Nat → Shared → Prop} (hs : s.heap.IsSliceOf sl .none .none (.int (-1) tk))
    (h : Q ((n : Int) - 1, -1, n) s) : wpAny (model prog w) A (Builtin.Slice.sliceApplied (.ref sl) (pure ((n : Nat) : Int))) Q E s := by
  obtain ⟨os, hos, hcs, hds⟩ := id hs
  unfold Builtin.Slice.sliceApplied Builtin.Slice.sliceFields
  refine wpAny_bind (wpAny_bind (wpAny_field hos hds (x := .none) rfl (wpAny_bind (wpAny_field hos hds (x := .none) rfl (wpAny_bind (wpAny_field hos hds (x := .int (-1) tk) rfl (wpAny_pure ?_)))))))
  refine wpAny_bind (slicePart_int ?_)
  show wpAny _ _ (if ((-1 : Int) == 0) = true then _ else _) _ _ s
  rw [if_neg (by decide)]
  refine wpAny_bind (slicePart_none (wpAny_bind (slicePart_none (wpAny_bind (wpAny_pure ?_)))))
  have e : Builtin.Slice.slicePlaces ((n : Int) - 1) (-1) (-1) = n := by
    unfold Builtin.Slice.slicePlaces
    rw [if_neg (by decide), show (- -1 : Int) = 1 from rfl, Int.ediv_one]
    split <;> omega
  show wpAny _ _ (pure ((n : Int) - 1, (-1 : Int), Builtin.Slice.slicePlaces ((n : Int) - 1) (-1) (-1))) _ _ s
  rw [e]
  exact wpAny_pure h
theorem getItem_tuple_back {t sl : Addr} {items : List Value} {tk : Tok} {Q : Value → Shared → Prop} (ht : IsTup s.heap t items.toArray) (hz : items.length ≤ sizeLine) (hs : s.heap.IsSliceOf sl .none .none (.int (-1) tk))
    (h : Q (.ref s.heap.objs.size) { s with heap := s.heap.push { cls := .type "tuple", data := .seq items.reverse.toArray } }) : wpAny (model prog w) A (getItem (.ref t) (.ref sl)) Q E s := by
  have htake : sizeOk (.seq items.reverse.toArray) := by
    show items.reverse.toArray.size ≤ sizeLine
    rw [List.size_toArray, List.length_reverse]
    exact hz
  obtain ⟨os, hos, hcs, hds⟩ := id hs
  have hTs : s.TypeIs (.ref sl) "slice" := ⟨os, hos, hcs⟩
  unfold getItem
  try with_reducible refine wpAny_holding ?_
  first | refine wpAny_bind (wpAny_pure ?_) | skip
  refine wpAny_bind (wpAny_sequenceKey ht.typeIs (by decide) ?_)
  refine wpAny_bind (wpAny_callSpecial?_slot (name := Str.ofString "__getitem__") ht.typeIs PyProof.Rows.slot_tuple_getitem
    (wpAny_call_entry PyProof.Rows.slot_tuple_getitem ht.typeIs entry_tuple_getitem ?_ (args_tuple_getitem _ _)))
  show wpAny _ _ (Builtin.Tuple.tupleItemsOf (.ref t) >>= _) _ _ s
  refine wpAny_bind (tupleItemsOf_ ht ?_)
  refine wpAny_bind (wpAny_typeOf hTs ?_)
  rw [if_pos (by decide)]
  refine wpAny_bind (sliceApplied_back (n := items.toArray.size) hs ?_)
  have eb : (((items.toArray.size : Int) - 1 == 0 && (-1 : Int) == 1 && items.toArray.size == items.toArray.size) = true) = False := by
    have : ((-1 : Int) == 1) = false := by decide
    rw [this, Bool.and_false, Bool.false_and]
    simp
  have er : ((List.range items.toArray.size).filterMap fun (k : Nat) => items.toArray[((items.toArray.size : Int) - 1 + (k : Int) * -1).toNat]?) = items.reverse := by
    rw [List.size_toArray]
    have key : ∀ m : Nat, m ≤ items.length → ((List.range m).filterMap fun (k : Nat) => items.toArray[((items.length : Int) - 1 + (k : Int) * -1).toNat]?) = (items.drop (items.length - m)).reverse := by
      intro m
      induction m with
      | zero => intro _; rw [Nat.sub_zero, List.drop_length]; rfl
      | succ m ih =>
        intro hm
        have e1 : ((items.length : Int) - 1 + (m : Int) * -1).toNat = items.length - (m + 1) := by omega
        have hlt : items.length - (m + 1) < items.length := by omega
        rw [List.range_succ, List.filterMap_append, ih (by omega), List.drop_eq_getElem_cons hlt, List.reverse_cons, show items.length - (m + 1) + 1 = items.length - m by omega]
        congr 1
        simp only [List.filterMap_cons, List.filterMap_nil, e1, List.getElem?_toArray, List.getElem?_eq_getElem hlt]
    rw [key _ (Nat.le_refl _), Nat.sub_self, List.drop_zero]
  show wpAny _ _ (if ((items.toArray.size : Int) - 1 == 0 && (-1 : Int) == 1 && items.toArray.size == items.toArray.size) = true then _ else _) _ _ s
  rw [if_neg (by rw [eb]; exact id)]
  rw [er]
  first
    | exact wpAny_bind (m := Builtin.Tuple.tupleExact _) (wpAny_newObj_type (wpAny_pure ⟨_, rfl, wpAny_pure h⟩) htake)
    | exact wpAny_bind (m := Builtin.Tuple.tupleExact _) (wpAny_newObj_type (wpAny_bind (wpAny_pure (wpAny_pure ⟨_, rfl, wpAny_pure h⟩))) htake)
    | exact wpAny_bind (wpAny_bind (m := Builtin.Tuple.tupleExact _) (wpAny_newObj_type (wpAny_pure (wpAny_pure ⟨_, rfl, wpAny_pure h⟩)) htake))
    | exact wpAny_bind (wpAny_bind (m := Builtin.Tuple.tupleExact _) (wpAny_newObj_type (wpAny_pure ⟨_, rfl, wpAny_pure h⟩) htake))
end
section
variable {X : Cx}
/-- t[::-1] -/
def tBackT (K : PySem.W.Frag) (te : TE) : TE := fun σ H Q => te σ H fun x H1 => ∃ a xs, x = .ref a ∧ SqT K H1 a xs ∧ NewT Q H1 xs.reverse
theorem pe_backT {e : Expr} {te : TE} {k : Nat} {p1 p2 p3 pos : Pos} (he : PE X e te) : PE X (.Subscript e (.Slice none none (some (.UnaryOp .USub (.Constant (.int 1) k p1) p2)) p3) pos) (tBackT X.K te) := by
  refine ⟨fun pins s σ H Q I h => ?_⟩
  refine Subscript_ (thn (he.run pins s σ H _ I h) fun v s1 ⟨x, H1, I1, r1, q1⟩ => ?_)
  obtain ⟨a, xs, ex, hx, q⟩ := q1
  subst ex
  cases r1
  have hst : PO X (some (.UnaryOp .USub (.Constant (.int 1) k p1) p2)) (tPart (tUn (rU fun i => .int (-i)) (tC (.int 1)))) := po_some (pe_un un_neg pe_int)
  refine wpAny_Slice (thn (po_none.run pins s1 σ H1 (fun o H2 => o = none ∧ H2 = H1) I1 ⟨rfl, rfl⟩) fun vl s2 ⟨l, H2, I2, pl, el, e2⟩ => ?_)
  subst el e2
  refine thn (po_none.run pins s2 σ H2 (fun o H3 => o = none ∧ H3 = H2) I2 ⟨rfl, rfl⟩) fun vu s3 ⟨u', H3, I3, pu, eu, e3⟩ => ?_
  subst eu e3
  refine thn (hst.run pins s3 σ H3 (fun o H4 => o = some (-1) ∧ H4 = H3) I3 ⟨1, rfl, -1, rfl, rfl, rfl⟩) fun vs s4 ⟨o, H4, I4, ps, eo, e4⟩ => ?_
  subst eo e4
  have I5 : Inv X pins σ H4 { s4 with heap := s4.heap.push { cls := .type "slice", data := .fields #[vl, vu, vs] } } := I4.kept (t' := s4.toks) fun b ob q => Heap.get?_push_of_some _ q
  obtain ⟨its, r, ht, hz⟩ := I5.tuple hx
  cases pl
  cases pu
  cases ps with
  | int _ tk =>
    show wpAny (model X.prog X.w) X.A (subscriptTail e (.Slice none none (some (.UnaryOp .USub (.Constant (.int 1) k p1) p2)) p3) (.ref a) (.ref s4.heap.objs.size)) (EP X pins σ Q) X.xe { s4 with heap := s4.heap.push { cls := .type "slice", data := .fields #[.none, .none, .int (-1) tk] } }
    refine tail_any (ops := [.ref a, .ref s4.heap.objs.size]) ht.typeIs (PyProof.Rows.slot_tuple_getitem.lookup) ?_ (by with_unfolding_all rfl)
    refine getItem_tuple_back ht (by rw [← r.length]; exact hz) (Heap.IsSliceOf.new _ _ _ _) ?_
    exact newT_ep (its := its.reverse) I5 r.reverse (by rw [List.length_reverse]; exact hz) q
end
section
variable {K : PySem.W.Frag} {B : Bt} {P : D → Prop} {δ : List Sd} {Xe : Xc} {te : TE}
theorem we_backT (h : WEx K B Xe te δ fun d => ∃ ds, d = .tup ds ∧ P (.tup ds.reverse)) : WEx K B Xe (tBackT K te) δ P := fun G0 H0 σ G H Q s xx q =>
  h G0 H0 σ G H _ s xx fun x d G1 H1 g1 o1 hx ⟨ds, e, p⟩ => by
    subst e
    cases hx with
    | tup hg t => exact ⟨_, _, rfl, SqT.ofZ (o1.u _ _ hg.1), fun r ob hr hd => (q.on g1 o1).new o1 nt_tup hr (.tup ⟨upd_same, hd⟩ (t.rev.mono (same_upd (o1.fresh hr)))) p⟩
end
end Dl
/-! Ve: list(zip(t, u)) of two tuples, at the library's level. -/
namespace Lz
open PySem PySem.Calls PyProof.Rows PyProof.V PySem.Spec
section
variable {P : Program} {w : World} {A : Around} {E : Value → Shared → Prop} {s : Shared} {z TI TO T i1 i2 l1 l2 : Addr} {f : Bool} {oT : Obj} {k1 k2 : Nat} {xs ys : Array Value} {x y : Value}
theorem held_item {R : Value → Shared → Prop} (D : ZipApart z TI TO i1 i2 l1 l2) (q0 : IsZipHeld s.heap z TI TO T f) (qT : s.heap.get? T = some oT) (qI : IsPair s.heap TI (.ref i1) (.ref i2))
    (q1 : s.heap.IsTupleIter i1 l1 k1) (q2 : s.heap.IsTupleIter i2 l2 k2) (q3 : s.heap.IsTuple l1 xs) (q4 : s.heap.IsTuple l2 ys) (ex : xs[k1]? = some x) (ey : ys[k2]? = some y)
    (h : ∀ g, IsZipHeld g z TI TO T true → g.IsTupleIter i1 l1 (k1 + 1) → g.IsTupleIter i2 l2 (k2 + 1) → IsPair g s.heap.objs.size x y → g.objs.size = s.heap.objs.size + 1 →
      (∀ c o, c ≠ z → c ≠ i1 → c ≠ i2 → s.heap.get? c = some o → g.get? c = some o) → R (.ref s.heap.objs.size) { s with heap := g }) :
    wpAny (model P w) A (Builtin.«zip.__next__» ⟨[.ref z], []⟩) (fun fin t => ∃ v, fin = .done (.ret v) ∧ R v t) E s := by
  show wpAny _ _ (field (.ref z) 2 >>= _) _ _ _; refine wpAny_bind (wpAny_field q0 rfl (x := .bool false) rfl ?_); show wpAny _ _ (field (.ref z) 3 >>= _) _ _ _
  refine wpAny_bind (wpAny_field q0 rfl (x := .ref TI) rfl (wpAny_bind (wpAny_seqItems qI rfl ?_))); show wpAny _ _ (Builtin.SmallTypes.ownedTupleIsFree (.ref z) >>= _) _ _ _
  refine wpAny_bind (wpAny_tupleHeld_zip q0 qT fun g1 p0 m1 => ?_); simp only [Bool.false_eq_true, if_false]; refine wpAny_bind ?_; rw [← Array.forIn_toList]
  simp only [List.forIn_cons, List.forIn_nil]; refine wpAny_bind (wpAny_bind (wpAny_holding ?_)); show wpAny _ _ (Builtin.SmallTypes.nextOf (.ref i1) >>= _) _ _ _
  refine wpAny_bind (RZ.nextOf_tuple_item (s := { s with heap := g1 }) (q1.extBut m1.extBut D.i1z) (q3.extBut m1.extBut D.l1z) ex fun g2 p1 m2 => wpAny_pure (wpAny_pure ?_))
  refine wpAny_bind (wpAny_bind (wpAny_holding ?_)); show wpAny _ _ (Builtin.SmallTypes.nextOf (.ref i2) >>= _) _ _ _
  refine wpAny_bind (RZ.nextOf_tuple_item (s := { s with heap := g2 }) ((q2.extBut m1.extBut D.i2z).extBut m2.extBut D.i12.symm) ((q4.extBut m1.extBut D.l2z).extBut m2.extBut D.l2i1) ey fun g3 p2 m3 => wpAny_pure (wpAny_pure (wpAny_pure ?_)))
  show wpAny _ _ (newTuple [x, y] >>= _) _ _ _; refine wpAny_bind (wpAny_newTuple ?_)
  have eN : g3.objs.size = s.heap.objs.size := by rw [m3.1, m2.1, m1.1]
  have p3 : IsZipHeld g3 z TI TO T true := m3.extBut _ _ D.i2z.symm (m2.extBut _ _ D.i1z.symm p0)
  have kp : ∀ c o, c ≠ z → c ≠ i1 → c ≠ i2 → s.heap.get? c = some o → g3.get? c = some o := fun c o a b d e => m3.extBut _ _ d (m2.extBut _ _ b (m1.extBut _ _ a e))
  have p4 : g3.IsTupleIter i1 l1 (k1 + 1) := p1.extBut m3.extBut D.i12
  refine wpAny_pure ⟨_, rfl, ?_⟩; show R (.ref g3.objs.size) _
  have p5 : IsPair (g3.push { cls := .type "tuple", data := .seq #[x, y] }) g3.objs.size x y := Heap.get?_push_size _ rfl
  have p6 : (g3.push { cls := .type "tuple", data := .seq #[x, y] }).objs.size = g3.objs.size + 1 := Heap.size_push ..
  rw [eN] at p5 p6 ⊢
  exact h _ (Heap.get?_push_of_some _ p3) (p4.at fun o e => Heap.get?_push_of_some _ e) (p2.at fun o e => Heap.get?_push_of_some _ e) p5 p6 fun c o a b d e => Heap.get?_push_of_some _ (kp c o a b d e)
theorem held_end {R : Fin → Shared → Prop} (hh : A.handled = none) (D : ZipApart z TI TO i1 i2 l1 l2) (q0 : IsZipHeld s.heap z TI TO T f) (qT : s.heap.get? T = some oT) (qI : IsPair s.heap TI (.ref i1) (.ref i2))
    (q1 : s.heap.IsTupleIter i1 l1 k1) (q3 : s.heap.IsTuple l1 xs) (ex : xs[k1]? = none)
    (h : ∀ g e, (∀ c o, c ≠ z → c ≠ i1 → s.heap.get? c = some o → g.get? c = some o) → (∃ o, g.get? e = some o ∧ o.cls = .type "StopIteration") → E (.ref e) { s with heap := g }) :
    wpAny (model P w) A (Builtin.«zip.__next__» ⟨[.ref z], []⟩) R E s := by
  show wpAny _ _ (field (.ref z) 2 >>= _) _ _ _; refine wpAny_bind (wpAny_field q0 rfl (x := .bool false) rfl ?_); show wpAny _ _ (field (.ref z) 3 >>= _) _ _ _
  refine wpAny_bind (wpAny_field q0 rfl (x := .ref TI) rfl (wpAny_bind (wpAny_seqItems qI rfl ?_))); show wpAny _ _ (Builtin.SmallTypes.ownedTupleIsFree (.ref z) >>= _) _ _ _
  refine wpAny_bind (wpAny_tupleHeld_zip q0 qT fun g1 p0 m1 => ?_); simp only [Bool.false_eq_true, if_false]; refine wpAny_bind ?_; rw [← Array.forIn_toList]
  simp only [List.forIn_cons, List.forIn_nil]; refine wpAny_bind (wpAny_bind (wpAny_holding ?_)); show wpAny _ _ (Builtin.SmallTypes.nextOf (.ref i1) >>= _) _ _ _
  exact wpAny_bind (RZ.nextOf_tuple_end (s := { s with heap := g1 }) hh (q1.extBut m1.extBut D.i1z) (q3.extBut m1.extBut D.l1z) ex fun g2 e m2 he => h g2 e (fun c o a b x => m2 _ _ b (m1.extBut _ _ a x)) he)
/-- where a zip of two tuples stands, ahead of its turn k -/
structure St (xs ys : Array Value) (z TI TO i1 i2 l1 l2 S : Addr) (k : Nat) (h : Heap) : Prop where
  ti : IsPair h TI (.ref i1) (.ref i2)
  a : h.IsTupleIter i1 l1 k
  b : h.IsTupleIter i2 l2 k
  x : h.IsTuple l1 xs
  y : h.IsTuple l2 ys
  m : (IsZip h z TI TO .none ∧ ∃ a b, IsPair h TO a b) ∨ ∃ T f oT, IsZipHeld h z TI TO T f ∧ h.get? T = some oT ∧ T ≠ z ∧ T ≠ i1 ∧ T ≠ i2 ∧ T ≠ S
theorem St.keep {S : Addr} {k : Nat} {h g : Heap} (t : St xs ys z TI TO i1 i2 l1 l2 S k h) (hS : S ≠ z ∧ S ≠ TI ∧ S ≠ TO ∧ S ≠ i1 ∧ S ≠ i2 ∧ S ≠ l1 ∧ S ≠ l2) (kp : ∀ c o, c ≠ S → h.get? c = some o → g.get? c = some o) : St xs ys z TI TO i1 i2 l1 l2 S k g := by
  obtain ⟨n1, n2, n3, n4, n5, n6, n7⟩ := hS
  refine ⟨kp _ _ n2.symm t.ti, t.a.at fun o e => kp _ o n4.symm e, t.b.at fun o e => kp _ o n5.symm e, t.x.at fun o e => kp _ o n6.symm e, t.y.at fun o e => kp _ o n7.symm e, ?_⟩
  rcases t.m with ⟨q, a, b, r⟩ | ⟨T, f, oT, q, r, r1, r2, r3, r4⟩
  · exact .inl ⟨kp _ _ n1.symm q, a, b, kp _ _ n3.symm r⟩
  · exact .inr ⟨T, f, oT, kp _ _ n1.symm q, kp _ _ r4 r, r1, r2, r3, r4⟩
theorem turn {S : Addr} {k : Nat} {R : Option Value → Shared → Prop} (D : ZipApart z TI TO i1 i2 l1 l2) (t : St xs ys z TI TO i1 i2 l1 l2 S k s.heap) (hS : S < s.heap.objs.size) (ex : xs[k]? = some x) (ey : ys[k]? = some y)
    (h : ∀ g, St xs ys z TI TO i1 i2 l1 l2 S (k + 1) g → IsPair g s.heap.objs.size x y → g.objs.size = s.heap.objs.size + 1 → (∀ c o, c ≠ z → c ≠ TO → c ≠ i1 → c ≠ i2 → s.heap.get? c = some o → g.get? c = some o) → R (some (.ref s.heap.objs.size)) { s with heap := g }) :
    wpAny (model P w) A (pyNext (.ref z)) R E s := by
  have lt : ∀ {c o}, s.heap.get? c = some o → s.heap.objs.size ≠ c := fun e => Nat.ne_of_gt (Heap.lt_size e)
  have n1 : s.heap.objs.size ≠ i1 := let ⟨_, e, _⟩ := t.a; lt e
  have n2 : s.heap.objs.size ≠ i2 := let ⟨_, e, _⟩ := t.b; lt e
  rcases t.m with ⟨q, a, b, r⟩ | ⟨T, f, oT, q, r, r1, r2, r3, r4⟩
  · refine RZ.pyNext_zipT_item D q t.ti r t.a t.b t.x t.y ex ey fun g a1 a2 a3 a4 a5 a6 kp => h g ⟨kp _ _ D.TIz D.TITO D.TIi1 D.TIi2 t.ti, a3, a4, t.x.at fun o e => kp _ o D.l1z D.l1TO D.l1i1 D.l1i2 e, t.y.at fun o e => kp _ o D.l2z D.l2TO D.l2i1 D.l2i2 e, ?_⟩ a5 a6 kp
    exact .inr ⟨s.heap.objs.size, false, _, a1, a5, lt q, n1, n2, Nat.ne_of_gt hS⟩
  · have ty : s.TypeIs (.ref z) "zip" := ⟨_, q, rfl⟩
    unfold pyNext
    refine wpAny_bind (wpAny_attempt (wpAny_callSpecial?_slot (name := Str.ofString "__next__") ty F.slot_zip_next (wpAny_call_entry F.slot_zip_next ty F.entry_zip_next (held_item D q r t.ti t.a t.b t.x t.y ex ey fun g a1 a3 a4 a5 a6 kp => wpAny_pure (h g ?_ a5 a6 fun c o c1 _ c3 c4 e => kp c o c1 c3 c4 e)) (F.args_zip_next_1 _))))
    exact ⟨kp _ _ D.TIz D.TIi1 D.TIi2 t.ti, a3, a4, t.x.at fun o e => kp _ o D.l1z D.l1i1 D.l1i2 e, t.y.at fun o e => kp _ o D.l2z D.l2i1 D.l2i2 e, .inr ⟨T, true, oT, a1, kp _ _ r1 r2 r3 r, r1, r2, r3, r4⟩⟩
theorem last {S : Addr} {k : Nat} {R : Option Value → Shared → Prop} (hh : A.handled = none) (D : ZipApart z TI TO i1 i2 l1 l2) (t : St xs ys z TI TO i1 i2 l1 l2 S k s.heap) (ex : xs[k]? = none)
    (h : ∀ g, (∀ c o, c ≠ z → c ≠ TO → c ≠ i1 → c ≠ i2 → s.heap.get? c = some o → g.get? c = some o) → R none { s with heap := g }) : wpAny (model P w) A (pyNext (.ref z)) R E s := by
  rcases t.m with ⟨q, a, b, r⟩ | ⟨T, f, oT, q, r, r1, r2, r3, r4⟩
  · exact RZ.pyNext_zipT_end hh D q t.ti r t.a t.b t.x t.y (.inl ex) h
  · have ty : s.TypeIs (.ref z) "zip" := ⟨_, q, rfl⟩
    unfold pyNext
    refine wpAny_bind (wpAny_attempt (wpAny_callSpecial?_slot (name := Str.ofString "__next__") ty F.slot_zip_next (wpAny_call_entry F.slot_zip_next ty F.entry_zip_next (held_end hh D q r t.ti t.a t.x ex fun g e kp he => ?_) (F.args_zip_next_1 _))))
    obtain ⟨o, ho, hc⟩ := he
    exact wpAny_bind (wpAny_isInstance (T := "StopIteration") (b := true) ⟨o, ho, hc⟩ isSubtype_stop (wpAny_pure (h _ fun c o c1 _ c3 _ e => kp c o c1 c3 e)))
/-- the new tuples: above lo, rising, with the pairs -/
structure Got (xs ys : Array Value) (lo : Addr) (h : Heap) (as : List Addr) : Prop where
  rise : as.Pairwise (· < ·)
  above : ∀ a ∈ as, lo < a
  pairs : ∀ (j : Nat) (a : Addr), as[j]? = some a → ∃ x y, xs[j]? = some x ∧ ys[j]? = some y ∧ IsPair h a x y
theorem Got.there {lo : Addr} {h : Heap} {as : List Addr} (g : Got xs ys lo h as) {a : Addr} (ha : a ∈ as) : a < h.objs.size := by
  obtain ⟨j, hj⟩ := List.mem_iff_getElem?.mp ha
  obtain ⟨_, _, _, _, e⟩ := g.pairs j a hj
  exact Heap.lt_size e
theorem loop {S : Addr} {R : Result → Shared → Prop} (hh : A.handled = none) (D : ZipApart z TI TO i1 i2 l1 l2) (hl : xs.size = ys.size) (hn : xs.size ≤ sizeLine) (below : z < S ∧ TI < S ∧ TO < S ∧ i1 < S ∧ i2 < S ∧ l1 < S ∧ l2 < S) (res : Value) {h0 : Heap} {N : Nat} (hN : N ≤ z ∧ N ≤ TO ∧ N ≤ i1 ∧ N ≤ i2 ∧ N ≤ S)
    (fin : ∀ g tk acc c as, (∀ b o, b < N → h0.get? b = some o → g.get? b = some o) → g.get? S = some { cls := .type "list", dict := none, data := .seq acc c, slots := #[] } → as.length = xs.size → Got xs ys S g as → acc.toList = as.map Value.ref → R (.ok (.ret res)) { s with heap := g, toks := tk }) :
    ∀ (k i : Nat) (h : Heap) (tk c : Nat) (acc : Array Value) (as : List Addr), xs.size - i = k → i ≤ xs.size → St xs ys z TI TO i1 i2 l1 l2 S i h → (∀ b o, b < N → h0.get? b = some o → h.get? b = some o) →
      h.get? S = some { cls := .type "list", dict := none, data := .seq acc c, slots := #[] } → acc.toList = as.map Value.ref → as.length = i → Got xs ys S h as →
      codeAny (model P w) A (.builtin "list.extend.loop" ⟨[.ref S, .ref z, res], []⟩) R { s with heap := h, toks := tk } := by
  obtain ⟨b1, b2, b3, b4, b5, b6, b7⟩ := below
  obtain ⟨N1, N2, N3, N4, N5⟩ := hN
  have hS : S ≠ z ∧ S ≠ TI ∧ S ≠ TO ∧ S ≠ i1 ∧ S ≠ i2 ∧ S ≠ l1 ∧ S ≠ l2 := ⟨Nat.ne_of_gt b1, Nat.ne_of_gt b2, Nat.ne_of_gt b3, Nat.ne_of_gt b4, Nat.ne_of_gt b5, Nat.ne_of_gt b6, Nat.ne_of_gt b7⟩
  have lo : ∀ b, b < N → b ≠ z ∧ b ≠ TO ∧ b ≠ i1 ∧ b ≠ i2 ∧ b ≠ S := fun b hb => ⟨Nat.ne_of_lt (Nat.lt_of_lt_of_le hb N1), Nat.ne_of_lt (Nat.lt_of_lt_of_le hb N2), Nat.ne_of_lt (Nat.lt_of_lt_of_le hb N3), Nat.ne_of_lt (Nat.lt_of_lt_of_le hb N4), Nat.ne_of_lt (Nat.lt_of_lt_of_le hb N5)⟩
  have hi' : ∀ b, S ≤ b → b ≠ z ∧ b ≠ TO ∧ b ≠ i1 ∧ b ≠ i2 := fun b hb => ⟨Nat.ne_of_gt (Nat.lt_of_lt_of_le b1 hb), Nat.ne_of_gt (Nat.lt_of_lt_of_le b3 hb), Nat.ne_of_gt (Nat.lt_of_lt_of_le b4 hb), Nat.ne_of_gt (Nat.lt_of_lt_of_le b5 hb)⟩
  intro k
  induction k with
  | zero =>
    intro i h tk c acc as hk hi st keep qS qa ql G
    refine codeAny_builtin PySem.F.entry_extend_loop ?_; rw [Around.under_plainId PySem.F.plain_extend_loop _]; show wpAny _ A.in1 (pyNext (.ref z) >>= _) _ _ _
    refine wpAny_bind (last (s := { s with heap := h, toks := tk }) (A := A.in1) hh D st (Array.getElem?_eq_none (by omega)) fun g kp => wpAny_pure ?_)
    have up : ∀ b o, S ≤ b → h.get? b = some o → g.get? b = some o := fun b o hb e => kp b o (hi' b hb).1 (hi' b hb).2.1 (hi' b hb).2.2.1 (hi' b hb).2.2.2 e
    refine fin g tk acc c as (fun b o hb e => kp b o (lo b hb).1 (lo b hb).2.1 (lo b hb).2.2.1 (lo b hb).2.2.2.1 (keep b o hb e)) (up S _ (Nat.le_refl _) qS) (by omega) ⟨G.rise, G.above, fun j a hj => ?_⟩ qa
    obtain ⟨u, v, e1, e2, e3⟩ := G.pairs j a hj
    exact ⟨u, v, e1, e2, up a _ (Nat.le_of_lt (G.above a (List.mem_of_getElem? hj))) e3⟩
  | succ k ih =>
    intro i h tk c acc as hk hi st keep qS qa ql G
    have hlt : i < xs.size := by omega
    have ex := Array.getElem?_eq_getElem hlt
    have ey := Array.getElem?_eq_getElem (show i < ys.size by omega)
    have hsz : acc.size = i := by rw [← Array.length_toList, qa, List.length_map, ql]
    refine codeAny_builtin PySem.F.entry_extend_loop ?_; rw [Around.under_plainId PySem.F.plain_extend_loop _]; show wpAny _ A.in1 (pyNext (.ref z) >>= _) _ _ _
    refine wpAny_bind (turn (s := { s with heap := h, toks := tk }) (S := S) D st (Heap.lt_size qS) ex ey fun g st' ht hz kp => ?_)
    dsimp only at ht hz kp ⊢
    have hSl : S < h.objs.size := Heap.lt_size qS
    have kpS : ∀ b o, S ≤ b → h.get? b = some o → g.get? b = some o := fun b o hb e => kp b o (hi' b hb).1 (hi' b hb).2.1 (hi' b hb).2.2.1 (hi' b hb).2.2.2 e
    have qS' := kpS S _ (Nat.le_refl _) qS
    have up : ∀ b o, b ≠ S → g.get? b = some o → (g.update S (Obj.mapSeq (·.push (Value.ref h.objs.size)))).get? b = some o := fun b o hb e => (Heap.get?_update_other _ _ (Ne.symm hb)).trans e
    show wpAny _ A.in1 (updateSeq S (·.push (Value.ref h.objs.size)) >>= _) _ _ _; refine wpAny_bind ?_
    refine wpAny_updateSeq qS' rfl (wpAny_pure ⟨plainId_quiet PySem.F.plain_extend_loop _, ih (i + 1) _ tk _ (acc.push (Value.ref h.objs.size)) (as ++ [h.objs.size]) (by omega) hlt (st'.keep hS up)
      (fun b o hb e => up b o (lo b hb).2.2.2.2 (kp b o (lo b hb).1 (lo b hb).2.1 (lo b hb).2.2.1 (lo b hb).2.2.2.1 (keep b o hb e))) (Heap.get?_update_self _ qS' rfl) (by rw [Array.toList_push, qa, List.map_append]; rfl) (by rw [List.length_append, ql]; rfl) ⟨?_, ?_, ?_⟩⟩) (by rw [hsz]; omega) (by show (acc.push (Value.ref h.objs.size)).size ≤ sizeLine + 1; rw [Array.size_push, hsz]; omega)
    · exact List.pairwise_append.mpr ⟨G.rise, List.pairwise_singleton _ _, fun a ha b hb => by rw [List.mem_singleton.mp hb]; exact G.there ha⟩
    · intro a ha
      rcases List.mem_append.mp ha with ha | ha
      · exact G.above a ha
      · rw [List.mem_singleton.mp ha]; exact hSl
    · intro j b hj
      rcases Nat.lt_trichotomy j as.length with h1 | h1 | h1
      · rw [List.getElem?_append_left h1] at hj
        obtain ⟨u, v, e1, e2, e3⟩ := G.pairs j b hj
        have hb := G.above b (List.mem_of_getElem? hj)
        exact ⟨u, v, e1, e2, up b _ (Nat.ne_of_gt hb) (kpS b _ (Nat.le_of_lt hb) e3)⟩
      · subst h1
        have hb : h.objs.size = b := by simpa using hj
        subst hb
        exact ⟨_, _, by rw [ql]; exact ex, by rw [ql]; exact ey, up _ _ (Nat.ne_of_gt hSl) ht⟩
      · have e0 : (as ++ [h.objs.size])[j]? = none := List.getElem?_eq_none (by rw [List.length_append, List.length_singleton]; omega)
        rw [e0] at hj; cases hj
end
theorem zip_nolen : typeLookup (.type "zip") "__len__" = pure none := by rw [typeLookup_type, builtinLookup_eq_fast]; kernel_rfl
theorem zip_nohint : typeLookup (.type "zip") "__length_hint__" = pure none := by rw [typeLookup_type, builtinLookup_eq_fast]; kernel_rfl
section
variable {P : Program} {w : World} {A : Around} {E : Value → Shared → Prop} {s : Shared} {l1 l2 : Addr} {xs ys : Array Value}
theorem hint {r : Addr} (hT : s.TypeIs (.ref r) "zip") {Q : Bool → Shared → Prop} (h : Q true s) : wpAny (model P w) A (Builtin.List.listLengthHint (.ref r)) Q E s := by
  unfold Builtin.List.listLengthHint
  refine wpAny_bind (wpAny_specialOf hT zip_nolen ?_)
  show wpAny _ _ (specialOf (Value.ref r) (Str.ofString "__length_hint__") >>= _) _ _ _
  refine wpAny_bind (wpAny_specialOf hT zip_nohint ?_)
  exact wpAny_pure h
variable {z TI TO i1 i2 : Addr}
theorem grow {R : Result → Shared → Prop} (hh : A.handled = none) (D : ZipApart z TI TO i1 i2 l1 l2) (hl : xs.size = ys.size) (hn : xs.size ≤ sizeLine) {S : Addr} (below : z < S ∧ TI < S ∧ TO < S ∧ i1 < S ∧ i2 < S ∧ l1 < S ∧ l2 < S) {N : Nat} (hN : N ≤ z ∧ N ≤ TO ∧ N ≤ i1 ∧ N ≤ i2 ∧ N ≤ S)
    (q0 : IsZip s.heap z TI TO .none) {a b : Value} (q1 : IsPair s.heap TO a b) (st : St xs ys z TI TO i1 i2 l1 l2 S 0 s.heap) (c0 : Nat) (qS : s.heap.get? S = some { cls := .type "list", data := .seq #[] c0 })
    (fin : ∀ g tk acc c as, (∀ b o, b < N → s.heap.get? b = some o → g.get? b = some o) → g.get? S = some { cls := .type "list", dict := none, data := .seq acc c, slots := #[] } → as.length = xs.size → Got xs ys S g as → acc.toList = as.map Value.ref → R (.ok (.ret .none)) { s with heap := g, toks := tk }) :
    wpAny (model P w) A.in1 (Builtin.List.listExtendWith (.ref S) (.ref z) .none) (fun fin t => match fin with | .done f => R (.ok f) t | .again c' => c'.quiet = true ∧ codeAny (model P w) A c' R t) (fun e t => R (.error e) t) s := by
  have hS : S ≠ z ∧ S ≠ TI ∧ S ≠ TO ∧ S ≠ i1 ∧ S ≠ i2 ∧ S ≠ l1 ∧ S ≠ l2 := by
    obtain ⟨b1, b2, b3, b4, b5, b6, b7⟩ := below
    exact ⟨Nat.ne_of_gt b1, Nat.ne_of_gt b2, Nat.ne_of_gt b3, Nat.ne_of_gt b4, Nat.ne_of_gt b5, Nat.ne_of_gt b6, Nat.ne_of_gt b7⟩
  unfold Builtin.List.listExtendWith
  refine wpAny_bind (wpAny_typeOf (T := "zip") ⟨_, q0, rfl⟩ ?_)
  have e1 : Builtin.List.listSameRef (.ref S) (.ref z) = false := by simp [Builtin.List.listSameRef, hS.1]
  have e2 : (Value.type "zip" == Value.type "list") = false := by decide
  have e3 : (Value.type "zip" == Value.type "tuple") = false := by decide
  simp only [e1, e2, e3, Bool.or_false, Bool.false_eq_true, if_false]
  refine wpAny_bind (wpAny_pyIter_zip q0 (wpAny_bind (wpAny_holding (hint ⟨_, q0, rfl⟩ ?_))))
  refine wpAny_ite_split (fun _ => ?_) (fun hab => absurd rfl hab); refine wpAny_bind (wpAny_rule (wpAny_bind ?_))
  show wpAny _ _ (updateSeq S (·.push .none) >>= fun _ => updateSeq S (·.pop)) _ _ _; refine wpAny_bind (wpAny_updateSeq qS rfl ?_)
  have s2 := Heap.get?_update_self (Obj.mapSeq (·.push Value.none)) qS rfl
  refine wpAny_updateSeq (hz := by seq_fits) s2 rfl ?_
  have s3 := Heap.get?_update_self (Obj.mapSeq (·.pop)) s2 rfl
  have oth : ∀ b o, b ≠ S → s.heap.get? b = some o → ((s.heap.update S (Obj.mapSeq (·.push Value.none))).update S (Obj.mapSeq (·.pop))).get? b = some o := fun b o hb e => (Heap.get?_update_other _ _ (Ne.symm hb)).trans ((Heap.get?_update_other _ _ (Ne.symm hb)).trans e)
  refine wpAny_pure ⟨plainId_quiet PySem.F.plain_extend_loop _, loop (s := s) (h0 := s.heap) hh D hl hn below .none hN fin xs.size 0 _ _ _ #[] [] (Nat.sub_zero _) (Nat.zero_le _) (st.keep hS oth) (fun b o hb e => oth b o (Nat.ne_of_lt (Nat.lt_of_lt_of_le hb hN.2.2.2.2)) e) s3 rfl rfl ⟨List.Pairwise.nil, (fun _ h => nomatch h), (fun j a h => by simp at h)⟩⟩
/-- list(z), z a new zip of two tuples -/
theorem call_list {Q : Value → Shared → Prop} (hh : A.handled = none) (D : ZipApart z TI TO i1 i2 l1 l2) (hl : xs.size = ys.size) (hn : xs.size ≤ sizeLine) {N : Nat} (hN : N ≤ z ∧ N ≤ TO ∧ N ≤ i1 ∧ N ≤ i2 ∧ N ≤ s.heap.objs.size) (below : z < s.heap.objs.size ∧ TI < s.heap.objs.size ∧ TO < s.heap.objs.size ∧ i1 < s.heap.objs.size ∧ i2 < s.heap.objs.size ∧ l1 < s.heap.objs.size ∧ l2 < s.heap.objs.size)
    (q0 : IsZip s.heap z TI TO .none) {a b : Value} (q1 : IsPair s.heap TO a b) (qI : IsPair s.heap TI (.ref i1) (.ref i2)) (p1 : s.heap.IsTupleIter i1 l1 0) (p2 : s.heap.IsTupleIter i2 l2 0) (p3 : s.heap.IsTuple l1 xs) (p4 : s.heap.IsTuple l2 ys)
    (fin : ∀ g tk acc c as, (∀ b o, b < N → s.heap.get? b = some o → g.get? b = some o) → g.get? s.heap.objs.size = some { cls := .type "list", dict := none, data := .seq acc c, slots := #[] } → as.length = xs.size → Got xs ys s.heap.objs.size g as → acc.toList = as.map Value.ref → Q (.ref s.heap.objs.size) { s with heap := g, toks := tk }) :
    wpAny (model P w) A (call (.type "list") [.ref z]) Q E s := by
  refine callType_codes (Q₁ := fun obj t => obj = .ref s.heap.objs.size ∧ t = { s with heap := s.heap.push { cls := .type "list", data := .seq #[] } }) PySem.F.called_list (PySem.F.typeCall_list_1 _) PySem.F.entry_list_init (code_list_new _ ⟨rfl, rfl⟩) fun obj t h1 => ?_
  obtain ⟨rfl, rfl⟩ := h1
  have qS : (s.heap.push { cls := .type "list", data := .seq #[] }).get? s.heap.objs.size = some { cls := .type "list", data := .seq #[] } := Heap.get?_push_size _ rfl
  have up : ∀ b o, s.heap.get? b = some o → (s.heap.push { cls := .type "list", data := .seq #[] }).get? b = some o := fun b o e => Heap.get?_push_of_some _ e
  refine ⟨⟨_, qS, rfl⟩, PySem.F.args_list_init_2 _ _, ?_⟩
  show wpAny _ _ (do let old ← Builtin.List.listItems (.ref s.heap.objs.size); Builtin.List.listUpdate (.ref s.heap.objs.size) (fun _ => #[]); letGo old.toList.reverse; Builtin.List.listExtendWith (.ref s.heap.objs.size) (.ref z) .none) _ _ _
  refine wpAny_bind ?_
  unfold Builtin.List.listItems
  refine wpAny_bind (wpAny_seqItems qS rfl (wpAny_pure ?_))
  show wpAny _ _ (updateSeq s.heap.objs.size (fun _ => #[]) >>= fun _ => letGo (#[] : Array Value).toList.reverse >>= fun _ => Builtin.List.listExtendWith (.ref s.heap.objs.size) (.ref z) .none) _ _ _
  refine wpAny_bind (wpAny_updateSeq qS rfl (wpAny_bind (wpAny_letGo ?_)))
  have s2 := Heap.get?_update_self (Obj.mapSeq (fun _ => (#[] : Array Value))) qS rfl
  have oth : ∀ b o, b < s.heap.objs.size → s.heap.get? b = some o → ((s.heap.push { cls := .type "list", data := .seq #[] }).update s.heap.objs.size (Obj.mapSeq (fun _ => (#[] : Array Value)))).get? b = some o := fun b o hb e => (Heap.get?_update_other _ _ (Nat.ne_of_gt hb)).trans (up b o e)
  obtain ⟨b1, b2, b3, b4, b5, b6, b7⟩ := below
  refine grow (A := A.in1) hh D hl hn ⟨b1, b2, b3, b4, b5, b6, b7⟩ hN (oth z _ b1 q0) (oth TO _ b3 q1) ⟨oth TI _ b2 qI, p1.at fun o e => oth _ o b4 e, p2.at fun o e => oth _ o b5 e, p3.at fun o e => oth _ o b6 e, p4.at fun o e => oth _ o b7 e, .inl ⟨oth z _ b1 q0, a, b, oth TO _ b3 q1⟩⟩ _ s2 fun g tk acc c as kp k1 k2 k3 k4 => ?_
  exact ⟨rfl, fin g tk acc c as (fun b o hb e => kp b o hb (oth b o (Nat.lt_of_lt_of_le hb hN.2.2.2.2) e)) k1 k2 k3 k4⟩
end
end Lz
/-! Vf: list(zip(t, u)) of two tuples, by data. -/
namespace Dl
open PySem PySem.Spec PyProof.Rows L2
abbrev ZR := Addr × Obj × V × V
abbrev zO (r : ZR) : HO := .frz r.2.1 (.tup [r.2.2.1, r.2.2.2])
def putZ : Hp → List ZR → Hp
  | H, [] => H
  | H, r :: rs => putZ (upd H r.1 (zO r)) rs
theorem putZ_off {b : Addr} : ∀ (rs : List ZR) (H : Hp), b ∉ rs.map (·.1) → putZ H rs b = H b
  | [], _, _ => rfl
  | r :: rs, H, h => by
    show putZ (upd H r.1 (zO r)) rs b = H b
    rw [List.map_cons] at h
    rw [putZ_off rs _ (fun z => h (List.mem_cons_of_mem _ z)), upd_ne (fun z => h (by rw [z]; exact List.mem_cons_self))]
theorem putZ_at : ∀ (rs : List ZR) (H : Hp), (rs.map (·.1)).Nodup → ∀ r ∈ rs, putZ H rs r.1 = some (zO r)
  | [], _, _, _, h => by cases h
  | q :: rs, H, n, r, h => by
    rw [List.map_cons] at n
    have n' := List.nodup_cons.mp n
    show putZ (upd H q.1 (zO q)) rs r.1 = _
    rcases List.mem_cons.mp h with e | h
    · rw [e, putZ_off rs _ n'.1, upd_same]
    · exact putZ_at rs _ n'.2 r h
theorem mk_rs {g : Heap} : ∀ (as : List Addr) (its jts : List Value) (xs ys : List V), Vals xs its → Vals ys jts → as.length = xs.length → xs.length = ys.length →
    (∀ (j : Nat) (a : Addr), as[j]? = some a → ∃ u v, its[j]? = some u ∧ jts[j]? = some v ∧ IsPair g a u v) →
    ∃ rs : List ZR, rs.map (·.1) = as ∧ rs.map (fun r => (r.2.2.1, r.2.2.2)) = xs.zip ys ∧ ∀ r ∈ rs, ∃ u v, r.2.1 = { cls := .type "tuple", data := .seq #[u, v] } ∧ IsPair g r.1 u v ∧ RelV r.2.2.1 u ∧ RelV r.2.2.2 v
  | [], _, _, [], _, _, _, _, _, _ => ⟨[], rfl, by simp, fun _ h => nomatch h⟩
  | [], _, _, _ :: _, _, _, _, h, _, _ => by cases h
  | _ :: _, _, _, [], _, _, _, h, _, _ => by cases h
  | _ :: _, _, _, _ :: _, [], _, _, _, h, _ => by cases h
  | a :: as, u0 :: _, v0 :: _, x :: xs, y :: ys, .cons rx tx, .cons ry ty, h1, h2, hp => by
    obtain ⟨rs, e1, e2, e3⟩ := mk_rs as _ _ xs ys tx ty (Nat.succ.inj h1) (Nat.succ.inj h2) (fun j b e => hp (j + 1) b (by simpa using e))
    obtain ⟨u, v, q1, q2, q3⟩ := hp 0 a rfl
    simp only [List.getElem?_cons_zero, Option.some.injEq] at q1 q2
    subst q1 q2
    refine ⟨(a, { cls := .type "tuple", data := .seq #[u0, v0] }, x, y) :: rs, by rw [List.map_cons, e1], by rw [List.map_cons, e2]; rfl, fun r hr => ?_⟩
    rcases List.mem_cons.mp hr with e | hr
    · rw [e]; exact ⟨_, _, rfl, q3, rx, ry⟩
    · exact e3 r hr
/-- what list(zip(t, u)) of two tuples makes -/
def NewZ (Q : VK) (H : Hp) (xs ys : List V) : Prop := ∀ (p : Addr) (rs : List ZR), H p = none → (∀ r ∈ rs, H r.1 = none ∧ r.2.1.dict = none) → (rs.map (·.1)).Nodup → p ∉ rs.map (·.1) → rs.map (fun r => (r.2.2.1, r.2.2.2)) = xs.zip ys →
  Q (.ref p) (upd (putZ H rs) p (.lst (rs.map fun r => V.ref r.1)))
theorem refs_vals : ∀ rs : List ZR, Vals (rs.map fun r => V.ref r.1) ((rs.map (·.1)).map Value.ref)
  | [] => .nil
  | _ :: rs => .cons rfl (refs_vals rs)
section
variable {X : Cx} {pins : List (Addr × Obj)} {σ : L2.St} {H : Hp} {s : Shared} {Q : VK}
theorem newZ_ep {xs ys : List V} {its jts : List Value} (I : Inv X pins σ H s) (rx : Vals xs its) (ry : Vals ys jts) (hz : xs.length ≤ sizeLine) (hl : xs.length = ys.length) {g : Heap} {tk c : Nat} {acc : Array Value} {as : List Addr} {p : Addr}
    (kp : ∀ b o, s.heap.get? b = some o → g.get? b = some o) (hp : s.heap.objs.size ≤ p) (gS : g.get? p = some { cls := .type "list", dict := none, data := .seq acc c, slots := #[] }) (hlen : as.length = its.toArray.size) (G : Lz.Got its.toArray jts.toArray p g as) (ea : acc.toList = as.map Value.ref) (q : NewZ Q H xs ys) :
    EP X pins σ Q (.ref p) { s with heap := g, toks := tk } := by
  have la : as.length = xs.length := by rw [hlen, List.size_toArray, rx.length]
  obtain ⟨rs, e1, e2, e3⟩ := mk_rs (g := g) as its jts xs ys rx ry la hl (fun j a e => by
    obtain ⟨u, v, h1, h2, h3⟩ := G.pairs j a e
    exact ⟨u, v, by simpa using h1, by simpa using h2, h3⟩)
  have nd : (rs.map (·.1)).Nodup := by
    rw [e1]
    exact List.Pairwise.imp (fun {a b} (h : a < b) => Nat.ne_of_lt h) G.rise
  have fr : ∀ b, s.heap.objs.size ≤ b → H b = none := fun b h => I.hok.fresh h
  have hi : ∀ r ∈ rs, p < r.1 := fun r h => G.above r.1 (by rw [← e1]; exact List.mem_map_of_mem h)
  have hpn : p ∉ rs.map (·.1) := fun z => by rw [e1] at z; exact Nat.lt_irrefl _ (G.above p z)
  have lr : rs.length ≤ sizeLine := by
    have : rs.length = as.length := by rw [← e1, List.length_map]
    omega
  have dn : ∀ r ∈ rs, r.2.1.dict = none := fun r h => by obtain ⟨u, v, e, _⟩ := e3 r h; rw [e]
  have frr : ∀ r ∈ rs, H r.1 = none := fun r h => fr _ (Nat.le_trans hp (Nat.le_of_lt (hi r h)))
  have off : ∀ b, b ≠ p → b ∉ rs.map (·.1) → upd (putZ H rs) p (.lst (rs.map fun r => V.ref r.1)) b = H b := fun b h1 h2 => by rw [upd_ne h1, putZ_off rs H h2]
  have up : ∀ b u, H b = some u → upd (putZ H rs) p (.lst (rs.map fun r => V.ref r.1)) b = some u := fun b u e => by
    rw [off b (fun z => by rw [z, fr p hp] at e; cases e) (fun z => by
      obtain ⟨r, hr, er⟩ := List.mem_map.mp z
      rw [← er, frr r hr] at e; cases e)]
    exact e
  refine ⟨.ref p, upd (putZ H rs) p (.lst (rs.map fun r => V.ref r.1)), ?_, rfl, q p rs (fr p hp) (fun r h => ⟨frr r h, dn r h⟩) nd hpn e2⟩
  refine I.call' (ch := []) rfl ⟨fun b o z _ _ _ => kp b o z, fun b o z _ _ _ => ⟨o.slots, kp b o z⟩, fun b o z n _ => ?_, fun b o z _ => ⟨o, kp b o z⟩, fun b ws z => up b _ z, fun b o u z => up b _ z, fun b ps z => ⟨#[], by rw [up b _ z]; simp⟩⟩ (fun b u z => ?_) I.bare fun b z => by simp at z
  · have hb := Heap.lt_size z
    rw [off b (fun w => by rw [w] at hb; exact absurd hb (Nat.not_lt.mpr hp)) (fun w => by
      obtain ⟨r, hr, er⟩ := List.mem_map.mp w
      rw [← er] at hb
      exact absurd hb (Nat.not_lt.mpr (Nat.le_trans hp (Nat.le_of_lt (hi r hr)))))]
    exact n
  · by_cases h1 : b = p
    · rw [h1, upd_same] at z
      cases z
      rw [h1]
      refine ⟨by rw [List.length_map]; exact lr, acc.toList, c, by rw [ea, ← e1]; exact refs_vals rs, ?_⟩
      rw [Array.toArray_toList]
      exact gS
    · by_cases h2 : b ∈ rs.map (·.1)
      · obtain ⟨r, hr, er⟩ := List.mem_map.mp h2
        rw [upd_ne h1, ← er, putZ_at rs H nd r hr] at z
        cases z
        obtain ⟨u, v, f1, f2, f3, f4⟩ := e3 r hr
        rw [← er]
        refine ⟨by rw [f1]; exact f2, by show 2 ≤ sizeLine; decide, [u, v], .cons f3 (.cons f4 .nil), ⟨_, f2, rfl, _, rfl⟩⟩
      · rw [off b h1 h2] at z
        exact (I.hok b u z).stay (fun d v _ y => kp d v y) (fun d y => up d _ y) fun d ws y => up d _ y
/-- list(zip(t, u)) -/
def tLz (K : PySem.W.Frag) (ta : TA) : TE := fun σ H Q => ta σ H fun vs H1 => ∃ a b xs ys, vs = [.ref a, .ref b] ∧ SqT K H1 a xs ∧ SqT K H1 b ys ∧ xs.length = ys.length ∧ NewZ Q H1 xs ys
theorem pe_lz {e e2 : Expr} {ta : TA} {p p2 pos cpos : Pos} (hc : X.calm = true) (hg : Gl X "list") (hm : X.mg "list" = none) (hg2 : Gl X "zip") (hm2 : X.mg "zip" = none) (ha : PA X [e, e2] ta)
    (hs : starEach [.Call (.Name "zip" p2) [e, e2] [] cpos] X.env = (false, eval (.Call (.Name "zip" p2) [e, e2] [] cpos) X.env) :: starEach [] X.env := by rfl)
    (hs2 : starEach [e, e2] X.env = (false, eval e X.env) :: starEach [e2] X.env := by rfl) (hpl : (backTo cpos (starEach [e2] X.env)).any (·.1) = false := by rfl) (hv : bootBuiltins "list" = some (.type "list") := by decide +kernel) :
    PE X (.Call (.Name "list" p) [.Call (.Name "zip" p2) [e, e2] [] cpos] [] pos) (tLz X.K ta) := by
  refine ⟨fun pins s σ H Q I hq => ?_⟩
  refine wpAny_Call_Name_kw (ld_blt I hg hm hv (PyProof.Rows.callWith_type1 ?_ hs rfl)); rw [hs]
  show wpAny _ _ (spliced ((false, eval (.Call (.Name "zip" p2) [e, e2] [] cpos) X.env) :: backTo pos (starEach [] X.env))) _ _ s
  refine Calls.spliced_cons (Call_ (ld_blt I hg2 hm2 PyProof.Rows.boot_zip (PyProof.Rows.callWith_type1 (thn (ha.run cpos pins s σ H _ I hq) fun us s1 ⟨vs, H1, I1, r1, q1⟩ => ?_) hs2 hpl)))
  obtain ⟨a, b, xs, ys, ex, hx, hy, hl, q⟩ := q1
  subst ex
  cases r1 with
  | cons r rr =>
    cases rr with
    | cons r' rr =>
      cases rr
      cases r
      cases r'
      obtain ⟨its, rv, k1, hz⟩ := I1.tuple hx
      obtain ⟨jts, rw, k2, _⟩ := I1.tuple hy
      obtain ⟨o1, ho1, _⟩ := id k1
      obtain ⟨o2, ho2, _⟩ := id k2
      have la := Heap.lt_size ho1
      have lb := Heap.lt_size ho2
      refine RZ.call_zipT (show s1.heap.IsTuple a its.toArray from k1) (show s1.heap.IsTuple b jts.toArray from k2) fun h' hz' hTI hTO h1 h2 hsz hk => Calls.spliced_nil ?_
      refine Lz.call_list (s := { s1 with heap := h' }) (N := s1.heap.objs.size) (xs := its.toArray) (ys := jts.toArray) (I1.ok.hd hc) (PySem.W.ktu_apart s1.heap.objs.size a b la lb) (by simp only [List.size_toArray]; rw [← rv.length, ← rw.length]; exact hl) (by simp only [List.size_toArray]; rw [← rv.length]; exact hz) ⟨Nat.le_add_right _ _, Nat.le_add_right _ _, Nat.le_refl _, Nat.le_add_right _ _, ?_⟩ ⟨?_, ?_, ?_, ?_, ?_, ?_, ?_⟩ hz' hTO hTI h1 h2 (let ⟨o, ho, r⟩ := k1; ⟨o, hk _ _ ho, r⟩) (let ⟨o, ho, r⟩ := k2; ⟨o, hk _ _ ho, r⟩) fun g tk acc c as kp gS ln G ea => ?_
      · show s1.heap.objs.size ≤ h'.objs.size; rw [hsz]; exact Nat.le_add_right _ _
      · show _ < h'.objs.size; rw [hsz]; exact Nat.add_lt_add_left (by decide) _
      · show _ < h'.objs.size; rw [hsz]; exact Nat.add_lt_add_left (by decide) _
      · show _ < h'.objs.size; rw [hsz]; exact Nat.add_lt_add_left (by decide) _
      · show _ < h'.objs.size; rw [hsz]; exact Nat.lt_add_of_pos_right (by decide)
      · show _ < h'.objs.size; rw [hsz]; exact Nat.add_lt_add_left (by decide) _
      · show _ < h'.objs.size; rw [hsz]; exact Nat.lt_of_lt_of_le la (Nat.le_add_right _ _)
      · show _ < h'.objs.size; rw [hsz]; exact Nat.lt_of_lt_of_le lb (Nat.le_add_right _ _)
      · exact newZ_ep (p := h'.objs.size) I1 rv rw hz hl (fun b o z => kp b o (Heap.lt_size z) (hk b o z)) (by rw [hsz]; exact Nat.le_add_right _ _) gS ln G ea q
end
section
variable {K : PySem.W.Frag} {B : Bt} {P : D → Prop} {δ : List Sd} {X : Xc} {G H : Hp}
theorem putZ_ok : ∀ (rs : List ZR) (G H : Hp), Ok B G H → (∀ r ∈ rs, H r.1 = none ∧ r.2.1.dict = none) → (rs.map (·.1)).Nodup → Go B G H (putZ G rs) (putZ H rs) ∧ Ok B (putZ G rs) (putZ H rs)
  | [], _, _, o, _, _ => ⟨Go.refl, o⟩
  | r :: rs, G, H, o, h, n => by
    rw [List.map_cons] at n
    have n' := List.nodup_cons.mp n
    have h0 := (h r List.mem_cons_self).1
    have o1 := new_ok (x := zO r) o nt_tup h0
    obtain ⟨g2, o2⟩ := putZ_ok rs _ _ o1 (fun q hq => ⟨by
      rw [upd_ne (fun z => n'.1 (by rw [← z]; exact List.mem_map_of_mem hq))]
      exact (h q (List.mem_cons_of_mem _ hq)).1, (h q (List.mem_cons_of_mem _ hq)).2⟩) n'.2
    exact ⟨(new_go o h0).trans o1 g2, o2⟩
theorem putZ_dds {G0 : Hp} : ∀ (rs : List ZR) (xs ys : List V) (as bs : List D), Dds K B G0 xs as → Dds K B G0 ys bs → rs.map (fun r => (r.2.2.1, r.2.2.2)) = xs.zip ys → (∀ r ∈ rs, G0 r.1 = some (zO r) ∧ r.2.1.dict = none) →
    Dds K B G0 (rs.map fun r => V.ref r.1) ((as.zip bs).map fun q => .tup [q.1, q.2])
  | [], [], _, _, _, .nil, _, _, _ => by simp; exact .nil
  | [], _ :: _, [], _, _, _, .nil, _, _ => by simp; exact .nil
  | [], _ :: _, _ :: _, _, _, _, _, e, _ => by simp at e
  | _ :: _, [], _, _, _, _, _, e, _ => by simp at e
  | _ :: _, _ :: _, [], _, _, _, _, e, _ => by simp at e
  | r :: rs, x :: xs, y :: ys, _, _, .cons hx tx, .cons hy ty, e, h => by
    rw [List.map_cons, List.zip_cons_cons] at e
    injection e with e1 e2
    have h0 := h r List.mem_cons_self
    have ih := putZ_dds rs xs ys _ _ tx ty e2 fun q hq => h q (List.mem_cons_of_mem _ hq)
    rw [Prod.mk.injEq] at e1
    refine .cons (.tup ⟨h0.1, h0.2⟩ ?_) ih
    rw [e1.1, e1.2]
    exact .cons hx (.cons hy .nil)
theorem we_lz {ta : TA} (h : WAx K B X ta δ fun ds => ∃ as bs, ds = [.tup as, .tup bs] ∧ as.length = bs.length ∧ P (.lst ((as.zip bs).map fun q => .tup [q.1, q.2]))) : WEx K B X (tLz K ta) δ P := fun G0 H0 σ G H Q s xx q =>
  h G0 H0 σ G H _ s xx fun vs ds G1 H1 g o hs ⟨as, bs, e, hl, hp⟩ => by
    subst e
    cases hs with
    | cons h1 t =>
      cases t with
      | cons h2 t =>
        cases t
        cases h1 with
        | tup g1 d1 =>
          cases h2 with
          | tup g2 d2 =>
            refine ⟨_, _, _, _, rfl, SqT.ofZ (o.u _ _ g1.1), SqT.ofZ (o.u _ _ g2.1), by rw [d1.length, d2.length]; exact hl, fun p rs f1 f2 f3 f4 f5 => ?_⟩
            obtain ⟨g3, o3⟩ := putZ_ok rs G1 H1 o f2 f3
            have fp : putZ H1 rs p = none := by rw [putZ_off rs _ f4]; exact f1
            have at3 : ∀ r ∈ rs, putZ G1 rs r.1 = some (zO r) ∧ r.2.1.dict = none := fun r hr => ⟨putZ_at rs G1 f3 r hr, (f2 r hr).2⟩
            have d3 := putZ_dds rs _ _ _ _ (d1.mono g3.s) (d2.mono g3.s) f5 at3
            exact q _ _ _ _ ((g.trans o g3).trans o3 (new_go o3 fp)) (new_ok o3 nt_lst fp) (.lst upd_same (d3.mono (same_upd (o3.fresh fp)))) hp
end
end Dl
/-! Vg: a, b, *c = t, t a tuple. -/
namespace Lz
open PySem PySem.Calls PyProof.Rows PyProof.V PySem.Spec
section
variable {P : Program} {w : World} {A : Around} {E : Value → Shared → Prop} {s : Shared}
/-- a tuple's iterator, k items ahead of it gone -/
theorem walk_from (hh : A.handled = none) (I t : Addr) (hne : t ≠ I) (items : Array Value) (k : Nat) (hk : k ≤ items.size) :
    Walks P w A I [I, t] [I] (items.size - k) (fun i v => items[k + i]? = some v) (fun i h => h.IsTupleIter I t (k + i) ∧ h.IsTuple t items) where
  sub := (PySem.Walks.tuple (prog := P) (w := w) hh I t hne items).sub
  frame := fun i h h' st q => (PySem.Walks.tuple (prog := P) (w := w) hh I t hne items).frame (k + i) h h' st q
  item := fun i s Q E hi st hQ => (PySem.Walks.tuple (prog := P) (w := w) hh I t hne items).item (k + i) s Q E (by omega) st fun v h' tk a b c => hQ v h' tk a b c
  done := fun s Q E st hQ => (PySem.Walks.tuple (prog := P) (w := w) hh I t hne items).done s Q E (by rw [show k + (items.size - k) = items.size by omega] at st; exact st) hQ
  self := fun i s Q E st hQ => (PySem.Walks.tuple (prog := P) (w := w) hh I t hne items).self (k + i) s Q E st hQ
theorem unpack_star {t : Addr} {items : Array Value} {k : Nat} {R : List Value → Shared → Prop} (hh : A.handled = none) (ht : s.heap.IsTuple t items) (hk : k ≤ items.size) (hz : items.size ≤ sizeLine)
    (h : ∀ (g : Heap) (tk : Nat), (∀ b o, s.heap.get? b = some o → g.get? b = some o) → R (items.toList.take k ++ [.ref g.objs.size]) { s with heap := g.push { cls := .type "list", data := .seq (items.toList.drop k).toArray }, toks := tk }) :
    wpAny (model P w) A (unpackItems (.ref t) (k + 1) (some k)) R E s := by
  have hne : t ≠ s.heap.objs.size := let ⟨o, ho, _⟩ := ht; Nat.ne_of_lt (Heap.lt_size ho)
  unfold unpackItems
  refine wpAny_bind ?_
  unfold notIterableAtAll
  refine wpAny_bind (wpAny_specialOf ht.typeIs F.slot_tuple_iter.lookup (wpAny_pure ?_))
  simp only [Bool.false_eq_true, if_false]
  refine wpAny_bind (wpAny_holding (wpAny_pyIter_tuple ht (wpAny_bind (wpAny_holding (wpAny_draw_tuple hne k 0 _ _ ⟨_, Heap.get?_push_size _ rfl, rfl, rfl⟩ (ht.push _) (by omega) fun g1 p1 m1 => ?_)))))
  have q1 : g1.IsTuple t items := (ht.push _).extBut m1.extBut hne
  rw [List.drop_zero, if_neg (by rw [List.length_take, Array.length_toList]; omega)]
  have sz : s.heap.objs.size < g1.objs.size := let ⟨_, e, _⟩ := p1; Heap.lt_size e
  have tl : t < g1.objs.size := let ⟨_, e, _⟩ := q1; Heap.lt_size e
  refine wpAny_bind (wpAny_holding (wpAny_collect_iter (s := { s with heap := g1 }) (T := "tuple_iterator") (.inr (.inr (.inr rfl))) (walk_from (A := A.in1) hh s.heap.objs.size t hne items k hk).toS (fun i s' st => st.1.typeIs) ⟨by simpa using p1, q1⟩ (fun b hb => ?_) List.mem_cons_self (fun s' acc mv ac => ?_) (by omega)))
  · rcases List.mem_cons.mp hb with e | hb
    · rw [e]; exact sz
    · rw [List.mem_singleton.mp hb]; exact tl
  have eacc : acc.toList = items.toList.drop k := by
    apply List.ext_getElem?
    intro j
    rw [List.getElem?_drop, Array.getElem?_toList, Array.getElem?_toList]
    cases e : acc[j]? with
    | some v => exact (ac.2 j v e).symm
    | none =>
      have hj : acc.size ≤ j := Array.getElem?_eq_none_iff.mp e
      rw [ac.1] at hj
      exact (Array.getElem?_eq_none (by omega)).symm
  rw [eacc]
  have hm : k + 1 - 1 - k = 0 := by omega
  simp only [hm, Nat.not_lt_zero, if_false, Nat.sub_zero, List.take_length, List.drop_length, List.append_nil]
  obtain ⟨hp, g, d, tk, os⟩ := s'
  obtain ⟨m1', m2, m3, m4, m5⟩ := mv
  simp only at m2 m3 m4
  subst m2 m3 m4
  refine wpAny_bind (wpAny_newObj_type ?_ (by show (items.toList.drop k).toArray.size ≤ sizeLine; rw [List.size_toArray, List.length_drop, Array.length_toList]; omega))
  refine wpAny_pure (h _ tk fun b o e => m1' b o (fun z => ?_) (m1.extBut b o (Nat.ne_of_lt (Heap.lt_size e)) (Heap.get?_push_of_some _ e)))
  rw [List.mem_singleton.mp z] at e
  exact absurd (Heap.lt_size e) (Nat.lt_irrefl _)
end
end Lz
namespace Dl
open PySem PySem.Spec PyProof.Rows L2
section
variable {X : Cx}
theorem pgs_star {e : Expr} {es : List Expr} {t : TG} {u : TGs} {p : Pos} (h1 : PG X e t) (h2 : PGs X es u) (hs : (assignEach (.Starred e p :: es) X.env).map (·.2) = assign e X.env :: (assignEach es X.env).map (·.2) := by rfl) : PGs X (.Starred e p :: es) (gCons t u) :=
  ⟨fun pins s σ H vs us Q I r h => by
    obtain ⟨v, vr, e1, h⟩ := h
    subst e1
    cases r with
    | cons r rr =>
      rw [hs]
      exact assignInOrder_cons (thn (h1.run pins s σ H _ _ _ I r h) fun _ s1 ⟨σ1, H1, I1, q1⟩ => h2.run pins s1 σ1 H1 _ _ Q I1 rr q1)⟩
/-- (a, .., *c) = a tuple -/
def gStar (K : PySem.W.Frag) (k : Nat) (t : TGs) : TG := fun v σ H Q => ∃ a xs, v = .ref a ∧ SqT K H a xs ∧ k ≤ xs.length ∧ ∀ l, H l = none → t (xs.take k ++ [.ref l]) σ (upd H l (.lst (xs.drop k))) Q
theorem pg_star {es : List Expr} {k c : Nat} {t : TGs} {pos : Pos} (hc : X.calm = true) (h : PGs X es t) (hn : (assignEach es X.env).length = k + 1 := by rfl) (hst : (assignEach es X.env).findIdx? (·.1) = some k := by rfl) : PG X (.Tuple es c pos) (gStar X.K k t) := by
  refine ⟨fun pins s σ H v u Q I r hw => ?_⟩
  obtain ⟨a, xs, e1, hq, hl, hw⟩ := hw
  subst e1
  cases r
  obtain ⟨its, rv, ht, hz⟩ := I.tuple hq
  have el := rv.length
  rw [assign_Tuple]
  refine wpAny_bind (wpAny_standAt ?_)
  unfold unpack
  rw [hn, hst]
  refine wpAny_bind (wpAny_holding (Lz.unpack_star (items := its.toArray) (I.ok.hd hc) (show s.heap.IsTuple a its.toArray from ht) (by rw [List.size_toArray]; omega) (by rw [List.size_toArray]; omega) fun g tk kp => ?_))
  have I1 : Inv X pins σ H { s with heap := g, toks := tk } := I.kept kp
  have hg : (g.push { cls := .type "list", data := .seq (its.drop k).toArray }).get? g.objs.size = some { cls := .type "list", data := .seq (its.drop k).toArray } := Heap.get?_push_size _ rfl
  have hf : H g.objs.size = none := I1.hok.fresh (Nat.le_refl _)
  have I2 : Inv X pins σ (upd H g.objs.size (.lst (xs.drop k))) { s with heap := g.push { cls := .type "list", data := .seq (its.drop k).toArray }, toks := tk } :=
    I1.laid (t' := tk) (fun b u e => Heap.get?_push_of_some _ e) (Nat.le_refl _) ⟨by rw [List.length_drop]; omega, its.drop k, 0, rv.drop k, hg⟩
  exact h.run pins _ σ _ _ _ Q I2 ((rv.take k).append (.cons (show RelV (V.ref g.objs.size) (Value.ref g.objs.size) from rfl) .nil)) (hw g.objs.size hf)
end
section
variable {K : PySem.W.Frag} {B : Bt} {P : D → Prop} {δ : List Sd} {O : Out} {te : TE}
theorem ws_star2 {i j l : Nat} (h : WEx K B O.x te δ fun d => ∃ a b r, d = .tup (a :: b :: r) ∧ O.nx (((δ.set i (.val a)).set j (.val b)).set l (.val (.lst r)))) : WS K B (tAsg te (gStar K 2 (gCons (gName i) (gCons (gName j) (gCons (gName l) gNil))))) δ O := fun G0 H0 σ G H E s xx n _ _ _ =>
  h G0 H0 σ G H _ s (xx.ct s) fun v d G1 H1 g o hd ⟨a, b, r, e, p⟩ => by
    subst e
    cases hd with
    | tup hg t =>
      cases t with
      | cons h1 t =>
        cases t with
        | cons h2 t =>
          rename_i vs
          refine ⟨_, _, rfl, SqT.ofZ (o.u _ _ hg.1), by simp, fun q hq => ⟨_, _, rfl, _, _, rfl, _, _, rfl, rfl, ?_⟩⟩
          have g2 := new_go (x := HO.lst vs) o hq
          have o2 := new_ok (x := HO.lst vs) o nt_lst hq
          exact n _ _ _ _ (g.s.trans g2.s) ((((s.on (g.trans o g2) o2).setVal i (h1.mono g2.s)).setVal j (h2.mono g2.s)).setVal l (.lst upd_same (t.mono g2.s))) p
end
end Dl
/-! Vh: a loop over a list or a tuple, whichever it is; sorted(ints); a, b, c, d = t; bounds of products. -/
namespace Dl
open PySem PySem.Spec PyProof.Rows L2
/-- for .. in xs, a list or a tuple -/
def iAny (K : PySem.W.Frag) (tl : TE) : TI := fun σ H R => tl σ H fun x H1 => ∃ a, x = .ref a ∧ (((∃ xs, SqL K H1 a xs) ∧ R (Itl K a) H1) ∨ ((∃ xs, SqT K H1 a xs) ∧ R (Itt K a) H1))
theorem pi_any {X : Cx} {tg l : Expr} {tl : TE} (hl : PE X l tl) : PI X tg l (iAny X.K tl) := by
  refine ⟨fun pins s σ H R I h => thn (hl.run pins s σ H _ I h) fun v s1 ⟨x, H1, I1, r1, a, e, q1⟩ => ?_⟩
  subst e
  cases r1
  have fp : ∀ b, b ∈ [s1.heap.objs.size] → FpOk X pins H1 b := fun b hb => by
    rw [List.mem_singleton.mp hb]
    exact I1.fpOk (Nat.le_refl _) (I1.hok.fresh (Nat.le_refl _))
  rcases q1 with ⟨⟨xs, hq⟩, q⟩ | ⟨⟨xs, hq⟩, q⟩
  · obtain ⟨its, rv, p, hz⟩ := I1.list hq
    exact wpAny_pyIter_list p.isList ⟨s1.heap.objs.size, [s1.heap.objs.size], _, _, H1, rfl, I1.kept (t' := s1.toks) fun b o e => Heap.get?_push_of_some _ e, turn_list a _, ⟨_, Heap.get?_push_size _ rfl, rfl, rfl⟩, fp, q⟩
  · obtain ⟨its, rv, p, hz⟩ := I1.tuple hq
    exact wpAny_pyIter_tuple (show s1.heap.IsTuple a its.toArray from p) ⟨s1.heap.objs.size, [s1.heap.objs.size], _, _, H1, rfl, I1.kept (t' := s1.toks) fun b o e => Heap.get?_push_of_some _ e, turn_tuple a _, ⟨_, Heap.get?_push_size _ rfl, rfl, rfl⟩, fp, q⟩
section
variable {K : PySem.W.Frag} {B : Bt} {δ : List Sd} {X : Xc} {O : Out} {te : TE} {Q : D → Prop}
theorem wi_any {P : List D → Prop} (h : WEx K B X te δ fun d => ∃ ds, (d = .lst ds ∨ d = .tup ds) ∧ P ds) : WIx K B X (iAny K te) δ P := fun G0 H0 σ G H R s xx q =>
  h G0 H0 σ G H _ s xx fun x a G1 H1 g1 o1 hx ⟨ds, e, p⟩ => by
    rcases e with e | e
    · subst e
      cases hx with
      | lst h t => exact ⟨_, rfl, .inl ⟨⟨_, SqL.of (o1.u _ _ h)⟩, q _ ds G1 H1 g1 o1 (it_list h t) p⟩⟩
    · subst e
      cases hx with
      | tup h t => exact ⟨_, rfl, .inr ⟨⟨_, SqT.ofZ (o1.u _ _ h.1)⟩, q _ ds G1 H1 g1 o1 (it_tup h t) p⟩⟩
theorem Dds.ofInts {G : Hp} : ∀ ns : List Int, Dds K B G (ns.map V.int) (ns.map D.int)
  | [] => .nil
  | _ :: ns => .cons (.int _) (Dds.ofInts ns)
theorem rc_sortI {ns : List Int} (h : ∀ ms : List Int, ms.Perm ns → ms.Pairwise (· ≤ ·) → Q (.lst (ms.map D.int))) : RC K B (rSortedI K) [.lst (ns.map D.int)] Q := fun G H vs R o hs q => by
  cases hs with
  | cons h1 t1 =>
    cases t1
    cases h1 with
    | lst hg t =>
      refine ⟨_, ns, rfl, by rw [← Dds.ints t]; exact SqL.of (o.u _ _ hg), fun ms p h1 h2 h3 => ?_⟩
      exact q.new o nt_lst h3 (.lst upd_same (Dds.ofInts ms)) (h ms h1 h2)
theorem ws_unt4 {i j l m : Nat} (h : WEx K B O.x te δ fun d => ∃ a b c e, d = .tup [a, b, c, e] ∧ O.nx ((((δ.set i (.val a)).set j (.val b)).set l (.val c)).set m (.val e))) : WS K B (tAsg te (gTup K 4 (gCons (gName i) (gCons (gName j) (gCons (gName l) (gCons (gName m) gNil)))))) δ O := fun G0 H0 σ G H E s xx n _ _ _ =>
  h G0 H0 σ G H _ s (xx.ct s) fun v d G1 H1 g o hd ⟨a, b, c, e, ed, p⟩ => by
    subst ed
    cases hd with
    | tup hg t =>
      cases t with
      | cons h1 t =>
        cases t with
        | cons h2 t =>
          cases t with
          | cons h3 t =>
            cases t with
            | cons h4 t =>
              cases t
              exact ⟨_, _, rfl, SqT.ofZ (o.u _ _ hg.1), rfl, _, _, rfl, _, _, rfl, _, _, rfl, _, _, rfl, rfl, n _ _ G1 H1 g.s (((((s.on g o).setVal i h1).setVal j h2).setVal l h3).setVal m h4) p⟩
end
theorem mulB {x y m n : Int} (hx : -m ≤ x ∧ x ≤ m) (hy : -n ≤ y ∧ y ≤ n) : -(m * n) ≤ x * y ∧ x * y ≤ m * n := by
  have h1 : x.natAbs ≤ m.natAbs := by omega
  have h2 : y.natAbs ≤ n.natAbs := by omega
  have h3 : (x * y).natAbs ≤ m.natAbs * n.natAbs := by rw [Int.natAbs_mul]; exact Nat.mul_le_mul h1 h2
  have h4 : ((m.natAbs * n.natAbs : Nat) : Int) = m * n := by
    rw [Int.natCast_mul, Int.natAbs_of_nonneg (by omega), Int.natAbs_of_nonneg (by omega)]
  omega
end Dl
/-! Vi: {elt for t0 in i0 if .. for t1 in i1 if ..}, elt a tuple of ints. -/
namespace S2
open PySem PySem.Spec PyProof.Rows L2
abbrev sc2 (elt t0 i0 : Expr) (f0 : List Expr) (t1 i1 : Expr) (f1 : List Expr) (scope : Scope) (pos : Pos) : Expr := .SetComp elt [⟨t0, i0, f0, 0⟩, ⟨t1, i1, f1, 0⟩] scope pos
section
variable {P : Program} {w : World} {A : Around} {R : Result → Shared → Prop} {s : Shared} {elt t0 i0 t1 i1 : Expr} {f0 f1 : List Expr} {scope : Scope} {pos : Pos} {it acc : Value} {env : Env}
theorem turn_out : compTurn (sc2 elt t0 i0 f0 t1 i1 f1 scope pos) 0 it acc env = (do
    standAt i0.pos
    match ← pyNext it with
    | none => pure (.done .next)
    | some u =>
      letOwnedTupleGo t0 it u
      assign t0 env u
      let mut b := true
      for c in f0 do
        if b then b ← isTrue c env (eval c env)
      if b then
        let y ← eval i1 env
        standAt i1.pos
        let z ← foldedSetIterable i1 env y
        let _ ← runOwn (.compStart (sc2 elt t0 i0 f0 t1 i1 f1 scope pos) 1 (← holding [z] (pyIter z)) acc env) env
      again (.compLoop (sc2 elt t0 i0 f0 t1 i1 f1 scope pos) 0 it acc env)) := by rfl
theorem turn_in : compTurn (sc2 elt t0 i0 f0 t1 i1 f1 scope pos) 1 it acc env = (do
    standAt i1.pos
    match ← pyNext it with
    | none => pure (.done .next)
    | some u =>
      letOwnedTupleGo t1 it u
      assign t1 env u
      let mut b := true
      for c in f1 do
        if b then b ← isTrue c env (eval c env)
      if b then
        (do let y ← eval elt env; standAt elt.pos; let _ ← call (.builtin "set.add") [acc, y])
      again (.compLoop (sc2 elt t0 i0 f0 t1 i1 f1 scope pos) 1 it acc env)) := by rfl
/-- the tests of a clause -/
abbrev tests (env : Env) (fs : List Expr) : Sem Bool := forIn fs true fun c r => if r = true then do let b ← isTrue c env (eval c env); pure (ForInStep.yield b) else pure (ForInStep.yield r)
abbrev Nb (P : Program) (w : World) (A : Around) (env : Env) (R : Result → Shared → Prop) : Value → Shared → Prop := notedBy (model P w) A env fun e t => R (.error e) t
theorem loop_out (hs : ∀ x, foldedSetIterable i1 env x = pure x) (I : Nat → Shared → Prop)
    (step : ∀ n s, I n s → wpAny (model P w) A (pyNext it) (fun r t => match r with
      | none => R (.ok .next) t
      | some u => wpAny (model P w) A (letOwnedTupleGo t0 it u) (fun _ t => wpAny (model P w) A (assign t0 env u) (fun _ t => wpAny (model P w) A (tests env f0) (fun b t =>
          if b = true then wpAny (model P w) A (eval i1 env) (fun x t => wpAny (model P w) A (pyIter x) (fun it1 t =>
            codeAny (model P w) A (.compStart (sc2 elt t0 i0 f0 t1 i1 f1 scope pos) 1 it1 acc env) (fun r t => match r with
              | .ok _ => ∃ m, m < n ∧ I m t
              | .error _ => False) t) (Nb P w A env R) t) (Nb P w A env R) t
          else ∃ m, m < n ∧ I m t) (Nb P w A env R) t) (Nb P w A env R) t) (Nb P w A env R) t) (Nb P w A env R) s)
    (n : Nat) (h : I n s) : codeAny (model P w) A (.compLoop (sc2 elt t0 i0 f0 t1 i1 f1 scope pos) 0 it acc env) R s := by
  refine codeAny_loop rfl I (fun n s hI => ?_) n h
  show wpAny _ A ((compTurn (sc2 elt t0 i0 f0 t1 i1 f1 scope pos) 0 it acc env).onRaise (fun x => do noteFrame x env; theTreesLotGoes x)) _ _ s
  refine wpAny_noted ?_; rw [turn_out]
  refine wpAny_bind (wpAny_standAt (wpAny_bind (wpAny_mono (step n s hI) (fun r t k => ?_) fun _ _ z => z)))
  cases r with
  | none => exact wpAny_pure k
  | some u =>
    refine wpAny_bind (wpAny_mono k (fun _ t k => wpAny_bind (wpAny_mono k (fun _ t k => wpAny_bind (wpAny_mono k (fun b t k => ?_) fun _ _ z => z)) fun _ _ z => z)) fun _ _ z => z)
    cases b with
    | false => exact wpAny_pure ⟨rfl, k⟩
    | true =>
      refine wpAny_bind (wpAny_mono k (fun x t k => wpAny_bind (wpAny_standAt (wpAny_bind (wpAny_of_eq (hs x) (wpAny_bind (wpAny_holding (wpAny_mono k (fun it1 t k => ?_) fun _ _ z => z))))))) fun _ _ z => z)
      refine wpAny_bind (wpAny_runOwn ?_); rw [Around.mark_none]
      refine codeAny_mono k fun r t hr => ?_
      cases r with
      | ok f => first | exact wpAny_pure ⟨rfl, hr⟩ | exact wpAny_bind (wpAny_pure (wpAny_pure ⟨rfl, hr⟩))
      | error e => exact hr.elim
theorem loop_in (I : Nat → Shared → Prop)
    (step : ∀ n s, I n s → wpAny (model P w) A (pyNext it) (fun r t => match r with
      | none => R (.ok .next) t
      | some u => wpAny (model P w) A (letOwnedTupleGo t1 it u) (fun _ t => wpAny (model P w) A (assign t1 env u) (fun _ t => wpAny (model P w) A (tests env f1) (fun b t =>
          if b = true then wpAny (model P w) A (eval elt env) (fun x t => wpAny (model P w) A (call (.builtin "set.add") [acc, x]) (fun _ t => ∃ m, m < n ∧ I m t) (Nb P w A env R) t) (Nb P w A env R) t
          else ∃ m, m < n ∧ I m t) (Nb P w A env R) t) (Nb P w A env R) t) (Nb P w A env R) t) (Nb P w A env R) s)
    (n : Nat) (h : I n s) : codeAny (model P w) A (.compLoop (sc2 elt t0 i0 f0 t1 i1 f1 scope pos) 1 it acc env) R s := by
  refine codeAny_loop rfl I (fun n s hI => ?_) n h
  show wpAny _ A ((compTurn (sc2 elt t0 i0 f0 t1 i1 f1 scope pos) 1 it acc env).onRaise (fun x => do noteFrame x env; theTreesLotGoes x)) _ _ s
  refine wpAny_noted ?_; rw [turn_in]
  refine wpAny_bind (wpAny_standAt (wpAny_bind (wpAny_mono (step n s hI) (fun r t k => ?_) fun _ _ z => z)))
  cases r with
  | none => exact wpAny_pure k
  | some u =>
    refine wpAny_bind (wpAny_mono k (fun _ t k => wpAny_bind (wpAny_mono k (fun _ t k => wpAny_bind (wpAny_mono k (fun b t k => ?_) fun _ _ z => z)) fun _ _ z => z)) fun _ _ z => z)
    cases b with
    | false => exact wpAny_pure ⟨rfl, k⟩
    | true => exact wpAny_bind (wpAny_bind (wpAny_mono k (fun x t k => wpAny_bind (wpAny_standAt (wpAny_bind (wpAny_mono k (fun _ t k => wpAny_pure (wpAny_pure ⟨rfl, k⟩)) fun _ _ z => z)))) fun _ _ z => z))
theorem start_in (h0 : codeAny (model P w) A (.compLoop (sc2 elt t0 i0 f0 t1 i1 f1 scope pos) 1 it acc env) R s)
    (h : wpAny (model P w) A (pyIter it) (fun it' t => codeAny (model P w) A (.compLoop (sc2 elt t0 i0 f0 t1 i1 f1 scope pos) 1 it' acc env) R t) (Nb P w A env R) s) :
    codeAny (model P w) A (.compStart (sc2 elt t0 i0 f0 t1 i1 f1 scope pos) 1 it acc env) R s := by
  refine codeAny_of_tree ?_
  show wpAny _ _ ((compStart (sc2 elt t0 i0 f0 t1 i1 f1 scope pos) 1 it acc env).onRaise (fun x => do noteFrame x env; standAt theWindowsPlace)) _ _ s
  refine wpAny_notedAt ?_; unfold compStart; show wpAny _ _ (ask >>= _) _ _ s
  refine wpAny_bind (wpAny_askSetting (wpAny_ite ?_)); split
  · first | exact wpAny_bind (wpAny_pure (wpAny_pure (And.intro rfl h0))) | exact wpAny_pure (And.intro rfl h0)
  · first
      | exact wpAny_bind (wpAny_rule (wpAny_bind (wpAny_standAt (wpAny_bind (wpAny_mono h (fun _ t k => wpAny_pure (And.intro rfl k)) fun _ _ z => z)))))
      | (refine wpAny_bind (wpAny_rule ?_); show wpAny _ _ (standAt i1.pos >>= _) _ _ s; exact wpAny_bind (wpAny_standAt (wpAny_bind (wpAny_mono h (fun _ t k => wpAny_pure (And.intro rfl k)) fun _ _ z => z))))
end
section
variable {X : Cx}
/-- set.add of a tuple of ints -/
theorem addT {pins : List (Addr × Obj)} {σ : L2.St} {H : Hp} {s : Shared} {E : Value → Shared → Prop} {D t : Addr} {k : List Int} {L : List (Addr × List Int)} {Q : Value → Shared → Prop} (I : Inv X pins σ H s) (hD : H D = some (SetTO X.prog X.w D L)) (hL : ∀ p ∈ L, SqT X.K H p.1 (p.2.map V.int)) (ht : SqT X.K H t (k.map V.int)) (hu : X.A.units + 64 < cLine) (few : L.length + 1 < 64)
    (h : ∀ L' s', (k ∈ L.map (·.2) → L' = L) → (k ∉ L.map (·.2) → L'.Perm ((t, k) :: L)) → Inv X pins σ (upd H D (SetTO X.prog X.w D L')) s' → Q .none s') : wpAny (model X.prog X.w) X.A (call (.builtin "set.add") [.ref D, .ref t]) Q E s := by
  have R0 : SetT0 X.prog X.w s.heap D L := (I.hok D _ hD).1
  obtain ⟨es, ep, tb, R⟩ := R0.full fun p hp => I.isT (hL p hp)
  obtain ⟨o, ho, hex, hd⟩ := R.ob
  have hT : s.TypeIs (.ref D) "set" := ⟨o, ho, hex.1⟩
  refine wpAny_call_entry F.slot_set_add hT F.entry_set_add ?_ (F.args_set_add_2 _ _)
  unfold Builtin.«set.add» Builtin.Frozenset.oneOther; simp only [List.isEmpty_nil, bind_assoc]
  unfold Builtin.Frozenset.addrOf setAdd; refine wpAny_bind (wpAny_pure ?_); try dsimp only
  refine wpAny_bind (wpAny_pure ?_); try dsimp only
  refine wpAny_bind (wpAny_holding (wpAny_bind (wpAny_pyHash_tuple (show X.A.units + 1 < cLine by omega) (I.isT ht) ?_)))
  refine add_at (s := { s with toks := s.toks + (k.length + 1) }) (R.keep (fun _ e => e) R.tup) (I.isT ht) (show X.A.units + 1 < cLine by omega) few fun b g L' es' ep' t' sb R' c1 c2 => ?_
  show wpAny _ _ (ret Value.none) _ _ _; refine wpAny_pure ⟨_, rfl, h L' _ c1 c2 ?_⟩
  obtain ⟨o', ho', _⟩ := R'.ob
  exact I.write (e := D) (t' := s.toks + (k.length + 1)) (by rw [hD]; trivial) (.inl rfl) (fun b u hb hu => (sb.2 b hb).trans hu) ⟨o', ho'⟩ (setTO_new R'.t0)
/-- {elt for g in wi if tt for g1 in wi1 if tt1}: D the new set -/
def tS2 (K : PySem.W.Frag) (P : Program) (w : World) (wi : TI) (g : TG) (tt : TT) (wi1 : TI) (g1 : TG) (tt1 : TT) (te : TE) (vs vs1 : List Nat) : TE := fun σ H Q => wi σ H fun J H1 => ∀ D, H1 D = none → ∃ W : Nat → Nat → Hp → Prop, (∃ m, W 0 m (upd H1 D (SetTO P w D []))) ∧ ∀ i m H, W i m H →
  (J.stop i H ∧ Q (.ref D) H) ∨ (J.go i H ∧ ∃ Nx : Hp → Prop, (∀ H', Nx H' → ∃ m', m' < m ∧ W (i + 1) m' H') ∧ ∀ x H', J.yld i H x H' → g x (wipe σ vs) H' fun σ2 H2 => wipe σ2 vs = wipe σ vs ∧ tt σ2 H2 fun b H3 =>
    if b = true then wi1 σ2 H3 fun J1 H4 => ∃ W1 : Nat → Nat → Hp → Prop, (∃ m, W1 0 m H4) ∧ ∀ j k H, W1 j k H →
      (J1.stop j H ∧ Nx H) ∨ (J1.go j H ∧ ∃ Nx1 : Hp → Prop, (∀ H', Nx1 H' → ∃ k', k' < k ∧ W1 (j + 1) k' H') ∧ ∀ x H', J1.yld j H x H' → g1 x (wipe σ2 vs1) H' fun σ3 H5 => wipe σ3 vs1 = wipe σ2 vs1 ∧ tt1 σ3 H5 fun b H6 =>
        if b = true then te σ3 H6 fun y H7 => ∃ t n L, y = .ref t ∧ SqT K H7 t (n.map V.int) ∧ H7 D = some (SetTO P w D L) ∧ (∀ p ∈ L, SqT K H7 p.1 (p.2.map V.int)) ∧ L.length + 1 < 64 ∧ ∀ L', (n ∈ L.map (·.2) → L' = L) → (n ∉ L.map (·.2) → L'.Perm ((t, n) :: L)) → Nx1 (upd H7 D (SetTO P w D L')) else Nx1 H6)
    else Nx H3)
theorem pe_s2 {elt tg iter tg1 iter1 : Expr} {fs fs1 : List Expr} {scope : Scope} {own : List (Str × Nat)} {vs1 : List Nat} {pos : Pos} {wi wi1 : TI} {g g1 : TG} {tt tt1 : TT} {te : TE} (hc : X.calm = true) (hN : X.N.Nodup) (hu : X.A.units + 64 < cLine) (hi : PI X tg iter wi) (ok : BlkOk X.N X.env.scope scope own) (hv : ∀ i ∈ vs1, i ∈ own.map (·.2))
    (hg : ∀ (s : Shared) (H : Hp) (C : Addr) (cl : List (Str × Addr)) (fp : List Addr), PG (X.blk s H scope (compEnvC scope cl C X.env) fp) tg g) (ht : ∀ (s : Shared) (H : Hp) (C : Addr) (cl : List (Str × Addr)) (fp : List Addr), PTs (X.blk s H scope (compEnvC scope cl C X.env) fp) fs tt)
    (hi1 : ∀ (s : Shared) (H : Hp) (C : Addr) (cl : List (Str × Addr)) (fp : List Addr), PI (X.blk s H scope (compEnvC scope cl C X.env) fp) tg1 iter1 wi1) (hg1 : ∀ (s : Shared) (H : Hp) (C : Addr) (cl : List (Str × Addr)) (fp : List Addr), PG (X.blk s H scope (compEnvC scope cl C X.env) fp) tg1 g1)
    (ht1 : ∀ (s : Shared) (H : Hp) (C : Addr) (cl : List (Str × Addr)) (fp : List Addr), PTs (X.blk s H scope (compEnvC scope cl C X.env) fp) fs1 tt1) (he : ∀ (s : Shared) (H : Hp) (C : Addr) (cl : List (Str × Addr)) (fp : List Addr), PE (X.blk s H scope (compEnvC scope cl C X.env) fp) elt te)
    (hs : ∀ x, foldedSetIterable iter X.env x = pure x := by intro _; rfl) (hs1 : ∀ env x, foldedSetIterable iter1 env x = pure x := by intro _ _; rfl) :
    PE X (sc2 elt tg iter fs tg1 iter1 fs1 scope pos) (tS2 X.K X.prog X.w wi g tt wi1 g1 tt1 te (own.map (·.2)) vs1) := by
  refine ⟨fun pins s σ H Q I h => ?_⟩
  have cells : ∀ y ∈ scope.names, y.2 = .free → ∃ c, X.env.cells.lookup y.1 = some c := fun y hy e => (ok.free y hy e).elim (fun z => I.ok.has _ (.inl z)) fun z => I.ok.has _ (.inr z)
  show wpAny (model X.prog X.w) X.A (comprehension (sc2 elt tg iter fs tg1 iter1 fs1 scope pos) scope X.env _ (newSet (.type "set")) _ (eval iter X.env)) _ X.xe s
  refine wpAny_comprehension_free rfl hs (closure_ok cells) ok.kind (fun y hy e => by rw [ok.uniq y hy, e]) (thn (hi.run pins s σ H _ I h) fun _ t1 k => thn k fun _ t2 ⟨it, fp, tn, J, H2, e, I2, T, st2, f2, q⟩ => ?_)
  subst e
  refine PpSet.newSet_ok (newEnv_comp ?_)
  generalize eD : t2.heap.objs.size = D
  have nD : H2 D = none := I2.hok.fresh (Nat.le_of_eq eD)
  obtain ⟨W, ⟨m0, w0⟩, turn⟩ := q D nD
  generalize e3 : ({ t2 with heap := t2.heap.push { cls := .type "set", dict := none, data := .set #[] 0 (.fresh 0 0 (!X.w.params.followText "set-order")) } } : Shared) = t3
  have p3 : t3.heap = t2.heap.push { cls := .type "set", dict := none, data := .set #[] 0 (.fresh 0 0 (!X.w.params.followText "set-order")) } := by rw [← e3]
  have k3 : ∀ b o, t2.heap.get? b = some o → t3.heap.get? b = some o := fun b o z => by rw [p3]; exact Heap.get?_push_of_some _ z
  have I3 : Inv X pins σ (upd H2 D (SetTO X.prog X.w D [])) t3 := by
    rw [← e3]
    refine I2.laid (t' := t2.toks) (fun b o z => Heap.get?_push_of_some _ z) (Nat.le_of_eq eD) (setTO_new (setTR_fresh (h := t2.heap.push _) ?_).t0)
    rw [← eD]; exact Heap.get?_push_size _ rfl
  have below : ∀ b ∈ fp, b < t2.heap.objs.size := fun b hb => let ⟨_, z, _⟩ := T.obj _ _ st2 b hb; Heap.lt_size z
  have f3 : ∀ b ∈ fp, FpOk X pins (upd H2 D (SetTO X.prog X.w D [])) b ∧ b < t3.heap.objs.size := fun b hb => by
    have lt := below b hb
    refine ⟨⟨?_, (f2 b hb).2⟩, by rw [p3, Heap.size_push]; exact Nat.lt_succ_of_lt lt⟩
    rw [upd_ne (by rw [← eD]; exact Nat.ne_of_lt lt)]; exact (f2 b hb).1
  have st3 : tn 0 t3.heap := T.keep _ _ _ st2 fun b _ o z => k3 b o z
  have I4 := block_start I3 ok hN f3
  generalize eC : cellsFrom (t3.heap.objs.size + 1) scope.names (cloFrom X.env.cells scope.names []) = cl at I4
  have qg := hg t3 (upd H2 D (SetTO X.prog X.w D [])) t3.heap.objs.size cl fp
  have qt := ht t3 (upd H2 D (SetTO X.prog X.w D [])) t3.heap.objs.size cl fp
  have qi1 := hi1 t3 (upd H2 D (SetTO X.prog X.w D [])) t3.heap.objs.size cl fp
  have qg1 := hg1 t3 (upd H2 D (SetTO X.prog X.w D [])) t3.heap.objs.size cl fp
  have qt1 := ht1 t3 (upd H2 D (SetTO X.prog X.w D [])) t3.heap.objs.size cl fp
  have qe := he t3 (upd H2 D (SetTO X.prog X.w D [])) t3.heap.objs.size cl fp
  show codeAny (model X.prog X.w) X.A (.compStart (sc2 elt tg iter fs tg1 iter1 fs1 scope pos) 0 (.ref it) (.ref D) (compEnvC scope cl t3.heap.objs.size X.env)) (compPost (model X.prog X.w) X.A X.xe none (EP X pins σ Q) (.ref D) t3.heap.objs.size) _
  have nfp : ∀ b ∈ fp, (upd H2 D (SetTO X.prog X.w D [])) b = none := fun b hb => (f3 b hb).1.1
  generalize eE : compEnvC scope cl t3.heap.objs.size X.env = ce at I4 qg qt qi1 qg1 qt1 qe ⊢
  have eL : ce.locals = t3.heap.objs.size := by rw [← eE]; rfl
  generalize upd H2 D (SetTO X.prog X.w D []) = H3 at I3 I4 qg qt qi1 qg1 qt1 qe w0 nfp f3
  generalize e4 : ({ t3 with heap := pushCells (t3.heap.push { cls := .type "dict", data := .dict #[] }) scope.names } : Shared) = t4 at I4 ⊢
  have st4 : tn 0 t4.heap := T.keep _ _ _ st3 fun b _ o z => by rw [← e4]; exact pushCells_keeps _ _ _ _ (Heap.get?_push_of_some _ z)
  have still : ∀ {τ : L2.St} {G : Hp} {t : Shared}, Inv (X.blk t3 H3 scope ce fp) [] τ G t → (∀ b ∈ fp, G b = none) → ∀ b ∈ fp, FpOk (X.blk t3 H3 scope ce fp) [] G b := fun {τ G t} J n b hb => ⟨n b hb, (J.ok.exf b hb).1, J.ok.exfs b hb, .inl hb, fun x c z => (J.ok.exf b hb).2 x c z, fun p hp => absurd (show p ∈ ([] : List (Addr × Obj)) ++ [] from hp) (by simp)⟩
  have all : codeAny (model X.prog X.w) X.A (.compLoop (sc2 elt tg iter fs tg1 iter1 fs1 scope pos) 0 (.ref it) (.ref D) ce) (compPost (model X.prog X.w) X.A X.xe none (EP X pins σ Q) (.ref D) t3.heap.objs.size) t4 := by
    refine loop_out (hs1 ce) (fun n t => ∃ i G, Inv (X.blk t3 H3 scope ce fp) [] (wipe σ (own.map (·.2))) G t ∧ tn i t.heap ∧ (∀ b ∈ fp, G b = none) ∧ W i n G) ?_ m0 ⟨0, H3, I4, st4, nfp, w0⟩
    rintro n t5 ⟨i, H5, I5, st5, n5, w5⟩
    rcases turn i n H5 w5 with ⟨stop, fin⟩ | ⟨go, Nx, hNx, step⟩
    · refine thnF (T.done (X.blk t3 H3 scope ce fp) rfl rfl rfl hc i [] t5 _ H5 (fun _ _ => False) I5 (still I5 n5) st5 stop) fun r t6 ⟨hr, I6⟩ => ?_
      subst hr
      have I7 : Inv X pins σ H5 t6 := I3.call' (ch := fp) I6.os I6.base I6.hok I6.bare fun b hb => ⟨(f3 b hb).1.2.2.2.1, (f3 b hb).1.2.1, (f3 b hb).1.2.2.2.2.1, (f3 b hb).1.2.2.2.2.2⟩
      have nC : H5 t3.heap.objs.size = none := by rw [← eL]; exact I6.free
      obtain ⟨m, hm, _⟩ := I6.loc
      have hm : t6.heap.Ns ce.locals m := hm
      rw [eL] at hm
      have fC := I3.fpOk (Nat.le_refl _) nC
      obtain ⟨c0, c1, c2, c3, c4, c5⟩ := fC
      exact ⟨m, hm, fun h'' sb => ⟨.ref D, H5, I7.turned (t' := t6.toks) (fun b o hb z => (sb.2 b hb).trans z) c0 c1 c3 c4 c5, rfl, fin⟩⟩
    · refine thnF (T.item (X.blk t3 H3 scope ce fp) rfl rfl rfl hc i [] t5 _ H5 (fun _ _ => False) I5 (still I5 n5) st5 go) fun r t6 ⟨u, hr, k6⟩ => ?_
      subst hr
      refine thnF k6 fun _ t7 ⟨x, H7, I7, r7, y7, st7, n7⟩ => ?_
      have J7 := I7.pinned (still I7 n7) (T.obj _ _ st7)
      refine thnF (qg.run _ t7 _ H7 x u _ J7 r7 (step x H7 y7)) fun _ t8 ⟨σ8, H8, I8, w8, q8⟩ => thnF (qt.run _ t8 σ8 H8 _ I8 q8) fun b t9 ⟨H9, I9, q9⟩ => ?_
      have fin : ∀ {τ : L2.St} {t : Shared} {G : Hp}, Inv (X.blk t3 H3 scope ce fp) ([] ++ pinsAt fp t7.heap) τ G t → (wipe σ (own.map (·.2))).length = τ.length → (∀ (j : Nat) v, (wipe σ (own.map (·.2)))[j]? = some (some v) → τ[j]? = some (some v)) → Nx G →
          ∃ m, m < n ∧ ∃ i G, Inv (X.blk t3 H3 scope ce fp) [] (wipe σ (own.map (·.2))) G t ∧ tn i t.heap ∧ (∀ b ∈ fp, G b = none) ∧ W i m G := fun {τ t G} J hl hk nx => by
        obtain ⟨m', hm, w'⟩ := hNx G nx
        have pin : ∀ b ∈ fp, ∀ o, t7.heap.get? b = some o → t.heap.get? b = some o ∧ G b = none := fun b hb o z => let y := J.pin (b, o) (List.mem_append_right _ (List.mem_append_right _ (mem_pinsAt hb z))); ⟨y.1, y.2.1⟩
        exact ⟨m', hm, i + 1, G, (J.unpinned (pins := [])).weak hl hk, T.keep _ _ _ st7 fun b hb o z => (pin b hb o z).1, fun b hb => let ⟨o, z, _⟩ := T.obj _ _ st7 b hb; (pin b hb o z).2, w'⟩
      have l8 : (wipe σ (own.map (·.2))).length = σ8.length := by rw [← w8, wipe_length]
      have k8 : ∀ (j : Nat) v, (wipe σ (own.map (·.2)))[j]? = some (some v) → σ8[j]? = some (some v) := fun j v z => by rw [← w8] at z; exact (wipe_some z).1
      have k9 : ∀ (j : Nat) v, (wipe σ (own.map (·.2)))[j]? = some (some v) → (wipe σ8 vs1)[j]? = some (some v) := fun j v z => by
        rw [← w8] at z
        obtain ⟨z1, z2⟩ := wipe_some z
        rw [wipe_out fun y => z2 (hv j y)]; exact z1
      cases b with
      | false =>
        simp only [Bool.false_eq_true, if_false] at q9 ⊢
        exact fin I9 l8 k8 q9
      | true =>
        simp only [if_true] at q9 ⊢
        refine thnF (qi1.run _ t9 σ8 H9 _ I9 q9) fun xv t10 kx => thnF kx fun iv t11 ⟨it1, fp1, tn1, J1, H11, ei, I11, T1, st11, f11, W1, ⟨m1, w1⟩, turn1⟩ => ?_
        subst ei
        have still1 : ∀ {G : Hp}, (∀ b ∈ fp1, G b = none) → ∀ b ∈ fp1, FpOk (X.blk t3 H3 scope ce fp) ([] ++ pinsAt fp t7.heap) G b := fun n b hb => ⟨n b hb, (f11 b hb).2⟩
        have inner : codeAny (model X.prog X.w) X.A (.compLoop (sc2 elt tg iter fs tg1 iter1 fs1 scope pos) 1 (.ref it1) (.ref D) ce)
            (fun r t => match r with
              | .ok _ => ∃ m, m < n ∧ ∃ i G, Inv (X.blk t3 H3 scope ce fp) [] (wipe σ (own.map (·.2))) G t ∧ tn i t.heap ∧ (∀ b ∈ fp, G b = none) ∧ W i m G
              | .error _ => False) t11 := by
          refine loop_in (fun k t => ∃ j G, Inv (X.blk t3 H3 scope ce fp) ([] ++ pinsAt fp t7.heap) (wipe σ8 vs1) G t ∧ tn1 j t.heap ∧ (∀ b ∈ fp1, G b = none) ∧ W1 j k G) ?_ m1 ⟨0, H11, I11.weak (wipe_length _ _) (fun j v z => (wipe_some z).1), st11, fun b hb => (f11 b hb).1, w1⟩
          rintro k t12 ⟨j, H12, I12, st12, n12, w12⟩
          rcases turn1 j k H12 w12 with ⟨stop1, nx1⟩ | ⟨go1, Nx1, hNx1, step1⟩
          · refine thnF (T1.done (X.blk t3 H3 scope ce fp) rfl rfl rfl hc j _ t12 (wipe σ8 vs1) H12 (fun _ _ => False) I12 (still1 n12) st12 stop1) fun r t13 ⟨hr, I13⟩ => ?_
            subst hr
            exact fin I13 (l8.trans (wipe_length σ8 vs1).symm) k9 nx1
          · refine thnF (T1.item (X.blk t3 H3 scope ce fp) rfl rfl rfl hc j _ t12 (wipe σ8 vs1) H12 (fun _ _ => False) I12 (still1 n12) st12 go1) fun r t13 ⟨u1, hr, k13⟩ => ?_
            subst hr
            refine thnF k13 fun _ t14 ⟨x1, H14, I14, r14, y14, st14, n14⟩ => ?_
            have J14 := I14.pinned (still1 n14) (T1.obj _ _ st14)
            refine thnF (qg1.run _ t14 (wipe σ8 vs1) H14 x1 u1 _ J14 r14 (step1 x1 H14 y14)) fun _ t15 ⟨σ15, H15, I15, w15, q15⟩ => thnF (qt1.run _ t15 σ15 H15 _ I15 q15) fun b1 t16 ⟨H16, I16, q16⟩ => ?_
            have fin1 : ∀ {t : Shared} {G : Hp}, Inv (X.blk t3 H3 scope ce fp) (([] ++ pinsAt fp t7.heap) ++ pinsAt fp1 t14.heap) σ15 G t → Nx1 G → ∃ m, m < k ∧ ∃ j G, Inv (X.blk t3 H3 scope ce fp) ([] ++ pinsAt fp t7.heap) (wipe σ8 vs1) G t ∧ tn1 j t.heap ∧ (∀ b ∈ fp1, G b = none) ∧ W1 j m G := fun {t G} J nx => by
              obtain ⟨m', hm, w'⟩ := hNx1 G nx
              have pin : ∀ b ∈ fp1, ∀ o, t14.heap.get? b = some o → t.heap.get? b = some o ∧ G b = none := fun b hb o z => let y := J.pin (b, o) (List.mem_append_right _ (List.mem_append_right _ (mem_pinsAt hb z))); ⟨y.1, y.2.1⟩
              exact ⟨m', hm, j + 1, G, J.unpinned.weak (by rw [← w15, wipe_length]) (fun j v z => by rw [← w15] at z; exact (wipe_some z).1), T1.keep _ _ _ st14 fun b hb o z => (pin b hb o z).1, fun b hb => let ⟨o, z, _⟩ := T1.obj _ _ st14 b hb; (pin b hb o z).2, w'⟩
            cases b1 with
            | false =>
              simp only [Bool.false_eq_true, if_false] at q16 ⊢
              exact fin1 I16 q16
            | true =>
              simp only [if_true] at q16 ⊢
              refine thnF (qe.run _ t16 σ15 H16 _ I16 q16) fun z t17 ⟨yv, H17, I17, r17, tp, nn, L, ey, ht17, hD17, hL17, few, nx⟩ => ?_
              subst ey
              cases (show z = Value.ref tp from r17)
              exact addT (X := X.blk t3 H3 scope ce fp) I17 hD17 hL17 ht17 hu few fun L' t18 c1 c2 I18 => fin1 I18 (nx L' c1 c2)
        exact start_in inner (T1.self X.A 0 _ _ _ st11 inner)
  exact PpSet.codeAny_compStart_set all (T.self X.A 0 _ _ _ st4 all)
end
end S2
/-! Vj: sorted(set of pairs of ints), whatever their signs; sorted(list of pairs). -/
namespace S2
open PySem PySem.Spec PyProof.Rows L2
abbrev Ps := List (Addr × List Int)
/-- the pair of an address -/
def keyOf (L : Ps) (v : Value) : Int × Int := match L.find? fun p => decide (Value.ref p.1 = v) with
  | some (_, [x, y]) => (x, y)
  | _ => (0, 0)
/-- not behind it: by the first number, then by the second -/
def pLe (k l : List Int) : Prop := ∀ x y x' y', k = [x, y] → l = [x', y'] → x < x' ∨ (x = x' ∧ y ≤ y')
section
variable {P : Program} {w : World} {A : Around} {E : Value → Shared → Prop} {s : Shared} {a : Addr} {L : Ps} {es : Array (Int × Value)} {ep : Nat} {t : SetTable}
theorem keyOf_at (one : ∀ q ∈ L, ∀ r ∈ L, q.1 = r.1 → q = r) {p : Addr × List Int} (hp : p ∈ L) {x y : Int} (e : p.2 = [x, y]) : keyOf L (.ref p.1) = (x, y) := by
  unfold keyOf
  cases h : L.find? fun q => decide (Value.ref q.1 = Value.ref p.1) with
  | none => exact absurd (List.find?_eq_none.mp h p hp) (by simp)
  | some q =>
    have hq := List.mem_of_find?_eq_some h
    have e1 : Value.ref q.1 = Value.ref p.1 := by simpa using List.find?_some h
    injection e1 with e1
    have e2 := one q hq p hp e1
    rw [e2]
    obtain ⟨p1, p2⟩ := p
    simp only at e
    rw [e]
theorem out_ps (one : ∀ q ∈ L, ∀ r ∈ L, q.1 = r.1 → q = r) (nL : L.Nodup) (h2 : ∀ p ∈ L, ∃ x y, p.2 = [x, y]) {vs out : List Value} (pm : vs.Perm (L.map fun q => Value.ref q.1)) (po : out.Perm vs) (hs : SrtO.Srtd (fun v u => SrtO.lexB (keyOf L v) (keyOf L u)) out) :
    ∃ M : Ps, out = M.map (fun q => Value.ref q.1) ∧ M.Perm L ∧ M.Pairwise fun q r => pLe q.2 r.2 := by
  have back : ∀ v ∈ vs, ∃ q ∈ L, Value.ref q.1 = v := fun v hv => List.mem_map.mp (pm.mem_iff.mp hv)
  have pref : ∀ us : List Value, (∀ v ∈ us, ∃ q ∈ L, Value.ref q.1 = v) → ∃ M : Ps, us = M.map (fun q => Value.ref q.1) ∧ ∀ q ∈ M, q ∈ L := by
    intro us
    induction us with
    | nil => intro _; exact ⟨[], rfl, fun _ z => nomatch z⟩
    | cons v us ih =>
      intro hv
      obtain ⟨q, hq, e⟩ := hv v List.mem_cons_self
      obtain ⟨M, e1, h1⟩ := ih fun u hu => hv u (List.mem_cons_of_mem _ hu)
      exact ⟨q :: M, by rw [List.map_cons, e, e1], fun r hr => (List.mem_cons.mp hr).elim (fun z => z ▸ hq) (h1 r)⟩
  obtain ⟨M, eM, hM⟩ := pref out fun v hv => back v (po.mem_iff.mp hv)
  have inj : ∀ q ∈ L, ∀ r ∈ L, Value.ref q.1 = Value.ref r.1 → q = r := fun q hq r hr e => by injection e with e; exact one q hq r hr e
  have pm2 : (M.map fun q => Value.ref q.1).Perm (L.map fun q => Value.ref q.1) := by rw [← eM]; exact po.trans pm
  have nref : (L.map fun q => Value.ref q.1).Nodup := List.pairwise_map.mpr (List.Pairwise.imp_of_mem (fun {q r} hq hr hne e => hne (inj q hq r hr e)) nL)
  refine ⟨M, eM, (List.perm_ext_iff_of_nodup (nodup_of_map (pm2.nodup_iff.mpr nref)) nL).mpr fun q => ⟨hM q, fun hq => ?_⟩, ?_⟩
  · obtain ⟨r, hr, e⟩ := List.mem_map.mp (pm2.mem_iff.mpr (List.mem_map.mpr ⟨q, hq, rfl⟩))
    rw [← inj r (hM r hr) q hq e]; exact hr
  · have hs' : SrtO.Srtd (fun v u => SrtO.lexB (keyOf L v) (keyOf L u)) (M.map fun q => Value.ref q.1) := by rw [← eM]; exact hs
    have hs2 := List.pairwise_map.mp hs'
    refine List.Pairwise.imp_of_mem (fun {q r} hq hr h x y x' y' e1 e2 => ?_) hs2
    have f1 := keyOf_at one (hM q hq) e1
    have f2 := keyOf_at one (hM r hr) e2
    have h' : SrtO.lexB (keyOf L (.ref r.1)) (keyOf L (.ref q.1)) = false := h
    rw [f1, f2] at h'
    have := SrtO.lexB_no.mp h'
    dsimp only at this
    omega
theorem sorted_set (R : SetTR P w s.heap a L es ep t) (hh : A.handled = none) {Q : Value → Shared → Prop} (h2 : ∀ p ∈ L, ∃ x y, p.2 = [x, y])
    (hQ : ∀ s' p (out : Array Value) (c : Nat) (L' : Ps), (∀ b o, s.heap.get? b = some o → s'.heap.get? b = some o) → s'.gens = s.gens → s'.os = s.os → s.heap.objs.size ≤ p → s'.heap.get? p = some (seqObj "list" out c) → out.toList = L'.map (fun q => Value.ref q.1) → L'.Perm L → L'.Pairwise (fun q r => pLe q.2 r.2) → Q (.ref p) s') :
    wpAny (model P w) A (call (.builtin "sorted") [.ref a]) Q E s := by
  obtain ⟨o, ho, hex, hd⟩ := R.ob
  have hsz := R.size
  have few := R.few
  have one : ∀ q ∈ L, ∀ r ∈ L, q.1 = r.1 → q = r := fun q hq r hr e => by
    have z1 := R.tup q hq
    rw [e] at z1
    exact Prod.ext e (z1.inj (R.tup r hr))
  refine Calls.call_function_entry kind_sorted plain_sorted entry_sorted (args_sorted1 _) ?_; unfold Builtin.«sorted»
  refine wpAny_bind (m := checkCount "sorted" 1 1 _) (wpAny_pure (wpAny_bind (collect_set (A := A.in1) hh ⟨o, ho, hex.1, hd⟩ R.fits (by unfold scanBound; omega) R.tab.ris R.led fun s1 vs k1 hz g1 o1 pm => ?_)))
  have ev : es.toList.map (·.2) = L.map fun q => Value.ref q.1 := by rw [R.rows]; unfold rowsOf; rw [List.map_map] <;> rfl
  rw [ev] at pm
  have lv : vs.length < 64 := by rw [pm.length_eq, List.length_map]; exact few
  have back : ∀ v ∈ vs, ∃ q ∈ L, Value.ref q.1 = v := fun v hv => List.mem_map.mp (pm.mem_iff.mp hv)
  refine wpAny_bind (wpAny_newList ?_ (by rw [sizeLine_eq]; omega))
  have hoL : (s1.heap.push (seqObj "list" vs.toArray 0)).get? s1.heap.objs.size = some (seqObj "list" vs.toArray 0) := Heap.get?_push_size _ rfl
  have pr : ∀ v ∈ vs, Srt.IsPair (s1.heap.push (seqObj "list" vs.toArray 0)) v (keyOf L v).1 (keyOf L v).2 := fun v hv => by
    obtain ⟨q, hq, rfl⟩ := back v hv
    obtain ⟨x, y, e⟩ := h2 q hq
    rw [keyOf_at one hq e]
    have z := isT_keep (R.tup q hq) fun b u z => Heap.get?_push_of_some (seqObj "list" vs.toArray 0) (k1 b u z)
    rw [e] at z
    obtain ⟨oq, items, n, hoq, hcq, hdq, hi⟩ := z
    obtain ⟨u, hu, ei⟩ : ∃ us, items.toList = us ∧ IntsAre us [x, y] := ⟨_, rfl, ints_of_items hi⟩
    match u, ei, hu with
    | [_, _], .cons _ t1 (.cons _ t2 .nil), hu =>
      refine ⟨_, oq, t1, t2, n, rfl, hoq, hcq, ?_⟩
      rw [hdq]
      congr 1
      rw [← Array.toArray_toList (xs := items), hu]
  have hso : 2 ≤ vs.length → SrtO.SortableO P w A.in1.in1 { s1 with heap := s1.heap.push (seqObj "list" vs.toArray 0) } s1.heap.objs.size vs fun v u => SrtO.lexB (keyOf L v) (keyOf L u) := fun h => SrtO.pairs_sortableO (by omega) pr fun o e => by
    have e' : some o = some (seqObj "list" vs.toArray 0) := e.symm.trans hoL
    cases e'
    exact fun c => absurd (Value.type.inj c) (by decide)
  refine wpAny_bind (wpAny_holding (wpAny_call_entry slot_list_sort ⟨_, hoL, rfl⟩ entry_list_sort (SrtO.list_sort_ord (s := { s1 with heap := s1.heap.push (seqObj "list" vs.toArray 0) }) (SrtO.swo_lex (keyOf L)) hoL (by rw [sizeLine_eq]; omega) hso fun out hs hb => ⟨_, rfl, ?_⟩) (args_list_sort _)))
  obtain ⟨c, hc⟩ := sortedHeap_at (vs := vs) (out := out.toArray) hoL
  obtain ⟨M, eM, pL, pw⟩ := out_ps one (nodup_of_map R.nd) h2 pm hb.perm hs
  refine wpAny_pure ⟨_, rfl, hQ _ s1.heap.objs.size out.toArray c M (fun b u e => ?_) g1 o1 hz hc (by rw [List.toList_toArray]; exact eM) pL pw⟩
  have q := k1 b u e
  have lt := Heap.lt_size q
  show (sortedHeap (s1.heap.push (seqObj "list" vs.toArray 0)) s1.heap.objs.size vs out.toArray).get? b = some u
  rw [sortedHeap_old (Nat.ne_of_lt lt) (by rw [size_push']; exact Nat.lt_succ_of_lt lt)]
  exact Heap.get?_push_of_some _ q
end
section
variable {X : Cx}
/-- sorted(set of pairs) -/
def rSortS (K : PySem.W.Frag) (P : Program) (w : World) : List V → Hp → VK → Prop := fun vs H Q => ∃ (a : Addr) (L : Ps), vs = [V.ref a] ∧ H a = some (SetTO P w a L) ∧ (∀ p ∈ L, SqT K H p.1 (p.2.map V.int)) ∧ (∀ p ∈ L, ∃ x y, p.2 = [x, y]) ∧
  ∀ (M : Ps) (p : Addr), M.Perm L → (M.map (·.2)).Nodup → M.Pairwise (fun q r => pLe q.2 r.2) → H p = none → Q (.ref p) (upd H p (.lst (M.map fun q => V.ref q.1)))
theorem cr_sortS (hc : X.calm = true) : CallR X (.builtin "sorted") (rSortS X.K X.prog X.w) := by
  intro pins s σ H vs us Q I r ⟨a, L, e, ha, hk, h2, q⟩
  subst e
  have R0 : SetT0 X.prog X.w s.heap a L := (I.hok a _ ha).1
  obtain ⟨es, ep, t, R⟩ := R0.full fun p hp => I.isT (hk p hp)
  rw [Vals.ref1 r]
  refine sorted_set R (I.ok.hd hc) h2 fun s' p out c M k g o hp hg ho pm pw => ?_
  have lM : (M.map fun q => V.ref q.1).length ≤ sizeLine := by have := R.few; rw [List.length_map, pm.length_eq, sizeLine_eq]; omega
  have hn : H p = none := I.hok.fresh hp
  obtain ⟨hp', g', d', t', os'⟩ := s'
  have J : Inv X pins σ (upd H p (.lst (M.map fun q => V.ref q.1))) ⟨hp', g', d', t', os'⟩ :=
    I.call' (ch := []) o (Un.laid k hp hn) (I.hok.laid k hp ⟨lM, out.toList, c, by rw [ho]; exact vals_of_refs M, hg⟩) (by show AllBare g'; rw [show g' = s.gens from g]; exact I.bare) (fun _ z => nomatch z)
  exact ⟨.ref p, _, J, rfl, q M p pm ((pm.map (·.2)).nodup_iff.mpr R.nd) pw hn⟩
theorem pair_at {pins : List (Addr × Obj)} {σ : L2.St} {H : Hp} {s : Shared} {b : Addr} {x y : Int} (I : Inv X pins σ H s) (h : SqT X.K H b [V.int x, V.int y]) : Srt.IsPair s.heap (.ref b) x y := by
  obtain ⟨its, rv, ⟨o, ho, hc, n, hd⟩, _⟩ := I.tuple h
  obtain ⟨u1, u2, e, r1, r2⟩ := vals2 rv
  subst e
  obtain ⟨t1, rfl⟩ := r1
  obtain ⟨t2, rfl⟩ := r2
  exact ⟨b, o, t1, t2, n, rfl, ho, hc, hd⟩
/-- sorted(list of different pairs) -/
def rSortL (K : PySem.W.Frag) : List V → Hp → VK → Prop := fun vs H Q => ∃ (a : Addr) (L : Ps), vs = [V.ref a] ∧ SqL K H a (L.map fun p => V.ref p.1) ∧ (∀ p ∈ L, SqT K H p.1 (p.2.map V.int)) ∧ (∀ p ∈ L, ∃ x y, p.2 = [x, y]) ∧ (L.map (·.2)).Nodup ∧
  ∀ (M : Ps) (p : Addr), M.Perm L → M.Pairwise (fun q r => pLe q.2 r.2) → H p = none → Q (.ref p) (upd H p (.lst (M.map fun q => V.ref q.1)))
theorem cr_sortL : CallR X (.builtin "sorted") (rSortL X.K) := by
  intro pins s σ H vs us Q I r ⟨a, L, e, ha, hk, h2, nd, q⟩
  subst e
  obtain ⟨its, rv, hl, hz⟩ := I.list ha
  rw [Vals.ref1 r]
  have ei : its = L.map fun p => Value.ref p.1 := refs_of_vals rv
  have one : ∀ q ∈ L, ∀ r ∈ L, q.1 = r.1 → q = r := fun q hq r hr e => by
    have z := I.tuple_inj (hk q hq) (by rw [e]; exact hk r hr)
    exact Prod.ext e ((List.map_inj_right fun _ _ h => V.int.inj h).mp z)
  have nL : L.Nodup := nodup_of_map nd
  refine SrtO.sorted_pairsO (k := keyOf L) hl.isList (by rw [← rv.length]; exact hz) (fun v hv => ?_) fun h' d out hs hb kp hd ⟨n, hn⟩ => ?_
  · rw [ei] at hv
    obtain ⟨p, hp, rfl⟩ := List.mem_map.mp hv
    obtain ⟨x, y, e⟩ := h2 p hp
    rw [keyOf_at one hp e]
    have z := hk p hp
    rw [e] at z
    exact pair_at I z
  · obtain ⟨M, eM, pL, pw⟩ := out_ps one nL h2 (List.Perm.of_eq ei) hb.perm hs
    refine ⟨.ref d, upd H d (.lst (M.map fun q => V.ref q.1)), I.laid (t' := s.toks) kp hd ⟨?_, out, n, by rw [eM]; exact vals_of_refs M, hn⟩, rfl, q M d pL pw (I.hok.fresh hd)⟩
    rw [List.length_map] at hz ⊢
    rw [pL.length_eq]; exact hz
end
end S2
/-! Vk: sorted({.. for i in .. for j in .. if ..}) and sorted([pairs]) by data. -/
namespace Dl
open PySem PySem.Spec PyProof.Rows L2 S2
/-- a heap of any size -/
theorem heap_of : ∀ n : Nat, ∃ h : Heap, h.objs.size = n
  | 0 => ⟨{}, rfl⟩
  | n + 1 => by
    obtain ⟨h, e⟩ := heap_of n
    exact ⟨h.push { cls := .none, data := .fields #[] }, by rw [Heap.size_push, e]⟩
theorem set_ne_code {P : Program} {w : World} {a : Addr} {L : Ps} {q : Str} : SetTO P w a L ≠ LamX.CodeO a q := by
  intro e
  obtain ⟨h, eh⟩ := heap_of a
  injection e with e
  have h1 : SetT0 P w (h.push { cls := .none, data := .fields #[.none, .str q 0] }) a L := by
    have z := congrFun e (h.push { cls := .none, data := .fields #[.none, .str q 0] })
    rw [z]
    exact ⟨_, _, 0, by rw [← eh]; exact Heap.get?_push_size _ rfl, rfl, rfl⟩
  obtain ⟨es, ep, t, ⟨o, ho, _, hd⟩, _⟩ := h1.ex
  rw [← eh, Heap.get?_push_size _ rfl] at ho
  cases ho
  cases hd
section
variable {K : PySem.W.Frag} {B : Bt} {G H G1 H1 : Hp} {P : Program} {w : World}
theorem writeS_ok (o : Ok B G H) {D : Addr} {L L' : Ps} (hp : H D = some (SetTO P w D L)) (g : G D = none) (nb : D ≠ B.a) : Ok B G (upd H D (SetTO P w D L')) := by
  refine ⟨fun a u e => ?_, o.b, ?_, fun q hq => ?_, o.f⟩
  · rw [upd_ne (ne_of_none e g)]; exact o.u a u e
  · obtain ⟨c, cells, p', r, m, n, e, g', k⟩ := o.x
    exact ⟨c, cells, p', r, m, n, by rw [upd_ne nb.symm]; exact e, g', k⟩
  · obtain ⟨ps, h1, h2, h3⟩ := o.t q hq
    refine ⟨ps, by rw [upd_ne (fun e => by rw [e, hp] at h1; cases h1)]; exact h1, h2, fun pos cv hc => ?_⟩
    obtain ⟨c, e1, e2⟩ := h3 pos cv hc
    exact ⟨c, e1, by rw [upd_ne (fun e => by rw [e, hp] at e2; exact set_ne_code (Option.some.inj e2))]; exact e2⟩
theorem writeS_go {D : Addr} {x : HO} (g : Go B G1 H1 G H) (hD : H1 D = none) (nb : D ≠ B.a) : Go B G1 H1 G (upd H D x) :=
  ⟨g.s, fun a o ne ht h => by rw [upd_ne (ne_of_none h hD)]; exact g.k a o ne ht h, g.n, fun c r h => by
    obtain ⟨r', h'⟩ := g.c c r h
    exact ⟨r', by rw [upd_ne nb.symm]; exact h'⟩⟩
theorem nt_set {D : Addr} {L : Ps} : nt (SetTO P w D L) := fun _ z => by unfold SetTO at z; cases z
/-- the tuples of a set, frozen -/
def FrzL (G : Hp) (L : Ps) : Prop := ∀ q ∈ L, ∃ (ob : Obj) (x y : Int), G q.1 = some (.frz ob (.tup [V.int x, V.int y])) ∧ ob.dict = none ∧ q.2 = [x, y]
theorem FrzL.mono {L : Ps} (h : FrzL G L) (s : Same G G1) : FrzL G1 L := fun q hq => by
  obtain ⟨ob, x, y, e, r⟩ := h q hq
  exact ⟨ob, x, y, s _ _ e, r⟩
theorem FrzL.sq {L : Ps} (h : FrzL G L) (o : Ok B G H) : ∀ q ∈ L, SqT K H q.1 (q.2.map V.int) := fun q hq => by
  obtain ⟨ob, x, y, e, _, e2⟩ := h q hq
  rw [e2]
  exact SqT.ofZ (o.u _ _ e)
def prOf : List Int → Pr2
  | [x, y] => (x, y)
  | _ => (0, 0)
theorem FrzL.dds : ∀ {L : Ps}, FrzL G L → Dds K B G (L.map fun q => V.ref q.1) ((L.map fun q => prOf q.2).map pairD)
  | [], _ => .nil
  | q :: L, h => by
    obtain ⟨ob, x, y, e, d, e2⟩ := h q List.mem_cons_self
    have hp : pairD (prOf q.2) = .tup [.int x, .int y] := by rw [e2]; rfl
    rw [List.map_cons, List.map_cons, List.map_cons, hp]
    exact .cons (.tup ⟨e, d⟩ (.cons (.int x) (.cons (.int y) .nil))) (FrzL.dds fun r hr => h r (List.mem_cons_of_mem _ hr))
def pLt (p q : Pr2) : Prop := p.1 < q.1 ∨ (p.1 = q.1 ∧ p.2 < q.2)
theorem FrzL.asc {L : Ps} (h : FrzL G L) (nd : (L.map (·.2)).Nodup) (pw : L.Pairwise fun q r => pLe q.2 r.2) : (L.map fun q => prOf q.2).Pairwise pLt := by
  refine List.pairwise_map.mpr ?_
  refine List.Pairwise.imp_of_mem (fun {q r} hq hr hh => ?_) (List.Pairwise.and pw (List.pairwise_map.mp nd))
  obtain ⟨h1, h2⟩ := hh
  obtain ⟨_, x, y, _, _, e1⟩ := h q hq
  obtain ⟨_, x', y', _, _, e2⟩ := h r hr
  have := h1 x y x' y' e1 e2
  rw [e1, e2]
  show x < x' ∨ (x = x' ∧ y < y')
  rcases this with z | ⟨z1, z2⟩
  · exact .inl z
  · refine .inr ⟨z1, ?_⟩
    rcases Int.lt_or_eq_of_le z2 with z | z
    · exact z
    · exact absurd (by rw [e1, e2, z1, z]) h2
theorem FrzL.mem {L : Ps} (h : FrzL G L) {r : Pr2} : r ∈ (L.map fun q => prOf q.2) ↔ [r.1, r.2] ∈ L.map (·.2) := by
  constructor
  · intro hr
    obtain ⟨q, hq, e⟩ := List.mem_map.mp hr
    obtain ⟨_, x, y, _, _, e2⟩ := h q hq
    rw [e2] at e
    refine List.mem_map.mpr ⟨q, hq, ?_⟩
    rw [e2, ← e]
    rfl
  · intro hr
    obtain ⟨q, hq, e⟩ := List.mem_map.mp hr
    refine List.mem_map.mpr ⟨q, hq, ?_⟩
    show prOf q.2 = r
    rw [show q.2 = [r.1, r.2] from e]
    rfl
end
section
variable {K : PySem.W.Frag} {B : Bt} {P : D → Prop} {δ : List Sd} {X : Xc} {Pg : Program} {w : World}
/-- what the loop's set has: the pairs of a list of cases -/
structure SetI (K : PySem.W.Frag) (B : Bt) (Pg : Program) (w : World) (D : Addr) (G1 H1 : Hp) (S : Pr2 → Prop) (n : Nat) (G H : Hp) (L : Ps) : Prop where
  go : Go B G1 H1 G H
  gn : G D = none
  ok : Ok B G H
  st : H D = some (SetTO Pg w D L)
  frz : FrzL G L
  mem : ∀ r : Pr2, [r.1, r.2] ∈ L.map (·.2) ↔ S r
  len : L.length ≤ n
/-- the run of it: what is handed on is a new list, ever so loose -/
theorem s2_core {wi wi1 : TI} {i j : Nat} (hij : i ≠ j) {tt1 : TT} {te : TE} {its its1 : List D} {f : D → D → Option Pr2} (hlen : its.length * its1.length < 63)
    (h : WIx K B X wi δ fun xs => xs = its) (hin : ∀ d1 ∈ its, WI K B wi1 ((δ.set i (.val d1)).set j .no) fun ys => ys = its1)
    (ht : ∀ d1 ∈ its, ∀ d2 ∈ its1, WT K B tt1 ((δ.set i (.val d1)).set j (.val d2)) fun b => if b = true then WE K B te ((δ.set i (.val d1)).set j (.val d2)) fun y => ∃ p, y = pairD p ∧ f d1 d2 = some p else f d1 d2 = none)
    {G0 H0 G H : Hp} {σ : L2.St} {Q : VK} (s : Stt K B G0 H0 G H σ δ) (xx : CtX K B X σ δ G H)
    (q : ∀ (p : Addr) (G2 H2 : Hp) (vs : List V) (rs : List Pr2), Go B G H G2 H2 → Ok B G2 H2 → H2 p = none → Dds K B G2 vs (rs.map pairD) → rs.Pairwise pLt → (∀ r, r ∈ rs ↔ ∃ d1 ∈ its, ∃ d2 ∈ its1, f d1 d2 = some r) → Q (.ref p) (upd H2 p (.lst vs))) :
    tCB (rSortS K Pg w) (tCons (tS2 K Pg w wi (gName i) tYes wi1 (gName j) tt1 te [i, j] [j]) tNil) σ H Q :=
  h G0 H0 σ G H _ s xx fun J xs G1 H1 g1 o1 it e => by
    subst e
    intro D hD
    have s1 := s.on g1 o1
    have nb := o1.neB hD
    have gD1 : G1 D = none := o1.fresh hD
    refine ⟨fun k m H => m = xs.length - k ∧ k ≤ xs.length ∧ ∃ G L, SetI K B Pg w D G1 H1 (fun r => ∃ d1 ∈ xs.take k, ∃ d2 ∈ its1, f d1 d2 = some r) (k * its1.length) G H L,
      ⟨_, rfl, Nat.zero_le _, G1, [], loose_go o1 hD, gD1, loose_ok o1 hD, upd_same, (fun _ z => nomatch z), (fun r => ⟨fun z => (nomatch z), fun ⟨_, z, _⟩ => nomatch z⟩), Nat.zero_le _⟩, ?_⟩
    rintro k m H2 ⟨rfl, hk, G2, L, I2⟩
    obtain ⟨f1, f2, f3⟩ := it G2 H2 k I2.go.s I2.ok
    by_cases hlt : k < xs.length
    · refine .inr ⟨f1 hlt, fun H' => ∃ G L, SetI K B Pg w D G1 H1 (fun r => ∃ d1 ∈ xs.take (k + 1), ∃ d2 ∈ its1, f d1 d2 = some r) ((k + 1) * its1.length) G H' L, fun H' hN => ⟨xs.length - (k + 1), by omega, rfl, hlt, hN⟩, fun x H3 y => ?_⟩
      obtain ⟨d1, G3, e1, g3, o3, hd1⟩ := f2 x H3 hlt y
      have hd1m : d1 ∈ xs := List.mem_of_getElem? e1
      have go3 : Go B G1 H1 G3 H3 := I2.go.trans I2.ok g3
      have st3 : Stt K B G0 H0 G3 H3 ((wipe σ [i, j]).set i (some x)) ((δ.set i (.val d1)).set j .no) := by
        have z := (((s1.on go3 o3).wipe1 j).wipe1 i).setVal i hd1
        have ez : ((δ.set j Sd.no).set i Sd.no).set i (.val d1) = (δ.set i (.val d1)).set j .no := by rw [List.set_set, List.set_comm (l := δ) _ _ (Ne.symm hij)]
        rw [ez] at z
        exact z
      refine ⟨?_, ?_⟩
      · show ((((σ.set j none).set i none).set i (some x)).set j none).set i none = (σ.set j none).set i none
        apply List.ext_getElem?
        intro n
        simp only [List.getElem?_set, List.length_set]
        by_cases h1 : i = n <;> by_cases h2 : j = n <;> simp [h1, h2]
      dsimp only [tYes]
      rw [if_pos rfl]
      refine hin d1 hd1m G0 H0 _ G3 H3 _ st3 ctx0 fun J1 ys G4 H4 g4 o4 it1 ey => ?_
      subst ey
      have hV4 := g4.k D _ nb nt_set (g3.k D _ nb nt_set I2.st)
      have gn4 : G4 D = none := g4.n D _ nt_set (g3.k D _ nb nt_set I2.st) (g3.n D _ nt_set I2.st I2.gn)
      have go4 : Go B G1 H1 G4 H4 := go3.trans o3 g4
      refine ⟨fun l m H => m = ys.length - l ∧ l ≤ ys.length ∧ ∃ G L, Same G4 G ∧ SetI K B Pg w D G1 H1 (fun r => (∃ d1 ∈ xs.take k, ∃ d2 ∈ ys, f d1 d2 = some r) ∨ ∃ d2 ∈ ys.take l, f d1 d2 = some r) (k * ys.length + l) G H L,
        ⟨_, rfl, Nat.zero_le _, G4, L, Same.refl _, go4, gn4, o4, hV4, I2.frz.mono (g3.s.trans g4.s), (fun r => (I2.mem r).trans ⟨.inl, fun z => z.elim id fun ⟨_, z, _⟩ => nomatch z⟩), I2.len⟩, ?_⟩
      rintro l m H5 ⟨rfl, hl, G5, L5, s45, I5⟩
      obtain ⟨f4, f5, f6⟩ := it1 G5 H5 l s45 I5.ok
      by_cases hlt1 : l < ys.length
      · refine .inr ⟨f4 hlt1, fun H' => ∃ G L, Same G4 G ∧ SetI K B Pg w D G1 H1 (fun r => (∃ d1 ∈ xs.take k, ∃ d2 ∈ ys, f d1 d2 = some r) ∨ ∃ d2 ∈ ys.take (l + 1), f d1 d2 = some r) (k * ys.length + (l + 1)) G H' L, fun H' hN => ⟨ys.length - (l + 1), by omega, rfl, hlt1, hN⟩, fun z H6 yz => ?_⟩
        obtain ⟨d2, G6, e2, g6, o6, hd2⟩ := f5 z H6 hlt1 yz
        have hd2m : d2 ∈ ys := List.mem_of_getElem? e2
        have go6 : Go B G1 H1 G6 H6 := I5.go.trans I5.ok g6
        have st6 : Stt K B G0 H0 G6 H6 ((wipe ((wipe σ [i, j]).set i (some x)) [j]).set j (some z)) ((δ.set i (.val d1)).set j (.val d2)) := by
          have hd1' := ((hd1.mono g4.s).mono s45).mono g6.s
          have z := (((((s1.on go6 o6).wipe1 j).wipe1 i).setVal i hd1').wipe1 j).setVal j hd2
          have ez : (((((δ.set j Sd.no).set i Sd.no).set i (.val d1)).set j Sd.no).set j (.val d2)) = (δ.set i (.val d1)).set j (.val d2) := by
            rw [List.set_set, List.set_set, List.set_comm (l := δ) _ _ (Ne.symm hij), List.set_set]
          rw [ez] at z
          exact z
        refine ⟨?_, ?_⟩
        · show (((((σ.set j none).set i none).set i (some x)).set j none).set j (some z)).set j none = ((((σ.set j none).set i none).set i (some x)).set j none)
          rw [List.set_set, List.set_set]
        have hat6 := g6.k D _ nb nt_set I5.st
        have gn6 : G6 D = none := g6.n D _ nt_set I5.st I5.gn
        have bound : k * ys.length + l < 63 := by
          have : (k + 1) * ys.length ≤ xs.length * ys.length := Nat.mul_le_mul_right _ hlt
          rw [Nat.succ_mul] at this
          omega
        refine ht d1 hd1m d2 hd2m G0 H0 _ G6 H6 _ st6 ctx0 fun b G7 H7 g7 o7 hb => ?_
        have tk : ys.take (l + 1) = ys.take l ++ [d2] := by rw [List.take_add_one, e2]; rfl
        have hat7 := g7.k D _ nb nt_set hat6
        have gn7 : G7 D = none := g7.n D _ nt_set hat6 gn6
        have go7 : Go B G1 H1 G7 H7 := go6.trans o6 g7
        have s47 : Same G4 G7 := (s45.trans g6.s).trans g7.s
        cases b with
        | false =>
          have hb : f d1 d2 = none := hb
          rw [if_neg Bool.false_ne_true]
          refine ⟨G7, L5, s47, go7, gn7, o7, hat7, I5.frz.mono (g6.s.trans g7.s), fun r => (I5.mem r).trans ⟨fun z => z.imp id fun ⟨d, hd, e⟩ => ⟨d, by rw [tk]; exact List.mem_append_left _ hd, e⟩, fun z => z.imp id fun ⟨d, hd, e⟩ => ?_⟩, by have := I5.len; omega⟩
          rw [tk] at hd
          rcases List.mem_append.mp hd with hd | hd
          · exact ⟨d, hd, e⟩
          · rw [List.mem_singleton.mp hd, hb] at e; cases e
        | true =>
          have hb : WE K B te ((δ.set i (.val d1)).set j (.val d2)) fun y => ∃ p, y = pairD p ∧ f d1 d2 = some p := hb
          rw [if_pos rfl]
          refine hb G0 H0 _ G7 H7 _ (st6.on g7 o7) ctx0 fun y e G8 H8 g8 o8 hy ⟨p, ep, ef⟩ => ?_
          subst ep
          have hat8 := g8.k D _ nb nt_set hat7
          have gn8 : G8 D = none := g8.n D _ nt_set hat7 gn7
          have go8 : Go B G1 H1 G8 H8 := go7.trans o7 g8
          have fz8 : FrzL G8 L5 := I5.frz.mono ((g6.s.trans g7.s).trans g8.s)
          unfold pairD at hy
          cases hy with
          | tup ha tt =>
            cases tt with
            | cons t1 tt =>
              cases tt with
              | cons t2 tt =>
                cases tt
                cases t1
                cases t2
                rename_i ta ob
                refine ⟨ta, [p.1, p.2], L5, rfl, SqT.ofZ (o8.u _ _ ha.1), hat8, fz8.sq o8, by have := I5.len; omega, fun L' c1 c2 => ?_⟩
                have mem_iff : ∀ r : Pr2, [r.1, r.2] ∈ L'.map (·.2) ↔ ([r.1, r.2] = [p.1, p.2] ∨ [r.1, r.2] ∈ L5.map (·.2)) := fun r => by
                  by_cases hm : [p.1, p.2] ∈ L5.map (·.2)
                  · rw [c1 hm]
                    exact ⟨.inr, fun z => z.elim (fun e => by rw [e]; exact hm) id⟩
                  · rw [((c2 hm).map (·.2)).mem_iff, List.map_cons, List.mem_cons]
                have frz' : FrzL G8 L' := by
                  by_cases hm : [p.1, p.2] ∈ L5.map (·.2)
                  · rw [c1 hm]; exact fz8
                  · intro q hq
                    rcases List.mem_cons.mp ((c2 hm).mem_iff.mp hq) with z | z
                    · rw [z]; exact ⟨ob, p.1, p.2, ha.1, ha.2, rfl⟩
                    · exact fz8 q z
                have len' : L'.length ≤ k * ys.length + (l + 1) := by
                  have := I5.len
                  by_cases hm : [p.1, p.2] ∈ L5.map (·.2)
                  · rw [c1 hm]; omega
                  · rw [(c2 hm).length_eq, List.length_cons]; omega
                refine ⟨G8, L', s47.trans g8.s, writeS_go go8 hD nb, gn8, writeS_ok o8 hat8 gn8 nb, upd_same, frz', fun r => (mem_iff r).trans ?_, len'⟩
                have hp : [r.1, r.2] = [p.1, p.2] ↔ r = p := ⟨fun z => by
                  injection z with z1 z2
                  injection z2 with z2 _
                  exact Prod.ext z1 z2, fun z => by rw [z]⟩
                rw [hp, I5.mem r]
                constructor
                · rintro (z | z | ⟨d, hd, e⟩)
                  · exact .inr ⟨d2, by rw [tk]; exact List.mem_append_right _ (List.mem_singleton.mpr rfl), by rw [z]; exact ef⟩
                  · exact .inl z
                  · exact .inr ⟨d, by rw [tk]; exact List.mem_append_left _ hd, e⟩
                · rintro (z | ⟨d, hd, e⟩)
                  · exact .inr (.inl z)
                  · rw [tk] at hd
                    rcases List.mem_append.mp hd with hd | hd
                    · exact .inr (.inr ⟨d, hd, e⟩)
                    · rw [List.mem_singleton.mp hd, ef] at e
                      exact .inl (Option.some.inj e).symm
      · have el : l = ys.length := by omega
        subst el
        refine .inl ⟨f6 rfl, G5, L5, I5.go, I5.gn, I5.ok, I5.st, I5.frz, fun r => (I5.mem r).trans ?_, by have := I5.len; rw [Nat.succ_mul]; exact this⟩
        have tk : xs.take (k + 1) = xs.take k ++ [d1] := by rw [List.take_add_one, e1]; rfl
        rw [List.take_length]
        constructor
        · rintro (⟨d, hd, z⟩ | z)
          · exact ⟨d, by rw [tk]; exact List.mem_append_left _ hd, z⟩
          · exact ⟨d1, by rw [tk]; exact List.mem_append_right _ (List.mem_singleton.mpr rfl), z⟩
        · rintro ⟨d, hd, z⟩
          rw [tk] at hd
          rcases List.mem_append.mp hd with hd | hd
          · exact .inl ⟨d, hd, z⟩
          · rw [List.mem_singleton.mp hd] at z; exact .inr z
    · have ek : k = xs.length := by omega
      subst ek
      refine .inl ⟨f3 rfl, ?_⟩
      refine ⟨D, L, rfl, I2.st, I2.frz.sq I2.ok, fun p hp => ?_, fun M p pm nd pw hp => ?_⟩
      · obtain ⟨_, x, y, _, _, e⟩ := I2.frz p hp
        exact ⟨x, y, e⟩
      · have fM : FrzL G2 M := fun r hr => I2.frz r (pm.mem_iff.mp hr)
        refine q p G2 H2 _ _ (g1.trans o1 I2.go) I2.ok hp (fM.dds (B := B) (K := K)) (fM.asc nd pw) fun r => ?_
        rw [fM.mem, (pm.map (·.2)).mem_iff, I2.mem r, List.take_length]
theorem we_sortS2 {wi wi1 : TI} {i j : Nat} (hij : i ≠ j) {tt1 : TT} {te : TE} {its its1 : List D} {f : D → D → Option Pr2} (hlen : its.length * its1.length < 63)
    (h : WIx K B X wi δ fun xs => xs = its) (hin : ∀ d1 ∈ its, WI K B wi1 ((δ.set i (.val d1)).set j .no) fun ys => ys = its1)
    (ht : ∀ d1 ∈ its, ∀ d2 ∈ its1, WT K B tt1 ((δ.set i (.val d1)).set j (.val d2)) fun b => if b = true then WE K B te ((δ.set i (.val d1)).set j (.val d2)) fun y => ∃ p, y = pairD p ∧ f d1 d2 = some p else f d1 d2 = none)
    (fin : ∀ rs : List Pr2, rs.Pairwise pLt → (∀ r, r ∈ rs ↔ ∃ d1 ∈ its, ∃ d2 ∈ its1, f d1 d2 = some r) → P (.lst (rs.map pairD))) :
    WEx K B X (tCB (rSortS K Pg w) (tCons (tS2 K Pg w wi (gName i) tYes wi1 (gName j) tt1 te [i, j] [j]) tNil)) δ P := fun G0 H0 σ G H Q s xx q =>
  s2_core hij hlen h hin ht s xx fun p G2 H2 vs rs g o hp hd pw m => q (.ref p) _ (upd G2 p (.lst vs)) _ (g.trans o (new_go o hp)) (new_ok o nt_lst hp) (.lst upd_same (hd.mono (same_upd (o.fresh hp)))) (fin rs pw m)
/-- return sorted({..}): a new list of the caller's own -/
theorem ws_retS2 {O : Out} {wi wi1 : TI} {i j : Nat} (hij : i ≠ j) {tt1 : TT} {te : TE} {its its1 : List D} {f : D → D → Option Pr2} (hlen : its.length * its1.length < 63)
    (h : WIx K B O.x wi δ fun xs => xs = its) (hin : ∀ d1 ∈ its, WI K B wi1 ((δ.set i (.val d1)).set j .no) fun ys => ys = its1)
    (ht : ∀ d1 ∈ its, ∀ d2 ∈ its1, WT K B tt1 ((δ.set i (.val d1)).set j (.val d2)) fun b => if b = true then WE K B te ((δ.set i (.val d1)).set j (.val d2)) fun y => ∃ p, y = pairD p ∧ f d1 d2 = some p else f d1 d2 = none)
    (fin : ∀ rs : List Pr2, rs.Pairwise pLt → (∀ r, r ∈ rs ↔ ∃ d1 ∈ its, ∃ d2 ∈ its1, f d1 d2 = some r) → O.ro (rs.map pairD)) :
    WS K B (tRet (tCB (rSortS K Pg w) (tCons (tS2 K Pg w wi (gName i) tYes wi1 (gName j) tt1 te [i, j] [j]) tNil))) δ O := fun G0 H0 σ G H E s xx _ r _ _ =>
  s2_core hij hlen h hin ht s (xx.ct s) fun p G2 H2 vs rs g o hp hd pw m => by
    have s1 := s.on g o
    have h0 : ∀ u, nt u → H0 p ≠ some u := fun u ht q => by
      by_cases e : p = B.a
      · exact absurd hp (e ▸ o.hb)
      · rw [s1.go.k p u e ht q] at hp; cases hp
    have s2 := s1.on (loose_go o (x := .lst vs) hp) (loose_ok o hp)
    exact r.2 p vs _ G2 _ s2.go s2.ok (o.neB hp) h0 (o.fresh hp) upd_same hd (fin rs pw m)
end
end Dl
namespace Dl
open PySem PySem.Spec PyProof.Rows L2 S2
section
variable {K : PySem.W.Frag} {B : Bt} {Q : D → Prop}
theorem frzL_of {G : Hp} : ∀ {vs : List V} {ps : List Pr2}, Dds K B G vs (ps.map pairD) → ∃ L : Ps, L.map (fun q => V.ref q.1) = vs ∧ L.map (·.2) = ps.map (fun p => [p.1, p.2]) ∧ FrzL G L
  | _, [], .nil => ⟨[], rfl, rfl, fun _ z => nomatch z⟩
  | _, p :: ps, .cons h t => by
    obtain ⟨L, e1, e2, e3⟩ := frzL_of t
    unfold pairD at h
    cases h with
    | tup ha tt =>
      cases tt with
      | cons t1 tt =>
        cases tt with
        | cons t2 tt =>
          cases tt
          cases t1
          cases t2
          rename_i ta ob
          refine ⟨(ta, [p.1, p.2]) :: L, by rw [List.map_cons, e1], by rw [List.map_cons, e2, List.map_cons], fun q hq => ?_⟩
          rcases List.mem_cons.mp hq with z | z
          · rw [z]; exact ⟨ob, p.1, p.2, ha.1, ha.2, rfl⟩
          · exact e3 q z
theorem list2_inj {p q : Pr2} (h : ([p.1, p.2] : List Int) = [q.1, q.2]) : p = q := by
  injection h with h1 h2
  injection h2 with h2 _
  exact Prod.ext h1 h2
/-- sorted([pairs]), all different -/
theorem rc_sortP {ps : List Pr2} (nd : ps.Nodup) (h : ∀ rs : List Pr2, rs.Perm ps → rs.Pairwise pLt → Q (.lst (rs.map pairD))) : RC K B (rSortL K) [.lst (ps.map pairD)] Q := fun G H vs R o hs q => by
  cases hs with
  | cons h1 t1 =>
    cases t1
    cases h1 with
    | lst hg t =>
      obtain ⟨L, e1, e2, e3⟩ := frzL_of t
      have nd2 : (L.map (·.2)).Nodup := by
        rw [e2]
        exact List.pairwise_map.mpr (nd.imp fun hne e => hne (list2_inj e))
      refine ⟨_, L, rfl, by rw [e1]; exact SqL.of (o.u _ _ hg), e3.sq o, fun p hp => ?_, nd2, fun M p pm pw hp => ?_⟩
      · obtain ⟨_, x, y, _, _, e⟩ := e3 p hp
        exact ⟨x, y, e⟩
      · have fM : FrzL G M := fun r hr => e3 r (pm.mem_iff.mp hr)
        have ndM : (M.map (·.2)).Nodup := (pm.map (·.2)).nodup_iff.mpr nd2
        refine q.new o nt_lst hp (.lst upd_same ((fM.dds (B := B) (K := K)).mono (same_upd (o.fresh hp)))) (h _ ?_ (fM.asc ndM pw))
        have eL : L.map (fun q => prOf q.2) = ps := by
          have z : (L.map (·.2)).map prOf = (ps.map fun p => [p.1, p.2]).map prOf := by rw [e2]
          rw [List.map_map, List.map_map] at z
          have z2 : ps.map (prOf ∘ fun p : Pr2 => [p.1, p.2]) = ps := by
            conv => rhs; rw [← List.map_id ps]
            rfl
          rw [z2] at z
          exact z
        have := pm.map fun q => prOf q.2
        rw [eL] at this
        exact this
end
end Dl
/-! Vl: for a, b in xs; max and min of whole numbers; pairs compared. -/
namespace Dl
open PySem PySem.Spec PyProof.Rows L2 S2
section
variable {K : PySem.W.Frag} {B : Bt} {δ : List Sd} {O : Out} {Q : D → Prop}
theorem ws_forP {wi : TI} {i j : Nat} {t : TS} (h : WIx K B O.x wi δ fun its => ∃ I : Nat → List Sd → Prop, I 0 δ ∧ (∀ k d δ1, its[k]? = some d → I k δ1 → ∃ d1 d2, d = .tup [d1, d2] ∧ WS K B t ((δ1.set i (.val d1)).set j (.val d2)) { nx := I (k + 1), rt := O.rt, bk := O.nx, ct := I (k + 1), x := O.x, ro := O.ro }) ∧ ∀ δ1, I its.length δ1 → O.nx δ1) : WS K B (tFor wi (gTup K 2 (gCons (gName i) (gCons (gName j) gNil))) t) δ O := fun G0 H0 σ G H E s xx n r b c =>
  h G0 H0 σ G H _ s (xx.ct s) fun J its G1 H1 g1 o1 it ⟨I, i0, turn, last⟩ => by
    refine ⟨fun k m σ H => m = its.length - k ∧ k ≤ its.length ∧ ∃ G δ1, Stt K B G0 H0 G H σ δ1 ∧ Same G1 G ∧ I k δ1, ⟨_, rfl, Nat.zero_le _, G1, δ, s.on g1 o1, Same.refl _, i0⟩, ?_⟩
    rintro k m σ2 H2 ⟨rfl, hk, G2, δ2, s2, sm, ik⟩
    obtain ⟨f1, f2, f3⟩ := it G2 H2 k sm s2.ok
    by_cases hlt : k < its.length
    · refine .inr ⟨f1 hlt, fun σ' H' => ∃ G δ1, Stt K B G0 H0 G H' σ' δ1 ∧ Same G1 G ∧ I (k + 1) δ1, fun σ' H' hN => ⟨its.length - (k + 1), by omega, rfl, hlt, hN⟩, fun x H' y => ?_⟩
      obtain ⟨d, G3, e1, g3, o3, hd⟩ := f2 x H' hlt y
      obtain ⟨d1, d2, ed, tn⟩ := turn k d δ2 e1 ik
      subst ed
      cases hd with
      | tup hg ht =>
      cases ht with
      | cons hd1 ht =>
      cases ht with
      | cons hd2 ht =>
      cases ht
      have s3 := ((s2.on g3 o3).setVal i hd1).setVal j hd2
      have sm3 := sm.trans g3.s
      refine ⟨_, _, rfl, SqT.ofZ (o3.u _ _ hg.1), rfl, _, _, rfl, _, _, rfl, rfl, ?_⟩
      refine tn G0 H0 _ G3 H' _ s3 (xx.on (g1.s.trans sm3)) (fun σ4 δ4 G4 H4 m4 s4 p4 => ⟨G4, δ4, s4, sm3.trans m4, p4⟩) r (fun σ4 δ4 G4 H4 m4 s4 p4 => n _ _ _ _ ((g1.s.trans sm3).trans m4) s4 p4) (fun σ4 δ4 G4 H4 m4 s4 p4 => ⟨G4, δ4, s4, sm3.trans m4, p4⟩)
    · have ek : k = its.length := by omega
      subst ek
      exact .inl ⟨f3 rfl, n _ _ _ _ (g1.s.trans sm) s2 (last δ2 ik)⟩
/-- max(xs), min(xs) -/
theorem rc_max {ns : List Int} (h0 : 0 < ns.length) (h : ∀ m, m ∈ ns → (∀ y ∈ ns, y ≤ m) → Q (.int m)) : RC K B (rMax K) [.lst (ns.map D.int)] Q := fun G H vs R o hs q => by
  cases hs with
  | cons h1 t1 =>
    cases t1
    cases h1 with
    | lst hg t => exact ⟨_, ns, rfl, by rw [← Dds.ints t]; exact SqL.of (o.u _ _ hg), h0, fun m hm hle => q.nil o (.int _) (h m hm hle)⟩
theorem rc_min {ns : List Int} (h0 : 0 < ns.length) (h : ∀ m, m ∈ ns → (∀ y ∈ ns, m ≤ y) → Q (.int m)) : RC K B (rMin K) [.lst (ns.map D.int)] Q := fun G H vs R o hs q => by
  cases hs with
  | cons h1 t1 =>
    cases t1
    cases h1 with
    | lst hg t => exact ⟨_, ns, rfl, by rw [← Dds.ints t]; exact SqL.of (o.u _ _ hg), h0, fun m hm hle => q.nil o (.int _) (h m hm hle)⟩
theorem sh_pairP (p : Pr2) : SeqAt.shaped (pairP p) = true := by
  unfold pairP SeqAt.shaped
  simp [PyData.canLay0, PyData.canLayAll0, PyData.depth, PyData.depthAll]
theorem sh_pairPs (ps : List Pr2) : SeqAt.shaped (.list (ps.map pairP)) = true := by
  unfold SeqAt.shaped
  rw [Bool.and_eq_true, decide_eq_true_eq]
  refine ⟨by rw [PyData.canLay0]; exact lay_pairPs ps, ?_⟩
  rw [PyData.depth]
  have := dep_pairPs ps
  omega
theorem dp_prs {G H : Hp} (o : Ok B G H) {ps : List Pr2} {x : V} (hx : Dd K B G x (.lst (ps.map pairD))) : Dp K H x (.list (ps.map pairP)) := by
  generalize e : D.lst (ps.map pairD) = d at hx
  cases hx with
  | lst hg t => cases e; exact .lst (SqL.of (o.u _ _ hg)) (dpa_pr o ps t)
  | _ => cases e
/-- p not in ps, of pairs -/
theorem ro_niP {p : Pr2} {ps : List Pr2} (h : Q (.bl (!decide (p ∈ ps)))) : RO K B (rNotInD K) (pairD p) (.lst (ps.map pairD)) Q := fun G H x y _ o hx hy q => by
  refine ⟨pairP p, ps.map pairP, dp_pr o hx, dp_prs o hy, sh_pairP p, sh_pairPs ps, ?_⟩
  have e : ((ps.map pairP).any fun z => PyData.eqv z (pairP p)) = decide (p ∈ ps) := by
    rw [Bool.eq_iff_iff, List.any_map, List.any_eq_true, decide_eq_true_eq]
    constructor
    · rintro ⟨z, hz, e⟩
      have e' : PyData.eqv (pairP z) (pairP p) = true := e
      rw [eqv_pairP] at e'
      rw [← of_decide_eq_true e']; exact hz
    · intro hz
      exact ⟨p, hz, by show PyData.eqv (pairP p) (pairP p) = true; rw [eqv_pairP]; exact decide_eq_true rfl⟩
  rw [e]
  exact q.nil o (.bl _) h
theorem ro_eqPr {p r : Pr2} (h : Q (.bl (decide (p = r)))) : RO K B (rEqD K) (pairD p) (pairD r) Q := fun G H x y _ o hx hy q => by
  refine ⟨pairP p, pairP r, dp_pr o hx, dp_pr o hy, sh_pairP _, sh_pairP _, ?_⟩
  rw [eqv_pairP]
  exact q.nil o (.bl _) h
theorem ro_nePr {p r : Pr2} (h : Q (.bl (!decide (p = r)))) : RO K B (rNeD K) (pairD p) (pairD r) Q := fun G H x y _ o hx hy q => by
  refine ⟨pairP p, pairP r, dp_pr o hx, dp_pr o hy, sh_pairP _, sh_pairP _, ?_⟩
  rw [eqv_pairP]
  exact q.nil o (.bl _) h
def unD : D → Pr2
  | .tup [.int x, .int y] => (x, y)
  | _ => (0, 0)
theorem unD_pair (p : Pr2) : unD (pairD p) = p := rfl
theorem mem_pairs {ps : List Pr2} {d : D} (h : d ∈ ps.map pairD) : ∃ p ∈ ps, d = pairD p := by
  obtain ⟨p, hp, e⟩ := List.mem_map.mp h
  exact ⟨p, hp, e.symm⟩
variable {X : Xc} {P : D → Prop}
theorem WIx.mono {wi : TI} {P P' : List D → Prop} (h : WIx K B X wi δ P) (m : ∀ its, P its → P' its) : WIx K B X wi δ P' := fun G0 H0 σ G H R s xx q => h G0 H0 σ G H R s xx fun J its G1 H1 g o it p => q J its G1 H1 g o it (m its p)
/-- [e for p in pairs] -/
theorem we_lcQ {wi : TI} {i : Nat} {te : TE} {ps : List Pr2} (f : Pr2 → D) (hl : ps.length ≤ 1000) (h : WIx K B X wi δ fun its => its = ps.map pairD) (hw : ∀ x ∈ ps, WE K B te (δ.set i (.val (pairD x))) fun y => y = f x) (hp : P (.lst (ps.map f))) : WEx K B X (tLc wi (gName i) tYes te [i]) δ P :=
  we_lcmap (fun d => f (unD d)) (h.mono fun its e => by
    subst e
    refine ⟨by rw [List.length_map]; exact hl, fun d hd => ?_, ?_⟩
    · obtain ⟨p, hm, rfl⟩ := mem_pairs hd
      exact hw p hm
    · rw [List.map_map]
      exact hp)
/-- [e for p, q in pairs of pairs] -/
theorem we_lcPQ {wi : TI} {i j : Nat} (hij : i ≠ j) {te : TE} {es : List (Pr2 × Pr2)} (f : Pr2 × Pr2 → D) (hl : es.length ≤ 1000) (h : WIx K B X wi δ fun its => its = es.map fun e => D.tup [pairD e.1, pairD e.2]) (hw : ∀ x ∈ es, WE K B te ((δ.set i (.val (pairD x.1))).set j (.val (pairD x.2))) fun y => y = f x) (hp : P (.lst (es.map f))) : WEx K B X (tLc wi (gTup K 2 (gCons (gName i) (gCons (gName j) gNil))) tYes te [i, j]) δ P :=
  we_lcP hij (h.mono fun its e => by
    subst e
    refine ⟨by rw [List.length_map]; exact hl, fun n acc => acc = (es.take n).map f, rfl, fun n d acc hd hacc => ?_, fun acc hacc => ?_⟩
    · rw [List.getElem?_map] at hd
      obtain ⟨x, hx, rfl⟩ : ∃ x, es[n]? = some x ∧ D.tup [pairD x.1, pairD x.2] = d := by
        cases e : es[n]? with
        | none => rw [e] at hd; cases hd
        | some q => rw [e] at hd; exact ⟨q, rfl, Option.some.inj hd⟩
      refine ⟨_, _, rfl, wt_yes ?_⟩
      rw [if_pos rfl]
      refine (hw x (List.mem_of_getElem? hx)).mono fun y ey => ?_
      show acc ++ [y] = (es.take (n + 1)).map f
      rw [show acc = (es.take n).map f from hacc, ey, List.take_add_one, hx, List.map_append]
      rfl
    · have hacc' : acc = (es.take (es.map fun e => D.tup [pairD e.1, pairD e.2]).length).map f := hacc
      rw [List.length_map, List.take_length] at hacc'
      rw [hacc']
      exact hp)
/-- sorted(xs), xs a list of the def's own -/
theorem we_ownSort {i : Nat} {ps : List Pr2} (h : δ[i]? = some (.own (ps.map pairD))) (nd : ps.Nodup) (p : ∀ rs : List Pr2, rs.Perm ps → rs.Pairwise pLt → P (.lst (rs.map pairD))) : WEx K B X (tCB (rSortL K) (tCons (tVar i) tNil)) δ P := fun G0 H0 σ G H Q s xx q => by
  obtain ⟨a, vs, e1, nb, _, _, e2, e3⟩ := s.own i _ h
  refine ⟨_, e1, ?_⟩
  obtain ⟨L, f1, f2, f3⟩ := frzL_of e3
  have nd2 : (L.map (·.2)).Nodup := by
    rw [f2]
    exact List.pairwise_map.mpr (nd.imp fun hne e => hne (list2_inj e))
  refine ⟨_, L, rfl, by rw [f1]; exact SqL.of e2, f3.sq s.ok, fun p hp => ?_, nd2, fun M p' pm pw hp => ?_⟩
  · obtain ⟨_, x, y, _, _, e⟩ := f3 p hp
    exact ⟨x, y, e⟩
  · have fM : FrzL G M := fun r hr => f3 r (pm.mem_iff.mp hr)
    have ndM : (M.map (·.2)).Nodup := (pm.map (·.2)).nodup_iff.mpr nd2
    refine q.new s.ok nt_lst hp (.lst upd_same ((fM.dds (B := B) (K := K)).mono (same_upd (s.ok.fresh hp)))) (p _ ?_ (fM.asc ndM pw))
    have eL : L.map (fun q => prOf q.2) = ps := by
      have z : (L.map (·.2)).map prOf = (ps.map fun p => [p.1, p.2]).map prOf := by rw [f2]
      rw [List.map_map, List.map_map] at z
      have z2 : ps.map (prOf ∘ fun p : Pr2 => [p.1, p.2]) = ps := by
        conv => rhs; rw [← List.map_id ps]
        rfl
      rw [z2] at z
      exact z
    have := pm.map fun q => prOf q.2
    rw [eL] at this
    exact this
end
end Dl
/-! Vm: [e for i in xs for j in ys] by a function; max and min of two. -/
namespace Dl
open PySem PySem.Spec PyProof.Rows L2
section
variable {K : PySem.W.Frag} {B : Bt} {P : D → Prop} {δ : List Sd} {X : Xc}
/-- what the loop's list holds -/
structure LcI (K : PySem.W.Frag) (B : Bt) (D0 : Addr) (G1 H1 : Hp) (acc : List D) (G H : Hp) (vs : List V) : Prop where
  go : Go B G1 H1 G H
  gn : G D0 = none
  ok : Ok B G H
  st : H D0 = some (.lst vs)
  dd : Dds K B G vs acc
theorem we_lc2 {wi wi1 : TI} {i j : Nat} (hij : i ≠ j) {te : TE} {its its1 : List D} (f : D → D → D) (hlen : its.length * its1.length ≤ 1000)
    (h : WIx K B X wi δ fun xs => xs = its) (hin : ∀ d1 ∈ its, WI K B wi1 ((δ.set i (.val d1)).set j .no) fun ys => ys = its1)
    (hw : ∀ d1 ∈ its, ∀ d2 ∈ its1, WE K B te ((δ.set i (.val d1)).set j (.val d2)) fun y => y = f d1 d2)
    (fin : P (.lst (its.flatMap fun d1 => its1.map (f d1)))) :
    WEx K B X (tLc2 wi (gName i) tYes wi1 (gName j) tYes te [i, j] [j]) δ P := fun G0 H0 σ G H Q s xx q =>
  h G0 H0 σ G H _ s xx fun J xs G1 H1 g1 o1 it e => by
    subst e
    intro A hA
    have s1 := s.on g1 o1
    have q1 := q.on g1 o1
    have nb := o1.neB hA
    have gA1 : G1 A = none := o1.fresh hA
    have nn : ∀ (a : Addr), H1 a ≠ none → a ≠ A := fun a h e => h (e ▸ hA)
    refine ⟨fun k m H => m = xs.length - k ∧ k ≤ xs.length ∧ ∃ G vs acc, LcI K B A G1 H1 acc G H vs ∧ acc = (xs.take k).flatMap (fun d1 => its1.map (f d1)) ∧ acc.length ≤ k * its1.length,
      ⟨_, rfl, Nat.zero_le _, G1, [], [], ⟨loose_go o1 hA, gA1, loose_ok o1 hA, upd_same, .nil⟩, rfl, Nat.zero_le _⟩, ?_⟩
    rintro k m H2 ⟨rfl, hk, G2, vs, acc, I2, hacc, hal⟩
    obtain ⟨f1, f2, f3⟩ := it G2 H2 k I2.go.s I2.ok
    by_cases hlt : k < xs.length
    · refine .inr ⟨f1 hlt, fun H' => ∃ G vs acc, LcI K B A G1 H1 acc G H' vs ∧ acc = (xs.take (k + 1)).flatMap (fun d1 => its1.map (f d1)) ∧ acc.length ≤ (k + 1) * its1.length, fun H' hN => ⟨xs.length - (k + 1), by omega, rfl, hlt, hN⟩, fun x H3 y => ?_⟩
      obtain ⟨d1, G3, e1, g3, o3, hd1⟩ := f2 x H3 hlt y
      have hd1m : d1 ∈ xs := List.mem_of_getElem? e1
      have go3 : Go B G1 H1 G3 H3 := I2.go.trans I2.ok g3
      have st3 : Stt K B G0 H0 G3 H3 ((wipe σ [i, j]).set i (some x)) ((δ.set i (.val d1)).set j .no) := by
        have z := (((s1.on go3 o3).wipe1 j).wipe1 i).setVal i hd1
        have ez : ((δ.set j Sd.no).set i Sd.no).set i (.val d1) = (δ.set i (.val d1)).set j .no := by rw [List.set_set, List.set_comm (l := δ) _ _ (Ne.symm hij)]
        rw [ez] at z
        exact z
      refine ⟨?_, ?_⟩
      · show ((((σ.set j none).set i none).set i (some x)).set j none).set i none = (σ.set j none).set i none
        apply List.ext_getElem?
        intro n
        simp only [List.getElem?_set, List.length_set]
        by_cases h1 : i = n <;> by_cases h2 : j = n <;> simp [h1, h2]
      dsimp only [tYes]
      rw [if_pos rfl]
      refine hin d1 hd1m G0 H0 _ G3 H3 _ st3 ctx0 fun J1 ys G4 H4 g4 o4 it1 ey => ?_
      subst ey
      have hV4 := g4.k A _ nb nt_lst (g3.k A _ nb nt_lst I2.st)
      have gn4 : G4 A = none := g4.n A _ nt_lst (g3.k A _ nb nt_lst I2.st) (g3.n A _ nt_lst I2.st I2.gn)
      have go4 : Go B G1 H1 G4 H4 := go3.trans o3 g4
      refine ⟨fun l m H => m = ys.length - l ∧ l ≤ ys.length ∧ ∃ G vs acc, Same G4 G ∧ LcI K B A G1 H1 acc G H vs ∧ acc = (xs.take k).flatMap (fun d1 => ys.map (f d1)) ++ (ys.take l).map (f d1) ∧ acc.length ≤ k * ys.length + l,
        ⟨_, rfl, Nat.zero_le _, G4, vs, acc, Same.refl _, ⟨go4, gn4, o4, hV4, (I2.dd.mono g3.s).mono g4.s⟩, by rw [hacc]; simp, hal⟩, ?_⟩
      rintro l m H5 ⟨rfl, hl, G5, vs5, acc5, s45, I5, ha5, hl5⟩
      obtain ⟨f4, f5, f6⟩ := it1 G5 H5 l s45 I5.ok
      by_cases hlt1 : l < ys.length
      · refine .inr ⟨f4 hlt1, fun H' => ∃ G vs acc, Same G4 G ∧ LcI K B A G1 H1 acc G H' vs ∧ acc = (xs.take k).flatMap (fun d1 => ys.map (f d1)) ++ (ys.take (l + 1)).map (f d1) ∧ acc.length ≤ k * ys.length + (l + 1), fun H' hN => ⟨ys.length - (l + 1), by omega, rfl, hlt1, hN⟩, fun z H6 yz => ?_⟩
        obtain ⟨d2, G6, e2, g6, o6, hd2⟩ := f5 z H6 hlt1 yz
        have hd2m : d2 ∈ ys := List.mem_of_getElem? e2
        have go6 : Go B G1 H1 G6 H6 := I5.go.trans I5.ok g6
        have st6 : Stt K B G0 H0 G6 H6 ((wipe ((wipe σ [i, j]).set i (some x)) [j]).set j (some z)) ((δ.set i (.val d1)).set j (.val d2)) := by
          have hd1' := ((hd1.mono g4.s).mono s45).mono g6.s
          have z := (((((s1.on go6 o6).wipe1 j).wipe1 i).setVal i hd1').wipe1 j).setVal j hd2
          have ez : (((((δ.set j Sd.no).set i Sd.no).set i (.val d1)).set j Sd.no).set j (.val d2)) = (δ.set i (.val d1)).set j (.val d2) := by
            rw [List.set_set, List.set_set, List.set_comm (l := δ) _ _ (Ne.symm hij), List.set_set]
          rw [ez] at z
          exact z
        refine ⟨?_, ?_⟩
        · show (((((σ.set j none).set i none).set i (some x)).set j none).set j (some z)).set j none = ((((σ.set j none).set i none).set i (some x)).set j none)
          rw [List.set_set, List.set_set]
        have hat6 := g6.k A _ nb nt_lst I5.st
        have gn6 : G6 A = none := g6.n A _ nt_lst I5.st I5.gn
        have bound : k * ys.length + l < 1000 := by
          have : (k + 1) * ys.length ≤ xs.length * ys.length := Nat.mul_le_mul_right _ hlt
          rw [Nat.succ_mul] at this
          omega
        dsimp only [tYes]
        rw [if_pos rfl]
        refine hw d1 hd1m d2 hd2m G0 H0 _ G6 H6 _ st6 ctx0 fun y e G7 H7 g7 o7 hy ey => ?_
        subst ey
        have hat7 := g7.k A _ nb nt_lst hat6
        have gn7 : G7 A = none := g7.n A _ nt_lst hat6 gn6
        have go7 : Go B G1 H1 G7 H7 := go6.trans o6 g7
        have hD7 : Dds K B G7 vs5 acc5 := (I5.dd.mono g6.s).mono g7.s
        refine ⟨vs5, hat7, Nat.lt_of_le_of_lt (by rw [hD7.length]; omega : vs5.length ≤ 1000) (by decide), G7, vs5 ++ [y], acc5 ++ [f d1 d2], (s45.trans g6.s).trans g7.s, ⟨?_, gn7, write_ok o7 hat7 gn7 nb, upd_same, hD7.append (.cons hy .nil)⟩, ?_, by rw [List.length_append, List.length_singleton]; omega⟩
        · refine ⟨go7.s, fun a o nb ht h => ?_, go7.n, fun c r h => ?_⟩
          · rw [upd_ne (nn a (by rw [h]; exact fun z => nomatch z))]; exact go7.k a o nb ht h
          · obtain ⟨r', h'⟩ := go7.c c r h
            exact ⟨r', by rw [upd_ne nb.symm]; exact h'⟩
        · rw [ha5, List.take_add_one, e2, List.map_append, List.append_assoc]
          rfl
      · have el : l = ys.length := by omega
        subst el
        refine .inl ⟨f6 rfl, G5, vs5, acc5, I5, ?_, by rw [Nat.succ_mul]; exact hl5⟩
        rw [ha5, List.take_length, List.take_add_one, e1, List.flatMap_append]
        show _ = _ ++ (ys.map (f d1) ++ [])
        rw [List.append_nil]
    · have ek : k = xs.length := by omega
      subst ek
      rw [List.take_length] at hacc
      subst hacc
      refine .inl ⟨f3 rfl, q1 (.ref A) (.lst _) (upd G2 A (.lst vs)) H2 ⟨I2.go.s.trans (same_upd I2.gn), I2.go.k, fun a o ht h g => ?_, I2.go.c⟩ (freeze_ok I2.ok nt_lst nb I2.gn I2.st) (.lst upd_same (I2.dd.mono (same_upd I2.gn))) fin⟩
      rw [upd_ne (nn a (by rw [h]; exact fun z => nomatch z))]
      exact I2.go.n a o ht h g
theorem rc_max2 {i j : Int} (p : P (.int (if j > i then j else i))) : RC K B (fun xs H Q => ∃ i j, xs = [.int i, .int j] ∧ Q (.int (if j > i then j else i)) H) [.int i, .int j] P := fun _ _ _ _ o hs q => by
  cases hs with
  | cons h1 t =>
    cases t with
    | cons h2 t =>
      cases t
      cases h1
      cases h2
      exact ⟨i, j, rfl, q.nil o (.int _) p⟩
theorem rc_min2 {i j : Int} (p : P (.int (if j < i then j else i))) : RC K B (fun xs H Q => ∃ i j, xs = [.int i, .int j] ∧ Q (.int (if j < i then j else i)) H) [.int i, .int j] P := fun _ _ _ _ o hs q => by
  cases hs with
  | cons h1 t =>
    cases t with
    | cons h2 t =>
      cases t
      cases h1
      cases h2
      exact ⟨i, j, rfl, q.nil o (.int _) p⟩
end
end Dl
/-! Wa: exceptions as values: C(..) by place and by name of an own class over any built-in one, its __init__ a def that stores. -/
namespace Dl
open PySem PySem.Spec PyProof.Rows L2
section
variable {prog : Program} {w : World} {A : Around} {E : Value → Shared → Prop} {R : Result → Shared → Prop} {h : Heap} {g : Array GenState} {d : Drawn} {t : Nat} {os : OsState}
variable {nm q : Str} {C N : Addr} {bs bm bmB : List Value} {hdct : Bool} {sn : List Str} {sub : List Value} {ab : Bool} {col : Option Bool} {dd : Option Addr} {k0 k1 k2 k3 k5 : Option Value} {B newId initId : String}
/-- a built-in base: what PyProof tells of it, and that its __new__ takes any arguments -/
structure XB (B newId initId : String) (bmB : List Value) : Prop where
  F : ExcBaseFacts B newId initId bmB
  row : ∀ (c : Value) (us : List Value) (kw : List (Str × Value)), Bind.checkArgs newId ⟨.any, B, B, .cls, [⟨"args", .varPos, false⟩, ⟨"kwargs", .varKw, false⟩]⟩ ⟨c :: us, kw⟩ = pure ()
  pass : ∀ self : Value, refuseLoop self "__setattr__" bmB = pure ()
  ob : bmB.contains (.type "object") = true
theorem xb_VE : XB "ValueError" "ValueError.__new__" "ValueError.__init__" [.type "ValueError", .type "Exception", .type "BaseException", .type "object"] := ⟨PySem.F.excBase_ValueError, fun _ _ _ => by kernel_rfl, PySem.F.store_ValueError.passes, by decide +kernel⟩
theorem xb_LE : XB "LookupError" "LookupError.__new__" "LookupError.__init__" [.type "LookupError", .type "Exception", .type "BaseException", .type "object"] := ⟨PySem.F.excBase_LookupError, fun _ _ _ => by kernel_rfl, PySem.F.store_LookupError.passes, by decide +kernel⟩
theorem xb_IE : XB "IndexError" "IndexError.__new__" "IndexError.__init__" [.type "IndexError", .type "LookupError", .type "Exception", .type "BaseException", .type "object"] := ⟨PySem.F.excBase_IndexError, fun _ _ _ => by kernel_rfl, PySem.F.store_IndexError.passes, by decide +kernel⟩
theorem kw_chk {Mo : Model} (X : XB B newId initId bmB) (hT : ∀ Y : String, bm.contains (.type Y) = bmB.contains (.type Y)) {us : List Value} {kw : List (Str × Value)} {Q : Unit → Shared → Prop} (hq : Q () ⟨h, g, d, t, os⟩)
    (oC : h.get? C = some (excClassObj nm q C N bs bm hdct sn sub ab col dd k0 k1 k2 k3 k5 newId)) : wpAny Mo A (checkBuiltinCall newId ⟨.ref C :: us, kw⟩) Q E ⟨h, g, d, t, os⟩ := by
  have F := X.F
  have yes : (Value.ref C :: bm).contains (.type B) = true := by rw [List.contains_cons, hT B, F.hasB, Bool.or_true]
  have F := X.F
  have ns := F.noStar
  simp only [checkBuiltinCall, F.newKind, F.newSplit, F.newRow, X.row]
  repeat (first | refine wpAny_loadPart_at oC ?_ | (refine wpAny_isSubtype_exc oC ?_; rw [yes]) | refine wpAny_staticBase_exc oC ?_ | refine wpAny_madeBy_exc oC ?_ | simp only [bne_self_eq_false, Bool.false_eq_true, if_false] | wp_step)
  exact hq
theorem kw_new (X : XB B newId initId bmB) (hT : ∀ Y : String, bm.contains (.type Y) = bmB.contains (.type Y)) {us : List Value} {kw : List (Str × Value)} (hz : us.length ≤ sizeLine)
    (oC : h.get? C = some (excClassObj nm q C N bs bm hdct sn sub ab col dd k0 k1 k2 k3 k5 newId))
    (hq : R (.ok (.ret (.ref (h.objs.size + 1)))) ⟨(h.push (PySem.W.kdv_tup us)).push (PySem.HandSPX.excO C h.objs.size), g, d, t, os⟩) : codeAny (model prog w) A (.builtin newId ⟨.ref C :: us, kw⟩) R ⟨h, g, d, t, os⟩ := by
  have F := X.F
  have fe := F.ends
  have yes : (Value.ref C :: bm).contains (.type B) = true := by rw [List.contains_cons, hT B, F.hasB, Bool.or_true]
  have noA : (Value.ref C :: bm).contains (.type "AttributeError") = false := by rw [List.contains_cons, hT _, F.noAttr]; rfl
  have noN : (Value.ref C :: bm).contains (.type "NameError") = false := by rw [List.contains_cons, hT _, F.noName]; rfl
  refine codeAny_builtinAt F.entry ?_
  unfold Builtin.«BaseException.__new__»
  refine PySem.wpAt_bind ?_
  show PySem.wpAt _ _ _ (stack >>= _) _ _ _
  refine PySem.wpAt_bind (PySem.wpAt_stack fun _ _ => PySem.wpAt_of_wpAny ?_)
  wp_walk
  refine PySem.wpAt_of_wpAny ?_
  rw [F.owner]
  repeat (first | with_reducible refine wpAny_madeHere_exc F.canon oC ?_ | with_reducible refine wpAny_loadPart_at oC ?_ | (with_reducible refine wpAny_isSubtype_exc oC ?_; first | rw [yes] | rw [noA] | rw [noN]) | wp_step)
  show R _ _
  rw [Heap.size_push]
  exact hq
theorem kw_type (X : XB B newId initId bmB) (hT : ∀ Y : String, bm.contains (.type Y) = bmB.contains (.type Y)) {us : List Value} {kw : List (Str × Value)} {fI : Addr} {Q : Fin → Shared → Prop} (hz : us.length ≤ sizeLine)
    (oC : h.get? C = some (excClassObj nm q C N bs bm hdct sn sub ab col dd k0 k1 k2 k3 k5 newId))
    (li : PySem.W.Looks (model prog w) h (typeLookup (.ref C) "__init__") (some (.ref fI))) (lb : ∀ self, PySem.W.Looks (model prog w) h (bindSpecial (.ref fI) self) (.ref fI, [self]))
    (hq : codeAny (model prog w) A (.call (.ref fI) ⟨.ref (h.objs.size + 1) :: us, kw⟩)
      (fun r s' => match r with | .ok (.ret v) => v = .none ∧ Q (.done (.ret (.ref (h.objs.size + 1)))) s' | .ok _ => False | .error e => E e s') ⟨(h.push (PySem.W.kdv_tup us)).push (PySem.HandSPX.excO C h.objs.size), g, d, t, os⟩) :
    wpAny (model prog w) A (Builtin.«type.__call__» ⟨.ref C :: us, kw⟩) Q E ⟨h, g, d, t, os⟩ := by
  repeat (first | with_reducible refine wpAny_loadPart_at oC ?_ | with_reducible refine wpAny_madeBy_exc oC ?_ | wp_step)
  refine codeAny_call_builtin_code (Code.quiet_builtin _ X.F.quiet) (kw_chk X hT ?_ oC)
  refine kw_new X hT hz oC ?_
  show wpAny _ _ _ _ _ _
  have kp : ∀ b o, h.get? b = some o → ((h.push (PySem.W.kdv_tup us)).push (PySem.HandSPX.excO C h.objs.size)).get? b = some o := fun _ _ e => Heap.get?_push_of_some _ (Heap.get?_push_of_some _ e)
  have oC1 := kp _ _ oC
  have oe : ((h.push (PySem.W.kdv_tup us)).push (PySem.HandSPX.excO C h.objs.size)).get? (h.objs.size + 1) = some (PySem.HandSPX.excO C h.objs.size) := by heap_get
  have own : (Value.ref C :: bm).contains (.ref C) = true := by simp
  have li1 := li.keeps kp
  have lb1 := (lb (.ref (h.objs.size + 1))).keeps kp
  unfold isInstance
  repeat (first | with_reducible refine wpAny_loadPart_at oe ?_ | (with_reducible refine wpAny_isSubtype_exc oC1 ?_; rw [own]) | wp_step)
  show wpAny _ _ (typeLookup (.ref C) _) _ _ _
  refine li1.at (wpAny_holding (wpAny_bind (lb1.at (wpAny_bind (wpAny_call (codeAny_mono hq fun r s' z => ?_))))))
  rcases r with e | (v | _ | _ | _) <;> first | exact z | exact z.elim | skip
  obtain ⟨rfl, z⟩ := z
  first
    | exact wpAny_pure (wpAny_pure z)
    | (wp_walk; exact z)
/-- C(us, kw): a bare exception, then its __init__ -/
theorem kw_call (X : XB B newId initId bmB) (hT : ∀ Y : String, bm.contains (.type Y) = bmB.contains (.type Y)) {us : List Value} {kw : List (Str × Value)} {fI : Addr} (hz : us.length ≤ sizeLine)
    (oC : h.get? C = some (excClassObj nm q C N bs bm hdct sn sub ab col dd k0 k1 k2 k3 k5 newId))
    (li : PySem.W.Looks (model prog w) h (typeLookup (.ref C) "__init__") (some (.ref fI))) (lb : ∀ self, PySem.W.Looks (model prog w) h (bindSpecial (.ref fI) self) (.ref fI, [self]))
    (hq : codeAny (model prog w) (A.under (.builtin "type.__call__" ⟨.ref C :: us, kw⟩)) (.call (.ref fI) ⟨.ref (h.objs.size + 1) :: us, kw⟩) (PySem.W.InitBack (h.objs.size + 1) R) ⟨(h.push (PySem.W.kdv_tup us)).push (PySem.HandSPX.excO C h.objs.size), g, d, t, os⟩) :
    codeAny (model prog w) A (.call (.ref C) ⟨us, kw⟩) R ⟨h, g, d, t, os⟩ := by
  have f1 := tc_lookup
  have f2 := tc_bind (.ref C)
  have f3 := tc_sub
  have ty : (⟨h, g, d, t, os⟩ : Shared).TypeIs (.ref C) "type" := ⟨_, oC, rfl⟩
  refine codeAny_of_tree ?_
  show wpAny _ _ (callAny (.ref C) _) _ _ _
  repeat (any_goals (first | assumption | with_reducible refine wpAny_loadPart_at oC ?_ | wp_step))
  refine ⟨rfl, ?_⟩
  have ii : PySem.W.Looks (model prog w) h (isInstance (.ref C) (.type "type")) true := fun A Q E s k q => by
    have oC' := k _ _ oC
    have ty' : s.TypeIs (.ref C) "type" := ⟨_, oC', rfl⟩
    unfold isInstance
    repeat (any_goals (first | assumption | with_reducible refine wpAny_loadPart_at oC' ?_ | wp_step))
  refine codeAny_call_builtin_at (Code.quiet_builtin _ (by decide +kernel)) entry_typeCall (PySem.W.check_slot tc_kind tc_split ii (PySem.W.tc_args _ _ _) (kw_type X hT hz oC li lb ?_))
  refine codeAny_mono hq fun r s' z => ?_
  rcases r with e | (v | _ | _ | _) <;> exact z
end
end Dl
/-! Wb: what is asked of such a class, in one test; its __init__'s stores. -/
namespace Dl
open PySem PySem.Spec PyProof.Rows L2
structure OG (K : PySem.W.Frag) (C : Addr) (fs : List Str) : Prop where
  b : ∃ (B newId initId : String) (bmB : List Value), XB B newId initId bmB ∧ ogB K C bmB newId = true
  p : ogP K C fs = true
section
variable {K : PySem.W.Frag} {C : Addr} {fs : List Str}
theorem OG.all (o : OG K C fs) : (PySem.W.findIn K (.ref C) "__setattr__" = some (some (.builtin "object.__setattr__")) ∧ PySem.W.subIn K (.ref C) (.type "BaseException") = some true ∧ PySem.W.typeIn K (.ref C) = some (.type "type") ∧ PySem.W.keepIn K (.ref C) = true) ∧
    (PySem.W.findIn K (.ref C) "__getattribute__" = some (some (.builtin "BaseException.__getattribute__")) ∧ PySem.W.findIn K (.ref C) "__getattr__" = some none ∧ PySem.W.hasDictIn K C = true) ∧ ∀ f ∈ fs, PySem.W.findIn K (.ref C) f = some none := by
  have h := o.p
  unfold ogP at h
  simp only [Bool.and_eq_true, beq_iff_eq, List.all_eq_true] at h
  obtain ⟨⟨⟨⟨⟨⟨⟨h1, h2⟩, h3⟩, h4⟩, h5⟩, h6⟩, h7⟩, h8⟩ := h
  exact ⟨⟨h1, h2, h3, h4⟩, ⟨h5, h6, h7⟩, h8⟩
theorem OG.xf (o : OG K C fs) : XfC K C := by
  obtain ⟨⟨_, h2, _, _⟩, ⟨h5, h6, h7⟩, _⟩ := o.all
  exact ⟨h5, h6, h2, h7⟩
theorem OG.n (o : OG K C fs) {f : Str} (h : f ∈ fs) : PySem.W.findIn K (.ref C) f = some none := o.all.2.2 f h
/-- its class record -/
theorem OG.cd (o : OG K C fs) : ∃ cd, PySem.W.clsIn K C = some cd ∧ cd.hasDict = true ∧ (∀ self, refuseLoop self "__setattr__" cd.mro = pure ()) ∧ cd.mro.contains (.type "object") = true ∧ cd.mro.isEmpty = false := by
  obtain ⟨B, newId, initId, bmB, X, h⟩ := o.b
  unfold ogB at h
  rw [Bool.and_eq_true] at h
  obtain ⟨_, h⟩ := h
  split at h
  · rename_i cd hc
    rw [Bool.and_eq_true] at h
    obtain ⟨hd, h⟩ := h
    refine ⟨cd, hc, hd, ?_⟩
    split at h
    · rename_i C' bm hm
      refine ⟨fun self => ?_, ?_, ?_⟩
      · rw [hm, refuseLoop_ref]
        exact PySem.W.excTail_pass self (X.pass self) bm h
      · rw [hm, List.contains_cons, PySem.W.excTail_contains _ bm h, X.ob, Bool.or_true]
      · rw [hm]; rfl
    · exact Bool.noConfusion h
  · exact Bool.noConfusion h
end
section
variable {prog : Program} {w : World} {A : Around} {R : Result → Shared → Prop} {hp : Heap} {g : Array GenState} {d : Drawn} {t : Nat} {os : OsState}
/-- object.__setattr__ on such an exception, up to the store into its dict -/
theorem osa_to {K : PySem.W.Frag} {f : Str} {tk : Tok} {v : Value} {x C : Addr} {o : Obj} {od : Option Obj} {fs : List Str} (kin : K.In hp) (O : OG K C fs) (hf : f ∈ fs) (J : PySem.W.InstAt hp x o C od) {Q : Fin → Shared → Prop} {E : Value → Shared → Prop}
    (hR : ∀ cd, PySem.W.clsIn K C = some cd → cd.hasDict = true → ∀ A, wpAny (model prog w) A (Builtin.ObjectAttr.storeInOwnDict (.ref x) (.ref C) (.str f tk) f v false) Q E ⟨hp, g, d, t, os⟩) (A' : Around) :
    wpAny (model prog w) A' (Builtin.«object.__setattr__» ⟨[.ref x, .str f tk, v], []⟩) Q E ⟨hp, g, d, t, os⟩ := by
  obtain ⟨cd, hcd, hh, hpass, hob, hne⟩ := O.cd
  have mr : PySem.W.Looks (model prog w) hp (mroOf (.ref C)) cd.mro := (PySem.W.looks_clsIn kin hcd).andThen .now
  have no : PySem.W.Looks (model prog w) hp (Builtin.ObjectAttr.storeTaker? none) none := .now
  rw [PySem.W.osa_eq, refuse_eq]
  refine wpAny_bind (wpAny_bind (J.type.at (wpAny_bind (mr.at ?_))))
  rw [hpass]
  refine wpAny_pure (wpAny_bind (J.type.at (wpAny_bind ((PySem.W.looks_findIn kin (O.n hf)).at (wpAny_bind (no.at ?_))))))
  exact hR cd hcd hh _
/-- the first field: it gets its dict -/
theorem osa_first {K : PySem.W.Frag} {f : Str} {tk : Tok} {v : Value} {x C : Addr} {fv : Array Value} {fs : List Str} (kin : K.In hp) (O : OG K C fs) (hf : f ∈ fs) (hx : hp.get? x = some { cls := .ref C, data := .fields fv })
    (hq : ∀ h' tk' dx, (∀ b o, b ≠ x → hp.get? b = some o → h'.get? b = some o) → hp.objs.size ≤ dx → dx ≠ x → h'.get? x = some { cls := .ref C, dict := some dx, data := .fields fv } →
      h'.Ns1 dx (fun y => if y = f then some v else none) → R (.ok (.ret .none)) ⟨h', g, d, tk', os⟩) :
    codeAny (model prog w) A (.call (.builtin "object.__setattr__") ⟨[.ref x, .str f tk, v], []⟩) R ⟨hp, g, d, t, os⟩ := by
  have J : PySem.W.InstAt hp x { cls := .ref C, data := .fields fv } C none := ⟨hx, rfl, rfl, trivial⟩
  have SF := F.store_object
  obtain ⟨cd0, hcd0, _, _, hob, hne⟩ := O.cd
  have isob : PySem.W.Looks (model prog w) hp (isInstance (.ref x) (.type "object")) true := J.type.andThen (PySem.W.looks_mroIn kin (by unfold PySem.W.mroIn; rw [hcd0, Option.bind_some, if_neg (by rw [hne]; decide), hob]))
  have xne : x ≠ hp.objs.size := Nat.ne_of_lt (Heap.lt_size hx)
  refine codeAny_call_builtin SF.slot.plain SF.entry (@PySem.W.check_slot (model prog w) _ _ ⟨hp, g, d, t, os⟩ "object.__setattr__" "object" "__setattr__" (.ref x) [.str f tk, v] [] _ SF.kind SF.split isob (SF.args (.ref x) (.str f tk) v) ?_)
  refine osa_to kin O hf J (fun cd hcd hh A => ?_) _
  have lc : PySem.W.Looks (model prog w) hp (classData C) cd := PySem.W.looks_clsIn kin hcd
  obtain ⟨nm, bs, mro, ns, qn, hd, sn, sb, ab, col, del⟩ := cd
  dsimp only at hh
  subst hh
  unfold Builtin.ObjectAttr.storeInOwnDict Builtin.ObjectAttr.ownDictForStores
  repeat (first | with_reducible refine PySem.HandSPX.store_in_new ?_ ?_ | with_reducible refine wpAny_loadPart_at hx ?_ | with_reducible refine lc.at ?_ | wp_step)
  · exact ⟨_, #[], _, (Heap.get?_update_ne _ _ _ _ xne.symm).trans (Heap.get?_push_at rfl rfl), rfl, fun e he => absurd he (by simp), fun _ => rfl⟩
  · intro h' tk' ns' sm
    have hx1 : (hp.push { cls := .type "dict", data := .dict #[] }).get? x = some { cls := .ref C, data := .fields fv } := Heap.get?_push_of_some _ hx
    exact hq h' tk' hp.objs.size (fun b o nb ho => (sm.2 b (Nat.ne_of_lt (Heap.lt_size ho))).trans ((Heap.get?_update_ne _ _ _ _ nb).trans (Heap.get?_push_of_some _ ho))) (Nat.le_refl _) xne.symm ((sm.2 x xne).trans (Heap.get?_update_self _ hx1 rfl)) ns'
/-- a further field -/
theorem osa_more {K : PySem.W.Frag} {f : Str} {tk : Tok} {v : Value} {x C dx : Addr} {fv : Array Value} {m0 : Str → Option Value} {nl : List Str} {fs : List Str} (kin : K.In hp) (O : OG K C fs) (hf : f ∈ fs) (hx : hp.get? x = some { cls := .ref C, dict := some dx, data := .fields fv })
    (hns : hp.Ns1 dx m0) (hw : Within m0 nl) (hz : nl.length ≤ 1000)
    (hq : ∀ h' tk', (∀ b o, b ≠ dx → hp.get? b = some o → h'.get? b = some o) → h'.Ns1 dx (fun y => if y = f then some v else m0 y) → R (.ok (.ret .none)) ⟨h', g, d, tk', os⟩) :
    codeAny (model prog w) A (.call (.builtin "object.__setattr__") ⟨[.ref x, .str f tk, v], []⟩) R ⟨hp, g, d, t, os⟩ := by
  obtain ⟨oD, _, _, hoD, _, _⟩ := hns.count hw
  have J : PySem.W.InstAt hp x { cls := .ref C, dict := some dx, data := .fields fv } C (some oD) := ⟨hx, rfl, rfl, hoD⟩
  have SF := F.store_object
  obtain ⟨cd0, hcd0, _, _, hob, hne⟩ := O.cd
  have isob : PySem.W.Looks (model prog w) hp (isInstance (.ref x) (.type "object")) true := J.type.andThen (PySem.W.looks_mroIn kin (by unfold PySem.W.mroIn; rw [hcd0, Option.bind_some, if_neg (by rw [hne]; decide), hob]))
  refine codeAny_call_builtin SF.slot.plain SF.entry (@PySem.W.check_slot (model prog w) _ _ ⟨hp, g, d, t, os⟩ "object.__setattr__" "object" "__setattr__" (.ref x) [.str f tk, v] [] _ SF.kind SF.split isob (SF.args (.ref x) (.str f tk) v) ?_)
  refine osa_to kin O hf J (fun cd hcd hh A => ?_) _
  have lc : PySem.W.Looks (model prog w) hp (classData C) cd := PySem.W.looks_clsIn kin hcd
  obtain ⟨nm, bs, mro, ns, qn, hd, sn, sb, ab, col, del⟩ := cd
  dsimp only at hh
  subst hh
  unfold Builtin.ObjectAttr.storeInOwnDict Builtin.ObjectAttr.ownDictForStores
  repeat (first | with_reducible refine PySem.OEX.store_in_old hns hw hz ?_ | with_reducible refine wpAny_loadPart_at hx ?_ | with_reducible refine lc.at ?_ | wp_step)
  exact fun h' tk' ns' sm => hq h' tk' (fun b o nb ho => (sm.2 b nb).trans ho) ns'
end
/-! ### self.f = e -/
section
variable {X : Cx} {pins : List (Addr × Obj)} {σ : L2.St} {H : Hp} {s : Shared} {a C dx : Addr} {f : Str} {y : V} {u : Value} {fs : List (Str × V)} {Q : Unit → Shared → Prop} {E : Value → Shared → Prop} {A : Around} {ns : List Str}
theorem st_first (O : OG X.K C ns) (I : Inv X pins σ H s) (e : H a = some (exo a C none)) (hf : f ∈ ns) (ry : RelV y u)
    (h : ∀ dx s', H dx = none → dx ≠ a → Inv X pins σ (upd (upd H dx (exd dx [(f, y)])) a (exo a C (some dx))) s' → Q () s') : wpAny (model X.prog X.w) A (setAttr (.ref a) f u) Q E s := by
  obtain ⟨t1, ho⟩ := exo_at I.hok e
  obtain ⟨hp, g, d, t, os⟩ := s
  refine PySem.W.set_plain I.kIn (ox := { cls := .ref C, dict := none, data := .fields #[.ref t1, .none, .none, .none, .bool false, .none] }) (od := none) ⟨ho, rfl, rfl, trivial⟩ O.all.1.1 (osa_first I.kIn O hf ho fun h' tk' dx k dn dne hx hn => ?_)
  have hnd : H dx = none := I.hok.fresh dn
  have nd : ∀ {b : Addr} {o : Obj}, hp.get? b = some o → b ≠ dx := fun q => Nat.ne_of_lt (Nat.lt_of_lt_of_le (Heap.lt_size q) dn)
  have na : ∀ {b : Addr}, H b = none → b ≠ a := fun n z => by rw [z, e] at n; cases n
  have U : Un X.fs [] H (upd (upd H dx (exd dx [(f, y)])) a (exo a C (some dx))) hp h' := ⟨fun b o q n _ _ => k b o (na n) q, fun b o q n _ _ => ⟨o.slots, k b o (na n) q⟩, fun b o q n _ => by rw [upd_ne (na n), upd_ne (nd q)]; exact n,
    fun b o q _ => (Decidable.em (b = a)).elim (fun hb => ⟨_, hb ▸ hx⟩) fun hb => ⟨o, k b o hb q⟩, fun b xs q => by rw [upd_ne (at_ne e q exo_tup), upd_ne (ne_of_none q hnd)]; exact q,
    fun b o v q => by rw [upd_ne (at_ne e q exo_frz), upd_ne (ne_of_none q hnd)]; exact q, fun b ps q => ⟨#[], by rw [upd_ne (at_ne e q exo_tbl), upd_ne (ne_of_none q hnd), q]; simp⟩⟩
  refine h dx _ hnd dne (I.un (t' := tk') U fun b o q => ?_)
  by_cases hb : b = a
  · subst hb; rw [upd_same] at q; cases q; exact exo_ok hx
  · rw [upd_ne hb] at q
    by_cases hd : b = dx
    · subst hd; rw [upd_same] at q; cases q; exact exd_ok hn (relO_put (fs := []) ry fun g => True.intro)
    · rw [upd_ne hd] at q
      exact (I.hok b o q).stay (fun c v hc z => k c v (hc.elim (fun hc => by rw [hc]; exact hb) (fun hc => at_ne e hc exo_own)) z) (fun c hc => by rw [upd_ne (at_ne e hc exo_own), upd_ne (ne_of_none hc hnd)]; exact hc) (fun c xs hc => by rw [upd_ne (at_ne e hc exo_tup), upd_ne (ne_of_none hc hnd)]; exact hc)
theorem st_more (O : OG X.K C ns) (I : Inv X pins σ H s) (e : H a = some (exo a C (some dx))) (ed : H dx = some (exd dx fs)) (hl : fs.length ≤ 900) (hf : f ∈ ns) (ry : RelV y u)
    (h : ∀ s', Inv X pins σ (upd H dx (exd dx ((f, y) :: fs))) s' → Q () s') : wpAny (model X.prog X.w) A (setAttr (.ref a) f u) Q E s := by
  obtain ⟨t1, ho⟩ := exo_at I.hok e
  obtain ⟨mA, hns, rel⟩ := exd_at I.hok ed
  have hw := within_of rel
  obtain ⟨hp, g, d, t, os⟩ := s
  obtain ⟨oD, _, _, hoD, _, _⟩ := hns.count hw
  refine PySem.W.set_plain I.kIn (ox := { cls := .ref C, dict := some dx, data := .fields #[.ref t1, .none, .none, .none, .bool false, .none] }) (od := some oD) ⟨ho, rfl, rfl, hoD⟩ O.all.1.1 (osa_more I.kIn O hf ho hns hw (by rw [List.length_map]; omega) fun h' tk' k hn => ?_)
  have hd : ∃ o, h'.get? dx = some o := by obtain ⟨o, _, _, e', _⟩ := hn; exact ⟨o, e'⟩
  exact h _ (I.write (t' := tk') (x := dx) (e := dx) (o := exd dx ((f, y) :: fs)) (by rw [ed]; exact True.intro) (.inl rfl) k hd (exd_ok hn (relO_put ry rel)))
/-- self.f = e of an exception that is being made -/
def tStG (K : PySem.W.Frag) (f : Str) (to te : TE) : TS := fun D σ H => te σ H fun y H1 => to σ H1 fun x H2 => ∃ (a C : Addr) (ns : List Str), x = .ref a ∧ OG K C ns ∧ f ∈ ns ∧
  ((H2 a = some (exo a C none) ∧ ∀ dx, H2 dx = none → dx ≠ a → D.nx σ (upd (upd H2 dx (exd dx [(f, y)])) a (exo a C (some dx)))) ∨
    ∃ (dx : Addr) (fs : List (Str × V)), H2 a = some (exo a C (some dx)) ∧ H2 dx = some (exd dx fs) ∧ fs.length ≤ 900 ∧ D.nx σ (upd H2 dx (exd dx ((f, y) :: fs))))
theorem ps_stG {o e : Expr} {to te : TE} {p' pos : Pos} (ho : PE X o to) (he : PE X e te) (hs : swapsWith e (some (.Attribute o f p')) pos.line X.env = pure false := by rfl) : PS X (.Assign [.Attribute o f p'] e pos) (tStG X.K f to te) := by
  refine ⟨fun pins s σ H D I h => plainObj_wpAny_Assign_Attribute (thn (he.run pins s σ H _ I h) fun v s1 ⟨y, H1, I1, r1, q1⟩ => thn (ho.run pins s1 σ H1 _ I1 q1) fun u s2 ⟨x, H2, I2, r2, a, C, ns, ex, O, hf, q⟩ => ?_) hs⟩
  subst ex
  obtain rfl : u = Value.ref a := r2
  rcases q with ⟨ea, q⟩ | ⟨dx, fs, ea, ed, hl, q⟩
  · exact st_first O I2 ea hf r1 fun dx s' n ne J => ⟨σ, _, J, q dx n ne⟩
  · exact st_more O I2 ea ed hl hf r1 fun s' J => ⟨σ, _, J, q⟩
end
end Dl
/-! Wc: C(..) by place and by name as a value; isinstance of it. -/
namespace Dl
open PySem PySem.Spec PyProof.Rows L2
def mkF (fs : List Str) (z : Str) (ws : List V) : List (Str × V) := ("code", .str z) :: (fs.zip ws).reverse
theorem mkF_keys {fs : List Str} {z : Str} {ws : List V} (l : ws.length = fs.length) : (mkF fs z ws).map (·.1) = ("code" : Str) :: fs.reverse := by
  unfold mkF
  rw [List.map_cons, List.map_reverse, List.map_fst_zip (Nat.le_of_eq l.symm)]
theorem mkF_dd {K : PySem.W.Frag} {B : Bt} {G : Hp} {fs : List Str} {z : Str} {ws : List V} {ds : List D} (h : Dds K B G ws ds) (l : ws.length = fs.length) : Dds K B G ((mkF fs z ws).map (·.2)) (.str z :: ds.reverse) := by
  unfold mkF
  rw [List.map_cons, List.map_reverse, List.map_snd_zip (Nat.le_of_eq l)]
  exact .cons (.str z) h.rev
/-- a class whose __init__ stores its arguments under the names fs, and a code z -/
structure Rn (P : Program) (w : World) (K : PySem.W.Frag) (mg : Str → Option Value) (base : Heap) (k : Nat) (x : Str) (C : Addr) (fs : List Str) (z : Str) : Prop where
  ex : ∃ (fI : Addr) (fd : FuncData), OG K C (("code" : Str) :: fs) ∧ PySem.W.findIn K (.ref C) "__init__" = some (some (.ref fI)) ∧ PySem.W.typeIn K (.ref fI) = some (.type "function") ∧
    FnOk P w K mg base L2.CX0 k fI fd (("self" : Str) :: fs) (spIni C fs.length (mkF fs z)) ∧ Binds K fd (("self" : Str) :: fs) [] ∧ KBn K fd (("self" : Str) :: fs) 1 fs.reverse (fun us ws => us ++ ws.reverse) (fun us ws => us ++ ws.reverse) ∧ mg x = some (.ref C)
/-- what the top tells of it -/
structure Eg (K : PySem.W.Frag) (mg : Str → Option Value) (x q : Str) (C : Addr) (st : Stmt) (fs : List Str) : Prop where
  o : OG K C (("code" : Str) :: fs)
  i : ∃ (fI : Addr) (fd : FuncData), Fun K "__init__" q st fI fd ∧ PySem.W.findIn K (.ref C) "__init__" = some (some (.ref fI)) ∧ PySem.W.typeIn K (.ref fI) = some (.type "function")
  g : mg x = some (.ref C)
/-- C(..) -/
def tNw (C : Addr) (n : Nat) (mk : List V → List (Str × V)) (ta : TA) : TE := fun σ H Q => ta σ H fun vs H1 => vs.length = n ∧ ∀ d a, H1 d = none → H1 a = none → d ≠ a → Q (.ref a) (upd (upd H1 d (.xd (mk vs))) a (xo a C d))
section
variable {X : Cx} {pins : List (Addr × Obj)} {σ : L2.St} {H : Hp} {s : Shared}
theorem Inv_settle {e d C : Addr} {fs : List (Str × V)} (I : Inv X pins σ (upd (upd (upd H e (exo e C none)) d (exd d fs)) e (exo e C (some d))) s) (he : H e = none) (hd : H d = none) (ne : d ≠ e) : Inv X pins σ (upd (upd H d (.xd fs)) e (xo e C d)) s := by
  have e1 : (upd (upd (upd H e (exo e C none)) d (exd d fs)) e (exo e C (some d))) e = some (exo e C (some d)) := upd_same
  have e2 : (upd (upd (upd H e (exo e C none)) d (exd d fs)) e (exo e C (some d))) d = some (exd d fs) := by rw [upd_ne ne, upd_same]
  obtain ⟨t0, hoe⟩ := exo_at I.hok e1
  obtain ⟨mA, hns, rel⟩ := exd_at I.hok e2
  obtain ⟨hp, g, dr, tk, os⟩ := s
  have J1 := I.write (t' := tk) (x := e) (e := e) (o := xo e C d) (h' := hp) (by rw [e1]; exact True.intro) (.inl rfl) (fun _ _ _ q => q) ⟨_, hoe⟩ (xo_ok hoe rfl rfl rfl)
  have hdo : ∃ o, hp.get? d = some o := by obtain ⟨o, _, _, e', _⟩ := hns; exact ⟨o, e'⟩
  have J2 := J1.write (t' := tk) (x := d) (e := d) (o := .xd fs) (h' := hp) (by rw [upd_ne ne, e2]; exact True.intro) (.inl rfl) (fun _ _ _ q => q) hdo ⟨mA, hns, rel⟩
  have q : upd (upd (upd (upd (upd H e (exo e C none)) d (exd d fs)) e (exo e C (some d))) e (xo e C d)) d (.xd fs) = upd (upd H d (.xd fs)) e (xo e C d) := by
    funext b
    by_cases hb : b = d
    · rw [hb, upd_same, upd_ne ne, upd_same]
    · rw [upd_ne hb]
      by_cases hb2 : b = e
      · rw [hb2, upd_same, upd_same]
      · rw [upd_ne hb2, upd_ne hb2, upd_ne hb, upd_ne hb2, upd_ne hb2, upd_ne hb]
  rw [q] at J2
  exact J2
end
section
variable {X : Cx} {k j : Nat} {x z : Str} {C : Addr} {fs : List Str} {e : Expr} {es : List Expr} {kws : List Keyword} {ta tk : TA} {p pos : Pos}
theorem run_nw {pins : List (Addr × Obj)} {σ : L2.St} {H : Hp} {s : Shared} {Q : VK} {us us' : List Value} {vs' : List V} {kw : List (Str × Value)} {fI : Addr} {fd : FuncData} (O : OG X.K C (("code" : Str) :: fs)) (iC : PySem.W.findIn X.K (.ref C) "__init__" = some (some (.ref fI))) (tI : PySem.W.typeIn X.K (.ref fI) = some (.type "function"))
    (F1 : FnOk X.prog X.w X.K X.mg X.base L2.CX0 k fI fd (("self" : Str) :: fs) (spIni C fs.length (mkF fs z))) (hr : Room (k + 1) X.A) (hb : ∀ (s : Shared) (e : Value), X.K.In s.heap → BindsTo s fd ⟨e :: us, kw⟩ ((("self" : Str) :: fs).zip (e :: us'))) (hz : us.length ≤ sizeLine)
    (I : Inv X pins σ H s) (r : Vals vs' us') (hl : vs'.length = fs.length) (q : ∀ d a, H d = none → H a = none → d ≠ a → Q (.ref a) (upd (upd H d (.xd (mkF fs z vs'))) a (xo a C d))) :
    wpAny (model X.prog X.w) X.A (call (.ref C) us kw) (EP X pins σ Q) X.xe s := by
  obtain ⟨BB, newId, initId, bmB, XF, hog⟩ := O.b
  unfold ogB at hog
  rw [Bool.and_eq_true] at hog
  obtain ⟨nm, N, qn, bs, bm, hdct, sn, sub, ab, col, dd, k0, k1, k2, k3, k5, hC, hT⟩ := PySem.W.excInit_of I.kIn hog.1
  obtain ⟨hp, g, dr, tk, os⟩ := s
  have hn : H (hp.objs.size + 1) = none := I.hok.fresh (Nat.le_succ _)
  have kk : ∀ b o, hp.get? b = some o → ((hp.push (PySem.W.kdv_tup us)).push (PySem.HandSPX.excO C hp.objs.size)).get? b = some o := fun _ _ e => Heap.get?_push_of_some _ (Heap.get?_push_of_some _ e)
  have hget : ((hp.push (PySem.W.kdv_tup us)).push (PySem.HandSPX.excO C hp.objs.size)).get? (hp.objs.size + 1) = some (PySem.HandSPX.excO C hp.objs.size) := by heap_get
  have I2 : Inv X pins σ (upd H (hp.objs.size + 1) (exo (hp.objs.size + 1) C none)) ⟨(hp.push (PySem.W.kdv_tup us)).push (PySem.HandSPX.excO C hp.objs.size), g, dr, tk, os⟩ := I.laid (t' := tk) kk (Nat.le_succ _) (exo_ok hget)
  have sp : spIni C fs.length (mkF fs z) (.ref (hp.objs.size + 1) :: vs') (upd H (hp.objs.size + 1) (exo (hp.objs.size + 1) C none))
      (fun v H2 => v = .non ∧ ∃ d, H d = none ∧ d ≠ hp.objs.size + 1 ∧ H2 = upd (upd (upd H (hp.objs.size + 1) (exo (hp.objs.size + 1) C none)) d (exd d (mkF fs z vs'))) (hp.objs.size + 1) (exo (hp.objs.size + 1) C (some d))) (fun _ _ _ => False) :=
    ⟨_, vs', rfl, hl, upd_same, fun d nd ne => ⟨rfl, d, by rw [upd_ne ne] at nd; exact nd, ne, rfl⟩⟩
  have r2 : Vals (V.ref (hp.objs.size + 1) :: vs') (Value.ref (hp.objs.size + 1) :: us') := .cons rfl r
  refine wpAny_call (kw_call XF hT hz hC (PySem.W.looks_findIn I.kIn iC) (fun self => PySem.W.bind_fn I.kIn self tI)
    (codeAny_mono (F1.run _ X.stack _ _ ⟨Value.ref (hp.objs.size + 1) :: us, kw⟩ (Value.ref (hp.objs.size + 1) :: us') _ _ (fun _ _ _ => False) (hr.make C us kw) (I2.env0.make C us kw) (hb _ _ I2.kIn) r2 sp) fun r s' hq' => ?_))
  cases r with
  | error er => exact False.elim hq'
  | ok fl =>
    cases fl with
    | ret u =>
      obtain ⟨v, H', I3, rv, ev, d, nd, ne, eH⟩ := I2.after hq'
      subst ev eH
      exact ⟨rv, .ref (hp.objs.size + 1), _, Inv_settle I3 hn nd ne, rfl, q d _ nd hn ne⟩
    | next => exact False.elim hq'
    | brk => exact False.elim hq'
    | cont => exact False.elim hq'
/-- C(e, ..) -/
theorem pe_nw (R : Rn X.prog X.w X.K X.mg X.base k x C fs z) (hr : Room j X.A) (hk : k + 1 ≤ j) (hg : Gl X x) (hf : fs.length ≤ 1000) (ha : PA X (e :: es) ta) (hdb : (x == ("__debug__" : Str)) = false := by decide)
    (he : starEach (e :: es) X.env = (false, eval e X.env) :: starEach es X.env := by rfl) (hpl : (backTo pos (starEach es X.env)).any (·.1) = false := by rfl) : PE X (.Call (.Name x p) (e :: es) [] pos) (tNw C fs.length (mkF fs z) ta) := by
  obtain ⟨fI, fd, O, iC, tI, F1, b, _, m⟩ := R.ex
  refine ⟨fun pins s σ H Q I h => wpAny_Call_Name_kw (ld_glob I hg m (PySem.W.callWith_K (h₀ := X.base) I.ok.mod.kin O.all.1.2.2.2 (thn (ha.run pos pins s σ H _ I h) fun us s1 ⟨vs, H1, I1, r1, hz, q1⟩ => ⟨I1.kIn, ?_⟩) he hpl) hdb)⟩
  have ul : us.length = fs.length := by rw [← r1.length, hz]
  refine run_nw (us := us) (us' := us) (kw := []) O iC tI F1 (hr.mono hk) (fun s e kin => ?_) (by rw [ul, sizeLine_eq]; omega) I1 r1 hz q1
  have := b s (e :: us) kin (by rw [List.append_nil, List.length_cons, List.length_cons, ul])
  rw [List.append_nil] at this
  exact this
/-- C() -/
theorem pe_nw0 (R : Rn X.prog X.w X.K X.mg X.base k x C [] z) (hr : Room j X.A) (hk : k + 1 ≤ j) (hg : Gl X x) (hdb : (x == ("__debug__" : Str)) = false := by decide) : PE X (.Call (.Name x p) [] [] pos) (tNw C 0 (mkF [] z) tNil) := by
  obtain ⟨fI, fd, O, iC, tI, F1, b, _, m⟩ := R.ex
  refine ⟨fun pins s σ H Q I h => wpAny_Call_Name_kw (ld_glob I hg m ?_ hdb)⟩
  refine PySem.W.callWith_K0 I.kIn O.all.1.2.2.2 (run_nw (us := []) (us' := []) (vs' := []) (kw := []) O iC tI F1 (hr.mono hk) (fun s e kin => ?_) (by rw [sizeLine_eq]; exact Nat.zero_le _) I .nil rfl h.2)
  have := b s [e] kin (by rfl)
  exact this
/-- C(f = e, ..): the names in the other order -/
theorem pe_nwk (R : Rn X.prog X.w X.K X.mg X.base k x C fs z) (hr : Room j X.A) (hk : k + 1 ≤ j) (hg : Gl X x) (hkw : PK X kws tk)
    (hall : (backToKw pos (keywordEach kws X.env)).all (·.1.isSome) = true := by rfl) (hks : (backToKw pos (keywordEach kws X.env)).filterMap (·.1) = fs.reverse := by rfl) (hdb : (x == ("__debug__" : Str)) = false := by decide)
    (hpl : ((backTo pos (starEach [] X.env)).any (·.1) || (backToKw pos (keywordEach kws X.env)).any (·.1.isNone)) = false := by rfl) :
    PE X (.Call (.Name x p) [] kws pos) (tNw C fs.length (fun ws => mkF fs z ws.reverse) tk) := by
  obtain ⟨fI, fd, O, iC, tI, F1, _, b, m⟩ := R.ex
  refine ⟨fun pins s σ H Q I h => wpAny_Call_Name_kw (ld_glob I hg m (PySem.W.callWith_KW0 (h₀ := X.base) I.ok.mod.kin O.all.1.2.2.2 hall (thn (hkw.run pos pins s σ H _ I h) fun ws s2 ⟨zs, H2, I2, rz, l2, q2⟩ => ⟨I2.kIn, ?_⟩) hpl) hdb)⟩
  rw [hks]
  have wl : ws.length = fs.length := by rw [← rz.length, l2]
  exact run_nw (us := []) (us' := ws.reverse) (vs' := zs.reverse) O iC tI F1 (hr.mono hk) (fun s e kin => b.to s [e] ws kin rfl (by rw [wl, List.length_reverse])) (Nat.zero_le _) I2 rz.reverse (by rw [List.length_reverse, l2]) q2
end
section
variable {K : PySem.W.Frag} {B : Bt} {δ : List Sd} {X : Xc} {P : D → Prop} {C : Addr} {fs : List Str} {z : Str} {ta tk : TA} {te : TE}
theorem we_nwG {mk : List V → List (Str × V)} {ks : List Str} {mkD : List D → List D} {n : Nat} (hk : ∀ ws : List V, ws.length = n → (mk ws).map (·.1) = ks) (hm : ∀ {G : Hp} {ws : List V} {ds : List D}, Dds K B G ws ds → ws.length = n → Dds K B G ((mk ws).map (·.2)) (mkD ds))
    (h : WAx K B X ta δ fun ds => ds.length = n ∧ P (.exn C ks (mkD ds))) : WEx K B X (tNw C n mk ta) δ P := fun G0 H0 σ G H Q s xx q =>
  h G0 H0 σ G H _ s xx fun vs ds G1 H1 g1 o1 hs ⟨l, p⟩ => by
    have lv : vs.length = n := hs.length.trans l
    refine ⟨lv, fun d a nd na ne => ?_⟩
    have g2 := new_go o1 (x := .xd (mk vs)) nd
    have o2 := new_ok o1 xd_nt nd (x := .xd (mk vs))
    have na2 : upd H1 d (.xd (mk vs)) a = none := by rw [upd_ne ne.symm]; exact na
    have g3 := new_go o2 (x := xo a C d) na2
    have o3 := new_ok o2 (xo_nt (a := a) (C := C) (d := d)) na2
    have hd : Dd K B (upd (upd G1 d (.xd (mk vs))) a (xo a C d)) (.ref a) (.exn C ((mk vs).map (·.1)) (mkD ds)) := .exn upd_same (by rw [upd_ne ne]; exact upd_same) ((hm hs lv).mono (g2.s.trans g3.s))
    rw [hk vs lv] at hd
    exact (((q.on g1 o1).on g2 o2).on g3 o3).nil o3 hd p
theorem we_nw (h : WAx K B X ta δ fun ds => ds.length = fs.length ∧ P (.exn C (("code" : Str) :: fs.reverse) (.str z :: ds.reverse))) : WEx K B X (tNw C fs.length (mkF fs z) ta) δ P :=
  we_nwG (fun _ l => mkF_keys l) (fun h l => mkF_dd h l) h
theorem we_nwk (h : WAx K B X ta δ fun ds => ds.length = fs.length ∧ P (.exn C (("code" : Str) :: fs.reverse) (.str z :: ds))) : WEx K B X (tNw C fs.length (fun ws => mkF fs z ws.reverse) ta) δ P :=
  we_nwG (mkD := fun ds => .str z :: ds) (fun _ l => mkF_keys (by rw [List.length_reverse]; exact l)) (fun {G ws ds} h l => by
    have := mkF_dd (fs := fs) (z := z) h.rev (by rw [List.length_reverse]; exact l)
    rw [List.reverse_reverse] at this
    exact this) h
end
/-! ### isinstance(e, C) of such a value -/
def zIsX (K : PySem.W.Frag) : List V → Hp → VK → Prop := fun ws H Q => ∃ (a C d : Addr) (fs : List (Str × V)) (c : V) (u : Value) (b : Bool), ws = [.ref a, c] ∧ ClsV c u ∧ H a = some (xo a C d) ∧ H d = some (.xd fs) ∧ XfC K C ∧ ogQ K C = true ∧ PySem.W.kitOne K (.ref C) u = some b ∧ Q (.bl b) H
theorem call_isX {X : Cx} : CallR X (.builtin "isinstance") (zIsX X.K) := by
  intro pins s σ H xs us Q I r h
  obtain ⟨a, C, d, fs, c, u, b, rfl, k, ea, ed, T, hQ, e, q⟩ := h
  obtain ⟨u1, u2, rfl, r1, r2⟩ := vals2 r
  have e2 := k.eq r2
  subst e2
  obtain rfl : u1 = Value.ref a := r1
  obtain ⟨oe, vs, ha, hc, hd, hf⟩ := xo_at I.hok ea
  obtain ⟨mA, hns, hr⟩ := (show ObjOk X.prog X.w H s.heap d (.xd fs) from I.hok d _ ed)
  obtain ⟨od, ho, hl⟩ := lookIn_ns hns
  have J : PySem.W.InstAt s.heap a oe C (some od) := ⟨ha, hc, by unfold PySem.W.notCls; rw [hf] <;> rfl, by rw [hd]; exact ho⟩
  unfold ogQ at hQ
  simp only [Bool.and_eq_true, beq_iff_eq] at hQ
  obtain ⟨⟨⟨⟨q1, q2⟩, q3⟩, q4⟩, q5⟩ := hQ
  exact PySem.W.kia_one (PySem.W.kitx_exc q1 T.ga T.gg T.exC q2 q3 q4 q5) I.kIn J e (fun z => nomatch z) fun tk => ⟨.bl b, H, I.tok tk, rfl, q⟩
section
variable {K : PySem.W.Frag} {B : Bt} {δ : List Sd} {X : Xc} {P : D → Prop} {te : TE} {c : V} {u : Value}
theorem we_isX (hc : ClsV c u) (h : WEx K B X te δ fun d => ∃ C ks ds b, d = .exn C ks ds ∧ XfC K C ∧ ogQ K C = true ∧ PySem.W.kitOne K (.ref C) u = some b ∧ P (.bl b)) : WEx K B X (tCB (zIsX K) (tCons te (tCons (tC c) tNil))) δ P := fun G0 H0 σ G H Q s xx q =>
  h G0 H0 σ G H _ s xx fun v d G1 H1 g1 o1 hv ⟨C, ks, ds, b, e, T, hQ, k, p⟩ => by
    subst e
    cases hv with
    | exn h1 h2 t => exact ⟨_, C, _, _, c, u, b, rfl, hc, o1.u _ _ h1, o1.u _ _ h2, T, hQ, k, (q.on g1 o1).nil o1 (.bl b) p⟩
end
end Dl
/-! Wd: the __init__ of an error with no, one or two fields. -/
namespace Dl
open PySem PySem.Spec PyProof.Rows L2
section
variable {P : Program} {w : World} {K : PySem.W.Frag} {mg : Str → Option Value} {base : Heap}
theorem upd_again {H : Hp} {a d : Addr} {x y u : HO} (ne : d ≠ a) : upd (upd (upd H d x) a u) d y = upd (upd H d y) a u := by
  funext b
  by_cases hb : b = d
  · rw [hb, upd_same, upd_ne ne, upd_same]
  · rw [upd_ne hb]
    by_cases ha : b = a
    · rw [ha, upd_same, upd_same]
    · rw [upd_ne ha, upd_ne ha, upd_ne hb, upd_ne hb]
theorem kb_rev {q : Str} {st : Stmt} {fI : Addr} {fd : FuncData} {fs : List Str} (F : Fun K "__init__" q st fI fd)
    (hk : ∀ (kV doc pm : Value) (an : Option Addr) (cdv ct : Value) (us ws : List Value), us.length = 1 → ws.length = fs.reverse.length → bindArgs (PySem.W.fnOf "__init__" q (defArgs st) (defBody st) (defScope st) .none kV doc pm an cdv ct) ⟨us, fs.reverse.zip ws⟩ = pure ((("self" : Str) :: fs).zip (us ++ ws.reverse))) :
    KBn K fd (("self" : Str) :: fs) 1 fs.reverse (fun us ws => us ++ ws.reverse) (fun us ws => us ++ ws.reverse) := by
  obtain ⟨oc, od, kV, doc, pm, an, cdv, ct, osl, rfl, lk, hcd⟩ := F.ex
  exact ⟨fun s us ws _ l1 l2 => .of_eq (hk kV doc pm an cdv ct us ws l1 l2), fun r1 r2 => r1.append r2.reverse⟩
/-- __init__(self): self.code = z -/
theorem rn0 {x q z : Str} {C : Addr} {st : Stmt} {k : Nat} (E : Eg K mg x q C st []) (S : FnScope [("self" : Str)] [("self" : Str)] (defScope st))
    (hb : ∀ (kV doc pm : Value) (an : Option Addr) (cdv ct : Value) (us : List Value), us.length = 1 → bindArgs (PySem.W.fnOf "__init__" q (defArgs st) (defBody st) (defScope st) .none kV doc pm an cdv ct) ⟨us, []⟩ = pure ([("self" : Str)].zip us))
    {p5 p6 p7 p8 : Pos} {KZ : Nat} (eb : defBody st = [.Assign [.Attribute (.Name "self" p5) "code" p6] (.Constant (.str z) KZ p7) p8])
    (sw2 : ∀ (f0 : Addr) (cdv : Value) (A : Around) (outer : List Env) (s : Shared) (H : Hp) (E : XK), swapsWith (.Constant (.str z) KZ p7) (some (.Attribute (.Name "self" p5) "code" p6)) p8.line (cxOf L2.CX0 P w K mg base [("self" : Str)] q (defScope st) f0 cdv A outer s H E).nox.env = pure false) :
    Rn P w K mg base (k + 1) x C [] z := by
  obtain ⟨fI, fd, F, i, t⟩ := E.i
  refine ⟨fI, fd, E.o, i, t, F.ok S (fun vs H Q E' h => ?_) (fun cdv A outer s H vs Q E' hr h => ?_), F.binds hb, kb_rev F (fun kV doc pm an cdv ct us ws l1 l2 => ?_), E.g⟩
  · obtain ⟨a, ws, rfl, l, _⟩ := h
    rw [List.length_cons, l]; rfl
  · obtain ⟨a, ws, rfl, l, hA, hq⟩ := h
    cases List.length_eq_zero_iff.mp l
    rw [eb]
    have vs0 : Vis (defScope st) "self" := (S.par "self" (by simp)).elim .inl (fun h => .inr (.inl h))
    refine ⟨_, pss_one (ps_stG (pe_var (i := 0) rfl vs0) pe_str (sw2 _ _ _ _ _ _ _)), ?_⟩
    exact ⟨.ref a, rfl, a, C, _, rfl, E.o, by simp, .inl ⟨hA, fun dx nd ne => hq dx nd ne⟩⟩
  · cases List.length_eq_zero_iff.mp l2
    rw [show us ++ ([] : List Value).reverse = us by simp]
    exact hb kV doc pm an cdv ct us l1
/-- __init__(self, f): self.f = f; self.code = z -/
theorem rn1 {x q f z : Str} {C : Addr} {st : Stmt} {k : Nat} (E : Eg K mg x q C st [f]) (S : FnScope [("self" : Str), f] [("self" : Str), f] (defScope st)) (hf : (f == ("__debug__" : Str)) = false) (hf2 : (f == ("__classdict__" : Str)) = false)
    (hb : ∀ (kV doc pm : Value) (an : Option Addr) (cdv ct : Value) (us : List Value), us.length = 2 → bindArgs (PySem.W.fnOf "__init__" q (defArgs st) (defBody st) (defScope st) .none kV doc pm an cdv ct) ⟨us, []⟩ = pure ([("self" : Str), f].zip us))
    (hk : ∀ (kV doc pm : Value) (an : Option Addr) (cdv ct : Value) (us ws : List Value), us.length = 1 → ws.length = 1 → bindArgs (PySem.W.fnOf "__init__" q (defArgs st) (defBody st) (defScope st) .none kV doc pm an cdv ct) ⟨us, [f].zip ws⟩ = pure ([("self" : Str), f].zip (us ++ ws.reverse)))
    {p1 p2 p3 p4 p5 p6 p7 p8 : Pos} {KZ : Nat} (eb : defBody st = [.Assign [.Attribute (.Name "self" p1) f p2] (.Name f p3) p4, .Assign [.Attribute (.Name "self" p5) "code" p6] (.Constant (.str z) KZ p7) p8])
    (sw1 : ∀ (f0 : Addr) (cdv : Value) (A : Around) (outer : List Env) (s : Shared) (H : Hp) (E : XK), swapsWith (.Name f p3) (some (.Attribute (.Name "self" p1) f p2)) p4.line (cxOf L2.CX0 P w K mg base [("self" : Str), f] q (defScope st) f0 cdv A outer s H E).nox.env = pure false)
    (sw2 : ∀ (f0 : Addr) (cdv : Value) (A : Around) (outer : List Env) (s : Shared) (H : Hp) (E : XK), swapsWith (.Constant (.str z) KZ p7) (some (.Attribute (.Name "self" p5) "code" p6)) p8.line (cxOf L2.CX0 P w K mg base [("self" : Str), f] q (defScope st) f0 cdv A outer s H E).nox.env = pure false) :
    Rn P w K mg base (k + 1) x C [f] z := by
  obtain ⟨fI, fd, F, i, t⟩ := E.i
  refine ⟨fI, fd, E.o, i, t, F.ok S (fun vs H Q E' h => ?_) (fun cdv A outer s H vs Q E' hr h => ?_), F.binds hb, kb_rev F hk, E.g⟩
  · obtain ⟨a, ws, rfl, l, _⟩ := h
    rw [List.length_cons, l]; rfl
  · obtain ⟨a, ws, rfl, l, hA, hq⟩ := h
    obtain ⟨v, rfl⟩ : ∃ v, ws = [v] := by
      match ws, l with
      | [v], _ => exact ⟨v, rfl⟩
    rw [eb]
    have vs0 : Vis (defScope st) "self" := (S.par "self" (by simp)).elim .inl (fun h => .inr (.inl h))
    have vs1 : Vis (defScope st) f := (S.par f (by simp)).elim .inl (fun h => .inr (.inl h))
    refine ⟨_, pss_cons (ps_stG (pe_var (i := 0) rfl vs0) (pe_var (i := 1) rfl vs1 hf hf2) (sw1 _ _ _ _ _ _ _)) (pss_one (ps_stG (pe_var (i := 0) rfl vs0) pe_str (sw2 _ _ _ _ _ _ _))), ?_⟩
    refine ⟨v, rfl, .ref a, rfl, a, C, _, rfl, E.o, by simp, .inl ⟨hA, fun dx nd ne => ⟨.ref a, rfl, a, C, _, rfl, E.o, by simp, .inr ⟨dx, [(f, v)], upd_same, by rw [upd_ne ne, upd_same], by show 1 ≤ 900; decide, ?_⟩⟩⟩⟩
    show Q .non (upd (upd (upd H dx (exd dx [(f, v)])) a (exo a C (some dx))) dx (exd dx [("code", .str z), (f, v)]))
    rw [upd_again ne]
    exact hq dx nd ne
/-- __init__(self, f, g): self.f = f; self.g = g; self.code = z -/
theorem rn2 {x q f1 f2 z : Str} {C : Addr} {st : Stmt} {k : Nat} (E : Eg K mg x q C st [f1, f2]) (S : FnScope [("self" : Str), f1, f2] [("self" : Str), f1, f2] (defScope st)) (hf1 : (f1 == ("__debug__" : Str)) = false) (hf2 : (f1 == ("__classdict__" : Str)) = false) (hg1 : (f2 == ("__debug__" : Str)) = false) (hg2 : (f2 == ("__classdict__" : Str)) = false)
    (hb : ∀ (kV doc pm : Value) (an : Option Addr) (cdv ct : Value) (us : List Value), us.length = 3 → bindArgs (PySem.W.fnOf "__init__" q (defArgs st) (defBody st) (defScope st) .none kV doc pm an cdv ct) ⟨us, []⟩ = pure ([("self" : Str), f1, f2].zip us))
    (hk : ∀ (kV doc pm : Value) (an : Option Addr) (cdv ct : Value) (us ws : List Value), us.length = 1 → ws.length = 2 → bindArgs (PySem.W.fnOf "__init__" q (defArgs st) (defBody st) (defScope st) .none kV doc pm an cdv ct) ⟨us, [f2, f1].zip ws⟩ = pure ([("self" : Str), f1, f2].zip (us ++ ws.reverse)))
    {p1 p2 p3 p4 p5 p6 p7 p8 p9 p10 p11 p12 : Pos} {KZ : Nat} (eb : defBody st = [.Assign [.Attribute (.Name "self" p1) f1 p2] (.Name f1 p3) p4, .Assign [.Attribute (.Name "self" p5) f2 p6] (.Name f2 p7) p8, .Assign [.Attribute (.Name "self" p9) "code" p10] (.Constant (.str z) KZ p11) p12])
    (sw1 : ∀ (f0 : Addr) (cdv : Value) (A : Around) (outer : List Env) (s : Shared) (H : Hp) (E : XK), swapsWith (.Name f1 p3) (some (.Attribute (.Name "self" p1) f1 p2)) p4.line (cxOf L2.CX0 P w K mg base [("self" : Str), f1, f2] q (defScope st) f0 cdv A outer s H E).nox.env = pure false)
    (sw2 : ∀ (f0 : Addr) (cdv : Value) (A : Around) (outer : List Env) (s : Shared) (H : Hp) (E : XK), swapsWith (.Name f2 p7) (some (.Attribute (.Name "self" p5) f2 p6)) p8.line (cxOf L2.CX0 P w K mg base [("self" : Str), f1, f2] q (defScope st) f0 cdv A outer s H E).nox.env = pure false)
    (sw3 : ∀ (f0 : Addr) (cdv : Value) (A : Around) (outer : List Env) (s : Shared) (H : Hp) (E : XK), swapsWith (.Constant (.str z) KZ p11) (some (.Attribute (.Name "self" p9) "code" p10)) p12.line (cxOf L2.CX0 P w K mg base [("self" : Str), f1, f2] q (defScope st) f0 cdv A outer s H E).nox.env = pure false) :
    Rn P w K mg base (k + 1) x C [f1, f2] z := by
  obtain ⟨fI, fd, F, i, t⟩ := E.i
  refine ⟨fI, fd, E.o, i, t, F.ok S (fun vs H Q E' h => ?_) (fun cdv A outer s H vs Q E' hr h => ?_), F.binds hb, kb_rev F hk, E.g⟩
  · obtain ⟨a, ws, rfl, l, _⟩ := h
    rw [List.length_cons, l]; rfl
  · obtain ⟨a, ws, rfl, l, hA, hq⟩ := h
    obtain ⟨v, u, rfl⟩ : ∃ v u, ws = [v, u] := by
      match ws, l with
      | [v, u], _ => exact ⟨v, u, rfl⟩
    rw [eb]
    have vs0 : Vis (defScope st) "self" := (S.par "self" (by simp)).elim .inl (fun h => .inr (.inl h))
    have vs1 : Vis (defScope st) f1 := (S.par f1 (by simp)).elim .inl (fun h => .inr (.inl h))
    have vs2 : Vis (defScope st) f2 := (S.par f2 (by simp)).elim .inl (fun h => .inr (.inl h))
    refine ⟨_, pss_cons (ps_stG (pe_var (i := 0) rfl vs0) (pe_var (i := 1) rfl vs1 hf1 hf2) (sw1 _ _ _ _ _ _ _)) (pss_cons (ps_stG (pe_var (i := 0) rfl vs0) (pe_var (i := 2) rfl vs2 hg1 hg2) (sw2 _ _ _ _ _ _ _)) (pss_one (ps_stG (pe_var (i := 0) rfl vs0) pe_str (sw3 _ _ _ _ _ _ _)))), ?_⟩
    refine ⟨v, rfl, .ref a, rfl, a, C, _, rfl, E.o, by simp, .inl ⟨hA, fun dx nd ne => ⟨u, rfl, .ref a, rfl, a, C, _, rfl, E.o, by simp, .inr ⟨dx, [(f1, v)], upd_same, by rw [upd_ne ne, upd_same], by show 1 ≤ 900; decide, ?_⟩⟩⟩⟩
    refine ⟨.ref a, rfl, a, C, _, rfl, E.o, by simp, .inr ⟨dx, [(f2, u), (f1, v)], by rw [upd_ne ne.symm, upd_same], upd_same, by show 2 ≤ 900; decide, ?_⟩⟩
    show Q .non (upd (upd (upd (upd H dx (exd dx [(f1, v)])) a (exo a C (some dx))) dx (exd dx [(f2, u), (f1, v)])) dx (exd dx [("code", .str z), (f2, u), (f1, v)]))
    rw [upd_again ne, upd_again ne]
    exact hq dx nd ne
end
/-! ### the readings of isinstance(e, C) -/
def tIsX (K : PySem.W.Frag) (c : V) (te : TE) : TE := tCB (zIsX K) (tCons te (tCons (tC c) tNil))
theorem pe_isX {X : Cx} {p pos : Pos} {e1 e2 : Expr} {te : TE} {c : V} (hm : X.mg "isinstance" = none) (h1 : PE X e1 te) (h2 : PE X e2 (tC c)) (hg : Gl X "isinstance" := by rfl)
    (he : starEach [e1, e2] X.env = (false, eval e1 X.env) :: starEach [e2] X.env := by rfl) (he2 : starEach [e2] X.env = (false, eval e2 X.env) :: starEach [] X.env := by rfl) (hpl : (backTo pos (starEach [e2] X.env)).any (·.1) = false := by rfl) :
    PE X (.Call (.Name "isinstance" p) [e1, e2] [] pos) (tIsX X.K c te) :=
  pe_callB (show CallR _ (.builtin "isinstance") (zIsX X.K) from call_isX) hg hm (by decide +kernel) (pa_cons h1 (pa_cons h2 pa_nil (by first | exact he2 | rfl)) (by first | exact he | rfl)) (by decide) (by decide) he hpl
theorem we_isx {K : PySem.W.Frag} {B : Bt} {δ : List Sd} {X : Xc} {P : D → Prop} {te : TE} {c : V} {u : Value} (hc : ClsV c u) (h : WEx K B X te δ fun d => ∃ C ks ds b, d = .exn C ks ds ∧ XfC K C ∧ ogQ K C = true ∧ PySem.W.kitOne K (.ref C) u = some b ∧ P (.bl b)) : WEx K B X (tIsX K c te) δ P := we_isX hc h
/-! ### literals, item by item -/
section
variable {K : PySem.W.Frag} {B : Bt} {δ : List Sd} {X : Xc}
theorem wa_eq0 {δ : List Sd} : WAx K B X tNil δ (fun r => r = []) := wa_nil rfl
theorem wa_eq {te : TE} {ta : TA} {d : D} {ds : List D} (h1 : WEx K B X te δ (fun r => r = d)) (h2 : WAx K B X ta δ (fun r => r = ds)) : WAx K B X (tCons te ta) δ (fun r => r = d :: ds) :=
  wa_cons fun G0 H0 σ G H Q s xx q => h1 G0 H0 σ G H Q s xx fun v x G1 H1 g1 o1 hv e => q v x G1 H1 g1 o1 hv (by
    subst e
    exact fun G0 H0 σ G H Q s xx q => h2 G0 H0 σ G H Q s xx fun vs xs G2 H2 g2 o2 hs e2 => q vs xs G2 H2 g2 o2 hs (by rw [e2]))
theorem wax_to {ta : TA} {ds : List D} {P : List D → Prop} (h : WAx K B X ta δ (fun r => r = ds)) (p : P ds) : WAx K B X ta δ P := fun G0 H0 σ G H Q s xx q => h G0 H0 σ G H Q s xx fun vs xs G1 H1 g1 o1 hs e => q vs xs G1 H1 g1 o1 hs (by rw [e]; exact p)
theorem wex_to {te : TE} {d : D} {P : D → Prop} (h : WEx K B X te δ (fun r => r = d)) (p : P d) : WEx K B X te δ P := h.mono fun _ e => by rw [e]; exact p
variable {C : Addr} {f f2 z : Str} {i j : Nat} {x y : D}
theorem wn0 : WEx K B X (tNw C 0 (mkF [] z) tNil) δ (fun r => r = .exn C ["code"] [.str z]) := we_nw (fs := []) (wa_nil ⟨rfl, rfl⟩)
theorem wn1 (h : δ[i]? = some (.val x)) : WEx K B X (tNw C [f].length (mkF [f] z) (tCons (tVar i) tNil)) δ (fun r => r = .exn C ["code", f] [.str z, x]) := we_nw (fs := [f]) (wa_cons (we_var h (wa_nil ⟨rfl, rfl⟩)))
theorem wn2 (h : δ[i]? = some (.val x)) (h2 : δ[j]? = some (.val y)) : WEx K B X (tNw C [f, f2].length (mkF [f, f2] z) (tCons (tVar i) (tCons (tVar j) tNil))) δ (fun r => r = .exn C ["code", f2, f] [.str z, y, x]) := we_nw (fs := [f, f2]) (wa_cons (we_var h (wa_cons (we_var h2 (wa_nil ⟨rfl, rfl⟩)))))
theorem wk1 (h : δ[i]? = some (.val x)) : WEx K B X (tNw C [f].length (fun ws => mkF [f] z ws.reverse) (tCons (tVar i) tNil)) δ (fun r => r = .exn C ["code", f] [.str z, x]) := we_nwk (fs := [f]) (wa_cons (we_var h (wa_nil ⟨rfl, rfl⟩)))
theorem wk2 (h : δ[i]? = some (.val x)) (h2 : δ[j]? = some (.val y)) : WEx K B X (tNw C [f, f2].length (fun ws => mkF [f, f2] z ws.reverse) (tCons (tVar i) (tCons (tVar j) tNil))) δ (fun r => r = .exn C ["code", f2, f] [.str z, x, y]) := we_nwk (fs := [f, f2]) (wa_cons (we_var h (wa_cons (we_var h2 (wa_nil ⟨rfl, rfl⟩)))))
end
end Dl
/-! Wh: what such a head tells. -/
namespace Dl
open PySem PySem.Spec PyProof.Rows L2
section
variable {K : PySem.W.Frag} {h : Heap} {mg : Str → Option Value}
/-- a def without defaults -/
theorem fn_hk {x q : Str} {st : Stmt} {f : Addr} {fd : FuncData} (F : FunD K x q (defArgs st) (defBody st) (defScope st) [] [] f fd) : Fun K x q st f fd := by
  obtain ⟨oc, od, dV, kV, doc, pm, an, cdv, ct, osl, e, l, c, hd, _⟩ := F.ex
  rcases hd with ⟨_, rfl⟩ | ⟨z, _⟩
  · exact ⟨⟨oc, od, kV, doc, pm, an, cdv, ct, osl, e, l, c⟩, F.kp⟩
  · exact (z rfl).elim
theorem df_hk {x : Str} {st : Stmt} (X : K.In h) (G : h.Ns mainGlobals mg) (a : (He.Fa.glo x).ok K = true) (d : ∃ fd, FunD K x x (defArgs st) (defBody st) (defScope st) [] [] (He.fAd K (x, none)) fd) : Df K mg x st := by
  obtain ⟨fd, F⟩ := d
  exact ⟨He.ga K x, fd, fn_hk F, He.glo_ok X G a⟩
theorem eg_hk {x q : Str} {st : Stmt} {fs : List Str} (X : K.In h) (G : h.Ns mainGlobals mg) (O : OG K (He.ga K x) (("code" : Str) :: fs)) (a : (He.Fa.glo x).ok K = true) (m : (He.Fa.meth x "__init__").ok K = true)
    (d : ∃ fd, FunD K "__init__" q (defArgs st) (defBody st) (defScope st) [] [] (He.fAd K (x, some "__init__")) fd) : Eg K mg x q (He.ga K x) st fs := by
  obtain ⟨fd, F⟩ := d
  have M := He.meth_ok m
  exact ⟨O, ⟨_, fd, fn_hk F, M.at_, beq_iff_eq.mp M.fn⟩, He.glo_ok X G a⟩
end
end Dl
/-! We: instances of the program's classes as data: fields, methods, properties, making. -/
namespace Dl
open PySem PySem.Spec PyProof.Rows L2
/-- a statement that is never reached -/
theorem ps_never {X : Cx} {st : Stmt} : PS X st (fun _ _ _ => False) := ⟨fun _ _ _ _ _ _ h => h.elim⟩
theorem nt_ins {C dx : Addr} {fs : List (Str × V)} : nt (.ins C dx fs) := fun _ z => nomatch z
theorem nt_own {x : Addr} : nt (.own x) := fun _ z => nomatch z
section
variable {K : PySem.W.Frag} {B : Bt} {G H : Hp} {δ : List Sd} {P : D → Prop} {X : Xc} {te : TE} {ta : TA} {C : Addr} {m f : Str}
theorem lookup_nod : ∀ {fs : List (Str × V)} {ds : List D} {f : Str}, fs.length = ds.length → ((fs.map (·.1)).zip ds).lookup f = none → fs.lookup f = none
  | [], _, _, _, _ => rfl
  | (g, v) :: fs, d :: ds, f, l, e => by
    rw [List.map_cons, List.zip_cons_cons, lookup_putD] at e
    rw [lookup_put]
    by_cases q : f = g
    · rw [if_pos q] at e; cases e
    · rw [if_neg q] at e ⊢
      exact lookup_nod (by simpa using l) e
theorem we_fld (h : WEx K B X te δ fun d => ∃ C ks ds x, d = .obj C ks ds ∧ (ks.zip ds).lookup f = some x ∧ (Cls K C ∧ NoAttr K C f) ∧ P x) : WEx K B X (tFld K te f) δ P := fun G0 H0 σ G H Q s xx q =>
  h G0 H0 σ G H _ s xx fun v d G1 H1 g1 o1 hv ⟨C, ks, ds, x, e, l, T, p⟩ => by
    subst e
    cases hv with
    | obj h1 t =>
      obtain ⟨u, l2, hu⟩ := lookup_dd t l
      exact ⟨_, _, _, _, u, rfl, o1.u _ _ h1, T.1, T.2, l2, (q.on g1 o1).nil o1 hu p⟩
/-- e.m(..) -/
theorem we_meth {pre : List D → Prop} {post : List D → D → Prop} {E : XK} (h : WEx K B X te δ fun d => ∃ ks ds, d = .obj C ks ds ∧ (ks.zip ds).lookup m = none ∧ WAx K B X ta δ fun as => pre (d :: as) ∧ ∀ r, post (d :: as) r → P r) : WEx K B X (tMeth C m (SpD K pre post) [] E te ta) δ P := fun G0 H0 σ G H Q s xx q =>
  h G0 H0 σ G H _ s xx fun v d G1 H1 g1 o1 hv ⟨ks, ds, e, l, w⟩ => by
    subst e
    cases hv with
    | obj h1 t =>
      refine ⟨_, _, _, rfl, o1.u _ _ h1, lookup_nod (by rw [← t.length, List.length_map]) l, w G0 H0 σ G1 H1 _ (s.on g1 o1) (xx.on g1 o1) fun vs as G2 H2 g2 o2 hs ⟨p, mm⟩ => ?_⟩
      rw [List.append_nil]
      exact ⟨B, G2, _, o2, .cons (.obj (g2.s _ _ h1) (t.mono g2.s)) hs, p, fun v' d' G3 H3 g3 o3 hd pd => ((q.on g1 o1).on g2 o2) v' d' G3 H3 g3 o3 hd (mm d' pd)⟩
/-- e.f, a property -/
theorem we_prop {pre : List D → Prop} {post : List D → D → Prop} {E : XK} (h : WEx K B X te δ fun d => ∃ ks ds, d = .obj C ks ds ∧ pre [d] ∧ ∀ r, post [d] r → P r) : WEx K B X (tProp C (SpD K pre post) [] E te) δ P := fun G0 H0 σ G H Q s xx q =>
  h G0 H0 σ G H _ s xx fun v d G1 H1 g1 o1 hv ⟨ks, ds, e, p, mm⟩ => by
    subst e
    cases hv with
    | obj h1 t => exact ⟨_, _, _, rfl, o1.u _ _ h1, B, G1, _, o1, .cons (.obj h1 t) .nil, p, fun v' d' G3 H3 g3 o3 hd pd => (q.on g1 o1) v' d' G3 H3 g3 o3 hd (mm d' pd)⟩
end
/-! ### making -/
/-- what an __init__ promises that fills a bare instance -/
def SpI (K : PySem.W.Frag) (C : Addr) (pre : List D → Prop) (post : List D → D → Prop) : Sp := fun vs H Q _ => ∃ (B : Bt) (G H1 : Hp) (x dx : Addr) (ws : List V) (ds : List D), vs = .ref x :: ws ∧ H1 x = none ∧ H1 dx = none ∧ dx ≠ x ∧ H = upd (upd H1 dx (.own x)) x (.ins C dx []) ∧ Ok B G H1 ∧ Dds K B G ws ds ∧ pre ds ∧
  ∀ d G2 H2, Go B G H1 G2 H2 → Ok B G2 H2 → Dd K B G2 (.ref x) d → post ds d → Q .non H2
section
variable {K : PySem.W.Frag} {B : Bt} {δ : List Sd} {P : D → Prop} {X : Xc} {ta tk : TA} {C : Addr} {pre : List D → Prop} {post : List D → D → Prop} {E : XK}
theorem we_make (h : WAx K B X ta δ fun ds => pre ds ∧ ∀ d, post ds d → P d) : WEx K B X (tMake C (SpI K C pre post) [] E ta) δ P := fun G0 H0 σ G H Q s xx q =>
  h G0 H0 σ G H _ s xx fun vs ds G1 H1 g1 o1 hs ⟨p, mm⟩ x dx nx ndx ne => by
    rw [List.append_nil]
    exact ⟨B, G1, H1, x, dx, vs, ds, rfl, nx, ndx, ne, rfl, o1, hs, p, fun d G2 H2 g o hd pd => ⟨rfl, (q.on g1 o1) (.ref x) d G2 H2 g o hd (mm d pd)⟩⟩
/-- C(k = v, ..): the names in the other order -/
theorem we_makeK {m : Nat} (h : WAx K B X tk δ fun ds => ds.length = m ∧ pre ds.reverse ∧ ∀ d, post ds.reverse d → P d) : WEx K B X (tMakeK C 0 m (SpI K C pre post) (fun us ws => us ++ ws.reverse) E tNil tk) δ P := fun G0 H0 σ G H Q s xx q =>
  h G0 H0 σ G H _ s xx fun vs ds G1 H1 g1 o1 hs ⟨l, p, mm⟩ => ⟨rfl, hs.length.trans l, fun x dx nx ndx ne =>
    ⟨B, G1, H1, x, dx, vs.reverse, ds.reverse, rfl, nx, ndx, ne, rfl, o1, hs.rev, p, fun d G2 H2 g o hd pd => ⟨rfl, (q.on g1 o1) (.ref x) d G2 H2 g o hd (mm d pd)⟩⟩⟩
end
/-- an instance that is being filled -/
structure Fil (K : PySem.W.Frag) (B : Bt) (C x dx : Addr) (G0 H1 G H : Hp) (fs : List (Str × V)) (ds : List D) : Prop where
  go : Go B G0 H1 G H
  ok : Ok B G H
  ins : H x = some (.ins C dx fs)
  gx : G x = none
  nx : H1 x = none
  ob : Ok B G0 H1
  dd : Dds K B G (fs.map (·.2)) ds
section
variable {K : PySem.W.Frag} {B : Bt} {C x dx : Addr} {G0 H1 G H G2 H2 : Hp} {fs : List (Str × V)} {ds : List D}
theorem Fil.start (o : Ok B G0 H1) (nx : H1 x = none) (ndx : H1 dx = none) (ne : dx ≠ x) : Fil K B C x dx G0 H1 G0 (upd (upd H1 dx (.own x)) x (.ins C dx [])) [] [] := by
  have g1 := loose_go o (x := .own x) ndx
  have o1 := loose_ok o (x := .own x) ndx
  have nx2 : upd H1 dx (.own x) x = none := by rw [upd_ne ne.symm]; exact nx
  exact ⟨g1.trans o1 (loose_go o1 nx2), loose_ok o1 nx2, upd_same, o.fresh nx, nx, o, .nil⟩
theorem Fil.nb (f : Fil K B C x dx G0 H1 G H fs ds) : x ≠ B.a := f.ob.neB f.nx
theorem Fil.on (f : Fil K B C x dx G0 H1 G H fs ds) (g : Go B G H G2 H2) (o2 : Ok B G2 H2) : Fil K B C x dx G0 H1 G2 H2 fs ds :=
  ⟨f.go.trans f.ok g, o2, g.k x _ f.nb nt_ins f.ins, g.n x _ nt_ins f.ins f.gx, f.nx, f.ob, f.dd.mono g.s⟩
theorem tabs_ins {T : List (Addr × Str)} {p : Addr} {o : HO} (t : LamX.Tabs T H) (hp : H p = some (.ins C dx fs)) : LamX.Tabs T (upd H p o) := fun q hq => by
  obtain ⟨ps, h1, h2, h3⟩ := t q hq
  refine ⟨ps, by rw [upd_ne (fun e => by rw [e, hp] at h1; cases h1)]; exact h1, h2, fun pos cv hc => ?_⟩
  obtain ⟨c, e1, e2⟩ := h3 pos cv hc
  refine ⟨c, e1, ?_⟩
  rw [upd_ne (fun e => by
    rw [e, hp] at e2
    have e3 : HO.ins C dx fs = LamX.CodeO p q.2 := Option.some.inj e2
    unfold LamX.CodeO at e3
    cases e3)]
  exact e2
/-- a field is stored -/
theorem Fil.put (f : Fil K B C x dx G0 H1 G H fs ds) {fs' : List (Str × V)} {ds' : List D} (hd : Dds K B G (fs'.map (·.2)) ds') : Fil K B C x dx G0 H1 G (upd H x (.ins C dx fs')) fs' ds' := by
  have nb := f.nb
  have o := f.ok
  refine ⟨⟨f.go.s, fun a u ne ht h => ?_, f.go.n, fun c r h => ?_⟩, ⟨fun a u e => ?_, o.b, ?_, tabs_ins o.t f.ins, o.f⟩, upd_same, f.gx, f.nx, f.ob, hd⟩
  · rw [upd_ne (ne_of_none h f.nx)]; exact f.go.k a u ne ht h
  · obtain ⟨r', h'⟩ := f.go.c c r h
    exact ⟨r', by rw [upd_ne nb.symm]; exact h'⟩
  · rw [upd_ne (ne_of_none e f.gx)]; exact o.u a u e
  · obtain ⟨c, cells, p', r, m, n, e, g', w⟩ := o.x
    exact ⟨c, cells, p', r, m, n, by rw [upd_ne nb.symm]; exact e, g', w⟩
/-- it is done: frozen from now on -/
theorem Fil.done (f : Fil K B C x dx G0 H1 G H fs ds) : Go B G0 H1 (upd G x (.ins C dx fs)) H ∧ Ok B (upd G x (.ins C dx fs)) H ∧ Dd K B (upd G x (.ins C dx fs)) (.ref x) (.obj C (fs.map (·.1)) ds) := by
  have s : Same G (upd G x (.ins C dx fs)) := same_upd f.gx
  refine ⟨⟨f.go.s.trans s, f.go.k, fun a u ht h g => ?_, f.go.c⟩, freeze_ok f.ok nt_ins f.nb f.gx f.ins, .obj upd_same (f.dd.mono s)⟩
  rw [upd_ne (ne_of_none h f.nx)]
  exact f.go.n a u ht h g
/-- a state without lists of its own: on a base of its own -/
theorem Stt.rebase {σ : L2.St} {δ : List Sd} (s : Stt K B G0 H1 G H σ δ) (no : ∀ (i : Nat) es, δ[i]? ≠ some (.own es)) (o : Ok B G2 H2) (m : Same G G2) : Stt K B G2 H2 G2 H2 σ δ :=
  ⟨Go.refl, o, s.len, fun i d e => let ⟨v, h, q⟩ := s.val i d e; ⟨v, h, q.mono m⟩, fun i ds e => absurd e (no i ds), fun i j ds es a e => absurd e (no i ds)⟩
/-- self.n = e -/
theorem fld_step {σ : L2.St} {δ : List Sd} {te : TE} {n : Str} {d : D} {ti : Nat} {E : Ends} (f : Fil K B C x dx G0 H1 G H fs ds) (s : Stt K B G H G H σ δ) (no : ∀ (i : Nat) es, δ[i]? ≠ some (.own es)) (hx : δ[ti]? = some (.val (.adr x))) (c : Cls K C) (na : NoAttr K C n) (hl : fs.length < 1000)
    (he : WE K B te δ (fun r => r = d)) (hq : ∀ v G2 H2, Dd K B G2 v d → Same G G2 → Fil K B C x dx G0 H1 G2 H2 fs ds → Stt K B G2 (upd H2 x (.ins C dx (putF n v fs))) G2 (upd H2 x (.ins C dx (putF n v fs))) σ δ → E.nx σ (upd H2 x (.ins C dx (putF n v fs)))) : sFld K (tVar ti) te n E σ H := by
  refine he _ _ σ G H _ s ctx0 fun v r G2 H2 g o hv e => ?_
  subst e
  obtain ⟨u, hu, hd⟩ := s.val ti _ hx
  cases hd
  have f2 := f.on g o
  refine ⟨_, hu, x, C, dx, fs, rfl, f2.ins, c, na, hl, hq v G2 H2 hv g.s f2 ?_⟩
  have nb := f2.nb
  have o3 : Ok B G2 (upd H2 x (.ins C dx (putF n v fs))) := by
    refine ⟨fun a u e => by rw [upd_ne (ne_of_none e f2.gx)]; exact o.u a u e, o.b, ?_, tabs_ins o.t f2.ins, o.f⟩
    obtain ⟨c, cells, p', r, m, n, e, g', w⟩ := o.x
    exact ⟨c, cells, p', r, m, n, by rw [upd_ne nb.symm]; exact e, g', w⟩
  exact s.rebase no o3 g.s
end
end Dl
/-! Wf: ==, !=, len, bool, repr by a class's own methods; isinstance of it. -/
namespace Dl
open PySem PySem.Spec PyProof.Rows L2
section
variable {X : Cx} {n : Nat} {pins : List (Addr × Obj)} {σ : L2.St} {H : Hp} {s : Shared} {f C a dx : Addr} {fd : FuncData} {ps : List Str} {sp : Sp} {fs : List (Str × V)} {Q : VK} {A : Around} {E : Value → Shared → Prop}
/-- an own def called by the interpreter, below the running body -/
theorem call_below {us : List Value} {vs : List V} (F : FnOk X.prog X.w X.K X.mg X.base L2.CX0 n f fd ps sp) (hb : Binds X.K fd ps []) (sb : L2.Sub X n A) (I : Inv X pins σ H s) (r : Vals vs us) (h : sp vs H Q (fun _ _ _ => False)) :
    wpAny (model X.prog X.w) A (call (.ref f) us) (EP X pins σ Q) E s := by
  have e0 : Env0 X.prog X.w X.K X.mg X.base A X.stack s H := by
    have e := I.env0
    exact ⟨by rw [sb.fr]; exact e.frames, e.mod, e.bs, e.bsz, e.funs, e.frf, e.hok, e.bare⟩
  have hl := F.len _ _ _ _ h
  have hbb := hb s us I.kIn (by rw [List.append_nil, ← hl, r.length])
  rw [List.append_nil] at hbb
  refine wpAny_call (codeAny_mono (F.run A X.stack s H ⟨us, []⟩ us vs Q (fun _ _ _ => False) sb.room e0 hbb r h) fun r s' hq => ?_)
  cases r with
  | error e => exact False.elim hq
  | ok fl =>
    cases fl with
    | ret w =>
      obtain ⟨z, H', I', rz, q⟩ := I.after hq
      exact ⟨z, H', I', rz, q⟩
    | next => exact False.elim hq
    | brk => exact False.elim hq
    | cont => exact False.elim hq
/-- what is asked of an own class whose instances are compared: its __eq__ is the def at f, its __ne__ object's -/
structure OwnEq (K : PySem.W.Frag) (C f : Addr) : Prop where
  eq : PySem.W.findIn K (.ref C) "__eq__" = some (some (.ref f))
  fn : PySem.W.isFn K (.ref f) = true
  ne : PySem.W.findIn K (.ref C) "__ne__" = some (some (.builtin "object.__ne__"))
  ob : PySem.W.mroIn K C (.type "object") = some true
/-- x == y, x an instance: what its __eq__ promises -/
def rOeq (K : PySem.W.Frag) (C : Addr) (sp : Sp) (no : Bool) : R2 := fun x y H Q => ∃ (a dx : Addr) (fs : List (Str × V)) (t : Value), x = .ref a ∧ H a = some (.ins C dx fs) ∧ TyX K H y t ∧ PySem.W.notFirst K C t = true ∧ sp [x, y] H (fun v H' => ∃ b : Bool, v = .bl b ∧ Q (.bl (no.xor b)) H') (fun _ _ _ => False)
theorem op_oeq (F : FnOk X.prog X.w X.K X.mg X.base L2.CX0 n f fd ps sp) (hb : Binds X.K fd ps []) (hr : Room n X.A) (T : OwnEq X.K C f) : OpR X (compareOp .Eq) (rOeq X.K C sp false) := by
  intro pins s σ H x y v u Q I rx ry hq
  obtain ⟨a, dx, fs, t, rfl, ea, ty, nf, h⟩ := hq
  obtain rfl : v = Value.ref a := rx
  obtain ⟨mA, J, _⟩ := ins_get I.hok ea
  obtain ⟨od, J, _⟩ := J.look
  obtain ⟨m, hF⟩ := I.fr
  obtain ⟨Pk, Z, p, _⟩ := kit_of I ry ty
  show wpAny (model X.prog X.w) X.A (richCompare .Eq (.ref a) u) (EP X pins σ Q) X.xe s
  refine PySem.W.cmp_K (op := .Eq) (tb := t) hr.units0 hF I.ok.mod.kin J (Z.ty _ _ I.kIn p) nf T.eq T.fn ?_
  refine wpAny_mono (call_below F hb ⟨hr, rfl⟩ I (.cons (show RelV (V.ref a) (Value.ref a) from rfl) (.cons ry .nil)) h) (fun w s' hw => ?_) fun _ _ e => e
  obtain ⟨z, H', I', rz, b, rfl, q⟩ := hw
  cases rz
  rw [Bool.false_xor] at q
  exact ⟨.bl b, H', I', rfl, q⟩
theorem ifb_B {args : List Value} {Qo : Option Value → Shared → Prop} {name : Str} {id : String} {x : Addr} {ox : Obj} {od : Option Obj} {K : PySem.W.Frag} {Mo : Model} (kin : K.In s.heap) (J : PySem.W.InstAt s.heap x ox C od) (hs : PySem.W.findIn K (.ref C) name = some (some (.builtin id)))
    (hb : ∀ self : Value, bindSpecial (.builtin id) self = pure (.builtin id, [self])) (h : wpAny Mo A (call (.builtin id) (.ref x :: args)) (fun v => Qo (some v)) E s) : wpAny Mo A (callSpecialIfBound? (.ref x) name args) Qo E s := by
  simp only [callSpecialIfBound?, bindSpecialIfBound?]
  refine wpAny_holding (wpAny_bind (wpAny_bind (wpAny_bind (J.type.here ((PySem.W.looks_findIn kin hs).here ?_)))))
  refine wpAny_bind (wpAny_askSetting (wpAny_ite ?_))
  have fin : wpAny Mo A (call (.builtin id) ([.ref x] ++ args) >>= fun v => pure (some v)) Qo E s := wpAny_bind (wpAny_mono h (fun v s' h' => wpAny_pure h') fun _ _ h' => h')
  split
  · rw [hb]; exact wpAny_bind (wpAny_pure (wpAny_pure (by exact fin)))
  · rw [hb]; exact wpAny_tryCatch (wpAny_bind (wpAny_pure (wpAny_pure (by exact fin))))
/-- object.__ne__ asks __eq__ -/
theorem ne_body {x : Addr} {ox : Obj} {od : Option Obj} {K : PySem.W.Frag} {b : Value} {P : Program} {w : World} {Qf : Fin → Shared → Prop} (kin : K.In s.heap) (J : PySem.W.InstAt s.heap x ox C od) (T : OwnEq K C f) (hu : A.units < cLine)
    (h : wpAny (model P w) A (call (.ref f) [.ref x, b]) (fun v s' => ∃ r, v = .bool r ∧ Qf (.done (.ret (.bool (!r)))) s') E s) : wpAny (model P w) A (Builtin.«object.__ne__» ⟨[.ref x, b], []⟩) Qf E s := by
  unfold Builtin.«object.__ne__»
  refine wpAny_bind (wpAny_of_eq (a := ((Value.ref x : Value), [b])) (by first | rfl | (simp only [slotArgs]; rfl)) ?_)
  refine wpAny_bind (wpAny_cRoomFor hu ?_)
  refine wpAny_bind (PySem.W.ifBound_K kin J T.eq T.fn (wpAny_mono h (fun v s' hv => ?_) fun _ _ e => e))
  obtain ⟨r, rfl, q⟩ := hv
  refine wpAny_bind (wpAny_truthy_bool ?_)
  exact wpAny_pure q
theorem op_one (F : FnOk X.prog X.w X.K X.mg X.base L2.CX0 n f fd ps sp) (hb : Binds X.K fd ps []) (hr : Room (n + 1) X.A) (T : OwnEq X.K C f) : OpR X (compareOp .NotEq) (rOeq X.K C sp true) := by
  intro pins s σ H x y v u Q I rx ry hq
  obtain ⟨a, dx, fs, t, rfl, ea, ty, nf, h⟩ := hq
  obtain rfl : v = Value.ref a := rx
  obtain ⟨mA, J, _⟩ := ins_get I.hok ea
  obtain ⟨od, J, _⟩ := J.look
  obtain ⟨m, hF⟩ := I.fr
  obtain ⟨Pk, Z, p, _⟩ := kit_of I ry ty
  have hty := Z.ty (model X.prog X.w) _ I.kIn p
  have sb : L2.Sub X (n + 1) X.A := ⟨hr, rfl⟩
  have isob : PySem.W.Looks (model X.prog X.w) s.heap (isInstance (.ref a) (.type "object")) true := J.type.andThen (PySem.W.looks_mroIn I.kIn T.ob)
  have one : wpAny (model X.prog X.w) X.A (tryCompare (.ref a) (cmpInfo .NotEq).2.1 u) (fun r s' => ∃ v, r = some v ∧ EP X pins σ Q v s') X.xe s := by
    unfold tryCompare
    refine wpAny_bind (ifb_B I.kIn J T.ne PySem.F.cmp_object.ne.bind ?_)
    refine wpAny_call (codeAny_call_builtin PySem.F.cmp_object.ne.plain PySem.F.cmpEntry_ne (PySem.W.check_slot PySem.F.cmpKind_ne PySem.F.cmpSplit_ne isob (PySem.F.cmpArgs_ne _ _) (ne_body I.kIn J T sb.in1.room.units0 ?_)))
    refine wpAny_mono (call_below F hb sb.in1 I (.cons (show RelV (V.ref a) (Value.ref a) from rfl) (.cons ry .nil)) h) (fun w s' hw => ?_) fun _ _ e => e
    obtain ⟨z, H', I', rz, b, rfl, q⟩ := hw
    cases rz
    rw [Bool.true_xor] at q
    exact ⟨b, rfl, wpAny_pure ⟨_, rfl, .bl (!b), H', I', rfl, q⟩⟩
  show wpAny (model X.prog X.w) X.A (richCompare .NotEq (.ref a) u) (EP X pins σ Q) X.xe s
  unfold richCompare
  simp only [oneThing_ref]
  refine wpAny_holding (wpAny_bind (wpAny_cRoomFor hr.units0 ?_))
  refine wpAny_bind (J.type.here (wpAny_bind (hty.here ?_)))
  split
  · rename_i q
    have e : PySem.W.subIn X.K t (.ref C) = some false := by
      rcases Bool.or_eq_true_iff.mp nf with e | e
      · rw [beq_iff_eq.mp e] at q; simp at q
      · exact beq_iff_eq.mp e
    refine wpAny_bind ((PySem.W.looks_subIn I.kIn e).here ?_)
    simp only [Bool.false_eq_true, if_false]
    refine wpAny_bind (wpAny_mono one (fun r s' z => ?_) fun _ _ e => e)
    obtain ⟨v, rfl, hq⟩ := z
    exact wpAny_pure hq
  · refine wpAny_bind (wpAny_pure ?_)
    simp only [Bool.false_eq_true, if_false]
    refine wpAny_bind (wpAny_mono one (fun r s' z => ?_) fun _ _ e => e)
    obtain ⟨v, rfl, hq⟩ := z
    exact wpAny_pure hq
/-- len(x) by the class's own __len__ -/
def rOlen (C : Addr) (sp : Sp) : List V → Hp → VK → Prop := fun xs H Q => ∃ (a dx : Addr) (fs : List (Str × V)), xs = [.ref a] ∧ H a = some (.ins C dx fs) ∧ sp [.ref a] H (fun v H' => ∃ k : Nat, v = .int k ∧ k ≤ 1000000 ∧ Q (.int k) H') (fun _ _ _ => False)
theorem call_olen (F : FnOk X.prog X.w X.K X.mg X.base L2.CX0 n f fd ps sp) (hb : Binds X.K fd ps []) (hr : Room (n + 1) X.A) (hs : PySem.W.findIn X.K (.ref C) "__len__" = some (some (.ref f))) (hf : PySem.W.isFn X.K (.ref f) = true) : CallR X (.builtin "len") (rOlen C sp) := by
  intro pins s σ H xs us Q I r h
  obtain ⟨a, dx, fs, rfl, ea, h⟩ := h
  obtain ⟨u, rfl, rx⟩ := vals1 r
  obtain rfl : u = Value.ref a := rx
  obtain ⟨mA, J, _⟩ := ins_get I.hok ea
  obtain ⟨od, J, _⟩ := J.look
  obtain ⟨m, hF⟩ := I.fr
  have sb : L2.Sub X (n + 1) X.A := ⟨hr, rfl⟩
  refine PySem.W.len_K hF I.ok.mod.kin J hs hf (wpAny_mono (call_below F hb sb.in1 I (.cons (show RelV (V.ref a) (Value.ref a) from rfl) .nil) h) (fun w s' hw => ?_) fun _ _ e => e)
  obtain ⟨z, H', I', rz, k, rfl, hk, q⟩ := hw
  obtain ⟨t, rfl⟩ := (show ∃ t, w = Value.int k t from rz)
  exact ⟨⟨by omega, by omega⟩, .int k, H', I'.tok _, ⟨_, rfl⟩, q⟩
/-- repr(x) by the class's own __repr__ -/
def rOrepr (C : Addr) (sp : Sp) : List V → Hp → VK → Prop := fun xs H Q => ∃ (a dx : Addr) (fs : List (Str × V)), xs = [.ref a] ∧ H a = some (.ins C dx fs) ∧ sp [.ref a] H (fun v H' => ∃ z : Str, v = .str z ∧ Q (.str z) H') (fun _ _ _ => False)
theorem call_orepr (F : FnOk X.prog X.w X.K X.mg X.base L2.CX0 n f fd ps sp) (hb : Binds X.K fd ps []) (hr : Room (n + 1) X.A) (hs : PySem.W.findIn X.K (.ref C) "__repr__" = some (some (.ref f))) (hf : PySem.W.isFn X.K (.ref f) = true) : CallR X (.builtin "repr") (rOrepr C sp) := by
  intro pins s σ H xs us Q I r h
  obtain ⟨a, dx, fs, rfl, ea, h⟩ := h
  obtain ⟨u, rfl, rx⟩ := vals1 r
  obtain rfl : u = Value.ref a := rx
  obtain ⟨mA, J, _⟩ := ins_get I.hok ea
  obtain ⟨od, J, _⟩ := J.look
  obtain ⟨m, hF⟩ := I.fr
  have sb : L2.Sub X (n + 1) X.A := ⟨hr, rfl⟩
  refine PySem.W.repr_K sb.in1.room.units0 hF I.ok.mod.kin J hs hf (wpAny_mono (call_below F hb sb.in1 I (.cons (show RelV (V.ref a) (Value.ref a) from rfl) .nil) h) (fun w s' hw => ?_) fun _ _ e => e)
  obtain ⟨z, H', I', rz, k, rfl, q⟩ := hw
  obtain ⟨t, rfl⟩ := (show ∃ t, w = Value.str k t from rz)
  exact ⟨.str k, H', I', ⟨_, rfl⟩, q⟩
end
end Dl
/-! Wr: what such a head tells of classes. -/
namespace Dl
open PySem PySem.Spec PyProof.Rows L2
section
variable {K : PySem.W.Frag} {C : Addr} {f : Str} {v : V}
theorem qCls_read (h : qCls K C = true) : ClX.CRead K C (.type "type") := by
  have N := (He.ba h).1
  refine ⟨N, ?_⟩
  have h := N
  unfold PySem.W.readsIn at h
  obtain ⟨h, _⟩ := He.ba h
  obtain ⟨h, _⟩ := He.ba h
  obtain ⟨h, h3⟩ := He.ba h
  obtain ⟨_, h2⟩ := He.ba h
  unfold PySem.W.specialIn
  rw [beq_iff_eq.mp h2, Option.bind_some]
  exact beq_iff_eq.mp h3
theorem qCls_ty (h : qCls K C = true) (cl : Cls K C) {H : Hp} {a dx : Addr} {fs : List (Str × V)} (e : H a = some (.ins C dx fs)) : TyOf K H (.ref a) (.ref C) := by
  obtain ⟨_, h⟩ := He.ba h
  obtain ⟨h1, h⟩ := He.ba h
  obtain ⟨h2, h⟩ := He.ba h
  obtain ⟨h3, h4⟩ := He.ba h
  exact .ins e cl (He.eqO_ok h1) (He.eqO_ok h2) (of_decide_eq_true h3) (of_decide_eq_true h4)
theorem qProp_ok (h : qProp K C f = true) : PropOf K C f (He.ma K C f) (He5.wf K C "property" f) := by
  obtain ⟨h1, h⟩ := He.ba h
  obtain ⟨h2, h⟩ := He.ba h
  obtain ⟨h3, h4⟩ := He.ba h
  refine ⟨He.eqO_ok h1, He.eqO_ok h2, of_decide_eq_true h3, ?_⟩
  unfold He5.wf
  clear h1 h2 h3
  split at h4
  · rename_i g r e
    exact ⟨r, by rw [e]⟩
  · cases h4
theorem qVal_ok (h : qVal K C f v = true) : ∃ u, ClX.CVal K C (.type "type") f v u := by
  unfold qVal at h
  split at h
  · rename_i u e
    exact ⟨u, e, He.relB_ok h⟩
  · cases h
theorem qEq_ok (h : qEq K C = true) : OwnEq K C (He.ma K C "__eq__") := by
  obtain ⟨h1, h⟩ := He.ba h
  obtain ⟨h2, h⟩ := He.ba h
  obtain ⟨h3, h4⟩ := He.ba h
  exact ⟨He.eqO_ok h1, h2, He.eqO_ok h3, of_decide_eq_true h4⟩
theorem qKit_ok {t c : Value} {b : Bool} (h : qKit K t c b = true) : PySem.W.kitOne K t c = some b := of_decide_eq_true h
/-- a def at any address -/
theorem fa_hk {x q : Str} {st : Stmt} {f : Addr} (d : ∃ fd, FunD K x q (defArgs st) (defBody st) (defScope st) [] [] f fd) : ∃ fd, Fun K x q st f fd := by
  obtain ⟨fd, F⟩ := d
  exact ⟨fd, fn_hk F⟩
end
end Dl
/-! Wi: the truth of an instance by its __len__; isinstance of it. -/
namespace Dl
open PySem PySem.Spec PyProof.Rows L2
section
variable {P : Program} {w : World} {A : Around} {E : Value → Shared → Prop} {s : Shared} {K : PySem.W.Frag} {x C f : Addr} {ox : Obj} {od : Option Obj}
theorem truthy_own {Q : Bool → Shared → Prop} (kin : K.In s.heap) (J : PySem.W.InstAt s.heap x ox C od) (hb : PySem.W.findIn K (.ref C) "__bool__" = some none) (hs : PySem.W.findIn K (.ref C) "__len__" = some (some (.ref f))) (hf : PySem.W.isFn K (.ref f) = true)
    (h : wpAny (model P w) A.in1 (call (.ref f) [.ref x]) (PySem.W.LenBack fun v s' => ∃ n u, v = .int n u ∧ Q (n != 0) s') E s) : wpAny (model P w) A (truthy (.ref x)) Q E s := by
  have key : wpAny (model P w) A (runValue (.builtin "len" ⟨[.ref x], []⟩)) (fun r s' => ∃ n u, r = .int n u ∧ Q (n != 0) s') E s := by
    refine wpAny_runValue (codeAny_builtin entry_len ?_)
    rw [Around.under_plainId plain_len _]
    unfold Builtin.«len»
    refine wpAny_bind (wpAny_of_eq (a := (Value.ref x)) (by rfl) ?_)
    refine wpAny_bind (m := callSpecial? (.ref x) (Str.ofString "__len__")) (PySem.W.special_fn kin J hs (beq_iff_eq.mp hf) (wpAny_mono h (fun r s' hr => ?_) fun _ _ y => y))
    cases r <;> first | exact hr.elim | skip
    rename_i n u
    obtain ⟨⟨h0, h1⟩, hq⟩ := hr
    refine wpAny_bind (wpAny_holding (wpAny_pure ?_))
    refine wpAny_bind (wpAny_letGo ?_)
    show wpAny _ _ (if n < 0 then _ else _) _ _ _
    rw [if_neg (by omega)]
    show wpAny _ _ (if n ≥ 2 ^ 63 then _ else _) _ _ _
    rw [if_neg (by omega)]
    exact wpAny_bind (wpAny_mkInt (wpAny_pure hq))
  unfold truthy
  refine wpAny_bind (m := callSpecial? (.ref x) (Str.ofString "__bool__")) (wpAny_bind (wpAny_bind (J.type.here ((PySem.W.looks_findIn kin hb).here (wpAny_pure ?_)))))
  refine wpAny_bind (wpAny_bind (J.type.here ((PySem.W.looks_findIn kin hs).here ?_)))
  refine wpAny_bind (wpAny_mono key (fun r s' hr => ?_) fun _ _ y => y)
  obtain ⟨n, u, rfl, q⟩ := hr
  exact wpAny_pure q
theorem truthy_here {M : Model} {v : Value} {Q Q' : Bool → Shared → Prop} {A : Around} {E : Value → Shared → Prop} {s : Shared} (h : wpAny M A (truthy v) Q' E s) (m : ∀ b s', Q' b s' → Q b s') : wpAny M A (truthy v) Q E s := wpAny_mono h m fun _ _ e => e
theorem bool_new {b : Bool} : MeetsIn P w (Builtin.«bool.__new__» ⟨[.type "bool", .ref x], []⟩) (fun A R s => wpAny (model P w) A.in1 (truthy (.ref x)) (fun b s' => R (.ok (.ret (.bool b))) s') (fun e s' => R (.error e) s') s) :=
  .of_wp fun A R s hs => by
    obtain ⟨hp, g, d, tk, os⟩ := s
    have f1 := PySem.F.conv_sub_bool
    repeat (first | with_reducible refine truthy_here hs ?_ | wp_step)
    exact fun b s' h => wpAny_pure ⟨_, rfl, h⟩
end
section
variable {X : Cx} {n : Nat} {f C : Addr} {fd : FuncData} {ps : List Str} {sp : Sp}
/-- bool(x), x an instance, by its __len__ -/
def rObool (C : Addr) (sp : Sp) : List V → Hp → VK → Prop := fun xs H Q => ∃ (a dx : Addr) (fs : List (Str × V)), xs = [.ref a] ∧ H a = some (.ins C dx fs) ∧ sp [.ref a] H (fun v H' => ∃ k : Nat, v = .int k ∧ k ≤ 1000000 ∧ Q (.bl (decide (k ≠ 0))) H') (fun _ _ _ => False)
theorem call_obool (F : FnOk X.prog X.w X.K X.mg X.base L2.CX0 n f fd ps sp) (hb : Binds X.K fd ps []) (hr : Room (n + 3) X.A) (hn : PySem.W.findIn X.K (.ref C) "__bool__" = some none) (hs : PySem.W.findIn X.K (.ref C) "__len__" = some (some (.ref f))) (hf : PySem.W.isFn X.K (.ref f) = true) : CallR X (.type "bool") (rObool C sp) := by
  intro pins s σ H xs us Q I r h
  obtain ⟨a, dx, fs, rfl, ea, h⟩ := h
  obtain ⟨u, rfl, rx⟩ := vals1 r
  obtain rfl : u = Value.ref a := rx
  obtain ⟨mA, J, _⟩ := ins_get I.hok ea
  obtain ⟨od, J, _⟩ := J.look
  have sb : L2.Sub X (n + 3) X.A := ⟨hr, rfl⟩
  refine callType_newIn PySem.F.called_bool PySem.F.newNe_bool (PySem.F.typeCall_bool_1 _) (PySem.F.newCall_bool_1 _) (fun obj => PySem.F.args_object_init_2 obj _) PySem.F.entry_bool_new (bool_new (b := true)) ?_
  refine truthy_own I.kIn J hn hs hf (wpAny_mono (call_below F hb sb.in1.in1.in1 I (.cons (show RelV (V.ref a) (Value.ref a) from rfl) .nil) h) (fun w s' hw => ?_) fun _ _ e => e)
  obtain ⟨z, H', I', rz, k, rfl, hk, q⟩ := hw
  obtain ⟨t, rfl⟩ := (show ∃ t, w = Value.int k t from rz)
  refine ⟨⟨by omega, by omega⟩, k, _, rfl, ⟨rfl, ?_⟩⟩
  have e : ((k : Int) != 0) = decide (k ≠ 0) := by
    by_cases h0 : k = 0
    · subst h0; rfl
    · rw [decide_eq_true h0]; exact bne_iff_ne.mpr (by omega)
  rw [e]
  exact ⟨.bl (decide (k ≠ 0)), H', I'.tok _, rfl, q⟩
end
end Dl
/-! Wj: sorted of a list of nested data (tuples of pairs, texts ..), by what is read. -/
namespace Dl
open PySem PySem.Spec PyProof.Rows L2
/-- not behind it, as data -/
def leD (a b : PyData) : Bool := !PySem.W.dataLt b a
/-- sorted(l), l a list of data that are alike: the items, arranged as the data are -/
def rSortD (K : PySem.W.Frag) : List V → Hp → VK → Prop := fun vs H Q => ∃ (a : Addr) (xs : List V) (ps : List PyData), vs = [V.ref a] ∧ SqL K H a xs ∧ DpAll K H xs ps ∧ PySem.W.AllAlike ps ∧ PySem.W.Sortable ps ∧ (∀ d ∈ ps, d.depth ≤ 50) ∧ xs.length ≤ 1000 ∧ (∀ v ∈ xs, ∃ b, v = V.ref b) ∧
  ∀ (ys : List V) (p : Addr), ys.length = xs.length → (∀ R : V → PyData → Prop, PySem.W.EachIs R xs ps → PySem.W.EachIs R ys (ps.mergeSort leD)) → H p = none → Q (.ref p) (upd H p (.lst ys))
theorem each_of {K : PySem.W.Frag} {X : Cx} {pins : List (Addr × Obj)} {σ : L2.St} {H : Hp} {s : Shared} (I : Inv X pins σ H s) : ∀ {xs : List V} {ps : List PyData} {us : List Value}, DpAll X.K H xs ps → Vals xs us → PySem.W.EachIs (fun v d => ∃ as, Reads s.heap v d as) us ps
  | [], _, _, .nil, .nil => .nil
  | _ :: _, _, _, .cons h t, .cons r u => .cons (Dp.reads I _ _ _ h r) (each_of (K := K) I t u)
theorem each_zip {R : V → PyData → Prop} : ∀ {xs : List V} {ps : List PyData} {us : List Value}, PySem.W.EachIs R xs ps → Vals xs us → PySem.W.EachIs (fun u d => ∃ v, RelV v u ∧ R v d) us ps
  | [], _, _, .nil, .nil => .nil
  | _ :: _, _, _, .cons h t, .cons r u => .cons ⟨_, r, h⟩ (each_zip t u)
/-- a reference as the layer has it -/
def refV : Value → V | .ref a => .ref a | _ => .non
theorem refV_rel {v : V} {u : Value} (h : RelV v u) (hv : ∃ b, v = V.ref b) : v = refV u := by
  obtain ⟨b, rfl⟩ := hv
  cases (show u = Value.ref b from h)
  rfl
theorem each_refs {R : V → PyData → Prop} : ∀ {us : List Value} {ps : List PyData}, (∀ u ∈ us, ∃ b, u = Value.ref b) → PySem.W.EachIs (fun u d => ∃ v, RelV v u ∧ R v d) us ps → PySem.W.EachIs R (us.map refV) ps
  | [], _, _, .nil => .nil
  | u :: us, _, h, .cons ⟨v, r, hr⟩ t => by
    refine .cons ?_ (each_refs (fun u hu => h u (List.mem_cons_of_mem _ hu)) t)
    obtain ⟨b, rfl⟩ := h u List.mem_cons_self
    have : v = V.ref b := by
      cases v <;> first | (cases r; rfl) | (cases r; done) | (obtain ⟨_, z⟩ := r; cases z)
    rw [this] at hr
    exact hr
theorem vals_refs : ∀ {us : List Value}, (∀ u ∈ us, ∃ b, u = Value.ref b) → Vals (us.map refV) us
  | [], _ => .nil
  | u :: us, h => by
    obtain ⟨b, rfl⟩ := h u List.mem_cons_self
    exact .cons rfl (vals_refs fun u hu => h u (List.mem_cons_of_mem _ hu))
theorem cr_sortD {X : Cx} (hu : X.A.units + 60 < cLine) : CallR X (.builtin "sorted") (rSortD X.K) := by
  intro pins s σ H vs us Q I r ⟨a, xs, ps, e, ha, hd, al, so, dp, lx, rf, q⟩
  subst e
  obtain ⟨its, rv, hl, hz⟩ := I.list ha
  rw [Vals.ref1 r]
  have il : its.length ≤ 1000 := by rw [← rv.length]; exact lx
  have iref : ∀ u ∈ its, ∃ b, u = Value.ref b := fun u hu => by
    obtain ⟨i, hi, e⟩ := List.getElem_of_mem hu
    have hx : i < xs.length := by rw [rv.length]; exact hi
    obtain ⟨u', hu', ru⟩ := rv.get (List.getElem?_eq_getElem hx)
    rw [List.getElem?_eq_getElem hi, e] at hu'
    cases hu'
    obtain ⟨b, hb⟩ := rf _ (List.getElem_mem hx)
    rw [hb] at ru
    exact ⟨b, ru⟩
  have each0 := each_of (K := X.K) I hd rv
  let h1 := PySem.W.sortingHeap (PySem.W.copyHeap s.heap its) (s.heap.objs.size + 1) its
  have keep1 : ∀ b o, s.heap.get? b = some o → h1.get? b = some o := fun b o e => PySem.W.sorting_copy_old e
  have each1 : PySem.W.EachIs (fun v d => ∃ as, Reads h1 v d as) its ps := each0.mono fun v d ⟨as, z⟩ => ⟨as, Reads.keeps keep1 z⟩
  have S : PySem.W.SortsAt X.prog X.w X.A.in1.in1 { s with heap := h1 } (PySem.W.dataKind h1 ps) its := PySem.W.SortsAt.data (s := { s with heap := h1 }) each1 al so fun d hd => by
    have := dp d hd
    show X.A.in1.in1.units + d.depth < cLine
    have e : X.A.in1.in1.units ≤ X.A.units + 2 := by first | exact Nat.le_refl _ | (simp [Around.in1]; omega)
    omega
  refine PySem.W.sorted_vals hl.isList S (by rw [sizeLine_eq]; omega) ?_
  have keyed : PySem.W.EachIs (fun v b => (PySem.W.dataKind h1 ps).keyOf v = some (PySem.W.keyToks b)) its ps := (PySem.W.each_mem each1).mono fun v d ⟨⟨as, z⟩, hm⟩ => PySem.W.dataKind_some al hm z
  have out : ∀ R' : Value → PyData → Prop, PySem.W.EachIs R' its ps → PySem.W.EachIs R' (PySem.W.sortVals (PySem.W.dataKind h1 ps) false its its) (ps.mergeSort leD) := fun R' h => by
    have e : (PySem.W.sortLe (PySem.W.dataKind h1 ps).toKeyOrd false PySem.W.keyToks) = leD := by funext a b; rfl
    have z := PySem.W.sortVals_each (rev := false) (κ := PySem.W.dataKind h1 ps) PySem.W.keyToks h keyed
    rw [e] at z
    exact z
  have oref : ∀ u ∈ PySem.W.sortVals (PySem.W.dataKind h1 ps) false its its, ∃ b, u = Value.ref b := fun u hu => iref u (PySem.W.sortVals_mem false hu)
  have lo : (PySem.W.sortVals (PySem.W.dataKind h1 ps) false its its).length = its.length := PySem.W.sortVals_length false rfl
  have hn : H (s.heap.objs.size + 1) = none := I.hok.fresh (Nat.le_succ _)
  have hg := PyProof.Rows.sortedAll_at s.heap its (PySem.W.sortVals (PySem.W.dataKind h1 ps) false its its).toArray
  obtain ⟨n, hg⟩ := hg
  have hv := vals_refs oref
  refine ⟨.ref (s.heap.objs.size + 1), _, I.laid (t' := s.toks) (o := .lst ((PySem.W.sortVals (PySem.W.dataKind h1 ps) false its its).map refV)) (fun b o e => PyProof.Rows.sortedAll_old e) (Nat.le_succ _) ⟨?_, _, n, hv, hg⟩, rfl, q _ _ ?_ (fun R hR => each_refs oref (out _ (each_zip hR rv))) hn⟩
  · rw [List.length_map, lo, sizeLine_eq]; omega
  · rw [List.length_map, lo, rv.length]
theorem u60 {k : Nat} {A : Around} (hr : Room k A) : A.units + 60 < cLine := by have := hr.un; omega
end Dl
/-! Wk: enumerate of a list or a tuple, by what is read. -/
namespace Dl
open PySem PySem.Spec PyProof.Rows L2
open Sem (wp)
set_option maxHeartbeats 1000000 in
theorem meets_enumB {v : Value} {o : Obj} {H : Heap → Prop} (B : Begins v o H) :
    Meets (Builtin.«enumerate.__new__» ⟨[.type "enumerate", v], []⟩) (fun _ R s => H s.heap ∧
      R (.ok (.ret (.ref (s.heap.push o).objs.size))) { s with heap := (s.heap.push o).push { cls := .type "enumerate", data := .fields #[.none, .bool false, .ref s.heap.objs.size, rawInt 0, .none, .none] } }) :=
  .of_wp fun prog w A R s h => by
    obtain ⟨hp, g, d, tk, os⟩ := s; obtain ⟨h1, h⟩ := h
    have hsub := sub_enumerate
    have q1 : ∀ {A' : Around} {E : Value → Shared → Prop} {Q : Value → Shared → Prop}, Q (.ref hp.objs.size) ⟨hp.push o, g, d, tk, os⟩ → wpAny (model prog w) A' (pyIter v) Q E ⟨hp, g, d, tk, os⟩ :=
      fun q => B.iter prog w _ _ ⟨hp, g, d, tk, os⟩ _ h1 q
    wp_walk using q1
    refine wpAny_stack_any fun st => wpAny_pure ?_
    split
    · rename_i c _ _ _ _ _
      cases (c == Value.type "enumerate")
      · wp_walk using q1
        exact ⟨_, rfl, h⟩
      · wp_walk using q1
        exact ⟨_, rfl, h⟩
    · wp_walk using q1
      exact ⟨_, rfl, h⟩
section
variable {prog : Program} {w : World} {A : Around} {E : Value → Shared → Prop} {s : Shared}
theorem enumB {v : Value} {o : Obj} {H : Heap → Prop} {Q : Value → Shared → Prop} (B : Begins v o H) (h1 : H s.heap)
    (h : ∀ h', IsEnum h' (s.heap.objs.size + 1) s.heap.objs.size 0 .none → h'.get? s.heap.objs.size = some o → h'.objs.size = s.heap.objs.size + 2 →
      (∀ b o, s.heap.get? b = some o → h'.get? b = some o) → Q (.ref (s.heap.objs.size + 1)) { s with heap := h' }) :
    wpAny (model prog w) A (call (.type "enumerate") [v]) Q E s := by
  refine callType_new F.called_enumerate (by decide) (F.typeCall_enumerate_1 _) (F.newCall_enumerate_1 _) (fun obj => F.args_object_init_2 obj _) F.entry_enumerate_new
    (meets_enumB B) ⟨h1, ?_⟩
  have hz : (s.heap.push o).objs.size = s.heap.objs.size + 1 := Heap.size_push ..
  show _ ∧ _
  rw [hz]
  have he : IsEnum ((s.heap.push o).push { cls := .type "enumerate", data := .fields #[.none, .bool false, .ref s.heap.objs.size, rawInt 0, .none, .none] }) (s.heap.objs.size + 1) s.heap.objs.size 0 .none := by
    have := Heap.get?_push_size (s.heap.push o) (o := { cls := .type "enumerate", data := .fields #[.none, .bool false, .ref s.heap.objs.size, rawInt 0, .none, .none] }) rfl
    rw [hz] at this; exact this
  refine ⟨⟨_, he, rfl⟩, h _ he (Heap.get?_push_of_some _ (Heap.get?_push_size _ B.free)) (by rw [Heap.size_push, hz]) fun b o x => Heap.get?_push_of_some _ (Heap.get?_push_of_some _ x)⟩
end
/-- the tuple at a, each item in a new pair -/
def IteT (K : PySem.W.Frag) (a : Addr) (n : Nat) : It :=
  ⟨fun i H => ∃ (xs : List V) (x : V), SqT K H a xs ∧ xs.length = n ∧ xs[i]? = some x, fun i H v H' => ∃ T x, v = .ref T ∧ H T = none ∧ H' = upd H T (.tup [.int (i : Nat), x]) ∧ ∀ xs, SqT K H a xs → xs[i]? = some x, fun i H => ∃ xs : List V, SqT K H a xs ∧ xs.length = n ∧ n ≤ i⟩
theorem turn_enumT {P : Program} {w : World} {K : PySem.W.Frag} {elts : List Expr} {kk : Nat} {tpos : Pos} (a e it : Addr) (n : Nat) :
    Turn P w K (.Tuple elts kk tpos) (IteT K a n) [e, it] e (fun i h => (∃ old, IsEnum h e it ((i : Nat) : Int) old) ∧ h.IsTupleIter it a i ∧ e ≠ it ∧ a ≠ e ∧ a ≠ it ∧ i ≤ n) where
  mem := by simp
  obj := fun i h st b hb => by
    obtain ⟨⟨old, he⟩, ⟨o, ho, hc, hd⟩, _⟩ := st
    have e' : b = e ∨ b = it := by simpa using hb
    rcases e' with z | z
    · rw [z]; exact ⟨_, he, fun v q => nomatch q⟩
    · rw [z]; exact ⟨o, ho, fun v q => by rw [hd] at q; cases q⟩
  keep := fun i h h' st k => let ⟨⟨old, he⟩, hi, hne⟩ := st; ⟨⟨old, k e (by simp) _ he⟩, hi.at fun o q => k it (by simp) o q, hne⟩
  item := by
    intro X hP hw hK hc i pins s σ H E I hf st hg
    subst hP hw hK
    obtain ⟨⟨old, he⟩, hit, hne, hae, hai, hin⟩ := st
    obtain ⟨xs, x, hq, hn, hx⟩ := hg
    obtain ⟨its, rv, p, hz⟩ := I.tuple hq
    obtain ⟨u, hu, ru⟩ := rv.get hx
    have hel : e < s.heap.objs.size := Heap.lt_size he
    have hil : it < s.heap.objs.size := by obtain ⟨_, q, _⟩ := hit; exact Heap.lt_size q
    have hix : i < its.length := (List.getElem?_eq_some_iff.mp hu).1
    refine wpAny_pyNext_enum_itemD (Draws.tuple (show X.A.in1.handled = none from I.ok.hd hc) it a hai its.toArray) he ⟨hit, p⟩ (by simpa using hix) hne (by simp [hne, Ne.symm hae]) fun u' h' tk hu' ho st' hT hsz hk => ?_
    have eu : u' = u := by
      have : its.toArray[i]? = some u := by simpa using hu
      rw [this] at hu'
      exact (Option.some.inj hu').symm
    subst eu
    refine ⟨_, rfl, wpAny_letOwnedTupleGo_enum (s := { s with heap := h', toks := tk + 1 }) ho fun h'' he' sb => ?_⟩
    have hT2 : h''.get? s.heap.objs.size = some { cls := .type "tuple", data := .seq #[.int i tk, u'] } := (sb.2 _ (Nat.ne_of_gt hel)).trans hT
    have new : ObjOk X.prog X.w (upd H s.heap.objs.size (.tup [.int (i : Nat), x])) h'' s.heap.objs.size (.tup [.int (i : Nat), x]) :=
      ⟨by show 2 ≤ sizeLine; decide, [.int i tk, u'], .cons ⟨_, rfl⟩ (.cons ru .nil), ⟨_, hT2, rfl, _, rfl⟩⟩
    have I1 : Inv X pins σ (upd H s.heap.objs.size (.tup [.int (i : Nat), x])) { s with heap := h'', toks := tk + 1 } :=
      I.turnedNew (ch := [e, it]) (fun b ob hb q => (sb.2 b (fun z => hb (by simp [z]))).trans (hk b ob (fun z => hb (by simp [z])) (fun z => hb (by simp [z])) q)) hf (Nat.le_refl _) new
    refine ⟨.ref s.heap.objs.size, _, I1, rfl, ⟨_, x, rfl, I.hok.fresh (Nat.le_refl _), rfl, fun ys hy => by rw [I.tuple_inj hy hq]; exact hx⟩, ⟨⟨u', ?_⟩, st'.1.at fun o q => (sb.2 it (Ne.symm hne)).trans q, hne, hae, hai, ?_⟩, fun b hb => ?_⟩
    · have e1 : ((i + 1 : Nat) : Int) = (i : Int) + 1 := by omega
      rw [e1]; exact he'
    · have := (List.getElem?_eq_some_iff.mp hx).1
      omega
    · have hb' : b < s.heap.objs.size := by
        have e' : b = e ∨ b = it := by simpa using hb
        rcases e' with z | z
        · rw [z]; exact hel
        · rw [z]; exact hil
      rw [upd_ne (Nat.ne_of_lt hb')]
      exact (hf b hb).1
  done := by
    intro X hP hw hK hc i pins s σ H E I hf st hg
    subst hP hw hK
    obtain ⟨⟨old, he⟩, hit, hne, hae, hai, hin⟩ := st
    obtain ⟨xs, hq, hn, hx⟩ := hg
    obtain ⟨its, rv, p, hz⟩ := I.tuple hq
    obtain ⟨f0, f1, f2, f3, f4, f5⟩ := hf it (by simp)
    have hl := rv.length
    have hi : i = its.toArray.size := by simp; omega
    exact wpAny_pyNext_enum_endD (Draws.tuple (show X.A.in1.handled = none from I.ok.hd hc) it a hai its.toArray) he (by rw [← hi]; exact ⟨hit, p⟩) fun h' eb => ⟨rfl, I.turned (t' := s.toks) (fun b o hb q => eb b o hb q) f0 f1 f3 f4 f5⟩
  self := fun A i s Q E st h => let ⟨⟨_, he⟩, _⟩ := st; wpAny_pyIter_enum he h
/-- enumerate(x), x a list or a tuple -/
def iEnumA (K : PySem.W.Frag) (ta : TA) : TI := fun σ H R => ta σ H fun vs H1 => ∃ a xs, vs = [.ref a] ∧ ((SqL K H1 a xs ∧ R (Ite K a) H1) ∨ (SqT K H1 a xs ∧ R (IteT K a xs.length) H1))
theorem pi_enumA {X : Cx} {e : Expr} {ta : TA} {p pos tpos : Pos} {elts : List Expr} {kk : Nat} (hg : Gl X "enumerate") (hm : X.mg "enumerate" = none) (ha : PA X [e] ta) (hs : starEach [e] X.env = [(false, eval e X.env)] := by rfl) :
    PI X (.Tuple elts kk tpos) (.Call (.Name "enumerate" p) [e] [] pos) (iEnumA X.K ta) := by
  refine ⟨fun pins s σ H R I h => ?_⟩
  refine Call_ (ld_blt I hg hm boot_enumerate (PyProof.Rows.callWith_type1 (thn (ha.run pos pins s σ H _ I h) fun us s1 ⟨vs, H1, I1, r1, q1⟩ => ?_) hs rfl))
  obtain ⟨a, xs, ex, q⟩ := q1
  subst ex
  cases r1 with
  | cons r rr =>
    cases rr
    cases r
    rcases q with ⟨hq, q⟩ | ⟨hq, q⟩
    · obtain ⟨its, rv, p', hz⟩ := I1.list hq
      refine call_enumerate_list p'.isList fun h' he hit hsz hk => wpAny_pyIter_enum he ?_
      have I2 : Inv X pins σ H1 { s1 with heap := h' } := I1.kept (t' := s1.toks) hk
      refine ⟨s1.heap.objs.size + 1, [s1.heap.objs.size + 1, s1.heap.objs.size], _, _, H1, rfl, I2, turn_enum a (s1.heap.objs.size + 1) s1.heap.objs.size, ⟨⟨.none, he⟩, hit, Nat.succ_ne_self _⟩, fun b hb => ?_, q⟩
      have e' : b = s1.heap.objs.size + 1 ∨ b = s1.heap.objs.size := by simpa using hb
      have hle : s1.heap.objs.size ≤ b := by
        rcases e' with z | z
        · rw [z]; exact Nat.le_add_right _ _
        · rw [z]; exact Nat.le_refl _
      exact I1.fpOk hle (I1.hok.fresh hle)
    · obtain ⟨its, rv, p', hz⟩ := I1.tuple hq
      obtain ⟨o, ho, _⟩ := id p'
      have hal : a < s1.heap.objs.size := Heap.lt_size ho
      refine enumB (begins_tuple a its.toArray) p' fun h' he hit hsz hk => wpAny_pyIter_enum he ?_
      have I2 : Inv X pins σ H1 { s1 with heap := h' } := I1.kept (t' := s1.toks) hk
      refine ⟨s1.heap.objs.size + 1, [s1.heap.objs.size + 1, s1.heap.objs.size], _, _, H1, rfl, I2, turn_enumT a (s1.heap.objs.size + 1) s1.heap.objs.size xs.length, ⟨⟨.none, he⟩, ⟨_, hit, rfl, rfl⟩, Nat.succ_ne_self _, Nat.ne_of_lt (Nat.lt_succ_of_lt hal), Nat.ne_of_lt hal, Nat.zero_le _⟩, fun b hb => ?_, q⟩
      have e' : b = s1.heap.objs.size + 1 ∨ b = s1.heap.objs.size := by simpa using hb
      have hle : s1.heap.objs.size ≤ b := by
        rcases e' with z | z
        · rw [z]; exact Nat.le_add_right _ _
        · rw [z]; exact Nat.le_refl _
      exact I1.fpOk hle (I1.hok.fresh hle)
/-! ### by data -/
/-- the turns: a loose pair of the number and the item -/
def ItP (K : PySem.W.Frag) (B : Bt) (J : It) (ds : List D) (G0 : Hp) : Prop := ∀ G H (i : Nat), Same G0 G → Ok B G H →
  (i < ds.length → J.go i H) ∧ (∀ x H', i < ds.length → J.yld i H x H' → ∃ T v d, x = .ref T ∧ SqT K H' T [.int (i : Int), v] ∧ ds[i]? = some d ∧ Go B G H G H' ∧ Ok B G H' ∧ Dd K B G v d) ∧ (i = ds.length → J.stop i H)
section
variable {K : PySem.W.Frag} {B : Bt} {δ : List Sd} {X : Xc} {O : Out}
theorem itp_list {G : Hp} {a : Addr} {vs : List V} {ds : List D} (h : G a = some (.lst vs)) (t : Dds K B G vs ds) : ItP K B (Ite K a) ds G := by
  intro G1 H1 i s o
  have h1 : SqL K H1 a vs := SqL.of (o.u _ _ (s _ _ h))
  have l := t.length
  refine ⟨fun hi => ?_, fun x H' hi y => ?_, fun e => ⟨vs, h1, by omega⟩⟩
  · obtain ⟨v, e1, _⟩ := t.get (List.getElem?_eq_getElem hi)
    exact ⟨vs, v, h1, e1⟩
  · obtain ⟨T, v, rfl, hT, rfl, f⟩ := y
    obtain ⟨d, e1, e2⟩ := t.get' (f vs h1)
    exact ⟨T, v, d, rfl, SqT.of upd_same, e1, loose_go o hT, loose_ok o hT, e2.mono s⟩
theorem itp_tup {G : Hp} {a : Addr} {ob : Obj} {vs : List V} {ds : List D} (h : G a = some (.frz ob (.tup vs))) (t : Dds K B G vs ds) : ItP K B (IteT K a vs.length) ds G := by
  intro G1 H1 i s o
  have h1 : SqT K H1 a vs := SqT.ofZ (o.u _ _ (s _ _ h))
  have l := t.length
  refine ⟨fun hi => ?_, fun x H' hi y => ?_, fun e => ⟨vs, h1, rfl, by omega⟩⟩
  · obtain ⟨v, e1, _⟩ := t.get (List.getElem?_eq_getElem hi)
    exact ⟨vs, v, h1, rfl, e1⟩
  · obtain ⟨T, v, rfl, hT, rfl, f⟩ := y
    obtain ⟨d, e1, e2⟩ := t.get' (f vs h1)
    exact ⟨T, v, d, rfl, SqT.of upd_same, e1, loose_go o hT, loose_ok o hT, e2.mono s⟩
/-- for i, x in enumerate(xs) -/
theorem ws_forE {ta : TA} {i j : Nat} {t : TS} (h : WAx K B O.x ta δ fun as => ∃ ds, (as = [.lst ds] ∨ as = [.tup ds]) ∧ ∃ I : Nat → List Sd → Prop, I 0 δ ∧ (∀ k d δ1, ds[k]? = some d → I k δ1 → WS K B t ((δ1.set i (.val (.int (k : Int)))).set j (.val d)) { nx := I (k + 1), rt := O.rt, bk := O.nx, ct := I (k + 1), x := O.x, ro := O.ro }) ∧ ∀ δ1, I ds.length δ1 → O.nx δ1) :
    WS K B (tFor (iEnumA K ta) (gTup K 2 (gCons (gName i) (gCons (gName j) gNil))) t) δ O := fun G0 H0 σ G H E s xx n r b c => by
  refine h G0 H0 σ G H _ s (xx.ct s) fun vs as G1 H1 g1 o1 hs ⟨ds, ea, I, i0, turn, last⟩ => ?_
  have main : ∀ J, ItP K B J ds G1 → ∃ W : Nat → Nat → L2.St → Hp → Prop, (∃ m, W 0 m σ H1) ∧ ∀ i' m σ H, W i' m σ H → (J.stop i' H ∧ E.nx σ H) ∨ (J.go i' H ∧ ∃ N : L2.St → Hp → Prop, (∀ σ' H', N σ' H' → ∃ m', m' < m ∧ W (i' + 1) m' σ' H') ∧ ∀ x H', J.yld i' H x H' → gTup K 2 (gCons (gName i) (gCons (gName j) gNil)) x σ H' fun σ2 H2 => t { E with nx := N, ct := N, bk := E.nx } σ2 H2) := fun J it => by
    refine ⟨fun k m σ H => m = ds.length - k ∧ k ≤ ds.length ∧ ∃ G δ1, Stt K B G0 H0 G H σ δ1 ∧ Same G1 G ∧ I k δ1, ⟨_, rfl, Nat.zero_le _, G1, δ, s.on g1 o1, Same.refl _, i0⟩, ?_⟩
    rintro k m σ2 H2 ⟨rfl, hk, G2, δ2, s2, sm, ik⟩
    obtain ⟨f1, f2, f3⟩ := it G2 H2 k sm s2.ok
    by_cases hlt : k < ds.length
    · refine .inr ⟨f1 hlt, fun σ' H' => ∃ G δ1, Stt K B G0 H0 G H' σ' δ1 ∧ Same G1 G ∧ I (k + 1) δ1, fun σ' H' hN => ⟨ds.length - (k + 1), by omega, rfl, hlt, hN⟩, fun x H' y => ?_⟩
      obtain ⟨T, v, d, rfl, sq, e1, g3, o3, hd⟩ := f2 x H' hlt y
      have s3 := ((s2.on g3 o3).setVal i (.int (k : Int))).setVal j hd
      refine ⟨_, _, rfl, sq, rfl, _, _, rfl, _, _, rfl, rfl, ?_⟩
      refine turn k d δ2 e1 ik G0 H0 _ G2 H' _ s3 (xx.on (g1.s.trans sm)) (fun σ4 δ4 G4 H4 m4 s4 p4 => ⟨G4, δ4, s4, sm.trans m4, p4⟩) r (fun σ4 δ4 G4 H4 m4 s4 p4 => n _ _ _ _ ((g1.s.trans sm).trans m4) s4 p4) (fun σ4 δ4 G4 H4 m4 s4 p4 => ⟨G4, δ4, s4, sm.trans m4, p4⟩)
    · have ek : k = ds.length := by omega
      subst ek
      exact .inl ⟨f3 rfl, n _ _ _ _ (g1.s.trans sm) s2 (last δ2 ik)⟩
  rcases ea with ea | ea
  · subst ea
    cases hs with
    | cons h1 t1 =>
      cases t1
      cases h1 with
      | lst hg ht => exact ⟨_, _, rfl, .inl ⟨SqL.of (o1.u _ _ hg), main _ (itp_list hg ht)⟩⟩
  · subst ea
    cases hs with
    | cons h1 t1 =>
      cases t1
      cases h1 with
      | tup hg ht => exact ⟨_, _, rfl, .inr ⟨SqT.ofZ (o1.u _ _ hg.1), main _ (itp_tup hg.1 ht)⟩⟩
end
end Dl
/-! Wl: a dict of the def's own that grows, by a base that grows with it; list.pop. -/
namespace Dl
open PySem PySem.Spec PyProof.Rows L2
/-- x in d, x not in d, of a dict -/
def rNotInK : R2 := fun x y H Q => ∃ a ov, y = .ref a ∧ DGet H a x ov ∧ Q (.bl (!ov.isSome)) H
theorem op_dnotin {X : Cx} (hu : X.A.units + 1 < cLine) : OpR X (compareOp .NotIn) rNotInK := by
  intro pins s σ H x y v u Q I rx ry h
  obtain ⟨a, ov, e, g, q⟩ := h
  subst e
  cases (show u = Value.ref a from ry)
  exact d_notIn hu I g rx fun s' I' => ⟨.bl (!ov.isSome), H, I', rfl, q⟩
theorem u1 {k : Nat} {A : Around} (hr : Room k A) : A.units + 1 < cLine := by have := hr.un; omega
theorem nt_dK {kvs : List (Key × V)} : nt (.dK kvs) := fun _ z => nomatch z
section
variable {K : PySem.W.Frag} {B : Bt} {G0 H0 G H G1 H1 : Hp} {σ : L2.St} {δ : List Sd} {O : Out} {p : Addr} {kvs kvs' : List (Key × V)}
theorem ws_pop {i j : Nat} {ds : List D} {d : D} {T : String} (hT : T = "list") (h : δ[i]? = some (.own (ds ++ [d]))) (w : O.nx ((δ.set i (.own ds)).set j (.val d))) : WS K B (tAsg (tBM0 K T rPop (tVar i)) (gName j)) δ O := fun G0 H0 σ G H E s xx n _ _ _ => by
  obtain ⟨a, vs, e1, nb, e0, eg, e2, e3⟩ := s.own i _ h
  obtain ⟨ws, v, rfl, hw, hv⟩ : ∃ ws v, vs = ws ++ [v] ∧ Dds K B G ws ds ∧ Dd K B G v d := by
    clear s h e2 w xx n
    induction ds generalizing vs with
    | nil =>
      cases e3 with
      | cons h1 t => cases t; exact ⟨[], _, rfl, .nil, h1⟩
    | cons x ds ih =>
      cases e3 with
      | cons h1 t =>
        obtain ⟨ws, v, rfl, h2, h3⟩ := ih _ t
        exact ⟨_ :: ws, v, rfl, .cons h1 h2, h3⟩
  refine ⟨_, e1, .inl ⟨hT, _, SqL.of e2⟩, a, ws ++ [v], v, rfl, rfl, e2, ?_, ?_⟩
  · rw [List.length_append, List.length_singleton, Nat.add_sub_cancel, List.getElem?_append_right (Nat.le_refl _), Nat.sub_self]; rfl
  · rw [List.dropLast_concat]
    exact n _ _ G _ (Same.refl _) ((s.putOwn h e1 hw (vs := [])).setVal j hv) w
structure DBs (B : Bt) (G0 H0 : Hp) (p : Addr) : Prop where
  nb : p ≠ B.a
  h0 : ∀ o, nt o → H0 p ≠ some o
  g0 : G0 p = none
theorem Stt.up (s : Stt K B G0 H0 G H σ δ) (hp : H p = none) (i : Nat) : DBs B G0 H0 p ∧ Stt K B G0 (upd H0 p (.dK kvs)) G (upd H p (.dK kvs)) (σ.set i (some (.ref p))) (δ.set i (.val (.adr p))) := by
  have nb := s.ok.neB hp
  have gp := s.ok.fresh hp
  have s2 : Stt K B G0 (upd H0 p (.dK kvs)) G (upd H p (.dK kvs)) σ δ := by
    refine ⟨⟨s.go.s, fun a o na ht h => ?_, fun a o ht h g => ?_, fun c r h => ?_⟩, loose_ok s.ok hp, s.len, s.val, fun i ds e => ?_, s.apart⟩
    · by_cases e : a = p
      · rw [e, upd_same] at h ⊢; exact h
      · rw [upd_ne e] at h ⊢; exact s.go.k a o na ht h
    · by_cases e : a = p
      · rw [e]; exact gp
      · rw [upd_ne e] at h; exact s.go.n a o ht h g
    · rw [upd_ne nb.symm] at h
      rw [upd_ne nb.symm]
      exact s.go.c c r h
    · obtain ⟨a, vs, e1, e2, e3, e4, e5, e6⟩ := s.own i ds e
      have na : a ≠ p := fun z => by rw [z, hp] at e5; cases e5
      exact ⟨a, vs, e1, e2, fun o ht => by rw [upd_ne na]; exact e3 o ht, e4, by rw [upd_ne na]; exact e5, e6⟩
  refine ⟨⟨nb, fun o ht h => ?_, ?_⟩, s2.setVal i (.adr p)⟩
  · have := s.go.k p o nb ht h
    rw [hp] at this; cases this
  · cases e : G0 p with
    | none => rfl
    | some o => rw [s.go.s p o e] at gp; cases gp
theorem Stt.dk (s : Stt K B G0 (upd H0 p (.dK kvs)) G H σ δ) (b : DBs B G0 H0 p) : H p = some (.dK kvs) ∧ G p = none := ⟨s.go.k p _ b.nb nt_dK upd_same, s.go.n p _ nt_dK upd_same b.g0⟩
theorem Stt.putK (s : Stt K B G0 (upd H0 p (.dK kvs)) G H σ δ) (b : DBs B G0 H0 p) : Stt K B G0 (upd H0 p (.dK kvs')) G (upd H p (.dK kvs')) σ δ := by
  obtain ⟨hp, gp⟩ := s.dk b
  have nb := b.nb
  refine ⟨⟨s.go.s, fun a o na ht h => ?_, fun a o ht h g => ?_, fun c r h => ?_⟩, ⟨fun a u e => ?_, s.ok.b, ?_, ?_, s.ok.f⟩, s.len, s.val, fun i ds e => ?_, s.apart⟩
  · by_cases e : a = p
    · rw [e, upd_same] at h ⊢; exact h
    · rw [upd_ne e] at h ⊢; exact s.go.k a o na ht (by rw [upd_ne e]; exact h)
  · by_cases e : a = p
    · rw [e]; exact gp
    · rw [upd_ne e] at h; exact s.go.n a o ht (by rw [upd_ne e]; exact h) g
  · rw [upd_ne nb.symm] at h
    rw [upd_ne nb.symm]
    exact s.go.c c r (by rw [upd_ne nb.symm]; exact h)
  · rw [upd_ne (ne_of_none e gp)]; exact s.ok.u a u e
  · obtain ⟨c, cells, p', r, m, n, e, g', k⟩ := s.ok.x
    exact ⟨c, cells, p', r, m, n, by rw [upd_ne nb.symm]; exact e, g', k⟩
  · intro q hq
    obtain ⟨ps, h1, h2, h3⟩ := s.ok.t q hq
    refine ⟨ps, by rw [upd_ne (fun e => by rw [e, hp] at h1; cases h1)]; exact h1, h2, fun pos cv hc => ?_⟩
    obtain ⟨c, e1, e2⟩ := h3 pos cv hc
    refine ⟨c, e1, ?_⟩
    rw [upd_ne (fun e => by
      rw [e, hp] at e2
      have e3 : HO.dK kvs = LamX.CodeO p q.2 := Option.some.inj e2
      unfold LamX.CodeO at e3
      cases e3)]
    exact e2
  · obtain ⟨a, vs, e1, e2, e3, e4, e5, e6⟩ := s.own i ds e
    have na : a ≠ p := fun z => by rw [z, hp] at e5; cases e5
    exact ⟨a, vs, e1, e2, fun o ht => by have := e3 o ht; rw [upd_ne na] at this ⊢; exact this, e4, by rw [upd_ne na]; exact e5, e6⟩
theorem Go.down (g : Go B G0 (upd H0 p (.dK kvs)) G H) (b : DBs B G0 H0 p) : Go B G0 H0 G H :=
  ⟨g.s, fun a o na ht h => g.k a o na ht (by rw [upd_ne (fun (e : a = p) => b.h0 o ht (e ▸ h))]; exact h), fun a o ht h gg => g.n a o ht (by rw [upd_ne (fun (e : a = p) => b.h0 o ht (e ▸ h))]; exact h) gg, fun c r h => g.c c r (by rw [upd_ne b.nb.symm]; exact h)⟩
theorem rt_up {r : VK} (h : RT K B O G0 H0 r) (b : DBs B G0 H0 p) : RT K B O G0 (upd H0 p (.dK kvs)) r :=
  ⟨fun v d G1 H1 g o hd hp => h.1 v d G1 H1 (g.down b) o hd hp, fun a vs ds G1 H1 g o na h0 g1 h1 hd hp => h.2 a vs ds G1 H1 (g.down b) o na (fun u ht e => by
    by_cases z : a = p
    · exact b.h0 u ht (z ▸ e)
    · exact h0 u ht (by rw [upd_ne z]; exact e)) g1 h1 hd hp⟩
theorem xs_no {Hb : Hp} {X : Xc} (h : ∀ δ C ks ds, ¬ X.ex δ C ks ds) : XS K B X G0 Hb G := fun _ δ1 _ _ _ _ C _ ks ds _ e => (h δ1 C ks ds e).elim
theorem Stt.down (s : Stt K B G0 (upd H0 p (.dK kvs)) G H σ δ) (b : DBs B G0 H0 p) : Stt K B G0 H0 G H σ δ := by
  obtain ⟨hp, gp⟩ := s.dk b
  refine ⟨s.go.down b, s.ok, s.len, s.val, fun i ds e => ?_, s.apart⟩
  obtain ⟨a, vs, e1, e2, e3, e4, e5, e6⟩ := s.own i ds e
  have na : a ≠ p := fun z => by rw [z, hp] at e5; cases e5
  exact ⟨a, vs, e1, e2, fun o ht z => e3 o ht (by rw [upd_ne na]; exact z), e4, e5, e6⟩
/-- enumerate of a list or a tuple that is read, for a loop by hand -/
theorem enumA_any {R : It → Hp → Prop} {i : Nat} {d : D} {ds : List D} (s : Stt K B G0 H0 G H σ δ) (h : δ[i]? = some (.val d)) (e : d = .lst ds ∨ d = .tup ds) (r : ∀ J, ItP K B J ds G → R J H) : iEnumA K (tCons (tVar i) tNil) σ H R := by
  obtain ⟨v0, ev, hv⟩ := s.val i d h
  rcases e with e | e
  · subst e
    cases hv with
    | lst hg ht => exact ⟨_, ev, _, _, rfl, .inl ⟨SqL.of (s.ok.u _ _ hg), r _ (itp_list hg ht)⟩⟩
  · subst e
    cases hv with
    | tup hg ht => exact ⟨_, ev, _, _, rfl, .inr ⟨SqT.ofZ (s.ok.u _ _ hg.1), r _ (itp_tup hg.1 ht)⟩⟩
end
end Dl
/-! Wm: methods of the program's classes by data. -/
namespace Dl
open PySem PySem.Spec PyProof.Rows L2
section
variable {P : Program} {w : World} {K : PySem.W.Frag} {mg : Str → Option Value} {base : Heap}
/-- a method's promise -/
structure ClM (P : Program) (w : World) (K : PySem.W.Frag) (mg : Str → Option Value) (base : Heap) (k : Nat) (f : Addr) (fd : FuncData) (ps : List Str) (sp : Sp) : Prop where
  ok : FnOk P w K mg base CX0 k f fd ps sp
  bn : Binds K fd ps []
theorem clm_of {x q : Str} {st : Stmt} {f : Addr} {fd : FuncData} {N ps : List Str} {k : Nat} {pre : List D → Prop} {post : List D → D → Prop} (F : Fun K x q st f fd) (S : FnScope N ps (defScope st))
    (hb : ∀ (kV doc pm : Value) (an : Option Addr) (cdv ct : Value) (us : List Value), us.length = ps.length → bindArgs (PySem.W.fnOf x q (defArgs st) (defBody st) (defScope st) .none kV doc pm an cdv ct) ⟨us, []⟩ = pure (ps.zip us))
    (hl : ∀ ds, pre ds → ds.length = ps.length)
    (h : ∀ (cdv : Value) (A : Around) (outer : List Env) (s : Shared) (H : Hp) (E : XK), Room k (A.deeper (envOfC q (defScope st) s.heap.objs.size f cdv)) →
      ∃ t, PSs (cxOf CX0 P w K mg base N q (defScope st) f cdv A outer s H E).nox (defBody st) t ∧ ∀ B ds, pre ds → WS K B t (init N ds) { nx := fun _ => post ds .non, rt := post ds }) : ClM P w K mg base (k + 1) f fd ps (SpD K pre post) := by
  refine ⟨F.ok S (fun vs H Q E hsp => ?_) (fun cdv A outer s H vs Q E hr hsp => ?_), F.binds hb⟩
  · obtain ⟨B, G, ds, o, hs, p, q⟩ := hsp
    exact hs.length.trans (hl ds p)
  · obtain ⟨B, G, ds, o, hs, p, q⟩ := hsp
    obtain ⟨t, ht, ww⟩ := h cdv A outer s H E hr
    exact ⟨t, ht, ww B ds p G H _ G H _ (stt_start o hs) xs0 (fun σ1 δ1 G1 H1 _ s1 z => q .non .non G1 H1 s1.go s1.ok .non z) ⟨fun v d G1 H1 g o1 hd z => q v d G1 H1 g o1 hd z, fun _ _ _ _ _ _ _ _ _ _ _ _ z => z.elim⟩ (fun _ _ _ _ _ _ z => z.elim) (fun _ _ _ _ _ _ z => z.elim)⟩
/-- an __init__ -/
theorem clmi_of {x q : Str} {st : Stmt} {f C : Addr} {fd : FuncData} {N ps : List Str} {k : Nat} {pre : List D → Prop} {post : List D → D → Prop} (F : Fun K x q st f fd) (S : FnScope N ps (defScope st))
    (hb : ∀ (kV doc pm : Value) (an : Option Addr) (cdv ct : Value) (us : List Value), us.length = ps.length → bindArgs (PySem.W.fnOf x q (defArgs st) (defBody st) (defScope st) .none kV doc pm an cdv ct) ⟨us, []⟩ = pure (ps.zip us))
    (hl : ∀ ds, pre ds → ds.length + 1 = ps.length)
    (h : ∀ (cdv : Value) (A : Around) (outer : List Env) (s : Shared) (H : Hp) (E : XK), Room k (A.deeper (envOfC q (defScope st) s.heap.objs.size f cdv)) →
      ∃ t, PSs (cxOf CX0 P w K mg base N q (defScope st) f cdv A outer s H E).nox (defBody st) t ∧ ∀ B ds, pre ds → ∀ (G H1 H : Hp) (x dx : Addr) (σ : L2.St) (Q : VK), Fil K B C x dx G H1 G H [] [] → Stt K B G H G H σ (init N (.adr x :: ds)) →
        (∀ d G2 H2, Go B G H1 G2 H2 → Ok B G2 H2 → Dd K B G2 (.ref x) d → post ds d → Q .non H2) → t { nx := fun _ H' => Q .non H', rt := Q } σ H) : ClM P w K mg base (k + 1) f fd ps (SpI K C pre post) := by
  refine ⟨F.ok S (fun vs H Q E hsp => ?_) (fun cdv A outer s H vs Q E hr hsp => ?_), F.binds hb⟩
  · obtain ⟨B, G, H1, x, dx, ws, ds, rfl, nx, ndx, ne, rfl, o, hs, p, q⟩ := hsp
    rw [List.length_cons, hs.length]
    exact hl ds p
  · obtain ⟨B, G, H1, x, dx, ws, ds, rfl, nx, ndx, ne, rfl, o, hs, p, q⟩ := hsp
    obtain ⟨t, ht, ww⟩ := h cdv A outer s _ E hr
    have f := Fil.start (K := K) (C := C) o nx ndx ne
    exact ⟨t, ht, ww B ds p G H1 _ x dx _ Q f (stt_start f.ok (.cons (.adr x) hs)) q⟩
/-- .. a new list -/
theorem clmn_of {x q : Str} {st : Stmt} {f : Addr} {fd : FuncData} {N ps : List Str} {k : Nat} {pre : List D → Prop} {post : List D → List D → Prop} (F : Fun K x q st f fd) (S : FnScope N ps (defScope st))
    (hb : ∀ (kV doc pm : Value) (an : Option Addr) (cdv ct : Value) (us : List Value), us.length = ps.length → bindArgs (PySem.W.fnOf x q (defArgs st) (defBody st) (defScope st) .none kV doc pm an cdv ct) ⟨us, []⟩ = pure (ps.zip us))
    (hl : ∀ ds, pre ds → ds.length = ps.length)
    (h : ∀ (cdv : Value) (A : Around) (outer : List Env) (s : Shared) (H : Hp) (E : XK), Room k (A.deeper (envOfC q (defScope st) s.heap.objs.size f cdv)) →
      ∃ t, PSs (cxOf CX0 P w K mg base N q (defScope st) f cdv A outer s H E).nox (defBody st) t ∧ ∀ B ds, pre ds → WS K B t (init N ds) { nx := fun _ => False, rt := fun _ => False, ro := post ds }) : ClM P w K mg base (k + 1) f fd ps (SpN K pre post) := by
  refine ⟨F.ok S (fun vs H Q E hsp => ?_) (fun cdv A outer s H vs Q E hr hsp => ?_), F.binds hb⟩
  · obtain ⟨B, G, ds, o, hs, p, q⟩ := hsp
    exact hs.length.trans (hl ds p)
  · obtain ⟨B, G, ds, o, hs, p, q⟩ := hsp
    obtain ⟨t, ht, ww⟩ := h cdv A outer s H E hr
    exact ⟨t, ht, ww B ds p G H _ G H _ (stt_start o hs) xs0 (fun σ1 δ1 G1 H1 _ s1 z => z.elim) ⟨fun v d G1 H1 g o1 hd z => z.elim, fun a vs es G1 H1 g o1 nb fr ga ha hd z => q a vs es G1 H1 g o1 nb fr ga ha hd z⟩ (fun _ _ _ _ _ _ z => z.elim) (fun _ _ _ _ _ _ z => z.elim)⟩
theorem ClM.frz {f : Addr} {fd : FuncData} {k : Nat} {ps : List Str} {pre : List D → Prop} {post : List D → List D → Prop} {post' : List D → D → Prop} (c : ClM P w K mg base k f fd ps (SpN K pre post)) (h : ∀ ds es, post ds es → post' ds (.lst es)) : ClM P w K mg base k f fd ps (SpD K pre post') :=
  ⟨c.ok.imp fun vs H Q E ⟨B, G, ds, o, hs, p, q⟩ => ⟨B, G, ds, o, hs, p, fun a ws es G1 H1 g o1 nb fr ga ha hd z => q (.ref a) (.lst es) (upd G1 a (.lst ws)) H1 ⟨g.s.trans (same_upd ga), g.k, fun b u ht e hg => by
    rw [upd_ne (fun e2 => fr u ht (by rw [← e2]; exact e))]; exact g.n b u ht e hg, g.c⟩ (freeze_ok o1 nt_lst nb ga ha) (.lst upd_same (hd.mono (same_upd ga))) (h ds es z)⟩, c.bn⟩
end
section
variable {K : PySem.W.Frag} {B : Bt} {δ : List Sd} {O : Out} {X : Xc} {P : D → Prop}
abbrev rListOf (K : PySem.W.Frag) : List V → Hp → VK → Prop := fun xs H Q => ∃ p ys, xs = [.ref p] ∧ (SqL K H p ys ∨ SqT K H p ys) ∧ ∀ l, H l = none → Q (.ref l) (upd H l (.lst ys))
/-- return list(xs): a new list -/
theorem ws_retL {ta : TA} (h : WAx K B O.x ta δ fun as => ∃ ds, (as = [.lst ds] ∨ as = [.tup ds]) ∧ O.ro ds) : WS K B (tRet (tCB (rListOf K) ta)) δ O := fun G0 H0 σ G H E s xx n r _ _ => by
  refine h G0 H0 σ G H _ s (xx.ct s) fun vs as G1 H1 g1 o1 hs ⟨ds, e, p⟩ => ?_
  have go : ∀ ys, Dds K B G1 ys ds → ∀ l, H1 l = none → E.rt (.ref l) (upd H1 l (.lst ys)) := fun ys hy l hl => by
    have s1 := s.on g1 o1
    have nb := o1.neB hl
    refine r.2 l ys ds G1 _ (s1.go.trans o1 (loose_go o1 hl)) (loose_ok o1 hl) nb (fun o ht e => ?_) (o1.fresh hl) upd_same hy p
    have := s1.go.k l o nb ht e
    rw [hl] at this
    cases this
  rcases e with e | e
  · subst e
    cases hs with
    | cons h1 t1 =>
      cases t1
      cases h1 with
      | lst hg ht => exact ⟨_, _, rfl, .inl (SqL.of (o1.u _ _ hg)), go _ ht⟩
  · subst e
    cases hs with
    | cons h1 t1 =>
      cases t1
      cases h1 with
      | tup hg ht => exact ⟨_, _, rfl, .inr (SqT.ofZ (o1.u _ _ hg.1)), go _ ht⟩
/-- isinstance(x, C), C a class of the program -/
theorem rc_isiO {C : Addr} {d : D} {t : Value} {b : Bool} (ht : ∀ G H v, Ok B G H → Dd K B G v d → TyX K H v t) (hk : PySem.W.kitOne K t (.ref C) = some b) (p : P (.bl b)) : RC K B (rIsi K) [d, .adr C] P := fun G H vs Q o hs q => by
  cases hs with
  | cons h1 t1 =>
    cases t1 with
    | cons h2 t2 =>
      cases t2
      cases h2
      exact ⟨_, _, t, _, b, rfl, .own C, ht G H _ o h1, hk, q.nil o (.bl b) p⟩
theorem we_adr {C : Addr} (p : P (.adr C)) : WEx K B X (tC (.ref C)) δ P := fun G0 H0 σ G H Q s xx q => q (.ref C) (.adr C) G H Go.refl s.ok (.adr C) p
end
end Dl
/-! Wn: a class's own ==, len, repr, bool by data. -/
namespace Dl
open PySem PySem.Spec PyProof.Rows L2
section
variable {K : PySem.W.Frag} {B : Bt} {P : D → Prop} {C : Addr} {ks : List Str} {ds : List D} {pre : List D → Prop} {post : List D → D → Prop}
theorem rc_olen (p : pre [.obj C ks ds]) (m : ∀ r, post [.obj C ks ds] r → ∃ k : Nat, r = .int k ∧ k ≤ 1000000 ∧ P (.int k)) : RC K B (rOlen C (SpD K pre post)) [.obj C ks ds] P := fun G H vs Q o hs q => by
  cases hs with
  | cons h1 t1 =>
    cases t1
    cases h1 with
    | obj hg t => exact ⟨_, _, _, rfl, o.u _ _ hg, B, G, _, o, .cons (.obj hg t) .nil, p, fun v' d' G3 H3 g3 o3 hd pd => by
        obtain ⟨k, e, hk, p'⟩ := m d' pd
        subst e
        cases hd
        exact ⟨k, rfl, hk, q (.int k) (.int k) G3 H3 g3 o3 (.int k) p'⟩⟩
theorem rc_orepr (p : pre [.obj C ks ds]) (m : ∀ r, post [.obj C ks ds] r → ∃ z : Str, r = .str z ∧ P (.str z)) : RC K B (rOrepr C (SpD K pre post)) [.obj C ks ds] P := fun G H vs Q o hs q => by
  cases hs with
  | cons h1 t1 =>
    cases t1
    cases h1 with
    | obj hg t => exact ⟨_, _, _, rfl, o.u _ _ hg, B, G, _, o, .cons (.obj hg t) .nil, p, fun v' d' G3 H3 g3 o3 hd pd => by
        obtain ⟨z, e, p'⟩ := m d' pd
        subst e
        cases hd
        exact ⟨z, rfl, q (.str z) (.str z) G3 H3 g3 o3 (.str z) p'⟩⟩
theorem ro_oeq {no : Bool} {e : D} {t : Value} (p : pre [.obj C ks ds, e]) (ht : ∀ G H v, Ok B G H → Dd K B G v e → TyX K H v t) (nf : PySem.W.notFirst K C t = true) (m : ∀ r, post [.obj C ks ds, e] r → ∃ b : Bool, r = .bl b ∧ P (.bl (no.xor b))) : RO K B (rOeq K C (SpD K pre post) no) (.obj C ks ds) e P := fun G H x y Q o hx hy q => by
  cases hx with
  | obj hg tt => exact ⟨_, _, _, t, rfl, o.u _ _ hg, ht G H y o hy, nf, B, G, _, o, .cons (.obj hg tt) (.cons hy .nil), p, fun v' d' G3 H3 g3 o3 hd pd => by
      obtain ⟨b, e', p'⟩ := m d' pd
      subst e'
      cases hd
      exact ⟨b, rfl, q _ _ G3 H3 g3 o3 (.bl _) p'⟩⟩
end
end Dl
/-! Wo: a list of the def's own that is only read: by a new copy of it (list, tuple). -/
namespace Dl
open PySem PySem.Spec PyProof.Rows L2
section
variable {K : PySem.W.Frag} {B : Bt} {G H G1 H1 : Hp} {δ : List Sd} {P : D → Prop} {X : Xc}
theorem melt_at {a : Addr} {vs : List V} (o1 : Ok B G H) (nb : a ≠ B.a) (eg : G a = none) (e2 : H a = some (.lst vs)) (g2 : Go B (upd G a (.lst vs)) H G1 H1) (o2 : Ok B G1 H1) : ∃ G3 : Hp, (∀ x, x ≠ a → G3 x = G1 x) ∧ Go B G H G3 H1 ∧ Ok B G3 H1 := by
  have sf : Same G (upd G a (.lst vs)) := same_upd eg
  let G3 : Hp := fun x => if x = a then none else G1 x
  have sub : Same G3 G1 := fun x u e => by
    by_cases ex : x = a
    · have e' : (if x = a then none else G1 x) = some u := e
      rw [if_pos ex] at e'; cases e'
    · have e' : (if x = a then none else G1 x) = some u := e
      rw [if_neg ex] at e'; exact e'
  have at3 : ∀ x, x ≠ a → G3 x = G1 x := fun x ex => if_neg ex
  refine ⟨G3, at3, ⟨fun x u e => ?_, g2.k, fun x u ht hx hg => ?_, g2.c⟩, ⟨sub.trans o2.u, by rw [at3 B.a nb.symm]; exact o2.b, ?_, o2.t, fun x u e => o2.f x u (sub x u e)⟩⟩
  · rw [at3 x (ne_of_none e eg)]; exact g2.s x u (sf x u e)
  · by_cases ex : x = a
    · exact if_pos ex
    · rw [at3 x ex]; exact g2.n x u ht hx (by rw [upd_ne ex]; exact hg)
  · obtain ⟨c, cells, p, r, m, n, hB, hc, w⟩ := o2.x
    obtain ⟨c1, cells1, p1, r1, m1, n1, hB1, hc1, _⟩ := o1.x
    obtain ⟨r', hB'⟩ := g2.c c1 _ hB1
    rw [hB] at hB'
    have ec : c = c1 := by
      have := HO.lst.inj (Option.some.inj hB')
      exact V.ref.inj (List.cons.inj this).1
    have nca : c ≠ a := by rw [ec]; exact ne_of_none hc1 eg
    exact ⟨c, cells, p, r, m, n, hB, by rw [at3 c nca]; exact hc, w⟩
/-- list(xs), xs a list of the def's own: a new list -/
theorem we_listO {i : Nat} {ds : List D} (h : δ[i]? = some (.own ds)) (p : P (.lst ds)) : WEx K B X (tCB (rListOf K) (tCons (tVar i) tNil)) δ P := fun G0 H0 σ G H Q s xx q => by
  obtain ⟨a, vs, e1, nb, e0, eg, e2, e3⟩ := s.own i ds h
  refine ⟨_, e1, a, vs, rfl, .inl (SqL.of e2), fun l hl => ?_⟩
  exact q.new s.ok nt_lst hl (.lst upd_same (e3.mono (same_upd (s.ok.fresh hl)))) p
/-- tuple(xs), xs a list of the def's own -/
theorem we_tupO {i : Nat} {ds : List D} (h : δ[i]? = some (.own ds)) (p : P (.tup ds)) : WEx K B X (tCB (zOf K) (tCons (tVar i) tNil)) δ P := fun G0 H0 σ G H Q s xx q => by
  obtain ⟨a, vs, e1, nb, e0, eg, e2, e3⟩ := s.own i ds h
  exact ⟨_, e1, a, vs, rfl, .inl ⟨SqL.of e2, fun l ob hl hd => q.new s.ok nt_tup hl (.tup ⟨upd_same, hd⟩ (e3.mono (same_upd (s.ok.fresh hl)))) p⟩⟩
end
end Dl
/-! Wp: new lists by methods, stores into a list of one's own, bool of an instance, two names of which one gets a new list. -/
namespace Dl
open PySem PySem.Spec PyProof.Rows L2
section
variable {K : PySem.W.Frag} {B : Bt} {δ : List Sd} {P : D → Prop} {X : Xc} {O : Out} {C : Addr} {m : Str} {E : XK} {pre : List D → Prop} {post : List D → List D → Prop} {te : TE} {ta : TA}
/-- x = o.m(..), a new list -/
theorem ws_setNM {i : Nat} (h : WEx K B O.x te δ fun d => ∃ ks ds, d = .obj C ks ds ∧ (ks.zip ds).lookup m = none ∧ WAx K B O.x ta δ fun as => pre (d :: as) ∧ ∀ es, post (d :: as) es → O.nx (δ.set i (.own es))) : WS K B (tAsg (tMeth C m (SpN K pre post) [] E te ta) (gName i)) δ O := fun G0 H0 σ G H E' s xx n _ _ _ =>
  h G0 H0 σ G H _ s (xx.ct s) fun v d G1 H1 g1 o1 hv ⟨ks, ds, e, l, w⟩ => by
    subst e
    cases hv with
    | obj h1 t =>
      refine ⟨_, _, _, rfl, o1.u _ _ h1, lookup_nod (by rw [← t.length, List.length_map]) l, w G0 H0 σ G1 H1 _ (s.on g1 o1) ((xx.ct s).on g1 o1) fun vs as G2 H2 g2 o2 hs ⟨p, mm⟩ => ?_⟩
      rw [List.append_nil]
      have s2 := (s.on g1 o1).on g2 o2
      refine ⟨B, G2, _, o2, .cons (.obj (g2.s _ _ h1) (t.mono g2.s)) hs, p, fun a ws es G3 H3 g3 o3 nb fr ga ha hd pe => ?_⟩
      have s3 := s2.on g3 o3
      have fr0 : ∀ o, nt o → H0 a ≠ some o := fun o ht e => fr o ht (s2.go.k a o nb ht e)
      refine n _ _ G3 H3 ((g1.s.trans g2.s).trans g3.s) (s3.tookOwn i nb fr0 ga ha hd fun j fs b e1 e2 eb => ?_) (mm es pe)
      obtain ⟨b', us, f1, f2, f3, f4, f5, f6⟩ := s2.own j fs e1
      rw [e2] at f1
      cases f1
      exact fr _ nt_lst (eb ▸ f5)
/-- o.m(..).append(e): a new list that nobody keeps -/
theorem ws_dropNM {T : String} (hT : T = "list") (h : WEx K B O.x te δ fun d => ∃ ks ds, d = .obj C ks ds ∧ (ks.zip ds).lookup m = none ∧ WAx K B O.x ta δ fun as => pre (d :: as) ∧ ∀ es, post (d :: as) es → es.length < 1000 ∧ O.nx δ) {c : V} {dc : D} (hc : ∀ G, Dd K B G c dc) :
    WS K B (tDrop (tBM K T rAppend (tMeth C m (SpN K pre post) [] E te ta) (tCons (tC c) tNil))) δ O := fun G0 H0 σ G H E' s xx n _ _ _ =>
  h G0 H0 σ G H _ s (xx.ct s) fun v d G1 H1 g1 o1 hv ⟨ks, ds, e, l, w⟩ => by
    subst e
    cases hv with
    | obj h1 t =>
      refine ⟨_, _, _, rfl, o1.u _ _ h1, lookup_nod (by rw [← t.length, List.length_map]) l, w G0 H0 σ G1 H1 _ (s.on g1 o1) ((xx.ct s).on g1 o1) fun vs as G2 H2 g2 o2 hs ⟨p, mm⟩ => ?_⟩
      rw [List.append_nil]
      have s2 := (s.on g1 o1).on g2 o2
      refine ⟨B, G2, _, o2, .cons (.obj (g2.s _ _ h1) (t.mono g2.s)) hs, p, fun a ws es G3 H3 g3 o3 nb fr ga ha hd pe => ?_⟩
      obtain ⟨lm, nx⟩ := mm es pe
      have s3 := s2.on g3 o3
      refine ⟨.inl ⟨hT, _, SqL.of ha⟩, a, ws, c, rfl, rfl, ha, Nat.lt_of_le_of_lt (by rw [hd.length]; omega : ws.length ≤ 1000) (by decide), ?_⟩
      -- the list is nobody's: the state stands
      have fr0 : ∀ o, nt o → H0 a ≠ some o := fun o ht e => fr o ht (s2.go.k a o nb ht e)
      have s4 : Stt K B G0 H0 G3 (upd H3 a (.lst (ws ++ [c]))) σ δ := by
        refine ⟨⟨s3.go.s, fun x u ne ht e => ?_, s3.go.n, fun c' r e => ?_⟩, write_ok s3.ok ha ga nb, s3.len, s3.val, fun j es' e => ?_, s3.apart⟩
        · rw [upd_ne (fun q => fr0 u ht (by rw [← q]; exact e))]
          exact s3.go.k x u ne ht e
        · rw [upd_ne nb.symm]; exact s3.go.c c' r e
        · obtain ⟨b, us, f1, f2, f3, f4, f5, f6⟩ := s2.own j es' e
          obtain ⟨b', us', k1, k2, k3, k4, k5, k6⟩ := s3.own j es' e
          rw [f1] at k1
          cases k1
          have nba : b ≠ a := fun eb => fr _ nt_lst (eb ▸ f5)
          exact ⟨b, us', f1, k2, k3, k4, by rw [upd_ne nba]; exact k5, k6⟩
      exact n _ _ G3 _ ((g1.s.trans g2.s).trans g3.s) s4 nx
/-- x[0] = e, x a list of one's own -/
theorem ws_put0 {i : Nat} {d : D} {ds : List D} (h : δ[i]? = some (.own (d :: ds))) (he : WEx K B O.x te δ fun x => O.nx (δ.set i (.own (x :: ds)))) : WS K B (tAsg te (gSub (tVar i) (tC (.int 0)) rSetL)) δ O := fun G0 H0 σ G H E s xx n _ _ _ =>
  he G0 H0 σ G H _ s (xx.ct s) fun v x G1 H1 g o hd p => by
    have s1 := s.on g o
    obtain ⟨a, vs, e1, nb, e0, eg, e2, e3⟩ := s1.own i _ h
    refine ⟨_, e1, a, vs, 0, 0, rfl, rfl, e2, ?_, ?_⟩
    · cases e3 with
      | cons h1 t => simp [ixN]
    · cases e3 with
      | cons h1 t => exact n _ _ G1 _ g.s (s1.putOwn h e1 (.cons hd t) (vs := [])) p
/-- bool(x) by __len__ -/
theorem rc_obool {ks : List Str} {ds : List D} {post : List D → D → Prop} (p : pre [.obj C ks ds]) (mm : ∀ r, post [.obj C ks ds] r → ∃ k : Nat, r = .int k ∧ k ≤ 1000000 ∧ P (.bl (decide (k ≠ 0)))) : RC K B (rObool C (SpD K pre post)) [.obj C ks ds] P := fun G H vs Q o hs q => by
  cases hs with
  | cons h1 t1 =>
    cases t1
    cases h1 with
    | obj hg t => exact ⟨_, _, _, rfl, o.u _ _ hg, B, G, _, o, .cons (.obj hg t) .nil, p, fun v' d' G3 H3 g3 o3 hd pd => by
        obtain ⟨k, e, hk, p'⟩ := mm d' pd
        subst e
        cases hd
        exact ⟨k, rfl, hk, q (.bl _) (.bl _) G3 H3 g3 o3 (.bl _) p'⟩⟩
/-- x, y = (e, f(..)), f hands on a new list -/
theorem ws_parN {i j : Nat} (h : WEx K B O.x te δ fun d => WAx K B O.x ta δ fun ds => pre ds ∧ ∀ es, post ds es → O.nx ((δ.set i (.val d)).set j (.own es))) : WS K B (tPar i j (tCons te (tCons (tCall (SpN K pre post) [] E ta) tNil))) δ O := fun G0 H0 σ G H E' s xx n _ _ _ =>
  h G0 H0 σ G H _ s (xx.ct s) fun v d G1 H1 g1 o1 hv w => by
    refine w G0 H0 σ G1 H1 _ (s.on g1 o1) ((xx.ct s).on g1 o1) fun vs ds G2 H2 g2 o2 hs ⟨p, mm⟩ => ?_
    rw [List.append_nil]
    have s2 := (s.on g1 o1).on g2 o2
    refine ⟨B, G2, ds, o2, hs, p, fun a ws es G3 H3 g3 o3 nb fr ga ha hd pe => ?_⟩
    have s3 := s2.on g3 o3
    have fr0 : ∀ o, nt o → H0 a ≠ some o := fun o ht e => fr o ht (s2.go.k a o nb ht e)
    have s4 := s3.setVal i (hv.mono (g2.s.trans g3.s))
    refine ⟨_, _, rfl, n _ _ G3 H3 ((g1.s.trans g2.s).trans g3.s) (s4.tookOwn j nb fr0 ga ha hd fun l fs b e1 e2 eb => ?_) (mm es pe)⟩
    rw [List.getElem?_set] at e1 e2
    by_cases il : i = l
    · rw [if_pos il] at e1; split at e1 <;> cases e1
    · rw [if_neg il] at e1 e2
      obtain ⟨b', us, f1, f2, f3, f4, f5, f6⟩ := s2.own l fs e1
      rw [e2] at f1
      cases f1
      exact fr _ nt_lst (eb ▸ f5)
/-- x[lo:hi], x a list of one's own -/
theorem we_slO {i : Nat} {ds : List D} {tl th : TO} (h : δ[i]? = some (.own ds)) (w : WOx K B X tl δ fun lo => WOx K B X th δ fun hi => P (.lst (cutD ds lo hi))) : WEx K B X (tSl (rSlL K) (tVar i) tl th) δ P := fun G0 H0 σ G H Q s xx q => by
  obtain ⟨a, vs, e1, nb, e0, eg, e2, e3⟩ := s.own i ds h
  refine ⟨_, e1, w G0 H0 σ G H _ s xx fun lo G2 H2 g2 o2 w2 => w2 G0 H0 σ G2 H2 _ (s.on g2 o2) (xx.on g2 o2) fun hi G3 H3 g3 o3 p => ?_⟩
  have g := g2.trans o2 g3
  refine ⟨a, vs, rfl, SqL.of (g.k a _ nb nt_lst e2), fun p' hp' => ?_⟩
  exact (q.on g o3).new o3 nt_lst hp' (.lst upd_same ((cutV_dd (e3.mono g.s)).mono (same_upd (o3.fresh hp')))) p
end
end Dl
/-! Ws: methods called by keywords, methods with defaults. -/
namespace Dl
open PySem PySem.Spec PyProof.Rows L2
/-- o.m(k = v, ..): the receiver, then the keywords' values by gV -/
def tMethK (C : Addr) (m : Str) (n : Nat) (sp : Sp) (gV : List V → List V → List V) (E : XK) (ta : TE) (tk : TA) : TE := fun σ H Q => ta σ H fun x H1 => ∃ a dx fs, x = .ref a ∧ H1 a = some (.ins C dx fs) ∧ fs.lookup m = none ∧ tk σ H1 fun zs H2 => zs.length = n ∧ sp (gV [x] zs) H2 Q E
section
variable {X : Cx} {CX : CXT} {k : Nat} {f C : Addr} {fd : FuncData} {ps ks : List Str} {sp : Sp} {E : XK} {m : Str} {pos apos : Pos} {o : Expr} {kws : List Keyword} {ta : TE} {tk : TA} {g : List Value → List Value → List Value} {gV : List V → List V → List V}
theorem pe_methK0 {pl : Sem Bool} (he : PE X o ta) (c : Cls X.K C) (hm : Meth X.K C m f) (F : FnOk X.prog X.w X.K X.mg X.base CX k f fd ps sp) (hr : Room k X.A) (hb : KBn X.K fd ps 1 ks g gV) (hx : Passes CX X E) (hkw : PK X kws tk)
    (hall : (backToKw pos (keywordEach kws X.env)).all (·.1.isSome) = true := by rfl) (hks : (backToKw pos (keywordEach kws X.env)).filterMap (·.1) = ks := by rfl)
    (hpl : ((backTo pos (starEach [] X.env)).any (·.1) || (backToKw pos (keywordEach kws X.env)).any (·.1.isNone)) = false := by rfl)
    (ht : eval (.Call (.Attribute o m apos) [] kws pos) X.env = (do
      let ov ← eval o X.env
      standAt apos.atName
      let (f, first) ← holding [ov] (getMethod ov m pl)
      callWith pos f first (backTo pos (starEach [] X.env)) (backToKw pos (keywordEach kws X.env))) := by rfl) :
    PE X (.Call (.Attribute o m apos) [] kws pos) (tMethK C m ks.length sp gV E ta tk) := by
  refine ⟨fun pins s σ H Q I h => ?_⟩
  refine PySem.W.methodCall_KW (pl := pl) (thn (he.run pins s σ H _ I h) fun u s1 ⟨x, H1, I1, rx, a, dx, fs, ex, ea, l, q⟩ => ?_) ht
  subst ex
  obtain rfl : u = Value.ref a := rx
  refine getmeth_ok I1 ea c hm l ?_
  refine PySem.W.callWith_KW0 (first := [.ref a]) (h₀ := X.base) I.ok.mod.kin hm.kp hall ?_ hpl
  refine thn (hkw.run pos pins s1 σ H1 _ I1 q) fun ws s2 ⟨zs, H2, I2, rz, l2, q2⟩ => ⟨I2.kIn, ?_⟩
  rw [hks]
  exact run_fnN (us := [.ref a]) (vs := [.ref a]) F hr hb hx I2 (.cons rfl .nil) rz rfl l2 q2
end
section
variable {K : PySem.W.Frag} {B : Bt} {δ : List Sd} {P : D → Prop} {X : Xc} {te : TE} {tk : TA} {C : Addr} {m : Str}
/-- .. the values in the other order than the parameters -/
theorem we_methK {n : Nat} {pre : List D → Prop} {post : List D → D → Prop} {E : XK} (h : WEx K B X te δ fun d => ∃ ks ds, d = .obj C ks ds ∧ (ks.zip ds).lookup m = none ∧ WAx K B X tk δ fun as => as.length = n ∧ pre (d :: as.reverse) ∧ ∀ r, post (d :: as.reverse) r → P r) : WEx K B X (tMethK C m n (SpD K pre post) (fun us ws => us ++ ws.reverse) E te tk) δ P := fun G0 H0 σ G H Q s xx q =>
  h G0 H0 σ G H _ s xx fun v d G1 H1 g1 o1 hv ⟨ks, ds, e, l, w⟩ => by
    subst e
    cases hv with
    | obj h1 t =>
      refine ⟨_, _, _, rfl, o1.u _ _ h1, lookup_nod (by rw [← t.length, List.length_map]) l, w G0 H0 σ G1 H1 _ (s.on g1 o1) (xx.on g1 o1) fun vs as G2 H2 g2 o2 hs ⟨ln, p, mm⟩ => ?_⟩
      exact ⟨hs.length.trans ln, B, G2, _, o2, .cons (.obj (g2.s _ _ h1) (t.mono g2.s)) hs.rev, p, fun v' d' G3 H3 g3 o3 hd pd => ((q.on g1 o1).on g2 o2) v' d' G3 H3 g3 o3 hd (mm d' pd)⟩
end
section
variable {P : Program} {w : World} {K : PySem.W.Frag} {mg : Str → Option Value} {base : Heap}
/-- how keywords are bound: any def without defaults -/
theorem kb_any {x q : Str} {st : Stmt} {f : Addr} {fd : FuncData} {ps ks : List Str} {n : Nat} (F : Fun K x q st f fd)
    (hk : ∀ (kV doc pm : Value) (an : Option Addr) (cdv ct : Value) (us ws : List Value), us.length = n → ws.length = ks.length → bindArgs (PySem.W.fnOf x q (defArgs st) (defBody st) (defScope st) .none kV doc pm an cdv ct) ⟨us, ks.zip ws⟩ = pure (ps.zip (us ++ ws.reverse))) :
    KBn K fd ps n ks (fun us ws => us ++ ws.reverse) (fun us ws => us ++ ws.reverse) := by
  obtain ⟨oc, od, kV, doc, pm, an, cdv, ct, osl, rfl, lk, hcd⟩ := F.ex
  exact ⟨fun s us ws _ l1 l2 => .of_eq (hk kV doc pm an cdv ct us ws l1 l2), fun r1 r2 => r1.append r2.reverse⟩
/-- a method with defaults, all of its values given -/
theorem clmd_of {x q : Str} {st : Stmt} {f : Addr} {fd : FuncData} {N ps : List Str} {dvs : List V} {k : Nat} {pre : List D → Prop} {post : List D → D → Prop} (F : FunD K x q (defArgs st) (defBody st) (defScope st) dvs [] f fd) (S : FnScope N ps (defScope st)) (hd : dvs ≠ [])
    (hb : ∀ (T : Addr) (kV doc pm : Value) (an : Option Addr) (cdv ct : Value) (us its : List Value), us.length = ps.length → its.length = dvs.length →
      ∃ k, bindArgs (PySem.W.fnOf x q (defArgs st) (defBody st) (defScope st) (.ref T) kV doc pm an cdv ct) ⟨us, []⟩ = seqItems? (.ref T) >>= k ∧ k (some its.toArray) = pure (ps.zip us))
    (hl : ∀ ds, pre ds → ds.length = ps.length)
    (h : ∀ (cdv : Value) (A : Around) (outer : List Env) (s : Shared) (H : Hp) (E : XK), Room k (A.deeper (envOfC q (defScope st) s.heap.objs.size f cdv)) →
      ∃ t, PSs (cxOf CX0 P w K mg base N q (defScope st) f cdv A outer s H E).nox (defBody st) t ∧ ∀ B ds, pre ds → WS K B t (init N ds) { nx := fun _ => post ds .non, rt := post ds }) : ClM P w K mg base (k + 1) f fd ps (SpD K pre post) := by
  refine ⟨F.ok S (fun vs H Q E hsp => ?_) (fun cdv A outer s H vs Q E hr hsp => ?_), ?_⟩
  · obtain ⟨B, G, ds, o, hs, p, q⟩ := hsp
    exact hs.length.trans (hl ds p)
  · obtain ⟨B, G, ds, o, hs, p, q⟩ := hsp
    obtain ⟨t, ht, ww⟩ := h cdv A outer s H E hr
    exact ⟨t, PSs.nox ht, ww B ds p G H _ G H _ (stt_start o hs) xs0 (fun σ1 δ1 G1 H1 _ s1 z => q .non .non G1 H1 s1.go s1.ok .non z) ⟨fun v d G1 H1 g o1 hd z => q v d G1 H1 g o1 hd z, fun _ _ _ _ _ _ _ _ _ _ _ _ z => z.elim⟩ (fun _ _ _ _ _ _ z => z.elim) (fun _ _ _ _ _ _ z => z.elim)⟩
  · obtain ⟨oc, od, dV, kV, doc, pm, an, cdv, ct, osl, rfl, lk, hcd, hD, hK⟩ := F.ex
    rcases hD with ⟨e, _⟩ | ⟨_, T, o, its, m, rfl, lT, oT, rT⟩
    · exact absurd e hd
    · intro s us X hlen
      rw [List.append_nil] at hlen ⊢
      obtain ⟨k, e1, e2⟩ := hb T kV doc pm an cdv ct us its hlen rT.length.symm
      refine BindsTo.of_looks fun M => ?_
      rw [e1]
      exact looks_items X lT oT (.of_pure e2)
end
end Dl
/-! Wt: cuts; comprehensions by a map. -/
namespace Dl
open PySem PySem.Spec PyProof.Rows L2
section
variable {K : PySem.W.Frag} {B : Bt} {δ : List Sd} {P : D → Prop} {X : Xc} {t : TS} {O : Out}
/-- a statement by what it leaves -/
theorem ws_nx {I J : List Sd → Prop} (h : WS K B t δ { O with nx := I }) (m : ∀ δ1, I δ1 → J δ1) : WS K B t δ { O with nx := J } := fun G0 H0 σ G H E s xx n r b c => h G0 H0 σ G H E s xx (fun σ1 δ1 G1 H1 sm s1 z => n σ1 δ1 G1 H1 sm s1 (m δ1 z)) r b c
/-- [e for a in its], its = xs by f, each e = g a -/
theorem we_lcA {α : Type} {xs : List α} {wi : TI} {i : Nat} {te : TE} (f g : α → D) (hl : xs.length ≤ 1000) (h : WIx K B X wi δ fun its => its = xs.map f) (hw : ∀ a ∈ xs, WE K B te (δ.set i (.val (f a))) fun y => y = g a) (hp : P (.lst (xs.map g))) : WEx K B X (tLc wi (gName i) tYes te [i]) δ P :=
  we_lc (h.mono fun its e => by
    subst e
    refine ⟨by rw [List.length_map]; exact hl, fun n acc => acc = (xs.take n).map g, rfl, fun n d acc hd hacc => wt_yes ?_, fun acc hacc => ?_⟩
    · have hacc' : acc = (xs.take n).map g := hacc
      rw [List.getElem?_map] at hd
      obtain ⟨x, hx, rfl⟩ : ∃ x, xs[n]? = some x ∧ f x = d := by
        cases e : xs[n]? with
        | none => rw [e] at hd; cases hd
        | some q => rw [e] at hd; exact ⟨q, rfl, Option.some.inj hd⟩
      rw [if_pos rfl]
      refine (hw x (List.mem_of_getElem? hx)).mono fun y ey => ?_
      show acc ++ [y] = (xs.take (n + 1)).map g
      rw [ey, hacc', List.take_add_one, hx, List.map_append]
      rfl
    · have hacc' : acc = (xs.take (xs.map f).length).map g := hacc
      rw [List.length_map, List.take_length] at hacc'
      rw [hacc']
      exact hp)
/-- .. the items told by the iterator's own promise -/
theorem we_lcB {α : Type} {wi : TI} {i : Nat} {te : TE} (f : α → D) (h : WIx K B X wi δ fun its => ∃ (xs : List α) (g : α → D), its = xs.map f ∧ xs.length ≤ 1000 ∧ (∀ a ∈ xs, WE K B te (δ.set i (.val (f a))) fun y => y = g a) ∧ P (.lst (xs.map g))) : WEx K B X (tLc wi (gName i) tYes te [i]) δ P :=
  we_lc (h.mono fun its ⟨xs, g, e, hl, hw, hp⟩ => by
    subst e
    refine ⟨by rw [List.length_map]; exact hl, fun n acc => acc = (xs.take n).map g, rfl, fun n d acc hd hacc => wt_yes ?_, fun acc hacc => ?_⟩
    · have hacc' : acc = (xs.take n).map g := hacc
      rw [List.getElem?_map] at hd
      obtain ⟨x, hx, rfl⟩ : ∃ x, xs[n]? = some x ∧ f x = d := by
        cases e : xs[n]? with
        | none => rw [e] at hd; cases hd
        | some q => rw [e] at hd; exact ⟨q, rfl, Option.some.inj hd⟩
      rw [if_pos rfl]
      refine (hw x (List.mem_of_getElem? hx)).mono fun y ey => ?_
      show acc ++ [y] = (xs.take (n + 1)).map g
      rw [ey, hacc', List.take_add_one, hx, List.map_append]
      rfl
    · have hacc' : acc = (xs.take (xs.map f).length).map g := hacc
      rw [List.length_map, List.take_length] at hacc'
      rw [hacc']
      exact hp)
end
end Dl
/-! Wu: three targets. -/
namespace Dl
open PySem PySem.Spec PyProof.Rows L2
section
variable {K : PySem.W.Frag} {B : Bt} {δ : List Sd} {te : TE} {O : Out}
theorem ws_unt3 {i j l : Nat} (h : WEx K B O.x te δ fun d => ∃ a b c, d = .tup [a, b, c] ∧ O.nx (((δ.set i (.val a)).set j (.val b)).set l (.val c))) : WS K B (tAsg te (gTup K 3 (gCons (gName i) (gCons (gName j) (gCons (gName l) gNil))))) δ O := fun G0 H0 σ G H E s xx n _ _ _ =>
  h G0 H0 σ G H _ s (xx.ct s) fun v d G1 H1 g o hd ⟨a, b, c, ed, p⟩ => by
    subst ed
    cases hd with
    | tup hg t =>
      cases t with
      | cons h1 t =>
        cases t with
        | cons h2 t =>
          cases t with
          | cons h3 t =>
            cases t
            exact ⟨_, _, rfl, SqT.ofZ (o.u _ _ hg.1), rfl, _, _, rfl, _, _, rfl, _, _, rfl, rfl, n _ _ G1 H1 g.s ((((s.on g o).setVal i h1).setVal j h2).setVal l h3) p⟩
end
end Dl
/-! Wy: a def's own lists: two made at once, one that is only read from here on. -/
namespace Dl
open PySem PySem.Spec PyProof.Rows L2
section
variable {K : PySem.W.Frag} {B : Bt} {δ : List Sd} {O : Out}
/-- from here on the list is only read -/
theorem ws_frzO {i : Nat} {ds : List D} {t : TS} (h : δ[i]? = some (.own ds)) (w : WS K B t (δ.set i (.val (.lst ds))) O) : WS K B t δ O := fun G0 H0 σ G H E s xx n r b c => by
  obtain ⟨a, vs, e1, nb, e0, eg, e2, e3⟩ := s.own i ds h
  have sf : Same G (upd G a (.lst vs)) := same_upd eg
  exact w G0 H0 σ _ H E (s.frz h e1 nb e0 eg e2 e3) (fun σ1 δ1 G1 H1 m => xx σ1 δ1 G1 H1 (sf.trans m)) (fun σ1 δ1 G1 H1 m => n σ1 δ1 G1 H1 (sf.trans m)) r (fun σ1 δ1 G1 H1 m => b σ1 δ1 G1 H1 (sf.trans m)) fun σ1 δ1 G1 H1 m => c σ1 δ1 G1 H1 (sf.trans m)
/-- x, y = [..], [..] -/
theorem ws_parOO {i j : Nat} {ta tb : TA} (h : WAx K B O.x ta δ fun ds => ds.length ≤ 1000 ∧ WAx K B O.x tb δ fun es => es.length ≤ 1000 ∧ O.nx ((δ.set i (.own ds)).set j (.own es))) : WS K B (tPar i j (tCons (tLst ta) (tCons (tLst tb) tNil))) δ O := fun G0 H0 σ G H E s xx n _ _ _ =>
  h G0 H0 σ G H _ s (xx.ct s) fun vs ds G1 H1 g1 o1 hs ⟨l1, w⟩ => ⟨by rw [hs.length]; exact sz1000 l1, fun p hp => by
    have s1 := s.on g1 o1
    have nb := o1.neB hp
    have gp : G1 p = none := o1.fresh hp
    have lg : Go B G1 H1 G1 (upd H1 p (.lst vs)) := loose_go o1 hp
    have lo : Ok B G1 (upd H1 p (.lst vs)) := loose_ok o1 hp
    have s2 := s1.on lg lo
    refine w G0 H0 σ G1 _ _ s2 (((xx.ct s).on g1 o1).on lg lo) fun ws es G2 H2 g2 o2 hs2 ⟨l2, pO⟩ => ⟨by rw [hs2.length]; exact sz1000 l2, fun p2 hp2 => ?_⟩
    have s3 := s2.on g2 o2
    have hp3 : H2 p = some (.lst vs) := g2.k p _ nb nt_lst upd_same
    have gp3 : G2 p = none := g2.n p _ nt_lst upd_same gp
    have fr0 : ∀ o, nt o → H0 p ≠ some o := fun o ht e => by
      have := s1.go.k p o nb ht e
      rw [hp] at this
      cases this
    have s4 := s3.tookOwn i nb fr0 gp3 hp3 (hs.mono g2.s) (fun j' fs b e1 e2 eb => by
      obtain ⟨b', us, f1, _, _, _, f5, _⟩ := s1.own j' fs e1
      rw [e2] at f1
      cases f1
      rw [eb, hp] at f5
      cases f5)
    have h02 : ∀ u, nt u → H0 p2 ≠ some u := fun u ht q => by
      by_cases e : p2 = B.a
      · exact absurd hp2 (e ▸ o2.hb)
      · have := s3.go.k p2 u e ht q
        rw [hp2] at this
        cases this
    exact ⟨_, _, rfl, n _ _ G2 _ ((g1.s.trans lg.s).trans g2.s) (s4.setOwn j hp2 h02 hs2) pO⟩⟩
end
end Dl
/-! Wv: what may raise: comprehensions, methods; methods' defaults. -/
namespace Dl
open PySem PySem.Spec PyProof.Rows L2
/-- an exception goes on as E takes it, wherever -/
abbrev XE (E : XK) (R : Addr → List Str → List D → Prop) : Xc := { W := fun cls d _ H => E cls d H, ex := fun _ => R }
section
variable {K : PySem.W.Frag} {B : Bt} {δ δ' : List Sd} {P : D → Prop} {E : XK} {R : Addr → List Str → List D → Prop} {tt : TT} {G G1 H H1 : Hp} {σ σ' : L2.St}
theorem xe_mono {te : TE} {Q : D → Prop} (h : WEx K B (XE E R) te δ P) (m : ∀ d, P d → Q d) : WEx K B (XE E R) te δ Q := fun G0 H0 σ G H R s xx q => h G0 H0 σ G H R s xx fun v d G1 H1 g o hd p => q v d G1 H1 g o hd (m d p)
theorem CtX.xe (q : CtX K B (XE E R) σ δ G H) : CtX K B (XE E R) σ' δ' G H := fun C d ks ds G2 H2 g2 o2 hd p => q C d ks ds G2 H2 g2 o2 hd p
theorem we_lcX {wi : TI} {i : Nat} {te : TE} (h : WIx K B (XE E R) wi δ fun its => its.length ≤ 1000 ∧ ∃ I : Nat → List D → Prop, I 0 [] ∧ (∀ k d acc, its[k]? = some d → I k acc → WTx K B (XE E R) tt (δ.set i (.val d)) fun b => if b = true then WEx K B (XE E R) te (δ.set i (.val d)) fun y => I (k + 1) (acc ++ [y]) else I (k + 1) acc) ∧ ∀ acc, I its.length acc → P (.lst acc)) :
    WEx K B (XE E R) (tLc wi (gName i) tt te [i]) δ P := fun G0 H0 σ G H Q s xx q =>
  h G0 H0 σ G H _ s xx fun J its G1 H1 g1 o1 it ⟨hlen, I, i0, turn, last⟩ => by
    intro A hA
    have s1 := s.on g1 o1
    have q1 := q.on g1 o1
    have x1 := xx.on g1 o1
    have nAB := o1.neB hA
    have gA1 : G1 A = none := o1.fresh hA
    have nn : ∀ (a : Addr), H1 a ≠ none → a ≠ A := fun a h e => h (e ▸ hA)
    refine ⟨fun k m H => m = its.length - k ∧ k ≤ its.length ∧ ∃ G vs acc, Go B G1 H1 G H ∧ G A = none ∧ Ok B G H ∧ H A = some (.lst vs) ∧ Dds K B G vs acc ∧ acc.length ≤ k ∧ I k acc,
      ⟨_, rfl, Nat.zero_le _, G1, [], [], loose_go o1 hA, gA1, loose_ok o1 hA, upd_same, .nil, Nat.le_refl _, i0⟩, ?_⟩
    rintro k m H2 ⟨rfl, hk, G2, vs, acc, g2, gA, o2, hV, hD, hL, ik⟩
    obtain ⟨f1, f2, f3⟩ := it G2 H2 k g2.s o2
    have st : Stt K B G0 H0 G2 H2 σ δ := s1.on g2 o2
    have x2 := x1.on g2 o2
    by_cases hlt : k < its.length
    · refine .inr ⟨f1 hlt, fun H' => ∃ G vs acc, Go B G1 H1 G H' ∧ G A = none ∧ Ok B G H' ∧ H' A = some (.lst vs) ∧ Dds K B G vs acc ∧ acc.length ≤ k + 1 ∧ I (k + 1) acc,
        fun H' hN => ⟨its.length - (k + 1), by omega, rfl, hlt, hN⟩, fun x H3 y => ?_⟩
      obtain ⟨d, G3, e1, g3, o3, hd⟩ := f2 x H3 hlt y
      have x3 := x2.on g3 o3
      have s3 : Stt K B G0 H0 G3 H3 ((wipe σ [i]).set i (some x)) (δ.set i (.val d)) := by
        have z := ((st.on g3 o3).wipe1 i).setVal i hd
        rw [List.set_set (l := δ)] at z
        exact z
      have hV3 := g3.k A _ nAB nt_lst hV
      have gA3 := g3.n A _ nt_lst hV gA
      refine ⟨wipe_set, turn k d acc e1 ik G0 H0 _ G3 H3 _ s3 x3.xe fun b G4 H4 g4 o4 w => ?_⟩
      have hV4 := g4.k A _ nAB nt_lst hV3
      have gA4 := g4.n A _ nt_lst hV3 gA3
      have go4 : Go B G1 H1 G4 H4 := (g2.trans o2 g3).trans o3 g4
      have hD4 : Dds K B G4 vs acc := (hD.mono g3.s).mono g4.s
      cases b with
      | false => exact ⟨G4, vs, acc, go4, gA4, o4, hV4, hD4, Nat.le_succ_of_le hL, w⟩
      | true =>
        refine w G0 H0 _ G4 H4 _ (s3.on g4 o4) (x3.on g4 o4).xe fun y e G5 H5 g5 o5 hy w5 => ?_
        have hV5 := g5.k A _ nAB nt_lst hV4
        have gA5 := g5.n A _ nt_lst hV4 gA4
        have go5 : Go B G1 H1 G5 H5 := go4.trans o4 g5
        refine ⟨vs, hV5, Nat.lt_of_le_of_lt (by rw [hD.length]; omega : vs.length ≤ 1000) (by decide), G5, vs ++ [y], acc ++ [e], ?_, gA5, write_ok o5 hV5 gA5 nAB, upd_same, (hD4.mono g5.s).append (.cons hy .nil), by rw [List.length_append, List.length_singleton]; omega, w5⟩
        refine ⟨go5.s, fun a o nb ht h => ?_, go5.n, fun c r h => ?_⟩
        · rw [upd_ne (nn a (by rw [h]; exact fun z => nomatch z))]; exact go5.k a o nb ht h
        · obtain ⟨r', h'⟩ := go5.c c r h
          exact ⟨r', by rw [upd_ne nAB.symm]; exact h'⟩
    · have ek : k = its.length := by omega
      subst ek
      refine .inl ⟨f3 rfl, q1 (.ref A) (.lst acc) (upd G2 A (.lst vs)) H2 ⟨g2.s.trans (same_upd gA), g2.k, fun a o ht h g => ?_, g2.c⟩ (freeze_ok o2 nt_lst nAB gA hV) (.lst upd_same (hD.mono (same_upd gA))) (last acc ik)⟩
      rw [upd_ne (nn a (by rw [h]; exact fun z => nomatch z))]
      exact g2.n a o ht h g
/-- [e for a in its], its = xs by f; e may raise: each value e that comes has Φ a e -/
theorem we_lcAX {α : Type} {xs : List α} {wi : TI} {i : Nat} {te : TE} (f g : α → D) (Φ : α → Prop) (hl : xs.length ≤ 1000) (h : WIx K B (XE E R) wi δ fun its => its = xs.map f) (hw : ∀ a ∈ xs, WEx K B (XE E R) te (δ.set i (.val (f a))) fun y => y = g a ∧ Φ a) (hp : (∀ a ∈ xs, Φ a) → P (.lst (xs.map g))) : WEx K B (XE E R) (tLc wi (gName i) tYes te [i]) δ P :=
  we_lcX (h.mono fun its e => by
    subst e
    refine ⟨by rw [List.length_map]; exact hl, fun n acc => acc = (xs.take n).map g ∧ ∀ a ∈ xs.take n, Φ a, ⟨rfl, fun _ z => nomatch z⟩, fun n d acc hd hacc => wt_yes ?_, fun acc hacc => ?_⟩
    · obtain ⟨hacc', hΦ⟩ := hacc
      rw [List.getElem?_map] at hd
      obtain ⟨x, hx, rfl⟩ : ∃ x, xs[n]? = some x ∧ f x = d := by
        cases e : xs[n]? with
        | none => rw [e] at hd; cases hd
        | some q => rw [e] at hd; exact ⟨q, rfl, Option.some.inj hd⟩
      rw [if_pos rfl]
      refine xe_mono (hw x (List.mem_of_getElem? hx)) fun y ⟨ey, hy⟩ => ⟨?_, ?_⟩
      · rw [ey, hacc', List.take_add_one, hx, List.map_append]
        rfl
      · intro a ha
        rw [List.take_add_one, hx] at ha
        rcases List.mem_append.mp ha with z | z
        · exact hΦ a z
        · have z : a ∈ [x] := z
          rw [List.mem_singleton.mp z]
          exact hy
    · obtain ⟨hacc', hΦ⟩ := hacc
      rw [List.length_map, List.take_length] at hacc' hΦ
      rw [hacc']
      exact hp hΦ)
end
section
variable {P : Program} {w : World} {K : PySem.W.Frag} {mg : Str → Option Value} {base : Heap}
/-- a method that may raise -/
structure ClMz (P : Program) (w : World) (K : PySem.W.Frag) (mg : Str → Option Value) (base : Heap) (k : Nat) (f : Addr) (fd : FuncData) (ps : List Str) (sp : Sp) : Prop where
  ok : FnOk P w K mg base (L2.CX P w) k f fd ps sp
  bn : Binds K fd ps []
theorem clmx_of {x q : Str} {st : Stmt} {f : Addr} {fd : FuncData} {N ps : List Str} {k : Nat} {pre : List D → Prop} {post : List D → D → Prop} {exc : List D → Addr → List Str → List D → Prop} (F : Fun K x q st f fd) (S : FnScope N ps (defScope st))
    (hb : ∀ (kV doc pm : Value) (an : Option Addr) (cdv ct : Value) (us : List Value), us.length = ps.length → bindArgs (PySem.W.fnOf x q (defArgs st) (defBody st) (defScope st) .none kV doc pm an cdv ct) ⟨us, []⟩ = pure (ps.zip us))
    (hl : ∀ ds, pre ds → ds.length = ps.length)
    (h : ∀ (cdv : Value) (A : Around) (outer : List Env) (s : Shared) (H : Hp) (E : XK), Room k (A.deeper (envOfC q (defScope st) s.heap.objs.size f cdv)) →
      ∃ t, PSs (cxOf (L2.CX P w) P w K mg base N q (defScope st) f cdv A outer s H E) (defBody st) t ∧ ∀ B ds, pre ds → WS K B t (init N ds) { nx := fun _ => post ds .non, rt := post ds, x := XE E (exc ds) }) : ClMz P w K mg base (k + 1) f fd ps (SpX K pre post exc) := by
  refine ⟨F.okX S (fun vs H Q E hsp => ?_) (fun cdv A outer s H vs Q E hr hsp => ?_), F.binds hb⟩
  · obtain ⟨B, G, ds, o, hs, p, q, _⟩ := hsp
    exact hs.length.trans (hl ds p)
  · obtain ⟨B, G, ds, o, hs, p, q, qx⟩ := hsp
    obtain ⟨t, ht, ww⟩ := h cdv A outer s H E hr
    refine ⟨t, ht, ww B ds p G H _ G H _ (stt_start o hs) (fun σ1 δ1 G1 H1 m s1 C d ks es hd pe => qx C d ks es G1 H1 s1.go s1.ok hd pe) (fun σ1 δ1 G1 H1 _ s1 z => q .non .non G1 H1 s1.go s1.ok .non z) ⟨fun v d G1 H1 g o1 hd z => q v d G1 H1 g o1 hd z, fun _ _ _ _ _ _ _ _ _ _ _ _ z => z.elim⟩ (fun _ _ _ _ _ _ z => z.elim) (fun _ _ _ _ _ _ z => z.elim)⟩
end
section
variable {K : PySem.W.Frag} {B : Bt} {δ : List Sd} {P : D → Prop} {E : XK} {R : Addr → List Str → List D → Prop} {X : Xc} {te : TE} {ta tk : TA} {C : Addr} {m : Str}
theorem we_methX {pre : List D → Prop} {post : List D → D → Prop} {exc : List D → Addr → List Str → List D → Prop} (h : WEx K B (XE E R) te δ fun d => ∃ ks ds, d = .obj C ks ds ∧ (ks.zip ds).lookup m = none ∧ WAx K B (XE E R) ta δ fun as => pre (d :: as) ∧ (∀ r, post (d :: as) r → P r) ∧ ∀ C ks es, exc (d :: as) C ks es → R C ks es) : WEx K B (XE E R) (tMeth C m (SpX K pre post exc) [] E te ta) δ P := fun G0 H0 σ G H Q s xx q =>
  h G0 H0 σ G H _ s xx fun v d G1 H1 g1 o1 hv ⟨ks, ds, e, l, w⟩ => by
    subst e
    cases hv with
    | obj h1 t =>
      refine ⟨_, _, _, rfl, o1.u _ _ h1, lookup_nod (by rw [← t.length, List.length_map]) l, w G0 H0 σ G1 H1 _ (s.on g1 o1) (xx.on g1 o1) fun vs as G2 H2 g2 o2 hs ⟨p, mm, ex⟩ => ?_⟩
      rw [List.append_nil]
      exact ⟨B, G2, _, o2, .cons (.obj (g2.s _ _ h1) (t.mono g2.s)) hs, p, fun v' d' G3 H3 g3 o3 hd pd => ((q.on g1 o1).on g2 o2) v' d' G3 H3 g3 o3 hd (mm d' pd), fun C' d' ks' es G3 H3 g3 o3 hd pe => ((xx.on g1 o1).on g2 o2) C' d' ks' es G3 H3 g3 o3 hd (ex C' ks' es pe)⟩
theorem we_methKX {n : Nat} {pre : List D → Prop} {post : List D → D → Prop} {exc : List D → Addr → List Str → List D → Prop} (h : WEx K B (XE E R) te δ fun d => ∃ ks ds, d = .obj C ks ds ∧ (ks.zip ds).lookup m = none ∧ WAx K B (XE E R) tk δ fun as => as.length = n ∧ pre (d :: as.reverse) ∧ (∀ r, post (d :: as.reverse) r → P r) ∧ ∀ C ks es, exc (d :: as.reverse) C ks es → R C ks es) : WEx K B (XE E R) (tMethK C m n (SpX K pre post exc) (fun us ws => us ++ ws.reverse) E te tk) δ P := fun G0 H0 σ G H Q s xx q =>
  h G0 H0 σ G H _ s xx fun v d G1 H1 g1 o1 hv ⟨ks, ds, e, l, w⟩ => by
    subst e
    cases hv with
    | obj h1 t =>
      refine ⟨_, _, _, rfl, o1.u _ _ h1, lookup_nod (by rw [← t.length, List.length_map]) l, w G0 H0 σ G1 H1 _ (s.on g1 o1) (xx.on g1 o1) fun vs as G2 H2 g2 o2 hs ⟨ln, p, mm, ex⟩ => ?_⟩
      exact ⟨hs.length.trans ln, B, G2, _, o2, .cons (.obj (g2.s _ _ h1) (t.mono g2.s)) hs.rev, p, fun v' d' G3 H3 g3 o3 hd pd => ((q.on g1 o1).on g2 o2) v' d' G3 H3 g3 o3 hd (mm d' pd), fun C' d' ks' es G3 H3 g3 o3 hd pe => ((xx.on g1 o1).on g2 o2) C' d' ks' es G3 H3 g3 o3 hd (ex C' ks' es pe)⟩
/-- e.m(..), the rest by defaults -/
theorem we_methD {pre : List D → Prop} {post : List D → D → Prop} {dvs : List V} {dd : List D} (hd : ∀ G, Dds K B G dvs dd) (h : WEx K B X te δ fun d => ∃ ks ds, d = .obj C ks ds ∧ (ks.zip ds).lookup m = none ∧ WAx K B X ta δ fun as => pre (d :: (as ++ dd)) ∧ ∀ r, post (d :: (as ++ dd)) r → P r) : WEx K B X (tMeth C m (SpD K pre post) dvs E te ta) δ P := fun G0 H0 σ G H Q s xx q =>
  h G0 H0 σ G H _ s xx fun v d G1 H1 g1 o1 hv ⟨ks, ds, e, l, w⟩ => by
    subst e
    cases hv with
    | obj h1 t =>
      refine ⟨_, _, _, rfl, o1.u _ _ h1, lookup_nod (by rw [← t.length, List.length_map]) l, w G0 H0 σ G1 H1 _ (s.on g1 o1) (xx.on g1 o1) fun vs as G2 H2 g2 o2 hs ⟨p, mm⟩ => ?_⟩
      exact ⟨B, G2, _, o2, .cons (.obj (g2.s _ _ h1) (t.mono g2.s)) (hs.append (hd G2)), p, fun v' d' G3 H3 g3 o3 hd pd => ((q.on g1 o1).on g2 o2) v' d' G3 H3 g3 o3 hd (mm d' pd)⟩
end
section
variable {K : PySem.W.Frag}
/-- how keywords are bound, all parameters given, in a def with defaults -/
theorem kb_dflt {x q : Str} {st : Stmt} {f : Addr} {fd : FuncData} {ps ks : List Str} {dvs : List V} {n : Nat} (F : FunD K x q (defArgs st) (defBody st) (defScope st) dvs [] f fd) (hd : dvs ≠ [])
    (hk : ∀ (T : Addr) (kV doc pm : Value) (an : Option Addr) (cdv ct : Value) (us its ws : List Value), us.length = n → its.length = dvs.length → ws.length = ks.length →
      ∃ k, bindArgs (PySem.W.fnOf x q (defArgs st) (defBody st) (defScope st) (.ref T) kV doc pm an cdv ct) ⟨us, ks.zip ws⟩ = seqItems? (.ref T) >>= k ∧ k (some its.toArray) = pure (ps.zip (us ++ ws.reverse))) :
    KBn K fd ps n ks (fun us ws => us ++ ws.reverse) (fun us ws => us ++ ws.reverse) := by
  obtain ⟨oc, od, dV, kV, doc, pm, an, cdv, ct, osl, rfl, lk, hcd, hD, hK⟩ := F.ex
  rcases hD with ⟨e, _⟩ | ⟨_, T, o, its, m, rfl, lT, oT, rT⟩
  · exact absurd e hd
  · refine ⟨fun s us ws X l1 l2 => ?_, fun r1 r2 => r1.append r2.reverse⟩
    obtain ⟨k, e1, e2⟩ := hk T kV doc pm an cdv ct us its ws l1 rT.length.symm l2
    refine BindsTo.of_looks fun M => ?_
    rw [e1]
    exact looks_items X lT oT (.of_pure e2)
/-- m(..), the last one by its default -/
theorem bd_dflt {x q : Str} {st : Stmt} {f : Addr} {fd : FuncData} {ps : List Str} {dvs : List V} {n : Nat} (F : FunD K x q (defArgs st) (defBody st) (defScope st) dvs [] f fd) (hd : dvs ≠ []) (hn : n + dvs.length = ps.length)
    (h : ∀ (T : Addr) (kV doc pm : Value) (an : Option Addr) (cdv ct : Value) (us its : List Value), us.length = n → its.length = dvs.length →
      ∃ k, bindArgs (PySem.W.fnOf x q (defArgs st) (defBody st) (defScope st) (.ref T) kV doc pm an cdv ct) ⟨us, []⟩ = seqItems? (.ref T) >>= k ∧ k (some its.toArray) = pure (ps.zip (us ++ its))) : ∃ ds, Vals dvs ds ∧ Binds K fd ps ds :=
  F.binds1 n 0 hd hn h
end
section
variable {X : Cx} {W : WX} {k j : Nat} {x : Str} {C : Addr} {mk : List V → List (Str × V)} {p pos pos2 : Pos}
/-- raise C() -/
theorem ps_rz0 (R : Rz X.prog X.w X.K X.mg X.base k x C 0 mk) (tk : Takes X W) (hc : X.calm = true) (hr : Room j X.A) (hk : k + 1 ≤ j) (hg : Gl X x) (hdb : (x == ("__debug__" : Str)) = false := by decide) :
    PS X (.Raise (some (.Call (.Name x p) [] [] pos)) none pos2) (fun _ σ H => tMkO C (spIni C 0 mk) [] tNil σ H fun cls d H' => W cls d σ H') := by
  obtain ⟨fI, fd, ps, T, i, t, F1, b, m⟩ := R.ex
  refine ps_raise hc tk fun pins s σ H Q I h => ?_
  obtain ⟨_, h⟩ := h
  obtain ⟨n1, n2, n3, n4, n5, n6, n7, n8, n9, n10, n11, n12, n13, n14, n15, hC, hbm⟩ := T.cls
  refine wpAny_Call_Name_kw (ld_glob I hg m (PySem.W.callWith_K0 I.kIn T.kC ?_) hdb)
  obtain ⟨hp, g, dr, tk0, os⟩ := s
  have hn : H (hp.objs.size + 1) = none := I.hok.fresh (Nat.le_succ _)
  have kk : ∀ b o, hp.get? b = some o → ((hp.push (PySem.W.kdv_tup [])).push (PySem.HandSPX.excO C hp.objs.size)).get? b = some o := fun _ _ e => Heap.get?_push_of_some _ (Heap.get?_push_of_some _ e)
  have hget : ((hp.push (PySem.W.kdv_tup [])).push (PySem.HandSPX.excO C hp.objs.size)).get? (hp.objs.size + 1) = some (PySem.HandSPX.excO C hp.objs.size) := by heap_get
  have I2 : Inv X pins σ (upd H (hp.objs.size + 1) (exo (hp.objs.size + 1) C none)) ⟨(hp.push (PySem.W.kdv_tup [])).push (PySem.HandSPX.excO C hp.objs.size), g, dr, tk0, os⟩ := I.laid (t' := tk0) kk (Nat.le_succ _) (exo_ok hget)
  have sp := h (hp.objs.size + 1) hn
  have vl : Vals [V.ref (hp.objs.size + 1)] [Value.ref (hp.objs.size + 1)] := .cons rfl .nil
  have bl : BindsTo ⟨(hp.push (PySem.W.kdv_tup [])).push (PySem.HandSPX.excO C hp.objs.size), g, dr, tk0, os⟩ fd ⟨[Value.ref (hp.objs.size + 1)], []⟩ (ps.zip [Value.ref (hp.objs.size + 1)]) := by
    have ll : ([Value.ref (hp.objs.size + 1)] ++ []).length = ps.length := (vl.length.symm.trans (F1.len _ _ _ _ sp))
    exact b _ _ I2.kIn ll
  refine wpAny_call (PySem.HandSPX.call_own F.excBase_ValueError (fun Y => PySem.HandSPX.refsVE_contains Y n5 hbm) (I.kIn _ _ hC) (PySem.W.looks_findIn I.kIn i) (fun self => PySem.W.bind_fn I.kIn self t) (Nat.zero_le _)
    (codeAny_mono (F1.run _ X.stack _ _ ⟨[Value.ref (hp.objs.size + 1)], []⟩ [Value.ref (hp.objs.size + 1)] _ _ (fun _ _ _ => False) ((hr.mono hk).make C [] []) (I2.env0.make C [] []) bl vl sp) fun r s' hq' => ?_))
  cases r with
  | error er => exact False.elim hq'
  | ok fl =>
    cases fl with
    | ret u =>
      obtain ⟨v, H2, os2, bare2, un2, hok2, rv, ev, d, fs, ea, ed, hd1, q2⟩ := hq'
      cases ev
      cases s'
      exact ⟨rv, mk_end (raises_own T.exC T.tyC) I (Nat.le_succ _) kk un2 hok2 os2 bare2 ea ed hd1 q2⟩
    | next => exact hq'.elim
    | brk => exact hq'.elim
    | cont => exact hq'.elim
end
section
variable {P : Program} {w : World} {K : PySem.W.Frag} {mg : Str → Option Value} {base : Heap}
/-- __init__(self): self.code = z -/
theorem rz0 {x q z : Str} {C : Addr} {st : Stmt} {k : Nat} (E : Er K mg x q C st [("code" : Str)]) (S : FnScope [("self" : Str)] [("self" : Str)] (defScope st))
    (hb : ∀ (kV doc pm : Value) (an : Option Addr) (cdv ct : Value) (us : List Value), us.length = 1 → bindArgs (PySem.W.fnOf "__init__" q (defArgs st) (defBody st) (defScope st) .none kV doc pm an cdv ct) ⟨us, []⟩ = pure ([("self" : Str)].zip us))
    {p5 p6 p7 p8 : Pos} {KZ : Nat} (eb : defBody st = [.Assign [.Attribute (.Name "self" p5) "code" p6] (.Constant (.str z) KZ p7) p8])
    (sw2 : ∀ (f0 : Addr) (cdv : Value) (A : Around) (outer : List Env) (s : Shared) (H : Hp) (E : XK), swapsWith (.Constant (.str z) KZ p7) (some (.Attribute (.Name "self" p5) "code" p6)) p8.line (cxOf L2.CX0 P w K mg base [("self" : Str)] q (defScope st) f0 cdv A outer s H E).nox.env = pure false) :
    Rz P w K mg base (k + 1) x C 0 (fun _ => [("code", .str z)]) := by
  obtain ⟨fI, fd, F, i, t⟩ := E.i
  refine ⟨fI, fd, [("self" : Str)], E.o, i, t, F.ok S (fun vs H Q E' h => ?_) (fun cdv A outer s H vs Q E' hr h => ?_), F.binds hb, E.g⟩
  · obtain ⟨a, ws, rfl, l, _⟩ := h
    rw [List.length_cons, l]; rfl
  · obtain ⟨a, ws, rfl, l, hA, hq⟩ := h
    obtain rfl := List.length_eq_zero_iff.mp l
    rw [eb]
    have vs0 : Vis (defScope st) "self" := (S.par "self" (by simp)).elim .inl (fun h => .inr (.inl h))
    refine ⟨_, pss_one (ps_ost (pe_var (i := 0) rfl vs0) pe_str (sw2 _ _ _ _ _ _ _)), ?_⟩
    refine ⟨.ref a, rfl, a, C, rfl, E.o, E.n "code" (by simp), .inl ⟨hA, fun dx nd ne => ?_⟩⟩
    exact hq dx nd ne
end
end Dl
/-! Wx: a def that makes lambdas. -/
namespace Dl
open PySem PySem.Spec PyProof.Rows L2
/-! ### a def that makes lambdas -/
structure FunT (K : PySem.W.Frag) (x : Str) (st : Stmt) (f c : Addr) : Prop where
  ex : ∃ (oc : Value) (od : Option Addr) (kV doc pm : Value) (an : Option Addr) (ct : Value) (osl : Array (Option Value)), K.lookup f = some ⟨oc, od, .func (PySem.W.fnOf x x (defArgs st) (defBody st) (defScope st) .none kV doc pm an (.ref c) ct), osl⟩ ∧ PySem.W.codeIn K (.ref c) x = true
  kp : PySem.W.keepIn K (.ref f) = true
theorem ft_hk {K : PySem.W.Frag} {x : Str} {st : Stmt} (d : ∃ fd, FunD K x x (defArgs st) (defBody st) (defScope st) [] [] (He.fAd K (x, none)) fd) : FunT K x st (He.fAd K (x, none)) (He.codeOf K (x, none)) := by
  obtain ⟨fd, F⟩ := d
  obtain ⟨oc, od, dV, kV, doc, pm, an, cdv, ct, osl, rfl, l, c, hd, _⟩ := F.ex
  rcases hd with ⟨_, rfl⟩ | ⟨z, _⟩
  · obtain ⟨c0, rfl⟩ := He.codeIn_ref c
    have e := He.codeOf_eq (p := (x, none)) l (c := c0) rfl
    rw [e]
    exact ⟨⟨oc, od, kV, doc, pm, an, ct, osl, l, c⟩, F.kp⟩
  · exact (z rfl).elim
/-- a promise by data that wants the table -/
def SpDT (K : PySem.W.Frag) (T : List (Addr × Str)) (pre : List D → Prop) (post : List D → D → Prop) : Sp := fun vs H Q _ => ∃ B G ds, B.T = T ∧ Ok B G H ∧ Dds K B G vs ds ∧ pre ds ∧ Ct K B G H (post ds) Q
section
variable {P : Program} {w : World} {K : PySem.W.Frag} {mg : Str → Option Value} {base : Heap}
theorem clT_of {T : List (Addr × Str)} {x : Str} {st : Stmt} {f c : Addr} {N ps : List Str} {k : Nat} {pre : List D → Prop} {post : List D → D → Prop} (F : FunT K x st f c) (hm : mg x = some (.ref f)) (S : FnScope N ps (defScope st))
    (hb : ∀ (kV doc pm : Value) (an : Option Addr) (cdv ct : Value) (us : List Value), us.length = ps.length → bindArgs (PySem.W.fnOf x x (defArgs st) (defBody st) (defScope st) .none kV doc pm an cdv ct) ⟨us, []⟩ = pure (ps.zip us))
    (hl : ∀ ds, pre ds → ds.length = ps.length)
    (h : ∀ (A : Around) (outer : List Env) (s : Shared) (H : Hp) (E : XK), Room k (A.deeper (envOfC x (defScope st) s.heap.objs.size f (.ref c))) →
      ∃ t, PSs (cxOf CX0 P w K mg base N x (defScope st) f (.ref c) A outer s H E).nox (defBody st) t ∧ ∀ B ds, B.T = T → pre ds → WS K B t (init N ds) { nx := fun _ => post ds .non, rt := post ds }) : Cl P w K mg base (k + 1) x st ps (SpDT K T pre post) := by
  obtain ⟨oc, od, kV, doc, pm, an, ct, osl, lk, hcd⟩ := F.ex
  have F0 : Fun K x x st f _ := ⟨⟨oc, od, kV, doc, pm, an, .ref c, ct, osl, rfl, lk, hcd⟩, F.kp⟩
  refine ⟨f, _, F0, fn_of lk hcd S (fun vs H Q E hsp => ?_) (fun A outer s H vs Q E hr hsp => ?_), hm, F0.binds hb⟩
  · obtain ⟨B, G, ds, hT, o, hs, p, q⟩ := hsp
    exact hs.length.trans (hl ds p)
  · obtain ⟨B, G, ds, hT, o, hs, p, q⟩ := hsp
    obtain ⟨t, ht, ww⟩ := h A outer s H E hr
    exact ⟨t, ht.nox, ww B ds hT p G H _ G H _ (stt_start o hs) xs0 (fun σ1 δ1 G1 H1 _ s1 z => q .non .non G1 H1 s1.go s1.ok .non z) ⟨fun v d G1 H1 g o1 hd z => q v d G1 H1 g o1 hd z, fun _ _ _ _ _ _ _ _ _ _ _ _ z => z.elim⟩ (fun _ _ _ _ _ _ z => z.elim) (fun _ _ _ _ _ _ z => z.elim)⟩
end
section
variable {K : PySem.W.Frag} {B : Bt} {δ : List Sd} {P : D → Prop} {X : Xc}
theorem we_callT {T : List (Addr × Str)} {pre : List D → Prop} {post : List D → D → Prop} {E : XK} {t : TA} (hT : B.T = T) (h : WAx K B X t δ fun ds => pre ds ∧ ∀ d, post ds d → P d) : WEx K B X (tCall (SpDT K T pre post) [] E t) δ P := fun G0 H0 σ G H Q s xx q =>
  h G0 H0 σ G H _ s xx fun vs ds G1 H1 g1 o1 hs ⟨p, m⟩ => by
    rw [List.append_nil]
    exact ⟨B, G1, ds, hT, o1, hs, p, fun v d G2 H2 g2 o2 hd pd => (q.on g1 o1) v d G2 H2 g2 o2 hd (m d pd)⟩
end
end Dl
/-! Xa: a list comprehension whose element may raise. -/
namespace Dl
open PySem PySem.Spec PyProof.Rows L2
theorem ff_less {h B B' : Heap} (m : ∀ b, B.get? b = none → B'.get? b = none) : ∀ {l : List Env}, h.FunFrames B l → h.FunFrames B' l
  | [], _ => trivial
  | _ :: _, ⟨hk, ⟨L, o, hf, hb, ho, hd⟩, r⟩ => ⟨hk, ⟨L, o, hf, m L hb, ho, hd⟩, ff_less m r⟩
/-- the block's context: what a call in the element lets out is taken -/
abbrev blkR (X : Cx) (E : XK) (s : Shared) (H : Hp) (scope : Scope) (ce : Env) (fp : List Addr) : Cx :=
  (X.blk s H scope ce fp).wish fun u s' => ∃ (pn : List (Addr × Obj)) (σ : L2.St) (H' : Hp) (sC : Shared), Inv (X.blk s H scope ce fp) pn σ H' sC ∧ L2.CX X.prog X.w X.stack H' sC E u s'
theorem passR {X : Cx} {E : XK} {s : Shared} {H : Hp} {scope : Scope} {ce : Env} {fp : List Addr} : Passes (L2.CX X.prog X.w) (blkR X E s H scope ce fp) E := fun pn σ H' sC _ _ I c => ⟨pn, σ, H', sC, I.unwish, c⟩
section
variable {X : Cx} {E : XK} {pins pn : List (Addr × Obj)} {σ σ' : L2.St} {H3 H' : Hp} {s3 sC s' : Shared} {scope : Scope} {fp : List Addr} {ce : Env} {u : Value}
/-- what such a call owes: noted by the block, its names let go, on in the def's own frame -/
theorem comp_fails (I3 : Inv X pins σ H3 s3) (cL : ce.locals = s3.heap.objs.size) (cF : ce.frame = X.env.frame) (hf : X.env.frame = some X.env.locals) (hst : X.stack = X.env :: X.outer) (hp : ∀ b ∈ fp, FpOk X pins H3 b ∧ b < s3.heap.objs.size)
    (Ib : Inv (X.blk s3 H3 scope ce fp) pn σ' H' sC) (c : L2.CX X.prog X.w X.stack H' sC E u s') (tk : Takes X fun cls d _ H => E cls d H) : notedBy (model X.prog X.w) X.A ce (CompFails (model X.prog X.w) X.A X.xe ce) u s' := by
  have J : Inv X pins σ H' sC := I3.call' (ch := fp) Ib.os Ib.base Ib.hok Ib.bare fun b hb => by
    obtain ⟨⟨_, a1, _, a3, a4, a5⟩, _⟩ := hp b hb
    exact ⟨a3, a1, a4, a5⟩
  obtain ⟨a, B, H2, cls, d, rfl, fl, hokB, ub, na, eos, ag, hE⟩ := c
  have nC : H' ce.locals = none := Ib.free
  obtain ⟨mC, hNs, _⟩ := Ib.loc
  obtain ⟨_, c1, c2, c3, c4, c5⟩ := I3.fpOk (Nat.le_of_eq cL.symm) nC
  have nfr : ce.locals ∉ frs X.stack := fun z => (List.mem_cons.mp (J.stkSub _ z)).elim c1 c2
  obtain ⟨oC, es, ep, hoC, hdC, rC⟩ := hNs
  have bC : B.get? ce.locals = some oC := ub.keep _ _ hoC nC nfr
  have h2C : H2 ce.locals = none := ub.free _ _ hoC nC
  obtain ⟨B', b1, b2⟩ := L2.restrict B fun b => decide (b ≠ ce.locals)
  have bk : ∀ b o, b ≠ ce.locals → B.get? b = some o → B'.get? b = some o := fun b o hb e => by
    rw [b1 b (decide_eq_true hb)]
    exact e
  have bn : B'.get? ce.locals = none := b2 _ (decide_eq_false fun z => z rfl)
  have bs : ∀ b o, B'.get? b = some o → B.get? b = some o ∧ b ≠ ce.locals := fun b o e => by
    by_cases z : b = ce.locals
    · rw [z, bn] at e; cases e
    · rw [b1 b (decide_eq_true z)] at e
      exact ⟨e, z⟩
  have bnn : ∀ b, B.get? b = none → B'.get? b = none := fun b e => by
    cases q : B'.get? b with
    | none => rfl
    | some o =>
      have := (bs b o q).1
      rw [e] at this
      cases this
  obtain ⟨f1, f2, f3, oe, vs, T, oT, ts, he, hz, hd, h1, hnT, hTe, hT, hdT, h3⟩ := fl
  have fl' : HandSPX.FlyingZ B' X.stack a (Zc cls d) s'.heap := ⟨fun b o e => f1 b o (bs b o e).1, bnn a f2, ff_less bnn f3, oe, vs, T, oT, ts, he, hz, hd, h1, bnn T hnT, hTe, hT, hdT, h3⟩
  have sCk : s'.heap.get? ce.locals = some oC := f1 _ _ bC
  have hfr : X.A.frames = some (X.env :: X.outer) := by rw [J.ok.frames, hst]
  show wpAny _ _ (noteFrame (.ref a) ce) _ _ _
  rw [noteFrame_env _ cF]
  rw [hst] at fl'
  refine HandSPX.looks_onZ Zc.steady hfr hf fl' fun h' hh up => ?_
  obtain ⟨slC, eC⟩ := up _ _ sCk (fun vs z => by rw [hdC] at z; cases z)
  refine ⟨mC, ⟨_, es, ep, eC, hdC, rC⟩, fun h2 m2 hn2 hs2 => ?_⟩
  obtain ⟨g1, g2, g3, oe2, vs2, T2, oT2, ts2, ge, gz, gd, gv1, gnT, gTe, gT, gdT, gt3⟩ := hh
  have kn : ∀ b, b ≠ ce.locals → h2.get? b = h'.get? b := fun b hb => hs2.2 b hb
  have aC : a ≠ ce.locals := fun z => by
    rw [z, eC] at ge
    cases ge
    have q : oC.data = .fields vs2 := gd
    rw [hdC] at q
    cases q
  have TC : T2 ≠ ce.locals := fun z => by
    rw [z, eC] at gT
    cases gT
    have q : oC.data = .fields ts2 := gdT
    rw [hdC] at q
    cases q
  have k1 : B'.StaysIn h2 := fun b o e => (kn b (bs b o e).2).trans (g1 b o e)
  have k2 : h2.FunFrames B' (X.env :: X.outer) := Heap.FunFrames.sameBut hs2 hn2 g3
  have k3 : HandSPX.TracedZ h2 B' a (Zc cls d) (rawInt X.env.locals) := ⟨oe2, vs2, T2, oT2, ts2, (kn a aC).trans ge, gz, gd, gv1, gnT, gTe, (kn T2 TC).trans gT, gdT, gt3⟩
  unfold PySem.passOn
  refine wpAny_bind (wpAny_field ((kn a aC).trans ge) gd gv1 ?_)
  rw [if_neg (fun z => by simp at z), cF, hf]
  refine wpAny_bind (HandSPX.setFlight_anyZ (fr := some X.env.locals) k1 k2 k3 fun h4 j1 j2 j3 j4 => wpAny_throw ?_)
  -- a state of ours: without the exception, without the block's names
  obtain ⟨G, q1, q2⟩ := L2.restrict s'.heap fun b => (B.get? b).isSome || decide (b ∈ frs X.stack)
  have gB : ∀ b o, B.get? b = some o → G.get? b = some o := fun b o e => by
    rw [q1 b (by rw [e]; rfl)]
    exact f1 b o e
  have gF : ∀ b, b ∈ frs X.stack → G.get? b = s'.heap.get? b := fun b hb => q1 b (by rw [decide_eq_true hb, Bool.or_true])
  have gO : ∀ b o, G.get? b = some o → s'.heap.get? b = some o ∧ (b ∉ frs X.stack → B.get? b = some o) := fun b o e => by
    cases q : ((B.get? b).isSome || decide (b ∈ frs X.stack)) with
    | false => rw [q2 b q] at e; cases e
    | true =>
      rw [q1 b q] at e
      refine ⟨e, fun hb => ?_⟩
      rw [decide_eq_false hb, Bool.or_false] at q
      obtain ⟨o', eo⟩ := Option.isSome_iff_exists.mp q
      rw [eo, ← f1 b o' eo, e]
  have IG : Inv X pins σ H2 { sC with heap := G, gens := s'.gens, drawn := s'.drawn, toks := s'.toks } := by
    refine J.call (ch := []) ⟨fun b o e n hb _ => gB b o (ub.keep b o e n hb), fun b o e n hb _ => ?_, fun b o e n _ => ub.free b o e n, fun b o e _ => ?_, ub.tups, ub.frzs, ub.tbls⟩ (hokB.kept gB) ag fun _ z => nomatch z
    · rw [gF b hb]
      exact ub.slot b o e hb
    · by_cases hb : b ∈ frs X.stack
      · obtain ⟨sl, q⟩ := ub.slot b o e hb
        exact ⟨_, (gF b hb).trans q⟩
      · obtain ⟨o', q⟩ := ub.there b o e hb
        exact ⟨o', gB b o' q⟩
  obtain ⟨G', p1, p2⟩ := L2.restrict G fun b => decide (b ≠ ce.locals)
  have gN : ∀ b o, G'.get? b = some o → G.get? b = some o ∧ b ≠ ce.locals := fun b o e => by
    by_cases z : b = ce.locals
    · rw [z, p2 _ (decide_eq_false fun z => z rfl)] at e; cases e
    · rw [p1 b (decide_eq_true z)] at e
      exact ⟨e, z⟩
  have IN := IG.turned (t' := s'.toks) (h' := G') (fun b o hb e => by rw [p1 b (decide_eq_true hb)]; exact e) h2C c1 c3 c4 c5
  refine tk _ _ ⟨a, B', _, pins, σ, H2, cls, d, rfl, IN, fun b o e hb => ?_, fun b o e hn => ?_, ?_, na, eos, ag, hE⟩
  · obtain ⟨e1, e2⟩ := gN b o e
    exact bk b o e2 ((gO b o e1).2 hb)
  · obtain ⟨e1, e2⟩ := gN b o e
    obtain ⟨s1, w1⟩ := up b o (gO b o e1).1 hn
    obtain ⟨s2, w2⟩ := j4 b _ ((kn b e2).trans w1) hn
    exact ⟨s2, w2⟩
  · rw [hst]
    exact .inr (.inr ⟨j1, bnn a f2, j2, j3⟩)
end
section
variable {X : Cx} {E : XK}
/-- [e for x in xs], e may raise as E takes it -/
theorem pe_lcR {elt tg iter : Expr} {scope : Scope} {own : List (Str × Nat)} {pos : Pos} {wi : TI} {g : TG} {te : TE} (calm : X.calm = true) (nodup : X.N.Nodup) (tk : Takes X fun cls d _ H => E cls d H) (hf : X.env.frame = some X.env.locals) (hst : X.stack = X.env :: X.outer) (hi : PI X tg iter wi) (ok : BlkOk X.N X.env.scope scope own)
    (hg : ∀ (s : Shared) (H : Hp) (C : Addr) (cl : List (Str × Addr)) (fp : List Addr), PG (X.blk s H scope (compEnvC scope cl C X.env) fp) tg g)
    (he : ∀ (s : Shared) (H : Hp) (C : Addr) (cl : List (Str × Addr)) (fp : List Addr), PE (blkR X E s H scope (compEnvC scope cl C X.env) fp) elt te) (hs : ∀ x, foldedSetIterable iter X.env x = pure x := by intro _; rfl) :
    PE X (.ListComp elt [⟨tg, iter, [], 0⟩] scope pos) (tLc wi g tYes te (own.map (·.2))) := by
  refine ⟨fun pins s σ H Q I h => ?_⟩
  rw [eval_ListComp]
  have cells : ∀ y ∈ scope.names, y.2 = .free → ∃ c, X.env.cells.lookup y.1 = some c := fun y hy e =>
    (ok.free y hy e).elim (fun k => I.ok.has _ (.inl k)) fun k => I.ok.has _ (.inr k)
  refine comprehension_at (use := none) rfl hs (closure_ok cells) ok.kind (fun y hy e => by rw [ok.uniq y hy, e]) (thn (hi.run pins s σ H _ I h) fun _ _ hx => thn hx fun _ sI w => ?_)
  obtain ⟨it, fp, tn, Jt, HI, rfl, II, T, stI, fI, q⟩ := w
  refine wpAny_newObj_type (newEnv_comp ?_) (by show 0 ≤ sizeLine; decide)
  generalize hD : sI.heap.objs.size = D
  have nD : HI D = none := II.hok.fresh (Nat.le_of_eq hD)
  obtain ⟨W, ⟨m0, w0⟩, turn⟩ := q D nD
  -- the list is laid
  generalize hsL : ({ sI with heap := sI.heap.push { cls := .type "list", data := .seq ([] : List Value).toArray } } : Shared) = sL
  have eL : sL.heap = sI.heap.push { cls := .type "list", data := .seq ([] : List Value).toArray } := by rw [← hsL]
  have oldL : ∀ b o, sI.heap.get? b = some o → sL.heap.get? b = some o := fun b o e => by rw [eL]; exact Heap.get?_push_of_some _ e
  generalize hHL : upd HI D (.lst []) = HL at w0
  have IL : Inv X pins σ HL sL := by
    rw [← hHL, ← hsL]
    refine II.laid (t' := sI.toks) (fun b o e => Heap.get?_push_of_some _ e) (Nat.le_of_eq hD) ⟨Nat.zero_le _, [], 0, .nil, ?_⟩
    rw [← hD]
    exact Heap.get?_push_size _ rfl
  have fL : ∀ b ∈ fp, FpOk X pins HL b ∧ b < sL.heap.objs.size := fun b hb => by
    obtain ⟨o, e, _⟩ := T.obj _ _ stI b hb
    have lt := Heap.lt_size e
    refine ⟨⟨?_, (fI b hb).2⟩, by rw [eL, Heap.size_push]; exact Nat.lt_succ_of_lt lt⟩
    rw [← hHL, upd_ne (fun z => by rw [z, ← hD] at lt; exact Nat.lt_irrefl _ lt)]
    exact (fI b hb).1
  have stL : tn 0 sL.heap := T.keep _ _ _ stI fun b _ o e => oldL b o e
  have IB := block_start IL ok nodup fL
  have pg := hg sL HL sL.heap.objs.size (cellsFrom (sL.heap.objs.size + 1) scope.names (cloFrom X.env.cells scope.names [])) fp
  have pe := he sL HL sL.heap.objs.size (cellsFrom (sL.heap.objs.size + 1) scope.names (cloFrom X.env.cells scope.names [])) fp
  show codeAny _ _ (.compStart (.ListComp elt [⟨tg, iter, [], 0⟩] scope pos) 0 (.ref it) (.ref D) (compEnvC scope (cellsFrom (sL.heap.objs.size + 1) scope.names (cloFrom X.env.cells scope.names [])) sL.heap.objs.size X.env))
    (compEnds (model X.prog X.w) X.A X.xe none (EP X pins σ Q) (.ref D) (compEnvC scope (cellsFrom (sL.heap.objs.size + 1) scope.names (cloFrom X.env.cells scope.names [])) sL.heap.objs.size X.env)) { sL with heap := pushCells (sL.heap.push { cls := .type "dict", data := .dict #[] }) scope.names }
  generalize hce : compEnvC scope (cellsFrom (sL.heap.objs.size + 1) scope.names (cloFrom X.env.cells scope.names [])) sL.heap.objs.size X.env = ce at IB pg pe ⊢
  have cL : ce.locals = sL.heap.objs.size := by rw [← hce]; rfl
  have cF : ce.frame = X.env.frame := by rw [← hce]; rfl
  generalize hsB : ({ sL with heap := pushCells (sL.heap.push { cls := .type "dict", data := .dict #[] }) scope.names } : Shared) = sB at IB ⊢
  have stB : tn 0 sB.heap := T.keep _ _ _ stL fun b _ o e => by rw [← hsB]; exact pushCells_keeps _ _ _ _ (Heap.get?_push_of_some _ e)
  have stat : ∀ {σ' : L2.St} {H' : Hp} {s' : Shared}, Inv (X.blk sL HL scope ce fp) [] σ' H' s' → (∀ b ∈ fp, H' b = none) → ∀ b ∈ fp, FpOk (X.blk sL HL scope ce fp) [] H' b := fun I' hn b hb =>
    ⟨hn b hb, (I'.ok.exf b hb).1, I'.ok.exfs b hb, .inl hb, fun x c e => (I'.ok.exf b hb).2 x c e, fun _ z => nomatch z⟩
  have loop : codeAny (model X.prog X.w) X.A (.compLoop (.ListComp elt [⟨tg, iter, [], 0⟩] scope pos) 0 (.ref it) (.ref D) ce) (compEnds (model X.prog X.w) X.A X.xe none (EP X pins σ Q) (.ref D) ce) sB := by
    refine compLoop_any (fun n s' => ∃ i H', Inv (X.blk sL HL scope ce fp) [] (wipe σ (own.map (·.2))) H' s' ∧ tn i s'.heap ∧ (∀ b ∈ fp, H' b = none) ∧ W i n H') ?_ m0 ⟨0, HL, IB, stB, fun b hb => (fL b hb).1.1, w0⟩
    rintro n sT ⟨i, HT, IT, stT, nT, wT⟩
    rcases turn i n HT wT with ⟨stop, qq⟩ | ⟨go, Nx, hNx, step⟩
    · refine thnF (T.done (X.blk sL HL scope ce fp) rfl rfl rfl calm i [] sT _ HT (fun _ _ => False) IT (stat IT nT) stT stop) fun r sE ⟨hr, IE⟩ => ?_
      subst hr
      have IX : Inv X pins σ HT sE := IL.call' (ch := fp) IE.os IE.base IE.hok IE.bare fun b hb => by
        obtain ⟨⟨_, a1, _, a3, a4, a5⟩, _⟩ := fL b hb
        exact ⟨a3, a1, a4, a5⟩
      have nC : HT ce.locals = none := IE.free
      obtain ⟨m, hn, _⟩ := IE.loc
      obtain ⟨k0, k1, k2, k3, k4, k5⟩ := IL.fpOk (Nat.le_of_eq cL.symm) nC
      exact ⟨m, hn, fun h'' sb => ⟨.ref D, HT, IX.turned (t' := sE.toks) (fun b o hb e => (sb.2 b hb).trans e) k0 k1 k3 k4 k5, rfl, qq⟩⟩
    · refine thnF (T.item (X.blk sL HL scope ce fp) rfl rfl rfl calm i [] sT _ HT (fun _ _ => False) IT (stat IT nT) stT go) fun r s6 ⟨v, hr, w6⟩ => ?_
      subst hr
      refine thnF w6 fun _ s7 ⟨x, H7, I7, r7, y7, st7, n7⟩ => ?_
      refine thnF (pg.run _ s7 _ H7 x v _ (I7.pinned (stat I7 n7) (T.obj _ _ st7)) r7 (step x H7 y7)) fun _ s8 ⟨σ8, H8, I8, hw8, q8⟩ => ?_
      refine wpAny_tests_nil ?_
      rw [if_pos rfl]
      have q9 : te σ8 H8 fun y H4 => ∃ acc, H4 D = some (.lst acc) ∧ acc.length < sizeLine ∧ Nx (upd H4 D (.lst (acc ++ [y]))) := by
        have z := q8
        simp only [tYes, if_true] at z
        exact z
      refine wpAny_mono (pe.run _ s8 σ8 H8 _ (I8.wish _) q9) (fun z s10 ⟨yv, H10, I10, r10, acc, hD10, hz10, nx⟩ => ?_) fun u s' ⟨pn, σ', H', sC, Ib, c⟩ => ?_
      · refine app_ok (X := X.blk sL HL scope ce fp) I10.unwish hD10 hz10 r10 fun s11 I11 => ?_
        obtain ⟨m', hm, w'⟩ := hNx _ nx
        have pin : ∀ b ∈ fp, ∀ o, s7.heap.get? b = some o → s11.heap.get? b = some o ∧ upd H10 D (.lst (acc ++ [yv])) b = none := fun b hb o e =>
          let z := I11.pin (b, o) (List.mem_append_right _ (List.mem_append_right _ (mem_pinsAt hb e)))
          ⟨z.1, z.2.1⟩
        refine ⟨m', hm, i + 1, _, (I11.unpinned (pins := [])).weak (by rw [← hw8, wipe_length]) (fun l v e => ?_), T.keep _ _ _ st7 fun b hb o e => (pin b hb o e).1, fun b hb => ?_, w'⟩
        · rw [← hw8] at e
          exact (wipe_some e).1
        · obtain ⟨o, e, _⟩ := T.obj _ _ st7 b hb
          exact (pin b hb o e).2
      · exact comp_fails IL cL cF hf hst fL Ib c tk
  exact codeAny_compStart_list loop (T.self X.A 0 _ _ _ stB loop)
end
section
variable {X : Cx} {E : XK} {k j : Nat} {x : Str} {st : Stmt} {ps : List Str} {sp : Sp} {p pos : Pos} {e : Expr} {es : List Expr} {t : TA}
/-- f(e, ..) that may raise, where E takes it -/
theorem pe_cxP (c : Clx X.prog X.w X.K X.mg X.base k x st ps sp) (hx : Passes (L2.CX X.prog X.w) X E) (hr : Room j X.A) (hk : k ≤ j) (hg : Gl X x) (ha : PA X (e :: es) t)
    (hdb : (x == ("__debug__" : Str)) = false := by decide) (he : starEach (e :: es) X.env = (false, eval e X.env) :: starEach es X.env := by rfl) (hpl : (backTo pos (starEach es X.env)).any (·.1) = false := by rfl) :
    PE X (.Call (.Name x p) (e :: es) [] pos) (tCall sp [] E t) := by
  obtain ⟨f, fd, F0, F, hm, b⟩ := c.ex
  exact pe_call F (hr.mono hk) hg hm F0.kp b .nil hx ha hdb he hpl
end
section
variable {K : PySem.W.Frag} {B : Bt} {δ : List Sd} {P : D → Prop} {E : XK} {R : Addr → List Str → List D → Prop}
theorem we_callE {pre : List D → Prop} {post : List D → D → Prop} {exc : List D → Addr → List Str → List D → Prop} {t : TA} (h : WAx K B (XE E R) t δ fun ds => pre ds ∧ (∀ d, post ds d → P d) ∧ ∀ C ks es, exc ds C ks es → R C ks es) : WEx K B (XE E R) (tCall (SpX K pre post exc) [] E t) δ P := fun G0 H0 σ G H Q s xx q =>
  h G0 H0 σ G H _ s xx fun vs ds G1 H1 g1 o1 hs ⟨p, m, ex⟩ => by
    rw [List.append_nil]
    exact ⟨B, G1, ds, o1, hs, p, fun v d G2 H2 g2 o2 hd pd => (q.on g1 o1) v d G2 H2 g2 o2 hd (m d pd), fun C d ks es G2 H2 g2 o2 hd pe => (xx.on g1 o1) C d ks es G2 H2 g2 o2 hd (ex C ks es pe)⟩
end
end Dl
/-! Xb: what such a head tells of an error's class. -/
namespace Dl
open PySem PySem.Spec PyProof.Rows L2
section
variable {K : PySem.W.Frag} {h : Heap} {mg : Str → Option Value} {C : Addr}
theorem oexB_ok (e : oexB K C = true) : ∃ nm q N bs bm sn sub ab col dd k0 k1 k2 k3 k5, K.lookup C = some (excClassObj nm q C N bs bm true sn sub ab col dd k0 k1 k2 k3 k5 "ValueError.__new__") ∧ PySem.HandSPX.refsVE bm = true := by
  unfold oexB at e
  split at e
  · rename_i dd cd sl ho
    split at e
    · rename_i E bm k0 k1 k2 k3 z k5 hm hs
      obtain ⟨h1, e⟩ := He.ba e
      obtain ⟨h2, e⟩ := He.ba e
      obtain ⟨h3, e⟩ := He.ba e
      obtain ⟨h4, h5⟩ := He.ba e
      cases beq_iff_eq.mp h1
      cases beq_iff_eq.mp h2
      obtain ⟨nm, bs, mro, N, q, hd, sn, sub, ab, col, dl⟩ := cd
      have e3 : dl = false := Bool.not_eq_true' _ |>.mp h3
      have e4 : hd = true := h4
      have em : mro = .ref C :: bm := hm
      obtain ⟨l⟩ := sl
      have es : l = [k0, k1, k2, k3, some (.builtin "ValueError.__new__"), k5] := hs
      subst e3 e4 em es
      exact ⟨nm, q, N, bs, bm, sn, sub, ab, col, dd, k0, k1, k2, k3, k5, ho, h5⟩
    · cases e
  · cases e
theorem er_hk {x q : Str} {st : Stmt} {fs : List Str} (X : K.In h) (G : h.Ns mainGlobals mg) (o : oexB K (He.ga K x) = true) (p : ogP K (He.ga K x) fs = true) (a : (He.Fa.glo x).ok K = true) (m : (He.Fa.meth x "__init__").ok K = true)
    (d : ∃ fd, FunD K "__init__" q (defArgs st) (defBody st) (defScope st) [] [] (He.fAd K (x, some "__init__")) fd) : Er K mg x q (He.ga K x) st fs := by
  unfold ogP at p
  simp only [Bool.and_eq_true, beq_iff_eq, List.all_eq_true] at p
  obtain ⟨⟨⟨⟨⟨⟨⟨h1, h2⟩, h3⟩, h4⟩, h5⟩, h6⟩, h7⟩, h8⟩ := p
  obtain ⟨fd, F⟩ := d
  have M := He.meth_ok m
  exact ⟨⟨oexB_ok o, h1, h2, h3, h4⟩, ⟨h5, h6, h2, h7⟩, h8, ⟨_, fd, fn_hk F, M.at_, beq_iff_eq.mp M.fn⟩, He.glo_ok X G a⟩
end
end Dl
namespace K08
open PySem PySem.Spec PyProof.Rows L2 Dl S2
/-! #### Fa -/
theorem pe_gi {X : Cx} {x : Str} {pos : Pos} {i : Int} (hg : Gl X x) (h : ∃ t, X.mg x = some (.int i t)) (hdb : (x == ("__debug__" : Str)) = false := by decide) : PE X (.Name x pos) (tC (.int i)) := by
  obtain ⟨t, e⟩ := h
  exact pe_glob hg e ⟨t, rfl⟩ hdb
theorem pe_gs {X : Cx} {x : Str} {pos : Pos} {z : Str} (hg : Gl X x) (h : ∃ t, X.mg x = some (.str z t)) (hdb : (x == ("__debug__" : Str)) = false := by decide) : PE X (.Name x pos) (tC (.str z)) := by
  obtain ⟨t, e⟩ := h
  exact pe_glob hg e ⟨t, rfl⟩ hdb

structure Gn (mg : Str → Option Value) : Prop where
  g_isinstance : mg "isinstance" = none
  g_int : mg "int" = none
  g_bool : mg "bool" = none
  g_str : mg "str" = none
  g_tuple : mg "tuple" = none
  g_list : mg "list" = none
  g_dict : mg "dict" = none
  g_len : mg "len" = none
  g_abs : mg "abs" = none
  g_all : mg "all" = none
  g_any : mg "any" = none
  g_range : mg "range" = none
  g_sum : mg "sum" = none
  g_min : mg "min" = none
  g_max : mg "max" = none
  g_sorted : mg "sorted" = none
  g_zip : mg "zip" = none
  g_enumerate : mg "enumerate" = none
  g_repr : mg "repr" = none
  g_ValueError : mg "ValueError" = none
  g_LookupError : mg "LookupError" = none
  g_LETTERS : ∃ t, mg "LETTERS" = some (.str "abcdefghijklmnopqrstuvwxyz" t)
  g_MOST_LETTERS : ∃ t, mg "MOST_LETTERS" = some (.int 6 t)
  g_POINT_BOUND : ∃ t, mg "POINT_BOUND" = some (.int 200 t)
  g_LEAST_CORNERS : ∃ t, mg "LEAST_CORNERS" = some (.int 3 t)
  g_MOST_CORNERS : ∃ t, mg "MOST_CORNERS" = some (.int 6 t)
mutual
def sm : D → Bool
  | .str z => decide (z.length ≤ 1000)
  | .tup xs => decide (xs.length ≤ 1000) && sms xs
  | .lst xs => decide (xs.length ≤ 1000) && sms xs
  | .cls _ => false
  | .box => false
  | .exn _ _ _ => false
  | .obj _ _ _ => false
  | .adr _ => false
  | _ => true
def sms : List D → Bool
  | [] => true
  | x :: xs => sm x && sms xs
end
theorem sm_cls {d : D} (h : sm d = true) : d.isCls = false := by
  cases d <;> first | rfl | (exact Bool.noConfusion h)
theorem sms_mem : ∀ {xs : List D} {x : D}, sms xs = true → x ∈ xs → sm x = true
  | y :: ys, x, h, m => by
    have h' : (sm y && sms ys) = true := h
    rw [Bool.and_eq_true] at h'
    rcases List.mem_cons.mp m with e | m
    · rw [e]; exact h'.1
    · exact sms_mem h'.2 m
theorem sm_tup {xs : List D} (h : sm (.tup xs) = true) : xs.length ≤ 1000 ∧ sms xs = true := by
  have h' : (decide (xs.length ≤ 1000) && sms xs) = true := h
  rw [Bool.and_eq_true, decide_eq_true_eq] at h'
  exact h'
def isNum : D → Bool
  | .int _ => true
  | _ => false
abbrev SmP : List D → Prop := p1 fun d => sm d = true
abbrev bl1 (f : D → Bool) : List D → D := f1 fun d => .bl (f d)
abbrev ClB (P : Program) (w : World) (K : PySem.W.Frag) (mg : Str → Option Value) (base : Heap) (k : Nat) (x : Str) (st : Stmt) (v : Str) (f : D → Bool) := Cl P w K mg base k x st [v] (SpD K SmP fun ds r => r = bl1 f ds)
local macro_rules | `(tactic| walk_at "dl") => `(tactic| first
  | (with_reducible refine ws_seq ?_) | (with_reducible refine ws_if ?_) | (with_reducible refine ws_ret ?_) | ((with_reducible refine ws_set ?_); (try dsimp only [List.set])) | ((with_reducible refine ws_par ?_)) | (with_reducible refine ws_drop ?_) | (with_reducible refine ws_next ?_)
  | ((with_reducible refine' we_var ?hv ?_); (case hv => exact rfl)) | (with_reducible refine we_int ?_) | (with_reducible refine we_str ?_) | (with_reducible refine we_bl ?_) | (with_reducible refine we_non ?_) | (with_reducible refine we_cls ?_)
  | (with_reducible refine we_op ?_) | (with_reducible refine we_un ?_) | (with_reducible refine we_andV ?_) | (with_reducible refine we_orV ?_) | (with_reducible refine we_notV ?_) | (with_reducible refine we_if ?_) | (with_reducible refine we_chain ?_)
  | (with_reducible refine we_tup ?_) | (with_reducible refine we_lst ?_) | (with_reducible refine we_cb ?_) | (with_reducible refine we_callF ?_) | (with_reducible refine we_call ?_) | (with_reducible refine we_sl ?_)
  | (with_reducible refine wt_test ?_) | (with_reducible refine wt_B ?_) | (with_reducible refine wt_and ?_) | (with_reducible refine wt_or ?_) | (with_reducible refine wt_not ?_) | (with_reducible refine wt_yes ?_)
  | (with_reducible refine wa_nil ?_) | (with_reducible refine wa_cons ?_) | (with_reducible refine wo_none ?_) | (with_reducible refine wo_some ?_)
  | (with_reducible refine ro_int0 ?_) | (with_reducible refine ro_bl0 ?_) | (with_reducible refine r1_int ?_) | (with_reducible refine ro_eqI ?_) | (with_reducible refine ro_neI ?_) | (with_reducible refine ro_eqB ?_) | (with_reducible refine ro_neB ?_) | (with_reducible refine ro_eqS ?_) | (with_reducible refine ro_neS ?_)
  | (with_reducible refine ro_inC ?_) | (with_reducible refine rc_abs ?_) | (with_reducible refine rc_int1 ?_) | (with_reducible refine rc_gcd ?_)
  | ((with_reducible refine' rc_int ?hc ?_); (case hc => first | exact rfl | assumption | exact sm_cls (by assumption))) | ((with_reducible refine' rc_bool ?hc ?_); (case hc => first | exact rfl | assumption | exact sm_cls (by assumption))) | ((with_reducible refine' rc_str ?hc ?_); (case hc => first | exact rfl | assumption | exact sm_cls (by assumption))) | ((with_reducible refine' rc_tuple ?hc ?_); (case hc => first | exact rfl | assumption | exact sm_cls (by assumption))) | ((with_reducible refine' rc_list ?hc ?_); (case hc => first | exact rfl | assumption | exact sm_cls (by assumption))) | ((with_reducible refine' rc_dict ?hc ?_); (case hc => first | exact rfl | assumption | exact sm_cls (by assumption))) | ((with_reducible refine' rc_lt ?hc ?_); (case hc => first | exact rfl | assumption | exact sm_cls (by assumption)))
  | ((with_reducible refine' rc_len ?he ?hl ?_); (case he => exact rfl); (case hl => first | omega | (simp; omega)))
  | (with_reducible refine rc_allf ?_)
  | (with_reducible refine' And.intro (show List.length _ ≤ 1000 from by exact Nat.le_of_ble_eq_true rfl) ?_)
  | (refine iteT ?_) | (refine iteF ?_) | (with_reducible refine' Exists.intro _ (And.intro rfl ?_)) | (with_reducible refine' Exists.intro _ (Exists.intro _ (And.intro rfl ?_))))
section
variable {P : Program} {w : World} {K : PySem.W.Frag} {mg : Str → Option Value} {base : Heap}
/-! ### is_any_number -/
abbrev s_is_any_number : Stmt := topS 15
abbrev N_is_any_number : List Str := ["value"]
theorem sc_is_any_number : FnScope N_is_any_number ["value"] (defScope s_is_any_number) := ⟨rfl, rfl, rfl, by decide +kernel, rfl, by decide +kernel, by decide +kernel⟩
theorem ok_is_any_number {k : Nat} (G : Gn mg) (F : Df K mg "is_any_number" s_is_any_number) : Cl P w K mg base (k + 1) "is_any_number" s_is_any_number ["value"] (SpD K SmP fun ds r => r = bl1 isNum ds) := by
  refine cl_of F sc_is_any_number (fun _ _ _ _ _ _ us hl => match us, hl with | [_], _ => rfl) p1_len fun f cdv A outer s H E hr => ⟨_, (pss_one (ps_ret (pe_and (pe_callB (show CallR _ (.builtin "isinstance") (rIsi K) from call_isi) (by rfl) G.g_isinstance (by decide +kernel) (pa_cons (pv 0) (pa_cons (pe_bltn (v := .ty "int") (u := .type "int") (by rfl) G.g_int (by decide +kernel) rfl) pa_nil))) (pe_one (pe_not (pe_callB (show CallR _ (.builtin "isinstance") (rIsi K) from call_isi) (by rfl) G.g_isinstance (by decide +kernel) (pa_cons (pv 0) (pa_cons (pe_bltn (v := .ty "bool") (u := .type "bool") (by rfl) G.g_bool (by decide +kernel) rfl) pa_nil)))))))), fun B ds hp => ?_⟩
  obtain ⟨d, rfl, hd⟩ := p1_ex hp
  show WS K B _ [.val d] _
  try dsimp only [cxOf, Cx.nox, Cx.blk]
  have hc := sm_cls hd
  cases d <;> first | (exact Bool.noConfusion hc) | (repeat walk_at "dl")
  all_goals rfl
/-! ### is_number_pair -/
abbrev s_is_number_pair : Stmt := topS 16
abbrev N_is_number_pair : List Str := ["value", "item"]
theorem sc_is_number_pair : FnScope N_is_number_pair ["value"] (defScope s_is_number_pair) := ⟨rfl, rfl, rfl, by decide +kernel, rfl, by decide +kernel, by decide +kernel⟩
def isNumPair : D → Bool
  | .tup xs => decide ((xs.length : Int) = 2) && xs.all isNum
  | _ => false
theorem ok_is_number_pair {k : Nat} (G : Gn mg) (F : Df K mg "is_number_pair" s_is_number_pair) (C_is_any_number : ClB P w K mg base k "is_any_number" s_is_any_number "value" isNum) : ClB P w K mg base (k + 1) "is_number_pair" s_is_number_pair "value" isNumPair := by
  refine cl_of F sc_is_number_pair (fun _ _ _ _ _ _ us hl => match us, hl with | [_], _ => rfl) p1_len fun f cdv A outer s H E hr => ⟨_, (pss_one (ps_ret (pe_and (pe_callB (show CallR _ (.builtin "isinstance") (rIsi K) from call_isi) (by rfl) G.g_isinstance (by decide +kernel) (pa_cons (pv 0) (pa_cons (pe_bltn (v := .ty "tuple") (u := .type "tuple") (by rfl) G.g_tuple (by decide +kernel) rfl) pa_nil))) (pe_and (pe_cmpR op_eq (pe_callB (show CallR _ (.builtin "len") (fun xs H Q => ∃ x n, xs = [x] ∧ LenV K x H n ∧ Q (.int n) H) from call_len) (by rfl) G.g_len (by decide +kernel) (pa_cons (pv 0) pa_nil)) pe_int (nomark _)) (pe_one (pe_callB (cr_all rfl) (by rfl) G.g_all (by decide +kernel) (pa_cons (pe_lc (own := [("item", 1)]) (g := gName 1) (tt := tYes) rfl sc_is_number_pair.nd (pi_tup (pv 0)) (blkOk_by (N := N_is_number_pair) (sc := defScope s_is_number_pair) (by decide +kernel)) (fun _ _ _ _ _ => pg_name (i := 1) sc_is_number_pair.nd rfl (Or.inl rfl)) (fun _ _ _ _ _ => pts_nil) (fun _ _ _ _ _ => (pe_c C_is_any_number hr (by omega) (by rfl) (pa_cons (pv 1) pa_nil)))) pa_nil))))))), fun B ds hp => ?_⟩
  obtain ⟨d, rfl, hd⟩ := p1_ex hp
  show WS K B _ [.val d, .no] _
  try dsimp only [cxOf, Cx.nox, Cx.blk]
  have hc := sm_cls hd
  cases d with
  | tup xs =>
    obtain ⟨hl, hs⟩ := sm_tup hd
    repeat walk_at "dl"
    refine ite2 (fun h => ?_) (fun h => ?_)
    · repeat walk_at "dl"
      refine we_lcmap (fun d => .bl (isNum d)) (wi_tup ?_)
      repeat walk_at "dl"
      refine ⟨by omega, fun d m => ?_, ?_⟩
      · repeat walk_at "dl"
        exact ⟨sms_mem hs m, rfl⟩
      · repeat walk_at "dl"
        show D.bl _ = D.bl (_ && _)
        rw [h, Bool.true_and]
    · show D.bl _ = D.bl (_ && _)
      rw [Bool.eq_false_iff.mpr h, Bool.false_and]
  | cls n => exact Bool.noConfusion hc
  | exn _ _ _ => exact Bool.noConfusion hc
  | obj _ _ _ => exact Bool.noConfusion hc
  | adr _ => exact Bool.noConfusion hc
  | _ => (repeat walk_at "dl"); rfl
/-! ### helpers of Pb -/
theorem and_t {a b : Bool} (h : a = true) : D.bl b = D.bl (a && b) := by rw [h, Bool.true_and]
theorem and_f {a b : Bool} (h : ¬ a = true) : D.bl false = D.bl (a && b) := by rw [Bool.eq_false_iff.mpr h, Bool.false_and]
/-! ### is_bounded_pair -/
abbrev s_is_bounded_pair : Stmt := topS 17
abbrev N_is_bounded_pair : List Str := ["value", "bound", "item"]
theorem sc_is_bounded_pair : FnScope N_is_bounded_pair ["value", "bound"] (defScope s_is_bounded_pair) := ⟨rfl, rfl, rfl, by decide +kernel, rfl, by decide +kernel, by decide +kernel⟩
def inB (b : Int) : D → Bool
  | .int i => decide (-b ≤ i) && decide (i ≤ b)
  | _ => false
def isBnd (b : Int) : D → Bool
  | .tup xs => isNumPair (.tup xs) && xs.all (inB b)
  | _ => false
def bnd : D → D → D
  | d, .int b => .bl (isBnd b d)
  | _, _ => .non
theorem num_ex {d : D} (z : isNum d = true) : ∃ i, d = .int i := by
  cases d <;> first | exact ⟨_, rfl⟩ | exact Bool.noConfusion z
theorem num_mem {xs : List D} (h : isNumPair (.tup xs) = true) {d : D} (m : d ∈ xs) : ∃ i, d = .int i := by
  have h' : (decide ((xs.length : Int) = 2) && xs.all isNum) = true := h
  rw [Bool.and_eq_true] at h'
  have z := List.all_eq_true.mp h'.2 d m
  cases d <;> first | exact ⟨_, rfl⟩ | exact Bool.noConfusion z
theorem ok_is_bounded_pair {k : Nat} (G : Gn mg) (F : Df K mg "is_bounded_pair" s_is_bounded_pair) (C_is_number_pair : ClB P w K mg base k "is_number_pair" s_is_number_pair "value" isNumPair) :
    Cl P w K mg base (k + 1) "is_bounded_pair" s_is_bounded_pair ["value", "bound"] (SpD K (p2 fun d b => sm d = true ∧ ∃ i, b = .int i) fun ds r => r = f2 bnd ds) := by
  refine cl_of F sc_is_bounded_pair (fun _ _ _ _ _ _ us hl => match us, hl with | [_, _], _ => rfl) p2_len fun f cdv A outer s H E hr => ⟨_, (pss_one (ps_ret (pe_and (pe_c C_is_number_pair hr (by omega) (by rfl) (pa_cons (pv 0) pa_nil)) (pe_one (pe_callB (cr_all rfl) (by rfl) G.g_all (by decide +kernel) (pa_cons (pe_lc (own := [("item", 2)]) (g := gName 2) (tt := tYes) rfl sc_is_bounded_pair.nd (pi_tup (pv 0)) (blkOk_by (N := N_is_bounded_pair) (sc := defScope s_is_bounded_pair) (by decide +kernel)) (fun _ _ _ _ _ => pg_name (i := 2) sc_is_bounded_pair.nd rfl (Or.inl rfl)) (fun _ _ _ _ _ => pts_nil) (fun _ _ _ _ _ => (pe_chain op_le op_le (pe_un un_neg (pv 1)) (pv 2) (pv 1)))) pa_nil)))))), fun B ds hp => ?_⟩
  obtain ⟨d, _, rfl, hd, ⟨b, rfl⟩⟩ := p2_ex hp
  show WS K B _ [.val d, .val (.int b), .no] _
  try dsimp only [cxOf, Cx.nox, Cx.blk]
  have hc := sm_cls hd
  cases d with
  | tup xs =>
    obtain ⟨hl, hs⟩ := sm_tup hd
    repeat walk_at "dl"
    refine ⟨hd, ?_⟩
    repeat walk_at "dl"
    refine ite2 (fun h => ?_) (fun h => ?_)
    · repeat walk_at "dl"
      refine we_lcmap (fun d => .bl (inB b d)) (wi_tup ?_)
      repeat walk_at "dl"
      refine ⟨by omega, fun d m => ?_, ?_⟩
      · obtain ⟨i, rfl⟩ := num_mem h m
        repeat walk_at "dl"
        refine ite2 (fun h => ?_) (fun h => ?_)
        · repeat walk_at "dl"
          exact and_t h
        · exact and_f h
      · repeat walk_at "dl"
        exact and_t h
    · exact and_f h
  | cls n => exact Bool.noConfusion hc
  | exn _ _ _ => exact Bool.noConfusion hc
  | obj _ _ _ => exact Bool.noConfusion hc
  | adr _ => exact Bool.noConfusion hc
  | _ => (repeat walk_at "dl"); (refine ⟨hd, ?_⟩); (repeat walk_at "dl"); rfl
abbrev ClN (P : Program) (w : World) (K : PySem.W.Frag) (mg : Str → Option Value) (base : Heap) (k : Nat) := Cl P w K mg base k "is_bounded_pair" s_is_bounded_pair ["value", "bound"] (SpD K (p2 fun d b => sm d = true ∧ ∃ i, b = .int i) fun ds r => r = f2 bnd ds)
theorem all_in {b : Int} : ∀ xs : List D, (xs.all isNum && xs.all (inB b)) = xs.all (inB b)
  | [] => rfl
  | x :: xs => by
    have ih := all_in (b := b) xs
    rw [List.all_cons, List.all_cons]
    cases hx : inB b x with
    | false => rw [Bool.false_and, Bool.and_false]
    | true =>
      have hn : isNum x = true := by
        cases x <;> first | rfl | exact Bool.noConfusion hx
      rw [hn, Bool.true_and, Bool.true_and]
      exact ih
theorem bnd_eq {b : Int} (xs : List D) : isBnd b (.tup xs) = (decide ((xs.length : Int) = 2) && xs.all (inB b)) := by
  show ((decide ((xs.length : Int) = 2) && xs.all isNum) && xs.all (inB b)) = _
  rw [Bool.and_assoc, all_in]
/-! ### is_point -/
abbrev s_is_point : Stmt := topS 18
abbrev N_is_point : List Str := ["value"]
theorem sc_is_point : FnScope N_is_point ["value"] (defScope s_is_point) := ⟨rfl, rfl, rfl, by decide +kernel, rfl, by decide +kernel, by decide +kernel⟩
theorem ok_is_point {k : Nat} (G : Gn mg) (F : Df K mg "is_point" s_is_point) (C_is_bounded_pair : ClN P w K mg base k) : ClB P w K mg base (k + 1) "is_point" s_is_point "value" (isBnd 200) := by
  refine cl_of F sc_is_point (fun _ _ _ _ _ _ us hl => match us, hl with | [_], _ => rfl) p1_len fun f cdv A outer s H E hr => ⟨_, (pss_one (ps_ret (pe_c C_is_bounded_pair hr (by omega) (by rfl) (pa_cons (pv 0) (pa_cons (pe_gi rfl G.g_POINT_BOUND) pa_nil))))), fun B ds hp => ?_⟩
  obtain ⟨d, rfl, hd⟩ := p1_ex hp
  show WS K B _ [.val d] _
  try dsimp only [cxOf, Cx.nox, Cx.blk]
  repeat walk_at "dl"
  exact ⟨⟨hd, _, rfl⟩, rfl⟩
/-! ### helpers of Pc -/
def inT (t : Str) : D → Bool
  | .str z => match z.cps.toList with
    | [c] => decide (c ∈ t.cps.toList)
    | _ => false
  | _ => false
theorem sm_str {z : Str} (h : sm (.str z) = true) : z.length ≤ 1000 := of_decide_eq_true h
theorem sign_ex {z : Str} {d : D} (m : d ∈ Dl.signs z) : ∃ c, d = .str ⟨#[c]⟩ ∧ c ∈ z.cps.toList := by
  unfold Dl.signs at m
  obtain ⟨c, hc, e⟩ := List.mem_map.mp m
  exact ⟨c, e.symm, hc⟩
theorem signs_len (z : Str) : (Dl.signs z).length = z.length := by
  unfold Dl.signs
  rw [List.length_map, Array.length_toList]
  rfl
/-! ### is_name -/
abbrev s_is_name : Stmt := topS 14
abbrev N_is_name : List Str := ["value", "letter"]
theorem sc_is_name : FnScope N_is_name ["value"] (defScope s_is_name) := ⟨rfl, rfl, rfl, by decide +kernel, rfl, by decide +kernel, by decide +kernel⟩
def isName : D → Bool
  | .str z => (decide ((1 : Int) ≤ z.length) && decide ((z.length : Int) ≤ 6)) && (Dl.signs z).all (inT "abcdefghijklmnopqrstuvwxyz")
  | _ => false
theorem ok_is_name {k : Nat} (G : Gn mg) (F : Df K mg "is_name" s_is_name) : ClB P w K mg base (k + 1) "is_name" s_is_name "value" isName := by
  refine cl_of F sc_is_name (fun _ _ _ _ _ _ us hl => match us, hl with | [_], _ => rfl) p1_len fun f cdv A outer s H E hr => ⟨_, (pss_cons (ps_if (PW.pt (pw_or (pt_not (pt_val (pe_callB (show CallR _ (.builtin "isinstance") (rIsi K) from call_isi) (by rfl) G.g_isinstance (by decide +kernel) (pa_cons (pv 0) (pa_cons (pe_bltn (v := .ty "str") (u := .type "str") (by rfl) G.g_str (by decide +kernel) rfl) pa_nil))))) (pw_or1 (pt_not (pt_chain op_le op_le pe_int (pe_callB (show CallR _ (.builtin "len") (fun xs H Q => ∃ x n, xs = [x] ∧ LenV K x H n ∧ Q (.int n) H) from call_len) (by rfl) G.g_len (by decide +kernel) (pa_cons (pv 0) pa_nil)) (pe_gi rfl G.g_MOST_LETTERS)))))) (pss_one (ps_ret pe_bl)) pss_nil)
      (pss_one (ps_ret (pe_callB (cr_all rfl) (by rfl) G.g_all (by decide +kernel) (pa_cons (pe_lc (own := [("letter", 1)]) (g := gName 1) (tt := tYes) rfl sc_is_name.nd (pi_str (pv 0)) (blkOk_by (N := N_is_name) (sc := defScope s_is_name) (by decide +kernel)) (fun _ _ _ _ _ => pg_name (i := 1) sc_is_name.nd rfl (Or.inl rfl)) (fun _ _ _ _ _ => pts_nil) (fun _ _ _ _ _ => (pe_cmpR op_in_sign (pv 1) (pe_gs rfl G.g_LETTERS) (by rfl)))) pa_nil))))), fun B ds hp => ?_⟩
  obtain ⟨d, rfl, hd⟩ := p1_ex hp
  show WS K B _ [.val d, .no] _
  try dsimp only [cxOf, Cx.nox, Cx.blk]
  have hc := sm_cls hd
  cases d with
  | str z =>
    have hl := sm_str hd
    repeat walk_at "dl"
    refine ite2 (fun h1 => ?_) (fun h1 => ?_)
    · repeat walk_at "dl"
      refine ite2 (fun h2 => ?_) (fun h2 => ?_)
      · repeat walk_at "dl"
        show D.bl false = D.bl ((_ && _) && _)
        rw [h1, Bool.true_and]
        rw [show decide ((z.length : Int) ≤ 6) = false by simpa using h2, Bool.false_and]
      · repeat walk_at "dl"
        refine we_lcmap (fun d => .bl (inT "abcdefghijklmnopqrstuvwxyz" d)) (wi_str ?_)
        repeat walk_at "dl"
        refine ⟨by rw [signs_len]; omega, fun d m => ?_, ?_⟩
        · obtain ⟨c, rfl, _⟩ := sign_ex m
          repeat walk_at "dl"
          rfl
        · repeat walk_at "dl"
          exact and_t (by rw [h1, Bool.true_and]; simpa using h2)
    · repeat walk_at "dl"
      show D.bl false = D.bl ((_ && _) && _)
      rw [Bool.eq_false_iff.mpr h1, Bool.false_and, Bool.false_and]
  | cls n => exact Bool.noConfusion hc
  | exn _ _ _ => exact Bool.noConfusion hc
  | obj _ _ _ => exact Bool.noConfusion hc
  | adr _ => exact Bool.noConfusion hc
  | _ => (repeat walk_at "dl"); rfl
/-! ### _law_letters -/
abbrev s__law_letters : Stmt := topS 55
abbrev N__law_letters : List Str := []
theorem sc__law_letters : FnScope N__law_letters [] (defScope s__law_letters) := ⟨rfl, rfl, rfl, by decide +kernel, rfl, by decide +kernel, by decide +kernel⟩
abbrev ClL (P : Program) (w : World) (K : PySem.W.Frag) (mg : Str → Option Value) (base : Heap) (k : Nat) := Cl P w K mg base k "_law_letters" s__law_letters [] (SpD K (fun ds => ds = []) fun ds r => r = (fun _ => D.str "abcdefghijklmnopqrstuvwxyz") ds)
theorem ok__law_letters {k : Nat} (F : Df K mg "_law_letters" s__law_letters) : ClL P w K mg base (k + 1) := by
  refine cl_of F sc__law_letters (fun _ _ _ _ _ _ us hl => match us, hl with | [], _ => rfl) (fun ds h => by rw [h]; rfl) fun f cdv A outer s H E hr => ⟨_, (pss_one (ps_ret pe_str)), fun B ds hp => ?_⟩
  subst hp
  show WS K B _ [] _
  try dsimp only [cxOf, Cx.nox, Cx.blk]
  repeat walk_at "dl"
  rfl
/-! ### _law_is_whole -/
abbrev s__law_is_whole : Stmt := topS 58
abbrev N__law_is_whole : List Str := ["_law_x"]
theorem sc__law_is_whole : FnScope N__law_is_whole ["_law_x"] (defScope s__law_is_whole) := ⟨rfl, rfl, rfl, by decide +kernel, rfl, by decide +kernel, by decide +kernel⟩
theorem ok__law_is_whole {k : Nat} (G : Gn mg) (F : Df K mg "_law_is_whole" s__law_is_whole) : ClB P w K mg base (k + 1) "_law_is_whole" s__law_is_whole "_law_x" isNum := by
  refine cl_of F sc__law_is_whole (fun _ _ _ _ _ _ us hl => match us, hl with | [_], _ => rfl) p1_len fun f cdv A outer s H E hr => ⟨_, (pss_one (ps_ret (pe_and (pe_callB (show CallR _ (.builtin "isinstance") (rIsi K) from call_isi) (by rfl) G.g_isinstance (by decide +kernel) (pa_cons (pv 0) (pa_cons (pe_bltn (v := .ty "int") (u := .type "int") (by rfl) G.g_int (by decide +kernel) rfl) pa_nil))) (pe_one (pe_not (pe_callB (show CallR _ (.builtin "isinstance") (rIsi K) from call_isi) (by rfl) G.g_isinstance (by decide +kernel) (pa_cons (pv 0) (pa_cons (pe_bltn (v := .ty "bool") (u := .type "bool") (by rfl) G.g_bool (by decide +kernel) rfl) pa_nil)))))))), fun B ds hp => ?_⟩
  obtain ⟨d, rfl, hd⟩ := p1_ex hp
  show WS K B _ [.val d] _
  try dsimp only [cxOf, Cx.nox, Cx.blk]
  have hc := sm_cls hd
  cases d <;> first | (exact Bool.noConfusion hc) | (repeat walk_at "dl")
  all_goals rfl
/-! ### helpers of Pd -/
theorem abs_nat (i : Int) : (if i < 0 then -i else i) = (i.natAbs : Int) := by
  split <;> omega
/-! ### _law_is_spot -/
abbrev s__law_is_spot : Stmt := topS 59
abbrev N__law_is_spot : List Str := ["_law_x", "_law_c"]
theorem sc__law_is_spot : FnScope N__law_is_spot ["_law_x"] (defScope s__law_is_spot) := ⟨rfl, rfl, rfl, by decide +kernel, rfl, by decide +kernel, by decide +kernel⟩
theorem ok__law_is_spot {k : Nat} (G : Gn mg) (F : Df K mg "_law_is_spot" s__law_is_spot) (C__law_is_whole : ClB P w K mg base k "_law_is_whole" s__law_is_whole "_law_x" isNum) : ClB P w K mg base (k + 1) "_law_is_spot" s__law_is_spot "_law_x" (isBnd 200) := by
  refine cl_of F sc__law_is_spot (fun _ _ _ _ _ _ us hl => match us, hl with | [_], _ => rfl) p1_len fun f cdv A outer s H E hr => ⟨_, (pss_one (ps_ret (pe_and (pe_callB (show CallR _ (.builtin "isinstance") (rIsi K) from call_isi) (by rfl) G.g_isinstance (by decide +kernel) (pa_cons (pv 0) (pa_cons (pe_bltn (v := .ty "tuple") (u := .type "tuple") (by rfl) G.g_tuple (by decide +kernel) rfl) pa_nil))) (pe_and (pe_cmpR op_eq (pe_callB (show CallR _ (.builtin "len") (fun xs H Q => ∃ x n, xs = [x] ∧ LenV K x H n ∧ Q (.int n) H) from call_len) (by rfl) G.g_len (by decide +kernel) (pa_cons (pv 0) pa_nil)) pe_int (nomark _)) (pe_one (pe_callB (cr_all rfl) (by rfl) G.g_all (by decide +kernel) (pa_cons (pe_lc (own := [("_law_c", 1)]) (g := gName 1) (tt := tYes) rfl sc__law_is_spot.nd (pi_tup (pv 0)) (blkOk_by (N := N__law_is_spot) (sc := defScope s__law_is_spot) (by decide +kernel)) (fun _ _ _ _ _ => pg_name (i := 1) sc__law_is_spot.nd rfl (Or.inl rfl)) (fun _ _ _ _ _ => pts_nil) (fun _ _ _ _ _ => (pe_and (pe_c C__law_is_whole hr (by omega) (by rfl) (pa_cons (pv 1) pa_nil)) (pe_and (pe_cmpR op_le (pe_un un_neg pe_int) (pv 1) (nomark _)) (pe_one (pe_cmpR op_le (pv 1) pe_int (nomark _))))))) pa_nil))))))), fun B ds hp => ?_⟩
  obtain ⟨d, rfl, hd⟩ := p1_ex hp
  show WS K B _ [.val d, .no] _
  try dsimp only [cxOf, Cx.nox, Cx.blk]
  have hc := sm_cls hd
  cases d with
  | tup xs =>
    obtain ⟨hl, hs⟩ := sm_tup hd
    repeat walk_at "dl"
    refine ite2 (fun h => ?_) (fun h => ?_)
    · repeat walk_at "dl"
      refine we_lcmap (fun d => .bl (inB 200 d)) (wi_tup ?_)
      repeat walk_at "dl"
      refine ⟨by omega, fun d m => ?_, ?_⟩
      · repeat walk_at "dl"
        refine ⟨sms_mem hs m, ?_⟩
        cases d <;> (repeat walk_at "dl")
        all_goals first | rfl | skip
        refine ite2 (fun h => ?_) (fun h => ?_)
        · repeat walk_at "dl"
          exact and_t h
        · exact and_f h
      · repeat walk_at "dl"
        show D.bl _ = D.bl (isBnd 200 (.tup xs))
        rw [bnd_eq]
        exact and_t h
    · show D.bl _ = D.bl (isBnd 200 (.tup xs))
      rw [bnd_eq]
      exact and_f h
  | cls n => exact Bool.noConfusion hc
  | exn _ _ _ => exact Bool.noConfusion hc
  | obj _ _ _ => exact Bool.noConfusion hc
  | adr _ => exact Bool.noConfusion hc
  | _ => (repeat walk_at "dl"); rfl
/-! ### helpers of Pe -/
theorem cl_raw {x : Str} {st : Stmt} {N ps : List Str} {k : Nat} {pre : List D → Prop} {post : List D → D → Prop} (F : Df K mg x st) (S : FnScope N ps (defScope st))
    (hb : ∀ (kV doc pm : Value) (an : Option Addr) (cdv ct : Value) (us : List Value), us.length = ps.length → bindArgs (PySem.W.fnOf x x (defArgs st) (defBody st) (defScope st) .none kV doc pm an cdv ct) ⟨us, []⟩ = pure (ps.zip us))
    (hl : ∀ ds, pre ds → ds.length = ps.length)
    (h : ∀ (f : Addr) (cdv : Value) (A : Around) (outer : List Env) (s : Shared) (H : Hp) (E : XK) (B : Bt) (G : Hp) (ds : List D) (vs : List V) (Q : VK), Room k (A.deeper (envOfC x (defScope st) s.heap.objs.size f cdv)) → Ok B G H → Dds K B G vs ds → pre ds → Ct K B G H (post ds) Q →
      ∃ t, PSs (cxOf CX0 P w K mg base N x (defScope st) f cdv A outer s H E).nox (defBody st) t ∧ t { nx := fun _ H' => Q .non H', rt := Q } (L2.start N vs) H) : Cl P w K mg base (k + 1) x st ps (SpD K pre post) := by
  obtain ⟨f, fd, F, hm⟩ := F.ex
  refine ⟨f, fd, F, F.ok S (fun vs H Q E hsp => ?_) (fun cdv A outer s H vs Q E hr hsp => ?_), hm, F.binds hb⟩
  · obtain ⟨B, G, ds, o, hs, p, q⟩ := hsp
    exact hs.length.trans (hl ds p)
  · obtain ⟨B, G, ds, o, hs, p, q⟩ := hsp
    exact h f cdv A outer s H E B G ds vs Q hr o hs p q
/-! ### _law_take -/
abbrev s__law_take : Stmt := topS 49
abbrev N__law_take : List Str := ["_law_box_here", "_law_many", "_law_step", "_law_cell", "_law_digit"]
theorem sc__law_take : FnScope N__law_take ["_law_box_here", "_law_many"] (defScope s__law_take) := ⟨rfl, rfl, rfl, by decide +kernel, rfl, by decide +kernel, by decide +kernel⟩
abbrev takePre : List D → Prop := p2 fun b m => b = .box ∧ ∃ n : Int, m = .int n ∧ 0 < n ∧ n ≤ 1000000000
def takePost : List D → D → Prop := fun ds r => ∃ n i : Int, ds = [.box, .int n] ∧ r = .int i ∧ 0 ≤ i ∧ i < n
abbrev ClT (P : Program) (w : World) (K : PySem.W.Frag) (mg : Str → Option Value) (base : Heap) (k : Nat) := Cl P w K mg base k "_law_take" s__law_take ["_law_box_here", "_law_many"] (SpD K takePre takePost)
theorem fm0 {i n : Int} (h : 0 < n) : 0 ≤ i.fmod n ∧ i.fmod n < n := ⟨Int.fmod_nonneg_of_pos i h, Int.fmod_lt_of_pos i h⟩
theorem fd0 {i n : Int} (hi : 0 ≤ i) (h : 0 < n) : 0 ≤ i.fdiv n := by
  rw [Int.fdiv_eq_ediv_of_nonneg _ (by omega)]
  exact Int.ediv_nonneg hi (by omega)
theorem ok__law_take {k : Nat} (G : Gn mg) (F : Df K mg "_law_take" s__law_take) : ClT P w K mg base (k + 1) := by
  refine cl_raw F sc__law_take (fun _ _ _ _ _ _ us hl => match us, hl with | [_, _], _ => rfl) p2_len fun f cdv A outer s H E B G0 ds vs Q hr ok hs hp q => ?_
  obtain ⟨_, _, rfl, rfl, n, rfl, hn0, hn1⟩ := p2_ex hp
  have ev : vs = [.ref B.a, .int n] := by
    cases hs with
    | cons h1 t =>
      cases t with
      | cons h2 t2 => cases t2; cases h1; cases h2; rfl
  subst ev
  -- the end
  have fin : ∀ (H1 : Hp) (c : Addr) (cells : List Int) (p r m cnt i : Int), (∀ a, a ≠ B.a → H1 a = H a) → H1 B.a = some (.lst [.ref c, .int p, .int r, .int m, .int cnt]) → G0 c = some (.lst (cells.map V.int)) → cells.length ≤ 63 → 0 ≤ p → 0 ≤ r → 0 ≤ m → m < 2147483587 → 0 ≤ cnt → 0 ≤ i → i < n → (∀ c0 r0, H B.a = some (.lst (.ref c0 :: r0)) → c0 = c) → Q (.int i) H1 := by
    intro H1 c cells p r m cnt i hk hB hc hl hp hr hm hm2 hn hi hi2 hcc
    refine q (.int i) (.int i) G0 H1 ⟨Same.refl _, fun a o ne _ e => by rw [hk a ne]; exact e, fun _ _ _ _ g => g, fun c0 r0 e => ⟨[.int p, .int r, .int m, .int cnt], by have ec := hcc c0 r0 e; subst ec; exact hB⟩⟩ ⟨fun a o e => ?_, ok.b, ⟨c, cells, p, r, m, cnt, hB, hc, hl, hp, hr, hm, hm2, hn⟩, ?_, ok.f⟩ (.int i) ⟨n, i, rfl, rfl, hi, hi2⟩
    · have ne : a ≠ B.a := fun z => by rw [z, ok.b] at e; cases e
      rw [hk a ne]
      exact ok.u a o e
    · obtain ⟨c1, cells1, p1, r1, m1, n1, hB1, _⟩ := ok.x
      have e1 : H1 = upd H B.a (.lst [.ref c, .int p, .int r, .int m, .int cnt]) := by
        funext a
        by_cases z : a = B.a
        · rw [z, hB, upd_same]
        · rw [upd_ne z]; exact hk a z
      rw [e1]
      exact tabs_upd ok.t hB1
  -- the lines behind the first if
  obtain ⟨T2, h2, w2⟩ : ∃ T2, PSs (cxOf CX0 P w K mg base N__law_take "_law_take" (defScope s__law_take) f cdv A outer s H E).nox ((defBody s__law_take).drop 1) T2 ∧
      ∀ (H1 : Hp) (c : Addr) (cells : List Int) (p r m cnt : Int) (y2 y3 y4 : Option V), (∀ a, a ≠ B.a → H1 a = H a) → H1 B.a = some (.lst [.ref c, .int p, .int r, .int m, .int cnt]) → G0 c = some (.lst (cells.map V.int)) → cells.length ≤ 63 → 0 ≤ p → 0 ≤ r → 0 ≤ m → m < 2147483587 → 0 ≤ cnt → (∀ c0 r0, H B.a = some (.lst (.ref c0 :: r0)) → c0 = c) →
        T2 { nx := fun _ H' => Q .non H', rt := Q } [some (.ref B.a), some (.int n), y2, y3, y4] H1 := by
    refine ⟨_, (pss_cons (ps_if (pt_cmpR op_gt (pe_ix (show IxR _ (rIxL K) from ix_list) (pv 0) pe_int (fun _ _ => rfl)) pe_int (nomark _)) (pss_cons (ps_set (i := 4) sc__law_take.nd rfl (Or.inl rfl) (pe_op op_modN (pe_callTy call_int1 (by rfl) G.g_int (by decide +kernel) (pa_cons (pe_ix (show IxR _ (rIxL K) from ix_list) (pv 0) pe_int (fun _ _ => rfl)) pa_nil)) (pv 1)))
      (pss_cons (ps_asg (pe_op op_fdivN (pe_callTy call_int1 (by rfl) G.g_int (by decide +kernel) (pa_cons (pe_ix (show IxR _ (rIxL K) from ix_list) (pv 0) pe_int (fun _ _ => rfl)) pa_nil)) (pv 1)) (pg_sub (pv 0) pe_int set_list))
      (pss_one (ps_ret (pv 4))))) pss_nil)
      (pss_cons (ps_asg (pe_op op_add (pe_ix (show IxR _ (rIxL K) from ix_list) (pv 0) pe_int (fun _ _ => rfl)) pe_int) (pg_sub (pv 0) pe_int set_list))
      (pss_cons (ps_set (i := 2) sc__law_take.nd rfl (Or.inl rfl) (pe_op op_modN (pe_callTy call_int1 (by rfl) G.g_int (by decide +kernel) (pa_cons (pe_op op_add (pe_ix (show IxR _ (rIxL K) from ix_list) (pv 0) pe_int (fun _ _ => rfl)) (pe_op op_mul (pe_ix (show IxR _ (rIxL K) from ix_list) (pv 0) pe_int (fun _ _ => rfl)) pe_int)) pa_nil)) pe_int))
      (pss_cons (ps_asg (pe_op op_modN (pe_callTy call_int1 (by rfl) G.g_int (by decide +kernel) (pa_cons (pe_op op_add (pe_op op_add (pe_op op_pow (pv 2) pe_int) (pe_op op_mul pe_int (pv 2))) pe_int) pa_nil)) pe_int) (pg_sub (pv 0) pe_int set_list))
      (pss_one (ps_ret (pe_op op_modN (pe_callTy call_int1 (by rfl) G.g_int (by decide +kernel) (pa_cons (pe_op op_add (pe_op op_fdivN (pe_ix (show IxR _ (rIxL K) from ix_list) (pv 0) pe_int (fun _ _ => rfl)) pe_int) (pe_op op_mul (pe_op op_modN (pe_callTy call_int1 (by rfl) G.g_int (by decide +kernel) (pa_cons (pe_ix (show IxR _ (rIxL K) from ix_list) (pv 0) pe_int (fun _ _ => rfl)) pa_nil)) pe_int) pe_int)) pa_nil)) (pv 1)))))))), ?_⟩
    intro H1 c cells p r m cnt y2 y3 y4 hk hB hc hl hp hr hm hm2 hn hcc
    refine ⟨_, rfl, B.a, _, _, _, rfl, rfl, SqL.of hB, rfl, _, _, rfl, rfl, _, rfl, ?_⟩
    refine ite2 (fun h => ?_) (fun h => ?_)
    · refine ⟨_, rfl, B.a, _, _, _, rfl, rfl, SqL.of hB, rfl, .inl ⟨_, rfl, _, rfl, _, _, rfl, rfl, (show n ≠ 0 by omega), ?_⟩⟩
      refine ⟨_, rfl, B.a, _, _, _, rfl, rfl, SqL.of hB, rfl, .inl ⟨_, rfl, _, rfl, _, _, rfl, rfl, (show n ≠ 0 ∧ n.natAbs < 1073741824 from ⟨by omega, by omega⟩), _, rfl, B.a, _, _, _, rfl, rfl, hB, rfl, ?_⟩⟩
      refine ⟨_, rfl, ?_⟩
      have f0 := fm0 (i := r) hn0
      exact fin _ c cells p (r.fdiv n) m cnt _ (fun a ne => by rw [upd_ne ne]; exact hk a ne) upd_same hc hl hp (fd0 hr hn0) hm hm2 hn f0.1 f0.2 hcc
    · -- box[4] = box[4] + 1
      refine ⟨_, rfl, B.a, _, _, _, rfl, rfl, SqL.of hB, rfl, _, _, rfl, rfl, _, rfl, B.a, _, _, _, rfl, rfl, hB, rfl, ?_⟩
      -- step
      refine ⟨_, rfl, B.a, _, _, _, rfl, rfl, SqL.of upd_same, rfl, _, rfl, B.a, _, _, _, rfl, rfl, SqL.of upd_same, rfl, _, _, rfl, rfl, .inr ⟨by decide, by decide⟩, _, _, rfl, rfl, .inl ⟨_, rfl, _, _, rfl, rfl, (by intro z; exact absurd z (by decide)), ?_⟩⟩
      have fs := fm0 (i := m + (cnt + 1) * 6007) (n := 2147483587) (by decide)
      -- box[3] = int(step ** 3 + 30011 * step + 977) % ..
      refine ⟨_, rfl, _, _, rfl, rfl, ⟨by decide, by decide, (show ((m + (cnt + 1) * 6007).fmod 2147483587).natAbs < 2 ^ 64 by omega)⟩, _, rfl, _, _, rfl, rfl, .inl ⟨by decide, by decide⟩, _, _, rfl, rfl, _, _, rfl, rfl, .inl ⟨_, rfl, _, _, rfl, rfl, (by intro z; exact absurd z (by decide)), _, rfl, B.a, _, _, _, rfl, rfl, upd_same, rfl, ?_⟩⟩
      have fm := fm0 (i := ((m + (cnt + 1) * 6007).fmod 2147483587) ^ (3 : Int).toNat + 30011 * ((m + (cnt + 1) * 6007).fmod 2147483587) + 977) (n := 2147483587) (by decide)
      -- the answer
      refine ⟨_, rfl, B.a, _, _, _, rfl, rfl, SqL.of upd_same, rfl, _, _, rfl, rfl, ⟨by decide, by decide⟩, _, rfl, B.a, _, _, _, rfl, rfl, SqL.of upd_same, rfl, .inl ⟨_, rfl, _, _, rfl, rfl, (by intro z; exact absurd z (by decide)), _, _, rfl, rfl, .inr ⟨by decide, by decide⟩, _, _, rfl, rfl, .inl ⟨_, rfl, _, rfl, _, _, rfl, rfl, (show n ≠ 0 by omega), ?_⟩⟩⟩
      refine fin _ c cells p r _ (cnt + 1) _ (fun a ne => by rw [upd_ne ne, upd_ne ne]; exact hk a ne) upd_same hc hl hp hr fm.1 fm.2 (by omega) (fm0 hn0).1 (fm0 hn0).2 hcc
  refine ⟨_, pss_cons (ps_if (PW.pt (pw_and (pt_cmpR op_eq (pe_ix (show IxR _ (rIxL K) from ix_list) (pv 0) pe_int (fun _ _ => rfl)) pe_int (nomark _)) (pw_and1 (pt_cmpR op_lt (pe_ix (show IxR _ (rIxL K) from ix_list) (pv 0) pe_int (fun _ _ => rfl)) (pe_callB (show CallR _ (.builtin "len") (fun xs H Q => ∃ x n, xs = [x] ∧ LenV K x H n ∧ Q (.int n) H) from call_len) (by rfl) G.g_len (by decide +kernel) (pa_cons (pe_ix (show IxR _ (rIxL K) from ix_list) (pv 0) pe_int (fun _ _ => rfl)) pa_nil)) (nomark _))))) (pss_cons (ps_set (i := 3) sc__law_take.nd rfl (Or.inl rfl) (pe_ix (show IxR _ (rIxL K) from ix_list) (pe_ix (show IxR _ (rIxL K) from ix_list) (pv 0) pe_int (fun _ _ => rfl)) (pe_ix (show IxR _ (rIxL K) from ix_list) (pv 0) pe_int (fun _ _ => rfl)) (fun _ _ => rfl)))
      (pss_cons (ps_asg (pe_op op_add (pe_ix (show IxR _ (rIxL K) from ix_list) (pv 0) pe_int (fun _ _ => rfl)) pe_int) (pg_sub (pv 0) pe_int set_list))
      (pss_cons (ps_asg (pe_op op_modN (pe_callTy call_int1 (by rfl) G.g_int (by decide +kernel) (pa_cons (pe_op op_add (pe_op op_add (pe_op op_mul (pe_ix (show IxR _ (rIxL K) from ix_list) (pv 0) pe_int (fun _ _ => rfl)) pe_int) (pe_op op_mul (pe_op op_modN (pe_callTy call_int1 (by rfl) G.g_int (by decide +kernel) (pa_cons (pv 3) pa_nil)) pe_int) pe_int)) pe_int) pa_nil)) pe_int) (pg_sub (pv 0) pe_int set_list))
      (pss_one (ps_if (pt_cmpR op_ge (pe_callB call_abs (by rfl) G.g_abs (by decide +kernel) (pa_cons (pv 3) pa_nil)) (pe_op op_pow pe_int pe_int) (nomark _)) (pss_one (ps_asg (pe_callB call_abs (by rfl) G.g_abs (by decide +kernel) (pa_cons (pv 3) pa_nil)) (pg_sub (pv 0) pe_int set_list))) pss_nil))))) pss_nil) h2, ?_⟩
  obtain ⟨c, cells, p, r, m, cnt, hB, hc, hl, hp, hr0, hm, hm2, hn⟩ := ok.x
  show (tSeq _ T2) _ [some (.ref B.a), some (.int n), none, none, none] H
  have hcc : ∀ c0 r0, H B.a = some (.lst (.ref c0 :: r0)) → c0 = c := fun c0 r0 e => by
    rw [hB] at e
    exact (V.ref.inj (List.cons.inj (HO.lst.inj (Option.some.inj e))).1).symm
  have go0 := w2 H c cells p r m cnt none none none (fun _ _ => rfl) hB hc hl hp hr0 hm hm2 hn hcc
  refine ⟨_, rfl, B.a, _, _, _, rfl, rfl, SqL.of hB, rfl, rfl, _, rfl, ?_⟩
  refine ite2 (fun h => ?_) (fun h => iteF go0)
  have er : r = 0 := V.int.inj (of_decide_eq_true h)
  have hcH : SqL K H c (cells.map V.int) := SqL.of (ok.u _ _ hc)
  refine ⟨_, rfl, B.a, _, _, _, rfl, rfl, SqL.of hB, rfl, _, rfl, B.a, _, _, _, rfl, rfl, SqL.of hB, rfl, _, _, rfl, .inl ⟨_, hcH, rfl⟩, _, _, rfl, rfl, _, rfl, ?_⟩
  refine ite2 (fun h2 => ?_) (fun h2 => go0)
  have hp2 : p < ((cells.map V.int).length : Int) := of_decide_eq_true h2
  rw [List.length_map] at hp2
  obtain ⟨j, rfl⟩ : ∃ j : Nat, p = (j : Int) := ⟨p.toNat, by omega⟩
  have hj : j < cells.length := by omega
  have hat : atI (cells.map V.int) (j : Int) = some (.int cells[j]) := atI_nat (by rw [List.getElem?_map, List.getElem?_eq_getElem hj]; rfl)
  generalize cells[j] = cell at hat
  -- cell = box[0][box[1]]
  refine ⟨_, rfl, B.a, _, _, _, rfl, rfl, SqL.of hB, rfl, _, rfl, B.a, _, _, _, rfl, rfl, SqL.of hB, rfl, c, _, _, _, rfl, rfl, hcH, hat, ?_⟩
  -- box[1] = box[1] + 1
  refine ⟨_, rfl, B.a, _, _, _, rfl, rfl, SqL.of hB, rfl, _, _, rfl, rfl, _, rfl, B.a, _, _, _, rfl, rfl, hB, rfl, ?_⟩
  -- box[3] = ..
  refine ⟨_, rfl, B.a, _, _, _, rfl, rfl, SqL.of upd_same, rfl, _, _, rfl, rfl, .inr ⟨by decide, by decide⟩, _, rfl, .inl ⟨_, rfl, _, _, rfl, rfl, (by intro z; exact absurd z (by decide)), _, _, rfl, rfl, .inr ⟨by decide, by decide⟩, _, _, rfl, rfl, _, _, rfl, rfl, .inl ⟨_, rfl, _, _, rfl, rfl, (by intro z; exact absurd z (by decide)), _, rfl, B.a, _, _, _, rfl, rfl, upd_same, rfl, ?_⟩⟩⟩
  have fm := fm0 (i := m * 48271 + cell.fmod 2147483399 * 7 + 13) (n := 2147483587) (by decide)
  -- if abs(cell) >= 10 ** 18
  refine ⟨_, rfl, _, rfl, _, _, rfl, rfl, ⟨by decide, by decide, by decide⟩, _, _, rfl, rfl, _, rfl, ?_⟩
  refine ite2 (fun h3 => ?_) (fun h3 => ?_)
  · refine ⟨_, rfl, _, rfl, _, rfl, B.a, _, _, _, rfl, rfl, upd_same, rfl, ?_⟩
    exact w2 _ c cells (j + 1) (if cell < 0 then -cell else cell) _ cnt none (some (.int cell)) none (fun a ne => by rw [upd_ne ne, upd_ne ne, upd_ne ne]) upd_same hc hl (by omega) (by split <;> omega) fm.1 fm.2 hn hcc
  · exact w2 _ c cells (j + 1) r _ cnt none (some (.int cell)) none (fun a ne => by rw [upd_ne ne, upd_ne ne]) upd_same hc hl (by omega) hr0 fm.1 fm.2 hn hcc
/-! ### _law_pick -/
abbrev s__law_pick : Stmt := topS 50
abbrev N__law_pick : List Str := ["_law_box_here", "_law_some"]
theorem sc__law_pick : FnScope N__law_pick ["_law_box_here", "_law_some"] (defScope s__law_pick) := ⟨rfl, rfl, rfl, by decide +kernel, rfl, by decide +kernel, by decide +kernel⟩
abbrev pickPre : List D → Prop := p2 fun b l => b = .box ∧ ∃ xs, l = .lst xs ∧ 0 < xs.length ∧ xs.length ≤ 1000
def pickPost : List D → D → Prop := fun ds r => ∃ xs, ds = [.box, .lst xs] ∧ r ∈ xs
abbrev ClP (P : Program) (w : World) (K : PySem.W.Frag) (mg : Str → Option Value) (base : Heap) (k : Nat) := Cl P w K mg base k "_law_pick" s__law_pick ["_law_box_here", "_law_some"] (SpD K pickPre pickPost)
theorem ok__law_pick {k : Nat} (G : Gn mg) (F : Df K mg "_law_pick" s__law_pick) (C__law_take : ClT P w K mg base k) : ClP P w K mg base (k + 1) := by
  refine cl_of F sc__law_pick (fun _ _ _ _ _ _ us hl => match us, hl with | [_, _], _ => rfl) p2_len fun f cdv A outer s H E hr => ⟨_, (pss_one (ps_ret (pe_ix (show IxR _ (rIxL K) from ix_list) (pv 1) (pe_c C__law_take hr (by omega) (by rfl) (pa_cons (pv 0) (pa_cons (pe_callB (show CallR _ (.builtin "len") (fun xs H Q => ∃ x n, xs = [x] ∧ LenV K x H n ∧ Q (.int n) H) from call_len) (by rfl) G.g_len (by decide +kernel) (pa_cons (pv 1) pa_nil)) pa_nil))) (fun _ _ => rfl)))), fun B ds hp => ?_⟩
  obtain ⟨_, _, rfl, rfl, xs, rfl, h0, h1⟩ := p2_ex hp
  show WS K B _ [.val .box, .val (.lst xs)] _
  try dsimp only [cxOf, Cx.nox, Cx.blk]
  repeat walk_at "dl"
  refine ⟨⟨rfl, _, rfl, by omega, by omega⟩, ?_⟩
  rintro d ⟨n, i, e, rfl, hi0, hi1⟩
  cases e
  obtain ⟨j, rfl⟩ : ∃ j : Nat, i = (j : Int) := ⟨i.toNat, by omega⟩
  have hj : j < xs.length := by omega
  exact ro_ixL (atI_nat (List.getElem?_eq_getElem hj)) ⟨xs, rfl, List.getElem_mem hj⟩
/-! ### _law_same -/
def isNon : D → Bool | .non => true | _ => false
theorem ro_isN {B : Bt} {Pp : D → Prop} {a : D} (p : Pp (.bl (isNon a))) : RO K B (fun x y H Q => y = .non ∧ Q (.bl (decide (x = .non))) H) a .non Pp := fun _ _ x _ _ o hx hy q => by
  cases hy
  refine ⟨rfl, ?_⟩
  have e : decide (x = V.non) = isNon a := by cases hx <;> rfl
  rw [e]
  exact q.nil o (.bl _) p
theorem ro_eq5 {B : Bt} {Pp : D → Prop} {a b c d e : Bool} (p : Pp (.bl true)) : RO K B (rEqD K) (.lst [.bl a, .bl b, .bl c, .bl d, .bl e]) (.lst [.bl a, .bl b, .bl c, .bl d, .bl e]) Pp := fun G H x y _ o hx hy q => by
  have key : ∀ v, Dd K B G v (.lst [.bl a, .bl b, .bl c, .bl d, .bl e]) → Dp K H v (.list [.bool a, .bool b, .bool c, .bool d, .bool e]) := by
    intro v hv
    cases hv with
    | lst hg t =>
      cases t with
      | cons h1 t =>
        cases t with
        | cons h2 t =>
          cases t with
          | cons h3 t =>
            cases t with
            | cons h4 t =>
              cases t with
              | cons h5 t =>
                cases t; cases h1; cases h2; cases h3; cases h4; cases h5
                exact .lst (SqL.of (o.u _ _ hg)) (.cons (.bl a) (.cons (.bl b) (.cons (.bl c) (.cons (.bl d) (.cons (.bl e) .nil)))))
  have hsh : SeqAt.shaped (.list [.bool a, .bool b, .bool c, .bool d, .bool e]) = true := by
    cases a <;> cases b <;> cases c <;> cases d <;> cases e <;> decide +kernel
  refine ⟨_, _, key x hx, key y hy, hsh, hsh, ?_⟩
  have e : PyData.eqv (.list [.bool a, .bool b, .bool c, .bool d, .bool e]) (.list [.bool a, .bool b, .bool c, .bool d, .bool e]) = true := by
    cases a <;> cases b <;> cases c <;> cases d <;> cases e <;> decide +kernel
  rw [e]
  exact q.nil o (.bl true) p
theorem ro_eqU1 {B : Bt} {Pp : D → Prop} {a b : D} (h : RO K B rEq a b Pp) : RO K B rEqU a b Pp := fun G H x y Q o hx hy q => .inl (h G H x y Q o hx hy q)
theorem ro_eqU2 {B : Bt} {Pp : D → Prop} {ks : List Key} {xs : List D} (h : (ks = [] ∧ xs = []) ∨ ∃ k x, ks = [k] ∧ xs = [x] ∧ x.flat = true) (p : Pp (.bl true)) : RO K B rEqU (.dic ks xs) (.dic ks xs) Pp := fun G H x y Q o hx hy q => by
  refine .inr ?_
  generalize e1 : D.dic ks xs = d1 at hx
  cases hx with
  | @dic a kvs ds hg t =>
    generalize e2 : D.dic ks xs = d2 at hy
    cases hy with
    | @dic b lvs es hg2 t2 =>
      cases e1
      injection e2 with e3 e4
      subst e4
      refine ⟨a, b, kvs, lvs, rfl, rfl, o.u _ _ hg, o.u _ _ hg2, ?_, ?_, q.nil o (.bl true) p⟩
      · rw [← List.length_map (f := (·.1)) (as := kvs), ← List.length_map (f := (·.1)) (as := lvs), e3]
      · rcases h with ⟨h1, _⟩ | ⟨k, z, h1, h2, hf⟩
        · have : kvs = [] := by simpa using h1
          subst this
          intro p hp; cases hp
        · match kvs, lvs, h1, e3 with
          | [(k1, v1)], [(k2, v2)], h1, e3 =>
            have ek : k1 = k2 := by simpa using e3
            subst ek
            subst h2
            intro p hp
            rw [List.mem_singleton.mp hp]
            cases t with
            | cons a1 _ =>
              cases t2 with
              | cons a2 _ =>
                have f1 := a1.flat hf
                have f2 := a2.flat hf
                have f3 : v1 = z.v := f1
                have f4 : v2 = z.v := f2
                subst f3 f4
                refine ⟨?_, ?_⟩
                · unfold valV
                  rw [List.find?_cons_of_pos (by exact decide_eq_true rfl)]
                  rfl
                · show flatB z.v = true
                  cases z <;> first | rfl | exact Bool.noConfusion hf
          | [], _, h1, _ => simp at h1
          | _ :: _ :: _, _, h1, _ => simp at h1
          | [_], [], _, e3 => simp at e3
          | [_], _ :: _ :: _, _, e3 => simp at e3
    | _ => cases e2
  | _ => cases e1
abbrev s__law_same : Stmt := topS 52
abbrev N__law_same : List Str := ["_law_found", "_law_due", "_law_kinds", "_law_x", "_law_k"]
theorem sc__law_same : FnScope N__law_same ["_law_found", "_law_due"] (defScope s__law_same) := ⟨rfl, rfl, rfl, by decide +kernel, rfl, by decide +kernel, by decide +kernel⟩
/-- how deep, and of plain things alone -/
def plain : Nat → D → Bool
  | _, .non => true | _, .bl _ => true | _, .int _ => true | _, .str _ => true | _, .dic [] [] => true | _, .dic [_] [x] => x.flat
  | n + 1, .lst xs => decide (xs.length ≤ 1000) && xs.all (plain n)
  | n + 1, .tup xs => decide (xs.length ≤ 1000) && xs.all (plain n)
  | _, _ => false
abbrev samePre (n : Nat) : List D → Prop := p2 fun a b => a = b ∧ plain n a = true
abbrev ClS (P : Program) (w : World) (K : PySem.W.Frag) (mg : Str → Option Value) (base : Heap) (k n : Nat) := Cl P w K mg base k "_law_same" s__law_same ["_law_found", "_law_due"] (SpD K (samePre n) fun ds r => r = (fun _ => D.bl true) ds)
theorem all_true : ∀ n : Nat, (upto 0 n).all (fun _ => true) = true := fun n => List.all_eq_true.mpr fun _ _ => rfl
theorem upto_mem {n : Nat} {d : D} (m : d ∈ upto 0 n) : ∃ j : Nat, d = .int j ∧ j < n := by
  unfold upto at m
  obtain ⟨j, hj, e⟩ := List.mem_map.mp m
  exact ⟨j, by rw [← e, Int.zero_add], List.mem_range.mp hj⟩
theorem upto_len {lo : Int} {n : Nat} : (upto lo n).length = n := by unfold upto; rw [List.length_map, List.length_range]
theorem same_body {k n : Nat} (G : Gn mg) (F : Df K mg "_law_same" s__law_same) (C__law_same : Cl P w K mg base k "_law_same" s__law_same ["_law_found", "_law_due"] (SpD K (p2 fun a b => a = b ∧ ∃ m, n = m + 1 ∧ plain m a = true) fun ds r => r = (fun _ => D.bl true) ds)) : ClS P w K mg base (k + 1) n := by
    refine cl_of F sc__law_same (fun _ _ _ _ _ _ us hl => match us, hl with | [_, _], _ => rfl) p2_len fun f cdv A outer s H E hr => ?_
    refine ⟨_, (pss_cons (ps_if (pt_val (pe_callB (show CallR _ (.builtin "isinstance") (zIsi2 K) from call_isiZ) (by rfl) G.g_isinstance (by decide +kernel) (pa_cons (pv 1) (pa_cons (pe_tupZ (pa_cons (pe_bltn (v := .ty "list") (u := .type "list") (by rfl) G.g_list (by decide +kernel) rfl) (pa_cons (pe_bltn (v := .ty "tuple") (u := .type "tuple") (by rfl) G.g_tuple (by decide +kernel) rfl) pa_nil))) pa_nil)))) (pss_cons (ps_if (PW.pt (pw_or (pt_cmpR op_ne (pe_callB (show CallR _ (.builtin "isinstance") (rIsi K) from call_isi) (by rfl) G.g_isinstance (by decide +kernel) (pa_cons (pv 0) (pa_cons (pe_bltn (v := .ty "list") (u := .type "list") (by rfl) G.g_list (by decide +kernel) rfl) pa_nil))) (pe_callB (show CallR _ (.builtin "isinstance") (rIsi K) from call_isi) (by rfl) G.g_isinstance (by decide +kernel) (pa_cons (pv 1) (pa_cons (pe_bltn (v := .ty "list") (u := .type "list") (by rfl) G.g_list (by decide +kernel) rfl) pa_nil))) (nomark _)) (pw_or1 (pt_cmpR op_ne (pe_callB (show CallR _ (.builtin "isinstance") (rIsi K) from call_isi) (by rfl) G.g_isinstance (by decide +kernel) (pa_cons (pv 0) (pa_cons (pe_bltn (v := .ty "tuple") (u := .type "tuple") (by rfl) G.g_tuple (by decide +kernel) rfl) pa_nil))) (pe_callB (show CallR _ (.builtin "isinstance") (rIsi K) from call_isi) (by rfl) G.g_isinstance (by decide +kernel) (pa_cons (pv 1) (pa_cons (pe_bltn (v := .ty "tuple") (u := .type "tuple") (by rfl) G.g_tuple (by decide +kernel) rfl) pa_nil))) (nomark _))))) (pss_one (ps_ret pe_bl)) pss_nil)
      (pss_one (ps_ret (pe_and (pe_cmpR op_eq (pe_callB (show CallR _ (.builtin "len") (fun xs H Q => ∃ x n, xs = [x] ∧ LenV K x H n ∧ Q (.int n) H) from call_len) (by rfl) G.g_len (by decide +kernel) (pa_cons (pv 0) pa_nil)) (pe_callB (show CallR _ (.builtin "len") (fun xs H Q => ∃ x n, xs = [x] ∧ LenV K x H n ∧ Q (.int n) H) from call_len) (by rfl) G.g_len (by decide +kernel) (pa_cons (pv 1) pa_nil)) (nomark _)) (pe_one (pe_callB (cr_all rfl) (by rfl) G.g_all (by decide +kernel) (pa_cons (pe_lc (own := [("_law_k", 4)]) (g := gName 4) (tt := tYes) rfl sc__law_same.nd (pi_range1 rfl G.g_range (pa_cons (pe_callB (show CallR _ (.builtin "len") (fun xs H Q => ∃ x n, xs = [x] ∧ LenV K x H n ∧ Q (.int n) H) from call_len) (by rfl) G.g_len (by decide +kernel) (pa_cons (pv 1) pa_nil)) pa_nil)) (blkOk_by (N := N__law_same) (sc := defScope s__law_same) (by decide +kernel)) (fun _ _ _ _ _ => pg_name (i := 4) sc__law_same.nd rfl (Or.inl rfl)) (fun _ _ _ _ _ => pts_nil) (fun _ _ _ _ _ => (pe_c C__law_same hr (by omega) (by rfl) (pa_cons (pe_ix (show IxR _ (rIx K) from ix_seq) (pv 0) (pv 4) (fun _ _ => rfl)) (pa_cons (pe_ix (show IxR _ (rIx K) from ix_seq) (pv 1) (pv 4) (fun _ _ => rfl)) pa_nil))))) pa_nil))))))) pss_nil)
      (pss_cons (ps_setLc (i := 2) (own := [("_law_x", 3)]) (g := gName 3) (tt := tYes) rfl sc__law_same.nd rfl rfl (sw_true rfl rfl rfl (by decide +kernel)) (pi_tup (pe_tupZ (pa_cons (pv 0) (pa_cons (pv 1) pa_nil)))) (blkOk_by (N := N__law_same) (sc := defScope s__law_same) (by decide +kernel)) (fun _ _ _ _ _ => pg_name (i := 3) sc__law_same.nd rfl (Or.inl rfl)) (fun _ _ _ _ _ => pts_nil) (fun _ _ _ _ _ => (pe_lst (pa_cons (pe_callB (show CallR _ (.builtin "isinstance") (rIsi K) from call_isi) (by rfl) G.g_isinstance (by decide +kernel) (pa_cons (pv 3) (pa_cons (pe_bltn (v := .ty "bool") (u := .type "bool") (by rfl) G.g_bool (by decide +kernel) rfl) pa_nil))) (pa_cons (pe_callB (show CallR _ (.builtin "isinstance") (rIsi K) from call_isi) (by rfl) G.g_isinstance (by decide +kernel) (pa_cons (pv 3) (pa_cons (pe_bltn (v := .ty "int") (u := .type "int") (by rfl) G.g_int (by decide +kernel) rfl) pa_nil))) (pa_cons (pe_callB (show CallR _ (.builtin "isinstance") (rIsi K) from call_isi) (by rfl) G.g_isinstance (by decide +kernel) (pa_cons (pv 3) (pa_cons (pe_bltn (v := .ty "str") (u := .type "str") (by rfl) G.g_str (by decide +kernel) rfl) pa_nil))) (pa_cons (pe_callB (show CallR _ (.builtin "isinstance") (rIsi K) from call_isi) (by rfl) G.g_isinstance (by decide +kernel) (pa_cons (pv 3) (pa_cons (pe_bltn (v := .ty "dict") (u := .type "dict") (by rfl) G.g_dict (by decide +kernel) rfl) pa_nil))) (pa_cons (pe_cmpR op_isN (pv 3) pe_non (nomark _)) pa_nil))))))))
      (pss_one (ps_ret (pe_and (pe_cmpR (op_eqD hr.units) (pe_ix (show IxR _ (rIxL K) from ix_list) (pv 2) pe_int (fun _ _ => rfl)) (pe_ix (show IxR _ (rIxL K) from ix_list) (pv 2) pe_int (fun _ _ => rfl)) (nomark _)) (pe_and (pe_not (pe_callB (show CallR _ (.builtin "isinstance") (zIsi2 K) from call_isiZ) (by rfl) G.g_isinstance (by decide +kernel) (pa_cons (pv 0) (pa_cons (pe_tupZ (pa_cons (pe_bltn (v := .ty "list") (u := .type "list") (by rfl) G.g_list (by decide +kernel) rfl) (pa_cons (pe_bltn (v := .ty "tuple") (u := .type "tuple") (by rfl) G.g_tuple (by decide +kernel) rfl) pa_nil))) pa_nil)))) (pe_one (pe_cmpR (op_eqU (u0 hr)) (pv 0) (pv 1) (nomark _))))))))), fun B ds hp => ?_⟩
    obtain ⟨d, _, rfl, rfl, hd⟩ := p2_ex hp
    show WS K B _ [.val d, .val d, .no, .no, .no] _
    try dsimp only [cxOf, Cx.nox, Cx.blk]
    cases d with
    | lst xs =>
      cases n with
      | zero => exact Bool.noConfusion hd
      | succ n =>
        have hd' : (decide (xs.length ≤ 1000) && xs.all (plain n)) = true := hd
        rw [Bool.and_eq_true, decide_eq_true_eq] at hd'
        obtain ⟨hl, ha⟩ := hd'
        repeat walk_at "dl"
        refine ite2 (fun _ => ?_) (fun h => absurd (decide_eq_true rfl) h)
        repeat walk_at "dl"
        refine we_lcmap (fun _ => .bl true) (wi_range1 ?_)
        repeat walk_at "dl"
        refine ⟨by omega, by omega, ?_, ?_, ?_⟩
        · rw [upto_len]; omega
        · intro d m
          obtain ⟨j, rfl, hj⟩ := upto_mem m
          have hj' : j < xs.length := by omega
          repeat walk_at "dl"
          refine ro_ixsL (atI_nat (List.getElem?_eq_getElem hj')) ?_
          repeat walk_at "dl"
          refine ro_ixsL (atI_nat (List.getElem?_eq_getElem hj')) ?_
          repeat walk_at "dl"
          exact ⟨⟨rfl, n, rfl, List.all_eq_true.mp ha _ (List.getElem_mem hj')⟩, rfl⟩
        · repeat walk_at "dl"
          show D.bl _ = D.bl true
          rw [all_true]
    | tup xs =>
      cases n with
      | zero => exact Bool.noConfusion hd
      | succ n =>
        have hd' : (decide (xs.length ≤ 1000) && xs.all (plain n)) = true := hd
        rw [Bool.and_eq_true, decide_eq_true_eq] at hd'
        obtain ⟨hl, ha⟩ := hd'
        repeat walk_at "dl"
        refine ite2 (fun _ => ?_) (fun h => absurd (decide_eq_true rfl) h)
        repeat walk_at "dl"
        refine we_lcmap (fun _ => .bl true) (wi_range1 ?_)
        repeat walk_at "dl"
        refine ⟨by omega, by omega, ?_, ?_, ?_⟩
        · rw [upto_len]; omega
        · intro d m
          obtain ⟨j, rfl, hj⟩ := upto_mem m
          have hj' : j < xs.length := by omega
          repeat walk_at "dl"
          refine ro_ixsT (atI_nat (List.getElem?_eq_getElem hj')) ?_
          repeat walk_at "dl"
          refine ro_ixsT (atI_nat (List.getElem?_eq_getElem hj')) ?_
          repeat walk_at "dl"
          exact ⟨⟨rfl, n, rfl, List.all_eq_true.mp ha _ (List.getElem_mem hj')⟩, rfl⟩
        · repeat walk_at "dl"
          show D.bl _ = D.bl true
          rw [all_true]
    | cls z => cases n <;> exact Bool.noConfusion hd
    | exn _ _ _ => cases n <;> exact Bool.noConfusion hd
    | obj _ _ _ => cases n <;> exact Bool.noConfusion hd
    | adr _ => cases n <;> exact Bool.noConfusion hd
    | box => cases n <;> exact Bool.noConfusion hd
    | dic ks xs =>
      have hd2 : (ks = [] ∧ xs = []) ∨ ∃ k x, ks = [k] ∧ xs = [x] ∧ x.flat = true := by
        match ks, xs, hd with
        | [], [], _ => exact .inl ⟨rfl, rfl⟩
        | [k], [x], hd => exact .inr ⟨k, x, rfl, rfl, by cases n <;> exact hd⟩
        | [], _ :: _, hd => cases n <;> exact Bool.noConfusion hd
        | [_], [], hd => cases n <;> exact Bool.noConfusion hd
        | [_], _ :: _ :: _, hd => cases n <;> exact Bool.noConfusion hd
        | _ :: _ :: _, _, hd => cases n <;> exact Bool.noConfusion hd
      repeat walk_at "dl"
      refine we_lcmap (fun d => .lst [.bl (isBool d), .bl (Dl.isInt d), .bl (isStr d), .bl (isDic d), .bl (isNon d)]) (wi_tup ?_)
      repeat walk_at "dl"
      refine ⟨fun d m => ?_, ?_⟩
      · have hc : d.isCls = false := by
          rcases List.mem_cons.mp m with e | m
          · rw [e]; rfl
          · rw [List.mem_singleton.mp m]; rfl
        repeat walk_at "dl"
        refine ro_isN ?_
        repeat walk_at "dl"
        rfl
      · repeat walk_at "dl"
        refine ro_ixL (d := .lst [.bl _, .bl _, .bl _, .bl _, .bl _]) rfl ?_
        repeat walk_at "dl"
        refine ro_ixL (d := .lst [.bl _, .bl _, .bl _, .bl _, .bl _]) rfl ?_
        refine ro_eq5 ?_
        repeat walk_at "dl"
        exact ro_eqU2 hd2 rfl
    | non =>
      repeat walk_at "dl"
      refine we_lcmap (fun d => .lst [.bl (isBool d), .bl (Dl.isInt d), .bl (isStr d), .bl (isDic d), .bl (isNon d)]) (wi_tup ?_)
      repeat walk_at "dl"
      refine ⟨fun d m => ?_, ?_⟩
      · have hc : d.isCls = false := by
          rcases List.mem_cons.mp m with e | m
          · rw [e]; rfl
          · rw [List.mem_singleton.mp m]; rfl
        repeat walk_at "dl"
        refine ro_isN ?_
        repeat walk_at "dl"
        rfl
      · repeat walk_at "dl"
        refine ro_ixL (d := .lst [.bl _, .bl _, .bl _, .bl _, .bl _]) rfl ?_
        repeat walk_at "dl"
        refine ro_ixL (d := .lst [.bl _, .bl _, .bl _, .bl _, .bl _]) rfl ?_
        refine ro_eq5 ?_
        repeat walk_at "dl"
        refine ro_eqU1 (ro_eq rfl rfl rfl ?_)
        show D.bl _ = D.bl true
        rw [decide_eq_true rfl]
    | bl b =>
      repeat walk_at "dl"
      refine we_lcmap (fun d => .lst [.bl (isBool d), .bl (Dl.isInt d), .bl (isStr d), .bl (isDic d), .bl (isNon d)]) (wi_tup ?_)
      repeat walk_at "dl"
      refine ⟨fun d m => ?_, ?_⟩
      · have hc : d.isCls = false := by
          rcases List.mem_cons.mp m with e | m
          · rw [e]; rfl
          · rw [List.mem_singleton.mp m]; rfl
        repeat walk_at "dl"
        refine ro_isN ?_
        repeat walk_at "dl"
        rfl
      · repeat walk_at "dl"
        refine ro_ixL (d := .lst [.bl _, .bl _, .bl _, .bl _, .bl _]) rfl ?_
        repeat walk_at "dl"
        refine ro_ixL (d := .lst [.bl _, .bl _, .bl _, .bl _, .bl _]) rfl ?_
        refine ro_eq5 ?_
        repeat walk_at "dl"
        refine ro_eqU1 (ro_eq rfl rfl rfl ?_)
        show D.bl _ = D.bl true
        rw [decide_eq_true rfl]
    | int i =>
      repeat walk_at "dl"
      refine we_lcmap (fun d => .lst [.bl (isBool d), .bl (Dl.isInt d), .bl (isStr d), .bl (isDic d), .bl (isNon d)]) (wi_tup ?_)
      repeat walk_at "dl"
      refine ⟨fun d m => ?_, ?_⟩
      · have hc : d.isCls = false := by
          rcases List.mem_cons.mp m with e | m
          · rw [e]; rfl
          · rw [List.mem_singleton.mp m]; rfl
        repeat walk_at "dl"
        refine ro_isN ?_
        repeat walk_at "dl"
        rfl
      · repeat walk_at "dl"
        refine ro_ixL (d := .lst [.bl _, .bl _, .bl _, .bl _, .bl _]) rfl ?_
        repeat walk_at "dl"
        refine ro_ixL (d := .lst [.bl _, .bl _, .bl _, .bl _, .bl _]) rfl ?_
        refine ro_eq5 ?_
        repeat walk_at "dl"
        refine ro_eqU1 (ro_eq rfl rfl rfl ?_)
        show D.bl _ = D.bl true
        rw [decide_eq_true rfl]
    | str z =>
      repeat walk_at "dl"
      refine we_lcmap (fun d => .lst [.bl (isBool d), .bl (Dl.isInt d), .bl (isStr d), .bl (isDic d), .bl (isNon d)]) (wi_tup ?_)
      repeat walk_at "dl"
      refine ⟨fun d m => ?_, ?_⟩
      · have hc : d.isCls = false := by
          rcases List.mem_cons.mp m with e | m
          · rw [e]; rfl
          · rw [List.mem_singleton.mp m]; rfl
        repeat walk_at "dl"
        refine ro_isN ?_
        repeat walk_at "dl"
        rfl
      · repeat walk_at "dl"
        refine ro_ixL (d := .lst [.bl _, .bl _, .bl _, .bl _, .bl _]) rfl ?_
        repeat walk_at "dl"
        refine ro_ixL (d := .lst [.bl _, .bl _, .bl _, .bl _, .bl _]) rfl ?_
        refine ro_eq5 ?_
        repeat walk_at "dl"
        refine ro_eqU1 (ro_eq rfl rfl rfl ?_)
        show D.bl _ = D.bl true
        rw [decide_eq_true rfl]
theorem ok__law_same {k : Nat} (G : Gn mg) (F : Df K mg "_law_same" s__law_same) : ∀ n : Nat, ClS P w K mg base (k + n + 1) n := by
  intro n
  induction n with
  | zero =>
    refine same_body (k := k) G F ?_
    obtain ⟨f, fd, F, hm⟩ := F.ex
    have no : ∀ vs H Q E, ¬ SpD K (p2 fun a b => a = b ∧ ∃ m, 0 = m + 1 ∧ plain m a = true) (fun ds r => r = (fun _ => D.bl true) ds) vs H Q E := by
      rintro vs H Q E ⟨B, G1, ds, o, hs, hp, q⟩
      obtain ⟨a, b, rfl, e, m', hm, hpl⟩ := p2_ex hp
      exact absurd hm (by omega)
    exact ⟨f, fd, F, ⟨fun vs H Q E h => (no vs H Q E h).elim, fun A outer s H args us vs Q E _ _ _ _ h => (no vs H Q E h).elim⟩, hm, F.binds fun _ _ _ _ _ _ us hl => match us, hl with | [_, _], _ => rfl⟩
  | succ m ih =>
    refine same_body (k := k + m + 1) G F (ih.imp fun vs H Q E h => ?_)
    obtain ⟨B, G1, ds, o, hs, hp, q⟩ := h
    refine ⟨B, G1, ds, o, hs, ?_, q⟩
    obtain ⟨a, b, rfl, e, m', hm, hpl⟩ := p2_ex hp
    cases hm
    exact ⟨e, hpl⟩
/-! ### _law_word -/
theorem strs_of {m : Nat} : ∀ (acc : List D), (∀ d ∈ acc, ∃ z : Str, d = .str z ∧ z.length ≤ m) → ∃ ys : List Str, acc = ys.map D.str ∧ ∀ y ∈ ys, y.length ≤ m
  | [], _ => ⟨[], rfl, fun _ z => nomatch z⟩
  | d :: r, h => by
    obtain ⟨z, e, l⟩ := h d List.mem_cons_self
    obtain ⟨ys, e2, l2⟩ := strs_of r fun x hx => h x (List.mem_cons_of_mem _ hx)
    refine ⟨z :: ys, by rw [e, e2]; rfl, fun y hy => ?_⟩
    rcases List.mem_cons.mp hy with q | q
    · rw [q]; exact l
    · exact l2 y q
def abc : List Nat := ("abcdefghijklmnopqrstuvwxyz" : Str).cps.toList
def sgl (c : Nat) : Str := ⟨#[c]⟩
theorem sgls_of : ∀ (acc : List D), (∀ d ∈ acc, ∃ c, c ∈ abc ∧ d = .str (sgl c)) → ∃ cs : List Nat, acc = (cs.map sgl).map D.str ∧ ∀ c ∈ cs, c ∈ abc
  | [], _ => ⟨[], rfl, fun _ z => nomatch z⟩
  | d :: r, h => by
    obtain ⟨c, hc, e⟩ := h d List.mem_cons_self
    obtain ⟨cs, e2, h2⟩ := sgls_of r fun x hx => h x (List.mem_cons_of_mem _ hx)
    exact ⟨c :: cs, by rw [e, e2]; rfl, fun y hy => (List.mem_cons.mp hy).elim (fun q => q ▸ hc) (h2 y)⟩
theorem joinL_nil : ∀ cs : List Nat, TL.joinL [] ((cs.map sgl).map TL.tl) = cs
  | [] => rfl
  | [c] => rfl
  | c :: e :: r => by
    have := joinL_nil (e :: r)
    show [c] ++ ([] ++ TL.joinL [] (((e :: r).map sgl).map TL.tl)) = c :: e :: r
    rw [this]; rfl
theorem word_cps (cs : List Nat) : (Txt.join "" (cs.map sgl)).cps.toList = cs := by
  rw [TL.join_eq]
  have e := TL.tl_join ("" : Str) (cs.map sgl)
  rw [show TL.tl ("" : Str) = [] from rfl, joinL_nil] at e
  exact e
theorem word_len (cs : List Nat) : (Txt.join "" (cs.map sgl)).length = cs.length := by
  have := congrArg List.length (word_cps cs)
  rwa [Array.length_toList] at this
theorem word_name {cs : List Nat} (h : ∀ c ∈ cs, c ∈ abc) (h1 : 1 ≤ cs.length) (h6 : cs.length ≤ 6) : isName (.str (Txt.join "" (cs.map sgl))) = true := by
  show ((decide ((1 : Int) ≤ _) && decide (_ ≤ (6 : Int))) && (Dl.signs _).all (inT "abcdefghijklmnopqrstuvwxyz")) = true
  rw [word_len, decide_eq_true (by omega), decide_eq_true (by omega), Bool.true_and, Bool.true_and]
  refine List.all_eq_true.mpr fun d hd => ?_
  unfold Dl.signs at hd
  obtain ⟨c, hc, rfl⟩ := List.mem_map.mp hd
  rw [word_cps] at hc
  show decide (c ∈ ("abcdefghijklmnopqrstuvwxyz" : Str).cps.toList) = true
  exact decide_eq_true (h c hc)
theorem join_len {ys : List Str} {m n : Nat} (h : ∀ y ∈ ys, y.length ≤ m) (l : ys.length ≤ n) : (ys.map (·.length)).sum + ys.length * ("" : Str).length ≤ n * m ∧ (Txt.join "" ys).length ≤ n * m := by
  have s := PySem.StrLaws.sumLen_le (B := m) ys h
  have s2 : ys.length * m ≤ n * m := Nat.mul_le_mul_right m l
  have e0 : ("" : Str).length = 0 := rfl
  refine ⟨by rw [e0]; omega, ?_⟩
  have e := PySem.size_glued "" ys
  show (Builtin.Str.glued "" ys).length ≤ _
  rw [e, e0]
  omega
abbrev s__law_word : Stmt := topS 56
abbrev N__law_word : List Str := ["_law_box_here", "_law_most", "_law_k"]
theorem sc__law_word : FnScope N__law_word ["_law_box_here", "_law_most"] (defScope s__law_word) := ⟨rfl, rfl, rfl, by decide +kernel, rfl, by decide +kernel, by decide +kernel⟩
abbrev wordPre : List D → Prop := p2 fun b m => b = .box ∧ ∃ n : Int, m = .int n ∧ 0 < n ∧ n ≤ 6
def wordPost : List D → D → Prop := fun _ r => ∃ z : Str, r = .str z ∧ z.length ≤ 6 ∧ isName (.str z) = true
abbrev ClW (P : Program) (w : World) (K : PySem.W.Frag) (mg : Str → Option Value) (base : Heap) (k : Nat) := Cl P w K mg base k "_law_word" s__law_word ["_law_box_here", "_law_most"] (SpD K wordPre wordPost)
theorem ok__law_word {k : Nat} (G : Gn mg) (F : Df K mg "_law_word" s__law_word) (C__law_take : ClT P w K mg base k) (C__law_letters : ClL P w K mg base k) : ClW P w K mg base (k + 1) := by
  refine cl_of F sc__law_word (fun _ _ _ _ _ _ us hl => match us, hl with | [_, _], _ => rfl) p2_len fun f cdv A outer s H E hr => ⟨_, (pss_one (ps_ret (pe_bm PySem.F.plainAttrs_str PySem.F.slot_str_join PySem.F.type_str_join mt_join pe_str (pa_cons (pe_lc (own := [("_law_k", 2)]) (g := gName 2) (tt := tYes) rfl sc__law_word.nd (pi_range1 rfl G.g_range (pa_cons (pe_op op_add pe_int (pe_c C__law_take hr (by omega) (by rfl) (pa_cons (pv 0) (pa_cons (pv 1) pa_nil)))) pa_nil)) (blkOk_by (N := N__law_word) (sc := defScope s__law_word) (by decide +kernel)) (fun _ _ _ _ _ => pg_name (i := 2) sc__law_word.nd rfl (Or.inl rfl)) (fun _ _ _ _ _ => pts_nil) (fun _ _ _ _ _ => (pe_ix ix_str (pe_c0 C__law_letters hr (by omega) (by rfl)) (pe_c C__law_take hr (by omega) (by rfl) (pa_cons (pv 0) (pa_cons pe_int pa_nil))) (fun _ _ => rfl)))) pa_nil)))), fun B ds hp => ?_⟩
  obtain ⟨_, _, rfl, rfl, n, rfl, h0, h1⟩ := p2_ex hp
  show WS K B _ [.val .box, .val (.int n), .no] _
  try dsimp only [cxOf, Cx.nox, Cx.blk]
  refine ws_ret (we_bm (fun _ _ _ _ o h => ty_str o h) ?_)
  repeat walk_at "dl"
  refine ⟨⟨_, rfl⟩, ?_⟩
  repeat walk_at "dl"
  refine we_lcall (fun d => ∃ c, c ∈ abc ∧ d = .str (sgl c)) (wi_range1 ?_)
  repeat walk_at "dl"
  refine ⟨⟨rfl, n, rfl, h0, by omega⟩, ?_⟩
  rintro d ⟨n', i, e, rfl, hi0, hi1⟩
  cases e
  repeat walk_at "dl"
  refine ⟨by omega, by omega, ?_, ?_, ?_⟩
  · rw [upto_len]; omega
  · intro d m
    repeat walk_at "dl"
    refine ⟨rfl, ?_⟩
    repeat walk_at "dl"
    refine ⟨⟨rfl, 26, rfl, by decide, by decide⟩, ?_⟩
    rintro d ⟨n'', j, e, rfl, hj0, hj1⟩
    cases e
    obtain ⟨q, rfl⟩ : ∃ q : Nat, j = (q : Int) := ⟨j.toNat, by omega⟩
    have hq : q < 26 := by omega
    have hq2 : q < (("abcdefghijklmnopqrstuvwxyz" : Str).cps.toList).length := hq
    exact ro_ixS (by decide) (atI_nat (List.getElem?_eq_getElem hq2)) ⟨_, List.getElem_mem hq2, rfl⟩
  · intro acc el ha
    obtain ⟨cs, rfl, hc⟩ := sgls_of acc ha
    rw [upto_len, List.length_map, List.length_map] at el
    repeat walk_at "dl"
    have jl := join_len (ys := cs.map sgl) (m := 1) (n := 6) (fun y hy => by obtain ⟨c, _, rfl⟩ := List.mem_map.mp hy; exact Nat.le_refl 1) (by rw [List.length_map]; omega)
    exact rm_join (by have := jl.1; omega) ⟨_, rfl, by rw [word_len]; omega, word_name hc (by omega) (by omega)⟩

/-! ### dicts as displays -/
theorem nt_dK {kvs : List (Key × V)} : nt (.dK kvs) := fun _ z => nomatch z
theorem we_dnew {B : Bt} {δ : List Sd} {Pp : D → Prop} (p : Pp (.dic [] [])) : WE K B tDNewK δ Pp := fun _ _ _ G H Q s _ q a ha => q.new s.ok nt_dK ha (.dic (kvs := []) upd_same .nil) p
theorem we_disp1 {B : Bt} {δ : List Sd} {Pp : D → Prop} {z : Str} {i : Int} (p : Pp (.dic [.inr z] [.int i])) : WE K B (tDisp [(tC (.str z), tC (.int i))]) δ Pp := fun _ _ _ G H Q s _ q a ha => by
  refine ⟨upd_same, [(.inr z, .int i)], rfl, Nat.le_of_ble_eq_true rfl, ?_⟩
  have e : mergeK [] [((Sum.inr z : Key), V.int i)] = [(.inr z, .int i)] := rfl
  rw [e, upd_upd]
  exact q.new s.ok nt_dK ha (.dic (kvs := [(.inr z, .int i)]) upd_same (.cons (.int i) .nil)) p
/-! ### _law_box -/
abbrev s__law_box : Stmt := topS 48
abbrev N__law_box : List Str := ["_law_script", "_law_own", "_law_mixed_here", "_law_cell"]
theorem sc__law_box : FnScope N__law_box ["_law_script", "_law_own"] (defScope s__law_box) := ⟨rfl, rfl, rfl, by decide +kernel, rfl, by decide +kernel, by decide +kernel⟩
def spBox (K : PySem.W.Frag) : Sp := fun vs H Q _ => ∃ (a : Addr) (ns : List Int) (own : Int), vs = [.ref a, .int own] ∧ SqL K H a (ns.map V.int) ∧ ns.length ≤ 63 ∧ 0 ≤ own ∧ own < 2147483587 ∧ ∃ T, LamX.Tabs T H ∧ ∀ B G H', B.T = T → Same H H' → Ok B G H' → Q (.ref B.a) H'
theorem cut63 {ns : List Int} (h : ns.length ≤ 63) : cutV (ns.map V.int) none (some 63) = ns.map V.int := by
  unfold cutV
  rw [HT.sIx_none]
  have e : HT.sIx (ns.map V.int).length (ns.map V.int).length (some 63) = (ns.map V.int).length := by
    rw [show HT.sIx (ns.map V.int).length (ns.map V.int).length (some 63) = min 63 (ns.map V.int).length from HT.sIx_nat _ _ 63, List.length_map]
    omega
  rw [e, List.drop_zero, Nat.sub_zero]
  exact List.take_length
theorem ok__law_box {f : Addr} {fd : FuncData} {k : Nat} (G : Gn mg) (F : Fun K "_law_box" "_law_box" s__law_box f fd) : FnOk P w K mg base CX0 (k + 1) f fd ["_law_script", "_law_own"] (spBox K) := by
  refine F.ok sc__law_box (fun vs H Q E h => ?_) (fun cdv A outer s H vs Q E hr h => ?_)
  · obtain ⟨a, ns, own, rfl, _⟩ := h
    rfl
  · obtain ⟨a, ns, own, rfl, hS, hl, h0, h1, T, hT, q⟩ := h
    refine ⟨_, (pss_cons (ps_set (i := 2) sc__law_box.nd rfl (Or.inl rfl) (pv 1))
      (pss_cons (ps_for PassesOwn.never rfl (pi_list (pe_slice sl_list (pv 0) po_none (po_some pe_int))) (pg_name (i := 3) sc__law_box.nd rfl (Or.inl rfl)) (pss_one (ps_set (i := 2) sc__law_box.nd rfl (Or.inl rfl) (pe_op op_modN (pe_callTy call_int1 (by rfl) G.g_int (by decide +kernel) (pa_cons (pe_op op_add (pe_op op_add (pe_op op_mul (pv 2) pe_int) (pe_op op_modN (pe_callTy call_int1 (by rfl) G.g_int (by decide +kernel) (pa_cons (pv 3) pa_nil)) pe_int)) pe_int) pa_nil)) pe_int))))
      (pss_one (ps_ret (pe_lst (pa_cons (pe_lc (own := [("_law_cell", 3)]) (g := gName 3) (tt := tYes) rfl sc__law_box.nd (pi_list (pe_slice sl_list (pv 0) po_none (po_some pe_int))) (blkOk_by (N := N__law_box) (sc := defScope s__law_box) (by decide +kernel)) (fun _ _ _ _ _ => pg_name (i := 3) sc__law_box.nd rfl (Or.inl rfl)) (fun _ _ _ _ _ => pts_nil) (fun _ _ _ _ _ => (pe_callTy call_int1 (by rfl) G.g_int (by decide +kernel) (pa_cons (pv 3) pa_nil)))) (pa_cons pe_int (pa_cons pe_int (pa_cons (pv 2) (pa_cons pe_int pa_nil)))))))))), ?_⟩
    -- mixed = own
    refine ⟨_, rfl, ?_⟩
    -- the loop over script[:63]
    refine ⟨_, rfl, _, rfl, a, _, rfl, hS, fun p np => ?_⟩
    refine ⟨p, rfl, ⟨_, SqL.of upd_same⟩, ?_⟩
    rw [cut63 hl]
    have s1 : Same H (upd H p (.lst (ns.map V.int))) := same_upd np
    refine for_list (xs := ns.map V.int) (fun i σ H1 => ∃ (m : Int) (y : Option V), σ = [some (.ref a), some (.int own), some (.int m), y] ∧ 0 ≤ m ∧ m < 2147483587 ∧ H1 = upd H p (.lst (ns.map V.int))) ⟨own, none, rfl, h0, h1, rfl⟩ ?_ ?_ ?_
    · rintro i σ H1 _ ⟨m, y, rfl, hm, hm2, rfl⟩
      exact SqL.of upd_same
    · rintro i x σ H1 hx ⟨m, y, rfl, hm, hm2, rfl⟩
      obtain ⟨u, rfl⟩ : ∃ u, x = V.int u := by
        rw [List.getElem?_map] at hx
        cases e : ns[i]? with
        | none => rw [e] at hx; cases hx
        | some u => rw [e] at hx; exact ⟨u, (Option.some.inj hx).symm⟩
      refine ⟨_, rfl, _, _, rfl, rfl, .inr ⟨by decide, by decide⟩, _, rfl, .inl ⟨_, rfl, _, _, rfl, rfl, (by intro z; exact absurd z (by decide)), _, _, rfl, rfl, _, _, rfl, rfl, .inl ⟨_, rfl, _, _, rfl, rfl, (by intro z; exact absurd z (by decide)), ?_⟩⟩⟩
      have fm := fm0 (i := m * 40503 + u.fmod 2147483423 + 11) (n := 2147483587) (by decide)
      exact ⟨_, _, rfl, fm.1, fm.2, rfl⟩
    · rintro σ H1 ⟨m, y, rfl, hm, hm2, rfl⟩
      -- [int(cell) for cell in script[:63]]
      refine ⟨_, rfl, _, rfl, a, _, rfl, s1.seq hS, fun p2 np2 => ?_⟩
      rw [cut63 hl]
      have s2 : Same (upd H p (.lst (ns.map V.int))) (upd (upd H p (.lst (ns.map V.int))) p2 (.lst (ns.map V.int))) := same_upd np2
      generalize hH2 : upd (upd H p (.lst (ns.map V.int))) p2 (.lst (ns.map V.int)) = H2 at s2
      have hp2 : H2 p2 = some (.lst (ns.map V.int)) := by rw [← hH2, upd_same]
      refine ⟨p2, rfl, ⟨_, SqL.of hp2⟩, fun c nc => ?_⟩
      have ne2 : p2 ≠ c := ne_of_none hp2 nc
      refine lc_list (K := K) (a := p2) (xs := ns.map V.int) (fun i H3 => H3 = upd H2 c (.lst ((ns.take i).map V.int))) rfl ?_ ?_ ?_
      · rintro i H3 _ rfl
        exact SqL.of (by rw [upd_ne ne2]; exact hp2)
      · rintro i x H3 hx rfl
        obtain ⟨u, rfl, eu⟩ : ∃ u, x = V.int u ∧ ns[i]? = some u := by
          rw [List.getElem?_map] at hx
          cases e : ns[i]? with
          | none => rw [e] at hx; cases hx
          | some u => rw [e] at hx; exact ⟨u, (Option.some.inj hx).symm, rfl⟩
        refine ⟨rfl, ?_⟩
        dsimp only [tYes]
        rw [if_pos rfl]
        refine ⟨_, rfl, .inl ⟨_, rfl, _, upd_same, ?_, ?_⟩⟩
        · rw [List.length_map, List.length_take]
          exact Nat.lt_of_le_of_lt (by omega : min i ns.length ≤ 1000) (by decide)
        · rw [upd_upd, List.take_add_one, eu, List.map_append]
          rfl
      · rintro H3 rfl
        -- the list of the box
        refine ⟨_, rfl, by show 5 ≤ sizeLine; decide, fun B nB => ?_⟩
        have et : ns.take (ns.map V.int).length = ns := by rw [List.length_map]; exact List.take_length
        rw [et] at nB ⊢
        have hc : (upd H2 c (.lst (ns.map V.int))) c = some (.lst (ns.map V.int)) := upd_same
        have s3 : Same H2 (upd H2 c (.lst (ns.map V.int))) := same_upd nc
        have s4 : Same (upd H2 c (.lst (ns.map V.int))) (upd (upd H2 c (.lst (ns.map V.int))) B (.lst [.ref c, .int 0, .int 0, .int m, .int 0])) := same_upd nB
        have neB : c ≠ B := ne_of_none hc nB
        have s5 := ((s1.trans s2).trans s3).trans s4
        refine q ⟨B, T⟩ (fun x => if x = c then some (.lst (ns.map V.int)) else none) _ rfl s5 ⟨fun x o e => ?_, ?_, ⟨c, ns, 0, 0, m, 0, upd_same, ?_, hl, Int.le_refl 0, Int.le_refl 0, hm, hm2, Int.le_refl 0⟩, hT.ext fun b o e => s5 b o e, fun x o e => ?_⟩
        · by_cases ex : x = c
          · subst ex
            rw [if_pos rfl] at e
            exact s4 _ _ (e ▸ hc)
          · rw [if_neg ex] at e
            cases e
        · show (if B = c then _ else none) = none
          rw [if_neg (Ne.symm neB)]
        · show (if c = c then _ else none) = _
          rw [if_pos rfl]
        · have e' : (if x = c then some (HO.lst (ns.map V.int)) else none) = some o := e
          by_cases ex : x = c
          · rw [if_pos ex] at e'; cases e'; exact nt_lst
          · rw [if_neg ex] at e'; cases e'
end
/-! #### Fb -/
section
variable {P : Program} {w : World} {K : PySem.W.Frag} {mg : Str → Option Value} {base : Heap}
/-! ### par1 -/
/-! ### products of pairs -/
def crs (p q : Pr2) : Int := p.1 * q.2 - p.2 * q.1
def mns (p q : Pr2) : Pr2 := (p.1 - q.1, p.2 - q.2)
def trn (a b c : Pr2) : Int := crs (mns b a) (mns c a)
/-- a pair of numbers up to n -/
def Upto (n : Int) (p : Pr2) : Prop := -n ≤ p.1 ∧ p.1 ≤ n ∧ -n ≤ p.2 ∧ p.2 ≤ n
theorem pairD_inj {p q : Pr2} (h : pairD p = pairD q) : p = q := by
  have h1 := D.tup.inj h
  exact Prod.ext (D.int.inj (List.cons.inj h1).1) (D.int.inj (List.cons.inj (List.cons.inj h1).2).1)
theorem ix0 {p : Pr2} {K : PySem.W.Frag} {B : Bt} {Q : D → Prop} (h : Q (.int p.1)) : RO K B (rIxT K) (pairD p) (.int 0) Q := ro_ixT (d := .int p.1) rfl h
theorem ix1 {p : Pr2} {K : PySem.W.Frag} {B : Bt} {Q : D → Prop} (h : Q (.int p.2)) : RO K B (rIxT K) (pairD p) (.int 1) Q := ro_ixT (d := .int p.2) rfl h
abbrev s_cross : Stmt := topS 20
abbrev N_cross : List Str := ["one", "other"]
theorem sc_cross : FnScope N_cross ["one", "other"] (defScope s_cross) := ⟨rfl, rfl, rfl, by decide +kernel, rfl, by decide +kernel, by decide +kernel⟩
abbrev ClCr (P : Program) (w : World) (K : PySem.W.Frag) (mg : Str → Option Value) (base : Heap) (k : Nat) := Cl P w K mg base k "cross" s_cross ["one", "other"] (SpD K (p2 fun a b => ∃ p q : Pr2, a = pairD p ∧ b = pairD q ∧ Upto 100000000 p ∧ Upto 100000000 q) fun ds r => ∃ p q : Pr2, ds = [pairD p, pairD q] ∧ r = .int (crs p q))
theorem ok_cross {k : Nat} (F : Df K mg "cross" s_cross) : ClCr P w K mg base (k + 1) := by
  refine cl_of F sc_cross (fun _ _ _ _ _ _ us hl => match us, hl with | [_, _], _ => rfl) p2_len fun f cdv A outer s H E hr => ⟨_, (pss_one (ps_ret (pe_op op_sub (pe_op op_mul (pe_ix (show IxR _ (rIxT K) from ix_tup) (pv 0) pe_int (fun _ _ => rfl)) (pe_ix (show IxR _ (rIxT K) from ix_tup) (pv 1) pe_int (fun _ _ => rfl))) (pe_op op_mul (pe_ix (show IxR _ (rIxT K) from ix_tup) (pv 0) pe_int (fun _ _ => rfl)) (pe_ix (show IxR _ (rIxT K) from ix_tup) (pv 1) pe_int (fun _ _ => rfl)))))), fun B ds hp => ?_⟩
  obtain ⟨_, _, rfl, p, q, rfl, rfl, ⟨h1, h2, h3, h4⟩, ⟨h5, h6, h7, h8⟩⟩ := p2_ex hp
  show WS K B _ [.val (pairD p), .val (pairD q)] _
  try dsimp only [cxOf, Cx.nox, Cx.blk]
  repeat walk_at "dl"
  refine ix0 ?_
  repeat walk_at "dl"
  refine ix1 ?_
  refine ro_int (.inl ⟨by omega, by omega⟩) ?_
  repeat walk_at "dl"
  refine ix1 ?_
  repeat walk_at "dl"
  refine ix0 ?_
  refine ro_int (.inl ⟨by omega, by omega⟩) ?_
  repeat walk_at "dl"
  first | rfl | exact ⟨p, q, rfl, rfl⟩
abbrev s_minus : Stmt := topS 27
abbrev N_minus : List Str := ["point", "other"]
theorem sc_minus : FnScope N_minus ["point", "other"] (defScope s_minus) := ⟨rfl, rfl, rfl, by decide +kernel, rfl, by decide +kernel, by decide +kernel⟩
abbrev ClMi (P : Program) (w : World) (K : PySem.W.Frag) (mg : Str → Option Value) (base : Heap) (k : Nat) := Cl P w K mg base k "minus" s_minus ["point", "other"] (SpD K (p2 fun a b => ∃ p q : Pr2, a = pairD p ∧ b = pairD q) fun ds r => ∃ p q : Pr2, ds = [pairD p, pairD q] ∧ r = pairD (mns p q))
theorem ok_minus {k : Nat} (F : Df K mg "minus" s_minus) : ClMi P w K mg base (k + 1) := by
  refine cl_of F sc_minus (fun _ _ _ _ _ _ us hl => match us, hl with | [_, _], _ => rfl) p2_len fun f cdv A outer s H E hr => ⟨_, (pss_one (ps_ret (pe_tupZ (pa_cons (pe_op op_sub (pe_ix (show IxR _ (rIxT K) from ix_tup) (pv 0) pe_int (fun _ _ => rfl)) (pe_ix (show IxR _ (rIxT K) from ix_tup) (pv 1) pe_int (fun _ _ => rfl))) (pa_cons (pe_op op_sub (pe_ix (show IxR _ (rIxT K) from ix_tup) (pv 0) pe_int (fun _ _ => rfl)) (pe_ix (show IxR _ (rIxT K) from ix_tup) (pv 1) pe_int (fun _ _ => rfl))) pa_nil))))), fun B ds hp => ?_⟩
  obtain ⟨_, _, rfl, p, q, rfl, rfl⟩ := p2_ex hp
  show WS K B _ [.val (pairD p), .val (pairD q)] _
  try dsimp only [cxOf, Cx.nox, Cx.blk]
  repeat walk_at "dl"
  refine ix0 ?_
  repeat walk_at "dl"
  refine ix0 ?_
  repeat walk_at "dl"
  refine ix1 ?_
  repeat walk_at "dl"
  refine ix1 ?_
  repeat walk_at "dl"
  first | rfl | exact ⟨p, q, rfl, rfl⟩
abbrev s_bend : Stmt := topS 29
abbrev N_bend : List Str := ["start", "stop", "point"]
theorem sc_bend : FnScope N_bend ["start", "stop", "point"] (defScope s_bend) := ⟨rfl, rfl, rfl, by decide +kernel, rfl, by decide +kernel, by decide +kernel⟩
abbrev Tri (n : Int) (a b c : D) : Prop := ∃ p q r : Pr2, a = pairD p ∧ b = pairD q ∧ c = pairD r ∧ Upto n p ∧ Upto n q ∧ Upto n r
abbrev ClBn (P : Program) (w : World) (K : PySem.W.Frag) (mg : Str → Option Value) (base : Heap) (k : Nat) := Cl P w K mg base k "bend" s_bend ["start", "stop", "point"] (SpD K (p3 (Tri 10000000)) fun ds r => ∃ p q z : Pr2, ds = [pairD p, pairD q, pairD z] ∧ r = .int (trn p q z))
theorem upto_mns {n : Int} {p q : Pr2} (h : Upto n p) (h' : Upto n q) : Upto (2 * n) (mns p q) := by
  unfold Upto mns at *
  dsimp only
  omega
theorem upto_le {n m : Int} {p : Pr2} (h : Upto n p) (l : n ≤ m) : Upto m p := by
  unfold Upto at *
  omega
theorem ok_bend {k : Nat} (F : Df K mg "bend" s_bend) (C_cross : ClCr P w K mg base k) (C_minus : ClMi P w K mg base k) : ClBn P w K mg base (k + 1) := by
  refine cl_of F sc_bend (fun _ _ _ _ _ _ us hl => match us, hl with | [_, _, _], _ => rfl) p3_len fun f cdv A outer s H E hr => ⟨_, (pss_one (ps_ret (pe_c C_cross hr (by omega) (by rfl) (pa_cons (pe_c C_minus hr (by omega) (by rfl) (pa_cons (pv 1) (pa_cons (pv 0) pa_nil))) (pa_cons (pe_c C_minus hr (by omega) (by rfl) (pa_cons (pv 2) (pa_cons (pv 0) pa_nil))) pa_nil))))), fun B ds hp => ?_⟩
  obtain ⟨_, _, _, rfl, p, q, z, rfl, rfl, rfl, hp1, hq1, hz1⟩ := p3_ex hp
  show WS K B _ [.val (pairD p), .val (pairD q), .val (pairD z)] _
  try dsimp only [cxOf, Cx.nox, Cx.blk]
  repeat walk_at "dl"
  refine ⟨⟨q, p, rfl, rfl⟩, ?_⟩
  rintro _ ⟨q', p', e, rfl⟩
  have e1 := pairD_inj (List.cons.inj e).1
  have e2 := pairD_inj (List.cons.inj (List.cons.inj e).2).1
  subst e1 e2
  repeat walk_at "dl"
  refine ⟨⟨z, p, rfl, rfl⟩, ?_⟩
  rintro _ ⟨z', p', e, rfl⟩
  have e1 := pairD_inj (List.cons.inj e).1
  have e2 := pairD_inj (List.cons.inj (List.cons.inj e).2).1
  subst e1 e2
  repeat walk_at "dl"
  refine ⟨⟨mns q p, mns z p, rfl, rfl, upto_le (upto_mns hq1 hp1) (by decide), upto_le (upto_mns hz1 hp1) (by decide)⟩, ?_⟩
  rintro _ ⟨a', b', e, rfl⟩
  have e1 := pairD_inj (List.cons.inj e).1
  have e2 := pairD_inj (List.cons.inj (List.cons.inj e).2).1
  subst e1 e2
  exact ⟨p, q, z, rfl, rfl⟩
abbrev s__law_cross : Stmt := topS 57
abbrev N__law_cross : List Str := ["_law_one_z", "_law_two_z"]
theorem sc__law_cross : FnScope N__law_cross ["_law_one_z", "_law_two_z"] (defScope s__law_cross) := ⟨rfl, rfl, rfl, by decide +kernel, rfl, by decide +kernel, by decide +kernel⟩
abbrev ClLc (P : Program) (w : World) (K : PySem.W.Frag) (mg : Str → Option Value) (base : Heap) (k : Nat) := Cl P w K mg base k "_law_cross" s__law_cross ["_law_one_z", "_law_two_z"] (SpD K (p2 fun a b => ∃ p q : Pr2, a = pairD p ∧ b = pairD q ∧ Upto 100000000 p ∧ Upto 100000000 q) fun ds r => ∃ p q : Pr2, ds = [pairD p, pairD q] ∧ r = .int (crs p q))
theorem ok__law_cross {k : Nat} (F : Df K mg "_law_cross" s__law_cross) : ClLc P w K mg base (k + 1) := by
  refine cl_of F sc__law_cross (fun _ _ _ _ _ _ us hl => match us, hl with | [_, _], _ => rfl) p2_len fun f cdv A outer s H E hr => ⟨_, (pss_one (ps_ret (pe_op op_sub (pe_op op_mul (pe_ix (show IxR _ (rIxT K) from ix_tup) (pv 0) pe_int (fun _ _ => rfl)) (pe_ix (show IxR _ (rIxT K) from ix_tup) (pv 1) pe_int (fun _ _ => rfl))) (pe_op op_mul (pe_ix (show IxR _ (rIxT K) from ix_tup) (pv 0) pe_int (fun _ _ => rfl)) (pe_ix (show IxR _ (rIxT K) from ix_tup) (pv 1) pe_int (fun _ _ => rfl)))))), fun B ds hp => ?_⟩
  obtain ⟨_, _, rfl, p, q, rfl, rfl, ⟨h1, h2, h3, h4⟩, ⟨h5, h6, h7, h8⟩⟩ := p2_ex hp
  show WS K B _ [.val (pairD p), .val (pairD q)] _
  try dsimp only [cxOf, Cx.nox, Cx.blk]
  repeat walk_at "dl"
  refine ix0 ?_
  repeat walk_at "dl"
  refine ix1 ?_
  refine ro_int (.inl ⟨by omega, by omega⟩) ?_
  repeat walk_at "dl"
  refine ix1 ?_
  repeat walk_at "dl"
  refine ix0 ?_
  refine ro_int (.inl ⟨by omega, by omega⟩) ?_
  repeat walk_at "dl"
  first | rfl | exact ⟨p, q, rfl, rfl⟩

/-! ### par2 -/
/-! ### told from the least corner on -/
def rotn (ps : List Pr2) (n : Nat) : List Pr2 := ps.drop n ++ ps.take n
def leastAt (ps : List Pr2) : Nat := match ps with
  | [] => 0
  | p :: qs => (p :: qs).idxOf (minPr p qs)
def toldP (ps : List Pr2) : List Pr2 := rotn ps (leastAt ps)
theorem minPr_mem (ps : List Pr2) : ∀ p : Pr2, minPr p ps ∈ p :: ps := by
  induction ps with
  | nil => intro p; exact List.mem_singleton.mpr rfl
  | cons q ps ih =>
    intro p
    unfold minPr at ih ⊢
    rw [List.foldl_cons]
    by_cases h : ltPr q p = true
    · rw [if_pos h]; exact List.mem_cons_of_mem _ (ih q)
    · rw [if_neg h]
      rcases List.mem_cons.mp (ih p) with e | m
      · rw [e]; exact List.mem_cons_self ..
      · exact List.mem_cons_of_mem _ (List.mem_cons_of_mem _ m)
theorem cut_to {ps : List Pr2} {n : Nat} (h : n ≤ ps.length) : Dl.cutD (ps.map Dl.pairD) none (some (n : Int)) = (ps.take n).map Dl.pairD := by
  unfold Dl.cutD
  rw [HT.sIx_none, HT.sIx_nat, List.length_map, show min n ps.length = n by omega, List.drop_zero, Nat.sub_zero, List.map_take]
theorem cut_from {ps : List Pr2} {n : Nat} (h : n ≤ ps.length) : Dl.cutD (ps.map Dl.pairD) (some (n : Int)) none = (ps.drop n).map Dl.pairD := by
  unfold Dl.cutD
  rw [HT.sIx_none, HT.sIx_nat, List.length_map, show min n ps.length = n by omega, List.map_drop]
  exact List.take_of_length_le (by rw [List.length_drop, List.length_map]; exact Nat.le_refl _)
def tdPre : List D → Prop := p1 fun d => ∃ ps : List Pr2, d = .tup (ps.map Dl.pairD) ∧ ps ≠ [] ∧ ps.length ≤ 100
def tdPost : List D → D → Prop := fun ds r => ∃ ps : List Pr2, ds = [.tup (ps.map Dl.pairD)] ∧ r = .tup ((toldP ps).map Dl.pairD)
abbrev s_part_told : Stmt := topS 32
abbrev N_part_told : List Str := ["part", "at"]
theorem sc_part_told : FnScope N_part_told ["part"] (defScope s_part_told) := ⟨rfl, rfl, rfl, by decide +kernel, rfl, by decide +kernel, by decide +kernel⟩
abbrev ClPt (P : Program) (w : World) (K : PySem.W.Frag) (mg : Str → Option Value) (base : Heap) (k : Nat) := Cl P w K mg base k "part_told" s_part_told ["part"] (SpD K tdPre tdPost)
theorem ok_part_told {k : Nat} (G : Gn mg) (F : Df K mg "part_told" s_part_told) : ClPt P w K mg base (k + 1) := by
  refine cl_of F sc_part_told (fun _ _ _ _ _ _ us hl => match us, hl with | [_], _ => rfl) p1_len fun f cdv A outer s H E hr => ⟨_, (pss_cons (ps_set (i := 1) sc_part_told.nd rfl (Or.inl rfl) (pe_mG ty_tup PySem.F.plainAttrs_tuple PySem.F.slot_tuple_index PySem.F.type_tuple_index (mt_idxT (Dl.u65 hr)) (pv 0) (pa_cons (pe_callB (show CallR _ (.builtin "min") (rMinT K) from call_minT rfl (Dl.u65 hr)) (by rfl) G.g_min (by decide +kernel) (pa_cons (pv 0) pa_nil)) pa_nil)))
      (pss_one (ps_ret (pe_op (show OpR _ (binaryOp .Add) (zCat K) from op_catZ) (pe_slice (show SlR _ (zSl K) from sl_tupZ) (pv 0) (po_some (pv 1)) po_none) (pe_slice (show SlR _ (zSl K) from sl_tupZ) (pv 0) po_none (po_some (pv 1))))))), fun B ds hp => ?_⟩
  obtain ⟨_, rfl, ps, rfl, hne, hl⟩ := p1_ex hp
  show WS K B _ [.val (.tup (ps.map Dl.pairD)), .no] _
  try dsimp only [cxOf, Cx.nox, Cx.blk]
  cases ps with
  | nil => exact absurd rfl hne
  | cons p qs =>
    have hm := minPr_mem qs p
    have hi : (p :: qs).idxOf (minPr p qs) < (p :: qs).length := List.idxOf_lt_length_of_mem hm
    refine ws_seq (ws_set (we_idxT (we_var rfl ⟨p :: qs, rfl, wa_cons (we_cb (wa_cons (we_var rfl (wa_nil (rc_minT (wa_nil ⟨_, rfl, hm, ?_⟩))))))⟩)))
    repeat walk_at "dl"
    generalize hn : (p :: qs).idxOf (minPr p qs) = n at hi
    refine rs_T ?_
    rw [cut_from (Nat.le_of_lt hi)]
    repeat walk_at "dl"
    refine rs_T ?_
    rw [cut_to (Nat.le_of_lt hi)]
    refine ro_catA (by rw [List.length_map, List.length_map, List.length_drop, List.length_take]; omega) ?_
    refine ⟨p :: qs, rfl, ?_⟩
    rw [← List.map_append]
    show _ = D.tup ((rotn (p :: qs) ((p :: qs).idxOf (minPr p qs))).map Dl.pairD)
    rw [hn]
    rfl
abbrev s__law_told : Stmt := topS 61
abbrev N__law_told : List Str := ["_law_poly", "_law_least_z"]
theorem sc__law_told : FnScope N__law_told ["_law_poly"] (defScope s__law_told) := ⟨rfl, rfl, rfl, by decide +kernel, rfl, by decide +kernel, by decide +kernel⟩
abbrev ClTd (P : Program) (w : World) (K : PySem.W.Frag) (mg : Str → Option Value) (base : Heap) (k : Nat) := Cl P w K mg base k "_law_told" s__law_told ["_law_poly"] (SpD K tdPre tdPost)
theorem ok__law_told {k : Nat} (G : Gn mg) (F : Df K mg "_law_told" s__law_told) : ClTd P w K mg base (k + 1) := by
  refine cl_of F sc__law_told (fun _ _ _ _ _ _ us hl => match us, hl with | [_], _ => rfl) p1_len fun f cdv A outer s H E hr => ⟨_, (pss_cons (ps_set (i := 1) sc__law_told.nd rfl (Or.inl rfl) (pe_mG ty_tup PySem.F.plainAttrs_tuple PySem.F.slot_tuple_index PySem.F.type_tuple_index (mt_idxT (Dl.u65 hr)) (pv 0) (pa_cons (pe_callB (show CallR _ (.builtin "min") (rMinT K) from call_minT rfl (Dl.u65 hr)) (by rfl) G.g_min (by decide +kernel) (pa_cons (pv 0) pa_nil)) pa_nil)))
      (pss_one (ps_ret (pe_op (show OpR _ (binaryOp .Add) (zCat K) from op_catZ) (pe_slice (show SlR _ (zSl K) from sl_tupZ) (pv 0) (po_some (pv 1)) po_none) (pe_slice (show SlR _ (zSl K) from sl_tupZ) (pv 0) po_none (po_some (pv 1))))))), fun B ds hp => ?_⟩
  obtain ⟨_, rfl, ps, rfl, hne, hl⟩ := p1_ex hp
  show WS K B _ [.val (.tup (ps.map Dl.pairD)), .no] _
  try dsimp only [cxOf, Cx.nox, Cx.blk]
  cases ps with
  | nil => exact absurd rfl hne
  | cons p qs =>
    have hm := minPr_mem qs p
    have hi : (p :: qs).idxOf (minPr p qs) < (p :: qs).length := List.idxOf_lt_length_of_mem hm
    refine ws_seq (ws_set (we_idxT (we_var rfl ⟨p :: qs, rfl, wa_cons (we_cb (wa_cons (we_var rfl (wa_nil (rc_minT (wa_nil ⟨_, rfl, hm, ?_⟩))))))⟩)))
    repeat walk_at "dl"
    generalize hn : (p :: qs).idxOf (minPr p qs) = n at hi
    refine rs_T ?_
    rw [cut_from (Nat.le_of_lt hi)]
    repeat walk_at "dl"
    refine rs_T ?_
    rw [cut_to (Nat.le_of_lt hi)]
    refine ro_catA (by rw [List.length_map, List.length_map, List.length_drop, List.length_take]; omega) ?_
    refine ⟨p :: qs, rfl, ?_⟩
    rw [← List.map_append]
    show _ = D.tup ((rotn (p :: qs) ((p :: qs).idxOf (minPr p qs))).map Dl.pairD)
    rw [hn]
    rfl

end
/-! #### Fc -/
section
variable {P : Program} {w : World} {K : PySem.W.Frag} {mg : Str → Option Value} {base : Heap}
/-! ### par3 -/
def edg (ps : List Pr2) : List (Pr2 × Pr2) := (List.range ps.length).map fun k => (ps.getD k (0, 0), ps.getD ((k + 1) % ps.length) (0, 0))
def edgD (e : Pr2 × Pr2) : D := .tup [Dl.pairD e.1, Dl.pairD e.2]
theorem atI_map {ps : List Pr2} {k : Nat} (h : k < ps.length) : atI (ps.map Dl.pairD) (k : Int) = some (Dl.pairD (ps.getD k (0, 0))) := by
  unfold atI ixN
  rw [List.length_map, if_pos (by omega), if_pos (by omega)]
  show (ps.map Dl.pairD)[k]? = _
  rw [List.getElem?_map, List.getElem?_eq_getElem h, List.getD_eq_getElem?_getD, List.getElem?_eq_getElem h]
  rfl
theorem upto_at {m n : Nat} {d : D} (h : (upto 0 (m : Int).toNat)[n]? = some d) : n < m ∧ d = .int (n : Int) := by
  rw [Int.toNat_natCast] at h
  have hn : n < m := by
    have := (List.getElem?_eq_some_iff.mp h).1
    rw [upto_len] at this
    exact this
  unfold upto at h
  rw [List.getElem?_map, List.getElem?_range hn] at h
  refine ⟨hn, ?_⟩
  have e := Option.some.inj h
  rw [← e]
  show D.int (0 + (n : Int)) = _
  rw [Int.zero_add]
def polyPre (n : Nat) : List D → Prop := p1 fun d => ∃ ps : List Pr2, d = .tup (ps.map Dl.pairD) ∧ ps.length ≤ n
abbrev s__law_edges : Stmt := topS 60
abbrev N__law_edges : List Str := ["_law_poly", "_law_k"]
theorem sc__law_edges : FnScope N__law_edges ["_law_poly"] (defScope s__law_edges) := ⟨rfl, rfl, rfl, by decide +kernel, rfl, by decide +kernel, by decide +kernel⟩
abbrev ClEg (P : Program) (w : World) (K : PySem.W.Frag) (mg : Str → Option Value) (base : Heap) (k : Nat) := Cl P w K mg base k "_law_edges" s__law_edges ["_law_poly"] (SpD K (polyPre 100) fun ds r => ∃ ps : List Pr2, ds = [.tup (ps.map Dl.pairD)] ∧ r = .lst ((edg ps).map edgD))
theorem ok__law_edges {k : Nat} (G : Gn mg) (F : Df K mg "_law_edges" s__law_edges) : ClEg P w K mg base (k + 1) := by
  refine cl_of F sc__law_edges (fun _ _ _ _ _ _ us hl => match us, hl with | [_], _ => rfl) p1_len fun f cdv A outer s H E hr => ⟨_, (pss_one (ps_ret (pe_lc (own := [("_law_k", 1)]) (g := gName 1) (tt := tYes) rfl sc__law_edges.nd (pi_range1 rfl G.g_range (pa_cons (pe_callB (show CallR _ (.builtin "len") (fun xs H Q => ∃ x n, xs = [x] ∧ LenV K x H n ∧ Q (.int n) H) from call_len) (by rfl) G.g_len (by decide +kernel) (pa_cons (pv 0) pa_nil)) pa_nil)) (blkOk_by (N := N__law_edges) (sc := defScope s__law_edges) (by decide +kernel)) (fun _ _ _ _ _ => pg_name (i := 1) sc__law_edges.nd rfl (Or.inl rfl)) (fun _ _ _ _ _ => pts_nil) (fun _ _ _ _ _ => (pe_tupZ (pa_cons (pe_ix (show IxR _ (rIxT K) from ix_tup) (pv 0) (pv 1) (fun _ _ => rfl)) (pa_cons (pe_ix (show IxR _ (rIxT K) from ix_tup) (pv 0) (pe_op op_modN (pe_callTy call_int1 (by rfl) G.g_int (by decide +kernel) (pa_cons (pe_op op_add (pv 1) pe_int) pa_nil)) (pe_callB (show CallR _ (.builtin "len") (fun xs H Q => ∃ x n, xs = [x] ∧ LenV K x H n ∧ Q (.int n) H) from call_len) (by rfl) G.g_len (by decide +kernel) (pa_cons (pv 0) pa_nil))) (fun _ _ => rfl)) pa_nil))))))), fun B ds hp => ?_⟩
  obtain ⟨_, rfl, ps, rfl, hl⟩ := p1_ex hp
  show WS K B _ [.val (.tup (ps.map Dl.pairD)), .no] _
  try dsimp only [cxOf, Cx.nox, Cx.blk]
  refine ws_ret (we_lc (wi_range1 (wa_cons (we_cb (wa_cons (we_var rfl (wa_nil (rc_len (n := ps.length) (by show some (ps.map Dl.pairD).length = _; rw [List.length_map]) (by omega) (wa_nil ⟨_, rfl, by omega, by omega, by rw [upto_len]; omega, fun n acc => acc = ((edg ps).take n).map edgD, rfl, ?_, ?_⟩)))))))))
  · rintro n d acc hd hacc
    have hacc' : acc = ((edg ps).take n).map edgD := hacc
    obtain ⟨hn, rfl⟩ := upto_at hd
    try dsimp only [List.set]
    refine wt_yes ?_
    rw [if_pos rfl]
    refine we_tup (wa_cons (we_op (we_var rfl (we_var rfl (ro_ixT (atI_map hn) ?_)))))
    refine wa_cons (we_op (we_var rfl ?_))
    refine we_op (we_cb (wa_cons (we_op (we_var rfl (we_int (ro_int0 (wa_nil (rc_int1 ?_))))))))
    refine we_cb (wa_cons (we_var rfl (wa_nil (rc_len (n := ps.length) (by show some (ps.map Dl.pairD).length = _; rw [List.length_map]) (by omega) ?_))))
    refine ro_int (by intro z; omega) ?_
    have em : ((n : Int) + 1).fmod (ps.length : Int) = (((n + 1) % ps.length : Nat) : Int) := by
      rw [Int.fmod_eq_emod_of_nonneg _ (by omega)]
      push_cast
      rfl
    rw [em]
    refine ro_ixT (atI_map (Nat.mod_lt _ (by omega))) (wa_nil ⟨by show 2 ≤ 1000; decide, ?_⟩)
    show acc ++ [edgD (ps.getD n (0, 0), ps.getD ((n + 1) % ps.length) (0, 0))] = ((edg ps).take (n + 1)).map edgD
    have hg : (edg ps)[n]? = some (ps.getD n (0, 0), ps.getD ((n + 1) % ps.length) (0, 0)) := by
      unfold edg
      rw [List.getElem?_map, List.getElem?_range hn]
      rfl
    rw [hacc', List.take_add_one, hg, List.map_append]
    rfl
  · rintro acc hacc
    have hacc' : acc = ((edg ps).take (upto 0 (ps.length : Int).toNat).length).map edgD := hacc
    rw [upto_len, Int.toNat_natCast] at hacc'
    refine ⟨ps, rfl, ?_⟩
    rw [hacc', List.take_of_length_le]
    unfold edg
    rw [List.length_map, List.length_range]
    exact Nat.le_refl _

/-! ### par4 -/
theorem rc_sum {ns : List Int} {K : PySem.W.Frag} {B : Bt} {Q : D → Prop} (h : Q (.int ns.sum)) : RC K B (rSum K) [.lst (ns.map D.int)] Q := fun G H vs R o hs q => by
  cases hs with
  | cons h1 t1 =>
    cases t1
    cases h1 with
    | lst hg t => exact ⟨_, ns, rfl, by rw [← Dds.ints t]; exact SqL.of (o.u _ _ hg), q.nil o (.int _) h⟩
def areaP (ps : List Pr2) : Int := ((edg ps).map fun e => crs e.1 e.2).sum
abbrev s__law_area : Stmt := topS 62
abbrev N__law_area : List Str := ["_law_poly", "_law_a", "_law_b"]
theorem sc__law_area : FnScope N__law_area ["_law_poly"] (defScope s__law_area) := ⟨rfl, rfl, rfl, by decide +kernel, rfl, by decide +kernel, by decide +kernel⟩
abbrev ClAr (P : Program) (w : World) (K : PySem.W.Frag) (mg : Str → Option Value) (base : Heap) (k : Nat) := Cl P w K mg base k "_law_area" s__law_area ["_law_poly"] (SpD K (p1 fun d => ∃ ps : List Pr2, d = .tup (ps.map Dl.pairD) ∧ ps.length ≤ 100 ∧ ∀ p ∈ ps, Upto 100000000 p) fun ds r => ∃ ps : List Pr2, ds = [.tup (ps.map Dl.pairD)] ∧ r = .int (areaP ps))
theorem edg_mem {ps : List Pr2} {e : Pr2 × Pr2} (h : e ∈ edg ps) : e.1 ∈ ps ∧ e.2 ∈ ps := by
  unfold edg at h
  obtain ⟨k, hk, rfl⟩ := List.mem_map.mp h
  have hk' := List.mem_range.mp hk
  have hm : (k + 1) % ps.length < ps.length := Nat.mod_lt _ (by omega)
  constructor
  · show ps.getD k (0, 0) ∈ ps
    rw [List.getD_eq_getElem?_getD, List.getElem?_eq_getElem hk']
    exact List.getElem_mem hk'
  · show ps.getD ((k + 1) % ps.length) (0, 0) ∈ ps
    rw [List.getD_eq_getElem?_getD, List.getElem?_eq_getElem hm]
    exact List.getElem_mem hm
theorem edg_len {ps : List Pr2} : (edg ps).length = ps.length := by unfold edg; rw [List.length_map, List.length_range]
theorem ok__law_area {k : Nat} (G : Gn mg) (F : Df K mg "_law_area" s__law_area) (C__law_cross : ClLc P w K mg base k) (C__law_edges : ClEg P w K mg base k) : ClAr P w K mg base (k + 1) := by
  refine cl_of F sc__law_area (fun _ _ _ _ _ _ us hl => match us, hl with | [_], _ => rfl) p1_len fun f cdv A outer s H E hr => ⟨_, (pss_one (ps_ret (pe_callB (show CallR _ (.builtin "sum") (rSum K) from cr_sum rfl) (by rfl) G.g_sum (by decide +kernel) (pa_cons (pe_lc (own := [("_law_a", 1), ("_law_b", 2)]) (g := (gTup K 2 (gCons (gName 1) (gCons (gName 2) gNil)))) (tt := tYes) rfl sc__law_area.nd (pi_list (pe_c C__law_edges hr (by omega) (by rfl) (pa_cons (pv 0) pa_nil))) (blkOk_by (N := N__law_area) (sc := defScope s__law_area) (by decide +kernel)) (fun _ _ _ _ _ => show PG _ _ (gTup K 2 (gCons (gName 1) (gCons (gName 2) gNil))) from pg_tup rfl (pgs_cons (pg_name (i := 1) sc__law_area.nd rfl (Or.inl rfl)) (pgs_cons (pg_name (i := 2) sc__law_area.nd rfl (Or.inl rfl)) pgs_nil))) (fun _ _ _ _ _ => pts_nil) (fun _ _ _ _ _ => (pe_c C__law_cross hr (by omega) (by rfl) (pa_cons (pv 1) (pa_cons (pv 2) pa_nil))))) pa_nil)))), fun B ds hp => ?_⟩
  obtain ⟨_, rfl, ps, rfl, hl, hps⟩ := p1_ex hp
  show WS K B _ [.val (.tup (ps.map Dl.pairD)), .no, .no] _
  try dsimp only [cxOf, Cx.nox, Cx.blk]
  refine ws_ret (we_cb (wa_cons (we_lcP (by decide) (wi_list (we_call (wa_cons (we_var rfl (wa_nil ⟨⟨ps, rfl, hl⟩, ?_⟩))))))))
  rintro _ ⟨ps', e, rfl⟩
  have e1 : ps' = ps := (List.map_inj_right fun _ _ h => pairD_inj h).mp (D.tup.inj (List.cons.inj e).1).symm
  subst e1
  refine ⟨_, rfl, by rw [List.length_map, edg_len]; omega, fun n acc => acc = (((edg ps').take n).map fun e => crs e.1 e.2).map D.int, rfl, ?_, ?_⟩
  · rintro n d acc hd hacc
    have hacc' : acc = (((edg ps').take n).map fun e => crs e.1 e.2).map D.int := hacc
    rw [List.getElem?_map] at hd
    obtain ⟨x, hx, rfl⟩ : ∃ x, (edg ps')[n]? = some x ∧ edgD x = d := by
      cases e : (edg ps')[n]? with
      | none => rw [e] at hd; cases hd
      | some q => rw [e] at hd; exact ⟨q, rfl, Option.some.inj hd⟩
    have hm := edg_mem (List.mem_of_getElem? hx)
    refine ⟨_, _, rfl, ?_⟩
    try dsimp only [List.set]
    refine wt_yes ?_
    rw [if_pos rfl]
    refine we_call (wa_cons (we_var rfl (wa_cons (we_var rfl (wa_nil ⟨⟨x.1, x.2, rfl, rfl, hps _ hm.1, hps _ hm.2⟩, ?_⟩)))))
    rintro _ ⟨a, b, e2, rfl⟩
    have e3 := pairD_inj (List.cons.inj e2).1
    have e4 := pairD_inj (List.cons.inj (List.cons.inj e2).2).1
    subst e3 e4
    show acc ++ [D.int (crs x.1 x.2)] = (((edg ps').take (n + 1)).map fun e => crs e.1 e.2).map D.int
    rw [hacc', List.take_add_one, hx, List.map_append, List.map_append]
    rfl
  · rintro acc hacc
    have hacc' : acc = (((edg ps').take ((edg ps').map edgD).length).map fun e => crs e.1 e.2).map D.int := hacc
    rw [List.length_map, List.take_length] at hacc'
    rw [hacc']
    refine wa_nil (rc_sum ⟨ps', rfl, rfl⟩)

/-! ### par5 -/
/-- tuple(xs) of a new list -/
theorem rc_tupZ {ds : List D} {K : PySem.W.Frag} {B : Bt} {Q : D → Prop} (p : Q (.tup ds)) : RC K B (zOf K) [.lst ds] Q := fun G H vs R o hs q => by
  cases hs with
  | cons h t =>
    cases t
    cases h with
    | lst hg t => exact ⟨_, _, rfl, .inl ⟨SqL.of (o.u _ _ hg), fun l ob hl hd => q.new o nt_tup hl (.tup ⟨upd_same, hd⟩ (t.mono (same_upd (o.fresh hl)))) p⟩⟩
def sentP (x y : Int) (p : Pr2) : Pr2 := (p.1 + x, p.2 + y)
abbrev s__law_sent : Stmt := topS 63
abbrev N__law_sent : List Str := ["_law_poly", "_law_x", "_law_y", "_law_c"]
theorem sc__law_sent : FnScope N__law_sent ["_law_poly", "_law_x", "_law_y"] (defScope s__law_sent) := ⟨rfl, rfl, rfl, by decide +kernel, rfl, by decide +kernel, by decide +kernel⟩
abbrev ClSe (P : Program) (w : World) (K : PySem.W.Frag) (mg : Str → Option Value) (base : Heap) (k : Nat) := Cl P w K mg base k "_law_sent" s__law_sent ["_law_poly", "_law_x", "_law_y"] (SpD K (p3 fun d x y => ∃ (ps : List Pr2) (i j : Int), d = .tup (ps.map Dl.pairD) ∧ x = .int i ∧ y = .int j ∧ ps.length ≤ 100) fun ds r => ∃ (ps : List Pr2) (i j : Int), ds = [.tup (ps.map Dl.pairD), .int i, .int j] ∧ r = .tup ((ps.map (sentP i j)).map Dl.pairD))
theorem ok__law_sent {k : Nat} (G : Gn mg) (F : Df K mg "_law_sent" s__law_sent) : ClSe P w K mg base (k + 1) := by
  refine cl_of F sc__law_sent (fun _ _ _ _ _ _ us hl => match us, hl with | [_, _, _], _ => rfl) p3_len fun f cdv A outer s H E hr => ⟨_, (pss_one (ps_ret (pe_callTy (show CallR _ (.type "tuple") (zOf K) from call_tupZ) (by rfl) G.g_tuple (by decide +kernel) (pa_cons (pe_lc (own := [("_law_c", 3)]) (g := gName 3) (tt := tYes) rfl sc__law_sent.nd (pi_tup (pv 0)) (blkOk_by (N := N__law_sent) (sc := defScope s__law_sent) (by decide +kernel)) (fun _ _ _ _ _ => pg_name (i := 3) sc__law_sent.nd rfl (Or.inl rfl)) (fun _ _ _ _ _ => pts_nil) (fun _ _ _ _ _ => (pe_tupZ (pa_cons (pe_op op_add (pe_ix (show IxR _ (rIxT K) from ix_tup) (pv 3) pe_int (fun _ _ => rfl)) (pv 1)) (pa_cons (pe_op op_add (pe_ix (show IxR _ (rIxT K) from ix_tup) (pv 3) pe_int (fun _ _ => rfl)) (pv 2)) pa_nil))))) pa_nil)))), fun B ds hp => ?_⟩
  obtain ⟨_, _, _, rfl, ps, i, j, rfl, rfl, rfl, hl⟩ := p3_ex hp
  show WS K B _ [.val (.tup (ps.map Dl.pairD)), .val (.int i), .val (.int j), .no] _
  try dsimp only [cxOf, Cx.nox, Cx.blk]
  refine ws_ret (we_cb (wa_cons (we_lc (wi_tup (we_var rfl ⟨_, rfl, by rw [List.length_map]; omega, fun n acc => acc = ((ps.take n).map (sentP i j)).map Dl.pairD, rfl, ?_, ?_⟩)))))
  · rintro n d acc hd hacc
    have hacc' : acc = ((ps.take n).map (sentP i j)).map Dl.pairD := hacc
    rw [List.getElem?_map] at hd
    obtain ⟨q, hq, rfl⟩ : ∃ q, ps[n]? = some q ∧ Dl.pairD q = d := by
      cases e : ps[n]? with
      | none => rw [e] at hd; cases hd
      | some q => rw [e] at hd; exact ⟨q, rfl, Option.some.inj hd⟩
    try dsimp only [List.set]
    refine wt_yes ?_
    rw [if_pos rfl]
    repeat walk_at "dl"
    refine ix0 ?_
    repeat walk_at "dl"
    refine ix1 ?_
    repeat walk_at "dl"
    show acc ++ [Dl.pairD (sentP i j q)] = ((ps.take (n + 1)).map (sentP i j)).map Dl.pairD
    rw [hacc', List.take_add_one, hq, List.map_append, List.map_append]
    rfl
  · rintro acc hacc
    have hacc' : acc = ((ps.take (ps.map Dl.pairD).length).map (sentP i j)).map Dl.pairD := hacc
    rw [List.length_map, List.take_length] at hacc'
    rw [hacc']
    exact wa_nil (rc_tupZ ⟨ps, i, j, rfl, rfl⟩)
abbrev s__law_rect : Stmt := topS 67
abbrev N__law_rect : List Str := ["_law_x", "_law_y", "_law_wide", "_law_high"]
theorem sc__law_rect : FnScope N__law_rect ["_law_x", "_law_y", "_law_wide", "_law_high"] (defScope s__law_rect) := ⟨rfl, rfl, rfl, by decide +kernel, rfl, by decide +kernel, by decide +kernel⟩
abbrev ClRe (P : Program) (w : World) (K : PySem.W.Frag) (mg : Str → Option Value) (base : Heap) (k : Nat) := Cl P w K mg base k "_law_rect" s__law_rect ["_law_x", "_law_y", "_law_wide", "_law_high"] (SpD K (fun ds => ∃ a b c d : Int, ds = [.int a, .int b, .int c, .int d]) fun ds r => ∃ a b c d : Int, ds = [.int a, .int b, .int c, .int d] ∧ r = .tup (([(a, b), (a + c, b), (a + c, b + d), (a, b + d)] : List Pr2).map Dl.pairD))
theorem ok__law_rect {k : Nat} (F : Df K mg "_law_rect" s__law_rect) : ClRe P w K mg base (k + 1) := by
  refine cl_of F sc__law_rect (fun _ _ _ _ _ _ us hl => match us, hl with | [_, _, _, _], _ => rfl) (fun ds ⟨a, b, c, d, e⟩ => by rw [e]; rfl) fun f cdv A outer s H E hr => ⟨_, (pss_one (ps_ret (pe_tupZ (pa_cons (pe_tupZ (pa_cons (pv 0) (pa_cons (pv 1) pa_nil))) (pa_cons (pe_tupZ (pa_cons (pe_op op_add (pv 0) (pv 2)) (pa_cons (pv 1) pa_nil))) (pa_cons (pe_tupZ (pa_cons (pe_op op_add (pv 0) (pv 2)) (pa_cons (pe_op op_add (pv 1) (pv 3)) pa_nil))) (pa_cons (pe_tupZ (pa_cons (pv 0) (pa_cons (pe_op op_add (pv 1) (pv 3)) pa_nil))) pa_nil))))))), fun B ds hp => ?_⟩
  obtain ⟨a, b, c, d, rfl⟩ := hp
  show WS K B _ [.val (.int a), .val (.int b), .val (.int c), .val (.int d)] _
  try dsimp only [cxOf, Cx.nox, Cx.blk]
  repeat walk_at "dl"
  first | rfl | exact ⟨a, b, c, d, rfl, rfl⟩

/-! ### par7 -/
def ofD : D → Pr2
  | .tup [.int a, .int b] => (a, b)
  | _ => (0, 0)
def polyAt (ps : List Pr2) (k : Nat) : Bool := (List.range ps.length).all fun j => (decide (j = k) || decide (j = (k + 1) % ps.length)) || decide (0 < trn (ps.getD k (0, 0)) (ps.getD ((k + 1) % ps.length) (0, 0)) (ps.getD j (0, 0)))
def polyB (ps : List Pr2) : Bool := (List.range ps.length).all (polyAt ps)
def isPoly : D → Bool
  | .tup xs => ((decide (3 ≤ xs.length) && decide (xs.length ≤ 6)) && xs.all (isBnd 200)) && polyB (xs.map ofD)
  | _ => false
theorem bnd_pr {b : Int} {d : D} (h : isBnd b d = true) : ∃ x y : Int, d = .tup [.int x, .int y] ∧ -b ≤ x ∧ x ≤ b ∧ -b ≤ y ∧ y ≤ b := by
  cases d with
  | tup xs =>
    have h' : ((decide ((xs.length : Int) = 2) && xs.all isNum) && xs.all (inB b)) = true := h
    rw [Bool.and_eq_true, Bool.and_eq_true, decide_eq_true_eq] at h'
    obtain ⟨⟨hl, hn⟩, hb⟩ := h'
    match xs, hl, hn, hb with
    | [.int x, .int y], _, _, hb =>
      have hb' : ((decide (-b ≤ x) && decide (x ≤ b)) && ((decide (-b ≤ y) && decide (y ≤ b)) && true)) = true := hb
      simp only [Bool.and_eq_true, decide_eq_true_eq] at hb'
      exact ⟨x, y, rfl, hb'.1.1, hb'.1.2, hb'.2.1.1, hb'.2.1.2⟩
    | [a, c], _, hn, hb =>
      have hn' : (isNum a && (isNum c && true)) = true := hn
      rw [Bool.and_eq_true, Bool.and_eq_true] at hn'
      have ea : ∃ i, a = .int i := by cases a <;> first | exact ⟨_, rfl⟩ | exact Bool.noConfusion hn'.1
      have ec : ∃ i, c = .int i := by cases c <;> first | exact ⟨_, rfl⟩ | exact Bool.noConfusion hn'.2.1
      obtain ⟨x, rfl⟩ := ea
      obtain ⟨y, rfl⟩ := ec
      have hb' : ((decide (-b ≤ x) && decide (x ≤ b)) && ((decide (-b ≤ y) && decide (y ≤ b)) && true)) = true := hb
      simp only [Bool.and_eq_true, decide_eq_true_eq] at hb'
      exact ⟨x, y, rfl, hb'.1.1, hb'.1.2, hb'.2.1.1, hb'.2.1.2⟩
  | _ => exact Bool.noConfusion h
theorem bnd_ofD {d : D} (h : isBnd 200 d = true) : d = Dl.pairD (ofD d) ∧ Upto 200 (ofD d) := by
  obtain ⟨x, y, rfl, h1, h2, h3, h4⟩ := bnd_pr h
  exact ⟨rfl, h1, h2, h3, h4⟩
theorem bnds_ofD {xs : List D} (h : xs.all (isBnd 200) = true) : xs = (xs.map ofD).map Dl.pairD ∧ ∀ p ∈ xs.map ofD, Upto 200 p := by
  have h' := List.all_eq_true.mp h
  constructor
  · rw [List.map_map]
    conv => lhs; rw [← List.map_id xs]
    exact List.map_congr_left fun d hd => (bnd_ofD (h' d hd)).1
  · intro p hp
    obtain ⟨d, hd, rfl⟩ := List.mem_map.mp hp
    exact (bnd_ofD (h' d hd)).2
theorem rc_allB {bs : List Bool} {K : PySem.W.Frag} {B : Bt} {Q : D → Prop} (p : Q (.bl (bs.all id))) : RC K B (rAll K) [.lst (bs.map D.bl)] Q := by
  have h := rc_allf (f := fun d => match d with | .bl b => b | _ => false) (xs := bs.map D.bl) (P := Q) (K := K) (B := B) (by rw [List.all_map]; exact p)
  rw [List.map_map] at h
  exact h
theorem ro_niI {i a b : Int} {K : PySem.W.Frag} {B : Bt} {Q : D → Prop} (h : Q (.bl (!((a == i) || ((b == i) || false))))) : RO K B (rIn K true) (.int i) (.lst [.int a, .int b]) Q := fun G H x y R o hx hy q => by
  cases hx
  cases hy with
  | lst hg t =>
    cases t with
    | cons h1 t =>
      cases t with
      | cons h2 t =>
        cases t
        cases h1
        cases h2
        exact ⟨_, _, rfl, .inl (SqL.of (o.u _ _ hg)), rfl, rfl, q.nil o (.bl _) h⟩

/-! ### par8 -/
theorem edg_at {ps : List Pr2} {k : Nat} (hk : k < ps.length) : (edg ps)[k]? = some (ps.getD k (0, 0), ps.getD ((k + 1) % ps.length) (0, 0)) := by
  unfold edg
  rw [List.getElem?_map, List.getElem?_range hk]
  rfl
theorem edg_zip {ps : List Pr2} : edg ps = ps.zip (ps.drop 1 ++ ps.take 1) := by
  have hl : (ps.drop 1 ++ ps.take 1).length = ps.length := by rw [List.length_append, List.length_drop, List.length_take]; omega
  apply List.ext_getElem?
  intro k
  by_cases hk : k < ps.length
  · rw [edg_at hk]
    symm
    refine List.getElem?_zip_eq_some.mpr ⟨?_, ?_⟩
    · rw [List.getD_eq_getElem?_getD, List.getElem?_eq_getElem hk]; rfl
    · show _ = some (ps.getD ((k + 1) % ps.length) (0, 0))
      by_cases e : k + 1 = ps.length
      · rw [e, Nat.mod_self, List.getElem?_append_right (by rw [List.length_drop]; omega), List.length_drop, show k - (ps.length - 1) = 0 by omega, List.getElem?_take]
        rw [if_pos (by decide), List.getD_eq_getElem?_getD, List.getElem?_eq_getElem (by omega)]; rfl
      · have hk1 : k + 1 < ps.length := by omega
        rw [Nat.mod_eq_of_lt hk1, List.getElem?_append_left (by rw [List.length_drop]; omega), List.getElem?_drop, Nat.add_comm 1 k, List.getD_eq_getElem?_getD, List.getElem?_eq_getElem hk1]; rfl
  · rw [List.getElem?_eq_none (by rw [edg_len]; omega), List.getElem?_eq_none (by rw [List.length_zip, hl]; omega)]
theorem zip_edgD (ps qs : List Pr2) : ((ps.map Dl.pairD).zip (qs.map Dl.pairD)).map (fun q => D.tup [q.1, q.2]) = (ps.zip qs).map edgD := by
  rw [List.zip_map, List.map_map]
  rfl
abbrev s_edges : Stmt := topS 33
abbrev N_edges : List Str := ["part"]
theorem sc_edges : FnScope N_edges ["part"] (defScope s_edges) := ⟨rfl, rfl, rfl, by decide +kernel, rfl, by decide +kernel, by decide +kernel⟩
abbrev ClEd (P : Program) (w : World) (K : PySem.W.Frag) (mg : Str → Option Value) (base : Heap) (k : Nat) := Cl P w K mg base k "edges" s_edges ["part"] (SpD K (polyPre 100) fun ds r => ∃ ps : List Pr2, ds = [.tup (ps.map Dl.pairD)] ∧ r = .lst ((edg ps).map edgD))
theorem ok_edges {k : Nat} (G : Gn mg) (F : Df K mg "edges" s_edges) : ClEd P w K mg base (k + 1) := by
  refine cl_of F sc_edges (fun _ _ _ _ _ _ us hl => match us, hl with | [_], _ => rfl) p1_len fun f cdv A outer s H E hr => ⟨_, (pss_one (ps_ret (pe_lz rfl (by rfl) G.g_list (by rfl) G.g_zip (pa_cons (pv 0) (pa_cons (pe_op (show OpR _ (binaryOp .Add) (zCat K) from op_catZ) (pe_slice (show SlR _ (zSl K) from sl_tupZ) (pv 0) (po_some pe_int) po_none) (pe_slice (show SlR _ (zSl K) from sl_tupZ) (pv 0) po_none (po_some pe_int))) pa_nil))))), fun B ds hp => ?_⟩
  obtain ⟨_, rfl, ps, rfl, hl⟩ := p1_ex hp
  show WS K B _ [.val (.tup (ps.map Dl.pairD))] _
  try dsimp only [cxOf, Cx.nox, Cx.blk]
  have fin : ∀ qs : List Pr2, qs = ps.drop 1 ++ ps.take 1 → (ps.map Dl.pairD).length = (qs.map Dl.pairD).length ∧ D.lst (((ps.map Dl.pairD).zip (qs.map Dl.pairD)).map fun q => .tup [q.1, q.2]) = .lst ((edg ps).map edgD) := by
    rintro qs rfl
    refine ⟨by rw [List.length_map, List.length_map, List.length_append, List.length_drop, List.length_take]; omega, ?_⟩
    rw [zip_edgD, ← edg_zip]
  refine ws_ret (we_lz (wa_cons (we_var rfl (wa_cons ?_))))
  cases ps with
  | nil =>
    repeat walk_at "dl"
    refine rs_T ?_
    repeat walk_at "dl"
    refine rs_T ?_
    refine ro_catA (by decide) (wa_nil ⟨[], [], rfl, rfl, [], rfl, rfl⟩)
  | cons p qs =>
    repeat walk_at "dl"
    refine rs_T ?_
    rw [show (1 : Int) = ((1 : Nat) : Int) from rfl, cut_from (by rw [List.length_cons]; omega)]
    repeat walk_at "dl"
    refine rs_T ?_
    rw [cut_to (by rw [List.length_cons]; omega)]
    refine ro_catA (by rw [List.length_map, List.length_map, List.length_drop, List.length_take]; omega) (wa_nil ?_)
    rw [← List.map_append]
    obtain ⟨f1, f2⟩ := fin _ rfl
    exact ⟨_, _, rfl, f1, p :: qs, rfl, f2⟩
abbrev s_area_twice : Stmt := topS 34
abbrev N_area_twice : List Str := ["part", "corner", "following"]
theorem sc_area_twice : FnScope N_area_twice ["part"] (defScope s_area_twice) := ⟨rfl, rfl, rfl, by decide +kernel, rfl, by decide +kernel, by decide +kernel⟩
abbrev ClAt (P : Program) (w : World) (K : PySem.W.Frag) (mg : Str → Option Value) (base : Heap) (k : Nat) := Cl P w K mg base k "area_twice" s_area_twice ["part"] (SpD K (p1 fun d => ∃ ps : List Pr2, d = .tup (ps.map Dl.pairD) ∧ ps.length ≤ 100 ∧ ∀ p ∈ ps, Upto 100000000 p) fun ds r => ∃ ps : List Pr2, ds = [.tup (ps.map Dl.pairD)] ∧ r = .int (areaP ps))
theorem ok_area_twice {k : Nat} (G : Gn mg) (F : Df K mg "area_twice" s_area_twice) (C_cross : ClCr P w K mg base k) (C_edges : ClEd P w K mg base k) : ClAt P w K mg base (k + 1) := by
  refine cl_of F sc_area_twice (fun _ _ _ _ _ _ us hl => match us, hl with | [_], _ => rfl) p1_len fun f cdv A outer s H E hr => ⟨_, (pss_one (ps_ret (pe_callB (show CallR _ (.builtin "sum") (rSum K) from cr_sum rfl) (by rfl) G.g_sum (by decide +kernel) (pa_cons (pe_lc (own := [("corner", 1), ("following", 2)]) (g := (gTup K 2 (gCons (gName 1) (gCons (gName 2) gNil)))) (tt := tYes) rfl sc_area_twice.nd (pi_list (pe_c C_edges hr (by omega) (by rfl) (pa_cons (pv 0) pa_nil))) (blkOk_by (N := N_area_twice) (sc := defScope s_area_twice) (by decide +kernel)) (fun _ _ _ _ _ => show PG _ _ (gTup K 2 (gCons (gName 1) (gCons (gName 2) gNil))) from pg_tup rfl (pgs_cons (pg_name (i := 1) sc_area_twice.nd rfl (Or.inl rfl)) (pgs_cons (pg_name (i := 2) sc_area_twice.nd rfl (Or.inl rfl)) pgs_nil))) (fun _ _ _ _ _ => pts_nil) (fun _ _ _ _ _ => (pe_c C_cross hr (by omega) (by rfl) (pa_cons (pv 1) (pa_cons (pv 2) pa_nil))))) pa_nil)))), fun B ds hp => ?_⟩
  obtain ⟨_, rfl, ps, rfl, hl, hps⟩ := p1_ex hp
  show WS K B _ [.val (.tup (ps.map Dl.pairD)), .no, .no] _
  try dsimp only [cxOf, Cx.nox, Cx.blk]
  refine ws_ret (we_cb (wa_cons (we_lcP (by decide) (wi_list (we_call (wa_cons (we_var rfl (wa_nil ⟨⟨ps, rfl, hl⟩, ?_⟩))))))))
  rintro _ ⟨ps', e, rfl⟩
  have e1 : ps' = ps := (List.map_inj_right fun _ _ h => pairD_inj h).mp (D.tup.inj (List.cons.inj e).1).symm
  subst e1
  refine ⟨_, rfl, by rw [List.length_map, edg_len]; omega, fun n acc => acc = (((edg ps').take n).map fun e => crs e.1 e.2).map D.int, rfl, ?_, ?_⟩
  · rintro n d acc hd hacc
    have hacc' : acc = (((edg ps').take n).map fun e => crs e.1 e.2).map D.int := hacc
    rw [List.getElem?_map] at hd
    obtain ⟨x, hx, rfl⟩ : ∃ x, (edg ps')[n]? = some x ∧ edgD x = d := by
      cases e : (edg ps')[n]? with
      | none => rw [e] at hd; cases hd
      | some q => rw [e] at hd; exact ⟨q, rfl, Option.some.inj hd⟩
    have hm := edg_mem (List.mem_of_getElem? hx)
    refine ⟨_, _, rfl, ?_⟩
    try dsimp only [List.set]
    refine wt_yes ?_
    rw [if_pos rfl]
    refine we_call (wa_cons (we_var rfl (wa_cons (we_var rfl (wa_nil ⟨⟨x.1, x.2, rfl, rfl, hps _ hm.1, hps _ hm.2⟩, ?_⟩)))))
    rintro _ ⟨a, b, e2, rfl⟩
    have e3 := pairD_inj (List.cons.inj e2).1
    have e4 := pairD_inj (List.cons.inj (List.cons.inj e2).2).1
    subst e3 e4
    show acc ++ [D.int (crs x.1 x.2)] = (((edg ps').take (n + 1)).map fun e => crs e.1 e.2).map D.int
    rw [hacc', List.take_add_one, hx, List.map_append, List.map_append]
    rfl
  · rintro acc hacc
    have hacc' : acc = (((edg ps').take ((edg ps').map edgD).length).map fun e => crs e.1 e.2).map D.int := hacc
    rw [List.length_map, List.take_length] at hacc'
    rw [hacc']
    refine wa_nil (rc_sum ⟨ps', rfl, rfl⟩)
def leftB : List Pr2 → Bool
  | a :: b :: qs => qs.all fun c => decide (0 < trn a b c)
  | _ => true
abbrev s_others_lie_left : Stmt := topS 31
abbrev N_others_lie_left : List Str := ["corners", "start", "stop", "others", "corner"]
theorem sc_others_lie_left : FnScope N_others_lie_left ["corners"] (defScope s_others_lie_left) := ⟨rfl, rfl, rfl, by decide +kernel, rfl, by decide +kernel, by decide +kernel⟩
abbrev ClOl (P : Program) (w : World) (K : PySem.W.Frag) (mg : Str → Option Value) (base : Heap) (k : Nat) := Cl P w K mg base k "others_lie_left" s_others_lie_left ["corners"] (SpD K (p1 fun d => ∃ ps : List Pr2, d = .tup (ps.map Dl.pairD) ∧ 2 ≤ ps.length ∧ ps.length ≤ 100 ∧ ∀ p ∈ ps, Upto 10000000 p) fun ds r => ∃ ps : List Pr2, ds = [.tup (ps.map Dl.pairD)] ∧ r = .bl (leftB ps))
theorem ok_others_lie_left {k : Nat} (G : Gn mg) (F : Df K mg "others_lie_left" s_others_lie_left) (C_bend : ClBn P w K mg base k) : ClOl P w K mg base (k + 1) := by
  refine cl_of F sc_others_lie_left (fun _ _ _ _ _ _ us hl => match us, hl with | [_], _ => rfl) p1_len fun f cdv A outer s H E hr => ⟨_, (pss_cons (ps_asg (pv 0) (pg_star rfl (pgs_cons (pg_name (i := 1) sc_others_lie_left.nd rfl (Or.inr rfl)) (pgs_cons (pg_name (i := 2) sc_others_lie_left.nd rfl (Or.inr rfl)) (pgs_star (pg_name (i := 3) sc_others_lie_left.nd rfl (Or.inl rfl)) pgs_nil)))))
      (pss_one (ps_ret (pe_callB (cr_all rfl) (by rfl) G.g_all (by decide +kernel) (pa_cons (pe_lc (own := [("corner", 4)]) (g := gName 4) (tt := tYes) rfl sc_others_lie_left.nd (pi_list (pv 3)) (blkOk_by (N := N_others_lie_left) (sc := defScope s_others_lie_left) (by decide +kernel)) (fun _ _ _ _ _ => pg_name (i := 4) sc_others_lie_left.nd rfl (Or.inl rfl)) (fun _ _ _ _ _ => pts_nil) (fun _ _ _ _ _ => (pe_cmpR op_gt (pe_c C_bend hr (by omega) (by rfl) (pa_cons (pv 1) (pa_cons (pv 2) (pa_cons (pv 4) pa_nil)))) pe_int (nomark _)))) pa_nil))))), fun B ds hp => ?_⟩
  obtain ⟨_, rfl, ps, rfl, h2, hl, hps⟩ := p1_ex hp
  match ps, h2, hl, hps with
  | a :: b :: qs, h2, hl, hps =>
    have ha := hps a List.mem_cons_self
    have hb := hps b (List.mem_cons_of_mem _ List.mem_cons_self)
    have hq : ∀ q ∈ qs, Upto 10000000 q := fun q h => hps q (List.mem_cons_of_mem _ (List.mem_cons_of_mem _ h))
    show WS K B _ [.val (.tup ((a :: b :: qs).map Dl.pairD)), .no, .no, .no, .no] _
    try dsimp only [cxOf, Cx.nox, Cx.blk]
    refine ws_seq (ws_star2 (we_var rfl ⟨_, _, _, rfl, ?_⟩))
    try dsimp only [List.set]
    refine ws_ret (we_cb (wa_cons (we_lc (wi_list (we_var rfl ⟨_, rfl, by rw [List.length_map]; rw [List.length_cons, List.length_cons] at hl; omega, fun n acc => acc = ((qs.take n).map fun c => decide (0 < trn a b c)).map D.bl, rfl, ?_, ?_⟩)))))
    · rintro n d acc hd hacc
      have hacc' : acc = ((qs.take n).map fun c => decide (0 < trn a b c)).map D.bl := hacc
      rw [List.getElem?_map] at hd
      obtain ⟨x, hx, rfl⟩ : ∃ x, qs[n]? = some x ∧ Dl.pairD x = d := by
        cases e : qs[n]? with
        | none => rw [e] at hd; cases hd
        | some q => rw [e] at hd; exact ⟨q, rfl, Option.some.inj hd⟩
      try dsimp only [List.set]
      refine wt_yes ?_
      rw [if_pos rfl]
      refine we_op (we_call (wa_cons (we_var rfl (wa_cons (we_var rfl (wa_cons (we_var rfl (wa_nil ⟨⟨a, b, x, rfl, rfl, rfl, ha, hb, hq x (List.mem_of_getElem? hx)⟩, ?_⟩))))))))
      rintro _ ⟨a', b', x', e, rfl⟩
      have e1 := pairD_inj (List.cons.inj e).1
      have e2 := pairD_inj (List.cons.inj (List.cons.inj e).2).1
      have e3 := pairD_inj (List.cons.inj (List.cons.inj (List.cons.inj e).2).2).1
      subst e1 e2 e3
      refine we_int (ro_bl0 ?_)
      show acc ++ [D.bl (decide (0 < trn a b x))] = ((qs.take (n + 1)).map fun c => decide (0 < trn a b c)).map D.bl
      rw [hacc', List.take_add_one, hx, List.map_append, List.map_append]
      rfl
    · rintro acc hacc
      have hacc' : acc = ((qs.take (qs.map Dl.pairD).length).map fun c => decide (0 < trn a b c)).map D.bl := hacc
      rw [List.length_map, List.take_length] at hacc'
      rw [hacc']
      refine wa_nil (rc_allB ⟨a :: b :: qs, rfl, ?_⟩)
      rw [List.all_map]
      rfl

end
/-! #### Fd -/
section
variable {P : Program} {w : World} {K : PySem.W.Frag} {mg : Str → Option Value} {base : Heap}
/-! ### par9 -/
/-! ### is_part -/
theorem leftB_rot {ps : List Pr2} (h3 : 3 ≤ ps.length) (h6 : ps.length ≤ 6) {k : Nat} (hk : k < ps.length) : leftB (rotn ps k) = polyAt ps k := by
  match ps, h3, h6 with
  | [a, b, c], _, _ =>
    have : k = 0 ∨ k = 1 ∨ k = 2 := by simp at hk; omega
    rcases this with rfl | rfl | rfl <;> rw [Bool.eq_iff_iff] <;> simp [leftB, rotn, polyAt, List.range_succ]
  | [a, b, c, d], _, _ =>
    have : k = 0 ∨ k = 1 ∨ k = 2 ∨ k = 3 := by simp at hk; omega
    rcases this with rfl | rfl | rfl | rfl <;> rw [Bool.eq_iff_iff] <;> simp [leftB, rotn, polyAt, List.range_succ] <;> omega
  | [a, b, c, d, e], _, _ =>
    have : k = 0 ∨ k = 1 ∨ k = 2 ∨ k = 3 ∨ k = 4 := by simp at hk; omega
    rcases this with rfl | rfl | rfl | rfl | rfl <;> rw [Bool.eq_iff_iff] <;> simp [leftB, rotn, polyAt, List.range_succ] <;> omega
  | [a, b, c, d, e, f], _, _ =>
    have : k = 0 ∨ k = 1 ∨ k = 2 ∨ k = 3 ∨ k = 4 ∨ k = 5 := by simp at hk; omega
    rcases this with rfl | rfl | rfl | rfl | rfl | rfl <;> rw [Bool.eq_iff_iff] <;> simp [leftB, rotn, polyAt, List.range_succ] <;> omega

theorem rotn_mem {ps : List Pr2} {k : Nat} {p : Pr2} (h : p ∈ rotn ps k) : p ∈ ps := by
  rcases List.mem_append.mp h with h | h
  · exact List.mem_of_mem_drop h
  · exact List.mem_of_mem_take h
theorem rotn_len {ps : List Pr2} {k : Nat} : (rotn ps k).length = ps.length := by
  unfold rotn
  rw [List.length_append, List.length_drop, List.length_take]
  omega
abbrev s_is_part : Stmt := topS 30
abbrev N_is_part : List Str := ["value", "at", "corner"]
theorem sc_is_part : FnScope N_is_part ["value"] (defScope s_is_part) := ⟨rfl, rfl, rfl, by decide +kernel, rfl, by decide +kernel, by decide +kernel⟩
theorem ok_is_part {k : Nat} (G : Gn mg) (F : Df K mg "is_part" s_is_part) (C_is_point : ClB P w K mg base k "is_point" s_is_point "value" (isBnd 200)) (C_others_lie_left : ClOl P w K mg base k) : ClB P w K mg base (k + 1) "is_part" s_is_part "value" isPoly := by
  refine cl_of F sc_is_part (fun _ _ _ _ _ _ us hl => match us, hl with | [_], _ => rfl) p1_len fun f cdv A outer s H E hr => ⟨_, (pss_cons (ps_if (PW.pt (pw_or (pt_not (pt_val (pe_callB (show CallR _ (.builtin "isinstance") (rIsi K) from call_isi) (by rfl) G.g_isinstance (by decide +kernel) (pa_cons (pv 0) (pa_cons (pe_bltn (v := .ty "tuple") (u := .type "tuple") (by rfl) G.g_tuple (by decide +kernel) rfl) pa_nil))))) (pw_or1 (pt_not (pt_chain op_le op_le (pe_gi rfl G.g_LEAST_CORNERS) (pe_callB (show CallR _ (.builtin "len") (fun xs H Q => ∃ x n, xs = [x] ∧ LenV K x H n ∧ Q (.int n) H) from call_len) (by rfl) G.g_len (by decide +kernel) (pa_cons (pv 0) pa_nil)) (pe_gi rfl G.g_MOST_CORNERS)))))) (pss_one (ps_ret pe_bl)) pss_nil)
      (pss_cons (ps_if (pt_not (pt_val (pe_callB (cr_all rfl) (by rfl) G.g_all (by decide +kernel) (pa_cons (pe_lc (own := [("corner", 2)]) (g := gName 2) (tt := tYes) rfl sc_is_part.nd (pi_tup (pv 0)) (blkOk_by (N := N_is_part) (sc := defScope s_is_part) (by decide +kernel)) (fun _ _ _ _ _ => pg_name (i := 2) sc_is_part.nd rfl (Or.inl rfl)) (fun _ _ _ _ _ => pts_nil) (fun _ _ _ _ _ => (pe_c C_is_point hr (by omega) (by rfl) (pa_cons (pv 2) pa_nil)))) pa_nil)))) (pss_one (ps_ret pe_bl)) pss_nil)
      (pss_one (ps_ret (pe_callB (cr_all rfl) (by rfl) G.g_all (by decide +kernel) (pa_cons (pe_lc (own := [("at", 1)]) (g := gName 1) (tt := tYes) rfl sc_is_part.nd (pi_range1 rfl G.g_range (pa_cons (pe_callB (show CallR _ (.builtin "len") (fun xs H Q => ∃ x n, xs = [x] ∧ LenV K x H n ∧ Q (.int n) H) from call_len) (by rfl) G.g_len (by decide +kernel) (pa_cons (pv 0) pa_nil)) pa_nil)) (blkOk_by (N := N_is_part) (sc := defScope s_is_part) (by decide +kernel)) (fun _ _ _ _ _ => pg_name (i := 1) sc_is_part.nd rfl (Or.inl rfl)) (fun _ _ _ _ _ => pts_nil) (fun _ _ _ _ _ => (pe_c C_others_lie_left hr (by omega) (by rfl) (pa_cons (pe_op (show OpR _ (binaryOp .Add) (zCat K) from op_catZ) (pe_slice (show SlR _ (zSl K) from sl_tupZ) (pv 0) (po_some (pv 1)) po_none) (pe_slice (show SlR _ (zSl K) from sl_tupZ) (pv 0) po_none (po_some (pv 1)))) pa_nil)))) pa_nil)))))), fun B ds hp => ?_⟩
  obtain ⟨d, rfl, hd⟩ := p1_ex hp
  show WS K B _ [.val d, .no, .no] _
  try dsimp only [cxOf, Cx.nox, Cx.blk]
  by_cases ht : isTup d = true
  · obtain ⟨xs, rfl⟩ : ∃ xs, d = .tup xs := by cases d <;> first | exact ⟨_, rfl⟩ | exact Bool.noConfusion ht
    obtain ⟨hl, hs⟩ := sm_tup hd
    repeat walk_at "dl"
    have no : ¬ (3 ≤ xs.length ∧ xs.length ≤ 6) → D.bl false = D.bl (isPoly (.tup xs)) := fun h => by
      have e : (decide (3 ≤ xs.length) && decide (xs.length ≤ 6)) = false := by
        rw [Bool.eq_false_iff]
        intro z
        rw [Bool.and_eq_true, decide_eq_true_eq, decide_eq_true_eq] at z
        exact h z
      show D.bl false = D.bl (((decide (3 ≤ xs.length) && decide (xs.length ≤ 6)) && xs.all (isBnd 200)) && polyB (xs.map ofD))
      rw [e, Bool.false_and, Bool.false_and]
    refine ite2 (fun h1 => ?_) (fun h1 => ?_)
    · have h1' : 3 ≤ xs.length := by simp at h1; omega
      repeat walk_at "dl"
      refine ite2 (fun h2 => ?_) (fun h2 => ?_)
      · repeat walk_at "dl"
        exact no fun z => by simp at h2; omega
      have h2' : xs.length ≤ 6 := by simp at h2; omega
      repeat walk_at "dl"
      refine we_lc (wi_tup (we_var rfl ⟨_, rfl, by omega, fun n acc => acc = (xs.take n).map (fun d => D.bl (isBnd 200 d)), rfl, ?_, ?_⟩))
      · rintro n d acc hdn hacc
        have hacc' : acc = (xs.take n).map (fun d => D.bl (isBnd 200 d)) := hacc
        try dsimp only [List.set]
        refine wt_yes ?_
        rw [if_pos rfl]
        refine we_call (wa_cons (we_var rfl (wa_nil ⟨sms_mem hs (List.mem_of_getElem? hdn), ?_⟩)))
        rintro _ rfl
        show acc ++ [D.bl (isBnd 200 d)] = (xs.take (n + 1)).map (fun d => D.bl (isBnd 200 d))
        rw [hacc', List.take_add_one, hdn, List.map_append]
        rfl
      rintro acc hacc
      have hacc' : acc = (xs.take xs.length).map (fun d => D.bl (isBnd 200 d)) := hacc
      rw [List.take_length] at hacc'
      rw [hacc']
      refine wa_nil (rc_allf ?_)
      repeat walk_at "dl"
      refine ite2 (fun h3 => ?_) (fun h3 => ?_)
      · repeat walk_at "dl"
        have h3' : xs.all (isBnd 200) = false := by simpa using h3
        show D.bl false = D.bl (((decide (3 ≤ xs.length) && decide (xs.length ≤ 6)) && xs.all (isBnd 200)) && polyB (xs.map ofD))
        rw [h3', Bool.and_false, Bool.false_and]
      have h3' : xs.all (isBnd 200) = true := by simpa using h3
      have hval : isPoly (.tup xs) = polyB (xs.map ofD) := by
        show (((decide (3 ≤ xs.length) && decide (xs.length ≤ 6)) && xs.all (isBnd 200)) && polyB (xs.map ofD)) = _
        rw [h3', decide_eq_true h1', decide_eq_true h2', Bool.and_true, Bool.and_true, Bool.true_and]
      obtain ⟨ex, hb⟩ := bnds_ofD h3'
      have hlen : (xs.map ofD).length = xs.length := List.length_map ..
      obtain ⟨ps, hps⟩ : ∃ ps, ps = xs.map ofD := ⟨_, rfl⟩
      rw [← hps] at ex hb hval hlen
      rw [← hlen] at h1' h2'
      clear h1 h2 h3 h3' hacc hacc' hps hs hl hd hp ht hlen no
      subst ex
      refine ws_next ?_
      refine ws_ret (we_cb (wa_cons (we_lc (wi_range1 (wa_cons (we_cb (wa_cons (we_var rfl (wa_nil (rc_len (n := ps.length) (by show some (ps.map Dl.pairD).length = _; rw [List.length_map]) (by omega) (wa_nil ⟨_, rfl, by omega, by omega, by rw [upto_len]; omega,
        fun n acc => acc = ((List.range n).map fun j => leftB (rotn ps j)).map D.bl, rfl, ?_, ?_⟩)))))))))))
      · rintro n d acc hdn hacc
        have hacc' : acc = ((List.range n).map fun j => leftB (rotn ps j)).map D.bl := hacc
        obtain ⟨hn, rfl⟩ := upto_at hdn
        try dsimp only [List.set]
        refine wt_yes ?_
        rw [if_pos rfl]
        refine we_call (wa_cons ?_)
        repeat walk_at "dl"
        refine rs_T ?_
        rw [cut_from (Nat.le_of_lt hn)]
        repeat walk_at "dl"
        refine rs_T ?_
        rw [cut_to (Nat.le_of_lt hn)]
        refine ro_catA (by rw [List.length_map, List.length_map, List.length_drop, List.length_take]; omega) (wa_nil ?_)
        rw [← List.map_append]
        refine ⟨⟨rotn ps n, rfl, by rw [rotn_len]; omega, by rw [rotn_len]; omega, fun p hm => upto_le (hb p (rotn_mem hm)) (by decide)⟩, ?_⟩
        rintro _ ⟨qs, e, rfl⟩
        have e1 : rotn ps n = qs := (List.map_inj_right fun _ _ h => pairD_inj h).mp (D.tup.inj (List.cons.inj e).1)
        subst e1
        show acc ++ [D.bl (leftB (rotn ps n))] = ((List.range (n + 1)).map fun j => leftB (rotn ps j)).map D.bl
        rw [hacc', List.range_succ, List.map_append, List.map_append]
        rfl
      · rintro acc hacc
        have hacc' : acc = ((List.range (upto 0 (ps.length : Int).toNat).length).map fun j => leftB (rotn ps j)).map D.bl := hacc
        rw [upto_len, Int.toNat_natCast] at hacc'
        rw [hacc']
        refine wa_nil (rc_allB ?_)
        show D.bl _ = D.bl (isPoly (.tup (ps.map Dl.pairD)))
        rw [hval, List.all_map]
        congr 1
        unfold polyB
        rw [Bool.eq_iff_iff, List.all_eq_true, List.all_eq_true]
        constructor
        · intro z j hj
          rw [← leftB_rot h1' h2' (List.mem_range.mp hj)]
          exact z j hj
        · intro z j hj
          show leftB (rotn ps j) = true
          rw [leftB_rot h1' h2' (List.mem_range.mp hj)]
          exact z j hj
    · refine ⟨false, rfl, ?_⟩
      rw [if_pos (show (!false) = true from rfl)]
      repeat walk_at "dl"
      exact no fun z => by simp at h1; omega
  · have ht' : isTup d = false := by simpa using ht
    repeat walk_at "dl"
    rw [ht']
    repeat walk_at "dl"
    show D.bl false = D.bl (isPoly d)
    cases d <;> first | rfl | exact Bool.noConfusion ht'

end
/-! #### Fe -/
section
variable {P : Program} {w : World} {K : PySem.W.Frag} {mg : Str → Option Value} {base : Heap}
/-! ### sd1 -/
def dotP (p q : Pr2) : Int := p.1 * q.1 + p.2 * q.2
abbrev s_dot : Stmt := topS 28
abbrev N_dot : List Str := ["one", "other"]
theorem sc_dot : FnScope N_dot ["one", "other"] (defScope s_dot) := ⟨rfl, rfl, rfl, by decide +kernel, rfl, by decide +kernel, by decide +kernel⟩
abbrev ClDo (P : Program) (w : World) (K : PySem.W.Frag) (mg : Str → Option Value) (base : Heap) (k : Nat) := Cl P w K mg base k "dot" s_dot ["one", "other"] (SpD K (p2 fun a b => ∃ p q : Pr2, a = Dl.pairD p ∧ b = Dl.pairD q ∧ Upto 100000000 p ∧ Upto 100000000 q) fun ds r => ∃ p q : Pr2, ds = [Dl.pairD p, Dl.pairD q] ∧ r = .int (dotP p q))
theorem ok_dot {k : Nat} (F : Df K mg "dot" s_dot) : ClDo P w K mg base (k + 1) := by
  refine cl_of F sc_dot (fun _ _ _ _ _ _ us hl => match us, hl with | [_, _], _ => rfl) p2_len fun f cdv A outer s H E hr => ⟨_, (pss_one (ps_ret (pe_op op_add (pe_op op_mul (pe_ix (show IxR _ (rIxT K) from ix_tup) (pv 0) pe_int (fun _ _ => rfl)) (pe_ix (show IxR _ (rIxT K) from ix_tup) (pv 1) pe_int (fun _ _ => rfl))) (pe_op op_mul (pe_ix (show IxR _ (rIxT K) from ix_tup) (pv 0) pe_int (fun _ _ => rfl)) (pe_ix (show IxR _ (rIxT K) from ix_tup) (pv 1) pe_int (fun _ _ => rfl)))))), fun B ds hp => ?_⟩
  obtain ⟨_, _, rfl, p, q, rfl, rfl, ⟨h1, h2, h3, h4⟩, ⟨h5, h6, h7, h8⟩⟩ := p2_ex hp
  show WS K B _ [.val (Dl.pairD p), .val (Dl.pairD q)] _
  try dsimp only [cxOf, Cx.nox, Cx.blk]
  repeat walk_at "dl"
  refine ix0 ?_
  repeat walk_at "dl"
  refine ix0 ?_
  refine ro_int (.inl ⟨by omega, by omega⟩) ?_
  repeat walk_at "dl"
  refine ix1 ?_
  repeat walk_at "dl"
  refine ix1 ?_
  refine ro_int (.inl ⟨by omega, by omega⟩) ?_
  repeat walk_at "dl"
  first | rfl | exact ⟨p, q, rfl, rfl⟩
/-- so many corners, none far away -/
def Few (n : Int) (ps : List Pr2) : Prop := 3 ≤ ps.length ∧ ps.length ≤ 7 ∧ ∀ p ∈ ps, Upto n p
def nll (a b : Pr2) (cs : List Pr2) : Bool := cs.all fun c => decide (trn a b c ≤ 0)
abbrev s_none_lies_left : Stmt := topS 37
abbrev N_none_lies_left : List Str := ["start", "stop", "corners", "corner"]
theorem sc_none_lies_left : FnScope N_none_lies_left ["start", "stop", "corners"] (defScope s_none_lies_left) := ⟨rfl, rfl, rfl, by decide +kernel, rfl, by decide +kernel, by decide +kernel⟩
abbrev ClNl (P : Program) (w : World) (K : PySem.W.Frag) (mg : Str → Option Value) (base : Heap) (k : Nat) := Cl P w K mg base k "none_lies_left" s_none_lies_left ["start", "stop", "corners"] (SpD K (p3 fun x y z => ∃ (a b : Pr2) (cs : List Pr2), x = Dl.pairD a ∧ y = Dl.pairD b ∧ z = .tup (cs.map Dl.pairD) ∧ Upto 10000000 a ∧ Upto 10000000 b ∧ Few 10000000 cs) fun ds r => ∃ (a b : Pr2) (cs : List Pr2), ds = [Dl.pairD a, Dl.pairD b, .tup (cs.map Dl.pairD)] ∧ r = .bl (nll a b cs))
theorem ok_none_lies_left {k : Nat} (G : Gn mg) (F : Df K mg "none_lies_left" s_none_lies_left) (C_bend : ClBn P w K mg base k) : ClNl P w K mg base (k + 1) := by
  refine cl_of F sc_none_lies_left (fun _ _ _ _ _ _ us hl => match us, hl with | [_, _, _], _ => rfl) p3_len fun f cdv A outer s H E hr => ⟨_, (pss_one (ps_ret (pe_callB (cr_all rfl) (by rfl) G.g_all (by decide +kernel) (pa_cons (pe_lc (own := [("corner", 3)]) (g := gName 3) (tt := tYes) rfl sc_none_lies_left.nd (pi_tup (pv 2)) (blkOk_by (N := N_none_lies_left) (sc := defScope s_none_lies_left) (by decide +kernel)) (fun _ _ _ _ _ => pg_name (i := 3) sc_none_lies_left.nd rfl (Or.inl rfl)) (fun _ _ _ _ _ => pts_nil) (fun _ _ _ _ _ => (pe_cmpR op_le (pe_c C_bend hr (by omega) (by rfl) (pa_cons (pv 0) (pa_cons (pv 1) (pa_cons (pv 3) pa_nil)))) pe_int (nomark _)))) pa_nil)))), fun B ds hp => ?_⟩
  obtain ⟨_, _, _, rfl, a, b, cs, rfl, rfl, rfl, ha, hb, h3, h7, hc⟩ := p3_ex hp
  show WS K B _ [.val (Dl.pairD a), .val (Dl.pairD b), .val (.tup (cs.map Dl.pairD)), .no] _
  try dsimp only [cxOf, Cx.nox, Cx.blk]
  refine ws_ret (we_cb (wa_cons (we_lcQ (ps := cs) (fun c => .bl (decide (trn a b c ≤ 0))) (by omega) (wi_tup (we_var rfl ⟨_, rfl, rfl⟩)) (fun c hm => ?_) ?_)))
  · try dsimp only [List.set]
    refine we_op (we_call (wa_cons (we_var rfl (wa_cons (we_var rfl (wa_cons (we_var rfl (wa_nil ⟨⟨a, b, c, rfl, rfl, rfl, ha, hb, hc c hm⟩, ?_⟩))))))))
    rintro _ ⟨a', b', x', e, rfl⟩
    have e1 := pairD_inj (List.cons.inj e).1
    have e2 := pairD_inj (List.cons.inj (List.cons.inj e).2).1
    have e3 := pairD_inj (List.cons.inj (List.cons.inj (List.cons.inj e).2).2).1
    subst e1 e2 e3
    exact we_int (ro_bl0 rfl)
  · rw [show cs.map (fun c => D.bl (decide (trn a b c ≤ 0))) = (cs.map fun c => decide (trn a b c ≤ 0)).map D.bl by rw [List.map_map]; rfl]
    refine wa_nil (rc_all ⟨a, b, cs, rfl, ?_⟩)
    unfold nll
    rw [List.all_map]
    rfl
def hde (ps qs : List Pr2) : Bool := (edg ps).any fun e => nll e.1 e.2 qs
abbrev twoPre (n : Int) : List D → Prop := p2 fun x y => ∃ ps qs : List Pr2, x = .tup (ps.map Dl.pairD) ∧ y = .tup (qs.map Dl.pairD) ∧ Few n ps ∧ Few n qs
theorem prs_inj {ps qs : List Pr2} (h : ps.map Dl.pairD = qs.map Dl.pairD) : ps = qs := (List.map_inj_right fun _ _ h => pairD_inj h).mp h
abbrev s_has_dividing_edge : Stmt := topS 36
abbrev N_has_dividing_edge : List Str := ["part", "other", "start", "stop"]
theorem sc_has_dividing_edge : FnScope N_has_dividing_edge ["part", "other"] (defScope s_has_dividing_edge) := ⟨rfl, rfl, rfl, by decide +kernel, rfl, by decide +kernel, by decide +kernel⟩
abbrev ClHd (P : Program) (w : World) (K : PySem.W.Frag) (mg : Str → Option Value) (base : Heap) (k : Nat) := Cl P w K mg base k "has_dividing_edge" s_has_dividing_edge ["part", "other"] (SpD K (twoPre 10000000) fun ds r => ∃ ps qs : List Pr2, ds = [.tup (ps.map Dl.pairD), .tup (qs.map Dl.pairD)] ∧ r = .bl (hde ps qs))
theorem ok_has_dividing_edge {k : Nat} (G : Gn mg) (F : Df K mg "has_dividing_edge" s_has_dividing_edge) (C_edges : ClEd P w K mg base k) (C_none_lies_left : ClNl P w K mg base k) : ClHd P w K mg base (k + 1) := by
  refine cl_of F sc_has_dividing_edge (fun _ _ _ _ _ _ us hl => match us, hl with | [_, _], _ => rfl) p2_len fun f cdv A outer s H E hr => ⟨_, (pss_one (ps_ret (pe_callB (cr_any rfl) (by rfl) G.g_any (by decide +kernel) (pa_cons (pe_lc (own := [("start", 2), ("stop", 3)]) (g := (gTup K 2 (gCons (gName 2) (gCons (gName 3) gNil)))) (tt := tYes) rfl sc_has_dividing_edge.nd (pi_list (pe_c C_edges hr (by omega) (by rfl) (pa_cons (pv 0) pa_nil))) (blkOk_by (N := N_has_dividing_edge) (sc := defScope s_has_dividing_edge) (by decide +kernel)) (fun _ _ _ _ _ => show PG _ _ (gTup K 2 (gCons (gName 2) (gCons (gName 3) gNil))) from pg_tup rfl (pgs_cons (pg_name (i := 2) sc_has_dividing_edge.nd rfl (Or.inl rfl)) (pgs_cons (pg_name (i := 3) sc_has_dividing_edge.nd rfl (Or.inl rfl)) pgs_nil))) (fun _ _ _ _ _ => pts_nil) (fun _ _ _ _ _ => (pe_c C_none_lies_left hr (by omega) (by rfl) (pa_cons (pv 2) (pa_cons (pv 3) (pa_cons (pv 1) pa_nil)))))) pa_nil)))), fun B ds hp => ?_⟩
  obtain ⟨_, _, rfl, ps, qs, rfl, rfl, hps, hqs⟩ := p2_ex hp
  show WS K B _ [.val (.tup (ps.map Dl.pairD)), .val (.tup (qs.map Dl.pairD)), .no, .no] _
  try dsimp only [cxOf, Cx.nox, Cx.blk]
  have hl := hps.2.1
  refine ws_ret (we_cb (wa_cons (we_lcPQ (by decide) (es := edg ps) (fun e => .bl (nll e.1 e.2 qs)) (by rw [edg_len]; omega) (wi_list (we_call (wa_cons (we_var rfl (wa_nil ⟨⟨ps, rfl, by omega⟩, ?_⟩))))) (fun e hm => ?_) ?_)))
  · rintro _ ⟨ps', e, rfl⟩
    have e1 := prs_inj (D.tup.inj (List.cons.inj e).1)
    subst e1
    exact ⟨_, rfl, rfl⟩
  · have hm' := edg_mem hm
    try dsimp only [List.set]
    refine we_call (wa_cons (we_var rfl (wa_cons (we_var rfl (wa_cons (we_var rfl (wa_nil ⟨⟨e.1, e.2, qs, rfl, rfl, rfl, hps.2.2 _ hm'.1, hps.2.2 _ hm'.2, hqs⟩, ?_⟩)))))))
    rintro _ ⟨a', b', x', e', rfl⟩
    have e1 := pairD_inj (List.cons.inj e').1
    have e2 := pairD_inj (List.cons.inj (List.cons.inj e').2).1
    have e3 := prs_inj (D.tup.inj (List.cons.inj (List.cons.inj (List.cons.inj e').2).2).1)
    rw [e1, e2, e3]
  · rw [show (edg ps).map (fun e => D.bl (nll e.1 e.2 qs)) = ((edg ps).map fun e => nll e.1 e.2 qs).map D.bl by rw [List.map_map]; rfl]
    refine wa_nil (rc_any ⟨ps, qs, rfl, ?_⟩)
    unfold hde
    rw [List.any_map]
    rfl
abbrev s_overlap : Stmt := topS 35
abbrev N_overlap : List Str := ["part", "other"]
theorem sc_overlap : FnScope N_overlap ["part", "other"] (defScope s_overlap) := ⟨rfl, rfl, rfl, by decide +kernel, rfl, by decide +kernel, by decide +kernel⟩
abbrev ClOv (P : Program) (w : World) (K : PySem.W.Frag) (mg : Str → Option Value) (base : Heap) (k : Nat) := Cl P w K mg base k "overlap" s_overlap ["part", "other"] (SpD K (twoPre 10000000) fun ds r => ∃ ps qs : List Pr2, ds = [.tup (ps.map Dl.pairD), .tup (qs.map Dl.pairD)] ∧ r = .bl (!hde ps qs && !hde qs ps))
theorem ok_overlap {k : Nat} (G : Gn mg) (F : Df K mg "overlap" s_overlap) (C_has_dividing_edge : ClHd P w K mg base k) : ClOv P w K mg base (k + 1) := by
  refine cl_of F sc_overlap (fun _ _ _ _ _ _ us hl => match us, hl with | [_, _], _ => rfl) p2_len fun f cdv A outer s H E hr => ⟨_, (pss_one (ps_ret (pe_and (pe_not (pe_c C_has_dividing_edge hr (by omega) (by rfl) (pa_cons (pv 0) (pa_cons (pv 1) pa_nil)))) (pe_one (pe_not (pe_c C_has_dividing_edge hr (by omega) (by rfl) (pa_cons (pv 1) (pa_cons (pv 0) pa_nil)))))))), fun B ds hp => ?_⟩
  obtain ⟨_, _, rfl, ps, qs, rfl, rfl, hps, hqs⟩ := p2_ex hp
  show WS K B _ [.val (.tup (ps.map Dl.pairD)), .val (.tup (qs.map Dl.pairD))] _
  try dsimp only [cxOf, Cx.nox, Cx.blk]
  repeat walk_at "dl"
  refine ⟨⟨ps, qs, rfl, rfl, hps, hqs⟩, ?_⟩
  rintro _ ⟨ps', qs', e, rfl⟩
  have e1 := prs_inj (D.tup.inj (List.cons.inj e).1)
  have e2 := prs_inj (D.tup.inj (List.cons.inj (List.cons.inj e).2).1)
  subst e1 e2
  refine ⟨_, rfl, _, rfl, ?_⟩
  refine ite2 (fun h => ?_) (fun h => ?_)
  · repeat walk_at "dl"
    refine ⟨⟨qs, ps, rfl, rfl, hqs, hps⟩, ?_⟩
    rintro _ ⟨ps', qs', e, rfl⟩
    have e1 := prs_inj (D.tup.inj (List.cons.inj e).1)
    have e2 := prs_inj (D.tup.inj (List.cons.inj (List.cons.inj e).2).1)
    subst e1 e2
    refine ⟨_, rfl, ps, qs, rfl, ?_⟩
    rw [h]; rfl
  · refine ⟨ps, qs, rfl, ?_⟩
    have h' : (!hde ps qs) = false := by simpa using h
    rw [h']; rfl

/-! ### xd1 -/
/-! ### stretches -/
/-- the stretches that two edges in one line share, as the program reckons it -/
def shB (e b : Pr2 × Pr2) : Bool :=
  if trn e.1 e.2 b.1 ≠ 0 ∨ trn e.1 e.2 b.2 ≠ 0 then false
  else decide (max 0 (min (dotP (mns e.2 e.1) (mns b.1 e.1)) (dotP (mns e.2 e.1) (mns b.2 e.1))) < min (dotP (mns e.2 e.1) (mns e.2 e.1)) (max (dotP (mns e.2 e.1) (mns b.1 e.1)) (dotP (mns e.2 e.1) (mns b.2 e.1))))
theorem edgD_inj {e b : Pr2 × Pr2} (h : edgD e = edgD b) : e = b := by
  have h1 := D.tup.inj h
  exact Prod.ext (pairD_inj (List.cons.inj h1).1) (pairD_inj (List.cons.inj (List.cons.inj h1).2).1)
theorem dot_b {n m : Int} {p q : Pr2} (h : Upto n p) (h' : Upto m q) (hn : 0 ≤ n) (hm : 0 ≤ m) : True := trivial
abbrev s_share_stretch : Stmt := topS 39
abbrev N_share_stretch : List Str := ["edge", "beside", "along", "ends", "start", "stop"]
theorem sc_share_stretch : FnScope N_share_stretch ["edge", "beside"] (defScope s_share_stretch) := ⟨rfl, rfl, rfl, by decide +kernel, rfl, by decide +kernel, by decide +kernel⟩
abbrev ClSs (P : Program) (w : World) (K : PySem.W.Frag) (mg : Str → Option Value) (base : Heap) (k : Nat) := Cl P w K mg base k "share_stretch" s_share_stretch ["edge", "beside"] (SpD K (p2 fun x y => ∃ e b : Pr2 × Pr2, x = edgD e ∧ y = edgD b ∧ Upto 10000000 e.1 ∧ Upto 10000000 e.2 ∧ Upto 10000000 b.1 ∧ Upto 10000000 b.2) fun ds r => ∃ e b : Pr2 × Pr2, ds = [edgD e, edgD b] ∧ r = .bl (shB e b))
theorem ok_share_stretch {k : Nat} (G : Gn mg) (F : Df K mg "share_stretch" s_share_stretch) (C_bend : ClBn P w K mg base k) (C_minus : ClMi P w K mg base k) (C_dot : ClDo P w K mg base k) : ClSs P w K mg base (k + 1) := by
  refine cl_of F sc_share_stretch (fun _ _ _ _ _ _ us hl => match us, hl with | [_, _], _ => rfl) p2_len fun f cdv A outer s H E hr => ⟨_, (pss_cons (ps_asg (pv 0) (show PG _ _ (gTup K 2 (gCons (gName 4) (gCons (gName 5) gNil))) from pg_tup rfl (pgs_cons (pg_name (i := 4) sc_share_stretch.nd rfl (Or.inl rfl)) (pgs_cons (pg_name (i := 5) sc_share_stretch.nd rfl (Or.inl rfl)) pgs_nil))))
      (pss_cons (ps_if (PW.pt (pw_or (pt_cmpR op_ne (pe_c C_bend hr (by omega) (by rfl) (pa_cons (pv 4) (pa_cons (pv 5) (pa_cons (pe_ix (show IxR _ (rIxT K) from ix_tup) (pv 1) pe_int (fun _ _ => rfl)) pa_nil)))) pe_int (nomark _)) (pw_or1 (pt_cmpR op_ne (pe_c C_bend hr (by omega) (by rfl) (pa_cons (pv 4) (pa_cons (pv 5) (pa_cons (pe_ix (show IxR _ (rIxT K) from ix_tup) (pv 1) pe_int (fun _ _ => rfl)) pa_nil)))) pe_int (nomark _))))) (pss_one (ps_ret pe_bl)) pss_nil)
      (pss_cons (ps_set (i := 2) sc_share_stretch.nd rfl (Or.inl rfl) (pe_c C_minus hr (by omega) (by rfl) (pa_cons (pv 5) (pa_cons (pv 4) pa_nil))))
      (pss_cons (ps_set (i := 3) sc_share_stretch.nd rfl (Or.inl rfl) (pe_lst (pa_cons (pe_c C_dot hr (by omega) (by rfl) (pa_cons (pv 2) (pa_cons (pe_c C_minus hr (by omega) (by rfl) (pa_cons (pe_ix (show IxR _ (rIxT K) from ix_tup) (pv 1) pe_int (fun _ _ => rfl)) (pa_cons (pv 4) pa_nil))) pa_nil))) (pa_cons (pe_c C_dot hr (by omega) (by rfl) (pa_cons (pv 2) (pa_cons (pe_c C_minus hr (by omega) (by rfl) (pa_cons (pe_ix (show IxR _ (rIxT K) from ix_tup) (pv 1) pe_int (fun _ _ => rfl)) (pa_cons (pv 4) pa_nil))) pa_nil))) pa_nil))))
      (pss_one (ps_ret (pe_cmpR op_gt (pe_callB (show CallR _ (.builtin "min") (fun xs H Q => ∃ i j, xs = [.int i, .int j] ∧ Q (.int (if j < i then j else i)) H) from call_min2 rfl) (by rfl) G.g_min (by decide +kernel) (pa_cons (pe_c C_dot hr (by omega) (by rfl) (pa_cons (pv 2) (pa_cons (pv 2) pa_nil))) (pa_cons (pe_callB (show CallR _ (.builtin "max") (rMax K) from cr_max rfl) (by rfl) G.g_max (by decide +kernel) (pa_cons (pv 3) pa_nil)) pa_nil))) (pe_callB (show CallR _ (.builtin "max") (fun xs H Q => ∃ i j, xs = [.int i, .int j] ∧ Q (.int (if j > i then j else i)) H) from call_max2 rfl) (by rfl) G.g_max (by decide +kernel) (pa_cons pe_int (pa_cons (pe_callB (show CallR _ (.builtin "min") (rMin K) from cr_min rfl) (by rfl) G.g_min (by decide +kernel) (pa_cons (pv 3) pa_nil)) pa_nil))) (nomark _)))))))), fun B ds hp => ?_⟩
  obtain ⟨_, _, rfl, ⟨a, b⟩, ⟨c, d⟩, rfl, rfl, ha, hb, hc, hd⟩ := p2_ex hp
  show WS K B _ [.val (edgD (a, b)), .val (edgD (c, d)), .no, .no, .no, .no] _
  try dsimp only [cxOf, Cx.nox, Cx.blk]
  have fin : ∀ v : Bool, shB (a, b) (c, d) = v → ∃ e b' : Pr2 × Pr2, [edgD (a, b), edgD (c, d)] = [edgD e, edgD b'] ∧ D.bl v = .bl (shB e b') := fun v e => ⟨(a, b), (c, d), rfl, by rw [e]⟩
  have bn : ∀ {Q : D → Prop} (x y z : Pr2), Q (.int (trn x y z)) → ∀ r, (∃ p q z' : Pr2, [Dl.pairD x, Dl.pairD y, Dl.pairD z] = [Dl.pairD p, Dl.pairD q, Dl.pairD z'] ∧ r = .int (trn p q z')) → Q r := by
    rintro Q x y z h r ⟨p, q, z', e, rfl⟩
    have e1 := pairD_inj (List.cons.inj e).1
    have e2 := pairD_inj (List.cons.inj (List.cons.inj e).2).1
    have e3 := pairD_inj (List.cons.inj (List.cons.inj (List.cons.inj e).2).2).1
    rw [← e1, ← e2, ← e3]; exact h
  have mn : ∀ {Q : D → Prop} (x y : Pr2), Q (Dl.pairD (mns x y)) → ∀ r, (∃ p q : Pr2, [Dl.pairD x, Dl.pairD y] = [Dl.pairD p, Dl.pairD q] ∧ r = Dl.pairD (mns p q)) → Q r := by
    rintro Q x y h r ⟨p, q, e, rfl⟩
    have e1 := pairD_inj (List.cons.inj e).1
    have e2 := pairD_inj (List.cons.inj (List.cons.inj e).2).1
    rw [← e1, ← e2]; exact h
  have dt : ∀ {Q : D → Prop} (x y : Pr2), Q (.int (dotP x y)) → ∀ r, (∃ p q : Pr2, [Dl.pairD x, Dl.pairD y] = [Dl.pairD p, Dl.pairD q] ∧ r = .int (dotP p q)) → Q r := by
    rintro Q x y h r ⟨p, q, e, rfl⟩
    have e1 := pairD_inj (List.cons.inj e).1
    have e2 := pairD_inj (List.cons.inj (List.cons.inj e).2).1
    rw [← e1, ← e2]; exact h
  refine ws_seq (ws_unt2 (we_var rfl ⟨_, _, rfl, ?_⟩))
  try dsimp only [List.set]
  refine ws_seq (ws_if (wt_or (wt_test (we_op (we_call (wa_cons (we_var rfl (wa_cons (we_var rfl (wa_cons (we_op (we_var rfl (we_int (ro_ixT (d := Dl.pairD c) rfl (wa_nil ⟨⟨a, b, c, rfl, rfl, rfl, ha, hb, hc⟩, bn a b c ?_⟩)))))))))))))))
  refine we_int (ro_neI ⟨_, rfl, ?_⟩)
  by_cases h1 : trn a b c = 0
  · rw [decide_eq_true h1]
    refine iteF (wt_test (we_op (we_call (wa_cons (we_var rfl (wa_cons (we_var rfl (wa_cons (we_op (we_var rfl (we_int (ro_ixT (d := Dl.pairD d) rfl (wa_nil ⟨⟨a, b, d, rfl, rfl, rfl, ha, hb, hd⟩, bn a b d ?_⟩)))))))))))))
    refine we_int (ro_neI ⟨_, rfl, ?_⟩)
    by_cases h2 : trn a b d = 0
    · rw [decide_eq_true h2]
      refine iteF (ws_next ?_)
      have ub : Upto 20000000 (mns b a) := upto_mns hb ha
      have uc : Upto 20000000 (mns c a) := upto_mns hc ha
      have ud : Upto 20000000 (mns d a) := upto_mns hd ha
      refine ws_seq (ws_set (we_call (wa_cons (we_var rfl (wa_cons (we_var rfl (wa_nil ⟨⟨b, a, rfl, rfl⟩, mn b a ?_⟩)))))))
      try dsimp only [List.set]
      refine ws_seq (ws_set (we_lst (wa_cons (we_call (wa_cons (we_var rfl (wa_cons (we_call (wa_cons (we_op (we_var rfl (we_int (ro_ixT (d := Dl.pairD c) rfl (wa_cons (we_var rfl (wa_nil ⟨⟨c, a, rfl, rfl⟩, mn c a ?_⟩))))))))))))))))
      refine wa_nil ⟨⟨mns b a, mns c a, rfl, rfl, upto_le ub (by decide), upto_le uc (by decide)⟩, dt _ _ ?_⟩
      refine wa_cons (we_call (wa_cons (we_var rfl (wa_cons (we_call (wa_cons (we_op (we_var rfl (we_int (ro_ixT (d := Dl.pairD d) rfl (wa_cons (we_var rfl (wa_nil ⟨⟨d, a, rfl, rfl⟩, mn d a ?_⟩)))))))))))))
      refine wa_nil ⟨⟨mns b a, mns d a, rfl, rfl, upto_le ub (by decide), upto_le ud (by decide)⟩, dt _ _ (wa_nil ⟨by show 2 ≤ 1000; decide, ?_⟩)⟩
      try dsimp only [List.set]
      refine ws_ret (we_op (we_cb (wa_cons (we_call (wa_cons (we_var rfl (wa_cons (we_var rfl (wa_nil ⟨⟨mns b a, mns b a, rfl, rfl, upto_le ub (by decide), upto_le ub (by decide)⟩, dt _ _ ?_⟩)))))))))
      refine wa_cons (we_cb (wa_cons (we_var rfl (wa_nil (rc_max (ns := [dotP (mns b a) (mns c a), dotP (mns b a) (mns d a)]) (by show 0 < 2; decide) fun mx hx hxl => wa_nil (rc_min2 ?_))))))
      refine we_cb (wa_cons (we_int (wa_cons (we_cb (wa_cons (we_var rfl (wa_nil (rc_min (ns := [dotP (mns b a) (mns c a), dotP (mns b a) (mns d a)]) (by show 0 < 2; decide) fun mi hi hil => wa_nil (rc_max2 ?_)))))))))
      refine ro_bl0 (fin _ ?_)
      have hx1 := hxl _ List.mem_cons_self
      have hx2 := hxl _ (List.mem_cons_of_mem _ List.mem_cons_self)
      have hi1 := hil _ List.mem_cons_self
      have hi2 := hil _ (List.mem_cons_of_mem _ List.mem_cons_self)
      simp only [List.mem_cons, List.not_mem_nil, or_false] at hx hi
      unfold shB
      rw [if_neg (by simp [h1, h2])]
      dsimp only
      rw [Bool.eq_iff_iff, decide_eq_true_eq, decide_eq_true_eq]
      generalize dotP (mns b a) (mns c a) = s at *
      generalize dotP (mns b a) (mns d a) = t at *
      generalize dotP (mns b a) (mns b a) = u at *
      split <;> split <;> omega
    · rw [decide_eq_false h2]
      refine iteT (ws_ret (we_bl (fin _ ?_)))
      unfold shB
      rw [if_pos (.inr h2)]
  · rw [decide_eq_false h1]
    refine iteT (ws_ret (we_bl (fin _ ?_)))
    unfold shB
    rw [if_pos (.inl h1)]

/-! ### xd2 -/
/-! ### joined, and the law's own way -/
def ovB (ps qs : List Pr2) : Bool := !hde ps qs && !hde qs ps
def joB (ps qs : List Pr2) : Bool := !ovB ps qs && (edg ps).any fun e => (edg qs).any fun b => shB e b
def unE : D → Pr2 × Pr2
  | .tup [x, y] => (unD x, unD y)
  | _ => ((0, 0), (0, 0))
theorem unE_edg (e : Pr2 × Pr2) : unE (edgD e) = e := rfl
theorem few_edg {n : Int} {ps : List Pr2} (h : Few n ps) {e : Pr2 × Pr2} (he : e ∈ edg ps) : Upto n e.1 ∧ Upto n e.2 := ⟨h.2.2 _ (edg_mem he).1, h.2.2 _ (edg_mem he).2⟩
abbrev s_joined : Stmt := topS 38
abbrev N_joined : List Str := ["part", "other", "edge", "beside"]
theorem sc_joined : FnScope N_joined ["part", "other"] (defScope s_joined) := ⟨rfl, rfl, rfl, by decide +kernel, rfl, by decide +kernel, by decide +kernel⟩
abbrev ClJo (P : Program) (w : World) (K : PySem.W.Frag) (mg : Str → Option Value) (base : Heap) (k : Nat) := Cl P w K mg base k "joined" s_joined ["part", "other"] (SpD K (twoPre 10000000) fun ds r => ∃ ps qs : List Pr2, ds = [.tup (ps.map Dl.pairD), .tup (qs.map Dl.pairD)] ∧ r = .bl (joB ps qs))
theorem ok_joined {k : Nat} (G : Gn mg) (F : Df K mg "joined" s_joined) (C_overlap : ClOv P w K mg base k) (C_edges : ClEd P w K mg base k) (C_share_stretch : ClSs P w K mg base k) : ClJo P w K mg base (k + 1) := by
  refine cl_of F sc_joined (fun _ _ _ _ _ _ us hl => match us, hl with | [_, _], _ => rfl) p2_len fun f cdv A outer s H E hr => ⟨_, (pss_cons (ps_if (pt_val (pe_c C_overlap hr (by omega) (by rfl) (pa_cons (pv 0) (pa_cons (pv 1) pa_nil)))) (pss_one (ps_ret pe_bl)) pss_nil)
      (pss_one (ps_ret (pe_callB (cr_any rfl) (by rfl) G.g_any (by decide +kernel) (pa_cons (pe_lc2 (own := [("edge", 2), ("beside", 3)]) (vs1 := [3]) (g := gName 2) (g1 := gName 3) (tt := tYes) (tt1 := tYes) rfl sc_joined.nd (pi_list (pe_c C_edges hr (by omega) (by rfl) (pa_cons (pv 0) pa_nil))) (blkOk_by (N := N_joined) (sc := defScope s_joined) (by decide +kernel)) (by decide) (fun _ _ _ _ _ => pg_name (i := 2) sc_joined.nd rfl (Or.inl rfl)) (fun _ _ _ _ _ => pts_nil) (fun _ _ _ _ _ => (show PI _ _ _ (iList K _) from (pi_list (pe_c C_edges hr (by omega) (by rfl) (pa_cons (pv 1) pa_nil))))) (fun _ _ _ _ _ => pg_name (i := 3) sc_joined.nd rfl (Or.inl rfl)) (fun _ _ _ _ _ => pts_nil) (fun _ _ _ _ _ => (pe_c C_share_stretch hr (by omega) (by rfl) (pa_cons (pv 2) (pa_cons (pv 3) pa_nil))))) pa_nil))))), fun B ds hp => ?_⟩
  obtain ⟨_, _, rfl, ps, qs, rfl, rfl, hps, hqs⟩ := p2_ex hp
  show WS K B _ [.val (.tup (ps.map Dl.pairD)), .val (.tup (qs.map Dl.pairD)), .no, .no] _
  try dsimp only [cxOf, Cx.nox, Cx.blk]
  refine ws_seq (ws_if (wt_B (we_call (wa_cons (we_var rfl (wa_cons (we_var rfl (wa_nil ⟨⟨ps, qs, rfl, rfl, hps, hqs⟩, ?_⟩))))))))
  rintro _ ⟨ps', qs', e, rfl⟩
  have e1 := prs_inj (D.tup.inj (List.cons.inj e).1)
  have e2 := prs_inj (D.tup.inj (List.cons.inj (List.cons.inj e).2).1)
  rw [← e1, ← e2]
  clear e1 e2 e
  refine ⟨ovB ps qs, rfl, ?_⟩
  refine ite2 (fun h => ?_) (fun h => ?_)
  · refine ws_ret (we_bl ⟨ps, qs, rfl, ?_⟩)
    unfold joB
    rw [h]; rfl
  refine ws_next ?_
  have h' : ovB ps qs = false := by simpa using h
  have l1 := hps.2.1
  have l2 := hqs.2.1
  have ed : ∀ {B : Bt} {X : Xc} {δ : List Sd} {i : Nat} {ts : List Pr2} {Q : D → Prop}, δ[i]? = some (.val (.tup (ts.map Dl.pairD))) → ts.length ≤ 7 → Q (.lst ((edg ts).map edgD)) → WEx K B X (tCall (SpD K (polyPre 100) fun ds r => ∃ ps : List Pr2, ds = [.tup (ps.map Dl.pairD)] ∧ r = .lst ((edg ps).map edgD)) [] E0 (tCons (tVar i) tNil)) δ Q := by
    intro B X δ i ts Q hi hl hq
    refine we_call (wa_cons (we_var hi (wa_nil ⟨⟨ts, rfl, by omega⟩, ?_⟩)))
    rintro _ ⟨ts', e, rfl⟩
    have e1 := prs_inj (D.tup.inj (List.cons.inj e).1)
    rw [← e1]; exact hq
  refine ws_ret (we_cb (wa_cons (we_lc2 (by decide) (its := (edg ps).map edgD) (its1 := (edg qs).map edgD) (fun d1 d2 => .bl (shB (unE d1) (unE d2))) ?_ (wi_list (ed rfl l1 ⟨_, rfl, rfl⟩)) (fun d1 _ => wi_list (ed rfl l2 ⟨_, rfl, rfl⟩)) (fun d1 h1 d2 h2 => ?_) ?_)))
  · rw [List.length_map, List.length_map, edg_len, edg_len]
    have := Nat.mul_le_mul l1 l2
    omega
  · obtain ⟨e, he, rfl⟩ := List.mem_map.mp h1
    obtain ⟨b, hb, rfl⟩ := List.mem_map.mp h2
    obtain ⟨u1, u2⟩ := few_edg hps he
    obtain ⟨u3, u4⟩ := few_edg hqs hb
    try dsimp only [List.set]
    refine we_call (wa_cons (we_var rfl (wa_cons (we_var rfl (wa_nil ⟨⟨e, b, rfl, rfl, u1, u2, u3, u4⟩, ?_⟩)))))
    rintro _ ⟨e', b', ee, rfl⟩
    have e1 := edgD_inj (List.cons.inj ee).1
    have e2 := edgD_inj (List.cons.inj (List.cons.inj ee).2).1
    rw [unE_edg, unE_edg, e1, e2]
  · have e0 : (((edg ps).map edgD).flatMap fun d1 => ((edg qs).map edgD).map fun d2 => D.bl (shB (unE d1) (unE d2))) = ((edg ps).flatMap fun e => (edg qs).map fun b => shB e b).map D.bl := by
      rw [List.flatMap_map, List.map_flatMap]
      congr 1
      funext e
      rw [List.map_map, List.map_map]
      rfl
    rw [e0]
    refine wa_nil (rc_any ⟨ps, qs, rfl, ?_⟩)
    unfold joB
    rw [h', List.any_flatMap]
    show D.bl _ = D.bl (true && _)
    rw [Bool.true_and]
    congr 2
    funext e
    rw [List.any_map]
    rfl
def lsB (a b c d : Pr2) : Bool :=
  if trn a b c ≠ 0 ∨ trn a b d ≠ 0 then false
  else decide (min (dotP (mns c a) (mns b a)) (dotP (mns d a) (mns b a)) < dotP (mns b a) (mns b a)) && decide (0 < max (dotP (mns c a) (mns b a)) (dotP (mns d a) (mns b a)))

end
/-! #### Fm -/
/-! ### rotations -/
theorem rotn_at {ps : List Pr2} {k i : Nat} (hk : k ≤ ps.length) (hi : i < ps.length) : (rotn ps k)[i]? = ps[(i + k) % ps.length]? := by
  unfold rotn
  by_cases h : i + k < ps.length
  · rw [Nat.mod_eq_of_lt h, List.getElem?_append_left (by rw [List.length_drop]; omega), List.getElem?_drop, Nat.add_comm]
  · have e : (i + k) % ps.length = i + k - ps.length := by rw [Nat.mod_eq_sub_mod (by omega), Nat.mod_eq_of_lt (by omega)]
    rw [e, List.getElem?_append_right (by rw [List.length_drop]; omega), List.length_drop, List.getElem?_take, if_pos (by omega)]
    congr 1
    omega
theorem rotn_back {ps : List Pr2} {k : Nat} (hk : k ≤ ps.length) : rotn (rotn ps k) (ps.length - k) = ps := by
  unfold rotn
  have e : (ps.drop k).length = ps.length - k := List.length_drop ..
  rw [List.drop_left' e, List.take_left' e, List.take_append_drop]
theorem mem_edg {ps : List Pr2} {e : Pr2 × Pr2} : e ∈ edg ps ↔ ∃ k, k < ps.length ∧ ps[k]? = some e.1 ∧ ps[(k + 1) % ps.length]? = some e.2 := by
  unfold edg
  rw [List.mem_map]
  constructor
  · rintro ⟨k, hk, rfl⟩
    have hk := List.mem_range.mp hk
    have hm : (k + 1) % ps.length < ps.length := Nat.mod_lt _ (by omega)
    refine ⟨k, hk, ?_, ?_⟩
    · show _ = some (ps.getD k (0, 0))
      rw [List.getD_eq_getElem?_getD, List.getElem?_eq_getElem hk]; rfl
    · show _ = some (ps.getD ((k + 1) % ps.length) (0, 0))
      rw [List.getD_eq_getElem?_getD, List.getElem?_eq_getElem hm]; rfl
  · rintro ⟨k, hk, h1, h2⟩
    refine ⟨k, List.mem_range.mpr hk, ?_⟩
    rw [List.getD_eq_getElem?_getD, List.getD_eq_getElem?_getD, h1, h2]
    rfl
theorem mem_edg_rot1 {ps : List Pr2} {k : Nat} (hk : k ≤ ps.length) {e : Pr2 × Pr2} (h : e ∈ edg (rotn ps k)) : e ∈ edg ps := by
  obtain ⟨i, hi, h1, h2⟩ := mem_edg.mp h
  rw [rotn_len] at hi h2
  have hm : (i + 1) % ps.length < ps.length := Nat.mod_lt _ (by omega)
  rw [rotn_at hk hi] at h1
  rw [rotn_at hk hm] at h2
  refine mem_edg.mpr ⟨(i + k) % ps.length, Nat.mod_lt _ (by omega), h1, ?_⟩
  rw [← h2]
  congr 1
  rw [Nat.mod_add_mod, Nat.mod_add_mod]
  congr 1
  omega
theorem mem_edg_rot {ps : List Pr2} {k : Nat} (hk : k ≤ ps.length) {e : Pr2 × Pr2} : e ∈ edg (rotn ps k) ↔ e ∈ edg ps := by
  refine ⟨mem_edg_rot1 hk, fun h => ?_⟩
  have := mem_edg_rot1 (ps := rotn ps k) (k := ps.length - k) (by rw [rotn_len]; omega) (e := e)
  rw [rotn_back hk] at this
  exact this h
theorem mem_rot {ps : List Pr2} {k : Nat} (hk : k ≤ ps.length) {p : Pr2} : p ∈ rotn ps k ↔ p ∈ ps := by
  refine ⟨rotn_mem, fun h => ?_⟩
  rw [← rotn_back hk] at h
  exact rotn_mem h
/-- the same part, but for where it begins -/
def Rot (ps qs : List Pr2) : Prop := ∃ k, k ≤ ps.length ∧ qs = rotn ps k
/-- the same edges and corners -/
structure Sam (ps qs : List Pr2) : Prop where
  e : ∀ e, e ∈ edg qs ↔ e ∈ edg ps
  c : ∀ p, p ∈ qs ↔ p ∈ ps
theorem Rot.sam {ps qs : List Pr2} (h : Rot ps qs) : Sam ps qs := by
  obtain ⟨k, hk, rfl⟩ := h
  exact ⟨fun e => mem_edg_rot hk, fun p => mem_rot hk⟩
theorem any_iff {α : Type} {xs ys : List α} (h : ∀ x, x ∈ ys ↔ x ∈ xs) (f : α → Bool) : ys.any f = xs.any f := by
  rw [Bool.eq_iff_iff, List.any_eq_true, List.any_eq_true]
  exact ⟨fun ⟨x, hx, z⟩ => ⟨x, (h x).mp hx, z⟩, fun ⟨x, hx, z⟩ => ⟨x, (h x).mpr hx, z⟩⟩
theorem all_iff {α : Type} {xs ys : List α} (h : ∀ x, x ∈ ys ↔ x ∈ xs) (f : α → Bool) : ys.all f = xs.all f := by
  rw [Bool.eq_iff_iff, List.all_eq_true, List.all_eq_true]
  exact ⟨fun z x hx => z x ((h x).mpr hx), fun z x hx => z x ((h x).mp hx)⟩
theorem Sam.hde {ps ps' qs qs' : List Pr2} (h : Sam ps ps') (h' : Sam qs qs') : hde ps' qs' = hde ps qs := by
  unfold K08.hde nll
  rw [any_iff h.e]
  congr 1
  funext e
  exact all_iff h'.c _
theorem Sam.ov {ps ps' qs qs' : List Pr2} (h : Sam ps ps') (h' : Sam qs qs') : ovB ps' qs' = ovB ps qs := by
  unfold ovB
  rw [h.hde h', h'.hde h]
theorem Sam.jo {ps ps' qs qs' : List Pr2} (h : Sam ps ps') (h' : Sam qs qs') : joB ps' qs' = joB ps qs := by
  unfold joB
  rw [h.ov h', any_iff h.e]
  congr 2
  funext e
  exact any_iff h'.e _
/-! ### bent to the left all around -/
structure Cvx (ps : List Pr2) : Prop where
  h3 : 3 ≤ ps.length
  h6 : ps.length ≤ 6
  nd : ps.Nodup
  lf : ∀ e ∈ edg ps, ∀ c ∈ ps, c = e.1 ∨ c = e.2 ∨ 0 < trn e.1 e.2 c
theorem trn_self1 (a b : Pr2) : trn a b a = 0 := by unfold trn crs mns; dsimp only; grind
theorem trn_self2 (a b : Pr2) : trn a b b = 0 := by unfold trn crs mns; dsimp only; grind
theorem trn_same (a c : Pr2) : trn a a c = 0 := by unfold trn crs mns; dsimp only; grind
theorem polyB_at {ps : List Pr2} (h : polyB ps = true) {k j : Nat} (hk : k < ps.length) (hj : j < ps.length) (h1 : j ≠ k) (h2 : j ≠ (k + 1) % ps.length) : 0 < trn (ps.getD k (0, 0)) (ps.getD ((k + 1) % ps.length) (0, 0)) (ps.getD j (0, 0)) := by
  have := List.all_eq_true.mp (List.all_eq_true.mp h k (List.mem_range.mpr hk)) j (List.mem_range.mpr hj)
  simpa [h1, h2] using this
theorem gD {ps : List Pr2} {k : Nat} (hk : k < ps.length) : ps.getD k (0, 0) = ps[k] := by
  rw [List.getD_eq_getElem?_getD, List.getElem?_eq_getElem hk]; rfl
theorem cvx_of {ps : List Pr2} (h3 : 3 ≤ ps.length) (h6 : ps.length ≤ 6) (h : polyB ps = true) : Cvx ps := by
  have key : ∀ i j : Nat, ∀ hi : i < ps.length, ∀ hj : j < ps.length, i ≠ j → ps[i] ≠ ps[j] := by
    intro i j hi hj hne e
    by_cases hs : j = (i + 1) % ps.length
    · -- the next one
      obtain ⟨l, hl, l1, l2⟩ : ∃ l, l < ps.length ∧ l ≠ i ∧ l ≠ j := by
        by_cases a : i ≠ 0 ∧ j ≠ 0
        · exact ⟨0, by omega, by omega, by omega⟩
        · by_cases b : i ≠ 1 ∧ j ≠ 1
          · exact ⟨1, by omega, by omega, by omega⟩
          · exact ⟨2, by omega, by omega, by omega⟩
      have := polyB_at h hi hl l1 (by rw [← hs]; exact l2)
      rw [← hs, gD hi, gD hj, ← e, trn_same] at this
      exact absurd this (by decide)
    · have := polyB_at h hi hj (Ne.symm hne) hs
      rw [gD hi, gD hj, ← e, trn_self1] at this
      exact absurd this (by decide)
  refine ⟨h3, h6, ?_, ?_⟩
  · exact List.pairwise_iff_getElem.mpr fun i j hi hj hij => key i j hi hj (by omega)
  · intro e he c hc
    obtain ⟨k, hk, h1, h2⟩ := mem_edg.mp he
    obtain ⟨j, hj, rfl⟩ := List.getElem_of_mem hc
    have hm : (k + 1) % ps.length < ps.length := Nat.mod_lt _ (by omega)
    rw [List.getElem?_eq_getElem hk] at h1
    rw [List.getElem?_eq_getElem hm] at h2
    rw [← Option.some.inj h1, ← Option.some.inj h2]
    by_cases a : j = k
    · exact .inl (by subst a; rfl)
    by_cases b : j = (k + 1) % ps.length
    · exact .inr (.inl (by subst b; rfl))
    have := polyB_at h hk hj a b
    rw [gD hk, gD hm, gD hj] at this
    exact .inr (.inr this)
theorem Cvx.poly {ps : List Pr2} (h : Cvx ps) : polyB ps = true := by
  have key : ∀ i j : Nat, ∀ hi : i < ps.length, ∀ hj : j < ps.length, ps[i] = ps[j] → i = j := fun i j hi hj e => (List.getElem_inj h.nd).mp e
  refine List.all_eq_true.mpr fun k hk => List.all_eq_true.mpr fun j hj => ?_
  have hk := List.mem_range.mp hk
  have hj := List.mem_range.mp hj
  have hm : (k + 1) % ps.length < ps.length := Nat.mod_lt _ (by omega)
  rw [gD hk, gD hm, gD hj]
  rcases h.lf (ps[k], ps[(k + 1) % ps.length]) (mem_edg.mpr ⟨k, hk, List.getElem?_eq_getElem hk, List.getElem?_eq_getElem hm⟩) ps[j] (List.getElem_mem hj) with e | e | e
  · have := key _ _ hj hk e
    simp [this]
  · have := key _ _ hj hm e
    simp [this]
  · simp [e]
theorem Cvx.rot {ps qs : List Pr2} (h : Cvx ps) (r : Rot ps qs) : Cvx qs := by
  have s := r.sam
  obtain ⟨k, hk, rfl⟩ := r
  refine ⟨by rw [rotn_len]; exact h.h3, by rw [rotn_len]; exact h.h6, ?_, fun e he c hc => h.lf e ((s.e e).mp he) c ((s.c c).mp hc)⟩
  unfold rotn
  refine (List.Perm.nodup_iff ?_).mpr h.nd
  exact List.perm_append_comm.trans (by rw [List.take_append_drop])
theorem Cvx.self_ov {ps : List Pr2} (h : Cvx ps) : ovB ps ps = true := by
  have : hde ps ps = false := by
    rw [Bool.eq_false_iff]
    intro z
    obtain ⟨e, he, hz⟩ := List.any_eq_true.mp z
    have hz := List.all_eq_true.mp hz
    obtain ⟨k, hk, h1, h2⟩ := mem_edg.mp he
    have h3 := h.h3
    have hm : (k + 1) % ps.length < ps.length := Nat.mod_lt _ (by omega)
    obtain ⟨l, hl, l1, l2⟩ : ∃ l, l < ps.length ∧ l ≠ k ∧ l ≠ (k + 1) % ps.length := by
      by_cases a : k ≠ 0 ∧ (k + 1) % ps.length ≠ 0
      · exact ⟨0, by omega, by omega, by omega⟩
      · by_cases b : k ≠ 1 ∧ (k + 1) % ps.length ≠ 1
        · exact ⟨1, by omega, by omega, by omega⟩
        · exact ⟨2, by omega, by omega, by omega⟩
    rw [List.getElem?_eq_getElem hk] at h1
    rw [List.getElem?_eq_getElem hm] at h2
    have hc := of_decide_eq_true (hz ps[l] (List.getElem_mem hl))
    rcases h.lf e he ps[l] (List.getElem_mem hl) with e' | e' | e'
    · rw [← Option.some.inj h1] at e'
      exact l1 ((List.getElem_inj h.nd).mp e')
    · rw [← Option.some.inj h2] at e'
      exact l2 ((List.getElem_inj h.nd).mp e')
    · omega
  unfold ovB
  rw [this]
  rfl
/-! #### Fn -/
/-! ### told from the least corner on -/
theorem lt_self (p : Pr2) : ltPr p p = false := by unfold ltPr; simp
theorem minPr_le : ∀ (ps : List Pr2) (p : Pr2), ∀ x ∈ p :: ps, ltPr x (minPr p ps) = false
  | [], p, x, hx => by rw [List.mem_singleton.mp hx]; exact lt_self p
  | q :: ps, p, x, hx => by
    have ih1 := minPr_le ps
    have e : minPr p (q :: ps) = minPr (if ltPr q p = true then q else p) ps := rfl
    rw [e]
    by_cases h : ltPr q p = true
    · rw [if_pos h]
      rcases List.mem_cons.mp hx with rfl | hx
      · have := ih1 q q List.mem_cons_self
        unfold ltPr at *
        simp only [decide_eq_true_eq, decide_eq_false_iff_not] at *
        omega
      · exact ih1 q x hx
    · rw [if_neg h]
      rcases List.mem_cons.mp hx with rfl | hx
      · exact ih1 _ _ List.mem_cons_self
      · rcases List.mem_cons.mp hx with rfl | hx
        · have := ih1 p p List.mem_cons_self
          unfold ltPr at *
          simp only [decide_eq_true_eq, decide_eq_false_iff_not] at *
          omega
        · exact ih1 p x (List.mem_cons_of_mem _ hx)
def Told (ps : List Pr2) : Prop := ∃ m b, ps = m :: b ∧ ∀ x ∈ b, ltPr m x = true
theorem told_of {a b : List Pr2} {m : Pr2} (h : ∀ x ∈ a ++ b, ltPr m x = true) : toldP (a ++ m :: b) = m :: (b ++ a) := by
  obtain ⟨p, qs, e⟩ : ∃ p qs, a ++ m :: b = p :: qs := by
    cases a with
    | nil => exact ⟨_, _, rfl⟩
    | cons x xs => exact ⟨_, _, rfl⟩
  have hm : m ∈ p :: qs := by rw [← e]; exact List.mem_append_right _ List.mem_cons_self
  have h1 := minPr_le qs p m hm
  have h2 : minPr p qs = m := by
    have := minPr_mem qs p
    rw [← e] at this
    rcases List.mem_append.mp this with z | z
    · have := h _ (List.mem_append_left _ z); rw [h1] at this; cases this
    · rcases List.mem_cons.mp z with z | z
      · exact z
      · have := h _ (List.mem_append_right _ z); rw [h1] at this; cases this
  have hn : m ∉ a := fun z => by
    have := h _ (List.mem_append_left _ z)
    rw [lt_self] at this
    cases this
  have hl : leastAt (a ++ m :: b) = a.length := by
    have : leastAt (a ++ m :: b) = (p :: qs).idxOf (minPr p qs) := by rw [e]; rfl
    rw [this, h2, ← e, List.idxOf_append, if_neg hn, List.idxOf_cons_self, Nat.zero_add]
  unfold toldP
  rw [hl]
  unfold rotn
  rw [List.drop_left' rfl, List.take_left' rfl]
  rfl
theorem told_self {ps : List Pr2} (h : Told ps) : toldP ps = ps := by
  obtain ⟨m, b, rfl, hb⟩ := h
  have := told_of (a := []) (b := b) (m := m) (by simpa using hb)
  rw [List.append_nil] at this
  exact this
theorem told_rot {ps qs : List Pr2} (h : Told ps) (r : Rot ps qs) : toldP qs = ps := by
  obtain ⟨k, hk, rfl⟩ := r
  cases k with
  | zero =>
    have : rotn ps 0 = ps := by unfold rotn; simp
    rw [this]; exact told_self h
  | succ k =>
    obtain ⟨m, b, rfl, hb⟩ := h
    have e : rotn (m :: b) (k + 1) = b.drop k ++ m :: b.take k := by unfold rotn; rfl
    rw [e, told_of, List.take_append_drop]
    intro x hx
    rcases List.mem_append.mp hx with z | z
    · exact hb x (List.mem_of_mem_drop z)
    · exact hb x (List.mem_of_mem_take z)
theorem rot_told {ps : List Pr2} (h : ps ≠ []) : Rot ps (toldP ps) := by
  refine ⟨leastAt ps, ?_, rfl⟩
  cases ps with
  | nil => exact absurd rfl h
  | cons p qs => exact Nat.le_of_lt (List.idxOf_lt_length_of_mem (minPr_mem qs p))
theorem told_told {ps : List Pr2} (h : ps ≠ []) (nd : ps.Nodup) : Told (toldP ps) := by
  cases ps with
  | nil => exact absurd rfl h
  | cons p qs =>
    have hm := minPr_mem qs p
    have hle := minPr_le qs p
    obtain ⟨a, b, e⟩ := List.append_of_mem hm
    generalize minPr p qs = m at *
    rw [e] at nd hle ⊢
    have hx : ∀ x ∈ a ++ b, ltPr m x = true := fun x hx => by
      have h1 : x ≠ m := fun z => by
        subst z
        rw [List.nodup_append] at nd
        rcases List.mem_append.mp hx with z | z
        · exact nd.2.2 x z x List.mem_cons_self rfl
        · exact (List.nodup_cons.mp nd.2.1).1 z
      have h2 := hle x (by
        rcases List.mem_append.mp hx with z | z
        · exact List.mem_append_left _ z
        · exact List.mem_append_right _ (List.mem_cons_of_mem _ z))
      have h3 : ¬ (x.1 = m.1 ∧ x.2 = m.2) := fun z => h1 (Prod.ext z.1 z.2)
      unfold ltPr at *
      simp only [decide_eq_true_eq, decide_eq_false_iff_not] at *
      omega
    rw [told_of hx]
    exact ⟨m, _, rfl, fun x hx' => hx x (by
      rcases List.mem_append.mp hx' with z | z
      · exact List.mem_append_right _ z
      · exact List.mem_append_left _ z)⟩
theorem Told.sent {ps : List Pr2} (h : Told ps) (x y : Int) : Told (ps.map (sentP x y)) := by
  obtain ⟨m, b, rfl, hb⟩ := h
  refine ⟨sentP x y m, b.map (sentP x y), rfl, fun q hq => ?_⟩
  obtain ⟨p, hp, rfl⟩ := List.mem_map.mp hq
  have := hb p hp
  unfold ltPr sentP at *
  simp only [decide_eq_true_eq] at *
  omega
/-! ### good parts: bent to the left, none on another, all joined -/
def Conn (pss : List (List Pr2)) : Prop := ∀ S : List Pr2 → Prop, (∃ p ∈ pss, S p) → (∀ p ∈ pss, ∀ q ∈ pss, S p → joB p q = true → S q) → ∀ q ∈ pss, S q
structure Good (n : Int) (pss : List (List Pr2)) : Prop where
  ne : pss ≠ []
  l4 : pss.length ≤ 4
  cv : ∀ ps ∈ pss, Cvx ps
  up : ∀ ps ∈ pss, ∀ p ∈ ps, Upto n p
  ov : pss.Pairwise fun p q => ovB p q = false
  cn : Conn pss
theorem ov_symm (p q : List Pr2) : ovB p q = ovB q p := Bool.and_comm ..
theorem Good.nd {n : Int} {pss : List (List Pr2)} (h : Good n pss) : pss.Nodup := by
  have key : ∀ pss : List (List Pr2), (∀ ps ∈ pss, Cvx ps) → pss.Pairwise (fun p q => ovB p q = false) → pss.Nodup := fun pss hc ho => by
    refine List.Pairwise.imp_of_mem (fun {a b} ha hb hab e => ?_) ho
    rw [← e, (hc a ha).self_ov] at hab
    cases hab
  exact key pss h.cv h.ov
theorem Good.mono {n m : Int} {pss : List (List Pr2)} (h : Good n pss) (l : n ≤ m) : Good m pss := ⟨h.ne, h.l4, h.cv, fun ps hp p hm => upto_le (h.up ps hp p hm) l, h.ov, h.cn⟩
theorem Good.perm {n : Int} {pss qss : List (List Pr2)} (h : Good n pss) (e : qss.Perm pss) : Good n qss := by
  have m := fun p : List Pr2 => e.mem_iff (a := p)
  refine ⟨fun z => h.ne (by rw [z] at e; exact e.nil_eq.symm ▸ rfl), by rw [e.length_eq]; exact h.l4, fun p hp => h.cv p ((m p).mp hp), fun p hp => h.up p ((m p).mp hp), ?_, ?_⟩
  · exact (e.pairwise_iff (fun {a b} z => by rw [ov_symm]; exact z)).mpr h.ov
  · rintro S ⟨p, hp, sp⟩ cl q hq
    exact h.cn S ⟨p, (m p).mp hp, sp⟩ (fun p hp q hq => cl p ((m p).mpr hp) q ((m q).mpr hq)) q ((m q).mp hq)
/-- part by part turned in its row of corners -/
theorem Good.rots {n : Int} {l : List (List Pr2 × List Pr2)} (h : Good n (l.map Prod.fst)) (r : ∀ x ∈ l, Rot x.1 x.2) : Good n (l.map Prod.snd) := by
  have fm : ∀ x ∈ l, x.1 ∈ l.map Prod.fst := fun x hx => List.mem_map.mpr ⟨x, hx, rfl⟩
  refine ⟨fun z => h.ne (by rw [List.map_eq_nil_iff] at z; rw [z]; rfl), by have := h.l4; rw [List.length_map] at this ⊢; exact this, ?_, ?_, ?_, ?_⟩
  · intro q hq
    obtain ⟨x, hx, rfl⟩ := List.mem_map.mp hq
    exact (h.cv _ (fm x hx)).rot (r x hx)
  · intro q hq p hp
    obtain ⟨x, hx, rfl⟩ := List.mem_map.mp hq
    exact h.up _ (fm x hx) p (((r x hx).sam.c p).mp hp)
  · have := h.ov
    rw [List.pairwise_map] at this ⊢
    exact this.imp_of_mem fun {a b} ha hb z => by rw [(r a ha).sam.ov (r b hb).sam]; exact z
  · rintro S ⟨q, hq, sq⟩ cl q' hq'
    obtain ⟨x, hx, rfl⟩ := List.mem_map.mp hq
    obtain ⟨y, hy, rfl⟩ := List.mem_map.mp hq'
    have nd := h.nd
    have inj : ∀ x ∈ l, ∀ y ∈ l, x.1 = y.1 → x = y := by
      clear hx hy sq hq hq' cl r fm h
      clear x y
      induction l with
      | nil => exact fun _ z => nomatch z
      | cons a l ih =>
        rw [List.map_cons, List.nodup_cons] at nd
        intro x hx y hy e
        rcases List.mem_cons.mp hx with e1 | h1 <;> rcases List.mem_cons.mp hy with e2 | h2
        · rw [e1, e2]
        · exact absurd (List.mem_map.mpr ⟨y, h2, by rw [← e1]; exact e.symm⟩) nd.1
        · exact absurd (List.mem_map.mpr ⟨x, h1, by rw [← e2]; exact e⟩) nd.1
        · exact ih nd.2 x h1 y h2 e
    obtain ⟨z, hz, e, sz⟩ := h.cn (fun p => ∃ z ∈ l, z.1 = p ∧ S z.2) ⟨x.1, fm x hx, x, hx, rfl, sq⟩ (by
      rintro p hp q hq ⟨z, hz, rfl, sz⟩ j
      obtain ⟨y, hy, rfl⟩ := List.mem_map.mp hq
      refine ⟨y, hy, rfl, cl z.2 (List.mem_map.mpr ⟨z, hz, rfl⟩) y.2 (List.mem_map.mpr ⟨y, hy, rfl⟩) sz ?_⟩
      rw [(r z hz).sam.jo (r y hy).sam]; exact j) y.1 (fm y hy)
    rw [← inj z hz y hy e]; exact sz
theorem Good.told {n : Int} {pss : List (List Pr2)} (h : Good n pss) : Good n (pss.map toldP) := by
  have := Good.rots (n := n) (l := pss.map fun p => (p, toldP p)) (by rw [List.map_map]; simpa [Function.comp_def] using h) (by
    intro x hx
    obtain ⟨p, hp, rfl⟩ := List.mem_map.mp hx
    exact rot_told (fun z : p = [] => by have := (h.cv p hp).h3; rw [z] at this; exact absurd this (by decide)))
  rw [List.map_map] at this
  exact this
theorem Good.toldAll {n : Int} {pss : List (List Pr2)} (h : Good n pss) : ∀ ps ∈ pss.map toldP, Told ps := by
  intro q hq
  obtain ⟨p, hp, rfl⟩ := List.mem_map.mp hq
  exact told_told (by have := (h.cv p hp).h3; intro z; rw [z] at this; exact absurd this (by decide)) (h.cv p hp).nd
/-! ### moved stiffly -/
structure Stiff (f : Pr2 → Pr2) : Prop where
  t : ∀ a b c, trn (f a) (f b) (f c) = trn a b c
  d : ∀ a b c, dotP (mns (f b) (f a)) (mns (f c) (f a)) = dotP (mns b a) (mns c a)
  i : ∀ a b, f a = f b → a = b
theorem edg_map (f : Pr2 → Pr2) (ps : List Pr2) : edg (ps.map f) = (edg ps).map fun e => (f e.1, f e.2) := by
  unfold edg
  rw [List.length_map, List.map_map]
  refine List.map_congr_left fun k hk => ?_
  have hk := List.mem_range.mp hk
  have hm : (k + 1) % ps.length < ps.length := Nat.mod_lt _ (by omega)
  show ((ps.map f).getD k (0, 0), (ps.map f).getD ((k + 1) % ps.length) (0, 0)) = (f (ps.getD k (0, 0)), f (ps.getD ((k + 1) % ps.length) (0, 0)))
  rw [gD (by rw [List.length_map]; exact hk), gD (by rw [List.length_map]; exact hm), gD hk, gD hm, List.getElem_map, List.getElem_map]
theorem Stiff.hde {f : Pr2 → Pr2} (h : Stiff f) (ps qs : List Pr2) : hde (ps.map f) (qs.map f) = hde ps qs := by
  unfold K08.hde nll
  rw [edg_map, List.any_map]
  congr 1
  funext e
  show ((qs.map f).all fun c => decide (trn (f e.1) (f e.2) c ≤ 0)) = _
  rw [List.all_map]
  congr 1
  funext c
  show decide (trn (f e.1) (f e.2) (f c) ≤ 0) = _
  rw [h.t]
theorem Stiff.ov {f : Pr2 → Pr2} (h : Stiff f) (ps qs : List Pr2) : ovB (ps.map f) (qs.map f) = ovB ps qs := by
  unfold ovB
  rw [h.hde, h.hde]
theorem Stiff.jo {f : Pr2 → Pr2} (h : Stiff f) (ps qs : List Pr2) : joB (ps.map f) (qs.map f) = joB ps qs := by
  unfold joB
  rw [h.ov, edg_map, edg_map, List.any_map]
  congr 2
  funext e
  show (((edg qs).map _).any _) = _
  rw [List.any_map]
  congr 1
  funext b
  show shB (f e.1, f e.2) (f b.1, f b.2) = shB e b
  unfold shB
  dsimp only
  rw [h.t, h.t, h.d, h.d, h.d]
theorem Cvx.map {f : Pr2 → Pr2} (h : Stiff f) {ps : List Pr2} (c : Cvx ps) : Cvx (ps.map f) := by
  refine ⟨by rw [List.length_map]; exact c.h3, by rw [List.length_map]; exact c.h6, List.pairwise_map.mpr (c.nd.imp fun hne e => hne (h.i _ _ e)), ?_⟩
  intro e he q hq
  rw [edg_map] at he
  obtain ⟨e', he', rfl⟩ := List.mem_map.mp he
  obtain ⟨q', hq', rfl⟩ := List.mem_map.mp hq
  rcases c.lf e' he' q' hq' with z | z | z
  · exact .inl (by rw [z])
  · exact .inr (.inl (by rw [z]))
  · exact .inr (.inr (by dsimp only; rw [h.t]; exact z))
theorem Good.map {f : Pr2 → Pr2} (h : Stiff f) {n m : Int} (hb : ∀ p, Upto n p → Upto m (f p)) {pss : List (List Pr2)} (g : Good n pss) : Good m (pss.map (List.map f)) := by
  refine ⟨fun z => g.ne (List.map_eq_nil_iff.mp z), by rw [List.length_map]; exact g.l4, ?_, ?_, ?_, ?_⟩
  · intro q hq
    obtain ⟨p, hp, rfl⟩ := List.mem_map.mp hq
    exact (g.cv p hp).map h
  · intro q hq x hx
    obtain ⟨p, hp, rfl⟩ := List.mem_map.mp hq
    obtain ⟨y, hy, rfl⟩ := List.mem_map.mp hx
    exact hb _ (g.up p hp y hy)
  · exact List.pairwise_map.mpr (g.ov.imp fun z => by rw [h.ov]; exact z)
  · rintro S ⟨q, hq, sq⟩ cl q' hq'
    obtain ⟨p, hp, rfl⟩ := List.mem_map.mp hq
    obtain ⟨p', hp', rfl⟩ := List.mem_map.mp hq'
    exact g.cn (fun p => S (p.map f)) ⟨p, hp, sq⟩ (fun a ha b hb sa j => cl _ (List.mem_map.mpr ⟨a, ha, rfl⟩) _ (List.mem_map.mpr ⟨b, hb, rfl⟩) sa (by rw [h.jo]; exact j)) p' hp'
theorem stiff_sent (x y : Int) : Stiff (sentP x y) := by
  refine ⟨fun a b c => ?_, fun a b c => ?_, fun a b e => ?_⟩
  · unfold trn crs mns sentP; dsimp only; grind
  · unfold dotP mns sentP; dsimp only; grind
  · unfold sentP at e
    have h1 := (Prod.mk.inj e).1
    have h2 := (Prod.mk.inj e).2
    exact Prod.ext (by omega) (by omega)
theorem stiff_comp {f g : Pr2 → Pr2} (h : Stiff f) (k : Stiff g) : Stiff (fun p => f (g p)) := ⟨fun a b c => by rw [h.t, k.t], fun a b c => by rw [h.d, k.d], fun a b e => k.i _ _ (h.i _ _ e)⟩
def qtrP (p : Pr2) : Pr2 := (0 - p.2, p.1)
theorem stiff_qtr : Stiff qtrP := by
  refine ⟨fun a b c => ?_, fun a b c => ?_, fun a b e => ?_⟩
  · unfold trn crs mns qtrP; dsimp only; grind
  · unfold dotP mns qtrP; dsimp only; grind
  · unfold qtrP at e
    have h1 := (Prod.mk.inj e).1
    have h2 := (Prod.mk.inj e).2
    exact Prod.ext h2 (by omega)
def qtrN : Nat → Pr2 → Pr2
  | 0, p => p
  | n + 1, p => qtrP (qtrN n p)
theorem stiff_qtrN : ∀ n, Stiff (qtrN n)
  | 0 => ⟨fun _ _ _ => rfl, fun _ _ _ => rfl, fun _ _ e => e⟩
  | n + 1 => show Stiff (fun p => qtrP (qtrN n p)) from stiff_comp stiff_qtr (stiff_qtrN n)
theorem upto_qtrN {n : Int} {p : Pr2} (h : Upto n p) : ∀ k, Upto n (qtrN k p)
  | 0 => h
  | k + 1 => by
    have := upto_qtrN h k
    unfold Upto at *
    show _ ∧ _ ∧ _ ∧ _
    unfold qtrN qtrP
    dsimp only
    omega
/-! #### Fo -/
/-! ### parts in order -/
def partP (ps : List Pr2) : PyData := .tuple (ps.map pairP)
def leP (a b : List Pr2) : Bool := leD (partP a) (partP b)
def sortP (pss : List (List Pr2)) : List (List Pr2) := pss.mergeSort leP
theorem toks_inj : ∀ {a b : List Pr2}, PySem.W.keyToksAll (a.map pairP) = PySem.W.keyToksAll (b.map pairP) → a = b
  | [], [], _ => rfl
  | [], q :: b, h => by simp [PySem.W.keyToksAll] at h
  | p :: a, [], h => by simp [PySem.W.keyToksAll] at h
  | p :: a, q :: b, h => by
    simp [PySem.W.keyToksAll, PySem.W.keyToks, pairP] at h
    obtain ⟨h1, h2, h3⟩ := h
    have e1 : p = q := Prod.ext h1 h2
    have e2 : a = b := toks_inj (by simpa [pairP] using h3)
    rw [e1, e2]
theorem leP_trans (a b c : List Pr2) (h1 : leP a b = true) (h2 : leP b c = true) : leP a c = true := by
  unfold leP leD PySem.W.dataLt at *
  rw [Bool.not_eq_true'] at *
  rw [Bool.eq_false_iff]
  intro z
  rcases PyProof.Rows.lex_negTrans _ (PySem.W.keyToks (partP b)) _ z with z | z
  · rw [h2] at z; cases z
  · rw [h1] at z; cases z
theorem leP_total (a b : List Pr2) : (leP a b || leP b a) = true := by
  rw [Bool.or_eq_true]
  unfold leP leD PySem.W.dataLt
  rw [Bool.not_eq_true', Bool.not_eq_true']
  cases h : PyProof.Rows.lexLt itemOrd (PySem.W.keyToks (partP b)) (PySem.W.keyToks (partP a)) with
  | false => exact .inl rfl
  | true =>
    refine .inr ?_
    rw [Bool.eq_false_iff]
    intro z
    have := PyProof.Rows.lex_trans _ _ _ h z
    rw [PyProof.Rows.lex_irrefl] at this
    cases this
theorem leP_anti (a b : List Pr2) (h1 : leP a b = true) (h2 : leP b a = true) : a = b := by
  unfold leP leD PySem.W.dataLt at *
  rw [Bool.not_eq_true'] at *
  have := PyProof.Rows.lex_total _ _ h2 h1
  simp only [partP, PySem.W.keyToks] at this
  exact toks_inj this
theorem sortP_eq {a l : List (List Pr2)} (hp : a.Perm l) (ha : a.Pairwise fun x y => leP x y = true) : a = sortP l :=
  PySem.W.Srt.the_of_perm leP leP_trans leP_total leP_anti hp ha
theorem sortP_pw (l : List (List Pr2)) : (sortP l).Pairwise fun x y => leP x y = true := List.pairwise_mergeSort leP_trans leP_total l
theorem sortP_perm (l : List (List Pr2)) : (sortP l).Perm l := List.mergeSort_perm l _
theorem sortP_of {l m : List (List Pr2)} (h : l.Perm m) : sortP l = sortP m := sortP_eq ((sortP_perm l).trans h) (sortP_pw l)
theorem sortP_self {l : List (List Pr2)} (h : l.Pairwise fun x y => leP x y = true) : sortP l = l := (sortP_eq (.refl l) h).symm
theorem sortP_data (l : List (List Pr2)) : (l.map partP).mergeSort leD = (sortP l).map partP := (PySem.W.sort_maps partP fun _ _ _ _ => rfl).symm
theorem map_toldP {l : List (List Pr2)} (h : ∀ ps ∈ l, Told ps) : l.map toldP = l := by
  conv => rhs; rw [← List.map_id l]
  exact List.map_congr_left fun p hp => told_self (h p hp)
/-- laid as the parts of a piece are -/
structure Laid (n : Int) (pss : List (List Pr2)) : Prop where
  g : Good n pss
  t : ∀ ps ∈ pss, Told ps
  s : pss.Pairwise fun x y => leP x y = true
theorem Laid.of {n : Int} {pss : List (List Pr2)} (h : Good n pss) : Laid n (sortP (pss.map toldP)) :=
  ⟨h.told.perm (sortP_perm _), fun p hp => h.toldAll p ((sortP_perm _).mem_iff.mp hp), sortP_pw _⟩
theorem Laid.self {n : Int} {pss : List (List Pr2)} (h : Laid n pss) : sortP (pss.map toldP) = pss := by
  rw [map_toldP h.t, sortP_self h.s]
/-- the same parts handed in another order, each from another corner on -/
def Hand (pss qss : List (List Pr2)) : Prop := ∃ l : List (List Pr2 × List Pr2), (l.map Prod.fst).Perm pss ∧ l.map Prod.snd = qss ∧ ∀ x ∈ l, Rot x.1 x.2
theorem Hand.good {n : Int} {pss qss : List (List Pr2)} (h : Hand pss qss) (g : Good n pss) : Good n qss := by
  obtain ⟨l, e, rfl, r⟩ := h
  exact Good.rots (g.perm e) r
theorem Hand.told {n : Int} {pss qss : List (List Pr2)} (h : Hand pss qss) (g : Laid n pss) : sortP (qss.map toldP) = pss := by
  obtain ⟨l, e, rfl, r⟩ := h
  have : (l.map Prod.snd).map toldP = l.map Prod.fst := by
    rw [List.map_map]
    exact List.map_congr_left fun x hx => told_rot (g.t _ (e.mem_iff.mp (List.mem_map.mpr ⟨x, hx, rfl⟩))) (r x hx)
  rw [this, sortP_of e, sortP_self g.s]
/-! ### good parts, reckoned -/
def growB (pss : List (List Pr2)) (seen : List (List Pr2)) : List (List Pr2) := pss.filter fun q => seen.any fun p => decide (p = q) || joB p q
def connB (pss : List (List Pr2)) : Bool := pss.all fun p => pss.all fun q => decide (q ∈ growB pss (growB pss (growB pss (growB pss [p]))))
theorem grow_sub {pss seen : List (List Pr2)} {S : List Pr2 → Prop} (cl : ∀ p ∈ pss, ∀ q ∈ pss, S p → joB p q = true → S q) (h : ∀ p ∈ seen, p ∈ pss ∧ S p) : ∀ q ∈ growB pss seen, q ∈ pss ∧ S q := by
  intro q hq
  obtain ⟨hq, z⟩ := List.mem_filter.mp hq
  obtain ⟨p, hp, z⟩ := List.any_eq_true.mp z
  refine ⟨hq, ?_⟩
  rcases (Bool.or_eq_true _ _).mp z with z | z
  · rw [← of_decide_eq_true z]; exact (h p hp).2
  · exact cl p (h p hp).1 q hq (h p hp).2 z
theorem conn_of {pss : List (List Pr2)} (h : connB pss = true) : Conn pss := by
  rintro S ⟨p, hp, sp⟩ cl q hq
  have := of_decide_eq_true (List.all_eq_true.mp (List.all_eq_true.mp h p hp) q hq)
  exact (grow_sub cl (grow_sub cl (grow_sub cl (grow_sub cl fun x hx => by rw [List.mem_singleton.mp hx]; exact ⟨hp, sp⟩))) q this).2
def uptoB (n : Int) (p : Pr2) : Bool := decide (-n ≤ p.1) && decide (p.1 ≤ n) && decide (-n ≤ p.2) && decide (p.2 ≤ n)
def pairwB {α : Type} (r : α → α → Bool) : List α → Bool
  | [] => true
  | x :: xs => xs.all (r x) && pairwB r xs
theorem pairw_of {α : Type} {r : α → α → Bool} : ∀ {xs : List α}, pairwB r xs = true → xs.Pairwise fun a b => r a b = true
  | [], _ => .nil
  | x :: xs, h => by
    obtain ⟨h1, h2⟩ := (Bool.and_eq_true _ _).mp h
    exact .cons (fun y hy => List.all_eq_true.mp h1 y hy) (pairw_of h2)
def goodB (n : Int) (pss : List (List Pr2)) : Bool := (decide (0 < pss.length) && decide (pss.length ≤ 4)) && (pss.all fun ps => (decide (3 ≤ ps.length) && decide (ps.length ≤ 6)) && (polyB ps && ps.all (uptoB n))) && (pairwB (fun p q => !ovB p q) pss && connB pss)
theorem good_of {n : Int} {pss : List (List Pr2)} (h : goodB n pss = true) : Good n pss := by
  unfold goodB at h
  simp only [Bool.and_eq_true, decide_eq_true_eq, List.all_eq_true] at h
  obtain ⟨⟨⟨h1, h2⟩, h3⟩, h4, h5⟩ := h
  refine ⟨fun z => by rw [z] at h1; exact absurd h1 (by decide), h2, fun ps hp => cvx_of (h3 ps hp).1.1 (h3 ps hp).1.2 (h3 ps hp).2.1, fun ps hp p hm => ?_, (pairw_of h4).imp fun z => by simpa using z, conn_of h5⟩
  have := (h3 ps hp).2.2 p hm
  unfold uptoB at this
  simp only [Bool.and_eq_true, decide_eq_true_eq] at this
  unfold Upto
  omega
/-- one part alone -/
theorem good_one {n : Int} {ps : List Pr2} (h : Cvx ps) (hu : ∀ p ∈ ps, Upto n p) : Good n [ps] := by
  refine ⟨List.cons_ne_nil _ _, by show 1 ≤ 4; decide, fun p hp => by rw [List.mem_singleton.mp hp]; exact h, fun p hp => by rw [List.mem_singleton.mp hp]; exact hu, List.pairwise_singleton .., ?_⟩
  rintro S ⟨p, hp, sp⟩ _ q hq
  rw [List.mem_singleton.mp hq]
  rw [List.mem_singleton.mp hp] at sp
  exact sp
/-! ### bowls -/
def bwlP (s a b c d t : Int) : Pr2 := (s * (a * t + b * t * t), s * (c * t + d * t * t))
theorem trn_bwl (z a b c d t u v : Int) : trn (bwlP z a b c d t) (bwlP z a b c d u) (bwlP z a b c d v) = z * z * (a * d - b * c) * ((u - t) * ((v - t) * (v - u))) := by
  unfold trn crs mns bwlP; dsimp only; grind
theorem bwl_pos {z a b c d t u v : Int} (hz : 0 < z) (hd : 0 < a * d - b * c) (h : 0 < (u - t) * ((v - t) * (v - u))) : 0 < trn (bwlP z a b c d t) (bwlP z a b c d u) (bwlP z a b c d v) := by
  rw [trn_bwl]
  exact Int.mul_pos (Int.mul_pos (Int.mul_pos hz hz) hd) h
theorem bwl_inj {z a b c d t u : Int} (hz : z ≠ 0) (hd : a * d - b * c ≠ 0) (e : bwlP z a b c d t = bwlP z a b c d u) : t = u := by
  have h1 := Int.eq_of_mul_eq_mul_left hz (Prod.mk.inj e).1
  have h2 := Int.eq_of_mul_eq_mul_left hz (Prod.mk.inj e).2
  have h3 : (a * d - b * c) * t = (a * d - b * c) * u := by grind
  exact Int.eq_of_mul_eq_mul_left hd h3
theorem cvx_bwl {z a b c d : Int} (hz : 0 < z) (hd : 0 < a * d - b * c) {vs : List Int} (h3 : 3 ≤ vs.length) (h6 : vs.length ≤ 6) (hs : vs.Pairwise (· < ·)) : Cvx (vs.map (bwlP z a b c d)) := by
  have lt : ∀ i j (hi : i < vs.length) (hj : j < vs.length), i < j → vs[i] < vs[j] := fun i j hi hj h => List.pairwise_iff_getElem.mp hs i j hi hj h
  refine ⟨by rw [List.length_map]; exact h3, by rw [List.length_map]; exact h6, ?_, ?_⟩
  · exact List.pairwise_map.mpr (hs.imp fun {x y} hne e => by have := bwl_inj (by omega) (by omega) e; omega)
  · intro e he q hq
    obtain ⟨k, hk, h1, h2⟩ := mem_edg.mp he
    rw [List.length_map] at hk h2
    obtain ⟨j, hj, rfl⟩ := List.getElem_of_mem hq
    rw [List.length_map] at hj
    have hm : (k + 1) % vs.length < vs.length := Nat.mod_lt _ (by omega)
    rw [List.getElem?_map, List.getElem?_eq_getElem hk] at h1
    rw [List.getElem?_map, List.getElem?_eq_getElem hm] at h2
    rw [List.getElem_map, ← Option.some.inj h1, ← Option.some.inj h2]
    by_cases a1 : j = k
    · exact .inl (by subst a1; rfl)
    by_cases a2 : j = (k + 1) % vs.length
    · exact .inr (.inl (by subst a2; rfl))
    refine .inr (.inr (bwl_pos hz hd ?_))
    by_cases e1 : k + 1 = vs.length
    · have e2 : (k + 1) % vs.length = 0 := by rw [e1, Nat.mod_self]
      simp only [e2] at a2 hm ⊢
      have l1 := lt j k hj hk (by omega)
      have l2 := lt 0 j hm hj (by omega)
      have : (vs[0] - vs[k]) * ((vs[j] - vs[k]) * (vs[j] - vs[0])) = (vs[k] - vs[0]) * ((vs[k] - vs[j]) * (vs[j] - vs[0])) := by grind
      rw [this]
      exact Int.mul_pos (by omega) (Int.mul_pos (by omega) (by omega))
    · have e2 : (k + 1) % vs.length = k + 1 := Nat.mod_eq_of_lt (by omega)
      simp only [e2] at a2 hm ⊢
      have l0 := lt k (k + 1) hk hm (by omega)
      by_cases b : j < k
      · have l1 := lt j k hj hk b
        have : (vs[k + 1] - vs[k]) * ((vs[j] - vs[k]) * (vs[j] - vs[k + 1])) = (vs[k + 1] - vs[k]) * ((vs[k] - vs[j]) * (vs[k + 1] - vs[j])) := by grind
        rw [this]
        exact Int.mul_pos (by omega) (Int.mul_pos (by omega) (by omega))
      · have l1 := lt (k + 1) j hm hj (by omega)
        exact Int.mul_pos (by omega) (Int.mul_pos (by omega) (by omega))
/-! #### Ff -/
section
variable {P : Program} {w : World} {K : PySem.W.Frag} {mg : Str → Option Value} {base : Heap}
/-! ### nf -/
/-! ### how far apart corners lie -/
def Ext (n : Int) (pss : List (List Pr2)) : Prop := ∃ x0 x1 y0 y1 : Int, x1 - x0 ≤ n ∧ y1 - y0 ≤ n ∧ ∀ ps ∈ pss, ∀ p ∈ ps, (x0 ≤ p.1 ∧ p.1 ≤ x1) ∧ y0 ≤ p.2 ∧ p.2 ≤ y1
theorem Ext.qtr {n : Int} {pss : List (List Pr2)} (h : Ext n pss) : Ext n (pss.map (List.map qtrP)) := by
  obtain ⟨x0, x1, y0, y1, h1, h2, h3⟩ := h
  refine ⟨0 - y1, 0 - y0, x0, x1, by omega, h1, fun q hq r hr => ?_⟩
  obtain ⟨p, hp, rfl⟩ := List.mem_map.mp hq
  obtain ⟨y, hy, rfl⟩ := List.mem_map.mp hr
  have := h3 p hp y hy
  unfold qtrP
  dsimp only
  omega
theorem Ext.qtrN {n : Int} {pss : List (List Pr2)} (h : Ext n pss) : ∀ k, Ext n (pss.map (List.map (qtrN k)))
  | 0 => by
    have e : List.map (K08.qtrN 0) = (id : List Pr2 → List Pr2) := by funext ps; show ps.map (fun p => p) = ps; exact List.map_id' ps
    rw [e, List.map_id]; exact h
  | k + 1 => by
    have := (Ext.qtrN h k).qtr
    rw [List.map_map] at this
    have e : (List.map qtrP ∘ List.map (K08.qtrN k)) = List.map (K08.qtrN (k + 1)) := by
      funext ps
      show (ps.map _).map _ = _
      rw [List.map_map]; rfl
    rw [e] at this
    exact this
theorem Good.ext {n : Int} {pss : List (List Pr2)} (g : Good n pss) : Ext (2 * n) pss := ⟨-n, n, -n, n, by omega, by omega, fun ps hp p hm => by have := g.up ps hp p hm; unfold Upto at this; omega⟩
theorem Ext.mono {n m : Int} {pss : List (List Pr2)} (h : Ext n pss) (l : n ≤ m) : Ext m pss := by
  obtain ⟨x0, x1, y0, y1, h1, h2, h3⟩ := h
  exact ⟨x0, x1, y0, y1, by omega, by omega, h3⟩
abbrev s__law_quarter : Stmt := topS 64
abbrev N__law_quarter : List Str := ["_law_poly", "_law_times", "_law_found", "_law_k", "_law_c"]
theorem sc__law_quarter : FnScope N__law_quarter ["_law_poly", "_law_times"] (defScope s__law_quarter) := ⟨rfl, rfl, rfl, by decide +kernel, rfl, by decide +kernel, by decide +kernel⟩
abbrev ClQu (P : Program) (w : World) (K : PySem.W.Frag) (mg : Str → Option Value) (base : Heap) (k : Nat) := Cl P w K mg base k "_law_quarter" s__law_quarter ["_law_poly", "_law_times"] (SpD K (p2 fun d t => ∃ (ps : List Pr2) (j : Int), d = .tup (ps.map Dl.pairD) ∧ t = .int j ∧ ps.length ≤ 100 ∧ ∀ p ∈ ps, Upto 100000 p) fun ds r => ∃ (ps : List Pr2) (j : Int), ds = [.tup (ps.map Dl.pairD), .int j] ∧ r = .tup ((ps.map (qtrN (j.fmod 4).toNat)).map Dl.pairD))
theorem ok__law_quarter {k : Nat} (G : Gn mg) (F : Df K mg "_law_quarter" s__law_quarter) : ClQu P w K mg base (k + 1) := by
  refine cl_of F sc__law_quarter (fun _ _ _ _ _ _ us hl => match us, hl with | [_, _], _ => rfl) p2_len fun f cdv A outer s H E hr => ⟨_, (pss_cons (ps_set (i := 2) sc__law_quarter.nd rfl (Or.inl rfl) (pv 0))
      (pss_cons (ps_for PassesOwn.never rfl (pi_range1 rfl G.g_range (pa_cons (pe_op op_modN (pe_callTy call_int1 (by rfl) G.g_int (by decide +kernel) (pa_cons (pv 1) pa_nil)) pe_int) pa_nil)) (pg_name (i := 3) sc__law_quarter.nd rfl (Or.inl rfl)) (pss_one (ps_set (i := 2) sc__law_quarter.nd rfl (Or.inl rfl) (pe_callTy (show CallR _ (.type "tuple") (zOf K) from call_tupZ) (by rfl) G.g_tuple (by decide +kernel) (pa_cons (pe_lc (own := [("_law_c", 4)]) (g := gName 4) (tt := tYes) rfl sc__law_quarter.nd (pi_tup (pv 2)) (blkOk_by (N := N__law_quarter) (sc := defScope s__law_quarter) (by decide +kernel)) (fun _ _ _ _ _ => pg_name (i := 4) sc__law_quarter.nd rfl (Or.inl rfl)) (fun _ _ _ _ _ => pts_nil) (fun _ _ _ _ _ => (pe_tupZ (pa_cons (pe_op op_sub pe_int (pe_ix (show IxR _ (rIxT K) from ix_tup) (pv 4) pe_int (fun _ _ => rfl))) (pa_cons (pe_ix (show IxR _ (rIxT K) from ix_tup) (pv 4) pe_int (fun _ _ => rfl)) pa_nil))))) pa_nil)))))
      (pss_one (ps_ret (pv 2))))), fun B ds hp => ?_⟩
  obtain ⟨_, _, rfl, ps0, j, rfl, rfl, hl0, hb0⟩ := p2_ex hp
  show WS K B _ [.val (.tup (ps0.map Dl.pairD)), .val (.int j), .no, .no, .no] _
  try dsimp only [cxOf, Cx.nox, Cx.blk]
  refine ws_seq (ws_set (we_var rfl ?_))
  try dsimp only [List.set]
  refine ws_seq (ws_for (wi_range1 (wa_cons ?_)))
  repeat walk_at "dl"
  refine ro_int (by intro z; exact absurd z (by decide)) ?_
  obtain ⟨h0, h1⟩ := fm0 (i := j) (n := 4) (by decide)
  refine wa_nil ⟨_, rfl, by omega, by omega, fun k δ1 => ∃ y1 y2, δ1 = [.val (.tup (ps0.map Dl.pairD)), .val (.int j), .val (.tup ((ps0.map (qtrN k)).map Dl.pairD)), y1, y2], ⟨_, _, by rw [show qtrN 0 = id from rfl, List.map_id]⟩, ?_, ?_⟩
  · rintro n dn δ1 hdn ⟨y1, y2, rfl⟩
    have hb : ∀ p ∈ ps0.map (qtrN n), Upto 100000 p := fun p hp => by
      obtain ⟨q, hq, rfl⟩ := List.mem_map.mp hp
      exact upto_qtrN (hb0 q hq) n
    have hl : (ps0.map (qtrN n)).length ≤ 100 := by rw [List.length_map]; exact hl0
    have hfin : (ps0.map (qtrN n)).map qtrP = ps0.map (qtrN (n + 1)) := by rw [List.map_map]; rfl
    generalize ps0.map (qtrN n) = ps at *
    try dsimp only [List.set]
    refine ws_set (we_cb (wa_cons (we_lc (wi_tup (we_var rfl ⟨_, rfl, by rw [List.length_map]; omega, fun n acc => acc = ((ps.take n).map qtrP).map Dl.pairD, rfl, ?_, ?_⟩)))))
    · rintro n d acc hd hacc
      have hacc' : acc = ((ps.take n).map qtrP).map Dl.pairD := hacc
      rw [List.getElem?_map] at hd
      obtain ⟨q, hq, rfl⟩ : ∃ q, ps[n]? = some q ∧ Dl.pairD q = d := by
        cases e : ps[n]? with
        | none => rw [e] at hd; cases hd
        | some q => rw [e] at hd; exact ⟨q, rfl, Option.some.inj hd⟩
      try dsimp only [List.set]
      refine wt_yes ?_
      rw [if_pos rfl]
      repeat walk_at "dl"
      refine ix1 ?_
      repeat walk_at "dl"
      refine ix0 ?_
      repeat walk_at "dl"
      show acc ++ [Dl.pairD (qtrP q)] = ((ps.take (n + 1)).map qtrP).map Dl.pairD
      rw [hacc', List.take_add_one, hq, List.map_append, List.map_append]
      rfl
    · rintro acc hacc
      have hacc' : acc = ((ps.take (ps.map Dl.pairD).length).map qtrP).map Dl.pairD := hacc
      rw [List.length_map, List.take_length] at hacc'
      rw [hacc']
      refine wa_nil (rc_tupZ ?_)
      refine ⟨.val dn, y2, ?_⟩
      rw [← hfin]
      rfl
  · rintro δ1 ⟨y1, y2, rfl⟩
    refine ws_ret (we_var rfl ⟨ps0, j, rfl, ?_⟩)
    rw [upto_len]
/-! ### _law_mixed -/
abbrev mixPre : List D → Prop := p2 fun b d => b = .box ∧ ∃ ds, (d = .lst ds ∨ d = .tup ds) ∧ ds.length ≤ 100
def mixPost : List D → List D → Prop := fun vs es => ∃ b d ds, vs = [b, d] ∧ (d = .lst ds ∨ d = .tup ds) ∧ es.Perm ds
abbrev s__law_mixed : Stmt := topS 51
abbrev N__law_mixed : List Str := ["_law_box_here", "_law_some", "_law_found", "_law_thing_z"]
theorem sc__law_mixed : FnScope N__law_mixed ["_law_box_here", "_law_some"] (defScope s__law_mixed) := ⟨rfl, rfl, rfl, by decide +kernel, rfl, by decide +kernel, by decide +kernel⟩
abbrev ClMx (P : Program) (w : World) (K : PySem.W.Frag) (mg : Str → Option Value) (base : Heap) (k : Nat) := Cl P w K mg base k "_law_mixed" s__law_mixed ["_law_box_here", "_law_some"] (SpN K mixPre mixPost)
theorem ok__law_mixed {k : Nat} (G : Gn mg) (F : Df K mg "_law_mixed" s__law_mixed) (C__law_take : ClT P w K mg base k) : ClMx P w K mg base (k + 1) := by
  refine cln_of F sc__law_mixed (fun _ _ _ _ _ _ us hl => match us, hl with | [_, _], _ => rfl) p2_len fun f cdv A outer s H E hr => ⟨_, (pss_cons (ps_set (i := 2) sc__law_mixed.nd rfl (Or.inl rfl) (pe_lst pa_nil))
      (pss_cons (ps_for PassesOwn.never rfl (pi_any (pv 1)) (pg_name (i := 3) sc__law_mixed.nd rfl (Or.inl rfl)) (pss_one (ps_expr (pe_bm PySem.F.plainAttrs_list PySem.F.slot_list_insert PySem.F.type_list_insert mt_insert (pv 2) (pa_cons (pe_c C__law_take hr (by omega) (by rfl) (pa_cons (pv 0) (pa_cons (pe_op op_add (pe_callB (show CallR _ (.builtin "len") (fun xs H Q => ∃ x n, xs = [x] ∧ LenV K x H n ∧ Q (.int n) H) from call_len) (by rfl) G.g_len (by decide +kernel) (pa_cons (pv 2) pa_nil)) pe_int) pa_nil))) (pa_cons (pv 3) pa_nil))))))
      (pss_one (ps_ret (pv 2))))), fun B ds hp => ?_⟩
  obtain ⟨_, d, rfl, rfl, xs, hxs, hl⟩ := p2_ex hp
  show WS K B _ [.val .box, .val d, .no, .no] _
  try dsimp only [cxOf, Cx.nox, Cx.blk]
  refine ws_seq (ws_setOwn (wa_nil ⟨by decide, ?_⟩))
  dsimp only [List.set]
  refine ws_seq (ws_for (wi_any (we_var rfl ⟨xs, hxs, fun i δ1 => ∃ (row : List D) (y : Sd), δ1 = [.val .box, .val d, .own row, y] ∧ row.Perm (xs.take i), ⟨[], .no, rfl, .nil⟩, ?_, ?_⟩)))
  · rintro i x δ1 hi ⟨row, y, rfl, hrx⟩
    dsimp only [List.set]
    have hi' : i < xs.length := (List.getElem?_eq_some_iff.mp hi).1
    have hrl : row.length = i := by rw [hrx.length_eq, List.length_take]; omega
    refine ws_insert (i := 2) rfl rfl (by omega) (we_frz (i := 2) rfl ?_)
    dsimp only [List.set]
    repeat walk_at "dl"
    refine ⟨⟨rfl, _, rfl, by omega, by omega⟩, ?_⟩
    rintro _ ⟨n, j, e, rfl, h0, h1⟩
    cases e
    obtain ⟨m, rfl⟩ : ∃ m : Nat, j = m := ⟨j.toNat, by omega⟩
    refine ⟨rfl, m, rfl, by omega, we_var rfl ?_⟩
    refine ⟨_, _, rfl, ?_⟩
    have tk : xs.take (i + 1) = xs.take i ++ [x] := by rw [List.take_add_one, hi]; rfl
    rw [tk, List.append_assoc]
    refine List.perm_middle.trans ?_
    show (x :: (row.take m ++ row.drop m)).Perm _
    rw [List.take_append_drop]
    exact (List.Perm.cons x hrx).trans (List.perm_append_comm (l₁ := [x]))
  · rintro δ1 ⟨row, y, rfl, hrx⟩
    rw [List.take_length] at hrx
    exact ws_retOwn (i := 2) rfl ⟨_, _, xs, rfl, hxs, hrx⟩
/-! ### _law_bowl -/
abbrev mixPost' : List D → D → Prop := fun vs r => ∃ es, mixPost vs es ∧ r = .lst es
abbrev ClMf (P : Program) (w : World) (K : PySem.W.Frag) (mg : Str → Option Value) (base : Heap) (k : Nat) := Cl P w K mg base k "_law_mixed" s__law_mixed ["_law_box_here", "_law_some"] (SpD K mixPre mixPost')
theorem mx_frz {k : Nat} (c : ClMx P w K mg base k) : ClMf P w K mg base k := c.frz fun ds es h => ⟨es, h, rfl⟩
def In3 (n : Int) : Prop := -3 ≤ n ∧ n ≤ 3
def Slim (a b : Int) : Prop := ∃ lo hi : Int, (lo ≤ 0 ∧ 0 ≤ hi ∧ hi - lo ≤ 21) ∧ ∀ t, In3 t → lo ≤ a * t + b * t * t ∧ a * t + b * t * t ≤ hi
theorem slim_of {a b : Int} (lo hi : Int) (h0 : lo ≤ 0 ∧ 0 ≤ hi ∧ hi - lo ≤ 21) (h : (([-3, -2, -1, 0, 1, 2, 3] : List Int).all fun t => decide (lo ≤ a * t + b * t * t) && decide (a * t + b * t * t ≤ hi)) = true) : Slim a b := by
  refine ⟨lo, hi, h0, fun t ht => ?_⟩
  have hm : t ∈ ([-3, -2, -1, 0, 1, 2, 3] : List Int) := by
    unfold In3 at ht
    have : t = -3 ∨ t = -2 ∨ t = -1 ∨ t = 0 ∨ t = 1 ∨ t = 2 ∨ t = 3 := by omega
    rcases this with rfl | rfl | rfl | rfl | rfl | rfl | rfl <;> decide
  have := List.all_eq_true.mp h t hm
  simpa using this
theorem ext_bwl {z a b c d : Int} (hz : In3 z) (h0 : 0 < z) (h1 : Slim a b) (h2 : Slim c d) {ts : List Int} (ht : ∀ t ∈ ts, In3 t) : (∀ p ∈ ts.map (bwlP z a b c d), Upto 63 p) ∧ Ext 63 [ts.map (bwlP z a b c d)] := by
  obtain ⟨l1, u1, b1, k1⟩ := h1
  obtain ⟨l2, u2, b2, k2⟩ := h2
  have key : ∀ p ∈ ts.map (bwlP z a b c d), (z * l1 ≤ p.1 ∧ p.1 ≤ z * u1) ∧ z * l2 ≤ p.2 ∧ p.2 ≤ z * u2 := fun p hp => by
    obtain ⟨t, hm, rfl⟩ := List.mem_map.mp hp
    have q1 := k1 t (ht t hm)
    have q2 := k2 t (ht t hm)
    unfold bwlP
    dsimp only
    exact ⟨⟨Int.mul_le_mul_of_nonneg_left q1.1 (by omega), Int.mul_le_mul_of_nonneg_left q1.2 (by omega)⟩, Int.mul_le_mul_of_nonneg_left q2.1 (by omega), Int.mul_le_mul_of_nonneg_left q2.2 (by omega)⟩
  have hz3 : z = 1 ∨ z = 2 ∨ z = 3 := by unfold In3 at hz; omega
  refine ⟨fun p hp => ?_, z * l1, z * u1, z * l2, z * u2, ?_, ?_, fun ps hps p hp => by rw [List.mem_singleton.mp hps] at hp; exact key p hp⟩
  · have := key p hp
    unfold Upto
    rcases hz3 with rfl | rfl | rfl <;> omega
  · rcases hz3 with rfl | rfl | rfl <;> omega
  · rcases hz3 with rfl | rfl | rfl <;> omega
theorem coef {r : D} (m : r ∈ [D.tup [.int 1, .int 0, .int 0, .int 1], .tup [.int 2, .int 1, .int 1, .int 1], .tup [.int 1, .int (-1), .int 1, .int 1], .tup [.int 0, .int (-1), .int 1, .int 0], .tup [.int 3, .int 1, .int (-1), .int 2], .tup [.int 1, .int 0, .int 2, .int 1], .tup [.int (-1), .int 0, .int 0, .int (-1)]]) :
    ∃ a b c d : Int, r = .tup [.int a, .int b, .int c, .int d] ∧ In3 a ∧ In3 b ∧ In3 c ∧ In3 d ∧ 0 < a * d - b * c ∧ Slim a b ∧ Slim c d := by
  unfold In3
  simp only [List.mem_cons, List.not_mem_nil, or_false] at m
  rcases m with rfl | rfl | rfl | rfl | rfl | rfl | rfl
  · exact ⟨_, _, _, _, rfl, by decide, by decide, by decide, by decide, by decide, slim_of (-3) 3 (by decide) (by decide), slim_of (0) 9 (by decide) (by decide)⟩
  · exact ⟨_, _, _, _, rfl, by decide, by decide, by decide, by decide, by decide, slim_of (-1) 15 (by decide) (by decide), slim_of (0) 12 (by decide) (by decide)⟩
  · exact ⟨_, _, _, _, rfl, by decide, by decide, by decide, by decide, by decide, slim_of (-12) 0 (by decide) (by decide), slim_of (0) 12 (by decide) (by decide)⟩
  · exact ⟨_, _, _, _, rfl, by decide, by decide, by decide, by decide, by decide, slim_of (-9) 0 (by decide) (by decide), slim_of (-3) 3 (by decide) (by decide)⟩
  · exact ⟨_, _, _, _, rfl, by decide, by decide, by decide, by decide, by decide, slim_of (-2) 18 (by decide) (by decide), slim_of (0) 21 (by decide) (by decide)⟩
  · exact ⟨_, _, _, _, rfl, by decide, by decide, by decide, by decide, by decide, slim_of (-3) 3 (by decide) (by decide), slim_of (-1) 15 (by decide) (by decide)⟩
  · exact ⟨_, _, _, _, rfl, by decide, by decide, by decide, by decide, by decide, slim_of (-3) 3 (by decide) (by decide), slim_of (-9) 0 (by decide) (by decide)⟩
theorem ints3 {es : List D} (h : es.Perm [D.int (-3), .int (-2), .int (-1), .int 0, .int 1, .int 2, .int 3]) : ∃ ns : List Int, es = ns.map D.int ∧ ns.length = 7 ∧ ns.Nodup ∧ ∀ n ∈ ns, In3 n := by
  have hm : ∀ e ∈ es, ∃ i : Int, e = .int i ∧ In3 i := fun e he => by
    have he := h.mem_iff.mp he
    unfold In3
    simp only [List.mem_cons, List.not_mem_nil, or_false] at he
    rcases he with rfl | rfl | rfl | rfl | rfl | rfl | rfl <;> exact ⟨_, rfl, by decide⟩
  have nd : es.Nodup := h.nodup_iff.mpr (by simp)
  have hl := h.length_eq
  clear h
  have key : ∀ es : List D, (∀ e ∈ es, ∃ i : Int, e = .int i ∧ In3 i) → es.Nodup → ∃ ns : List Int, es = ns.map D.int ∧ ns.Nodup ∧ ∀ n ∈ ns, In3 n := by
    intro es
    induction es with
    | nil => exact fun _ _ => ⟨[], rfl, .nil, fun _ z => nomatch z⟩
    | cons e es ih =>
      intro hm nd
      obtain ⟨i, rfl, hi⟩ := hm e List.mem_cons_self
      obtain ⟨n1, n2⟩ := List.nodup_cons.mp nd
      obtain ⟨ns, rfl, hn, h3⟩ := ih (fun x hx => hm x (List.mem_cons_of_mem _ hx)) n2
      refine ⟨i :: ns, rfl, List.nodup_cons.mpr ⟨fun z => n1 (List.mem_map.mpr ⟨i, z, rfl⟩), hn⟩, fun n hn' => ?_⟩
      rcases List.mem_cons.mp hn' with rfl | hn'
      · exact hi
      · exact h3 n hn'
  obtain ⟨ns, e, h1, h2⟩ := key es hm nd
  refine ⟨ns, e, ?_, h1, h2⟩
  rw [e, List.length_map] at hl
  exact hl
theorem bwl1 {a b t : Int} (ha : In3 a) (hb : In3 b) (ht : In3 t) : (-9 ≤ a * t ∧ a * t ≤ 9) ∧ (-9 ≤ b * t ∧ b * t ≤ 9) ∧ (-27 ≤ b * t * t ∧ b * t * t ≤ 27) := by
  have h1 := Dl.mulB (m := 3) (n := 3) ha ht
  have h2 := Dl.mulB (m := 3) (n := 3) hb ht
  have h3 := Dl.mulB (m := 9) (n := 3) (show -9 ≤ b * t ∧ b * t ≤ 9 by omega) ht
  omega
theorem bwl_up {z a b c d t : Int} (hz : In3 z) (ha : In3 a) (hb : In3 b) (hc : In3 c) (hd : In3 d) (ht : In3 t) : Upto 150 (bwlP z a b c d t) := by
  have h1 := bwl1 ha hb ht
  have h2 := bwl1 hc hd ht
  have h3 := Dl.mulB (m := 3) (n := 36) hz (show -36 ≤ a * t + b * t * t ∧ a * t + b * t * t ≤ 36 by omega)
  have h4 := Dl.mulB (m := 3) (n := 36) hz (show -36 ≤ c * t + d * t * t ∧ c * t + d * t * t ≤ 36 by omega)
  unfold Upto bwlP
  dsimp only
  omega
theorem cut_toI {ns : List Int} {n : Nat} (h : n ≤ ns.length) : Dl.cutD (ns.map D.int) none (some (n : Int)) = (ns.take n).map D.int := by
  unfold Dl.cutD
  rw [HT.sIx_none, HT.sIx_nat, List.length_map, show min n ns.length = n by omega, List.drop_zero, Nat.sub_zero, List.map_take]
abbrev s__law_bowl : Stmt := topS 68
abbrev N__law_bowl : List Str := ["_law_box_here", "_law_many", "_law_spots", "_law_size", "_law_a", "_law_b", "_law_c", "_law_d", "_law_t"]
theorem sc__law_bowl : FnScope N__law_bowl ["_law_box_here", "_law_many"] (defScope s__law_bowl) := ⟨rfl, rfl, rfl, by decide +kernel, rfl, by decide +kernel, by decide +kernel⟩
abbrev ClBo (P : Program) (w : World) (K : PySem.W.Frag) (mg : Str → Option Value) (base : Heap) (k : Nat) := Cl P w K mg base k "_law_bowl" s__law_bowl ["_law_box_here", "_law_many"] (SpD K (p2 fun b m => b = .box ∧ ∃ n : Nat, m = .int (n : Int) ∧ 3 ≤ n ∧ n ≤ 6) fun _ r => ∃ ps : List Pr2, r = .tup (ps.map Dl.pairD) ∧ Cvx ps ∧ (∀ p ∈ ps, Upto 63 p) ∧ Ext 63 [ps])
theorem ok__law_bowl {k : Nat} (G : Gn mg) (F : Df K mg "_law_bowl" s__law_bowl) (C__law_mixed : ClMf P w K mg base k) (C__law_pick : ClP P w K mg base k) : ClBo P w K mg base (k + 1) := by
  refine cl_of F sc__law_bowl (fun _ _ _ _ _ _ us hl => match us, hl with | [_, _], _ => rfl) p2_len fun f cdv A outer s H E hr => ⟨_, (pss_cons (ps_set (i := 2) sc__law_bowl.nd rfl (Or.inl rfl) (pe_slice sl_list (pe_c C__law_mixed hr (by omega) (by rfl) (pa_cons (pv 0) (pa_cons (pe_lst (pa_cons (pe_un un_neg pe_int) (pa_cons (pe_un un_neg pe_int) (pa_cons (pe_un un_neg pe_int) (pa_cons pe_int (pa_cons pe_int (pa_cons pe_int (pa_cons pe_int pa_nil)))))))) pa_nil))) po_none (po_some (pv 1))))
      (pss_cons (ps_asg (pe_c C__law_pick hr (by omega) (by rfl) (pa_cons (pv 0) (pa_cons (pe_lst (pa_cons (pe_tupZ (pa_cons pe_int (pa_cons pe_int (pa_cons pe_int (pa_cons pe_int pa_nil))))) (pa_cons (pe_tupZ (pa_cons pe_int (pa_cons pe_int (pa_cons pe_int (pa_cons pe_int pa_nil))))) (pa_cons (pe_tupZ (pa_cons pe_int (pa_cons (pe_un un_neg pe_int) (pa_cons pe_int (pa_cons pe_int pa_nil))))) (pa_cons (pe_tupZ (pa_cons pe_int (pa_cons (pe_un un_neg pe_int) (pa_cons pe_int (pa_cons pe_int pa_nil))))) (pa_cons (pe_tupZ (pa_cons pe_int (pa_cons pe_int (pa_cons (pe_un un_neg pe_int) (pa_cons pe_int pa_nil))))) (pa_cons (pe_tupZ (pa_cons pe_int (pa_cons pe_int (pa_cons pe_int (pa_cons pe_int pa_nil))))) (pa_cons (pe_tupZ (pa_cons (pe_un un_neg pe_int) (pa_cons pe_int (pa_cons pe_int (pa_cons (pe_un un_neg pe_int) pa_nil))))) pa_nil)))))))) pa_nil))) (show PG _ _ (gTup K 4 (gCons (gName 4) (gCons (gName 5) (gCons (gName 6) (gCons (gName 7) gNil))))) from pg_tup rfl (pgs_cons (pg_name (i := 4) sc__law_bowl.nd rfl (Or.inr rfl)) (pgs_cons (pg_name (i := 5) sc__law_bowl.nd rfl (Or.inr rfl)) (pgs_cons (pg_name (i := 6) sc__law_bowl.nd rfl (Or.inr rfl)) (pgs_cons (pg_name (i := 7) sc__law_bowl.nd rfl (Or.inr rfl)) pgs_nil))))))
      (pss_cons (ps_set (i := 3) sc__law_bowl.nd rfl (Or.inr rfl) (pe_c C__law_pick hr (by omega) (by rfl) (pa_cons (pv 0) (pa_cons (pe_lst (pa_cons pe_int (pa_cons pe_int (pa_cons pe_int (pa_cons pe_int pa_nil))))) pa_nil))))
      (pss_one (ps_ret (pe_callTy (show CallR _ (.type "tuple") (zOf K) from call_tupZ) (by rfl) G.g_tuple (by decide +kernel) (pa_cons (pe_lc (own := [("_law_t", 8)]) (g := gName 8) (tt := tYes) rfl sc__law_bowl.nd (pi_list (pe_callB (show CallR _ (.builtin "sorted") (rSortedI K) from cr_sortedI) (by rfl) G.g_sorted (by decide +kernel) (pa_cons (pv 2) pa_nil))) (blkOk_by (N := N__law_bowl) (sc := defScope s__law_bowl) (by decide +kernel)) (fun _ _ _ _ _ => pg_name (i := 8) sc__law_bowl.nd rfl (Or.inl rfl)) (fun _ _ _ _ _ => pts_nil) (fun _ _ _ _ _ => (pe_tupZ (pa_cons (pe_op op_mul (pv 3) (pe_op op_add (pe_op op_mul (pv 4) (pv 8)) (pe_op op_mul (pe_op op_mul (pv 5) (pv 8)) (pv 8)))) (pa_cons (pe_op op_mul (pv 3) (pe_op op_add (pe_op op_mul (pv 6) (pv 8)) (pe_op op_mul (pe_op op_mul (pv 7) (pv 8)) (pv 8)))) pa_nil))))) pa_nil))))))), fun B ds hp => ?_⟩
  obtain ⟨_, _, rfl, rfl, m, rfl, h3, h6⟩ := p2_ex hp
  show WS K B _ [.val .box, .val (.int (m : Int)), .no, .no, .no, .no, .no, .no, .no] _
  try dsimp only [cxOf, Cx.nox, Cx.blk]
  repeat walk_at "dl"
  refine ⟨⟨rfl, _, .inl rfl, by decide⟩, ?_⟩
  rintro _ ⟨es, ⟨_, _, xs, e, hx, hperm⟩, rfl⟩
  cases e
  have hx' : xs = [D.int (-3), .int (-2), .int (-1), .int 0, .int 1, .int 2, .int 3] := by
    rcases hx with hx | hx
    · exact (D.lst.inj hx).symm
    · cases hx
  subst hx'
  obtain ⟨ns, rfl, hlen', hnd, hns⟩ := ints3 hperm
  clear hperm
  repeat walk_at "dl"
  refine rs_L ?_
  rw [cut_toI (by rw [hlen']; omega)]
  try dsimp only [List.set]
  have hsl : (ns.take m).length = m := by rw [List.length_take]; omega
  have hs3 : ∀ n ∈ ns.take m, In3 n := fun n h => hns n (List.mem_of_mem_take h)
  have hnd' : (ns.take m).Nodup := hnd.sublist (List.take_sublist ..)
  generalize ns.take m = us at hsl hs3 hnd'
  refine ws_seq (ws_unt4 (we_call (wa_cons ?_)))
  repeat walk_at "dl"
  refine ⟨⟨rfl, _, rfl, by decide, by decide⟩, ?_⟩
  rintro r ⟨_, e, hm⟩
  cases e
  obtain ⟨a, b, c, d, rfl, ha, hb, hc, hd, hdet, sl1, sl2⟩ := coef hm
  refine ⟨_, _, _, _, rfl, ?_⟩
  try dsimp only [List.set]
  repeat walk_at "dl"
  refine ⟨⟨rfl, _, rfl, by decide, by decide⟩, ?_⟩
  rintro r ⟨_, e, hm⟩
  cases e
  obtain ⟨z, rfl, hz, hz0⟩ : ∃ z : Int, r = .int z ∧ In3 z ∧ 0 < z := by
    unfold In3
    simp only [List.mem_cons, List.not_mem_nil, or_false] at hm
    rcases hm with rfl | rfl | rfl | rfl <;> exact ⟨_, rfl, by decide, by decide⟩
  try dsimp only [List.set]
  refine ws_ret (we_cb (wa_cons (we_lc (wi_list (we_cb (wa_cons (we_var rfl (wa_nil (rc_sortI fun vs hv hpw => ⟨_, rfl, by rw [List.length_map, hv.length_eq]; omega, fun n acc => acc = ((vs.take n).map (bwlP z a b c d)).map Dl.pairD, rfl, ?_, ?_⟩)))))))))
  · rintro n d0 acc hdn hacc
    have hacc' : acc = ((vs.take n).map (bwlP z a b c d)).map Dl.pairD := hacc
    rw [List.getElem?_map] at hdn
    obtain ⟨t, ht, rfl⟩ : ∃ t, vs[n]? = some t ∧ D.int t = d0 := by
      cases e : vs[n]? with
      | none => rw [e] at hdn; cases hdn
      | some q => rw [e] at hdn; exact ⟨q, rfl, Option.some.inj hdn⟩
    have ht3 : In3 t := hs3 t (hv.mem_iff.mp (List.mem_of_getElem? ht))
    try dsimp only [List.set]
    refine wt_yes ?_
    rw [if_pos rfl]
    have k1 := bwl1 ha hb ht3
    have k2 := bwl1 hc hd ht3
    have k3 := bwl_up hz ha hb hc hd ht3
    unfold In3 at *
    repeat walk_at "dl"
    refine ro_int (.inl ⟨by omega, by omega⟩) ?_
    repeat walk_at "dl"
    refine ro_int (.inl ⟨by omega, by omega⟩) ?_
    repeat walk_at "dl"
    refine ro_int (.inl ⟨by omega, by omega⟩) ?_
    repeat walk_at "dl"
    refine ro_int (.inl ⟨by omega, by omega⟩) ?_
    repeat walk_at "dl"
    refine ro_int (.inl ⟨by omega, by omega⟩) ?_
    repeat walk_at "dl"
    refine ro_int (.inl ⟨by omega, by omega⟩) ?_
    repeat walk_at "dl"
    refine ro_int (.inl ⟨by omega, by omega⟩) ?_
    repeat walk_at "dl"
    refine ro_int (.inl ⟨by omega, by omega⟩) ?_
    repeat walk_at "dl"
    show acc ++ [Dl.pairD (bwlP z a b c d t)] = ((vs.take (n + 1)).map (bwlP z a b c d)).map Dl.pairD
    rw [hacc', List.take_add_one, ht, List.map_append, List.map_append]
    rfl
  · rintro acc hacc
    have hacc' : acc = ((vs.take (vs.map D.int).length).map (bwlP z a b c d)).map Dl.pairD := hacc
    rw [List.length_map, List.take_length] at hacc'
    rw [hacc']
    have hst : vs.Pairwise (· < ·) := by
      refine (List.Pairwise.and hpw (hv.nodup_iff.mpr hnd')).imp fun {x y} h => ?_
      have h1 := h.1
      have h2 : x ≠ y := h.2
      omega
    refine wa_nil (rc_tupZ ⟨vs.map (bwlP z a b c d), rfl, cvx_bwl hz0 hdet (by rw [hv.length_eq]; omega) (by rw [hv.length_eq]; omega) hst, ext_bwl hz hz0 sl1 sl2 fun t ht => hs3 t (hv.mem_iff.mp ht)⟩)

end
/-! #### Fg -/
section
variable {P : Program} {w : World} {K : PySem.W.Frag} {mg : Str → Option Value} {base : Heap}
/-! ### ng -/
theorem wex_mono {K : PySem.W.Frag} {B : Bt} {X : Xc} {te : TE} {δ : List Sd} {P Q : D → Prop} (h : WEx K B X te δ P) (m : ∀ d, P d → Q d) : WEx K B X te δ Q := fun G0 H0 σ G H R s xx q => h G0 H0 σ G H R s xx fun v d G1 H1 g o hd p => q v d G1 H1 g o hd (m d p)
theorem wax_mono {K : PySem.W.Frag} {B : Bt} {X : Xc} {ta : TA} {δ : List Sd} {P Q : List D → Prop} (h : WAx K B X ta δ P) (m : ∀ d, P d → Q d) : WAx K B X ta δ Q := fun G0 H0 σ G H R s xx q => h G0 H0 σ G H R s xx fun v d G1 H1 g o hd p => q v d G1 H1 g o hd (m d p)
/-- so many items, of each of which this holds -/
def AllN (P : D → Prop) (n : Nat) (ds : List D) : Prop := ds.length = n ∧ ∀ d ∈ ds, P d
theorem wa_all0 {K : PySem.W.Frag} {B : Bt} {X : Xc} {δ : List Sd} {P : D → Prop} : WAx K B X tNil δ (AllN P 0) := wa_nil ⟨rfl, fun _ z => nomatch z⟩
theorem wa_all {K : PySem.W.Frag} {B : Bt} {X : Xc} {te : TE} {ta : TA} {δ : List Sd} {P : D → Prop} {n : Nat} (h1 : WEx K B X te δ P) (h2 : WAx K B X ta δ (AllN P n)) : WAx K B X (tCons te ta) δ (AllN P (n + 1)) :=
  wa_cons (wex_mono h1 fun d hd => wax_mono h2 fun ds q => ⟨by rw [List.length_cons, q.1], fun x hx => by
    rcases List.mem_cons.mp hx with e | hx
    · rw [e]; exact hd
    · exact q.2 x hx⟩)
theorem wa_eq0 {K : PySem.W.Frag} {B : Bt} {X : Xc} {δ : List Sd} : WAx K B X tNil δ (· = []) := wa_nil rfl
theorem wa_eqc {K : PySem.W.Frag} {B : Bt} {X : Xc} {te : TE} {ta : TA} {δ : List Sd} {d : D} {ds : List D} (h1 : WEx K B X te δ (· = d)) (h2 : WAx K B X ta δ (· = ds)) : WAx K B X (tCons te ta) δ (· = d :: ds) :=
  wa_cons (wex_mono h1 fun d' e => wax_mono h2 fun ds' e' => by rw [e, e'])
def polyD (ps : List Pr2) : D := .tup (ps.map Dl.pairD)
def rectP (a b c d : Int) : List Pr2 := [(a, b), (a + c, b), (a + c, b + d), (a, b + d)]
def rowsS (s : Int) : List (List (List Pr2)) := [[rectP 0 0 s s], [rectP 0 0 s s], [rectP 0 0 (s + 3) 1], [rectP 0 0 (s + 3) 2], [[(0, 0), (s + 1, 0), (0, s)]], [[(0, 0), (s + 4, 0), (s + 2, 2), (0, 2)]],
  [rectP 0 0 6 2, rectP 0 2 2 (s + 1)], [rectP 0 0 6 2, rectP 0 2 2 (s + 2), rectP 4 2 2 (s + 2)], [rectP 0 0 2 4], [rectP 0 0 8 2, rectP 0 6 8 2, rectP 0 2 2 4, rectP 6 2 2 4],
  [[(0, 0), (4, 0), (4, 2), (2, 2 + s), (0, 2)]], [[(1, 0), (3, 0), (4, 2), (3, 4), (1, 4), (0, 2)], [(1, 4), (3, 4), (2, 4 + s)]]]
theorem rows_good : (([1, 2, 3, 4] : List Int).all fun s => (rowsS s).all (goodB 31)) = true := by decide +kernel
theorem rows_at {i : Int} (h0 : 0 ≤ i) (h1 : i < 4) (k : Nat) (pss : List (List Pr2)) (e : (rowsS (1 + i))[k]? = some pss) : Good 31 pss := by
  have hm : 1 + i ∈ ([1, 2, 3, 4] : List Int) := by
    have : i = 0 ∨ i = 1 ∨ i = 2 ∨ i = 3 := by omega
    rcases this with rfl | rfl | rfl | rfl <;> decide
  exact good_of (List.all_eq_true.mp (List.all_eq_true.mp rows_good _ hm) pss (List.mem_of_getElem? e))
def RowG (d : D) : Prop := ∃ pss : List (List Pr2), d = .lst (pss.map polyD) ∧ Good 63 pss ∧ Ext 63 pss
abbrev s__law_shape : Stmt := topS 69
abbrev N__law_shape : List Str := ["_law_box_here", "_law_way_z", "_law_s", "_law_base", "_law_left", "_law_hexagon"]
theorem sc__law_shape : FnScope N__law_shape ["_law_box_here"] (defScope s__law_shape) := ⟨rfl, rfl, rfl, by decide +kernel, rfl, by decide +kernel, by decide +kernel⟩
abbrev ClSh (P : Program) (w : World) (K : PySem.W.Frag) (mg : Str → Option Value) (base : Heap) (k : Nat) := Cl P w K mg base k "_law_shape" s__law_shape ["_law_box_here"] (SpD K (p1 fun b => b = .box) fun _ r => RowG r)
theorem ok__law_shape {k : Nat} (G : Gn mg) (F : Df K mg "_law_shape" s__law_shape) (C__law_take : ClT P w K mg base k) (C__law_bowl : ClBo P w K mg base k) (C__law_rect : ClRe P w K mg base k) : ClSh P w K mg base (k + 1) := by
  refine cl_of F sc__law_shape (fun _ _ _ _ _ _ us hl => match us, hl with | [_], _ => rfl) p1_len fun f cdv A outer s H E hr => ⟨_, (pss_cons (ps_par (i := 1) (j := 2) (by rfl) sc__law_shape.nd rfl rfl (by decide) rfl rfl (pa_cons (pe_c C__law_take hr (by omega) (by rfl) (pa_cons (pv 0) (pa_cons pe_int pa_nil))) (pa_cons (pe_op op_add pe_int (pe_c C__law_take hr (by omega) (by rfl) (pa_cons (pv 0) (pa_cons pe_int pa_nil)))) pa_nil)) (by rfl))
      (pss_cons (ps_if (pt_cmpR op_eq (pv 1) pe_int (nomark _)) (pss_one (ps_ret (pe_lst (pa_cons (pe_c C__law_bowl hr (by omega) (by rfl) (pa_cons (pv 0) (pa_cons (pe_op op_add pe_int (pe_c C__law_take hr (by omega) (by rfl) (pa_cons (pv 0) (pa_cons pe_int pa_nil)))) pa_nil))) pa_nil)))) pss_nil)
      (pss_cons (ps_par3 (i := 3) (j := 4) (l := 5) (by rfl) sc__law_shape.nd rfl rfl rfl (by decide) (by decide) (by decide) rfl rfl rfl (pa_cons (pe_c C__law_rect hr (by omega) (by rfl) (pa_cons pe_int (pa_cons pe_int (pa_cons pe_int (pa_cons pe_int pa_nil))))) (pa_cons (pe_c C__law_rect hr (by omega) (by rfl) (pa_cons pe_int (pa_cons pe_int (pa_cons pe_int (pa_cons pe_int pa_nil))))) (pa_cons (pe_tupZ (pa_cons (pe_tupZ (pa_cons pe_int (pa_cons pe_int pa_nil))) (pa_cons (pe_tupZ (pa_cons pe_int (pa_cons pe_int pa_nil))) (pa_cons (pe_tupZ (pa_cons pe_int (pa_cons pe_int pa_nil))) (pa_cons (pe_tupZ (pa_cons pe_int (pa_cons pe_int pa_nil))) (pa_cons (pe_tupZ (pa_cons pe_int (pa_cons pe_int pa_nil))) (pa_cons (pe_tupZ (pa_cons pe_int (pa_cons pe_int pa_nil))) pa_nil))))))) pa_nil))) (by rfl))
      (pss_one (ps_ret (pe_ix (show IxR _ (rIxL K) from ix_list) (pe_lst (pa_cons (pe_lst (pa_cons (pe_c C__law_rect hr (by omega) (by rfl) (pa_cons pe_int (pa_cons pe_int (pa_cons (pv 2) (pa_cons (pv 2) pa_nil))))) pa_nil)) (pa_cons (pe_lst (pa_cons (pe_c C__law_rect hr (by omega) (by rfl) (pa_cons pe_int (pa_cons pe_int (pa_cons (pv 2) (pa_cons (pv 2) pa_nil))))) pa_nil)) (pa_cons (pe_lst (pa_cons (pe_c C__law_rect hr (by omega) (by rfl) (pa_cons pe_int (pa_cons pe_int (pa_cons (pe_op op_add (pv 2) pe_int) (pa_cons pe_int pa_nil))))) pa_nil)) (pa_cons (pe_lst (pa_cons (pe_c C__law_rect hr (by omega) (by rfl) (pa_cons pe_int (pa_cons pe_int (pa_cons (pe_op op_add (pv 2) pe_int) (pa_cons pe_int pa_nil))))) pa_nil)) (pa_cons (pe_lst (pa_cons (pe_tupZ (pa_cons (pe_tupZ (pa_cons pe_int (pa_cons pe_int pa_nil))) (pa_cons (pe_tupZ (pa_cons (pe_op op_add (pv 2) pe_int) (pa_cons pe_int pa_nil))) (pa_cons (pe_tupZ (pa_cons pe_int (pa_cons (pv 2) pa_nil))) pa_nil)))) pa_nil)) (pa_cons (pe_lst (pa_cons (pe_tupZ (pa_cons (pe_tupZ (pa_cons pe_int (pa_cons pe_int pa_nil))) (pa_cons (pe_tupZ (pa_cons (pe_op op_add (pv 2) pe_int) (pa_cons pe_int pa_nil))) (pa_cons (pe_tupZ (pa_cons (pe_op op_add (pv 2) pe_int) (pa_cons pe_int pa_nil))) (pa_cons (pe_tupZ (pa_cons pe_int (pa_cons pe_int pa_nil))) pa_nil))))) pa_nil)) (pa_cons (pe_lst (pa_cons (pv 3) (pa_cons (pe_c C__law_rect hr (by omega) (by rfl) (pa_cons pe_int (pa_cons pe_int (pa_cons pe_int (pa_cons (pe_op op_add (pv 2) pe_int) pa_nil))))) pa_nil))) (pa_cons (pe_lst (pa_cons (pv 3) (pa_cons (pe_c C__law_rect hr (by omega) (by rfl) (pa_cons pe_int (pa_cons pe_int (pa_cons pe_int (pa_cons (pe_op op_add (pv 2) pe_int) pa_nil))))) (pa_cons (pe_c C__law_rect hr (by omega) (by rfl) (pa_cons pe_int (pa_cons pe_int (pa_cons pe_int (pa_cons (pe_op op_add (pv 2) pe_int) pa_nil))))) pa_nil)))) (pa_cons (pe_lst (pa_cons (pe_c C__law_rect hr (by omega) (by rfl) (pa_cons pe_int (pa_cons pe_int (pa_cons pe_int (pa_cons pe_int pa_nil))))) pa_nil)) (pa_cons (pe_lst (pa_cons (pe_c C__law_rect hr (by omega) (by rfl) (pa_cons pe_int (pa_cons pe_int (pa_cons pe_int (pa_cons pe_int pa_nil))))) (pa_cons (pe_c C__law_rect hr (by omega) (by rfl) (pa_cons pe_int (pa_cons pe_int (pa_cons pe_int (pa_cons pe_int pa_nil))))) (pa_cons (pv 4) (pa_cons (pe_c C__law_rect hr (by omega) (by rfl) (pa_cons pe_int (pa_cons pe_int (pa_cons pe_int (pa_cons pe_int pa_nil))))) pa_nil))))) (pa_cons (pe_lst (pa_cons (pe_tupZ (pa_cons (pe_tupZ (pa_cons pe_int (pa_cons pe_int pa_nil))) (pa_cons (pe_tupZ (pa_cons pe_int (pa_cons pe_int pa_nil))) (pa_cons (pe_tupZ (pa_cons pe_int (pa_cons pe_int pa_nil))) (pa_cons (pe_tupZ (pa_cons pe_int (pa_cons (pe_op op_add pe_int (pv 2)) pa_nil))) (pa_cons (pe_tupZ (pa_cons pe_int (pa_cons pe_int pa_nil))) pa_nil)))))) pa_nil)) (pa_cons (pe_lst (pa_cons (pv 5) (pa_cons (pe_tupZ (pa_cons (pe_tupZ (pa_cons pe_int (pa_cons pe_int pa_nil))) (pa_cons (pe_tupZ (pa_cons pe_int (pa_cons pe_int pa_nil))) (pa_cons (pe_tupZ (pa_cons pe_int (pa_cons (pe_op op_add pe_int (pv 2)) pa_nil))) pa_nil)))) pa_nil))) pa_nil))))))))))))) (pv 1) (fun _ _ => rfl))))))), fun B ds hp => ?_⟩
  obtain ⟨_, rfl, rfl⟩ := p1_ex hp
  show WS K B _ [.val .box, .no, .no, .no, .no, .no] _
  try dsimp only [cxOf, Cx.nox, Cx.blk]
  repeat walk_at "dl"
  refine ⟨⟨rfl, _, rfl, by decide, by decide⟩, ?_⟩
  rintro _ ⟨n, j, e, rfl, h0, h1⟩
  cases e
  repeat walk_at "dl"
  refine ⟨⟨rfl, _, rfl, by decide, by decide⟩, ?_⟩
  rintro _ ⟨n, i, e, rfl, hi0, hi1⟩
  cases e
  repeat walk_at "dl"
  refine ite2 (fun h => ?_) (fun h => ?_)
  · repeat walk_at "dl"
    refine ⟨⟨rfl, _, rfl, by decide, by decide⟩, ?_⟩
    rintro _ ⟨n, l, e, rfl, hl0, hl1⟩
    cases e
    repeat walk_at "dl"
    refine ⟨⟨rfl, (3 + l).toNat, by rw [Int.toNat_of_nonneg (by omega)], by omega, by omega⟩, fun d hd => ?_⟩
    obtain ⟨ps, rfl, hcv, hup, hex⟩ := hd
    repeat walk_at "dl"
    exact ⟨[ps], rfl, good_one hcv hup, hex⟩
  have hj : j < 12 := by simp at h; omega
  refine ws_next ?_
  have gr := rows_at hi0 hi1
  have hrow : ∀ {X : Xc} {δ : List Sd} {ta : TA} {pss : List (List Pr2)}, Good 31 pss → WAx K B X ta δ (· = pss.map polyD) → WEx K B X (tLst ta) δ RowG := fun g h => we_lst (wax_mono h fun ds q => ⟨by rw [q, List.length_map]; have := g.l4; omega, _, by rw [q], g.mono (by decide), g.ext.mono (by decide)⟩)
  clear h hp
  have rc : ∀ {X : Xc} {δ : List Sd} {ta : TA} {a b c d : Int}, WAx K B X ta δ (· = [.int a, .int b, .int c, .int d]) → WEx K B X (tCall (SpD K (fun ds => ∃ a b c d : Int, ds = [.int a, .int b, .int c, .int d]) fun ds r => ∃ a b c d : Int, ds = [.int a, .int b, .int c, .int d] ∧ r = .tup (([(a, b), (a + c, b), (a + c, b + d), (a, b + d)] : List Pr2).map Dl.pairD)) [] E0 ta) δ (· = polyD (rectP a b c d)) := fun h => we_call (wax_mono h fun ds e => ⟨⟨_, _, _, _, e⟩, fun r ⟨a', b', c', d', e', er⟩ => by
    rw [e] at e'
    cases e'
    rw [er]
    rfl⟩)
  refine ws_seq (ws_par3 (wax_mono (P := fun ds => ds = [polyD (rectP 0 0 6 2), polyD (rectP 0 2 2 4), polyD [(1, 0), (3, 0), (4, 2), (3, 4), (1, 4), (0, 2)]]) (wa_eqc (rc ?_) (wa_eqc (rc ?_) (wa_eqc ?_ wa_eq0))) fun ds q => ?_))
  · repeat walk_at "dl"
    rfl
  · repeat walk_at "dl"
    rfl
  · repeat walk_at "dl"
    rfl
  subst q
  refine ⟨_, _, _, rfl, ?_⟩
  try dsimp only [List.set]
  refine ws_ret (we_op (wex_mono (we_lst (P := fun d => ∃ ds, d = .lst ds ∧ AllN RowG 12 ds) (wax_mono (P := AllN RowG 12) ?_ fun ds q => ⟨by rw [q.1]; decide, ds, rfl, q⟩)) fun d ⟨ds, e, q⟩ => ?_))
  · refine wa_all (hrow (gr 0 _ rfl) (wa_eqc (rc ?_) wa_eq0)) (wa_all (hrow (gr 1 _ rfl) (wa_eqc (rc ?_) wa_eq0)) (wa_all (hrow (gr 2 _ rfl) (wa_eqc (rc ?_) wa_eq0)) (wa_all (hrow (gr 3 _ rfl) (wa_eqc (rc ?_) wa_eq0)) (wa_all (hrow (gr 4 _ rfl) (wa_eqc ?_ wa_eq0)) (wa_all (hrow (gr 5 _ rfl) (wa_eqc ?_ wa_eq0))
      (wa_all (hrow (gr 6 _ rfl) (wa_eqc ?_ (wa_eqc (rc ?_) wa_eq0))) (wa_all (hrow (gr 7 _ rfl) (wa_eqc ?_ (wa_eqc (rc ?_) (wa_eqc (rc ?_) wa_eq0)))) (wa_all (hrow (gr 8 _ rfl) (wa_eqc (rc ?_) wa_eq0)) (wa_all (hrow (gr 9 _ rfl) (wa_eqc (rc ?_) (wa_eqc (rc ?_) (wa_eqc ?_ (wa_eqc (rc ?_) wa_eq0))))) (wa_all (hrow (gr 10 _ rfl) (wa_eqc ?_ wa_eq0)) (wa_all (hrow (gr 11 _ rfl) (wa_eqc ?_ (wa_eqc ?_ wa_eq0))) wa_all0)))))))))))
    all_goals (repeat walk_at "dl")
    all_goals rfl
  · subst e
    refine we_var rfl ?_
    obtain ⟨m, rfl⟩ : ∃ m : Nat, j = m := ⟨j.toNat, by omega⟩
    have hm : m < ds.length := by rw [q.1]; omega
    refine ro_ixL (atI_nat (List.getElem?_eq_getElem hm)) ?_
    exact q.2 _ (List.getElem_mem hm)

end
/-! #### Fh -/
/-! ### sorted of parts, by data -/
section
variable {K : PySem.W.Frag} {B : Bt} {Q : D → Prop}
theorem dp_part {G H : Hp} {v : V} {ps : List Pr2} (o : Ok B G H) (h : Dd K B G v (polyD ps)) : Dp K H v (partP ps) := by
  unfold polyD at h
  cases h with
  | tup hg t => exact .tup (SqT.ofZ (o.u _ _ hg.1)) (dpa_pr o ps t)
theorem dpa_part {G H : Hp} (o : Ok B G H) : ∀ (pss : List (List Pr2)) {vs : List V}, Dds K B G vs (pss.map polyD) → DpAll K H vs (pss.map partP)
  | [], _, .nil => .nil
  | _ :: pss, _, .cons h t => .cons (dp_part o h) (dpa_part o pss t)
theorem partP_inj {a b : List Pr2} (h : partP a = partP b) : a = b := by
  unfold partP at h
  have h1 := PyData.tuple.inj h
  exact toks_inj (by rw [h1])
theorem each_part {G : Hp} : ∀ (pss : List (List Pr2)) {vs : List V}, Dds K B G vs (pss.map polyD) → PySem.W.EachIs (fun v d => ∃ ps, d = partP ps ∧ Dd K B G v (polyD ps)) vs (pss.map partP)
  | [], _, .nil => .nil
  | ps :: pss, _, .cons h t => .cons ⟨ps, rfl, h⟩ (each_part pss t)
theorem each_back {G : Hp} : ∀ (pss : List (List Pr2)) {vs : List V}, PySem.W.EachIs (fun v d => ∃ ps, d = partP ps ∧ Dd K B G v (polyD ps)) vs (pss.map partP) → Dds K B G vs (pss.map polyD)
  | [], _, .nil => .nil
  | ps :: pss, _, .cons ⟨qs, e, h⟩ t => .cons (by rw [partP_inj e]; exact h) (each_back pss t)
theorem alike_part (a b : List Pr2) : PySem.W.alike (partP a) (partP b) = true := by
  unfold partP
  rw [PySem.W.alike]
  induction a generalizing b with
  | nil => simp [PySem.W.alikeAll]
  | cons p a ih =>
    cases b with
    | nil => simp [PySem.W.alikeAll]
    | cons q b =>
      rw [List.map_cons, List.map_cons, PySem.W.alikeAll, ih b]
      simp [pairP, PySem.W.alike, PySem.W.alikeAll]
theorem refs_part {G : Hp} : ∀ (pss : List (List Pr2)) {vs : List V}, Dds K B G vs (pss.map polyD) → ∀ v ∈ vs, ∃ b, v = V.ref b
  | [], _, .nil => fun _ z => nomatch z
  | ps :: pss, _, .cons h t => fun v hv => by
    rcases List.mem_cons.mp hv with e | hv
    · rw [e]
      unfold polyD at h
      cases h with
      | tup hg t => exact ⟨_, rfl⟩
    · exact refs_part pss t v hv
theorem rc_sortQ {pss : List (List Pr2)} (ne : ∀ ps ∈ pss, ps ≠ []) (hl : pss.length ≤ 1000) (h : Q (.lst ((sortP pss).map polyD))) : RC K B (rSortD K) [.lst (pss.map polyD)] Q := fun G H vs R o hs q => by
  cases hs with
  | cons h1 t1 =>
    cases t1
    cases h1 with
    | lst hg t =>
      refine ⟨_, _, pss.map partP, rfl, SqL.of (o.u _ _ hg), dpa_part o pss t, ?_, .inl ?_, ?_, by rw [t.length, List.length_map]; exact hl, refs_part pss t, fun ys p hy each hp => ?_⟩
      · intro x hx y hy
        obtain ⟨a, _, rfl⟩ := List.mem_map.mp hx
        obtain ⟨b, _, rfl⟩ := List.mem_map.mp hy
        exact alike_part a b
      · intro x hx
        obtain ⟨a, ha, rfl⟩ := List.mem_map.mp hx
        cases a with
        | nil => exact absurd rfl (ne _ ha)
        | cons p a => exact ⟨_, _, rfl⟩
      · intro x hx
        obtain ⟨a, _, rfl⟩ := List.mem_map.mp hx
        have := dep_pairPs a
        simp only [partP, PyData.depth]
        omega
      · have e := each _ (each_part pss t)
        rw [sortP_data] at e
        exact q.new o nt_lst hp (.lst upd_same ((each_back _ e).mono (same_upd (o.fresh hp)))) h
end
/-! #### Fi -/
section
variable {P : Program} {w : World} {K : PySem.W.Frag} {mg : Str → Option Value} {base : Heap}
/-! ### ei -/
/-! ### _law_arranged -/
/-- parts as a list of data -/
def partsD (pss : List (List Pr2)) : D := .lst (pss.map polyD)
abbrev s__law_arranged : Stmt := topS 66
abbrev N__law_arranged : List Str := ["_law_polys", "_law_p"]
theorem sc__law_arranged : FnScope N__law_arranged ["_law_polys"] (defScope s__law_arranged) := ⟨rfl, rfl, rfl, by decide +kernel, rfl, by decide +kernel, by decide +kernel⟩
abbrev ClAg (P : Program) (w : World) (K : PySem.W.Frag) (mg : Str → Option Value) (base : Heap) (k : Nat) := Cl P w K mg base k "_law_arranged" s__law_arranged ["_law_polys"] (SpD K (p1 fun d => ∃ (pss : List (List Pr2)) (n : Int), d = partsD pss ∧ Good n pss) fun ds r => ∃ pss : List (List Pr2), ds = [partsD pss] ∧ r = partsD (sortP (pss.map toldP)))
theorem Good.n0 {n : Int} {pss : List (List Pr2)} (h : Good n pss) {ps : List Pr2} (hp : ps ∈ pss) : ps ≠ [] := fun z => by have := (h.cv ps hp).h3; rw [z] at this; exact absurd this (by decide)
theorem polyD_inj {a b : List Pr2} (h : polyD a = polyD b) : a = b := prs_inj (D.tup.inj h)
theorem partsD_inj {a b : List (List Pr2)} (h : partsD a = partsD b) : a = b := (List.map_inj_right fun _ _ h => polyD_inj h).mp (D.lst.inj h)
theorem ok__law_arranged {k : Nat} (G : Gn mg) (F : Df K mg "_law_arranged" s__law_arranged) (C__law_told : ClTd P w K mg base k) : ClAg P w K mg base (k + 1) := by
  refine cl_of F sc__law_arranged (fun _ _ _ _ _ _ us hl => match us, hl with | [_], _ => rfl) p1_len fun f cdv A outer s H E hr => ⟨_, (pss_one (ps_ret (pe_callB (show CallR _ (.builtin "sorted") (Dl.rSortD K) from Dl.cr_sortD (Dl.u60 hr)) (by rfl) G.g_sorted (by decide +kernel) (pa_cons (pe_lc (own := [("_law_p", 1)]) (g := gName 1) (tt := tYes) rfl sc__law_arranged.nd (pi_list (pv 0)) (blkOk_by (N := N__law_arranged) (sc := defScope s__law_arranged) (by decide +kernel)) (fun _ _ _ _ _ => pg_name (i := 1) sc__law_arranged.nd rfl (Or.inl rfl)) (fun _ _ _ _ _ => pts_nil) (fun _ _ _ _ _ => (pe_c C__law_told hr (by omega) (by rfl) (pa_cons (pv 1) pa_nil)))) pa_nil)))), fun B ds hp => ?_⟩
  obtain ⟨_, rfl, pss, nn, rfl, g⟩ := p1_ex hp
  show WS K B _ [.val (partsD pss), .no] _
  try dsimp only [cxOf, Cx.nox, Cx.blk]
  have gl := g.l4
  refine ws_ret (we_cb (wa_cons (we_lc (wi_list (we_var rfl ⟨pss.map polyD, rfl, by rw [List.length_map]; omega, fun n acc => acc = ((pss.take n).map toldP).map polyD, rfl, ?_, ?_⟩)))))
  · rintro n d acc hd hacc
    have hacc' : acc = ((pss.take n).map toldP).map polyD := hacc
    rw [List.getElem?_map] at hd
    obtain ⟨q, hq, rfl⟩ : ∃ q, pss[n]? = some q ∧ polyD q = d := by
      cases e : pss[n]? with
      | none => rw [e] at hd; cases hd
      | some q => rw [e] at hd; exact ⟨q, rfl, Option.some.inj hd⟩
    have hm := List.mem_of_getElem? hq
    try dsimp only [List.set]
    refine wt_yes ?_
    rw [if_pos rfl]
    refine we_call (wa_cons (we_var rfl (wa_nil ⟨⟨q, rfl, g.n0 hm, by have := (g.cv q hm).h6; omega⟩, ?_⟩)))
    rintro _ ⟨q', e, rfl⟩
    have e1 := prs_inj (D.tup.inj (List.cons.inj e).1)
    subst e1
    show acc ++ [polyD (toldP q)] = ((pss.take (n + 1)).map toldP).map polyD
    rw [hacc', List.take_add_one, hq, List.map_append, List.map_append]
    rfl
  · rintro acc hacc
    have hacc' : acc = ((pss.take (pss.map polyD).length).map toldP).map polyD := hacc
    rw [List.length_map, List.take_length] at hacc'
    rw [hacc']
    exact wa_nil (rc_sortQ (fun ps hp => (g.told).n0 hp) (by rw [List.length_map]; omega) ⟨pss, rfl, rfl⟩)

end
/-! #### Fj -/
section
variable {P : Program} {w : World} {K : PySem.W.Frag} {mg : Str → Option Value} {base : Heap}
/-! ### nh -/
/-- the least and the greatest of the corners -/
structure Hul (pss : List (List Pr2)) (a b c d : Int) : Prop where
  in_ : ∀ ps ∈ pss, ∀ p ∈ ps, (a ≤ p.1 ∧ p.1 ≤ c) ∧ b ≤ p.2 ∧ p.2 ≤ d
  a_ : ∃ ps ∈ pss, ∃ p ∈ ps, p.1 = a
  b_ : ∃ ps ∈ pss, ∃ p ∈ ps, p.2 = b
  c_ : ∃ ps ∈ pss, ∃ p ∈ ps, p.1 = c
  d_ : ∃ ps ∈ pss, ∃ p ∈ ps, p.2 = d
def allC (f : Pr2 → Int) (pss : List (List Pr2)) : List Int := pss.flatMap fun ps => ps.map f
theorem mem_allC {f : Pr2 → Int} {pss : List (List Pr2)} {x : Int} : x ∈ allC f pss ↔ ∃ ps ∈ pss, ∃ p ∈ ps, f p = x := by
  unfold allC
  rw [List.mem_flatMap]
  constructor
  · rintro ⟨ps, hp, h⟩
    obtain ⟨p, hm, e⟩ := List.mem_map.mp h
    exact ⟨ps, hp, p, hm, e⟩
  · rintro ⟨ps, hp, p, hm, e⟩
    exact ⟨ps, hp, List.mem_map.mpr ⟨p, hm, e⟩⟩
theorem allC_len {f : Pr2 → Int} : ∀ {pss : List (List Pr2)}, (∀ ps ∈ pss, ps.length ≤ 6) → (allC f pss).length ≤ 6 * pss.length
  | [], _ => Nat.zero_le _
  | ps :: pss, h => by
    have h1 := h ps List.mem_cons_self
    have h2 := allC_len (f := f) (pss := pss) fun q hq => h q (List.mem_cons_of_mem _ hq)
    unfold allC at *
    rw [List.flatMap_cons, List.length_append, List.length_map, List.length_cons]
    omega
theorem allC_take {f : Pr2 → Int} {pss : List (List Pr2)} {n : Nat} {q : List Pr2} (h : pss[n]? = some q) : (allC f (pss.take (n + 1))).map D.int = (allC f (pss.take n)).map D.int ++ q.map fun c => D.int (f c) := by
  unfold allC
  rw [List.take_add_one, h, List.flatMap_append, List.map_append]
  congr 1
  show List.map D.int (List.flatMap _ [q]) = _
  rw [List.flatMap_cons, List.flatMap_nil, List.append_nil, List.map_map]
  rfl
abbrev s__law_hull : Stmt := topS 70
abbrev N__law_hull : List Str := ["_law_polys", "_law_p", "_law_xs", "_law_ys", "_law_c"]
theorem sc__law_hull : FnScope N__law_hull ["_law_polys"] (defScope s__law_hull) := ⟨rfl, rfl, rfl, by decide +kernel, rfl, by decide +kernel, by decide +kernel⟩
abbrev ClHu (P : Program) (w : World) (K : PySem.W.Frag) (mg : Str → Option Value) (base : Heap) (k : Nat) := Cl P w K mg base k "_law_hull" s__law_hull ["_law_polys"] (SpD K (p1 fun y => ∃ pss : List (List Pr2), y = partsD pss ∧ Good 200 pss) fun ds r => ∃ (pss : List (List Pr2)) (a b c d : Int), ds = [partsD pss] ∧ r = .tup [.int a, .int b, .int c, .int d] ∧ Hul pss a b c d)
theorem ok__law_hull {k : Nat} (G : Gn mg) (F : Df K mg "_law_hull" s__law_hull) : ClHu P w K mg base (k + 1) := by
  refine cl_of F sc__law_hull (fun _ _ _ _ _ _ us hl => match us, hl with | [_], _ => rfl) p1_len fun f cdv A outer s H E hr => ⟨_, (pss_cons (ps_par (i := 2) (j := 3) (by rfl) sc__law_hull.nd rfl rfl (by decide) rfl rfl (pa_cons (pe_lst pa_nil) (pa_cons (pe_lst pa_nil) pa_nil)) (by rfl))
      (pss_cons (ps_for PassesOwn.never rfl (pi_list (pv 0)) (pg_name (i := 1) sc__law_hull.nd rfl (Or.inl rfl)) (pss_cons (ps_set (i := 2) sc__law_hull.nd rfl (Or.inl rfl) (pe_op op_cat (pv 2) (pe_lc (own := [("_law_c", 4)]) (g := gName 4) (tt := tYes) rfl sc__law_hull.nd (pi_tup (pv 1)) (blkOk_by (N := N__law_hull) (sc := defScope s__law_hull) (by decide +kernel)) (fun _ _ _ _ _ => pg_name (i := 4) sc__law_hull.nd rfl (Or.inl rfl)) (fun _ _ _ _ _ => pts_nil) (fun _ _ _ _ _ => (pe_ix (show IxR _ (rIxT K) from ix_tup) (pv 4) pe_int (fun _ _ => rfl))))))
      (pss_one (ps_set (i := 3) sc__law_hull.nd rfl (Or.inl rfl) (pe_op op_cat (pv 3) (pe_lc (own := [("_law_c", 4)]) (g := gName 4) (tt := tYes) rfl sc__law_hull.nd (pi_tup (pv 1)) (blkOk_by (N := N__law_hull) (sc := defScope s__law_hull) (by decide +kernel)) (fun _ _ _ _ _ => pg_name (i := 4) sc__law_hull.nd rfl (Or.inl rfl)) (fun _ _ _ _ _ => pts_nil) (fun _ _ _ _ _ => (pe_ix (show IxR _ (rIxT K) from ix_tup) (pv 4) pe_int (fun _ _ => rfl)))))))))
      (pss_one (ps_ret (pe_tupZ (pa_cons (pe_callB (show CallR _ (.builtin "min") (rMin K) from cr_min rfl) (by rfl) G.g_min (by decide +kernel) (pa_cons (pv 2) pa_nil)) (pa_cons (pe_callB (show CallR _ (.builtin "min") (rMin K) from cr_min rfl) (by rfl) G.g_min (by decide +kernel) (pa_cons (pv 3) pa_nil)) (pa_cons (pe_callB (show CallR _ (.builtin "max") (rMax K) from cr_max rfl) (by rfl) G.g_max (by decide +kernel) (pa_cons (pv 2) pa_nil)) (pa_cons (pe_callB (show CallR _ (.builtin "max") (rMax K) from cr_max rfl) (by rfl) G.g_max (by decide +kernel) (pa_cons (pv 3) pa_nil)) pa_nil))))))))), fun B ds hp => ?_⟩
  obtain ⟨_, rfl, pss, rfl, g⟩ := p1_ex hp
  show WS K B _ [.val (partsD pss), .no, .no, .no, .no] _
  try dsimp only [cxOf, Cx.nox, Cx.blk]
  have gl := g.l4
  have ml : ∀ n, (pss.take n).length ≤ 4 := fun n => by rw [List.length_take]; omega
  have m6 : ∀ n, ∀ ps ∈ pss.take n, ps.length ≤ 6 := fun n ps h => (g.cv ps (List.mem_of_mem_take h)).h6
  repeat walk_at "dl"
  try dsimp only [List.set]
  refine ws_for (wi_list (we_var rfl ⟨_, rfl, fun n δ1 => ∃ y1 y2, δ1 = [.val (partsD pss), y1, .val (.lst ((allC (·.1) (pss.take n)).map D.int)), .val (.lst ((allC (·.2) (pss.take n)).map D.int)), y2], ⟨_, _, rfl⟩, ?_, ?_⟩))
  · rintro n d δ1 hd ⟨y1, y2, rfl⟩
    rw [List.getElem?_map] at hd
    obtain ⟨q, hq, rfl⟩ : ∃ q, pss[n]? = some q ∧ polyD q = d := by
      cases e : pss[n]? with
      | none => rw [e] at hd; cases hd
      | some q => rw [e] at hd; exact ⟨q, rfl, Option.some.inj hd⟩
    have h6 := (g.cv q (List.mem_of_getElem? hq)).h6
    have l1 := allC_len (f := (·.1)) (m6 n)
    have l2 := allC_len (f := (·.2)) (m6 n)
    have l3 := ml n
    try dsimp only [List.set]
    refine ws_seq (ws_set (we_op ?_))
    refine we_var rfl ?_
    refine we_lcQ (ps := q) (fun c => .int c.1) (by omega) (wi_tup (we_var rfl ⟨_, rfl, rfl⟩)) (fun c hc => we_op (we_var rfl (we_int (ix0 rfl)))) (ro_cat ?_ ?_)
    · rw [List.length_map, List.length_map]; omega
    try dsimp only [List.set]
    refine ws_set (we_op ?_)
    refine we_var rfl ?_
    refine we_lcQ (ps := q) (fun c => .int c.2) (by omega) (wi_tup (we_var rfl ⟨_, rfl, rfl⟩)) (fun c hc => we_op (we_var rfl (we_int (ix1 rfl)))) (ro_cat ?_ ?_)
    · rw [List.length_map, List.length_map]; omega
    try dsimp only [List.set]
    refine ⟨.val (polyD q), y2, ?_⟩
    rw [allC_take (f := (·.1)) hq, allC_take (f := (·.2)) hq]
  · rintro δ1 ⟨y1, y2, rfl⟩
    rw [List.length_map, List.take_length]
    obtain ⟨p0, hp0⟩ : ∃ p0, p0 ∈ pss := by
      cases h : pss with
      | nil => exact absurd h g.ne
      | cons p _ => exact ⟨p, List.mem_cons_self⟩
    have h3 := (g.cv p0 hp0).h3
    obtain ⟨c0, hc0⟩ : ∃ c0, c0 ∈ p0 := by
      cases h : p0 with
      | nil => rw [h] at h3; exact absurd h3 (by decide)
      | cons p _ => exact ⟨p, List.mem_cons_self⟩
    have l1 : 0 < (allC (·.1) pss).length := List.length_pos_of_mem (mem_allC.mpr ⟨p0, hp0, c0, hc0, rfl⟩)
    have l2 : 0 < (allC (·.2) pss).length := List.length_pos_of_mem (mem_allC.mpr ⟨p0, hp0, c0, hc0, rfl⟩)
    refine ws_ret (we_tup (wa_cons (we_cb (wa_cons (we_var rfl (wa_nil (rc_min (ns := allC (·.1) pss) l1 fun a ha ka => ?_)))))))
    refine wa_cons (we_cb (wa_cons (we_var rfl (wa_nil (rc_min (ns := allC (·.2) pss) l2 fun b hb kb => ?_)))))
    refine wa_cons (we_cb (wa_cons (we_var rfl (wa_nil (rc_max (ns := allC (·.1) pss) l1 fun c hc kc => ?_)))))
    refine wa_cons (we_cb (wa_cons (we_var rfl (wa_nil (rc_max (ns := allC (·.2) pss) l2 fun d hd kd => ?_)))))
    refine wa_nil ⟨by show 4 ≤ 1000; decide, pss, a, b, c, d, rfl, rfl, ?_⟩
    exact ⟨fun ps hps p hp => ⟨⟨ka _ (mem_allC.mpr ⟨ps, hps, p, hp, rfl⟩), kc _ (mem_allC.mpr ⟨ps, hps, p, hp, rfl⟩)⟩, kb _ (mem_allC.mpr ⟨ps, hps, p, hp, rfl⟩), kd _ (mem_allC.mpr ⟨ps, hps, p, hp, rfl⟩)⟩, mem_allC.mp ha, mem_allC.mp hb, mem_allC.mp hc, mem_allC.mp hd⟩

end
/-! #### Fl -/
section
variable {P : Program} {w : World} {K : PySem.W.Frag} {mg : Str → Option Value} {base : Heap}
/-! ### el -/
/-! ### first_loose -/
/-- parts in a list or a tuple -/
def PAny (d : D) (pss : List (List Pr2)) : Prop := d = .lst (pss.map polyD) ∨ d = .tup (pss.map polyD)
abbrev kd (R : List Nat) : List (Key × V) := R.map fun (k : Nat) => ((.inl (k : Int) : Key), V.bl true)
theorem kd_get : ∀ (R : List Nat) (i : Nat), (valV (kd R) (.inl (i : Int))).isSome = decide (i ∈ R)
  | [], i => by simp [valV]
  | k :: R, i => by
    by_cases h : k = i
    · subst h
      rw [show kd (k :: R) = ((.inl (k : Int) : Key), V.bl true) :: kd R from rfl, valV_pos rfl]
      simp
    · rw [show kd (k :: R) = ((.inl (k : Int) : Key), V.bl true) :: kd R from rfl, valV_neg (by intro e; exact h (by have := Sum.inl.inj e; omega)), kd_get R i]
      simp [Ne.symm h]
abbrev jn (pss : List (List Pr2)) (k j : Nat) : Bool := joB (pss.getD k []) (pss.getD j [])
structure LInv (pss : List (List Pr2)) (R L : List Nat) : Prop where
  nd : R.Nodup
  lt : ∀ k ∈ R, k < pss.length
  z : 0 ∈ R
  sub : ∀ k ∈ L, k ∈ R
  ll : L.length ≤ R.length
  pr : ∀ k ∈ R, k ∉ L → ∀ j, j < pss.length → jn pss k j = true → j ∈ R
structure MInv (pss : List (List Pr2)) (h i : Nat) (R L : List Nat) : Prop where
  nd : R.Nodup
  lt : ∀ k ∈ R, k < pss.length
  z : 0 ∈ R
  sub : ∀ k ∈ L, k ∈ R
  ll : L.length ≤ R.length
  hm : h ∈ R
  pr : ∀ k ∈ R, k ∉ L → k = h ∨ ∀ j, j < pss.length → jn pss k j = true → j ∈ R
  ph : ∀ j, j < i → jn pss h j = true → j ∈ R
theorem LInv.start {pss : List (List Pr2)} (h : 0 < pss.length) : LInv pss [0] [0] :=
  ⟨by simp, fun k hk => by rw [List.mem_singleton.mp hk]; exact h, by simp, fun k hk => hk, Nat.le_refl _, fun k hk hn => absurd hk hn⟩
theorem LInv.pop {pss : List (List Pr2)} {R L : List Nat} {h : Nat} (v : LInv pss R (L ++ [h])) : MInv pss h 0 R L :=
  ⟨v.nd, v.lt, v.z, fun k hk => v.sub k (List.mem_append_left _ hk), by have := v.ll; rw [List.length_append] at this; omega, v.sub h (by simp), fun k hk hn => by
    by_cases e : k = h
    · exact .inl e
    · exact .inr (v.pr k hk (by simp [hn, e])), fun j hj => absurd hj (Nat.not_lt_zero j)⟩
theorem MInv.skip {pss : List (List Pr2)} {R L : List Nat} {h i : Nat} (v : MInv pss h i R L) (hi : i ∈ R ∨ jn pss h i = false) : MInv pss h (i + 1) R L :=
  ⟨v.nd, v.lt, v.z, v.sub, v.ll, v.hm, v.pr, fun j hj hjn => by
    by_cases e : j = i
    · subst e
      rcases hi with hi | hi
      · exact hi
      · rw [hi] at hjn; cases hjn
    · exact v.ph j (by omega) hjn⟩
theorem MInv.push {pss : List (List Pr2)} {R L : List Nat} {h i : Nat} (v : MInv pss h i R L) (hi : i ∉ R) (hl : i < pss.length) : MInv pss h (i + 1) (R ++ [i]) (L ++ [i]) := by
  refine ⟨?_, fun k hk => ?_, List.mem_append_left _ v.z, fun k hk => ?_, by have := v.ll; simp only [List.length_append, List.length_singleton]; omega, List.mem_append_left _ v.hm, fun k hk hn => ?_, fun j hj hjn => ?_⟩
  · rw [List.nodup_append]
    exact ⟨v.nd, by simp, fun a ha b hb e => hi (by rw [List.mem_singleton.mp hb] at e; rw [← e]; exact ha)⟩
  · rcases List.mem_append.mp hk with z | z
    · exact v.lt k z
    · rw [List.mem_singleton.mp z]; exact hl
  · rcases List.mem_append.mp hk with z | z
    · exact List.mem_append_left _ (v.sub k z)
    · exact List.mem_append_right _ z
  · rcases List.mem_append.mp hk with z | z
    · rcases v.pr k z (fun q => hn (List.mem_append_left _ q)) with e | e
      · exact .inl e
      · exact .inr fun j hj hjn => List.mem_append_left _ (e j hj hjn)
    · exact absurd (List.mem_append_right _ z) hn
  · by_cases e : j = i
    · exact List.mem_append_right _ (by simp [e])
    · exact List.mem_append_left _ (v.ph j (by omega) hjn)
theorem MInv.done {pss : List (List Pr2)} {R L : List Nat} {h : Nat} (v : MInv pss h pss.length R L) : LInv pss R L :=
  ⟨v.nd, v.lt, v.z, v.sub, v.ll, fun k hk hn j hj hjn => by
    rcases v.pr k hk hn with e | e
    · subst e; exact v.ph j hj hjn
    · exact e j hj hjn⟩
theorem nodup_len : ∀ {n : Nat} {R : List Nat}, R.Nodup → (∀ k ∈ R, k < n) → R.length ≤ n
  | 0, R, _, h => by cases R with
    | nil => exact Nat.le_refl _
    | cons a R => exact absurd (h a List.mem_cons_self) (Nat.not_lt_zero a)
  | n + 1, R, nd, h => by
    have h1 : (R.erase n).length ≤ n := nodup_len (nd.erase n) fun k hk => by
      have h2 := h k (List.mem_of_mem_erase hk)
      have h3 : k ≠ n := fun e => by subst e; exact nd.not_mem_erase hk
      omega
    have h2 := List.length_erase (a := n) (l := R)
    split at h2 <;> omega
theorem LInv.all {n : Int} {pss : List (List Pr2)} {R : List Nat} (g : Good n pss) (v : LInv pss R []) : ∀ j, j < pss.length → j ∈ R := by
  intro j hj
  have nd := g.nd
  obtain ⟨k, hk, e⟩ := g.cn (fun p => ∃ k ∈ R, pss.getD k [] = p) ⟨pss.getD 0 [], by
    have h0 := v.lt 0 v.z
    rw [List.getD_eq_getElem?_getD, List.getElem?_eq_getElem h0]
    exact List.getElem_mem h0, 0, v.z, rfl⟩ (by
    rintro p hp q hq ⟨k, hk, rfl⟩ jo
    obtain ⟨l, hl, rfl⟩ := List.getElem_of_mem hq
    have e : pss.getD l [] = pss[l] := by rw [List.getD_eq_getElem?_getD, List.getElem?_eq_getElem hl]; rfl
    exact ⟨l, v.pr k hk (by simp) l hl (by show joB _ _ = true; rw [e]; exact jo), e⟩) pss[j] (List.getElem_mem hj)
  have hk' := v.lt k hk
  rw [List.getD_eq_getElem?_getD, List.getElem?_eq_getElem hk'] at e
  have : k = j := (List.getElem_inj nd).mp e
  rw [← this]
  exact hk
abbrev s_first_loose : Stmt := topS 40
abbrev N_first_loose : List Str := ["parts", "reached", "ahead", "at", "here", "part"]
theorem sc_first_loose : FnScope N_first_loose ["parts"] (defScope s_first_loose) := ⟨rfl, rfl, rfl, by decide +kernel, rfl, by decide +kernel, by decide +kernel⟩
abbrev ClFl (P : Program) (w : World) (K : PySem.W.Frag) (mg : Str → Option Value) (base : Heap) (k : Nat) := Cl P w K mg base k "first_loose" s_first_loose ["parts"] (SpD K (p1 fun d => ∃ (pss : List (List Pr2)) (n : Int), PAny d pss ∧ Good n pss ∧ n ≤ 10000000) fun _ r => r = .non)
theorem ok_first_loose {k : Nat} (G : Gn mg) (F : Df K mg "first_loose" s_first_loose) (C_joined : ClJo P w K mg base k) : ClFl P w K mg base (k + 1) := by
  refine cl_of F sc_first_loose (fun _ _ _ _ _ _ us hl => match us, hl with | [_], _ => rfl) p1_len fun f cdv A outer s H E hr => ⟨_, (pss_cons (ps_set (i := 1) sc_first_loose.nd rfl (Or.inl rfl) (pe_disp (pps_cons pe_int pe_bl pps_nil) (by rfl) (by rfl) (fun z => by cases z) (by decide)))
      (pss_cons (ps_set (i := 2) sc_first_loose.nd rfl (Or.inl rfl) (pe_lst (pa_cons pe_int pa_nil)))
      (pss_cons (ps_while PassesOwn.never (pt_truth (pv 2) (fun _ => rfl)) (pss_cons (ps_set (i := 4) sc_first_loose.nd rfl (Or.inl rfl) (pe_bm0 PySem.F.plainAttrs_list PySem.F.slot_list_pop PySem.F.type_list_pop mt_pop (pv 2) ))
      (pss_one (ps_for PassesOwn.never rfl (Dl.pi_enumA rfl G.g_enumerate (pa_cons (pv 0) pa_nil)) (show PG _ _ (gTup K 2 (gCons (gName 3) (gCons (gName 5) gNil))) from pg_tup rfl (pgs_cons (pg_name (i := 3) sc_first_loose.nd rfl (Or.inl rfl)) (pgs_cons (pg_name (i := 5) sc_first_loose.nd rfl (Or.inl rfl)) pgs_nil))) (pss_one (ps_if (PW.pt (pw_and (pt_cmpR (show OpR _ (compareOp .NotIn) Dl.rNotInK from Dl.op_dnotin (Dl.u1 hr)) (pv 3) (pv 1) (by rfl)) (pw_and1 (pt_val (pe_c C_joined hr (by omega) (by rfl) (pa_cons (pe_ix (show IxR _ (rIx K) from ix_seq) (pv 0) (pv 4) (fun _ _ => rfl)) (pa_cons (pv 5) pa_nil))))))) (pss_cons (ps_asg pe_bl (pg_sub (pv 1) (pv 3) (set_dict (Dl.u1 hr))))
      (pss_one (ps_expr (pe_bm PySem.F.plainAttrs_list PySem.F.slot_list_append PySem.F.type_list_append mt_append (pv 2) (pa_cons (pv 3) pa_nil))))) pss_nil))))))
      (pss_cons (ps_for PassesOwn.never rfl (pi_range1 rfl G.g_range (pa_cons (pe_callB (show CallR _ (.builtin "len") (fun xs H Q => ∃ x n, xs = [x] ∧ LenV K x H n ∧ Q (.int n) H) from call_len) (by rfl) G.g_len (by decide +kernel) (pa_cons (pv 0) pa_nil)) pa_nil)) (pg_name (i := 3) sc_first_loose.nd rfl (Or.inl rfl)) (pss_one (ps_if (pt_cmpR (show OpR _ (compareOp .NotIn) Dl.rNotInK from Dl.op_dnotin (Dl.u1 hr)) (pv 3) (pv 1) (by rfl)) (pss_one (ps_ret (pv 3))) pss_nil)))
      (pss_one (ps_ret pe_non)))))), fun B ds hp => ?_⟩
  obtain ⟨d, rfl, pss, nn, hd, g, hnn⟩ := p1_ex hp
  have gl := g.l4
  have g0 : 0 < pss.length := by
    rcases Nat.eq_zero_or_pos pss.length with z | z
    · exact absurd (List.length_eq_zero_iff.mp z) g.ne
    · exact z
  have few : ∀ i, i < pss.length → Few 10000000 (pss.getD i []) := fun i hi => by
    rw [List.getD_eq_getElem?_getD, List.getElem?_eq_getElem hi]
    have hm := List.getElem_mem hi
    exact ⟨(g.cv _ hm).h3, by have := (g.cv _ hm).h6; show pss[i].length ≤ 7; omega, fun p hp => upto_le (g.up _ hm p hp) hnn⟩
  have atd : ∀ i, i < pss.length → atI (pss.map polyD) (i : Int) = some (polyD (pss.getD i [])) := fun i hi => atI_nat (by rw [List.getElem?_map, List.getElem?_eq_getElem hi, List.getD_eq_getElem?_getD, List.getElem?_eq_getElem hi]; rfl)
  show WS K B _ [.val d, .no, .no, .no, .no, .no] _
  try dsimp only [cxOf, Cx.nox, Cx.blk]
  intro G0 H0 σ G H E s xx n r b c p hp
  refine ⟨upd_same, [((.inl 0 : Key), V.bl true)], rfl, by decide, ?_⟩
  rw [upd_upd, show mergeK [] [((.inl 0 : Key), V.bl true)] = kd [0] from rfl]
  obtain ⟨bs, s1⟩ := s.up (kvs := kd [0]) hp 1
  have rno : ∀ {kvs : List (Key × V)} {r : VK} {nx : List Sd → Prop}, RT K B { nx := nx, rt := fun _ => False } G0 (upd H0 p (.dK kvs)) r := ⟨fun _ _ _ _ _ _ _ z => z.elim, fun _ _ _ _ _ _ _ _ _ _ _ _ z => z.elim⟩
  have xno : ∀ {Hb G : Hp}, XS K B {} G0 Hb G := xs_no fun _ _ _ _ z => z
  refine (ws_setOwn (i := 2) (O := { nx := fun δ1 => δ1 = [.val d, .val (.adr p), .own [.int 0], .no, .no, .no], rt := fun _ => False }) (wa_cons (we_int (wa_nil ⟨by decide, rfl⟩)))) _ _ _ _ _ _ s1 xno ?_ rno (fun _ _ _ _ _ _ z => z.elim) (fun _ _ _ _ _ _ z => z.elim)
  rintro σ2 _ G2 H2 sm2 s2 rfl
  refine ⟨fun m σ H => ∃ G3 R L y3 y4 y5, Stt K B G0 (upd H0 p (.dK (kd R))) G3 H σ [.val d, .val (.adr p), .own (L.map fun (k : Nat) => D.int (k : Int)), y3, y4, y5] ∧ Same G G3 ∧ LInv pss R L ∧ m = 2 * (pss.length - R.length) + L.length, ⟨_, G2, [0], [0], _, _, _, s2, sm2, LInv.start g0, rfl⟩, ?_⟩
  rintro m σ3 H3 ⟨G3, R, L, y3, y4, y5, s3, sm3, inv, hm⟩
  obtain ⟨a, vs, e1, nb, e0, eg, e2, e3⟩ := s3.own 2 _ rfl
  refine ⟨_, e1, !vs.isEmpty, .inl ⟨vs, SqL.of e2, rfl⟩, ?_⟩
  have hvl : vs.length = L.length := by rw [e3.length, List.length_map]
  have hcat : L = [] ∨ ∃ L0 h, L = L0 ++ [h] := by
    rcases List.eq_nil_or_concat L with e | ⟨L0, h, e⟩
    · exact .inl e
    · exact .inr ⟨L0, h, by rw [e, List.concat_eq_append]⟩
  rcases hcat with rfl | ⟨L0, h, rfl⟩
  · -- nothing is ahead
    have hv : vs = [] := List.length_eq_zero_iff.mp hvl
    rw [hv]
    dsimp only
    rw [if_neg (by decide)]
    have allR := inv.all g
    have dl : d.len? = some pss.length := by rcases hd with hd | hd <;> rw [hd] <;> show some (pss.map polyD).length = _ <;> rw [List.length_map]
    dsimp only [tSeq, tFor]
    refine (wi_range1 (P := fun its => its = upto 0 pss.length) (wa_cons (we_cb (wa_cons (we_var (i := 0) rfl (wa_nil (rc_len (n := pss.length) dl (by omega) (wa_nil ⟨_, rfl, by omega, by omega, by rw [Int.toNat_natCast]⟩)))))))) _ _ _ _ _ _ s3 ctx0 fun J its G4 H4 g4 o4 it ei => ?_
    subst ei
    have s4 := s3.on g4 o4
    have lup : (upto 0 pss.length).length = pss.length := upto_len ..
    refine ⟨fun i m σ H => m = pss.length - i ∧ i ≤ pss.length ∧ ∃ G5 y3, Stt K B G0 (upd H0 p (.dK (kd R))) G5 H σ [.val d, .val (.adr p), .own [], y3, y4, y5] ∧ Same G4 G5, ⟨_, rfl, Nat.zero_le _, G4, y3, s4, Same.refl _⟩, ?_⟩
    rintro i m' σ5 H5 ⟨rfl, hi, G5, y3', s5, sm5⟩
    obtain ⟨f1, f2, f3⟩ := it G5 H5 i sm5 s5.ok
    rw [lup] at f1 f2 f3
    by_cases hlt : i < pss.length
    · refine .inr ⟨f1 hlt, fun σ' H' => i + 1 ≤ pss.length ∧ ∃ G6 y3, Stt K B G0 (upd H0 p (.dK (kd R))) G6 H' σ' [.val d, .val (.adr p), .own [], y3, y4, y5] ∧ Same G4 G6, fun σ' H' hN => ⟨pss.length - (i + 1), by omega, rfl, hN⟩, fun x H' y => ?_⟩
      obtain ⟨di, G6, ed, g6, o6, hdi⟩ := f2 x H' hlt y
      have ed' : di = .int (i : Int) := by
        have : (upto 0 ((pss.length : Int)).toNat)[i]? = some di := by rw [Int.toNat_natCast]; exact ed
        exact (upto_at this).2
      subst ed'
      have s6 := (s5.on g6 o6).setVal 3 hdi
      obtain ⟨v3, q3, d3⟩ := s6.val 3 (.int (i : Int)) rfl
      obtain ⟨v1, q1, d1⟩ := s6.val 1 (.adr p) rfl
      cases d3
      cases d1
      refine ⟨_, q3, _, q1, p, _, rfl, DGet.k (k := (.inl (i : Int) : Key)) (s6.dk bs).1, _, rfl, ?_⟩
      rw [kd_get, decide_eq_true (allR i hlt)]
      dsimp only
      rw [if_neg (by decide)]
      exact ⟨hlt, G6, _, s6, sm5.trans g6.s⟩
    · have ei : i = pss.length := by omega
      refine .inl ⟨f3 ei, ?_⟩
      exact r.1 .non .non G5 H5 (s5.down bs).go s5.ok .non rfl
  · have hv : (!vs.isEmpty) = true := by
      cases vs with
      | nil => rw [List.length_append] at hvl; exact absurd hvl (by simp)
      | cons _ _ => rfl
    rw [hv]
    dsimp only
    rw [if_pos rfl]
    refine ⟨_, fun σ' H' h => h, ?_⟩
    have hR := nodup_len inv.nd inv.lt
    have hlL : (L0 ++ [h]).length = L0.length + 1 := by rw [List.length_append, List.length_singleton]
    rw [hlL] at hm
    rw [List.map_append] at s3
    refine (ws_pop (i := 2) (j := 4) (ds := L0.map fun (k : Nat) => D.int (k : Int)) (d := .int (h : Int)) (O := { nx := fun δ1 => δ1 = [.val d, .val (.adr p), .own (L0.map fun (k : Nat) => D.int (k : Int)), y3, .val (.int (h : Int)), y5], rt := fun _ => False }) rfl rfl rfl) _ _ _ _ _ _ s3 xno ?_ rno (fun _ _ _ _ _ _ z => z.elim) (fun _ _ _ _ _ _ z => z.elim)
    rintro σ4 _ G4 H4 sm4 s4 rfl
    have hh : h < pss.length := inv.lt h (inv.sub h (by simp))
    have sm4' := sm3.trans sm4
    dsimp only [tFor]
    refine enumA_any s4 (i := 0) rfl hd fun J it => ?_
    refine ⟨fun i m' σ H => m' = pss.length - i ∧ i ≤ pss.length ∧ ∃ G5 R' L' y3 y5, Stt K B G0 (upd H0 p (.dK (kd R'))) G5 H σ [.val d, .val (.adr p), .own (L'.map fun (k : Nat) => D.int (k : Int)), y3, .val (.int (h : Int)), y5] ∧ Same G4 G5 ∧ MInv pss h i R' L' ∧ 2 * (pss.length - R'.length) + L'.length < m, ⟨_, rfl, Nat.zero_le _, G4, R, L0, _, _, s4, Same.refl _, inv.pop, by omega⟩, ?_⟩
    rintro i m' σ5 H5 ⟨rfl, hi, G5, R', L', z3, z5, s5, sm5, mi, hmm⟩
    obtain ⟨f1, f2, f3⟩ := it G5 H5 i sm5 s5.ok
    rw [List.length_map] at f1 f2 f3
    by_cases hlt : i < pss.length
    · refine .inr ⟨f1 hlt, fun σ' H' => i + 1 ≤ pss.length ∧ ∃ G5 R' L' y3 y5, Stt K B G0 (upd H0 p (.dK (kd R'))) G5 H' σ' [.val d, .val (.adr p), .own (L'.map fun (k : Nat) => D.int (k : Int)), y3, .val (.int (h : Int)), y5] ∧ Same G4 G5 ∧ MInv pss h (i + 1) R' L' ∧ 2 * (pss.length - R'.length) + L'.length < m, fun σ' H' hN => ⟨pss.length - (i + 1), by omega, rfl, hN⟩, fun x H' y => ?_⟩
      obtain ⟨T, v, di, rfl, sq, ed, g6, o6, hdi⟩ := f2 x H' hlt y
      have ed' : di = polyD (pss.getD i []) := by
        rw [List.getElem?_map, List.getElem?_eq_getElem hlt] at ed
        rw [List.getD_eq_getElem?_getD, List.getElem?_eq_getElem hlt]
        exact (Option.some.inj ed).symm
      subst ed'
      have s6 := ((s5.on g6 o6).setVal 3 (.int (i : Int))).setVal 5 hdi
      refine ⟨_, _, rfl, sq, rfl, _, _, rfl, _, _, rfl, rfl, ?_⟩
      obtain ⟨v3, q3, d3⟩ := s6.val 3 (.int (i : Int)) rfl
      obtain ⟨v1, q1, d1⟩ := s6.val 1 (.adr p) rfl
      cases d3
      cases d1
      refine ⟨_, q3, _, q1, p, _, rfl, DGet.k (k := (.inl (i : Int) : Key)) (s6.dk bs).1, _, rfl, ?_⟩
      rw [kd_get]
      by_cases hin : i ∈ R'
      · rw [decide_eq_true hin]
        try dsimp only
        rw [if_neg (by decide)]
        try dsimp only
        rw [if_neg (by decide)]
        exact ⟨hlt, G5, R', L', _, _, s6, sm5.trans g6.s, mi.skip (.inl hin), hmm⟩
      · rw [decide_eq_false hin]
        try dsimp only
        rw [if_pos (by decide)]
        have s6' : Stt K B G0 (upd H0 p (.dK (kd R'))) G5 H' _ [.val d, .val (.adr p), .own (L'.map fun (k : Nat) => D.int (k : Int)), .val (.int (i : Int)), .val (.int (h : Int)), .val (polyD (pss.getD i []))] := s6
        have fin : WAx K B {} (tCons (tVar 5) tNil) [.val d, .val (.adr p), .own (L'.map fun (k : Nat) => D.int (k : Int)), .val (.int (i : Int)), .val (.int (h : Int)), .val (polyD (pss.getD i []))] fun as => twoPre 10000000 (polyD (pss.getD h []) :: as) ∧ ∀ r : D, (∃ ps qs : List Pr2, polyD (pss.getD h []) :: as = [.tup (ps.map Dl.pairD), .tup (qs.map Dl.pairD)] ∧ r = .bl (joB ps qs)) → ∃ c, r = .bl c ∧ c = jn pss h i := by
          refine wa_cons (we_var rfl (wa_nil ⟨⟨_, _, rfl, rfl, few h hh, few i hlt⟩, ?_⟩))
          rintro _ ⟨ps, qs, e, rfl⟩
          rw [← prs_inj (D.tup.inj (List.cons.inj e).1), ← prs_inj (D.tup.inj (List.cons.inj (List.cons.inj e).2).1)]
          exact ⟨_, rfl, rfl⟩
        have tst : WT K B (tB (tCall (SpD K (twoPre 10000000) fun ds r => ∃ ps qs : List Pr2, ds = [.tup (ps.map Dl.pairD), .tup (qs.map Dl.pairD)] ∧ r = .bl (joB ps qs)) [] E0 (tCons (tOp (rIx K) (tVar 0) (tVar 4)) (tCons (tVar 5) tNil)))) [.val d, .val (.adr p), .own (L'.map fun (k : Nat) => D.int (k : Int)), .val (.int (i : Int)), .val (.int (h : Int)), .val (polyD (pss.getD i []))] (fun bb => bb = jn pss h i) := by
          refine wt_B (we_call (wa_cons (we_op (we_var (i := 0) (d := d) rfl (we_var (i := 4) (d := .int (h : Int)) rfl ?_)))))
          rcases hd with hd | hd
          · rw [hd] at fin ⊢; exact ro_ixsL (atd h hh) fin
          · rw [hd] at fin ⊢; exact ro_ixsT (atd h hh) fin
        refine tst _ _ _ _ _ _ s6' ctx0 fun bb G7 H7 g7 o7 eb => ?_
        have s7 := s6'.on g7 o7
        cases hb : bb with
        | false =>
          rw [if_neg (by decide)]
          exact ⟨hlt, G7, R', L', _, _, s7, sm5.trans (g6.s.trans g7.s), mi.skip (.inr (by rw [← eb, hb])), hmm⟩
        | true =>
          rw [if_pos rfl]
          have hR' := nodup_len mi.nd mi.lt
          have hk : (kd R').length < sizeLine := by rw [List.length_map, sizeLine_eq]; omega
          refine ⟨_, q1, _, q3, p, _, rfl, DPut.k (k := (.inl (i : Int) : Key)) (s7.dk bs).1 hk, ?_⟩
          have hnone : valV (kd R') (.inl (i : Int)) = none := by
            have := kd_get R' i
            rw [decide_eq_false hin] at this
            cases e : valV (kd R') (.inl (i : Int)) with
            | none => rfl
            | some _ => rw [e] at this; cases this
          rw [putK_new _ hnone, show kd R' ++ [((.inl (i : Int) : Key), V.bl true)] = kd (R' ++ [i]) by show _ = List.map _ _; rw [List.map_append]; rfl]
          have s8 := s7.putK (kvs' := kd (R' ++ [i])) bs
          have mi' := mi.push hin hlt
          have hR2 := nodup_len mi'.nd mi'.lt
          have hll := mi.ll
          rw [List.length_append, List.length_singleton] at hR2
          refine (ws_append (i := 2) (O := { nx := fun δ1 => δ1 = [.val d, .val (.adr p), .own ((L' ++ [i]).map fun (k : Nat) => D.int (k : Int)), .val (.int (i : Int)), .val (.int (h : Int)), .val (polyD (pss.getD i []))], rt := fun _ => False }) rfl rfl (by rw [List.length_map]; omega) (we_var (i := 3) (d := .int (i : Int)) rfl (by rw [List.map_append]; rfl))) _ _ _ _ _ _ s8 xno ?_ rno (fun _ _ _ _ _ _ z => z.elim) (fun _ _ _ _ _ _ z => z.elim)
          rintro σ9 _ G9 H9 sm9 s9 rfl
          refine ⟨hlt, G9, R' ++ [i], L' ++ [i], _, _, s9, sm5.trans (g6.s.trans (g7.s.trans sm9)), mi', ?_⟩
          simp only [List.length_append, List.length_singleton]
          omega
    · have ei : i = pss.length := by omega
      subst ei
      refine .inl ⟨f3 rfl, _, hmm, G5, R', L', _, _, _, s5, sm4'.trans sm5, mi.done, rfl⟩

end
/-! #### Fp -/
section
variable {P : Program} {w : World} {K : PySem.W.Frag} {mg : Str → Option Value} {base : Heap}
/-! ### en -/
/-! ### check_parts -/
theorem we_cval {B : Bt} {X : Xc} {δ : List Sd} {C : Addr} {mc u : Value} {f : Str} {v : V} {d : D} {P : D → Prop} (r : ClX.CRead K C mc) (k : ClX.CVal K C mc f v u) (hv : ∀ G, Dd K B G v d) (p : P d) : WEx K B X (ClX.tCVal K (tC (.ref C)) f) δ P := fun G0 H0 σ G H Q s xx q => ⟨C, mc, v, u, rfl, r, k, q v d G H Go.refl s.ok (hv G) p⟩
structure PcT (K : PySem.W.Frag) (mg : Str → Option Value) (CP : Addr) : Prop where
  m_Piece : mg "Piece" = some (.ref CP)
  cv : ∃ mc u, ClX.CRead K CP mc ∧ ClX.CVal K CP mc "PARTS" (.int 4) u
  cl : Cls K CP
  nn : NoAttr K CP "name"
  np : NoAttr K CP "_parts"
  ty : ∀ {H : Hp} {a dx : Addr} {fs : List (Str × V)}, H a = some (.ins CP dx fs) → TyOf K H (.ref a) (.ref CP)
  ks : PySem.W.kitOne K (.ref CP) (.ref CP) = some true
  kt : PySem.W.kitOne K (.type "str") (.ref CP) = some false
  kl : PySem.W.kitOne K (.type "list") (.ref CP) = some false
theorem wtx_mono {B : Bt} {X : Xc} {tt : TT} {δ : List Sd} {P Q : Bool → Prop} (h : WTx K B X tt δ P) (m : ∀ b, P b → Q b) : WTx K B X tt δ Q := fun G0 H0 σ G H R s xx q => h G0 H0 σ G H R s xx fun b G1 H1 g o hb => q b G1 H1 g o (m b hb)
theorem ws_ifF {B : Bt} {O : Out} {tt : TT} {t u : TS} {δ : List Sd} (h : WTx K B O.x tt δ (fun b => b = false)) (w : WS K B u δ O) : WS K B (tIfS tt t u) δ O := ws_if (wtx_mono h fun b e => by rw [e, if_neg (by decide)]; exact w)
theorem map_ofD (ps : List Pr2) : (ps.map Dl.pairD).map ofD = ps := by
  rw [List.map_map]
  conv => rhs; rw [← List.map_id ps]
  rfl
theorem isBnd_pair {p : Pr2} {b : Int} (h : Upto b p) : isBnd b (Dl.pairD p) = true := by
  show ((decide ((2 : Int) = 2) && (true && (true && true))) && ((decide (-b ≤ p.1) && decide (p.1 ≤ b)) && ((decide (-b ≤ p.2) && decide (p.2 ≤ b)) && true))) = true
  unfold Upto at h
  simp [h]
theorem Good.isPoly {pss : List (List Pr2)} (g : Good 200 pss) {ps : List Pr2} (h : ps ∈ pss) : isPoly (polyD ps) = true := by
  have c := g.cv ps h
  show (((decide (3 ≤ (ps.map Dl.pairD).length) && decide ((ps.map Dl.pairD).length ≤ 6)) && (ps.map Dl.pairD).all (isBnd 200)) && polyB ((ps.map Dl.pairD).map ofD)) = true
  rw [map_ofD, c.poly, List.length_map, decide_eq_true c.h3, decide_eq_true c.h6, Bool.and_true, Bool.true_and, Bool.true_and, List.all_eq_true]
  intro d hd
  obtain ⟨p, hp, rfl⟩ := List.mem_map.mp hd
  exact isBnd_pair (upto_le (g.up ps h p hp) (by decide))
theorem smPoly {ps : List Pr2} (h : ps.length ≤ 1000) : sm (polyD ps) = true := by
  show (decide ((ps.map Dl.pairD).length ≤ 1000) && sms (ps.map Dl.pairD)) = true
  rw [List.length_map, decide_eq_true h, Bool.true_and]
  clear h
  induction ps with
  | nil => rfl
  | cons p ps ih => show (sm (Dl.pairD p) && sms (ps.map Dl.pairD)) = true; rw [ih]; rfl
theorem ro_ixP {B : Bt} {d : D} {pss : List (List Pr2)} {i : Nat} {Q : D → Prop} (h : PAny d pss) (hi : i < pss.length) (q : Q (polyD (pss.getD i []))) : RO K B (rIx K) d (.int (i : Int)) Q := by
  have e : atI (pss.map polyD) (i : Int) = some (polyD (pss.getD i [])) := atI_nat (by rw [List.getElem?_map, List.getElem?_eq_getElem hi, List.getD_eq_getElem?_getD, List.getElem?_eq_getElem hi]; rfl)
  rcases h with h | h
  · rw [h]; exact ro_ixsL e q
  · rw [h]; exact ro_ixsT e q
theorem PAny.len {d : D} {pss : List (List Pr2)} (h : PAny d pss) : d.len? = some pss.length := by
  rcases h with h | h <;> rw [h] <;> show some (pss.map polyD).length = _ <;> rw [List.length_map]
theorem Good.few {n : Int} {pss : List (List Pr2)} (g : Good n pss) (hn : n ≤ 10000000) {i : Nat} (hi : i < pss.length) : Few 10000000 (pss.getD i []) := by
  rw [List.getD_eq_getElem?_getD, List.getElem?_eq_getElem hi]
  have hm := List.getElem_mem hi
  exact ⟨(g.cv _ hm).h3, by have := (g.cv _ hm).h6; show pss[i].length ≤ 7; omega, fun p hp => upto_le (g.up _ hm p hp) hn⟩
theorem ro_notNon {B : Bt} {Pp : D → Prop} (p : Pp (.bl false)) : RO K B (fun x y H Q => y = .non ∧ Q (.bl (!decide (x = .non))) H) .non .non Pp := fun G H x y R o hx hy q => by
  cases hx
  cases hy
  exact ⟨rfl, q.nil o (.bl _) p⟩
theorem upto_at2 {lo : Int} {n k : Nat} {d : D} (h : (upto lo n)[k]? = some d) : k < n ∧ d = .int (lo + (k : Int)) := by
  unfold upto at h
  rw [List.getElem?_map] at h
  by_cases hk : k < n
  · rw [List.getElem?_range hk] at h
    exact ⟨hk, (Option.some.inj h).symm⟩
  · rw [List.getElem?_eq_none (by rw [List.length_range]; omega)] at h
    cases h
abbrev s_check_parts : Stmt := topS 46
abbrev N_check_parts : List Str := ["parts", "one", "loose", "at", "part", "other"]
theorem sc_check_parts : FnScope N_check_parts ["parts"] (defScope s_check_parts) := ⟨rfl, rfl, rfl, by decide +kernel, rfl, by decide +kernel, by decide +kernel⟩
abbrev ClCk (P : Program) (w : World) (K : PySem.W.Frag) (mg : Str → Option Value) (base : Heap) (k : Nat) := Cl P w K mg base k "check_parts" s_check_parts ["parts"] (SpD K (p1 fun d => ∃ pss : List (List Pr2), PAny d pss ∧ Good 200 pss) fun _ r => r = .non)
theorem ok_check_parts {k : Nat} {CP : Addr} (G : Gn mg) (MG : PcT K mg CP) (F : Df K mg "check_parts" s_check_parts) (C_is_part : ClB P w K mg base k "is_part" s_is_part "value" isPoly) (C_overlap : ClOv P w K mg base k) (C_first_loose : ClFl P w K mg base k) : ClCk P w K mg base (k + 1) := by
  refine cl_of F sc_check_parts (fun _ _ _ _ _ _ us hl => match us, hl with | [_], _ => rfl) p1_len fun f cdv A outer s H E hr => ⟨_, (pss_cons (ps_if (PW.pt (pw_or (pt_not (pt_val (pe_callB (show CallR _ (.builtin "isinstance") (zIsi2 K) from call_isiZ) (by rfl) G.g_isinstance (by decide +kernel) (pa_cons (pv 0) (pa_cons (pe_tupZ (pa_cons (pe_bltn (v := .ty "list") (u := .type "list") (by rfl) G.g_list (by decide +kernel) rfl) (pa_cons (pe_bltn (v := .ty "tuple") (u := .type "tuple") (by rfl) G.g_tuple (by decide +kernel) rfl) pa_nil))) pa_nil))))) (pw_or1 (pt_cmpR op_eq (pe_callB (show CallR _ (.builtin "len") (fun xs H Q => ∃ x n, xs = [x] ∧ LenV K x H n ∧ Q (.int n) H) from call_len) (by rfl) G.g_len (by decide +kernel) (pa_cons (pv 0) pa_nil)) pe_int (nomark _))))) (pss_one Dl.ps_never) pss_nil)
      (pss_cons (ps_for PassesOwn.never rfl (Dl.pi_enumA rfl G.g_enumerate (pa_cons (pv 0) pa_nil)) (show PG _ _ (gTup K 2 (gCons (gName 3) (gCons (gName 4) gNil))) from pg_tup rfl (pgs_cons (pg_name (i := 3) sc_check_parts.nd rfl (Or.inl rfl)) (pgs_cons (pg_name (i := 4) sc_check_parts.nd rfl (Or.inl rfl)) pgs_nil))) (pss_one (ps_if (pt_not (pt_val (pe_c C_is_part hr (by omega) (by rfl) (pa_cons (pv 4) pa_nil)))) (pss_one Dl.ps_never) pss_nil)))
      (pss_cons (ps_if (pt_cmpR op_gt (pe_callB (show CallR _ (.builtin "len") (fun xs H Q => ∃ x n, xs = [x] ∧ LenV K x H n ∧ Q (.int n) H) from call_len) (by rfl) G.g_len (by decide +kernel) (pa_cons (pv 0) pa_nil)) (ClX.pe_cval (pe_glob (v := .ref CP) (by rfl) MG.m_Piece rfl)) (nomark _)) (pss_one Dl.ps_never) pss_nil)
      (pss_cons (ps_for PassesOwn.never rfl (pi_range1 rfl G.g_range (pa_cons (pe_callB (show CallR _ (.builtin "len") (fun xs H Q => ∃ x n, xs = [x] ∧ LenV K x H n ∧ Q (.int n) H) from call_len) (by rfl) G.g_len (by decide +kernel) (pa_cons (pv 0) pa_nil)) pa_nil)) (pg_name (i := 1) sc_check_parts.nd rfl (Or.inl rfl)) (pss_one (ps_for PassesOwn.never rfl (pi_range2 rfl G.g_range (pa_cons (pe_op op_add (pv 1) pe_int) (pa_cons (pe_callB (show CallR _ (.builtin "len") (fun xs H Q => ∃ x n, xs = [x] ∧ LenV K x H n ∧ Q (.int n) H) from call_len) (by rfl) G.g_len (by decide +kernel) (pa_cons (pv 0) pa_nil)) pa_nil))) (pg_name (i := 5) sc_check_parts.nd rfl (Or.inl rfl)) (pss_one (ps_if (pt_val (pe_c C_overlap hr (by omega) (by rfl) (pa_cons (pe_ix (show IxR _ (rIx K) from ix_seq) (pv 0) (pv 1) (fun _ _ => rfl)) (pa_cons (pe_ix (show IxR _ (rIx K) from ix_seq) (pv 0) (pv 5) (fun _ _ => rfl)) pa_nil)))) (pss_one Dl.ps_never) pss_nil)))))
      (pss_cons (ps_set (i := 2) sc_check_parts.nd rfl (Or.inl rfl) (pe_c C_first_loose hr (by omega) (by rfl) (pa_cons (pv 0) pa_nil)))
      (pss_one (ps_if (pt_cmpR op_notN (pv 2) pe_non (nomark _)) (pss_one Dl.ps_never) pss_nil))))))), fun B ds hp => ?_⟩
  obtain ⟨d, rfl, pss, hd, g⟩ := p1_ex hp
  have gl := g.l4
  have g0 : 0 < pss.length := by
    rcases Nat.eq_zero_or_pos pss.length with z | z
    · exact absurd (List.length_eq_zero_iff.mp z) g.ne
    · exact z
  show WS K B _ [.val d, .no, .no, .no, .no, .no] _
  try dsimp only [cxOf, Cx.nox, Cx.blk]
  refine ws_seq (ws_ifF ?t0 (ws_next ?_))
  case t0 =>
    rcases hd with rfl | rfl
    · repeat walk_at "dl"
      show decide (((pss.map polyD).length : Int) = 0) = false
      rw [List.length_map]; exact decide_eq_false (by omega)
    · repeat walk_at "dl"
      show decide (((pss.map polyD).length : Int) = 0) = false
      rw [List.length_map]; exact decide_eq_false (by omega)
  refine ws_seq (ws_forE (wa_cons (we_var rfl (wa_nil ⟨pss.map polyD, by rcases hd with e | e <;> rw [e] <;> simp, fun k δ1 => ∃ y3 y4, δ1 = [.val d, .no, .no, y3, y4, .no], ⟨_, _, rfl⟩, ?_, ?_⟩))))
  · rintro k dk δ1 hk ⟨y3, y4, rfl⟩
    rw [List.getElem?_map] at hk
    obtain ⟨q, hq, rfl⟩ : ∃ q, pss[k]? = some q ∧ polyD q = dk := by
      cases e : pss[k]? with
      | none => rw [e] at hk; cases hk
      | some q => rw [e] at hk; exact ⟨q, rfl, Option.some.inj hk⟩
    have hm := List.mem_of_getElem? hq
    try dsimp only [List.set]
    refine ws_ifF (wt_not (wt_B (we_call (wa_cons (we_var rfl (wa_nil ⟨smPoly (by have := (g.cv q hm).h6; omega), ?_⟩)))))) (ws_next ⟨_, _, rfl⟩)
    rintro _ rfl
    exact ⟨_, rfl, by show (!isPoly (polyD q)) = false; rw [g.isPoly hm]; rfl⟩
  rintro δ1 ⟨y3, y4, rfl⟩
  have dl := hd.len
  refine ws_seq (ws_ifF ?t1 (ws_next ?_))
  case t1 =>
    obtain ⟨mc, u, cr, cv⟩ := MG.cv
    refine wt_test (we_op (we_cb (wa_cons (we_var rfl (wa_nil (rc_len (n := pss.length) dl (by omega) (we_cval cr cv (fun _ => .int 4) ?_)))))))
    exact ro_bl0 ⟨_, rfl, decide_eq_false (by omega)⟩
  refine ws_seq (ws_for (wi_range1 (wa_cons (we_cb (wa_cons (we_var rfl (wa_nil (rc_len (n := pss.length) dl (by omega) (wa_nil ⟨_, rfl, by omega, by omega, fun k δ1 => ∃ y1 y5, δ1 = [.val d, y1, .no, y3, y4, y5], ⟨_, _, rfl⟩, ?_, ?_⟩)))))))))
  · rintro a da δ1 hau ⟨y1, y5, rfl⟩
    obtain ⟨ha, rfl⟩ := upto_at hau
    clear hau
    try dsimp only [List.set]
    refine ws_for (wi_range2 (wa_cons (we_op (we_var rfl (we_int (ro_int0 (wa_cons (we_cb (wa_cons (we_var rfl (wa_nil (rc_len (n := pss.length) dl (by omega) (wa_nil ⟨_, _, rfl, by omega, fun k δ1 => ∃ y5, δ1 = [.val d, .val (.int (a : Int)), .no, y3, y4, y5], ⟨_, rfl⟩, ?_, ?_⟩)))))))))))))
    · rintro b db δ1 hbu ⟨y5', rfl⟩
      obtain ⟨hb, rfl⟩ := upto_at2 hbu
      clear hbu
      have eb : (a : Int) + 1 + (b : Int) = ((a + 1 + b : Nat) : Int) := by omega
      rw [eb]
      have hc : a + 1 + b < pss.length := by omega
      try dsimp only [List.set]
      refine ws_ifF (wt_B (we_call (wa_cons (we_op (we_var rfl (we_var rfl (ro_ixP hd ha (wa_cons (we_op (we_var rfl (we_var rfl (ro_ixP hd hc (wa_nil ⟨⟨_, _, rfl, rfl, g.few (by decide) ha, g.few (by decide) hc⟩, ?_⟩))))))))))))) (ws_next ⟨_, rfl⟩)
      rintro _ ⟨ps, qs, e, rfl⟩
      refine ⟨_, rfl, ?_⟩
      rw [← prs_inj (D.tup.inj (List.cons.inj e).1), ← prs_inj (D.tup.inj (List.cons.inj (List.cons.inj e).2).1)]
      have := List.pairwise_iff_getElem.mp g.ov a (a + 1 + b) ha hc (by omega)
      rw [List.getD_eq_getElem?_getD, List.getElem?_eq_getElem ha, List.getD_eq_getElem?_getD, List.getElem?_eq_getElem hc]
      exact this
    · rintro δ1 ⟨y5', rfl⟩
      exact ⟨_, _, rfl⟩
  rintro δ1 ⟨y1, y5, rfl⟩
  refine ws_seq (ws_set (we_call (wa_cons (we_var rfl (wa_nil ⟨⟨pss, 200, hd, g, by decide⟩, ?_⟩)))))
  rintro _ rfl
  try dsimp only [List.set]
  exact ws_ifF (wt_test (we_op (we_var rfl (we_non (ro_notNon ⟨_, rfl, rfl⟩))))) (ws_next rfl)

end
/-! #### Fq -/
section
variable {P : Program} {w : World} {K : PySem.W.Frag} {mg : Str → Option Value} {base : Heap}
/-! ### eo -/
/-! ### Piece.__init__ -/
def pieceD (CP : Addr) (tag : Str) (pss : List (List Pr2)) : D := .obj CP ["name", "_parts"] [.str tag, partsD pss]
/-! ### an instance whose list is new -/
/-- what __init__ promises: the instance, its second field a list that was nowhere before -/
def SpJ (K : PySem.W.Frag) (C : Addr) (pre : List D → Prop) (post : List D → D → Prop) : Sp := fun vs H Q _ => ∃ (B : Bt) (G H1 : Hp) (x dx : Addr) (ws : List V) (ds : List D), vs = .ref x :: ws ∧ H1 x = none ∧ H1 dx = none ∧ dx ≠ x ∧ H = upd (upd H1 dx (.own x)) x (.ins C dx []) ∧ Ok B G H1 ∧ Dds K B G ws ds ∧ pre ds ∧
  ∀ d G2 H2 (v : V) (p : Addr), Go B G H1 G2 H2 → Ok B G2 H2 → Dd K B G2 (.ref x) d → post ds d → G2 x = some (.ins C dx [("name", v), ("_parts", .ref p)]) → (∀ a o, nt o → a ≠ B.a → H1 a = some o → p ≠ a) → Q .non H2
theorem spj_spi {C : Addr} {pre : List D → Prop} {post : List D → D → Prop} {vs : List V} {H : Hp} {Q : VK} {E : XK} (h : SpI K C pre post vs H Q E) : SpJ K C pre post vs H Q E := by
  obtain ⟨B, G, H1, x, dx, ws, ds, e1, e2, e3, e4, e5, o, hs, p, q⟩ := h
  exact ⟨B, G, H1, x, dx, ws, ds, e1, e2, e3, e4, e5, o, hs, p, fun d G2 H2 v p' g o2 hd pd _ _ => q d G2 H2 g o2 hd pd⟩
theorem clmj_of {x q : Str} {st : Stmt} {f C : Addr} {fd : FuncData} {N ps : List Str} {k : Nat} {pre : List D → Prop} {post : List D → D → Prop} (F : Fun K x q st f fd) (S : FnScope N ps (defScope st))
    (hb : ∀ (kV doc pm : Value) (an : Option Addr) (cdv ct : Value) (us : List Value), us.length = ps.length → bindArgs (PySem.W.fnOf x q (defArgs st) (defBody st) (defScope st) .none kV doc pm an cdv ct) ⟨us, []⟩ = pure (ps.zip us))
    (hl : ∀ ds, pre ds → ds.length + 1 = ps.length)
    (h : ∀ (cdv : Value) (A : Around) (outer : List Env) (s : Shared) (H : Hp) (E : XK), Room k (A.deeper (envOfC q (defScope st) s.heap.objs.size f cdv)) →
      ∃ t, PSs (cxOf CX0 P w K mg base N q (defScope st) f cdv A outer s H E).nox (defBody st) t ∧ ∀ B ds, pre ds → ∀ (G H1 H : Hp) (x dx : Addr) (σ : L2.St) (Q : VK), Fil K B C x dx G H1 G H [] [] → Stt K B G H G H σ (init N (.adr x :: ds)) →
        (∀ d G2 H2 (v : V) (p : Addr), Go B G H1 G2 H2 → Ok B G2 H2 → Dd K B G2 (.ref x) d → post ds d → G2 x = some (.ins C dx [("name", v), ("_parts", .ref p)]) → (∀ a o, nt o → a ≠ B.a → H1 a = some o → p ≠ a) → Q .non H2) → t { nx := fun _ H' => Q .non H', rt := Q } σ H) : ClM P w K mg base (k + 1) f fd ps (SpJ K C pre post) := by
  refine ⟨F.ok S (fun vs H Q E hsp => ?_) (fun cdv A outer s H vs Q E hr hsp => ?_), F.binds hb⟩
  · obtain ⟨B, G, H1, x, dx, ws, ds, rfl, nx, ndx, ne, rfl, o, hs, p, q⟩ := hsp
    rw [List.length_cons, hs.length]
    exact hl ds p
  · obtain ⟨B, G, H1, x, dx, ws, ds, rfl, nx, ndx, ne, rfl, o, hs, p, q⟩ := hsp
    obtain ⟨t, ht, ww⟩ := h cdv A outer s _ E hr
    have f := Fil.start (K := K) (C := C) o nx ndx ne
    exact ⟨t, ht, ww B ds p G H1 _ x dx _ Q f (stt_start f.ok (.cons (.adr x) hs)) q⟩
theorem sort_fresh {B : Bt} {ta : TA} {δ : List Sd} {pss : List (List Pr2)} (h : WAx K B {} ta δ (fun as => as = [partsD pss])) (ne : ∀ ps ∈ pss, ps ≠ []) (hl : pss.length ≤ 1000) {G0 H0 G H : Hp} {σ : L2.St} {Q : VK} (s : Stt K B G0 H0 G H σ δ)
    (q : ∀ p G2 H2, Go B G H G2 H2 → Ok B G2 H2 → Dd K B G2 (.ref p) (partsD (sortP pss)) → (∀ a o, nt o → a ≠ B.a → H a = some o → p ≠ a) → Q (.ref p) H2) : tCB (rSortD K) ta σ H Q :=
  h G0 H0 σ G H _ s ctx0 fun vs as G1 H1 g1 o1 hs e => by
    subst e
    cases hs with
    | cons h1 t1 =>
      cases t1
      unfold partsD at h1
      generalize ed : D.lst (pss.map polyD) = d1 at h1
      cases h1 with
      | lst hg t =>
        cases ed
        refine ⟨_, _, pss.map partP, rfl, SqL.of (o1.u _ _ hg), dpa_part o1 pss t, ?_, .inl ?_, ?_, by rw [t.length, List.length_map]; exact hl, refs_part pss t, fun ys p hy each hp => ?_⟩
        · intro x hx y hy
          obtain ⟨a, _, rfl⟩ := List.mem_map.mp hx
          obtain ⟨b, _, rfl⟩ := List.mem_map.mp hy
          exact alike_part a b
        · intro x hx
          obtain ⟨a, ha, rfl⟩ := List.mem_map.mp hx
          cases a with
          | nil => exact absurd rfl (ne _ ha)
          | cons p a => exact ⟨_, _, rfl⟩
        · intro x hx
          obtain ⟨a, _, rfl⟩ := List.mem_map.mp hx
          have := dep_pairPs a
          simp only [partP, PyData.depth]
          omega
        · have e := each _ (each_part pss t)
          rw [sortP_data] at e
          have gp := o1.fresh hp
          have nb := o1.neB hp
          refine q p (upd G1 p (.lst ys)) (upd H1 p (.lst ys)) (g1.trans o1 ⟨same_upd gp, fun a u _ _ e => same_upd hp a u e, fun a u ht e ga => ?_, fun c r e => ⟨r, same_upd hp _ _ e⟩⟩) (freeze_ok (loose_ok o1 hp) nt_lst nb gp upd_same) (.lst upd_same ((each_back _ e).mono (same_upd gp))) (fun a o ht na e ep => ?_)
          · rw [upd_ne (fun z => by rw [z, hp] at e; cases e)]; exact ga
          · have := g1.k a o na ht e
            rw [← ep, hp] at this
            cases this
      | _ => cases ed
abbrev s_Piece___init__ : Stmt := inClass (topS 45) 1
abbrev N_Piece___init__ : List Str := ["self", "name", "parts", "part"]
theorem sc_Piece___init__ : FnScope N_Piece___init__ ["self", "name", "parts"] (defScope s_Piece___init__) := ⟨rfl, rfl, rfl, by decide +kernel, rfl, by decide +kernel, by decide +kernel⟩
abbrev piPre : List D → Prop := p2 fun n d => ∃ (tag : Str) (pss : List (List Pr2)), n = .str tag ∧ isName (.str tag) = true ∧ sm (.str tag) = true ∧ PAny d pss ∧ Good 200 pss
abbrev piPost (CP : Addr) : List D → D → Prop := fun ds r => ∃ (tag : Str) (d : D) (pss : List (List Pr2)), ds = [.str tag, d] ∧ PAny d pss ∧ r = pieceD CP tag (sortP (pss.map toldP))
theorem ok_Piece___init__ {k : Nat} {CP f : Addr} {fd : FuncData} (G : Gn mg) (F : Fun K "__init__" "Piece.__init__" s_Piece___init__ f fd) (C_is_name : ClB P w K mg base k "is_name" s_is_name "value" isName) (C_check_parts : ClCk P w K mg base k) (C_part_told : ClPt P w K mg base k) (cc : Cls K CP) (na : NoAttr K CP "name") (np : NoAttr K CP "_parts") : ClM P w K mg base (k + 1) f fd ["self", "name", "parts"] (SpJ K CP piPre (piPost CP)) := by
  refine clmj_of F sc_Piece___init__ (fun _ _ _ _ _ _ us hl => match us, hl with | [_, _, _], _ => rfl) (fun ds h => by obtain ⟨_, _, rfl, _⟩ := p2_ex h; rfl) fun cdv A outer s H E hr => ⟨_, (pss_cons (ps_if (pt_not (pt_val (pe_c C_is_name hr (by omega) (by rfl) (pa_cons (pv 1) pa_nil)))) (pss_one Dl.ps_never) pss_nil)
      (pss_cons (ps_expr (pe_c C_check_parts hr (by omega) (by rfl) (pa_cons (pv 2) pa_nil)))
      (pss_cons (ps_fld (pv 0) (pv 1) rfl)
      (pss_one (ps_fld (pv 0) (pe_callB (show CallR _ (.builtin "sorted") (Dl.rSortD K) from Dl.cr_sortD (Dl.u60 hr)) (by rfl) G.g_sorted (by decide +kernel) (pa_cons (pe_lc (own := [("part", 3)]) (g := gName 3) (tt := tYes) rfl sc_Piece___init__.nd (pi_any (pv 2)) (blkOk_by (N := N_Piece___init__) (sc := defScope s_Piece___init__) (by decide +kernel)) (fun _ _ _ _ _ => pg_name (i := 3) sc_Piece___init__.nd rfl (Or.inl rfl)) (fun _ _ _ _ _ => pts_nil) (fun _ _ _ _ _ => (pe_c C_part_told hr (by omega) (by rfl) (pa_cons (pv 3) pa_nil)))) pa_nil)) rfl))))), fun B ds hp => ?_⟩
  obtain ⟨_, d, rfl, tag, pss, rfl, hn, hs, hd, g⟩ := p2_ex hp
  intro Gb H1 H0 x dx σ Q fi st q
  have st : Stt K B Gb H0 Gb H0 σ [.val (.adr x), .val (.str tag), .val d, .no] := st
  have gl := g.l4
  have rno : ∀ {Ga Ha : Hp} {r : VK} {nx : List Sd → Prop}, RT K B { nx := nx, rt := fun _ => False } Ga Ha r := ⟨fun _ _ _ _ _ _ _ z => z.elim, fun _ _ _ _ _ _ _ _ _ _ _ _ z => z.elim⟩
  have xno : ∀ {Ga Hb G : Hp}, XS K B {} Ga Hb G := xs_no fun _ _ _ _ z => z
  have noo : ∀ (i : Nat) es, ([.val (.adr x), .val (.str tag), .val d, .no] : List Sd)[i]? ≠ some (.own es) := by
    intro i es z
    match i, z with
    | 0, z => cases z
    | 1, z => cases z
    | 2, z => cases z
    | 3, z => cases z
    | i + 4, z => cases z
  refine (ws_ifF (O := { nx := fun δ1 => δ1 = [.val (.adr x), .val (.str tag), .val d, .no], rt := fun _ => False }) (wt_not (wt_B (we_call (wa_cons (we_var (i := 1) (d := .str tag) rfl (wa_nil ⟨hs, ?an⟩)))))) (ws_next rfl)) _ _ _ _ _ _ st xno ?_ rno (fun _ _ _ _ _ _ z => z.elim) (fun _ _ _ _ _ _ z => z.elim)
  case an =>
    rintro _ rfl
    exact ⟨_, rfl, by show (!isName (.str tag)) = false; rw [hn]; rfl⟩
  rintro σ1 _ G1 H2 sm1 s1 rfl
  refine (ws_drop (O := { nx := fun δ1 => δ1 = [.val (.adr x), .val (.str tag), .val d, .no], rt := fun _ => False }) (we_call (wa_cons (we_var (i := 2) (d := d) rfl (wa_nil ⟨⟨pss, hd, g⟩, fun _ _ => rfl⟩))))) _ _ _ _ _ _ s1 xno ?_ rno (fun _ _ _ _ _ _ z => z.elim) (fun _ _ _ _ _ _ z => z.elim)
  rintro σ2 _ G2 H3 sm2 s2 rfl
  have f2 := fi.on s2.go s2.ok
  have s2' := s2.rebase noo s2.ok (Same.refl _)
  refine fld_step f2 s2' noo (ti := 0) rfl cc na (Nat.zero_lt_succ _) (we_var (i := 1) (d := .str tag) rfl rfl) fun v1 G3 H4 hv1 sm3 f3 s3 => ?_
  have f4 := f3.put (fs' := [("name", v1)]) (ds' := [.str tag]) (.cons hv1 .nil)
  have s4 : Stt K B G3 (upd H4 x (.ins CP dx [("name", v1)])) G3 (upd H4 x (.ins CP dx [("name", v1)])) σ2 [.val (.adr x), .val (.str tag), .val d, .no] := s3
  have e1 : putF "name" v1 [] = [(("name" : Str), v1)] := rfl
  rw [e1]
  dsimp only
  refine sort_fresh (pss := pss.map toldP) ?_ (fun ps hp => (g.told).n0 hp) (by rw [List.length_map]; omega) s4 fun p G5 H5 g5 o5 hv2 fresh => ?_
  · refine wa_cons (we_lc (wi_any (we_var rfl ⟨pss.map polyD, hd, by rw [List.length_map]; omega, fun n acc => acc = ((pss.take n).map toldP).map polyD, rfl, ?_, ?_⟩)))
    · rintro n dq acc hdq hacc
      have hacc' : acc = ((pss.take n).map toldP).map polyD := hacc
      rw [List.getElem?_map] at hdq
      obtain ⟨q, hq, rfl⟩ : ∃ q, pss[n]? = some q ∧ polyD q = dq := by
        cases e : pss[n]? with
        | none => rw [e] at hdq; cases hdq
        | some q => rw [e] at hdq; exact ⟨q, rfl, Option.some.inj hdq⟩
      have hm := List.mem_of_getElem? hq
      try dsimp only [List.set]
      refine wt_yes ?_
      rw [if_pos rfl]
      refine we_call (wa_cons (we_var rfl (wa_nil ⟨⟨q, rfl, g.n0 hm, by have := (g.cv q hm).h6; omega⟩, ?_⟩)))
      rintro _ ⟨q', e, rfl⟩
      have e1 := prs_inj (D.tup.inj (List.cons.inj e).1)
      subst e1
      show acc ++ [polyD (toldP q)] = ((pss.take (n + 1)).map toldP).map polyD
      rw [hacc', List.take_add_one, hq, List.map_append, List.map_append]
      rfl
    · rintro acc hacc
      have hacc' : acc = ((pss.take (pss.map polyD).length).map toldP).map polyD := hacc
      rw [List.length_map, List.take_length] at hacc'
      rw [hacc']
      exact wa_nil rfl
  · obtain ⟨u, hu, hdu⟩ := s4.val 0 _ rfl
    cases hdu
    have f5 := f4.on g5 o5
    refine ⟨_, hu, x, CP, dx, _, rfl, f5.ins, cc, np, by show 1 < 1000; decide, ?_⟩
    have f6 := f5.put (fs' := [("name", v1), ("_parts", .ref p)]) (ds' := [.str tag, partsD (sortP (pss.map toldP))]) (.cons (hv1.mono g5.s) (.cons hv2 .nil))
    obtain ⟨g7, o7, d7⟩ := f6.done
    have en : putF "_parts" (V.ref p) [(("name" : Str), v1)] = [(("name" : Str), v1), (("_parts" : Str), V.ref p)] := rfl
    rw [en]
    exact q _ _ _ v1 p g7 o7 d7 ⟨tag, d, pss, rfl, hd, rfl⟩ upd_same fun a o ht na e ep => fresh a o ht na (f4.go.k a o na ht e) ep

end
/-! #### Fr -/
section
variable {P : Program} {w : World} {K : PySem.W.Frag} {mg : Str → Option Value} {base : Heap}
/-! ### eks -/
/-! ### parts compared -/
theorem eqvAll_map {α : Type} [DecidableEq α] {f : α → PyData} (h : ∀ a b, PyData.eqv (f a) (f b) = decide (a = b)) : ∀ xs ys : List α, PyData.eqvAll (xs.map f) (ys.map f) = decide (xs = ys)
  | [], [] => by simp [PyData.eqvAll]
  | [], _ :: _ => by simp [PyData.eqvAll]
  | _ :: _, [] => by simp [PyData.eqvAll]
  | x :: xs, y :: ys => by
    rw [List.map_cons, List.map_cons, PyData.eqvAll, h, eqvAll_map h xs ys, Bool.eq_iff_iff]
    simp
theorem eqv_partP (a b : List Pr2) : PyData.eqv (partP a) (partP b) = decide (a = b) := by
  unfold partP
  rw [PyData.eqv]
  exact eqvAll_map eqv_pairP a b
theorem lay_partPs : ∀ pss : List (List Pr2), PyData.canLayAll0 (pss.map partP) = true
  | [] => by simp [PyData.canLayAll0]
  | p :: pss => by
    rw [List.map_cons, PyData.canLayAll0, lay_partPs pss, Bool.and_true]
    unfold partP
    rw [PyData.canLay0]
    exact lay_pairPs p
theorem dep_partPs : ∀ pss : List (List Pr2), PyData.depthAll (pss.map partP) ≤ 3
  | [] => by simp [PyData.depthAll]
  | p :: pss => by
    have h1 : (partP p).depth ≤ 3 := by
      have := dep_pairPs p
      unfold partP
      rw [PyData.depth]
      omega
    have h2 := dep_partPs pss
    simp only [List.map_cons, PyData.depthAll]
    omega
theorem sh_parts (pss : List (List Pr2)) : SeqAt.shaped (.list (pss.map partP)) = true := by
  unfold SeqAt.shaped
  rw [Bool.and_eq_true, decide_eq_true_eq]
  refine ⟨by rw [PyData.canLay0]; exact lay_partPs pss, ?_⟩
  rw [PyData.depth]
  have := dep_partPs pss
  omega
theorem dp_parts {B : Bt} {G H : Hp} (o : Ok B G H) {pss : List (List Pr2)} {x : V} (hx : Dd K B G x (partsD pss)) : Dp K H x (.list (pss.map partP)) := by
  unfold partsD at hx
  generalize e : D.lst (pss.map polyD) = d at hx
  cases hx with
  | lst hg t => cases e; exact .lst (SqL.of (o.u _ _ hg)) (dpa_part o pss t)
  | _ => cases e
theorem ro_eqParts {B : Bt} {Pp : D → Prop} {ps qs : List (List Pr2)} (h : Pp (.bl (decide (ps = qs)))) : RO K B (rEqD K) (partsD ps) (partsD qs) Pp := fun G H x y _ o hx hy q => by
  refine ⟨_, _, dp_parts o hx, dp_parts o hy, sh_parts ps, sh_parts qs, ?_⟩
  rw [PyData.eqv, eqvAll_map eqv_partP]
  exact q.nil o (.bl _) h
theorem ro_neParts {B : Bt} {Pp : D → Prop} {ps qs : List (List Pr2)} (h : Pp (.bl (!decide (ps = qs)))) : RO K B (rNeD K) (partsD ps) (partsD qs) Pp := fun G H x y _ o hx hy q => by
  refine ⟨_, _, dp_parts o hx, dp_parts o hy, sh_parts ps, sh_parts qs, ?_⟩
  rw [PyData.eqv, eqvAll_map eqv_partP]
  exact q.nil o (.bl _) h

/-! ### er -/
/-! ### Piece's methods -/
abbrev slP (CP : Addr) (tag : Str) (pss : List (List Pr2)) : Sd := .val (pieceD CP tag pss)
def PcD (CP : Addr) (d : D) : Prop := ∃ (tag : Str) (pss : List (List Pr2)), d = pieceD CP tag pss ∧ Good 200 pss ∧ tag.length ≤ 1000
theorem we_pts {B : Bt} {X : Xc} {δ : List Sd} {CP : Addr} {te : TE} {tag : Str} {pss : List (List Pr2)} {Q : D → Prop} (MG : PcT K mg CP) (h : WEx K B X te δ fun d => d = pieceD CP tag pss ∧ Q (partsD pss)) : WEx K B X (tFld K te "_parts") δ Q :=
  we_fld (wex_mono h fun d ⟨e, q⟩ => ⟨CP, _, _, partsD pss, e, rfl, ⟨MG.cl, MG.np⟩, q⟩)
theorem we_tag {B : Bt} {X : Xc} {δ : List Sd} {CP : Addr} {te : TE} {tag : Str} {pss : List (List Pr2)} {Q : D → Prop} (MG : PcT K mg CP) (h : WEx K B X te δ fun d => d = pieceD CP tag pss ∧ Q (.str tag)) : WEx K B X (tFld K te "name") δ Q :=
  we_fld (wex_mono h fun d ⟨e, q⟩ => ⟨CP, _, _, .str tag, e, rfl, ⟨MG.cl, MG.nn⟩, q⟩)
abbrev s_Piece_area : Stmt := inClass (topS 45) 2
abbrev N_Piece_area : List Str := ["self", "part"]
theorem sc_Piece_area : FnScope N_Piece_area ["self"] (defScope s_Piece_area) := ⟨rfl, rfl, rfl, by decide +kernel, rfl, by decide +kernel, by decide +kernel⟩
theorem ok_Piece_area {k : Nat} {CP f : Addr} {fd : FuncData} (G : Gn mg) (MG : PcT K mg CP) (F : Fun K "area" "Piece.area" s_Piece_area f fd) (C_area_twice : ClAt P w K mg base k) : ClM P w K mg base (k + 1) f fd ["self"] (SpD K (p1 (PcD CP)) fun ds r => ∃ (tag : Str) (pss : List (List Pr2)), ds = [pieceD CP tag pss] ∧ r = .int (pss.map areaP).sum) := by
  refine clm_of F sc_Piece_area (fun _ _ _ _ _ _ us hl => match us, hl with | [_], _ => rfl) p1_len fun cdv A outer s H E hr => ⟨_, (pss_one (ps_ret (pe_callB (show CallR _ (.builtin "sum") (rSum K) from cr_sum rfl) (by rfl) G.g_sum (by decide +kernel) (pa_cons (pe_lc (own := [("part", 1)]) (g := gName 1) (tt := tYes) rfl sc_Piece_area.nd (pi_list (pe_fld (pv 0) rfl)) (blkOk_by (N := N_Piece_area) (sc := defScope s_Piece_area) (by decide +kernel)) (fun _ _ _ _ _ => pg_name (i := 1) sc_Piece_area.nd rfl (Or.inl rfl)) (fun _ _ _ _ _ => pts_nil) (fun _ _ _ _ _ => (pe_c C_area_twice hr (by omega) (by rfl) (pa_cons (pv 1) pa_nil)))) pa_nil)))), fun B ds hp => ?_⟩
  obtain ⟨_, rfl, tag, pss, rfl, g, hz⟩ := p1_ex hp
  have gl := g.l4
  show WS K B _ [slP CP tag pss, .no] _
  refine ws_ret (we_cb (wa_cons (we_lc (wi_list (we_pts MG (we_var rfl ⟨rfl, pss.map polyD, rfl, by rw [List.length_map]; omega, fun n acc => acc = ((pss.take n).map areaP).map D.int, rfl, ?_, ?_⟩))))))
  · rintro n d acc hd hacc
    have hacc' : acc = ((pss.take n).map areaP).map D.int := hacc
    rw [List.getElem?_map] at hd
    obtain ⟨q, hq, rfl⟩ : ∃ q, pss[n]? = some q ∧ polyD q = d := by
      cases e : pss[n]? with
      | none => rw [e] at hd; cases hd
      | some q => rw [e] at hd; exact ⟨q, rfl, Option.some.inj hd⟩
    have hm := List.mem_of_getElem? hq
    try dsimp only [List.set]
    refine wt_yes ?_
    rw [if_pos rfl]
    refine we_call (wa_cons (we_var rfl (wa_nil ⟨⟨q, rfl, by have := (g.cv q hm).h6; omega, fun p hp => upto_le (g.up q hm p hp) (by decide)⟩, ?_⟩)))
    rintro _ ⟨q', e, rfl⟩
    have e1 := prs_inj (D.tup.inj (List.cons.inj e).1)
    subst e1
    show acc ++ [D.int (areaP q)] = ((pss.take (n + 1)).map areaP).map D.int
    rw [hacc', List.take_add_one, hq, List.map_append, List.map_append]
    rfl
  · rintro acc hacc
    have hacc' : acc = ((pss.take (pss.map polyD).length).map areaP).map D.int := hacc
    rw [List.length_map, List.take_length] at hacc'
    rw [hacc']
    exact wa_nil (rc_sum ⟨tag, pss, rfl, rfl⟩)
abbrev s_Piece_parts : Stmt := inClass (topS 45) 3
abbrev N_Piece_parts : List Str := ["self"]
theorem sc_Piece_parts : FnScope N_Piece_parts ["self"] (defScope s_Piece_parts) := ⟨rfl, rfl, rfl, by decide +kernel, rfl, by decide +kernel, by decide +kernel⟩
abbrev ptsPost (CP : Addr) : List D → List D → Prop := fun ds es => ∃ (tag : Str) (pss : List (List Pr2)), ds = [pieceD CP tag pss] ∧ es = pss.map polyD
theorem ok_Piece_parts {k : Nat} {CP f : Addr} {fd : FuncData} (G : Gn mg) (MG : PcT K mg CP) (F : Fun K "parts" "Piece.parts" s_Piece_parts f fd) : ClM P w K mg base (k + 1) f fd ["self"] (SpN K (p1 (PcD CP)) (ptsPost CP)) := by
  refine clmn_of F sc_Piece_parts (fun _ _ _ _ _ _ us hl => match us, hl with | [_], _ => rfl) p1_len fun cdv A outer s H E hr => ⟨_, (pss_one (ps_ret (pe_callTy call_list_of (by rfl) G.g_list (by decide +kernel) (pa_cons (pe_fld (pv 0) rfl) pa_nil)))), fun B ds hp => ?_⟩
  obtain ⟨_, rfl, tag, pss, rfl, g, hz⟩ := p1_ex hp
  show WS K B _ [slP CP tag pss] _
  exact ws_retL (wa_cons (we_pts MG (we_var rfl ⟨rfl, wa_nil ⟨_, .inl rfl, tag, pss, rfl, rfl⟩⟩)))
abbrev s_Piece___len__ : Stmt := inClass (topS 45) 10
abbrev N_Piece___len__ : List Str := ["self"]
theorem sc_Piece___len__ : FnScope N_Piece___len__ ["self"] (defScope s_Piece___len__) := ⟨rfl, rfl, rfl, by decide +kernel, rfl, by decide +kernel, by decide +kernel⟩
theorem ok_Piece___len__ {k : Nat} {CP f : Addr} {fd : FuncData} (G : Gn mg) (MG : PcT K mg CP) (F : Fun K "__len__" "Piece.__len__" s_Piece___len__ f fd) : ClM P w K mg base (k + 1) f fd ["self"] (SpD K (p1 (PcD CP)) fun ds r => ∃ (tag : Str) (pss : List (List Pr2)), ds = [pieceD CP tag pss] ∧ r = .int (pss.length : Nat)) := by
  refine clm_of F sc_Piece___len__ (fun _ _ _ _ _ _ us hl => match us, hl with | [_], _ => rfl) p1_len fun cdv A outer s H E hr => ⟨_, (pss_one (ps_ret (pe_callB (show CallR _ (.builtin "len") (fun xs H Q => ∃ x n, xs = [x] ∧ LenV K x H n ∧ Q (.int n) H) from call_len) (by rfl) G.g_len (by decide +kernel) (pa_cons (pe_fld (pv 0) rfl) pa_nil)))), fun B ds hp => ?_⟩
  obtain ⟨_, rfl, tag, pss, rfl, g, hz⟩ := p1_ex hp
  have gl := g.l4
  show WS K B _ [slP CP tag pss] _
  exact ws_ret (we_cb (wa_cons (we_pts MG (we_var rfl ⟨rfl, wa_nil (rc_len (n := pss.length) (by show some (pss.map polyD).length = _; rw [List.length_map]) (by omega) ⟨tag, pss, rfl, rfl⟩)⟩))))
abbrev s_Piece___eq__ : Stmt := inClass (topS 45) 9
abbrev N_Piece___eq__ : List Str := ["self", "other"]
theorem sc_Piece___eq__ : FnScope N_Piece___eq__ ["self", "other"] (defScope s_Piece___eq__) := ⟨rfl, rfl, rfl, by decide +kernel, rfl, by decide +kernel, by decide +kernel⟩
def eqPost (CP : Addr) : List D → D → Prop := fun ds r => (∃ tag pss tag' pss', ds = [pieceD CP tag pss, pieceD CP tag' pss'] ∧ r = .bl (decide (tag = tag') && decide (pss = pss'))) ∨ ∃ d e, ds = [d, e] ∧ ((∃ z, e = .str z) ∨ ∃ es, e = .lst es) ∧ r = .bl false
theorem ok_Piece___eq__ {k : Nat} {CP f : Addr} {fd : FuncData} (G : Gn mg) (MG : PcT K mg CP) (F : Fun K "__eq__" "Piece.__eq__" s_Piece___eq__ f fd) : ClM P w K mg base (k + 1) f fd ["self", "other"] (SpD K (p2 fun d e => PcD CP d ∧ (PcD CP e ∨ (∃ z, e = .str z) ∨ ∃ es, e = .lst es)) (eqPost CP)) := by
  refine clm_of F sc_Piece___eq__ (fun _ _ _ _ _ _ us hl => match us, hl with | [_, _], _ => rfl) p2_len fun cdv A outer s H E hr => ⟨_, (pss_one (ps_ret (pe_and (pe_callB (show CallR _ (.builtin "isinstance") (rIsi K) from call_isi) (by rfl) G.g_isinstance (by decide +kernel) (pa_cons (pv 1) (pa_cons (pe_glob (v := .ref CP) (by rfl) MG.m_Piece rfl) pa_nil))) (pe_and (pe_cmpR op_eq (pe_fld (pv 0) rfl) (pe_fld (pv 1) rfl) (nomark _)) (pe_one (pe_cmpR (op_eqD hr.units) (pe_fld (pv 0) rfl) (pe_fld (pv 1) rfl) (nomark _))))))), fun B ds hp => ?_⟩
  obtain ⟨_, e, rfl, ⟨tag, pss, rfl, g, hz⟩, he⟩ := p2_ex hp
  rcases he with ⟨tag', pss', rfl, g', hz'⟩ | ⟨z, rfl⟩ | ⟨es, rfl⟩
  · show WS K B _ [slP CP tag pss, slP CP tag' pss'] _
    have ty : ∀ G H v, Ok B G H → Dd K B G v (pieceD CP tag' pss') → TyX K H v (.ref CP) := fun G H v o h => by
      unfold pieceD at h
      generalize (["name", "_parts"] : List Str) = ks at h
      cases h with
      | obj hg _ => exact .base (MG.ty (o.u _ _ hg))
    refine ws_ret (we_andV (we_cb (wa_cons (we_var rfl (wa_cons (we_adr (wa_nil (rc_isiO ty MG.ks ⟨_, rfl, ?_⟩))))))))
    rw [if_pos rfl]
    refine we_andV (we_op (we_tag MG (we_var rfl ⟨rfl, we_tag MG (we_var rfl ⟨rfl, ro_eqS ⟨_, rfl, ?_⟩⟩)⟩)))
    by_cases ht : tag = tag'
    · rw [if_pos (decide_eq_true ht)]
      refine we_op (we_pts MG (we_var rfl ⟨rfl, we_pts MG (we_var rfl ⟨rfl, ro_eqParts (.inl ⟨tag, pss, tag', pss', rfl, ?_⟩)⟩)⟩))
      rw [decide_eq_true ht, Bool.true_and]
    · rw [if_neg (by rw [decide_eq_false ht]; decide)]
      refine .inl ⟨tag, pss, tag', pss', rfl, ?_⟩
      rw [decide_eq_false ht, Bool.false_and]
  · show WS K B _ [slP CP tag pss, .val (.str z)] _
    have ty : ∀ G H v, Ok B G H → Dd K B G v (.str z) → TyX K H v (.type "str") := fun G H v o h => h.tyx o rfl
    refine ws_ret (we_andV (we_cb (wa_cons (we_var rfl (wa_cons (we_adr (wa_nil (rc_isiO ty MG.kt ⟨_, rfl, ?_⟩))))))))
    rw [if_neg (by decide)]
    exact .inr ⟨_, _, rfl, .inl ⟨z, rfl⟩, rfl⟩
  · show WS K B _ [slP CP tag pss, .val (.lst es)] _
    have ty : ∀ G H v, Ok B G H → Dd K B G v (.lst es) → TyX K H v (.type "list") := fun G H v o h => h.tyx o rfl
    refine ws_ret (we_andV (we_cb (wa_cons (we_var rfl (wa_cons (we_adr (wa_nil (rc_isiO ty MG.kl ⟨_, rfl, ?_⟩))))))))
    rw [if_neg (by decide)]
    exact .inr ⟨_, _, rfl, .inr ⟨es, rfl⟩, rfl⟩

end
/-! #### Fk -/
section
variable {P : Program} {w : World} {K : PySem.W.Frag} {mg : Str → Option Value} {base : Heap}
/-! ### nk -/
theorem ro_neOne {B : Bt} {Pp : D → Prop} {qss : List (List Pr2)} (h : Pp (.bl true)) : RO K B (rNeD K) (.lst [partsD qss]) (.lst []) Pp := fun G H x y _ o hx hy q => by
  generalize e1 : partsD qss = d1 at hx
  cases hx with
  | lst hg t =>
    subst e1
    cases t with
    | cons h1 t1 =>
      cases t1
      cases hy with
      | lst hg2 t2 =>
        cases t2
        refine ⟨.list [.list (qss.map partP)], .list [], .lst (SqL.of (o.u _ _ hg)) (.cons (dp_parts o h1) .nil), .lst (SqL.of (o.u _ _ hg2)) .nil, ?_, ?_, ?_⟩
        · unfold SeqAt.shaped
          rw [Bool.and_eq_true, decide_eq_true_eq]
          have e := sh_parts qss
          unfold SeqAt.shaped at e
          rw [Bool.and_eq_true] at e
          refine ⟨by rw [PyData.canLay0, PyData.canLayAll0, PyData.canLayAll0, e.1]; rfl, ?_⟩
          have := dep_partPs qss
          simp only [PyData.depth, PyData.depthAll]
          omega
        · rfl
        · rw [PyData.eqv, PyData.eqvAll]
          exact q.nil o (.bl _) h
/-! ### _law_laid -/
theorem ext_at {a b c d x y : Int} {pss : List (List Pr2)} (h : Hul pss a b c d) (e : Ext 63 pss) (u : ∀ ps ∈ pss, ∀ p ∈ ps, Upto 63 p) : (c - a ≤ 63 ∧ d - b ≤ 63) ∧ (-63 ≤ a ∧ a ≤ 63) ∧ (-63 ≤ b ∧ b ≤ 63) ∧ (-63 ≤ c ∧ c ≤ 63) ∧ (-63 ≤ d ∧ d ≤ 63) := by
  obtain ⟨x0, x1, y0, y1, e1, e2, e3⟩ := e
  obtain ⟨p1, h1, c1, k1, rfl⟩ := h.a_
  obtain ⟨p2, h2, c2, k2, rfl⟩ := h.b_
  obtain ⟨p3, h3, c3, k3, rfl⟩ := h.c_
  obtain ⟨p4, h4, c4, k4, rfl⟩ := h.d_
  have z1 := e3 _ h1 _ k1
  have z2 := e3 _ h2 _ k2
  have z3 := e3 _ h3 _ k3
  have z4 := e3 _ h4 _ k4
  have u1 := u _ h1 _ k1
  have u2 := u _ h2 _ k2
  have u3 := u _ h3 _ k3
  have u4 := u _ h4 _ k4
  unfold Upto at *
  omega
theorem hul_up {a b c d n : Int} {pss : List (List Pr2)} (h : Hul pss a b c d) (u : ∀ ps ∈ pss, ∀ p ∈ ps, Upto n p) : (-n ≤ a ∧ a ≤ n) ∧ (-n ≤ b ∧ b ≤ n) ∧ (-n ≤ c ∧ c ≤ n) ∧ (-n ≤ d ∧ d ≤ n) := by
  obtain ⟨p1, h1, c1, k1, rfl⟩ := h.a_
  obtain ⟨p2, h2, c2, k2, rfl⟩ := h.b_
  obtain ⟨p3, h3, c3, k3, rfl⟩ := h.c_
  obtain ⟨p4, h4, c4, k4, rfl⟩ := h.d_
  have u1 := u _ h1 _ k1
  have u2 := u _ h2 _ k2
  have u3 := u _ h3 _ k3
  have u4 := u _ h4 _ k4
  unfold Upto at *
  omega
abbrev s__law_laid : Stmt := topS 71
abbrev N__law_laid : List Str := ["_law_box_here", "_law_others", "_law_turns_z", "_law_polys", "_law_x", "_law_y", "_law_slide", "_law_p", "_law_old", "_law_new"]
theorem sc__law_laid : FnScope N__law_laid ["_law_box_here", "_law_others"] (defScope s__law_laid) := ⟨rfl, rfl, rfl, by decide +kernel, rfl, by decide +kernel, by decide +kernel⟩
abbrev ldPre : List D → Prop := p2 fun b d => b = .box ∧ (d = .lst [] ∨ ∃ qss : List (List Pr2), d = .lst [partsD qss] ∧ Good 75 qss)
def ldPost : List D → D → Prop := fun ds r => ∃ pss : List (List Pr2), r = partsD pss ∧ Laid 141 pss ∧ (ds = [.box, .lst []] → Good 75 pss)
abbrev ClLd (P : Program) (w : World) (K : PySem.W.Frag) (mg : Str → Option Value) (base : Heap) (k : Nat) := Cl P w K mg base k "_law_laid" s__law_laid ["_law_box_here", "_law_others"] (SpD K ldPre ldPost)
theorem ok__law_laid {k : Nat} (G : Gn mg) (F : Df K mg "_law_laid" s__law_laid) (C__law_take : ClT P w K mg base k) (C__law_shape : ClSh P w K mg base k) (C__law_quarter : ClQu P w K mg base k) (C__law_sent : ClSe P w K mg base k) (C__law_arranged : ClAg P w K mg base k) (C__law_hull : ClHu P w K mg base k) (C__law_pick : ClP P w K mg base k) : ClLd P w K mg base (k + 1) := by
  refine cl_of F sc__law_laid (fun _ _ _ _ _ _ us hl => match us, hl with | [_, _], _ => rfl) p2_len fun f cdv A outer s H E hr => ⟨_, (pss_cons (ps_set (i := 2) sc__law_laid.nd rfl (Or.inr rfl) (pe_c C__law_take hr (by omega) (by rfl) (pa_cons (pv 0) (pa_cons pe_int pa_nil))))
      (pss_cons (ps_setLc (i := 3) (own := [("_law_p", 7)]) (g := gName 7) (tt := tYes) rfl sc__law_laid.nd rfl rfl (sw_true rfl rfl rfl (by decide +kernel)) (pi_list (pe_c C__law_shape hr (by omega) (by rfl) (pa_cons (pv 0) pa_nil))) (blkOk_by (N := N__law_laid) (sc := defScope s__law_laid) (by decide +kernel)) (fun _ _ _ _ _ => pg_name (i := 7) sc__law_laid.nd rfl (Or.inl rfl)) (fun _ _ _ _ _ => pts_nil) (fun _ _ _ _ _ => (pe_c C__law_quarter hr (by omega) (by rfl) (pa_cons (pv 7) (pa_cons (pv 2) pa_nil)))))
      (pss_cons (ps_asg (pe_tupZ (pa_cons (pe_op op_sub (pe_c C__law_take hr (by omega) (by rfl) (pa_cons (pv 0) (pa_cons pe_int pa_nil))) pe_int) (pa_cons (pe_op op_sub (pe_c C__law_take hr (by omega) (by rfl) (pa_cons (pv 0) (pa_cons pe_int pa_nil))) pe_int) pa_nil))) (show PG _ _ (gTup K 2 (gCons (gName 4) (gCons (gName 5) gNil))) from pg_tup rfl (pgs_cons (pg_name (i := 4) sc__law_laid.nd rfl (Or.inr rfl)) (pgs_cons (pg_name (i := 5) sc__law_laid.nd rfl (Or.inr rfl)) pgs_nil))))
      (pss_cons (ps_if (PW.pt (pw_and (pt_cmpR (op_neD hr.units) (pv 1) (pe_lst pa_nil) (nomark _)) (pw_and1 (pt_cmpR op_gt (pe_c C__law_take hr (by omega) (by rfl) (pa_cons (pv 0) (pa_cons pe_int pa_nil))) pe_int (nomark _))))) (pss_cons (ps_par (i := 8) (j := 9) (by rfl) sc__law_laid.nd rfl rfl (by decide) rfl rfl (pa_cons (pe_c C__law_hull hr (by omega) (by rfl) (pa_cons (pe_c C__law_pick hr (by omega) (by rfl) (pa_cons (pv 0) (pa_cons (pv 1) pa_nil))) pa_nil)) (pa_cons (pe_c C__law_hull hr (by omega) (by rfl) (pa_cons (pv 3) pa_nil)) pa_nil)) (by rfl))
      (pss_cons (ps_set (i := 6) sc__law_laid.nd rfl (Or.inl rfl) (pe_op op_sub (pe_c C__law_take hr (by omega) (by rfl) (pa_cons (pv 0) (pa_cons pe_int pa_nil))) pe_int))
      (pss_one (ps_asg (pe_c C__law_pick hr (by omega) (by rfl) (pa_cons (pv 0) (pa_cons (pe_lst (pa_cons (pe_tupZ (pa_cons (pe_op op_sub (pe_ix (show IxR _ (rIxT K) from ix_tup) (pv 8) pe_int (fun _ _ => rfl)) (pe_ix (show IxR _ (rIxT K) from ix_tup) (pv 9) pe_int (fun _ _ => rfl))) (pa_cons (pe_op op_add (pe_op op_sub (pe_ix (show IxR _ (rIxT K) from ix_tup) (pv 8) pe_int (fun _ _ => rfl)) (pe_ix (show IxR _ (rIxT K) from ix_tup) (pv 9) pe_int (fun _ _ => rfl))) (pv 6)) pa_nil))) (pa_cons (pe_tupZ (pa_cons (pe_op op_sub (pe_ix (show IxR _ (rIxT K) from ix_tup) (pv 8) pe_int (fun _ _ => rfl)) (pe_ix (show IxR _ (rIxT K) from ix_tup) (pv 9) pe_int (fun _ _ => rfl))) (pa_cons (pe_op op_add (pe_op op_sub (pe_ix (show IxR _ (rIxT K) from ix_tup) (pv 8) pe_int (fun _ _ => rfl)) (pe_ix (show IxR _ (rIxT K) from ix_tup) (pv 9) pe_int (fun _ _ => rfl))) (pv 6)) pa_nil))) (pa_cons (pe_tupZ (pa_cons (pe_op op_add (pe_op op_sub (pe_ix (show IxR _ (rIxT K) from ix_tup) (pv 8) pe_int (fun _ _ => rfl)) (pe_ix (show IxR _ (rIxT K) from ix_tup) (pv 9) pe_int (fun _ _ => rfl))) (pv 6)) (pa_cons (pe_op op_sub (pe_ix (show IxR _ (rIxT K) from ix_tup) (pv 8) pe_int (fun _ _ => rfl)) (pe_ix (show IxR _ (rIxT K) from ix_tup) (pv 9) pe_int (fun _ _ => rfl))) pa_nil))) (pa_cons (pe_tupZ (pa_cons (pe_op op_add (pe_op op_sub (pe_ix (show IxR _ (rIxT K) from ix_tup) (pv 8) pe_int (fun _ _ => rfl)) (pe_ix (show IxR _ (rIxT K) from ix_tup) (pv 9) pe_int (fun _ _ => rfl))) (pv 6)) (pa_cons (pe_op op_sub (pe_ix (show IxR _ (rIxT K) from ix_tup) (pv 8) pe_int (fun _ _ => rfl)) (pe_ix (show IxR _ (rIxT K) from ix_tup) (pv 9) pe_int (fun _ _ => rfl))) pa_nil))) pa_nil))))) pa_nil))) (show PG _ _ (gTup K 2 (gCons (gName 4) (gCons (gName 5) gNil))) from pg_tup rfl (pgs_cons (pg_name (i := 4) sc__law_laid.nd rfl (Or.inr rfl)) (pgs_cons (pg_name (i := 5) sc__law_laid.nd rfl (Or.inr rfl)) pgs_nil))))))) pss_nil)
      (pss_one (ps_ret (pe_c C__law_arranged hr (by omega) (by rfl) (pa_cons (pe_lc (own := [("_law_p", 7)]) (g := gName 7) (tt := tYes) rfl sc__law_laid.nd (pi_list (pv 3)) (blkOk_by (N := N__law_laid) (sc := defScope s__law_laid) (by decide +kernel)) (fun _ _ _ _ _ => pg_name (i := 7) sc__law_laid.nd rfl (Or.inl rfl)) (fun _ _ _ _ _ => pts_nil) (fun _ _ _ _ _ => (pe_c C__law_sent hr (by omega) (by rfl) (pa_cons (pv 7) (pa_cons (pv 4) (pa_cons (pv 5) pa_nil)))))) pa_nil)))))))), fun B ds hp => ?_⟩
  obtain ⟨_, oth, rfl, rfl, ho⟩ := p2_ex hp
  show WS K B _ [.val .box, .val oth, .no, .no, .no, .no, .no, .no, .no, .no] _
  try dsimp only [cxOf, Cx.nox, Cx.blk]
  repeat walk_at "dl"
  refine ⟨⟨rfl, _, rfl, by decide, by decide⟩, ?_⟩
  rintro _ ⟨n, j, e, rfl, h0, h1⟩
  cases e
  try dsimp only [List.set]
  refine ws_seq (ws_set (we_lcB polyD (wi_list (we_call (wa_cons (we_var rfl (wa_nil ⟨rfl, ?_⟩)))))))
  rintro _ ⟨pss, rfl, g, ex⟩
  have gl := g.l4
  refine ⟨_, rfl, pss, fun q => polyD (q.map (qtrN (j.fmod 4).toNat)), rfl, by omega, fun q hm => ?_, ?_⟩
  · try dsimp only [List.set]
    refine we_call (wa_cons (we_var rfl (wa_cons (we_var rfl (wa_nil ⟨⟨q, j, rfl, rfl, by have := (g.cv q hm).h6; omega, fun p hp => upto_le (g.up q hm p hp) (by decide)⟩, ?_⟩)))))
    rintro _ ⟨q', j', e, rfl⟩
    have e1 := prs_inj (D.tup.inj (List.cons.inj e).1)
    have e2 := D.int.inj (List.cons.inj (List.cons.inj e).2).1
    subst e1 e2
    rfl
  have g1 := Good.map (stiff_qtrN (j.fmod 4).toNat) (fun p h => upto_qtrN h _) g
  have ex1 := ex.qtrN (j.fmod 4).toNat
  rw [show pss.map (fun q => polyD (q.map (qtrN (j.fmod 4).toNat))) = (pss.map (List.map (qtrN (j.fmod 4).toNat))).map polyD by rw [List.map_map]; rfl]
  generalize pss.map (List.map (qtrN (j.fmod 4).toNat)) = qss at g1 ex1
  clear g gl ex
  try dsimp only [List.set]
  refine ws_seq (ws_unt2 ?_)
  repeat walk_at "dl"
  refine ⟨⟨rfl, _, rfl, by decide, by decide⟩, ?_⟩
  rintro _ ⟨n, x, e, rfl, hx0, hx1⟩
  cases e
  repeat walk_at "dl"
  refine ⟨⟨rfl, _, rfl, by decide, by decide⟩, ?_⟩
  rintro _ ⟨n, y, e, rfl, hy0, hy1⟩
  cases e
  have gl := g1.l4
  refine we_int (ro_int0 (wa_nil ⟨by show 2 ≤ 1000; decide, _, _, rfl, ?_⟩))
  try dsimp only [List.set]
  refine ws_seq (ws_nx (I := fun δ1 => ∃ (x y : Int) (y6 y8 y9 : Sd), δ1 = [.val .box, .val oth, .val (.int j), .val (.lst (qss.map polyD)), .val (.int x), .val (.int y), y6, .no, y8, y9] ∧ (∀ ps ∈ qss, ∀ p ∈ ps, Upto 141 (sentP x y p)) ∧ (oth = .lst [] → ∀ ps ∈ qss, ∀ p ∈ ps, Upto 75 (sentP x y p))) ?A ?B)
  case B =>
    rintro δ1 ⟨x, y, y6, y8, y9, rfl, u1, u2⟩
    refine ws_ret (we_call (wa_cons (we_lcA (xs := qss) polyD (fun q => polyD (q.map (sentP x y))) (by omega) (wi_list (we_var rfl ⟨_, rfl, rfl⟩)) (fun q hm => ?_) ?_)))
    · try dsimp only [List.set]
      refine we_call (wa_cons (we_var rfl (wa_cons (we_var rfl (wa_cons (we_var rfl (wa_nil ⟨⟨q, _, _, rfl, rfl, rfl, by have := (g1.cv q hm).h6; omega⟩, ?_⟩)))))))
      rintro _ ⟨q', x', y', e, rfl⟩
      have e1 := prs_inj (D.tup.inj (List.cons.inj e).1)
      have e2 := D.int.inj (List.cons.inj (List.cons.inj e).2).1
      have e3 := D.int.inj (List.cons.inj (List.cons.inj (List.cons.inj e).2).2).1
      subst e1 e2 e3
      rfl
    rw [show qss.map (fun q => polyD (q.map (sentP x y))) = (qss.map (List.map (sentP x y))).map polyD by rw [List.map_map]; rfl]
    have up : ∀ n : Int, (∀ ps ∈ qss, ∀ p ∈ ps, Upto n (sentP x y p)) → Good n (qss.map (List.map (sentP x y))) := fun n h => by
      have g0 : Good 100000 (qss.map (List.map (sentP x y))) ∨ True := .inr trivial
      refine ⟨fun z => g1.ne (List.map_eq_nil_iff.mp z), by rw [List.length_map]; exact g1.l4, ?_, ?_, ?_, ?_⟩
      · intro q hq
        obtain ⟨p, hp, rfl⟩ := List.mem_map.mp hq
        exact (g1.cv p hp).map (stiff_sent x y)
      · intro q hq c hc
        obtain ⟨p, hp, rfl⟩ := List.mem_map.mp hq
        obtain ⟨z, hz, rfl⟩ := List.mem_map.mp hc
        exact h p hp z hz
      · exact List.pairwise_map.mpr (g1.ov.imp fun z => by rw [(stiff_sent x y).ov]; exact z)
      · rintro S ⟨q, hq, sq⟩ cl q' hq'
        obtain ⟨p, hp, rfl⟩ := List.mem_map.mp hq
        obtain ⟨p', hp', rfl⟩ := List.mem_map.mp hq'
        exact g1.cn (fun p => S (p.map (sentP x y))) ⟨p, hp, sq⟩ (fun a ha b hb sa j => cl _ (List.mem_map.mpr ⟨a, ha, rfl⟩) _ (List.mem_map.mpr ⟨b, hb, rfl⟩) sa (by rw [(stiff_sent x y).jo]; exact j)) p' hp'
    have g2 := up 141 u1
    refine wa_nil ⟨⟨_, _, rfl, g2⟩, ?_⟩
    rintro _ ⟨qss', e, rfl⟩
    rw [← partsD_inj (List.cons.inj e).1]
    exact ⟨_, rfl, Laid.of g2, fun e2 => (Laid.of (up 75 (u2 (List.cons.inj (List.cons.inj e2).2).1))).g⟩
  case A =>
    have up0 : ∀ ps ∈ qss, ∀ p ∈ ps, Upto 75 (sentP (x - 12) (y - 12) p) := fun ps hp p hm => by
      have := g1.up ps hp p hm
      unfold Upto sentP at *
      dsimp only
      omega
    have skip : ∀ {δ2 : List Sd}, δ2 = [.val .box, .val oth, .val (.int j), .val (.lst (qss.map polyD)), .val (.int (x - 12)), .val (.int (y - 12)), .no, .no, .no, .no] → ∃ (x y : Int) (y6 y8 y9 : Sd), δ2 = [.val .box, .val oth, .val (.int j), .val (.lst (qss.map polyD)), .val (.int x), .val (.int y), y6, .no, y8, y9] ∧ (∀ ps ∈ qss, ∀ p ∈ ps, Upto 141 (sentP x y p)) ∧ (oth = .lst [] → ∀ ps ∈ qss, ∀ p ∈ ps, Upto 75 (sentP x y p)) := fun e =>
      ⟨_, _, _, _, _, e, fun ps hp p hm => upto_le (up0 ps hp p hm) (by decide), fun _ => up0⟩
    refine ws_if (wt_and (wt_test (we_op (we_var rfl ?_))))
    rcases ho with rfl | ⟨oss, rfl, go⟩
    · refine we_lst (wa_nil ⟨by decide, ro_neParts (ps := []) (qs := []) ?_⟩)
      refine ⟨false, rfl, ?_⟩
      rw [if_neg (by decide)]
      rw [if_neg (by decide)]
      exact ws_next (skip rfl)
    · refine we_lst (wa_nil ⟨by decide, ro_neOne ?_⟩)
      refine ⟨true, rfl, ?_⟩
      rw [if_pos rfl]
      refine wt_test (we_op (we_call (wa_cons (we_var rfl (wa_cons (we_int (wa_nil ⟨⟨rfl, _, rfl, by decide, by decide⟩, ?_⟩)))))))
      rintro _ ⟨n, c, e, rfl, hc0, hc1⟩
      cases e
      refine we_int (ro_bl0 ⟨_, rfl, ?_⟩)
      refine ite2 (fun _ => ?_) (fun _ => ws_next (skip rfl))
      refine ws_seq (ws_par (wa_cons (we_call (wa_cons (we_call (wa_cons (we_var rfl (wa_cons (we_var rfl (wa_nil ⟨⟨rfl, _, rfl, by show 0 < 1; decide, by show 1 ≤ 1000; decide⟩, ?_⟩))))))))))
      rintro r ⟨_, e, hm⟩
      cases e
      rw [List.mem_singleton.mp hm]
      refine wa_nil ⟨⟨oss, rfl, go.mono (by decide)⟩, ?_⟩
      rintro _ ⟨oss', a, b, c, d, e, rfl, hu⟩
      have e1 := partsD_inj (List.cons.inj e).1
      subst e1
      refine wa_cons (we_call (wa_cons (we_var (d := partsD qss) rfl (wa_nil ⟨⟨qss, rfl, g1.mono (by decide)⟩, ?_⟩))))
      rintro _ ⟨qss', a', b', c', d', e, rfl, hu'⟩
      have e1 := partsD_inj (List.cons.inj e).1
      subst e1
      refine wa_nil ⟨_, _, rfl, ?_⟩
      try dsimp only [List.set]
      obtain ⟨b1, b2, b3, b4⟩ := hul_up hu go.up
      obtain ⟨⟨w1, w2⟩, b5, b6, b7, b8⟩ := ext_at (x := 0) (y := 0) hu' ex1 (fun ps hp p hm => g1.up ps hp p hm)
      refine ws_seq (ws_set (we_op (we_call (wa_cons (we_var rfl (wa_cons (we_int (wa_nil ⟨⟨rfl, _, rfl, by decide, by decide⟩, ?_⟩))))))))
      rintro _ ⟨n, s, e, rfl, hs0, hs1⟩
      cases e
      refine we_int (ro_int0 ?_)
      try dsimp only [List.set]
      refine ws_unt2 (we_call (wa_cons (we_var rfl (wa_cons ?_))))
      have at0 : ∀ {p q r z : Int}, atI [D.int p, .int q, .int r, .int z] 0 = some (.int p) := rfl
      have at1 : ∀ {p q r z : Int}, atI [D.int p, .int q, .int r, .int z] 1 = some (.int q) := rfl
      have at2 : ∀ {p q r z : Int}, atI [D.int p, .int q, .int r, .int z] 2 = some (.int r) := rfl
      have at3 : ∀ {p q r z : Int}, atI [D.int p, .int q, .int r, .int z] 3 = some (.int z) := rfl
      refine we_lst (wax_mono (P := fun ds => ds = [D.tup [.int (c - a'), .int (b - b' + (s - 3))], .tup [.int (a - c'), .int (b - b' + (s - 3))], .tup [.int (a - a' + (s - 3)), .int (d - b')], .tup [.int (a - a' + (s - 3)), .int (b - d')]]) (wa_eqc ?_ (wa_eqc ?_ (wa_eqc ?_ (wa_eqc ?_ wa_eq0)))) fun ds e => ?_)
      · refine we_tup (wa_cons (we_op (we_op (we_var rfl (we_int (ro_ixT at2 (we_op (we_var rfl (we_int (ro_ixT at0 (ro_int0 (wa_cons ?_))))))))))))
        refine we_op (we_op (we_op (we_var rfl (we_int (ro_ixT at1 (we_op (we_var rfl (we_int (ro_ixT at1 (ro_int0 (we_var rfl (ro_int0 (wa_nil ⟨by show 2 ≤ 1000; decide, rfl⟩)))))))))))))
      · refine we_tup (wa_cons (we_op (we_op (we_var rfl (we_int (ro_ixT at0 (we_op (we_var rfl (we_int (ro_ixT at2 (ro_int0 (wa_cons ?_))))))))))))
        refine we_op (we_op (we_op (we_var rfl (we_int (ro_ixT at1 (we_op (we_var rfl (we_int (ro_ixT at1 (ro_int0 (we_var rfl (ro_int0 (wa_nil ⟨by show 2 ≤ 1000; decide, rfl⟩)))))))))))))
      · refine we_tup (wa_cons (we_op (we_op (we_op (we_var rfl (we_int (ro_ixT at0 (we_op (we_var rfl (we_int (ro_ixT at0 (ro_int0 (we_var rfl (ro_int0 (wa_cons ?_)))))))))))))))
        refine we_op (we_op (we_var rfl (we_int (ro_ixT at3 (we_op (we_var rfl (we_int (ro_ixT at1 (ro_int0 (wa_nil ⟨by show 2 ≤ 1000; decide, rfl⟩))))))))))
      · refine we_tup (wa_cons (we_op (we_op (we_op (we_var rfl (we_int (ro_ixT at0 (we_op (we_var rfl (we_int (ro_ixT at0 (ro_int0 (we_var rfl (ro_int0 (wa_cons ?_)))))))))))))))
        refine we_op (we_op (we_var rfl (we_int (ro_ixT at1 (we_op (we_var rfl (we_int (ro_ixT at3 (ro_int0 (wa_nil ⟨by show 2 ≤ 1000; decide, rfl⟩))))))))))
      subst e
      refine ⟨by show 4 ≤ 1000; decide, wa_nil ⟨⟨rfl, _, rfl, by show 0 < 4; decide, by show 4 ≤ 1000; decide⟩, ?_⟩⟩
      rintro r ⟨_, e, hm⟩
      cases e
      have fin : ∀ x y : Int, (∀ ps ∈ qss, ∀ p ∈ ps, Upto 141 (sentP x y p)) → ∃ (x' y' : Int) (y6 y8 y9 : Sd), [Sd.val .box, .val (.lst [partsD oss]), .val (.int j), .val (.lst (qss.map polyD)), .val (.int x), .val (.int y), .val (.int (s - 3)), .no, .val (.tup [.int a, .int b, .int c, .int d]), .val (.tup [.int a', .int b', .int c', .int d'])] = [.val .box, .val (.lst [partsD oss]), .val (.int j), .val (.lst (qss.map polyD)), .val (.int x'), .val (.int y'), y6, .no, y8, y9] ∧ (∀ ps ∈ qss, ∀ p ∈ ps, Upto 141 (sentP x' y' p)) ∧ (D.lst [partsD oss] = .lst [] → ∀ ps ∈ qss, ∀ p ∈ ps, Upto 75 (sentP x' y' p)) := fun x y h => ⟨x, y, _, _, _, rfl, h, fun z => by cases z⟩
      simp only [List.mem_cons, List.not_mem_nil, or_false] at hm
      rcases hm with rfl | rfl | rfl | rfl <;> refine ⟨_, _, rfl, ?_⟩ <;> try dsimp only [List.set]
      all_goals refine fin _ _ fun ps hp p hm => ?_
      all_goals have z := hu'.in_ ps hp p hm
      all_goals unfold Upto sentP
      all_goals dsimp only
      all_goals omega

end
/-! #### Fs -/
section
variable {P : Program} {w : World} {K : PySem.W.Frag} {mg : Str → Option Value} {base : Heap}
/-! ### es -/
/-! ### Piece.__repr__ -/
section
variable {B : Bt} {δ : List Sd} {P : D → Prop} {X : Xc}
def WJx (K : PySem.W.Frag) (B : Bt) (X : Xc) (ts : List TE) (acc : Str) (δ : List Sd) (P : Str → Prop) : Prop := ∀ G0 H0 σ G H (Q : Str → Hp → Prop), Stt K B G0 H0 G H σ δ → CtX K B X σ δ G H → (∀ out G1 H1, Go B G H G1 H1 → Ok B G1 H1 → P out → Q out H1) → tJs ts acc σ H Q
theorem wj_nil {acc : Str} {P : Str → Prop} (p : P acc) : WJx K B X [] acc δ P := fun G0 H0 σ G H Q s xx q => q acc G H Go.refl s.ok p
theorem wj_cons {t : TE} {ts : List TE} {acc : Str} {P : Str → Prop} (h : WEx K B X t δ fun d => ∃ y, d = .str y ∧ (acc ++ y).length ≤ sizeLine ∧ WJx K B X ts (acc ++ y) δ P) : WJx K B X (t :: ts) acc δ P := fun G0 H0 σ G H Q s xx q =>
  h G0 H0 σ G H _ s xx fun v d G1 H1 g1 o1 hd ⟨y, e, l, w⟩ => by
    subst e
    cases hd
    exact ⟨y, rfl, l, w G0 H0 σ G1 H1 _ (s.on g1 o1) (xx.on g1 o1) fun out G2 H2 g2 o2 p => q out G2 H2 (g1.trans o1 g2) o2 p⟩
theorem we_joined {ts : List TE} (h : WJx K B X ts Str.empty δ fun out => P (.str out)) : WEx K B X (fun σ H Q => tJs ts Str.empty σ H fun out H1 => Q (.str out) H1) δ P := fun G0 H0 σ G H Q s xx q =>
  h G0 H0 σ G H _ s xx fun out G1 H1 g1 o1 p => q (.str out) (.str out) G1 H1 g1 o1 (.str out) p
theorem we_fmt {te : TE} (h : WEx K B X te δ fun d => (∃ y : Str, d = .str y ∧ y.length ≤ sizeLine ∧ P (.str y)) ∨ ∃ i : Int, d = .int i ∧ i.natAbs.log2 < 1920 ∧ P (.str (toString i))) : WEx K B X (tFmt te) δ P := fun G0 H0 σ G H Q s xx q =>
  h G0 H0 σ G H _ s xx fun v d G1 H1 g1 o1 hd w => by
    rcases w with ⟨y, e, l, p⟩ | ⟨i, e, l, p⟩
    · subst e
      cases hd
      exact .inl ⟨y, rfl, l, q (.str y) (.str y) G1 H1 g1 o1 (.str y) p⟩
    · subst e
      cases hd
      exact .inr ⟨i, rfl, l, q _ _ G1 H1 g1 o1 (.str _) p⟩
end
def dig (n : Nat) : Str := toString (n : Int)
def reprP (tag : Str) (n : Nat) : Str := ((((Str.empty ++ ("Piece(" : Str)) ++ tag) ++ (", " : Str)) ++ dig n) ++ (" parts)" : Str)
theorem len_app (a b : Str) : (a ++ b).length = a.length + b.length := by
  show (a.cps ++ b.cps).size = a.cps.size + b.cps.size
  exact Array.size_append
theorem dig_len {n : Nat} (h : n ≤ 4) : (dig n).length ≤ 10 := by
  have : n = 0 ∨ n = 1 ∨ n = 2 ∨ n = 3 ∨ n = 4 := by omega
  rcases this with rfl | rfl | rfl | rfl | rfl <;> decide
theorem log_ok {n : Nat} (h : n ≤ 4) : ((n : Int)).natAbs.log2 < 1920 := by
  have : n = 0 ∨ n = 1 ∨ n = 2 ∨ n = 3 ∨ n = 4 := by omega
  rcases this with rfl | rfl | rfl | rfl | rfl <;> decide
abbrev s_Piece___repr__ : Stmt := inClass (topS 45) 11
abbrev N_Piece___repr__ : List Str := ["self"]
theorem sc_Piece___repr__ : FnScope N_Piece___repr__ ["self"] (defScope s_Piece___repr__) := ⟨rfl, rfl, rfl, by decide +kernel, rfl, by decide +kernel, by decide +kernel⟩
theorem ok_Piece___repr__ {k : Nat} {CP f : Addr} {fd : FuncData} (G : Gn mg) (MG : PcT K mg CP) (F : Fun K "__repr__" "Piece.__repr__" s_Piece___repr__ f fd) : ClM P w K mg base (k + 1) f fd ["self"] (SpD K (p1 (PcD CP)) fun ds r => ∃ (tag : Str) (pss : List (List Pr2)), ds = [pieceD CP tag pss] ∧ r = .str (reprP tag pss.length)) := by
  refine clm_of F sc_Piece___repr__ (fun _ _ _ _ _ _ us hl => match us, hl with | [_], _ => rfl) p1_len fun cdv A outer s H E hr => ⟨_, (pss_one (ps_ret (pe_joined (PJ.cons pe_str (PJ.cons (pe_fmt (pe_fld (pv 0) rfl)) (PJ.cons pe_str (PJ.cons (pe_fmt (pe_callB (show CallR _ (.builtin "len") (fun xs H Q => ∃ x n, xs = [x] ∧ LenV K x H n ∧ Q (.int n) H) from call_len) (by rfl) G.g_len (by decide +kernel) (pa_cons (pe_fld (pv 0) rfl) pa_nil))) (PJ.cons pe_str PJ.nil)))))))), fun B ds hp => ?_⟩
  obtain ⟨_, rfl, tag, pss, rfl, g, hz⟩ := p1_ex hp
  have gl := g.l4
  show WS K B _ [slP CP tag pss] _
  have hd := dig_len gl
  have sl : (10000 : Nat) ≤ sizeLine := by rw [sizeLine_eq]; decide
  have l1 : (("Piece(" : Str)).length = 6 := rfl
  have l2 : ((", " : Str)).length = 2 := rfl
  have l3 : ((" parts)" : Str)).length = 7 := rfl
  have l0 : Str.empty.length = 0 := rfl
  refine ws_ret (we_joined (wj_cons (we_str ⟨_, rfl, by rw [len_app]; omega, wj_cons (we_fmt (we_tag MG (we_var rfl ⟨rfl, .inl ⟨tag, rfl, by omega, tag, rfl, by rw [len_app, len_app]; omega, ?_⟩⟩)))⟩)))
  refine wj_cons (we_str ⟨_, rfl, by rw [len_app, len_app, len_app]; omega, ?_⟩)
  refine wj_cons (we_fmt (we_cb (wa_cons (we_pts MG (we_var rfl ⟨rfl, wa_nil (rc_len (n := pss.length) (by show some (pss.map polyD).length = _; rw [List.length_map]) (by omega) (.inr ⟨_, rfl, log_ok gl, dig pss.length, rfl, ?_, ?_⟩))⟩)))))
  · rw [len_app, len_app, len_app, len_app]; omega
  · refine wj_cons (we_str ⟨_, rfl, ?_, wj_nil ⟨tag, pss, rfl, rfl⟩⟩)
    rw [len_app, len_app, len_app, len_app, len_app]; omega

end
/-! #### Ft -/
section
variable {P : Program} {w : World} {K : PySem.W.Frag} {mg : Str → Option Value} {base : Heap}
/-! ### et -/
/-! ### _law_piece_so -/
section
variable {CP fA fL fR fP pA : Addr} {dA dL dR dP : FuncData}
/-- what the class tells of its methods, behind their proofs -/
structure PmT (K : PySem.W.Frag) (CP fA fL fR fP pA : Addr) : Prop where
  m_parts : Meth K CP "parts" fP
  p_area : PropOf K CP "area" pA fA
  l_at : PySem.W.findIn K (.ref CP) "__len__" = some (some (.ref fL))
  l_fn : PySem.W.isFn K (.ref fL) = true
  r_at : PySem.W.findIn K (.ref CP) "__repr__" = some (some (.ref fR))
  r_fn : PySem.W.isFn K (.ref fR) = true
theorem rc_strI {B : Bt} {P : D → Prop} {i : Int} (l : i.natAbs.log2 < 1920) (p : P (.str (toString i))) : RC K B (fun xs H Q => ∃ i : Int, xs = [V.int i] ∧ i.natAbs.log2 < 1920 ∧ Q (.str (toString i)) H) [.int i] P := fun G H vs Q o hs q => by
  cases hs with
  | cons h1 t =>
    cases t
    cases h1
    exact ⟨i, rfl, l, q.nil o (.str _) p⟩
theorem pieceD_inj {t t' : Str} {p p' : List (List Pr2)} (h : pieceD CP t p = pieceD CP t' p') : t = t' ∧ p = p' := by
  have h1 := (D.obj.inj h).2.2
  exact ⟨D.str.inj (List.cons.inj h1).1, partsD_inj (List.cons.inj (List.cons.inj h1).2).1⟩
theorem plain_poly {ps : List Pr2} (h : ps.length ≤ 1000) : plain 3 (polyD ps) = true := by
  show (decide ((ps.map Dl.pairD).length ≤ 1000) && (ps.map Dl.pairD).all (plain 2)) = true
  rw [List.length_map, decide_eq_true h, Bool.true_and, List.all_eq_true]
  intro d hd
  obtain ⟨p, _, rfl⟩ := List.mem_map.mp hd
  rfl
theorem plain_parts {n : Int} {pss : List (List Pr2)} (g : Good n pss) : plain 4 (partsD pss) = true := by
  have := g.l4
  show (decide ((pss.map polyD).length ≤ 1000) && (pss.map polyD).all (plain 3)) = true
  rw [List.length_map, decide_eq_true (by omega), Bool.true_and, List.all_eq_true]
  intro d hd
  obtain ⟨p, hp, rfl⟩ := List.mem_map.mp hd
  exact plain_poly (by have := (g.cv p hp).h6; omega)
abbrev s__law_piece_so : Stmt := topS 72
abbrev N__law_piece_so : List Str := ["_law_found", "_law_body", "_law_due", "_law_p"]
theorem sc__law_piece_so : FnScope N__law_piece_so ["_law_found", "_law_body"] (defScope s__law_piece_so) := ⟨rfl, rfl, rfl, by decide +kernel, rfl, by decide +kernel, by decide +kernel⟩
abbrev ClPs (P : Program) (w : World) (K : PySem.W.Frag) (mg : Str → Option Value) (base : Heap) (CP : Addr) (k : Nat) := Cl P w K mg base k "_law_piece_so" s__law_piece_so ["_law_found", "_law_body"] (SpD K (p2 fun d b => ∃ (tag : Str) (pss : List (List Pr2)), d = pieceD CP tag pss ∧ b = .tup [.str tag, partsD pss] ∧ Laid 200 pss ∧ tag.length ≤ 1000) fun _ r => r = .bl true)
theorem ok__law_piece_so {k : Nat} (G : Gn mg) (MG : PcT K mg CP) (MM : PmT K CP fA fL fR fP pA) (F : Df K mg "_law_piece_so" s__law_piece_so)
    (CM_area : ClM P w K mg base k fA dA ["self"] (SpD K (p1 (PcD CP)) fun ds r => ∃ (tag : Str) (pss : List (List Pr2)), ds = [pieceD CP tag pss] ∧ r = .int (pss.map areaP).sum))
    (CM_len : ClM P w K mg base k fL dL ["self"] (SpD K (p1 (PcD CP)) fun ds r => ∃ (tag : Str) (pss : List (List Pr2)), ds = [pieceD CP tag pss] ∧ r = .int (pss.length : Nat)))
    (CM_repr : ClM P w K mg base k fR dR ["self"] (SpD K (p1 (PcD CP)) fun ds r => ∃ (tag : Str) (pss : List (List Pr2)), ds = [pieceD CP tag pss] ∧ r = .str (reprP tag pss.length)))
    (CM_parts : ClM P w K mg base (k + 1) fP dP ["self"] (SpD K (p1 (PcD CP)) fun ds r => ∃ es, ptsPost CP ds es ∧ r = .lst es))
    (C__law_arranged : ClAg P w K mg base (k + 1)) (C__law_area : ClAr P w K mg base (k + 1)) (C__law_same : ClS P w K mg base (k + 1) 5) : ClPs P w K mg base CP (k + 1 + 1) := by
  refine cl_of F sc__law_piece_so (fun _ _ _ _ _ _ us hl => match us, hl with | [_, _], _ => rfl) p2_len fun f cdv A outer s H E hr => ⟨_, (pss_cons (ps_set (i := 2) sc__law_piece_so.nd rfl (Or.inl rfl) (pe_lst (pa_cons (pe_ix (show IxR _ (rIxT K) from ix_tup) (pv 1) pe_int (fun _ _ => rfl)) (pa_cons (pe_c C__law_arranged hr (by omega) (by rfl) (pa_cons (pe_ix (show IxR _ (rIxT K) from ix_tup) (pv 1) pe_int (fun _ _ => rfl)) pa_nil)) (pa_cons (pe_callB (show CallR _ (.builtin "len") (fun xs H Q => ∃ x n, xs = [x] ∧ LenV K x H n ∧ Q (.int n) H) from call_len) (by rfl) G.g_len (by decide +kernel) (pa_cons (pe_ix (show IxR _ (rIxT K) from ix_tup) (pv 1) pe_int (fun _ _ => rfl)) pa_nil)) (pa_cons (pe_callB (show CallR _ (.builtin "sum") (rSum K) from cr_sum rfl) (by rfl) G.g_sum (by decide +kernel) (pa_cons (pe_lc (own := [("_law_p", 3)]) (g := gName 3) (tt := tYes) rfl sc__law_piece_so.nd (pi_list (pe_ix (show IxR _ (rIxT K) from ix_tup) (pv 1) pe_int (fun _ _ => rfl))) (blkOk_by (N := N__law_piece_so) (sc := defScope s__law_piece_so) (by decide +kernel)) (fun _ _ _ _ _ => pg_name (i := 3) sc__law_piece_so.nd rfl (Or.inl rfl)) (fun _ _ _ _ _ => pts_nil) (fun _ _ _ _ _ => (pe_c C__law_area hr (by omega) (by rfl) (pa_cons (pv 3) pa_nil)))) pa_nil)) (pa_cons (pe_op op_add_str (pe_op op_add_str (pe_op op_add_str (pe_op op_add_str pe_str (pe_ix (show IxR _ (rIxT K) from ix_tup) (pv 1) pe_int (fun _ _ => rfl))) pe_str) (pe_callTy call_str_int (by rfl) G.g_str (by decide +kernel) (pa_cons (pe_callB (show CallR _ (.builtin "len") (fun xs H Q => ∃ x n, xs = [x] ∧ LenV K x H n ∧ Q (.int n) H) from call_len) (by rfl) G.g_len (by decide +kernel) (pa_cons (pe_ix (show IxR _ (rIxT K) from ix_tup) (pv 1) pe_int (fun _ _ => rfl)) pa_nil)) pa_nil))) pe_str) pa_nil)))))))
      (pss_one (ps_ret (pe_c C__law_same hr (by omega) (by rfl) (pa_cons (pe_lst (pa_cons (pe_fld (pv 0) rfl) (pa_cons (pe_meth0 (pv 0) MG.cl MM.m_parts CM_parts.ok hr CM_parts.bn .nil pass0) (pa_cons (pe_callB (call_olen CM_len.ok CM_len.bn hr MM.l_at MM.l_fn) (by rfl) G.g_len (by decide +kernel) (pa_cons (pv 0) pa_nil)) (pa_cons (pe_prop (pv 0) MG.cl MM.p_area CM_area.ok hr CM_area.bn .nil pass0 rfl) (pa_cons (pe_callB (call_orepr CM_repr.ok CM_repr.bn hr MM.r_at MM.r_fn) (by rfl) G.g_repr (by decide +kernel) (pa_cons (pv 0) pa_nil)) pa_nil)))))) (pa_cons (pv 2) pa_nil)))))), fun B ds hp => ?_⟩
  obtain ⟨_, _, rfl, tag, pss, rfl, rfl, g, hz⟩ := p2_ex hp
  have gl := g.g.l4
  show WS K B _ [slP CP tag pss, .val (.tup [.str tag, partsD pss]), .no, .no] _
  try dsimp only [cxOf, Cx.nox, Cx.blk]
  have hs : sortP (pss.map toldP) = pss := g.self
  have at0 : atI [D.str tag, partsD pss] 0 = some (.str tag) := rfl
  have at1 : atI [D.str tag, partsD pss] 1 = some (partsD pss) := rfl
  repeat walk_at "dl"
  refine ro_ixT at0 ?_
  repeat walk_at "dl"
  refine ro_ixT at1 ?_
  repeat walk_at "dl"
  refine ⟨⟨pss, 200, rfl, g.g⟩, ?_⟩
  rintro _ ⟨pss', e, rfl⟩
  rw [← partsD_inj (List.cons.inj e).1, hs]
  clear e
  repeat walk_at "dl"
  refine ro_ixT at1 ?_
  refine wa_nil (rc_len (n := pss.length) (by show some (pss.map polyD).length = _; rw [List.length_map]) (by omega) ?_)
  repeat walk_at "dl"
  refine we_lc (wi_list ?_)
  repeat walk_at "dl"
  refine ro_ixT at1 ?_
  refine ⟨pss.map polyD, rfl, by rw [List.length_map]; omega, fun n acc => acc = ((pss.take n).map areaP).map D.int, rfl, ?_, ?_⟩
  · rintro n d acc hd hacc
    have hacc' : acc = ((pss.take n).map areaP).map D.int := hacc
    rw [List.getElem?_map] at hd
    obtain ⟨q, hq, rfl⟩ : ∃ q, pss[n]? = some q ∧ polyD q = d := by
      cases e : pss[n]? with
      | none => rw [e] at hd; cases hd
      | some q => rw [e] at hd; exact ⟨q, rfl, Option.some.inj hd⟩
    have hm := List.mem_of_getElem? hq
    try dsimp only [List.set]
    refine wt_yes ?_
    rw [if_pos rfl]
    refine we_call (wa_cons (we_var rfl (wa_nil ⟨⟨q, rfl, by have := (g.g.cv q hm).h6; omega, fun p hp => upto_le (g.g.up q hm p hp) (by decide)⟩, ?_⟩)))
    rintro _ ⟨q', e, rfl⟩
    have e1 := prs_inj (D.tup.inj (List.cons.inj e).1)
    subst e1
    show acc ++ [D.int (areaP q)] = ((pss.take (n + 1)).map areaP).map D.int
    rw [hacc', List.take_add_one, hq, List.map_append, List.map_append]
    rfl
  rintro acc hacc
  have hacc' : acc = ((pss.take (pss.map polyD).length).map areaP).map D.int := hacc
  rw [List.length_map, List.take_length] at hacc'
  rw [hacc']
  refine wa_nil (rc_sum ?_)
  repeat walk_at "dl"
  have hdl := dig_len gl
  have l1 : (("Piece(" : Str)).length = 6 := rfl
  have l2 : ((", " : Str)).length = 2 := rfl
  have l3 : ((" parts)" : Str)).length = 7 := rfl
  refine ro_ixT at0 ?_
  refine ro_addS (by omega) ?_
  refine we_str ?_
  refine ro_addS (by rw [len_app]; omega) ?_
  refine we_cb (wa_cons (we_cb (wa_cons ?_)))
  repeat walk_at "dl"
  refine ro_ixT at1 ?_
  refine wa_nil (rc_len (n := pss.length) (by show some (pss.map polyD).length = _; rw [List.length_map]) (by omega) (wa_nil (rc_strI (log_ok gl) ?_)))
  refine ro_addS (j := dig pss.length) (by rw [len_app, len_app]; omega) ?_
  refine we_str ?_
  refine ro_addS (by rw [len_app, len_app, len_app]; omega) ?_
  have er : (((("Piece(" : Str) ++ tag) ++ (", " : Str)) ++ dig pss.length) ++ (" parts)" : Str) = reprP tag pss.length := by
    unfold reprP
    rw [show Str.empty ++ ("Piece(" : Str) = ("Piece(" : Str) from rfl]
  rw [er]
  refine wa_nil ⟨by show 5 ≤ 1000; decide, ?_⟩
  try dsimp only [List.set]
  have pc : PcD CP (pieceD CP tag pss) := ⟨tag, pss, rfl, g.g.mono (by decide), hz⟩
  refine ws_ret (we_call (wa_cons (wex_mono (we_lst (P := fun d => d = .lst [.str tag, partsD pss, .int (pss.length : Nat), .int (pss.map areaP).sum, .str (reprP tag pss.length)]) (wax_mono (wa_eqc ?_ (wa_eqc ?_ (wa_eqc ?_ (wa_eqc ?_ (wa_eqc ?_ wa_eq0))))) fun ds e => ⟨by rw [e]; show 5 ≤ 1000; decide, by rw [e]⟩)) fun d e => ?_)))
  · exact we_tag (tag := tag) (pss := pss) MG (we_var (i := 0) (d := pieceD CP tag pss) rfl ⟨rfl, rfl⟩)
  · refine we_meth (we_var (i := 0) (d := pieceD CP tag pss) rfl ⟨_, _, rfl, rfl, wa_nil ⟨pc, ?_⟩⟩)
    rintro _ ⟨es, ⟨tag', pss', e, rfl⟩, rfl⟩
    obtain ⟨_, e2⟩ := pieceD_inj (List.cons.inj e).1
    rw [← e2]; rfl
  · refine we_cb (wa_cons (we_var rfl (wa_nil (rc_olen pc ?_))))
    rintro _ ⟨tag', pss', e, rfl⟩
    obtain ⟨_, e2⟩ := pieceD_inj (List.cons.inj e).1
    exact ⟨_, rfl, by rw [← e2]; omega, by rw [← e2]⟩
  · refine we_prop (we_var (i := 0) (d := pieceD CP tag pss) rfl ⟨_, _, rfl, pc, ?_⟩)
    rintro _ ⟨tag', pss', e, rfl⟩
    obtain ⟨_, e2⟩ := pieceD_inj (List.cons.inj e).1
    rw [← e2]
  · refine we_cb (wa_cons (we_var rfl (wa_nil (rc_orepr pc ?_))))
    rintro _ ⟨tag', pss', e, rfl⟩
    obtain ⟨e1, e2⟩ := pieceD_inj (List.cons.inj e).1
    exact ⟨_, rfl, by rw [← e1, ← e2]⟩
  · subst e
    refine wa_cons (we_var (i := 2) (d := .lst [.str tag, partsD pss, .int (pss.length : Nat), .int (pss.map areaP).sum, .str (reprP tag pss.length)]) rfl (wa_nil ?_))
    refine ⟨⟨rfl, ?_⟩, fun r h => h⟩
    show (decide (5 ≤ 1000) && (true && (plain 4 (partsD pss) && (true && (true && (true && true)))))) = true
    rw [plain_parts g.g]
    rfl
end

end
/-! #### Fu -/
section
variable {P : Program} {w : World} {K : PySem.W.Frag} {mg : Str → Option Value} {base : Heap}
/-! ### eu -/
/-! ### a piece made of a list of the def's own -/
section
variable {B : Bt} {δ : List Sd} {P : D → Prop} {X : Xc} {C : Addr} {pre : List D → Prop} {post : List D → D → Prop} {E : XK}
theorem we_makeJ {ta : TA} (h : WAx K B X ta δ fun ds => pre ds ∧ ∀ d, post ds d → P d) : WEx K B X (tMake C (SpJ K C pre post) [] E ta) δ P := fun G0 H0 σ G H Q s xx q =>
  h G0 H0 σ G H _ s xx fun vs ds G1 H1 g1 o1 hs ⟨p, mm⟩ x dx nx ndx ne => by
    rw [List.append_nil]
    exact ⟨B, G1, H1, x, dx, vs, ds, rfl, nx, ndx, ne, rfl, o1, hs, p, fun d G2 H2 _ _ g o hd pd _ _ => ⟨rfl, (q.on g1 o1) (.ref x) d G2 H2 g o hd (mm d pd)⟩⟩
theorem we_makeJK {m : Nat} {tk : TA} (h : WAx K B X tk δ fun ds => ds.length = m ∧ pre ds.reverse ∧ ∀ d, post ds.reverse d → P d) : WEx K B X (tMakeK C 0 m (SpJ K C pre post) (fun us ws => us ++ ws.reverse) E tNil tk) δ P := fun G0 H0 σ G H Q s xx q =>
  h G0 H0 σ G H _ s xx fun vs ds G1 H1 g1 o1 hs ⟨l, p, mm⟩ => ⟨rfl, hs.length.trans l, fun x dx nx ndx ne =>
    ⟨B, G1, H1, x, dx, vs.reverse, ds.reverse, rfl, nx, ndx, ne, rfl, o1, hs.rev, p, fun d G2 H2 _ _ g o hd pd _ _ => ⟨rfl, (q.on g1 o1) (.ref x) d G2 H2 g o hd (mm d pd)⟩⟩⟩
/-- parts are read in tuples alone: a list that is let go doesn't touch them -/
theorem dd_pairs_off {G2 G3 : Hp} {a : Addr} {ws : List V} (ga : G2 a = some (.lst ws)) (off : ∀ x, x ≠ a → G3 x = G2 x) : ∀ (ps : List Pr2) {vs : List V}, Dds K B G2 vs (ps.map Dl.pairD) → Dds K B G3 vs (ps.map Dl.pairD)
  | [], _, .nil => .nil
  | p :: ps, _, .cons h t => by
    refine .cons ?_ (dd_pairs_off ga off ps t)
    unfold Dl.pairD at h ⊢
    cases h with
    | tup hg t =>
      cases t with
      | cons h1 t =>
        cases t with
        | cons h2 t =>
          cases t
          cases h1
          cases h2
          refine .tup ⟨?_, hg.2⟩ (.cons (.int _) (.cons (.int _) .nil))
          rw [off _ (fun e => by rw [e, ga] at hg; cases hg.1)]
          exact hg.1
theorem dd_parts_off {G2 G3 : Hp} {a : Addr} {ws : List V} (ga : G2 a = some (.lst ws)) (off : ∀ x, x ≠ a → G3 x = G2 x) : ∀ (pss : List (List Pr2)) {vs : List V}, Dds K B G2 vs (pss.map polyD) → Dds K B G3 vs (pss.map polyD)
  | [], _, .nil => .nil
  | p :: pss, _, .cons h t => by
    refine .cons ?_ (dd_parts_off ga off pss t)
    unfold polyD at h ⊢
    cases h with
    | tup hg t =>
      refine .tup ⟨?_, hg.2⟩ (dd_pairs_off ga off p t)
      rw [off _ (fun e => by rw [e, ga] at hg; cases hg.1)]
      exact hg.1
theorem we_makeO {te : TE} {i : Nat} {ds : List D} (hi : δ[i]? = some (.own ds)) (h : WEx K B X te δ fun n => pre [n, .lst ds] ∧ ∀ d, post [n, .lst ds] d → ∃ tag pss, d = pieceD C tag pss ∧ P d) : WEx K B X (tMake C (SpJ K C pre post) [] E (tCons te (tCons (tVar i) tNil))) δ P := fun G0 H0 σ G H Q s xx q =>
  h G0 H0 σ G H _ s xx fun v n G1 H1 g1 o1 hn ⟨p, m⟩ => by
    have s1 := s.on g1 o1
    obtain ⟨a, vs, e1, nb, e0, eg, e2, e3⟩ := s1.own i ds hi
    refine ⟨_, e1, fun x dx nx ndx ne => ?_⟩
    have sf : Same G1 (upd G1 a (.lst vs)) := same_upd eg
    refine ⟨B, upd G1 a (.lst vs), H1, x, dx, _, _, rfl, nx, ndx, ne, rfl, freeze_ok o1 nt_lst nb eg e2, .cons (hn.mono sf) (.cons (.lst upd_same (e3.mono sf)) .nil), p, fun d G2 H2 v2 p2 g2 o2 hd pd gx fresh => ⟨rfl, ?_⟩⟩
    obtain ⟨tag, pss, rfl, hP⟩ := m d pd
    obtain ⟨G3, off, g3, o3⟩ := melt_at o1 nb eg e2 g2 o2
    have ga : G2 a = some (.lst vs) := g2.s a _ upd_same
    have xa : x ≠ a := fun e => by rw [e, e2] at nx; cases nx
    have pa : p2 ≠ a := fresh a _ nt_lst nb e2
    refine (q.on g1 o1) (.ref x) (pieceD C tag pss) G3 H2 g3 o3 ?_ hP
    unfold pieceD at hd ⊢
    generalize hk : (["name", "_parts"] : List Str) = ks at hd
    cases hd with
    | obj hg t =>
      rw [gx] at hg
      have hfs := HO.ins.inj (Option.some.inj hg)
      obtain ⟨_, hdx, hfs⟩ := hfs
      subst hfs
      cases t with
      | cons h1 t =>
        cases t with
        | cons h2 t =>
          cases t
          have h1' : Dd K B G2 v2 (.str tag) := h1
          have h2' : Dd K B G2 (.ref p2) (partsD pss) := h2
          clear h1 h2
          have k1 : Dd K B G3 v2 (.str tag) := by cases h1'; exact .str tag
          have k2 : Dd K B G3 (.ref p2) (partsD pss) := by
            unfold partsD at h2' ⊢
            cases h2' with
            | lst hg2 t2 => exact .lst (by rw [off _ pa]; exact hg2) (dd_parts_off ga off pss t2)
          exact .obj (fs := [("name", v2), ("_parts", V.ref p2)]) (by rw [off x xa]; exact gx) (.cons k1 (.cons k2 .nil))
end

end
/-! #### Fx -/
section
variable {P : Program} {w : World} {K : PySem.W.Frag} {mg : Str → Option Value} {base : Heap}
/-! ### nx -/
/-! ### pieces over one another -/
def ovP (pss qss : List (List Pr2)) : Bool := pss.any fun p => qss.any fun q => ovB p q
theorem ovP_perm {pss pss' qss qss' : List (List Pr2)} (h : pss'.Perm pss) (h' : qss'.Perm qss) : ovP pss' qss' = ovP pss qss := by
  unfold ovP
  rw [any_iff fun x => h.mem_iff]
  congr 1
  funext p
  exact any_iff (fun x => h'.mem_iff) _
theorem ovP_told {pss qss : List (List Pr2)} (h : ∀ ps ∈ pss, ps ≠ []) (h' : ∀ ps ∈ qss, ps ≠ []) : ovP (pss.map toldP) (qss.map toldP) = ovP pss qss := by
  unfold ovP
  rw [List.any_map]
  refine Bool.eq_iff_iff.mpr ?_
  rw [List.any_eq_true, List.any_eq_true]
  have key : ∀ p ∈ pss, (((qss.map toldP).any fun q => ovB (toldP p) q) = qss.any fun q => ovB p q) := fun p hp => by
    rw [List.any_map]
    refine Bool.eq_iff_iff.mpr ?_
    rw [List.any_eq_true, List.any_eq_true]
    have e : ∀ q ∈ qss, ovB (toldP p) (toldP q) = ovB p q := fun q hq => (rot_told (h p hp)).sam.ov (rot_told (h' q hq)).sam
    exact ⟨fun ⟨q, hq, z⟩ => ⟨q, hq, by rw [← e q hq]; exact z⟩, fun ⟨q, hq, z⟩ => ⟨q, hq, by show ovB (toldP p) (toldP q) = true; rw [e q hq]; exact z⟩⟩
  exact ⟨fun ⟨p, hp, z⟩ => ⟨p, hp, by rw [← key p hp]; exact z⟩, fun ⟨p, hp, z⟩ => ⟨p, hp, by show ((qss.map toldP).any fun q => ovB (toldP p) q) = true; rw [key p hp]; exact z⟩⟩
theorem Good.nil {n : Int} {pss : List (List Pr2)} (g : Good n pss) : ∀ ps ∈ pss, ps ≠ [] := fun ps hp z => by
  have := (g.cv ps hp).h3
  rw [z] at this
  exact absurd this (by decide)
/-- as a piece holds them -/
abbrev heldP (pss : List (List Pr2)) : List (List Pr2) := sortP (pss.map toldP)
theorem ovP_held {n m : Int} {pss qss : List (List Pr2)} (g : Good n pss) (h : Good m qss) : ovP (heldP pss) (heldP qss) = ovP pss qss := by
  rw [ovP_perm (sortP_perm _) (sortP_perm _), ovP_told g.nil h.nil]
theorem ovP_comm (pss qss : List (List Pr2)) : ovP pss qss = ovP qss pss := by
  unfold ovP
  refine Bool.eq_iff_iff.mpr ?_
  simp only [List.any_eq_true]
  exact ⟨fun ⟨p, hp, q, hq, z⟩ => ⟨q, hq, p, hp, by rw [ov_symm]; exact z⟩, fun ⟨p, hp, q, hq, z⟩ => ⟨q, hq, p, hp, by rw [ov_symm]; exact z⟩⟩
theorem ovP_self {n : Int} {pss : List (List Pr2)} (g : Good n pss) : ovP pss pss = true := by
  unfold ovP
  cases h : pss with
  | nil => exact absurd h g.ne
  | cons p r =>
    have := (g.cv p (by rw [h]; exact List.mem_cons_self)).self_ov
    rw [List.any_cons, List.any_cons, this]
    rfl
theorem ovP_stiff {f : Pr2 → Pr2} (h : Stiff f) (pss qss : List (List Pr2)) : ovP (pss.map (List.map f)) (qss.map (List.map f)) = ovP pss qss := by
  unfold ovP
  rw [List.any_map]
  congr 1
  funext p
  show ((qss.map (List.map f)).any fun q => ovB (p.map f) q) = _
  rw [List.any_map]
  congr 1
  funext q
  exact h.ov p q
/-! ### mirrored -/
def flipP (p : Pr2) : Pr2 := (-p.1, p.2)
def flP (ps : List Pr2) : List Pr2 := ps.reverse.map flipP
theorem edg_rev1 {qs : List Pr2} {a b : Pr2} (h : (a, b) ∈ edg qs) : (b, a) ∈ edg qs.reverse := by
  obtain ⟨k, hk, h1, h2⟩ := mem_edg.mp h
  have hm : (k + 1) % qs.length < qs.length := Nat.mod_lt _ (by omega)
  refine mem_edg.mpr ⟨qs.length - 1 - (k + 1) % qs.length, by rw [List.length_reverse]; omega, ?_, ?_⟩
  · rw [List.getElem?_reverse (by omega), ← h2]
    congr 1
    omega
  · have e : (qs.length - 1 - (k + 1) % qs.length + 1) % qs.length = qs.length - 1 - k := by
      by_cases c : k + 1 = qs.length
      · rw [c, Nat.mod_self, show qs.length - 1 - 0 + 1 = qs.length by omega, Nat.mod_self]; omega
      · rw [Nat.mod_eq_of_lt (by omega : k + 1 < qs.length), Nat.mod_eq_of_lt (by omega)]; omega
    rw [List.length_reverse, e, List.getElem?_reverse (by omega), ← h1]
    congr 1
    omega
theorem mem_edg_rev {qs : List Pr2} {a b : Pr2} : (a, b) ∈ edg qs.reverse ↔ (b, a) ∈ edg qs := ⟨fun h => by have := edg_rev1 h; rwa [List.reverse_reverse] at this, edg_rev1⟩
theorem mem_edg_fl {ps : List Pr2} {x : Pr2 × Pr2} : x ∈ edg (flP ps) ↔ ∃ e ∈ edg ps, x = (flipP e.2, flipP e.1) := by
  unfold flP
  rw [edg_map, List.mem_map]
  constructor
  · rintro ⟨⟨a, b⟩, he, rfl⟩
    exact ⟨(b, a), mem_edg_rev.mp he, rfl⟩
  · rintro ⟨⟨a, b⟩, he, rfl⟩
    exact ⟨(b, a), mem_edg_rev.mpr he, rfl⟩
theorem mem_fl {ps : List Pr2} {p : Pr2} : p ∈ flP ps ↔ ∃ q ∈ ps, flipP q = p := by
  unfold flP
  rw [List.mem_map]
  exact ⟨fun ⟨q, hq, e⟩ => ⟨q, List.mem_reverse.mp hq, e⟩, fun ⟨q, hq, e⟩ => ⟨q, List.mem_reverse.mpr hq, e⟩⟩
theorem trn_fl (a b c : Pr2) : trn (flipP b) (flipP a) (flipP c) = trn a b c := by unfold trn crs mns flipP; dsimp only; grind
theorem hde_fl (ps qs : List Pr2) : hde (flP ps) (flP qs) = hde ps qs := by
  unfold K08.hde nll
  refine Bool.eq_iff_iff.mpr ?_
  simp only [List.any_eq_true, List.all_eq_true, decide_eq_true_eq]
  constructor
  · rintro ⟨x, hx, h⟩
    obtain ⟨e, he, rfl⟩ := mem_edg_fl.mp hx
    exact ⟨e, he, fun c hc => by rw [← trn_fl]; exact h _ (mem_fl.mpr ⟨c, hc, rfl⟩)⟩
  · rintro ⟨e, he, h⟩
    refine ⟨_, mem_edg_fl.mpr ⟨e, he, rfl⟩, fun c hc => ?_⟩
    obtain ⟨q, hq, rfl⟩ := mem_fl.mp hc
    dsimp only
    rw [trn_fl]
    exact h q hq
theorem ov_fl (ps qs : List Pr2) : ovB (flP ps) (flP qs) = ovB ps qs := by
  unfold ovB
  rw [hde_fl, hde_fl]
theorem sh_fl (e b : Pr2 × Pr2) : shB (flipP e.2, flipP e.1) (flipP b.2, flipP b.1) = shB e b := by
  unfold shB
  dsimp only
  rw [trn_fl, trn_fl]
  by_cases c : trn e.1 e.2 b.1 ≠ 0 ∨ trn e.1 e.2 b.2 ≠ 0
  · rw [if_pos c, if_pos c.symm]
  · rw [if_neg c, if_neg (fun z => c z.symm)]
    have k1 : ∀ x, dotP (mns (flipP e.1) (flipP e.2)) (mns (flipP x) (flipP e.2)) = dotP (mns e.2 e.1) (mns e.2 e.1) - dotP (mns e.2 e.1) (mns x e.1) := fun x => by unfold dotP mns flipP; dsimp only; grind
    have k2 : dotP (mns (flipP e.1) (flipP e.2)) (mns (flipP e.1) (flipP e.2)) = dotP (mns e.2 e.1) (mns e.2 e.1) := by unfold dotP mns flipP; dsimp only; grind
    rw [k1, k1, k2]
    generalize dotP (mns e.2 e.1) (mns e.2 e.1) = u
    generalize dotP (mns e.2 e.1) (mns b.1 e.1) = s
    generalize dotP (mns e.2 e.1) (mns b.2 e.1) = t
    refine Bool.eq_iff_iff.mpr ?_
    simp only [decide_eq_true_eq]
    omega
theorem jo_fl (ps qs : List Pr2) : joB (flP ps) (flP qs) = joB ps qs := by
  unfold joB
  rw [ov_fl]
  congr 1
  refine Bool.eq_iff_iff.mpr ?_
  simp only [List.any_eq_true]
  constructor
  · rintro ⟨x, hx, y, hy, h⟩
    obtain ⟨e, he, rfl⟩ := mem_edg_fl.mp hx
    obtain ⟨b, hb, rfl⟩ := mem_edg_fl.mp hy
    exact ⟨e, he, b, hb, by rw [← sh_fl]; exact h⟩
  · rintro ⟨e, he, b, hb, h⟩
    exact ⟨_, mem_edg_fl.mpr ⟨e, he, rfl⟩, _, mem_edg_fl.mpr ⟨b, hb, rfl⟩, by rw [sh_fl]; exact h⟩
theorem flip_inj {a b : Pr2} (h : flipP a = flipP b) : a = b := by
  unfold flipP at h
  have h1 := (Prod.mk.inj h).1
  have h2 := (Prod.mk.inj h).2
  exact Prod.ext (by omega) h2
theorem Cvx.fl {ps : List Pr2} (c : Cvx ps) : Cvx (flP ps) := by
  refine ⟨by unfold flP; rw [List.length_map, List.length_reverse]; exact c.h3, by unfold flP; rw [List.length_map, List.length_reverse]; exact c.h6, ?_, ?_⟩
  · unfold flP
    exact List.pairwise_map.mpr (((List.Perm.nodup_iff (List.reverse_perm ps)).mpr c.nd).imp fun hne e => hne (flip_inj e))
  · intro e he q hq
    obtain ⟨e', he', rfl⟩ := mem_edg_fl.mp he
    obtain ⟨q', hq', rfl⟩ := mem_fl.mp hq
    rcases c.lf e' he' q' hq' with z | z | z
    · exact .inr (.inl (by rw [z]))
    · exact .inl (by rw [z])
    · exact .inr (.inr (by dsimp only; rw [trn_fl]; exact z))
theorem Good.fl {n : Int} {pss : List (List Pr2)} (g : Good n pss) : Good n (pss.map flP) := by
  refine ⟨fun z => g.ne (List.map_eq_nil_iff.mp z), by rw [List.length_map]; exact g.l4, ?_, ?_, ?_, ?_⟩
  · intro q hq
    obtain ⟨p, hp, rfl⟩ := List.mem_map.mp hq
    exact (g.cv p hp).fl
  · intro q hq x hx
    obtain ⟨p, hp, rfl⟩ := List.mem_map.mp hq
    obtain ⟨y, hy, rfl⟩ := mem_fl.mp hx
    have := g.up p hp y hy
    unfold Upto flipP at *
    dsimp only
    omega
  · exact List.pairwise_map.mpr (g.ov.imp fun z => by rw [ov_fl]; exact z)
  · rintro S ⟨q, hq, sq⟩ cl q' hq'
    obtain ⟨p, hp, rfl⟩ := List.mem_map.mp hq
    obtain ⟨p', hp', rfl⟩ := List.mem_map.mp hq'
    exact g.cn (fun p => S (flP p)) ⟨p, hp, sq⟩ (fun a ha b hb sa j => cl _ (List.mem_map.mpr ⟨a, ha, rfl⟩) _ (List.mem_map.mpr ⟨b, hb, rfl⟩) sa (by rw [jo_fl]; exact j)) p' hp'
theorem ovP_fl (pss qss : List (List Pr2)) : ovP (pss.map flP) (qss.map flP) = ovP pss qss := by
  unfold ovP
  rw [List.any_map]
  congr 1
  funext p
  show ((qss.map flP).any fun q => ovB (flP p) q) = _
  rw [List.any_map]
  congr 1
  funext q
  exact ov_fl p q
theorem Good.held {n : Int} {pss : List (List Pr2)} (g : Good n pss) : Good n (heldP pss) := (Laid.of g).g

end
/-! #### Fy -/
section
variable {P : Program} {w : World} {K : PySem.W.Frag} {mg : Str → Option Value} {base : Heap}
/-! ### nt1 -/
/-! ### moved, turned, mirrored -/
abbrev s_turned_pair : Stmt := topS 21
abbrev N_turned_pair : List Str := ["pair", "quarters", "_", "x", "y"]
theorem sc_turned_pair : FnScope N_turned_pair ["pair", "quarters"] (defScope s_turned_pair) := ⟨rfl, rfl, rfl, by decide +kernel, rfl, by decide +kernel, by decide +kernel⟩
abbrev ClTp (P : Program) (w : World) (K : PySem.W.Frag) (mg : Str → Option Value) (base : Heap) (k : Nat) := Cl P w K mg base k "turned_pair" s_turned_pair ["pair", "quarters"] (SpD K (p2 fun d t => ∃ (p : Pr2) (j : Int), d = Dl.pairD p ∧ t = .int j ∧ Upto 100000 p) fun ds r => ∃ (p : Pr2) (j : Int), ds = [Dl.pairD p, .int j] ∧ r = Dl.pairD (qtrN (j.fmod 4).toNat p))
theorem ok_turned_pair {k : Nat} (G : Gn mg) (F : Df K mg "turned_pair" s_turned_pair) : ClTp P w K mg base (k + 1) := by
  refine cl_of F sc_turned_pair (fun _ _ _ _ _ _ us hl => match us, hl with | [_, _], _ => rfl) p2_len fun f cdv A outer s H E hr => ⟨_, (pss_cons (ps_asg (pv 0) (show PG _ _ (gTup K 2 (gCons (gName 3) (gCons (gName 4) gNil))) from pg_tup rfl (pgs_cons (pg_name (i := 3) sc_turned_pair.nd rfl (Or.inl rfl)) (pgs_cons (pg_name (i := 4) sc_turned_pair.nd rfl (Or.inl rfl)) pgs_nil))))
      (pss_cons (ps_for PassesOwn.never rfl (pi_range1 rfl G.g_range (pa_cons (pe_op op_modN (pv 1) pe_int) pa_nil)) (pg_name (i := 2) sc_turned_pair.nd rfl (Or.inl rfl)) (pss_one (ps_par (i := 3) (j := 4) (by rfl) sc_turned_pair.nd rfl rfl (by decide) rfl rfl (pa_cons (pe_un un_neg (pv 4)) (pa_cons (pv 3) pa_nil)) (by rfl))))
      (pss_one (ps_ret (pe_tupZ (pa_cons (pv 3) (pa_cons (pv 4) pa_nil))))))), fun B ds hp => ?_⟩
  obtain ⟨_, _, rfl, p, j, rfl, rfl, hu⟩ := p2_ex hp
  show WS K B _ [.val (Dl.pairD p), .val (.int j), .no, .no, .no] _
  try dsimp only [cxOf, Cx.nox, Cx.blk]
  refine ws_seq (ws_unt2 (we_var rfl ⟨_, _, rfl, ?_⟩))
  try dsimp only [List.set]
  refine ws_seq (ws_for (wi_range1 (wa_cons ?_)))
  repeat walk_at "dl"
  refine ro_int (by intro z; exact absurd z (by decide)) ?_
  obtain ⟨h0, h1⟩ := fm0 (i := j) (n := 4) (by decide)
  refine wa_nil ⟨_, rfl, by omega, by omega, fun k δ1 => ∃ y, δ1 = [.val (Dl.pairD p), .val (.int j), y, .val (.int (qtrN k p).1), .val (.int (qtrN k p).2)], ⟨_, rfl⟩, ?_, ?_⟩
  · rintro n dn δ1 hdn ⟨y, rfl⟩
    have hb : Upto 100000 (qtrN n p) := upto_qtrN hu n
    try dsimp only [List.set]
    refine ws_par (wa_cons (we_un (we_var rfl (r1_int (wa_cons (we_var rfl (wa_nil ⟨_, _, rfl, ?_⟩)))))))
    try dsimp only [List.set]
    refine ⟨.val dn, ?_⟩
    rw [show (qtrN (n + 1) p).1 = -(qtrN n p).2 from Int.zero_sub _]
    rfl
  · rintro δ1 ⟨y, rfl⟩
    rw [upto_len]
    refine ws_ret (we_tup (wa_cons (we_var rfl (wa_cons (we_var rfl (wa_nil ⟨by show 2 ≤ 1000; decide, p, j, rfl, rfl⟩))))))
abbrev s_mirrored_pair : Stmt := topS 22
abbrev N_mirrored_pair : List Str := ["pair"]
theorem sc_mirrored_pair : FnScope N_mirrored_pair ["pair"] (defScope s_mirrored_pair) := ⟨rfl, rfl, rfl, by decide +kernel, rfl, by decide +kernel, by decide +kernel⟩
abbrev ClMp (P : Program) (w : World) (K : PySem.W.Frag) (mg : Str → Option Value) (base : Heap) (k : Nat) := Cl P w K mg base k "mirrored_pair" s_mirrored_pair ["pair"] (SpD K (p1 fun d => ∃ p : Pr2, d = Dl.pairD p) fun ds r => ∃ p : Pr2, ds = [Dl.pairD p] ∧ r = Dl.pairD (flipP p))
theorem ok_mirrored_pair {k : Nat} (F : Df K mg "mirrored_pair" s_mirrored_pair) : ClMp P w K mg base (k + 1) := by
  refine cl_of F sc_mirrored_pair (fun _ _ _ _ _ _ us hl => match us, hl with | [_], _ => rfl) p1_len fun f cdv A outer s H E hr => ⟨_, (pss_one (ps_ret (pe_tupZ (pa_cons (pe_un un_neg (pe_ix (show IxR _ (rIxT K) from ix_tup) (pv 0) pe_int (fun _ _ => rfl))) (pa_cons (pe_ix (show IxR _ (rIxT K) from ix_tup) (pv 0) pe_int (fun _ _ => rfl)) pa_nil))))), fun B ds hp => ?_⟩
  obtain ⟨_, rfl, p, rfl⟩ := p1_ex hp
  show WS K B _ [.val (Dl.pairD p)] _
  try dsimp only [cxOf, Cx.nox, Cx.blk]
  refine ws_ret (we_tup (wa_cons (we_un (we_op (we_var rfl (we_int (ix0 (r1_int (wa_cons (we_op (we_var rfl (we_int (ix1 (wa_nil ⟨by show 2 ≤ 1000; decide, p, rfl, rfl⟩))))))))))))))

/-! ### fo -/
/-! ### OutOfBounds -/
abbrev s_OutOfBounds : Stmt := inClass (topS 8) 0
theorem sc_OutOfBounds : FnScope ["self"] ["self"] (defScope s_OutOfBounds) := ⟨rfl, rfl, rfl, by decide +kernel, rfl, by decide +kernel, by decide +kernel⟩
def mkOB (_ : List V) : List (Str × V) := [("code", .str "OutOfBounds")]
abbrev RzO (P : Program) (w : World) (K : PySem.W.Frag) (mg : Str → Option Value) (base : Heap) (k : Nat) (C : Addr) := Rz P w K mg base k "OutOfBounds" C 0 mkOB
theorem ok_OutOfBounds {k : Nat} {C : Addr} (E : Er K mg "OutOfBounds" "OutOfBounds.__init__" C s_OutOfBounds ["code"]) : RzO P w K mg base (k + 1) C :=
  rz0 E sc_OutOfBounds (fun _ _ _ _ _ _ us hl => match us, hl with | [_], _ => rfl) rfl (fun _ _ _ _ _ _ _ => rfl)
def excO (C : Addr) : Addr → List Str → List D → Prop := fun C' ks es => C' = C ∧ ks = [("code" : Str)] ∧ es = [.str "OutOfBounds"]
theorem ws_raiseO {B : Bt} {δ : List Sd} {O : Out} {C : Addr} (h : O.x.ex δ C [("code" : Str)] [.str "OutOfBounds"]) : WS K B (fun _ σ H => tMkO C (spIni C 0 mkOB) [] tNil σ H fun cls d H' => O.x.W cls d σ H') δ O :=
  ws_raise (ks := [("code" : Str)]) (mkD := fun _ => [.str "OutOfBounds"]) (by decide) (fun _ _ => rfl) (fun _ _ => .cons (.str _) .nil) (wa_nil ⟨rfl, h⟩)
/-! ### moved -/
theorem bnd_iff {p : Pr2} {b : Int} : isBnd b (Dl.pairD p) = true ↔ Upto b p := by
  have e : isBnd b (Dl.pairD p) = ((decide ((2 : Int) = 2) && (true && (true && true))) && ((decide (-b ≤ p.1) && decide (p.1 ≤ b)) && ((decide (-b ≤ p.2) && decide (p.2 ≤ b)) && true))) := rfl
  rw [e]
  unfold Upto
  simp [and_assoc]
theorem bnd_no {p : Pr2} {b : Int} (h : ¬ Upto b p) : isBnd b (Dl.pairD p) = false := by
  cases e : isBnd b (Dl.pairD p) with
  | false => rfl
  | true => exact absurd (bnd_iff.mp e) h
def mpPre : List D → Prop := p3 fun d a b => ∃ (p : Pr2) (x y : Int), d = Dl.pairD p ∧ a = .int x ∧ b = .int y
def mpPost : List D → D → Prop := fun ds r => ∃ (p : Pr2) (x y : Int), ds = [Dl.pairD p, .int x, .int y] ∧ Upto 200 (sentP x y p) ∧ r = Dl.pairD (sentP x y p)
def mpExc (C : Addr) : List D → Addr → List Str → List D → Prop := fun ds C' ks es => ∃ (p : Pr2) (x y : Int), ds = [Dl.pairD p, .int x, .int y] ∧ ¬ Upto 200 (sentP x y p) ∧ excO C C' ks es
abbrev s_moved_point : Stmt := topS 23
abbrev N_moved_point : List Str := ["point", "right", "up", "place"]
theorem sc_moved_point : FnScope N_moved_point ["point", "right", "up"] (defScope s_moved_point) := ⟨rfl, rfl, rfl, by decide +kernel, rfl, by decide +kernel, by decide +kernel⟩
abbrev ClMv (P : Program) (w : World) (K : PySem.W.Frag) (mg : Str → Option Value) (base : Heap) (C : Addr) (k : Nat) := Clx P w K mg base k "moved_point" s_moved_point ["point", "right", "up"] (SpX K mpPre mpPost (mpExc C))
theorem ok_moved_point {k : Nat} {C : Addr} (G : Gn mg) (F : Df K mg "moved_point" s_moved_point) (C_is_point : ClB P w K mg base (k + 1) "is_point" s_is_point "value" (isBnd 200)) (R_OutOfBounds : RzO P w K mg base k C) : ClMv P w K mg base C (k + 1 + 1) := by
  refine clx_of F sc_moved_point (fun _ _ _ _ _ _ us hl => match us, hl with | [_, _, _], _ => rfl) p3_len fun f cdv A outer s H E hr => ⟨_, (pss_cons (ps_set (i := 3) sc_moved_point.nd rfl (Or.inl rfl) (pe_tupZ (pa_cons (pe_op op_add (pe_ix (show IxR _ (rIxT K) from ix_tup) (pv 0) pe_int (fun _ _ => rfl)) (pv 1)) (pa_cons (pe_op op_add (pe_ix (show IxR _ (rIxT K) from ix_tup) (pv 0) pe_int (fun _ _ => rfl)) (pv 2)) pa_nil))))
      (pss_cons (ps_if (pt_not (pt_val (pe_c C_is_point hr (by omega) (by rfl) (pa_cons (pv 3) pa_nil)))) (pss_one (Dl.ps_rz0 R_OutOfBounds (takes_of rfl rfl rfl rfl) rfl hr (by omega) (by rfl))) pss_nil)
      (pss_one (ps_ret (pv 3))))), fun B ds hp => ?_⟩
  obtain ⟨_, _, _, rfl, p, x, y, rfl, rfl, rfl⟩ := p3_ex hp
  show WS K B _ [.val (Dl.pairD p), .val (.int x), .val (.int y), .no] _
  try dsimp only [cxOf, Cx.nox, Cx.blk]
  refine ws_seq (ws_set (we_tup (wa_cons (we_op (we_op (we_var rfl (we_int (ix0 (we_var rfl (ro_int0 (wa_cons (we_op (we_op (we_var rfl (we_int (ix1 (we_var rfl (ro_int0 (wa_nil ⟨by show 2 ≤ 1000; decide, ?_⟩)))))))))))))))))))
  try dsimp only [List.set]
  refine ws_seq (ws_if (wt_not (wt_B (we_call (wa_cons (we_var (d := Dl.pairD (sentP x y p)) rfl (wa_nil ⟨rfl, ?_⟩)))))))
  rintro _ rfl
  refine ⟨isBnd 200 (Dl.pairD (sentP x y p)), rfl, ?_⟩
  by_cases hu : Upto 200 (sentP x y p)
  · rw [bnd_iff.mpr hu]
    exact iteF (ws_next (ws_ret (we_var rfl ⟨p, x, y, rfl, hu, rfl⟩)))
  · rw [bnd_no hu]
    exact iteT (ws_raiseO ⟨p, x, y, rfl, hu, rfl, rfl, rfl⟩)
def mtPre : List D → Prop := p3 fun d a b => ∃ (ps : List Pr2) (x y : Int), d = polyD ps ∧ a = .int x ∧ b = .int y ∧ ps.length ≤ 100
def mtPost : List D → D → Prop := fun ds r => ∃ (ps : List Pr2) (x y : Int), ds = [polyD ps, .int x, .int y] ∧ (∀ p ∈ ps, Upto 200 (sentP x y p)) ∧ r = polyD (ps.map (sentP x y))
def mtExc (C : Addr) : List D → Addr → List Str → List D → Prop := fun ds C' ks es => ∃ (ps : List Pr2) (x y : Int), ds = [polyD ps, .int x, .int y] ∧ (¬ ∀ p ∈ ps, Upto 200 (sentP x y p)) ∧ excO C C' ks es
abbrev s_moved_part : Stmt := topS 41
abbrev N_moved_part : List Str := ["part", "right", "up", "corner"]
theorem sc_moved_part : FnScope N_moved_part ["part", "right", "up"] (defScope s_moved_part) := ⟨rfl, rfl, rfl, by decide +kernel, rfl, by decide +kernel, by decide +kernel⟩
abbrev ClMt (P : Program) (w : World) (K : PySem.W.Frag) (mg : Str → Option Value) (base : Heap) (C : Addr) (k : Nat) := Clx P w K mg base k "moved_part" s_moved_part ["part", "right", "up"] (SpX K mtPre mtPost (mtExc C))
theorem ok_moved_part {k : Nat} {C : Addr} (G : Gn mg) (F : Df K mg "moved_part" s_moved_part) (C_moved_point : ClMv P w K mg base C k) : ClMt P w K mg base C (k + 1) := by
  refine clx_of F sc_moved_part (fun _ _ _ _ _ _ us hl => match us, hl with | [_, _, _], _ => rfl) p3_len fun f cdv A outer s H E hr => ⟨_, (pss_one (ps_ret (pe_callTy (show CallR _ (.type "tuple") (zOf K) from call_tupZ) (by rfl) G.g_tuple (by decide +kernel) (pa_cons (Dl.pe_lcR (own := [("corner", 3)]) (g := gName 3) rfl sc_moved_part.nd (takes_of rfl rfl rfl rfl) rfl rfl (pi_tup (pv 0)) (blkOk_by (N := N_moved_part) (sc := defScope s_moved_part) (by decide +kernel)) (fun _ _ _ _ _ => pg_name (i := 3) sc_moved_part.nd rfl (Or.inl rfl)) (fun _ _ _ _ _ => (Dl.pe_cxP C_moved_point Dl.passR hr (by omega) (by rfl) (pa_cons (pv 3) (pa_cons (pv 1) (pa_cons (pv 2) pa_nil)))))) pa_nil)))), fun B ds hp => ?_⟩
  obtain ⟨_, _, _, rfl, ps, x, y, rfl, rfl, rfl, hl⟩ := p3_ex hp
  show WS K B _ [.val (polyD ps), .val (.int x), .val (.int y), .no] _
  try dsimp only [cxOf, Cx.nox, Cx.blk]
  refine ws_ret (we_cb (wa_cons (we_lcAX (xs := ps) Dl.pairD (fun p => Dl.pairD (sentP x y p)) (fun p => Upto 200 (sentP x y p)) (by omega) (wi_tup (we_var rfl ⟨_, rfl, rfl⟩)) (fun p hm => ?_) fun hu => wa_nil (rc_tupZ ⟨ps, x, y, rfl, hu, ?_⟩))))
  · try dsimp only [List.set]
    refine we_callE (wa_cons (we_var rfl (wa_cons (we_var rfl (wa_cons (we_var rfl (wa_nil ⟨⟨p, x, y, rfl, rfl, rfl⟩, ?_, ?_⟩)))))))
    · rintro _ ⟨p', x', y', e, hu, rfl⟩
      have e1 := pairD_inj (List.cons.inj e).1
      have e2 := D.int.inj (List.cons.inj (List.cons.inj e).2).1
      have e3 := D.int.inj (List.cons.inj (List.cons.inj (List.cons.inj e).2).2).1
      subst e1 e2 e3
      exact ⟨rfl, hu⟩
    · rintro C' ks es ⟨p', x', y', e, hu, he⟩
      have e1 := pairD_inj (List.cons.inj e).1
      have e2 := D.int.inj (List.cons.inj (List.cons.inj e).2).1
      have e3 := D.int.inj (List.cons.inj (List.cons.inj (List.cons.inj e).2).2).1
      subst e1 e2 e3
      exact ⟨ps, x, y, rfl, fun z => hu (z p hm), he⟩
  · unfold polyD; rw [List.map_map]; rfl

/-! ### nt2 -/
abbrev s_turned_part : Stmt := topS 42
abbrev N_turned_part : List Str := ["part", "quarters", "corner"]
theorem sc_turned_part : FnScope N_turned_part ["part", "quarters"] (defScope s_turned_part) := ⟨rfl, rfl, rfl, by decide +kernel, rfl, by decide +kernel, by decide +kernel⟩
abbrev ClTt (P : Program) (w : World) (K : PySem.W.Frag) (mg : Str → Option Value) (base : Heap) (k : Nat) := Cl P w K mg base k "turned_part" s_turned_part ["part", "quarters"] (SpD K (p2 fun d t => ∃ (ps : List Pr2) (j : Int), d = polyD ps ∧ t = .int j ∧ ps.length ≤ 100 ∧ ∀ p ∈ ps, Upto 100000 p) fun ds r => ∃ (ps : List Pr2) (j : Int), ds = [polyD ps, .int j] ∧ r = polyD (ps.map (qtrN (j.fmod 4).toNat)))
theorem ok_turned_part {k : Nat} (G : Gn mg) (F : Df K mg "turned_part" s_turned_part) (C_turned_pair : ClTp P w K mg base k) : ClTt P w K mg base (k + 1) := by
  refine cl_of F sc_turned_part (fun _ _ _ _ _ _ us hl => match us, hl with | [_, _], _ => rfl) p2_len fun f cdv A outer s H E hr => ⟨_, (pss_one (ps_ret (pe_callTy (show CallR _ (.type "tuple") (zOf K) from call_tupZ) (by rfl) G.g_tuple (by decide +kernel) (pa_cons (pe_lc (own := [("corner", 2)]) (g := gName 2) (tt := tYes) rfl sc_turned_part.nd (pi_tup (pv 0)) (blkOk_by (N := N_turned_part) (sc := defScope s_turned_part) (by decide +kernel)) (fun _ _ _ _ _ => pg_name (i := 2) sc_turned_part.nd rfl (Or.inl rfl)) (fun _ _ _ _ _ => pts_nil) (fun _ _ _ _ _ => (pe_c C_turned_pair hr (by omega) (by rfl) (pa_cons (pv 2) (pa_cons (pv 1) pa_nil))))) pa_nil)))), fun B ds hp => ?_⟩
  obtain ⟨_, _, rfl, ps, j, rfl, rfl, hl, hu⟩ := p2_ex hp
  show WS K B _ [.val (polyD ps), .val (.int j), .no] _
  try dsimp only [cxOf, Cx.nox, Cx.blk]
  refine ws_ret (we_cb (wa_cons (we_lcA (xs := ps) Dl.pairD (fun p => Dl.pairD (qtrN (j.fmod 4).toNat p)) (by omega) (wi_tup (we_var rfl ⟨_, rfl, rfl⟩)) (fun p hm => ?_) (wa_nil (rc_tupZ ⟨ps, j, rfl, ?_⟩)))))
  · try dsimp only [List.set]
    refine we_call (wa_cons (we_var rfl (wa_cons (we_var rfl (wa_nil ⟨⟨p, j, rfl, rfl, hu p hm⟩, ?_⟩)))))
    rintro _ ⟨p', j', e, rfl⟩
    have e1 := pairD_inj (List.cons.inj e).1
    have e2 := D.int.inj (List.cons.inj (List.cons.inj e).2).1
    rw [e1, e2]
  · unfold polyD; rw [List.map_map]; rfl
abbrev s_mirrored_part : Stmt := topS 43
abbrev N_mirrored_part : List Str := ["part", "corner"]
theorem sc_mirrored_part : FnScope N_mirrored_part ["part"] (defScope s_mirrored_part) := ⟨rfl, rfl, rfl, by decide +kernel, rfl, by decide +kernel, by decide +kernel⟩
abbrev ClMm (P : Program) (w : World) (K : PySem.W.Frag) (mg : Str → Option Value) (base : Heap) (k : Nat) := Cl P w K mg base k "mirrored_part" s_mirrored_part ["part"] (SpD K (p1 fun d => ∃ ps : List Pr2, d = polyD ps ∧ ps.length ≤ 100) fun ds r => ∃ ps : List Pr2, ds = [polyD ps] ∧ r = polyD (flP ps))
theorem ok_mirrored_part {k : Nat} (G : Gn mg) (F : Df K mg "mirrored_part" s_mirrored_part) (C_mirrored_pair : ClMp P w K mg base k) : ClMm P w K mg base (k + 1) := by
  refine cl_of F sc_mirrored_part (fun _ _ _ _ _ _ us hl => match us, hl with | [_], _ => rfl) p1_len fun f cdv A outer s H E hr => ⟨_, (pss_one (ps_ret (pe_callTy (show CallR _ (.type "tuple") (zOf K) from call_tupZ) (by rfl) G.g_tuple (by decide +kernel) (pa_cons (pe_lc (own := [("corner", 1)]) (g := gName 1) (tt := tYes) rfl sc_mirrored_part.nd (pi_tup (by exact pe_backT (pv 0))) (blkOk_by (N := N_mirrored_part) (sc := defScope s_mirrored_part) (by decide +kernel)) (fun _ _ _ _ _ => pg_name (i := 1) sc_mirrored_part.nd rfl (Or.inl rfl)) (fun _ _ _ _ _ => pts_nil) (fun _ _ _ _ _ => (pe_c C_mirrored_pair hr (by omega) (by rfl) (pa_cons (pv 1) pa_nil)))) pa_nil)))), fun B ds hp => ?_⟩
  obtain ⟨_, rfl, ps, rfl, hl⟩ := p1_ex hp
  show WS K B _ [.val (polyD ps), .no] _
  try dsimp only [cxOf, Cx.nox, Cx.blk]
  refine ws_ret (we_cb (wa_cons (we_lcA (xs := ps.reverse) Dl.pairD (fun p => Dl.pairD (flipP p)) (by rw [List.length_reverse]; omega) (wi_tup (we_backT (we_var rfl ⟨_, rfl, _, rfl, ?_⟩))) (fun p hm => ?_) (wa_nil (rc_tupZ ⟨ps, rfl, ?_⟩)))))
  · rw [List.map_reverse]
  · try dsimp only [List.set]
    refine we_call (wa_cons (we_var rfl (wa_nil ⟨⟨p, rfl⟩, ?_⟩)))
    rintro _ ⟨p', e, rfl⟩
    rw [pairD_inj (List.cons.inj e).1]
  · unfold polyD flP; rw [List.map_map]; rfl

end
/-! #### Fw -/
section
variable {P : Program} {w : World} {K : PySem.W.Frag} {mg : Str → Option Value} {base : Heap}
/-! ### fp -/
/-! ### Piece.moved, .turned, .mirrored -/
theorem pany_inj {d : D} {a b : List (List Pr2)} (h : PAny d a) (h' : PAny d b) : a = b := by
  rcases h with h | h <;> rcases h' with h' | h' <;> rw [h] at h'
  · exact (List.map_inj_right fun _ _ h => polyD_inj h).mp (D.lst.inj h')
  · cases h'
  · cases h'
  · exact (List.map_inj_right fun _ _ h => polyD_inj h).mp (D.tup.inj h')
theorem pi_post {CP : Addr} {tag : Str} {d r : D} {qss : List (List Pr2)} (h : piPost CP [.str tag, d] r) (hd : PAny d qss) : r = pieceD CP tag (sortP (qss.map toldP)) := by
  obtain ⟨tag', d', pss', e, hd', rfl⟩ := h
  have e1 := D.str.inj (List.cons.inj e).1
  have e2 := (List.cons.inj (List.cons.inj e).2).1
  subst e1 e2
  rw [pany_inj hd hd']
def PcN (CP : Addr) (d : D) : Prop := ∃ (tag : Str) (pss : List (List Pr2)), d = pieceD CP tag pss ∧ Good 200 pss ∧ isName (.str tag) = true ∧ tag.length ≤ 1000
theorem sm_tag {tag : Str} (h : tag.length ≤ 1000) : sm (.str tag) = true := decide_eq_true h
abbrev inSp (K : PySem.W.Frag) (CP : Addr) : Sp := SpJ K CP piPre (piPost CP)
/-- all corners of all parts, moved, are points -/
def InP (pss : List (List Pr2)) (x y : Int) : Prop := ∀ ps ∈ pss, ∀ p ∈ ps, Upto 200 (sentP x y p)
theorem good_in {n : Int} {pss : List (List Pr2)} {x y : Int} (g : Good n pss) (h : InP pss x y) : Good 200 (pss.map (List.map (sentP x y))) := by
  have g1 := Good.map (m := n + x.natAbs + y.natAbs) (stiff_sent x y) (fun p h => by unfold Upto sentP at *; dsimp only; omega) g
  refine ⟨g1.ne, g1.l4, g1.cv, fun q hq z hz => ?_, g1.ov, g1.cn⟩
  obtain ⟨ps, hp, rfl⟩ := List.mem_map.mp hq
  obtain ⟨p, hm, rfl⟩ := List.mem_map.mp hz
  exact h ps hp p hm
def mvPre (CP : Addr) : List D → Prop := p3 fun d a b => ∃ x y : Int, PcN CP d ∧ a = .int x ∧ b = .int y
def mvPost (CP : Addr) : List D → D → Prop := fun ds r => ∃ (tag : Str) (pss : List (List Pr2)) (x y : Int), ds = [pieceD CP tag pss, .int x, .int y] ∧ InP pss x y ∧ r = pieceD CP tag (heldP (pss.map (List.map (sentP x y))))
def mvExc (CP C : Addr) : List D → Addr → List Str → List D → Prop := fun ds C' ks es => ∃ (tag : Str) (pss : List (List Pr2)) (x y : Int), ds = [pieceD CP tag pss, .int x, .int y] ∧ ¬ InP pss x y ∧ excO C C' ks es
abbrev s_Piece_moved : Stmt := inClass (topS 45) 5
abbrev N_Piece_moved : List Str := ["self", "right", "up", "part"]
theorem sc_Piece_moved : FnScope N_Piece_moved ["self", "right", "up"] (defScope s_Piece_moved) := ⟨rfl, rfl, rfl, by decide +kernel, rfl, by decide +kernel, by decide +kernel⟩
theorem ok_Piece_moved {k : Nat} {CP C f fI : Addr} {fd dI : FuncData} (G : Gn mg) (MG : PcT K mg CP) (MK : Mk K CP fI) (F : Fun K "moved" "Piece.moved" s_Piece_moved f fd) (CM_init : ClM P w K mg base k fI dI ["self", "name", "parts"] (inSp K CP)) (C_moved_part : ClMt P w K mg base C (k + 1)) : ClMz P w K mg base (k + 1 + 1) f fd ["self", "right", "up"] (SpX K (mvPre CP) (mvPost CP) (mvExc CP C)) := by
  refine clmx_of F sc_Piece_moved (fun _ _ _ _ _ _ us hl => match us, hl with | [_, _, _], _ => rfl) p3_len fun cdv A outer s H E hr => ⟨_, (pss_one (ps_ret (pe_make MK CM_init.ok hr (by rfl) MG.m_Piece CM_init.bn .nil pass0 (pa_cons (pe_fld (pv 0) rfl) (pa_cons (Dl.pe_lcR (own := [("part", 3)]) (g := gName 3) rfl sc_Piece_moved.nd (takes_of rfl rfl rfl rfl) rfl rfl (pi_list (pe_fld (pv 0) rfl)) (blkOk_by (N := N_Piece_moved) (sc := defScope s_Piece_moved) (by decide +kernel)) (fun _ _ _ _ _ => pg_name (i := 3) sc_Piece_moved.nd rfl (Or.inl rfl)) (fun _ _ _ _ _ => (Dl.pe_cxP C_moved_part Dl.passR hr (by omega) (by rfl) (pa_cons (pv 3) (pa_cons (pv 1) (pa_cons (pv 2) pa_nil)))))) pa_nil))))), fun B ds hp => ?_⟩
  obtain ⟨_, _, _, rfl, x, y, ⟨tag, pss, rfl, g, hn, hz⟩, rfl, rfl⟩ := p3_ex hp
  have gl := g.l4
  show WS K B _ [slP CP tag pss, .val (.int x), .val (.int y), .no] _
  try dsimp only [cxOf, Cx.nox, Cx.blk]
  refine ws_ret (we_makeJ (wa_cons (we_tag MG (we_var rfl ⟨rfl, wa_cons (we_lcAX (xs := pss) polyD (fun q => polyD (q.map (sentP x y))) (fun q => ∀ p ∈ q, Upto 200 (sentP x y p)) (by omega) (wi_list (we_pts MG (we_var rfl ⟨rfl, _, rfl, rfl⟩))) (fun q hm => ?_) fun hu => ?_)⟩))))
  · try dsimp only [List.set]
    refine we_callE (wa_cons (we_var rfl (wa_cons (we_var rfl (wa_cons (we_var rfl (wa_nil ⟨⟨q, x, y, rfl, rfl, rfl, by have := (g.cv q hm).h6; omega⟩, ?_, ?_⟩)))))))
    · rintro _ ⟨q', x', y', e, hu, rfl⟩
      have e1 := prs_inj (D.tup.inj (List.cons.inj e).1)
      have e2 := D.int.inj (List.cons.inj (List.cons.inj e).2).1
      have e3 := D.int.inj (List.cons.inj (List.cons.inj (List.cons.inj e).2).2).1
      subst e1 e2 e3
      exact ⟨rfl, hu⟩
    · rintro C' ks es ⟨q', x', y', e, hu, he⟩
      have e1 := prs_inj (D.tup.inj (List.cons.inj e).1)
      have e2 := D.int.inj (List.cons.inj (List.cons.inj e).2).1
      have e3 := D.int.inj (List.cons.inj (List.cons.inj (List.cons.inj e).2).2).1
      subst e1 e2 e3
      exact ⟨tag, pss, x, y, rfl, fun z => hu (z q hm), he⟩
  · rw [show pss.map (fun q => polyD (q.map (sentP x y))) = (pss.map (List.map (sentP x y))).map polyD by rw [List.map_map]; rfl]
    refine wa_nil ⟨⟨tag, _, rfl, hn, sm_tag hz, .inl rfl, good_in g hu⟩, fun d hd => ?_⟩
    rw [pi_post hd (.inl rfl)]
    exact ⟨tag, pss, x, y, rfl, hu, rfl⟩

/-! ### nr2 -/
def tnPre (CP : Addr) : List D → Prop := p2 fun d a => ∃ j : Int, PcN CP d ∧ a = .int j
def tnPost (CP : Addr) : List D → D → Prop := fun ds r => ∃ (tag : Str) (pss : List (List Pr2)) (j : Int), ds = [pieceD CP tag pss, .int j] ∧ r = pieceD CP tag (heldP (pss.map (List.map (qtrN (j.fmod 4).toNat))))
abbrev s_Piece_turned : Stmt := inClass (topS 45) 6
abbrev N_Piece_turned : List Str := ["self", "quarters", "part"]
theorem sc_Piece_turned : FnScope N_Piece_turned ["self", "quarters"] (defScope s_Piece_turned) := ⟨rfl, rfl, rfl, by decide +kernel, rfl, by decide +kernel, by decide +kernel⟩
theorem ok_Piece_turned {k : Nat} {CP f fI : Addr} {fd dI : FuncData} (G : Gn mg) (MG : PcT K mg CP) (MK : Mk K CP fI) (F : FunD K "turned" "Piece.turned" (defArgs s_Piece_turned) (defBody s_Piece_turned) (defScope s_Piece_turned) [.int 1] [] f fd) (CM_init : ClM P w K mg base k fI dI ["self", "name", "parts"] (inSp K CP)) (C_turned_part : ClTt P w K mg base (k + 1)) : ClM P w K mg base (k + 1 + 1) f fd ["self", "quarters"] (SpD K (tnPre CP) (tnPost CP)) := by
  refine clmd_of F sc_Piece_turned (List.cons_ne_nil _ _) (fun T _ _ _ _ _ _ us its hl hi => match us, its, hl, hi with | [_, _], [_], _, _ => ⟨_, rfl, rfl⟩) p2_len fun cdv A outer s H E hr => ⟨_, (pss_one (ps_ret (pe_make MK CM_init.ok hr (by rfl) MG.m_Piece CM_init.bn .nil pass0 (pa_cons (pe_fld (pv 0) rfl) (pa_cons (pe_lc (own := [("part", 2)]) (g := gName 2) (tt := tYes) rfl sc_Piece_turned.nd (pi_list (pe_fld (pv 0) rfl)) (blkOk_by (N := N_Piece_turned) (sc := defScope s_Piece_turned) (by decide +kernel)) (fun _ _ _ _ _ => pg_name (i := 2) sc_Piece_turned.nd rfl (Or.inl rfl)) (fun _ _ _ _ _ => pts_nil) (fun _ _ _ _ _ => (pe_c C_turned_part hr (by omega) (by rfl) (pa_cons (pv 2) (pa_cons (pv 1) pa_nil))))) pa_nil))))), fun B ds hp => ?_⟩
  obtain ⟨_, _, rfl, j, ⟨tag, pss, rfl, g, hn, hz⟩, rfl⟩ := p2_ex hp
  have gl := g.l4
  have g' : Good 200 (pss.map (List.map (qtrN (j.fmod 4).toNat))) := Good.map (stiff_qtrN _) (fun p h => upto_qtrN h _) g
  show WS K B _ [slP CP tag pss, .val (.int j), .no] _
  try dsimp only [cxOf, Cx.nox, Cx.blk]
  refine ws_ret (we_makeJ (wa_cons (we_tag MG (we_var rfl ⟨rfl, wa_cons (we_lcA (xs := pss) polyD (fun q => polyD (q.map (qtrN (j.fmod 4).toNat))) (by omega) (wi_list (we_pts MG (we_var rfl ⟨rfl, _, rfl, rfl⟩))) (fun q hm => ?_) ?_)⟩))))
  · try dsimp only [List.set]
    refine we_call (wa_cons (we_var rfl (wa_cons (we_var rfl (wa_nil ⟨⟨q, j, rfl, rfl, by have := (g.cv q hm).h6; omega, fun p hp => upto_le (g.up q hm p hp) (by decide)⟩, ?_⟩)))))
    rintro _ ⟨q', j', e, rfl⟩
    have e1 := prs_inj (D.tup.inj (List.cons.inj e).1)
    have e2 := D.int.inj (List.cons.inj (List.cons.inj e).2).1
    rw [e1, e2]
  · rw [show pss.map (fun q => polyD (q.map (qtrN (j.fmod 4).toNat))) = (pss.map (List.map (qtrN (j.fmod 4).toNat))).map polyD by rw [List.map_map]; rfl]
    refine wa_nil ⟨⟨tag, _, rfl, hn, sm_tag hz, .inl rfl, g'⟩, fun d hd => ?_⟩
    rw [pi_post hd (.inl rfl)]
    exact ⟨tag, pss, j, rfl, rfl⟩
def miPost (CP : Addr) : List D → D → Prop := fun ds r => ∃ (tag : Str) (pss : List (List Pr2)), ds = [pieceD CP tag pss] ∧ r = pieceD CP tag (heldP (pss.map flP))
abbrev s_Piece_mirrored : Stmt := inClass (topS 45) 7
abbrev N_Piece_mirrored : List Str := ["self", "part"]
theorem sc_Piece_mirrored : FnScope N_Piece_mirrored ["self"] (defScope s_Piece_mirrored) := ⟨rfl, rfl, rfl, by decide +kernel, rfl, by decide +kernel, by decide +kernel⟩
theorem ok_Piece_mirrored {k : Nat} {CP f fI : Addr} {fd dI : FuncData} (G : Gn mg) (MG : PcT K mg CP) (MK : Mk K CP fI) (F : Fun K "mirrored" "Piece.mirrored" s_Piece_mirrored f fd) (CM_init : ClM P w K mg base k fI dI ["self", "name", "parts"] (inSp K CP)) (C_mirrored_part : ClMm P w K mg base (k + 1)) : ClM P w K mg base (k + 1 + 1) f fd ["self"] (SpD K (p1 (PcN CP)) (miPost CP)) := by
  refine clm_of F sc_Piece_mirrored (fun _ _ _ _ _ _ us hl => match us, hl with | [_], _ => rfl) p1_len fun cdv A outer s H E hr => ⟨_, (pss_one (ps_ret (pe_make MK CM_init.ok hr (by rfl) MG.m_Piece CM_init.bn .nil pass0 (pa_cons (pe_fld (pv 0) rfl) (pa_cons (pe_lc (own := [("part", 1)]) (g := gName 1) (tt := tYes) rfl sc_Piece_mirrored.nd (pi_list (pe_fld (pv 0) rfl)) (blkOk_by (N := N_Piece_mirrored) (sc := defScope s_Piece_mirrored) (by decide +kernel)) (fun _ _ _ _ _ => pg_name (i := 1) sc_Piece_mirrored.nd rfl (Or.inl rfl)) (fun _ _ _ _ _ => pts_nil) (fun _ _ _ _ _ => (pe_c C_mirrored_part hr (by omega) (by rfl) (pa_cons (pv 1) pa_nil)))) pa_nil))))), fun B ds hp => ?_⟩
  obtain ⟨_, rfl, tag, pss, rfl, g, hn, hz⟩ := p1_ex hp
  have gl := g.l4
  show WS K B _ [slP CP tag pss, .no] _
  try dsimp only [cxOf, Cx.nox, Cx.blk]
  refine ws_ret (we_makeJ (wa_cons (we_tag MG (we_var rfl ⟨rfl, wa_cons (we_lcA (xs := pss) polyD (fun q => polyD (flP q)) (by omega) (wi_list (we_pts MG (we_var rfl ⟨rfl, _, rfl, rfl⟩))) (fun q hm => ?_) ?_)⟩))))
  · try dsimp only [List.set]
    refine we_call (wa_cons (we_var rfl (wa_nil ⟨⟨q, rfl, by have := (g.cv q hm).h6; omega⟩, ?_⟩)))
    rintro _ ⟨q', e, rfl⟩
    have e1 := prs_inj (D.tup.inj (List.cons.inj e).1)
    rw [e1]
  · rw [show pss.map (fun q => polyD (flP q)) = (pss.map flP).map polyD by rw [List.map_map]; rfl]
    refine wa_nil ⟨⟨tag, _, rfl, hn, sm_tag hz, .inl rfl, g.fl⟩, fun d hd => ?_⟩
    rw [pi_post hd (.inl rfl)]
    exact ⟨tag, pss, rfl, rfl⟩

end
/-! #### Fqa -/
section
variable {P : Program} {w : World} {K : PySem.W.Frag} {mg : Str → Option Value} {base : Heap}
/-! ### fq -/
/-! ### what is got -/
theorem ro_inF {B : Bt} {Pp : D → Prop} {z : Str} {ds : List D} {c : Bool} (hf : ds.all D.flat = true) (hc : inV (.str z) (ds.map D.v) = c) (p : Pp (.bl c)) : RO K B (rIn K false) (.str z) (.tup ds) Pp := fun G H x y _ o hx hy q => by
  have key : ∀ {ds : List D} {vs : List V}, Dds K B G vs ds → ds.all D.flat = true → vs = ds.map D.v ∧ vs.all flatV = true := by
    intro ds
    induction ds with
    | nil => intro vs h _; cases h; exact ⟨rfl, rfl⟩
    | cons d ds ih =>
      intro vs h hf
      cases h with
      | cons h t =>
        rw [List.all_cons, Bool.and_eq_true] at hf
        obtain ⟨e1, e2⟩ := ih t hf.2
        have e3 := h.flat hf.1
        refine ⟨by rw [e3, e1]; rfl, ?_⟩
        rw [List.all_cons, e2, Bool.and_true, e3]
        cases d <;> first | rfl | exact Bool.noConfusion hf.1
  cases hx
  cases hy with
  | tup hg t =>
    obtain ⟨e1, e2⟩ := key t hf
    refine ⟨_, _, rfl, .inr (SqT.ofZ (o.u _ _ hg.1)), rfl, e2, ?_⟩
    rw [if_neg (by decide), e1, hc]
    exact q.nil o (.bl c) p
abbrev s__law_fields : Stmt := topS 53
abbrev N__law_fields : List Str := ["_law_e"]
theorem sc__law_fields : FnScope N__law_fields ["_law_e"] (defScope s__law_fields) := ⟨rfl, rfl, rfl, by decide +kernel, rfl, by decide +kernel, by decide +kernel⟩
abbrev obD (C : Addr) : D := .exn C ["code"] [.str "OutOfBounds"]
def fldPre (K : PySem.W.Frag) : List D → Prop := p1 fun d => ∃ C, d = obD C ∧ XfC K C ∧ PySem.W.findIn K (.ref C) "code" = some none
def fldPost : List D → D → Prop := fun ds r => r = .tup []
theorem lk_code : ([(("code" : Str))].zip [D.str "OutOfBounds"]).lookup ("code" : Str) = some (.str "OutOfBounds") := by
  rw [List.zip_cons_cons, lookup_putD, if_pos rfl]
abbrev ClF (P : Program) (w : World) (K : PySem.W.Frag) (mg : Str → Option Value) (base : Heap) (k : Nat) := ClHot P w K mg base k "_law_fields" ["_law_e"] (SpD K (fldPre K) fldPost)
theorem ok__law_fields {k : Nat} (F : Df K mg "_law_fields" s__law_fields) : ClF P w K mg base (k + 1) := by
  refine clHot_of F sc__law_fields (fun _ _ _ _ _ _ us hl => match us, hl with | [_], _ => rfl) p1_len fun f cdv A outer s H E hr => ⟨_, (pss_cons (ps_if (pt_cmpR op_in_seq (pe_xv (pv 0)) (pe_tupZ (pa_cons pe_str (pa_cons pe_str pa_nil))) (by rfl)) (pss_one (ps_ret (pe_tupZ (pa_cons (pe_xv (pv 0)) pa_nil)))) pss_nil)
      (pss_cons (ps_if (pt_cmpR op_in_seq (pe_xv (pv 0)) (pe_tupZ (pa_cons pe_str (pa_cons pe_str pa_nil))) (by rfl)) (pss_one (ps_ret (pe_tupZ (pa_cons (pe_xv (pv 0)) (pa_cons (pe_xv (pv 0)) pa_nil))))) pss_nil)
      (pss_cons (ps_if (pt_cmpR op_in_seq (pe_xv (pv 0)) (pe_tupZ (pa_cons pe_str (pa_cons pe_str pa_nil))) (by rfl)) (pss_one (ps_ret (pe_tupZ (pa_cons (pe_xv (pv 0)) pa_nil)))) pss_nil)
      (pss_cons (ps_if (pt_cmpR op_in_seq (pe_xv (pv 0)) (pe_tupZ (pa_cons pe_str (pa_cons pe_str pa_nil))) (by rfl)) (pss_one (ps_ret (pe_ifExp (pt_cmpR op_eq (pe_xv (pv 0)) pe_str (nomark _)) (pe_tupZ (pa_cons (pe_xv (pv 0)) pa_nil)) (pe_tupZ (pa_cons (pe_xv (pv 0)) (pa_cons (pe_xv (pv 0)) pa_nil)))))) pss_nil)
      (pss_one (ps_ret (pe_ifExp (pt_cmpR op_in_seq (pe_xv (pv 0)) (pe_tupZ (pa_cons pe_str (pa_cons pe_str (pa_cons pe_str (pa_cons pe_str (pa_cons pe_str (pa_cons pe_str pa_nil))))))) (by rfl)) (pe_tupZ (pa_cons (pe_xv (pv 0)) pa_nil)) (pe_tupZ pa_nil)))))))), fun B ds hp => ?_⟩
  obtain ⟨d, rfl, C, rfl, hx, hn1⟩ := p1_ex hp
  show WS K B _ [.val (obD C)] _
  try dsimp only [cxT, cxOf, Cx.nox, Cx.blk]
  refine ws_seq (ws_if (wt_test (we_op (we_xv (we_var rfl ⟨C, _, _, _, rfl, lk_code, ⟨hx, hn1⟩, ?_⟩)))))
  repeat walk_at "dl"
  refine ro_inF rfl (c := false) (by decide +kernel) ⟨false, rfl, ?_⟩
  refine iteF (ws_next ?_)
  refine ws_seq (ws_if (wt_test (we_op (we_xv (we_var rfl ⟨C, _, _, _, rfl, lk_code, ⟨hx, hn1⟩, ?_⟩)))))
  repeat walk_at "dl"
  refine ro_inF rfl (c := false) (by decide +kernel) ⟨false, rfl, ?_⟩
  refine iteF (ws_next ?_)
  refine ws_seq (ws_if (wt_test (we_op (we_xv (we_var rfl ⟨C, _, _, _, rfl, lk_code, ⟨hx, hn1⟩, ?_⟩)))))
  repeat walk_at "dl"
  refine ro_inF rfl (c := false) (by decide +kernel) ⟨false, rfl, ?_⟩
  refine iteF (ws_next ?_)
  refine ws_seq (ws_if (wt_test (we_op (we_xv (we_var rfl ⟨C, _, _, _, rfl, lk_code, ⟨hx, hn1⟩, ?_⟩)))))
  repeat walk_at "dl"
  refine ro_inF rfl (c := false) (by decide +kernel) ⟨false, rfl, ?_⟩
  refine iteF (ws_next ?_)
  refine ws_ret (we_if (wt_test (we_op (we_xv (we_var rfl ⟨C, _, _, _, rfl, lk_code, ⟨hx, hn1⟩, ?_⟩)))))
  repeat walk_at "dl"
  refine ro_inF rfl (c := false) (by decide +kernel) ⟨false, rfl, ?_⟩
  rw [if_neg (by decide)]
  exact we_tup (wa_nil ⟨by show 0 ≤ 1000; decide, rfl⟩)

/-! ### fq2 -/
/-! ### _law_got -/
abbrev s__law_got : Stmt := topS 54
abbrev N__law_got : List Str := ["_law_ask", "_law_e"]
theorem sc__law_got : FnScope N__law_got ["_law_ask"] (defScope s__law_got) := ⟨rfl, rfl, rfl, by decide +kernel, rfl, by decide +kernel, by decide +kernel⟩
open LamX in
theorem pe_gotK {X : Cx} {c Pt CL CM : Addr} {kF j : Nat} {t : XK → TE} {params : Arguments} {body : Expr} {scope : Scope} {p lpos pos : Pos} {T : List (Addr × Str)} (F : Df X.K X.mg "_law_got" s__law_got) (hg : Gl X "_law_got") (m1 : X.mg "LotError" = some (.ref CL)) (m2 : X.mg "Missing" = some (.ref CM)) (C_f : ClF X.prog X.w X.K X.mg X.base kF)
    (TB : TabB X.base X.mg c Pt) (hcode : X.env.code = .ref c) (hT : T = [(Pt, X.env.qual ++ "<lambda>")]) (hr : Room (j + 2) X.A) (hj : kF ≤ j + 1) (L : LamS X.env.scope scope) (hdef : defaultsOf params X.env = ([], []))
    (hbind : ∀ (q : Str) (cl : List (Str × Addr)) (pm cv ctv : Value), bindArgs (PySem.W.kla_fn "<lambda>" q params body scope cl pm cv ctv) ⟨[], []⟩ = pure [])
    (hbody : ∀ (A : Around) (outer : List Env) (s : Shared) (H : Hp) (E : XK) (f c' : Addr), Room j (A.deeper (lamEnv X scope s.heap.objs.size f c')) → PE (lamCx X A outer s H E scope f c') body (t E)) :
    PE X (.Call (.Name "_law_got" p) [.Lambda params body scope lpos] [] pos) (tLam T (TGot X.K (.ref CL) (.ref CM) (SpD X.K (fldPre X.K) fldPost)) t) := by
  obtain ⟨g, fd, F, hm⟩ := F.ex
  have kp := F.kp
  have hb : L2.Binds X.K fd ["_law_ask"] [] := F.binds fun _ _ _ _ _ _ us hl => match us, hl with | [_], _ => rfl
  obtain ⟨oc, od, kV, doc, pm, an, cdv, ct, osl, rfl, lk, hcd⟩ := F.ex
  obtain ⟨ff, fdF, FF, mf, kf, bf⟩ := C_f.ex
  exact pe_lamS (k := j) hg hm kp lk hcd hb sc__law_got rfl (.inl rfl) (got_gives (kq := 0) (j := j) sc__law_got rfl rfl (by decide) (by decide) rfl m1 m2 rfl mf kf bf (by decide) (by decide) (by decide) FF hj) TB hcode (by rw [hT]; exact List.mem_singleton.mpr rfl) (fun q hq _ => by rw [hT] at hq; rw [List.mem_singleton.mp hq]) hr L hdef hbind hbody
structure Xg (K : PySem.W.Frag) (C CL CM : Addr) : Prop where
  xf : XfC K C
  nc : PySem.W.findIn K (.ref C) "code" = some none
  m : PySem.W.exmAny K (.ref C) [.ref CL, .ref CM] = some true
theorem we_gotO {B : Bt} {X : Xc} {δ : List Sd} {Pp R : D → Prop} {C CL CM : Addr} {te : XK → TE} {Φ : Prop} (XG : Xg K C CL CM) (hb : ∀ E : XK, WEx K B (XE E fun C' ks es => excO C C' ks es ∧ Φ) (te E) δ R)
    (hv : ∀ d, R d → Pp (.tup [.str "told", d])) (hx : Φ → Pp (.tup [.str "no", .str "OutOfBounds"])) : WEx K B X (LamX.tLam B.T (TGot K (.ref CL) (.ref CM) (SpD K (fldPre K) fldPost)) te) δ Pp := by
  refine we_got (R := R) (exc := fun C' ks es => excO C C' ks es ∧ Φ) hb hv ?_
  rintro C' ks es ⟨⟨rfl, rfl, rfl⟩, hΦ⟩
  refine ⟨XG.m, ?_⟩
  refine ws_ret (we_op (we_tup (wa_cons (we_str (wa_cons (we_xv (we_var rfl ⟨C', _, _, _, rfl, lk_code, ⟨XG.xf, XG.nc⟩, wa_nil ⟨(by show 2 ≤ 1000; decide), ?_⟩⟩)))))))
  refine we_call (wa_cons (we_var rfl (wa_nil ⟨⟨C', rfl, XG.xf, XG.nc⟩, ?_⟩)))
  rintro _ rfl
  exact ro_catA (by show 2 + 0 ≤ 1000; decide) (hx hΦ)

end
/-! #### Frl -/
section
variable {P : Program} {w : World} {K : PySem.W.Frag} {mg : Str → Option Value} {base : Heap}
/-! ### fr -/
/-! ### _law_led -/
abbrev s__law_led : Stmt := topS 76
abbrev N__law_led : List Str := ["_law_made", "_law_way_z", "_law_x", "_law_y", "_law_by"]
theorem sc__law_led : FnScope N__law_led ["_law_made", "_law_way_z", "_law_x", "_law_y", "_law_by"] (defScope s__law_led) := ⟨rfl, rfl, rfl, by decide +kernel, rfl, by decide +kernel, by decide +kernel⟩
def ledT (f c Pt : Addr) : List (Addr × Str) := [(Pt, (envOfC "_law_led" (defScope s__law_led) 0 f (.ref c)).qual ++ "<lambda>")]
def told (CP : Addr) (t : Str) (p : List (List Pr2)) : D := .tup [.str "told", pieceD CP t (heldP p)]
def LedR (CP : Addr) (t : Str) (p : List (List Pr2)) (wz x y : Int) (r : D) : Prop :=
  (wz = 0 ∧ InP p x y ∧ r = told CP t (p.map (List.map (sentP x y)))) ∨ (wz = 0 ∧ ¬ InP p x y ∧ r = .tup [.str "no", .str "OutOfBounds"]) ∨ (wz = 1 ∧ r = told CP t (p.map (List.map (qtrN (x.fmod 4).toNat)))) ∨ (wz = 2 ∧ r = told CP t (p.map (List.map (qtrN 1)))) ∨ (wz = 3 ∧ r = told CP t (p.map flP))
def ledPre (CP : Addr) : List D → Prop := fun ds => ∃ (t : Str) (p : List (List Pr2)) (wz x y b : Int), ds = [pieceD CP t p, .int wz, .int x, .int y, .int b] ∧ PcN CP (pieceD CP t p) ∧ 0 ≤ wz ∧ wz < 4
def ledPost (CP : Addr) : List D → D → Prop := fun ds r => ∃ (t : Str) (p : List (List Pr2)) (wz x y b : Int), ds = [pieceD CP t p, .int wz, .int x, .int y, .int b] ∧ LedR CP t p wz x y r
abbrev ClLe (P : Program) (w : World) (K : PySem.W.Frag) (mg : Str → Option Value) (base : Heap) (CP f c Pt : Addr) (k : Nat) := Cl P w K mg base k "_law_led" s__law_led ["_law_made", "_law_way_z", "_law_x", "_law_y", "_law_by"] (SpDT K (ledT f c Pt) (ledPre CP) (ledPost CP))
theorem ok__law_led {k kF : Nat} {CP CO CL CM f c Pt fV fT fM : Addr} {dV dT dM : FuncData} (G : Gn mg) (MG : PcT K mg CP) (F : FunT K "_law_led" s__law_led f c) (hm : mg "_law_led" = some (.ref f)) (TB : LamX.TabB base mg c Pt) (D__law_got : Df K mg "_law_got" s__law_got) (m_LotError : mg "LotError" = some (.ref CL)) (m_Missing : mg "Missing" = some (.ref CM)) (C__law_fields : ClF P w K mg base kF) (hkF : kF ≤ k + 1) (XG : Xg K CO CL CM)
    (MV : Meth K CP "moved" fV) (MT : Meth K CP "turned" fT) (MM : Meth K CP "mirrored" fM) (CM_mv : ClMz P w K mg base k fV dV ["self", "right", "up"] (SpX K (mvPre CP) (mvPost CP) (mvExc CP CO))) (K_mv : KBn K dV ["self", "right", "up"] 1 ["up", "right"] (fun us ws => us ++ ws.reverse) (fun us ws => us ++ ws.reverse))
    (CM_tn : ClM P w K mg base k fT dT ["self", "quarters"] (SpD K (tnPre CP) (tnPost CP))) (K_tn : KBn K dT ["self", "quarters"] 1 ["quarters"] (fun us ws => us ++ ws.reverse) (fun us ws => us ++ ws.reverse)) (B_tn : ∃ ds, Vals [V.int 1] ds ∧ Binds K dT ["self", "quarters"] ds)
    (CM_mi : ClM P w K mg base k fM dM ["self"] (SpD K (p1 (PcN CP)) (miPost CP))) : ClLe P w K mg base CP f c Pt (k + 2 + 1) := by
  obtain ⟨dsT, vT, bT⟩ := B_tn
  refine clT_of F hm sc__law_led (fun _ _ _ _ _ _ us hl => match us, hl with | [_, _, _, _, _], _ => rfl) (fun ds ⟨_, _, _, _, _, _, e, _⟩ => by rw [e]; rfl) fun A outer s H E hr => ?_
  have hT : ledT f c Pt = [(Pt, (cxOf CX0 P w K mg base N__law_led "_law_led" (defScope s__law_led) f (.ref c) A outer s H E).nox.env.qual ++ "<lambda>")] := rfl
  refine ⟨_, (pss_cons (ps_if (pt_cmpR op_eq (pv 1) pe_int (nomark _)) (pss_one (ps_ret (pe_gotK (j := k) D__law_got (by rfl) m_LotError m_Missing C__law_fields TB rfl hT hr (by omega) (LamX.lamS_by (show LamX.lamSB (defScope s__law_led) _ = true from by decide +kernel)) rfl (fun _ _ _ _ _ => rfl) (fun A outer s H E f c' hr => by exact (pe_ifExp (pt_cmpR op_eq (pv 4) pe_int (nomark _)) (pe_meth (pv 0) MG.cl MV CM_mv.ok hr CM_mv.bn .nil (passes_call (takes_of rfl rfl rfl rfl) fun _ _ _ _ h => h) (pa_cons (pv 2) (pa_cons (pv 3) pa_nil))) (Dl.pe_methK0 (pv 0) MG.cl MV CM_mv.ok hr K_mv (passes_call (takes_of rfl rfl rfl rfl) fun _ _ _ _ h => h) (pk_cons (pv 3) (pk_cons (pv 2) pk_nil)))))))) pss_nil)
      (pss_cons (ps_if (pt_cmpR op_eq (pv 1) pe_int (nomark _)) (pss_one (ps_ret (pe_gotK (j := k) D__law_got (by rfl) m_LotError m_Missing C__law_fields TB rfl hT hr (by omega) (LamX.lamS_by (show LamX.lamSB (defScope s__law_led) _ = true from by decide +kernel)) rfl (fun _ _ _ _ _ => rfl) (fun A outer s H E f c' hr => by exact (pe_ifExp (pt_cmpR op_eq (pv 4) pe_int (nomark _)) (pe_meth (pv 0) MG.cl MT CM_tn.ok hr CM_tn.bn .nil pass0 (pa_cons (pv 2) pa_nil)) (Dl.pe_methK0 (pv 0) MG.cl MT CM_tn.ok hr K_tn pass0 (pk_cons (pv 2) pk_nil))))))) pss_nil)
      (pss_cons (ps_if (pt_cmpR op_eq (pv 1) pe_int (nomark _)) (pss_one (ps_ret (pe_gotK (j := k) D__law_got (by rfl) m_LotError m_Missing C__law_fields TB rfl hT hr (by omega) (LamX.lamS_by (show LamX.lamSB (defScope s__law_led) _ = true from by decide +kernel)) rfl (fun _ _ _ _ _ => rfl) (fun A outer s H E f c' hr => by exact (pe_meth0 (pv 0) MG.cl MT CM_tn.ok hr bT vT pass0))))) pss_nil)
      (pss_one (ps_ret (pe_gotK (j := k) D__law_got (by rfl) m_LotError m_Missing C__law_fields TB rfl hT hr (by omega) (LamX.lamS_by (show LamX.lamSB (defScope s__law_led) _ = true from by decide +kernel)) rfl (fun _ _ _ _ _ => rfl) (fun A outer s H E f c' hr => by exact (pe_meth0 (pv 0) MG.cl MM CM_mi.ok hr CM_mi.bn .nil pass0)))))))), fun B ds hBT hp => ?_⟩
  obtain ⟨t, p, wz, x, y, b, rfl, ⟨t', p', ep, g, hn, hz⟩, h0, h4⟩ := hp
  obtain ⟨rfl, rfl⟩ := pieceD_inj ep
  clear ep
  show WS K B _ [slP CP t p, .val (.int wz), .val (.int x), .val (.int y), .val (.int b)] _
  try dsimp only [cxOf, Cx.nox, Cx.blk]
  rw [← hBT]
  have fin : ∀ r, LedR CP t p wz x y r → ledPost CP [pieceD CP t p, .int wz, .int x, .int y, .int b] r := fun r h => ⟨t, p, wz, x, y, b, rfl, h⟩
  have pc : PcN CP (pieceD CP t p) := ⟨t, p, rfl, g, hn, hz⟩
  refine ws_seq (ws_if (wt_test (we_op (we_var rfl (we_int (ro_eqI ⟨_, rfl, ite2 (fun h1 => ?_) (fun h1 => ws_next ?_)⟩))))))
  · have w0 : wz = 0 := of_decide_eq_true h1
    refine ws_ret (we_gotO (R := fun d => InP p x y ∧ d = pieceD CP t (heldP (p.map (List.map (sentP x y))))) (Φ := ¬ InP p x y) XG (fun E => ?_) (fun d hd => fin _ (.inl ⟨w0, hd.1, by rw [hd.2]; rfl⟩)) fun hx => fin _ (.inr (.inl ⟨w0, hx, rfl⟩)))
    have post : ∀ r, mvPost CP [pieceD CP t p, .int x, .int y] r → InP p x y ∧ r = pieceD CP t (heldP (p.map (List.map (sentP x y)))) := by
      rintro r ⟨t', p', x', y', e, hi, rfl⟩
      obtain ⟨e1, e2⟩ := pieceD_inj (List.cons.inj e).1
      have e3 := D.int.inj (List.cons.inj (List.cons.inj e).2).1
      have e4 := D.int.inj (List.cons.inj (List.cons.inj (List.cons.inj e).2).2).1
      subst e1 e2 e3 e4
      exact ⟨hi, rfl⟩
    have exc : ∀ C' ks es, mvExc CP CO [pieceD CP t p, .int x, .int y] C' ks es → excO CO C' ks es ∧ ¬ InP p x y := by
      rintro C' ks es ⟨t', p', x', y', e, hi, he⟩
      obtain ⟨e1, e2⟩ := pieceD_inj (List.cons.inj e).1
      have e3 := D.int.inj (List.cons.inj (List.cons.inj e).2).1
      have e4 := D.int.inj (List.cons.inj (List.cons.inj (List.cons.inj e).2).2).1
      subst e1 e2 e3 e4
      exact ⟨he, hi⟩
    refine we_if (wt_test (we_op (we_var rfl (we_int (ro_eqI ⟨_, rfl, ite2 (fun _ => ?_) (fun _ => ?_)⟩)))))
    · exact we_methX (we_var (i := 0) (d := pieceD CP t p) rfl ⟨_, _, rfl, rfl, wa_cons (we_var rfl (wa_cons (we_var rfl (wa_nil ⟨⟨x, y, pc, rfl, rfl⟩, post, exc⟩))))⟩)
    · exact we_methKX (we_var (i := 0) (d := pieceD CP t p) rfl ⟨_, _, rfl, rfl, wa_cons (we_var rfl (wa_cons (we_var rfl (wa_nil ⟨rfl, ⟨x, y, pc, rfl, rfl⟩, post, exc⟩))))⟩)
  have tpost : ∀ j r, tnPost CP [pieceD CP t p, .int j] r → r = pieceD CP t (heldP (p.map (List.map (qtrN (j.fmod 4).toNat)))) := by
    rintro j r ⟨t', p', j', e, rfl⟩
    obtain ⟨e1, e2⟩ := pieceD_inj (List.cons.inj e).1
    have e3 := D.int.inj (List.cons.inj (List.cons.inj e).2).1
    rw [← e1, ← e2, ← e3]
  refine ws_seq (ws_if (wt_test (we_op (we_var rfl (we_int (ro_eqI ⟨_, rfl, ite2 (fun h2 => ?_) (fun h2 => ws_next ?_)⟩))))))
  · have w1 : wz = 1 := of_decide_eq_true h2
    refine ws_ret (we_gotO (R := fun d => d = pieceD CP t (heldP (p.map (List.map (qtrN (x.fmod 4).toNat))))) (Φ := False) XG (fun E => ?_) (fun d hd => fin _ (.inr (.inr (.inl ⟨w1, by rw [hd]; rfl⟩)))) fun hx => hx.elim)
    refine we_if (wt_test (we_op (we_var rfl (we_int (ro_eqI ⟨_, rfl, ite2 (fun _ => ?_) (fun _ => ?_)⟩)))))
    · exact we_meth (we_var (i := 0) (d := pieceD CP t p) rfl ⟨_, _, rfl, rfl, wa_cons (we_var rfl (wa_nil ⟨⟨x, pc, rfl⟩, fun r hr => tpost x r hr⟩))⟩)
    · exact we_methK (we_var (i := 0) (d := pieceD CP t p) rfl ⟨_, _, rfl, rfl, wa_cons (we_var rfl (wa_nil ⟨rfl, ⟨x, pc, rfl⟩, fun r hr => tpost x r hr⟩))⟩)
  refine ws_seq (ws_if (wt_test (we_op (we_var rfl (we_int (ro_eqI ⟨_, rfl, ite2 (fun h3 => ?_) (fun h3 => ws_next ?_)⟩))))))
  · have w2 : wz = 2 := of_decide_eq_true h3
    refine ws_ret (we_gotO (R := fun d => d = pieceD CP t (heldP (p.map (List.map (qtrN 1))))) (Φ := False) XG (fun E => ?_) (fun d hd => fin _ (.inr (.inr (.inr (.inl ⟨w2, by rw [hd]; rfl⟩))))) fun hx => hx.elim)
    exact we_methD (dd := [.int 1]) (fun _ => .cons (.int 1) .nil) (we_var (i := 0) (d := pieceD CP t p) rfl ⟨_, _, rfl, rfl, wa_nil ⟨⟨1, pc, rfl⟩, fun r hr => tpost 1 r hr⟩⟩)
  · have w3 : wz = 3 := by
      have a0 : ¬ wz = 0 := fun z => h1 (decide_eq_true z)
      have a1 : ¬ wz = 1 := fun z => h2 (decide_eq_true z)
      have a2 : ¬ wz = 2 := fun z => h3 (decide_eq_true z)
      omega
    refine ws_ret (we_gotO (R := fun d => d = pieceD CP t (heldP (p.map flP))) (Φ := False) XG (fun E => ?_) (fun d hd => fin _ (.inr (.inr (.inr (.inr ⟨w3, by rw [hd]; rfl⟩))))) fun hx => hx.elim)
    refine we_meth (we_var (i := 0) (d := pieceD CP t p) rfl ⟨_, _, rfl, rfl, wa_nil ⟨pc, ?_⟩⟩)
    rintro r ⟨t', p', e, rfl⟩
    obtain ⟨e1, e2⟩ := pieceD_inj (List.cons.inj e).1
    rw [← e1, ← e2]

end
/-! #### Fz -/
/-! ### parts as a piece holds them, led on -/
theorem rot_iff {ps qs : List Pr2} : Rot ps qs ↔ ∃ a b, ps = a ++ b ∧ qs = b ++ a := by
  constructor
  · rintro ⟨k, hk, rfl⟩
    exact ⟨ps.take k, ps.drop k, (List.take_append_drop k ps).symm, rfl⟩
  · rintro ⟨a, b, rfl, rfl⟩
    refine ⟨a.length, by rw [List.length_append]; omega, ?_⟩
    unfold rotn
    rw [List.drop_left, List.take_left]
theorem rot_symm {ps qs : List Pr2} (h : Rot ps qs) : Rot qs ps := by
  obtain ⟨a, b, rfl, rfl⟩ := rot_iff.mp h
  exact rot_iff.mpr ⟨b, a, rfl, rfl⟩
theorem rot_trans {ps qs rs : List Pr2} (h : Rot ps qs) (k : Rot qs rs) : Rot ps rs := by
  obtain ⟨a, b, rfl, rfl⟩ := rot_iff.mp h
  obtain ⟨c, d, e, rfl⟩ := rot_iff.mp k
  rcases List.append_eq_append_iff.mp e with ⟨x, rfl, rfl⟩ | ⟨x, rfl, rfl⟩
  · exact rot_iff.mpr ⟨x, d ++ b, List.append_assoc .., (List.append_assoc ..).symm⟩
  · exact rot_iff.mpr ⟨a ++ c, x, (List.append_assoc ..).symm, List.append_assoc ..⟩
/-- what leads rotations to rotations -/
def RotC (F : List Pr2 → List Pr2) : Prop := ∀ ps qs, Rot ps qs → Rot (F ps) (F qs)
theorem rotC_map (f : Pr2 → Pr2) : RotC (List.map f) := fun ps qs h => by
  obtain ⟨a, b, rfl, rfl⟩ := rot_iff.mp h
  exact rot_iff.mpr ⟨a.map f, b.map f, List.map_append, List.map_append⟩
theorem rotC_fl : RotC flP := fun ps qs h => by
  obtain ⟨a, b, rfl, rfl⟩ := rot_iff.mp h
  unfold flP
  exact rot_iff.mpr ⟨b.reverse.map flipP, a.reverse.map flipP, by rw [List.reverse_append, List.map_append], by rw [List.reverse_append, List.map_append]⟩
theorem told_same {ps qs : List Pr2} (ne : ps ≠ []) (nd : ps.Nodup) (h : Rot ps qs) : toldP qs = toldP ps :=
  told_rot (told_told ne nd) (rot_trans (rot_symm (rot_told ne)) h)
theorem held_map {n m : Int} {F : List Pr2 → List Pr2} {pss : List (List Pr2)} (r : RotC F) (g : Good n pss) (g' : Good m (pss.map F)) : heldP ((heldP pss).map F) = heldP (pss.map F) := by
  have e : ((pss.map toldP).map F).map toldP = (pss.map F).map toldP := by
    rw [List.map_map, List.map_map, List.map_map]
    refine List.map_congr_left fun p hp => ?_
    have hm : F p ∈ pss.map F := List.mem_map.mpr ⟨p, hp, rfl⟩
    exact told_same (g'.nil _ hm) (g'.cv _ hm).nd (r _ _ (rot_told (g.nil p hp)))
  unfold heldP
  rw [← e]
  exact sortP_of (((sortP_perm (pss.map toldP)).map F).map toldP)
theorem mem_held {n : Int} {pss : List (List Pr2)} (g : Good n pss) {S : Pr2 → Prop} (h : ∀ ps ∈ pss, ∀ p ∈ ps, S p) : ∀ ps ∈ heldP pss, ∀ p ∈ ps, S p := fun ps hp p hm => by
  have h1 := (sortP_perm _).mem_iff.mp hp
  obtain ⟨q, hq, rfl⟩ := List.mem_map.mp h1
  exact h q hq p (((rot_told (g.nil q hq)).sam.c p).mp hm)
/-! ### four quarters, two mirrors, there and back -/
theorem qtr_qtr (ps : List Pr2) (a b : Nat) : (ps.map (qtrN a)).map (qtrN b) = ps.map (qtrN (b + a)) := by
  rw [List.map_map]
  refine List.map_congr_left fun p _ => ?_
  show qtrN b (qtrN a p) = qtrN (b + a) p
  induction b with
  | zero => rw [Nat.zero_add]; rfl
  | succ b ih => rw [Nat.succ_add]; show qtrP (qtrN b (qtrN a p)) = qtrP (qtrN (b + a) p); rw [ih]
theorem qtr4 (p : Pr2) : qtrN 4 p = p := by
  show qtrP (qtrP (qtrP (qtrP p))) = p
  unfold qtrP
  dsimp only
  exact Prod.ext (by dsimp only; omega) (by dsimp only; omega)
theorem fl_fl (ps : List Pr2) : flP (flP ps) = ps := by
  unfold flP
  rw [← List.map_reverse, List.reverse_reverse, List.map_map]
  conv => rhs; rw [← List.map_id ps]
  refine List.map_congr_left fun p _ => ?_
  show flipP (flipP p) = p
  unfold flipP
  exact Prod.ext (by dsimp only; omega) rfl
theorem sent_back (x y : Int) (ps : List Pr2) : (ps.map (sentP x y)).map (sentP (0 - x) (0 - y)) = ps := by
  rw [List.map_map]
  conv => rhs; rw [← List.map_id ps]
  refine List.map_congr_left fun p _ => ?_
  show sentP (0 - x) (0 - y) (sentP x y p) = p
  unfold sentP
  exact Prod.ext (by dsimp only; omega) (by dsimp only; omega)
theorem Good.qtr {n : Int} {pss : List (List Pr2)} (g : Good n pss) (k : Nat) : Good n (pss.map (List.map (qtrN k))) := Good.map (stiff_qtrN k) (fun p h => upto_qtrN h k) g
theorem held_qtr {n : Int} {pss : List (List Pr2)} (g : Good n pss) (a b : Nat) : heldP ((heldP (pss.map (List.map (qtrN a)))).map (List.map (qtrN b))) = heldP (pss.map (List.map (qtrN (b + a)))) := by
  have h := g.qtr a
  rw [held_map (rotC_map _) h (h.qtr b), List.map_map]
  congr 1
  congr 1
  funext ps
  exact qtr_qtr ps a b
theorem map_qtr4 (pss : List (List Pr2)) : pss.map (List.map (qtrN 4)) = pss := by
  conv => rhs; rw [← List.map_id pss]
  refine List.map_congr_left fun ps _ => ?_
  show ps.map (qtrN 4) = ps
  conv => rhs; rw [← List.map_id ps]
  exact List.map_congr_left fun p _ => qtr4 p
theorem held4 {n : Int} {pss : List (List Pr2)} (g : Laid n pss) : heldP (pss.map (List.map (qtrN 4))) = pss := by
  rw [map_qtr4]
  exact g.self
theorem held_fl {n : Int} {pss : List (List Pr2)} (g : Laid n pss) : heldP ((heldP (pss.map flP)).map flP) = pss := by
  have e : (pss.map flP).map flP = pss := by
    rw [List.map_map]
    conv => rhs; rw [← List.map_id pss]
    exact List.map_congr_left fun ps _ => fl_fl ps
  rw [held_map rotC_fl g.g.fl (by rw [e]; exact g.g), e]
  exact g.self
theorem map_back (x y : Int) (pss : List (List Pr2)) : (pss.map (List.map (sentP x y))).map (List.map (sentP (0 - x) (0 - y))) = pss := by
  rw [List.map_map]
  conv => rhs; rw [← List.map_id pss]
  exact List.map_congr_left fun ps _ => sent_back x y ps
theorem held_back {n m : Int} {pss : List (List Pr2)} {x y : Int} (g : Laid n pss) (h : Good m (pss.map (List.map (sentP x y)))) : heldP ((heldP (pss.map (List.map (sentP x y)))).map (List.map (sentP (0 - x) (0 - y)))) = pss := by
  rw [held_map (rotC_map _) h (by rw [map_back]; exact g.g), map_back]
  exact g.self
theorem up_back {n m : Int} {pss : List (List Pr2)} {x y : Int} (g : Laid n pss) (h : Good m (pss.map (List.map (sentP x y)))) : ∀ ps ∈ heldP (pss.map (List.map (sentP x y))), ∀ p ∈ ps, Upto n (sentP (0 - x) (0 - y) p) := by
  refine mem_held h fun ps hp p hm => ?_
  obtain ⟨q, hq, rfl⟩ := List.mem_map.mp hp
  obtain ⟨c, hc, rfl⟩ := List.mem_map.mp hm
  have e : sentP (0 - x) (0 - y) (sentP x y c) = c := by unfold sentP; exact Prod.ext (by dsimp only; omega) (by dsimp only; omega)
  rw [e]
  exact g.g.up q hq c hc
/-! ### the area stays -/
theorem sumP {l m : List Int} (h : l.Perm m) : l.sum = m.sum := by
  induction h with
  | nil => rfl
  | cons x _ ih => rw [List.sum_cons, List.sum_cons, ih]
  | swap x y l => rw [List.sum_cons, List.sum_cons, List.sum_cons, List.sum_cons]; omega
  | trans _ _ h1 h2 => rw [h1, h2]
theorem edg_fst (ps : List Pr2) : (edg ps).map Prod.fst = ps := by
  unfold edg
  rw [List.map_map]
  refine List.ext_getElem (by rw [List.length_map, List.length_range]) fun i h1 h2 => ?_
  rw [List.getElem_map, List.getElem_range]
  show ps.getD i (0, 0) = ps[i]
  exact gD h2
theorem edg_nd {ps : List Pr2} (h : ps.Nodup) : (edg ps).Nodup := by
  rw [← edg_fst ps] at h
  exact (List.pairwise_map.mp h).imp fun hne e => hne (by rw [e])
theorem edg_snd (ps : List Pr2) : ((edg ps).map Prod.snd).Perm ps := by
  have e : (edg ps).map Prod.snd = rotn ps 1 := by
    unfold edg
    rw [List.map_map]
    refine List.ext_getElem (by rw [List.length_map, List.length_range, rotn_len]) fun i h1 h2 => ?_
    have hi : i < ps.length := by rw [rotn_len] at h2; exact h2
    have hm : (i + 1) % ps.length < ps.length := Nat.mod_lt _ (by omega)
    rw [List.getElem_map, List.getElem_range]
    show ps.getD ((i + 1) % ps.length) (0, 0) = _
    rw [gD hm]
    have := rotn_at (ps := ps) (k := 1) (by omega) hi
    rw [List.getElem?_eq_getElem h2, List.getElem?_eq_getElem hm] at this
    exact (Option.some.inj this).symm
  rw [e]
  unfold rotn
  refine List.Perm.trans List.perm_append_comm ?_
  rw [List.take_append_drop]
theorem area_perm {ps qs : List Pr2} {f : Pr2 × Pr2 → Pr2 × Pr2} (hf : ∀ e, crs (f e).1 (f e).2 = crs e.1 e.2) (hi : ∀ a b, f a = f b → a = b) (np : ps.Nodup) (nq : qs.Nodup) (h : ∀ x, x ∈ edg qs ↔ ∃ e ∈ edg ps, x = f e) : areaP qs = areaP ps := by
  have hp : (edg qs).Perm ((edg ps).map f) := (List.perm_ext_iff_of_nodup (edg_nd nq) (List.pairwise_map.mpr ((edg_nd np).imp fun hne e => hne (hi _ _ e)))).mpr fun x => by
    rw [h, List.mem_map]
    exact ⟨fun ⟨e, he, z⟩ => ⟨e, he, z.symm⟩, fun ⟨e, he, z⟩ => ⟨e, he, z.symm⟩⟩
  unfold areaP
  rw [sumP (hp.map fun e => crs e.1 e.2), List.map_map]
  congr 1
  exact List.map_congr_left fun e _ => hf e
theorem area_rot {ps qs : List Pr2} (np : ps.Nodup) (r : Rot ps qs) : areaP qs = areaP ps := by
  have nq : qs.Nodup := by
    obtain ⟨a, b, rfl, rfl⟩ := rot_iff.mp r
    exact (List.Perm.nodup_iff List.perm_append_comm).mp np
  exact area_perm (f := id) (fun _ => rfl) (fun _ _ e => e) np nq fun x => by
    rw [r.sam.e]
    exact ⟨fun z => ⟨x, z, rfl⟩, fun ⟨e, z, w⟩ => by rw [w]; exact z⟩
theorem area_fl {ps : List Pr2} (np : ps.Nodup) : areaP (flP ps) = areaP ps := by
  refine area_perm (f := fun e => (flipP e.2, flipP e.1)) (fun e => ?_) (fun a b e => ?_) np ?_ fun x => mem_edg_fl
  · unfold crs flipP; dsimp only; grind
  · exact Prod.ext (flip_inj (Prod.mk.inj e).2) (flip_inj (Prod.mk.inj e).1)
  · unfold flP
    exact List.pairwise_map.mpr (((List.Perm.nodup_iff (List.reverse_perm ps)).mpr np).imp fun hne e => hne (flip_inj e))
theorem area_pt {f : Pr2 → Pr2} (hf : ∀ a b, crs (f a) (f b) = crs a b) (ps : List Pr2) : areaP (ps.map f) = areaP ps := by
  unfold areaP
  rw [edg_map, List.map_map]
  congr 1
  exact List.map_congr_left fun e _ => hf e.1 e.2
theorem crs_qtr (a b : Pr2) : ∀ k, crs (qtrN k a) (qtrN k b) = crs a b
  | 0 => rfl
  | k + 1 => by
    rw [← crs_qtr a b k]
    show crs (qtrP (qtrN k a)) (qtrP (qtrN k b)) = _
    generalize qtrN k a = c
    generalize qtrN k b = d
    unfold crs qtrP
    dsimp only
    grind
theorem sum_add {α : Type} (l : List α) (f g : α → Int) : (l.map fun e => f e + g e).sum = (l.map f).sum + (l.map g).sum := by
  induction l with
  | nil => rfl
  | cons a l ih => rw [List.map_cons, List.sum_cons, List.map_cons, List.sum_cons, List.map_cons, List.sum_cons, ih]; omega
theorem sum_mul {α : Type} (l : List α) (f : α → Int) (c : Int) : (l.map fun e => c * f e).sum = c * (l.map f).sum := by
  induction l with
  | nil => rw [List.map_nil, List.map_nil]; show (0 : Int) = c * 0; rw [Int.mul_zero]
  | cons a l ih => rw [List.map_cons, List.sum_cons, List.map_cons, List.sum_cons, ih, Int.mul_add]
theorem area_sent (x y : Int) (ps : List Pr2) : areaP (ps.map (sentP x y)) = areaP ps := by
  unfold areaP
  rw [edg_map, List.map_map]
  have e : ((fun e : Pr2 × Pr2 => crs e.1 e.2) ∘ fun e : Pr2 × Pr2 => (sentP x y e.1, sentP x y e.2)) = fun e => crs e.1 e.2 + ((y * e.1.1 + (-y) * e.2.1) + (x * e.2.2 + (-x) * e.1.2)) := by
    funext e
    show crs (sentP x y e.1) (sentP x y e.2) = _
    unfold crs sentP
    dsimp only
    grind
  rw [e, sum_add, sum_add, sum_add, sum_add, sum_mul, sum_mul, sum_mul, sum_mul]
  have k1 : ∀ f : Pr2 → Int, ((edg ps).map fun e => f e.1).sum = (ps.map f).sum := fun f => by
    conv => rhs; rw [← edg_fst ps, List.map_map]
    rfl
  have k2 : ∀ f : Pr2 → Int, ((edg ps).map fun e => f e.2).sum = (ps.map f).sum := fun f => by
    rw [← sumP ((edg_snd ps).map f), List.map_map]
    rfl
  rw [k1 (fun p => p.1), k1 (fun p => p.2), k2 (fun p => p.1), k2 (fun p => p.2)]
  generalize (ps.map fun p => p.1).sum = s
  generalize (ps.map fun p => p.2).sum = t
  grind
theorem area_held {n m : Int} {F : List Pr2 → List Pr2} {pss : List (List Pr2)} (g : Good n pss) (g' : Good m (pss.map F)) (h : ∀ ps ∈ pss, areaP (F ps) = areaP ps) : ((heldP (pss.map F)).map areaP).sum = (pss.map areaP).sum := by
  unfold heldP
  rw [sumP ((sortP_perm _).map areaP), List.map_map, List.map_map]
  congr 1
  refine List.map_congr_left fun p hp => ?_
  have hm : F p ∈ pss.map F := List.mem_map.mpr ⟨p, hp, rfl⟩
  show areaP (toldP (F p)) = areaP p
  rw [area_rot (g'.cv _ hm).nd (rot_told (g'.nil _ hm))]
  exact h p hp
/-! #### Fsa -/
section
variable {P : Program} {w : World} {K : PySem.W.Frag} {mg : Str → Option Value} {base : Heap}
/-! ### fs -/
/-! ### helpers of the law -/
abbrev s__law_flipped : Stmt := topS 65
abbrev N__law_flipped : List Str := ["_law_poly", "_law_c"]
theorem sc__law_flipped : FnScope N__law_flipped ["_law_poly"] (defScope s__law_flipped) := ⟨rfl, rfl, rfl, by decide +kernel, rfl, by decide +kernel, by decide +kernel⟩
abbrev ClFlp (P : Program) (w : World) (K : PySem.W.Frag) (mg : Str → Option Value) (base : Heap) (k : Nat) := Cl P w K mg base k "_law_flipped" s__law_flipped ["_law_poly"] (SpD K (polyPre 100) fun ds r => ∃ ps : List Pr2, ds = [polyD ps] ∧ r = polyD (flP ps))
theorem ok__law_flipped {k : Nat} (G : Gn mg) (F : Df K mg "_law_flipped" s__law_flipped) : ClFlp P w K mg base (k + 1) := by
  refine cl_of F sc__law_flipped (fun _ _ _ _ _ _ us hl => match us, hl with | [_], _ => rfl) p1_len fun f cdv A outer s H E hr => ⟨_, (pss_one (ps_ret (by exact pe_backT (pe_callTy (show CallR _ (.type "tuple") (zOf K) from call_tupZ) (by rfl) G.g_tuple (by decide +kernel) (pa_cons (pe_lc (own := [("_law_c", 1)]) (g := gName 1) (tt := tYes) rfl sc__law_flipped.nd (pi_tup (pv 0)) (blkOk_by (N := N__law_flipped) (sc := defScope s__law_flipped) (by decide +kernel)) (fun _ _ _ _ _ => pg_name (i := 1) sc__law_flipped.nd rfl (Or.inl rfl)) (fun _ _ _ _ _ => pts_nil) (fun _ _ _ _ _ => (pe_tupZ (pa_cons (pe_op op_sub pe_int (pe_ix (show IxR _ (rIxT K) from ix_tup) (pv 1) pe_int (fun _ _ => rfl))) (pa_cons (pe_ix (show IxR _ (rIxT K) from ix_tup) (pv 1) pe_int (fun _ _ => rfl)) pa_nil))))) pa_nil))))), fun B ds hp => ?_⟩
  obtain ⟨_, rfl, ps, rfl, hl⟩ := p1_ex hp
  show WS K B _ [.val (polyD ps), .no] _
  try dsimp only [cxOf, Cx.nox, Cx.blk]
  refine ws_ret (we_backT (we_cb (wa_cons (we_lcA (xs := ps) Dl.pairD (fun p => Dl.pairD (flipP p)) (by omega) (wi_tup (we_var rfl ⟨_, rfl, rfl⟩)) (fun p hm => ?_) (wa_nil (rc_tupZ ⟨_, rfl, ps, rfl, ?_⟩))))))
  · try dsimp only [List.set]
    refine we_tup (wa_cons (we_op (we_int (we_op (we_var rfl (we_int (ix0 (ro_int0 (wa_cons (we_op (we_var rfl (we_int (ix1 (wa_nil ⟨by show 2 ≤ 1000; decide, ?_⟩))))))))))))))
    show D.tup [.int (0 - p.1), .int p.2] = _
    rw [Int.zero_sub]
    rfl
  · unfold polyD flP
    rw [← List.map_reverse, List.map_map]
    rfl
abbrev s__law_inside : Stmt := topS 73
abbrev N__law_inside : List Str := ["_law_spots", "_law_spot"]
theorem sc__law_inside : FnScope N__law_inside ["_law_spots"] (defScope s__law_inside) := ⟨rfl, rfl, rfl, by decide +kernel, rfl, by decide +kernel, by decide +kernel⟩
def insPost : List D → D → Prop := fun ds r => ∃ qs : List Pr2, ds = [.lst (qs.map Dl.pairD)] ∧ r = .bl (qs.all fun p => isBnd 200 (Dl.pairD p))
abbrev ClIns (P : Program) (w : World) (K : PySem.W.Frag) (mg : Str → Option Value) (base : Heap) (k : Nat) := Cl P w K mg base k "_law_inside" s__law_inside ["_law_spots"] (SpD K (p1 fun d => ∃ qs : List Pr2, d = .lst (qs.map Dl.pairD) ∧ qs.length ≤ 1000) insPost)
theorem ok__law_inside {k : Nat} (G : Gn mg) (F : Df K mg "_law_inside" s__law_inside) (C__law_is_spot : ClB P w K mg base k "_law_is_spot" s__law_is_spot "_law_x" (isBnd 200)) : ClIns P w K mg base (k + 1) := by
  refine cl_of F sc__law_inside (fun _ _ _ _ _ _ us hl => match us, hl with | [_], _ => rfl) p1_len fun f cdv A outer s H E hr => ⟨_, (pss_one (ps_ret (pe_callB (cr_all rfl) (by rfl) G.g_all (by decide +kernel) (pa_cons (pe_lc (own := [("_law_spot", 1)]) (g := gName 1) (tt := tYes) rfl sc__law_inside.nd (pi_list (pv 0)) (blkOk_by (N := N__law_inside) (sc := defScope s__law_inside) (by decide +kernel)) (fun _ _ _ _ _ => pg_name (i := 1) sc__law_inside.nd rfl (Or.inl rfl)) (fun _ _ _ _ _ => pts_nil) (fun _ _ _ _ _ => (pe_c C__law_is_spot hr (by omega) (by rfl) (pa_cons (pv 1) pa_nil)))) pa_nil)))), fun B ds hp => ?_⟩
  obtain ⟨_, rfl, qs, rfl, hl⟩ := p1_ex hp
  show WS K B _ [.val (.lst (qs.map Dl.pairD)), .no] _
  try dsimp only [cxOf, Cx.nox, Cx.blk]
  refine ws_ret (we_cb (wa_cons (we_lcA (xs := qs) Dl.pairD (fun p => .bl (isBnd 200 (Dl.pairD p))) hl (wi_list (we_var rfl ⟨_, rfl, rfl⟩)) (fun p hm => ?_) ?_)))
  · try dsimp only [List.set]
    refine we_call (wa_cons (we_var (d := Dl.pairD p) rfl (wa_nil ⟨rfl, ?_⟩)))
    rintro _ rfl
    rfl
  · rw [show qs.map (fun p => D.bl (isBnd 200 (Dl.pairD p))) = (qs.map fun p => isBnd 200 (Dl.pairD p)).map D.bl by rw [List.map_map]; rfl]
    refine wa_nil (rc_all ⟨qs, rfl, ?_⟩)
    rw [List.all_map]
    rfl
abbrev s__law_all_spots : Stmt := topS 74
abbrev N__law_all_spots : List Str := ["_law_polys", "_law_found", "_law_p"]
theorem sc__law_all_spots : FnScope N__law_all_spots ["_law_polys"] (defScope s__law_all_spots) := ⟨rfl, rfl, rfl, by decide +kernel, rfl, by decide +kernel, by decide +kernel⟩
def aspPost : List D → D → Prop := fun ds r => ∃ pss : List (List Pr2), ds = [partsD pss] ∧ r = .lst (pss.flatten.map Dl.pairD)
theorem flat_len : ∀ {pss : List (List Pr2)}, (∀ ps ∈ pss, ps.length ≤ 6) → pss.flatten.length ≤ 6 * pss.length
  | [], _ => Nat.zero_le _
  | ps :: pss, h => by
    have h1 := h ps List.mem_cons_self
    have h2 := flat_len (pss := pss) fun q hq => h q (List.mem_cons_of_mem _ hq)
    rw [List.flatten_cons, List.length_append, List.length_cons]
    omega
abbrev ClAsp (P : Program) (w : World) (K : PySem.W.Frag) (mg : Str → Option Value) (base : Heap) (k : Nat) := Cl P w K mg base k "_law_all_spots" s__law_all_spots ["_law_polys"] (SpD K (p1 fun d => ∃ pss : List (List Pr2), d = partsD pss ∧ pss.length ≤ 4 ∧ ∀ ps ∈ pss, ps.length ≤ 6) aspPost)
theorem ok__law_all_spots {k : Nat} (G : Gn mg) (F : Df K mg "_law_all_spots" s__law_all_spots) : ClAsp P w K mg base (k + 1) := by
  refine cl_of F sc__law_all_spots (fun _ _ _ _ _ _ us hl => match us, hl with | [_], _ => rfl) p1_len fun f cdv A outer s H E hr => ⟨_, (pss_cons (ps_set (i := 1) sc__law_all_spots.nd rfl (Or.inl rfl) (pe_lst pa_nil))
      (pss_cons (ps_for PassesOwn.never rfl (pi_list (pv 0)) (pg_name (i := 2) sc__law_all_spots.nd rfl (Or.inl rfl)) (pss_one (ps_set (i := 1) sc__law_all_spots.nd rfl (Or.inl rfl) (pe_op op_cat (pv 1) (pe_callTy call_list_of (by rfl) G.g_list (by decide +kernel) (pa_cons (pv 2) pa_nil))))))
      (pss_one (ps_ret (pv 1))))), fun B ds hp => ?_⟩
  obtain ⟨_, rfl, pss, rfl, hl, h6⟩ := p1_ex hp
  show WS K B _ [.val (partsD pss), .no, .no] _
  try dsimp only [cxOf, Cx.nox, Cx.blk]
  refine ws_seq (ws_set (we_lst (wa_nil ⟨by decide, ?_⟩)))
  try dsimp only [List.set]
  refine ws_seq (ws_for (wi_list (we_var rfl ⟨_, rfl, fun n δ1 => ∃ y, δ1 = [.val (partsD pss), .val (.lst ((pss.take n).flatten.map Dl.pairD)), y], ⟨_, rfl⟩, ?_, ?_⟩)))
  · rintro n d δ1 hd ⟨y, rfl⟩
    rw [List.getElem?_map] at hd
    obtain ⟨q, hq, rfl⟩ : ∃ q, pss[n]? = some q ∧ polyD q = d := by
      cases e : pss[n]? with
      | none => rw [e] at hd; cases hd
      | some q => rw [e] at hd; exact ⟨q, rfl, Option.some.inj hd⟩
    have hm := List.mem_of_getElem? hq
    have l1 := flat_len (pss := pss.take n) fun p hp => h6 p (List.mem_of_mem_take hp)
    have l2 := h6 q hm
    have l3 : (pss.take n).length ≤ 4 := by rw [List.length_take]; omega
    try dsimp only [List.set]
    refine ws_set (we_op (we_var rfl (we_cb (wa_cons (we_var (d := polyD q) rfl (wa_nil (rc_listOf (ro_cat ?_ ?_)).2))))))
    · rw [List.length_map, List.length_map]; omega
    · try dsimp only [List.set]
      refine ⟨.val (polyD q), ?_⟩
      rw [List.take_add_one, hq, List.flatten_append, List.map_append]
      show _ = [Sd.val (partsD pss), .val (.lst ((pss.take n).flatten.map Dl.pairD ++ ([q].flatten).map Dl.pairD)), _]
      rw [List.flatten_cons, List.flatten_nil, List.append_nil]
  · rintro δ1 ⟨y, rfl⟩
    rw [List.length_map, List.take_length]
    exact ws_ret (we_var rfl ⟨pss, rfl, rfl⟩)
abbrev s__law_move : Stmt := topS 75
abbrev N__law_move : List Str := ["_law_box_here", "_law_polys", "_law_near", "_law_hull_here", "_law_more"]
theorem sc__law_move : FnScope N__law_move ["_law_box_here", "_law_polys"] (defScope s__law_move) := ⟨rfl, rfl, rfl, by decide +kernel, rfl, by decide +kernel, by decide +kernel⟩
abbrev ClMov (P : Program) (w : World) (K : PySem.W.Frag) (mg : Str → Option Value) (base : Heap) (k : Nat) := Cl P w K mg base k "_law_move" s__law_move ["_law_box_here", "_law_polys"] (SpD K (p2 fun b d => b = .box ∧ ∃ pss : List (List Pr2), d = partsD pss ∧ Good 200 pss) fun _ r => ∃ x y : Int, r = .tup [.int x, .int y])
theorem ok__law_move {k : Nat} (G : Gn mg) (F : Df K mg "_law_move" s__law_move) (C__law_take : ClT P w K mg base k) (C__law_hull : ClHu P w K mg base k) (C__law_pick : ClP P w K mg base k) : ClMov P w K mg base (k + 1) := by
  refine cl_of F sc__law_move (fun _ _ _ _ _ _ us hl => match us, hl with | [_, _], _ => rfl) p2_len fun f cdv A outer s H E hr => ⟨_, (pss_cons (ps_par (i := 3) (j := 4) (by rfl) sc__law_move.nd rfl rfl (by decide) rfl rfl (pa_cons (pe_c C__law_hull hr (by omega) (by rfl) (pa_cons (pv 1) pa_nil)) (pa_cons (pe_c C__law_take hr (by omega) (by rfl) (pa_cons (pv 0) (pa_cons pe_int pa_nil))) pa_nil)) (by rfl))
      (pss_cons (ps_set (i := 2) sc__law_move.nd rfl (Or.inl rfl) (pe_tupZ (pa_cons (pe_op op_sub (pe_c C__law_take hr (by omega) (by rfl) (pa_cons (pv 0) (pa_cons pe_int pa_nil))) pe_int) (pa_cons (pe_op op_sub (pe_c C__law_take hr (by omega) (by rfl) (pa_cons (pv 0) (pa_cons pe_int pa_nil))) pe_int) pa_nil))))
      (pss_one (ps_ret (pe_c C__law_pick hr (by omega) (by rfl) (pa_cons (pv 0) (pa_cons (pe_lst (pa_cons (pv 2) (pa_cons (pv 2) (pa_cons (pe_tupZ (pa_cons (pe_op op_add (pe_op op_sub pe_int (pe_ix (show IxR _ (rIxT K) from ix_tup) (pv 3) pe_int (fun _ _ => rfl))) (pv 4)) (pa_cons (pe_ix (show IxR _ (rIxT K) from ix_tup) (pv 2) pe_int (fun _ _ => rfl)) pa_nil))) (pa_cons (pe_tupZ (pa_cons (pe_op op_sub (pe_op op_sub (pe_un un_neg pe_int) (pe_ix (show IxR _ (rIxT K) from ix_tup) (pv 3) pe_int (fun _ _ => rfl))) (pv 4)) (pa_cons (pe_ix (show IxR _ (rIxT K) from ix_tup) (pv 2) pe_int (fun _ _ => rfl)) pa_nil))) (pa_cons (pe_tupZ (pa_cons (pe_ix (show IxR _ (rIxT K) from ix_tup) (pv 2) pe_int (fun _ _ => rfl)) (pa_cons (pe_op op_add (pe_op op_sub pe_int (pe_ix (show IxR _ (rIxT K) from ix_tup) (pv 3) pe_int (fun _ _ => rfl))) (pv 4)) pa_nil))) (pa_cons (pe_tupZ (pa_cons (pe_ix (show IxR _ (rIxT K) from ix_tup) (pv 2) pe_int (fun _ _ => rfl)) (pa_cons (pe_op op_sub (pe_op op_sub (pe_un un_neg pe_int) (pe_ix (show IxR _ (rIxT K) from ix_tup) (pv 3) pe_int (fun _ _ => rfl))) (pv 4)) pa_nil))) (pa_cons (pe_tupZ (pa_cons pe_int (pa_cons pe_int pa_nil))) (pa_cons (pe_tupZ (pa_cons (pe_op op_sub (pe_op op_pow pe_int pe_int) pe_int) (pa_cons pe_int pa_nil))) (pa_cons (pe_tupZ (pa_cons pe_int (pa_cons (pe_op op_sub pe_int (pe_op op_pow pe_int pe_int)) pa_nil))) pa_nil)))))))))) pa_nil))))))), fun B ds hp => ?_⟩
  obtain ⟨_, _, rfl, rfl, pss, rfl, g⟩ := p2_ex hp
  show WS K B _ [.val .box, .val (partsD pss), .no, .no, .no] _
  try dsimp only [cxOf, Cx.nox, Cx.blk]
  refine ws_seq (ws_par (wa_cons (we_call (wa_cons (we_var (d := partsD pss) rfl (wa_nil ⟨⟨pss, rfl, g⟩, ?_⟩))))))
  rintro _ ⟨pss', a, b, c, d, e, rfl, hu⟩
  clear hu e
  refine wa_cons (we_call (wa_cons (we_var rfl (wa_cons (we_int (wa_nil ⟨⟨rfl, _, rfl, by decide, by decide⟩, ?_⟩))))))
  rintro _ ⟨n, m, e, rfl, h0, h1⟩
  cases e
  refine wa_nil ⟨_, _, rfl, ?_⟩
  try dsimp only [List.set]
  refine ws_seq (ws_set (we_tup (wa_cons (we_op (we_call (wa_cons (we_var rfl (wa_cons (we_int (wa_nil ⟨⟨rfl, _, rfl, by decide, by decide⟩, ?_⟩))))))))))
  rintro _ ⟨n, x, e, rfl, hx0, hx1⟩
  cases e
  refine we_int (ro_int0 (wa_cons (we_op (we_call (wa_cons (we_var rfl (wa_cons (we_int (wa_nil ⟨⟨rfl, _, rfl, by decide, by decide⟩, ?_⟩)))))))))
  rintro _ ⟨n, y, e, rfl, hy0, hy1⟩
  cases e
  refine we_int (ro_int0 (wa_nil ⟨by show 2 ≤ 1000; decide, ?_⟩))
  try dsimp only [List.set]
  have at0 : ∀ {p q r z : Int}, atI [D.int p, .int q, .int r, .int z] 0 = some (.int p) := rfl
  have at1 : ∀ {p q r z : Int}, atI [D.int p, .int q, .int r, .int z] 1 = some (.int q) := rfl
  have at2 : ∀ {p q r z : Int}, atI [D.int p, .int q, .int r, .int z] 2 = some (.int r) := rfl
  have at3 : ∀ {p q r z : Int}, atI [D.int p, .int q, .int r, .int z] 3 = some (.int z) := rfl
  have bt0 : ∀ {p q : Int}, atI [D.int p, .int q] 0 = some (.int p) := rfl
  have bt1 : ∀ {p q : Int}, atI [D.int p, .int q] 1 = some (.int q) := rfl
  refine ws_ret (we_call (wa_cons (we_var rfl (wa_cons (we_lst (wax_mono (P := AllN (fun d => ∃ x y : Int, d = .tup [.int x, .int y]) 9) ?_ fun ds q => ⟨by rw [q.1]; decide, wa_nil ⟨⟨rfl, _, rfl, by rw [q.1]; decide, by rw [q.1]; decide⟩, ?_⟩⟩))))))
  · refine wa_all (we_var rfl ⟨_, _, rfl⟩) (wa_all (we_var rfl ⟨_, _, rfl⟩) (wa_all ?_ (wa_all ?_ (wa_all ?_ (wa_all ?_ (wa_all ?_ (wa_all ?_ (wa_all ?_ wa_all0))))))))
    all_goals (repeat first | walk_at "dl" | refine ro_ixT at0 ?_ | refine ro_ixT at1 ?_ | refine ro_ixT at2 ?_ | refine ro_ixT at3 ?_ | refine ro_ixT bt0 ?_ | refine ro_ixT bt1 ?_ | refine ro_int (C := CPow) ⟨by decide, by decide, by decide⟩ ?_)
    all_goals exact ⟨_, _, rfl⟩
  · rintro r ⟨_, e, hm⟩
    cases e
    exact q.2 _ hm

end
/-! #### Fsb -/
section
variable {P : Program} {w : World} {K : PySem.W.Frag} {mg : Str → Option Value} {base : Heap}
/-! ### ft8 -/
/-! ### _law_back_so -/
theorem clmz_quiet {k : Nat} {f : Addr} {fd : FuncData} {ps : List Str} {pre pre' : List D → Prop} {post : List D → D → Prop} {exc : List D → Addr → List Str → List D → Prop} (c : ClMz P w K mg base k f fd ps (SpX K pre post exc)) (h : ∀ ds, pre' ds → pre ds ∧ ∀ C ks es, ¬ exc ds C ks es) : ClM P w K mg base k f fd ps (SpD K pre' post) :=
  ⟨⟨fun vs H Q E ⟨B, G, ds, o, hs, p, q⟩ => c.ok.len vs H Q (fun _ _ _ => False) ⟨B, G, ds, o, hs, (h ds p).1, q, fun C d ks es _ _ _ _ _ z => (h ds p).2 C ks es z⟩,
    fun A outer s H args us vs Q E hr he hb hv ⟨B, G, ds, o, hs, p, q⟩ => codeAny_mono (c.ok.run A outer s H args us vs Q (fun _ _ _ => False) hr he hb hv ⟨B, G, ds, o, hs, (h ds p).1, q, fun C d ks es _ _ _ _ _ z => (h ds p).2 C ks es z⟩) fun r s' x => by
      cases r with
      | ok v => cases v <;> exact x
      | error e =>
        obtain ⟨_, _, _, _, _, _, _, _, _, _, _, _, z⟩ := x
        exact z.elim⟩, c.bn⟩
def mqPre (CP : Addr) : List D → Prop := fun ds => ∃ (t : Str) (p : List (List Pr2)) (x y : Int), ds = [pieceD CP t p, .int x, .int y] ∧ PcN CP (pieceD CP t p) ∧ InP p x y
theorem mq_quiet {CP C : Addr} (ds : List D) (h : mqPre CP ds) : mvPre CP ds ∧ ∀ C' ks es, ¬ mvExc CP C ds C' ks es := by
  obtain ⟨t, p, x, y, rfl, pc, hi⟩ := h
  refine ⟨⟨x, y, pc, rfl, rfl⟩, ?_⟩
  rintro C' ks es ⟨t', p', x', y', e, hn, _⟩
  obtain ⟨_, e2⟩ := pieceD_inj (List.cons.inj e).1
  have e3 := D.int.inj (List.cons.inj (List.cons.inj e).2).1
  have e4 := D.int.inj (List.cons.inj (List.cons.inj (List.cons.inj e).2).2).1
  subst e2 e3 e4
  exact hn hi
theorem in_all {pss : List (List Pr2)} {x y : Int} {b : Bool} (h : b = true ↔ InP pss x y) : ((pss.flatten.map (sentP x y)).all fun p => isBnd 200 (Dl.pairD p)) = b := by
  refine Bool.eq_iff_iff.mpr ?_
  rw [h, List.all_eq_true]
  constructor
  · intro z ps hp p hm
    exact bnd_iff.mp (z _ (List.mem_map.mpr ⟨p, List.mem_flatten.mpr ⟨ps, hp, hm⟩, rfl⟩))
  · intro z q hq
    obtain ⟨p, hp, rfl⟩ := List.mem_map.mp hq
    obtain ⟨ps, h1, h2⟩ := List.mem_flatten.mp hp
    exact bnd_iff.mpr (z ps h1 p h2)
abbrev eqSp (K : PySem.W.Frag) (CP : Addr) : Sp := SpD K (p2 fun d e => PcD CP d ∧ (PcD CP e ∨ (∃ z, e = .str z) ∨ ∃ es, e = .lst es)) (eqPost CP)
theorem tn_post {CP : Addr} {t : Str} {p : List (List Pr2)} (j : Int) (r : D) (h : tnPost CP [pieceD CP t p, .int j] r) : r = pieceD CP t (heldP (p.map (List.map (qtrN (j.fmod 4).toNat)))) := by
  obtain ⟨t', p', j', e, rfl⟩ := h
  obtain ⟨e1, e2⟩ := pieceD_inj (List.cons.inj e).1
  have e3 := D.int.inj (List.cons.inj (List.cons.inj e).2).1
  rw [← e1, ← e2, ← e3]
theorem mi_post {CP : Addr} {t : Str} {p : List (List Pr2)} (r : D) (h : miPost CP [pieceD CP t p] r) : r = pieceD CP t (heldP (p.map flP)) := by
  obtain ⟨t', p', e, rfl⟩ := h
  obtain ⟨e1, e2⟩ := pieceD_inj (List.cons.inj e).1
  rw [← e1, ← e2]
theorem mv_post {CP : Addr} {t : Str} {p : List (List Pr2)} {x y : Int} (r : D) (h : mvPost CP [pieceD CP t p, .int x, .int y] r) : r = pieceD CP t (heldP (p.map (List.map (sentP x y)))) := by
  obtain ⟨t', p', x', y', e, _, rfl⟩ := h
  obtain ⟨e1, e2⟩ := pieceD_inj (List.cons.inj e).1
  have e3 := D.int.inj (List.cons.inj (List.cons.inj e).2).1
  have e4 := D.int.inj (List.cons.inj (List.cons.inj (List.cons.inj e).2).2).1
  rw [← e1, ← e2, ← e3, ← e4]
abbrev s__law_back_so : Stmt := topS 77
abbrev N__law_back_so : List Str := ["_law_made", "_law_body", "_law_x", "_law_y", "_law_late", "_law_found", "_law_c"]
theorem sc__law_back_so : FnScope N__law_back_so ["_law_made", "_law_body", "_law_x", "_law_y"] (defScope s__law_back_so) := ⟨rfl, rfl, rfl, by decide +kernel, rfl, by decide +kernel, by decide +kernel⟩
abbrev ClBck (P : Program) (w : World) (K : PySem.W.Frag) (mg : Str → Option Value) (base : Heap) (CP : Addr) (k : Nat) := Cl P w K mg base k "_law_back_so" s__law_back_so ["_law_made", "_law_body", "_law_x", "_law_y"] (SpD K (fun ds => ∃ (t : Str) (p : List (List Pr2)) (x y : Int), ds = [pieceD CP t p, .tup [.str t, partsD p], .int x, .int y] ∧ Laid 200 p ∧ isName (.str t) = true ∧ t.length ≤ 1000) fun _ r => r = .bl true)
theorem ok__law_back_so {k : Nat} {CP CO fE fV fT fM : Addr} {dE dV dT dM : FuncData} (G : Gn mg) (MG : PcT K mg CP) (F : Df K mg "_law_back_so" s__law_back_so) (EQ : OwnEq K CP fE) (nfo : PySem.W.notFirst K CP (.ref CP) = true)
    (MV : Meth K CP "moved" fV) (MT : Meth K CP "turned" fT) (MM : Meth K CP "mirrored" fM) (CM_mv : ClMz P w K mg base k fV dV ["self", "right", "up"] (SpX K (mvPre CP) (mvPost CP) (mvExc CP CO)))
    (CM_tn : ClM P w K mg base k fT dT ["self", "quarters"] (SpD K (tnPre CP) (tnPost CP))) (B_tn : ∃ ds, Vals [V.int 1] ds ∧ Binds K dT ["self", "quarters"] ds) (CM_mi : ClM P w K mg base k fM dM ["self"] (SpD K (p1 (PcN CP)) (miPost CP)))
    (CM_eq : ClM P w K mg base k fE dE ["self", "other"] (eqSp K CP)) (C__law_same : ClS P w K mg base k 5) (C__law_inside : ClIns P w K mg base k) (C__law_all_spots : ClAsp P w K mg base k) : ClBck P w K mg base CP (k + 1) := by
  have CM_mq := clmz_quiet (pre' := mqPre CP) CM_mv mq_quiet
  obtain ⟨dsT, vT, bT⟩ := B_tn
  refine cl_of F sc__law_back_so (fun _ _ _ _ _ _ us hl => match us, hl with | [_, _, _, _], _ => rfl) (fun ds ⟨_, _, _, _, e, _⟩ => by rw [e]; rfl) fun f cdv A outer s H E hr => ⟨_, (pss_cons (ps_set (i := 4) sc__law_back_so.nd rfl (Or.inl rfl) (pe_meth0 (pe_meth0 (pe_meth0 (pe_meth0 (pv 0) MG.cl MT CM_tn.ok hr bT vT pass0) MG.cl MT CM_tn.ok hr bT vT pass0) MG.cl MT CM_tn.ok hr bT vT pass0) MG.cl MT CM_tn.ok hr bT vT pass0))
      (pss_cons (ps_set (i := 5) sc__law_back_so.nd rfl (Or.inl rfl) (pe_lst (pa_cons (pe_cmpR (op_oeq CM_eq.ok CM_eq.bn hr EQ) (pv 4) (pv 0) (nomark _)) (pa_cons (pe_cmpR (op_oeq CM_eq.ok CM_eq.bn hr EQ) (pe_meth0 (pe_meth0 (pv 0) MG.cl MM CM_mi.ok hr CM_mi.bn .nil pass0) MG.cl MM CM_mi.ok hr CM_mi.bn .nil pass0) (pv 0) (nomark _)) (pa_cons (pe_cmpR (op_oeq CM_eq.ok CM_eq.bn hr EQ) (pe_meth0 (pe_meth (pv 0) MG.cl MT CM_tn.ok hr CM_tn.bn .nil pass0 (pa_cons (pe_un un_neg pe_int) pa_nil)) MG.cl MT CM_tn.ok hr bT vT pass0) (pv 0) (nomark _)) (pa_cons (pe_cmpR (op_oeq CM_eq.ok CM_eq.bn hr EQ) (pe_meth (pv 0) MG.cl MT CM_tn.ok hr CM_tn.bn .nil pass0 (pa_cons pe_int pa_nil)) (pe_meth (pv 0) MG.cl MT CM_tn.ok hr CM_tn.bn .nil pass0 (pa_cons (pe_un un_neg pe_int) pa_nil)) (nomark _)) pa_nil))))))
      (pss_cons (ps_if (pt_not (pt_val (pe_c C__law_same hr (by omega) (by rfl) (pa_cons (pv 5) (pa_cons (pe_lst (pa_cons pe_bl (pa_cons pe_bl (pa_cons pe_bl (pa_cons pe_bl pa_nil))))) pa_nil))))) (pss_one (ps_ret pe_bl)) pss_nil)
      (pss_cons (ps_if (pt_val (pe_c C__law_inside hr (by omega) (by rfl) (pa_cons (pe_lc (own := [("_law_c", 6)]) (g := gName 6) (tt := tYes) rfl sc__law_back_so.nd (pi_list (pe_c C__law_all_spots hr (by omega) (by rfl) (pa_cons (pe_ix (show IxR _ (rIxT K) from ix_tup) (pv 1) pe_int (fun _ _ => rfl)) pa_nil))) (blkOk_by (N := N__law_back_so) (sc := defScope s__law_back_so) (by decide +kernel)) (fun _ _ _ _ _ => pg_name (i := 6) sc__law_back_so.nd rfl (Or.inl rfl)) (fun _ _ _ _ _ => pts_nil) (fun _ _ _ _ _ => (pe_tupZ (pa_cons (pe_op op_add (pe_ix (show IxR _ (rIxT K) from ix_tup) (pv 6) pe_int (fun _ _ => rfl)) (pv 2)) (pa_cons (pe_op op_add (pe_ix (show IxR _ (rIxT K) from ix_tup) (pv 6) pe_int (fun _ _ => rfl)) (pv 3)) pa_nil))))) pa_nil))) (pss_one (ps_ret (pe_cmpR (op_oeq CM_eq.ok CM_eq.bn hr EQ) (pe_meth (pe_meth (pv 0) MG.cl MV CM_mq.ok hr CM_mq.bn .nil pass0 (pa_cons (pv 2) (pa_cons (pv 3) pa_nil))) MG.cl MV CM_mq.ok hr CM_mq.bn .nil pass0 (pa_cons (pe_op op_sub pe_int (pv 2)) (pa_cons (pe_op op_sub pe_int (pv 3)) pa_nil))) (pv 0) (nomark _)))) pss_nil)
      (pss_one (ps_ret pe_bl)))))), fun B ds hp => ?_⟩
  obtain ⟨t, p, x, y, rfl, g, hn, hz⟩ := hp
  show WS K B _ [slP CP t p, .val (.tup [.str t, partsD p]), .val (.int x), .val (.int y), .no, .no, .no] _
  try dsimp only [cxOf, Cx.nox, Cx.blk]
  have pn : ∀ {q : List (List Pr2)}, Good 200 q → PcN CP (pieceD CP t q) := fun g => ⟨t, _, rfl, g, hn, hz⟩
  have pd : ∀ {q : List (List Pr2)}, Good 200 q → PcD CP (pieceD CP t q) := fun g => ⟨t, _, rfl, g, hz⟩
  have gq : ∀ {q : List (List Pr2)} (j : Nat), Good 200 q → Good 200 (heldP (q.map (List.map (qtrN j)))) := fun j g => (g.qtr j).held
  have t0 : ∀ {X : Xc} {δ : List Sd} {E : XK} {te : TE} {q : List (List Pr2)}, Good 200 q → WEx K B X te δ (· = pieceD CP t q) → WEx K B X (tMeth CP "turned" (SpD K (tnPre CP) (tnPost CP)) [V.int 1] E te tNil) δ (· = pieceD CP t (heldP (q.map (List.map (qtrN 1))))) := fun g h =>
    we_methD (dd := [.int 1]) (fun _ => .cons (.int 1) .nil) (wex_mono h fun d e => by subst e; exact ⟨_, _, rfl, rfl, wa_nil ⟨⟨1, pn g, rfl⟩, fun r hr => tn_post 1 r hr⟩⟩)
  have t1 : ∀ {X : Xc} {δ : List Sd} {E : XK} {te ti : TE} {j : Int} {q : List (List Pr2)}, Good 200 q → WEx K B X te δ (· = pieceD CP t q) → WEx K B X ti δ (· = .int j) → WEx K B X (tMeth CP "turned" (SpD K (tnPre CP) (tnPost CP)) [] E te (tCons ti tNil)) δ (· = pieceD CP t (heldP (q.map (List.map (qtrN (j.fmod 4).toNat))))) := fun g h hi =>
    we_meth (wex_mono h fun d e => by subst e; exact ⟨_, _, rfl, rfl, wa_cons (wex_mono hi fun d e => by subst e; exact wa_nil ⟨⟨_, pn g, rfl⟩, fun r hr => tn_post _ r hr⟩)⟩)
  have m0 : ∀ {X : Xc} {δ : List Sd} {E : XK} {te : TE} {q : List (List Pr2)}, Good 200 q → WEx K B X te δ (· = pieceD CP t q) → WEx K B X (tMeth CP "mirrored" (SpD K (p1 (PcN CP)) (miPost CP)) [] E te tNil) δ (· = pieceD CP t (heldP (q.map flP))) := fun g h =>
    we_meth (wex_mono h fun d e => by subst e; exact ⟨_, _, rfl, rfl, wa_nil ⟨pn g, fun r hr => mi_post r hr⟩⟩)
  have cmp : ∀ {X : Xc} {δ : List Sd} {te te2 : TE} {q q' : List (List Pr2)}, Good 200 q → q = q' → WEx K B X te δ (· = pieceD CP t q) → WEx K B X te2 δ (· = pieceD CP t q') → WEx K B X (tOp (rOeq K CP (eqSp K CP) false) te te2) δ (· = .bl true) := by
    intro X δ te te2 q q' hg hq h1 h2
    have ty : ∀ G H v, Ok B G H → Dd K B G v (pieceD CP t q') → TyX K H v (.ref CP) := fun G H v o h => by
      unfold pieceD at h
      generalize (["name", "_parts"] : List Str) = ks at h
      cases h with
      | obj hg _ => exact .base (MG.ty (o.u _ _ hg))
    refine we_op (wex_mono h1 fun d e => ?_)
    subst e
    refine wex_mono h2 fun d e => ?_
    subst e
    refine ro_oeq ⟨pd hg, .inl (pd (hq ▸ hg))⟩ ty nfo ?_
    rintro r (⟨a1, p1, a2, p2, e, rfl⟩ | ⟨d, e', e, (⟨z, h⟩ | ⟨es, h⟩), rfl⟩)
    · obtain ⟨c1, c2⟩ := pieceD_inj (List.cons.inj e).1
      obtain ⟨c3, c4⟩ := pieceD_inj (List.cons.inj (List.cons.inj e).2).1
      rw [← c1, ← c2, ← c3, ← c4, hq]
      exact ⟨_, rfl, by simp⟩
    · have := (List.cons.inj (List.cons.inj e).2).1
      rw [h] at this
      cases this
    · have := (List.cons.inj (List.cons.inj e).2).1
      rw [h] at this
      cases this
  have q4 : heldP ((heldP ((heldP ((heldP (p.map (List.map (qtrN 1)))).map (List.map (qtrN 1)))).map (List.map (qtrN 1)))).map (List.map (qtrN 1))) = p := by
    rw [held_qtr g.g, held_qtr g.g, held_qtr g.g]
    exact held4 g
  have q3 : heldP ((heldP (p.map (List.map (qtrN (Int.fmod (-1) 4).toNat)))).map (List.map (qtrN 1))) = p := by
    rw [held_qtr g.g]
    exact held4 g
  refine ws_seq (ws_set (wex_mono (t0 (gq 1 (gq 1 (gq 1 g.g))) (t0 (gq 1 (gq 1 g.g)) (t0 (gq 1 g.g) (t0 g.g (we_var rfl rfl))))) fun d e => ?_))
  subst e
  rw [q4]
  try dsimp only [List.set]
  have wv : ∀ {X : Xc} {δ : List Sd} {i : Nat}, δ[i]? = some (slP CP t p) → WEx K B X (tVar i) δ (· = pieceD CP t p) := fun h => we_var h rfl
  refine ws_seq (ws_set (we_lst (wax_mono (wa_eqc (cmp g.g rfl (we_var rfl rfl) (wv rfl)) (wa_eqc (cmp ((g.g.fl).held.fl).held (held_fl g) (m0 (g.g.fl).held (m0 g.g (wv rfl))) (wv rfl)) (wa_eqc (cmp (gq 1 (gq _ g.g)) q3 (t0 (gq _ g.g) (t1 (j := -1) g.g (wv rfl) ?_)) (wv rfl)) (wa_eqc (cmp (gq _ g.g) rfl (t1 (j := 3) g.g (wv rfl) (we_int rfl)) (t1 (j := -1) g.g (wv rfl) ?_)) wa_eq0)))) fun ds e => ⟨by rw [e]; show 4 ≤ 1000; decide, ?_⟩)))
  · repeat walk_at "dl"
    rfl
  · repeat walk_at "dl"
    rfl
  subst e
  try dsimp only [List.set]
  have same : ∀ {X : Xc} {δ : List Sd} {a : D} {ta : TA} {Q : Bool → Prop}, plain 5 a = true → Q true → WAx K B X ta δ (fun ds => ds = [a, a]) → WTx K B X (tB (tCall (SpD K (samePre 5) fun ds r => r = (fun _ => D.bl true) ds) [] E0 ta)) δ Q := fun hp hq h => wt_B (we_call (wax_mono h fun ds e => by
    subst e
    exact ⟨⟨rfl, hp⟩, fun r hr => ⟨true, hr, hq⟩⟩))
  refine ws_seq (ws_ifF (wt_not (same (a := .lst [.bl true, .bl true, .bl true, .bl true]) rfl rfl (wax_mono (wa_eqc (we_var rfl rfl) (wa_eqc (we_lst (wax_mono (wa_eqc (we_bl rfl) (wa_eqc (we_bl rfl) (wa_eqc (we_bl rfl) (wa_eqc (we_bl rfl) wa_eq0)))) fun ds e => ⟨by rw [e]; show 4 ≤ 1000; decide, by rw [e]⟩)) wa_eq0)) fun ds e => e))) (ws_next ?_))
  have at1 : atI [D.str t, partsD p] 1 = some (partsD p) := rfl
  have l6 : ∀ ps ∈ p, ps.length ≤ 6 := fun ps hp => (g.g.cv ps hp).h6
  have gl := g.g.l4
  refine ws_seq (ws_if (wt_B (we_call (wa_cons (we_lcB Dl.pairD (wi_list (we_call (wa_cons (we_op (we_var rfl (we_int (ro_ixT at1 (wa_nil ⟨⟨p, rfl, gl, l6⟩, ?_⟩)))))))))))))
  rintro _ ⟨p', e, rfl⟩
  obtain rfl := partsD_inj (List.cons.inj e).1
  clear e
  have fl := flat_len l6
  refine ⟨_, rfl, p.flatten, fun q => Dl.pairD (sentP x y q), rfl, by omega, fun q hm => ?_, ?_⟩
  · try dsimp only [List.set]
    refine we_tup (wa_cons (we_op (we_op (we_var rfl (we_int (ix0 (we_var rfl (ro_int0 (wa_cons (we_op (we_op (we_var rfl (we_int (ix1 (we_var rfl (ro_int0 (wa_nil ⟨by show 2 ≤ 1000; decide, rfl⟩)))))))))))))))))
  rw [show p.flatten.map (fun q => Dl.pairD (sentP x y q)) = (p.flatten.map (sentP x y)).map Dl.pairD by rw [List.map_map]; rfl]
  refine wa_nil ⟨⟨_, rfl, by rw [List.length_map]; omega⟩, ?_⟩
  rintro _ ⟨qs, e, rfl⟩
  have eq : qs = p.flatten.map (sentP x y) := by
    have := D.lst.inj (List.cons.inj e).1
    exact ((List.map_inj_right fun _ _ h => pairD_inj h).mp this).symm
  subst eq
  clear e
  refine ⟨_, rfl, ?_⟩
  by_cases hI : InP p x y
  · rw [in_all (b := true) ⟨fun _ => hI, fun _ => rfl⟩]
    refine iteT ?_
    have gs := good_in g.g hI
    have hb : InP (heldP (p.map (List.map (sentP x y)))) (0 - x) (0 - y) := up_back g gs
    refine ws_ret (cmp (q := heldP ((heldP (p.map (List.map (sentP x y)))).map (List.map (sentP (0 - x) (0 - y))))) (by rw [held_back g gs]; exact g.g) (held_back g gs) ?_ (wv rfl))
    refine we_meth (we_meth (we_var (i := 0) (d := pieceD CP t p) rfl ⟨_, _, rfl, rfl, wa_cons (we_var rfl (wa_cons (we_var rfl (wa_nil ⟨⟨t, p, x, y, rfl, pn g.g, hI⟩, fun r hr => ?_⟩))))⟩))
    rw [mv_post r hr]
    refine ⟨_, _, rfl, rfl, wa_cons (we_op (we_int (we_var rfl (ro_int0 (wa_cons (we_op (we_int (we_var rfl (ro_int0 (wa_nil ⟨⟨t, _, _, _, rfl, pn gs.held, hb⟩, fun r hr => mv_post r hr⟩))))))))))⟩
  · rw [in_all (b := false) ⟨fun z => (by cases z), fun z => (hI z).elim⟩]
    exact iteF (ws_next (ws_ret (we_bl rfl)))

end
/-! #### Fua -/
section
variable {P : Program} {w : World} {K : PySem.W.Frag} {mg : Str → Option Value} {base : Heap}
/-! ### fu8 -/
/-! ### law: the turn -/
/-- the parts led on: moved, turned, mirrored -/
def Led (p : List (List Pr2)) (wz x y : Int) (q : List (List Pr2)) : Prop := (wz = 0 ∧ q = p.map (List.map (sentP x y))) ∨ (wz = 1 ∧ q = p.map (List.map (qtrN (x.fmod 4).toNat))) ∨ (wz = 2 ∧ q = p.map (List.map (qtrN 1))) ∨ (wz = 3 ∧ q = p.map flP)
def In2 (q : List (List Pr2)) : Prop := ∀ ps ∈ q, ∀ p ∈ ps, Upto 200 p
theorem led_six {p q : List (List Pr2)} {wz x y : Int} (h : Led p wz x y q) (g : Good 200 p) : q.length ≤ 4 ∧ ∀ ps ∈ q, ps.length ≤ 6 := by
  have key : ∀ F : List Pr2 → List Pr2, (∀ ps, (F ps).length = ps.length) → (p.map F).length ≤ 4 ∧ ∀ ps ∈ p.map F, ps.length ≤ 6 := fun F hF => ⟨by rw [List.length_map]; exact g.l4, fun ps hp => by
    obtain ⟨z, hz, rfl⟩ := List.mem_map.mp hp
    rw [hF]; exact (g.cv z hz).h6⟩
  rcases h with ⟨_, rfl⟩ | ⟨_, rfl⟩ | ⟨_, rfl⟩ | ⟨_, rfl⟩
  · exact key _ fun _ => List.length_map _
  · exact key _ fun _ => List.length_map _
  · exact key _ fun _ => List.length_map _
  · exact key _ fun ps => by unfold flP; rw [List.length_map, List.length_reverse]
theorem led_end {CP : Addr} {t : Str} {p q : List (List Pr2)} {wz x y : Int} {r : D} (h : Led p wz x y q) (g : Good 200 p) (hr : LedR CP t p wz x y r) :
    (In2 q ∧ r = told CP t q ∧ Good 200 q ∧ ((heldP q).map areaP).sum = (p.map areaP).sum) ∨ (¬ In2 q ∧ r = .tup [.str "no", .str "OutOfBounds"]) := by
  have turn : ∀ k, In2 (p.map (List.map (qtrN k))) ∧ Good 200 (p.map (List.map (qtrN k))) ∧ ((heldP (p.map (List.map (qtrN k)))).map areaP).sum = (p.map areaP).sum := fun k =>
    ⟨fun ps hp c hc => (g.qtr k).up ps hp c hc, g.qtr k, area_held g (g.qtr k) fun ps _ => area_pt (fun a b => crs_qtr a b k) ps⟩
  have sent : InP p x y ↔ In2 (p.map (List.map (sentP x y))) := by
    constructor
    · intro z ps hp c hc
      obtain ⟨qs, hq, rfl⟩ := List.mem_map.mp hp
      obtain ⟨d, hd, rfl⟩ := List.mem_map.mp hc
      exact z qs hq d hd
    · intro z qs hq d hd
      exact z _ (List.mem_map.mpr ⟨qs, hq, rfl⟩) _ (List.mem_map.mpr ⟨d, hd, rfl⟩)
  rcases h with ⟨h0, rfl⟩ | ⟨h0, rfl⟩ | ⟨h0, rfl⟩ | ⟨h0, rfl⟩ <;> subst h0
  · rcases hr with ⟨_, hi, rfl⟩ | ⟨_, hi, rfl⟩ | ⟨z, _⟩ | ⟨z, _⟩ | ⟨z, _⟩
    · exact .inl ⟨sent.mp hi, rfl, good_in g hi, area_held g (good_in g hi) fun ps _ => area_sent x y ps⟩
    · exact .inr ⟨fun z => hi (sent.mpr z), rfl⟩
    all_goals exact absurd z (by decide)
  · rcases hr with ⟨z, _⟩ | ⟨z, _⟩ | ⟨_, rfl⟩ | ⟨z, _⟩ | ⟨z, _⟩
    · exact absurd z (by decide)
    · exact absurd z (by decide)
    · obtain ⟨a, b, c⟩ := turn (x.fmod 4).toNat
      exact .inl ⟨a, rfl, b, c⟩
    · exact absurd z (by decide)
    · exact absurd z (by decide)
  · rcases hr with ⟨z, _⟩ | ⟨z, _⟩ | ⟨z, _⟩ | ⟨_, rfl⟩ | ⟨z, _⟩
    · exact absurd z (by decide)
    · exact absurd z (by decide)
    · exact absurd z (by decide)
    · obtain ⟨a, b, c⟩ := turn 1
      exact .inl ⟨a, rfl, b, c⟩
    · exact absurd z (by decide)
  · rcases hr with ⟨z, _⟩ | ⟨z, _⟩ | ⟨z, _⟩ | ⟨z, _⟩ | ⟨_, rfl⟩
    · exact absurd z (by decide)
    · exact absurd z (by decide)
    · exact absurd z (by decide)
    · exact absurd z (by decide)
    · exact .inl ⟨fun ps hp c hc => g.fl.up ps hp c hc, rfl, g.fl, area_held g g.fl fun ps hp => area_fl (g.cv ps hp).nd⟩
theorem in2_all {q : List (List Pr2)} {b : Bool} (h : b = true ↔ In2 q) : (q.flatten.all fun p => isBnd 200 (Dl.pairD p)) = b := by
  refine Bool.eq_iff_iff.mpr ?_
  rw [h, List.all_eq_true]
  constructor
  · intro z ps hp p hm
    exact bnd_iff.mp (z p (List.mem_flatten.mpr ⟨ps, hp, hm⟩))
  · intro z p hp
    obtain ⟨ps, h1, h2⟩ := List.mem_flatten.mp hp
    exact bnd_iff.mpr (z ps h1 p h2)
theorem ro_inI2 {B : Bt} {Pp : D → Prop} {i a b : Int} (p : Pp (.bl (decide (i = a ∨ i = b)))) : RO K B (rIn K false) (.int i) (.tup [.int a, .int b]) Pp := fun G H x y _ o hx hy q => by
  cases hx
  cases hy with
  | tup hg t =>
    cases t with
    | cons h1 t => cases t with
      | cons h2 t =>
        cases t
        cases h1
        cases h2
        refine ⟨_, _, rfl, .inr (SqT.ofZ (o.u _ _ hg.1)), rfl, rfl, ?_⟩
        rw [if_neg (by decide)]
        have e : inV (.int i) [V.int a, .int b] = decide (i = a ∨ i = b) := by
          show ((a == i) || ((b == i) || false)) = _
          rw [Bool.or_false, Bool.eq_iff_iff, Bool.or_eq_true, beq_iff_eq, beq_iff_eq, decide_eq_true_eq]
          exact or_congr eq_comm eq_comm
        rw [e]
        exact q.nil o (.bl _) p
abbrev s_law : Stmt := topS 78
abbrev N_law : List Str := ["_law_script", "_law_box_here", "_law_body", "_law_turn", "_law_made", "_law_size", "_law_polys", "_law_way_z", "_law_by", "_law_x", "_law_y", "_law_found", "_law_before", "_law_p"]
theorem sc_law : FnScope N_law ["_law_script"] (defScope s_law) := ⟨rfl, rfl, rfl, by decide +kernel, rfl, by decide +kernel, by decide +kernel⟩
def loopBody : Stmt → List Stmt
  | .For _ _ b _ _ => b
  | _ => []
structure Law (P : Program) (w : World) (K : PySem.W.Frag) (mg : Str → Option Value) (base : Heap) (k : Nat) (CP fI fA pA f c Pt : Addr) (dI dA : FuncData) : Prop where
  G : Gn mg
  MG : PcT K mg CP
  mkc : Mk K CP fI
  p_area : PropOf K CP "area" pA fA
  bx : Cl P w K mg base (k + 1) "_law_box" s__law_box ["_law_script", "_law_own"] (spBox K)
  tk : ClT P w K mg base (k + 1)
  pk : ClP P w K mg base (k + 1)
  wd : ClW P w K mg base (k + 1)
  ld : ClLd P w K mg base (k + 1)
  ar : ClAr P w K mg base (k + 1)
  ag : ClAg P w K mg base (k + 1)
  me : ClMov P w K mg base (k + 1)
  se : ClSe P w K mg base (k + 1)
  qu : ClQu P w K mg base (k + 1)
  fl : ClFlp P w K mg base (k + 1)
  ins : ClIns P w K mg base (k + 1)
  asp : ClAsp P w K mg base (k + 1)
  sm : ClS P w K mg base (k + 1) 5
  so : ClPs P w K mg base CP (k + 1)
  le : ClLe P w K mg base CP f c Pt (k + 1)
  bs : ClBck P w K mg base CP (k + 1)
  ini : ClM P w K mg base k fI dI ["self", "name", "parts"] (inSp K CP)
  are : ClM P w K mg base k fA dA ["self"] (SpD K (p1 (PcD CP)) fun ds r => ∃ (tag : Str) (pss : List (List Pr2)), ds = [pieceD CP tag pss] ∧ r = .int (pss.map areaP).sum)
abbrev lcx (P : Program) (w : World) (K : PySem.W.Frag) (mg : Str → Option Value) (base : Heap) (f : Addr) (cdv : Value) (A : Around) (outer : List Env) (s : Shared) (H : Hp) (E : XK) : Cx := (cxOf CX0 P w K mg base N_law "law" (defScope s_law) f cdv A outer s H E).nox
abbrev lroom (k : Nat) (f : Addr) (cdv : Value) (A : Around) (s : Shared) : Prop := Room k (A.deeper (envOfC "law" (defScope s_law) s.heap.objs.size f cdv))
abbrev turnB : List Stmt := loopBody ((defBody s_law).getD 3 (.Pass ⟨0, 0, 0, 0⟩))
theorem piece_C {k : Nat} {CP fI fA pA f c Pt : Addr} {dI dA : FuncData} (L : Law P w K mg base k CP fI fA pA f c Pt dI dA) (g : Addr) (cdv : Value) (A : Around) (outer : List Env) (sh : Shared) (H : Hp) (E : XK) (hr : lroom (k + 1) g cdv A sh) :
    ∃ t, PSs (lcx P w K mg base g cdv A outer sh H E) (turnB.drop 6) t ∧ ∀ (B : Bt) (O : Out) (tag : Str) (p q : List (List Pr2)) (S wz b x y : Int) (y3 y11 y12 y13 : Sd), B.T = ledT f c Pt → Laid 200 p → isName (.str tag) = true → tag.length ≤ 1000 → (p.map areaP).sum = S → 0 ≤ wz → wz < 4 → Led p wz x y q →
      (∀ p' z6 z7 z8 z9 z10 z11 z12, Laid 200 p' → (p'.map areaP).sum = S → O.nx [.no, .val .box, .val (.tup [.str tag, partsD p']), y3, .val (pieceD CP tag p'), .val (.int S), z6, z7, z8, z9, z10, z11, z12, y13]) →
      WS K B t [.no, .val .box, .val (.tup [.str tag, partsD p]), y3, .val (pieceD CP tag p), .val (.int S), .val (partsD q), .val (.int wz), .val (.int b), .val (.int x), .val (.int y), y11, y12, y13] O := by
  have G := L.G
  have MG := L.MG
  have C__law_led := L.le
  have C__law_inside := L.ins
  have C__law_all_spots := L.asp
  have C__law_same := L.sm
  have C__law_arranged := L.ag
  have C__law_piece_so := L.so
  have CM_area := L.are
  refine ⟨_, (pss_cons (ps_par (i := 11) (j := 12) (by rfl) sc_law.nd rfl rfl (by decide) rfl rfl (pa_cons (pe_c C__law_led hr (by omega) (by rfl) (pa_cons (pv 4) (pa_cons (pv 7) (pa_cons (pv 9) (pa_cons (pv 10) (pa_cons (pv 8) pa_nil)))))) (pa_cons (pv 2) pa_nil)) (by rfl))
      (pss_cons (ps_if (pt_not (pt_val (pe_c C__law_inside hr (by omega) (by rfl) (pa_cons (pe_c C__law_all_spots hr (by omega) (by rfl) (pa_cons (pv 6) pa_nil)) pa_nil)))) (pss_one (ps_if (pt_not (pt_val (pe_c C__law_same hr (by omega) (by rfl) (pa_cons (pv 11) (pa_cons (pe_tupZ (pa_cons pe_str (pa_cons pe_str pa_nil))) pa_nil))))) (pss_one (ps_ret pe_bl)) pss_nil)) (pss_cons (ps_set (i := 2) sc_law.nd rfl (Or.inl rfl) (pe_tupZ (pa_cons (pe_ix (show IxR _ (rIxT K) from ix_tup) (pv 2) pe_int (fun _ _ => rfl)) (pa_cons (pe_c C__law_arranged hr (by omega) (by rfl) (pa_cons (pv 6) pa_nil)) pa_nil))))
      (pss_cons (ps_if (PW.pt (pw_or (pt_cmpR op_ne (pe_ix (show IxR _ (rIxT K) from ix_tup) (pv 11) pe_int (fun _ _ => rfl)) pe_str (nomark _)) (pw_or (pt_not (pt_val (pe_c C__law_piece_so hr (by omega) (by rfl) (pa_cons (pe_ix (show IxR _ (rIxT K) from ix_tup) (pv 11) pe_int (fun _ _ => rfl)) (pa_cons (pv 2) pa_nil))))) (pw_or1 (pt_not (pt_val (pe_c C__law_piece_so hr (by omega) (by rfl) (pa_cons (pv 4) (pa_cons (pv 12) pa_nil))))))))) (pss_one (ps_ret pe_bl)) pss_nil)
      (pss_one (ps_set (i := 4) sc_law.nd rfl (Or.inl rfl) (pe_ix (show IxR _ (rIxT K) from ix_tup) (pv 11) pe_int (fun _ _ => rfl)))))))
      (pss_one (ps_if (pt_not (pt_val (pe_c C__law_same hr (by omega) (by rfl) (pa_cons (pe_prop (pv 4) MG.cl L.p_area CM_area.ok hr CM_area.bn .nil pass0 rfl) (pa_cons (pv 5) pa_nil))))) (pss_one (ps_ret pe_bl)) pss_nil)))), fun B O tag p q S wz b x y y3 y11 y12 y13 hT g hn hz hS h0 h4 hl hO => ?_⟩
  try dsimp only [lcx, cxOf, Cx.nox, Cx.blk]
  have same : ∀ {X : Xc} {δ : List Sd} {a : D} {ta : TA} {Q : Bool → Prop}, plain 5 a = true → Q true → WAx K B X ta δ (fun ds => ds = [a, a]) → WTx K B X (tB (tCall (SpD K (samePre 5) fun ds r => r = (fun _ => D.bl true) ds) [] E0 ta)) δ Q := fun hp hq h => wt_B (we_call (wax_mono h fun ds e => by
    subst e
    exact ⟨⟨rfl, hp⟩, fun r hr => ⟨true, hr, hq⟩⟩))
  obtain ⟨q4, q6⟩ := led_six hl g.g
  have qf := flat_len q6
  refine ws_seq (ws_par (wa_cons (we_callT hT (wa_cons (we_var (d := pieceD CP tag p) rfl (wa_cons (we_var rfl (wa_cons (we_var rfl (wa_cons (we_var rfl (wa_cons (we_var rfl (wa_nil ⟨⟨tag, p, wz, x, y, b, rfl, ⟨tag, p, rfl, g.g, hn, hz⟩, h0, h4⟩, ?_⟩))))))))))))))
  rintro r ⟨t', p', wz', x', y', b', e, hR⟩
  obtain ⟨e1, e2⟩ := pieceD_inj (List.cons.inj e).1
  have e3 := D.int.inj (List.cons.inj (List.cons.inj e).2).1
  have e4 := D.int.inj (List.cons.inj (List.cons.inj (List.cons.inj e).2).2).1
  have e5 := D.int.inj (List.cons.inj (List.cons.inj (List.cons.inj (List.cons.inj e).2).2).2).1
  subst e1 e2 e3 e4 e5
  clear e
  have hend := led_end hl g.g hR
  clear hR
  refine wa_cons (we_var (d := .tup [.str tag, partsD p]) rfl (wa_nil ⟨_, _, rfl, ?_⟩))
  try dsimp only [List.set]
  refine ws_seq (ws_nx (I := fun δ1 => ∃ (p' : List (List Pr2)) (y11 y12 : Sd), δ1 = [.no, .val .box, .val (.tup [.str tag, partsD p']), y3, .val (pieceD CP tag p'), .val (.int S), .val (partsD q), .val (.int wz), .val (.int b), .val (.int x), .val (.int y), y11, y12, y13] ∧ Laid 200 p' ∧ (p'.map areaP).sum = S) ?A ?B)
  case B =>
    rintro δ1 ⟨p', y11, y12, rfl, g', hS'⟩
    refine ws_ifF (wt_not (same (a := .int S) rfl rfl (wax_mono (wa_eqc (we_prop (we_var rfl ⟨_, _, rfl, ⟨tag, p', rfl, g'.g, hz⟩, ?_⟩)) (wa_eqc (we_var rfl rfl) wa_eq0)) fun ds e => e))) (ws_next (hO p' _ _ _ _ _ _ _ g' hS'))
    rintro _ ⟨t1, p1, e, rfl⟩
    rw [← (pieceD_inj (List.cons.inj e).1).2, hS']
  case A =>
    refine ws_if (wt_not (wt_B (we_call (wa_cons (we_call (wa_cons (we_var (d := partsD q) rfl (wa_nil ⟨⟨q, rfl, q4, q6⟩, ?_⟩))))))))
    rintro _ ⟨q', e, rfl⟩
    obtain rfl := partsD_inj (List.cons.inj e).1
    clear e
    refine wa_nil ⟨⟨q.flatten, rfl, by omega⟩, ?_⟩
    rintro _ ⟨qs, e, rfl⟩
    obtain rfl : q.flatten = qs := (List.map_inj_right fun _ _ h => pairD_inj h).mp (D.lst.inj (List.cons.inj e).1)
    clear e
    refine ⟨_, rfl, ?_⟩
    rcases hend with ⟨hi, rfl, gq, hA⟩ | ⟨hi, rfl⟩
    · rw [in2_all (b := true) ⟨fun _ => hi, fun _ => rfl⟩]
      rw [if_neg (by decide)]
      have at0 : ∀ {a b : D}, atI [a, b] 0 = some a := rfl
      have at1 : ∀ {a b : D}, atI [a, b] 1 = some b := rfl
      refine ws_seq (ws_set (we_tup (wa_cons (we_op (we_var rfl (we_int (ro_ixT at0 (wa_cons (we_call (wa_cons (we_var (d := partsD q) rfl (wa_nil ⟨⟨q, 200, rfl, gq⟩, ?_⟩))))))))))))
      rintro _ ⟨q', e, rfl⟩
      obtain rfl := partsD_inj (List.cons.inj e).1
      clear e
      refine wa_nil ⟨by show 2 ≤ 1000; decide, ?_⟩
      try dsimp only [List.set]
      have lq : Laid 200 (heldP q) := Laid.of gq
      refine ws_seq (ws_ifF (wt_or (wt_test (we_op (we_op (we_var rfl (we_int (ro_ixT at0 (we_str (ro_neS ⟨_, rfl, ?_⟩))))))))) (ws_next ?_))
      · rw [decide_eq_true rfl, if_neg (by decide)]
        refine wt_or (wt_not (wt_B (we_call (wa_cons (we_op (we_var rfl (we_int (ro_ixT at1 (wa_cons (we_var rfl (wa_nil ⟨⟨tag, heldP q, rfl, rfl, lq, hz⟩, ?_⟩)))))))))))
        rintro _ rfl
        refine ⟨_, rfl, ?_⟩
        rw [if_neg (by decide)]
        refine wt_not (wt_B (we_call (wa_cons (we_var rfl (wa_cons (we_var rfl (wa_nil ⟨⟨tag, p, rfl, rfl, g, hz⟩, ?_⟩)))))))
        rintro _ rfl
        exact ⟨_, rfl, rfl⟩
      refine ws_set (we_op (we_var rfl (we_int (ro_ixT at1 ?_))))
      try dsimp only [List.set]
      exact ⟨heldP q, _, _, rfl, lq, hA.trans hS⟩
    · rw [in2_all (b := false) ⟨fun z => (by cases z), fun z => (hi z).elim⟩]
      rw [if_pos (by decide)]
      refine ws_ifF (wt_not (same (a := .tup [.str "no", .str "OutOfBounds"]) rfl rfl (wax_mono (wa_eqc (we_var rfl rfl) (wa_eqc (we_tup (wax_mono (wa_eqc (we_str rfl) (wa_eqc (we_str rfl) wa_eq0)) fun ds e => ⟨by rw [e]; show 2 ≤ 1000; decide, by rw [e]⟩)) wa_eq0)) fun ds e => e))) (ws_next ?_)
      exact ⟨p, _, _, rfl, g, hS⟩

end
/-! #### Fub -/
section
variable {P : Program} {w : World} {K : PySem.W.Frag} {mg : Str → Option Value} {base : Heap}
/-! ### fv8 -/
/-! ### law: the turn's first statements -/
theorem piece_B {k : Nat} {CP fI fA pA f c Pt : Addr} {dI dA : FuncData} (L : Law P w K mg base k CP fI fA pA f c Pt dI dA) (g : Addr) (cdv : Value) (A : Around) (outer : List Env) (sh : Shared) (H : Hp) (E : XK) (hr : lroom (k + 1) g cdv A sh) :
    ∃ t, PSs (lcx P w K mg base g cdv A outer sh H E) (turnB.drop 3) t ∧ ∀ (B : Bt) (O : Out) (tag : Str) (p : List (List Pr2)) (S wz b x y : Int) (y3 y6 y11 y12 y13 : Sd), B.T = ledT f c Pt → Laid 200 p → isName (.str tag) = true → tag.length ≤ 1000 → (p.map areaP).sum = S → 0 ≤ wz → wz < 4 →
      (∀ p' z6 z7 z8 z9 z10 z11 z12, Laid 200 p' → (p'.map areaP).sum = S → O.nx [.no, .val .box, .val (.tup [.str tag, partsD p']), y3, .val (pieceD CP tag p'), .val (.int S), z6, z7, z8, z9, z10, z11, z12, y13]) →
      WS K B t [.no, .val .box, .val (.tup [.str tag, partsD p]), y3, .val (pieceD CP tag p), .val (.int S), y6, .val (.int wz), .val (.int b), .val (.int x), .val (.int y), y11, y12, y13] O := by
  have G := L.G
  have C__law_sent := L.se
  have C__law_quarter := L.qu
  have C__law_flipped := L.fl
  obtain ⟨tc, hC, wC⟩ := piece_C L g cdv A outer sh H E hr
  refine ⟨_, (pss_cons (ps_setLc (i := 6) (own := [("_law_p", 13)]) (g := gName 13) (tt := tYes) rfl sc_law.nd rfl rfl (sw_true rfl rfl rfl (by decide +kernel)) (pi_list (pe_ix (show IxR _ (rIxT K) from ix_tup) (pv 2) pe_int (fun _ _ => rfl))) (blkOk_by (N := N_law) (sc := defScope s_law) (by decide +kernel)) (fun _ _ _ _ _ => pg_name (i := 13) sc_law.nd rfl (Or.inl rfl)) (fun _ _ _ _ _ => pts_nil) (fun _ _ _ _ _ => (pe_c C__law_sent hr (by omega) (by rfl) (pa_cons (pv 13) (pa_cons (pv 9) (pa_cons (pv 10) pa_nil))))))
      (pss_cons (ps_if (pt_cmpR op_in_seq (pv 7) (pe_tupZ (pa_cons pe_int (pa_cons pe_int pa_nil))) (by rfl)) (pss_one (ps_setLc (i := 6) (own := [("_law_p", 13)]) (g := gName 13) (tt := tYes) rfl sc_law.nd rfl rfl (sw_true rfl rfl rfl (by decide +kernel)) (pi_list (pe_ix (show IxR _ (rIxT K) from ix_tup) (pv 2) pe_int (fun _ _ => rfl))) (blkOk_by (N := N_law) (sc := defScope s_law) (by decide +kernel)) (fun _ _ _ _ _ => pg_name (i := 13) sc_law.nd rfl (Or.inl rfl)) (fun _ _ _ _ _ => pts_nil) (fun _ _ _ _ _ => (pe_c C__law_quarter hr (by omega) (by rfl) (pa_cons (pv 13) (pa_cons (pe_ifExp (pt_cmpR op_eq (pv 7) pe_int (nomark _)) (pv 9) pe_int) pa_nil)))))) pss_nil)
      (pss_cons (ps_if (pt_cmpR op_eq (pv 7) pe_int (nomark _)) (pss_one (ps_setLc (i := 6) (own := [("_law_p", 13)]) (g := gName 13) (tt := tYes) rfl sc_law.nd rfl rfl (sw_true rfl rfl rfl (by decide +kernel)) (pi_list (pe_ix (show IxR _ (rIxT K) from ix_tup) (pv 2) pe_int (fun _ _ => rfl))) (blkOk_by (N := N_law) (sc := defScope s_law) (by decide +kernel)) (fun _ _ _ _ _ => pg_name (i := 13) sc_law.nd rfl (Or.inl rfl)) (fun _ _ _ _ _ => pts_nil) (fun _ _ _ _ _ => (pe_c C__law_flipped hr (by omega) (by rfl) (pa_cons (pv 13) pa_nil))))) pss_nil)
      hC))), fun B O tag p S wz b x y y3 y6 y11 y12 y13 hT g hn hz hS h0 h4 hO => ?_⟩
  try dsimp only [lcx, cxOf, Cx.nox, Cx.blk]
  have at1 : ∀ {a b : D}, atI [a, b] 1 = some b := rfl
  have gl := g.g.l4
  have up : ∀ ps ∈ p, ∀ c ∈ ps, Upto 100000 c := fun ps hp c hc => upto_le (g.g.up ps hp c hc) (by decide)
  have l6 : ∀ ps ∈ p, ps.length ≤ 100 := fun ps hp => by have := (g.g.cv ps hp).h6; omega
  refine ws_seq (ws_set (we_lcA (xs := p) polyD (fun q => polyD (q.map (sentP x y))) (by omega) (wi_list (we_op (we_var rfl (we_int (ro_ixT at1 ⟨_, rfl, rfl⟩))))) (fun q hm => ?_) ?_))
  · try dsimp only [List.set]
    refine we_call (wa_cons (we_var rfl (wa_cons (we_var rfl (wa_cons (we_var rfl (wa_nil ⟨⟨q, x, y, rfl, rfl, rfl, l6 q hm⟩, ?_⟩)))))))
    rintro _ ⟨q', x', y', e, rfl⟩
    have e1 := prs_inj (D.tup.inj (List.cons.inj e).1)
    have e2 := D.int.inj (List.cons.inj (List.cons.inj e).2).1
    have e3 := D.int.inj (List.cons.inj (List.cons.inj (List.cons.inj e).2).2).1
    subst e1 e2 e3
    rfl
  rw [show p.map (fun q => polyD (q.map (sentP x y))) = (p.map (List.map (sentP x y))).map polyD by rw [List.map_map]; rfl]
  try dsimp only [List.set]
  refine ws_seq (ws_nx (I := fun δ1 => ∃ (q : List (List Pr2)), δ1 = [.no, .val .box, .val (.tup [.str tag, partsD p]), y3, .val (pieceD CP tag p), .val (.int S), .val (partsD q), .val (.int wz), .val (.int b), .val (.int x), .val (.int y), y11, y12, y13] ∧ ((wz = 1 ∨ wz = 2) → Led p wz x y q) ∧ (¬ (wz = 1 ∨ wz = 2) → q = p.map (List.map (sentP x y)))) ?A ?B)
  case B =>
    rintro δ1 ⟨q, rfl, k1, k2⟩
    refine ws_seq (ws_nx (I := fun δ1 => ∃ (q : List (List Pr2)), δ1 = [.no, .val .box, .val (.tup [.str tag, partsD p]), y3, .val (pieceD CP tag p), .val (.int S), .val (partsD q), .val (.int wz), .val (.int b), .val (.int x), .val (.int y), y11, y12, y13] ∧ Led p wz x y q) ?C ?D)
    case D =>
      rintro δ1 ⟨q, rfl, hl⟩
      exact wC B O tag p q S wz b x y y3 y11 y12 y13 hT g hn hz hS h0 h4 hl hO
    case C =>
      refine ws_if (wt_test (we_op (we_var rfl (we_int (ro_eqI ⟨_, rfl, ite2 (fun h3 => ?_) (fun h3 => ws_next ?_)⟩)))))
      · have w3 : wz = 3 := of_decide_eq_true h3
        refine ws_set (we_lcA (xs := p) polyD (fun q => polyD (flP q)) (by omega) (wi_list (we_op (we_var rfl (we_int (ro_ixT at1 ⟨_, rfl, rfl⟩))))) (fun q hm => ?_) ?_)
        · try dsimp only [List.set]
          refine we_call (wa_cons (we_var (d := polyD q) rfl (wa_nil ⟨⟨q, rfl, l6 q hm⟩, ?_⟩)))
          rintro _ ⟨q', e, rfl⟩
          have e1 := prs_inj (D.tup.inj (List.cons.inj e).1)
          rw [e1]
        rw [show p.map (fun q => polyD (flP q)) = (p.map flP).map polyD by rw [List.map_map]; rfl]
        exact ⟨_, rfl, .inr (.inr (.inr ⟨w3, rfl⟩))⟩
      · have w3 : ¬ wz = 3 := fun z => h3 (decide_eq_true z)
        refine ⟨q, rfl, ?_⟩
        by_cases h12 : wz = 1 ∨ wz = 2
        · exact k1 h12
        · exact .inl ⟨by omega, k2 h12⟩
  case A =>
    refine ws_if (wt_test (we_op (we_var rfl (we_tup (wa_cons (we_int (wa_cons (we_int (wa_nil ⟨by show 2 ≤ 1000; decide, ro_inI2 ⟨_, rfl, ite2 (fun h3 => ?_) (fun h3 => ws_next ?_)⟩⟩)))))))))
    · have w12 : wz = 1 ∨ wz = 2 := of_decide_eq_true h3
      refine ws_set (we_lcA (xs := p) polyD (fun q => polyD (q.map (qtrN (if wz = 1 then (x.fmod 4).toNat else 1)))) (by omega) (wi_list (we_op (we_var rfl (we_int (ro_ixT at1 ⟨_, rfl, rfl⟩))))) (fun q hm => ?_) ?_)
      · try dsimp only [List.set]
        refine we_call (wa_cons (we_var (d := polyD q) rfl (wa_cons (we_if (wt_test (we_op (we_var rfl (we_int (ro_eqI ⟨_, rfl, ite2 (fun h1 => ?_) (fun h1 => ?_)⟩)))))))))
        · have w1 : wz = 1 := of_decide_eq_true h1
          refine we_var rfl (wa_nil ⟨⟨q, x, rfl, rfl, l6 q hm, up q hm⟩, ?_⟩)
          rintro _ ⟨q', j', e, rfl⟩
          have e1 := prs_inj (D.tup.inj (List.cons.inj e).1)
          have e2 := D.int.inj (List.cons.inj (List.cons.inj e).2).1
          rw [e1, e2, if_pos w1]
          rfl
        · have w1 : ¬ wz = 1 := fun z => h1 (decide_eq_true z)
          refine we_int (wa_nil ⟨⟨q, 1, rfl, rfl, l6 q hm, up q hm⟩, ?_⟩)
          rintro _ ⟨q', j', e, rfl⟩
          have e1 := prs_inj (D.tup.inj (List.cons.inj e).1)
          have e2 := D.int.inj (List.cons.inj (List.cons.inj e).2).1
          rw [e1, ← e2, if_neg w1]
          rfl
      rw [show p.map (fun q => polyD (q.map (qtrN (if wz = 1 then (x.fmod 4).toNat else 1)))) = (p.map (List.map (qtrN (if wz = 1 then (x.fmod 4).toNat else 1)))).map polyD by rw [List.map_map]; rfl]
      refine ⟨_, rfl, fun _ => ?_, fun z => (z w12).elim⟩
      rcases w12 with w1 | w2
      · rw [if_pos w1]; exact .inr (.inl ⟨w1, rfl⟩)
      · rw [if_neg (by omega)]; exact .inr (.inr (.inl ⟨w2, rfl⟩))
    · have w12 : ¬ (wz = 1 ∨ wz = 2) := fun z => h3 (decide_eq_true z)
      exact ⟨_, rfl, fun z => (w12 z).elim, fun _ => rfl⟩
theorem piece_A {k : Nat} {CP fI fA pA f c Pt : Addr} {dI dA : FuncData} (L : Law P w K mg base k CP fI fA pA f c Pt dI dA) (g : Addr) (cdv : Value) (A : Around) (outer : List Env) (sh : Shared) (H : Hp) (E : XK) (hr : lroom (k + 1) g cdv A sh) :
    ∃ t, PSs (lcx P w K mg base g cdv A outer sh H E) (turnB.drop 0) t ∧ ∀ (B : Bt) (O : Out) (tag : Str) (p : List (List Pr2)) (S : Int) (y3 y6 y7 y8 y9 y10 y11 y12 y13 : Sd), B.T = ledT f c Pt → Laid 200 p → isName (.str tag) = true → tag.length ≤ 1000 → (p.map areaP).sum = S →
      (∀ p' z6 z7 z8 z9 z10 z11 z12, Laid 200 p' → (p'.map areaP).sum = S → O.nx [.no, .val .box, .val (.tup [.str tag, partsD p']), y3, .val (pieceD CP tag p'), .val (.int S), z6, z7, z8, z9, z10, z11, z12, y13]) →
      WS K B t [.no, .val .box, .val (.tup [.str tag, partsD p]), y3, .val (pieceD CP tag p), .val (.int S), y6, y7, y8, y9, y10, y11, y12, y13] O := by
  have G := L.G
  have C__law_take := L.tk
  have C__law_pick := L.pk
  have C__law_move := L.me
  obtain ⟨tb, hB, wB⟩ := piece_B L g cdv A outer sh H E hr
  refine ⟨_, (pss_cons (ps_asg (pe_tupZ (pa_cons (pe_c C__law_take hr (by omega) (by rfl) (pa_cons (pv 1) (pa_cons pe_int pa_nil))) (pa_cons (pe_c C__law_take hr (by omega) (by rfl) (pa_cons (pv 1) (pa_cons pe_int pa_nil))) pa_nil))) (show PG _ _ (gTup K 2 (gCons (gName 7) (gCons (gName 8) gNil))) from pg_tup rfl (pgs_cons (pg_name (i := 7) sc_law.nd rfl (Or.inr rfl)) (pgs_cons (pg_name (i := 8) sc_law.nd rfl (Or.inl rfl)) pgs_nil))))
      (pss_cons (ps_asg (pe_c C__law_move hr (by omega) (by rfl) (pa_cons (pv 1) (pa_cons (pe_ix (show IxR _ (rIxT K) from ix_tup) (pv 2) pe_int (fun _ _ => rfl)) pa_nil))) (show PG _ _ (gTup K 2 (gCons (gName 9) (gCons (gName 10) gNil))) from pg_tup rfl (pgs_cons (pg_name (i := 9) sc_law.nd rfl (Or.inr rfl)) (pgs_cons (pg_name (i := 10) sc_law.nd rfl (Or.inr rfl)) pgs_nil))))
      (pss_cons (ps_if (pt_cmpR op_eq (pv 7) pe_int (nomark _)) (pss_one (ps_set (i := 9) sc_law.nd rfl (Or.inr rfl) (pe_c C__law_pick hr (by omega) (by rfl) (pa_cons (pv 1) (pa_cons (pe_lst (pa_cons pe_int (pa_cons pe_int (pa_cons pe_int (pa_cons pe_int (pa_cons pe_int (pa_cons pe_int (pa_cons (pe_un un_neg pe_int) (pa_cons (pe_un un_neg pe_int) (pa_cons (pe_un un_neg pe_int) (pa_cons (pe_un un_neg pe_int) (pa_cons (pe_op op_sub (pe_op op_pow pe_int pe_int) pe_int) (pa_cons (pe_op op_sub pe_int (pe_op op_pow pe_int pe_int)) (pa_cons pe_int pa_nil)))))))))))))) pa_nil))))) pss_nil)
      hB))), fun B O tag p S y3 y6 y7 y8 y9 y10 y11 y12 y13 hT g hn hz hS hO => ?_⟩
  try dsimp only [lcx, cxOf, Cx.nox, Cx.blk]
  have at1 : ∀ {a b : D}, atI [a, b] 1 = some b := rfl
  refine ws_seq (ws_unt2 (we_tup (wa_cons (we_call (wa_cons (we_var rfl (wa_cons (we_int (wa_nil ⟨⟨rfl, _, rfl, by decide, by decide⟩, ?_⟩)))))))))
  rintro _ ⟨n, wz, e, rfl, h0, h4⟩
  cases e
  refine wa_cons (we_call (wa_cons (we_var rfl (wa_cons (we_int (wa_nil ⟨⟨rfl, _, rfl, by decide, by decide⟩, ?_⟩))))))
  rintro _ ⟨n, b, e, rfl, hb0, hb1⟩
  cases e
  refine wa_nil ⟨by show 2 ≤ 1000; decide, _, _, rfl, ?_⟩
  try dsimp only [List.set]
  refine ws_seq (ws_unt2 (we_call (wa_cons (we_var rfl (wa_cons (we_op (we_var rfl (we_int (ro_ixT at1 (wa_nil ⟨⟨rfl, p, rfl, g.g⟩, ?_⟩))))))))))
  rintro _ ⟨x, y, rfl⟩
  refine ⟨_, _, rfl, ?_⟩
  try dsimp only [List.set]
  refine ws_seq (ws_nx (I := fun δ1 => ∃ x' : Int, δ1 = [.no, .val .box, .val (.tup [.str tag, partsD p]), y3, .val (pieceD CP tag p), .val (.int S), y6, .val (.int wz), .val (.int b), .val (.int x'), .val (.int y), y11, y12, y13]) ?A ?B)
  case B =>
    rintro δ1 ⟨x', rfl⟩
    exact wB B O tag p S wz b x' y y3 y6 y11 y12 y13 hT g hn hz hS h0 h4 hO
  case A =>
    refine ws_if (wt_test (we_op (we_var rfl (we_int (ro_eqI ⟨_, rfl, ite2 (fun _ => ?_) (fun _ => ws_next ⟨x, rfl⟩)⟩)))))
    refine ws_set (we_call (wa_cons (we_var rfl (wa_cons (we_lst (wax_mono (P := AllN (fun d => ∃ z : Int, d = .int z) 13) ?_ fun ds q => ⟨by rw [q.1]; decide, wa_nil ⟨⟨rfl, _, rfl, by rw [q.1]; decide, by rw [q.1]; decide⟩, ?_⟩⟩))))))
    · refine wa_all ?_ (wa_all ?_ (wa_all ?_ (wa_all ?_ (wa_all ?_ (wa_all ?_ (wa_all ?_ (wa_all ?_ (wa_all ?_ (wa_all ?_ (wa_all ?_ (wa_all ?_ (wa_all ?_ wa_all0))))))))))))
      all_goals (repeat first | walk_at "dl" | refine ro_int (C := CPow) ⟨by decide, by decide, by decide⟩ ?_)
      all_goals exact ⟨_, rfl⟩
    · rintro r ⟨_, e, hm⟩
      cases e
      obtain ⟨z, rfl⟩ := q.2 _ hm
      exact ⟨z, rfl⟩

end
/-! #### Fuc -/
section
variable {P : Program} {w : World} {K : PySem.W.Frag} {mg : Str → Option Value} {base : Heap}
/-! ### fw8 -/
/-! ### law -/
def spLaw (K : PySem.W.Frag) (Pt : Addr) : Sp := fun vs H Q _ => ∃ (a : Addr) (ns : List Int), vs = [.ref a] ∧ SqL K H a (ns.map V.int) ∧ ns.length ≤ 63 ∧ H Pt = some (.tbl #[]) ∧ ∀ H', Q (.bl true) H'
theorem ok_law {k : Nat} {CP fI fA pA f c Pt : Addr} {dI dA : FuncData} (L : Law P w K mg base k CP fI fA pA f c Pt dI dA) {g : Addr} {fd : FuncData} (F : Fun K "law" "law" s_law g fd) : FnOk P w K mg base CX0 (k + 1 + 1) g fd ["_law_script"] (spLaw K Pt) := by
  refine F.ok sc_law (fun vs H Q E h => ?_) (fun cdv A outer s H vs Q E hr h => ?_)
  · obtain ⟨a, ns, rfl, _⟩ := h
    rfl
  obtain ⟨a, ns, rfl, hS, hl, hP, q⟩ := h
  have G := L.G
  have MG := L.MG
  have C__law_box := L.bx
  have C__law_take := L.tk
  have C__law_word := L.wd
  have C__law_laid := L.ld
  have C__law_area := L.ar
  have C__law_back_so := L.bs
  have CM_init := L.ini
  have hr' : lroom (k + 1) g cdv A s := hr
  obtain ⟨ta, hA, wA⟩ := piece_A L g cdv A outer s H E hr'
  obtain ⟨T3, h3, w3⟩ : ∃ T3, PSs (lcx P w K mg base g cdv A outer s H E) ((defBody s_law).drop 3) T3 ∧ ∀ (B : Bt) (tag : Str) (p : List (List Pr2)) (S : Int) (y3 y6 y7 y8 y9 y10 y11 y12 y13 : Sd), B.T = ledT f c Pt → Laid 200 p → isName (.str tag) = true → tag.length ≤ 1000 → (p.map areaP).sum = S →
      WS K B T3 [.no, .val .box, .val (.tup [.str tag, partsD p]), y3, .val (pieceD CP tag p), .val (.int S), y6, y7, y8, y9, y10, y11, y12, y13] { nx := fun _ => False, rt := fun r => r = .bl true } := by
    refine ⟨_, (pss_cons (ps_for PassesOwn.never rfl (pi_range1 rfl G.g_range (pa_cons pe_int pa_nil)) (pg_name (i := 3) sc_law.nd rfl (Or.inl rfl)) hA) (pss_one (ps_ret (pe_c C__law_back_so hr (by omega) (by rfl) (pa_cons (pv 4) (pa_cons (pv 2) (pa_cons (pe_op op_sub (pe_c C__law_take hr (by omega) (by rfl) (pa_cons (pv 1) (pa_cons pe_int pa_nil))) pe_int) (pa_cons (pe_op op_sub (pe_c C__law_take hr (by omega) (by rfl) (pa_cons (pv 1) (pa_cons pe_int pa_nil))) pe_int) pa_nil)))))))), fun B tag p S y3 y6 y7 y8 y9 y10 y11 y12 y13 hT g hn hz hS => ?_⟩
    try dsimp only [lcx, cxOf, Cx.nox, Cx.blk]
    refine ws_seq (ws_for (wi_range1 ?_))
    repeat walk_at "dl"
    refine ⟨by decide, by decide, fun _ δ1 => ∃ (p' : List (List Pr2)) (y3 y6 y7 y8 y9 y10 y11 y12 y13 : Sd), δ1 = [.no, .val .box, .val (.tup [.str tag, partsD p']), y3, .val (pieceD CP tag p'), .val (.int S), y6, y7, y8, y9, y10, y11, y12, y13] ∧ Laid 200 p' ∧ (p'.map areaP).sum = S, ⟨p, _, _, _, _, _, _, _, _, _, rfl, g, hS⟩, ?_, ?_⟩
    · rintro n d δ1 _ ⟨p', z3, z6, z7, z8, z9, z10, z11, z12, z13, rfl, g', hS'⟩
      try dsimp only [List.set]
      exact wA B _ tag p' S _ _ _ _ _ _ _ _ _ hT g' hn hz hS' fun p' z6 z7 z8 z9 z10 z11 z12 g2 hS2 => ⟨p', _, _, _, _, _, _, _, _, _, rfl, g2, hS2⟩
    · rintro δ1 ⟨p', z3, z6, z7, z8, z9, z10, z11, z12, z13, rfl, g', hS'⟩
      refine ws_ret (we_call (wa_cons (we_var rfl (wa_cons (we_var rfl (wa_cons (we_op (we_call (wa_cons (we_var rfl (wa_cons (we_int (wa_nil ⟨⟨rfl, _, rfl, by decide, by decide⟩, ?_⟩)))))))))))))
      rintro _ ⟨n, x, e, rfl, hx0, hx1⟩
      cases e
      refine we_int (ro_int0 (wa_cons (we_op (we_call (wa_cons (we_var rfl (wa_cons (we_int (wa_nil ⟨⟨rfl, _, rfl, by decide, by decide⟩, ?_⟩)))))))))
      rintro _ ⟨n, y, e, rfl, hy0, hy1⟩
      cases e
      exact we_int (ro_int0 (wa_nil ⟨⟨tag, p', _, _, rfl, g', hn, hz⟩, fun r hr => hr⟩))
  obtain ⟨T2, h2, w2⟩ : ∃ T2, PSs (lcx P w K mg base g cdv A outer s H E) ((defBody s_law).drop 1) T2 ∧ ∀ B, B.T = ledT f c Pt → WS K B T2 [.no, .val .box, .no, .no, .no, .no, .no, .no, .no, .no, .no, .no, .no, .no] { nx := fun _ => False, rt := fun r => r = .bl true } := by
    refine ⟨_, (pss_cons (ps_set (i := 2) sc_law.nd rfl (Or.inl rfl) (pe_tupZ (pa_cons (pe_c C__law_word hr (by omega) (by rfl) (pa_cons (pv 1) (pa_cons pe_int pa_nil))) (pa_cons (pe_c C__law_laid hr (by omega) (by rfl) (pa_cons (pv 1) (pa_cons (pe_lst pa_nil) pa_nil))) pa_nil))))
      (pss_cons (ps_par (i := 4) (j := 5) (by rfl) sc_law.nd rfl rfl (by decide) rfl rfl (pa_cons (pe_make L.mkc CM_init.ok hr (by rfl) MG.m_Piece CM_init.bn .nil pass0 (pa_cons (pe_ix (show IxR _ (rIxT K) from ix_tup) (pv 2) pe_int (fun _ _ => rfl)) (pa_cons (pe_ix (show IxR _ (rIxT K) from ix_tup) (pv 2) pe_int (fun _ _ => rfl)) pa_nil))) (pa_cons (pe_callB (show CallR _ (.builtin "sum") (rSum K) from cr_sum rfl) (by rfl) G.g_sum (by decide +kernel) (pa_cons (pe_lc (own := [("_law_p", 13)]) (g := gName 13) (tt := tYes) rfl sc_law.nd (pi_list (pe_ix (show IxR _ (rIxT K) from ix_tup) (pv 2) pe_int (fun _ _ => rfl))) (blkOk_by (N := N_law) (sc := defScope s_law) (by decide +kernel)) (fun _ _ _ _ _ => pg_name (i := 13) sc_law.nd rfl (Or.inl rfl)) (fun _ _ _ _ _ => pts_nil) (fun _ _ _ _ _ => (pe_c C__law_area hr (by omega) (by rfl) (pa_cons (pv 13) pa_nil)))) pa_nil)) pa_nil)) (by rfl))
      h3)), fun B hT => ?_⟩
    try dsimp only [lcx, cxOf, Cx.nox, Cx.blk]
    refine ws_seq (ws_set (we_tup (wa_cons (we_call (wa_cons (we_var rfl (wa_cons (we_int (wa_nil ⟨⟨rfl, 6, rfl, by decide, by decide⟩, ?_⟩)))))))))
    rintro _ ⟨tag, rfl, hz6, hn⟩
    refine wa_cons (we_call (wa_cons (we_var rfl (wa_cons (we_lst (wa_nil ⟨by decide, wa_nil ⟨⟨rfl, .inl rfl⟩, ?_⟩⟩))))))
    rintro _ ⟨p, rfl, g0, _⟩
    refine wa_nil ⟨by show 2 ≤ 1000; decide, ?_⟩
    have g : Laid 200 p := ⟨g0.g.mono (by decide), g0.t, g0.s⟩
    have hz : tag.length ≤ 1000 := by omega
    have gl := g.g.l4
    have at0 : ∀ {a b : D}, atI [a, b] 0 = some a := rfl
    have at1 : ∀ {a b : D}, atI [a, b] 1 = some b := rfl
    try dsimp only [List.set]
    refine ws_seq (ws_par (wa_cons (we_makeJ (wa_cons (we_op (we_var rfl (we_int (ro_ixT at0 (wa_cons (we_op (we_var rfl (we_int (ro_ixT at1 (wa_nil ⟨⟨tag, p, rfl, hn, sm_tag hz, .inl rfl, g.g⟩, ?_⟩))))))))))))))
    intro d hd
    rw [pi_post hd (.inl rfl), g.self]
    clear hd
    refine wa_cons (we_cb (wa_cons (we_lcA (xs := p) polyD (fun q => .int (areaP q)) (by omega) (wi_list (we_op (we_var rfl (we_int (ro_ixT at1 ⟨_, rfl, rfl⟩))))) (fun q hm => ?_) ?_)))
    · try dsimp only [List.set]
      refine we_call (wa_cons (we_var (d := polyD q) rfl (wa_nil ⟨⟨q, rfl, by have := (g.g.cv q hm).h6; omega, fun c hc => upto_le (g.g.up q hm c hc) (by decide)⟩, ?_⟩)))
      rintro _ ⟨q', e, rfl⟩
      have e1 := prs_inj (D.tup.inj (List.cons.inj e).1)
      rw [e1]
    rw [show p.map (fun q => D.int (areaP q)) = (p.map areaP).map D.int by rw [List.map_map]; rfl]
    refine wa_nil (rc_sum (wa_nil ⟨_, _, rfl, ?_⟩))
    try dsimp only [List.set]
    exact w3 B tag p _ _ _ _ _ _ _ _ _ _ hT g hn hz rfl
  have hT : LamX.Tabs (ledT f c Pt) H := fun p hp => by
    rw [List.mem_singleton.mp hp]
    exact LamX.TabS.nil hP
  have key : ∃ t, PSs (lcx P w K mg base g cdv A outer s H E) (defBody s_law) t ∧ t { nx := fun _ H' => Q .non H', rt := Q } (start N_law [.ref a]) H := by
    refine ⟨_, pss_cons (ps_set (i := 1) sc_law.nd rfl (Or.inl rfl) (pe_c C__law_box hr (by omega) (by rfl) (pa_cons (pv 0) (pa_cons pe_int pa_nil)))) h2, ?_⟩
    refine ⟨_, rfl, ⟨a, ns, _, rfl, hS, hl, by decide, by decide, ledT f c Pt, hT, fun B G1 H1 hB sm ok => ?_⟩⟩
    obtain ⟨Ba, BT⟩ := B
    have hB' : BT = ledT f c Pt := hB
    subst hB'
    refine w2 ⟨Ba, ledT f c Pt⟩ rfl G1 H1 _ G1 H1 _ ⟨Go.refl, ok, rfl, fun i d e => ?_, fun i ds e => ?_, fun i j ds es x e1 => ?_⟩ xs0 (fun _ _ _ _ _ _ z => z.elim) ⟨fun v d G2 H2 _ _ hv e => ?_, fun _ _ _ _ _ _ _ _ _ _ _ _ z => z.elim⟩ (fun _ _ _ _ _ _ z => z.elim) (fun _ _ _ _ _ _ z => z.elim)
    · match i, e with
      | 0, e => cases e
      | 1, e => cases e; exact ⟨.ref Ba, rfl, .box⟩
      | 2, e => cases e
      | 3, e => cases e
      | 4, e => cases e
      | 5, e => cases e
      | 6, e => cases e
      | 7, e => cases e
      | 8, e => cases e
      | 9, e => cases e
      | 10, e => cases e
      | 11, e => cases e
      | 12, e => cases e
      | 13, e => cases e
      | n + 14, e => cases e
    · exact absurd e (by match i with
        | 0 => exact fun z => nomatch z
        | 1 => exact fun z => nomatch z
        | 2 => exact fun z => nomatch z
        | 3 => exact fun z => nomatch z
        | 4 => exact fun z => nomatch z
        | 5 => exact fun z => nomatch z
        | 6 => exact fun z => nomatch z
        | 7 => exact fun z => nomatch z
        | 8 => exact fun z => nomatch z
        | 9 => exact fun z => nomatch z
        | 10 => exact fun z => nomatch z
        | 11 => exact fun z => nomatch z
        | 12 => exact fun z => nomatch z
        | 13 => exact fun z => nomatch z
        | n + 14 => exact fun z => nomatch z)
    · exact absurd e1 (by match i with
        | 0 => exact fun z => nomatch z
        | 1 => exact fun z => nomatch z
        | 2 => exact fun z => nomatch z
        | 3 => exact fun z => nomatch z
        | 4 => exact fun z => nomatch z
        | 5 => exact fun z => nomatch z
        | 6 => exact fun z => nomatch z
        | 7 => exact fun z => nomatch z
        | 8 => exact fun z => nomatch z
        | 9 => exact fun z => nomatch z
        | 10 => exact fun z => nomatch z
        | 11 => exact fun z => nomatch z
        | 12 => exact fun z => nomatch z
        | 13 => exact fun z => nomatch z
        | n + 14 => exact fun z => nomatch z)
    · have e' : d = .bl true := e
      subst e'
      cases hv
      exact q H2
  obtain ⟨t, ht, hq⟩ := key
  exact ⟨t, ht, hq⟩

end
/-! #### Fzy -/
/-- what the top has written -/
structure Top (K : PySem.W.Frag) (mg : Str → Option Value) (CP fI fA fL fE fP fR pA fV fT fM CO CL CM fg cg : Addr) : Prop where
  G : Gn mg
  MG : PcT K mg CP
  MM : PmT K CP fA fL fR fP pA
  eq : OwnEq K CP fE
  nfo : PySem.W.notFirst K CP (.ref CP) = true
  mkc : Mk K CP fI
  m_mv : Meth K CP "moved" fV
  m_tn : Meth K CP "turned" fT
  m_mi : Meth K CP "mirrored" fM
  er : Er K mg "OutOfBounds" "OutOfBounds.__init__" CO s_OutOfBounds ["code"]
  m_LotError : mg "LotError" = some (.ref CL)
  m_Missing : mg "Missing" = some (.ref CM)
  mx : PySem.W.exmAny K (.ref CO) [.ref CL, .ref CM] = some true
  led : FunT K "_law_led" s__law_led fg cg
  m_led : mg "_law_led" = some (.ref fg)
  f_init : ∃ fd, Fun K "__init__" "Piece.__init__" s_Piece___init__ fI fd
  f_mv : ∃ fd, Fun K "moved" "Piece.moved" s_Piece_moved fV fd
  f_tn : ∃ fd, FunD K "turned" "Piece.turned" (defArgs s_Piece_turned) (defBody s_Piece_turned) (defScope s_Piece_turned) [.int 1] [] fT fd
  f_mi : ∃ fd, Fun K "mirrored" "Piece.mirrored" s_Piece_mirrored fM fd
  f_parts : ∃ fd, Fun K "parts" "Piece.parts" s_Piece_parts fP fd
  f_eq : ∃ fd, Fun K "__eq__" "Piece.__eq__" s_Piece___eq__ fE fd
  f_len : ∃ fd, Fun K "__len__" "Piece.__len__" s_Piece___len__ fL fd
  f_repr : ∃ fd, Fun K "__repr__" "Piece.__repr__" s_Piece___repr__ fR fd
  f_area : ∃ fd, Fun K "area" "Piece.area" s_Piece_area fA fd
  d_is_name : Df K mg "is_name" s_is_name
  d_is_any_number : Df K mg "is_any_number" s_is_any_number
  d_is_number_pair : Df K mg "is_number_pair" s_is_number_pair
  d_is_bounded_pair : Df K mg "is_bounded_pair" s_is_bounded_pair
  d_is_point : Df K mg "is_point" s_is_point
  d_cross : Df K mg "cross" s_cross
  d_turned_pair : Df K mg "turned_pair" s_turned_pair
  d_mirrored_pair : Df K mg "mirrored_pair" s_mirrored_pair
  d_moved_point : Df K mg "moved_point" s_moved_point
  d_minus : Df K mg "minus" s_minus
  d_dot : Df K mg "dot" s_dot
  d_bend : Df K mg "bend" s_bend
  d_is_part : Df K mg "is_part" s_is_part
  d_others_lie_left : Df K mg "others_lie_left" s_others_lie_left
  d_part_told : Df K mg "part_told" s_part_told
  d_edges : Df K mg "edges" s_edges
  d_area_twice : Df K mg "area_twice" s_area_twice
  d_overlap : Df K mg "overlap" s_overlap
  d_has_dividing_edge : Df K mg "has_dividing_edge" s_has_dividing_edge
  d_none_lies_left : Df K mg "none_lies_left" s_none_lies_left
  d_joined : Df K mg "joined" s_joined
  d_share_stretch : Df K mg "share_stretch" s_share_stretch
  d_first_loose : Df K mg "first_loose" s_first_loose
  d_moved_part : Df K mg "moved_part" s_moved_part
  d_turned_part : Df K mg "turned_part" s_turned_part
  d_mirrored_part : Df K mg "mirrored_part" s_mirrored_part
  d_check_parts : Df K mg "check_parts" s_check_parts
  d__law_box : Df K mg "_law_box" s__law_box
  d__law_take : Df K mg "_law_take" s__law_take
  d__law_pick : Df K mg "_law_pick" s__law_pick
  d__law_mixed : Df K mg "_law_mixed" s__law_mixed
  d__law_same : Df K mg "_law_same" s__law_same
  d__law_fields : Df K mg "_law_fields" s__law_fields
  d__law_got : Df K mg "_law_got" s__law_got
  d__law_letters : Df K mg "_law_letters" s__law_letters
  d__law_word : Df K mg "_law_word" s__law_word
  d__law_cross : Df K mg "_law_cross" s__law_cross
  d__law_is_whole : Df K mg "_law_is_whole" s__law_is_whole
  d__law_is_spot : Df K mg "_law_is_spot" s__law_is_spot
  d__law_edges : Df K mg "_law_edges" s__law_edges
  d__law_told : Df K mg "_law_told" s__law_told
  d__law_area : Df K mg "_law_area" s__law_area
  d__law_sent : Df K mg "_law_sent" s__law_sent
  d__law_quarter : Df K mg "_law_quarter" s__law_quarter
  d__law_flipped : Df K mg "_law_flipped" s__law_flipped
  d__law_arranged : Df K mg "_law_arranged" s__law_arranged
  d__law_rect : Df K mg "_law_rect" s__law_rect
  d__law_bowl : Df K mg "_law_bowl" s__law_bowl
  d__law_shape : Df K mg "_law_shape" s__law_shape
  d__law_hull : Df K mg "_law_hull" s__law_hull
  d__law_laid : Df K mg "_law_laid" s__law_laid
  d__law_piece_so : Df K mg "_law_piece_so" s__law_piece_so
  d__law_inside : Df K mg "_law_inside" s__law_inside
  d__law_all_spots : Df K mg "_law_all_spots" s__law_all_spots
  d__law_move : Df K mg "_law_move" s__law_move
  d__law_led : Df K mg "_law_led" s__law_led
  d__law_back_so : Df K mg "_law_back_so" s__law_back_so
theorem all_law {P : Program} {w : World} {K : PySem.W.Frag} {mg : Str → Option Value} {base : Heap} {f : Addr} {fd : FuncData} {CP fI fA fL fE fP fR pA fV fT fM CO CL CM fg cg Pt : Addr} (T : Top K mg CP fI fA fL fE fP fR pA fV fT fM CO CL CM fg cg) (TB : LamX.TabB base mg cg Pt) (F : Fun K "law" "law" s_law f fd) : FnOk P w K mg base CX0 20 f fd ["_law_script"] (spLaw K Pt) := by
  have G := T.G
  have MG := T.MG
  obtain ⟨dI, FI⟩ := T.f_init
  obtain ⟨dV, FV⟩ := T.f_mv
  obtain ⟨dT, FT⟩ := T.f_tn
  obtain ⟨dM, FM⟩ := T.f_mi
  obtain ⟨dA, FA⟩ := T.f_area
  obtain ⟨dP, FP⟩ := T.f_parts
  obtain ⟨dE, FE⟩ := T.f_eq
  obtain ⟨dL, FL⟩ := T.f_len
  obtain ⟨dR, FR⟩ := T.f_repr
  have c_is_any_number : ∀ n, Cl P w K mg base (n + 1) "is_any_number" s_is_any_number ["value"] (SpD K SmP fun ds r => r = bl1 isNum ds) := fun n => ok_is_any_number G T.d_is_any_number
  have c_is_number_pair : ∀ n, ClB P w K mg base (n + 2) "is_number_pair" s_is_number_pair "value" isNumPair := fun n => ok_is_number_pair G T.d_is_number_pair (c_is_any_number n)
  have c_is_bounded_pair : ∀ n, Cl P w K mg base (n + 3) "is_bounded_pair" s_is_bounded_pair ["value", "bound"] (SpD K (p2 fun d b => sm d = true ∧ ∃ i, b = .int i) fun ds r => r = f2 bnd ds) := fun n => ok_is_bounded_pair G T.d_is_bounded_pair (c_is_number_pair n)
  have c_is_point : ∀ n, ClB P w K mg base (n + 4) "is_point" s_is_point "value" (isBnd 200) := fun n => ok_is_point G T.d_is_point (c_is_bounded_pair n)
  have c_is_name : ∀ n, ClB P w K mg base (n + 1) "is_name" s_is_name "value" isName := fun n => ok_is_name G T.d_is_name
  have c__law_letters : ∀ n, ClL P w K mg base (n + 1) := fun n => ok__law_letters T.d__law_letters
  have c__law_take : ∀ n, ClT P w K mg base (n + 1) := fun n => ok__law_take G T.d__law_take
  have c__law_pick : ∀ n, ClP P w K mg base (n + 2) := fun n => ok__law_pick G T.d__law_pick (c__law_take n)
  have c__law_word : ∀ n, ClW P w K mg base (n + 2) := fun n => ok__law_word G T.d__law_word (c__law_take n) (c__law_letters n)
  have c_cross : ∀ n, ClCr P w K mg base (n + 1) := fun n => ok_cross T.d_cross
  have c_minus : ∀ n, ClMi P w K mg base (n + 1) := fun n => ok_minus T.d_minus
  have c_bend : ∀ n, ClBn P w K mg base (n + 2) := fun n => ok_bend T.d_bend (c_cross n) (c_minus n)
  have c__law_cross : ∀ n, ClLc P w K mg base (n + 1) := fun n => ok__law_cross T.d__law_cross
  have c_part_told : ∀ n, ClPt P w K mg base (n + 1) := fun n => ok_part_told G T.d_part_told
  have c__law_told : ∀ n, ClTd P w K mg base (n + 1) := fun n => ok__law_told G T.d__law_told
  have c__law_edges : ∀ n, ClEg P w K mg base (n + 1) := fun n => ok__law_edges G T.d__law_edges
  have c__law_area : ∀ n, ClAr P w K mg base (n + 2) := fun n => ok__law_area G T.d__law_area (c__law_cross n) (c__law_edges n)
  have c__law_sent : ∀ n, ClSe P w K mg base (n + 1) := fun n => ok__law_sent G T.d__law_sent
  have c__law_rect : ∀ n, ClRe P w K mg base (n + 1) := fun n => ok__law_rect T.d__law_rect
  have c_edges : ∀ n, ClEd P w K mg base (n + 1) := fun n => ok_edges G T.d_edges
  have c_area_twice : ∀ n, ClAt P w K mg base (n + 2) := fun n => ok_area_twice G T.d_area_twice (c_cross n) (c_edges n)
  have c_others_lie_left : ∀ n, ClOl P w K mg base (n + 3) := fun n => ok_others_lie_left G T.d_others_lie_left (c_bend n)
  have c_is_part : ∀ n, ClB P w K mg base (n + 5) "is_part" s_is_part "value" isPoly := fun n => ok_is_part G T.d_is_part (c_is_point n) (c_others_lie_left (n + 1))
  have c_dot : ∀ n, ClDo P w K mg base (n + 1) := fun n => ok_dot T.d_dot
  have c_none_lies_left : ∀ n, ClNl P w K mg base (n + 3) := fun n => ok_none_lies_left G T.d_none_lies_left (c_bend n)
  have c_has_dividing_edge : ∀ n, ClHd P w K mg base (n + 4) := fun n => ok_has_dividing_edge G T.d_has_dividing_edge (c_edges (n + 2)) (c_none_lies_left n)
  have c_overlap : ∀ n, ClOv P w K mg base (n + 5) := fun n => ok_overlap G T.d_overlap (c_has_dividing_edge n)
  have c_share_stretch : ∀ n, ClSs P w K mg base (n + 3) := fun n => ok_share_stretch G T.d_share_stretch (c_bend n) (c_minus (n + 1)) (c_dot (n + 1))
  have c_joined : ∀ n, ClJo P w K mg base (n + 6) := fun n => ok_joined G T.d_joined (c_overlap n) (c_edges (n + 4)) (c_share_stretch (n + 2))
  have c__law_quarter : ∀ n, ClQu P w K mg base (n + 1) := fun n => ok__law_quarter G T.d__law_quarter
  have c__law_mixed0 : ∀ n, ClMx P w K mg base (n + 2) := fun n => ok__law_mixed G T.d__law_mixed (c__law_take n)
  have c__law_mixed : ∀ n, ClMf P w K mg base (n + 2) := fun n => mx_frz (c__law_mixed0 n)
  have c__law_bowl : ∀ n, ClBo P w K mg base (n + 3) := fun n => ok__law_bowl G T.d__law_bowl (c__law_mixed n) (c__law_pick n)
  have c__law_shape : ∀ n, ClSh P w K mg base (n + 4) := fun n => ok__law_shape G T.d__law_shape (c__law_take (n + 2)) (c__law_bowl n) (c__law_rect (n + 2))
  have c__law_arranged : ∀ n, ClAg P w K mg base (n + 2) := fun n => ok__law_arranged G T.d__law_arranged (c__law_told n)
  have c__law_hull : ∀ n, ClHu P w K mg base (n + 1) := fun n => ok__law_hull G T.d__law_hull
  have c__law_laid : ∀ n, ClLd P w K mg base (n + 5) := fun n => ok__law_laid G T.d__law_laid (c__law_take (n + 3)) (c__law_shape n) (c__law_quarter (n + 3)) (c__law_sent (n + 3)) (c__law_arranged (n + 2)) (c__law_hull (n + 3)) (c__law_pick (n + 2))
  have c_first_loose : ∀ n, ClFl P w K mg base (n + 7) := fun n => ok_first_loose G T.d_first_loose (c_joined n)
  have c_check_parts : ∀ n, ClCk P w K mg base (n + 8) := fun n => ok_check_parts G MG T.d_check_parts (c_is_part (n + 2)) (c_overlap (n + 2)) (c_first_loose n)
  have c_turned_pair : ∀ n, ClTp P w K mg base (n + 1) := fun n => ok_turned_pair G T.d_turned_pair
  have c_mirrored_pair : ∀ n, ClMp P w K mg base (n + 1) := fun n => ok_mirrored_pair T.d_mirrored_pair
  have c_turned_part : ∀ n, ClTt P w K mg base (n + 2) := fun n => ok_turned_part G T.d_turned_part (c_turned_pair n)
  have c_mirrored_part : ∀ n, ClMm P w K mg base (n + 2) := fun n => ok_mirrored_part G T.d_mirrored_part (c_mirrored_pair n)
  have c__law_fields : ∀ n, ClF P w K mg base (n + 1) := fun n => ok__law_fields T.d__law_fields
  have c__law_is_whole : ∀ n, ClB P w K mg base (n + 1) "_law_is_whole" s__law_is_whole "_law_x" isNum := fun n => ok__law_is_whole G T.d__law_is_whole
  have c__law_is_spot : ∀ n, ClB P w K mg base (n + 2) "_law_is_spot" s__law_is_spot "_law_x" (isBnd 200) := fun n => ok__law_is_spot G T.d__law_is_spot (c__law_is_whole n)
  have c__law_flipped : ∀ n, ClFlp P w K mg base (n + 1) := fun n => ok__law_flipped G T.d__law_flipped
  have c__law_inside : ∀ n, ClIns P w K mg base (n + 3) := fun n => ok__law_inside G T.d__law_inside (c__law_is_spot n)
  have c__law_all_spots : ∀ n, ClAsp P w K mg base (n + 1) := fun n => ok__law_all_spots G T.d__law_all_spots
  have c__law_move : ∀ n, ClMov P w K mg base (n + 3) := fun n => ok__law_move G T.d__law_move (c__law_take (n + 1)) (c__law_hull (n + 1)) (c__law_pick n)
  have c_ob : ∀ n, RzO P w K mg base (n + 1) CO := fun n => ok_OutOfBounds T.er
  have c_mpt : ∀ n, ClMv P w K mg base CO (n + 5) := fun n => ok_moved_point (k := n + 3) G T.d_moved_point (c_is_point n) (c_ob (n + 2))
  have c_mpa : ∀ n, ClMt P w K mg base CO (n + 6) := fun n => ok_moved_part (k := n + 5) G T.d_moved_part (c_mpt n)
  have c_box : Cl P w K mg base 19 "_law_box" s__law_box ["_law_script", "_law_own"] (spBox K) := by
    obtain ⟨f, fd, F, hm⟩ := T.d__law_box.ex
    exact ⟨f, fd, F, ok__law_box (k := 18) G F, hm, F.binds fun _ _ _ _ _ _ us hl => match us, hl with | [_, _], _ => rfl⟩
  have c_same : ∀ m, 6 ≤ m → ClS P w K mg base m 5 := fun m hm => by
    have := ok__law_same (P := P) (w := w) (base := base) (k := m - 6) G T.d__law_same 5
    have e : m - 6 + 5 + 1 = m := by omega
    rwa [e] at this
  have m_init : ∀ n, ClM P w K mg base (n + 9) fI dI ["self", "name", "parts"] (inSp K CP) := fun n => ok_Piece___init__ G FI (c_is_name (n + 7)) (c_check_parts n) (c_part_told (n + 7)) MG.cl MG.nn MG.np
  have m_mv : ∀ n, ClMz P w K mg base (n + 9 + 2) fV dV ["self", "right", "up"] (SpX K (mvPre CP) (mvPost CP) (mvExc CP CO)) := fun n => ok_Piece_moved (k := n + 9) G MG T.mkc FV (m_init n) (c_mpa (n + 4))
  have m_tn : ∀ n, ClM P w K mg base (n + 9 + 2) fT dT ["self", "quarters"] (SpD K (tnPre CP) (tnPost CP)) := fun n => ok_Piece_turned (k := n + 9) G MG T.mkc FT (m_init n) (c_turned_part (n + 8))
  have m_mi : ∀ n, ClM P w K mg base (n + 9 + 2) fM dM ["self"] (SpD K (p1 (PcN CP)) (miPost CP)) := fun n => ok_Piece_mirrored (k := n + 9) G MG T.mkc FM (m_init n) (c_mirrored_part (n + 8))
  have m_area : ∀ n, ClM P w K mg base (n + 3) fA dA ["self"] _ := fun n => ok_Piece_area G MG FA (c_area_twice n)
  have m_len : ∀ n, ClM P w K mg base (n + 1) fL dL ["self"] _ := fun n => ok_Piece___len__ G MG FL
  have m_eq : ∀ n, ClM P w K mg base (n + 1) fE dE ["self", "other"] (eqSp K CP) := fun n => ok_Piece___eq__ G MG FE
  have m_parts : ∀ n, ClM P w K mg base (n + 1) fP dP ["self"] (SpN K (p1 (PcD CP)) (ptsPost CP)) := fun n => ok_Piece_parts G MG FP
  have m_repr : ∀ n, ClM P w K mg base (n + 1) fR dR ["self"] _ := fun n => ok_Piece___repr__ G MG FR
  have k_mv : KBn K dV ["self", "right", "up"] 1 ["up", "right"] (fun us ws => us ++ ws.reverse) (fun us ws => us ++ ws.reverse) := kb_any (ps := ["self", "right", "up"]) (ks := ["up", "right"]) (n := 1) FV (fun _ _ _ _ _ _ us ws l1 l2 => match us, ws, l1, l2 with | [_], [_, _], _, _ => rfl)
  have k_tn : KBn K dT ["self", "quarters"] 1 ["quarters"] (fun us ws => us ++ ws.reverse) (fun us ws => us ++ ws.reverse) := kb_dflt FT (List.cons_ne_nil _ _) (fun T _ _ _ _ _ _ us its ws l1 l2 l3 => match us, its, ws, l1, l2, l3 with | [_], [_], [_], _, _, _ => ⟨_, rfl, rfl⟩)
  have b_tn : ∃ ds, Vals [V.int 1] ds ∧ L2.Binds K dT ["self", "quarters"] ds := bd_dflt (n := 1) FT (List.cons_ne_nil _ _) rfl (fun T _ _ _ _ _ _ us its l1 l2 => match us, its, l1, l2 with | [_], [_], _, _ => ⟨_, rfl, rfl⟩)
  have c_so : ClPs P w K mg base CP 19 := ok__law_piece_so (k := 17) G MG T.MM T.d__law_piece_so (m_area 14) (m_len 16) (m_repr 16) ((m_parts 17).frz fun ds es h => ⟨es, h, rfl⟩) (c__law_arranged 16) (c__law_area 16) (c_same 18 (by decide))
  have c_led : ClLe P w K mg base CP fg cg Pt 19 := ok__law_led (k := 16) (kF := 1) G MG T.led T.m_led TB T.d__law_got T.m_LotError T.m_Missing (c__law_fields 0) (by decide) ⟨T.er.xf, T.er.n _ (List.mem_singleton.mpr rfl), T.mx⟩ T.m_mv T.m_tn T.m_mi (m_mv 5) k_mv (m_tn 5) k_tn b_tn (m_mi 5)
  have c_back : ClBck P w K mg base CP 19 := ok__law_back_so (k := 18) G MG T.d__law_back_so T.eq T.nfo T.m_mv T.m_tn T.m_mi (m_mv 7) (m_tn 7) b_tn (m_mi 7) (m_eq 17) (c_same 18 (by decide)) (c__law_inside 15) (c__law_all_spots 17)
  exact ok_law (k := 18) ⟨G, MG, T.mkc, T.MM.p_area, c_box, (c__law_take 18), (c__law_pick 17), (c__law_word 17), (c__law_laid 14), (c__law_area 17), (c__law_arranged 17), (c__law_move 16), (c__law_sent 18), (c__law_quarter 18), (c__law_flipped 18), (c__law_inside 16), (c__law_all_spots 18), c_same 19 (by decide), c_so, c_led, c_back, m_init 9, m_area 15⟩ F
theorem top_hk {K : PySem.W.Frag} {h : Heap} {mg : Str → Option Value} (X : K.In h) (G : h.Ns mainGlobals mg) (c : He5.SaysA hFa hFn K) (hB : hEx K = true) : Top K mg (He.ga K "Piece") (He.ma K (He.ga K "Piece") "__init__") (He5.wf K (He.ga K "Piece") "property" "area") (He.ma K (He.ga K "Piece") "__len__") (He.ma K (He.ga K "Piece") "__eq__") (He.ma K (He.ga K "Piece") "parts") (He.ma K (He.ga K "Piece") "__repr__") (He.ma K (He.ga K "Piece") "area") (He.ma K (He.ga K "Piece") "moved") (He.ma K (He.ga K "Piece") "turned") (He.ma K (He.ga K "Piece") "mirrored") (He.ga K "OutOfBounds") (He.ga K "LotError") (He.ga K "Missing") (He.ga K "_law_led") (He.cT K ("_law_led", none)).1 := by
  obtain ⟨b1, hB⟩ := He.ba hB
  obtain ⟨b2, hB⟩ := He.ba hB
  obtain ⟨b3, hB⟩ := He.ba hB
  obtain ⟨b4, hB⟩ := He.ba hB
  obtain ⟨b5, hB⟩ := He.ba hB
  obtain ⟨b6, hB⟩ := He.ba hB
  obtain ⟨b7, hB⟩ := He.ba hB
  obtain ⟨b8, hB⟩ := He.ba hB
  obtain ⟨b9, hB⟩ := He.ba hB
  obtain ⟨b10, b11⟩ := He.ba hB
  have cl := (He.cls_ok (c.fact (fa := hFa) (fn := hFn) 88 (f := .cls "Piece") rfl))
  have mL := (He.meth_ok (c.fact (fa := hFa) (fn := hFn) 98 (f := .meth "Piece" "__len__") rfl))
  have mR := (He.meth_ok (c.fact (fa := hFa) (fn := hFn) 99 (f := .meth "Piece" "__repr__") rfl))
  obtain ⟨u, cv⟩ := qVal_ok b3
  exact ⟨⟨He.free_ok X G (c.fact (fa := hFa) (fn := hFn) 62 (f := .free "isinstance") rfl), He.free_ok X G (c.fact (fa := hFa) (fn := hFn) 63 (f := .free "int") rfl), He.free_ok X G (c.fact (fa := hFa) (fn := hFn) 64 (f := .free "bool") rfl), He.free_ok X G (c.fact (fa := hFa) (fn := hFn) 65 (f := .free "str") rfl), He.free_ok X G (c.fact (fa := hFa) (fn := hFn) 66 (f := .free "tuple") rfl), He.free_ok X G (c.fact (fa := hFa) (fn := hFn) 67 (f := .free "list") rfl), He.free_ok X G (c.fact (fa := hFa) (fn := hFn) 68 (f := .free "dict") rfl), He.free_ok X G (c.fact (fa := hFa) (fn := hFn) 69 (f := .free "len") rfl), He.free_ok X G (c.fact (fa := hFa) (fn := hFn) 70 (f := .free "abs") rfl), He.free_ok X G (c.fact (fa := hFa) (fn := hFn) 71 (f := .free "all") rfl), He.free_ok X G (c.fact (fa := hFa) (fn := hFn) 72 (f := .free "any") rfl), He.free_ok X G (c.fact (fa := hFa) (fn := hFn) 73 (f := .free "range") rfl), He.free_ok X G (c.fact (fa := hFa) (fn := hFn) 74 (f := .free "sum") rfl), He.free_ok X G (c.fact (fa := hFa) (fn := hFn) 75 (f := .free "min") rfl), He.free_ok X G (c.fact (fa := hFa) (fn := hFn) 76 (f := .free "max") rfl), He.free_ok X G (c.fact (fa := hFa) (fn := hFn) 77 (f := .free "sorted") rfl), He.free_ok X G (c.fact (fa := hFa) (fn := hFn) 78 (f := .free "zip") rfl), He.free_ok X G (c.fact (fa := hFa) (fn := hFn) 79 (f := .free "enumerate") rfl), He.free_ok X G (c.fact (fa := hFa) (fn := hFn) 80 (f := .free "repr") rfl), He.free_ok X G (c.fact (fa := hFa) (fn := hFn) 81 (f := .free "ValueError") rfl), He.free_ok X G (c.fact (fa := hFa) (fn := hFn) 82 (f := .free "LookupError") rfl), He.str_ok X G (c.fact (fa := hFa) (fn := hFn) 87 (f := .str "LETTERS" "abcdefghijklmnopqrstuvwxyz") rfl), He.int_ok X G (c.fact (fa := hFa) (fn := hFn) 83 (f := .int "MOST_LETTERS" 6) rfl), He.int_ok X G (c.fact (fa := hFa) (fn := hFn) 84 (f := .int "POINT_BOUND" 200) rfl), He.int_ok X G (c.fact (fa := hFa) (fn := hFn) 85 (f := .int "LEAST_CORNERS" 3) rfl), He.int_ok X G (c.fact (fa := hFa) (fn := hFn) 86 (f := .int "MOST_CORNERS" 6) rfl)⟩,
    ⟨(He.glo_ok X G (c.fact (fa := hFa) (fn := hFn) 58 (f := .glo "Piece") rfl)), ⟨_, u, qCls_read b1, cv⟩, cl, (He.noat_ok (c.fact (fa := hFa) (fn := hFn) 90 (f := .noat "Piece" "name") rfl)), (He.noat_ok (c.fact (fa := hFa) (fn := hFn) 91 (f := .noat "Piece" "_parts") rfl)), fun e => qCls_ty b1 cl e, qKit_ok b6, qKit_ok b7, qKit_ok b8⟩,
    ⟨(He.meth_ok (c.fact (fa := hFa) (fn := hFn) 96 (f := .meth "Piece" "parts") rfl)), qProp_ok b2, mL.at_, mL.fn, mR.at_, mR.fn⟩,
    qEq_ok b4, b5, (He.mkr_ok (c.fact (fa := hFa) (fn := hFn) 89 (f := .mkr "Piece") rfl)), (He.meth_ok (c.fact (fa := hFa) (fn := hFn) 93 (f := .meth "Piece" "moved") rfl)), (He.meth_ok (c.fact (fa := hFa) (fn := hFn) 94 (f := .meth "Piece" "turned") rfl)), (He.meth_ok (c.fact (fa := hFa) (fn := hFn) 95 (f := .meth "Piece" "mirrored") rfl)),
    er_hk X G b9 b10 (c.fact (fa := hFa) (fn := hFn) 61 (f := .glo "OutOfBounds") rfl) (c.fact (fa := hFa) (fn := hFn) 100 (f := .meth "OutOfBounds" "__init__") rfl) (c.def_ (fa := hFa) (fn := hFn) 66 rfl), (He.glo_ok X G (c.fact (fa := hFa) (fn := hFn) 59 (f := .glo "LotError") rfl)), (He.glo_ok X G (c.fact (fa := hFa) (fn := hFn) 60 (f := .glo "Missing") rfl)), of_decide_eq_true b11, ft_hk (c.def_ (fa := hFa) (fn := hFn) 55 rfl), (He.glo_ok X G (c.fact (fa := hFa) (fn := hFn) 55 (f := .glo "_law_led") rfl)),
    fa_hk (c.def_ (fa := hFa) (fn := hFn) 58 rfl), fa_hk (c.def_ (fa := hFa) (fn := hFn) 59 rfl), (c.def_ (fa := hFa) (fn := hFn) 60 rfl), fa_hk (c.def_ (fa := hFa) (fn := hFn) 61 rfl), fa_hk (c.def_ (fa := hFa) (fn := hFn) 62 rfl), fa_hk (c.def_ (fa := hFa) (fn := hFn) 63 rfl), fa_hk (c.def_ (fa := hFa) (fn := hFn) 64 rfl), fa_hk (c.def_ (fa := hFa) (fn := hFn) 65 rfl), fa_hk (c.def_ (fa := hFa) (fn := hFn) 67 rfl),
    df_hk X G (c.fact (fa := hFa) (fn := hFn) 0 (f := .glo "is_name") rfl) (c.def_ (fa := hFa) (fn := hFn) 0 rfl),
    df_hk X G (c.fact (fa := hFa) (fn := hFn) 1 (f := .glo "is_any_number") rfl) (c.def_ (fa := hFa) (fn := hFn) 1 rfl),
    df_hk X G (c.fact (fa := hFa) (fn := hFn) 2 (f := .glo "is_number_pair") rfl) (c.def_ (fa := hFa) (fn := hFn) 2 rfl),
    df_hk X G (c.fact (fa := hFa) (fn := hFn) 3 (f := .glo "is_bounded_pair") rfl) (c.def_ (fa := hFa) (fn := hFn) 3 rfl),
    df_hk X G (c.fact (fa := hFa) (fn := hFn) 4 (f := .glo "is_point") rfl) (c.def_ (fa := hFa) (fn := hFn) 4 rfl),
    df_hk X G (c.fact (fa := hFa) (fn := hFn) 5 (f := .glo "cross") rfl) (c.def_ (fa := hFa) (fn := hFn) 5 rfl),
    df_hk X G (c.fact (fa := hFa) (fn := hFn) 6 (f := .glo "turned_pair") rfl) (c.def_ (fa := hFa) (fn := hFn) 6 rfl),
    df_hk X G (c.fact (fa := hFa) (fn := hFn) 7 (f := .glo "mirrored_pair") rfl) (c.def_ (fa := hFa) (fn := hFn) 7 rfl),
    df_hk X G (c.fact (fa := hFa) (fn := hFn) 8 (f := .glo "moved_point") rfl) (c.def_ (fa := hFa) (fn := hFn) 8 rfl),
    df_hk X G (c.fact (fa := hFa) (fn := hFn) 9 (f := .glo "minus") rfl) (c.def_ (fa := hFa) (fn := hFn) 9 rfl),
    df_hk X G (c.fact (fa := hFa) (fn := hFn) 10 (f := .glo "dot") rfl) (c.def_ (fa := hFa) (fn := hFn) 10 rfl),
    df_hk X G (c.fact (fa := hFa) (fn := hFn) 11 (f := .glo "bend") rfl) (c.def_ (fa := hFa) (fn := hFn) 11 rfl),
    df_hk X G (c.fact (fa := hFa) (fn := hFn) 12 (f := .glo "is_part") rfl) (c.def_ (fa := hFa) (fn := hFn) 12 rfl),
    df_hk X G (c.fact (fa := hFa) (fn := hFn) 13 (f := .glo "others_lie_left") rfl) (c.def_ (fa := hFa) (fn := hFn) 13 rfl),
    df_hk X G (c.fact (fa := hFa) (fn := hFn) 14 (f := .glo "part_told") rfl) (c.def_ (fa := hFa) (fn := hFn) 14 rfl),
    df_hk X G (c.fact (fa := hFa) (fn := hFn) 15 (f := .glo "edges") rfl) (c.def_ (fa := hFa) (fn := hFn) 15 rfl),
    df_hk X G (c.fact (fa := hFa) (fn := hFn) 16 (f := .glo "area_twice") rfl) (c.def_ (fa := hFa) (fn := hFn) 16 rfl),
    df_hk X G (c.fact (fa := hFa) (fn := hFn) 17 (f := .glo "overlap") rfl) (c.def_ (fa := hFa) (fn := hFn) 17 rfl),
    df_hk X G (c.fact (fa := hFa) (fn := hFn) 18 (f := .glo "has_dividing_edge") rfl) (c.def_ (fa := hFa) (fn := hFn) 18 rfl),
    df_hk X G (c.fact (fa := hFa) (fn := hFn) 19 (f := .glo "none_lies_left") rfl) (c.def_ (fa := hFa) (fn := hFn) 19 rfl),
    df_hk X G (c.fact (fa := hFa) (fn := hFn) 20 (f := .glo "joined") rfl) (c.def_ (fa := hFa) (fn := hFn) 20 rfl),
    df_hk X G (c.fact (fa := hFa) (fn := hFn) 21 (f := .glo "share_stretch") rfl) (c.def_ (fa := hFa) (fn := hFn) 21 rfl),
    df_hk X G (c.fact (fa := hFa) (fn := hFn) 22 (f := .glo "first_loose") rfl) (c.def_ (fa := hFa) (fn := hFn) 22 rfl),
    df_hk X G (c.fact (fa := hFa) (fn := hFn) 23 (f := .glo "moved_part") rfl) (c.def_ (fa := hFa) (fn := hFn) 23 rfl),
    df_hk X G (c.fact (fa := hFa) (fn := hFn) 24 (f := .glo "turned_part") rfl) (c.def_ (fa := hFa) (fn := hFn) 24 rfl),
    df_hk X G (c.fact (fa := hFa) (fn := hFn) 25 (f := .glo "mirrored_part") rfl) (c.def_ (fa := hFa) (fn := hFn) 25 rfl),
    df_hk X G (c.fact (fa := hFa) (fn := hFn) 26 (f := .glo "check_parts") rfl) (c.def_ (fa := hFa) (fn := hFn) 26 rfl),
    df_hk X G (c.fact (fa := hFa) (fn := hFn) 27 (f := .glo "_law_box") rfl) (c.def_ (fa := hFa) (fn := hFn) 27 rfl),
    df_hk X G (c.fact (fa := hFa) (fn := hFn) 28 (f := .glo "_law_take") rfl) (c.def_ (fa := hFa) (fn := hFn) 28 rfl),
    df_hk X G (c.fact (fa := hFa) (fn := hFn) 29 (f := .glo "_law_pick") rfl) (c.def_ (fa := hFa) (fn := hFn) 29 rfl),
    df_hk X G (c.fact (fa := hFa) (fn := hFn) 30 (f := .glo "_law_mixed") rfl) (c.def_ (fa := hFa) (fn := hFn) 30 rfl),
    df_hk X G (c.fact (fa := hFa) (fn := hFn) 31 (f := .glo "_law_same") rfl) (c.def_ (fa := hFa) (fn := hFn) 31 rfl),
    df_hk X G (c.fact (fa := hFa) (fn := hFn) 32 (f := .glo "_law_fields") rfl) (c.def_ (fa := hFa) (fn := hFn) 32 rfl),
    df_hk X G (c.fact (fa := hFa) (fn := hFn) 33 (f := .glo "_law_got") rfl) (c.def_ (fa := hFa) (fn := hFn) 33 rfl),
    df_hk X G (c.fact (fa := hFa) (fn := hFn) 34 (f := .glo "_law_letters") rfl) (c.def_ (fa := hFa) (fn := hFn) 34 rfl),
    df_hk X G (c.fact (fa := hFa) (fn := hFn) 35 (f := .glo "_law_word") rfl) (c.def_ (fa := hFa) (fn := hFn) 35 rfl),
    df_hk X G (c.fact (fa := hFa) (fn := hFn) 36 (f := .glo "_law_cross") rfl) (c.def_ (fa := hFa) (fn := hFn) 36 rfl),
    df_hk X G (c.fact (fa := hFa) (fn := hFn) 37 (f := .glo "_law_is_whole") rfl) (c.def_ (fa := hFa) (fn := hFn) 37 rfl),
    df_hk X G (c.fact (fa := hFa) (fn := hFn) 38 (f := .glo "_law_is_spot") rfl) (c.def_ (fa := hFa) (fn := hFn) 38 rfl),
    df_hk X G (c.fact (fa := hFa) (fn := hFn) 39 (f := .glo "_law_edges") rfl) (c.def_ (fa := hFa) (fn := hFn) 39 rfl),
    df_hk X G (c.fact (fa := hFa) (fn := hFn) 40 (f := .glo "_law_told") rfl) (c.def_ (fa := hFa) (fn := hFn) 40 rfl),
    df_hk X G (c.fact (fa := hFa) (fn := hFn) 41 (f := .glo "_law_area") rfl) (c.def_ (fa := hFa) (fn := hFn) 41 rfl),
    df_hk X G (c.fact (fa := hFa) (fn := hFn) 42 (f := .glo "_law_sent") rfl) (c.def_ (fa := hFa) (fn := hFn) 42 rfl),
    df_hk X G (c.fact (fa := hFa) (fn := hFn) 43 (f := .glo "_law_quarter") rfl) (c.def_ (fa := hFa) (fn := hFn) 43 rfl),
    df_hk X G (c.fact (fa := hFa) (fn := hFn) 44 (f := .glo "_law_flipped") rfl) (c.def_ (fa := hFa) (fn := hFn) 44 rfl),
    df_hk X G (c.fact (fa := hFa) (fn := hFn) 45 (f := .glo "_law_arranged") rfl) (c.def_ (fa := hFa) (fn := hFn) 45 rfl),
    df_hk X G (c.fact (fa := hFa) (fn := hFn) 46 (f := .glo "_law_rect") rfl) (c.def_ (fa := hFa) (fn := hFn) 46 rfl),
    df_hk X G (c.fact (fa := hFa) (fn := hFn) 47 (f := .glo "_law_bowl") rfl) (c.def_ (fa := hFa) (fn := hFn) 47 rfl),
    df_hk X G (c.fact (fa := hFa) (fn := hFn) 48 (f := .glo "_law_shape") rfl) (c.def_ (fa := hFa) (fn := hFn) 48 rfl),
    df_hk X G (c.fact (fa := hFa) (fn := hFn) 49 (f := .glo "_law_hull") rfl) (c.def_ (fa := hFa) (fn := hFn) 49 rfl),
    df_hk X G (c.fact (fa := hFa) (fn := hFn) 50 (f := .glo "_law_laid") rfl) (c.def_ (fa := hFa) (fn := hFn) 50 rfl),
    df_hk X G (c.fact (fa := hFa) (fn := hFn) 51 (f := .glo "_law_piece_so") rfl) (c.def_ (fa := hFa) (fn := hFn) 51 rfl),
    df_hk X G (c.fact (fa := hFa) (fn := hFn) 52 (f := .glo "_law_inside") rfl) (c.def_ (fa := hFa) (fn := hFn) 52 rfl),
    df_hk X G (c.fact (fa := hFa) (fn := hFn) 53 (f := .glo "_law_all_spots") rfl) (c.def_ (fa := hFa) (fn := hFn) 53 rfl),
    df_hk X G (c.fact (fa := hFa) (fn := hFn) 54 (f := .glo "_law_move") rfl) (c.def_ (fa := hFa) (fn := hFn) 54 rfl),
    df_hk X G (c.fact (fa := hFa) (fn := hFn) 55 (f := .glo "_law_led") rfl) (c.def_ (fa := hFa) (fn := hFn) 55 rfl),
    df_hk X G (c.fact (fa := hFa) (fn := hFn) 56 (f := .glo "_law_back_so") rfl) (c.def_ (fa := hFa) (fn := hFn) 56 rfl)⟩
theorem facts {P : Program} {w : World} {K : PySem.W.Frag} {h : Heap} {mg : Str → Option Value} {f : Addr} (X : K.In h) (G : h.Ns mainGlobals mg) (hfa : mg ("law" : Str) = some (.ref f)) (c : He5.SaysA hFa hFn K) (hB : hEx K = true) :
    ∃ fd : FuncData, (∀ (s : Shared) (v : Value), BindsTo s fd ⟨[v], []⟩ [("_law_script", v)]) ∧ ∀ base : Heap, K.In base → base.Ns mainGlobals mg → (∀ p ∈ [He.cT K ("_law_led", none)], LamX.TabB base mg p.1 p.2) → FnOk P w K mg base CX0 20 f fd ["_law_script"] (spLaw K (He.cT K ("_law_led", none)).2) := by
  obtain ⟨fd, F⟩ := (c.def_ (fa := hFa) (fn := hFn) 57 rfl)
  have e := hfa.symm.trans (He.glo_ok X G (c.fact (fa := hFa) (fn := hFn) 57 (f := .glo "law") rfl))
  cases e
  have b := FunD.bindsA (ps := ["_law_script"]) F fun _ _ _ _ _ _ us hl => match us, hl with | [_], _ => rfl
  exact ⟨fd, fun s v => b s [v] rfl, fun base _ _ TBs => have TB := TBs _ (List.mem_singleton.mpr rfl); all_law (top_hk X G c hB) TB (fn_hk F)⟩
end K08
open PySem PySem.W PySem.Calls PyProof.Rows
set_option maxRecDepth 100000 in
set_option maxHeartbeats 0 in
theorem PySem.Challenge.cw_stucklots_k08_whole_pieces_moved_and_tur_holds : PySem.Challenge.rw_stucklots_k08_whole_pieces_moved_and_tur.Holds := by
  w_on; o_law
  refine HandSHeadRun.head_any (r := OpenLaw.row PySem.Challenge.rw_stucklots_k08_whole_pieces_moved_and_tur) (q := view (OpenLaw.row PySem.Challenge.rw_stucklots_k08_whole_pieces_moved_and_tur).prog [78]) (H := K08.hk) (ob := K08.hOb) (M := 30000) (loose := K08.hNm) (d := HandSHeadRun.topDef (OpenLaw.row PySem.Challenge.rw_stucklots_k08_whole_pieces_moved_and_tur).prog 78) (kwd := []) K08.hOb_eq
    (by kernel_rfl) (fun s => by kernel_rfl) K08.run (by kernel_rfl) (by kernel_rfl) (by kernel_rfl) (by rfl) (by first | assumption | decide +kernel) (by decide +kernel) ⟨rfl, rfl, rfl, rfl, rfl, by decide +kernel⟩ ?hw ?hc
  case hw => w_witness2
  case hc =>
    refine Dl.walk_ofY (l := PySem.Challenge.rw_stucklots_k08_whole_pieces_moved_and_tur) (n := 63) (k := 20) (x := "_law_script") (CX := L2.CX0) rfl (by decide) (by kernel_rfl) ⟨rfl, by decide, by decide⟩ ?F (fun _ _ _ _ z => z)
    intro w mg fa h Y G hmg0
    obtain ⟨K, KX, c⟩ := Y
    have hmg : mg ("law" : PySem.Str) = some (.ref fa) := by
      have e : (HandSHeadRun.topDef (OpenLaw.row PySem.Challenge.rw_stucklots_k08_whole_pieces_moved_and_tur).prog 78).name = ("law" : PySem.Str) := by kernel_rfl
      rw [← e]
      exact hmg0
    obtain ⟨fd, hb, hF⟩ := K08.facts (P := (PySem.Challenge.rw_stucklots_k08_whole_pieces_moved_and_tur).prog) (w := w) KX G hmg c.a c.more
    have ct := c.tab ("_law_led", none) (List.mem_singleton.mpr rfl)
    exact ⟨K, KX, fd, [He.cT K ("_law_led", none)], K08.spLaw K (He.cT K ("_law_led", none)).2, fun p hp => by rw [List.mem_singleton.mp hp]; exact ct.2.2, fun p hp => by rw [List.mem_singleton.mp hp]; exact ct.2.1, fun p hp => by rw [List.mem_singleton.mp hp]; exact PySem.W.codeHd_of_K KX ct.1, hb, fun H a ns hl _ hT hS => ⟨a, ns, rfl, hS, hl, hT _ (List.mem_singleton.mpr rfl), fun _ => rfl⟩, hF⟩
