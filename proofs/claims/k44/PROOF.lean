import PyProof.Rows.All
import Wide.All
import OpenK.AllK
import Wide.FinOn
import HandS.Base
import HandS.Call
import HandS.List
import HandS.Exc
import HandS.ExcField
import HandS.ExcInit
import HandS.ExcIs
import HandS.HeadHook1
import HandS.HeadHook2
import HandS.HeadHook3
import HandS.HeadHook4
import HandS.HeadNt
import HandS.Comp
import HandS.Words
import HandS.Lambda
import HandS.WordsExc
import HandS.Defaults
import HandS.Wide
import HandS.WideMore
import HandS.IsInst
import HandS.Flow
import HandS.Gcd
import HandS.Iter
import HandS.Conv
import HandS.SortInts
import HandS.Text
import HandS.AnyAll
import HandS.DictSub
import KE.KTupSum
import KE.KMathG
import HandS.Deep
import HandS.Star
import HandS.ClsMeth
import HandS.Style
import KE.KRevSl
import HandS.TryMany
import KE.KExcIs
import HandS.ExcOwn
import HandS.Small
import HandS.Dict
import KE.KCallOwn
import KE.GoesEnum
import HandS.TupLe
import HandS.Zip
import HandS.EndTab
import KE.KDflt
import PySem.Challenge.RW_bendsigns_k44_pairs_added_and_multiplied
import PyProof.StrLawsRepr
import HandS.Codes
import KE.KStateDown
import HandS.ForMost
import HandS.Head0
import HandS.Head1
import HandS.Head2
import HandS.Head3
import HandS.HeadEnd
set_option Elab.async false
set_option linter.all false
set_option maxRecDepth 100000
set_option maxHeartbeats 0
namespace PL
open PySem L2
def top (i : Nat) : Stmt := PySem.Challenge.pw_bendsigns_k44_pairs_added_and_multiplied.main.body.getD i (.Pass ⟨0, 0, 0, 0⟩)
def inner (s : Stmt) (j : Nat) : Stmt := match s with
  | .ClassDef _ _ _ body _ _ _ _ _ _ _ => body.getD j (.Pass ⟨0, 0, 0, 0⟩)
  | _ => s
abbrev nC : Nat := 1
abbrev nX : Nat := 4
def fnTab : Nat → List Str
  | 0 => ["one", "other", "norm"]
  | 1 => []
  | 2 => ["part"]
  | 3 => ["line", "item"]
  | _ => []
def subs (c t : Nat) : Bool := [(0, 0), (1, 1), (2, 1), (2, 2), (3, 1), (3, 3)].contains (c, t)
abbrev tyNs : List String := ["NoneType", "bool", "int", "str", "list", "tuple", "dict"]
abbrev tyTs : List String := ["bool", "int", "str", "list", "tuple"]
end PL
/-! PLB: what the head is asked, as Bools -/
namespace PL
open PySem PySem.Spec PyProof.Rows
open L2
/-- an empty table of code -/
abbrev tab0 : Obj := { cls := .none, data := .fields #[] }
def oxK (K : PySem.W.Frag) (C : Addr) : Bool := match K.lookup C with
  | some ⟨.type T, _, .cls cd, sl⟩ => decide (T = "type") && (match cd.mro with
    | .ref C' :: bm => decide (C' = C) && PySem.HandSPX.refsVE bm
    | _ => false) && (decide (sl.size = 6) && decide (sl[4]? = some (some (.builtin "ValueError.__new__"))) && (!cd.hasDel && cd.hasDict))
  | _ => false
def oexK (K : PySem.W.Frag) (C : Addr) : Bool := oxK K C && (He.eqO (PySem.W.findIn K (.ref C) "__setattr__") (some (some (.builtin "object.__setattr__"))) && (decide (PySem.W.subIn K (.ref C) (.type "BaseException") = some true) && (decide (PySem.W.typeIn K (.ref C) = some (.type "type")) && PySem.W.keepIn K (.ref C))))
/-- .. its own __init__ at f -/
def xiK (K : PySem.W.Frag) (C f : Addr) (ns : List Str) : Bool := oexK K C && (He.eqO (PySem.W.findIn K (.ref C) "__init__") (some (some (.ref f))) && (decide (PySem.W.typeIn K (.ref f) = some (.type "function")) && ns.all fun y => He.eqO (PySem.W.findIn K (.ref C) y) (some none)))
def xcK (K : PySem.W.Frag) (D : Addr) : Bool := xfB K D && (He.eqO (PySem.W.findIn K (.ref D) "__class__") (some (some (.builtin "object.__class__"))) && decide (PySem.W.mroIn K D (.type "object") = some true))
/-- the exceptions' classes, numbered from n to below m -/
def keK (K : PySem.W.Frag) (at_ : Nat → Addr) (fn : Nat → List Str) (n m : Nat) (sub : Nat → Nat → Bool) : Bool := (List.range m).all fun c => decide (c < n) || (xcK K (at_ c) && (((fn c).all fun f => He.eqO (PySem.W.findIn K (.ref (at_ c)) f) (some none)) && (decide (PySem.W.kitOne K (.type "NoneType") (.ref (at_ c)) = some false) &&
  (List.range m).all fun t => decide (t < n) || (decide (PySem.W.kitOne K (.ref (at_ c)) (.ref (at_ t)) = some (sub c t)) && decide (PySem.W.exmOne K (.ref (at_ c)) (.ref (at_ t)) = some (sub c t))))))
/-- == by an own def, no own != -/
def eqK (K : PySem.W.Frag) (at_ : Nat → Addr) (n : Nat) (cs : List Nat) : Bool := cs.all fun c => He.eqO (PySem.W.findIn K (.ref (at_ c)) "__ne__") (some (some (.builtin "object.__ne__"))) && (List.range n).all fun t => PySem.W.notFirst K (at_ c) (.ref (at_ t))
/-- the def that makes lambdas: its code object, its table -/
def tbK (K : PySem.W.Frag) (p : Str × Option Str) : Bool := PySem.W.codeHdIn K (He.codeOf K p) (He.tabOf K (He.codeOf K p)) && (K.lookup (He.tabOf K (He.codeOf K p))).isNone
def tbG (g : Addr → Option Obj) (P : Addr) : Bool := match g P with
  | some o => He.emptyTab o
  | none => false
theorem tbG_ok {g : Addr → Option Obj} {P : Addr} (h : tbG g P = true) : g P = some tab0 := by
  unfold tbG at h
  cases e : g P with
  | none => rw [e] at h; cases h
  | some o => rw [e] at h; exact congrArg some (He.emptyTab_eq h)
/-- a base's __init__ at f, read off the class -/
def bxK (K : PySem.W.Frag) (C f : Addr) : Bool := PySem.W.readsIn K C (.type "type") && (He.eqO (PySem.W.specialIn K (.ref C) "__getattribute__") (some (some (.builtin "type.__getattribute__"))) && (match PySem.W.findCls K (.ref C) (.type "type") "__init__" with
  | some (.val (.ref b)) => decide (b = f)
  | _ => false))
/-- C.m is a staticmethod -/
def smK (K : PySem.W.Frag) (C : Addr) (m : Str) : Bool := PySem.W.readsIn K C (.type "type") && (He.eqO (PySem.W.specialIn K (.ref C) "__getattribute__") (some (some (.builtin "type.__getattribute__"))) && He5.wrapB K C "staticmethod" "staticmethod.__get__" m)
/-- an own __eq__ is asked ahead of that of built-in types -/
def emK (K : PySem.W.Frag) (at_ : Nat → Addr) (cs : List Nat) : Bool := cs.all fun c => ["NoneType", "bool", "int", "str", "list", "tuple", "dict"].all fun t => PySem.W.notFirst K (at_ c) (.type t)
end PL
/-! the head: what the end of the module's run says -/
namespace Hd
open PySem PySem.Spec PyProof.Rows PL
open L2
def nl0 : List PySem.Str := [("_wall" : PySem.Str), ("BendError" : PySem.Str), ("BadNumber" : PySem.Str), ("BadText" : PySem.Str), ("DIGITS" : PySem.Str), ("is_integer" : PySem.Str), ("is_within" : PySem.Str), ("need_integer" : PySem.Str), ("MOST_DIGITS" : PySem.Str), ("is_number" : PySem.Str), ("is_number_from" : PySem.Str), ("items_of" : PySem.Str), ("need_many" : PySem.Str), ("read_numbers" : PySem.Str), ("Pair" : PySem.Str), ("_law_can" : PySem.Str), ("_law_sip" : PySem.Str), ("_law_choose" : PySem.Str), ("_law_part" : PySem.Str), ("_law_is" : PySem.Str), ("_law_turned" : PySem.Str), ("_law_sums_right" : PySem.Str), ("_law_heard" : PySem.Str), ("_law_texts_right" : PySem.Str), ("_law_refused_right" : PySem.Str)]
def nl : List PySem.Str := nl0
def e0 : He.DefD := ⟨("_law_heard", none), "_law_heard", "_law_heard", defArgs (PL.top 28), defBody (PL.top 28), defScope (PL.top 28), [], []⟩
def e1 : He.DefD := ⟨("BadNumber", some "__init__"), "__init__", "BadNumber.__init__", defArgs (PL.inner (PL.top 3) 0), defBody (PL.inner (PL.top 3) 0), defScope (PL.inner (PL.top 3) 0), [], []⟩
def e2 : He.DefD := ⟨("BadText", some "__init__"), "__init__", "BadText.__init__", defArgs (PL.inner (PL.top 4) 0), defBody (PL.inner (PL.top 4) 0), defScope (PL.inner (PL.top 4) 0), [], []⟩
def e3 : He.DefD := ⟨("_law_can", none), "_law_can", "_law_can", defArgs (PL.top 21), defBody (PL.top 21), defScope (PL.top 21), [], []⟩
def e4 : He.DefD := ⟨("_law_sip", none), "_law_sip", "_law_sip", defArgs (PL.top 22), defBody (PL.top 22), defScope (PL.top 22), [], []⟩
def e5 : He.DefD := ⟨("_law_choose", none), "_law_choose", "_law_choose", defArgs (PL.top 23), defBody (PL.top 23), defScope (PL.top 23), [], []⟩
def e6 : He.DefD := ⟨("is_integer", none), "is_integer", "is_integer", defArgs (PL.top 7), defBody (PL.top 7), defScope (PL.top 7), [], []⟩
def e7 : He.DefD := ⟨("need_integer", none), "need_integer", "need_integer", defArgs (PL.top 10), defBody (PL.top 10), defScope (PL.top 10), [], []⟩
def e8 : He.DefD := ⟨("Pair", some "__init__"), "__init__", "Pair.__init__", defArgs (PL.inner (PL.top 19) 0), defBody (PL.inner (PL.top 19) 0), defScope (PL.inner (PL.top 19) 0), [], []⟩
def e9 : He.DefD := ⟨("Pair", some "times_i"), "times_i", "Pair.times_i", defArgs (PL.inner (PL.top 19) 9), defBody (PL.inner (PL.top 19) 9), defScope (PL.inner (PL.top 19) 9), [], []⟩
def e10 : He.DefD := ⟨("_law_refused_right", none), "_law_refused_right", "_law_refused_right", defArgs (PL.top 30), defBody (PL.top 30), defScope (PL.top 30), [], []⟩
def e11 : He.DefD := ⟨("Pair", some "__eq__"), "__eq__", "Pair.__eq__", defArgs (PL.inner (PL.top 19) 1), defBody (PL.inner (PL.top 19) 1), defScope (PL.inner (PL.top 19) 1), [], []⟩
def e12 : He.DefD := ⟨("_law_part", none), "_law_part", "_law_part", defArgs (PL.top 24), defBody (PL.top 24), defScope (PL.top 24), [], []⟩
def e13 : He.DefD := ⟨("_law_turned", none), "_law_turned", "_law_turned", defArgs (PL.top 26), defBody (PL.top 26), defScope (PL.top 26), [], []⟩
def e14 : He.DefD := ⟨("_law_is", none), "_law_is", "_law_is", defArgs (PL.top 25), defBody (PL.top 25), defScope (PL.top 25), [], []⟩
def e15 : He.DefD := ⟨("Pair", some "__add__"), "__add__", "Pair.__add__", defArgs (PL.inner (PL.top 19) 4), defBody (PL.inner (PL.top 19) 4), defScope (PL.inner (PL.top 19) 4), [], []⟩
def e16 : He.DefD := ⟨("Pair", some "__sub__"), "__sub__", "Pair.__sub__", defArgs (PL.inner (PL.top 19) 5), defBody (PL.inner (PL.top 19) 5), defScope (PL.inner (PL.top 19) 5), [], []⟩
def e17 : He.DefD := ⟨("Pair", some "__mul__"), "__mul__", "Pair.__mul__", defArgs (PL.inner (PL.top 19) 6), defBody (PL.inner (PL.top 19) 6), defScope (PL.inner (PL.top 19) 6), [], []⟩
def e18 : He.DefD := ⟨("Pair", some "__neg__"), "__neg__", "Pair.__neg__", defArgs (PL.inner (PL.top 19) 7), defBody (PL.inner (PL.top 19) 7), defScope (PL.inner (PL.top 19) 7), [], []⟩
def e19 : He.DefD := ⟨("Pair", some "flipped"), "flipped", "Pair.flipped", defArgs (PL.inner (PL.top 19) 8), defBody (PL.inner (PL.top 19) 8), defScope (PL.inner (PL.top 19) 8), [], []⟩
def e20 : He.DefD := ⟨("Pair", some "__str__"), "__str__", "Pair.__str__", defArgs (PL.inner (PL.top 19) 2), defBody (PL.inner (PL.top 19) 2), defScope (PL.inner (PL.top 19) 2), [], []⟩
def e21 : He.DefD := ⟨("_law_sums_right", none), "_law_sums_right", "_law_sums_right", defArgs (PL.top 27), defBody (PL.top 27), defScope (PL.top 27), [], []⟩
def e22 : He.DefD := ⟨("items_of", none), "items_of", "items_of", defArgs (PL.top 15), defBody (PL.top 15), defScope (PL.top 15), [], []⟩
def e23 : He.DefD := ⟨("need_many", none), "need_many", "need_many", defArgs (PL.top 16), defBody (PL.top 16), defScope (PL.top 16), [], []⟩
def e24 : He.DefD := ⟨("is_number", none), "is_number", "is_number", defArgs (PL.top 13), defBody (PL.top 13), defScope (PL.top 13), [], []⟩
def e25 : He.DefD := ⟨("is_within", none), "is_within", "is_within", defArgs (PL.top 8), defBody (PL.top 8), defScope (PL.top 8), [], []⟩
def e26 : He.DefD := ⟨("is_number_from", none), "is_number_from", "is_number_from", defArgs (PL.top 14), defBody (PL.top 14), defScope (PL.top 14), [], []⟩
def e27 : He.DefD := ⟨("read_numbers", none), "read_numbers", "read_numbers", defArgs (PL.top 17), defBody (PL.top 17), defScope (PL.top 17), [], []⟩
def e28 : He.DefD := ⟨("_law_texts_right", none), "_law_texts_right", "_law_texts_right", defArgs (PL.top 29), defBody (PL.top 29), defScope (PL.top 29), [], []⟩
def e29 : He.DefD := ⟨("law", none), "law", "law", defArgs (PL.top 31), defBody (PL.top 31), defScope (PL.top 31), [], []⟩
def s0 : He5.DefA := ⟨fun K => He5.wf K (He.ga K "Pair") "staticmethod" "read", "read", "Pair.read", defArgs (PL.inner (PL.top 19) 3), defBody (PL.inner (PL.top 19) 3), defScope (PL.inner (PL.top 19) 3), [], []⟩
def fnS : List He5.DefA := [s0]
def fn : List He.DefD := [e0, e1, e2, e3, e4, e5, e6, e7, e8, e9, e10, e11, e12, e13, e14, e15, e16, e17, e18, e19, e20, e21, e22, e23, e24, e25, e26, e27, e28, e29]
def fa : List He.Fa := [.glo "_law_heard", .glo "_law_can", .glo "_law_sip", .glo "_law_choose", .glo "is_integer", .glo "need_integer", .glo "_law_refused_right", .glo "_law_part", .glo "_law_turned", .glo "_law_is", .glo "_law_sums_right", .glo "items_of", .glo "need_many", .glo "is_number", .glo "is_within", .glo "is_number_from", .glo "read_numbers", .glo "_law_texts_right", .glo "law", .glo "Pair", .glo "BadNumber", .glo "BadText", .glo "BendError", .free "abs", .free "all", .free "bool", .free "enumerate", .free "int", .free "isinstance", .free "len", .free "range", .free "repr", .free "str", .int "MOST_DIGITS" 60, .str "DIGITS" "0123456789", .cls "Pair", .mkr "Pair", .meth "Pair" "times_i", .meth "Pair" "__eq__", .meth "Pair" "__add__", .meth "Pair" "__sub__", .meth "Pair" "__mul__", .meth "Pair" "__neg__", .meth "Pair" "flipped", .meth "Pair" "__str__"]
def tf0 : List PySem.Str := [("_law_heard" : PySem.Str), ("_law_can" : PySem.Str), ("_law_sip" : PySem.Str), ("_law_choose" : PySem.Str), ("is_integer" : PySem.Str), ("need_integer" : PySem.Str), ("_law_refused_right" : PySem.Str), ("_law_part" : PySem.Str), ("_law_turned" : PySem.Str), ("_law_is" : PySem.Str), ("_law_sums_right" : PySem.Str), ("items_of" : PySem.Str), ("need_many" : PySem.Str), ("is_number" : PySem.Str), ("is_within" : PySem.Str), ("is_number_from" : PySem.Str), ("read_numbers" : PySem.Str), ("_law_texts_right" : PySem.Str), ("law" : PySem.Str)]
def topFns : List PySem.Str := tf0
def topCls : List (PySem.Str × List PySem.Str) := [("Pair", ["__init__", "times_i", "__eq__", "__add__", "__sub__", "__mul__", "__neg__", "flipped", "__str__", "read"]), ("BendError", []), ("BadNumber", ["__init__"]), ("BadText", ["__init__"])]
/-! the objects that the end leans on, by names -/
def vRef : Option Value → List Addr
  | some (.ref a) => [a]
  | _ => []
def nsO (g : Addr → Option Obj) (b : Addr) (y : PySem.Str) : Option Value := match g b with
  | some ⟨_, _, .dict es _, _⟩ => (es.toList.find? fun e => e.key.isStr y).map fun e => e.val
  | _ => none
def fnO (g : Addr → Option Obj) (a : Addr) : List Addr := a :: match g a with
  | some ⟨_, _, .func r, _⟩ => He.refV r.code
  | some ⟨_, _, .fields vs, _⟩ => vs.toList.flatMap fun v => (He.refV v).flatMap fun b => b :: (match g b with
    | some ⟨_, _, .func r, _⟩ => He.refV r.code
    | _ => [])
  | _ => []
def clO (g : Addr → Option Obj) (ms : List PySem.Str) (a : Addr) : List Addr := a :: match g a with
  | some ⟨_, _, .cls r, _⟩ => r.ns :: ms.flatMap fun y => (vRef (nsO g r.ns y)).flatMap (fnO g)
  | _ => []
def asK (g : Addr → Option Obj) : List Addr := mainGlobals :: cStatics :: ((topFns.flatMap fun y => (vRef (nsO g mainGlobals y)).flatMap (fnO g)) ++ topCls.flatMap fun p => (vRef (nsO g mainGlobals p.1)).flatMap (clO g p.2))
def cAt (K : PySem.W.Frag) : Nat → Addr
  | 0 => He.ga K "Pair"
  | 1 => He.ga K "BendError"
  | 2 => He.ga K "BadNumber"
  | 3 => He.ga K "BadText"
  | _ => 0
def tyB (K : PySem.W.Frag) (C : Addr) : Bool := He.eqO (PySem.W.findIn K (.ref C) "__class__") (some (some (.builtin "object.__class__"))) && decide (PySem.W.mroIn K C (.type "object") = some true)
def knB (K : PySem.W.Frag) (c : Nat) : Bool := tyB K (cAt K c) && ((tyTs.all fun T => decide (PySem.W.kitOne K (.ref (cAt K c)) (.type T) = some false)) && ((tyNs.all fun T => decide (PySem.W.kitOne K (.type T) (.ref (cAt K c)) = some false)) && (List.range 1).all fun j => decide (PySem.W.kitOne K (.ref (cAt K c)) (.ref (cAt K j)) = some (subs c j))))
def naB (K : PySem.W.Frag) (c : Nat) : Bool := (fnTab c).all fun y => He.eqO (PySem.W.findIn K (.ref (cAt K c)) y) (some none)
def obB (K : PySem.W.Frag) : Bool := He.eqO (PySem.W.specialIn K (.builtin "object.__class__") "__get__") (some (some (.builtin "getset_descriptor.__get__"))) && decide (PySem.W.takesIn K (.builtin "object.__class__") = some true)
def paB (K : PySem.W.Frag) : Bool := true
def LDs : List (PySem.Str × Option PySem.Str) := [("_law_refused_right", none), ("_law_texts_right", none)]
def TS (K : PySem.W.Frag) : List (Addr × Addr) := [(He.codeOf K ("_law_refused_right", none), He.tabOf K (He.codeOf K ("_law_refused_right", none))), (He.codeOf K ("_law_texts_right", none), He.tabOf K (He.codeOf K ("_law_texts_right", none)))]
def TL (K : PySem.W.Frag) : List (Addr × PySem.Str) := [(He.tabOf K (He.codeOf K ("_law_refused_right", none)), ((PyProof.Rows.envOfC "_law_refused_right" (defScope (PL.top 30)) 0 0 .none).qual ++ "<lambda>")), (He.tabOf K (He.codeOf K ("_law_texts_right", none)), ((PyProof.Rows.envOfC "_law_texts_right" (defScope (PL.top 29)) 0 0 .none).qual ++ "<lambda>"))]
def tbM (K : PySem.W.Frag) : Bool := (LDs.all fun d => tbK K d) && decide ((TS K).map (·.2)).Nodup
def xB (K : PySem.W.Frag) : Bool := keK K (cAt K) fnTab nC nX subs && ((xiK K (He.ga K "BadNumber") (He.ma K (He.ga K "BadNumber") "__init__") (fnTab 2) && (xiK K (He.ga K "BadText") (He.ma K (He.ga K "BadText") "__init__") (fnTab 3) && true)) && (true && (true && ((((eqK K (cAt K) nC [0] && smK K (He.ga K "Pair") "read") && emK K (cAt K) [0]) && PySem.W.selfFirst K (He.ga K "Pair")) && tbM K))))
def giB (K : PySem.W.Frag) : Bool := true
def ex (K : PySem.W.Frag) : Bool := xB K && (giB K && (obB K && (paB K && (List.range 1).all fun c => knB K c && naB K c)))
def obK (g : Addr → Option Obj) : (He.AlD × He.AlD) × Bool := ((He.obsD fa fn (He.frG g (asK g)), He5.obsA [] fnS (He.frG g (asK g))), ex (He.frG g (asK g)) && LDs.all fun d => tbG g (He.tabOf (He.frG g (asK g)) (He.codeOf (He.frG g (asK g)) d)))
/-- what stands behind the head -/
def Says (h : Heap) : Prop := ∃ K : PySem.W.Frag, K.In h ∧ (He.SaysD fa fn K ∧ He5.SaysA [] fnS K) ∧ ex K = true ∧ ∀ d ∈ LDs, h.get? (He.tabOf K (He.codeOf K d)) = some tab0
def hk : PySem.W.Hook where
  α := (He.AlD × He.AlD) × Bool
  obs := fun s => obK s.heap.get?
  val := fun _ => ((He.valD fn, He5.valA fnS), true)
  says := fun _ h => Says h
  of := fun _ _ e => ⟨_, He.frG_in, ⟨congrArg (fun z : (He.AlD × He.AlD) × Bool => z.1.1) e, congrArg (fun z : (He.AlD × He.AlD) × Bool => z.1.2) e⟩, (He.ba (congrArg Prod.snd e)).1, fun d hd => tbG_ok (List.all_eq_true.mp (He.ba (congrArg Prod.snd e)).2 d hd)⟩
  keeps := fun _ _ _ ⟨K, hK, c, c2, c3⟩ k => ⟨K, PySem.W.Frag.In.keeps hK k, c, c2, fun d hd => k _ _ (c3 d hd)⟩
def ob (s : PySem.W.SharedT) : (He.AlD × He.AlD) × Bool := obK (HandSHeadRun.getT s)
theorem ob_eq (s : PySem.W.SharedT) : ob s = hk.obs s.abs := congrArg obK (funext fun b => HandSHeadRun.getT_eq s b)
abbrev Rw : PySem.W.OpenRow := PySem.W.OpenLaw.row PySem.Challenge.rw_bendsigns_k44_pairs_added_and_multiplied
abbrev Vw : Program := PySem.W.view Rw.prog [31]
theorem run (w : World) : HandSHeadRun.RunEqI Rw Vw hk ob 8000 nl w := by
  unfold HandSHeadRun.RunEqI
  kernel_rfl
end Hd
/-! PL: pure data and environments over the hand layer. -/
namespace PL
open PySem L2 LamX
/-- data without addresses -/
inductive D where
  | non | bl (b : Bool) | int (i : Int) | str (x : Str) | scr (ns : List Int)
  | lst (xs : List D) | tup (xs : List D) | ins (c : Nat) (fs : List D) | exn (c : Nat) (fs : List D) | dct
/-- what the classes are: address and field names -/
structure CT where
  at_ : Nat → Addr
  fn : Nat → List Str
/-- an exception object at a that stays as it is -/
def ExT (a : Addr) (oe : Obj) : HO := .ext fun h => h.get? a = some oe
section
variable (K : PySem.W.Frag) (C : CT) (S : Hp)
mutual
def Rp : D → V → Prop
  | .non, v => v = .non
  | .bl b, v => v = .bl b
  | .int i, v => v = .int i
  | .str x, v => v = .str x
  | .scr ns, v => ∃ a, v = .ref a ∧ SqL K S a (ns.map V.int)
  | .lst xs, v => ∃ a vs, v = .ref a ∧ S a = some (.lst vs) ∧ Rps xs vs
  | .tup xs, v => ∃ a vs, v = .ref a ∧ SqT K S a vs ∧ Rps xs vs
  | .ins c fs, v => ∃ a dx vs, v = .ref a ∧ S a = some (.ins (C.at_ c) dx ((C.fn c).zip vs)) ∧ (C.fn c).length = fs.length ∧ Rps fs vs
  | .exn c fs, v => ∃ a oe dop vs, v = .ref a ∧ S a = some (ExT a oe) ∧ Zc (.ref (C.at_ c)) dop oe ∧ (∃ fv, oe.data = .fields fv) ∧ (C.fn c).length = fs.length ∧ ((fs = [] ∧ dop = none) ∨ ∃ dd kvs, dop = some dd ∧ S dd = some (.xd kvs) ∧ ∀ (i : Nat) (f : Str) (v : V), (C.fn c)[i]? = some f → vs[i]? = some v → kvs.lookup f = some v) ∧ Rps fs vs
  | .dct, v => ∃ a kvs, v = .ref a ∧ S a = some (.dK kvs)
def Rps : List D → List V → Prop
  | [], vs => vs = []
  | d :: ds, vs => ∃ v vs', vs = v :: vs' ∧ Rp d v ∧ Rps ds vs'
end
end
theorem SqL.mono {K : PySem.W.Frag} {S S' : Hp} (h : Same S S') {a : Addr} {xs : List V} (q : SqL K S a xs) : SqL K S' a xs := h.seq q
theorem SqT.mono {K : PySem.W.Frag} {S S' : Hp} (h : Same S S') {a : Addr} {xs : List V} (q : SqT K S a xs) : SqT K S' a xs := by
  rcases q with (q | ⟨o, q⟩) | q
  · exact .inl (.inl (h _ _ q))
  · exact .inl (.inr ⟨o, h _ _ q⟩)
  · exact .inr q
section
variable {K : PySem.W.Frag} {C : CT} {S S' : Hp}
mutual
theorem Rp.mono (h : Same S S') : ∀ (d : D) (v : V), Rp K C S d v → Rp K C S' d v
  | .non, _, q => q
  | .bl _, _, q => q
  | .int _, _, q => q
  | .str _, _, q => q
  | .scr _, _, ⟨a, e, q⟩ => ⟨a, e, SqL.mono h q⟩
  | .lst xs, _, ⟨a, vs, e, q, r⟩ => ⟨a, vs, e, h _ _ q, Rps.mono h xs vs r⟩
  | .tup xs, _, ⟨a, vs, e, q, r⟩ => ⟨a, vs, e, SqT.mono h q, Rps.mono h xs vs r⟩
  | .ins c fs, _, ⟨a, dx, vs, e, q, l, r⟩ => ⟨a, dx, vs, e, h _ _ q, l, Rps.mono h fs vs r⟩
  | .exn c fs, _, ⟨a, oe, dop, vs, e, q, z, d, l, k, r⟩ => ⟨a, oe, dop, vs, e, h _ _ q, z, d, l, (match k with
    | .inl k => .inl k
    | .inr ⟨dd, kvs, k1, k2, k3⟩ => .inr ⟨dd, kvs, k1, h _ _ k2, k3⟩), Rps.mono h fs vs r⟩
  | .dct, _, ⟨a, kvs, e, q⟩ => ⟨a, kvs, e, h _ _ q⟩
theorem Rps.mono (h : Same S S') : ∀ (ds : List D) (vs : List V), Rps K C S ds vs → Rps K C S' ds vs
  | [], _, q => q
  | d :: ds, _, ⟨v, vs', e, q, r⟩ => ⟨v, vs', e, Rp.mono h d v q, Rps.mono h ds vs' r⟩
end
theorem Rps.nil : Rps K C S [] [] := rfl
theorem Rps.cons {d : D} {v : V} {ds : List D} {vs : List V} (h : Rp K C S d v) (r : Rps K C S ds vs) : Rps K C S (d :: ds) (v :: vs) := ⟨v, vs, rfl, h, r⟩
theorem Rps.length : ∀ {ds : List D} {vs : List V}, Rps K C S ds vs → ds.length = vs.length
  | [], _, h => by cases h; rfl
  | d :: ds, _, ⟨v, vs', e, _, r⟩ => by subst e; simp [Rps.length r]
theorem Rps.append : ∀ {ds es : List D} {vs ws : List V}, Rps K C S ds vs → Rps K C S es ws → Rps K C S (ds ++ es) (vs ++ ws)
  | [], _, _, _, h, r => by cases h; exact r
  | d :: ds, _, _, _, ⟨v, vs', e, q, h⟩, r => by subst e; exact ⟨v, _, rfl, q, Rps.append h r⟩
theorem Rps.get : ∀ (ds : List D) (vs : List V) (i : Nat) (d : D), Rps K C S ds vs → ds[i]? = some d → ∃ v, vs[i]? = some v ∧ Rp K C S d v
  | [], _, _, _, _, e => by simp at e
  | d :: ds, _, 0, d', ⟨v, vs', e, q, r⟩, e' => by subst e; simp at e'; subst e'; exact ⟨v, rfl, q⟩
  | d :: ds, _, i + 1, d', ⟨v, vs', e, q, r⟩, e' => by subst e; exact Rps.get ds vs' i d' r (by simpa using e')
theorem Rps.getV : ∀ (ds : List D) (vs : List V) (i : Nat) (v : V), Rps K C S ds vs → vs[i]? = some v → ∃ d, ds[i]? = some d ∧ Rp K C S d v
  | [], _, _, _, h, e => by cases h; simp at e
  | d :: ds, _, 0, v', ⟨v, vs', e, q, r⟩, e' => by subst e; simp at e'; subst e'; exact ⟨d, rfl, q⟩
  | d :: ds, _, i + 1, v', ⟨v, vs', e, q, r⟩, e' => by subst e; exact Rps.getV ds vs' i v' r (by simpa using e')
theorem Rps.set : ∀ {ds : List D} {vs : List V} {d : D} {v : V} (i : Nat), Rp K C S d v → Rps K C S ds vs → Rps K C S (ds.set i d) (vs.set i v)
  | [], _, _, _, _, _, h => by cases h; exact rfl
  | d :: ds, _, _, _, 0, q', ⟨v, vs', e, q, r⟩ => by subst e; exact ⟨_, _, rfl, q', r⟩
  | d :: ds, _, _, _, i + 1, q', ⟨v, vs', e, q, r⟩ => by subst e; exact ⟨_, _, rfl, q, Rps.set i q' r⟩
theorem Rps.take : ∀ {ds : List D} {vs : List V} (n : Nat), Rps K C S ds vs → Rps K C S (ds.take n) (vs.take n)
  | _, _, 0, _ => rfl
  | [], _, _ + 1, h => by cases h; exact rfl
  | d :: ds, _, n + 1, ⟨v, vs', e, q, r⟩ => by subst e; exact ⟨_, _, rfl, q, Rps.take n r⟩
theorem Rps.drop : ∀ {ds : List D} {vs : List V} (n : Nat), Rps K C S ds vs → Rps K C S (ds.drop n) (vs.drop n)
  | _, _, 0, h => h
  | [], _, _ + 1, h => by cases h; exact rfl
  | d :: ds, _, n + 1, ⟨v, vs', e, q, r⟩ => by subst e; exact Rps.drop n r
theorem Rps.eraseIdx : ∀ {ds : List D} {vs : List V} (n : Nat), Rps K C S ds vs → Rps K C S (ds.eraseIdx n) (vs.eraseIdx n)
  | [], _, _, h => by cases h; exact rfl
  | d :: ds, _, 0, ⟨v, vs', e, q, r⟩ => by subst e; exact r
  | d :: ds, _, n + 1, ⟨v, vs', e, q, r⟩ => by subst e; exact ⟨_, _, rfl, q, Rps.eraseIdx n r⟩
theorem Rps.ints : ∀ {ns : List Int} {vs : List V}, Rps K C S (ns.map D.int) vs → vs = ns.map V.int
  | [], _, h => h
  | n :: ns, _, ⟨v, vs', e, q, r⟩ => by subst e; rw [Rps.ints r]; cases q; rfl
theorem Rps.of_ints : ∀ (ns : List Int), Rps K C S (ns.map D.int) (ns.map V.int)
  | [] => rfl
  | n :: ns => ⟨_, _, rfl, rfl, Rps.of_ints ns⟩
end
/-! ### how the heaps grow -/
/-- no table of code is held as unchanging -/
def NoT (S : Hp) : Prop := ∀ b ps, S b ≠ some (.tbl ps)
theorem NoT.upd {S : Hp} {a : Addr} {o : HO} (h : NoT S) (ho : ∀ ps, o ≠ .tbl ps) : NoT (L2.upd S a o) := fun b ps q => by
  by_cases e : b = a
  · subst e; rw [upd_same] at q; exact ho ps (Option.some.inj q)
  · rw [upd_ne e] at q; exact h b ps q
/-- S (what never changes again) within H; all that stands stays, S grows by new things alone -/
structure Grow (S H S' H' : Hp) : Prop where
  sS : Same S S'
  hH : Same H H'
  sub : Same S' H'
  nw : ∀ a o, S' a = some o → S a = some o ∨ H a = none
  nt : NoT S → NoT S'
theorem Grow.refl {S H : Hp} (h : Same S H) : Grow S H S H := ⟨Same.refl _, Same.refl _, h, fun _ _ q => .inl q, id⟩
theorem Grow.trans {S H S' H' S'' H'' : Hp} (a : Grow S H S' H') (b : Grow S' H' S'' H'') : Grow S H S'' H'' :=
  ⟨a.sS.trans b.sS, a.hH.trans b.hH, b.sub, fun c o q => by
    rcases b.nw c o q with q | q
    · exact a.nw c o q
    · exact .inr (a.hH.free q), fun z => b.nt (a.nt z)⟩
/-- a new object, never changed again -/
theorem Grow.new {S H : Hp} (h : Same S H) {p : Addr} (o : HO) (hp : H p = none) (ho : ∀ ps, o ≠ .tbl ps := by intro ps; nofun) : Grow S H (upd S p o) (upd H p o) :=
  ⟨fun b u q => by rw [upd_ne (ne_of_none q (h.free hp))]; exact q, fun b u q => by rw [upd_ne (ne_of_none q hp)]; exact q, fun b u q => by
    by_cases e : b = p
    · subst e; rw [upd_same] at q ⊢; exact q
    · rw [upd_ne e] at q ⊢; exact h b u q, fun b u q => by
    by_cases e : b = p
    · subst e; exact .inr hp
    · rw [upd_ne e] at q; exact .inl q, fun z => z.upd ho⟩
/-- a new object that is not (yet) held as unchanging -/
theorem Grow.loose {S H : Hp} (h : Same S H) {p : Addr} (o : HO) (hp : H p = none) : Grow S H S (upd H p o) :=
  ⟨Same.refl _, fun b u q => by rw [upd_ne (ne_of_none q hp)]; exact q, fun b u q => by rw [upd_ne (ne_of_none (h b u q) hp)]; exact h b u q, fun b u q => .inl q, id⟩
/-! ### slots -/
inductive Sl where
  | no | val (d : D) | own (xs : List D) | obj (c : Nat) (fs : List (Str × D)) | adr
abbrev Ev := List Sl
def Sl.mine : Sl → Bool
  | .own _ => true
  | .obj _ _ => true
  | _ => false
section
variable (K : PySem.W.Frag) (C : CT)
inductive RpF (S : Hp) : List (Str × V) → List (Str × D) → Prop
  | nil : RpF S [] []
  | cons {f : Str} {v : V} {d : D} {fs gs} : Rp K C S d v → RpF S fs gs → RpF S ((f, v) :: fs) ((f, d) :: gs)
theorem RpF.mono {K : PySem.W.Frag} {C : CT} {S S' : Hp} (h : Same S S') {vs : List (Str × V)} {fs : List (Str × D)} (r : RpF K C S vs fs) : RpF K C S' vs fs := by
  induction r with
  | nil => exact .nil
  | cons h _ ih => exact .cons (Rp.mono ‹_› _ _ h) ih
def SlOk (x : Option Addr) (S H : Hp) : Sl → Option V → Prop
  | .no, _ => True
  | .adr, o => ∃ a, x = some a ∧ o = some (.ref a)
  | .val d, o => ∃ v, o = some v ∧ Rp K C S d v
  | .own xs, o => ∃ a vs, o = some (.ref a) ∧ S a = none ∧ H a = some (.lst vs) ∧ Rps K C S xs vs
  | .obj c fs, o => ∃ a dx vs, o = some (.ref a) ∧ S a = none ∧ S dx = none ∧ dx ≠ a ∧ H dx = some (.own a) ∧ H a = some (.ins (C.at_ c) dx vs) ∧ RpF K C S vs fs
end
/-- the slot owns the object at a -/
def Ow (ρ : Ev) (σ : St) (i : Nat) (a : Addr) : Prop := (∃ sl, ρ[i]? = some sl ∧ sl.mine = true) ∧ σ[i]? = some (some (.ref a))
/-- what is fixed through a def's body: the written part, the classes, the heap at the entry, the argument that may be changed, what is wanted of an exception -/
structure GC where
  K : PySem.W.Frag
  C : CT
  H0 : Hp
  S0 : Hp
  m : Option Addr
  M : Addr → Prop
  T : List (Addr × Str)
  x : Option Addr
structure Rel (G : GC) (S H : Hp) (σ : St) (ρ : Ev) : Prop where
  sub : Same S H
  old : Same G.S0 S
  fr : ∀ b o, G.H0 b = some o → ¬ G.M b → H b = some o
  th : ∀ b o, G.H0 b = some o → ∃ o', H b = some o'
  nw : ∀ a o, S a = some o → G.S0 a = some o ∨ G.H0 a = none ∨ G.M a
  sl : ∀ (i : Nat) sl, ρ[i]? = some sl → SlOk G.K G.C G.x S H sl ((σ[i]?).getD none)
  dis : ∀ i j a, Ow ρ σ i a → Ow ρ σ j a → i = j
  mine : ∀ i a, Ow ρ σ i a → G.M a ∨ G.H0 a = none
  mt : ∀ a, G.m = some a → σ[0]? = some (some (.ref a)) ∧ (∃ sl, ρ[0]? = some sl ∧ sl.mine = true)
  len : ρ.length = σ.length
  tb : Tabs G.T H ∧ ∀ p ∈ G.T, S p.1 = none
  nt : NoT G.S0 → NoT S
section
variable {G : GC} {S H S' H' : Hp} {σ : St} {ρ : Ev}
theorem Rel.tbS (R : Rel G S H σ ρ) (nw : ∀ a o, S' a = some o → S a = some o ∨ H a = none) : ∀ p ∈ G.T, S' p.1 = none := fun p hp => by
  cases q : S' p.1 with
  | none => rfl
  | some o =>
    obtain ⟨ps, h1, _⟩ := R.tb.1 p hp
    rcases nw _ o q with z | z
    · rw [R.tb.2 p hp] at z; cases z
    · rw [h1] at z; cases z
/-- the tables stand where but one list or instance changes -/
theorem Rel.tbM {a : Addr} {u : HO} (R : Rel G S H σ ρ) (ha : H a = some u) (h1 : ∀ ps, u ≠ .tbl ps) (h2 : ∀ c q, u ≠ CodeO c q) (hH : ∀ b o, H b = some o → b ≠ a → H' b = some o) : Tabs G.T H' := fun p hp => by
  obtain ⟨ps, e1, e2, e3⟩ := R.tb.1 p hp
  refine ⟨ps, hH _ _ e1 fun z => ?_, e2, fun pos cv hc => ?_⟩
  · rw [z, ha] at e1; exact h1 ps (Option.some.inj e1)
  · obtain ⟨c, k1, k2⟩ := e3 pos cv hc
    refine ⟨c, k1, hH _ _ k2 fun z => ?_⟩
    rw [z, ha] at k2; exact h2 _ _ (Option.some.inj k2)
/-- an address that holds no table is held from now on -/
theorem Rel.tbU {a : Addr} {u : HO} {y : HO} (R : Rel G S H σ ρ) (ha : H a = some u) (h1 : ∀ ps, u ≠ .tbl ps) : Tabs G.T H ∧ ∀ p ∈ G.T, upd S a y p.1 = none := ⟨R.tb.1, fun p hp => by
  rw [upd_ne fun z => by
    obtain ⟨ps, e1, _⟩ := R.tb.1 p hp
    rw [z, ha] at e1; exact h1 ps (Option.some.inj e1)]
  exact R.tb.2 p hp⟩
theorem SlOk.grow {K : PySem.W.Frag} {C : CT} (g : Grow S H S' H') {x : Option Addr} {sl : Sl} {o : Option V} (h : SlOk K C x S H sl o) : SlOk K C x S' H' sl o := by
  have up : ∀ {a : Addr} {u : HO}, S a = none → H a = some u → S' a = none := fun {a u} n e => by
    cases q : S' a with
    | none => rfl
    | some w =>
      rcases g.nw a w q with z | z
      · rw [n] at z; cases z
      · rw [e] at z; cases z
  cases sl with
  | no => trivial
  | adr => exact h
  | val d => obtain ⟨v, e, r⟩ := h; exact ⟨v, e, Rp.mono g.sS d v r⟩
  | own xs => obtain ⟨a, vs, e, n, q, r⟩ := h; exact ⟨a, vs, e, up n q, g.hH _ _ q, Rps.mono g.sS xs vs r⟩
  | obj c fs =>
    obtain ⟨a, dx, vs, e, n, n2, ne, qd, q, r⟩ := h
    exact ⟨a, dx, vs, e, up n q, up n2 qd, ne, g.hH _ _ qd, g.hH _ _ q, r.mono g.sS⟩
theorem Rel.grow (g : Grow S H S' H') (R : Rel G S H σ ρ) : Rel G S' H' σ ρ where
  sub := g.sub
  old := R.old.trans g.sS
  fr := fun b o h n => g.hH b o (R.fr b o h n)
  th := fun b o h => let ⟨o', q⟩ := R.th b o h; ⟨o', g.hH b o' q⟩
  nw := fun a o q => by
    rcases g.nw a o q with z | z
    · exact R.nw a o z
    · cases h0 : G.H0 a with
      | none => exact .inr (.inl rfl)
      | some u =>
        by_cases hm : G.M a
        · exact .inr (.inr hm)
        · have := R.fr a u h0 hm
          rw [z] at this; cases this
  sl := fun i sl e => (R.sl i sl e).grow g
  dis := R.dis
  mine := R.mine
  mt := R.mt
  len := R.len
  tb := ⟨R.tb.1.ext g.hH, R.tbS g.nw⟩
  nt := fun z => g.nt (R.nt z)
end
end PL
namespace PL
open PySem L2
/-- what a piece of a def comes to: a value and the slots, an exception, or what this layer says nothing of -/
inductive Rs (α : Type) where
  | ok (a : α) (ρ : Ev) | exc (c : Nat) (fs : List D) (ρ : Ev) | stuck
def Rs.bind {α β : Type} (r : Rs α) (k : α → Ev → Rs β) : Rs β := match r with
  | .ok a ρ => k a ρ
  | .exc c fs ρ => .exc c fs ρ
  | .stuck => .stuck
def Rs.opt {α : Type} (o : Option α) (ρ : Ev) : Rs α := match o with
  | some a => .ok a ρ
  | none => .stuck
@[simp] theorem Rs.bind_ok {α β : Type} (a : α) (ρ : Ev) (k : α → Ev → Rs β) : (Rs.ok a ρ).bind k = k a ρ := rfl
@[simp] theorem Rs.bind_exc {α β : Type} (c : Nat) (fs : List D) (ρ : Ev) (k : α → Ev → Rs β) : (Rs.exc c fs ρ).bind k = .exc c fs ρ := rfl
@[simp] theorem Rs.bind_stuck {α β : Type} (k : α → Ev → Rs β) : (Rs.stuck).bind k = .stuck := rfl
@[simp] theorem Rs.opt_some {α : Type} (a : α) (ρ : Ev) : Rs.opt (some a) ρ = .ok a ρ := rfl
@[simp] theorem Rs.opt_none {α : Type} (ρ : Ev) : Rs.opt (none : Option α) ρ = .stuck := rfl
/-- what is wanted of an exception: class, its dict, slots, heap -/
abbrev Wx := Value → Option Addr → St → Hp → Prop
/-- an exception's fields stand in its own dict -/
def XOk (G : GC) (S H : Hp) (c : Nat) (fs : List D) (d : Option Addr) : Prop :=
  (G.C.fn c).length = fs.length ∧ ((fs = [] ∧ d = none) ∨ ∃ dd kvs, d = some dd ∧ H dd = some (.xd kvs) ∧ S dd = none ∧ G.H0 dd = none ∧
    ∀ (i : Nat) (f : Str) (x : D), (G.C.fn c)[i]? = some f → fs[i]? = some x → ∃ v, kvs.lookup f = some v ∧ Rp G.K G.C S x v)
section
variable (G : GC) (W : Wx) (S : Hp) (σ : St)
def Px (c : Nat) (fs : List D) (ρ : Ev) : Prop := ∀ S' H' d, Same S S' → Rel G S' H' σ ρ → XOk G S' H' c fs d → W (.ref (G.C.at_ c)) d σ H'
def Po {α : Type} (P : Hp → α → Hp → Ev → Prop) (r : Rs α) : Prop := match r with
  | .ok a ρ => ∀ S' H', Same S S' → Rel G S' H' σ ρ → P S' a H' ρ
  | .exc c fs ρ => Px G W S σ c fs ρ
  | .stuck => False
end
theorem Px.mono {G : GC} {W : Wx} {S S1 : Hp} {σ : St} {c fs ρ} (h : Px G W S σ c fs ρ) (s : Same S S1) : Px G W S1 σ c fs ρ := fun S' H' d s' => h S' H' d (s.trans s')
theorem Po.bind {α β : Type} {G : GC} {W : Wx} {S : Hp} {σ : St} {P : Hp → β → Hp → Ev → Prop} {r : Rs α} {k : α → Ev → Rs β} (h : Po G W S σ P (r.bind k)) :
    Po G W S σ (fun S1 a H1 ρ1 => Po G W S1 σ P (k a ρ1)) r := by
  cases r with
  | ok a ρ =>
    intro S' H' s R
    rw [Rs.bind_ok] at h
    cases e : k a ρ with
    | ok b ρ2 => rw [e] at h; exact fun S2 H2 s2 => h S2 H2 (s.trans s2)
    | exc c fs ρ2 => rw [e] at h; exact Px.mono h s
    | stuck => rw [e] at h; exact h
  | exc c fs ρ => exact h
  | stuck => exact h
/-- an expression's pure reading: changes of the slots' own things, and a value -/
def pE (G : GC) (W : Wx) (f : Ev → Rs D) : TE := fun σ H Q => ∃ S ρ, Rel G S H σ ρ ∧ Po G W S σ (fun S' d H' ρ' => ∀ v, Rp G.K G.C S' d v → Q v H') (f ρ)
def pA (G : GC) (W : Wx) (f : Ev → Rs (List D)) : TA := fun σ H Q => ∃ S ρ, Rel G S H σ ρ ∧ Po G W S σ (fun S' ds H' ρ' => ∀ vs, Rps G.K G.C S' ds vs → Q vs H') (f ρ)
def pT (G : GC) (W : Wx) (f : Ev → Rs Bool) : TT := fun σ H Q => ∃ S ρ, Rel G S H σ ρ ∧ Po G W S σ (fun S' b H' ρ' => Q b H') (f ρ)
/-- a value that may be a list of a slot's own, read at once -/
def BRp (G : GC) (S H : Hp) (d : D) (v : V) : Prop := Rp G.K G.C S d v ∨ ∃ xs a vs, d = .lst xs ∧ v = .ref a ∧ H a = some (.lst vs) ∧ Rps G.K G.C S xs vs
/-- quiet: no slot changes -/
def pB (G : GC) (f : Ev → Option D) : TE := fun σ H Q => ∃ S ρ, Rel G S H σ ρ ∧ match f ρ with
  | some d => ∀ v S' H', Grow S H S' H' → BRp G S' H' d v → Q v H'
  | none => False
def pQ (G : GC) (f : Ev → Option D) : TE := fun σ H Q => ∃ S ρ, Rel G S H σ ρ ∧ match f ρ with
  | some d => ∀ v S' H', Grow S H S' H' → Rp G.K G.C S' d v → Q v H'
  | none => False
theorem BRp.lst {G : GC} {S H : Hp} {xs : List D} {v : V} (s : Same S H) (h : BRp G S H (.lst xs) v) : ∃ a vs, v = .ref a ∧ H a = some (.lst vs) ∧ Rps G.K G.C S xs vs := by
  rcases h with ⟨a, vs, e, q, r⟩ | ⟨xs', a, vs, e, e2, q, r⟩
  · exact ⟨a, vs, e, s _ _ q, r⟩
  · cases e; exact ⟨a, vs, e2, q, r⟩
theorem BRp.grow {G : GC} {S H S' H' : Hp} {d : D} {v : V} (g : Grow S H S' H') (h : BRp G S H d v) : BRp G S' H' d v := by
  rcases h with h | ⟨xs, a, vs, e, e2, q, r⟩
  · exact .inl (Rp.mono g.sS _ _ h)
  · exact .inr ⟨xs, a, vs, e, e2, g.hH _ _ q, Rps.mono g.sS _ _ r⟩
theorem BRp.flat {G : GC} {S H : Hp} {d : D} {v : V} (h : BRp G S H d v) (n : ∀ xs, d ≠ .lst xs) : Rp G.K G.C S d v := by
  rcases h with h | ⟨xs, a, vs, e, _⟩
  · exact h
  · exact absurd e (n xs)
section
variable {X : Cx} {G : GC} {W : Wx}
theorem PEm {e : Expr} {t t' : TE} (h : PE X e t) (i : ∀ σ H Q, t' σ H Q → t σ H Q) : PE X e t' := ⟨fun pins s σ H Q I k => h.run pins s σ H Q I (i σ H Q k)⟩
theorem PTm {e : Expr} {t t' : TT} (h : PT X e t) (i : ∀ σ H Q, t' σ H Q → t σ H Q) : PT X e t' := ⟨fun pins s σ H Q I k => h.run pins s σ H Q I (i σ H Q k)⟩
theorem PWm {e : Expr} {t t' : TT} (h : PW X e t) (i : ∀ σ H Q, t' σ H Q → t σ H Q) : PW X e t' := ⟨fun wh pins s σ H Q I k => h.run wh pins s σ H Q I (i σ H Q k)⟩
theorem PAm {e : List Expr} {t t' : TA} (h : PA X e t) (i : ∀ σ H Q, t' σ H Q → t σ H Q) : PA X e t' := ⟨fun p pins s σ H Q I k => h.run p pins s σ H Q I (i σ H Q k)⟩
theorem PSm {e : Stmt} {t t' : TS} (h : PS X e t) (i : ∀ D σ H, t' D σ H → t D σ H) : PS X e t' := ⟨fun pins s σ H D I k => h.run pins s σ H D I (i D σ H k)⟩
theorem PSsm {e : List Stmt} {t t' : TS} (h : PSs X e t) (i : ∀ D σ H, t' D σ H → t D σ H) : PSs X e t' := ⟨fun pins s σ H D I k => h.run pins s σ H D I (i D σ H k)⟩
/-! ### from quiet to any -/
def up (f : Ev → Option D) : Ev → Rs D := fun ρ => Rs.opt (f ρ) ρ
theorem qe {e : Expr} {f : Ev → Option D} (h : PE X e (pQ G f)) : PE X e (pE G W (up f)) := PEm h fun σ H Q ⟨S, ρ, R, q⟩ => by
  refine ⟨S, ρ, R, ?_⟩
  unfold up at q
  cases e : f ρ with
  | none => rw [e] at q; exact q
  | some d =>
    rw [e] at q
    exact fun v S' H' g r => q S' H' g.sS (R.grow g) v r
theorem qb {e : Expr} {f : Ev → Option D} (h : PE X e (pQ G f)) : PE X e (pB G f) := PEm h fun σ H Q ⟨S, ρ, R, q⟩ => by
  refine ⟨S, ρ, R, ?_⟩
  cases e : f ρ with
  | none => rw [e] at q; exact q
  | some d =>
    rw [e] at q
    exact fun v S' H' g r => q v S' H' g (.inl r)
/-! ### names -/
def nm (i : Nat) : Ev → Option D := fun ρ => match ρ[i]? with
  | some (.val d) => some d
  | _ => none
def bn (i : Nat) : Ev → Option D := fun ρ => match ρ[i]? with
  | some (.val d) => some d
  | some (.own xs) => some (.lst xs)
  | _ => none
theorem q_nm (i : Nat) {x : Str} {pos : Pos} (hN : X.N[i]? = some x := by rfl) (hv : Vis X.env.scope x := by first | exact Or.inl rfl | exact Or.inr (Or.inl rfl) | exact Or.inr (Or.inr rfl)) (hd : (x == ("__debug__" : Str)) = false := by decide)
    (hcd : (x == ("__classdict__" : Str)) = false := by decide) : PE X (.Name x pos) (pQ G (nm i)) := PEm (pe_var hN hv hd hcd) fun σ H Q ⟨S, ρ, R, q⟩ => by
  unfold nm at q
  cases e : ρ[i]? with
  | none => rw [e] at q; exact q.elim
  | some sl =>
    rw [e] at q
    cases sl with
    | val d =>
      obtain ⟨v, e2, r⟩ := R.sl i _ e
      have e3 : σ[i]? = some (some v) := by
        cases h : σ[i]? with
        | none => rw [h] at e2; cases e2
        | some o => rw [h] at e2; exact congrArg some e2
      exact ⟨v, e3, q v S H (Grow.refl R.sub) r⟩
    | _ => exact q.elim
theorem b_nm (i : Nat) {x : Str} {pos : Pos} (hN : X.N[i]? = some x := by rfl) (hv : Vis X.env.scope x := by first | exact Or.inl rfl | exact Or.inr (Or.inl rfl) | exact Or.inr (Or.inr rfl)) (hd : (x == ("__debug__" : Str)) = false := by decide)
    (hcd : (x == ("__classdict__" : Str)) = false := by decide) : PE X (.Name x pos) (pB G (bn i)) := PEm (pe_var hN hv hd hcd) fun σ H Q ⟨S, ρ, R, q⟩ => by
  unfold bn at q
  cases e : ρ[i]? with
  | none => rw [e] at q; exact q.elim
  | some sl =>
    rw [e] at q
    have up : ∀ {v : V}, (σ[i]?).getD none = some v → σ[i]? = some (some v) := fun {v} e2 => by
      cases h : σ[i]? with
      | none => rw [h] at e2; cases e2
      | some o => rw [h] at e2; exact congrArg some e2
    cases sl with
    | val d =>
      obtain ⟨v, e2, r⟩ := R.sl i _ e
      exact ⟨v, up e2, q v S H (Grow.refl R.sub) (.inl r)⟩
    | own xs =>
      obtain ⟨a, vs, e2, n, hh, r⟩ := R.sl i _ e
      exact ⟨.ref a, up e2, q _ S H (Grow.refl R.sub) (.inr ⟨xs, a, vs, rfl, rfl, hh, r⟩)⟩
    | _ => exact q.elim
/-- a name whose own list is handed on: from here on it never changes -/
def fz (i : Nat) : Ev → Rs D := fun ρ => match ρ[i]? with
  | some (.val d) => .ok d ρ
  | some (.own xs) => if i = 0 then .stuck else .ok (.lst xs) (ρ.set i (.val (.lst xs)))
  | _ => .stuck
theorem Rel.freeze {S H : Hp} {σ : St} {ρ : Ev} {i : Nat} {xs : List D} (R : Rel G S H σ ρ) (hi : ρ[i]? = some (.own xs)) (h0 : i ≠ 0) :
    ∃ a vs, σ[i]? = some (some (.ref a)) ∧ H a = some (.lst vs) ∧ Rps G.K G.C S xs vs ∧ Rel G (upd S a (.lst vs)) H σ (ρ.set i (.val (.lst xs))) ∧ Same S (upd S a (.lst vs)) := by
  obtain ⟨a, vs, e2, n, hh, r⟩ := R.sl i _ hi
  have e3 : σ[i]? = some (some (.ref a)) := by
    cases h : σ[i]? with
    | none => rw [h] at e2; cases e2
    | some o => rw [h] at e2; exact congrArg some e2
  have hOw : Ow ρ σ i a := ⟨⟨_, hi, rfl⟩, e3⟩
  have sm : Same S (upd S a (.lst vs)) := fun b o q => by rw [upd_ne (ne_of_none q n)]; exact q
  have hlt : i < ρ.length := (List.getElem?_eq_some_iff.mp hi).1
  have owd : ∀ j b, Ow (ρ.set i (.val (.lst xs))) σ j b → Ow ρ σ j b ∧ j ≠ i := fun j b ⟨⟨sl, e, n1⟩, e'⟩ => by
    by_cases hj : i = j
    · subst hj
      rw [List.getElem?_set_self hlt] at e
      cases e
      cases n1
    · rw [List.getElem?_set_ne hj] at e
      exact ⟨⟨⟨sl, e, n1⟩, e'⟩, fun z => hj z.symm⟩
  refine ⟨a, vs, e3, hh, r, ⟨fun b o q => ?_, R.old.trans sm, R.fr, R.th, fun b o q => ?_, fun j sl e => ?_, fun j k b h1 h2 => R.dis j k b (owd _ _ h1).1 (owd _ _ h2).1, fun j b h => R.mine j b (owd _ _ h).1, fun b hb => ?_, ?_, R.tbU hh fun _ => nofun, fun z => (R.nt z).upd fun _ => nofun⟩, sm⟩
  · by_cases hb : b = a
    · subst hb; rw [upd_same] at q; cases q; exact hh
    · rw [upd_ne hb] at q; exact R.sub b o q
  · by_cases hb : b = a
    · subst hb
      rcases R.mine i b hOw with z | z
      · exact .inr (.inr z)
      · exact .inr (.inl z)
    · rw [upd_ne hb] at q; exact R.nw b o q
  · by_cases hj : i = j
    · subst hj
      rw [List.getElem?_set_self hlt] at e
      cases e
      exact ⟨.ref a, by rw [e3]; rfl, ⟨a, vs, rfl, upd_same, Rps.mono sm _ _ r⟩⟩
    · rw [List.getElem?_set_ne hj] at e
      have h := R.sl j sl e
      cases sl with
      | no => trivial
      | adr => exact h
      | val d => obtain ⟨v, q, r⟩ := h; exact ⟨v, q, Rp.mono sm _ _ r⟩
      | own ys =>
        obtain ⟨b, ws, q, nb, hb, r⟩ := h
        have qb : σ[j]? = some (some (.ref b)) := by
          cases h : σ[j]? with
          | none => rw [h] at q; cases q
          | some o => rw [h] at q; exact congrArg some q
        have hba : b ≠ a := fun z => by
          subst z
          exact hj (R.dis i j b hOw ⟨⟨_, e, rfl⟩, qb⟩)
        exact ⟨b, ws, q, by rw [upd_ne hba]; exact nb, hb, Rps.mono sm _ _ r⟩
      | obj c fs =>
        obtain ⟨b, dx, ws, q, nb, nd, ne, hd, hb, r⟩ := h
        have hba : b ≠ a := fun z => by rw [z, hh] at hb; cases hb
        have hda : dx ≠ a := fun z => by rw [z, hh] at hd; cases hd
        exact ⟨b, dx, ws, q, by rw [upd_ne hba]; exact nb, by rw [upd_ne hda]; exact nd, ne, hd, hb, r.mono sm⟩
  · obtain ⟨e0, ⟨xs0, hx0, hy0⟩⟩ := R.mt b hb
    exact ⟨e0, ⟨xs0, by rw [List.getElem?_set_ne h0]; exact hx0, hy0⟩⟩
  · rw [List.length_set]; exact R.len
theorem e_fz (i : Nat) {x : Str} {pos : Pos} (hN : X.N[i]? = some x := by rfl) (hv : Vis X.env.scope x := by first | exact Or.inl rfl | exact Or.inr (Or.inl rfl) | exact Or.inr (Or.inr rfl)) (hd : (x == ("__debug__" : Str)) = false := by decide)
    (hcd : (x == ("__classdict__" : Str)) = false := by decide) : PE X (.Name x pos) (pE G W (fz i)) := PEm (pe_var hN hv hd hcd) fun σ H Q ⟨S, ρ, R, q⟩ => by
  unfold fz at q
  cases e : ρ[i]? with
  | none => rw [e] at q; exact q.elim
  | some sl =>
    rw [e] at q
    cases sl with
    | val d =>
      obtain ⟨v, e2, r⟩ := R.sl i _ e
      have e3 : σ[i]? = some (some v) := by
        cases h : σ[i]? with
        | none => rw [h] at e2; cases e2
        | some o => rw [h] at e2; exact congrArg some e2
      exact ⟨v, e3, q S H (Same.refl _) R v r⟩
    | own xs =>
      by_cases h0 : i = 0
      · simp only [h0, if_true] at q
        exact q.elim
      · simp only [if_neg h0] at q
        obtain ⟨a, vs, e3, hh, r, R2, sm⟩ := R.freeze e h0
        exact ⟨_, e3, q _ H sm R2 _ ⟨a, vs, rfl, upd_same, Rps.mono sm _ _ r⟩⟩
    | _ => exact q.elim
/-! ### constants -/
def ct (d : D) : Ev → Option D := fun _ => some d
theorem q_int {i j pos} : PE X (.Constant (.int i) j pos) (pQ G (ct (.int i))) := PEm pe_int fun σ H Q ⟨S, ρ, R, q⟩ => q _ S H (Grow.refl R.sub) rfl
theorem q_bl {b j pos} : PE X (.Constant (.bool b) j pos) (pQ G (ct (.bl b))) := PEm pe_bl fun σ H Q ⟨S, ρ, R, q⟩ => q _ S H (Grow.refl R.sub) rfl
theorem q_non {j pos} : PE X (.Constant .none j pos) (pQ G (ct .non)) := PEm pe_non fun σ H Q ⟨S, ρ, R, q⟩ => q _ S H (Grow.refl R.sub) rfl
theorem q_str {x j pos} : PE X (.Constant (.str x) j pos) (pQ G (ct (.str x))) := PEm pe_str fun σ H Q ⟨S, ρ, R, q⟩ => q _ S H (Grow.refl R.sub) rfl
/-! ### operators by their values -/
def USpec (G : GC) (r : V → Hp → VK → Prop) (o : D → Option D) : Prop := ∀ S H x d d' Q, Same S H → BRp G S H d x → o d = some d' → (∀ v S' H', Grow S H S' H' → Rp G.K G.C S' d' v → Q v H') → r x H Q
def BSpec (G : GC) (r : R2) (o : D → D → Option D) : Prop := ∀ S H x y d1 d2 d' Q, Same S H → BRp G S H d1 x → BRp G S H d2 y → o d1 d2 = some d' → (∀ v S' H', Grow S H S' H' → Rp G.K G.C S' d' v → Q v H') → r x y H Q
def q1 (o : D → Option D) (f : Ev → Option D) : Ev → Option D := fun ρ => (f ρ).bind o
def q2 (o : D → D → Option D) (f g : Ev → Option D) : Ev → Option D := fun ρ => (f ρ).bind fun a => (g ρ).bind fun b => o a b
def e1 (o : D → Option D) (f : Ev → Rs D) : Ev → Rs D := fun ρ => (f ρ).bind fun a ρ1 => Rs.opt (o a) ρ1
def e2 (o : D → D → Option D) (f g : Ev → Rs D) : Ev → Rs D := fun ρ => (f ρ).bind fun a ρ1 => (g ρ1).bind fun b ρ2 => Rs.opt (o a b) ρ2
theorem q1_ok {r : V → Hp → VK → Prop} {o : D → Option D} (sp : USpec G r o) {f : Ev → Option D} {σ : St} {H : Hp} {Q : VK} (h : pQ G (q1 o f) σ H Q) : pB G f σ H fun x H1 => r x H1 Q := by
  obtain ⟨S, ρ, R, q⟩ := h
  refine ⟨S, ρ, R, ?_⟩
  unfold q1 at q
  cases e : f ρ with
  | none => rw [e] at q; exact q
  | some d =>
    rw [e, Option.bind_some] at q
    intro v S' H' g b
    cases e2 : o d with
    | none => rw [e2] at q; exact q.elim
    | some d' =>
      rw [e2] at q
      exact sp S' H' v d d' Q g.sub b e2 fun v2 S2 H2 g2 r2 => q v2 S2 H2 (g.trans g2) r2
theorem q2_ok {r : R2} {o : D → D → Option D} (sp : BSpec G r o) {f g : Ev → Option D} {σ : St} {H : Hp} {Q : VK} (h : pQ G (q2 o f g) σ H Q) : pB G f σ H fun x H1 => pB G g σ H1 fun y H2 => r x y H2 Q := by
  obtain ⟨S, ρ, R, q⟩ := h
  refine ⟨S, ρ, R, ?_⟩
  unfold q2 at q
  cases e : f ρ with
  | none => rw [e] at q; exact q
  | some d =>
    rw [e, Option.bind_some] at q
    intro v S1 H1 g1 b1
    refine ⟨S1, ρ, R.grow g1, ?_⟩
    cases e2 : g ρ with
    | none => rw [e2] at q; exact q.elim
    | some d2 =>
      rw [e2, Option.bind_some] at q
      intro v2 S2 H2 g2 b2
      cases e3 : o d d2 with
      | none => rw [e3] at q; exact q.elim
      | some d' =>
        rw [e3] at q
        exact sp S2 H2 v v2 d d2 d' Q g2.sub (b1.grow g2) b2 e3 fun v3 S3 H3 g3 r3 => q v3 S3 H3 ((g1.trans g2).trans g3) r3
theorem e1_ok {r : V → Hp → VK → Prop} {o : D → Option D} (sp : USpec G r o) {f : Ev → Rs D} {σ : St} {H : Hp} {Q : VK} (h : pE G W (e1 o f) σ H Q) : pE G W f σ H fun x H1 => r x H1 Q := by
  obtain ⟨S, ρ, R, q⟩ := h
  refine ⟨S, ρ, R, ?_⟩
  have q := Po.bind q
  cases e : f ρ with
  | stuck => rw [e] at q; exact q
  | exc c fs ρ' => rw [e] at q; exact q
  | ok d ρ' =>
    rw [e] at q
    intro S' H' s R' v rp
    have q := q S' H' s R'
    dsimp only at q
    cases e2 : o d with
    | none => rw [e2] at q; exact q.elim
    | some d' =>
      rw [e2] at q
      exact sp S' H' v d d' Q R'.sub (.inl rp) e2 fun v2 S2 H2 g2 r2 => q S2 H2 g2.sS (R'.grow g2) v2 r2
theorem e2_ok {r : R2} {o : D → D → Option D} (sp : BSpec G r o) {f g : Ev → Rs D} {σ : St} {H : Hp} {Q : VK} (h : pE G W (e2 o f g) σ H Q) : pE G W f σ H fun x H1 => pE G W g σ H1 fun y H2 => r x y H2 Q := by
  obtain ⟨S, ρ, R, q⟩ := h
  refine ⟨S, ρ, R, ?_⟩
  have q := Po.bind q
  cases e : f ρ with
  | stuck => rw [e] at q; exact q
  | exc c fs ρ' => rw [e] at q; exact q
  | ok d ρ' =>
    rw [e] at q
    intro S1 H1 s1 R1 v rp1
    have q := Po.bind (q S1 H1 s1 R1)
    refine ⟨S1, ρ', R1, ?_⟩
    cases e2 : g ρ' with
    | stuck => rw [e2] at q; exact q
    | exc c fs ρ' => rw [e2] at q; exact q
    | ok d2 ρ2 =>
      rw [e2] at q
      intro S2 H2 s2 R2 v2 rp2
      have q := q S2 H2 s2 R2
      dsimp only at q
      cases e3 : o d d2 with
      | none => rw [e3] at q; exact q.elim
      | some d' =>
        rw [e3] at q
        exact sp S2 H2 v v2 d d2 d' Q R2.sub (.inl (Rp.mono s2 _ _ rp1)) (.inl rp2) e3 fun v3 S3 H3 g3 r3 => q S3 H3 g3.sS (R2.grow g3) v3 r3
section
variable {r : R2} {u : V → Hp → VK → Prop} {o : D → D → Option D} {o1 : D → Option D} {a b : Expr} {f g : Ev → Option D} {k l : Ev → Rs D} {pos : Pos}
theorem q_op {op : Operator} (ho : OpR X (binaryOp op) r) (sp : BSpec G r o) (ha : PE X a (pB G f)) (hb : PE X b (pB G g)) : PE X (.BinOp a op b pos) (pQ G (q2 o f g)) := PEm (pe_op ho ha hb) fun _ _ _ h => q2_ok sp h
theorem e_op {op : Operator} (ho : OpR X (binaryOp op) r) (sp : BSpec G r o) (ha : PE X a (pE G W k)) (hb : PE X b (pE G W l)) : PE X (.BinOp a op b pos) (pE G W (e2 o k l)) := PEm (pe_op ho ha hb) fun _ _ _ h => e2_ok sp h
theorem q_un {op : UnaryOp} (ho : UnR X (unaryOp op) u) (sp : USpec G u o1) (ha : PE X a (pB G f)) : PE X (.UnaryOp op a pos) (pQ G (q1 o1 f)) := PEm (pe_un ho ha) fun _ _ _ h => q1_ok sp h
theorem e_un {op : UnaryOp} (ho : UnR X (unaryOp op) u) (sp : USpec G u o1) (ha : PE X a (pE G W k)) : PE X (.UnaryOp op a pos) (pE G W (e1 o1 k)) := PEm (pe_un ho ha) fun _ _ _ h => e1_ok sp h
theorem q_cmp {op : CmpOp} (ho : OpR X (compareOp op) r) (sp : BSpec G r o) (ha : PE X a (pB G f)) (hb : PE X b (pB G g)) (hm : behindInMarks op b = false := by first | exact nomark _ | rfl) : PE X (.Compare a [op] [b] pos) (pQ G (q2 o f g)) := PEm (pe_cmpR ho ha hb hm) fun _ _ _ h => q2_ok sp h
theorem e_cmp {op : CmpOp} (ho : OpR X (compareOp op) r) (sp : BSpec G r o) (ha : PE X a (pE G W k)) (hb : PE X b (pE G W l)) (hm : behindInMarks op b = false := by first | exact nomark _ | rfl) : PE X (.Compare a [op] [b] pos) (pE G W (e2 o k l)) := PEm (pe_cmpR ho ha hb hm) fun _ _ _ h => e2_ok sp h
theorem q_ix (ho : IxR X r) (sp : BSpec G r o) (ha : PE X a (pB G f)) (hb : PE X b (pB G g)) (hs : PlainIx b := by exact fun _ _ => rfl) : PE X (.Subscript a b pos) (pQ G (q2 o f g)) := PEm (pe_ix ho ha hb hs) fun _ _ _ h => q2_ok sp h
theorem e_ix (ho : IxR X r) (sp : BSpec G r o) (ha : PE X a (pE G W k)) (hb : PE X b (pE G W l)) (hs : PlainIx b := by exact fun _ _ => rfl) : PE X (.Subscript a b pos) (pE G W (e2 o k l)) := PEm (pe_ix ho ha hb hs) fun _ _ _ h => e2_ok sp h
/-- a built-in of one argument -/
theorem q_b1 {c : List V → Hp → VK → Prop} {x : Str} {id : String} {p : Pos} (hc : CallR X (.builtin id) c) (sp : USpec G (fun v H Q => c [v] H Q) o1) (ha : PE X a (pB G f)) (hm : X.mg x = none) (hv : bootBuiltins x = some (.builtin id) := by decide +kernel) (hg : Gl X x := by rfl)
    (hn : x ≠ "__name__" := by decide) (hdb : (x == ("__debug__" : Str)) = false := by decide) (he : starEach (a :: []) X.env = (false, eval a X.env) :: starEach [] X.env := by rfl) (hpl : (backTo pos (starEach [] X.env)).any (·.1) = false := by rfl) :
    PE X (.Call (.Name x p) [a] [] pos) (pQ G (q1 o1 f)) := PEm (pe_callB hc hg hm hv (pa_cons ha pa_nil he) hn hdb he hpl) fun _ _ _ h => q1_ok sp h
theorem e_b1 {c : List V → Hp → VK → Prop} {x : Str} {id : String} {p : Pos} (hc : CallR X (.builtin id) c) (sp : USpec G (fun v H Q => c [v] H Q) o1) (ha : PE X a (pE G W k)) (hm : X.mg x = none) (hv : bootBuiltins x = some (.builtin id) := by decide +kernel) (hg : Gl X x := by rfl)
    (hn : x ≠ "__name__" := by decide) (hdb : (x == ("__debug__" : Str)) = false := by decide) (he : starEach (a :: []) X.env = (false, eval a X.env) :: starEach [] X.env := by rfl) (hpl : (backTo pos (starEach [] X.env)).any (·.1) = false := by rfl) :
    PE X (.Call (.Name x p) [a] [] pos) (pE G W (e1 o1 k)) := PEm (pe_callB hc hg hm hv (pa_cons ha pa_nil he) hn hdb he hpl) fun _ _ _ h => e1_ok sp h
theorem q_t1 {c : List V → Hp → VK → Prop} {x : Str} {T : String} {p : Pos} (hc : CallR X (.type T) c) (sp : USpec G (fun v H Q => c [v] H Q) o1) (ha : PE X a (pB G f)) (hm : X.mg x = none) (hv : bootBuiltins x = some (.type T) := by decide +kernel) (hg : Gl X x := by rfl)
    (hn : x ≠ "__name__" := by decide) (hdb : (x == ("__debug__" : Str)) = false := by decide) (he : starEach (a :: []) X.env = (false, eval a X.env) :: starEach [] X.env := by rfl) (hpl : (backTo pos (starEach [] X.env)).any (·.1) = false := by rfl) :
    PE X (.Call (.Name x p) [a] [] pos) (pQ G (q1 o1 f)) := PEm (pe_callTy hc hg hm hv (pa_cons ha pa_nil he) hn hdb he hpl) fun _ _ _ h => q1_ok sp h
theorem e_t1 {c : List V → Hp → VK → Prop} {x : Str} {T : String} {p : Pos} (hc : CallR X (.type T) c) (sp : USpec G (fun v H Q => c [v] H Q) o1) (ha : PE X a (pE G W k)) (hm : X.mg x = none) (hv : bootBuiltins x = some (.type T) := by decide +kernel) (hg : Gl X x := by rfl)
    (hn : x ≠ "__name__" := by decide) (hdb : (x == ("__debug__" : Str)) = false := by decide) (he : starEach (a :: []) X.env = (false, eval a X.env) :: starEach [] X.env := by rfl) (hpl : (backTo pos (starEach [] X.env)).any (·.1) = false := by rfl) :
    PE X (.Call (.Name x p) [a] [] pos) (pE G W (e1 o1 k)) := PEm (pe_callTy hc hg hm hv (pa_cons ha pa_nil he) hn hdb he hpl) fun _ _ _ h => e1_ok sp h
end
end
end PL
namespace PL
open PySem L2
/-! ### what may change: one slot's own list -/
structure GrowM (p : Addr) (S H S' H' : Hp) : Prop where
  sS : Same S S'
  hH : ∀ b o, H b = some o → b ≠ p → H' b = some o
  sub : Same S' H'
  nw : ∀ a o, S' a = some o → S a = some o ∨ H a = none
  nt : NoT S → NoT S'
section
variable {G : GC} {S H S' H' : Hp} {σ : St} {ρ : Ev} {i : Nat} {p : Addr} {xs xs' : List D} {ws' : List V}
theorem Rel.at_own (R : Rel G S H σ ρ) (hi : ρ[i]? = some (.own xs)) : ∃ a vs, σ[i]? = some (some (.ref a)) ∧ S a = none ∧ H a = some (.lst vs) ∧ Rps G.K G.C S xs vs ∧ Ow ρ σ i a := by
  obtain ⟨a, vs, e2, n, hh, r⟩ := R.sl i _ hi
  have e3 : σ[i]? = some (some (.ref a)) := by
    cases h : σ[i]? with
    | none => rw [h] at e2; cases e2
    | some o => rw [h] at e2; exact congrArg some e2
  exact ⟨a, vs, e3, n, hh, r, ⟨_, hi, rfl⟩, e3⟩
theorem ow_set {sl : Sl} (hlt : i < ρ.length) {j : Nat} {b : Addr} (h : Ow (ρ.set i sl) σ j b) : (j ≠ i ∧ Ow ρ σ j b) ∨ (j = i ∧ sl.mine = true ∧ σ[i]? = some (some (.ref b))) := by
  obtain ⟨⟨s, e, m⟩, e'⟩ := h
  by_cases hj : i = j
  · subst hj
    rw [List.getElem?_set_self hlt] at e
    cases e
    exact .inr ⟨rfl, m, e'⟩
  · rw [List.getElem?_set_ne hj] at e
    exact .inl ⟨fun z => hj z.symm, ⟨s, e, m⟩, e'⟩
theorem Rel.growM (R : Rel G S H σ ρ) (hi : ρ[i]? = some (.own xs)) (hp : σ[i]? = some (some (.ref p))) (g : GrowM p S H S' H') (hl : H' p = some (.lst ws')) (hr : Rps G.K G.C S' xs' ws') : Rel G S' H' σ (ρ.set i (.own xs')) := by
  obtain ⟨a, vs, e3, n, hh, r, ow⟩ := R.at_own hi
  rw [hp] at e3; cases e3
  have hlt : i < ρ.length := (List.getElem?_eq_some_iff.mp hi).1
  have up : ∀ {a : Addr} {u : HO}, S a = none → H a = some u → S' a = none := fun {a u} n e => by
    cases q : S' a with
    | none => rfl
    | some w =>
      rcases g.nw a w q with z | z
      · rw [n] at z; cases z
      · rw [e] at z; cases z
  refine ⟨g.sub, R.old.trans g.sS, fun b o h hm => ?_, fun b o h => ?_, fun b o q => ?_, fun j sl e => ?_, fun j k b h1 h2 => ?_, fun j b h => ?_, fun b hb => ?_, ?_, ⟨R.tbM hh (fun _ => nofun) (fun _ _ => nofun) g.hH, R.tbS g.nw⟩, fun z => g.nt (R.nt z)⟩
  · refine g.hH b o (R.fr b o h hm) fun e => ?_
    subst e
    rcases R.mine i b ow with z | z
    · exact hm z
    · rw [h] at z; cases z
  · obtain ⟨o', q⟩ := R.th b o h
    by_cases e : b = p
    · subst e; exact ⟨_, hl⟩
    · exact ⟨o', g.hH b o' q e⟩
  · rcases g.nw b o q with z | z
    · exact R.nw b o z
    · cases h0 : G.H0 b with
      | none => exact .inr (.inl rfl)
      | some u =>
        by_cases hm : G.M b
        · exact .inr (.inr hm)
        · have := R.fr b u h0 hm
          rw [z] at this; cases this
  · by_cases hj : i = j
    · subst hj
      rw [List.getElem?_set_self hlt] at e
      cases e
      exact ⟨p, ws', by rw [hp]; rfl, up n hh, hl, hr⟩
    · rw [List.getElem?_set_ne hj] at e
      have h := R.sl j sl e
      cases sl with
      | no => trivial
      | adr => exact h
      | val d => obtain ⟨v, q, r⟩ := h; exact ⟨v, q, Rp.mono g.sS _ _ r⟩
      | own ys =>
        obtain ⟨b, ws, qb, nb, hb, r, owj⟩ := R.at_own e
        have hbp : b ≠ p := fun z => by subst z; exact hj (R.dis i j b ow owj)
        exact ⟨b, ws, by rw [qb]; rfl, up nb hb, g.hH _ _ hb hbp, Rps.mono g.sS _ _ r⟩
      | obj c fs =>
        obtain ⟨b, dx, ws, q, nb, nd, ne, hd, hb, r⟩ := h
        have hbp : b ≠ p := fun z => by rw [z, hh] at hb; cases hb
        have hdp : dx ≠ p := fun z => by rw [z, hh] at hd; cases hd
        exact ⟨b, dx, ws, q, up nb hb, up nd hd, ne, g.hH _ _ hd hdp, g.hH _ _ hb hbp, r.mono g.sS⟩
  · have f : ∀ {j b}, Ow (ρ.set i (.own xs')) σ j b → Ow ρ σ j b := fun {j b} h => by
      rcases ow_set hlt h with ⟨_, z⟩ | ⟨e, _, e'⟩
      · exact z
      · subst e; exact ⟨⟨_, hi, rfl⟩, e'⟩
    exact R.dis j k b (f h1) (f h2)
  · rcases ow_set hlt h with ⟨_, z⟩ | ⟨e, _, e'⟩
    · exact R.mine j b z
    · subst e; exact R.mine j b ⟨⟨_, hi, rfl⟩, e'⟩
  · obtain ⟨e0, ⟨xs0, hx0, hy0⟩⟩ := R.mt b hb
    refine ⟨e0, ?_⟩
    by_cases h0 : i = 0
    · subst h0; exact ⟨_, List.getElem?_set_self hlt, rfl⟩
    · exact ⟨xs0, by rw [List.getElem?_set_ne h0]; exact hx0, hy0⟩
  · rw [List.length_set]; exact R.len
/-- the own list of a slot is changed by itself -/
theorem Rel.write (R : Rel G S H σ ρ) (hi : ρ[i]? = some (.own xs)) (hp : σ[i]? = some (some (.ref p))) (hr : Rps G.K G.C S xs' ws') : Rel G S (upd H p (.lst ws')) σ (ρ.set i (.own xs')) := by
  obtain ⟨a, vs, e3, n, hh, r, ow⟩ := R.at_own hi
  rw [hp] at e3; cases e3
  refine R.growM hi hp ⟨Same.refl _, fun b o q hb => by rw [upd_ne hb]; exact q, fun b o q => ?_, fun _ _ q => .inl q, id⟩ upd_same hr
  rw [upd_ne (ne_of_none q n)]
  exact R.sub b o q
/-- a slot takes a value -/
theorem Rel.setv {d : D} {v : V} (R : Rel G S H σ ρ) (hlt : i < ρ.length) (h0 : i = 0 → G.m = none) (hr : Rp G.K G.C S d v) : Rel G S H (σ.set i (some v)) (ρ.set i (.val d)) := by
  have hls : i < σ.length := by rw [← R.len]; exact hlt
  have f : ∀ {j b}, Ow (ρ.set i (.val d)) (σ.set i (some v)) j b → Ow ρ σ j b := fun {j b} h => by
    rcases ow_set hlt h with ⟨hj, ⟨s, e, m⟩, z⟩ | ⟨e, m, _⟩
    · rw [List.getElem?_set_ne (Ne.symm hj)] at z
      exact ⟨⟨s, e, m⟩, z⟩
    · cases m
  refine ⟨R.sub, R.old, R.fr, R.th, R.nw, fun j sl e => ?_, fun j k b h1 h2 => R.dis j k b (f h1) (f h2), fun j b h => R.mine j b (f h), fun b hb => ?_, by rw [List.length_set, List.length_set]; exact R.len, R.tb, R.nt⟩
  · by_cases hj : i = j
    · subst hj
      rw [List.getElem?_set_self hlt] at e
      cases e
      exact ⟨v, by rw [List.getElem?_set_self hls]; rfl, hr⟩
    · rw [List.getElem?_set_ne hj] at e
      rw [List.getElem?_set_ne hj]
      exact R.sl j sl e
  · obtain ⟨e0, ⟨xs0, hx0, hy0⟩⟩ := R.mt b hb
    have hi0 : i ≠ 0 := fun z => by rw [h0 z] at hb; cases hb
    exact ⟨by rw [List.getElem?_set_ne hi0]; exact e0, ⟨xs0, by rw [List.getElem?_set_ne hi0]; exact hx0, hy0⟩⟩
/-- a slot takes a new list of its own -/
theorem Rel.seto {ys : List D} {a : Addr} {vs : List V} (R : Rel G S H σ ρ) (hlt : i < ρ.length) (h0 : i = 0 → G.m = none) (hn : G.H0 a = none) (nS : S a = none) (hf : ∀ j, ¬ Ow ρ σ j a) (hh : H a = some (.lst vs)) (hr : Rps G.K G.C S ys vs) : Rel G S H (σ.set i (some (.ref a))) (ρ.set i (.own ys)) := by
  have hls : i < σ.length := by rw [← R.len]; exact hlt
  have f : ∀ {j b}, Ow (ρ.set i (.own ys)) (σ.set i (some (.ref a))) j b → (j ≠ i ∧ Ow ρ σ j b) ∨ (j = i ∧ b = a) := fun {j b} h => by
    rcases ow_set hlt h with ⟨hj, ⟨s, e, m⟩, z⟩ | ⟨e, m, z⟩
    · rw [List.getElem?_set_ne (Ne.symm hj)] at z
      exact .inl ⟨hj, ⟨s, e, m⟩, z⟩
    · rw [List.getElem?_set_self hls] at z
      cases z
      exact .inr ⟨e, rfl⟩
  refine ⟨R.sub, R.old, R.fr, R.th, R.nw, fun j sl e => ?_, fun j k b h1 h2 => ?_, fun j b h => ?_, fun b hb => ?_, by rw [List.length_set, List.length_set]; exact R.len, R.tb, R.nt⟩
  · by_cases hj : i = j
    · subst hj
      rw [List.getElem?_set_self hlt] at e
      cases e
      exact ⟨a, vs, by rw [List.getElem?_set_self hls]; rfl, nS, hh, hr⟩
    · rw [List.getElem?_set_ne hj] at e
      rw [List.getElem?_set_ne hj]
      exact R.sl j sl e
  · rcases f h1 with ⟨_, z1⟩ | ⟨e1, b1⟩
    · rcases f h2 with ⟨_, z2⟩ | ⟨e2, b2⟩
      · exact R.dis j k b z1 z2
      · subst b2; exact absurd z1 (hf j)
    · rcases f h2 with ⟨_, z2⟩ | ⟨e2, b2⟩
      · subst b1; exact absurd z2 (hf k)
      · rw [e1, e2]
  · rcases f h with ⟨_, z⟩ | ⟨_, z⟩
    · exact R.mine j b z
    · subst z; exact .inr hn
  · obtain ⟨e0, ⟨xs0, hx0, hy0⟩⟩ := R.mt b hb
    have hi0 : i ≠ 0 := fun z => by rw [h0 z] at hb; cases hb
    exact ⟨by rw [List.getElem?_set_ne hi0]; exact e0, ⟨xs0, by rw [List.getElem?_set_ne hi0]; exact hx0, hy0⟩⟩
end
/-! ### statements -/
inductive Fl where
  | nx (ρ : Ev) | rt (d : D) (ρ : Ev) | bk (ρ : Ev) | ct (ρ : Ev) | exc (c : Nat) (fs : List D) (ρ : Ev) | stuck
/-- what the flow wants, from S on -/
def Fo (G : GC) (W : Wx) (S : Hp) (E : Ends) : Fl → Prop
  | .nx ρ' => ∀ σ' S' H', Same S S' → Rel G S' H' σ' ρ' → E.nx σ' H'
  | .rt d ρ' => ∀ σ' v S' H', Same S S' → Rel G S' H' σ' ρ' → Rp G.K G.C S' d v → E.rt v H'
  | .bk ρ' => ∀ σ' S' H', Same S S' → Rel G S' H' σ' ρ' → E.bk σ' H'
  | .ct ρ' => ∀ σ' S' H', Same S S' → Rel G S' H' σ' ρ' → E.ct σ' H'
  | .exc c fs ρ' => ∀ σ' S' H' d, Same S S' → Rel G S' H' σ' ρ' → XOk G S' H' c fs d → W (.ref (G.C.at_ c)) d σ' H'
  | .stuck => False
theorem Fo.mono {G : GC} {W : Wx} {S S1 : Hp} {E : Ends} (s : Same S S1) : ∀ {r : Fl}, Fo G W S E r → Fo G W S1 E r
  | .nx _, h => fun σ' S' H' s' => h σ' S' H' (s.trans s')
  | .rt _ _, h => fun σ' v S' H' s' => h σ' v S' H' (s.trans s')
  | .bk _, h => fun σ' S' H' s' => h σ' S' H' (s.trans s')
  | .ct _, h => fun σ' S' H' s' => h σ' S' H' (s.trans s')
  | .exc _ _ _, h => fun σ' S' H' d s' => h σ' S' H' d (s.trans s')
  | .stuck, h => h
def pS (G : GC) (W : Wx) (f : Ev → Fl) : TS := fun E σ H => ∃ S ρ, Rel G S H σ ρ ∧ Fo G W S E (f ρ)
theorem pS_iff {G : GC} {W : Wx} {f : Ev → Fl} {E : Ends} {σ : St} {H : Hp} : pS G W f E σ H ↔ ∃ S ρ, Rel G S H σ ρ ∧ Fo G W S E (f ρ) := Iff.rfl
def Rs.fl {α : Type} (r : Rs α) (k : α → Ev → Fl) : Fl := match r with
  | .ok a ρ => k a ρ
  | .exc c fs ρ => .exc c fs ρ
  | .stuck => .stuck
def Fl.seq (r : Fl) (k : Ev → Fl) : Fl := match r with
  | .nx ρ => k ρ
  | r => r
@[simp] theorem Rs.fl_ok {α : Type} (a : α) (ρ : Ev) (k : α → Ev → Fl) : (Rs.ok a ρ).fl k = k a ρ := rfl
@[simp] theorem Rs.fl_exc {α : Type} (c : Nat) (fs : List D) (ρ : Ev) (k : α → Ev → Fl) : (Rs.exc c fs ρ).fl k = .exc c fs ρ := rfl
@[simp] theorem Rs.fl_stuck {α : Type} (k : α → Ev → Fl) : (Rs.stuck).fl k = .stuck := rfl
@[simp] theorem Fl.seq_nx (ρ : Ev) (k : Ev → Fl) : (Fl.nx ρ).seq k = k ρ := rfl
@[simp] theorem Fl.seq_rt (d : D) (ρ : Ev) (k : Ev → Fl) : (Fl.rt d ρ).seq k = .rt d ρ := rfl
@[simp] theorem Fl.seq_bk (ρ : Ev) (k : Ev → Fl) : (Fl.bk ρ).seq k = .bk ρ := rfl
@[simp] theorem Fl.seq_ct (ρ : Ev) (k : Ev → Fl) : (Fl.ct ρ).seq k = .ct ρ := rfl
@[simp] theorem Fl.seq_exc (c : Nat) (fs : List D) (ρ : Ev) (k : Ev → Fl) : (Fl.exc c fs ρ).seq k = .exc c fs ρ := rfl
@[simp] theorem Fl.seq_stuck (k : Ev → Fl) : (Fl.stuck).seq k = .stuck := rfl
/-- from an expression to what follows it -/
theorem Po.fl {α : Type} {G : GC} {W : Wx} {S : Hp} {σ : St} {E : Ends} {r : Rs α} {k : α → Ev → Fl} (h : Fo G W S E (r.fl k)) : Po G W S σ (fun S1 a _ ρ1 => Fo G W S1 E (k a ρ1)) r := by
  cases r with
  | ok a ρ => exact fun _ _ s _ => Fo.mono s h
  | exc c fs ρ => exact fun S' H' d s R x => h σ S' H' d s R x
  | stuck => exact h
theorem Po.mono {α : Type} {G : GC} {W : Wx} {S : Hp} {σ : St} {P P' : Hp → α → Hp → Ev → Prop} {r : Rs α} (h : Po G W S σ P r) (k : ∀ a ρ S' H', Same S S' → Rel G S' H' σ ρ → P S' a H' ρ → P' S' a H' ρ) : Po G W S σ P' r := by
  cases r with
  | ok a ρ => exact fun S' H' s R => k a ρ S' H' s R (h S' H' s R)
  | exc c fs ρ => exact h
  | stuck => exact h
section
variable {X : Cx} {G : GC} {W : Wx} {f g : Ev → Fl} {st : Stmt} {rest : List Stmt} {pos : Pos}
theorem s_one (h : PS X st (pS G W f)) : PSs X [st] (pS G W f) := pss_one h
theorem s_nil : PSs X [] (pS G W .nx) := PSsm pss_nil fun E σ H ⟨S, ρ, R, q⟩ => q σ S H (Same.refl _) R
theorem s_cons (h : PS X st (pS G W f)) (h2 : PSs X rest (pS G W g)) : PSs X (st :: rest) (pS G W fun ρ => (f ρ).seq g) := PSsm (pss_cons h h2) fun E σ H ⟨S, ρ, R, q⟩ => by
  refine ⟨S, ρ, R, ?_⟩
  have q : Fo G W S E ((f ρ).seq g) := q
  cases e : f ρ <;> rw [e] at q
  · exact fun σ' S' H' s R' => ⟨S', _, R', Fo.mono s q⟩
  all_goals exact q
theorem s_never : PS X st (pS G W fun _ => .stuck) := PSm ps_never fun E σ H ⟨S, ρ, R, q⟩ => q
theorem ss_never {sts : List Stmt} : PSs X sts (pS G W fun _ => .stuck) := PSsm pss_never fun E σ H ⟨S, ρ, R, q⟩ => q
theorem s_pass : PS X (.Pass pos) (pS G W .nx) := PSm ps_pass fun E σ H ⟨S, ρ, R, q⟩ => q σ S H (Same.refl _) R
theorem s_break : PS X (.Break pos) (pS G W .bk) := PSm ps_break fun E σ H ⟨S, ρ, R, q⟩ => q σ S H (Same.refl _) R
theorem s_continue : PS X (.Continue pos) (pS G W .ct) := PSm ps_continue fun E σ H ⟨S, ρ, R, q⟩ => q σ S H (Same.refl _) R
theorem s_doc {x j p p'} : PS X (.Expr (.Constant (.str x) j p) p') (pS G W .nx) := PSm ps_doc fun E σ H ⟨S, ρ, R, q⟩ => q σ S H (Same.refl _) R
def retF (k : Ev → Rs D) : Ev → Fl := fun ρ => (k ρ).fl .rt
theorem s_ret {e : Expr} {k : Ev → Rs D} (he : PE X e (pE G W k)) : PS X (.Return (some e) pos) (pS G W (retF k)) := PSm (ps_ret he) fun E σ H ⟨S, ρ, R, q⟩ =>
  ⟨S, ρ, R, Po.mono (Po.fl (S := S) (σ := σ) q) fun d ρ1 S1 H1 s1 R1 q v r => q σ v S1 H1 (Same.refl _) R1 r⟩
theorem s_retN : PS X (.Return none pos) (pS G W (.rt .non)) := PSm ps_retN fun E σ H ⟨S, ρ, R, q⟩ => q σ _ S H (Same.refl _) R rfl
/-- an expression whose value is dropped -/
def dropF (k : Ev → Rs D) : Ev → Fl := fun ρ => (k ρ).fl fun _ => .nx
theorem s_expr {e : Expr} {k : Ev → Rs D} (he : PE X e (pE G W k)) (hs : swapsWith e none pos.line X.env = pure false := by rfl) : PS X (.Expr e pos) (pS G W (dropF k)) := PSm (ps_expr he hs) fun E σ H ⟨S, ρ, R, q⟩ =>
  ⟨S, ρ, R, Po.mono (Po.fl (S := S) (σ := σ) q) fun d ρ1 S1 H1 s1 R1 q v r => q σ S1 H1 (Same.refl _) R1⟩
def ifF (c : Ev → Rs Bool) (f g : Ev → Fl) : Ev → Fl := fun ρ => (c ρ).fl fun b ρ1 => if b then f ρ1 else g ρ1
theorem s_if {c : Expr} {a b : List Stmt} {k : Ev → Rs Bool} (hc : PT X c (pT G W k)) (ha : PSs X a (pS G W f)) (hb : PSs X b (pS G W g)) : PS X (.If c a b pos) (pS G W (ifF k f g)) := PSm (ps_if hc ha hb) fun E σ H ⟨S, ρ, R, q⟩ => by
  refine ⟨S, ρ, R, Po.mono (Po.fl (S := S) (σ := σ) q) fun b ρ1 S1 H1 s1 R1 q => ?_⟩
  cases b with
  | true => exact iteT ⟨S1, _, R1, q⟩
  | false => exact iteF ⟨S1, _, R1, q⟩
/-- name = value -/
def own0 (ρ : Ev) : Bool := match ρ[0]? with
  | some sl => sl.mine
  | none => false
def put (i : Nat) (sl : Sl) (ρ : Ev) : Fl := if decide (i < ρ.length) && (i != 0 || !own0 ρ) then .nx (ρ.set i sl) else .stuck
theorem put_ok {E : Ends} {i : Nat} {sl : Sl} {ρ : Ev} {S H : Hp} {σ : St} (R : Rel G S H σ ρ) (q : Fo G W S E (put i sl ρ)) : i < ρ.length ∧ (i = 0 → G.m = none) ∧ Fo G W S E (.nx (ρ.set i sl)) := by
  unfold put at q
  cases c : (decide (i < ρ.length) && (i != 0 || !own0 ρ)) with
  | false => rw [c] at q; exact q.elim
  | true =>
    rw [c] at q
    simp only [Bool.and_eq_true, decide_eq_true_eq, Bool.or_eq_true, bne_iff_ne, ne_eq, Bool.not_eq_true'] at c
    refine ⟨c.1, fun h0 => ?_, q⟩
    cases hm : G.m with
    | none => rfl
    | some a =>
      obtain ⟨_, ⟨xs, hx, hy⟩⟩ := R.mt a hm
      rcases c.2 with z | z
      · exact absurd h0 z
      · unfold own0 at z; rw [hx] at z; dsimp only at z; rw [hy] at z; cases z
def setF (i : Nat) (k : Ev → Rs D) : Ev → Fl := fun ρ => (k ρ).fl fun d ρ1 => put i (.val d) ρ1
theorem s_set {i : Nat} {x : Str} {e : Expr} {k : Ev → Rs D} {pos' : Pos} (hN : X.N.Nodup) (hi : X.N[i]? = some x) (hx : L2.Loc X.env.scope x) (he : PE X e (pE G W k)) (hs : swapsWith e (some (.Name x pos')) pos.line X.env = pure false := by rfl) (hf : X.fn x = true ∨ X.env.scope.names.lookup x = some .local := by first | exact .inl rfl | exact .inr rfl | assumption) :
    PS X (.Assign [.Name x pos'] e pos) (pS G W (setF i k)) := PSm (ps_set hN hi hx he hs hf) fun E σ H q => by
  obtain ⟨S, ρ, R, q⟩ := q
  refine ⟨S, ρ, R, Po.mono (Po.fl (S := S) (σ := σ) q) fun d ρ1 S' H' s R' q v r => ?_⟩
  obtain ⟨h1, h2, h3⟩ := put_ok R' q
  exact h3 _ _ _ (Same.refl _) (R'.setv h1 h2 r)
/-- an expression that makes a new list: it is a slot's own from then on -/
def pF (G : GC) (W : Wx) (k : Ev → Rs (List D)) : TE := fun σ H Q => ∃ S ρ, Rel G S H σ ρ ∧ Po G W S σ (fun S' ds H' ρ' => ∀ a vs, G.H0 a = none → S' a = none → (∀ j, ¬ Ow ρ' σ j a) → H' a = some (.lst vs) → Rps G.K G.C S' ds vs → Q (.ref a) H') (k ρ)
def setoF (i : Nat) (k : Ev → Rs (List D)) : Ev → Fl := fun ρ => (k ρ).fl fun ds ρ1 => put i (.own ds) ρ1
theorem s_seto {i : Nat} {x : Str} {e : Expr} {k : Ev → Rs (List D)} {pos' : Pos} (hN : X.N.Nodup) (hi : X.N[i]? = some x) (hx : L2.Loc X.env.scope x) (he : PE X e (pF G W k)) (hs : swapsWith e (some (.Name x pos')) pos.line X.env = pure false := by rfl) (hf : X.fn x = true ∨ X.env.scope.names.lookup x = some .local := by first | exact .inl rfl | exact .inr rfl | assumption) :
    PS X (.Assign [.Name x pos'] e pos) (pS G W (setoF i k)) := PSm (ps_set hN hi hx he hs hf) fun E σ H q => by
  obtain ⟨S, ρ, R, q⟩ := q
  refine ⟨S, ρ, R, Po.mono (Po.fl (S := S) (σ := σ) q) fun d ρ1 S' H' s R' q a vs h0 nS nO hh r => ?_⟩
  obtain ⟨h1, h2, h3⟩ := put_ok R' q
  exact h3 _ _ _ (Same.refl _) (R'.seto h1 h2 h0 nS nO hh r)
/-- a new list as a value: it never changes -/
theorem Rel.hold {S H : Hp} {σ : St} {ρ : Ev} {a : Addr} {vs : List V} (R : Rel G S H σ ρ) (h0 : G.H0 a = none) (nS : S a = none) (nO : ∀ j, ¬ Ow ρ σ j a) (hh : H a = some (.lst vs)) : Rel G (upd S a (.lst vs)) H σ ρ ∧ Same S (upd S a (.lst vs)) := by
  have sm : Same S (upd S a (.lst vs)) := fun b o q => by rw [upd_ne (ne_of_none q nS)]; exact q
  refine ⟨⟨fun b o q => ?_, R.old.trans sm, R.fr, R.th, fun b o q => ?_, fun j sl e => ?_, R.dis, R.mine, R.mt, R.len, R.tbU hh fun _ => nofun, fun z => (R.nt z).upd fun _ => nofun⟩, sm⟩
  · by_cases hb : b = a
    · subst hb; rw [upd_same] at q; cases q; exact hh
    · rw [upd_ne hb] at q; exact R.sub b o q
  · by_cases hb : b = a
    · subst hb; exact .inr (.inl h0)
    · rw [upd_ne hb] at q; exact R.nw b o q
  · have h := R.sl j sl e
    cases sl with
    | no => trivial
    | adr => exact h
    | val d => obtain ⟨v, q, r⟩ := h; exact ⟨v, q, Rp.mono sm _ _ r⟩
    | own ys =>
      obtain ⟨b, ws, qb, nb, hb, r, owj⟩ := R.at_own e
      have hba : b ≠ a := fun z => by subst z; exact nO j owj
      exact ⟨b, ws, by rw [qb]; rfl, by rw [upd_ne hba]; exact nb, hb, Rps.mono sm _ _ r⟩
    | obj c fs =>
      obtain ⟨b, dx, ws, q, nb, nd, ne, hd, hb, r⟩ := h
      have hba : b ≠ a := fun z => by rw [z, hh] at hb; cases hb
      have hda : dx ≠ a := fun z => by rw [z, hh] at hd; cases hd
      exact ⟨b, dx, ws, q, by rw [upd_ne hba]; exact nb, by rw [upd_ne hda]; exact nd, ne, hd, hb, r.mono sm⟩
def asL (k : Ev → Rs (List D)) : Ev → Rs D := fun ρ => (k ρ).bind fun ds ρ1 => .ok (.lst ds) ρ1
theorem fe {e : Expr} {k : Ev → Rs (List D)} (he : PE X e (pF G W k)) : PE X e (pE G W (asL k)) := PEm he fun σ H Q ⟨S, ρ, R, q⟩ => by
  refine ⟨S, ρ, R, ?_⟩
  have q := Po.bind q
  unfold Po at q ⊢
  cases e : k ρ with
  | ok ds ρ1 =>
    rw [e] at q
    intro S' H' s R' a vs h0 nS nO hh r
    have q := q S' H' s R'
    obtain ⟨R2, sm⟩ := R'.hold h0 nS nO hh
    exact q _ H' sm R2 _ ⟨a, vs, rfl, upd_same, Rps.mono sm _ _ r⟩
  | exc c fs ρ1 => rw [e] at q; exact q
  | stuck => rw [e] at q; exact q
end
end PL
namespace PL
open PySem L2
/-! ### numbers -/
def oI (C : Int → Int → Bool) (g : Int → Int → D) : D → D → Option D
  | .int i, .int j => if C i j then some (g i j) else none
  | _, _ => none
def oC : Int → Int → Bool := fun _ _ => true
theorem BRp.int {G : GC} {S H : Hp} {i : Int} {v : V} (h : BRp G S H (.int i) v) : v = .int i := h.flat (fun _ z => by cases z)
theorem BRp.bl {G : GC} {S H : Hp} {i : Bool} {v : V} (h : BRp G S H (.bl i) v) : v = .bl i := h.flat (fun _ z => by cases z)
theorem BRp.str {G : GC} {S H : Hp} {i : Str} {v : V} (h : BRp G S H (.str i) v) : v = .str i := h.flat (fun _ z => by cases z)
theorem BRp.non {G : GC} {S H : Hp} {v : V} (h : BRp G S H .non v) : v = .non := h.flat (fun _ z => by cases z)
/-- values that carry no address -/
def fl? : V → Option D
  | .non => some .non
  | .bl b => some (.bl b)
  | .int i => some (.int i)
  | .str x => some (.str x)
  | _ => none
theorem fl_rp {K : PySem.W.Frag} {C : CT} {S : Hp} {v : V} {d : D} (h : fl? v = some d) : Rp K C S d v := by
  cases v <;> cases h <;> rfl
theorem oI_some {C : Int → Int → Bool} {g : Int → Int → D} {a b d : D} (h : oI C g a b = some d) : ∃ i j, a = .int i ∧ b = .int j ∧ C i j = true ∧ d = g i j := by
  unfold oI at h
  split at h
  · rename_i i j
    cases c : C i j with
    | false => rw [c] at h; cases h
    | true => rw [c] at h; cases h; exact ⟨i, j, rfl, rfl, c, rfl⟩
  · cases h
theorem sp_I {G : GC} {P : Int → Int → Prop} {C : Int → Int → Bool} {g : Int → Int → V} {d : Int → Int → D} (hC : ∀ i j, C i j = true → P i j) (hd : ∀ i j, fl? (g i j) = some (d i j)) : BSpec G (rI P g) (oI C d) := by
  intro S H x y d1 d2 d' Q s b1 b2 e k
  obtain ⟨i, j, rfl, rfl, c, rfl⟩ := oI_some e
  exact ⟨i, j, b1.int, b2.int, hC i j c, k _ S H (Grow.refl s) (fl_rp (hd i j))⟩
theorem sp_I0 {G : GC} {g : Int → Int → V} {d : Int → Int → D} (hd : ∀ i j, fl? (g i j) = some (d i j)) : BSpec G (rI0 g) (oI oC d) := by
  intro S H x y d1 d2 d' Q s b1 b2 e k
  obtain ⟨i, j, rfl, rfl, c, rfl⟩ := oI_some e
  exact ⟨i, j, b1.int, b2.int, k _ S H (Grow.refl s) (fl_rp (hd i j))⟩
/-- a first operator where it serves, else a second one -/
def orE (o p : D → D → Option D) : D → D → Option D := fun a b => match o a b with
  | some d => some d
  | none => p a b
theorem BSpec.or {G : GC} {r r' : R2} {o p : D → D → Option D} (h : BSpec G r o) (h' : BSpec G r' p) : BSpec G (fun x y H Q => r x y H Q ∨ r' x y H Q) (orE o p) := by
  intro S H x y d1 d2 d' Q s b1 b2 e k
  unfold orE at e
  cases q : o d1 d2 with
  | some d => rw [q] at e; cases e; exact .inl (h S H x y d1 d2 _ Q s b1 b2 q k)
  | none => rw [q] at e; exact .inr (h' S H x y d1 d2 _ Q s b1 b2 e k)
def orU (o p : D → Option D) : D → Option D := fun a => match o a with
  | some d => some d
  | none => p a
theorem USpec.or {G : GC} {r r' : V → Hp → VK → Prop} {o p : D → Option D} (h : USpec G r o) (h' : USpec G r' p) : USpec G (fun x H Q => r x H Q ∨ r' x H Q) (orU o p) := by
  intro S H x d1 d' Q s b1 e k
  unfold orU at e
  cases q : o d1 with
  | some d => rw [q] at e; cases e; exact .inl (h S H x d1 _ Q s b1 q k)
  | none => rw [q] at e; exact .inr (h' S H x d1 _ Q s b1 e k)
def oAdd := oI oC fun i j => .int (i + j)
def oSub := oI oC fun i j => .int (i - j)
/-- * where one factor is short, or both together have less than a million bits -/
def CMulB (i j : Int) : Prop := i.natAbs < 2 ^ 64 ∨ j.natAbs < 2 ^ 64 ∨ CMulW i j
theorem CMulB.ok {i j : Int} (h : CMulB i j) : PySem.IntMulOk i j := by
  rcases h with h | h | h
  · exact PySem.IntMulOk.of_left (PySem.intBits_le_64 (by omega) (by omega))
  · exact PySem.IntMulOk.of_right (PySem.intBits_le_64 (by omega) (by omega))
  · exact h.ok
theorem op_mulB {X : Cx} : OpR X (binaryOp .Mult) (rI CMulB fun i j => .int (i * j)) := opI fun _ _ _ _ _ _ _ hc q => PyProof.Rows.mul_int q hc.ok
def oMul := oI (fun i j => decide (i.natAbs < 2 ^ 64) || (decide (j.natAbs < 2 ^ 64) || decide (i.natAbs.log2 + j.natAbs.log2 < 1000000))) fun i j => .int (i * j)
/-- // by a divisor below 2 ^ 9000, not 0 -/
def CDivF (_ j : Int) : Prop := j ≠ 0 ∧ j.natAbs.log2 < 9000
theorem op_fdivF {X : Cx} : OpR X (binaryOp .FloorDiv) (rI CDivF fun i j => .int (Int.fdiv i j)) := opI fun i j _ _ _ _ _ hc q => PyProof.Rows.floordiv_int hc.1 q (.inl (PyProof.noPylong_of_log2 hc.2))
theorem iop_fdivF {X : Cx} : OpR X (inplaceOp .FloorDiv) (rI CDivF fun i j => .int (Int.fdiv i j)) := opI fun i j _ _ _ _ _ hc q => PyProof.Rows.ifloordiv_int hc.1 q (.inl (PyProof.noPylong_of_log2 hc.2))
def oDiv := oI (fun i j => decide (j ≠ 0) && decide (j.natAbs.log2 < 9000)) fun i j => .int (Int.fdiv i j)
def oMod := oI (fun _ j => decide (0 < j)) fun i j => .int (i % j)
def oPow := oI (fun i j => decide (0 ≤ j) && (decide (j ≤ 1000000) && decide (i.natAbs < 2 ^ 64))) fun i j => .int (i ^ j.toNat)
def oLt := oI oC fun i j => .bl (decide (i < j))
def oLe := oI oC fun i j => .bl (decide (i ≤ j))
def oGt := oI oC fun i j => .bl (decide (j < i))
def oGe := oI oC fun i j => .bl (decide (j ≤ i))
theorem sp_add {G : GC} : BSpec G (rI0 fun i j => .int (i + j)) oAdd := sp_I0 fun _ _ => rfl
theorem sp_sub {G : GC} : BSpec G (rI0 fun i j => .int (i - j)) oSub := sp_I0 fun _ _ => rfl
theorem sp_mul {G : GC} : BSpec G (rI CMulB fun i j => .int (i * j)) oMul := sp_I (fun i j h => by simp only [Bool.or_eq_true, decide_eq_true_eq] at h; exact h) fun _ _ => rfl
theorem sp_div {G : GC} : BSpec G (rI CDivF fun i j => .int (Int.fdiv i j)) oDiv := sp_I (fun _ _ h => by simp only [Bool.and_eq_true, decide_eq_true_eq] at h; exact h) fun _ _ => rfl
theorem sp_mod {G : GC} : BSpec G (rI (fun _ j => 0 < j) fun i j => .int (i % j)) oMod := sp_I (fun _ _ h => of_decide_eq_true h) fun _ _ => rfl
theorem sp_pow {G : GC} : BSpec G (rI CPow fun i j => .int (i ^ j.toNat)) oPow := sp_I (fun _ _ h => by simp only [Bool.and_eq_true, decide_eq_true_eq] at h; exact h) fun _ _ => rfl
theorem sp_lt {G : GC} : BSpec G (rI0 fun i j => .bl (decide (i < j))) oLt := sp_I0 fun _ _ => rfl
theorem sp_le {G : GC} : BSpec G (rI0 fun i j => .bl (decide (i ≤ j))) oLe := sp_I0 fun _ _ => rfl
theorem sp_gt {G : GC} : BSpec G (rI0 fun i j => .bl (decide (j < i))) oGt := sp_I0 fun _ _ => rfl
theorem sp_ge {G : GC} : BSpec G (rI0 fun i j => .bl (decide (j ≤ i))) oGe := sp_I0 fun _ _ => rfl
def oNeg : D → Option D
  | .int i => some (.int (-i))
  | _ => none
theorem sp_neg {G : GC} : USpec G (rU fun i => .int (-i)) oNeg := by
  intro S H x d d' Q s b e k
  cases d <;> cases e
  exact ⟨_, b.int, k _ S H (Grow.refl s) rfl⟩
/-! ### == of data -/
mutual
def py? : D → Option PyData
  | .non => some .none
  | .bl b => some (.bool b)
  | .int i => some (.int i)
  | .str x => some (.str x)
  | .lst xs => (pys? xs).map .list
  | .tup xs => (pys? xs).map .tuple
  | _ => none
def pys? : List D → Option (List PyData)
  | [] => some []
  | d :: ds => (py? d).bind fun p => (pys? ds).map fun ps => p :: ps
end
section
variable {K : PySem.W.Frag} {C : CT} {S H : Hp}
mutual
theorem py_dp (s : Same S H) : ∀ (d : D) (v : V) (p : PyData), Rp K C S d v → py? d = some p → Dp K H v p
  | .non, _, _, h, e => by cases h; cases e; exact .non
  | .bl b, _, _, h, e => by cases h; cases e; exact .bl b
  | .int i, _, _, h, e => by cases h; cases e; exact .int i
  | .str x, _, _, h, e => by cases h; cases e; exact .str x
  | .scr _, _, _, _, e => by cases e
  | .ins _ _, _, _, _, e => by cases e
  | .exn _ _, _, _, _, e => by cases e
  | .lst xs, _, p, ⟨a, vs, e1, q, r⟩, e => by
    subst e1
    simp only [py?, Option.map_eq_some_iff] at e
    obtain ⟨ps, e, rfl⟩ := e
    exact .lst (.inl (.inl (s _ _ q))) (pys_dp s xs vs ps r e)
  | .tup xs, _, p, ⟨a, vs, e1, q, r⟩, e => by
    subst e1
    simp only [py?, Option.map_eq_some_iff] at e
    obtain ⟨ps, e, rfl⟩ := e
    exact .tup (SqT.mono s q) (pys_dp s xs vs ps r e)
theorem pys_dp (s : Same S H) : ∀ (ds : List D) (vs : List V) (ps : List PyData), Rps K C S ds vs → pys? ds = some ps → DpAll K H vs ps
  | [], _, _, h, e => by cases h; cases e; exact .nil
  | d :: ds, _, ps, ⟨v, vs', e1, q, r⟩, e => by
    subst e1
    simp only [pys?, Option.bind_eq_some_iff, Option.map_eq_some_iff] at e
    obtain ⟨p, e1, ps', e2, rfl⟩ := e
    exact .cons (py_dp s d v p q e1) (pys_dp s ds vs' ps' r e2)
end
theorem BRp.dp {G : GC} {d : D} {v : V} {p : PyData} (s : Same S H) (h : BRp G S H d v) (e : py? d = some p) : Dp G.K H v p := by
  rcases h with h | ⟨xs, a, vs, e1, e2, q, r⟩
  · exact py_dp s d v p h e
  · subst e1; subst e2
    simp only [py?, Option.map_eq_some_iff] at e
    obtain ⟨ps, e, rfl⟩ := e
    exact .lst (.inl (.inl q)) (pys_dp s xs vs ps r e)
end
def eqD (neg : Bool) : D → D → Option D := fun a b => match py? a, py? b with
  | some p, some q => if SeqAt.shaped p && SeqAt.shaped q then some (.bl (if neg then !PyData.eqv p q else PyData.eqv p q)) else none
  | _, _ => none
theorem sp_eqD {G : GC} : BSpec G (rEqD G.K) (eqD false) := by
  intro S H x y d1 d2 d' Q s b1 b2 e k
  unfold eqD at e
  cases e1 : py? d1 with
  | none => rw [e1] at e; cases e
  | some p =>
    cases e2 : py? d2 with
    | none => rw [e1, e2] at e; cases e
    | some q =>
      rw [e1, e2] at e
      dsimp only at e
      cases c : (SeqAt.shaped p && SeqAt.shaped q) with
      | false => rw [c] at e; cases e
      | true =>
        rw [c] at e
        cases e
        obtain ⟨c1, c2⟩ := Bool.and_eq_true_iff.mp c
        exact ⟨p, q, b1.dp s e1, b2.dp s e2, c1, c2, k _ S H (Grow.refl s) rfl⟩
theorem sp_neD {G : GC} : BSpec G (rNeD G.K) (eqD true) := by
  intro S H x y d1 d2 d' Q s b1 b2 e k
  unfold eqD at e
  cases e1 : py? d1 with
  | none => rw [e1] at e; cases e
  | some p =>
    cases e2 : py? d2 with
    | none => rw [e1, e2] at e; cases e
    | some q =>
      rw [e1, e2] at e
      dsimp only at e
      cases c : (SeqAt.shaped p && SeqAt.shaped q) with
      | false => rw [c] at e; cases e
      | true =>
        rw [c] at e
        cases e
        obtain ⟨c1, c2⟩ := Bool.and_eq_true_iff.mp c
        exact ⟨p, q, b1.dp s e1, b2.dp s e2, c1, c2, k _ S H (Grow.refl s) rfl⟩
/-! ### is None -/
def isNon : D → Bool
  | .non => true
  | _ => false
def isN (neg : Bool) : D → D → Option D := fun a b => if isNon b then some (.bl (if neg then !isNon a else isNon a)) else none
theorem isNon_eq {d : D} (h : isNon d = true) : d = .non := by cases d <;> first | rfl | cases h
theorem BRp.ne_non {G : GC} {S H : Hp} {d : D} {v : V} (h : BRp G S H d v) (n : d ≠ .non) : v ≠ .non := by
  rcases h with h | ⟨xs, a, vs, e1, e2, _⟩
  · cases d with
    | non => exact absurd rfl n
    | bl _ => cases h; nofun
    | int _ => cases h; nofun
    | str _ => cases h; nofun
    | scr _ => obtain ⟨a, e, _⟩ := h; subst e; nofun
    | lst _ => obtain ⟨a, _, e, _⟩ := h; subst e; nofun
    | tup _ => obtain ⟨a, _, e, _⟩ := h; subst e; nofun
    | ins _ _ => obtain ⟨a, _, _, e, _⟩ := h; subst e; nofun
    | exn _ _ => obtain ⟨a, _, _, _, e, _⟩ := h; subst e; nofun
    | dct => obtain ⟨a, _, e, _⟩ := h; subst e; nofun
  · subst e2; nofun
theorem BRp.isNon {G : GC} {S H : Hp} {d : D} {v : V} (h : BRp G S H d v) : decide (v = .non) = PL.isNon d := by
  by_cases n : d = .non
  · subst n
    exact decide_eq_true h.non
  · rw [decide_eq_false (h.ne_non n)]
    cases d <;> first | exact absurd rfl n | rfl
theorem sp_isN {G : GC} : BSpec G (fun x y H Q => y = .non ∧ Q (.bl (decide (x = .non))) H) (isN false) := by
  intro S H x y d1 d2 d' Q s b1 b2 e k
  unfold isN at e
  cases c : isNon d2 with
  | false => rw [c] at e; cases e
  | true =>
    rw [c] at e
    cases e
    rw [isNon_eq c] at b2
    rw [b1.isNon]
    exact ⟨b2.non, k _ S H (Grow.refl s) rfl⟩
theorem sp_notN {G : GC} : BSpec G (fun x y H Q => y = .non ∧ Q (.bl (!decide (x = .non))) H) (isN true) := by
  intro S H x y d1 d2 d' Q s b1 b2 e k
  unfold isN at e
  cases c : isNon d2 with
  | false => rw [c] at e; cases e
  | true =>
    rw [c] at e
    cases e
    rw [isNon_eq c] at b2
    rw [b1.isNon]
    exact ⟨b2.non, k _ S H (Grow.refl s) rfl⟩
/-! ### lists and tuples read -/
def seqOf : D → Option (List D)
  | .lst xs => some xs
  | .tup xs => some xs
  | .scr ns => some (ns.map .int)
  | _ => none
/-- what may be read as a sequence -/
theorem BRp.seq {G : GC} {S H : Hp} {d : D} {v : V} {xs : List D} (s : Same S H) (h : BRp G S H d v) (e : seqOf d = some xs) : ∃ a vs, v = .ref a ∧ (SqL G.K H a vs ∨ SqT G.K H a vs) ∧ Rps G.K G.C S xs vs := by
  cases d with
  | lst ys =>
    cases e
    obtain ⟨a, vs, e, q, r⟩ := h.lst s
    exact ⟨a, vs, e, .inl (.inl (.inl q)), r⟩
  | tup ys =>
    cases e
    obtain ⟨a, vs, e, q, r⟩ := h.flat (fun _ z => by cases z)
    exact ⟨a, vs, e, .inr (SqT.mono s q), r⟩
  | scr ns =>
    cases e
    obtain ⟨a, e, q⟩ := h.flat (fun _ z => by cases z)
    exact ⟨a, _, e, .inl (SqL.mono s q), Rps.of_ints ns⟩
  | _ => cases e
def oLen : D → Option D := fun d => (seqOf d).map fun xs => .int xs.length
theorem sp_len {G : GC} : USpec G (fun v H Q => ∃ p ys, [v] = [.ref p] ∧ (SqL G.K H p ys ∨ SqT G.K H p ys) ∧ Q (.int ys.length) H) oLen := by
  intro S H x d d' Q s b e k
  unfold oLen at e
  simp only [Option.map_eq_some_iff] at e
  obtain ⟨xs, e, rfl⟩ := e
  obtain ⟨a, vs, rfl, q, r⟩ := b.seq s e
  refine ⟨a, vs, rfl, q, ?_⟩
  rw [← r.length]
  exact k _ S H (Grow.refl s) rfl
def oLenS : D → Option D
  | .str z => if z.length ≤ sizeLine then some (.int z.length) else none
  | _ => none
theorem sp_lenS {G : GC} : USpec G (fun v H Q => ∃ z, [v] = [.str z] ∧ z.length ≤ sizeLine ∧ Q (.int z.length) H) oLenS := by
  intro S H x d d' Q s b e k
  cases d with
  | str z =>
    by_cases h : z.length ≤ sizeLine
    · have e2 : (if z.length ≤ sizeLine then some (D.int z.length) else none) = some d' := e
      rw [if_pos h] at e2
      cases e2
      exact ⟨z, by rw [b.str], h, k _ S H (Grow.refl s) rfl⟩
    · have e2 : (if z.length ≤ sizeLine then some (D.int z.length) else none) = some d' := e
      rw [if_neg h] at e2
      cases e2
  | _ => cases e
def oIx : D → D → Option D := fun a b => match b with
  | .int i => (seqOf a).bind fun xs => atI xs i
  | _ => none
theorem atI_rp {K : PySem.W.Frag} {C : CT} {S : Hp} {xs : List D} {vs : List V} {i : Int} {d : D} (r : Rps K C S xs vs) (h : atI xs i = some d) : ∃ v, atI vs i = some v ∧ Rp K C S d v := by
  unfold atI at h ⊢
  rw [← r.length]
  cases e : ixN xs.length i with
  | none => rw [e] at h; cases h
  | some j =>
    rw [e, Option.bind_some] at h
    rw [Option.bind_some]
    exact Rps.get _ _ _ _ r h
theorem sp_ix {G : GC} : BSpec G (rIx G.K) oIx := by
  intro S H x y d1 d2 d' Q s b1 b2 e k
  cases d2 <;> try cases e
  rename_i i
  unfold oIx at e
  simp only [Option.bind_eq_some_iff] at e
  obtain ⟨xs, e1, e2⟩ := e
  obtain ⟨a, vs, rfl, q, r⟩ := b1.seq s e1
  obtain ⟨v, e3, r2⟩ := atI_rp r e2
  have := b2.int
  subst this
  rcases q with q | q
  · exact .inl ⟨a, vs, i, v, rfl, rfl, q, e3, k v S H (Grow.refl s) r2⟩
  · exact .inr (.inl ⟨a, vs, i, v, rfl, rfl, q, e3, k v S H (Grow.refl s) r2⟩)
def intsOf : List D → Option (List Int)
  | [] => some []
  | .int i :: ds => (intsOf ds).map fun ns => i :: ns
  | _ :: _ => none
theorem intsOf_eq : ∀ {ds : List D} {ns : List Int}, intsOf ds = some ns → ds = ns.map D.int
  | [], _, e => by cases e; rfl
  | .int i :: ds, ns, e => by
    simp only [intsOf, Option.map_eq_some_iff] at e
    obtain ⟨ms, e, rfl⟩ := e
    rw [intsOf_eq e]
    rfl
  | .non :: _, _, e => by cases e
  | .bl _ :: _, _, e => by cases e
  | .str _ :: _, _, e => by cases e
  | .scr _ :: _, _, e => by cases e
  | .lst _ :: _, _, e => by cases e
  | .tup _ :: _, _, e => by cases e
  | .ins _ _ :: _, _, e => by cases e
  | .exn _ _ :: _, _, e => by cases e
theorem intsOf_map : ∀ (ns : List Int), intsOf (ns.map D.int) = some ns
  | [] => rfl
  | n :: ns => by simp [intsOf, intsOf_map ns]
/-- a list whose items are numbers -/
theorem BRp.ints {G : GC} {S H : Hp} {xs : List D} {v : V} {ns : List Int} (s : Same S H) (h : BRp G S H (.lst xs) v) (e : intsOf xs = some ns) : ∃ a, v = .ref a ∧ SqL G.K H a (ns.map V.int) := by
  obtain ⟨a, vs, e1, q, r⟩ := h.lst s
  rw [intsOf_eq e] at r
  rw [r.ints] at q
  exact ⟨a, e1, .inl (.inl q)⟩
def oSum : D → Option D
  | .lst xs => (intsOf xs).map fun ns => .int ns.sum
  | _ => none
theorem sp_sum {G : GC} : USpec G (fun v H Q => rSum G.K [v] H Q) oSum := by
  intro S H x d d' Q s b e k
  cases d <;> try cases e
  rename_i xs
  simp only [oSum, Option.map_eq_some_iff] at e
  obtain ⟨ns, e, rfl⟩ := e
  obtain ⟨a, rfl, q⟩ := b.ints s e
  exact ⟨a, ns, rfl, q, k _ S H (Grow.refl s) rfl⟩
def oAbs : D → Option D
  | .int i => some (.int (if i < 0 then -i else i))
  | _ => none
theorem sp_abs {G : GC} : USpec G (fun v H Q => ∃ i, [v] = [.int i] ∧ Q (.int (if i < 0 then -i else i)) H) oAbs := by
  intro S H x d d' Q s b e k
  cases d <;> cases e
  exact ⟨_, by rw [b.int], k _ S H (Grow.refl s) rfl⟩
def oInt : D → Option D
  | .int i => some (.int i)
  | .bl b => some (.int (if b then 1 else 0))
  | _ => none
theorem sp_int {G : GC} : USpec G (fun v H Q => (∃ i, [v] = [.int i] ∧ Q (.int i) H) ∨ ∃ k, [v] = [.bl k] ∧ Q (.int (if k then 1 else 0)) H) oInt := by
  intro S H x d d' Q s b e k
  cases d <;> cases e
  · exact .inr ⟨_, by rw [b.bl], k _ S H (Grow.refl s) rfl⟩
  · exact .inl ⟨_, by rw [b.int], k _ S H (Grow.refl s) rfl⟩
end PL
namespace PL
open PySem L2
section
variable {G : GC} {S H : Hp} {σ : St} {ρ : Ev}
theorem Ow.held {j : Nat} {a : Addr} (R : Rel G S H σ ρ) (h : Ow ρ σ j a) : ∃ o, H a = some o := by
  obtain ⟨⟨sl, e, m⟩, e'⟩ := h
  have q := R.sl j sl e
  rw [e'] at q
  cases sl with
  | own xs => obtain ⟨b, vs, eb, _, hh, _⟩ := q; cases eb; exact ⟨_, hh⟩
  | obj c fs => obtain ⟨b, dx, vs, eb, _, _, _, _, hh, _⟩ := q; cases eb; exact ⟨_, hh⟩
  | no => cases m
  | adr => cases m
  | val d => cases m
theorem Rel.new0 {p : Addr} (R : Rel G S H σ ρ) (hp : H p = none) : G.H0 p = none ∧ S p = none ∧ ∀ j, ¬ Ow ρ σ j p := by
  refine ⟨?_, R.sub.free hp, fun j h => ?_⟩
  · cases h0 : G.H0 p with
    | none => rfl
    | some o =>
      obtain ⟨o', q⟩ := R.th p o h0
      rw [hp] at q; cases q
  · obtain ⟨o, q⟩ := Ow.held R h
    rw [hp] at q; cases q
end
section
variable {X : Cx} {G : GC} {W : Wx} {pos : Pos}
/-! ### argument lists, displays -/
def nilA : Ev → Rs (List D) := fun ρ => .ok [] ρ
def consA (f : Ev → Rs D) (g : Ev → Rs (List D)) : Ev → Rs (List D) := fun ρ => (f ρ).bind fun d ρ1 => (g ρ1).bind fun ds ρ2 => .ok (d :: ds) ρ2
theorem a_nil : PA X [] (pA G W nilA) := PAm pa_nil fun σ H Q ⟨S, ρ, R, q⟩ => q S H (Same.refl _) R [] rfl
theorem a_cons {e : Expr} {es : List Expr} {f : Ev → Rs D} {g : Ev → Rs (List D)} (he : PE X e (pE G W f)) (hr : PA X es (pA G W g)) (hs : starEach (e :: es) X.env = (false, eval e X.env) :: starEach es X.env := by rfl) :
    PA X (e :: es) (pA G W (consA f g)) := PAm (pa_cons he hr hs) fun σ H Q ⟨S, ρ, R, q⟩ => by
  refine ⟨S, ρ, R, ?_⟩
  have q := Po.bind q
  unfold Po at q ⊢
  cases e : f ρ with
  | stuck => rw [e] at q; exact q
  | exc c fs ρ1 => rw [e] at q; exact q
  | ok d ρ1 =>
    rw [e] at q
    intro S1 H1 s1 R1 v r1
    have q := Po.bind (q S1 H1 s1 R1)
    refine ⟨S1, ρ1, R1, ?_⟩
    unfold Po at q ⊢
    cases e2 : g ρ1 with
    | stuck => rw [e2] at q; exact q
    | exc c fs ρ2 => rw [e2] at q; exact q
    | ok ds ρ2 =>
      rw [e2] at q
      intro S2 H2 s2 R2 vs r2
      exact q S2 H2 s2 R2 S2 H2 (Same.refl _) R2 (v :: vs) (.cons (Rp.mono s2 _ _ r1) r2)
def lenOk (k : Ev → Rs (List D)) : Ev → Rs (List D) := fun ρ => (k ρ).bind fun ds ρ1 => if ds.length ≤ sizeLine then .ok ds ρ1 else .stuck
def tupE (k : Ev → Rs (List D)) : Ev → Rs D := fun ρ => (k ρ).bind fun ds ρ1 => if ds.length ≤ sizeLine then .ok (.tup ds) ρ1 else .stuck
theorem f_lst {es : List Expr} {k : Ev → Rs (List D)} (h : PA X es (pA G W k)) : PE X (.List es pos) (pF G W (lenOk k)) := PEm (pe_lst h) fun σ H Q ⟨S, ρ, R, q⟩ => by
  refine ⟨S, ρ, R, ?_⟩
  have q := Po.bind q
  unfold Po at q ⊢
  cases e : k ρ with
  | stuck => rw [e] at q; exact q
  | exc c fs ρ1 => rw [e] at q; exact q
  | ok ds ρ1 =>
    rw [e] at q
    intro S1 H1 s1 R1 vs r1
    have q := q S1 H1 s1 R1
    dsimp only at q
    by_cases hl : ds.length ≤ sizeLine
    · rw [if_pos hl] at q
      refine ⟨by rw [← r1.length]; exact hl, fun p hp => ?_⟩
      obtain ⟨h0, h1, h2⟩ := R1.new0 hp
      exact q S1 _ (Same.refl _) (R1.grow (Grow.loose R1.sub _ hp)) p vs h0 h1 h2 upd_same r1
    · rw [if_neg hl] at q; exact q.elim
theorem e_tup {x1} {es : List Expr} {k : Ev → Rs (List D)} (h : PA X es (pA G W k)) : PE X (.Tuple es x1 pos) (pE G W (tupE k)) := PEm (pe_tup h) fun σ H Q ⟨S, ρ, R, q⟩ => by
  refine ⟨S, ρ, R, ?_⟩
  have q := Po.bind q
  unfold Po at q ⊢
  cases e : k ρ with
  | stuck => rw [e] at q; exact q
  | exc c fs ρ1 => rw [e] at q; exact q
  | ok ds ρ1 =>
    rw [e] at q
    intro S1 H1 s1 R1 vs r1
    have q := q S1 H1 s1 R1
    dsimp only at q
    by_cases hl : ds.length ≤ sizeLine
    · rw [if_pos hl] at q
      refine ⟨by rw [← r1.length]; exact hl, fun p hp => ?_⟩
      have g := Grow.new R1.sub (.tup vs) hp
      exact q _ _ g.sS (R1.grow g) _ ⟨p, vs, rfl, .inl (.inl upd_same), Rps.mono g.sS _ _ r1⟩
    · rw [if_neg hl] at q; exact q.elim
/-- the empty list, read at once -/
theorem b_nil : PE X (.List [] pos) (pQ G (ct (.lst []))) := PEm (pe_lst pa_nil) fun σ H Q ⟨S, ρ, R, q⟩ => ⟨Nat.zero_le _, fun p hp => q _ _ _ (Grow.new R.sub (.lst []) hp) ⟨p, [], rfl, upd_same, rfl⟩⟩
theorem b_nilT {x1} : PE X (.Tuple [] x1 pos) (pQ G (ct (.tup []))) := PEm (pe_tup pa_nil) fun σ H Q ⟨S, ρ, R, q⟩ => ⟨Nat.zero_le _, fun p hp => q _ _ _ (Grow.new R.sub (.tup []) hp) ⟨p, [], rfl, .inl (.inl upd_same), rfl⟩⟩
/-! ### tests -/
def asB (k : Ev → Rs D) : Ev → Rs Bool := fun ρ => (k ρ).bind fun d ρ1 => match d with
  | .bl b => .ok b ρ1
  | _ => .stuck
theorem asB_ok {k : Ev → Rs D} {σ : St} {H : Hp} {Q : Bool → Hp → Prop} (h : pT G W (asB k) σ H Q) : pE G W k σ H fun v H1 => ∃ b, v = .bl b ∧ Q b H1 := by
  obtain ⟨S, ρ, R, q⟩ := h
  refine ⟨S, ρ, R, ?_⟩
  have q := Po.bind q
  unfold Po at q ⊢
  cases e : k ρ with
  | stuck => rw [e] at q; exact q
  | exc c fs ρ1 => rw [e] at q; exact q
  | ok d ρ1 =>
    rw [e] at q
    intro S1 H1 s1 R1 v r1
    have q := q S1 H1 s1 R1
    cases d with
    | bl b => cases r1; exact ⟨b, rfl, q S1 H1 (Same.refl _) R1⟩
    | _ => exact q.elim
theorem t_val {e : Expr} {k : Ev → Rs D} (h : PE X e (pE G W k)) (he : ∀ whole, isTrue e X.env whole = (do let v ← whole; standAt e.pos; holding [v] (truthy v)) := by intro _; rfl) : PT X e (pT G W (asB k)) := PTm (pt_val h he) fun _ _ _ q => asB_ok q
theorem t_cmp {op : CmpOp} {r : R2} {o : D → D → Option D} {a b : Expr} {k l : Ev → Rs D} (ho : OpR X (compareOp op) r) (sp : BSpec G r o) (ha : PE X a (pE G W k)) (hb : PE X b (pE G W l)) (hm : behindInMarks op b = false := by first | exact nomark _ | rfl) :
    PT X (.Compare a [op] [b] pos) (pT G W (asB (e2 o k l))) := PTm (pt_cmpR ho ha hb hm) fun _ _ _ q => e2_ok sp (asB_ok q)
theorem t_cmpQ {op : CmpOp} {r : R2} {o : D → D → Option D} {a b : Expr} {f g : Ev → Option D} (ho : OpR X (compareOp op) r) (sp : BSpec G r o) (ha : PE X a (pB G f)) (hb : PE X b (pB G g)) (hm : behindInMarks op b = false := by first | exact nomark _ | rfl) :
    PT X (.Compare a [op] [b] pos) (pT G W (asB (up (q2 o f g)))) := by
  refine PTm (pt_cmpR ho ha hb hm) fun σ H Q q => ?_
  have q := asB_ok q
  refine q2_ok sp ?_
  obtain ⟨S, ρ, R, q⟩ := q
  refine ⟨S, ρ, R, ?_⟩
  unfold up Po at q
  cases e : q2 o f g ρ with
  | none => rw [e] at q; exact q
  | some d => rw [e] at q; exact fun v S' H' gr r => q S' H' gr.sS (R.grow gr) v r
def notT (k : Ev → Rs Bool) : Ev → Rs Bool := fun ρ => (k ρ).bind fun b ρ1 => .ok (!b) ρ1
theorem t_not {e : Expr} {k : Ev → Rs Bool} (h : PT X e (pT G W k)) : PT X (.UnaryOp .Not e pos) (pT G W (notT k)) := PTm (pt_not h) fun σ H Q ⟨S, ρ, R, q⟩ => by
  refine ⟨S, ρ, R, ?_⟩
  have q := Po.bind q
  unfold Po at q ⊢
  cases e : k ρ with
  | stuck => rw [e] at q; exact q
  | exc c fs ρ1 => rw [e] at q; exact q
  | ok b ρ1 => rw [e] at q; exact fun S1 H1 s1 R1 => q S1 H1 s1 R1 S1 H1 (Same.refl _) R1
def andT (k l : Ev → Rs Bool) : Ev → Rs Bool := fun ρ => (k ρ).bind fun b ρ1 => if b then l ρ1 else .ok false ρ1
def orT (k l : Ev → Rs Bool) : Ev → Rs Bool := fun ρ => (k ρ).bind fun b ρ1 => if b then .ok true ρ1 else l ρ1
theorem andT_ok {k l : Ev → Rs Bool} {σ : St} {H : Hp} {Q : Bool → Hp → Prop} (h : pT G W (andT k l) σ H Q) : tAnd (pT G W k) (pT G W l) σ H Q := by
  obtain ⟨S, ρ, R, q⟩ := h
  refine ⟨S, ρ, R, ?_⟩
  have q := Po.bind q
  unfold Po at q ⊢
  cases e : k ρ with
  | stuck => rw [e] at q; exact q
  | exc c fs ρ1 => rw [e] at q; exact q
  | ok b ρ1 =>
    rw [e] at q
    intro S1 H1 s1 R1
    have q := q S1 H1 s1 R1
    cases b with
    | true => exact iteT ⟨S1, ρ1, R1, q⟩
    | false => exact iteF (q S1 H1 (Same.refl _) R1)
theorem orT_ok {k l : Ev → Rs Bool} {σ : St} {H : Hp} {Q : Bool → Hp → Prop} (h : pT G W (orT k l) σ H Q) : tOr (pT G W k) (pT G W l) σ H Q := by
  obtain ⟨S, ρ, R, q⟩ := h
  refine ⟨S, ρ, R, ?_⟩
  have q := Po.bind q
  unfold Po at q ⊢
  cases e : k ρ with
  | stuck => rw [e] at q; exact q
  | exc c fs ρ1 => rw [e] at q; exact q
  | ok b ρ1 =>
    rw [e] at q
    intro S1 H1 s1 R1
    have q := q S1 H1 s1 R1
    cases b with
    | true => exact iteT (q S1 H1 (Same.refl _) R1)
    | false => exact iteF ⟨S1, ρ1, R1, q⟩
section
variable {a b : Expr} {rs : List Expr} {k l : Ev → Rs Bool}
theorem w_and1 (h : PT X a (pT G W k)) : PW X (.BoolOp .And [a] pos) (pT G W k) := pw_and1 h
theorem w_or1 (h : PT X a (pT G W k)) : PW X (.BoolOp .Or [a] pos) (pT G W k) := pw_or1 h
theorem w_and (h : PT X a (pT G W k)) (h2 : PW X (.BoolOp .And (b :: rs) pos) (pT G W l)) : PW X (.BoolOp .And (a :: b :: rs) pos) (pT G W (andT k l)) := PWm (pw_and h h2) fun _ _ _ q => andT_ok q
theorem w_or (h : PT X a (pT G W k)) (h2 : PW X (.BoolOp .Or (b :: rs) pos) (pT G W l)) : PW X (.BoolOp .Or (a :: b :: rs) pos) (pT G W (orT k l)) := PWm (pw_or h h2) fun _ _ _ q => orT_ok q
end
/-! .. as values: all but the last are truths -/
def andE (k : Ev → Rs Bool) (l : Ev → Rs D) : Ev → Rs D := fun ρ => (k ρ).bind fun b ρ1 => if b then l ρ1 else .ok (.bl false) ρ1
def orE' (k : Ev → Rs Bool) (l : Ev → Rs D) : Ev → Rs D := fun ρ => (k ρ).bind fun b ρ1 => if b then .ok (.bl true) ρ1 else l ρ1
def notE (k : Ev → Rs Bool) : Ev → Rs D := fun ρ => (k ρ).bind fun b ρ1 => .ok (.bl (!b)) ρ1
theorem e_one {op} {a : Expr} {k : Ev → Rs D} (h : PE X a (pE G W k)) : PE X (.BoolOp op [a] pos) (pE G W k) := pe_one h
theorem e_and {a b : Expr} {rs : List Expr} {k l : Ev → Rs D} (h : PE X a (pE G W k)) (h2 : PE X (.BoolOp .And (b :: rs) pos) (pE G W l)) : PE X (.BoolOp .And (a :: b :: rs) pos) (pE G W (andE (asB k) l)) := PEm (pe_and h h2) fun σ H Q q => by
  have q2 : pT G W (asB k) σ H (fun c H1 => if c = true then pE G W l σ H1 Q else Q (.bl false) H1) := by
    obtain ⟨S, ρ, R, q⟩ := q
    refine ⟨S, ρ, R, ?_⟩
    have q := Po.bind q
    unfold Po at q ⊢
    cases e : asB k ρ with
    | stuck => rw [e] at q; exact q
    | exc c fs ρ1 => rw [e] at q; exact q
    | ok b ρ1 =>
      rw [e] at q
      intro S1 H1 s1 R1
      have q := q S1 H1 s1 R1
      cases b with
      | true => exact iteT ⟨S1, ρ1, R1, q⟩
      | false => exact iteF (q S1 H1 (Same.refl _) R1 _ rfl)
  obtain ⟨S, ρ, R, q⟩ := asB_ok q2
  refine ⟨S, ρ, R, ?_⟩
  unfold Po at q ⊢
  cases e : k ρ with
  | stuck => rw [e] at q; exact q
  | exc c fs ρ1 => rw [e] at q; exact q
  | ok d ρ1 => rw [e] at q; exact fun S1 H1 s1 R1 v r => let ⟨c, ev, z⟩ := q S1 H1 s1 R1 v r; ⟨c, ev, z⟩
theorem e_or {a b : Expr} {rs : List Expr} {k l : Ev → Rs D} (h : PE X a (pE G W k)) (h2 : PE X (.BoolOp .Or (b :: rs) pos) (pE G W l)) : PE X (.BoolOp .Or (a :: b :: rs) pos) (pE G W (orE' (asB k) l)) := PEm (pe_or h h2) fun σ H Q q => by
  have q2 : pT G W (asB k) σ H (fun c H1 => if c = true then Q (.bl true) H1 else pE G W l σ H1 Q) := by
    obtain ⟨S, ρ, R, q⟩ := q
    refine ⟨S, ρ, R, ?_⟩
    have q := Po.bind q
    unfold Po at q ⊢
    cases e : asB k ρ with
    | stuck => rw [e] at q; exact q
    | exc c fs ρ1 => rw [e] at q; exact q
    | ok b ρ1 =>
      rw [e] at q
      intro S1 H1 s1 R1
      have q := q S1 H1 s1 R1
      cases b with
      | true => exact iteT (q S1 H1 (Same.refl _) R1 _ rfl)
      | false => exact iteF ⟨S1, ρ1, R1, q⟩
  obtain ⟨S, ρ, R, q⟩ := asB_ok q2
  refine ⟨S, ρ, R, ?_⟩
  unfold Po at q ⊢
  cases e : k ρ with
  | stuck => rw [e] at q; exact q
  | exc c fs ρ1 => rw [e] at q; exact q
  | ok d ρ1 => rw [e] at q; exact fun S1 H1 s1 R1 v r => let ⟨c, ev, z⟩ := q S1 H1 s1 R1 v r; ⟨c, ev, z⟩
theorem e_not {a : Expr} {k : Ev → Rs D} (h : PE X a (pE G W k)) : PE X (.UnaryOp .Not a pos) (pE G W (notE (asB k))) := PEm (pe_not h) fun σ H Q q => by
  have q2 : pT G W (asB k) σ H (fun c H1 => Q (.bl (!c)) H1) := by
    obtain ⟨S, ρ, R, q⟩ := q
    refine ⟨S, ρ, R, ?_⟩
    have q := Po.bind q
    unfold Po at q ⊢
    cases e : asB k ρ with
    | stuck => rw [e] at q; exact q
    | exc c fs ρ1 => rw [e] at q; exact q
    | ok b ρ1 => rw [e] at q; exact fun S1 H1 s1 R1 => q S1 H1 s1 R1 S1 H1 (Same.refl _) R1 _ rfl
  exact asB_ok q2
def ifE (c : Ev → Rs Bool) (k l : Ev → Rs D) : Ev → Rs D := fun ρ => (c ρ).bind fun b ρ1 => if b then k ρ1 else l ρ1
theorem e_if {c a b : Expr} {t : Ev → Rs Bool} {k l : Ev → Rs D} (hc : PT X c (pT G W t)) (ha : PE X a (pE G W k)) (hb : PE X b (pE G W l)) : PE X (.IfExp c a b pos) (pE G W (ifE t k l)) := PEm (pe_ifExp hc ha hb) fun σ H Q ⟨S, ρ, R, q⟩ => by
  refine ⟨S, ρ, R, ?_⟩
  have q := Po.bind q
  unfold Po at q ⊢
  cases e : t ρ with
  | stuck => rw [e] at q; exact q
  | exc c fs ρ1 => rw [e] at q; exact q
  | ok b ρ1 =>
    rw [e] at q
    intro S1 H1 s1 R1
    have q := q S1 H1 s1 R1
    cases b with
    | true => exact iteT ⟨S1, ρ1, R1, q⟩
    | false => exact iteF ⟨S1, ρ1, R1, q⟩
end
end PL
namespace PL
open PySem L2
section
variable {X : Cx} {G : GC} {W : Wx} {pos : Pos}
/-! ### a slot's own list: append, extend, pop, an item set -/
def appE (i : Nat) (k : Ev → Rs D) : Ev → Rs D := fun ρ => match ρ[i]? with
  | some (.own _) => (k ρ).bind fun d ρ1 => match ρ1[i]? with
    | some (.own xs) => if xs.length < sizeLine then .ok .non (ρ1.set i (.own (xs ++ [d]))) else .stuck
    | _ => .stuck
  | _ => .stuck
theorem own_inv {α β : Type} {ρ : Ev} {i : Nat} {P : Rs β → Prop} {k : List D → Rs β} (hs : P .stuck → False) (h : P (match ρ[i]? with
    | some (.own xs) => k xs
    | _ => .stuck)) : ∃ xs, ρ[i]? = some (.own xs) ∧ P (k xs) := by
  cases e : ρ[i]? with
  | none => rw [e] at h; exact (hs h).elim
  | some sl =>
    rw [e] at h
    cases sl with
    | own xs => exact ⟨xs, rfl, h⟩
    | _ => exact (hs h).elim
theorem Po.not {α : Type} {S : Hp} {σ : St} {P : Hp → α → Hp → Ev → Prop} : ¬ Po G W S σ P (Rs.stuck) := fun h => h
theorem e_app {i : Nat} {x : Str} {p1 apos cpos : Pos} {e : Expr} {k : Ev → Rs D} (he : PE X e (pE G W k)) (hK : X.K = G.K) (hN : X.N[i]? = some x := by rfl) (hv : Vis X.env.scope x := by first | exact Or.inl rfl | exact Or.inr (Or.inl rfl) | exact Or.inr (Or.inr rfl)) (hd : (x == ("__debug__" : Str)) = false := by decide)
    (hcd : (x == ("__classdict__" : Str)) = false := by decide) (hbase : attributeBase (.Name x p1) "append" X.env (eval (.Name x p1) X.env) = eval (.Name x p1) X.env := by rfl)
    (hfew : ((backTo cpos (starEach (e :: []) X.env)).all (fun x => !x.1) && (backToKw cpos (keywordEach [] X.env)).all (fun x => x.1.isSome)
      && decide ((e :: []).length + ([] : List Keyword).length + (if ([] : List Keyword).isEmpty then 0 else 1) < 30)) = true := by rfl)
    (hline : (apos.endLine == cpos.line) = true := by rfl) (hs : starEach (e :: []) X.env = (false, eval e X.env) :: starEach [] X.env := by rfl) (hplain : (backTo cpos (starEach [] X.env)).any (·.1) = false := by rfl) :
    PE X (.Call (.Attribute (.Name x p1) "append" apos) [e] [] cpos) (pE G W (appE i k)) :=
  PEm (pe_bm PySem.F.plainAttrs_list PySem.F.slot_list_append PySem.F.type_list_append mt_append (pe_var hN hv hd hcd) (pa_cons he pa_nil hs) hbase hfew hline hs hplain) fun σ H Q ⟨S, ρ, R, q⟩ => by
    unfold appE at q
    obtain ⟨xs, e1, q⟩ := own_inv (α := D) (P := Po G W S σ _) Po.not q
    obtain ⟨a, vs, e3, n, hh, r, ow⟩ := R.at_own e1
    refine ⟨_, e3, .inl ⟨rfl, vs, .inl (.inl hh)⟩, ⟨S, ρ, R, ?_⟩⟩
    refine Po.mono (Po.bind q) fun d ρ1 S1 H1 s1 R1 q v r1 => ?_
    obtain ⟨ys, e4, q⟩ := own_inv (α := D) (P := Po G W S1 σ _) Po.not q
    obtain ⟨a2, ws, e5, n2, hh2, r2, ow2⟩ := R1.at_own e4
    rw [e3] at e5; cases e5
    by_cases hl : ys.length < sizeLine
    · rw [if_pos hl] at q
      refine ⟨a, ws, v, rfl, rfl, hh2, by rw [← r2.length]; exact hl, ?_⟩
      exact q S1 _ (Same.refl _) (R1.write e4 e3 (r2.append (.cons r1 .nil))) _ rfl
    · rw [if_neg hl] at q; exact q.elim
def extE (i : Nat) (k : Ev → Rs D) : Ev → Rs D := fun ρ => match ρ[i]? with
  | some (.own _) => (k ρ).bind fun d ρ1 => match d with
    | .lst ys => (match ρ1[i]? with
      | some (.own xs) => if xs.length + ys.length ≤ sizeLine then .ok .non (ρ1.set i (.own (xs ++ ys))) else .stuck
      | _ => .stuck)
    | _ => .stuck
  | _ => .stuck
theorem e_ext {i : Nat} {x : Str} {p1 apos cpos : Pos} {e : Expr} {k : Ev → Rs D} (he : PE X e (pE G W k)) (hN : X.N[i]? = some x := by rfl) (hv : Vis X.env.scope x := by first | exact Or.inl rfl | exact Or.inr (Or.inl rfl) | exact Or.inr (Or.inr rfl)) (hd : (x == ("__debug__" : Str)) = false := by decide)
    (hcd : (x == ("__classdict__" : Str)) = false := by decide) (hbase : attributeBase (.Name x p1) "extend" X.env (eval (.Name x p1) X.env) = eval (.Name x p1) X.env := by rfl)
    (hfew : ((backTo cpos (starEach (e :: []) X.env)).all (fun x => !x.1) && (backToKw cpos (keywordEach [] X.env)).all (fun x => x.1.isSome)
      && decide ((e :: []).length + ([] : List Keyword).length + (if ([] : List Keyword).isEmpty then 0 else 1) < 30)) = true := by rfl)
    (hline : (apos.endLine == cpos.line) = true := by rfl) (hs : starEach (e :: []) X.env = (false, eval e X.env) :: starEach [] X.env := by rfl) (hplain : (backTo cpos (starEach [] X.env)).any (·.1) = false := by rfl) :
    PE X (.Call (.Attribute (.Name x p1) "extend" apos) [e] [] cpos) (pE G W (extE i k)) :=
  PEm (pe_bm PySem.F.plainAttrs_list PySem.F.slot_list_extend PySem.F.type_list_extend mt_extend (pe_var hN hv hd hcd) (pa_cons he pa_nil hs) hbase hfew hline hs hplain) fun σ H Q ⟨S, ρ, R, q⟩ => by
    unfold extE at q
    obtain ⟨xs, e1, q⟩ := own_inv (α := D) (P := Po G W S σ _) Po.not q
    obtain ⟨a, vs, e3, n, hh, r, ow⟩ := R.at_own e1
    refine ⟨_, e3, .inl ⟨rfl, vs, .inl (.inl hh)⟩, ⟨S, ρ, R, ?_⟩⟩
    refine Po.mono (Po.bind q) fun d ρ1 S1 H1 s1 R1 q v r1 => ?_
    cases d with
    | lst zs =>
      dsimp only at q
      obtain ⟨ys, e4, q⟩ := own_inv (α := D) (P := Po G W S1 σ _) Po.not q
      obtain ⟨a2, ws, e5, n2, hh2, r2, ow2⟩ := R1.at_own e4
      rw [e3] at e5; cases e5
      obtain ⟨b, us, eb, hb, rb⟩ := r1
      by_cases hl : ys.length + zs.length ≤ sizeLine
      · rw [if_pos hl] at q
        refine ⟨a, b, ws, us, rfl, by rw [eb], hh2, R1.sub _ _ hb, by rw [← r2.length, ← rb.length]; exact hl, ?_⟩
        exact q S1 _ (Same.refl _) (R1.write e4 e3 (r2.append rb)) _ rfl
      · rw [if_neg hl] at q; exact q.elim
    | _ => exact q.elim
/-- x.pop(e) -/
def popE (i : Nat) (k : Ev → Rs D) : Ev → Rs D := fun ρ => match ρ[i]? with
  | some (.own _) => (k ρ).bind fun d ρ1 => match d with
    | .int j => (match ρ1[i]? with
      | some (.own xs) => if 0 ≤ j ∧ j < 2 ^ 63 then (match xs[j.toNat]? with
        | some y => .ok y (ρ1.set i (.own (xs.eraseIdx j.toNat)))
        | none => .stuck) else .stuck
      | _ => .stuck)
    | _ => .stuck
  | _ => .stuck
theorem e_popAt {i : Nat} {x : Str} {p1 apos cpos : Pos} {e : Expr} {k : Ev → Rs D} (he : PE X e (pE G W k)) (hN : X.N[i]? = some x := by rfl) (hv : Vis X.env.scope x := by first | exact Or.inl rfl | exact Or.inr (Or.inl rfl) | exact Or.inr (Or.inr rfl)) (hd : (x == ("__debug__" : Str)) = false := by decide)
    (hcd : (x == ("__classdict__" : Str)) = false := by decide) (hbase : attributeBase (.Name x p1) "pop" X.env (eval (.Name x p1) X.env) = eval (.Name x p1) X.env := by rfl)
    (hfew : ((backTo cpos (starEach (e :: []) X.env)).all (fun x => !x.1) && (backToKw cpos (keywordEach [] X.env)).all (fun x => x.1.isSome)
      && decide ((e :: []).length + ([] : List Keyword).length + (if ([] : List Keyword).isEmpty then 0 else 1) < 30)) = true := by rfl)
    (hline : (apos.endLine == cpos.line) = true := by rfl) (hs : starEach (e :: []) X.env = (false, eval e X.env) :: starEach [] X.env := by rfl) (hplain : (backTo cpos (starEach [] X.env)).any (·.1) = false := by rfl) :
    PE X (.Call (.Attribute (.Name x p1) "pop" apos) [e] [] cpos) (pE G W (popE i k)) :=
  PEm (pe_bm PySem.F.plainAttrs_list PySem.F.slot_list_pop PySem.F.type_list_pop mt_popAt (pe_var hN hv hd hcd) (pa_cons he pa_nil hs) hbase hfew hline hs hplain) fun σ H Q ⟨S, ρ, R, q⟩ => by
    unfold popE at q
    obtain ⟨xs, e1, q⟩ := own_inv (α := D) (P := Po G W S σ _) Po.not q
    obtain ⟨a, vs, e3, n, hh, r, ow⟩ := R.at_own e1
    refine ⟨_, e3, .inl ⟨rfl, vs, .inl (.inl hh)⟩, ⟨S, ρ, R, ?_⟩⟩
    refine Po.mono (Po.bind q) fun d ρ1 S1 H1 s1 R1 q v r1 => ?_
    cases d with
    | int j =>
      cases r1
      dsimp only at q
      obtain ⟨ys, e4, q⟩ := own_inv (α := D) (P := Po G W S1 σ _) Po.not q
      obtain ⟨a2, ws, e5, n2, hh2, r2, ow2⟩ := R1.at_own e4
      rw [e3] at e5; cases e5
      by_cases hl : 0 ≤ j ∧ j < 2 ^ 63
      · rw [if_pos hl] at q
        cases ey : ys[j.toNat]? with
        | none => rw [ey] at q; exact q.elim
        | some y =>
          rw [ey] at q
          obtain ⟨w, ew, rw'⟩ := Rps.get _ _ _ _ r2 ey
          have hlt : j.toNat < ws.length := (List.getElem?_eq_some_iff.mp ew).1
          have hj : ixN ws.length j = some j.toNat := by
            unfold ixN
            rw [if_pos hl.1, if_pos (by omega)]
          refine ⟨a, ws, j, j.toNat, w, rfl, rfl, hh2, by omega, hl.2, (ixN_seq hj).1, ew, ?_⟩
          exact q S1 _ (Same.refl _) (R1.write e4 e3 (r2.eraseIdx _)) _ rw'
      · rw [if_neg hl] at q; exact q.elim
    | _ => exact q.elim
/-- x[f] = k -/
def setiF (i : Nat) (f : Ev → Option D) (k : Ev → Rs D) : Ev → Fl := fun ρ => (k ρ).fl fun d ρ1 => match ρ1[i]?, f ρ1 with
  | some (.own xs), some (.int j) => (match ixN xs.length j with
    | some n => .nx (ρ1.set i (.own (xs.set n d)))
    | none => .stuck)
  | _, _ => .stuck
theorem s_seti {i : Nat} {x : Str} {p1 p2 : Pos} {e ix : Expr} {f : Ev → Option D} {k : Ev → Rs D} (hix : PE X ix (pQ G f)) (he : PE X e (pE G W k)) (hN : X.N[i]? = some x := by rfl) (hv : Vis X.env.scope x := by first | exact Or.inl rfl | exact Or.inr (Or.inl rfl) | exact Or.inr (Or.inr rfl)) (hd : (x == ("__debug__" : Str)) = false := by decide)
    (hcd : (x == ("__classdict__" : Str)) = false := by decide) (hs : swapsWithSole [.Subscript (.Name x p1) ix p2] e pos.line X.env = pure false := by rfl) (hw : swappedStores [.Subscript (.Name x p1) ix p2] e X.env = pure none := by rfl)
    (h1 : (assignEach [.Subscript (.Name x p1) ix p2] X.env).map (·.2) = [assign (.Subscript (.Name x p1) ix p2) X.env] := by rfl) (ha : ∀ v, assign (.Subscript (.Name x p1) ix p2) X.env v = (do
      let ov ← holding [v] (eval (.Name x p1) X.env)
      let iv ← holding [v, ov] (eval ix X.env)
      standAt p2
      holding [v, ov, iv] (setItem ov iv v)
      release [v, ov, iv] []) := by intro _; rfl) : PS X (.Assign [.Subscript (.Name x p1) ix p2] e pos) (pS G W (setiF i f k)) :=
  PSm (ps_asg he (pg_sub (pe_var hN hv hd hcd) hix set_list ha) hs hw h1) fun E σ H q => by
    obtain ⟨S, ρ, R, q⟩ := pS_iff.mp q
    refine ⟨S, ρ, R, ?_⟩
    refine Po.mono (Po.fl (S := S) (σ := σ) q) fun d ρ1 S1 H1 s1 R1 q v r1 => ?_
    cases e4 : ρ1[i]? with
    | none => rw [e4] at q; exact q.elim
    | some sl =>
      cases sl with
      | own xs =>
        cases ef : f ρ1 with
        | none => rw [e4, ef] at q; exact q.elim
        | some dj =>
          cases dj with
          | int j =>
            rw [e4, ef] at q
            dsimp only at q
            obtain ⟨a2, ws, e5, n2, hh2, r2, ow2⟩ := R1.at_own e4
            refine ⟨_, e5, ?_⟩
            refine ⟨S1, ρ1, R1, ?_⟩
            rw [ef]
            intro w S2 H2 g rw2
            cases rw2
            have R2 := R1.grow g
            cases en : ixN xs.length j with
            | none => rw [en] at q; exact q.elim
            | some n =>
              rw [en] at q
              refine ⟨a2, ws, j, n, rfl, rfl, g.hH _ _ hh2, by rw [← r2.length]; exact en, ?_⟩
              exact q _ _ _ g.sS (R2.write e4 e5 (Rps.set n (Rp.mono g.sS _ _ r1) (Rps.mono g.sS _ _ r2)))
          | _ => rw [e4, ef] at q; exact q.elim
      | _ => rw [e4] at q; exact q.elim
/-- name op= e -/
def augF (i : Nat) (o : D → D → Option D) (k : Ev → Rs D) : Ev → Fl := fun ρ => match ρ[i]? with
  | some (.val a) => (k ρ).fl fun d ρ1 => match o a d with
    | some r => put i (.val r) ρ1
    | none => .stuck
  | _ => .stuck
theorem s_aug {i : Nat} {x : Str} {e : Expr} {k : Ev → Rs D} {op : Operator} {r : R2} {o : D → D → Option D} {pos' : Pos} (ho : OpR X (inplaceOp op) r) (sp : BSpec G r o) (hN : X.N.Nodup) (hi : X.N[i]? = some x) (hx : L2.Loc X.env.scope x) (he : PE X e (pE G W k)) (hf : X.fn x = true ∨ X.env.scope.names.lookup x = some .local := by first | exact .inl rfl | exact .inr rfl | assumption) :
    PS X (.AugAssign (.Name x pos') op e pos) (pS G W (augF i o k)) := PSm (ps_aug hN hi hx he (ti := r) (fun pins s σ H x y v u Q I rx ry h => ho pins s σ H x y v u Q I rx ry h) hf) fun E σ H q => by
  obtain ⟨S, ρ, R, q⟩ := pS_iff.mp q
  unfold augF at q
  cases e1 : ρ[i]? with
  | none => rw [e1] at q; exact q.elim
  | some sl =>
    rw [e1] at q
    cases sl with
    | val a =>
      obtain ⟨v, e2, ra⟩ := R.sl i _ e1
      have e3 : σ[i]? = some (some v) := by
        cases h : σ[i]? with
        | none => rw [h] at e2; cases e2
        | some o => rw [h] at e2; exact congrArg some e2
      refine ⟨v, e3, S, ρ, R, ?_⟩
      refine Po.mono (Po.fl (S := S) (σ := σ) q) fun d ρ1 S1 H1 s1 R1 q w r1 => ?_
      cases eo : o a d with
      | none => rw [eo] at q; exact q.elim
      | some z =>
        rw [eo] at q
        refine sp S1 H1 v w a d z _ R1.sub (.inl (Rp.mono s1 _ _ ra)) (.inl r1) eo fun u S2 H2 g ru => ?_
        have R2 := R1.grow g
        obtain ⟨h1, h2, h3⟩ := put_ok R2 (Fo.mono g.sS q)
        exact h3 _ _ _ (Same.refl _) (R2.setv h1 h2 ru)
    | _ => exact q.elim
/-! ### targets -/
def Off (ws : List Nat) (σ σ' : St) : Prop := σ'.length = σ.length ∧ ∀ j, j ∉ ws → σ'[j]? = σ[j]?
def pG (G : GC) (tg : D → Ev → Option Ev) (ws : List Nat) : TG := fun v σ H Q => ∃ S ρ d, Rel G S H σ ρ ∧ Rp G.K G.C S d v ∧ match tg d ρ with
  | some ρ' => ∀ σ' S' H', Grow S H S' H' → Rel G S' H' σ' ρ' → Off ws σ σ' → Q σ' H'
  | none => False
def pGs (G : GC) (tg : List D → Ev → Option Ev) (ws : List Nat) : TGs := fun vs σ H Q => ∃ S ρ ds, Rel G S H σ ρ ∧ Rps G.K G.C S ds vs ∧ match tg ds ρ with
  | some ρ' => ∀ σ' S' H', Grow S H S' H' → Rel G S' H' σ' ρ' → Off ws σ σ' → Q σ' H'
  | none => False
theorem Off.refl (ws : List Nat) (σ : St) : Off ws σ σ := ⟨rfl, fun _ _ => rfl⟩
theorem Off.trans {ws ws' : List Nat} {σ σ1 σ2 : St} (a : Off ws σ σ1) (b : Off ws' σ1 σ2) : Off (ws ++ ws') σ σ2 := ⟨b.1.trans a.1, fun j hj => by
  rw [List.mem_append, not_or] at hj
  exact (b.2 j hj.2).trans (a.2 j hj.1)⟩
theorem PGm {e : Expr} {t t' : TG} (h : PG X e t) (i : ∀ v σ H Q, t' v σ H Q → t v σ H Q) : PG X e t' := ⟨fun pins s σ H v u Q I r k => h.run pins s σ H v u Q I r (i v σ H Q k)⟩
theorem PGsm {e : List Expr} {t t' : TGs} (h : PGs X e t) (i : ∀ v σ H Q, t' v σ H Q → t v σ H Q) : PGs X e t' := ⟨fun pins s σ H v u Q I r k => h.run pins s σ H v u Q I r (i v σ H Q k)⟩
def tnm (i : Nat) : D → Ev → Option Ev := fun d ρ => if decide (i < ρ.length) && (i != 0 || !own0 ρ) then some (ρ.set i (.val d)) else none
theorem g_nm {i : Nat} {x : Str} (hN : X.N.Nodup) (hi : X.N[i]? = some x) (hx : L2.Loc X.env.scope x) (hf : X.fn x = true ∨ X.env.scope.names.lookup x = some .local := by first | exact .inl rfl | exact .inr rfl | assumption) : PG X (.Name x pos) (pG G (tnm i) [i]) := PGm (pg_name hN hi hx hf) fun v σ H Q ⟨S, ρ, d, R, r, q⟩ => by
  unfold tnm at q
  cases c : (decide (i < ρ.length) && (i != 0 || !own0 ρ)) with
  | false => rw [c] at q; exact q.elim
  | true =>
    rw [c] at q
    have p : Fo G (fun _ _ _ _ => False) S { nx := fun σ' H' => True, rt := fun _ _ => True } (put i (.val d) ρ) := by unfold put; rw [c]; exact fun _ _ _ _ _ => trivial
    obtain ⟨h1, h2, _⟩ := put_ok R p
    exact q _ S H (Grow.refl R.sub) (R.setv h1 h2 r) ⟨List.length_set, fun j hj => List.getElem?_set_ne (fun e => hj (by rw [e]; exact List.mem_singleton.mpr rfl))⟩
def tnil : List D → Ev → Option Ev := fun ds ρ => match ds with
  | [] => some ρ
  | _ => none
def tcons (t : D → Ev → Option Ev) (u : List D → Ev → Option Ev) : List D → Ev → Option Ev := fun ds ρ => match ds with
  | d :: r => (t d ρ).bind fun ρ1 => u r ρ1
  | [] => none
theorem gs_nil : PGs X [] (pGs G tnil []) := PGsm pgs_nil fun vs σ H Q ⟨S, ρ, ds, R, r, q⟩ => by
  cases ds with
  | nil => cases r; exact ⟨rfl, q σ S H (Grow.refl R.sub) R (Off.refl _ _)⟩
  | cons d ds => exact q.elim
theorem gs_cons {e : Expr} {es : List Expr} {t : D → Ev → Option Ev} {u : List D → Ev → Option Ev} {w1 w2 : List Nat} (h1 : PG X e (pG G t w1)) (h2 : PGs X es (pGs G u w2)) (hs : (assignEach (e :: es) X.env).map (·.2) = assign e X.env :: (assignEach es X.env).map (·.2) := by rfl) :
    PGs X (e :: es) (pGs G (tcons t u) (w1 ++ w2)) := PGsm (pgs_cons h1 h2 hs) fun vs σ H Q ⟨S, ρ, ds, R, r, q⟩ => by
  cases ds with
  | nil => exact q.elim
  | cons d ds =>
    obtain ⟨v, vs', e, r1, r2⟩ := r
    subst e
    refine ⟨v, vs', rfl, S, ρ, d, R, r1, ?_⟩
    unfold tcons at q
    dsimp only at q
    cases e : t d ρ with
    | none => rw [e] at q; exact q
    | some ρ1 =>
      rw [e, Option.bind_some] at q
      intro σ1 S1 H1 g1 R1 o1
      refine ⟨S1, ρ1, ds, R1, Rps.mono g1.sS _ _ r2, ?_⟩
      cases e2 : u ds ρ1 with
      | none => rw [e2] at q; exact q
      | some ρ2 => rw [e2] at q; exact fun σ2 S2 H2 g2 R2 o2 => q σ2 S2 H2 (g1.trans g2) R2 (o1.trans o2)
def ttup (n : Nat) (u : List D → Ev → Option Ev) : D → Ev → Option Ev := fun d ρ => match d with
  | .tup ds => if ds.length = n then u ds ρ else none
  | .lst ds => if ds.length = n then u ds ρ else none
  | _ => none
theorem PG_or {X : Cx} {e : Expr} {t1 t2 : TG} (h1 : PG X e t1) (h2 : PG X e t2) : PG X e (fun v σ H Q => t1 v σ H Q ∨ t2 v σ H Q) := ⟨fun pins s σ H v u Q I r q => q.elim (fun q => h1.run pins s σ H v u Q I r q) fun q => h2.run pins s σ H v u Q I r q⟩
theorem g_tup {es : List Expr} {k n : Nat} {u : List D → Ev → Option Ev} {ws : List Nat} (hc : X.calm = true) (hK : X.K = G.K) (h : PGs X es (pGs G u ws)) (hn : (assignEach es X.env).length = n := by rfl) (hst : (assignEach es X.env).findIdx? (·.1) = none := by rfl) :
    PG X (.Tuple es k pos) (pG G (ttup n u) ws) := PGm (PG_or (pg_tup hc h hn hst) (pg_lst hc h hn hst)) fun v σ H Q ⟨S, ρ, d, R, r, q⟩ => by
  cases d with
  | tup ds =>
    obtain ⟨a, vs, e, hq, r2⟩ := r
    unfold ttup at q
    dsimp only at q
    by_cases hl : ds.length = n
    · rw [if_pos hl] at q
      exact .inl ⟨a, vs, e, by rw [hK]; exact SqT.mono R.sub hq, by rw [← r2.length]; exact hl, S, ρ, ds, R, r2, q⟩
    · rw [if_neg hl] at q; exact q.elim
  | lst ds =>
    obtain ⟨a, vs, e, hq, r2⟩ := r
    unfold ttup at q
    dsimp only at q
    by_cases hl : ds.length = n
    · rw [if_pos hl] at q
      exact .inr ⟨a, vs, e, SqL.of (R.sub _ _ hq), by rw [← r2.length]; exact hl, S, ρ, ds, R, r2, q⟩
    · rw [if_neg hl] at q; exact q.elim
  | _ => exact q.elim
/-- target = value -/
def asgF (tg : D → Ev → Option Ev) (k : Ev → Rs D) : Ev → Fl := fun ρ => (k ρ).fl fun d ρ1 => match tg d ρ1 with
  | some ρ2 => .nx ρ2
  | none => .stuck
theorem s_asg {tg e : Expr} {t : D → Ev → Option Ev} {ws : List Nat} {k : Ev → Rs D} (he : PE X e (pE G W k)) (hg : PG X tg (pG G t ws)) (hs : swapsWithSole [tg] e pos.line X.env = pure false := by rfl) (hw : swappedStores [tg] e X.env = pure none := by rfl)
    (h1 : (assignEach [tg] X.env).map (·.2) = [assign tg X.env] := by rfl) : PS X (.Assign [tg] e pos) (pS G W (asgF t k)) := PSm (ps_asg he hg hs hw h1) fun E σ H q => by
  obtain ⟨S, ρ, R, q⟩ := pS_iff.mp q
  refine ⟨S, ρ, R, ?_⟩
  refine Po.mono (Po.fl (S := S) (σ := σ) q) fun d ρ1 S1 H1 s1 R1 q v r1 => ?_
  refine ⟨S1, ρ1, d, R1, r1, ?_⟩
  cases et : t d ρ1 with
  | none => rw [et] at q; exact q
  | some ρ2 => rw [et] at q; exact fun σ' S' H' g R' _ => q σ' S' H' g.sS R'
end
end PL
namespace PL
open PySem L2
section
variable {X : Cx} {G : GC} {W : Wx} {pos : Pos}
/-! ### while -/
def loopK (r : Fl) (k : Ev → Fl) : Fl := match r with
  | .nx ρ => k ρ
  | .ct ρ => k ρ
  | .bk ρ => .nx ρ
  | r => r
def whN : Nat → (Ev → Rs Bool) → (Ev → Fl) → Ev → Fl
  | 0, _, _, _ => .stuck
  | n + 1, c, b, ρ => (c ρ).fl fun t ρ1 => if t then loopK (b ρ1) (whN n c b) else .nx ρ1
theorem s_whN {c : Expr} {body : List Stmt} {k : Ev → Rs Bool} {f : Ev → Fl} (hp : PassesOwn (model X.prog X.w) X.A X.env X.xe) (hc : PT X c (pT G W k)) (hb : PSs X body (pS G W f)) (n : Nat) : PS X (.While c body [] pos) (pS G W (whN n k f)) := PSm (ps_while hp hc hb) fun E σ H q => by
  obtain ⟨S, ρ, R, q⟩ := pS_iff.mp q
  refine ⟨fun m σ H => ∃ S ρ, Rel G S H σ ρ ∧ Fo G W S E (whN m k f ρ), ⟨n, S, ρ, R, q⟩, ?_⟩
  rintro m σ H ⟨S, ρ, R, q⟩
  cases m with
  | zero => exact q.elim
  | succ m =>
    refine ⟨S, ρ, R, Po.mono (Po.fl (S := S) (σ := σ) q) fun b ρ1 S1 H1 s1 R1 q => ?_⟩
    cases b with
    | true =>
      refine iteT ⟨fun σ H => ∃ S ρ, Rel G S H σ ρ ∧ Fo G W S E (whN m k f ρ), fun σ' H' z => ⟨m, Nat.lt_succ_self m, z⟩, pS_iff.mpr ⟨S1, ρ1, R1, ?_⟩⟩
      have q : Fo G W S1 E (loopK (f ρ1) (whN m k f)) := q
      cases e : f ρ1 with
      | nx ρ2 => rw [e] at q; exact fun σ' S' H' s' R' => ⟨S', ρ2, R', Fo.mono s' q⟩
      | ct ρ2 => rw [e] at q; exact fun σ' S' H' s' R' => ⟨S', ρ2, R', Fo.mono s' q⟩
      | bk ρ2 => rw [e] at q; exact q
      | rt d ρ2 => rw [e] at q; exact q
      | exc c fs ρ2 => rw [e] at q; exact q
      | stuck => rw [e] at q; exact q
    | false => exact iteF (q σ S1 H1 (Same.refl _) R1)
theorem whN_mono {c : Ev → Rs Bool} {b : Ev → Fl} : ∀ (n : Nat) (ρ : Ev), whN n c b ρ ≠ .stuck → whN (n + 1) c b ρ = whN n c b ρ
  | 0, ρ, h => absurd rfl h
  | n + 1, ρ, h => by
    show (c ρ).fl (fun t ρ1 => if t then loopK (b ρ1) (whN (n + 1) c b) else .nx ρ1) = (c ρ).fl (fun t ρ1 => if t then loopK (b ρ1) (whN n c b) else .nx ρ1)
    have h : (c ρ).fl (fun t ρ1 => if t then loopK (b ρ1) (whN n c b) else .nx ρ1) ≠ .stuck := h
    cases e : c ρ with
    | ok t ρ1 =>
      rw [e] at h
      simp only [Rs.fl_ok] at h ⊢
      cases t with
      | false => rfl
      | true =>
        simp only [if_true] at h ⊢
        cases e2 : b ρ1 with
        | nx ρ2 => rw [e2] at h; exact whN_mono n ρ2 h
        | ct ρ2 => rw [e2] at h; exact whN_mono n ρ2 h
        | _ => rfl
    | exc _ _ _ => rfl
    | stuck => rfl
theorem whN_le {c : Ev → Rs Bool} {b : Ev → Fl} {n m : Nat} (hle : n ≤ m) {ρ : Ev} (h : whN n c b ρ ≠ .stuck) : whN m c b ρ = whN n c b ρ := by
  induction hle with
  | refl => rfl
  | step _ ih => rw [whN_mono _ _ (by rw [ih]; exact h), ih]
open Classical in
/-- the while loop, however many turns it takes -/
noncomputable def whF (c : Ev → Rs Bool) (b : Ev → Fl) : Ev → Fl := fun ρ => if h : ∃ n, whN n c b ρ ≠ .stuck then whN h.choose c b ρ else .stuck
theorem whF_eq {c : Ev → Rs Bool} {b : Ev → Fl} {ρ : Ev} (n : Nat) (h : whN n c b ρ ≠ .stuck) : whF c b ρ = whN n c b ρ := by
  have hx : ∃ n, whN n c b ρ ≠ .stuck := ⟨n, h⟩
  unfold whF
  rw [dif_pos hx]
  rcases Nat.le_total n hx.choose with z | z
  · exact whN_le z h
  · exact (whN_le z hx.choose_spec).symm
theorem whF_is {c : Ev → Rs Bool} {b : Ev → Fl} {ρ : Ev} {r : Fl} (n : Nat) (e : whN n c b ρ = r) (h : r ≠ .stuck) : whF c b ρ = r := by
  rw [whF_eq n (by rw [e]; exact h), e]
theorem s_wh {c : Expr} {body : List Stmt} {k : Ev → Rs Bool} {f : Ev → Fl} (hp : PassesOwn (model X.prog X.w) X.A X.env X.xe) (hc : PT X c (pT G W k)) (hb : PSs X body (pS G W f)) : PS X (.While c body [] pos) (pS G W (whF k f)) := by
  refine ⟨fun pins s σ H E I q => ?_⟩
  obtain ⟨S, ρ, R, q⟩ := pS_iff.mp q
  by_cases hx : ∃ n, whN n k f ρ ≠ .stuck
  · rw [whF_eq hx.choose hx.choose_spec] at q
    exact (s_whN hp hc hb hx.choose).run pins s σ H E I (pS_iff.mpr ⟨S, ρ, R, q⟩)
  · unfold whF at q
    rw [dif_neg hx] at q
    exact q.elim
/-- one turn -/
theorem whF_step {c : Ev → Rs Bool} {b : Ev → Fl} {ρ ρ1 : Ev} (hc : c ρ = .ok true ρ1) {ρ2 : Ev} (hb : b ρ1 = .nx ρ2) : whF c b ρ = whF c b ρ2 := by
  by_cases hx : ∃ n, whN n c b ρ2 ≠ .stuck
  · obtain ⟨n, hn⟩ := hx
    rw [whF_eq n hn]
    refine whF_is (n + 1) ?_ hn
    show (c ρ).fl _ = _
    rw [hc, Rs.fl_ok]
    show loopK (b ρ1) (whN n c b) = _
    rw [hb]
    rfl
  · have e2 : whF c b ρ2 = .stuck := by unfold whF; rw [dif_neg hx]
    rw [e2]
    have hx1 : ¬ ∃ n, whN n c b ρ ≠ .stuck := fun ⟨n, hn⟩ => by
      cases n with
      | zero => exact hn rfl
      | succ n =>
        refine hx ⟨n, fun z => hn ?_⟩
        show (c ρ).fl _ = _
        rw [hc, Rs.fl_ok]
        show loopK (b ρ1) (whN n c b) = _
        rw [hb]
        exact z
    unfold whF
    rw [dif_neg hx1]
theorem whF_end {c : Ev → Rs Bool} {b : Ev → Fl} {ρ ρ1 : Ev} (hc : c ρ = .ok false ρ1) : whF c b ρ = .nx ρ1 := by
  refine whF_is 1 ?_ (by nofun)
  show (c ρ).fl _ = _
  rw [hc]
  rfl
theorem whF_rt {c : Ev → Rs Bool} {b : Ev → Fl} {ρ ρ1 : Ev} (hc : c ρ = .ok true ρ1) {d : D} {ρ2 : Ev} (hb : b ρ1 = .rt d ρ2) : whF c b ρ = .rt d ρ2 := by
  refine whF_is 1 ?_ (by nofun)
  show (c ρ).fl _ = _
  rw [hc, Rs.fl_ok]
  show loopK (b ρ1) _ = _
  rw [hb]
  rfl
/-! ### for -/
def forL (tg : D → Ev → Option Ev) (b : Ev → Fl) : List D → Ev → Fl
  | [], ρ => .nx ρ
  | d :: ds, ρ => match tg d ρ with
    | some ρ1 => loopK (b ρ1) (forL tg b ds)
    | none => .stuck
/-- J gives these values, one a turn, while what stands in S0 stands -/
def Feeds (G : GC) (S0 : Hp) (J : It) (ds : List D) : Prop :=
  (∀ i S H, Same S0 S → Same S H → i < ds.length → J.go i H ∧ ∀ x H', J.yld i H x H' → ∃ S' d, Grow S H S' H' ∧ ds[i]? = some d ∧ Rp G.K G.C S' d x) ∧ ∀ S H, Same S0 S → Same S H → J.stop ds.length H
/-- what a for walks -/
def pI (G : GC) (W : Wx) (k : Ev → Rs (List D)) : TI := fun σ H R => ∃ S ρ, Rel G S H σ ρ ∧ Po G W S σ (fun S' ds H' ρ' => ∀ J, Feeds G S' J ds → R J H') (k ρ)
theorem PIm {tg e : Expr} {t t' : TI} (h : PI X tg e t) (i : ∀ σ H R, t' σ H R → t σ H R) : PI X tg e t' := ⟨fun pins s σ H R I k => h.run pins s σ H R I (i σ H R k)⟩
theorem PI.or {tg e : Expr} {t t' : TI} (h : PI X tg e t) (h' : PI X tg e t') : PI X tg e (fun σ H R => t σ H R ∨ t' σ H R) := ⟨fun pins s σ H R I k => k.elim (h.run pins s σ H R I) (h'.run pins s σ H R I)⟩
theorem feeds_list {S0 : Hp} {a : Addr} {vs : List V} {ds : List D} {K : PySem.W.Frag} (hK : K = G.K) (h : SqL K S0 a vs) (r : Rps G.K G.C S0 ds vs) : Feeds G S0 (Itl K a) ds := by
  refine ⟨fun i S H s1 s2 hi => ?_, fun S H s1 s2 => ⟨vs, SqL.mono (s1.trans s2) h, by rw [← r.length]; exact Nat.le_refl _⟩⟩
  have hs := SqL.mono (s1.trans s2) h
  have hd : ds[i]? = some ds[i] := List.getElem?_eq_getElem hi
  obtain ⟨v, ev, rv⟩ := Rps.get _ _ _ _ r hd
  refine ⟨⟨vs, v, hs, ev⟩, fun x H' y => ?_⟩
  obtain ⟨e, y⟩ := y
  subst e
  have ex := y vs hs
  rw [ev] at ex; cases ex
  exact ⟨S, _, Grow.refl s2, hd, Rp.mono s1 _ _ rv⟩
theorem feeds_tup {S0 : Hp} {a : Addr} {vs : List V} {ds : List D} {K : PySem.W.Frag} (hK : K = G.K) (h : SqT K S0 a vs) (r : Rps G.K G.C S0 ds vs) : Feeds G S0 (Itt K a) ds := by
  refine ⟨fun i S H s1 s2 hi => ?_, fun S H s1 s2 => ⟨vs, SqT.mono (s1.trans s2) h, by rw [← r.length]; exact Nat.le_refl _⟩⟩
  have hs := SqT.mono (s1.trans s2) h
  have hd : ds[i]? = some ds[i] := List.getElem?_eq_getElem hi
  obtain ⟨v, ev, rv⟩ := Rps.get _ _ _ _ r hd
  refine ⟨⟨vs, v, hs, ev⟩, fun x H' y => ?_⟩
  obtain ⟨e, y⟩ := y
  subst e
  have ex := y vs hs
  rw [ev] at ex; cases ex
  exact ⟨S, _, Grow.refl s2, hd, Rp.mono s1 _ _ rv⟩
def seqE (k : Ev → Rs D) : Ev → Rs (List D) := fun ρ => (k ρ).bind fun d ρ1 => Rs.opt (seqOf d) ρ1
/-- over a list or a tuple -/
theorem i_seq {tg e : Expr} {k : Ev → Rs D} (hK : X.K = G.K) (he : PE X e (pE G W k)) : PI X tg e (pI G W (seqE k)) := PIm (PI.or (pi_list he) (pi_tup he)) fun σ H R ⟨S, ρ, Re, q⟩ => by
  have q := Po.bind q
  cases e : k ρ with
  | stuck => rw [e] at q; exact q.elim
  | exc c fs ρ1 =>
    rw [e] at q
    refine .inl ⟨S, ρ, Re, ?_⟩
    rw [e]; exact q
  | ok d ρ1 =>
    rw [e] at q
    cases d with
    | lst ds =>
      refine .inl ⟨S, ρ, Re, ?_⟩
      rw [e]
      intro S1 H1 s1 R1 v r
      have q : Po G W S1 σ _ (Rs.ok ds ρ1) := q S1 H1 s1 R1
      obtain ⟨a, vs, e1, h, r2⟩ := r
      have hs : SqL X.K S1 a vs := .inl (.inl h)
      exact ⟨a, e1, ⟨vs, SqL.mono R1.sub hs⟩, q S1 H1 (Same.refl _) R1 _ (feeds_list hK hs r2)⟩
    | scr ns =>
      refine .inl ⟨S, ρ, Re, ?_⟩
      rw [e]
      intro S1 H1 s1 R1 v r
      have q : Po G W S1 σ _ (Rs.ok (ns.map D.int) ρ1) := q S1 H1 s1 R1
      obtain ⟨a, e1, h⟩ := r
      rw [← hK] at h
      exact ⟨a, e1, ⟨_, SqL.mono R1.sub h⟩, q S1 H1 (Same.refl _) R1 _ (feeds_list hK h (Rps.of_ints ns))⟩
    | tup ds =>
      refine .inr ⟨S, ρ, Re, ?_⟩
      rw [e]
      intro S1 H1 s1 R1 v r
      have q : Po G W S1 σ _ (Rs.ok ds ρ1) := q S1 H1 s1 R1
      obtain ⟨a, vs, e1, h, r2⟩ := r
      rw [← hK] at h
      exact ⟨a, e1, ⟨vs, SqT.mono R1.sub h⟩, q S1 H1 (Same.refl _) R1 _ (feeds_tup hK h r2)⟩
    | _ =>
      refine .inl ⟨S, ρ, Re, ?_⟩
      rw [e]
      intro S1 H1 s1 R1 v r
      exact (q S1 H1 s1 R1).elim
/-- numbers lo, lo + 1, .. -/
def rangeL (lo : Int) (n : Nat) : List D := (List.range n).map fun i => D.int (lo + (i : Nat))
theorem feeds_range {S0 : Hp} (lo : Int) (n : Nat) : Feeds G S0 (Itr lo n) (rangeL lo n) := by
  refine ⟨fun i S H s1 s2 hi => ?_, fun S H s1 s2 => by show n ≤ (rangeL lo n).length; simp [rangeL]⟩
  have hi' : i < n := by simpa [rangeL] using hi
  refine ⟨hi', fun x H' y => ?_⟩
  obtain ⟨e, y⟩ := y
  subst e y
  exact ⟨S, D.int (lo + i), Grow.refl s2, by simp [rangeL, hi'], rfl⟩
def rng1 (k : Ev → Rs (List D)) : Ev → Rs (List D) := fun ρ => (k ρ).bind fun ds ρ1 => match ds with
  | [.int j] => if -(2 ^ 62) ≤ j ∧ j < 2 ^ 62 then .ok (rangeL 0 j.toNat) ρ1 else .stuck
  | _ => .stuck
def rng2 (k : Ev → Rs (List D)) : Ev → Rs (List D) := fun ρ => (k ρ).bind fun ds ρ1 => match ds with
  | [.int i, .int j] => if -(2 ^ 62) ≤ i ∧ i < 2 ^ 62 ∧ -(2 ^ 62) ≤ j ∧ j < 2 ^ 62 then .ok (rangeL i (j - i).toNat) ρ1 else .stuck
  | _ => .stuck
theorem rps1 {K : PySem.W.Frag} {C : CT} {S : Hp} {d : D} {vs : List V} (r : Rps K C S [d] vs) : ∃ v, vs = [v] ∧ Rp K C S d v := by
  obtain ⟨v, vs', e, r1, r2⟩ := r
  cases r2
  exact ⟨v, e, r1⟩
theorem rps2 {K : PySem.W.Frag} {C : CT} {S : Hp} {d d2 : D} {vs : List V} (r : Rps K C S [d, d2] vs) : ∃ v v2, vs = [v, v2] ∧ Rp K C S d v ∧ Rp K C S d2 v2 := by
  obtain ⟨v, vs', e, r1, r2⟩ := r
  obtain ⟨v2, e2, r3⟩ := rps1 r2
  subst e2
  exact ⟨v, v2, e, r1, r3⟩
theorem rng1_inv {P : Rs (List D) → Prop} {ds : List D} {ρ : Ev} (hs : P .stuck → False) (h : P (match ds with
    | [.int j] => if -(2 ^ 62) ≤ j ∧ j < 2 ^ 62 then .ok (rangeL 0 j.toNat) ρ else .stuck
    | _ => .stuck)) : ∃ j, ds = [.int j] ∧ -(2 ^ 62) ≤ j ∧ j < 2 ^ 62 ∧ P (.ok (rangeL 0 j.toNat) ρ) := by
  split at h
  · rename_i j
    by_cases c : -(2 ^ 62) ≤ j ∧ j < 2 ^ 62
    · rw [if_pos c] at h; exact ⟨j, rfl, c.1, c.2, h⟩
    · rw [if_neg c] at h; exact (hs h).elim
  · exact (hs h).elim
theorem rng2_inv {P : Rs (List D) → Prop} {ds : List D} {ρ : Ev} (hs : P .stuck → False) (h : P (match ds with
    | [.int i, .int j] => if -(2 ^ 62) ≤ i ∧ i < 2 ^ 62 ∧ -(2 ^ 62) ≤ j ∧ j < 2 ^ 62 then .ok (rangeL i (j - i).toNat) ρ else .stuck
    | _ => .stuck)) : ∃ i j, ds = [.int i, .int j] ∧ (-(2 ^ 62) ≤ i ∧ i < 2 ^ 62 ∧ -(2 ^ 62) ≤ j ∧ j < 2 ^ 62) ∧ P (.ok (rangeL i (j - i).toNat) ρ) := by
  split at h
  · rename_i i j
    by_cases c : -(2 ^ 62) ≤ i ∧ i < 2 ^ 62 ∧ -(2 ^ 62) ≤ j ∧ j < 2 ^ 62
    · rw [if_pos c] at h; exact ⟨i, j, rfl, c, h⟩
    · rw [if_neg c] at h; exact (hs h).elim
  · exact (hs h).elim
theorem i_rng1 {tg a : Expr} {k : Ev → Rs (List D)} {p : Pos} (ha : PA X [a] (pA G W k)) (hm : X.mg "range" = none) (hg : Gl X "range" := by rfl) (hs : starEach [a] X.env = [(false, eval a X.env)] := by rfl) : PI X tg (.Call (.Name "range" p) [a] [] pos) (pI G W (rng1 k)) :=
  PIm (pi_range1 hg hm ha hs) fun σ H R ⟨S, ρ, Re, q⟩ => ⟨S, ρ, Re, Po.mono (Po.bind q) fun ds ρ1 S1 H1 s1 R1 q vs r => by
    obtain ⟨j, e, h1, h2, q2⟩ := rng1_inv (P := Po G W S1 σ fun S' ds H' ρ' => ∀ J, Feeds G S' J ds → R J H') Po.not q
    subst e
    obtain ⟨v, e, r1⟩ := rps1 r
    cases r1
    exact ⟨j, e, h1, h2, q2 S1 H1 (Same.refl _) R1 _ (feeds_range 0 _)⟩⟩
theorem i_rng2 {tg a b : Expr} {k : Ev → Rs (List D)} {p : Pos} (ha : PA X [a, b] (pA G W k)) (hm : X.mg "range" = none) (hg : Gl X "range" := by rfl) (hs : starEach [a, b] X.env = [(false, eval a X.env), (false, eval b X.env)] := by rfl) (hs2 : starEach [b] X.env = [(false, eval b X.env)] := by rfl) : PI X tg (.Call (.Name "range" p) [a, b] [] pos) (pI G W (rng2 k)) :=
  PIm (pi_range2 hg hm ha hs hs2) fun σ H R ⟨S, ρ, Re, q⟩ => ⟨S, ρ, Re, Po.mono (Po.bind q) fun ds ρ1 S1 H1 s1 R1 q vs r => by
    obtain ⟨i, j, e, h, q2⟩ := rng2_inv (P := Po G W S1 σ fun S' ds H' ρ' => ∀ J, Feeds G S' J ds → R J H') Po.not q
    subst e
    obtain ⟨v, v2, e, r1, r2⟩ := rps2 r
    cases r1
    cases r2
    exact ⟨i, j, e, h, q2 S1 H1 (Same.refl _) R1 _ (feeds_range _ _)⟩⟩
def forF (tg : D → Ev → Option Ev) (k : Ev → Rs (List D)) (b : Ev → Fl) : Ev → Fl := fun ρ => (k ρ).fl fun ds ρ1 => forL tg b ds ρ1
theorem s_for {tg iter : Expr} {body : List Stmt} {t : D → Ev → Option Ev} {ws : List Nat} {k : Ev → Rs (List D)} {f : Ev → Fl} (hp : PassesOwn (model X.prog X.w) X.A X.env X.xe) (hc : X.calm = true) (hi : PI X tg iter (pI G W k)) (hg : PG X tg (pG G t ws)) (hb : PSs X body (pS G W f)) (hs : ∀ x, foldedSetIterable iter X.env x = pure x := by intro _; rfl) : PS X (.For tg iter body [] pos) (pS G W (forF t k f)) :=
  PSm (ps_for hp hc hi hg hb hs) fun E σ H ⟨S, ρ, R, q⟩ => by
    refine ⟨S, ρ, R, Po.mono (Po.fl (S := S) (σ := σ) q) fun ds ρ1 S1 H1 s1 R1 q J F => ?_⟩
    refine ⟨fun i m σ H => m = ds.length - i ∧ i ≤ ds.length ∧ ∃ S' ρ', Same S1 S' ∧ Rel G S' H σ ρ' ∧ Fo G W S' E (forL t f (ds.drop i) ρ'), ⟨ds.length, by simp, Nat.zero_le _, S1, ρ1, Same.refl _, R1, q⟩, ?_⟩
    rintro i m σ2 H2 ⟨rfl, hi, S2, ρ2, s2, R2, q2⟩
    by_cases hlt : i < ds.length
    · obtain ⟨go, yl⟩ := F.1 i S2 H2 s2 R2.sub hlt
      refine .inr ⟨go, fun σ H => ∃ S' ρ', Same S1 S' ∧ Rel G S' H σ ρ' ∧ Fo G W S' E (forL t f (ds.drop (i + 1)) ρ'), fun σ' H' z => ⟨ds.length - (i + 1), by omega, rfl, hlt, z⟩, fun x H' y => ?_⟩
      obtain ⟨S3, d, g, hd, r⟩ := yl x H' y
      have ed : ds.drop i = d :: ds.drop (i + 1) := by
        rw [List.drop_eq_getElem_cons hlt]
        rw [List.getElem?_eq_getElem hlt] at hd
        cases hd
        rfl
      rw [ed] at q2
      have q2 : Fo G W S2 E (match t d ρ2 with | some ρ1 => loopK (f ρ1) (forL t f (ds.drop (i + 1))) | none => .stuck) := q2
      refine ⟨S3, ρ2, d, R2.grow g, r, ?_⟩
      cases et : t d ρ2 with
      | none => rw [et] at q2; exact q2
      | some ρ3 =>
        rw [et] at q2
        dsimp only at q2 ⊢
        intro σ4 S4 H4 g4 R4 _
        refine ⟨S4, ρ3, R4, ?_⟩
        have q2 := Fo.mono (g.sS.trans g4.sS) q2
        have s4 : Same S1 S4 := s2.trans (g.sS.trans g4.sS)
        cases e : f ρ3 with
        | nx ρ5 => rw [e] at q2; exact fun σ' S' H' s R' => ⟨S', ρ5, s4.trans s, R', Fo.mono s q2⟩
        | ct ρ5 => rw [e] at q2; exact fun σ' S' H' s R' => ⟨S', ρ5, s4.trans s, R', Fo.mono s q2⟩
        | bk ρ5 => rw [e] at q2; exact q2
        | rt d ρ5 => rw [e] at q2; exact q2
        | exc c fs ρ5 => rw [e] at q2; exact q2
        | stuck => rw [e] at q2; exact q2
    · have ei : i = ds.length := by omega
      subst ei
      rw [List.drop_length] at q2
      exact .inl ⟨F.2 S2 H2 s2 R2.sub, q2 σ2 S2 H2 (Same.refl _) R2⟩
end
end PL
namespace PL
open PySem L2
/-- looked at from here: what stands now stands, the slots' own things may change -/
def GC.re (G : GC) (S H : Hp) (σ : St) (ρ : Ev) : GC := { G with H0 := H, S0 := S, M := fun b => ∃ j, Ow ρ σ j b }
section
variable {G : GC} {S H S' H' : Hp} {σ σ' : St} {ρ ρ' : Ev}
theorem Rel.into (R : Rel G S H σ ρ) : Rel (G.re S H σ ρ) S H σ ρ :=
  ⟨R.sub, Same.refl _, fun _ _ h _ => h, fun _ o h => ⟨o, h⟩, fun _ _ h => .inl h, R.sl, R.dis, fun i a h => .inl ⟨i, h⟩, R.mt, R.len, R.tb, id⟩
theorem Rel.outof (R : Rel G S H σ ρ) (R' : Rel (G.re S H σ ρ) S' H' σ' ρ') : Rel G S' H' σ' ρ' := by
  have h0 : ∀ {a : Addr}, H a = none → G.H0 a = none := fun {a} h => by
    cases q : G.H0 a with
    | none => rfl
    | some o =>
      obtain ⟨o', z⟩ := R.th a o q
      rw [h] at z; cases z
  refine ⟨R'.sub, R.old.trans R'.old, fun b o h hm => ?_, fun b o h => ?_, fun a o q => ?_, R'.sl, R'.dis, fun i a h => ?_, R'.mt, R'.len, R'.tb, fun z => R'.nt (R.nt z)⟩
  · refine R'.fr b o (R.fr b o h hm) fun ⟨j, hj⟩ => ?_
    rcases R.mine j b hj with z | z
    · exact hm z
    · rw [h] at z; cases z
  · obtain ⟨o', q⟩ := R.th b o h
    exact R'.th b o' q
  · rcases R'.nw a o q with z | z | ⟨j, z⟩
    · exact R.nw a o z
    · exact .inr (.inl (h0 z))
    · rcases R.mine j a z with y | y
      · exact .inr (.inr y)
      · exact .inr (.inl y)
  · rcases R'.mine i a h with ⟨j, z⟩ | z
    · exact R.mine j a z
    · exact .inr (h0 z)
theorem wipe_get (σ : St) (i : Nat) : ∀ vs : List Nat, (wipe σ vs)[i]? = if i ∈ vs ∧ i < σ.length then some none else σ[i]?
  | [] => by simp [wipe]
  | v :: vs => by
    unfold wipe
    by_cases hv : v = i
    · subst hv
      by_cases hl : v < σ.length
      · rw [List.getElem?_set_self (by rw [wipe_length]; exact hl), if_pos ⟨List.mem_cons_self, hl⟩]
      · rw [if_neg (fun z => hl z.2), List.getElem?_eq_none (by rw [List.length_set, wipe_length]; omega), List.getElem?_eq_none (by omega)]
    · rw [List.getElem?_set_ne hv, wipe_get σ i vs]
      by_cases h : i ∈ vs ∧ i < σ.length
      · rw [if_pos h, if_pos ⟨List.mem_cons_of_mem _ h.1, h.2⟩]
      · rw [if_neg h, if_neg]
        rintro ⟨z, z2⟩
        rcases List.mem_cons.mp z with y | y
        · exact hv y.symm
        · exact h ⟨y, z2⟩
theorem wipe_off {vs ws : List Nat} (o : Off ws σ σ') (h : ∀ i ∈ ws, i ∈ vs) : wipe σ' vs = wipe σ vs := by
  apply List.ext_getElem?
  intro i
  rw [wipe_get, wipe_get, o.1]
  by_cases c : i ∈ vs ∧ i < σ.length
  · rw [if_pos c, if_pos c]
  · rw [if_neg c, if_neg c]
    by_cases hw : i ∈ ws
    · have hl : ¬ i < σ.length := fun z => c ⟨h i hw, z⟩
      have e1 := o.1
      rw [List.getElem?_eq_none (show σ'.length ≤ i by omega), List.getElem?_eq_none (show σ.length ≤ i by omega)]
    · exact o.2 i hw
theorem wipe_wipe (σ : St) (vs : List Nat) : wipe (wipe σ vs) vs = wipe σ vs := by
  apply List.ext_getElem?
  intro i
  rw [wipe_get, wipe_length]
  by_cases c : i ∈ vs ∧ i < σ.length
  · rw [if_pos c, wipe_get, if_pos c]
  · rw [if_neg c]
def wipeE (ρ : Ev) : List Nat → Ev
  | [] => ρ
  | v :: vs => (wipeE ρ vs).set v .no
theorem wipeE_length (ρ : Ev) : ∀ vs : List Nat, (wipeE ρ vs).length = ρ.length
  | [] => rfl
  | v :: vs => by unfold wipeE; rw [List.length_set, wipeE_length ρ vs]
theorem wipeE_get (ρ : Ev) (i : Nat) : ∀ vs : List Nat, (wipeE ρ vs)[i]? = if i ∈ vs ∧ i < ρ.length then some .no else ρ[i]?
  | [] => by simp [wipeE]
  | v :: vs => by
    unfold wipeE
    by_cases hv : v = i
    · subst hv
      by_cases hl : v < ρ.length
      · rw [List.getElem?_set_self (by rw [wipeE_length]; exact hl), if_pos ⟨List.mem_cons_self, hl⟩]
      · rw [if_neg (fun z => hl z.2), List.getElem?_eq_none (by rw [List.length_set, wipeE_length]; omega), List.getElem?_eq_none (by omega)]
    · rw [List.getElem?_set_ne hv, wipeE_get ρ i vs]
      by_cases h : i ∈ vs ∧ i < ρ.length
      · rw [if_pos h, if_pos ⟨List.mem_cons_of_mem _ h.1, h.2⟩]
      · rw [if_neg h, if_neg]
        rintro ⟨z, z2⟩
        rcases List.mem_cons.mp z with y | y
        · exact hv y.symm
        · exact h ⟨y, z2⟩
/-- the slots of vs are forgotten: what the frame holds there does not matter -/
theorem Rel.wiped {vs : List Nat} (R : Rel G S H σ ρ) (h0 : 0 ∉ vs) (hσ : wipe σ' vs = wipe σ vs) : Rel G S H σ' (wipeE ρ vs) := by
  have hl : σ'.length = σ.length := by
    have := congrArg List.length hσ
    rwa [wipe_length, wipe_length] at this
  have same : ∀ i, i ∉ vs → σ'[i]? = σ[i]? := fun i hi => by
    have := congrArg (fun l : St => l[i]?) hσ
    simp only [wipe_get] at this
    rwa [if_neg (fun z => hi z.1), if_neg (fun z => hi z.1)] at this
  have f : ∀ {j b}, Ow (wipeE ρ vs) σ' j b → Ow ρ σ j b ∧ j ∉ vs := fun {j b} ⟨⟨sl, e, m⟩, e'⟩ => by
    rw [wipeE_get] at e
    by_cases c : j ∈ vs ∧ j < ρ.length
    · rw [if_pos c] at e; cases e; cases m
    · rw [if_neg c] at e
      have hj : j ∉ vs := fun z => c ⟨z, (List.getElem?_eq_some_iff.mp e).1⟩
      exact ⟨⟨⟨sl, e, m⟩, by rw [← same j hj]; exact e'⟩, hj⟩
  refine ⟨R.sub, R.old, R.fr, R.th, R.nw, fun i sl e => ?_, fun i j a h1 h2 => R.dis i j a (f h1).1 (f h2).1, fun i a h => R.mine i a (f h).1, fun a hm => ?_, by rw [wipeE_length, hl]; exact R.len, R.tb, R.nt⟩
  · rw [wipeE_get] at e
    by_cases c : i ∈ vs ∧ i < ρ.length
    · rw [if_pos c] at e; cases e; trivial
    · rw [if_neg c] at e
      have hi : i ∉ vs := fun z => c ⟨z, (List.getElem?_eq_some_iff.mp e).1⟩
      rw [same i hi]
      exact R.sl i sl e
  · obtain ⟨e0, xs, hx, hy⟩ := R.mt a hm
    exact ⟨by rw [same 0 h0]; exact e0, xs, by rw [wipeE_get, if_neg (fun z => h0 z.1)]; exact hx, hy⟩
end
/-! ### comprehensions -/
def compL (vs : List Nat) (tg : D → Ev → Option Ev) (c : Ev → Rs Bool) (e : Ev → Rs D) : List D → Ev → Rs (List D)
  | [], ρ => .ok [] ρ
  | d :: ds, ρ => match tg d ρ with
    | none => .stuck
    | some ρ1 => (match c ρ1 with
      | .ok true ρ2 => (match e ρ2 with
        | .ok y ρ3 => (match compL vs tg c e ds (wipeE ρ3 vs) with
          | .ok ys ρ4 => .ok (y :: ys) ρ4
          | _ => .stuck)
        | _ => .stuck)
      | .ok false ρ2 => compL vs tg c e ds (wipeE ρ2 vs)
      | _ => .stuck)
def compF (vs : List Nat) (tg : D → Ev → Option Ev) (k : Ev → Rs (List D)) (c : Ev → Rs Bool) (e : Ev → Rs D) : Ev → Rs (List D) := fun ρ => (k ρ).bind fun ds ρ1 => match compL vs tg c e ds (wipeE ρ1 vs) with
  | .ok ys ρ2 => if ys.length ≤ sizeLine then .ok ys ρ2 else .stuck
  | _ => .stuck
def W0 : Wx := fun _ _ _ _ => False
def pTs (G : GC) (c : Ev → Rs Bool) : TT := pT G W0 c
def yesT : Ev → Rs Bool := fun ρ => .ok true ρ
section
variable {X : Cx} {G : GC} {W : Wx} {pos : Pos}
theorem PTsm {e : List Expr} {t t' : TT} (h : PTs X e t) (i : ∀ σ H Q, t' σ H Q → t σ H Q) : PTs X e t' := ⟨fun pins s σ H Q I k => h.run pins s σ H Q I (i σ H Q k)⟩
theorem c_nil : PTs X [] (pT G W0 yesT) := PTsm pts_nil fun σ H Q ⟨S, ρ, R, q⟩ => q S H (Same.refl _) R
theorem c_one {c : Expr} {k : Ev → Rs Bool} (h : PT X c (pT G W0 k)) : PTs X [c] (pT G W0 k) := pts_one h
/-- a block's pieces, whatever they are looked at from -/
abbrev Blk (X : Cx) (scope : Scope) (P : Cx → GC → Prop) (K : PySem.W.Frag) (C : CT) : Prop := ∀ (s : Shared) (H : Hp) (A : Addr) (cl : List (Str × Addr)) (fp : List Addr) (G : GC), G.K = K → G.C = C → P (X.blk s H scope (compEnvC scope cl A X.env) fp) G
theorem comp_turns {vs : List Nat} {tg : D → Ev → Option Ev} {c : Ev → Rs Bool} {e : Ev → Rs D} {ws : List Nat} {J : It} {S1 H1 : Hp} {σ : St} {ρ1 : Ev} {ds ys : List D} {ρ2 : Ev} {g : GC → TG} {tt : GC → TT} {te : GC → TE} {D0 : Addr} {Q : V → Hp → Prop}
    (h0 : 0 ∉ vs) (hws : ∀ i ∈ ws, i ∈ vs) (R : Rel G S1 H1 σ ρ1) (F : Feeds G S1 J ds) (hD : H1 D0 = none) (ec : compL vs tg c e ds (wipeE ρ1 vs) = .ok ys ρ2) (hl : ys.length ≤ sizeLine)
    (g0 : TG) (t0 : TT) (te0 : TE) (hg : ∀ G' : GC, G'.K = G.K → G'.C = G.C → ∀ v σ H Q, pG G' tg ws v σ H Q → g0 v σ H Q) (ht : ∀ G' : GC, G'.K = G.K → G'.C = G.C → ∀ σ H Q, pT G' W0 c σ H Q → t0 σ H Q) (he : ∀ G' : GC, G'.K = G.K → G'.C = G.C → ∀ σ H Q, pE G' W0 e σ H Q → te0 σ H Q)
    (hQ : ∀ S' H' zs, Same S1 S' → Rel G S' H' σ ρ2 → S' D0 = none → (∀ j, ¬ Ow ρ2 σ j D0) → H' D0 = some (.lst zs) → Rps G.K G.C S' ys zs → Q (.ref D0) H') :
    ∃ W : Nat → Nat → Hp → Prop, (∃ m, W 0 m (upd H1 D0 (.lst []))) ∧ ∀ i m H, W i m H →
      (J.stop i H ∧ Q (.ref D0) H) ∨ (J.go i H ∧ ∃ Nx : Hp → Prop, (∀ H', Nx H' → ∃ m', m' < m ∧ W (i + 1) m' H') ∧ ∀ x H', J.yld i H x H' → g0 x (wipe σ vs) H' fun σ2 H2 => wipe σ2 vs = wipe σ vs ∧ t0 σ2 H2 fun b H3 =>
        if b = true then te0 σ2 H3 fun y H4 => ∃ acc, H4 D0 = some (.lst acc) ∧ acc.length < sizeLine ∧ Nx (upd H4 D0 (.lst (acc ++ [y]))) else Nx H3) := by
  obtain ⟨hn0, hn1, hn2⟩ := R.new0 hD
  -- the state at turn i
  let St_ : Nat → Hp → Prop := fun i H => ∃ (S' : Hp) (ρ' : Ev) (done rest : List D) (zs : List V), Same S1 S' ∧ Rel G S' H (wipe σ vs) ρ' ∧ S' D0 = none ∧ (∀ j, ¬ Ow ρ' (wipe σ vs) j D0) ∧ H D0 = some (.lst zs) ∧ Rps G.K G.C S' done zs ∧
    compL vs tg c e (ds.drop i) ρ' = .ok rest ρ2 ∧ ys = done ++ rest ∧ wipeE ρ' vs = ρ'
  have wE : ∀ (ρ : Ev), wipeE (wipeE ρ vs) vs = wipeE ρ vs := fun ρ => by
    apply List.ext_getElem?
    intro i
    rw [wipeE_get, wipeE_length]
    by_cases q : i ∈ vs ∧ i < ρ.length
    · rw [if_pos q, wipeE_get, if_pos q]
    · rw [if_neg q]
  have sw : ∀ {S' H' : Hp} {ρ' : Ev}, Rel G S' H' σ ρ' → Rel G S' H' (wipe σ vs) (wipeE ρ' vs) := fun R' => R'.wiped h0 (wipe_wipe σ vs)
  have owW : ∀ {ρ' : Ev} {σ1 : St} {j a}, wipe σ1 vs = wipe σ vs → Ow (wipeE ρ' vs) (wipe σ vs) j a → Ow ρ' σ1 j a := fun {ρ' σ1 j a} hσ ⟨⟨sl, e1, m⟩, e2⟩ => by
    rw [wipeE_get] at e1
    by_cases q : j ∈ vs ∧ j < ρ'.length
    · rw [if_pos q] at e1; cases e1; cases m
    · rw [if_neg q] at e1
      rw [← hσ, wipe_get] at e2
      by_cases q2 : j ∈ vs ∧ j < σ1.length
      · rw [if_pos q2] at e2; cases e2
      · rw [if_neg q2] at e2
        exact ⟨⟨sl, e1, m⟩, e2⟩
  refine ⟨fun i m H => m = ds.length - i ∧ i ≤ ds.length ∧ St_ i H, ⟨ds.length, by simp, Nat.zero_le _, S1, wipeE ρ1 vs, [], ys, [], Same.refl _, sw (R.grow (Grow.loose R.sub _ hD)), hn1, fun j h => hn2 j (owW (wipe_wipe σ vs ▸ rfl) h), upd_same, rfl, ec, rfl, wE ρ1⟩, ?_⟩
  rintro i m H ⟨rfl, hi, S2, ρ', done, rest, zs, s2, R2, nD, oD, hDz, rz, ec2, ey, ew⟩
  by_cases hlt : i < ds.length
  · obtain ⟨go, yl⟩ := F.1 i S2 H s2 R2.sub hlt
    refine .inr ⟨go, St_ (i + 1), fun H' z => ⟨ds.length - (i + 1), by omega, rfl, hlt, z⟩, fun x H' y => ?_⟩
    obtain ⟨S3, d, gr, hd, rx⟩ := yl x H' y
    have ed : ds.drop i = d :: ds.drop (i + 1) := by
      rw [List.drop_eq_getElem_cons hlt]
      rw [List.getElem?_eq_getElem hlt] at hd
      cases hd
      rfl
    rw [ed] at ec2
    have R3 := R2.grow gr
    have nD3 : S3 D0 = none := by
      cases z : S3 D0 with
      | none => rfl
      | some o =>
        rcases gr.nw D0 o z with y | y
        · rw [nD] at y; cases y
        · rw [hDz] at y; cases y
    have hD3 := gr.hH _ _ hDz
    -- from here on, looked at anew
    let G' := G.re S3 H' (wipe σ vs) ρ'
    have R3' : Rel G' S3 H' (wipe σ vs) ρ' := R3.into
    have notM : ¬ G'.M D0 := fun ⟨j, hj⟩ => oD j hj
    have ec2 : (match tg d ρ' with
      | none => Rs.stuck
      | some ρ1 => (match c ρ1 with
        | .ok true ρ2 => (match e ρ2 with
          | .ok y ρ3 => (match compL vs tg c e (ds.drop (i + 1)) (wipeE ρ3 vs) with
            | .ok ys ρ4 => .ok (y :: ys) ρ4
            | _ => .stuck)
          | _ => .stuck)
        | .ok false ρ2 => compL vs tg c e (ds.drop (i + 1)) (wipeE ρ2 vs)
        | _ => .stuck)) = Rs.ok rest ρ2 := ec2
    refine hg G' rfl rfl _ _ _ _ ⟨S3, ρ', d, R3', rx, ?_⟩
    cases et : tg d ρ' with
    | none => rw [et] at ec2; cases ec2
    | some ρ3 =>
      rw [et] at ec2
      dsimp only at ec2 ⊢
      intro σ4 S4 H4 g4 R4 o4
      have hσ : wipe σ4 vs = wipe σ vs := (wipe_off o4 hws).trans (wipe_wipe σ vs)
      refine ⟨hσ, ht G' rfl rfl _ _ _ ⟨S4, ρ3, R4, ?_⟩⟩
      -- how D0 stands behind a piece
      have keepD : ∀ {S' H' : Hp} {ρ5 : Ev}, Rel G' S' H' σ4 ρ5 → H' D0 = some (.lst zs) ∧ S' D0 = none ∧ ∀ j, ¬ Ow ρ5 σ4 j D0 := fun {S' H' ρ5} R5 => by
        refine ⟨R5.fr D0 _ hD3 notM, ?_, fun j h => ?_⟩
        · cases z : S' D0 with
          | none => rfl
          | some o =>
            rcases R5.nw D0 o z with y | y | y
            · have y : S3 D0 = some o := y
              rw [nD3] at y; cases y
            · have y : G'.H0 D0 = none := y
              have z2 : some (HO.lst zs) = none := hD3.symm.trans y
              cases z2
            · exact absurd y notM
        · rcases R5.mine j D0 h with y | y
          · exact notM y
          · have z2 : some (HO.lst zs) = none := hD3.symm.trans y
            cases z2
      cases ect : c ρ3 with
      | stuck => rw [ect] at ec2; cases ec2
      | exc _ _ _ => rw [ect] at ec2; cases ec2
      | ok b ρ5 =>
        rw [ect] at ec2
        intro S5 H5 s5 R5
        have back : ∀ {S' H' : Hp} {ρ6 : Ev}, Rel G' S' H' σ4 ρ6 → Rel G S' H' (wipe σ vs) (wipeE ρ6 vs) := fun R6 => (R3.outof R6).wiped h0 ((wipe_wipe σ vs).trans hσ.symm)
        cases b with
        | false =>
          dsimp only at ec2
          refine iteF ?_
          obtain ⟨k1, k2, k3⟩ := keepD R5
          exact ⟨S5, wipeE ρ5 vs, done, rest, zs, s2.trans (gr.sS.trans R5.old), back R5, k2, fun j h => k3 j (owW hσ h), k1, Rps.mono (gr.sS.trans R5.old) _ _ rz, ec2, ey, wE ρ5⟩
        | true =>
          dsimp only at ec2
          refine iteT (he G' rfl rfl _ _ _ ⟨S5, ρ5, R5, ?_⟩)
          cases ee : e ρ5 with
          | stuck => rw [ee] at ec2; cases ec2
          | exc _ _ _ => rw [ee] at ec2; cases ec2
          | ok y ρ6 =>
            rw [ee] at ec2
            dsimp only at ec2
            intro S6 H6 s6 R6 v rv
            obtain ⟨k1, k2, k3⟩ := keepD R6
            cases er : compL vs tg c e (ds.drop (i + 1)) (wipeE ρ6 vs) with
            | stuck => rw [er] at ec2; cases ec2
            | exc _ _ _ => rw [er] at ec2; cases ec2
            | ok ys2 ρ7 =>
              rw [er] at ec2
              cases ec2
              have hlen : zs.length < sizeLine := by
                rw [← rz.length]
                rw [ey, List.length_append, List.length_cons] at hl
                omega
              refine ⟨zs, k1, hlen, S6, wipeE ρ6 vs, done ++ [y], ys2, zs ++ [v], s2.trans (gr.sS.trans R6.old), ?_, k2, fun j h => k3 j (owW hσ h), upd_same, (Rps.mono (gr.sS.trans R6.old) _ _ rz).append (.cons rv .nil), er, by rw [ey, List.append_assoc]; rfl, wE ρ6⟩
              -- the new list has one more
              have Rb := back R6
              refine ⟨fun b o q => ?_, Rb.old, fun b o h hm => ?_, fun b o h => ?_, Rb.nw, fun j sl es => ?_, Rb.dis, Rb.mine, Rb.mt, Rb.len, ⟨Rb.tbM k1 (fun _ => nofun) (fun _ _ => nofun) (fun b o q hb => by rw [upd_ne hb]; exact q), Rb.tb.2⟩, Rb.nt⟩
              · have hb : b ≠ D0 := fun z => by subst z; rw [k2] at q; cases q
                rw [upd_ne hb]; exact Rb.sub b o q
              · have hb : b ≠ D0 := fun z => by subst z; rw [hn0] at h; cases h
                rw [upd_ne hb]; exact Rb.fr b o h hm
              · by_cases hb : b = D0
                · subst hb; exact ⟨_, upd_same⟩
                · rw [upd_ne hb]; exact Rb.th b o h
              · have hs := Rb.sl j sl es
                cases sl with
                | no => trivial
                | adr => exact hs
                | val d => exact hs
                | own xs =>
                  obtain ⟨a, ws', e1, e2, e3, e4⟩ := hs
                  have ha : a ≠ D0 := fun z => by
                    subst z
                    refine k3 j (owW hσ ⟨⟨_, es, rfl⟩, ?_⟩)
                    cases hx : (wipe σ vs)[j]? with
                    | none => rw [hx] at e1; cases e1
                    | some o => rw [hx] at e1; exact congrArg some e1
                  exact ⟨a, ws', e1, e2, by rw [upd_ne ha]; exact e3, e4⟩
                | obj c fs =>
                  obtain ⟨a, dx, ws', e1, e2, e3, e4, e5, e6, e7⟩ := hs
                  have ha : a ≠ D0 := fun z => by rw [z, k1] at e6; cases e6
                  have hd' : dx ≠ D0 := fun z => by rw [z, k1] at e5; cases e5
                  exact ⟨a, dx, ws', e1, e2, e3, e4, by rw [upd_ne hd']; exact e5, by rw [upd_ne ha]; exact e6, e7⟩
  · have ei : i = ds.length := by omega
    subst ei
    rw [List.drop_length] at ec2
    cases ec2
    refine .inl ⟨F.2 S2 H s2 R2.sub, ?_⟩
    rw [List.append_nil] at ey
    subst ey
    have Rf : Rel G S2 H σ ρ2 := by
      have := R2.wiped (σ' := σ) h0 (wipe_wipe σ vs).symm
      rwa [ew] at this
    refine hQ S2 H zs s2 Rf nD (fun j h => oD j ?_) hDz rz
    obtain ⟨⟨sl, e1, m⟩, e2⟩ := h
    refine ⟨⟨sl, e1, m⟩, ?_⟩
    rw [wipe_get, if_neg]
    · exact e2
    · rintro ⟨z1, z2⟩
      rw [← ew, wipeE_get, if_pos ⟨z1, by rw [R2.len, wipe_length]; exact z2⟩] at e1
      cases e1
      cases m
theorem comp_inv {P : Rs (List D) → Prop} {r : Rs (List D)} (hs : P .stuck → False) (h : P (match r with
    | .ok ys ρ2 => if ys.length ≤ sizeLine then .ok ys ρ2 else .stuck
    | _ => .stuck)) : ∃ ys ρ2, r = .ok ys ρ2 ∧ ys.length ≤ sizeLine ∧ P (.ok ys ρ2) := by
  cases r with
  | ok ys ρ2 =>
    by_cases c : ys.length ≤ sizeLine
    · dsimp only at h
      rw [if_pos c] at h
      exact ⟨ys, ρ2, rfl, c, h⟩
    · dsimp only at h
      rw [if_neg c] at h
      exact (hs h).elim
  | _ => exact (hs h).elim
section
variable {elt tgt iter : Expr} {ifs : List Expr} {scope : Scope} {own : List (Str × Nat)} {tg : D → Ev → Option Ev} {ws : List Nat} {k : Ev → Rs (List D)} {c : Ev → Rs Bool} {e : Ev → Rs D}
/-- a block's target, tests and element, looked at from anywhere -/
def gAny (K : PySem.W.Frag) (C : CT) (tg : D → Ev → Option Ev) (ws : List Nat) : TG := fun v σ H Q => ∃ G' : GC, G'.K = K ∧ G'.C = C ∧ pG G' tg ws v σ H Q
def tAny (K : PySem.W.Frag) (C : CT) (c : Ev → Rs Bool) : TT := fun σ H Q => ∃ G' : GC, G'.K = K ∧ G'.C = C ∧ pT G' W0 c σ H Q
def eAny (K : PySem.W.Frag) (C : CT) (e : Ev → Rs D) : TE := fun σ H Q => ∃ G' : GC, G'.K = K ∧ G'.C = C ∧ pE G' W0 e σ H Q
theorem lc_reads {vs : List Nat} {σ : St} {H : Hp} {R : V → Hp → Prop} (h0 : 0 ∉ vs) (hws : ∀ i ∈ ws, i ∈ vs) (h : pF G W (compF vs tg k c e) σ H R) :
    tLc (pI G W k) (gAny G.K G.C tg ws) (tAny G.K G.C c) (eAny G.K G.C e) vs σ H R := by
  obtain ⟨S, ρ, Re, q⟩ := h
  refine ⟨S, ρ, Re, Po.mono (Po.bind q) fun ds ρ1 S1 H1 s1 R1 q J F D0 hD => ?_⟩
  obtain ⟨ys, ρ2, ec, hl, q2⟩ := comp_inv (P := Po G W S1 σ _) Po.not q
  obtain ⟨hn0, hn1, hn2⟩ := R1.new0 hD
  exact comp_turns (g := fun _ => gAny G.K G.C tg ws) (tt := fun _ => tAny G.K G.C c) (te := fun _ => eAny G.K G.C e) h0 hws R1 F hD ec hl _ _ _ (fun G' a b v σ H Q z => ⟨G', a, b, z⟩) (fun G' a b σ H Q z => ⟨G', a, b, z⟩) (fun G' a b σ H Q z => ⟨G', a, b, z⟩)
    fun S' H' zs s' R' nS nO hh r => q2 S' H' s' R' D0 zs hn0 nS nO hh r
theorem f_lc (hc : X.calm = true) (hN : X.N.Nodup) (hi : PI X tgt iter (pI G W k)) (ok : BlkOk X.N X.env.scope scope own)
    (hg : ∀ (s : Shared) (H : Hp) (A : Addr) (cl : List (Str × Addr)) (fp : List Addr) (G' : GC), G'.K = G.K → G'.C = G.C → PG (X.blk s H scope (compEnvC scope cl A X.env) fp) tgt (pG G' tg ws))
    (ht : ∀ (s : Shared) (H : Hp) (A : Addr) (cl : List (Str × Addr)) (fp : List Addr) (G' : GC), G'.K = G.K → G'.C = G.C → PTs (X.blk s H scope (compEnvC scope cl A X.env) fp) ifs (pT G' W0 c))
    (he : ∀ (s : Shared) (H : Hp) (A : Addr) (cl : List (Str × Addr)) (fp : List Addr) (G' : GC), G'.K = G.K → G'.C = G.C → PE (X.blk s H scope (compEnvC scope cl A X.env) fp) elt (pE G' W0 e))
    (h0 : 0 ∉ own.map (·.2) := by decide) (hws : ∀ i ∈ ws, i ∈ own.map (·.2) := by decide) (hs : ∀ x, foldedSetIterable iter X.env x = pure x := by intro _; rfl) :
    PE X (.ListComp elt [⟨tgt, iter, ifs, 0⟩] scope pos) (pF G W (compF (own.map (·.2)) tg k c e)) :=
  PEm (pe_lc (g := gAny G.K G.C tg ws) (tt := tAny G.K G.C c) (te := eAny G.K G.C e) hc hN hi ok
    (fun s H A cl fp => ⟨fun pins s' σ H' v u Q I r ⟨G', a, b, z⟩ => (hg s H A cl fp G' a b).run pins s' σ H' v u Q I r z⟩)
    (fun s H A cl fp => ⟨fun pins s' σ H' Q I ⟨G', a, b, z⟩ => (ht s H A cl fp G' a b).run pins s' σ H' Q I z⟩)
    (fun s H A cl fp => ⟨fun pins s' σ H' Q I ⟨G', a, b, z⟩ => (he s H A cl fp G' a b).run pins s' σ H' Q I z⟩) hs) fun σ H Q h => lc_reads h0 hws h
theorem s_setLc {i : Nat} {y : Str} {py spos : Pos} (hc : X.calm = true) (hN : X.N.Nodup) (hy : X.N[i]? = some y) (hyl : X.env.scope.names.lookup y = some .local)
    (hsw : swapsWith (.ListComp elt [⟨tgt, iter, ifs, 0⟩] scope pos) (some (.Name y py)) spos.line X.env = pure true) (hi : PI X tgt iter (pI G W k)) (ok : BlkOk X.N X.env.scope scope own)
    (hg : ∀ (s : Shared) (H : Hp) (A : Addr) (cl : List (Str × Addr)) (fp : List Addr) (G' : GC), G'.K = G.K → G'.C = G.C → PG (X.blk s H scope (compEnvC scope cl A X.env) fp) tgt (pG G' tg ws))
    (ht : ∀ (s : Shared) (H : Hp) (A : Addr) (cl : List (Str × Addr)) (fp : List Addr) (G' : GC), G'.K = G.K → G'.C = G.C → PTs (X.blk s H scope (compEnvC scope cl A X.env) fp) ifs (pT G' W0 c))
    (he : ∀ (s : Shared) (H : Hp) (A : Addr) (cl : List (Str × Addr)) (fp : List Addr) (G' : GC), G'.K = G.K → G'.C = G.C → PE (X.blk s H scope (compEnvC scope cl A X.env) fp) elt (pE G' W0 e))
    (h0 : 0 ∉ own.map (·.2) := by decide) (hws : ∀ i ∈ ws, i ∈ own.map (·.2) := by decide) (hs : ∀ x, foldedSetIterable iter X.env x = pure x := by intro _; rfl) :
    PS X (.Assign [.Name y py] (.ListComp elt [⟨tgt, iter, ifs, 0⟩] scope pos) spos) (pS G W (setoF i (compF (own.map (·.2)) tg k c e))) :=
  PSm (ps_setLc (g := gAny G.K G.C tg ws) (tt := tAny G.K G.C c) (te := eAny G.K G.C e) hc hN hy hyl hsw hi ok
    (fun s H A cl fp => ⟨fun pins s' σ H' v u Q I r ⟨G', a, b, z⟩ => (hg s H A cl fp G' a b).run pins s' σ H' v u Q I r z⟩)
    (fun s H A cl fp => ⟨fun pins s' σ H' Q I ⟨G', a, b, z⟩ => (ht s H A cl fp G' a b).run pins s' σ H' Q I z⟩)
    (fun s H A cl fp => ⟨fun pins s' σ H' Q I ⟨G', a, b, z⟩ => (he s H A cl fp G' a b).run pins s' σ H' Q I z⟩) hs) fun E σ H ⟨S, ρ, R, q⟩ => lc_reads h0 hws ⟨S, ρ, R, Po.mono (Po.fl (S := S) (σ := σ) q) fun ds ρ1 S1 H1 s1 R1 q a vs h0 nS nO hh r => by
      obtain ⟨h1, h2, h3⟩ := put_ok R1 q
      exact h3 _ _ _ (Same.refl _) (R1.seto h1 h2 h0 nS nO hh r)⟩
end
end
end PL
namespace PL
open PySem L2
open PyProof.Rows (envOfC)
/-- the call keeps its promise wherever no repr is under way -/
structure FnG (P : Program) (w : World) (K : PySem.W.Frag) (mg : Str → Option Value) (base : Heap) (k : Nat) (f : Addr) (fd : FuncData) (ps : List Str) (sp : Sp) : Prop where
  len : ∀ vs H Q E, sp vs H Q E → vs.length = ps.length
  go : ∀ (A : Around) (outer : List Env) (s : Shared) (H : Hp) (args : Args) (us : List Value) (vs : List V) (Q : VK) (E : XK), Room k A → A.guards = some [] →
    Env0 P w K mg base A outer s H → BindsTo s fd args (ps.zip us) → Vals vs us → sp vs H Q E → codeAny (model P w) A (.call (.ref f) args) (CR (L2.CX P w) outer P w H s Q E) s
theorem FnG.imp {P : Program} {w : World} {K : PySem.W.Frag} {mg : Str → Option Value} {base : Heap} {k : Nat} {f : Addr} {fd : FuncData} {ps : List Str} {sp sp' : Sp} (F : FnG P w K mg base k f fd ps sp) (h : ∀ vs H Q E, sp' vs H Q E → sp vs H Q E) : FnG P w K mg base k f fd ps sp' :=
  ⟨fun vs H Q E q => F.len vs H Q E (h _ _ _ _ q), fun A outer s H args us vs Q E a b c d e q => F.go A outer s H args us vs Q E a b c d e (h _ _ _ _ q)⟩
theorem FnG.up {P : Program} {w : World} {K : PySem.W.Frag} {mg : Str → Option Value} {base : Heap} {j k : Nat} {f : Addr} {fd : FuncData} {ps : List Str} {sp : Sp} (F : FnG P w K mg base j f fd ps sp) (h : j ≤ k) : FnG P w K mg base k f fd ps sp :=
  ⟨F.len, fun A outer s H args us vs Q E a => F.go A outer s H args us vs Q E (a.mono h)⟩
section
variable {P : Program} {w : World} {K : PySem.W.Frag} {mg : Str → Option Value} {base : Heap}
theorem fnG_of {x qual : Str} {params : Arguments} {body : List Stmt} {scope : Scope} {dvs : List V} {kws : List (Str × V)} {f : Addr} {fd : FuncData} {N ps : List Str} {k : Nat} {sp : Sp} (F : FunD K x qual params body scope dvs kws f fd) (S : FnScope N ps scope)
    (len : ∀ vs H Q E, sp vs H Q E → vs.length = ps.length)
    (hb : ∀ (cdv : Value) (A : Around) (outer : List Env) (s : Shared) (H : Hp) (vs : List V) (Q : VK) (E : XK), Room k (A.deeper (envOfC qual scope s.heap.objs.size f cdv)) → A.guards = some [] → sp vs H Q E →
      ∃ t, PSs (cxOf (L2.CX P w) P w K mg base N qual scope f cdv A outer s H E) body t ∧ t { nx := fun _ H' => Q .non H', rt := Q } (L2.start N vs) H) : FnG P w K mg base (k + 1) f fd ps sp := by
  obtain ⟨oc, od, dV, kV, doc, pm, an, cdv, ct, osl, rfl, lk, hcd, _, _⟩ := F.ex
  exact ⟨len, fun A outer s H args us vs Q E hr hg e0 hbd r h => LamX.run_ofS lk hcd S hr e0 hbd r (len _ _ _ _ h) fun hr' => hb cdv A outer s H vs Q E hr' hg h⟩
end
/-! ### what a def is worth -/
inductive Fr where
  | ok (d : D) | exc (c : Nat) (fs : List D) | stuck
inductive FrM where
  | ok (d : D) (xs : List D) | exc (c : Nat) (fs : List D) (xs : List D) | stuck
def env0 (n : Nat) (ds : List D) : Ev := ds.map .val ++ List.replicate (n - ds.length) .no
def runF (n : Nat) (b : Ev → Fl) (ds : List D) : Fr := match b (env0 n ds) with
  | .nx _ => .ok .non
  | .rt d _ => .ok d
  | .exc c fs _ => .exc c fs
  | _ => .stuck
def outM (d : D) (ρ : Ev) : FrM := match ρ[0]? with
  | some (Sl.own xs) => .ok d xs
  | _ => .stuck
def outX (c : Nat) (fs : List D) (ρ : Ev) : FrM := match ρ[0]? with
  | some (Sl.own xs) => .exc c fs xs
  | _ => .stuck
def runM (n : Nat) (b : Ev → Fl) (xs : List D) (ds : List D) : FrM := match b (.own xs :: env0 (n - 1) ds) with
  | .nx ρ => outM .non ρ
  | .rt d ρ => outM d ρ
  | .exc c fs ρ => outX c fs ρ
  | _ => .stuck
/-- an exception's fields -/
def XO (K : PySem.W.Frag) (C : CT) (H0 S H : Hp) (c : Nat) (fs : List D) (d : Option Addr) : Prop :=
  (C.fn c).length = fs.length ∧ ((fs = [] ∧ d = none) ∨ ∃ dd kvs, d = some dd ∧ H dd = some (.xd kvs) ∧ S dd = none ∧ H0 dd = none ∧
    ∀ (i : Nat) (f : Str) (x : D), (C.fn c)[i]? = some f → fs[i]? = some x → ∃ v, kvs.lookup f = some v ∧ Rp K C S x v)
theorem XO_iff {G : GC} {S H : Hp} {c : Nat} {fs : List D} {d : Option Addr} : XOk G S H c fs d ↔ XO G.K G.C G.H0 S H c fs d := Iff.rfl
theorem XO.from_ {K : PySem.W.Frag} {C : CT} {H1 H2 S H : Hp} {c : Nat} {fs : List D} {d : Option Addr} (x : XO K C H2 S H c fs d) (h : ∀ b, H2 b = none → H1 b = none) : XO K C H1 S H c fs d :=
  ⟨x.1, x.2.imp id fun ⟨dd, kvs, h1, h2, h3, h4, h5⟩ => ⟨dd, kvs, h1, h2, h3, h _ h4, h5⟩⟩
theorem upd_none {H : Hp} {a b : Addr} {o : HO} (h : upd H a o b = none) : H b = none := by
  by_cases e : b = a
  · subst e; rw [upd_same] at h; cases h
  · rw [upd_ne e] at h; exact h
/-- what a callee let out, to its caller -/
theorem XO.up {G : GC} {S1 H1 S H : Hp} {σ : L2.St} {ρ : Ev} {c : Nat} {fs : List D} {d : Option Addr} (x : XO G.K G.C H1 S H c fs d) (R : Rel G S1 H1 σ ρ) : XOk G S H c fs d := by
  obtain ⟨l, x⟩ := x
  refine ⟨l, x.imp id fun ⟨dd, kvs, h1, h2, h3, h4, h5⟩ => ⟨dd, kvs, h1, h2, h3, ?_, h5⟩⟩
  cases e : G.H0 dd with
  | none => rfl
  | some o =>
    obtain ⟨o', q⟩ := R.th dd o e
    rw [h4] at q; cases q
def spP (K : PySem.W.Frag) (C : CT) (n : Nat) (g : List D → Fr) : Sp := fun vs H Q E => ∃ S ds, Same S H ∧ Rps K C S ds vs ∧ ds.length = n ∧ match g ds with
  | .ok d => ∀ v S' H', Grow S H S' H' → Rp K C S' d v → Q v H'
  | .exc c fs => ∀ S' H' d, Grow S H S' H' → XO K C H S' H' c fs d → E (.ref (C.at_ c)) d H'
  | .stuck => False
def spM (K : PySem.W.Frag) (C : CT) (n : Nat) (g : List D → List D → FrM) : Sp := fun vs H Q E => ∃ S p xs ws ds us, vs = .ref p :: us ∧ Same S H ∧ S p = none ∧ H p = some (.lst ws) ∧ Rps K C S xs ws ∧ Rps K C S ds us ∧ ds.length + 1 = n ∧ match g xs ds with
  | .ok d xs' => ∀ v S' H' ws', GrowM p S H S' H' → S' p = none → H' p = some (.lst ws') → Rps K C S' xs' ws' → Rp K C S' d v → Q v H'
  | .exc c fs xs' => ∀ S' H' d ws', GrowM p S H S' H' → S' p = none → H' p = some (.lst ws') → Rps K C S' xs' ws' → XO K C H S' H' c fs d → E (.ref (C.at_ c)) d H'
  | .stuck => False
section
variable {P : Program} {w : World} {K : PySem.W.Frag} {mg : Str → Option Value} {base : Heap} {C : CT}
theorem env0_get {n : Nat} {ds : List D} {i : Nat} {sl : Sl} (h : (env0 n ds)[i]? = some sl) : (∃ d, ds[i]? = some d ∧ sl = .val d) ∨ sl = .no := by
  unfold env0 at h
  by_cases hi : i < ds.length
  · rw [List.getElem?_append_left (by simpa using hi), List.getElem?_map, List.getElem?_eq_getElem hi] at h
    cases h
    exact .inl ⟨_, List.getElem?_eq_getElem hi, rfl⟩
  · rw [List.getElem?_append_right (by simpa using hi), List.getElem?_replicate] at h
    split at h
    · cases h; exact .inr rfl
    · cases h
theorem start_get {N : List Str} {vs : List V} {i : Nat} {v : V} (h : vs[i]? = some v) : (L2.start N vs)[i]? = some (some v) := by
  have hi := (List.getElem?_eq_some_iff.mp h).1
  unfold L2.start
  rw [List.getElem?_append_left (by simpa using hi), List.getElem?_map, h]
  rfl
theorem rel_start {S H : Hp} {N : List Str} {ds : List D} {vs : List V} (s : Same S H) (r : Rps K C S ds vs) (hN : ds.length ≤ N.length) : Rel ⟨K, C, H, S, none, fun _ => False, [], none⟩ S H (L2.start N vs) (env0 N.length ds) := by
  have no : ∀ {i a}, ¬ Ow (env0 N.length ds) (L2.start N vs) i a := fun {i a} ⟨⟨sl, e, m⟩, _⟩ => by
    rcases env0_get e with ⟨d, _, rfl⟩ | rfl <;> cases m
  refine ⟨s, Same.refl _, fun _ _ h _ => h, fun _ o h => ⟨o, h⟩, fun _ _ h => .inl h, fun i sl e => ?_, fun i j a h _ => (no h).elim, fun i a h => (no h).elim, fun a h => (by cases h), ?_, ⟨fun _ hp => (by cases hp), fun _ hp => (by cases hp)⟩, id⟩
  · rcases env0_get e with ⟨d, e2, rfl⟩ | rfl
    · obtain ⟨v, e3, r2⟩ := Rps.get _ _ _ _ r e2
      exact ⟨v, by rw [start_get e3]; rfl, r2⟩
    · trivial
  · unfold env0 L2.start
    simp only [List.length_append, List.length_map, List.length_replicate]
    rw [r.length]
theorem rel_startM {S H : Hp} {N : List Str} {p : Addr} {xs ds : List D} {ws us : List V} (s : Same S H) (np : S p = none) (hp : H p = some (.lst ws)) (rx : Rps K C S xs ws) (r : Rps K C S ds us) (hN : ds.length + 1 ≤ N.length) :
    Rel ⟨K, C, H, S, some p, fun b => b = p, [], none⟩ S H (L2.start N (.ref p :: us)) (.own xs :: env0 (N.length - 1) ds) := by
  have at0 : (L2.start N (V.ref p :: us))[0]? = some (some (.ref p)) := start_get rfl
  have on : ∀ {i a}, Ow (.own xs :: env0 (N.length - 1) ds) (L2.start N (.ref p :: us)) i a → i = 0 ∧ a = p := fun {i a} ⟨⟨sl, e, m⟩, e'⟩ => by
    cases i with
    | zero => rw [at0] at e'; cases e'; exact ⟨rfl, rfl⟩
    | succ i =>
      rw [List.getElem?_cons_succ] at e
      rcases env0_get e with ⟨d, _, rfl⟩ | rfl <;> cases m
  refine ⟨s, Same.refl _, fun _ _ h _ => h, fun _ o h => ⟨o, h⟩, fun _ _ h => .inl h, fun i sl e => ?_, fun i j a h h2 => (on h).1.trans (on h2).1.symm, fun i a h => .inl (on h).2, fun a h => ?_, ?_, ⟨fun _ hp => (by cases hp), fun _ hp => (by cases hp)⟩, id⟩
  · cases i with
    | zero =>
      cases e
      exact ⟨p, ws, by rw [at0]; rfl, np, hp, rx⟩
    | succ i =>
      rw [List.getElem?_cons_succ] at e
      rcases env0_get e with ⟨d, e2, rfl⟩ | rfl
      · obtain ⟨v, e3, r2⟩ := Rps.get _ _ _ _ r e2
        exact ⟨v, by rw [start_get (show (V.ref p :: us)[i + 1]? = some v from e3)]; rfl, r2⟩
      · trivial
  · cases h
    exact ⟨at0, _, rfl, rfl⟩
  · unfold env0 L2.start
    simp only [List.length_cons, List.length_append, List.length_map, List.length_replicate]
    rw [← r.length]
    omega
theorem Rel.grown {S H S' H' : Hp} {σ : St} {ρ : Ev} (R : Rel ⟨K, C, H, S, none, fun _ => False, [], none⟩ S' H' σ ρ) : Grow S H S' H' :=
  ⟨R.old, fun b o h => R.fr b o h id, R.sub, fun a o h => by
    rcases R.nw a o h with z | z | z
    · exact .inl z
    · exact .inr z
    · exact z.elim, R.nt⟩
theorem Rel.grownM {S H S' H' : Hp} {σ : St} {ρ : Ev} {p : Addr} {xs : List D} (hx : ρ[0]? = some (.own xs)) (R : Rel ⟨K, C, H, S, some p, fun b => b = p, [], none⟩ S' H' σ ρ) : ∃ ws, GrowM p S H S' H' ∧ S' p = none ∧ H' p = some (.lst ws) ∧ Rps K C S' xs ws := by
  obtain ⟨e0, _⟩ := R.mt p rfl
  obtain ⟨a, vs, e3, n, hh, r, _⟩ := R.at_own hx
  rw [e0] at e3; cases e3
  refine ⟨vs, ⟨R.old, fun b o h hb => R.fr b o h hb, R.sub, fun a o h => ?_, R.nt⟩, n, hh, r⟩
  rcases R.nw a o h with z | z | z
  · exact .inl z
  · exact .inr z
  · have z : a = _ := z
    subst z; rw [n] at h; cases h
/-- A DEF, by its body's pure reading -/
theorem fnP {x qual : Str} {params : Arguments} {body : List Stmt} {scope : Scope} {dvs : List V} {kws : List (Str × V)} {f : Addr} {fd : FuncData} {N ps : List Str} {k : Nat} {b : Ev → Fl} (F : FunD K x qual params body scope dvs kws f fd) (S : FnScope N ps scope)
    (hb : ∀ (cdv : Value) (A : Around) (outer : List Env) (s : Shared) (H : Hp) (E : XK) (G : GC) (W : Wx), G.K = K → G.C = C → Room k (A.deeper (envOfC qual scope s.heap.objs.size f cdv)) → A.guards = some [] →
      Takes (cxOf (L2.CX P w) P w K mg base N qual scope f cdv A outer s H E) W → PSs (cxOf (L2.CX P w) P w K mg base N qual scope f cdv A outer s H E) body (pS G W b)) (hl : ps.length ≤ N.length := by decide) :
    FnG P w K mg base (k + 1) f fd ps (spP K C ps.length (runF N.length b)) := by
  refine fnG_of F S (fun vs H Q E h => ?_) fun cdv A outer s H vs Q E hr hg h => ?_
  · obtain ⟨S, ds, _, r, e, _⟩ := h
    rw [← e, r.length]
  · obtain ⟨S0, ds, sm, r, e, h⟩ := h
    refine ⟨_, hb cdv A outer s H E ⟨K, C, H, S0, none, fun _ => False, [], none⟩ (fun cls d _ H' => E cls d H') rfl rfl hr hg (takes_of rfl rfl rfl rfl), S0, env0 N.length ds, rel_start sm r (by omega), ?_⟩
    unfold runF at h
    cases eb : b (env0 N.length ds) with
    | nx ρ => rw [eb] at h; exact fun σ' S' H' _ R => h _ S' H' R.grown rfl
    | rt d ρ => rw [eb] at h; exact fun σ' v S' H' _ R r => h v S' H' R.grown r
    | exc c fs ρ => rw [eb] at h; exact fun σ' S' H' d _ R x => h S' H' d R.grown x
    | bk ρ => rw [eb] at h; exact h.elim
    | ct ρ => rw [eb] at h; exact h.elim
    | stuck => rw [eb] at h; exact h.elim
/-- .. of one that changes its first argument, a list -/
theorem fnM {x qual : Str} {params : Arguments} {body : List Stmt} {scope : Scope} {dvs : List V} {kws : List (Str × V)} {f : Addr} {fd : FuncData} {N ps : List Str} {k : Nat} {b : Ev → Fl} (F : FunD K x qual params body scope dvs kws f fd) (S : FnScope N ps scope)
    (hb : ∀ (cdv : Value) (A : Around) (outer : List Env) (s : Shared) (H : Hp) (E : XK) (G : GC) (W : Wx), G.K = K → G.C = C → Room k (A.deeper (envOfC qual scope s.heap.objs.size f cdv)) → A.guards = some [] →
      Takes (cxOf (L2.CX P w) P w K mg base N qual scope f cdv A outer s H E) W → PSs (cxOf (L2.CX P w) P w K mg base N qual scope f cdv A outer s H E) body (pS G W b)) (hl : ps.length ≤ N.length := by decide) :
    FnG P w K mg base (k + 1) f fd ps (spM K C ps.length (runM N.length b)) := by
  refine fnG_of F S (fun vs H Q E h => ?_) fun cdv A outer s H vs Q E hr hg h => ?_
  · obtain ⟨S, p, xs, ws, ds, us, e1, _, _, _, _, r, e, _⟩ := h
    rw [← e, e1, List.length_cons, r.length]
  · obtain ⟨S0, p, xs, ws, ds, us, rfl, sm, np, hp, rx, r, e, h⟩ := h
    refine ⟨_, hb cdv A outer s H E ⟨K, C, H, S0, some p, fun b => b = p, [], none⟩ (fun cls d _ H' => E cls d H') rfl rfl hr hg (takes_of rfl rfl rfl rfl), S0, .own xs :: env0 (N.length - 1) ds, rel_startM sm np hp rx r (by omega), ?_⟩
    unfold runM at h
    cases eb : b (.own xs :: env0 (N.length - 1) ds) with
    | nx ρ =>
      rw [eb] at h
      dsimp only [outM] at h
      intro σ' S' H' _ R
      cases e1 : ρ[0]? with
      | none => rw [e1] at h; exact h.elim
      | some sl =>
        rw [e1] at h
        cases sl with
        | own xs' =>
          obtain ⟨ws', g, n, hh, r'⟩ := R.grownM e1
          exact h _ S' H' ws' g n hh r' rfl
        | _ => exact h.elim
    | rt d ρ =>
      rw [eb] at h
      dsimp only [outM] at h
      intro σ' v S' H' _ R rd
      cases e1 : ρ[0]? with
      | none => rw [e1] at h; exact h.elim
      | some sl =>
        rw [e1] at h
        cases sl with
        | own xs' =>
          obtain ⟨ws', g, n, hh, r'⟩ := R.grownM e1
          exact h _ S' H' ws' g n hh r' rd
        | _ => exact h.elim
    | exc c fs ρ =>
      rw [eb] at h
      dsimp only [outX] at h
      intro σ' S' H' d _ R x
      cases e1 : ρ[0]? with
      | none => rw [e1] at h; exact h.elim
      | some sl =>
        rw [e1] at h
        cases sl with
        | own xs' =>
          obtain ⟨ws', g, n, hh, r'⟩ := R.grownM e1
          exact h S' H' d ws' g n hh r' x
        | _ => exact h.elim
    | bk ρ => rw [eb] at h; exact h.elim
    | ct ρ => rw [eb] at h; exact h.elim
    | stuck => rw [eb] at h; exact h.elim
end
/-! ### calls -/
section
variable {X : Cx} {G : GC} {W : Wx} {pos : Pos} {k : Nat} {f : Addr} {fd : FuncData} {ps : List Str} {sp : Sp}
def tCallG (sp : Sp) (dvs : List V) (W : Wx) (t : TA) : TE := fun σ H Q => t σ H fun vs H1 => sp (vs ++ dvs) H1 Q fun cls d H' => W cls d σ H'
theorem goG {pins : List (Addr × Obj)} {σ : St} {H : Hp} {s : Shared} {Q : VK} {us : List Value} {vs dvs : List V} {ds : List Value} (F : FnG X.prog X.w X.K X.mg X.base k f fd ps sp) (hr : Room k X.A) (hg : X.A.guards = some []) (hb : Binds X.K fd ps ds) (hd : Vals dvs ds) (tk : Takes X W)
    (I : Inv X pins σ H s) (r : Vals vs us) (h : sp (vs ++ dvs) H Q fun cls d H' => W cls d σ H') : wpAny (model X.prog X.w) X.A (call (.ref f) us) (EP X pins σ Q) X.xe s := by
  have r2 := r.append hd
  have hl : (us ++ ds).length = ps.length := (r2.length).symm.trans (F.len _ _ _ _ h)
  refine wpAny_call (codeAny_mono (F.go X.A X.stack s H ⟨us, []⟩ _ _ Q _ hr hg I.env0 (hb s us I.kIn hl) r2 h) ?_)
  rintro (e | fl) s' hq
  · exact passAt tk σ pins H s e s' I hq
  · cases fl with
    | ret u => exact I.after hq
    | _ => exact False.elim hq
theorem pe_callG {x : Str} {p : Pos} {e : Expr} {es : List Expr} {t : TA} {dvs : List V} {ds : List Value} (F : FnG X.prog X.w X.K X.mg X.base k f fd ps sp) (hr : Room k X.A) (hg : X.A.guards = some []) (hm : X.mg x = some (.ref f)) (hk : PySem.W.keepIn X.K (.ref f) = true) (hb : Binds X.K fd ps ds) (hd : Vals dvs ds) (tk : Takes X W)
    (ha : PA X (e :: es) t) (hgl : Gl X x := by rfl) (hdb : (x == ("__debug__" : Str)) = false := by decide) (he : starEach (e :: es) X.env = (false, eval e X.env) :: starEach es X.env := by rfl) (hpl : (backTo pos (starEach es X.env)).any (·.1) = false := by rfl) :
    PE X (.Call (.Name x p) (e :: es) [] pos) (tCallG sp dvs W t) := ⟨fun pins s σ H Q I h =>
  wpAny_Call_Name_kw (ld_glob I hgl hm (PySem.W.callWith_K (h₀ := X.base) I.ok.mod.kin hk (thn (ha.run pos pins s σ H _ I h) fun us s1 ⟨vs, H1, I1, r, q⟩ => ⟨I1.kIn, goG F hr hg hb hd tk I1 r q⟩) he hpl) hdb)⟩
def callE (fn : List D → Fr) (k : Ev → Rs (List D)) : Ev → Rs D := fun ρ => (k ρ).bind fun ds ρ1 => match fn ds with
  | .ok d => .ok d ρ1
  | .exc c fs => .exc c fs ρ1
  | .stuck => .stuck
theorem callE_ok {fn : List D → Fr} {n : Nat} {l : Ev → Rs (List D)} {σ : St} {H : Hp} {Q : VK} (hl : ∀ {ρ ds ρ1}, l ρ = .ok ds ρ1 → ds.length = n) (h : pE G W (callE fn l) σ H Q) : tCallG (spP G.K G.C n fn) [] W (pA G W l) σ H Q := by
  obtain ⟨S, ρ, R, q⟩ := h
  refine ⟨S, ρ, R, ?_⟩
  have q := Po.bind q
  cases e : l ρ with
  | stuck => rw [e] at q; exact q
  | exc c fs ρ1 => rw [e] at q; exact q
  | ok ds ρ1 =>
    rw [e] at q
    intro S1 H1 s1 R1 vs r
    have q := q S1 H1 s1 R1
    refine ⟨S1, ds, R1.sub, by rw [List.append_nil]; exact r, hl e, ?_⟩
    dsimp only at q
    cases ef : fn ds with
    | ok d => rw [ef] at q; exact fun v S' H' g rv => q S' H' g.sS (R1.grow g) v rv
    | exc c fs => rw [ef] at q; exact fun S' H' d g x => q S' H' d g.sS (R1.grow g) (x.up R1)
    | stuck => rw [ef] at q; exact q
theorem consA_len {f : Ev → Rs D} {g : Ev → Rs (List D)} {n : Nat} (h : ∀ {ρ ds ρ1}, g ρ = .ok ds ρ1 → ds.length = n) {ρ : Ev} {ds : List D} {ρ1 : Ev} (e : consA f g ρ = .ok ds ρ1) : ds.length = n + 1 := by
  unfold consA at e
  cases e1 : f ρ with
  | ok d ρ2 =>
    rw [e1, Rs.bind_ok] at e
    cases e2 : g ρ2 with
    | ok ds2 ρ3 => rw [e2, Rs.bind_ok] at e; cases e; rw [List.length_cons, h e2]
    | exc _ _ _ => rw [e2] at e; cases e
    | stuck => rw [e2] at e; cases e
  | exc _ _ _ => rw [e1] at e; cases e
  | stuck => rw [e1] at e; cases e
theorem nilA_len {ρ : Ev} {ds : List D} {ρ1 : Ev} (e : nilA ρ = .ok ds ρ1) : ds.length = 0 := by cases e; rfl
theorem e_call {x : Str} {p : Pos} {e : Expr} {es : List Expr} {fn : List D → Fr} {n : Nat} {l : Ev → Rs (List D)} (F : FnG X.prog X.w X.K X.mg X.base k f fd ps (spP G.K G.C n fn)) (hr : Room k X.A) (hg : X.A.guards = some []) (hm : X.mg x = some (.ref f)) (hk : PySem.W.keepIn X.K (.ref f) = true) (hb : Binds X.K fd ps []) (tk : Takes X W)
    (ha : PA X (e :: es) (pA G W l)) (hl : ∀ {ρ ds ρ1}, l ρ = .ok ds ρ1 → ds.length = n) (hgl : Gl X x := by rfl) (hdb : (x == ("__debug__" : Str)) = false := by decide) (he : starEach (e :: es) X.env = (false, eval e X.env) :: starEach es X.env := by rfl) (hpl : (backTo pos (starEach es X.env)).any (·.1) = false := by rfl) :
    PE X (.Call (.Name x p) (e :: es) [] pos) (pE G W (callE fn l)) := PEm (pe_callG F hr hg hm hk hb .nil tk ha hgl hdb he hpl) fun _ _ _ h => callE_ok hl h
/-- .. that changes the list of a slot -/
def callM (i : Nat) (fn : List D → List D → FrM) (l : Ev → Rs (List D)) : Ev → Rs D := fun ρ => match ρ[i]? with
  | some (.own _) => (l ρ).bind fun ds ρ1 => (match ρ1[i]? with
    | some (.own xs) => (match fn xs ds with
      | .ok d xs' => .ok d (ρ1.set i (.own xs'))
      | .exc c fs xs' => .exc c fs (ρ1.set i (.own xs'))
      | .stuck => .stuck)
    | _ => .stuck)
  | _ => .stuck
theorem e_callM {i : Nat} {x y : Str} {p p1 : Pos} {es : List Expr} {fn : List D → List D → FrM} {n : Nat} {l : Ev → Rs (List D)} (F : FnG X.prog X.w X.K X.mg X.base k f fd ps (spM G.K G.C (n + 1) fn)) (hr : Room k X.A) (hg : X.A.guards = some []) (hm : X.mg x = some (.ref f)) (hk : PySem.W.keepIn X.K (.ref f) = true) (hb : Binds X.K fd ps []) (tk : Takes X W)
    (ha : PA X es (pA G W l)) (hl : ∀ {ρ ds ρ1}, l ρ = .ok ds ρ1 → ds.length = n) (hN : X.N[i]? = some y := by rfl) (hv : Vis X.env.scope y := by first | exact Or.inl rfl | exact Or.inr (Or.inl rfl) | exact Or.inr (Or.inr rfl)) (hd : (y == ("__debug__" : Str)) = false := by decide) (hcd : (y == ("__classdict__" : Str)) = false := by decide)
    (hgl : Gl X x := by rfl) (hdb : (x == ("__debug__" : Str)) = false := by decide) (he : starEach (.Name y p1 :: es) X.env = (false, eval (.Name y p1) X.env) :: starEach es X.env := by rfl) (hpl : (backTo pos (starEach es X.env)).any (·.1) = false := by rfl) :
    PE X (.Call (.Name x p) (.Name y p1 :: es) [] pos) (pE G W (callM i fn l)) := PEm (pe_callG F hr hg hm hk hb .nil tk (pa_cons (pe_var hN hv hd hcd) ha he) hgl hdb he hpl) fun σ H Q ⟨S, ρ, R, q⟩ => by
  unfold callM at q
  obtain ⟨xs0, e1, q⟩ := own_inv (α := D) (P := Po G W S σ _) Po.not q
  obtain ⟨a, vs0, e3, n0, hh0, r0, ow0⟩ := R.at_own e1
  refine ⟨_, e3, S, ρ, R, ?_⟩
  have q := Po.bind q
  cases el : l ρ with
  | stuck => rw [el] at q; exact q
  | exc c fs ρ1 => rw [el] at q; exact q
  | ok ds ρ1 =>
    rw [el] at q
    intro S1 H1 s1 R1 us r
    have q := q S1 H1 s1 R1
    dsimp only at q
    obtain ⟨xs, e4, q⟩ := own_inv (α := D) (P := Po G W S1 σ _) Po.not q
    obtain ⟨a2, ws, e5, n2, hh2, r2, ow2⟩ := R1.at_own e4
    rw [e3] at e5; cases e5
    refine ⟨S1, a, xs, ws, ds, us, by rw [List.append_nil], R1.sub, n2, hh2, r2, r, by rw [hl el], ?_⟩
    cases ef : fn xs ds with
    | ok d xs' => rw [ef] at q; exact fun v S' H' ws' g n' hh' rx rv => q S' H' g.sS (R1.growM e4 e3 g hh' rx) v rv
    | exc c fs xs' => rw [ef] at q; exact fun S' H' d ws' g n' hh' rx xo => q S' H' d g.sS (R1.growM e4 e3 g hh' rx) (xo.up R1)
    | stuck => rw [ef] at q; exact q
end
end PL
namespace PL
open PySem L2
/-! ### what makes new lists -/
def FU (G : GC) (r : V → Hp → VK → Prop) (o : D → Option (List D)) : Prop := ∀ S H x d ds Q, Same S H → BRp G S H d x → o d = some ds → (∀ a vs, H a = none → Rps G.K G.C S ds vs → Q (.ref a) (upd H a (.lst vs))) → r x H Q
def FB (G : GC) (r : R2) (o : D → D → Option (List D)) : Prop := ∀ S H x y d1 d2 ds Q, Same S H → BRp G S H d1 x → BRp G S H d2 y → o d1 d2 = some ds → (∀ a vs, H a = none → Rps G.K G.C S ds vs → Q (.ref a) (upd H a (.lst vs))) → r x y H Q
section
variable {X : Cx} {G : GC} {W : Wx} {pos : Pos}
theorem FU.sp {r : V → Hp → VK → Prop} {o : D → Option (List D)} (h : FU G r o) : USpec G r (fun d => (o d).map .lst) := fun S H x d d' Q s b e k => by
  simp only [Option.map_eq_some_iff] at e
  obtain ⟨ds, e, rfl⟩ := e
  refine h S H x d ds Q s b e fun a vs hn r => k _ _ _ (Grow.new s _ hn) ⟨a, vs, rfl, upd_same, Rps.mono (Grow.new s _ hn).sS _ _ r⟩
theorem FB.sp {r : R2} {o : D → D → Option (List D)} (h : FB G r o) : BSpec G r (fun a b => (o a b).map .lst) := fun S H x y d1 d2 d' Q s b1 b2 e k => by
  simp only [Option.map_eq_some_iff] at e
  obtain ⟨ds, e, rfl⟩ := e
  refine h S H x y d1 d2 ds Q s b1 b2 e fun a vs hn r => k _ _ _ (Grow.new s _ hn) ⟨a, vs, rfl, upd_same, Rps.mono (Grow.new s _ hn).sS _ _ r⟩
def f1 (o : D → Option (List D)) (k : Ev → Rs D) : Ev → Rs (List D) := fun ρ => (k ρ).bind fun d ρ1 => Rs.opt (o d) ρ1
def f2 (o : D → D → Option (List D)) (k l : Ev → Rs D) : Ev → Rs (List D) := fun ρ => (k ρ).bind fun a ρ1 => (l ρ1).bind fun b ρ2 => Rs.opt (o a b) ρ2
def f1q (o : D → Option (List D)) (f : Ev → Option D) : Ev → Rs (List D) := fun ρ => Rs.opt ((f ρ).bind o) ρ
theorem opt_inv {α : Type} {P : Rs α → Prop} {o : Option α} {ρ : Ev} (hs : P .stuck → False) (h : P (Rs.opt o ρ)) : ∃ a, o = some a ∧ P (.ok a ρ) := by
  cases o with
  | some a => exact ⟨a, rfl, h⟩
  | none => exact (hs h).elim
theorem f1_ok {r : V → Hp → VK → Prop} {o : D → Option (List D)} (sp : FU G r o) {k : Ev → Rs D} {σ : St} {H : Hp} {Q : VK} (h : pF G W (f1 o k) σ H Q) : pE G W k σ H fun x H1 => r x H1 Q := by
  obtain ⟨S, ρ, R, q⟩ := h
  refine ⟨S, ρ, R, Po.mono (Po.bind q) fun d ρ1 S1 H1 s1 R1 q v rv => ?_⟩
  obtain ⟨ds, e, q2⟩ := opt_inv (P := Po G W S1 σ _) Po.not q
  refine sp S1 H1 v d ds Q R1.sub (.inl rv) e fun a vs hn r => ?_
  obtain ⟨h0, h1, h2⟩ := R1.new0 hn
  exact q2 S1 _ (Same.refl _) (R1.grow (Grow.loose R1.sub _ hn)) a vs h0 h1 h2 upd_same r
theorem f1q_ok {r : V → Hp → VK → Prop} {o : D → Option (List D)} (sp : FU G r o) {f : Ev → Option D} {σ : St} {H : Hp} {Q : VK} (h : pF G W (f1q o f) σ H Q) : pB G f σ H fun x H1 => r x H1 Q := by
  obtain ⟨S, ρ, R, q⟩ := h
  refine ⟨S, ρ, R, ?_⟩
  obtain ⟨ds, e, q2⟩ := opt_inv (P := Po G W S σ _) Po.not q
  cases ef : f ρ with
  | none => rw [ef] at e; cases e
  | some d =>
    rw [ef, Option.bind_some] at e
    intro v S1 H1 g b
    have R1 := R.grow g
    refine sp S1 H1 v d ds Q g.sub b e fun a vs hn r => ?_
    obtain ⟨h0, h1, h2⟩ := R1.new0 hn
    exact q2 S1 _ g.sS (R1.grow (Grow.loose R1.sub _ hn)) a vs h0 h1 h2 upd_same r
theorem f2_ok {r : R2} {o : D → D → Option (List D)} (sp : FB G r o) {k l : Ev → Rs D} {σ : St} {H : Hp} {Q : VK} (h : pF G W (f2 o k l) σ H Q) : pE G W k σ H fun x H1 => pE G W l σ H1 fun y H2 => r x y H2 Q := by
  obtain ⟨S, ρ, R, q⟩ := h
  refine ⟨S, ρ, R, Po.mono (Po.bind q) fun d ρ1 S1 H1 s1 R1 q v rv => ⟨S1, ρ1, R1, Po.mono (Po.bind q) fun d2 ρ2 S2 H2 s2 R2 q v2 rv2 => ?_⟩⟩
  obtain ⟨ds, e, q2⟩ := opt_inv (P := Po G W S2 σ _) Po.not q
  refine sp S2 H2 v v2 d d2 ds Q R2.sub (.inl (Rp.mono s2 _ _ rv)) (.inl rv2) e fun a vs hn r => ?_
  obtain ⟨h0, h1, h2⟩ := R2.new0 hn
  exact q2 S2 _ (Same.refl _) (R2.grow (Grow.loose R2.sub _ hn)) a vs h0 h1 h2 upd_same r
section
variable {a b : Expr} {k l : Ev → Rs D} {f : Ev → Option D} {o : D → Option (List D)} {o2 : D → D → Option (List D)}
theorem f_op {op : Operator} {r : R2} (ho : OpR X (binaryOp op) r) (sp : FB G r o2) (ha : PE X a (pE G W k)) (hb : PE X b (pE G W l)) : PE X (.BinOp a op b pos) (pF G W (f2 o2 k l)) := PEm (pe_op ho ha hb) fun _ _ _ h => f2_ok sp h
theorem f_b1 {c : List V → Hp → VK → Prop} {x : Str} {id : String} {p : Pos} (hc : CallR X (.builtin id) c) (sp : FU G (fun v H Q => c [v] H Q) o) (ha : PE X a (pE G W k)) (hm : X.mg x = none) (hv : bootBuiltins x = some (.builtin id) := by decide +kernel) (hg : Gl X x := by rfl)
    (hn : x ≠ "__name__" := by decide) (hdb : (x == ("__debug__" : Str)) = false := by decide) (he : starEach (a :: []) X.env = (false, eval a X.env) :: starEach [] X.env := by rfl) (hpl : (backTo pos (starEach [] X.env)).any (·.1) = false := by rfl) :
    PE X (.Call (.Name x p) [a] [] pos) (pF G W (f1 o k)) := PEm (pe_callB hc hg hm hv (pa_cons ha pa_nil he) hn hdb he hpl) fun _ _ _ h => f1_ok sp h
theorem f_t1 {c : List V → Hp → VK → Prop} {x : Str} {T : String} {p : Pos} (hc : CallR X (.type T) c) (sp : FU G (fun v H Q => c [v] H Q) o) (ha : PE X a (pE G W k)) (hm : X.mg x = none) (hv : bootBuiltins x = some (.type T) := by decide +kernel) (hg : Gl X x := by rfl)
    (hn : x ≠ "__name__" := by decide) (hdb : (x == ("__debug__" : Str)) = false := by decide) (he : starEach (a :: []) X.env = (false, eval a X.env) :: starEach [] X.env := by rfl) (hpl : (backTo pos (starEach [] X.env)).any (·.1) = false := by rfl) :
    PE X (.Call (.Name x p) [a] [] pos) (pF G W (f1 o k)) := PEm (pe_callTy hc hg hm hv (pa_cons ha pa_nil he) hn hdb he hpl) fun _ _ _ h => f1_ok sp h
theorem f_t1q {c : List V → Hp → VK → Prop} {x : Str} {T : String} {p : Pos} (hc : CallR X (.type T) c) (sp : FU G (fun v H Q => c [v] H Q) o) (ha : PE X a (pB G f)) (hm : X.mg x = none) (hv : bootBuiltins x = some (.type T) := by decide +kernel) (hg : Gl X x := by rfl)
    (hn : x ≠ "__name__" := by decide) (hdb : (x == ("__debug__" : Str)) = false := by decide) (he : starEach (a :: []) X.env = (false, eval a X.env) :: starEach [] X.env := by rfl) (hpl : (backTo pos (starEach [] X.env)).any (·.1) = false := by rfl) :
    PE X (.Call (.Name x p) [a] [] pos) (pF G W (f1q o f)) := PEm (pe_callTy hc hg hm hv (pa_cons ha pa_nil he) hn hdb he hpl) fun _ _ _ h => f1q_ok sp h
end
/-! ### list(x), sorted(x), x + y, x * n -/
def oList : D → Option (List D) := seqOf
theorem sp_list : FU G (fun v H Q => ∃ p ys, [v] = [.ref p] ∧ (SqL G.K H p ys ∨ SqT G.K H p ys) ∧ ∀ l, H l = none → Q (.ref l) (upd H l (.lst ys))) oList := fun S H x d ds Q s b e k => by
  obtain ⟨a, vs, rfl, q, r⟩ := b.seq s e
  exact ⟨a, vs, rfl, q, fun l hl => k l vs hl r⟩
def insI (x : Int) : List Int → List Int
  | [] => [x]
  | y :: ys => if x ≤ y then x :: y :: ys else y :: insI x ys
def sortI : List Int → List Int
  | [] => []
  | x :: xs => insI x (sortI xs)
theorem insI_perm (x : Int) : ∀ l : List Int, (insI x l).Perm (x :: l)
  | [] => .refl _
  | y :: ys => by
    unfold insI
    split
    · exact .refl _
    · exact ((insI_perm x ys).cons y).trans (.swap x y ys)
theorem sortI_perm : ∀ l : List Int, (sortI l).Perm l
  | [] => .refl _
  | x :: xs => (insI_perm x _).trans ((sortI_perm xs).cons x)
theorem insI_sorted (x : Int) : ∀ l : List Int, l.Pairwise (· ≤ ·) → (insI x l).Pairwise (· ≤ ·)
  | [], _ => by simp [insI]
  | y :: ys, h => by
    rw [List.pairwise_cons] at h
    unfold insI
    split
    · rename_i c
      rw [List.pairwise_cons, List.pairwise_cons]
      refine ⟨fun z hz => ?_, h⟩
      rcases List.mem_cons.mp hz with e | hz
      · rw [e]; exact c
      · exact Int.le_trans c (h.1 z hz)
    · rename_i c
      rw [List.pairwise_cons]
      refine ⟨fun z hz => ?_, insI_sorted x ys h.2⟩
      have hz := (insI_perm x ys).mem_iff.mp hz
      rcases List.mem_cons.mp hz with e | hz
      · rw [e]; omega
      · exact h.1 z hz
theorem sortI_sorted : ∀ l : List Int, (sortI l).Pairwise (· ≤ ·)
  | [] => .nil
  | x :: xs => insI_sorted x _ (sortI_sorted xs)
theorem sort_one : ∀ {l m : List Int}, l.Perm m → l.Pairwise (· ≤ ·) → m.Pairwise (· ≤ ·) → l = m
  | [], m, p, _, _ => (List.Perm.nil_eq p)
  | x :: xs, m, p, h, h' => by
    cases m with
    | nil => exact absurd p.length_eq (by simp)
    | cons y ys =>
      rw [List.pairwise_cons] at h h'
      have hx : x = y := by
        have m1 : x ∈ y :: ys := p.mem_iff.mp List.mem_cons_self
        have m2 : y ∈ x :: xs := p.mem_iff.mpr List.mem_cons_self
        have l1 : y ≤ x := by
          rcases List.mem_cons.mp m1 with e | e
          · omega
          · exact h'.1 _ e
        have l2 : x ≤ y := by
          rcases List.mem_cons.mp m2 with e | e
          · omega
          · exact h.1 _ e
        omega
      subst hx
      rw [sort_one (List.Perm.cons_inv p) h.2 h'.2]
def oSorted : D → Option (List D)
  | .lst xs => (intsOf xs).map fun ns => (sortI ns).map .int
  | _ => none
theorem sp_sorted : FU G (fun v H Q => rSortedI G.K [v] H Q) oSorted := fun S H x d ds Q s b e k => by
  cases d with
  | lst xs =>
    simp only [oSorted, Option.map_eq_some_iff] at e
    obtain ⟨ns, e, rfl⟩ := e
    obtain ⟨a, rfl, q⟩ := b.ints s e
    refine ⟨a, ns, rfl, q, fun ns' p h1 h2 hp => ?_⟩
    rw [sort_one (h1.trans (sortI_perm ns).symm) h2 (sortI_sorted ns)]
    exact k p _ hp (Rps.of_ints _)
  | _ => cases e
def oCat : D → D → Option (List D)
  | .lst xs, .lst ys => if xs.length + ys.length ≤ sizeLine then some (xs ++ ys) else none
  | _, _ => none
theorem oCat_some {a b : D} {ds : List D} (e : oCat a b = some ds) : ∃ xs ys, a = .lst xs ∧ b = .lst ys ∧ xs.length + ys.length ≤ sizeLine ∧ ds = xs ++ ys := by
  unfold oCat at e
  split at e
  · rename_i xs ys
    by_cases c : xs.length + ys.length ≤ sizeLine
    · rw [if_pos c] at e; cases e; exact ⟨xs, ys, rfl, rfl, c, rfl⟩
    · rw [if_neg c] at e; cases e
  · cases e
theorem sp_cat : FB G rCat oCat := fun S H x y d1 d2 ds Q s b1 b2 e k => by
  obtain ⟨xs, ys, rfl, rfl, hl, rfl⟩ := oCat_some e
  obtain ⟨a, vs, rfl, q, r⟩ := b1.lst s
  obtain ⟨b, ws, rfl, q2, r2⟩ := b2.lst s
  exact ⟨a, b, vs, ws, rfl, rfl, q, q2, by rw [← r.length, ← r2.length]; exact hl, fun p hp => k p _ hp (r.append r2)⟩
theorem Rps.rep {K : PySem.W.Frag} {C : CT} {S : Hp} {xs : List D} {vs : List V} (r : Rps K C S xs vs) : ∀ n : Nat, Rps K C S (List.replicate n xs).flatten (List.replicate n vs).flatten
  | 0 => rfl
  | n + 1 => by
    rw [List.replicate_succ, List.replicate_succ, List.flatten_cons, List.flatten_cons]
    exact r.append (Rps.rep r n)
def oRep : D → D → Option (List D)
  | .lst xs, .int n => if -(2 ^ 63) ≤ n ∧ n < 2 ^ 63 ∧ xs.length * n.toNat ≤ sizeLine then some (List.replicate n.toNat xs).flatten else none
  | _, _ => none
theorem sp_rep : FB G rRep oRep := fun S H x y d1 d2 ds Q s b1 b2 e k => by
  unfold oRep at e
  split at e
  · rename_i xs n
    by_cases c : -(2 ^ 63) ≤ n ∧ n < 2 ^ 63 ∧ xs.length * n.toNat ≤ sizeLine
    · rw [if_pos c] at e
      cases e
      obtain ⟨a, vs, rfl, q, r⟩ := b1.lst s
      exact ⟨a, n, vs, rfl, b2.int, q, c.1, c.2.1, by rw [← r.length]; exact c.2.2, fun p hp => k p _ hp (Rps.rep r _)⟩
    · rw [if_neg c] at e; cases e
  · cases e
def oAddS : D → D → Option D
  | .str a, .str b => if a.length + b.length ≤ sizeLine then some (.str (a ++ b)) else none
  | _, _ => none
theorem sp_addS : BSpec G (fun x y H Q => ∃ i j, x = .str i ∧ y = .str j ∧ i.length + j.length ≤ sizeLine ∧ Q (.str (i ++ j)) H) oAddS := fun S H x y d1 d2 d' Q s b1 b2 e k => by
  unfold oAddS at e
  split at e
  · rename_i u v
    by_cases c : u.length + v.length ≤ sizeLine
    · rw [if_pos c] at e
      cases e
      exact ⟨u, v, b1.str, b2.str, c, k _ S H (Grow.refl s) rfl⟩
    · rw [if_neg c] at e; cases e
  · cases e
/-- + of numbers, texts, lists -/
def oPlus : D → D → Option D := orE oAdd (orE oAddS fun a b => (oCat a b).map .lst)
theorem op_plus : OpR X (binaryOp .Add) (fun x y H Q => rI0 (fun i j => .int (i + j)) x y H Q ∨ ((∃ i j, x = .str i ∧ y = .str j ∧ i.length + j.length ≤ sizeLine ∧ Q (.str (i ++ j)) H) ∨ rCat x y H Q)) := op_add.or (op_add_str.or op_cat)
theorem sp_plus : BSpec G (fun x y H Q => rI0 (fun i j => .int (i + j)) x y H Q ∨ ((∃ i j, x = .str i ∧ y = .str j ∧ i.length + j.length ≤ sizeLine ∧ Q (.str (i ++ j)) H) ∨ rCat x y H Q)) oPlus := sp_add.or (sp_addS.or (FB.sp sp_cat))
/-- * of numbers, lists by numbers -/
def oTimes : D → D → Option D := orE oMul fun a b => (oRep a b).map .lst
theorem op_times : OpR X (binaryOp .Mult) (fun x y H Q => rI CMulB (fun i j => .int (i * j)) x y H Q ∨ rRep x y H Q) := op_mulB.or op_rep
theorem sp_times : BSpec G (fun x y H Q => rI CMulB (fun i j => .int (i * j)) x y H Q ∨ rRep x y H Q) oTimes := sp_mul.or (FB.sp sp_rep)
/-! ### slices of lists -/
def pO (G : GC) (W : Wx) (k : Ev → Rs (Option Int)) : TO := fun σ H Q => ∃ S ρ, Rel G S H σ ρ ∧ Po G W S σ (fun S' o H' ρ' => Q o H') (k ρ)
theorem POm {e : Option Expr} {t t' : TO} (h : PO X e t) (i : ∀ σ H Q, t' σ H Q → t σ H Q) : PO X e t' := ⟨fun pins s σ H Q I k => h.run pins s σ H Q I (i σ H Q k)⟩
def noO : Ev → Rs (Option Int) := fun ρ => .ok none ρ
def asO (k : Ev → Rs D) : Ev → Rs (Option Int) := fun ρ => (k ρ).bind fun d ρ1 => match d with
  | .int i => .ok (some i) ρ1
  | _ => .stuck
theorem o_none : PO X none (pO G W noO) := POm po_none fun σ H Q ⟨S, ρ, R, q⟩ => q S H (Same.refl _) R
theorem o_some {e : Expr} {k : Ev → Rs D} (h : PE X e (pE G W k)) : PO X (some e) (pO G W (asO k)) := POm (po_some h) fun σ H Q ⟨S, ρ, R, q⟩ => ⟨S, ρ, R, Po.mono (Po.bind q) fun d ρ1 S1 H1 s1 R1 q v r => by
  cases d with
  | int i => cases r; exact ⟨i, rfl, q S1 H1 (Same.refl _) R1⟩
  | _ => exact q.elim⟩
def cutD (xs : List D) (lo hi : Option Int) : List D := (xs.drop (HT.sIx xs.length 0 lo)).take (HT.sIx xs.length xs.length hi - HT.sIx xs.length 0 lo)
def listOf : D → Option (List D)
  | .lst xs => some xs
  | .scr ns => some (ns.map .int)
  | _ => none
def slF (k : Ev → Rs D) (l u : Ev → Rs (Option Int)) : Ev → Rs (List D) := fun ρ => (k ρ).bind fun d ρ1 => (l ρ1).bind fun lo ρ2 => (u ρ2).bind fun hi ρ3 => match listOf d with
  | some xs => .ok (cutD xs lo hi) ρ3
  | none => .stuck
theorem Rps.cut {K : PySem.W.Frag} {C : CT} {S : Hp} {xs : List D} {vs : List V} (r : Rps K C S xs vs) (lo hi : Option Int) : Rps K C S (cutD xs lo hi) (cutV vs lo hi) := by
  unfold cutD cutV
  rw [r.length]
  exact (r.drop _).take _
theorem Rp.listOf {K : PySem.W.Frag} {C : CT} {S : Hp} {d : D} {v : V} {xs : List D} (r : Rp K C S d v) (e : PL.listOf d = some xs) : ∃ a vs, v = .ref a ∧ SqL K S a vs ∧ Rps K C S xs vs := by
  cases d with
  | lst ys => cases e; obtain ⟨a, vs, e, q, r⟩ := r; exact ⟨a, vs, e, .inl (.inl q), r⟩
  | scr ns => cases e; obtain ⟨a, e, q⟩ := r; exact ⟨a, _, e, q, Rps.of_ints ns⟩
  | _ => cases e
theorem f_sl {e : Expr} {k : Ev → Rs D} {lo hi : Option Expr} {l u : Ev → Rs (Option Int)} {p2 : Pos} (hK : X.K = G.K) (he : PE X e (pE G W k)) (hl : PO X lo (pO G W l)) (hu : PO X hi (pO G W u)) : PE X (.Subscript e (.Slice lo hi none p2) pos) (pF G W (slF k l u)) :=
  PEm (pe_slice sl_list he hl hu) fun σ H Q ⟨S, ρ, R, q⟩ => ⟨S, ρ, R, Po.mono (Po.bind q) fun d ρ1 S1 H1 s1 R1 q v r => ⟨S1, ρ1, R1, Po.mono (Po.bind q) fun lo ρ2 S2 H2 s2 R2 q => ⟨S2, ρ2, R2, Po.mono (Po.bind q) fun hi ρ3 S3 H3 s3 R3 q => by
    cases ed : listOf d with
    | none => rw [ed] at q; exact q.elim
    | some xs =>
      rw [ed] at q
      obtain ⟨a, vs, e1, hs, r2⟩ := Rp.listOf (Rp.mono (s2.trans s3) _ _ r) ed
      refine ⟨a, vs, e1, by rw [hK]; exact SqL.mono R3.sub hs, fun p hp => ?_⟩
      obtain ⟨h0, h1, h2⟩ := R3.new0 hp
      exact q S3 _ (Same.refl _) (R3.grow (Grow.loose R3.sub _ hp)) p _ h0 h1 h2 upd_same (r2.cut lo hi)⟩⟩⟩
/-! ### enumerate(list) -/
def enumL : Nat → List D → List D
  | _, [] => []
  | n, d :: ds => .tup [.int n, d] :: enumL (n + 1) ds
theorem enumL_get : ∀ (ds : List D) (n i : Nat), (enumL n ds)[i]? = ds[i]?.map fun d => .tup [.int ((n + i : Nat) : Int), d]
  | [], _, _ => by simp [enumL]
  | d :: ds, n, 0 => by simp [enumL]
  | d :: ds, n, i + 1 => by
    have e : n + (i + 1) = n + 1 + i := by omega
    simp [enumL, enumL_get ds (n + 1) i, e]
theorem enumL_len : ∀ (ds : List D) (n : Nat), (enumL n ds).length = ds.length
  | [], _ => rfl
  | d :: ds, n => by simp [enumL, enumL_len ds (n + 1)]
theorem feeds_enum {S0 : Hp} {a : Addr} {vs : List V} {ds : List D} {K : PySem.W.Frag} (hK : K = G.K) (h : SqL K S0 a vs) (r : Rps G.K G.C S0 ds vs) : Feeds G S0 (Ite K a) (enumL 0 ds) := by
  refine ⟨fun i S H s1 s2 hi => ?_, fun S H s1 s2 => ⟨vs, SqL.mono (s1.trans s2) h, by rw [enumL_len, ← r.length]; exact Nat.le_refl _⟩⟩
  rw [enumL_len] at hi
  have hs := SqL.mono (s1.trans s2) h
  have hd : ds[i]? = some ds[i] := List.getElem?_eq_getElem hi
  obtain ⟨v, ev, rv⟩ := Rps.get _ _ _ _ r hd
  refine ⟨⟨vs, v, hs, ev⟩, fun x H' y => ?_⟩
  obtain ⟨T, x', rfl, hT, rfl, y⟩ := y
  have ex := y vs hs
  rw [ev] at ex; cases ex
  have g := Grow.new s2 (.tup [.int (i : Nat), v]) hT
  refine ⟨_, D.tup [.int ((0 + i : Nat) : Int), ds[i]], g, by rw [enumL_get, hd]; rfl, ⟨T, _, rfl, .inl (.inl upd_same), ?_⟩⟩
  refine .cons ?_ (.cons (Rp.mono (s1.trans g.sS) _ _ rv) .nil)
  show V.int _ = V.int _
  rw [Nat.zero_add]
def enumE (k : Ev → Rs (List D)) : Ev → Rs (List D) := fun ρ => (k ρ).bind fun ds ρ1 => match ds with
  | [d] => Rs.opt ((listOf d).map (enumL 0)) ρ1
  | _ => .stuck
theorem enum_inv {P : Rs (List D) → Prop} {ds : List D} {ρ : Ev} (hs : P .stuck → False) (h : P (match ds with
    | [d] => Rs.opt ((listOf d).map (enumL 0)) ρ
    | _ => .stuck)) : ∃ d xs, ds = [d] ∧ listOf d = some xs ∧ P (.ok (enumL 0 xs) ρ) := by
  split at h
  · rename_i d
    cases e : listOf d with
    | none => rw [e] at h; exact (hs h).elim
    | some xs => rw [e] at h; exact ⟨d, xs, rfl, e, h⟩
  · exact (hs h).elim
theorem i_enum {e : Expr} {k : Ev → Rs (List D)} {p tpos : Pos} {elts : List Expr} {kk : Nat} (hK : X.K = G.K) (ha : PA X [e] (pA G W k)) (hm : X.mg "enumerate" = none) (hg : Gl X "enumerate" := by rfl) (hs : starEach [e] X.env = [(false, eval e X.env)] := by rfl) :
    PI X (.Tuple elts kk tpos) (.Call (.Name "enumerate" p) [e] [] pos) (pI G W (enumE k)) := PIm (pi_enum hg hm ha hs) fun σ H R ⟨S, ρ, Re, q⟩ => ⟨S, ρ, Re, Po.mono (Po.bind q) fun ds ρ1 S1 H1 s1 R1 q vs r => by
    obtain ⟨d, xs, e1, e2, q2⟩ := enum_inv (P := Po G W S1 σ fun S' ds H' ρ' => ∀ J, Feeds G S' J ds → R J H') Po.not q
    subst e1
    obtain ⟨v, ev, rv⟩ := rps1 r
    obtain ⟨a, ws, rfl, hs, r2⟩ := Rp.listOf rv e2
    rw [← hK] at hs
    exact ⟨a, ws, ev, SqL.mono R1.sub hs, q2 S1 H1 (Same.refl _) R1 _ (feeds_enum hK hs r2)⟩⟩
/-! ### a pair of names -/
def parF (i j : Nat) (k : Ev → Rs (List D)) : Ev → Fl := fun ρ => (k ρ).fl fun ds ρ1 => match ds with
  | [a, b] => (put i (.val a) ρ1).seq (put j (.val b))
  | _ => .stuck
theorem Fo.put2 {S H : Hp} {σ : St} {ρ : Ev} {E : Ends} {i : Nat} {sl : Sl} {k : Ev → Fl} (R : Rel G S H σ ρ) (q : Fo G W S E ((put i sl ρ).seq k)) : i < ρ.length ∧ (i = 0 → G.m = none) ∧ Fo G W S E (k (ρ.set i sl)) := by
  have p : Fo G W S { nx := fun _ _ => True, rt := fun _ _ => True } (put i sl ρ) := by
    unfold put at q ⊢
    split
    · exact fun _ _ _ _ _ => trivial
    · rename_i c
      rw [if_neg c] at q
      exact q
  obtain ⟨h1, h2, _⟩ := put_ok R p
  refine ⟨h1, h2, ?_⟩
  unfold put at q
  split at q
  · exact q
  · exact q.elim
theorem s_par {i j : Nat} {x y : Str} {a b : Expr} {k : Ev → Rs (List D)} {px py pt : Pos} {kt k2 pt2} (hc : X.calm = true) (hN : X.N.Nodup) (hi : X.N[i]? = some x) (hj : X.N[j]? = some y) (hij : i ≠ j) (hx : X.env.scope.names.lookup x = some .local) (hy : X.env.scope.names.lookup y = some .local)
    (ha : PA X [a, b] (pA G W k)) (hw : swappedStores [.Tuple [.Name x px, .Name y py] kt pt] (.Tuple [a, b] k2 pt2) X.env = pure (some [x, y]) := by rfl)
    (hs : swapsWithSole [.Tuple [.Name x px, .Name y py] kt pt] (.Tuple [a, b] k2 pt2) pos.line X.env = pure false := by rfl) :
    PS X (.Assign [.Tuple [.Name x px, .Name y py] kt pt] (.Tuple [a, b] k2 pt2) pos) (pS G W (parF i j k)) := PSm (ps_par hc hN hi hj hij hx hy ha hw hs) fun E σ H ⟨S, ρ, R, q⟩ =>
  ⟨S, ρ, R, Po.mono (Po.fl (S := S) (σ := σ) q) fun ds ρ1 S1 H1 s1 R1 q vs r => by
    split at q
    · obtain ⟨v, w, rfl, rv, rw'⟩ := rps2 r
      obtain ⟨h1, h2, q⟩ := Fo.put2 R1 q
      have R2 := R1.setv h1 h2 rv
      obtain ⟨h3, h4, q⟩ := put_ok R2 q
      exact ⟨v, w, rfl, q _ _ _ (Same.refl _) (R2.setv h3 h4 rw')⟩
    · exact q.elim⟩
/-- x, y = a new list, [] -/
def parON (i j : Nat) (k : Ev → Rs (List D)) : Ev → Fl := fun ρ => (k ρ).fl fun ds ρ1 => (put i (.own ds) ρ1).seq (put j (.own []))
theorem s_parON {i j : Nat} {x y : Str} {a : Expr} {k : Ev → Rs (List D)} {px py pt pn : Pos} {kt k2 pt2} (hc : X.calm = true) (hN : X.N.Nodup) (hi : X.N[i]? = some x) (hj : X.N[j]? = some y) (hij : i ≠ j) (hx : X.env.scope.names.lookup x = some .local) (hy : X.env.scope.names.lookup y = some .local)
    (ha : PE X a (pF G W k)) (hst : starEach (a :: [.List [] pn]) X.env = (false, eval a X.env) :: starEach [.List [] pn] X.env := by rfl) (hst2 : starEach (.List [] pn :: []) X.env = (false, eval (.List [] pn) X.env) :: starEach [] X.env := by rfl) (hw : swappedStores [.Tuple [.Name x px, .Name y py] kt pt] (.Tuple [a, .List [] pn] k2 pt2) X.env = pure (some [x, y]) := by rfl)
    (hs : swapsWithSole [.Tuple [.Name x px, .Name y py] kt pt] (.Tuple [a, .List [] pn] k2 pt2) pos.line X.env = pure false := by rfl) :
    PS X (.Assign [.Tuple [.Name x px, .Name y py] kt pt] (.Tuple [a, .List [] pn] k2 pt2) pos) (pS G W (parON i j k)) := PSm (ps_par hc hN hi hj hij hx hy (pa_cons ha (pa_cons (pe_lst pa_nil) pa_nil hst2) hst) hw hs) fun E σ H ⟨S, ρ, R, q⟩ =>
  ⟨S, ρ, R, Po.mono (Po.fl (S := S) (σ := σ) q) fun ds ρ1 S1 H1 s1 R1 q a vs h0 nS nO hh r => by
    refine ⟨Nat.zero_le _, fun p hp => ⟨.ref a, .ref p, rfl, ?_⟩⟩
    obtain ⟨h1, h2, q⟩ := Fo.put2 R1 q
    have R2 := R1.seto h1 h2 h0 nS nO hh r
    obtain ⟨p0, p1, p2⟩ := R2.new0 hp
    have R3 := R2.grow (Grow.loose R2.sub (.lst []) hp)
    obtain ⟨h3, h4, q⟩ := put_ok R3 q
    exact q _ _ _ (Same.refl _) (R3.seto h3 h4 p0 p1 p2 upd_same rfl)⟩
/-! ### the module's constants -/
theorem q_glob {x : Str} {u : Value} {d : D} {v : V} (hm : X.mg x = some u) (rv : RelV v u) (hd : fl? v = some d) (hg : Gl X x := by rfl) (hdb : (x == ("__debug__" : Str)) = false := by decide) : PE X (.Name x pos) (pQ G (ct d)) := PEm (pe_glob hg hm rv hdb) fun σ H Q ⟨S, ρ, R, q⟩ => q v S H (Grow.refl R.sub) (fl_rp hd)
end
end PL
namespace PL
open PySem L2
def sq (f g : Ev → Fl) : Ev → Fl := fun ρ => (f ρ).seq g
/-- a def of the module, as its callers see it -/
structure Def (P : Program) (w : World) (K : PySem.W.Frag) (mg : Str → Option Value) (base : Heap) (x : Str) (k : Nat) (ps : List Str) (sp : Sp) : Prop where
  ex : ∃ f fd, mg x = some (.ref f) ∧ PySem.W.keepIn K (.ref f) = true ∧ Binds K fd ps [] ∧ FnG P w K mg base k f fd ps sp
theorem Def.mk' {P : Program} {w : World} {K : PySem.W.Frag} {mg : Str → Option Value} {base : Heap} {x x2 qual : Str} {params : Arguments} {body : List Stmt} {scope : Scope} {dvs : List V} {kws : List (Str × V)} {f : Addr} {fd : FuncData} {k : Nat} {ps : List Str} {sp : Sp}
    (F : FunD K x2 qual params body scope dvs kws f fd) (gm : mg x = some (.ref f)) (b : Binds K fd ps []) (h : FnG P w K mg base k f fd ps sp) : Def P w K mg base x k ps sp := ⟨f, fd, gm, F.kp, b, h⟩
end PL
namespace PL
open PySem L2
section
variable {X : Cx} {G : GC} {W : Wx} {pos : Pos} {k : Nat} {ps : List Str}
theorem e_callD {x : Str} {p : Pos} {e : Expr} {es : List Expr} {fn : List D → Fr} {n : Nat} {l : Ev → Rs (List D)} (F : Def X.prog X.w X.K X.mg X.base x k ps (spP G.K G.C n fn)) (hr : Room k X.A) (hg : X.A.guards = some []) (tk : Takes X W)
    (ha : PA X (e :: es) (pA G W l)) (hl : ∀ {ρ ds ρ1}, l ρ = .ok ds ρ1 → ds.length = n) (hgl : Gl X x := by rfl) (hdb : (x == ("__debug__" : Str)) = false := by decide) (he : starEach (e :: es) X.env = (false, eval e X.env) :: starEach es X.env := by rfl) (hpl : (backTo pos (starEach es X.env)).any (·.1) = false := by rfl) :
    PE X (.Call (.Name x p) (e :: es) [] pos) (pE G W (callE fn l)) := by
  obtain ⟨f, fd, hm, hk, hb, h⟩ := F.ex
  exact e_call h hr hg hm hk hb tk ha hl hgl hdb he hpl
theorem e_callMD {i : Nat} {x y : Str} {p p1 : Pos} {es : List Expr} {fn : List D → List D → FrM} {n : Nat} {l : Ev → Rs (List D)} (F : Def X.prog X.w X.K X.mg X.base x k ps (spM G.K G.C (n + 1) fn)) (hr : Room k X.A) (hg : X.A.guards = some []) (tk : Takes X W)
    (ha : PA X es (pA G W l)) (hl : ∀ {ρ ds ρ1}, l ρ = .ok ds ρ1 → ds.length = n) (hN : X.N[i]? = some y := by rfl) (hv : Vis X.env.scope y := by first | exact Or.inl rfl | exact Or.inr (Or.inl rfl) | exact Or.inr (Or.inr rfl)) (hd : (y == ("__debug__" : Str)) = false := by decide) (hcd : (y == ("__classdict__" : Str)) = false := by decide)
    (hgl : Gl X x := by rfl) (hdb : (x == ("__debug__" : Str)) = false := by decide) (he : starEach (.Name y p1 :: es) X.env = (false, eval (.Name y p1) X.env) :: starEach es X.env := by rfl) (hpl : (backTo pos (starEach es X.env)).any (·.1) = false := by rfl) :
    PE X (.Call (.Name x p) (.Name y p1 :: es) [] pos) (pE G W (callM i fn l)) := by
  obtain ⟨f, fd, hm, hk, hb, h⟩ := F.ex
  exact e_callM h hr hg hm hk hb tk ha hl hN hv hd hcd hgl hdb he hpl
end
end PL
namespace PL
open PySem L2
section
variable {X : Cx} {G : GC} {W : Wx} {o : D → D → Option D} {o1 : D → Option D} {a b : Expr} {f g : Ev → Option D} {k l : Ev → Rs D} {pos : Pos}
/-! ### built-ins of two values -/
theorem q_b2 {c : List V → Hp → VK → Prop} {x : Str} {id : String} {p : Pos} (hc : CallR X (.builtin id) c) (sp : BSpec G (fun v w H Q => c [v, w] H Q) o) (ha : PE X a (pB G f)) (hb : PE X b (pB G g)) (hm : X.mg x = none) (hv : bootBuiltins x = some (.builtin id) := by decide +kernel) (hg : Gl X x := by rfl)
    (hn : x ≠ "__name__" := by decide) (hdb : (x == ("__debug__" : Str)) = false := by decide) (he : starEach (a :: [b]) X.env = (false, eval a X.env) :: starEach [b] X.env := by rfl) (he2 : starEach (b :: []) X.env = (false, eval b X.env) :: starEach [] X.env := by rfl) (hpl : (backTo pos (starEach [b] X.env)).any (·.1) = false := by rfl) :
    PE X (.Call (.Name x p) [a, b] [] pos) (pQ G (q2 o f g)) := PEm (pe_callB hc hg hm hv (pa_cons ha (pa_cons hb pa_nil he2) he) hn hdb he hpl) fun _ _ _ h => q2_ok sp h
theorem e_b2 {c : List V → Hp → VK → Prop} {x : Str} {id : String} {p : Pos} (hc : CallR X (.builtin id) c) (sp : BSpec G (fun v w H Q => c [v, w] H Q) o) (ha : PE X a (pE G W k)) (hb : PE X b (pE G W l)) (hm : X.mg x = none) (hv : bootBuiltins x = some (.builtin id) := by decide +kernel) (hg : Gl X x := by rfl)
    (hn : x ≠ "__name__" := by decide) (hdb : (x == ("__debug__" : Str)) = false := by decide) (he : starEach (a :: [b]) X.env = (false, eval a X.env) :: starEach [b] X.env := by rfl) (he2 : starEach (b :: []) X.env = (false, eval b X.env) :: starEach [] X.env := by rfl) (hpl : (backTo pos (starEach [b] X.env)).any (·.1) = false := by rfl) :
    PE X (.Call (.Name x p) [a, b] [] pos) (pE G W (e2 o k l)) := PEm (pe_callB hc hg hm hv (pa_cons ha (pa_cons hb pa_nil he2) he) hn hdb he hpl) fun _ _ _ h => e2_ok sp h
/-- .. of a module that is imported -/
theorem e_g2 {c : List V → Hp → VK → Prop} {x : Str} {id : String} {p : Pos} (hc : CallR X (.builtin id) c) (sp : BSpec G (fun v w H Q => c [v, w] H Q) o) (ha : PE X a (pE G W k)) (hb : PE X b (pE G W l)) (hm : X.mg x = some (.builtin id)) (hg : Gl X x := by rfl)
    (hdb : (x == ("__debug__" : Str)) = false := by decide) (he : starEach (a :: [b]) X.env = (false, eval a X.env) :: starEach [b] X.env := by rfl) (he2 : starEach (b :: []) X.env = (false, eval b X.env) :: starEach [] X.env := by rfl) (hpl : (backTo pos (starEach [b] X.env)).any (·.1) = false := by rfl) :
    PE X (.Call (.Name x p) [a, b] [] pos) (pE G W (e2 o k l)) := PEm (pe_callMB hc hg hm (pa_cons ha (pa_cons hb pa_nil he2) he) hdb he hpl) fun _ _ _ h => e2_ok sp h
theorem e_g1 {c : List V → Hp → VK → Prop} {x : Str} {id : String} {p : Pos} (hc : CallR X (.builtin id) c) (sp : USpec G (fun v H Q => c [v] H Q) o1) (ha : PE X a (pE G W k)) (hm : X.mg x = some (.builtin id)) (hg : Gl X x := by rfl)
    (hdb : (x == ("__debug__" : Str)) = false := by decide) (he : starEach (a :: []) X.env = (false, eval a X.env) :: starEach [] X.env := by rfl) (hpl : (backTo pos (starEach [] X.env)).any (·.1) = false := by rfl) :
    PE X (.Call (.Name x p) [a] [] pos) (pE G W (e1 o1 k)) := PEm (pe_callMB hc hg hm (pa_cons ha pa_nil he) hdb he hpl) fun _ _ _ h => e1_ok sp h
end
def oMax2 : D → D → Option D
  | .int i, .int j => some (.int (if j > i then j else i))
  | _, _ => none
theorem sp_max2 {G : GC} : BSpec G (fun v w H Q => ∃ i j, [v, w] = [.int i, .int j] ∧ Q (.int (if j > i then j else i)) H) oMax2 := by
  intro S H x y d1 d2 d' Q s b1 b2 e k
  cases d1 <;> cases d2 <;> cases e
  exact ⟨_, _, by rw [b1.int, b2.int], k _ S H (Grow.refl s) rfl⟩
def oMin2 : D → D → Option D
  | .int i, .int j => some (.int (if j < i then j else i))
  | _, _ => none
theorem sp_min2 {G : GC} : BSpec G (fun v w H Q => ∃ i j, [v, w] = [.int i, .int j] ∧ Q (.int (if j < i then j else i)) H) oMin2 := by
  intro S H x y d1 d2 d' Q s b1 b2 e k
  cases d1 <;> cases d2 <;> cases e
  exact ⟨_, _, by rw [b1.int, b2.int], k _ S H (Grow.refl s) rfl⟩
def oGcd : D → D → Option D
  | .int i, .int j => some (.int ((Nat.gcd i.natAbs j.natAbs : Nat) : Int))
  | _, _ => none
theorem sp_gcd {G : GC} : BSpec G (fun v w H Q => rGcd [v, w] H Q) oGcd := by
  intro S H x y d1 d2 d' Q s b1 b2 e k
  cases d1 <;> cases d2 <;> cases e
  exact ⟨_, _, by rw [b1.int, b2.int], k _ S H (Grow.refl s) rfl⟩
/-- the greatest of a list of numbers -/
def maxI : List Int → Int
  | [] => 0
  | [n] => n
  | n :: m :: ns => if maxI (m :: ns) > n then maxI (m :: ns) else n
def minI : List Int → Int
  | [] => 0
  | [n] => n
  | n :: m :: ns => if minI (m :: ns) < n then minI (m :: ns) else n
theorem maxI_le : ∀ (ns : List Int) (y : Int), y ∈ ns → y ≤ maxI ns
  | [n], y, h => by simp at h; subst h; exact Int.le_refl _
  | n :: m :: ns, y, h => by
    have ih := maxI_le (m :: ns)
    unfold maxI
    rcases List.mem_cons.mp h with rfl | h
    · split <;> omega
    · have := ih y h
      split <;> omega
theorem minI_le : ∀ (ns : List Int) (y : Int), y ∈ ns → minI ns ≤ y
  | [n], y, h => by simp at h; subst h; exact Int.le_refl _
  | n :: m :: ns, y, h => by
    have ih := minI_le (m :: ns)
    unfold minI
    rcases List.mem_cons.mp h with rfl | h
    · split <;> omega
    · have := ih y h
      split <;> omega
theorem maxI_mem : ∀ (ns : List Int), 0 < ns.length → maxI ns ∈ ns
  | [n], _ => by simp [maxI]
  | n :: m :: ns, _ => by
    have ih := maxI_mem (m :: ns) (by simp)
    unfold maxI
    split
    · exact List.mem_cons_of_mem _ ih
    · exact List.mem_cons_self
theorem minI_mem : ∀ (ns : List Int), 0 < ns.length → minI ns ∈ ns
  | [n], _ => by simp [minI]
  | n :: m :: ns, _ => by
    have ih := minI_mem (m :: ns) (by simp)
    unfold minI
    split
    · exact List.mem_cons_of_mem _ ih
    · exact List.mem_cons_self
def oMax : D → Option D
  | .lst xs => (intsOf xs).bind fun ns => if 0 < ns.length then some (.int (maxI ns)) else none
  | _ => none
def oMin : D → Option D
  | .lst xs => (intsOf xs).bind fun ns => if 0 < ns.length then some (.int (minI ns)) else none
  | _ => none
theorem sp_max {G : GC} : USpec G (fun v H Q => rMax G.K [v] H Q) oMax := by
  intro S H x d d' Q s b e k
  cases d <;> try cases e
  rename_i xs
  simp only [oMax, Option.bind_eq_some_iff] at e
  obtain ⟨ns, e, e2⟩ := e
  obtain ⟨a, rfl, q⟩ := b.ints s e
  by_cases h : 0 < ns.length
  · rw [if_pos h] at e2
    cases e2
    refine ⟨a, ns, rfl, q, h, fun m hm hl => ?_⟩
    have : m = maxI ns := Int.le_antisymm (maxI_le ns m hm) (hl _ (maxI_mem ns h))
    exact k _ S H (Grow.refl s) (by rw [this]; rfl)
  · rw [if_neg h] at e2; cases e2
theorem sp_min {G : GC} : USpec G (fun v H Q => rMin G.K [v] H Q) oMin := by
  intro S H x d d' Q s b e k
  cases d <;> try cases e
  rename_i xs
  simp only [oMin, Option.bind_eq_some_iff] at e
  obtain ⟨ns, e, e2⟩ := e
  obtain ⟨a, rfl, q⟩ := b.ints s e
  by_cases h : 0 < ns.length
  · rw [if_pos h] at e2
    cases e2
    refine ⟨a, ns, rfl, q, h, fun m hm hl => ?_⟩
    have : m = minI ns := Int.le_antisymm (hl _ (minI_mem ns h)) (minI_le ns m hm)
    exact k _ S H (Grow.refl s) (by rw [this]; rfl)
  · rw [if_neg h] at e2; cases e2
/-! ### tuple, all, any -/
def oTuple : D → Option D := fun d => (seqOf d).map .tup
theorem sp_tuple {G : GC} : USpec G (fun v H Q => ∃ p ys, [v] = [.ref p] ∧ ((SqL G.K H p ys ∧ ∀ l, H l = none → Q (.ref l) (upd H l (.tup ys))) ∨ SqT G.K H p ys ∧ Q (.ref p) H)) oTuple := by
  intro S H x d d' Q s b e k
  have new : ∀ (a : Addr) (xs : List D) (vs : List V), x = .ref a → d' = .tup xs → SqL G.K H a vs → Rps G.K G.C S xs vs → ∃ p ys, [x] = [.ref p] ∧ ((SqL G.K H p ys ∧ ∀ l, H l = none → Q (.ref l) (upd H l (.tup ys))) ∨ SqT G.K H p ys ∧ Q (.ref p) H) := fun a xs vs e1 e2 q r => by
    subst e1 e2
    refine ⟨a, vs, rfl, .inl ⟨q, fun l hl => ?_⟩⟩
    have g := Grow.new s (.tup vs) hl
    exact k _ _ _ g ⟨l, vs, rfl, .inl (.inl upd_same), Rps.mono g.sS _ _ r⟩
  cases d with
  | tup ys =>
    cases e
    have hb := b.flat (fun _ z => by cases z)
    obtain ⟨a, vs, rfl, q, r⟩ := hb
    exact ⟨a, vs, rfl, .inr ⟨SqT.mono s q, k _ S H (Grow.refl s) ⟨a, vs, rfl, q, r⟩⟩⟩
  | lst ys =>
    cases e
    obtain ⟨a, vs, e1, hh, r⟩ := b.lst s
    exact new a ys vs e1 rfl (.inl (.inl hh)) r
  | scr ns =>
    cases e
    obtain ⟨a, e1, q⟩ := b.flat (fun _ z => by cases z)
    exact new a _ _ e1 rfl (SqL.mono s q) (Rps.of_ints ns)
  | _ => cases e
def blsOf : List D → Option (List Bool)
  | [] => some []
  | .bl b :: ds => (blsOf ds).map (b :: ·)
  | _ :: _ => none
theorem blsOf_eq : ∀ {ds : List D} {bs : List Bool}, blsOf ds = some bs → ds = bs.map D.bl
  | [], _, h => by cases h; rfl
  | .bl b :: ds, _, h => by
    simp only [blsOf, Option.map_eq_some_iff] at h
    obtain ⟨bs, h, rfl⟩ := h
    rw [blsOf_eq h]; rfl
theorem blsOf_map : ∀ (bs : List Bool), blsOf (bs.map D.bl) = some bs
  | [] => rfl
  | b :: bs => by simp [blsOf, blsOf_map bs]
theorem Rps.bls {K : PySem.W.Frag} {C : CT} {S : Hp} : ∀ {ns : List Bool} {vs : List V}, Rps K C S (ns.map D.bl) vs → vs = ns.map V.bl
  | [], _, h => h
  | n :: ns, _, ⟨v, vs', e, q, r⟩ => by subst e; rw [Rps.bls r]; cases q; rfl
def oAll : D → Option D
  | .lst xs => (blsOf xs).map fun bs => .bl (bs.all id)
  | _ => none
def oAny : D → Option D
  | .lst xs => (blsOf xs).map fun bs => .bl (bs.any id)
  | _ => none
theorem sp_all {G : GC} : USpec G (fun v H Q => rAll G.K [v] H Q) oAll := by
  intro S H x d d' Q s b e k
  cases d <;> try cases e
  rename_i xs
  simp only [oAll, Option.map_eq_some_iff] at e
  obtain ⟨bs, e, rfl⟩ := e
  obtain ⟨a, vs, e1, hh, r⟩ := b.lst s
  rw [blsOf_eq e] at r
  rw [r.bls] at hh
  exact ⟨a, bs, by rw [e1], .inl (.inl hh), k _ S H (Grow.refl s) rfl⟩
theorem sp_any {G : GC} : USpec G (fun v H Q => rAny G.K [v] H Q) oAny := by
  intro S H x d d' Q s b e k
  cases d <;> try cases e
  rename_i xs
  simp only [oAny, Option.map_eq_some_iff] at e
  obtain ⟨bs, e, rfl⟩ := e
  obtain ⟨a, vs, e1, hh, r⟩ := b.lst s
  rw [blsOf_eq e] at r
  rw [r.bls] at hh
  exact ⟨a, bs, by rw [e1], .inl (.inl hh), k _ S H (Grow.refl s) rfl⟩
/-! ### isinstance -/
def tyN : D → Option String
  | .non => some "NoneType" | .bl _ => some "bool" | .int _ => some "int" | .str _ => some "str"
  | .scr _ => some "list" | .lst _ => some "list" | .tup _ => some "tuple" | .ins _ _ => none | .exn _ _ => none | .dct => some "dict"
def isB (n T : String) : Bool := n == T || (n == "bool" && T == "int")
theorem kitB_is : ∀ n ∈ tyNs, ∀ T ∈ tyTs, kitB n T = some (isB n T) := by decide +kernel
theorem tyN_mem {d : D} {n : String} (h : tyN d = some n) : n ∈ tyNs := by
  cases d <;> cases h <;> decide
theorem BRp.tyX {G : GC} {S H : Hp} {d : D} {v : V} {n : String} (s : Same S H) (b : BRp G S H d v) (e : tyN d = some n) : TyX G.K H v (.type n) := by
  cases d with
  | non => cases e; rw [show v = .non from b.flat (fun _ z => by cases z)]; exact .base .non
  | bl k => cases e; rw [b.bl]; exact .base (.bl _)
  | int i => cases e; rw [b.int]; exact .base (.int _)
  | str x => cases e; rw [show v = .str x from b.flat (fun _ z => by cases z)]; exact .base (.str _)
  | lst xs =>
    cases e
    obtain ⟨a, vs, e1, hh, r⟩ := b.lst s
    rw [e1]; exact .base (.lst hh)
  | scr ns =>
    cases e
    obtain ⟨a, e1, q⟩ := b.flat (fun _ z => by cases z)
    rw [e1]
    rcases SqL.mono s q with (q | ⟨o, q⟩) | ⟨o, its, n, q, ec, _⟩
    · exact .base (.lst q)
    · exact .base (.frz q)
    · exact .kList q ec
  | tup xs =>
    cases e
    obtain ⟨a, vs, e1, q, _⟩ := b.flat (fun _ z => by cases z)
    rw [e1]
    rcases SqT.mono s q with (q | ⟨o, q⟩) | ⟨o, its, n, q, ec, _⟩
    · exact .base (.tup q)
    · exact .fTuple q
    · exact .kTuple q ec
  | ins c fs => cases e
  | exn c fs => cases e
  | dct =>
    cases e
    obtain ⟨a, kvs, e1, q⟩ := b.flat (fun _ z => by cases z)
    rw [e1]
    exact .base (.dK (s _ _ q))
/-- what isinstance tells of the module's classes -/
structure Kinds (K : PySem.W.Frag) (C : CT) (n : Nat) (sub : Nat → Nat → Bool) : Prop where
  ty : ∀ c, c < n → ∀ (H : Hp) (a dx : Addr) (fs : List (Str × V)), H a = some (.ins (C.at_ c) dx fs) → TyX K H (.ref a) (.ref (C.at_ c))
  noT : ∀ c, c < n → ∀ T ∈ tyTs, PySem.W.kitOne K (.ref (C.at_ c)) (.type T) = some false
  noC : ∀ c, c < n → ∀ T ∈ tyNs, PySem.W.kitOne K (.type T) (.ref (C.at_ c)) = some false
  own : ∀ c, c < n → ∀ t, t < n → PySem.W.kitOne K (.ref (C.at_ c)) (.ref (C.at_ t)) = some (sub c t)
def isaT (n : Nat) (T : String) (d : D) : Option Bool := match tyN d with
  | some m => some (isB m T)
  | none => match d with
    | .ins c _ => if c < n then some false else none
    | _ => none
def isaC (n : Nat) (sub : Nat → Nat → Bool) (t : Nat) (d : D) : Option Bool := match tyN d with
  | some _ => some false
  | none => match d with
    | .ins c _ => if c < n then some (sub c t) else none
    | _ => none
theorem BRp.ins {G : GC} {S H : Hp} {c : Nat} {fs : List D} {v : V} (s : Same S H) (b : BRp G S H (.ins c fs) v) : ∃ a dx vs, v = .ref a ∧ S a = some (.ins (G.C.at_ c) dx ((G.C.fn c).zip vs)) ∧ (G.C.fn c).length = fs.length ∧ Rps G.K G.C S fs vs := b.flat (fun _ z => by cases z)
theorem isaT_ok {G : GC} {S H : Hp} {d : D} {v : V} {n : Nat} {sub : Nat → Nat → Bool} {T : String} {r : Bool} (kd : Kinds G.K G.C n sub) (hT : T ∈ tyTs) (s : Same S H) (b : BRp G S H d v) (e : isaT n T d = some r) :
    ∃ t, TyX G.K H v t ∧ PySem.W.kitOne G.K t (.type T) = some r := by
  unfold isaT at e
  cases h : tyN d with
  | some m =>
    rw [h] at e
    cases e
    exact ⟨_, b.tyX s h, kit_ty (kitB_is m (tyN_mem h) T hT)⟩
  | none =>
    rw [h] at e
    cases d with
    | ins c fs =>
      by_cases hc : c < n
      · simp only [hc, if_true] at e
        cases e
        obtain ⟨a, dx, vs, rfl, q, _⟩ := b.ins s
        exact ⟨_, kd.ty c hc H a dx _ (s _ _ q), kd.noT c hc T hT⟩
      · simp only [hc, if_false] at e; cases e
    | exn c fs =>
      cases e
    | _ => cases h
theorem isaT_all {G : GC} {S H : Hp} {d : D} {v : V} {n : Nat} {sub : Nat → Nat → Bool} {T : String} {r : Bool} (kd : Kinds G.K G.C n sub) (hT : T ∈ tyTs) (s : Same S H) (b : BRp G S H d v) (e : isaT n T d = some r) :
    ∃ t, TyX G.K H v t ∧ ∀ U ∈ tyTs, ∀ q, isaT n U d = some q → PySem.W.kitOne G.K t (.type U) = some q := by
  cases h : tyN d with
  | some m =>
    refine ⟨_, b.tyX s h, fun U hU q e => ?_⟩
    unfold isaT at e
    rw [h] at e
    cases e
    exact kit_ty (kitB_is m (tyN_mem h) U hU)
  | none =>
    cases d with
    | ins c fs =>
      by_cases hc : c < n
      · obtain ⟨a, dx, vs, rfl, q, _⟩ := b.ins s
        refine ⟨_, kd.ty c hc H a dx _ (s _ _ q), fun U hU q e => ?_⟩
        unfold isaT at e
        simp only [tyN, hc, if_true] at e
        cases e
        exact kd.noT c hc U hU
      · unfold isaT at e
        simp only [tyN, hc, if_false] at e; cases e
    | exn c fs =>
      unfold isaT at e; cases e
    | _ => cases h
theorem isaC_ok {G : GC} {S H : Hp} {d : D} {v : V} {n : Nat} {sub : Nat → Nat → Bool} {t : Nat} {r : Bool} (kd : Kinds G.K G.C n sub) (ht : t < n) (s : Same S H) (b : BRp G S H d v) (e : isaC n sub t d = some r) :
    ∃ u, TyX G.K H v u ∧ PySem.W.kitOne G.K u (.ref (G.C.at_ t)) = some r := by
  unfold isaC at e
  cases h : tyN d with
  | some m =>
    rw [h] at e
    cases e
    exact ⟨_, b.tyX s h, kd.noC t ht m (tyN_mem h)⟩
  | none =>
    rw [h] at e
    cases d with
    | ins c fs =>
      by_cases hc : c < n
      · simp only [hc, if_true] at e
        cases e
        obtain ⟨a, dx, vs, rfl, q, _⟩ := b.ins s
        exact ⟨_, kd.ty c hc H a dx _ (s _ _ q), kd.own c hc t ht⟩
      · simp only [hc, if_false] at e; cases e
    | exn c fs =>
      cases e
    | _ => cases h
def blO (o : D → Option Bool) : D → Option D := fun d => (o d).map .bl
section
variable {X : Cx} {G : GC} {W : Wx} {a : Expr} {f : Ev → Option D} {k : Ev → Rs D} {pos : Pos} {n : Nat} {sub : Nat → Nat → Bool}
/-- isinstance(x, int) -/
theorem q_isi {T : Str} {T0 : String} {p pt : Pos} (kd : Kinds G.K G.C n sub) (hT : T0 ∈ tyTs) (hK : X.K = G.K) (ha : PE X a (pB G f)) (hm : X.mg "isinstance" = none) (hmT : X.mg T = none) (hvT : bootBuiltins T = some (.type T0)) (hg : Gl X "isinstance" := by rfl) (hgT : Gl X T := by rfl)
    (hnT : T ≠ "__name__" := by decide) (hdT : (T == ("__debug__" : Str)) = false := by decide) (he : starEach (a :: [.Name T pt]) X.env = (false, eval a X.env) :: starEach [.Name T pt] X.env := by rfl) (hpl : (backTo pos (starEach [Expr.Name T pt] X.env)).any (·.1) = false := by rfl) :
    PE X (.Call (.Name "isinstance" p) [a, .Name T pt] [] pos) (pQ G (q1 (blO (isaT n T0)) f)) := PEm (pe_callB call_isi hg hm (by decide +kernel) (pa_cons ha (pa_cons (pe_bltn hgT hmT hvT (v := .ty T0) rfl hnT hdT) pa_nil (by rfl)) he) (by decide) (by decide) he hpl) fun σ H Q ⟨S, ρ, R, q⟩ => by
  refine ⟨S, ρ, R, ?_⟩
  unfold q1 at q
  cases e : f ρ with
  | none => rw [e] at q; exact q
  | some d =>
    rw [e, Option.bind_some] at q
    intro v S' H' g b
    unfold blO at q
    cases e2 : isaT n T0 d with
    | none => rw [e2] at q; exact q.elim
    | some r =>
      rw [e2] at q
      obtain ⟨t, h1, h2⟩ := isaT_ok kd hT g.sub b e2
      exact ⟨v, _, t, .type T0, r, rfl, .ty T0, by rw [hK]; exact h1, by rw [hK]; exact h2, q _ S' H' g rfl⟩
/-- isinstance(x, Own) -/
theorem q_isiC {x : Str} {t : Nat} {p pt : Pos} (kd : Kinds G.K G.C n sub) (hT : t < n) (hK : X.K = G.K) (ha : PE X a (pB G f)) (hm : X.mg "isinstance" = none) (hmT : X.mg x = some (.ref (G.C.at_ t))) (hg : Gl X "isinstance" := by rfl) (hgT : Gl X x := by rfl)
    (hdT : (x == ("__debug__" : Str)) = false := by decide) (he : starEach (a :: [.Name x pt]) X.env = (false, eval a X.env) :: starEach [.Name x pt] X.env := by rfl) (hpl : (backTo pos (starEach [Expr.Name x pt] X.env)).any (·.1) = false := by rfl) :
    PE X (.Call (.Name "isinstance" p) [a, .Name x pt] [] pos) (pQ G (q1 (blO (isaC n sub t)) f)) := PEm (pe_callB call_isi hg hm (by decide +kernel) (pa_cons ha (pa_cons (pe_glob hgT hmT (v := .ref (G.C.at_ t)) rfl hdT) pa_nil (by rfl)) he) (by decide) (by decide) he hpl) fun σ H Q ⟨S, ρ, R, q⟩ => by
  refine ⟨S, ρ, R, ?_⟩
  unfold q1 at q
  cases e : f ρ with
  | none => rw [e] at q; exact q
  | some d =>
    rw [e, Option.bind_some] at q
    intro v S' H' g b
    unfold blO at q
    cases e2 : isaC n sub t d with
    | none => rw [e2] at q; exact q.elim
    | some r =>
      rw [e2] at q
      obtain ⟨u, h1, h2⟩ := isaC_ok kd hT g.sub b e2
      exact ⟨v, _, u, .ref (G.C.at_ t), r, rfl, .own _, by rw [hK]; exact h1, by rw [hK]; exact h2, q _ S' H' g rfl⟩
/-- isinstance(x, (list, tuple)) -/
def isaT2 (n : Nat) (T U : String) (d : D) : Option Bool := (isaT n T d).bind fun a => (isaT n U d).map fun b => a || b
theorem kitAny2 {K : PySem.W.Frag} {t u1 u2 : Value} {a b : Bool} (h1 : PySem.W.kitOne K t u1 = some a) (h2 : PySem.W.kitOne K t u2 = some b) : PySem.W.kitAny K t [u1, u2] = some (a || b) := by
  cases a <;> cases b <;> simp [PySem.W.kitAny, h1, h2]
theorem q_isi2 {T U : Str} {T0 U0 : String} {p pt pu ptt : Pos} {x1} (kd : Kinds G.K G.C n sub) (hT : T0 ∈ tyTs) (hU : U0 ∈ tyTs) (hK : X.K = G.K) (ha : PE X a (pB G f)) (hm : X.mg "isinstance" = none) (hmT : X.mg T = none) (hvT : bootBuiltins T = some (.type T0)) (hmU : X.mg U = none) (hvU : bootBuiltins U = some (.type U0)) (hg : Gl X "isinstance" := by rfl) (hgT : Gl X T := by rfl) (hgU : Gl X U := by rfl)
    (hnT : T ≠ "__name__" := by decide) (hdT : (T == ("__debug__" : Str)) = false := by decide) (hnU : U ≠ "__name__" := by decide) (hdU : (U == ("__debug__" : Str)) = false := by decide)
    (he : starEach (a :: [.Tuple [.Name T pt, .Name U pu] x1 ptt]) X.env = (false, eval a X.env) :: starEach [.Tuple [.Name T pt, .Name U pu] x1 ptt] X.env := by rfl) (hpl : (backTo pos (starEach [Expr.Tuple [.Name T pt, .Name U pu] x1 ptt] X.env)).any (·.1) = false := by rfl) :
    PE X (.Call (.Name "isinstance" p) [a, .Tuple [.Name T pt, .Name U pu] x1 ptt] [] pos) (pQ G (q1 (blO (isaT2 n T0 U0)) f)) := PEm (pe_callB call_isiT hg hm (by decide +kernel) (pa_cons ha (pa_cons (pe_tup (pa_cons (pe_bltn hgT hmT hvT (v := .ty T0) rfl hnT hdT) (pa_cons (pe_bltn hgU hmU hvU (v := .ty U0) rfl hnU hdU) pa_nil (by rfl)) (by rfl))) pa_nil (by rfl)) he) (by decide) (by decide) he hpl) fun σ H Q ⟨S, ρ, R, q⟩ => by
  refine ⟨S, ρ, R, ?_⟩
  unfold q1 at q
  cases e : f ρ with
  | none => rw [e] at q; exact q
  | some d =>
    rw [e, Option.bind_some] at q
    intro v S' H' g b
    refine ⟨by show 2 ≤ sizeLine; decide, fun tp hp => ?_⟩
    have g2 := Grow.loose g.sub (.tup [.ty T0, .ty U0]) hp
    have b2 := b.grow g2
    unfold blO isaT2 at q
    cases e2 : isaT n T0 d with
    | none => rw [e2] at q; exact q.elim
    | some r =>
      rw [e2, Option.bind_some] at q
      cases e3 : isaT n U0 d with
      | none => rw [e3] at q; exact q.elim
      | some r2 =>
        rw [e3] at q
        obtain ⟨t, h1, h2⟩ := isaT_all kd hT g2.sub b2 e2
        exact ⟨v, tp, _, t, [.type T0, .type U0], r || r2, rfl, upd_same, .cons (.ty T0) (.cons (.ty U0) .nil), by rw [hK]; exact h1, by rw [hK]; exact kitAny2 (h2 T0 hT r e2) (h2 U0 hU r2 e3), q _ _ _ (g.trans g2) rfl⟩
end
end PL
namespace PL
open PySem L2 LamX
/-! ### classes: what their objects tell -/
structure ClsF (K : PySem.W.Frag) (C : CT) (n : Nat) : Prop where
  cls : ∀ c, c < n → Cls K (C.at_ c)
  na : ∀ c, c < n → ∀ f ∈ C.fn c, NoAttr K (C.at_ c) f
theorem zip_lookup {K : PySem.W.Frag} {C : CT} {S : Hp} : ∀ {ns : List Str} {fs : List D} {vs : List V} {f : Str} {d : D}, Rps K C S fs vs → (ns.zip fs).lookup f = some d → ∃ v, (ns.zip vs).lookup f = some v ∧ Rp K C S d v
  | [], _, _, _, _, _, e => by simp at e
  | _ :: _, [], _, _, _, h, e => by simp at e
  | n :: ns, d0 :: fs, _, f, d, ⟨v, vs', e1, q, r⟩, e => by
    subst e1
    simp only [List.zip_cons_cons, List.lookup_cons] at e ⊢
    cases h : f == n with
    | true => rw [h] at e; cases e; exact ⟨v, rfl, q⟩
    | false => rw [h] at e; exact zip_lookup r e
theorem zip_mem : ∀ {ns : List Str} {fs : List D} {f : Str} {d : D}, (ns.zip fs).lookup f = some d → f ∈ ns
  | [], _, _, _, e => by simp at e
  | _ :: _, [], _, _, e => by simp at e
  | n :: ns, d0 :: fs, f, d, e => by
    simp only [List.zip_cons_cons, List.lookup_cons] at e
    cases h : f == n with
    | true => rw [eq_of_beq h]; exact List.mem_cons_self
    | false => rw [h] at e; exact List.mem_cons_of_mem _ (zip_mem e)
theorem zip_none : ∀ {ns : List Str} {vs : List V} {f : Str}, f ∉ ns → (ns.zip vs).lookup f = none
  | [], _, _, _ => rfl
  | _ :: _, [], _, _ => rfl
  | n :: ns, v :: vs, f, h => by
    simp only [List.zip_cons_cons, List.lookup_cons]
    have : (f == n) = false := by
      cases q : f == n with
      | true => exact absurd (eq_of_beq q ▸ List.mem_cons_self) h
      | false => rfl
    rw [this]
    exact zip_none fun z => h (List.mem_cons_of_mem _ z)
def attr (n : Nat) (fn : Nat → List Str) (f : Str) : D → Option D
  | .ins c fs => if c < n then ((fn c).zip fs).lookup f else none
  | _ => none
section
variable {X : Cx} {G : GC} {W : Wx} {a : Expr} {f : Ev → Option D} {k : Ev → Rs D} {pos : Pos} {n : Nat} {sub : Nat → Nat → Bool}
theorem sp_fld {fn : Nat → List Str} (cf : ClsF G.K G.C n) (hfn : G.C.fn = fn) {x : Str} : USpec G (fun v H Q => ∃ a C dx fs w, v = .ref a ∧ H a = some (.ins C dx fs) ∧ Cls G.K C ∧ NoAttr G.K C x ∧ fs.lookup x = some w ∧ Q w H) (attr n fn x) := by
  intro S H v d d' Q s b e k
  subst hfn
  cases d <;> try cases e
  rename_i c fs
  simp only [attr] at e
  by_cases hc : c < n
  · rw [if_pos hc] at e
    obtain ⟨a, dx, vs, rfl, q, l, r⟩ := b.ins s
    obtain ⟨w, h1, h2⟩ := zip_lookup r e
    exact ⟨a, _, dx, _, w, rfl, s _ _ q, cf.cls c hc, cf.na c hc x (zip_mem e), h1, k _ S H (Grow.refl s) h2⟩
  · rw [if_neg hc] at e; cases e
/-- o.f -/
theorem q_fld {fn : Nat → List Str} (cf : ClsF G.K G.C n) (hfn : G.C.fn = fn) (hK : X.K = G.K) {x : Str} (ha : PE X a (pB G f)) (hb : attributeBase a x X.env (eval a X.env) = eval a X.env := by rfl) : PE X (.Attribute a x pos) (pQ G (q1 (attr n fn x) f)) := PEm (pe_fld ha hb) fun σ H Q h => by
  have := q1_ok (sp_fld cf hfn (x := x)) h
  unfold tFld
  rw [hK]
  exact this
theorem e_fld {fn : Nat → List Str} (cf : ClsF G.K G.C n) (hfn : G.C.fn = fn) (hK : X.K = G.K) {x : Str} (ha : PE X a (pE G W k)) (hb : attributeBase a x X.env (eval a X.env) = eval a X.env := by rfl) : PE X (.Attribute a x pos) (pE G W (e1 (attr n fn x) k)) := PEm (pe_fld ha hb) fun σ H Q h => by
  have := e1_ok (sp_fld cf hfn (x := x)) h
  unfold tFld
  rw [hK]
  exact this
end
/-! ### own objects -/
section
variable {G : GC} {S H S' H' : Hp} {σ : St} {ρ : Ev} {i : Nat} {p : Addr}
theorem Rel.growS (R : Rel G S H σ ρ) {sl0 sl1 : Sl} (hi : ρ[i]? = some sl0) (m0 : sl0.mine = true) (m1 : sl1.mine = true) (hp : σ[i]? = some (some (.ref p))) (g : GrowM p S H S' H') (np : ∀ q, H p ≠ some (.own q)) (hl : ∃ o, H' p = some o) (ok : SlOk G.K G.C G.x S' H' sl1 (some (.ref p))) : Rel G S' H' σ (ρ.set i sl1) := by
  have ow : Ow ρ σ i p := ⟨⟨_, hi, m0⟩, hp⟩
  have tb : Tabs G.T H' := by
    have h := R.sl i sl0 hi
    rw [hp] at h
    cases sl0 with
    | no => cases m0
    | adr => cases m0
    | val d => cases m0
    | own xs =>
      obtain ⟨a, vs, e1, _, e3, _⟩ := h
      cases e1
      exact R.tbM e3 (fun _ => nofun) (fun _ _ => nofun) g.hH
    | obj c fs =>
      obtain ⟨a, dx, vs, e1, _, _, _, _, e3, _⟩ := h
      cases e1
      exact R.tbM e3 (fun _ => nofun) (fun _ _ => nofun) g.hH
  have hlt : i < ρ.length := (List.getElem?_eq_some_iff.mp hi).1
  have up : ∀ {a : Addr} {u : HO}, S a = none → H a = some u → S' a = none := fun {a u} n e => by
    cases q : S' a with
    | none => rfl
    | some w =>
      rcases g.nw a w q with z | z
      · rw [n] at z; cases z
      · rw [e] at z; cases z
  have some3 : ∀ {j : Nat} {v : V}, (σ[j]?).getD none = some v → σ[j]? = some (some v) := fun {j v} e2 => by
    cases h : σ[j]? with
    | none => rw [h] at e2; cases e2
    | some o => rw [h] at e2; exact congrArg some e2
  refine ⟨g.sub, R.old.trans g.sS, fun b o h hm => ?_, fun b o h => ?_, fun b o q => ?_, fun j sl e => ?_, fun j k b h1 h2 => ?_, fun j b h => ?_, fun b hb => ?_, ?_, ⟨tb, R.tbS g.nw⟩, fun z => g.nt (R.nt z)⟩
  · refine g.hH b o (R.fr b o h hm) fun e => ?_
    subst e
    rcases R.mine i b ow with z | z
    · exact hm z
    · rw [h] at z; cases z
  · obtain ⟨o', q⟩ := R.th b o h
    by_cases e : b = p
    · subst e; exact hl
    · exact ⟨o', g.hH b o' q e⟩
  · rcases g.nw b o q with z | z
    · exact R.nw b o z
    · cases h0 : G.H0 b with
      | none => exact .inr (.inl rfl)
      | some u =>
        by_cases hm : G.M b
        · exact .inr (.inr hm)
        · have := R.fr b u h0 hm
          rw [z] at this; cases this
  · by_cases hj : i = j
    · subst hj
      rw [List.getElem?_set_self hlt] at e
      cases e
      rw [hp]; exact ok
    · rw [List.getElem?_set_ne hj] at e
      have h := R.sl j sl e
      cases sl with
      | no => trivial
      | adr => exact h
      | val d => obtain ⟨v, q, r⟩ := h; exact ⟨v, q, Rp.mono g.sS _ _ r⟩
      | own ys =>
        obtain ⟨b, ws, qb, nb, hb, r, owj⟩ := R.at_own e
        have hbp : b ≠ p := fun z => by subst z; exact hj (R.dis i j b ow owj)
        exact ⟨b, ws, by rw [qb]; rfl, up nb hb, g.hH _ _ hb hbp, Rps.mono g.sS _ _ r⟩
      | obj c fs =>
        obtain ⟨b, dx, ws, q, nb, nd, ne, hd, hb, r⟩ := h
        have hbp : b ≠ p := fun z => by subst z; exact hj (R.dis i j b ow ⟨⟨_, e, rfl⟩, some3 q⟩)
        have hdp : dx ≠ p := fun z => np b (by rw [← z]; exact hd)
        exact ⟨b, dx, ws, q, up nb hb, up nd hd, ne, g.hH _ _ hd hdp, g.hH _ _ hb hbp, r.mono g.sS⟩
  · have f : ∀ {j b}, Ow (ρ.set i sl1) σ j b → Ow ρ σ j b := fun {j b} h => by
      rcases ow_set hlt h with ⟨_, z⟩ | ⟨e, _, e'⟩
      · exact z
      · subst e; exact ⟨⟨_, hi, m0⟩, e'⟩
    exact R.dis j k b (f h1) (f h2)
  · rcases ow_set hlt h with ⟨_, z⟩ | ⟨e, _, e'⟩
    · exact R.mine j b z
    · subst e; exact R.mine j b ⟨⟨_, hi, m0⟩, e'⟩
  · obtain ⟨e0, ⟨xs0, hx0, hy0⟩⟩ := R.mt b hb
    refine ⟨e0, ?_⟩
    by_cases h0 : i = 0
    · subst h0; exact ⟨_, List.getElem?_set_self hlt, m1⟩
    · exact ⟨xs0, by rw [List.getElem?_set_ne h0]; exact hx0, hy0⟩
  · rw [List.length_set]; exact R.len
theorem Rel.at_obj {c : Nat} {fs : List (Str × D)} (R : Rel G S H σ ρ) (hi : ρ[i]? = some (.obj c fs)) : ∃ a dx vs, σ[i]? = some (some (.ref a)) ∧ S a = none ∧ S dx = none ∧ dx ≠ a ∧ H dx = some (.own a) ∧ H a = some (.ins (G.C.at_ c) dx vs) ∧ RpF G.K G.C S vs fs ∧ Ow ρ σ i a := by
  obtain ⟨a, dx, vs, e2, n, nd, ne, hd, hh, r⟩ := R.sl i _ hi
  have e3 : σ[i]? = some (some (.ref a)) := by
    cases h : σ[i]? with
    | none => rw [h] at e2; cases e2
    | some o => rw [h] at e2; exact congrArg some e2
  exact ⟨a, dx, vs, e3, n, nd, ne, hd, hh, r, ⟨_, hi, rfl⟩, e3⟩
theorem RpF.len {K : PySem.W.Frag} {C : CT} {vs : List (Str × V)} {fs : List (Str × D)} (r : RpF K C S vs fs) : vs.length = fs.length := by
  induction r with
  | nil => rfl
  | cons _ _ ih => simp [ih]
theorem RpF.put {K : PySem.W.Frag} {C : CT} {vs : List (Str × V)} {fs : List (Str × D)} {f : Str} {v : V} {d : D} (r : RpF K C S vs fs) (h : fs.lookup f = none) (q : Rp K C S d v) : RpF K C S (putF f v vs) (fs ++ [(f, d)]) := by
  induction r with
  | nil => exact .cons q .nil
  | @cons g w e fs gs hw _ ih =>
    have hg : (f == g) = false := by
      cases z : f == g with
      | true => simp only [List.lookup_cons, z] at h; cases h
      | false => rfl
    have hne : ¬ g = f := fun z => by rw [z] at hg; simp at hg
    have hg2 : List.lookup f gs = none := by simpa only [List.lookup_cons, hg] using h
    have : putF f v ((g, w) :: fs) = (g, w) :: putF f v fs := by rw [putF, if_neg hne]
    rw [this]
    exact .cons hw (ih hg2)
end
section
variable {X : Cx} {G : GC} {W : Wx} {k : Ev → Rs D} {pos : Pos} {n : Nat}
def fldF (n : Nat) (fn : Nat → List Str) (i : Nat) (x : Str) (k : Ev → Rs D) : Ev → Fl := fun ρ => (k ρ).fl fun d ρ1 => match ρ1[i]? with
  | some (.obj c fs) => if c < n ∧ fs.length < 1000 ∧ x ∈ fn c ∧ fs.lookup x = none then .nx (ρ1.set i (.obj c (fs ++ [(x, d)]))) else .stuck
  | _ => .stuck
/-- self.f = e -/
theorem s_fld {fn : Nat → List Str} (cf : ClsF G.K G.C n) (hfn : G.C.fn = fn) (hK : X.K = G.K) {i : Nat} {x y : Str} {p1 p2 : Pos} {e : Expr} (he : PE X e (pE G W k)) (hN : X.N[i]? = some y := by rfl) (hv : Vis X.env.scope y := by first | exact Or.inl rfl | exact Or.inr (Or.inl rfl) | exact Or.inr (Or.inr rfl)) (hd : (y == ("__debug__" : Str)) = false := by decide) (hcd : (y == ("__classdict__" : Str)) = false := by decide)
    (hs : swapsWith e (some (.Attribute (.Name y p1) x p2)) pos.line X.env = pure false := by rfl) :
    PS X (.Assign [.Attribute (.Name y p1) x p2] e pos) (pS G W (fldF n fn i x k)) := PSm (ps_fld (pe_var hN hv hd hcd) he hs) fun E σ H q => by
  obtain ⟨S, ρ, R, q⟩ := q
  subst hfn
  refine ⟨S, ρ, R, Po.mono (Po.fl (S := S) (σ := σ) q) fun d ρ1 S' H' s R' q v r => ?_⟩
  cases e1 : ρ1[i]? with
  | none => rw [e1] at q; exact q.elim
  | some sl =>
    rw [e1] at q
    cases sl with
    | obj c fs =>
      dsimp only at q
      by_cases hc : c < n ∧ fs.length < 1000 ∧ x ∈ G.C.fn c ∧ fs.lookup x = none
      · rw [if_pos hc] at q
        obtain ⟨h1, h2, h3, h4⟩ := hc
        obtain ⟨a, dx, vs, e3, na, nd, ne, hd, hh, rf, ow⟩ := R'.at_obj e1
        refine ⟨_, e3, a, _, dx, vs, rfl, hh, by rw [hK]; exact cf.cls c h1, by rw [hK]; exact cf.na c h1 x h3, by rw [rf.len]; exact h2, ?_⟩
        refine q _ S' _ (Same.refl _) (R'.growS e1 rfl rfl e3 ⟨Same.refl _, fun b o q hb => by rw [upd_ne hb]; exact q, fun b o q => by rw [upd_ne (ne_of_none q na)]; exact R'.sub b o q, fun _ _ q => .inl q, id⟩ (fun q z => by rw [hh] at z; cases z) ⟨_, upd_same⟩ ?_)
        exact ⟨a, dx, _, rfl, na, nd, ne, by rw [upd_ne ne]; exact hd, upd_same, rf.put h4 r⟩
      · rw [if_neg hc] at q; exact q.elim
    | _ => exact q.elim
end
end PL
namespace PL
open PySem L2
open PyProof.Rows (envOfC)
/-! ### __init__: it fills a new object -/
inductive FrI where
  | ok (fs : List (Str × D)) | exc (c : Nat) (fs : List D) | stuck
def outI (c : Nat) (ρ : Ev) : FrI := match ρ[0]? with
  | some (Sl.obj c' fs) => if c' = c then .ok fs else .stuck
  | _ => .stuck
def runI (c n : Nat) (b : Ev → Fl) (ds : List D) : FrI := match b (.obj c [] :: env0 (n - 1) ds) with
  | .nx ρ => outI c ρ
  | .rt .non ρ => outI c ρ
  | .exc c fs _ => .exc c fs
  | _ => .stuck
def spI (K : PySem.W.Frag) (C : CT) (c n : Nat) (g : List D → FrI) : Sp := fun vs H Q E => ∃ S p dx ds us, vs = .ref p :: us ∧ Same S H ∧ S p = none ∧ S dx = none ∧ dx ≠ p ∧ H dx = some (.own p) ∧ H p = some (.ins (C.at_ c) dx []) ∧ Rps K C S ds us ∧ ds.length + 1 = n ∧ match g ds with
  | .ok fs => ∀ S' H' dx' vs', GrowM p S H S' H' → S' p = none → H' p = some (.ins (C.at_ c) dx' vs') → RpF K C S' vs' fs → Q .non H'
  | .exc c fs => ∀ S' H' d, GrowM p S H S' H' → XO K C H S' H' c fs d → E (.ref (C.at_ c)) d H'
  | .stuck => False
section
variable {P : Program} {w : World} {K : PySem.W.Frag} {mg : Str → Option Value} {base : Heap} {C : CT}
theorem rel_startI {S H : Hp} {N : List Str} {p dx : Addr} {c : Nat} {ds : List D} {us : List V} (s : Same S H) (np : S p = none) (nd : S dx = none) (ne : dx ≠ p) (hd : H dx = some (.own p)) (hp : H p = some (.ins (C.at_ c) dx [])) (r : Rps K C S ds us) (hN : ds.length + 1 ≤ N.length) :
    Rel ⟨K, C, H, S, some p, fun b => b = p, [], none⟩ S H (L2.start N (.ref p :: us)) (.obj c [] :: env0 (N.length - 1) ds) := by
  have at0 : (L2.start N (V.ref p :: us))[0]? = some (some (.ref p)) := start_get rfl
  have on : ∀ {i a}, Ow (.obj c [] :: env0 (N.length - 1) ds) (L2.start N (.ref p :: us)) i a → i = 0 ∧ a = p := fun {i a} ⟨⟨sl, e, m⟩, e'⟩ => by
    cases i with
    | zero => rw [at0] at e'; cases e'; exact ⟨rfl, rfl⟩
    | succ i =>
      rw [List.getElem?_cons_succ] at e
      rcases env0_get e with ⟨d, _, rfl⟩ | rfl <;> cases m
  refine ⟨s, Same.refl _, fun _ _ h _ => h, fun _ o h => ⟨o, h⟩, fun _ _ h => .inl h, fun i sl e => ?_, fun i j a h h2 => (on h).1.trans (on h2).1.symm, fun i a h => .inl (on h).2, fun a h => ?_, ?_, ⟨fun _ hp => (by cases hp), fun _ hp => (by cases hp)⟩, id⟩
  · cases i with
    | zero =>
      cases e
      exact ⟨p, dx, [], by rw [at0]; rfl, np, nd, ne, hd, hp, .nil⟩
    | succ i =>
      rw [List.getElem?_cons_succ] at e
      rcases env0_get e with ⟨d, e2, rfl⟩ | rfl
      · obtain ⟨v, e3, r2⟩ := Rps.get _ _ _ _ r e2
        exact ⟨v, by rw [start_get (show (V.ref p :: us)[i + 1]? = some v from e3)]; rfl, r2⟩
      · trivial
  · cases h
    exact ⟨at0, _, rfl, rfl⟩
  · unfold env0 L2.start
    simp only [List.length_cons, List.length_append, List.length_map, List.length_replicate]
    rw [← r.length]
    omega
theorem Rel.grownI0 {S H S' H' : Hp} {σ : St} {ρ : Ev} {p : Addr} (hn : S' p = none) (R : Rel ⟨K, C, H, S, some p, fun b => b = p, [], none⟩ S' H' σ ρ) : GrowM p S H S' H' :=
  ⟨R.old, fun b o h hb => R.fr b o h hb, R.sub, fun a o h => by
    rcases R.nw a o h with z | z | z
    · exact .inl z
    · exact .inr z
    · have z : a = p := z
      subst z; rw [hn] at h; exact (nomatch h), R.nt⟩
theorem Rel.mineAt {S H S' H' : Hp} {σ : St} {ρ : Ev} {p : Addr} (R : Rel ⟨K, C, H, S, some p, fun b => b = p, [], none⟩ S' H' σ ρ) : S' p = none := by
  obtain ⟨e0, sl, hx, hm⟩ := R.mt p rfl
  have q := R.sl 0 sl hx
  rw [e0] at q
  cases sl with
  | own xs => obtain ⟨a, vs, e, n, _⟩ := q; cases e; exact n
  | obj c fs => obtain ⟨a, dx, vs, e, n, _⟩ := q; cases e; exact n
  | _ => cases hm
theorem outI_ok {c : Nat} {ρ : Ev} {fs : List (Str × D)} (h : outI c ρ = .ok fs) : ρ[0]? = some (.obj c fs) := by
  unfold outI at h
  cases e : ρ[0]? with
  | none => rw [e] at h; cases h
  | some sl =>
    rw [e] at h
    cases sl with
    | obj c' fs' =>
      dsimp only at h
      by_cases hc : c' = c
      · rw [if_pos hc] at h; cases h; rw [hc]
      · rw [if_neg hc] at h; cases h
    | _ => cases h
theorem outI_ex {c : Nat} {ρ : Ev} {c' : Nat} {fs : List D} (h : outI c ρ = .exc c' fs) : False := by
  unfold outI at h
  cases e : ρ[0]? with
  | none => rw [e] at h; cases h
  | some sl =>
    rw [e] at h
    cases sl with
    | obj c' fs' =>
      dsimp only at h
      by_cases hc : c' = c
      · rw [if_pos hc] at h; cases h
      · rw [if_neg hc] at h; cases h
    | _ => cases h
/-- __init__, by its body's pure reading -/
theorem fnI {x qual : Str} {params : Arguments} {body : List Stmt} {scope : Scope} {dvs : List V} {kws : List (Str × V)} {f : Addr} {fd : FuncData} {N ps : List Str} {k c : Nat} {b : Ev → Fl} (F : FunD K x qual params body scope dvs kws f fd) (S : FnScope N ps scope)
    (hb : ∀ (cdv : Value) (A : Around) (outer : List Env) (s : Shared) (H : Hp) (E : XK) (G : GC) (W : Wx), G.K = K → G.C = C → Room k (A.deeper (envOfC qual scope s.heap.objs.size f cdv)) → A.guards = some [] →
      Takes (cxOf (L2.CX P w) P w K mg base N qual scope f cdv A outer s H E) W → PSs (cxOf (L2.CX P w) P w K mg base N qual scope f cdv A outer s H E) body (pS G W b)) (hl : ps.length ≤ N.length := by decide) :
    FnG P w K mg base (k + 1) f fd ps (spI K C c ps.length (runI c N.length b)) := by
  refine fnG_of F S (fun vs H Q E h => ?_) fun cdv A outer s H vs Q E hr hg h => ?_
  · obtain ⟨S, p, dx, ds, us, e1, _, _, _, _, _, _, r, e, _⟩ := h
    rw [← e, e1, List.length_cons, r.length]
  · obtain ⟨S0, p, dx, ds, us, rfl, sm, np, nd, ne, hd, hp, r, e, h⟩ := h
    refine ⟨_, hb cdv A outer s H E ⟨K, C, H, S0, some p, fun b => b = p, [], none⟩ (fun cls d _ H' => E cls d H') rfl rfl hr hg (takes_of rfl rfl rfl rfl), S0, .obj c [] :: env0 (N.length - 1) ds, rel_startI sm np nd ne hd hp r (by omega), ?_⟩
    have fin : ∀ {ρ : Ev}, (match outI c ρ with
        | .ok fs => ∀ S' H' dx' vs', GrowM p S0 H S' H' → S' p = none → H' p = some (.ins (C.at_ c) dx' vs') → RpF K C S' vs' fs → Q .non H'
        | .exc c fs => ∀ S' H' d, GrowM p S0 H S' H' → XO K C H S' H' c fs d → E (.ref (C.at_ c)) d H'
        | .stuck => False) → ∀ {σ' S' H'}, Rel ⟨K, C, H, S0, some p, fun b => b = p, [], none⟩ S' H' σ' ρ → Q .non H' := fun {ρ} h {σ' S' H'} R => by
      cases eo : outI c ρ with
      | ok fs =>
        rw [eo] at h
        have e0 := outI_ok eo
        obtain ⟨a, dx', vs', e3, na, _, _, _, hh, rf, _⟩ := R.at_obj e0
        obtain ⟨e4, _⟩ := R.mt p rfl
        rw [e4] at e3; cases e3
        exact h S' H' dx' vs' (R.grownI0 na) na hh rf
      | exc c' fs => exact (outI_ex eo).elim
      | stuck => rw [eo] at h; exact h.elim
    unfold runI at h
    cases eb : b (.obj c [] :: env0 (N.length - 1) ds) with
    | nx ρ => rw [eb] at h; exact fun σ' S' H' _ R => fin h R
    | rt d ρ =>
      rw [eb] at h
      cases d with
      | non => exact fun σ' v S' H' _ R rd => by cases rd; exact fin h R
      | _ => exact h.elim
    | exc c' fs ρ => rw [eb] at h; exact fun σ' S' H' d _ R x => h S' H' d (R.grownI0 R.mineAt) x
    | bk ρ => rw [eb] at h; exact h.elim
    | ct ρ => rw [eb] at h; exact h.elim
    | stuck => rw [eb] at h; exact h.elim
end
/-! ### making an object, methods, calls by name -/
section
variable {X : Cx} {G : GC} {W : Wx} {pos : Pos} {k : Nat} {f C : Addr} {fd : FuncData} {ps : List Str} {sp : Sp}
theorem makeG {pins : List (Addr × Obj)} {σ : St} {H : Hp} {s : Shared} {Q : VK} {us : List Value} {vs dvs : List V} {ds : List Value} (M : Mk X.K C f) (F : FnG X.prog X.w X.K X.mg X.base k f fd ps sp) (hr : Room (k + 1) X.A) (hg : X.A.guards = some []) (hb : Binds X.K fd ps ds) (hd : Vals dvs ds) (tk : Takes X W)
    (I : Inv X pins σ H s) (r : Vals vs us) (h : ∀ (x dx : Addr), H x = none → H dx = none → dx ≠ x → sp (.ref x :: (vs ++ dvs)) (upd (upd H dx (.own x)) x (.ins C dx [])) (fun v H2 => v = .non ∧ Q (.ref x) H2) fun cls d H' => W cls d σ H') :
    wpAny (model X.prog X.w) X.A (call (.ref C) us) (EP X pins σ Q) X.xe s := by
  have hq := h (s.heap.objs.size + 1) s.heap.objs.size (HOk.fresh I.hok (Nat.le_succ _)) (HOk.fresh I.hok (Nat.le_refl _)) (Nat.ne_of_lt (Nat.lt_succ_self _))
  have I2 := Inv.made (C := C) I
  have r2 : Vals (V.ref (s.heap.objs.size + 1) :: (vs ++ dvs)) (Value.ref (s.heap.objs.size + 1) :: (us ++ ds)) := Paired.cons rfl (r.append hd)
  have hl : (Value.ref (s.heap.objs.size + 1) :: (us ++ ds)).length = ps.length := (r2.length).symm.trans (F.len _ _ _ _ hq)
  refine wpAny_call (make_map I.kIn M.makes M.init (beq_iff_eq.mp M.fn) (codeAny_mono (F.go (X.A.under (Code.builtin "type.__call__" { pos := Value.ref C :: us })) X.stack _ _ _ _ _ _ _ (hr.make C us []) hg (I2.env0.make C us []) (hb _ (Value.ref (s.heap.objs.size + 1) :: us) I2.kIn hl) r2 hq) ?_))
  rintro (e | fl) s' hq'
  · exact passAt tk σ pins _ _ e s' I2 hq'
  · cases fl with
    | ret u =>
      obtain ⟨v, H', I3, rv, ev, q3⟩ := I2.after hq'
      subst ev
      exact ⟨rv, .ref (s.heap.objs.size + 1), H', I3, rfl, q3⟩
    | _ => exact False.elim hq'
def tMakeG (C : Addr) (sp : Sp) (dvs : List V) (W : Wx) (t : TA) : TE := fun σ H Q => t σ H fun vs H1 => ∀ (x dx : Addr), H1 x = none → H1 dx = none → dx ≠ x → sp (.ref x :: (vs ++ dvs)) (upd (upd H1 dx (.own x)) x (.ins C dx [])) (fun v H2 => v = .non ∧ Q (.ref x) H2) fun cls d H' => W cls d σ H'
theorem pe_makeG {x : Str} {p : Pos} {e : Expr} {es : List Expr} {t : TA} {dvs : List V} {ds : List Value} (M : Mk X.K C f) (F : FnG X.prog X.w X.K X.mg X.base k f fd ps sp) (hr : Room (k + 1) X.A) (hg : X.A.guards = some []) (hm : X.mg x = some (.ref C)) (hb : Binds X.K fd ps ds) (hd : Vals dvs ds) (tk : Takes X W)
    (ha : PA X (e :: es) t) (hgl : Gl X x := by rfl) (hdb : (x == ("__debug__" : Str)) = false := by decide) (he : starEach (e :: es) X.env = (false, eval e X.env) :: starEach es X.env := by rfl) (hpl : (backTo pos (starEach es X.env)).any (·.1) = false := by rfl) :
    PE X (.Call (.Name x p) (e :: es) [] pos) (tMakeG C sp dvs W t) := ⟨fun pins s σ H Q I h =>
  wpAny_Call_Name_kw (ld_glob I hgl hm (PySem.W.callWith_K I.ok.mod.kin M.kp (thn (ha.run pos pins s σ H _ I h) fun us s1 ⟨vs, H1, I1, r, q⟩ => ⟨I1.kIn, makeG M F hr hg hb hd tk I1 r q⟩) he hpl) hdb)⟩
def tMethG (C : Addr) (m : Str) (sp : Sp) (dvs : List V) (W : Wx) (ta : TE) (t : TA) : TE := fun σ H Q => ta σ H fun x H1 => ∃ a dx fs, x = .ref a ∧ H1 a = some (.ins C dx fs) ∧ fs.lookup m = none ∧ t σ H1 fun vs H2 => sp (x :: (vs ++ dvs)) H2 Q fun cls d H' => W cls d σ H'
theorem pe_methG {m : Str} {apos : Pos} {e o : Expr} {es : List Expr} {ta : TE} {t : TA} {dvs : List V} {ds : List Value} {pl : Sem Bool} (ho : PE X o ta) (c : Cls X.K C) (hm : Meth X.K C m f) (F : FnG X.prog X.w X.K X.mg X.base k f fd ps sp) (hr : Room k X.A) (hg : X.A.guards = some []) (hb : Binds X.K fd ps ds) (hd : Vals dvs ds) (tk : Takes X W)
    (ha : PA X (e :: es) t) (he : starEach (e :: es) X.env = (false, eval e X.env) :: starEach es X.env := by rfl) (hpl : (backTo pos (starEach es X.env)).any (·.1) = false := by rfl)
    (ht : eval (.Call (.Attribute o m apos) (e :: es) [] pos) X.env = (do
      let ov ← eval o X.env
      standAt apos.atName
      let (f, first) ← holding [ov] (getMethod ov m pl)
      callWith pos f first (backTo pos (starEach (e :: es) X.env)) (backToKw pos (keywordEach [] X.env))) := by rfl) :
    PE X (.Call (.Attribute o m apos) (e :: es) [] pos) (tMethG C m sp dvs W ta t) := ⟨fun pins s σ H Q I h =>
  PySem.W.methodCall_KW (thn (ho.run pins s σ H _ I h) fun u s1 ⟨x, H1, I1, rx, a, dx, fs, ex, ea, l, q⟩ => by
    subst ex
    cases rx
    exact getmeth_ok I1 ea c hm l (PySem.W.callWith_K I.ok.mod.kin hm.kp (thn (ha.run pos pins s1 σ H1 _ I1 q) fun us s2 ⟨vs, H2, I2, r, q2⟩ => ⟨I2.kIn, goG F hr hg hb hd tk I2 (Paired.cons (show RelV (V.ref a) (Value.ref a) from rfl) r) q2⟩) he hpl)) ht⟩
end
end PL
namespace PL
open PySem L2
open PyProof.Rows (envOfC)
/-! ### calls by name -/
/-- a call binds values by place, and the rest by the parameters' names in their order -/
def KB (K : PySem.W.Frag) (fd : FuncData) (ps : List Str) : Prop := ∀ (s : Shared) (us ws : List Value), K.In s.heap → us.length + ws.length = ps.length → BindsTo s fd { pos := us, kw := (ps.drop us.length).zip ws } (ps.zip (us ++ ws))
theorem kbindsN {K : PySem.W.Frag} {x qual : Str} {params : Arguments} {body : List Stmt} {scope : Scope} {kws : List (Str × V)} {f : Addr} {fd : FuncData} {ps : List Str} (F : FunD K x qual params body scope [] kws f fd)
    (h : ∀ (kV doc pm : Value) (an : Option Addr) (cdv ct : Value) (us ws : List Value), us.length + ws.length = ps.length → bindArgs (PySem.W.fnOf x qual params body scope .none kV doc pm an cdv ct) { pos := us, kw := (ps.drop us.length).zip ws } = pure (ps.zip (us ++ ws))) : KB K fd ps := by
  obtain ⟨oc, od, dV, kV, doc, pm, an, cdv, ct, osl, rfl, lk, hcd, hD, hK⟩ := F.ex
  rcases hD with ⟨_, rfl⟩ | ⟨e, _⟩
  · intro s us ws _ hl M A E Q q
    rw [h kV doc pm an cdv ct us ws hl]
    exact wpAny_pure q
  · exact absurd rfl e
structure DefK (P : Program) (w : World) (K : PySem.W.Frag) (mg : Str → Option Value) (base : Heap) (x : Str) (k : Nat) (ps : List Str) (sp : Sp) : Prop where
  ex : ∃ f fd, mg x = some (.ref f) ∧ PySem.W.keepIn K (.ref f) = true ∧ Binds K fd ps [] ∧ KB K fd ps ∧ FnG P w K mg base k f fd ps sp
section
variable {X : Cx} {G : GC} {W : Wx} {pos : Pos} {k : Nat} {f C : Addr} {fd : FuncData} {ps : List Str} {sp : Sp}
theorem goK {pins : List (Addr × Obj)} {σ : St} {H : Hp} {s : Shared} {Q : VK} {us ws : List Value} {vs zs : List V} {ks : List Str} (F : FnG X.prog X.w X.K X.mg X.base k f fd ps sp) (hr : Room k X.A) (hg : X.A.guards = some []) (hb : KB X.K fd ps) (tk : Takes X W)
    (I : Inv X pins σ H s) (r : Vals vs us) (rz : Vals zs ws) (hk : ks = ps.drop us.length) (h : sp (vs ++ zs) H Q fun cls d H' => W cls d σ H') : wpAny (model X.prog X.w) X.A (call (.ref f) us (ks.zip ws)) (EP X pins σ Q) X.xe s := by
  have r2 := r.append rz
  have hl : (us ++ ws).length = ps.length := (r2.length).symm.trans (F.len _ _ _ _ h)
  subst hk
  refine wpAny_call (codeAny_mono (F.go X.A X.stack s H ⟨us, (ps.drop us.length).zip ws⟩ _ _ Q _ hr hg I.env0 (hb s us ws I.kIn (by rw [← List.length_append]; exact hl)) r2 h) ?_)
  rintro (e | fl) s' hq
  · exact passAt tk σ pins H s e s' I hq
  · cases fl with
    | ret u => exact I.after hq
    | _ => exact False.elim hq
def tCallGK (sp : Sp) (W : Wx) (t tk : TA) : TE := fun σ H Q => t σ H fun vs H1 => tk σ H1 fun zs H2 => sp (vs ++ zs) H2 Q fun cls d H' => W cls d σ H'
/-- f(k=e, ..) -/
theorem pe_callGK0 {x : Str} {p : Pos} {kws : List Keyword} {t : TA} (F : FnG X.prog X.w X.K X.mg X.base k f fd ps sp) (hr : Room k X.A) (hg : X.A.guards = some []) (hm : X.mg x = some (.ref f)) (hk : PySem.W.keepIn X.K (.ref f) = true) (hb : KB X.K fd ps) (tk : Takes X W)
    (ha : PK X kws t) (hgl : Gl X x := by rfl) (hdb : (x == ("__debug__" : Str)) = false := by decide) (hall : ((backToKw pos (keywordEach kws X.env)).all fun x => x.fst.isSome) = true := by rfl) (hks : List.filterMap (fun x => x.fst) (backToKw pos (keywordEach kws X.env)) = ps := by rfl)
    (hpl : (((backTo pos (starEach [] X.env)).any fun x => x.fst) || (backToKw pos (keywordEach kws X.env)).any fun x => x.fst.isNone) = false := by rfl) :
    PE X (.Call (.Name x p) [] kws pos) (tCallGK sp W tNil t) := ⟨fun pins s σ H Q I h =>
  wpAny_Call_Name_kw (ld_glob I hgl hm (PySem.W.callWith_KW0 I.ok.mod.kin hk hall (thn (ha.run pos pins s σ H _ I h) fun ws s2 ⟨zs, H2, I2, rz, q2⟩ => ⟨I2.kIn, by
    rw [hks]
    exact goK F hr hg hb tk I2 Paired.nil rz rfl q2⟩) hpl) hdb)⟩
/-- f(a, .., k=e, ..) -/
theorem pe_callGK {x : Str} {p : Pos} {e : Expr} {es : List Expr} {kws : List Keyword} {t tz : TA} {m : Nat} (F : FnG X.prog X.w X.K X.mg X.base k f fd ps sp) (hr : Room k X.A) (hg : X.A.guards = some []) (hm : X.mg x = some (.ref f)) (hk : PySem.W.keepIn X.K (.ref f) = true) (hb : KB X.K fd ps) (tk : Takes X W)
    (ha : PA X (e :: es) t) (hz : PK X kws tz) (hn : ∀ {σ H Q}, t σ H Q → t σ H fun vs H1 => vs.length = m ∧ Q vs H1) (hgl : Gl X x := by rfl) (hdb : (x == ("__debug__" : Str)) = false := by decide) (hall : ((backToKw pos (keywordEach kws X.env)).all fun x => x.fst.isSome) = true := by rfl) (hks : List.filterMap (fun x => x.fst) (backToKw pos (keywordEach kws X.env)) = ps.drop m := by rfl)
    (he : starEach (e :: es) X.env = (false, eval e X.env) :: starEach es X.env := by rfl)
    (hpl : (((backTo pos (starEach (e :: es) X.env)).any fun x => x.fst) || (backToKw pos (keywordEach kws X.env)).any fun x => x.fst.isNone) = false := by rfl) :
    PE X (.Call (.Name x p) (e :: es) kws pos) (tCallGK sp W t tz) := ⟨fun pins s σ H Q I h =>
  wpAny_Call_Name_kw (ld_glob I hgl hm (PySem.W.callWith_KW I.ok.mod.kin hk hall (thn (ha.run pos pins s σ H _ I (hn h)) fun us s1 ⟨vs, H1, I1, r, e1, q⟩ => thn (hz.run pos pins s1 σ H1 _ I1 q) fun ws s2 ⟨zs, H2, I2, rz, q2⟩ => ⟨I2.kIn, by
    rw [hks]
    exact goK F hr hg hb tk I2 r rz (by show ps.drop m = ps.drop us.length; rw [← r.length, e1]) q2⟩) hpl he) hdb)⟩
/-! ### by their mirrors -/
theorem k_nil : PK X [] (pA G W nilA) := ⟨fun pos pins s σ H Q I h => pk_nil.run pos pins s σ H Q I (by obtain ⟨S, ρ, R, q⟩ := h; exact q S H (Same.refl _) R _ rfl)⟩
theorem PKm {kws : List Keyword} {t t' : TA} (h : PK X kws t) (i : ∀ σ H Q, t' σ H Q → t σ H Q) : PK X kws t' := ⟨fun p pins s σ H Q I k => h.run p pins s σ H Q I (i σ H Q k)⟩
theorem k_cons {kpos : Pos} {nm : Option Str} {e : Expr} {kws : List Keyword} {a : Ev → Rs D} {l : Ev → Rs (List D)} (h : PE X e (pE G W a)) (t : PK X kws (pA G W l)) : PK X (⟨nm, e, kpos⟩ :: kws) (pA G W (consA a l)) := PKm (pk_cons h t) fun σ H Q q => by
  obtain ⟨S, ρ, R, q⟩ := q
  refine ⟨S, ρ, R, ?_⟩
  have q := Po.bind q
  cases e1 : a ρ with
  | stuck => rw [e1] at q; exact q
  | exc c fs ρ1 => rw [e1] at q; exact q
  | ok d ρ1 =>
    rw [e1] at q
    intro S1 H1 s1 R1 v rv
    have q := Po.bind (q S1 H1 s1 R1)
    refine ⟨S1, ρ1, R1, ?_⟩
    cases e2 : l ρ1 with
    | stuck => rw [e2] at q; exact q
    | exc c fs ρ2 => rw [e2] at q; exact q
    | ok ds ρ2 =>
      rw [e2] at q
      intro S2 H2 s2 R2 vs rvs
      exact q S2 H2 s2 R2 S2 H2 (Same.refl _) R2 _ (Rps.cons (Rp.mono s2 _ _ rv) rvs)
theorem callGK0_ok {fn : List D → Fr} {n : Nat} {l : Ev → Rs (List D)} {σ : St} {H : Hp} {Q : VK} (hl : ∀ {ρ ds ρ1}, l ρ = .ok ds ρ1 → ds.length = n) (h : pE G W (callE fn l) σ H Q) : tCallGK (spP G.K G.C n fn) W tNil (pA G W l) σ H Q := by
  have := callE_ok hl h
  unfold tCallG at this
  unfold tCallGK tNil
  simpa using this
/-- f(k=e, ..) of a def of the module -/
theorem e_callK0 {x : Str} {p : Pos} {kws : List Keyword} {fn : List D → Fr} {n : Nat} {l : Ev → Rs (List D)} (F : DefK X.prog X.w X.K X.mg X.base x k ps (spP G.K G.C n fn)) (hr : Room k X.A) (hg : X.A.guards = some []) (tk : Takes X W)
    (ha : PK X kws (pA G W l)) (hl : ∀ {ρ ds ρ1}, l ρ = .ok ds ρ1 → ds.length = n) (hgl : Gl X x := by rfl) (hdb : (x == ("__debug__" : Str)) = false := by decide) (hall : ((backToKw pos (keywordEach kws X.env)).all fun x => x.fst.isSome) = true := by rfl) (hks : List.filterMap (fun x => x.fst) (backToKw pos (keywordEach kws X.env)) = ps := by rfl)
    (hpl : (((backTo pos (starEach [] X.env)).any fun x => x.fst) || (backToKw pos (keywordEach kws X.env)).any fun x => x.fst.isNone) = false := by rfl) :
    PE X (.Call (.Name x p) [] kws pos) (pE G W (callE fn l)) := by
  obtain ⟨f, fd, hm, hk, hb, kb, h⟩ := F.ex
  exact PEm (pe_callGK0 h hr hg hm hk kb tk ha hgl hdb hall hks hpl) fun _ _ _ h => callGK0_ok hl h
theorem DefK.def {P : Program} {w : World} {K : PySem.W.Frag} {mg : Str → Option Value} {base : Heap} {x : Str} {k : Nat} {ps : List Str} {sp : Sp} (d : DefK P w K mg base x k ps sp) : Def P w K mg base x k ps sp := by
  obtain ⟨f, fd, hm, hk, hb, _, h⟩ := d.ex
  exact ⟨f, fd, hm, hk, hb, h⟩
theorem DefK.mk' {P : Program} {w : World} {K : PySem.W.Frag} {mg : Str → Option Value} {base : Heap} {x x2 qual : Str} {params : Arguments} {body : List Stmt} {scope : Scope} {dvs : List V} {kws : List (Str × V)} {f : Addr} {fd : FuncData} {k : Nat} {ps : List Str} {sp : Sp}
    (F : FunD K x2 qual params body scope dvs kws f fd) (gm : mg x = some (.ref f)) (b : Binds K fd ps []) (kb : KB K fd ps) (h : FnG P w K mg base k f fd ps sp) : DefK P w K mg base x k ps sp := ⟨f, fd, gm, F.kp, b, kb, h⟩
/-- a class: its __init__ -/
structure DefI (P : Program) (w : World) (K : PySem.W.Frag) (mg : Str → Option Value) (base : Heap) (x : Str) (C : Addr) (k : Nat) (ps : List Str) (sp : Sp) : Prop where
  ex : ∃ f fd, mg x = some (.ref C) ∧ Mk K C f ∧ Binds K fd ps [] ∧ FnG P w K mg base k f fd ps sp
/-- a method of a class -/
structure DefT (P : Program) (w : World) (K : PySem.W.Frag) (mg : Str → Option Value) (base : Heap) (m : Str) (C : Addr) (k : Nat) (ps : List Str) (sp : Sp) : Prop where
  ex : ∃ f fd, Cls K C ∧ Meth K C m f ∧ Binds K fd ps [] ∧ FnG P w K mg base k f fd ps sp
def makeE (c : Nat) (ns : List Str) (fn : List D → FrI) (l : Ev → Rs (List D)) : Ev → Rs D := fun ρ => (l ρ).bind fun ds ρ1 => match fn ds with
  | .ok fs => if fs.map (·.1) = ns then .ok (.ins c (fs.map (·.2))) ρ1 else .stuck
  | .exc c fs => .exc c fs ρ1
  | .stuck => .stuck
theorem RpF.rps {K : PySem.W.Frag} {C : CT} {S : Hp} {vs : List (Str × V)} {fs : List (Str × D)} (r : RpF K C S vs fs) : vs = (fs.map (·.1)).zip (vs.map (·.2)) ∧ Rps K C S (fs.map (·.2)) (vs.map (·.2)) := by
  induction r with
  | nil => exact ⟨rfl, rfl⟩
  | @cons f v d fs gs h _ ih => exact ⟨by simp only [List.map_cons, List.zip_cons_cons]; rw [← ih.1], Rps.cons h ih.2⟩
/-- C(e, ..) -/
theorem e_make {c : Nat} {ns : List Str} {x : Str} {p : Pos} {e : Expr} {es : List Expr} {fn : List D → FrI} {n : Nat} {l : Ev → Rs (List D)} (F : DefI X.prog X.w X.K X.mg X.base x (G.C.at_ c) k ps (spI G.K G.C c (n + 1) fn)) (hns : G.C.fn c = ns) (hr : Room (k + 1) X.A) (hg : X.A.guards = some []) (tk : Takes X W)
    (ha : PA X (e :: es) (pA G W l)) (hl : ∀ {ρ ds ρ1}, l ρ = .ok ds ρ1 → ds.length = n) (hgl : Gl X x := by rfl) (hdb : (x == ("__debug__" : Str)) = false := by decide) (he : starEach (e :: es) X.env = (false, eval e X.env) :: starEach es X.env := by rfl) (hpl : (backTo pos (starEach es X.env)).any (·.1) = false := by rfl) :
    PE X (.Call (.Name x p) (e :: es) [] pos) (pE G W (makeE c ns fn l)) := by
  obtain ⟨f, fd, hm, mk, hb, h⟩ := F.ex
  refine PEm (pe_makeG mk h hr hg hm hb .nil tk ha hgl hdb he hpl) fun σ H Q q => ?_
  obtain ⟨S, ρ, R, q⟩ := q
  refine ⟨S, ρ, R, ?_⟩
  have q := Po.bind q
  cases el : l ρ with
  | stuck => rw [el] at q; exact q
  | exc c fs ρ1 => rw [el] at q; exact q
  | ok ds ρ1 =>
    rw [el] at q
    intro S1 H1 s1 R1 us r x dx hx hdx ne
    have q := q S1 H1 s1 R1
    dsimp only at q
    have nx : S1 x = none := R1.sub.free hx
    have nd : S1 dx = none := R1.sub.free hdx
    have g1 := Grow.loose R1.sub (.own x) hdx
    have hx2 : upd H1 dx (HO.own x) x = none := by rw [upd_ne (Ne.symm ne)]; exact hx
    have g2 := Grow.loose g1.sub (.ins (G.C.at_ c) dx []) hx2
    have back : ∀ {S' H' : Hp}, GrowM x S1 (upd (upd H1 dx (.own x)) x (.ins (G.C.at_ c) dx [])) S' H' → Grow S1 H1 S' H' := fun {S' H'} g => ⟨g.sS, fun b o q => g.hH b o (by rw [upd_ne (ne_of_none q hx), upd_ne (ne_of_none q hdx)]; exact q) (ne_of_none q hx), g.sub, fun a o q => by
      rcases g.nw a o q with z | z
      · exact .inl z
      · exact .inr (by
          by_cases ha : a = x
          · rw [ha]; exact hx
          · rw [upd_ne ha] at z
            by_cases hb : a = dx
            · rw [hb]; exact hdx
            · rw [upd_ne hb] at z; exact z), g.nt⟩
    refine ⟨S1, x, dx, ds, us, by rw [List.append_nil], g2.sub, nx, nd, ne, by rw [upd_ne ne]; exact upd_same, upd_same, r, by rw [hl el], ?_⟩
    cases ef : fn ds with
    | ok fs =>
      rw [ef] at q
      dsimp only at q
      by_cases hfs : fs.map (·.1) = ns
      · rw [if_pos hfs] at q
        intro S' H' dx' vs' g n' hh rf
        refine ⟨rfl, ?_⟩
        have g3 := back g
        obtain ⟨z1, z2⟩ := rf.rps
        have g4 : Grow S1 H1 (upd S' x (.ins (G.C.at_ c) dx' vs')) H' := ⟨fun b o q => by rw [upd_ne (ne_of_none q nx)]; exact g3.sS b o q, g3.hH, fun b o q => by
          by_cases hb : b = x
          · subst hb; rw [upd_same] at q; cases q; exact hh
          · rw [upd_ne hb] at q; exact g3.sub b o q, fun b o q => by
          by_cases hb : b = x
          · subst hb; exact .inr hx
          · rw [upd_ne hb] at q; exact g3.nw b o q, fun z => (g3.nt z).upd fun _ => nofun⟩
        refine q _ H' g4.sS (R1.grow g4) _ ⟨x, dx', vs'.map (·.2), rfl, ?_, ?_, Rps.mono (fun b o q => by rw [upd_ne (ne_of_none q n')]; exact q) _ _ z2⟩
        · rw [upd_same, hns, ← hfs, ← z1]
        · rw [hns, ← hfs, List.length_map, List.length_map]
      · rw [if_neg hfs] at q; exact q.elim
    | exc c' fs =>
      rw [ef] at q
      intro S' H' d g xo
      have g3 := back g
      exact q S' H' d g3.sS (R1.grow g3) ((xo.from_ fun _ z => upd_none (upd_none z)).up R1)
    | stuck => rw [ef] at q; exact q
def methE (c : Nat) (fn : List D → Fr) (o : Ev → Rs D) (l : Ev → Rs (List D)) : Ev → Rs D := fun ρ => (o ρ).bind fun d ρ1 => match d with
  | .ins c' fs => if c' = c then (l ρ1).bind fun ds ρ2 => (match fn (.ins c fs :: ds) with
    | .ok d => .ok d ρ2
    | .exc c fs => .exc c fs ρ2
    | .stuck => .stuck) else .stuck
  | _ => .stuck
/-- o.m(e, ..) -/
theorem e_meth {c : Nat} {m : Str} {apos : Pos} {o e : Expr} {es : List Expr} {fn : List D → Fr} {n : Nat} {a : Ev → Rs D} {l : Ev → Rs (List D)} {pl : Sem Bool} (F : DefT X.prog X.w X.K X.mg X.base m (G.C.at_ c) k ps (spP G.K G.C (n + 1) fn)) (hm : m ∉ G.C.fn c) (hr : Room k X.A) (hg : X.A.guards = some []) (tk : Takes X W)
    (ho : PE X o (pE G W a)) (ha : PA X (e :: es) (pA G W l)) (hl : ∀ {ρ ds ρ1}, l ρ = .ok ds ρ1 → ds.length = n) (he : starEach (e :: es) X.env = (false, eval e X.env) :: starEach es X.env := by rfl) (hpl : (backTo pos (starEach es X.env)).any (·.1) = false := by rfl)
    (ht : eval (.Call (.Attribute o m apos) (e :: es) [] pos) X.env = (do
      let ov ← eval o X.env
      standAt apos.atName
      let (f, first) ← holding [ov] (getMethod ov m pl)
      callWith pos f first (backTo pos (starEach (e :: es) X.env)) (backToKw pos (keywordEach [] X.env))) := by rfl) :
    PE X (.Call (.Attribute o m apos) (e :: es) [] pos) (pE G W (methE c fn a l)) := by
  obtain ⟨f, fd, cl, mt, hb, h⟩ := F.ex
  refine PEm (pe_methG ho cl mt h hr hg hb .nil tk ha he hpl ht) fun σ H Q q => ?_
  obtain ⟨S, ρ, R, q⟩ := q
  refine ⟨S, ρ, R, ?_⟩
  have q := Po.bind q
  cases ea : a ρ with
  | stuck => rw [ea] at q; exact q
  | exc c fs ρ1 => rw [ea] at q; exact q
  | ok d ρ1 =>
    rw [ea] at q
    intro S1 H1 s1 R1 v rv
    have q := q S1 H1 s1 R1
    cases d with
    | ins c' fs =>
      dsimp only at q
      by_cases hc : c' = c
      · subst hc
        rw [if_pos rfl] at q
        obtain ⟨a, dx, vs, rfl, q1, l1, r1⟩ := rv
        refine ⟨a, dx, _, rfl, R1.sub _ _ q1, zip_none hm, S1, ρ1, R1, ?_⟩
        have q := Po.bind q
        cases el : l ρ1 with
        | stuck => rw [el] at q; exact q
        | exc c fs ρ2 => rw [el] at q; exact q
        | ok ds ρ2 =>
          rw [el] at q
          intro S2 H2 s2 R2 us r
          have q := q S2 H2 s2 R2
          dsimp only at q
          refine ⟨S2, .ins c' fs :: ds, R2.sub, by rw [List.append_nil]; exact Rps.cons ⟨a, dx, vs, rfl, s2 _ _ q1, l1, Rps.mono s2 _ _ r1⟩ r, by rw [List.length_cons, hl el], ?_⟩
          cases ef : fn (.ins c' fs :: ds) with
          | ok d => rw [ef] at q; exact fun v S' H' g r => q S' H' g.sS (R2.grow g) v r
          | exc c fs => rw [ef] at q; exact fun S' H' d g xo => q S' H' d g.sS (R2.grow g) (xo.up R2)
          | stuck => rw [ef] at q; exact q
      · rw [if_neg hc] at q; exact q.elim
    | _ => exact q.elim
end
end PL
namespace PL
open PySem L2
/-! ### sums of tuples, roots -/
def rSum2 (K : PySem.W.Frag) : List V → Hp → VK → Prop := fun vs H Q => ∃ (a : Addr) (ns : List Int), vs = [V.ref a] ∧ (SqL K H a (ns.map V.int) ∨ SqT K H a (ns.map V.int)) ∧ Q (.int ns.sum) H
theorem IsTup.isTuple {h : Heap} {a : Addr} {its : Array Value} (t : PyProof.Rows.IsTup h a its) : h.IsTuple a its := by
  exact t
theorem sum_rawT {prog : Program} {w : World} {A : Around} {E : Value → Shared → Prop} {s : Shared} {l : Addr} {its : List Value} {ns : List Int} {Q : Value → Shared → Prop} (hh : A.handled = none) (hl : s.heap.IsTuple l its.toArray) (hi : PyProof.Rows.IntsAre its ns)
    (h : ∀ (h' : Heap) (tk : Nat) (t' : Tok), (∀ b o, s.heap.get? b = some o → h'.get? b = some o) → Q (.int ns.sum t') { s with heap := h', toks := tk }) : wpAny (model prog w) A (call (.builtin "sum") [.ref l]) Q E s := by
  obtain ⟨xs, e⟩ := AllInts.items (PyProof.Rows.IntsAre.allInts hi)
  have hn : numsOf (intItems xs).toList = ns := by rw [← e]; exact PyProof.Rows.IntsAre.numsOf hi
  rw [e] at hl
  refine PySem.W.ktm_sumG hh hl fun h' tk t' hk => ?_
  have := h h' tk t' hk
  rw [preSum_eq, List.take_of_length_le (by simp), ← nums_intItems, hn]
  exact this
theorem cr_sum2 {X : Cx} (hc : X.calm = true) : CallR X (.builtin "sum") (rSum2 X.K) := by
  intro pins s σ H vs us Q I r h
  obtain ⟨a, ns, rfl, hs | hs, q⟩ := h
  · exact cr_sum hc pins s σ H _ us Q I r ⟨a, ns, rfl, hs, q⟩
  · obtain ⟨its, rv, hl, _⟩ := I.tuple hs
    rw [Vals.ref1 r]
    exact sum_rawT (I.ok.hd hc) hl (Vals.ints rv) fun h' tk t' hk => ⟨V.int ns.sum, H, I.kept hk, ⟨t', rfl⟩, q⟩
def oSum2 : D → Option D := fun d => (seqOf d).bind fun xs => (intsOf xs).map fun ns => .int ns.sum
theorem sp_sum2 {G : GC} : USpec G (fun v H Q => rSum2 G.K [v] H Q) oSum2 := by
  intro S H x d d' Q s b e k
  simp only [oSum2, Option.bind_eq_some_iff, Option.map_eq_some_iff] at e
  obtain ⟨xs, e1, ns, e2, rfl⟩ := e
  obtain ⟨a, vs, rfl, q, r⟩ := b.seq s e1
  rw [intsOf_eq e2] at r
  rw [r.ints] at q
  exact ⟨a, ns, rfl, q, k _ S H (Grow.refl s) rfl⟩
def rIsqrt : List V → Hp → VK → Prop := fun vs H Q => ∃ a : Int, vs = [.int a] ∧ 0 ≤ a ∧ a.toNat.log2 < 13000 ∧ Q (.int (Float64.isqrt a.toNat)) H
theorem cr_isqrt {X : Cx} : CallR X (.builtin "math.isqrt") rIsqrt := by
  intro pins s σ H vs us Q I r h
  obtain ⟨a, rfl, h0, h1, q⟩ := h
  obtain ⟨u, rfl, ru⟩ := vals1 r
  obtain ⟨t, rfl⟩ := ru
  exact call_function_meets PySem.W.MGF.kind_isqrt PySem.W.MGF.plain_isqrt PySem.W.MGF.entry_isqrt (PySem.W.MGF.args_isqrt _)
    (Gives.meets (PySem.W.mg_run_isqrt a t (by omega) (by omega) (by omega))) ⟨V.int (Float64.isqrt a.toNat), H, I.tok (s.toks + 1), ⟨s.toks, rfl⟩, q⟩
def oIsqrt : D → Option D
  | .int a => if 0 ≤ a ∧ a.toNat.log2 < 13000 then some (.int (Float64.isqrt a.toNat)) else none
  | _ => none
theorem sp_isqrt {G : GC} : USpec G (fun v H Q => rIsqrt [v] H Q) oIsqrt := by
  intro S H x d d' Q s b e k
  cases d <;> try cases e
  rename_i a
  simp only [oIsqrt] at e
  by_cases h : 0 ≤ a ∧ a.toNat.log2 < 13000
  · rw [if_pos h] at e
    cases e
    exact ⟨a, by rw [b.int], h.1, h.2, k _ S H (Grow.refl s) rfl⟩
  · rw [if_neg h] at e; cases e
/-! ### a < b < c -/
section
variable {X : Cx} {G : GC} {W : Wx} {pos : Pos}
def chQ (o o' : D → D → Option D) (f g h : Ev → Option D) : Ev → Option D := fun ρ => (f ρ).bind fun a => (g ρ).bind fun b => (o a b).bind fun k => match k with
  | .bl true => (h ρ).bind fun c => o' b c
  | .bl false => some (.bl false)
  | _ => none
theorem q_chain {r r' : R2} {o o' : D → D → Option D} {a b c : Expr} {f g h : Ev → Option D} {op op' : CmpOp} (ho : OpR X (compareOp op) r) (sp : BSpec G r o) (ho' : OpR X (compareOp op') r') (sp' : BSpec G r' o') (ha : PE X a (pB G f)) (hb : PE X b (pB G g)) (hc : PE X c (pB G h)) (hm : lastMarks [op, op'] [b, c] = false := by rfl) :
    PE X (.Compare a [op, op'] [b, c] pos) (pQ G (chQ o o' f g h)) := PEm (pe_chain ho ho' ha hb hc hm) fun σ H Q ⟨S, ρ, R, q⟩ => by
  refine ⟨S, ρ, R, ?_⟩
  unfold chQ at q
  cases e : f ρ with
  | none => rw [e] at q; exact q
  | some d =>
    rw [e, Option.bind_some] at q
    intro v S1 H1 g1 b1
    refine ⟨S1, ρ, R.grow g1, ?_⟩
    cases e2 : g ρ with
    | none => rw [e2] at q; exact q.elim
    | some d2 =>
      rw [e2, Option.bind_some] at q
      intro v2 S2 H2 g2 b2
      cases e3 : o d d2 with
      | none => rw [e3] at q; exact q.elim
      | some d' =>
        rw [e3, Option.bind_some] at q
        refine sp S2 H2 v v2 d d2 d' _ g2.sub (b1.grow g2) b2 e3 fun v3 S3 H3 g3 r3 => ?_
        cases d' with
        | bl k =>
          refine ⟨k, r3, ?_⟩
          cases k with
          | false => exact iteF (q _ _ _ ((g1.trans g2).trans g3) rfl)
          | true =>
            refine iteT ⟨S3, ρ, R.grow ((g1.trans g2).trans g3), ?_⟩
            dsimp only at q
            cases e4 : h ρ with
            | none => rw [e4] at q; exact q.elim
            | some d4 =>
              rw [e4, Option.bind_some] at q
              intro v4 S4 H4 g4 b4
              cases e5 : o' d2 d4 with
              | none => rw [e5] at q; exact q.elim
              | some d5 =>
                rw [e5] at q
                exact sp' S4 H4 v2 v4 d2 d4 d5 Q g4.sub (b2.grow (g3.trans g4)) b4 e5 fun v5 S5 H5 g5 r5 => q v5 S5 H5 ((((g1.trans g2).trans g3).trans g4).trans g5) r5
        | _ => exact q.elim
end
/-! ### x in xs -/
def inL (neg : Bool) : D → D → Option D := fun x y => match y with
  | .lst ys => (py? x).bind fun p => (pys? ys).bind fun ps => if SeqAt.shaped p && SeqAt.shaped (.list ps) then some (.bl (if neg then !(ps.any fun z => PyData.eqv z p) else ps.any fun z => PyData.eqv z p)) else none
  | _ => none
theorem inL_dp {G : GC} {S H : Hp} {x y : V} {d1 d2 d' : D} {neg : Bool} (s : Same S H) (b1 : BRp G S H d1 x) (b2 : BRp G S H d2 y) (e : inL neg d1 d2 = some d') : ∃ p ps, Dp G.K H x p ∧ Dp G.K H y (.list ps) ∧ SeqAt.shaped p = true ∧ SeqAt.shaped (.list ps) = true ∧ d' = .bl (if neg then !(ps.any fun z => PyData.eqv z p) else ps.any fun z => PyData.eqv z p) := by
  unfold inL at e
  cases d2 <;> try cases e
  rename_i ys
  simp only [Option.bind_eq_some_iff] at e
  obtain ⟨p, e1, ps, e2, e⟩ := e
  cases c : (SeqAt.shaped p && SeqAt.shaped (.list ps)) with
  | false => rw [c] at e; cases e
  | true =>
    rw [c] at e
    cases e
    obtain ⟨c1, c2⟩ := Bool.and_eq_true_iff.mp c
    exact ⟨p, ps, b1.dp s e1, b2.dp s (by simp only [py?, e2]; rfl), c1, c2, rfl⟩
theorem sp_inL {G : GC} : BSpec G (rInD G.K) (inL false) := by
  intro S H x y d1 d2 d' Q s b1 b2 e k
  obtain ⟨p, ps, h1, h2, h3, h4, rfl⟩ := inL_dp s b1 b2 e
  exact ⟨p, ps, h1, h2, h3, h4, k _ S H (Grow.refl s) rfl⟩
theorem sp_notInL {G : GC} : BSpec G (rNotInD G.K) (inL true) := by
  intro S H x y d1 d2 d' Q s b1 b2 e k
  obtain ⟨p, ps, h1, h2, h3, h4, rfl⟩ := inL_dp s b1 b2 e
  exact ⟨p, ps, h1, h2, h3, h4, k _ S H (Grow.refl s) rfl⟩
/-- a number in a tuple (or list) of numbers -/
def inI (neg : Bool) : D → D → Option D := fun x y => match x with
  | .int i => (seqOf y).bind fun ys => (intsOf ys).map fun ns => .bl (if neg then !(ns.any fun n => n == i) else ns.any fun n => n == i)
  | _ => none
theorem inV_ints (i : Int) : ∀ ns : List Int, inV (.int i) (ns.map V.int) = ns.any fun n => n == i
  | [] => rfl
  | n :: ns => by
    have := inV_ints i ns
    unfold inV at this ⊢
    simp only [List.map_cons, List.any_cons, this]
    rfl
theorem flat_ints : ∀ ns : List Int, (ns.map V.int).all flatV = true
  | [] => rfl
  | n :: ns => by simp only [List.map_cons, List.all_cons, flat_ints ns]; rfl
theorem sp_inI {G : GC} {neg : Bool} : BSpec G (rIn G.K neg) (inI neg) := by
  intro S H x y d1 d2 d' Q s b1 b2 e k
  unfold inI at e
  cases d1 <;> try cases e
  rename_i i
  simp only [Option.bind_eq_some_iff, Option.map_eq_some_iff] at e
  obtain ⟨ys, e1, ns, e2, rfl⟩ := e
  obtain ⟨a, vs, rfl, q, r⟩ := b2.seq s e1
  rw [intsOf_eq e2] at r
  rw [r.ints] at q
  refine ⟨a, _, rfl, q, by rw [b1.int]; rfl, flat_ints ns, ?_⟩
  rw [b1.int, inV_ints]
  exact k _ S H (Grow.refl s) rfl
def inD (neg : Bool) : D → D → Option D := orE (inI neg) (inL neg)
section
variable {X : Cx}
theorem op_inA (hu : X.A.units + 65 < cLine) : OpR X (compareOp .In) (fun x y H Q => rIn X.K false x y H Q ∨ rInD X.K x y H Q) := op_in_seq.or (op_inD hu)
theorem op_notInA (hu : X.A.units + 65 < cLine) : OpR X (compareOp .NotIn) (fun x y H Q => rIn X.K true x y H Q ∨ rNotInD X.K x y H Q) := op_notIn_seq.or (op_notInD hu)
end
theorem sp_inA {G : GC} : BSpec G (fun x y H Q => rIn G.K false x y H Q ∨ rInD G.K x y H Q) (inD false) := sp_inI.or sp_inL
theorem sp_notInA {G : GC} : BSpec G (fun x y H Q => rIn G.K true x y H Q ∨ rNotInD G.K x y H Q) (inD true) := sp_inI.or sp_notInL
end PL
namespace PL
open PySem
section
variable {P : List Value → List Value → Prop}
theorem split0 (h0 : P [] []) : ∀ us ws : List Value, us.length + ws.length = 0 → P us ws := fun us ws h => by
  have h1 : us = [] := List.length_eq_zero_iff.mp (by omega)
  have h2 : ws = [] := List.length_eq_zero_iff.mp (by omega)
  rw [h1, h2]; exact h0
theorem splitS {n : Nat} (h0 : ∀ ws, ws.length = n + 1 → P [] ws) (h1 : ∀ a, ∀ us ws : List Value, us.length + ws.length = n → P (a :: us) ws) : ∀ us ws : List Value, us.length + ws.length = n + 1 → P us ws
  | [], ws, h => h0 ws (by simpa using h)
  | a :: us, ws, h => h1 a us ws (by simp at h; omega)
theorem len1 {P : List Value → Prop} (h : ∀ a, P [a]) : ∀ ws : List Value, ws.length = 1 → P ws
  | [a], _ => h a
theorem len2 {P : List Value → Prop} (h : ∀ a b, P [a, b]) : ∀ ws : List Value, ws.length = 2 → P ws
  | [a, b], _ => h a b
theorem len3 {P : List Value → Prop} (h : ∀ a b c, P [a, b, c]) : ∀ ws : List Value, ws.length = 3 → P ws
  | [a, b, c], _ => h a b c
theorem len4 {P : List Value → Prop} (h : ∀ a b c d, P [a, b, c, d]) : ∀ ws : List Value, ws.length = 4 → P ws
  | [a, b, c, d], _ => h a b c d
theorem len5 {P : List Value → Prop} (h : ∀ a b c d e, P [a, b, c, d, e]) : ∀ ws : List Value, ws.length = 5 → P ws
  | [a, b, c, d, e], _ => h a b c d e
theorem split1 (h0 : ∀ a, P [] [a]) (h1 : ∀ a, P [a] []) : ∀ us ws : List Value, us.length + ws.length = 1 → P us ws :=
  splitS (len1 h0) fun a => split0 (P := fun us ws => P (a :: us) ws) (h1 a)
theorem split2 (h0 : ∀ a b, P [] [a, b]) (h1 : ∀ a b, P [a] [b]) (h2 : ∀ a b, P [a, b] []) : ∀ us ws : List Value, us.length + ws.length = 2 → P us ws :=
  splitS (len2 h0) fun a => split1 (P := fun us ws => P (a :: us) ws) (h1 a) (h2 a)
theorem split3 (h0 : ∀ a b c, P [] [a, b, c]) (h1 : ∀ a b c, P [a] [b, c]) (h2 : ∀ a b c, P [a, b] [c]) (h3 : ∀ a b c, P [a, b, c] []) : ∀ us ws : List Value, us.length + ws.length = 3 → P us ws :=
  splitS (len3 h0) fun a => split2 (P := fun us ws => P (a :: us) ws) (h1 a) (h2 a) (h3 a)
theorem split4 (h0 : ∀ a b c d, P [] [a, b, c, d]) (h1 : ∀ a b c d, P [a] [b, c, d]) (h2 : ∀ a b c d, P [a, b] [c, d]) (h3 : ∀ a b c d, P [a, b, c] [d]) (h4 : ∀ a b c d, P [a, b, c, d] []) : ∀ us ws : List Value, us.length + ws.length = 4 → P us ws :=
  splitS (len4 h0) fun a => split3 (P := fun us ws => P (a :: us) ws) (h1 a) (h2 a) (h3 a) (h4 a)
theorem split5 (h0 : ∀ a b c d e, P [] [a, b, c, d, e]) (h1 : ∀ a b c d e, P [a] [b, c, d, e]) (h2 : ∀ a b c d e, P [a, b] [c, d, e]) (h3 : ∀ a b c d e, P [a, b, c] [d, e]) (h4 : ∀ a b c d e, P [a, b, c, d] [e]) (h5 : ∀ a b c d e, P [a, b, c, d, e] []) : ∀ us ws : List Value, us.length + ws.length = 5 → P us ws :=
  splitS (len5 h0) fun a => split4 (P := fun us ws => P (a :: us) ws) (h1 a) (h2 a) (h3 a) (h4 a) (h5 a)
end
end PL
namespace PL
open PySem L2
open PyProof.Rows (envOfC)
/-! ### defs whose last parameter takes what is left -/
structure FnN (P : Program) (w : World) (K : PySem.W.Frag) (mg : Str → Option Value) (base : Heap) (k : Nat) (f : Addr) (sp : Sp) : Prop where
  go : ∀ (A : Around) (outer : List Env) (s : Shared) (H : Hp) (us : List Value) (vs : List V) (Q : VK) (E : XK), Room k A → A.guards = some [] →
    Env0 P w K mg base A outer s H → Vals vs us → sp vs H Q E → codeAny (model P w) A (.call (.ref f) ⟨us, []⟩) (CR (L2.CX P w) outer P w H s Q E) s
section
variable {P : Program} {w : World} {K : PySem.W.Frag} {mg : Str → Option Value} {base : Heap} {C : CT}
theorem FnG.n {k : Nat} {f : Addr} {fd : FuncData} {ps : List Str} {sp : Sp} (F : FnG P w K mg base k f fd ps sp) (hb : Binds K fd ps []) : FnN P w K mg base k f sp :=
  ⟨fun A outer s H us vs Q E hr hg e0 r h => F.go A outer s H ⟨us, []⟩ us vs Q E hr hg e0 (by
    have hl : us.length = ps.length := (r.length).symm.trans (F.len _ _ _ _ h)
    have := hb s us (fun b o q => (e0.bs _ _ (e0.mod.kin b o q)).1) (by rw [List.append_nil]; exact hl)
    rw [List.append_nil] at this
    exact this) r h⟩
theorem fnN_star {x qual : Str} {params : Arguments} {body : List Stmt} {scope : Scope} {kws : List (Str × V)} {f : Addr} {fd : FuncData} {N ps : List Str} {pv : Str} {k : Nat} {sp : Sp} (F : FunD K x qual params body scope [] kws f fd) (S : FnScope N (ps ++ [pv]) scope)
    (hb : ∀ (kV doc pm : Value) (an : Option Addr) (cdv ct : Value) (us rest : List Value), us.length = ps.length → bindArgs (PySem.W.fnOf x qual params body scope .none kV doc pm an cdv ct) { pos := us ++ rest } = (do
      let t ← newTuple rest
      pure (ps.zip us ++ [(pv, t)])))
    (hbody : ∀ (cdv : Value) (A : Around) (outer : List Env) (s : Shared) (H : Hp) (vs : List V) (Q : VK) (E : XK), Room k (A.deeper (envOfC qual scope s.heap.objs.size f cdv)) → A.guards = some [] → sp vs H Q E →
      ∃ t, PSs (cxOf (L2.CX P w) P w K mg base N qual scope f cdv A outer s H E) body t ∧ t { nx := fun _ H' => Q .non H', rt := Q } (L2.start N vs) H) :
    FnN P w K mg base (k + 1) f (fun vs H Q E => ∃ ws rest, vs = ws ++ rest ∧ ws.length = ps.length ∧ rest.length ≤ sizeLine ∧ ∀ p : Addr, H p = none → sp (ws ++ [.ref p]) (upd H p (.tup rest)) Q E) := by
  obtain ⟨oc, od, dV, kV, doc, pm, an, cdv, ct, osl, rfl, lk, hcd, hD, hK⟩ := F.ex
  rcases hD with ⟨_, rfl⟩ | ⟨e, _⟩
  · refine ⟨fun A outer s H us vs Q E hr hg e0 r hsp => ?_⟩
    obtain ⟨ws, rest, rfl, hl, hz, hq⟩ := hsp
    obtain ⟨u1, u2, rfl, r1, r2⟩ := StX.vals_split r
    have hn := HOk.fresh e0.hok (Nat.le_refl s.heap.objs.size)
    have hl1 : u1.length = ps.length := by rw [← r1.length]; exact hl
    have hl2 : u2.length ≤ sizeLine := by rw [← r2.length]; exact hz
    refine StX.run_bnd (G := fun xs H2 => ∃ p, H p = none ∧ xs = ws ++ [V.ref p] ∧ H2 = upd H p (HO.tup rest)) lk hcd S hr e0 ?_ ?_
    · intro A' Ex Q' h
      rw [hb kV doc pm an cdv ct u1 u2 hl1]
      refine wpAny_bind (wpAny_newTuple (wpAny_pure ?_) hl2)
      have z := h { s with heap := s.heap.push { cls := Value.type "tuple", data := Data.seq u2.toArray } } (upd H s.heap.objs.size (HO.tup rest)) (ws ++ [V.ref s.heap.objs.size]) (u1 ++ [Value.ref s.heap.objs.size])
        (StX.env0_laid e0 ⟨hz, u2, r2, _, Heap.get?_push_size s.heap rfl, rfl, 0, rfl⟩) (StX.un_laid hn) rfl
        (fun e s' => StX.cxUp outer s H _ _ E e s' (StX.un_laid hn) (fun b o q => Heap.get?_push_of_some _ q) rfl)
        (Vals.append r1 (Paired.cons (show RelV (V.ref s.heap.objs.size) (Value.ref s.heap.objs.size) from rfl) Paired.nil)) (by rw [List.length_append, List.length_append, hl]; rfl) ⟨_, hn, rfl, rfl⟩
      rw [List.zip_append hl1.symm] at z
      exact z
    · rintro s2 H2 xs ⟨p, hp, rfl, rfl⟩ hr'
      exact hbody cdv A outer s2 _ _ Q E hr' hg (hq p hp)
  · exact absurd rfl e
end
/-! ### own objects that are filled further -/
inductive FrO where
  | ok (fs : List (Str × D)) | exc (c : Nat) (fs : List D) | stuck
/-- a def that fills an object (its first argument): class, fields so far, the other arguments -/
def spO (K : PySem.W.Frag) (C : CT) (n : Nat) (g : Nat → List (Str × D) → List D → FrO) : Sp := fun vs H Q E => ∃ S p dx c fs0 vs0 ds us, vs = .ref p :: us ∧ Same S H ∧ S p = none ∧ S dx = none ∧ dx ≠ p ∧ H dx = some (.own p) ∧ H p = some (.ins (C.at_ c) dx vs0) ∧ RpF K C S vs0 fs0 ∧ Rps K C S ds us ∧ ds.length + 1 = n ∧ match g c fs0 ds with
  | .ok fs => ∀ S' H' dx' vs', GrowM p S H S' H' → S' p = none → S' dx' = none → dx' ≠ p → H' dx' = some (.own p) → H' p = some (.ins (C.at_ c) dx' vs') → RpF K C S' vs' fs → Q .non H'
  | .exc c fs => ∀ S' H' d, GrowM p S H S' H' → XO K C H S' H' c fs d → E (.ref (C.at_ c)) d H'
  | .stuck => False
def outO (c : Nat) (ρ : Ev) : FrO := match ρ[0]? with
  | some (Sl.obj c' fs) => if c' = c then .ok fs else .stuck
  | _ => .stuck
theorem outO_ok {c : Nat} {ρ : Ev} {fs : List (Str × D)} (h : outO c ρ = .ok fs) : ρ[0]? = some (.obj c fs) := by
  unfold outO at h
  cases e : ρ[0]? with
  | none => rw [e] at h; cases h
  | some sl =>
    rw [e] at h
    cases sl with
    | obj c' fs' =>
      dsimp only at h
      by_cases hc : c' = c
      · rw [if_pos hc] at h; cases h; rw [hc]
      · rw [if_neg hc] at h; cases h
    | _ => cases h
theorem outO_ex {c : Nat} {ρ : Ev} {c' : Nat} {fs : List D} (h : outO c ρ = .exc c' fs) : False := by
  unfold outO at h
  cases e : ρ[0]? with
  | none => rw [e] at h; cases h
  | some sl =>
    rw [e] at h
    cases sl with
    | obj c' fs' =>
      dsimp only at h
      by_cases hc : c' = c
      · rw [if_pos hc] at h; cases h
      · rw [if_neg hc] at h; cases h
    | _ => cases h
/-- n slots; the values behind the object -/
def runO (n : Nat) (b : Ev → Fl) (c : Nat) (fs0 : List (Str × D)) (ds : List D) : FrO := match b (.obj c fs0 :: env0 (n - 1) ds) with
  | .nx ρ => outO c ρ
  | .rt .non ρ => outO c ρ
  | .exc c fs _ => .exc c fs
  | _ => .stuck
section
variable {P : Program} {w : World} {K : PySem.W.Frag} {mg : Str → Option Value} {base : Heap} {C : CT}
theorem rel_startO {S H : Hp} {N : List Str} {p dx : Addr} {c : Nat} {fs0 : List (Str × D)} {vs0 : List (Str × V)} {ds : List D} {us : List V} (s : Same S H) (np : S p = none) (nd : S dx = none) (ne : dx ≠ p) (hd : H dx = some (.own p)) (hp : H p = some (.ins (C.at_ c) dx vs0)) (rf : RpF K C S vs0 fs0) (r : Rps K C S ds us) (hN : ds.length + 1 ≤ N.length) :
    Rel ⟨K, C, H, S, some p, fun b => b = p, [], none⟩ S H (L2.start N (.ref p :: us)) (.obj c fs0 :: env0 (N.length - 1) ds) := by
  have at0 : (L2.start N (V.ref p :: us))[0]? = some (some (.ref p)) := start_get rfl
  have on : ∀ {i a}, Ow (.obj c fs0 :: env0 (N.length - 1) ds) (L2.start N (.ref p :: us)) i a → i = 0 ∧ a = p := fun {i a} ⟨⟨sl, e, m⟩, e'⟩ => by
    cases i with
    | zero => rw [at0] at e'; cases e'; exact ⟨rfl, rfl⟩
    | succ i =>
      rw [List.getElem?_cons_succ] at e
      rcases env0_get e with ⟨d, _, rfl⟩ | rfl <;> cases m
  refine ⟨s, Same.refl _, fun _ _ h _ => h, fun _ o h => ⟨o, h⟩, fun _ _ h => .inl h, fun i sl e => ?_, fun i j a h h2 => (on h).1.trans (on h2).1.symm, fun i a h => .inl (on h).2, fun a h => ?_, ?_, ⟨fun _ hp => (by cases hp), fun _ hp => (by cases hp)⟩, id⟩
  · cases i with
    | zero =>
      cases e
      exact ⟨p, dx, vs0, by rw [at0]; rfl, np, nd, ne, hd, hp, rf⟩
    | succ i =>
      rw [List.getElem?_cons_succ] at e
      rcases env0_get e with ⟨d, e2, rfl⟩ | rfl
      · obtain ⟨v, e3, r2⟩ := Rps.get _ _ _ _ r e2
        exact ⟨v, by rw [start_get (show (V.ref p :: us)[i + 1]? = some v from e3)]; rfl, r2⟩
      · trivial
  · cases h
    exact ⟨at0, _, rfl, rfl⟩
  · unfold env0 L2.start
    simp only [List.length_cons, List.length_append, List.length_map, List.length_replicate]
    rw [← r.length]
    omega
/-- the body's run, from an object's start on -/
theorem goO {N : List Str} {n : Nat} {b : Ev → Fl} {Q : VK} {E : XK} {S0 H : Hp} {p dx : Addr} {c : Nat} {fs0 : List (Str × D)} {vs0 : List (Str × V)} {ds : List D} {us : List V}
    (hn : n = N.length) (hN : ds.length + 1 ≤ N.length) (sm : Same S0 H) (np : S0 p = none) (nd : S0 dx = none) (ne : dx ≠ p) (hd : H dx = some (.own p)) (hp : H p = some (.ins (C.at_ c) dx vs0)) (rf : RpF K C S0 vs0 fs0) (r : Rps K C S0 ds us)
    (h : match runO n b c fs0 ds with
      | .ok fs => ∀ S' H' dx' vs', GrowM p S0 H S' H' → S' p = none → S' dx' = none → dx' ≠ p → H' dx' = some (.own p) → H' p = some (.ins (C.at_ c) dx' vs') → RpF K C S' vs' fs → Q .non H'
      | .exc c fs => ∀ S' H' d, GrowM p S0 H S' H' → XO K C H S' H' c fs d → E (.ref (C.at_ c)) d H'
      | .stuck => False) :
    pS ⟨K, C, H, S0, some p, fun b => b = p, [], none⟩ (fun cls d _ H' => E cls d H') b { nx := fun _ H' => Q .non H', rt := Q } (L2.start N (.ref p :: us)) H := by
  subst hn
  refine ⟨S0, .obj c fs0 :: env0 (N.length - 1) ds, rel_startO sm np nd ne hd hp rf r hN, ?_⟩
  have fin : ∀ {ρ : Ev}, (match outO c ρ with
      | .ok fs => ∀ S' H' dx' vs', GrowM p S0 H S' H' → S' p = none → S' dx' = none → dx' ≠ p → H' dx' = some (.own p) → H' p = some (.ins (C.at_ c) dx' vs') → RpF K C S' vs' fs → Q .non H'
      | .exc c fs => ∀ S' H' d, GrowM p S0 H S' H' → XO K C H S' H' c fs d → E (.ref (C.at_ c)) d H'
      | .stuck => False) → ∀ {σ' S' H'}, Rel ⟨K, C, H, S0, some p, fun b => b = p, [], none⟩ S' H' σ' ρ → Q .non H' := fun {ρ} h {σ' S' H'} R => by
    cases eo : outO c ρ with
    | ok fs =>
      rw [eo] at h
      have e0 := outO_ok eo
      obtain ⟨a, dx', vs', e3, na, nd', ne', hd', hh, rf, _⟩ := R.at_obj e0
      obtain ⟨e4, _⟩ := R.mt p rfl
      rw [e4] at e3; cases e3
      exact h S' H' dx' vs' (R.grownI0 na) na nd' ne' hd' hh rf
    | exc c' fs => exact (outO_ex eo).elim
    | stuck => rw [eo] at h; exact h.elim
  unfold runO at h
  cases eb : b (.obj c fs0 :: env0 (N.length - 1) ds) with
  | nx ρ => rw [eb] at h; exact fun σ' S' H' _ R => fin h R
  | rt d ρ =>
    rw [eb] at h
    cases d with
    | non => exact fun σ' v S' H' _ R rd => by cases rd; exact fin h R
    | _ => exact h.elim
  | exc c' fs ρ => rw [eb] at h; exact fun σ' S' H' d _ R x => h S' H' d (R.grownI0 R.mineAt) x
  | bk ρ => rw [eb] at h; exact h.elim
  | ct ρ => rw [eb] at h; exact h.elim
  | stuck => rw [eb] at h; exact h.elim
end
end PL
namespace PL
open PySem L2
open PyProof.Rows (envOfC)
section
variable {X : Cx} {G : GC} {W : Wx} {pos : Pos} {n : Nat}
def gFld (K : PySem.W.Frag) (to : TE) (f : Str) : TG := fun y σ H Q => to σ H fun x H2 => ∃ a C dx fs, x = .ref a ∧ H2 a = some (.ins C dx fs) ∧ Cls K C ∧ NoAttr K C f ∧ fs.length < 1000 ∧ Q σ (upd H2 a (.ins C dx (putF f y fs)))
theorem pg_fld {o : Expr} {f : Str} {to : TE} (ho : PE X o to) : PG X (.Attribute o f pos) (gFld X.K to f) := ⟨fun pins s σ H v u Q I r h => by
  rw [assign]
  refine wpAny_bind (wpAny_holding (thn (ho.run pins s σ H _ I h) fun ov s1 ⟨x, H1, I1, rx, a, C, dx, fs, ex, ea, c, na, l, q⟩ => ?_))
  subst ex
  cases rx
  exact wpAny_bind (wpAny_standAt (wpAny_bind (wpAny_holding (setattr_ok I1 ea c na l r fun s3 I3 => wpAny_release ⟨σ, _, I3, q⟩))))⟩
/-- one more field of slot i's own object -/
def putO (n : Nat) (fn : Nat → List Str) (i : Nat) (x : Str) (d : D) (ρ : Ev) : Option Ev := match ρ[i]? with
  | some (.obj c fs) => if c < n ∧ fs.length < 1000 ∧ x ∈ fn c ∧ fs.lookup x = none then some (ρ.set i (.obj c (fs ++ [(x, d)]))) else none
  | _ => none
theorem putO_ok {S H : Hp} {σ : St} {ρ ρ' : Ev} {fn : Nat → List Str} (cf : ClsF G.K G.C n) (hfn : G.C.fn = fn) {i : Nat} {x : Str} {d : D} {v : V} (R : Rel G S H σ ρ) (r : Rp G.K G.C S d v) (e : putO n fn i x d ρ = some ρ') :
    ∃ a C dx vs, σ[i]? = some (some (.ref a)) ∧ H a = some (.ins C dx vs) ∧ Cls G.K C ∧ NoAttr G.K C x ∧ vs.length < 1000 ∧ Rel G S (upd H a (.ins C dx (putF x v vs))) σ ρ' := by
  subst hfn
  unfold putO at e
  cases e1 : ρ[i]? with
  | none => rw [e1] at e; cases e
  | some sl =>
    rw [e1] at e
    cases sl with
    | obj c fs =>
      dsimp only at e
      by_cases hc : c < n ∧ fs.length < 1000 ∧ x ∈ G.C.fn c ∧ fs.lookup x = none
      · rw [if_pos hc] at e
        cases e
        obtain ⟨h1, h2, h3, h4⟩ := hc
        obtain ⟨a, dx, vs, e3, na, nd, ne, hd, hh, rf, ow⟩ := R.at_obj e1
        refine ⟨a, _, dx, vs, e3, hh, cf.cls c h1, cf.na c h1 x h3, by rw [rf.len]; exact h2, R.growS e1 rfl rfl e3 ⟨Same.refl _, fun b o q hb => by rw [upd_ne hb]; exact q, fun b o q => by rw [upd_ne (ne_of_none q na)]; exact R.sub b o q, fun _ _ q => .inl q, id⟩ (fun q z => by rw [hh] at z; cases z) ⟨_, upd_same⟩ ?_⟩
        exact ⟨a, dx, _, rfl, na, nd, ne, by rw [upd_ne ne]; exact hd, upd_same, rf.put h4 r⟩
      · rw [if_neg hc] at e; cases e
    | _ => cases e
/-- self.a, self.b = e -/
def fld2F (n : Nat) (fn : Nat → List Str) (i : Nat) (x y : Str) (k : Ev → Rs D) : Ev → Fl := fun ρ => (k ρ).fl fun d ρ1 => match d with
  | .tup [d1, d2] => (match putO n fn i x d1 ρ1 with
    | some ρ2 => (match putO n fn i y d2 ρ2 with
      | some ρ3 => .nx ρ3
      | none => .stuck)
    | none => .stuck)
  | _ => .stuck
theorem s_fld2 {fn : Nat → List Str} (cf : ClsF G.K G.C n) (hfn : G.C.fn = fn) (hK : X.K = G.K) {i : Nat} {x y z : Str} {p1 p2 p3 p4 p5 : Pos} {x1} {e : Expr} {k : Ev → Rs D} (hcl : X.calm = true) (he : PE X e (pE G W k)) (hN : X.N[i]? = some z := by rfl) (hv : Vis X.env.scope z := by first | exact Or.inl rfl | exact Or.inr (Or.inl rfl) | exact Or.inr (Or.inr rfl)) (hd : (z == ("__debug__" : Str)) = false := by decide) (hcd : (z == ("__classdict__" : Str)) = false := by decide)
    (hs : swapsWithSole [.Tuple [.Attribute (.Name z p1) x p2, .Attribute (.Name z p3) y p4] x1 p5] e pos.line X.env = pure false := by rfl) (hw : swappedStores [.Tuple [.Attribute (.Name z p1) x p2, .Attribute (.Name z p3) y p4] x1 p5] e X.env = pure none := by rfl) (h1 : (assignEach [.Tuple [.Attribute (.Name z p1) x p2, .Attribute (.Name z p3) y p4] x1 p5] X.env).map (·.2) = [assign (.Tuple [.Attribute (.Name z p1) x p2, .Attribute (.Name z p3) y p4] x1 p5) X.env] := by rfl) :
    PS X (.Assign [.Tuple [.Attribute (.Name z p1) x p2, .Attribute (.Name z p3) y p4] x1 p5] e pos) (pS G W (fld2F n fn i x y k)) := PSm (ps_asg he (pg_tup hcl (pgs_cons (pg_fld (pe_var hN hv hd hcd)) (pgs_cons (pg_fld (pe_var hN hv hd hcd)) pgs_nil (by rfl)) (by rfl)) (by rfl) (by rfl)) hs hw h1) fun E σ H q => by
  obtain ⟨S, ρ, R, q⟩ := pS_iff.mp q
  refine ⟨S, ρ, R, Po.mono (Po.fl (S := S) (σ := σ) q) fun d ρ1 S1 H1 s1 R1 q v r1 => ?_⟩
  cases d with
  | tup ds =>
    match ds, r1, q with
    | [d1, d2], r1, q =>
      obtain ⟨a, vs, rfl, hq, v1, vs', rfl, r11, v2, vs'', rfl, r12, e0⟩ := r1
      cases e0
      dsimp only at q
      cases e2 : putO n fn i x d1 ρ1 with
      | none => rw [e2] at q; exact q.elim
      | some ρ2 =>
        rw [e2] at q
        dsimp only at q
        cases e3 : putO n fn i y d2 ρ2 with
        | none => rw [e3] at q; exact q.elim
        | some ρ3 =>
          rw [e3] at q
          obtain ⟨p, C, dx, ws, h1, h2, h3, h4, h5, R2⟩ := putO_ok cf hfn R1 r11 e2
          obtain ⟨p', C', dx', ws', g1, g2, g3, g4, g5, R3⟩ := putO_ok cf hfn R2 r12 e3
          refine ⟨a, [v1, v2], rfl, by rw [hK]; exact SqT.mono R1.sub hq, rfl, ?_⟩
          refine ⟨v1, [v2], rfl, _, h1, p, C, dx, ws, rfl, h2, by rw [hK]; exact h3, by rw [hK]; exact h4, h5, ?_⟩
          refine ⟨v2, [], rfl, _, g1, p', C', dx', ws', rfl, g2, by rw [hK]; exact g3, by rw [hK]; exact g4, g5, ?_⟩
          exact ⟨rfl, q σ S1 _ (Same.refl _) R3⟩
    | [], _, q => exact q.elim
    | [_], _, q => exact q.elim
    | _ :: _ :: _ :: _, _, q => exact q.elim
  | _ => exact q.elim
/-- self.f, of slot i's own object -/
def ofld (n : Nat) (fn : Nat → List Str) (i : Nat) (x : Str) : Ev → Option D := fun ρ => match ρ[i]? with
  | some (.obj c fs) => if c < n ∧ x ∈ fn c then fs.lookup x else none
  | _ => none
theorem RpF.lookup {K : PySem.W.Frag} {C : CT} {S : Hp} {vs : List (Str × V)} {fs : List (Str × D)} {f : Str} {d : D} (r : RpF K C S vs fs) (h : fs.lookup f = some d) : ∃ v, vs.lookup f = some v ∧ Rp K C S d v := by
  induction r with
  | nil => cases h
  | @cons g w e fs gs hw _ ih =>
    simp only [List.lookup_cons] at h ⊢
    cases z : f == g with
    | true => rw [z] at h; cases h; exact ⟨w, rfl, hw⟩
    | false => rw [z] at h; exact ih h
theorem q_ofld {fn : Nat → List Str} (cf : ClsF G.K G.C n) (hfn : G.C.fn = fn) (hK : X.K = G.K) {i : Nat} {x z : Str} {p1 : Pos} (hN : X.N[i]? = some z := by rfl) (hv : Vis X.env.scope z := by first | exact Or.inl rfl | exact Or.inr (Or.inl rfl) | exact Or.inr (Or.inr rfl)) (hd : (z == ("__debug__" : Str)) = false := by decide) (hcd : (z == ("__classdict__" : Str)) = false := by decide)
    (hb : attributeBase (.Name z p1) x X.env (eval (.Name z p1) X.env) = eval (.Name z p1) X.env := by rfl) : PE X (.Attribute (.Name z p1) x pos) (pQ G (ofld n fn i x)) := PEm (pe_fld (pe_var hN hv hd hcd) hb) fun σ H Q ⟨S, ρ, R, q⟩ => by
  subst hfn
  unfold ofld at q
  cases e1 : ρ[i]? with
  | none => rw [e1] at q; exact q.elim
  | some sl =>
    rw [e1] at q
    cases sl with
    | obj c fs =>
      dsimp only at q
      by_cases hc : c < n ∧ x ∈ G.C.fn c
      · rw [if_pos hc] at q
        cases e2 : fs.lookup x with
        | none => rw [e2] at q; exact q.elim
        | some d =>
          rw [e2] at q
          obtain ⟨a, dx, vs, e3, na, nd, ne, hd', hh, rf, ow⟩ := R.at_obj e1
          obtain ⟨v, h1, h2⟩ := rf.lookup e2
          exact ⟨_, e3, a, _, dx, vs, v, rfl, hh, by rw [hK]; exact cf.cls c hc.1, by rw [hK]; exact cf.na c hc.1 x hc.2, h1, q v S H (Grow.refl R.sub) h2⟩
      · rw [if_neg hc] at q; exact q.elim
    | _ => exact q.elim
end
end PL
namespace PL
open PySem L2
open PyProof.Rows (envOfC)
/-! ### Base.__init__(self, e, ..) -/
section
variable {X : Cx} {G : GC} {W : Wx} {pos : Pos} {k : Nat} {f C : Addr} {sp : Sp}
theorem goN {pins : List (Addr × Obj)} {σ : St} {H : Hp} {s : Shared} {Q : VK} {us : List Value} {vs : List V} (F : FnN X.prog X.w X.K X.mg X.base k f sp) (hr : Room k X.A) (hg : X.A.guards = some []) (tk : Takes X W)
    (I : Inv X pins σ H s) (r : Vals vs us) (h : sp vs H Q fun cls d H' => W cls d σ H') : wpAny (model X.prog X.w) X.A (call (.ref f) us) (EP X pins σ Q) X.xe s := by
  refine wpAny_call (codeAny_mono (F.go X.A X.stack s H us vs Q _ hr hg I.env0 r h) ?_)
  rintro (e | fl) s' hq
  · exact passAt tk σ pins H s e s' I hq
  · cases fl with
    | ret u => exact I.after hq
    | _ => exact False.elim hq
def tCls (C : Addr) (sp : Sp) (W : Wx) (ta : TE) (t : TA) : TE := fun σ H Q => ta σ H fun x H1 => x = .ref C ∧ t σ H1 fun vs H2 => sp vs H2 Q fun cls d H' => W cls d σ H'
theorem pe_clsfn {m : Str} {mc : Value} {apos : Pos} {e o : Expr} {es : List Expr} {ta : TE} {t : TA} {pl : Sem Bool} (ho : PE X o ta) (cr : ClX.CRead X.K C mc) (cv : ClX.CVal X.K C mc m (.ref f) (.ref f)) (hk : PySem.W.keepIn X.K (.ref f) = true) (F : FnN X.prog X.w X.K X.mg X.base k f sp) (hr : Room k X.A) (hg : X.A.guards = some []) (tk : Takes X W)
    (ha : PA X (e :: es) t) (he : starEach (e :: es) X.env = (false, eval e X.env) :: starEach es X.env := by rfl) (hpl : (backTo pos (starEach es X.env)).any (·.1) = false := by rfl)
    (ht : eval (.Call (.Attribute o m apos) (e :: es) [] pos) X.env = (do
      let ov ← eval o X.env
      standAt apos.atName
      let (f, first) ← holding [ov] (getMethod ov m pl)
      callWith pos f first (backTo pos (starEach (e :: es) X.env)) (backToKw pos (keywordEach [] X.env))) := by rfl) :
    PE X (.Call (.Attribute o m apos) (e :: es) [] pos) (tCls C sp W ta t) := ⟨fun pins s σ H Q I h =>
  PySem.W.methodCall_KW (thn (ho.run pins s σ H _ I h) fun u s1 ⟨x, H1, I1, rx, ex, q⟩ => by
    subst ex
    cases rx
    exact PySem.W.method_cls I1.kIn cr.ga (ClX.getcval_ok I1 cr cv fun s2 I2 => PySem.W.callWith_K I2.ok.mod.kin hk (thn (ha.run pos pins s2 σ H1 _ I2 q) fun us s3 ⟨vs, H3, I3, r, q3⟩ => ⟨I3.kIn, goN F hr hg tk I3 r q3⟩) he hpl)) ht⟩
end
/-- .. whatever number of arguments -/
def spV (K : PySem.W.Frag) (C : CT) (g : Nat → List (Str × D) → List D → FrO) : Sp := fun vs H Q E => ∃ S p dx c fs0 vs0 ds us, vs = .ref p :: us ∧ Same S H ∧ S p = none ∧ S dx = none ∧ dx ≠ p ∧ H dx = some (.own p) ∧ H p = some (.ins (C.at_ c) dx vs0) ∧ RpF K C S vs0 fs0 ∧ Rps K C S ds us ∧ match g c fs0 ds with
  | .ok fs => ∀ S' H' dx' vs', GrowM p S H S' H' → S' p = none → S' dx' = none → dx' ≠ p → H' dx' = some (.own p) → H' p = some (.ins (C.at_ c) dx' vs') → RpF K C S' vs' fs → Q .non H'
  | .exc c fs => ∀ S' H' d, GrowM p S H S' H' → XO K C H S' H' c fs d → E (.ref (C.at_ c)) d H'
  | .stuck => False
/-- np parameters ahead of the one that takes what is left -/
def runV (n np : Nat) (b : Ev → Fl) (c : Nat) (fs0 : List (Str × D)) (ds : List D) : FrO := if np ≤ ds.length ∧ (ds.drop np).length ≤ sizeLine then runO n b c fs0 (ds.take np ++ [.tup (ds.drop np)]) else .stuck
/-- a def of a class, called with its object by the class's name -/
structure DefV (P : Program) (w : World) (K : PySem.W.Frag) (mg : Str → Option Value) (base : Heap) (x m : Str) (C : Addr) (k : Nat) (sp : Sp) : Prop where
  ex : ∃ f mc, mg x = some (.ref C) ∧ ClX.CRead K C mc ∧ ClX.CVal K C mc m (.ref f) (.ref f) ∧ PySem.W.keepIn K (.ref f) = true ∧ FnN P w K mg base k f sp
section
variable {P : Program} {w : World} {K : PySem.W.Frag} {mg : Str → Option Value} {base : Heap} {C : CT}
theorem FnN.imp {k : Nat} {f : Addr} {sp sp' : Sp} (F : FnN P w K mg base k f sp) (h : ∀ vs H Q E, sp' vs H Q E → sp vs H Q E) : FnN P w K mg base k f sp' :=
  ⟨fun A outer s H us vs Q E hr hg e0 r q => F.go A outer s H us vs Q E hr hg e0 r (h _ _ _ _ q)⟩
theorem fnV {x qual : Str} {params : Arguments} {body : List Stmt} {scope : Scope} {kws : List (Str × V)} {f : Addr} {fd : FuncData} {N ps : List Str} {p0 pv : Str} {k : Nat} {b : Ev → Fl} (F : FunD K x qual params body scope [] kws f fd) (S : FnScope N (p0 :: ps ++ [pv]) scope)
    (hbd : ∀ (kV doc pm : Value) (an : Option Addr) (cdv ct : Value) (us rest : List Value), us.length = (p0 :: ps).length → bindArgs (PySem.W.fnOf x qual params body scope .none kV doc pm an cdv ct) { pos := us ++ rest } = (do
      let t ← newTuple rest
      pure ((p0 :: ps).zip us ++ [(pv, t)])))
    (hb : ∀ (cdv : Value) (A : Around) (outer : List Env) (s : Shared) (H : Hp) (E : XK) (G : GC) (W : Wx), G.K = K → G.C = C → Room k (A.deeper (envOfC qual scope s.heap.objs.size f cdv)) → A.guards = some [] →
      Takes (cxOf (L2.CX P w) P w K mg base N qual scope f cdv A outer s H E) W → PSs (cxOf (L2.CX P w) P w K mg base N qual scope f cdv A outer s H E) body (pS G W b)) (hl : ps.length + 2 ≤ N.length := by decide) :
    FnN P w K mg base (k + 1) f (spV K C (runV N.length ps.length b)) := by
  refine (fnN_star (sp := spO K C (ps.length + 2) (runO N.length b)) F S hbd ?_).imp ?_
  · intro cdv A outer s H vs Q E hr hg h
    obtain ⟨S0, p, dx, c, fs0, vs0, ds, us, rfl, sm, np, nd, ne, hd, hp, rf, r, e, h⟩ := h
    exact ⟨_, hb cdv A outer s H E ⟨K, C, H, S0, some p, fun b => b = p, [], none⟩ (fun cls d _ H' => E cls d H') rfl rfl hr hg (takes_of rfl rfl rfl rfl), goO rfl (by omega) sm np nd ne hd hp rf r h⟩
  · intro vs H Q E h
    obtain ⟨S0, p, dx, c, fs0, vs0, ds, us, rfl, sm, np, nd, ne, hd, hp, rf, r, h⟩ := h
    unfold runV at h
    by_cases hc : ps.length ≤ ds.length ∧ (ds.drop ps.length).length ≤ sizeLine
    · rw [if_pos hc] at h
      have hlen := r.length
      refine ⟨.ref p :: us.take ps.length, us.drop ps.length, by rw [List.cons_append, List.take_append_drop], by simp only [List.length_cons, List.length_take]; omega, by rw [List.length_drop, ← hlen, ← List.length_drop]; exact hc.2, fun q hq => ?_⟩
      have g := Grow.new sm (.tup (us.drop ps.length)) hq
      have hpq : p ≠ q := ne_of_none hp hq
      have hdq : dx ≠ q := ne_of_none hd hq
      have back : ∀ {S' H' : Hp}, GrowM p (upd S0 q (.tup (us.drop ps.length))) (upd H q (.tup (us.drop ps.length))) S' H' → GrowM p S0 H S' H' := fun {S' H'} g' => ⟨g.sS.trans g'.sS, fun b o z hb => g'.hH b o (g.hH b o z) hb, g'.sub, fun a o z => by
        rcases g'.nw a o z with z | z
        · exact g.nw a o z
        · exact .inr (by
            cases e : H a with
            | none => rfl
            | some u => rw [g.hH a u e] at z; cases z), fun z => g'.nt (g.nt z)⟩
      refine ⟨upd S0 q (.tup (us.drop ps.length)), p, dx, c, fs0, vs0, ds.take ps.length ++ [.tup (ds.drop ps.length)], us.take ps.length ++ [.ref q], rfl, g.sub, by rw [upd_ne hpq]; exact np, by rw [upd_ne hdq]; exact nd, ne, by rw [upd_ne hdq]; exact hd, by rw [upd_ne hpq]; exact hp, rf.mono g.sS, ?_, by simp only [List.length_append, List.length_take, List.length_cons, List.length_nil]; omega, ?_⟩
      · exact Rps.append (Rps.mono g.sS _ _ (Rps.take _ r)) (Rps.cons ⟨q, _, rfl, .inl (.inl upd_same), Rps.mono g.sS _ _ (Rps.drop _ r)⟩ Rps.nil)
      · cases eo : runO N.length b c fs0 (ds.take ps.length ++ [.tup (ds.drop ps.length)]) with
        | ok fs => rw [eo] at h; exact fun S' H' dx' vs' g' => h S' H' dx' vs' (back g')
        | exc c' fs => rw [eo] at h; exact fun S' H' d g' xo => h S' H' d (back g') (xo.from_ fun _ z => upd_none z)
        | stuck => rw [eo] at h; exact h
    · rw [if_neg hc] at h; exact h.elim
end
section
variable {X : Cx} {G : GC} {W : Wx} {pos : Pos} {k : Nat}
def callO (i : Nat) (fn : Nat → List (Str × D) → List D → FrO) (l : Ev → Rs (List D)) : Ev → Rs D := fun ρ => match ρ[i]? with
  | some (.obj _ _) => (l ρ).bind fun ds ρ1 => (match ρ1[i]? with
    | some (.obj c fs) => (match fn c fs ds with
      | .ok fs' => .ok .non (ρ1.set i (.obj c fs'))
      | _ => .stuck)
    | _ => .stuck)
  | _ => .stuck
theorem e_callO {i : Nat} {x m y : Str} {C : Addr} {p1 apos p2 : Pos} {es : List Expr} {fn : Nat → List (Str × D) → List D → FrO} {l : Ev → Rs (List D)} {pl : Sem Bool} (F : DefV X.prog X.w X.K X.mg X.base x m C k (spV G.K G.C fn)) (hr : Room k X.A) (hg : X.A.guards = some []) (tk : Takes X W)
    (ha : PA X es (pA G W l)) (hN : X.N[i]? = some y := by rfl) (hv : Vis X.env.scope y := by first | exact Or.inl rfl | exact Or.inr (Or.inl rfl) | exact Or.inr (Or.inr rfl)) (hd : (y == ("__debug__" : Str)) = false := by decide) (hcd : (y == ("__classdict__" : Str)) = false := by decide)
    (hgl : Gl X x := by rfl) (hdb : (x == ("__debug__" : Str)) = false := by decide) (he : starEach (.Name y p2 :: es) X.env = (false, eval (.Name y p2) X.env) :: starEach es X.env := by rfl) (hpl : (backTo pos (starEach es X.env)).any (·.1) = false := by rfl)
    (ht : eval (.Call (.Attribute (.Name x p1) m apos) (.Name y p2 :: es) [] pos) X.env = (do
      let ov ← eval (.Name x p1) X.env
      standAt apos.atName
      let (f, first) ← holding [ov] (getMethod ov m pl)
      callWith pos f first (backTo pos (starEach (.Name y p2 :: es) X.env)) (backToKw pos (keywordEach [] X.env))) := by rfl) :
    PE X (.Call (.Attribute (.Name x p1) m apos) (.Name y p2 :: es) [] pos) (pE G W (callO i fn l)) := by
  obtain ⟨f, mc, hm, cr, cv, hk, h⟩ := F.ex
  refine PEm (pe_clsfn (pe_glob hgl hm (v := .ref C) rfl hdb) cr cv hk h hr hg tk (pa_cons (pe_var hN hv hd hcd) ha he) he hpl ht) fun σ H Q q => ?_
  obtain ⟨S, ρ, R, q⟩ := q
  unfold callO at q
  refine ⟨rfl, ?_⟩
  cases e0 : ρ[i]? with
  | none => rw [e0] at q; exact q.elim
  | some sl =>
    rw [e0] at q
    cases sl with
    | obj c0 fs00 =>
      obtain ⟨a, dx0, vs0, e3, _⟩ := R.at_obj e0
      refine ⟨_, e3, S, ρ, R, ?_⟩
      have q := Po.bind q
      cases el : l ρ with
      | stuck => rw [el] at q; exact q
      | exc c fs ρ1 => rw [el] at q; exact q
      | ok ds ρ1 =>
        rw [el] at q
        intro S1 H1 s1 R1 us r
        have q := q S1 H1 s1 R1
        dsimp only at q
        cases e4 : ρ1[i]? with
        | none => rw [e4] at q; exact q.elim
        | some sl =>
          rw [e4] at q
          cases sl with
          | obj c fs =>
            dsimp only at q
            obtain ⟨a2, dx, ws, e5, na, nd, ne, hd', hh, rf, ow⟩ := R1.at_obj e4
            rw [e3] at e5; cases e5
            refine ⟨S1, a, dx, c, fs, ws, ds, us, rfl, R1.sub, na, nd, ne, hd', hh, rf, r, ?_⟩
            cases ef : fn c fs ds with
            | ok fs' =>
              rw [ef] at q
              exact fun S' H' dx' vs' g n1 n2 ne' hd2 hh2 rf2 => q S' H' g.sS (R1.growS e4 rfl rfl e3 g (fun q z => by rw [hh] at z; cases z) ⟨_, hh2⟩ ⟨a, dx', vs', rfl, n1, n2, ne', hd2, hh2, rf2⟩) _ rfl
            | exc c' fs' => rw [ef] at q; exact q.elim
            | stuck => rw [ef] at q; exact q
          | _ => exact q.elim
    | _ => exact q.elim
end
end PL
namespace PL
open PySem L2
/-! ### xs.index(y) -/
def oIndex : D → D → Option D := fun x y => match x with
  | .lst ys => (py? y).bind fun p => (pys? ys).bind fun ps => if SeqAt.shaped (.list ps) && SeqAt.shaped p then (ps.findIdx? fun z => PyData.eqv z p).map fun j => .int (j : Nat) else none
  | _ => none
section
variable {X : Cx} {G : GC} {W : Wx}
theorem q_idx {o e : Expr} {f g : Ev → Option D} {apos cpos : Pos} (hu : X.A.units + 65 < cLine) (hK : X.K = G.K) (ho : PE X o (pB G f)) (he : PE X e (pB G g)) (hbase : attributeBase o "index" X.env (eval o X.env) = eval o X.env := by rfl)
    (hfew : ((backTo cpos (starEach (e :: []) X.env)).all (fun x => !x.1) && (backToKw cpos (keywordEach [] X.env)).all (fun x => x.1.isSome)
      && decide ((e :: []).length + ([] : List Keyword).length + (if ([] : List Keyword).isEmpty then 0 else 1) < 30)) = true := by rfl)
    (hline : (apos.endLine == cpos.line) = true := by rfl) (hs : starEach (e :: []) X.env = (false, eval e X.env) :: starEach [] X.env := by rfl) (hplain : (backTo cpos (starEach [] X.env)).any (·.1) = false := by rfl) :
    PE X (.Call (.Attribute o "index" apos) [e] [] cpos) (pQ G (q2 oIndex f g)) :=
  PEm (pe_bm PySem.F.plainAttrs_list PySem.F.slot_list_index PySem.F.type_list_index (mt_indexD hu) ho (pa_cons he pa_nil hs) hbase hfew hline hs hplain) fun σ H Q ⟨S, ρ, R, q⟩ => by
    refine ⟨S, ρ, R, ?_⟩
    unfold q2 at q
    cases e1 : f ρ with
    | none => rw [e1] at q; exact q
    | some d =>
      rw [e1, Option.bind_some] at q
      intro v S1 H1 g1 b1
      cases e2 : g ρ with
      | none => rw [e2] at q; exact q.elim
      | some d2 =>
        rw [e2, Option.bind_some] at q
        cases d with
        | lst ys =>
          obtain ⟨a, vs, ev, hh, r⟩ := b1.lst g1.sub
          subst ev
          refine ⟨.inl ⟨rfl, vs, .inl (.inl hh)⟩, S1, ρ, R.grow g1, ?_⟩
          rw [e2]
          intro v2 S2 H2 g2 b2
          unfold oIndex at q
          dsimp only at q
          cases e3 : py? d2 with
          | none => rw [e3] at q; exact q.elim
          | some p =>
            rw [e3, Option.bind_some] at q
            cases e4 : pys? ys with
            | none => rw [e4] at q; exact q.elim
            | some ps =>
              rw [e4, Option.bind_some] at q
              cases c : (SeqAt.shaped (.list ps) && SeqAt.shaped p) with
              | false => rw [c] at q; exact q.elim
              | true =>
                rw [c, if_pos rfl] at q
                obtain ⟨c1, c2⟩ := Bool.and_eq_true_iff.mp c
                cases e5 : ps.findIdx? fun z => PyData.eqv z p with
                | none => rw [e5] at q; exact q.elim
                | some j =>
                  rw [e5] at q
                  obtain ⟨hj, h1, h2⟩ := List.findIdx?_eq_some_iff_getElem.mp e5
                  refine ⟨a, v2, p, ps, j, ps[j], rfl, rfl, by rw [hK]; exact (b1.grow g2).dp g2.sub (by simp only [py?, e4]; rfl), by rw [hK]; exact b2.dp g2.sub e3, c1, c2, List.getElem?_eq_getElem hj, h1, fun m z' hm hz => ?_, q _ S2 H2 (g1.trans g2) rfl⟩
                  obtain ⟨hm', hz'⟩ := List.getElem?_eq_some_iff.mp hz
                  have := h2 m hm
                  rw [hz'] at this
                  simpa using this
        | _ => exact q.elim
/-- (a, b), of things that are no lists -/
def isL : D → Bool
  | .lst _ => true
  | _ => false
def oPair : D → D → Option D := fun x y => if isL x || isL y then none else some (.tup [x, y])
theorem isL_no {d : D} (h : isL d = false) : ∀ xs, d ≠ .lst xs := fun xs e => by subst e; cases h
theorem sp_pair : BSpec G (fun x y H Q => [x, y].length ≤ sizeLine ∧ ∀ p, H p = none → Q (.ref p) (upd H p (.tup [x, y]))) oPair := by
  intro S H x y d1 d2 d' Q s b1 b2 e k
  unfold oPair at e
  cases c : (isL d1 || isL d2) with
  | true => rw [c] at e; cases e
  | false =>
    rw [c] at e
    cases e
    obtain ⟨c1, c2⟩ := Bool.or_eq_false_iff.mp c
    refine ⟨by show 2 ≤ sizeLine; decide, fun p hp => ?_⟩
    have g := Grow.new s (.tup [x, y]) hp
    exact k _ _ _ g ⟨p, [x, y], rfl, .inl (.inl upd_same), Rps.cons (Rp.mono g.sS _ _ (b1.flat (isL_no c1))) (Rps.cons (Rp.mono g.sS _ _ (b2.flat (isL_no c2))) Rps.nil)⟩
theorem q_pair {a b : Expr} {f g : Ev → Option D} {pos : Pos} {x1} (ha : PE X a (pB G f)) (hb : PE X b (pB G g)) (he : starEach (a :: [b]) X.env = (false, eval a X.env) :: starEach [b] X.env := by rfl) (he2 : starEach (b :: []) X.env = (false, eval b X.env) :: starEach [] X.env := by rfl) :
    PE X (.Tuple [a, b] x1 pos) (pQ G (q2 oPair f g)) := PEm (pe_tup (pa_cons ha (pa_cons hb pa_nil he2) he)) fun _ _ _ h => q2_ok sp_pair h
end
end PL
namespace PL
open PySem L2
theorem u65 {k : Nat} {A : Around} (hr : Room k A) : A.units + 65 < cLine := by have := hr.un; omega
section
variable {X : Cx} {G : GC} {W : Wx} {pos : Pos}
theorem rps3 {K : PySem.W.Frag} {C : CT} {S : Hp} {d d2 d3 : D} {vs : List V} (h : Rps K C S [d, d2, d3] vs) : ∃ v v2 v3, vs = [v, v2, v3] ∧ Rp K C S d v ∧ Rp K C S d2 v2 ∧ Rp K C S d3 v3 := by
  obtain ⟨v, vs', rfl, q, v2, vs'', rfl, q2, v3, vs3, rfl, q3, e⟩ := h
  cases e
  exact ⟨v, v2, v3, rfl, q, q2, q3⟩
/-- x, y, z = a, b, c -/
def par3F (i j l : Nat) (k : Ev → Rs (List D)) : Ev → Fl := fun ρ => (k ρ).fl fun ds ρ1 => match ds with
  | [a, b, c] => (put i (.val a) ρ1).seq fun ρ2 => (put j (.val b) ρ2).seq (put l (.val c))
  | _ => .stuck
theorem s_par3 {i j l : Nat} {x y z : Str} {a b c : Expr} {k : Ev → Rs (List D)} {px py pz pt : Pos} {kt k2 pt2} (hc : X.calm = true) (hN : X.N.Nodup) (hi : X.N[i]? = some x) (hj : X.N[j]? = some y) (hl : X.N[l]? = some z) (hij : i ≠ j) (hil : i ≠ l) (hjl : j ≠ l) (hx : X.env.scope.names.lookup x = some .local) (hy : X.env.scope.names.lookup y = some .local) (hz : X.env.scope.names.lookup z = some .local)
    (ha : PA X [a, b, c] (pA G W k)) (hw : swappedStores [.Tuple [.Name x px, .Name y py, .Name z pz] kt pt] (.Tuple [a, b, c] k2 pt2) X.env = pure (some [x, y, z]) := by rfl)
    (hs : swapsWithSole [.Tuple [.Name x px, .Name y py, .Name z pz] kt pt] (.Tuple [a, b, c] k2 pt2) pos.line X.env = pure false := by rfl) :
    PS X (.Assign [.Tuple [.Name x px, .Name y py, .Name z pz] kt pt] (.Tuple [a, b, c] k2 pt2) pos) (pS G W (par3F i j l k)) := PSm (ps_par3 hc hN hi hj hl hij hil hjl hx hy hz ha hw hs) fun E σ H ⟨S, ρ, R, q⟩ =>
  ⟨S, ρ, R, Po.mono (Po.fl (S := S) (σ := σ) q) fun ds ρ1 S1 H1 s1 R1 q vs r => by
    match ds, r, q with
    | [d1, d2, d3], r, q =>
      obtain ⟨v, w, u, rfl, rv, rw', ru⟩ := rps3 r
      obtain ⟨h1, h2, q⟩ := Fo.put2 R1 q
      have R2 := R1.setv h1 h2 rv
      obtain ⟨h3, h4, q⟩ := Fo.put2 R2 q
      have R3 := R2.setv h3 h4 rw'
      obtain ⟨h5, h6, q⟩ := put_ok R3 q
      exact ⟨v, w, u, rfl, q _ _ _ (Same.refl _) (R3.setv h5 h6 ru)⟩
    | [], _, q => exact q.elim
    | [_], _, q => exact q.elim
    | [_, _], _, q => exact q.elim
    | _ :: _ :: _ :: _ :: _, _, q => exact q.elim⟩
end
end PL
namespace PL
open PySem L2
/-! ### calls by place and by name, in any order -/
def reo {α : Type} (ix : List Nat) (xs : List α) : List α := ix.filterMap fun i => xs[i]?
/-- a call with np values by place and names ks binds the parameters to the values as ix tells -/
def KX (K : PySem.W.Frag) (fd : FuncData) (ps : List Str) (np : Nat) (ks : List Str) (ix : List Nat) : Prop := ∀ (s : Shared) (us ws : List Value), K.In s.heap → us.length = np → ws.length = ks.length → BindsTo s fd { pos := us, kw := ks.zip ws } (ps.zip (reo ix (us ++ ws)))
theorem kxN {K : PySem.W.Frag} {x qual : Str} {params : Arguments} {body : List Stmt} {scope : Scope} {kws : List (Str × V)} {f : Addr} {fd : FuncData} {ps ks : List Str} {np : Nat} {ix : List Nat} (F : FunD K x qual params body scope [] kws f fd)
    (h : ∀ (kV doc pm : Value) (an : Option Addr) (cdv ct : Value) (us ws : List Value), us.length = np → ws.length = ks.length → bindArgs (PySem.W.fnOf x qual params body scope .none kV doc pm an cdv ct) { pos := us, kw := ks.zip ws } = pure (ps.zip (reo ix (us ++ ws)))) : KX K fd ps np ks ix := by
  obtain ⟨oc, od, dV, kV, doc, pm, an, cdv, ct, osl, rfl, lk, hcd, hD, hK⟩ := F.ex
  rcases hD with ⟨_, rfl⟩ | ⟨e, _⟩
  · intro s us ws _ h1 h2 M A E Q q
    rw [h kV doc pm an cdv ct us ws h1 h2]
    exact wpAny_pure q
  · exact absurd rfl e
theorem Vals.get? : ∀ {vs : List V} {us : List Value}, Vals vs us → ∀ i : Nat, (vs[i]? = none ∧ us[i]? = none) ∨ ∃ v u, vs[i]? = some v ∧ us[i]? = some u ∧ RelV v u
  | [], _, .nil, i => .inl ⟨rfl, rfl⟩
  | v :: vs, _, .cons h _, 0 => .inr ⟨_, _, rfl, rfl, h⟩
  | v :: vs, _, .cons _ t, i + 1 => by simpa using Vals.get? t i
theorem Vals.reo {vs : List V} {us : List Value} (h : Vals vs us) : ∀ ix : List Nat, Vals (reo ix vs) (reo ix us)
  | [] => .nil
  | i :: ix => by
    have t := Vals.reo h ix
    unfold PL.reo at t ⊢
    rcases Vals.get? h i with ⟨h1, h2⟩ | ⟨v, u, h1, h2, r⟩
    · rw [List.filterMap_cons_none h1, List.filterMap_cons_none h2]; exact t
    · rw [List.filterMap_cons_some h1, List.filterMap_cons_some h2]; exact .cons r t
theorem Rps.reo {K : PySem.W.Frag} {C : CT} {S : Hp} {ds : List D} {vs : List V} (h : Rps K C S ds vs) : ∀ ix : List Nat, Rps K C S (PL.reo ix ds) (PL.reo ix vs)
  | [] => rfl
  | i :: ix => by
    have t := Rps.reo h ix
    unfold PL.reo at t ⊢
    cases e : ds[i]? with
    | none =>
      have e2 : vs[i]? = none := by
        rw [List.getElem?_eq_none_iff] at e ⊢
        rw [← h.length]; exact e
      rw [List.filterMap_cons_none e, List.filterMap_cons_none e2]; exact t
    | some d =>
      obtain ⟨v, e2, r⟩ := Rps.get _ _ _ _ h e
      rw [List.filterMap_cons_some e, List.filterMap_cons_some e2]; exact Rps.cons r t
/-- a def of the module that is called so, too -/
structure DefX (P : Program) (w : World) (K : PySem.W.Frag) (mg : Str → Option Value) (base : Heap) (x : Str) (k : Nat) (ps : List Str) (sp : Sp) (np : Nat) (ks : List Str) (ix : List Nat) : Prop where
  ex : ∃ f fd, mg x = some (.ref f) ∧ PySem.W.keepIn K (.ref f) = true ∧ KX K fd ps np ks ix ∧ FnG P w K mg base k f fd ps sp
section
variable {X : Cx} {G : GC} {W : Wx} {pos : Pos} {k : Nat} {f C : Addr} {fd : FuncData} {ps : List Str} {sp : Sp}
theorem goX {pins : List (Addr × Obj)} {σ : St} {H : Hp} {s : Shared} {Q : VK} {us ws : List Value} {vs zs : List V} {ks : List Str} {np : Nat} {ix : List Nat} (F : FnG X.prog X.w X.K X.mg X.base k f fd ps sp) (hr : Room k X.A) (hg : X.A.guards = some []) (hb : KX X.K fd ps np ks ix) (tk : Takes X W)
    (I : Inv X pins σ H s) (r : Vals vs us) (rz : Vals zs ws) (h1 : us.length = np) (h2 : ws.length = ks.length) (h : sp (reo ix (vs ++ zs)) H Q fun cls d H' => W cls d σ H') : wpAny (model X.prog X.w) X.A (call (.ref f) us (ks.zip ws)) (EP X pins σ Q) X.xe s := by
  have r2 := PL.Vals.reo (r.append rz) ix
  refine wpAny_call (codeAny_mono (F.go X.A X.stack s H ⟨us, ks.zip ws⟩ _ _ Q _ hr hg I.env0 (hb s us ws I.kIn h1 h2) r2 h) ?_)
  rintro (e | fl) s' hq
  · exact passAt tk σ pins H s e s' I hq
  · cases fl with
    | ret u => exact I.after hq
    | _ => exact False.elim hq
def tCallX (sp : Sp) (W : Wx) (np nk : Nat) (ix : List Nat) (t tk : TA) : TE := fun σ H Q => t σ H fun vs H1 => vs.length = np ∧ tk σ H1 fun zs H2 => zs.length = nk ∧ sp (reo ix (vs ++ zs)) H2 Q fun cls d H' => W cls d σ H'
theorem pe_callX0 {x : Str} {p : Pos} {kws : List Keyword} {tz : TA} {ks : List Str} {ix : List Nat} (F : FnG X.prog X.w X.K X.mg X.base k f fd ps sp) (hr : Room k X.A) (hg : X.A.guards = some []) (hm : X.mg x = some (.ref f)) (hk : PySem.W.keepIn X.K (.ref f) = true) (hb : KX X.K fd ps 0 ks ix) (tk : Takes X W)
    (hz : PK X kws tz) (hgl : Gl X x := by rfl) (hdb : (x == ("__debug__" : Str)) = false := by decide) (hall : ((backToKw pos (keywordEach kws X.env)).all fun x => x.fst.isSome) = true := by rfl) (hks : List.filterMap (fun x => x.fst) (backToKw pos (keywordEach kws X.env)) = ks := by rfl)
    (hpl : (((backTo pos (starEach [] X.env)).any fun x => x.fst) || (backToKw pos (keywordEach kws X.env)).any fun x => x.fst.isNone) = false := by rfl) :
    PE X (.Call (.Name x p) [] kws pos) (tCallX sp W 0 ks.length ix tNil tz) := ⟨fun pins s σ H Q I h =>
  wpAny_Call_Name_kw (ld_glob I hgl hm (PySem.W.callWith_KW0 I.ok.mod.kin hk hall (thn (hz.run pos pins s σ H _ I h.2) fun ws s2 ⟨zs, H2, I2, rz, e1, q2⟩ => ⟨I2.kIn, by
    rw [hks]
    exact goX F hr hg hb tk I2 Paired.nil rz rfl (by rw [← rz.length]; exact e1) q2⟩) hpl) hdb)⟩
theorem pe_callX {x : Str} {p : Pos} {e : Expr} {es : List Expr} {kws : List Keyword} {t tz : TA} {ks : List Str} {np : Nat} {ix : List Nat} (F : FnG X.prog X.w X.K X.mg X.base k f fd ps sp) (hr : Room k X.A) (hg : X.A.guards = some []) (hm : X.mg x = some (.ref f)) (hk : PySem.W.keepIn X.K (.ref f) = true) (hb : KX X.K fd ps np ks ix) (tk : Takes X W)
    (ha : PA X (e :: es) t) (hz : PK X kws tz) (hgl : Gl X x := by rfl) (hdb : (x == ("__debug__" : Str)) = false := by decide) (hall : ((backToKw pos (keywordEach kws X.env)).all fun x => x.fst.isSome) = true := by rfl) (hks : List.filterMap (fun x => x.fst) (backToKw pos (keywordEach kws X.env)) = ks := by rfl)
    (he : starEach (e :: es) X.env = (false, eval e X.env) :: starEach es X.env := by rfl)
    (hpl : (((backTo pos (starEach (e :: es) X.env)).any fun x => x.fst) || (backToKw pos (keywordEach kws X.env)).any fun x => x.fst.isNone) = false := by rfl) :
    PE X (.Call (.Name x p) (e :: es) kws pos) (tCallX sp W np ks.length ix t tz) := ⟨fun pins s σ H Q I h =>
  wpAny_Call_Name_kw (ld_glob I hgl hm (PySem.W.callWith_KW I.ok.mod.kin hk hall (thn (ha.run pos pins s σ H _ I h) fun us s1 ⟨vs, H1, I1, r, e0, q⟩ => thn (hz.run pos pins s1 σ H1 _ I1 q) fun ws s2 ⟨zs, H2, I2, rz, e1, q2⟩ => ⟨I2.kIn, by
    rw [hks]
    exact goX F hr hg hb tk I2 r rz (by show us.length = np; rw [← r.length]; exact e0) (by rw [← rz.length]; exact e1) q2⟩) hpl he) hdb)⟩
/-- l: by place; m: by name -/
def callX (ix : List Nat) (fn : List D → Fr) (l m : Ev → Rs (List D)) : Ev → Rs D := fun ρ => (l ρ).bind fun ds ρ1 => (m ρ1).bind fun es ρ2 => match fn (reo ix (ds ++ es)) with
  | .ok d => .ok d ρ2
  | .exc c fs => .exc c fs ρ2
  | .stuck => .stuck
theorem callX_ok {fn : List D → Fr} {n np nk : Nat} {ix : List Nat} {l m : Ev → Rs (List D)} {σ : St} {H : Hp} {Q : VK} (h1 : ∀ {ρ ds ρ1}, l ρ = .ok ds ρ1 → ds.length = np) (h2 : ∀ {ρ ds ρ1}, m ρ = .ok ds ρ1 → ds.length = nk) (hn : ∀ ds : List D, ds.length = np + nk → (reo ix ds).length = n) (h : pE G W (callX ix fn l m) σ H Q) : tCallX (spP G.K G.C n fn) W np nk ix (pA G W l) (pA G W m) σ H Q := by
  obtain ⟨S, ρ, R, q⟩ := h
  refine ⟨S, ρ, R, ?_⟩
  have q := Po.bind q
  cases e : l ρ with
  | stuck => rw [e] at q; exact q
  | exc c fs ρ1 => rw [e] at q; exact q
  | ok ds ρ1 =>
    rw [e] at q
    intro S1 H1 s1 R1 vs r
    refine ⟨by rw [← r.length, h1 e], S1, ρ1, R1, ?_⟩
    have q := Po.bind (q S1 H1 s1 R1)
    cases e2 : m ρ1 with
    | stuck => rw [e2] at q; exact q
    | exc c fs ρ2 => rw [e2] at q; exact q
    | ok es ρ2 =>
      rw [e2] at q
      intro S2 H2 s2 R2 zs rz
      have q := q S2 H2 s2 R2
      dsimp only at q
      refine ⟨by rw [← rz.length, h2 e2], S2, reo ix (ds ++ es), R2.sub, Rps.reo (Rps.append (Rps.mono s2 _ _ r) rz) ix, hn _ (by rw [List.length_append, h1 e, h2 e2]), ?_⟩
      cases ef : fn (reo ix (ds ++ es)) with
      | ok d => rw [ef] at q; exact fun v S' H' g r => q S' H' g.sS (R2.grow g) v r
      | exc c fs => rw [ef] at q; exact fun S' H' d g xo => q S' H' d g.sS (R2.grow g) (xo.up R2)
      | stuck => rw [ef] at q; exact q
theorem reo_len {ix : List Nat} {m : Nat} (h : ∀ i ∈ ix, i < m) : ∀ ds : List D, ds.length = m → (reo ix ds).length = ix.length := fun ds hd => by
  induction ix with
  | nil => rfl
  | cons i ix ih =>
    unfold reo at ih ⊢
    rw [List.filterMap_cons_some (List.getElem?_eq_getElem (by rw [hd]; exact h i List.mem_cons_self)), List.length_cons, List.length_cons, ih fun j hj => h j (List.mem_cons_of_mem _ hj)]
theorem e_callX0 {x : Str} {p : Pos} {kws : List Keyword} {fn : List D → Fr} {n : Nat} {m : Ev → Rs (List D)} {ks : List Str} {ix : List Nat} (F : DefX X.prog X.w X.K X.mg X.base x k ps (spP G.K G.C n fn) 0 ks ix) (hr : Room k X.A) (hg : X.A.guards = some []) (tk : Takes X W)
    (hz : PK X kws (pA G W m)) (h2 : ∀ {ρ ds ρ1}, m ρ = .ok ds ρ1 → ds.length = ks.length) (hix : ∀ i ∈ ix, i < 0 + ks.length) (hn : ix.length = n) (hgl : Gl X x := by rfl) (hdb : (x == ("__debug__" : Str)) = false := by decide) (hall : ((backToKw pos (keywordEach kws X.env)).all fun x => x.fst.isSome) = true := by rfl) (hks : List.filterMap (fun x => x.fst) (backToKw pos (keywordEach kws X.env)) = ks := by rfl)
    (hpl : (((backTo pos (starEach [] X.env)).any fun x => x.fst) || (backToKw pos (keywordEach kws X.env)).any fun x => x.fst.isNone) = false := by rfl) :
    PE X (.Call (.Name x p) [] kws pos) (pE G W (callX ix fn nilA m)) := by
  obtain ⟨f, fd, hm, hk, kx, h⟩ := F.ex
  subst hn
  refine PEm (pe_callX0 h hr hg hm hk kx tk hz hgl hdb hall hks hpl) fun σ H Q q => ?_
  have := callX_ok (np := 0) (nk := ks.length) nilA_len h2 (reo_len hix) q
  obtain ⟨S, ρ, R, q⟩ := this
  exact q S H (Same.refl _) R _ rfl
theorem e_callX {x : Str} {p : Pos} {e : Expr} {es : List Expr} {kws : List Keyword} {fn : List D → Fr} {n np : Nat} {l m : Ev → Rs (List D)} {ks : List Str} {ix : List Nat} (F : DefX X.prog X.w X.K X.mg X.base x k ps (spP G.K G.C n fn) np ks ix) (hr : Room k X.A) (hg : X.A.guards = some []) (tk : Takes X W)
    (ha : PA X (e :: es) (pA G W l)) (hz : PK X kws (pA G W m)) (h1 : ∀ {ρ ds ρ1}, l ρ = .ok ds ρ1 → ds.length = np) (h2 : ∀ {ρ ds ρ1}, m ρ = .ok ds ρ1 → ds.length = ks.length) (hix : ∀ i ∈ ix, i < np + ks.length) (hn : ix.length = n) (hgl : Gl X x := by rfl) (hdb : (x == ("__debug__" : Str)) = false := by decide) (hall : ((backToKw pos (keywordEach kws X.env)).all fun x => x.fst.isSome) = true := by rfl) (hks : List.filterMap (fun x => x.fst) (backToKw pos (keywordEach kws X.env)) = ks := by rfl)
    (he : starEach (e :: es) X.env = (false, eval e X.env) :: starEach es X.env := by rfl)
    (hpl : (((backTo pos (starEach (e :: es) X.env)).any fun x => x.fst) || (backToKw pos (keywordEach kws X.env)).any fun x => x.fst.isNone) = false := by rfl) :
    PE X (.Call (.Name x p) (e :: es) kws pos) (pE G W (callX ix fn l m)) := by
  obtain ⟨f, fd, hm, hk, kx, h⟩ := F.ex
  subst hn
  exact PEm (pe_callX h hr hg hm hk kx tk ha hz hgl hdb hall hks he hpl) fun σ H Q q => callX_ok h1 h2 (reo_len hix) q
end
end PL
namespace PL
open PySem
theorem len0 {P : List Value → Prop} (h : P []) : ∀ ws : List Value, ws.length = 0 → P ws := fun ws e => by
  rw [List.length_eq_zero_iff.mp e]; exact h
end PL
namespace PL
open PySem L2
/-! ### repr -/
def isR : D → Bool
  | .lst _ => true
  | .tup _ => true
  | _ => false
def rRepr (K : PySem.W.Frag) : List V → Hp → VK → Prop := fun vs H Q => ∃ v d, vs = [v] ∧ Dp K H v d ∧ (match d with
  | .none => Q (.str "None") H
  | .bool b => Q (.str (if b then "True" else "False")) H
  | .int i => i.natAbs.log2 < 1920 ∧ Q (.str (Str.ofString (toString i))) H
  | .str x => (reprText x).length ≤ sizeLine ∧ Q (.str (reprText x)) H
  | d => d.showable = true ∧ d.hasDict = false ∧ d.depth ≤ 60 ∧ d.shown.length ≤ sizeLine ∧ Q (.str d.shown) H)
theorem cr_repr {X : Cx} (hg : X.A.guards = some []) (hu : X.A.units + 65 < cLine) : CallR X (.builtin "repr") (rRepr X.K) := by
  intro pins s σ H vs us Q I r h
  obtain ⟨v, d, rfl, hd, h⟩ := h
  obtain ⟨u, rfl, ru⟩ := vals1 r
  cases hd with
  | non => cases ru; exact PySem.P.repr_of_none ⟨V.str _, H, I.tok (s.toks + 1), ⟨s.toks, rfl⟩, h⟩
  | bl b =>
    cases ru
    refine PySem.P.repr_of_bool ⟨V.str _, H, I.tok (s.toks + 1), ⟨s.toks, rfl⟩, ?_⟩
    exact h
  | int i =>
    obtain ⟨t, rfl⟩ := ru
    exact PySem.P.repr_of_int h.1 ⟨V.str _, H, I.tok (s.toks + 1), ⟨s.toks, rfl⟩, h.2⟩
  | str x =>
    obtain ⟨t, rfl⟩ := ru
    exact PySem.P.repr_of_str ⟨V.str _, H, I.tok (s.toks + 1), ⟨s.toks, rfl⟩, h.2⟩ h.1
  | lst q ds =>
    obtain ⟨as, hr⟩ := Dp.reads I _ _ u (.lst q ds) ru
    cases ru
    obtain ⟨h1, h2, h3, h4, h5⟩ := h
    exact PySem.repr_of_reads' hr h1 (fun z => by rw [h2] at z; cases z) hg (by omega) (fun _ _ z => z) (fun h' u' tk hk => ⟨V.str _, H, I.kept hk, ⟨u', rfl⟩, h5⟩) h4
  | tup q ds =>
    obtain ⟨as, hr⟩ := Dp.reads I _ _ u (.tup q ds) ru
    cases ru
    obtain ⟨h1, h2, h3, h4, h5⟩ := h
    exact PySem.repr_of_reads' hr h1 (fun z => by rw [h2] at z; cases z) hg (by omega) (fun _ _ z => z) (fun h' u' tk hk => ⟨V.str _, H, I.kept hk, ⟨u', rfl⟩, h5⟩) h4
def pyR : PyData → Option Str
  | .none => some "None"
  | .bool b => some (if b then "True" else "False")
  | .int i => if i.natAbs.log2 < 1920 then some (Str.ofString (toString i)) else none
  | .str x => if (reprText x).length ≤ sizeLine then some (reprText x) else none
  | .list ds => if (PyData.list ds).showable && !(PyData.list ds).hasDict && decide ((PyData.list ds).depth ≤ 60) && decide ((PyData.list ds).shown.length ≤ sizeLine) then some (PyData.list ds).shown else none
  | .tuple ds => if (PyData.tuple ds).showable && !(PyData.tuple ds).hasDict && decide ((PyData.tuple ds).depth ≤ 60) && decide ((PyData.tuple ds).shown.length ≤ sizeLine) then some (PyData.tuple ds).shown else none
  | _ => none
def oRepr : D → Option D := fun d => (py? d).bind fun p => (pyR p).map .str
theorem sp_repr {G : GC} : USpec G (fun v H Q => rRepr G.K [v] H Q) oRepr := by
  intro S H x d d' Q s b e k
  simp only [oRepr, Option.bind_eq_some_iff, Option.map_eq_some_iff] at e
  obtain ⟨p, e1, y, e2, rfl⟩ := e
  refine ⟨x, p, rfl, b.dp s e1, ?_⟩
  have fin := k (.str y) S H (Grow.refl s) rfl
  cases p with
  | none => cases e2; exact fin
  | bool b => cases e2; exact fin
  | int i =>
    simp only [pyR] at e2
    by_cases h : i.natAbs.log2 < 1920
    · rw [if_pos h] at e2; cases e2; exact ⟨h, fin⟩
    · rw [if_neg h] at e2; cases e2
  | str z =>
    simp only [pyR] at e2
    by_cases h : (reprText z).length ≤ sizeLine
    · rw [if_pos h] at e2; cases e2; exact ⟨h, fin⟩
    · rw [if_neg h] at e2; cases e2
  | list ds =>
    simp only [pyR] at e2
    split at e2
    · rename_i c
      cases e2
      simp only [Bool.and_eq_true, decide_eq_true_eq, Bool.not_eq_true'] at c
      exact ⟨c.1.1.1, c.1.1.2, c.1.2, c.2, fin⟩
    · cases e2
  | tuple ds =>
    simp only [pyR] at e2
    split at e2
    · rename_i c
      cases e2
      simp only [Bool.and_eq_true, decide_eq_true_eq, Bool.not_eq_true'] at c
      exact ⟨c.1.1.1, c.1.1.2, c.1.2, c.2, fin⟩
    · cases e2
  | _ => cases e2
end PL
namespace PL
open PySem L2
/-! ### a < b < c < d -/
def tLink (r : R2) (ta : V → TE) (tb : TE) (x : V) : TE := fun σ H Q => tb σ H fun y H2 => r x y H2 fun z H3 => ∃ k, z = .bl k ∧ if k = true then ta y σ H3 Q else Q (.bl false) H3
def tLast (r : R2) (tb : TE) (x : V) : TE := fun σ H Q => tb σ H fun y H2 => r x y H2 Q
section
variable {X : Cx} {G : GC} {W : Wx} {pos : Pos}
theorem pe_chain3 {a b c d : Expr} {ta tb tc td : TE} {op op' op'' : CmpOp} {r r' r'' : R2} (ho : OpR X (compareOp op) r) (ho' : OpR X (compareOp op') r') (ho'' : OpR X (compareOp op'') r'') (ha : PE X a ta) (hb : PE X b tb) (hc : PE X c tc) (hd : PE X d td) (hm : lastMarks [op, op', op''] [b, c, d] = false := by rfl) :
    PE X (.Compare a [op, op', op''] [b, c, d] pos) (fun σ H Q => ta σ H fun x H1 => tLink r (fun y => tLink r' (tLast r'' td) tc y) tb x σ H1 Q) := ⟨fun pins s σ H Q I h => by
  refine PyProof.Rows.Compare_chain (thn (ha.run pins s σ H _ I h) fun v s1 ⟨x, H1, I1, r1, q1⟩ => ?_) hm
  refine PyProof.Rows.chain_link (thn (hb.run pins s1 σ H1 _ I1 q1) fun u s2 ⟨y, H2, I2, r2, q2⟩ => ?_)
  refine thn (ho pins s2 σ H2 x y v u _ I2 r1 r2 q2) fun d1 s3 ⟨z, H3, I3, r3, k, e, q3⟩ => ?_
  subst e
  cases r3
  refine wpAny_truthy_bool ?_
  cases k with
  | false => exact PyProof.Rows.ite_ff ⟨.bl false, H3, I3, rfl, q3⟩
  | true =>
    refine PyProof.Rows.ite_tt (PyProof.Rows.chain_link (thn (hc.run pins s3 σ H3 _ I3 q3) fun u' s4 ⟨w, H4, I4, r4, q4⟩ => ?_))
    refine thn (ho' pins s4 σ H4 y w u u' _ I4 r2 r4 q4) fun d2 s5 ⟨z', H5, I5, r5, k', e', q5⟩ => ?_
    subst e'
    cases r5
    refine wpAny_truthy_bool ?_
    cases k' with
    | false => exact PyProof.Rows.ite_ff ⟨.bl false, H5, I5, rfl, q5⟩
    | true =>
      exact PyProof.Rows.ite_tt (PyProof.Rows.chain_last (thn (hd.run pins s5 σ H5 _ I5 q5) fun u'' s6 ⟨w', H6, I6, r6, q6⟩ => ho'' pins s6 σ H6 w w' u' u'' Q I6 r4 r6 q6))⟩
def chL (o : D → D → Option D) (k : D → Ev → Option D) (g : Ev → Option D) (a : D) : Ev → Option D := fun ρ => (g ρ).bind fun b => (o a b).bind fun t => match t with
  | .bl true => k b ρ
  | .bl false => some (.bl false)
  | _ => none
def chE (o : D → D → Option D) (g : Ev → Option D) (a : D) : Ev → Option D := fun ρ => (g ρ).bind fun b => o a b
def chQ3 (o o' o'' : D → D → Option D) (f g h i : Ev → Option D) : Ev → Option D := fun ρ => (f ρ).bind fun a => chL o (fun b => chL o' (chE o'' i) h b) g a ρ
theorem link_ok {r : R2} {o : D → D → Option D} (sp : BSpec G r o) {k : D → Ev → Option D} {tk : V → TE} {tb : TE} {g : Ev → Option D} {S : Hp} {ρ : Ev} {σ : St} {a : D} {v : V} {H : Hp} {Q : VK} (R : Rel G S H σ ρ) (b1 : BRp G S H a v)
    (hb : ∀ {σ H Q}, pB G g σ H Q → tb σ H Q) (hk : ∀ {S H d w} {Q : VK}, Rel G S H σ ρ → BRp G S H d w → (match k d ρ with | some d' => ∀ v' S' H', Grow S H S' H' → Rp G.K G.C S' d' v' → Q v' H' | none => False) → tk w σ H Q)
    (q : match chL o k g a ρ with | some d' => ∀ v' S' H', Grow S H S' H' → Rp G.K G.C S' d' v' → Q v' H' | none => False) : tLink r tk tb v σ H Q := by
  refine hb ⟨S, ρ, R, ?_⟩
  unfold chL at q
  cases e2 : g ρ with
  | none => rw [e2] at q; exact q.elim
  | some d2 =>
    rw [e2, Option.bind_some] at q
    intro v2 S2 H2 g2 b2
    cases e3 : o a d2 with
    | none => rw [e3] at q; exact q.elim
    | some d' =>
      rw [e3, Option.bind_some] at q
      refine sp S2 H2 v v2 a d2 d' _ g2.sub (b1.grow g2) b2 e3 fun v3 S3 H3 g3 r3 => ?_
      cases d' with
      | bl t =>
        refine ⟨t, r3, ?_⟩
        cases t with
        | false => exact iteF (q _ _ _ (g2.trans g3) rfl)
        | true =>
          dsimp only at q
          refine iteT (hk (R.grow (g2.trans g3)) (b2.grow g3) ?_)
          cases e4 : k d2 ρ with
          | none => rw [e4] at q; exact q.elim
          | some d4 => rw [e4] at q; exact fun v' S' H' g' => q v' S' H' ((g2.trans g3).trans g')
      | _ => exact q.elim
theorem last_ok {r : R2} {o : D → D → Option D} (sp : BSpec G r o) {tb : TE} {g : Ev → Option D} {S : Hp} {ρ : Ev} {σ : St} {a : D} {v : V} {H : Hp} {Q : VK} (R : Rel G S H σ ρ) (b1 : BRp G S H a v)
    (hb : ∀ {σ H Q}, pB G g σ H Q → tb σ H Q) (q : match chE o g a ρ with | some d' => ∀ v' S' H', Grow S H S' H' → Rp G.K G.C S' d' v' → Q v' H' | none => False) : tLast r tb v σ H Q := by
  refine hb ⟨S, ρ, R, ?_⟩
  unfold chE at q
  cases e2 : g ρ with
  | none => rw [e2] at q; exact q.elim
  | some d2 =>
    rw [e2, Option.bind_some] at q
    intro v2 S2 H2 g2 b2
    cases e3 : o a d2 with
    | none => rw [e3] at q; exact q.elim
    | some d' =>
      rw [e3] at q
      exact sp S2 H2 v v2 a d2 d' Q g2.sub (b1.grow g2) b2 e3 fun v3 S3 H3 g3 r3 => q v3 S3 H3 (g2.trans g3) r3
theorem q_chain3 {r r' r'' : R2} {o o' o'' : D → D → Option D} {a b c d : Expr} {f g h i : Ev → Option D} {op op' op'' : CmpOp} (ho : OpR X (compareOp op) r) (sp : BSpec G r o) (ho' : OpR X (compareOp op') r') (sp' : BSpec G r' o') (ho'' : OpR X (compareOp op'') r'') (sp'' : BSpec G r'' o'') (ha : PE X a (pB G f)) (hb : PE X b (pB G g)) (hc : PE X c (pB G h)) (hd : PE X d (pB G i)) (hm : lastMarks [op, op', op''] [b, c, d] = false := by rfl) :
    PE X (.Compare a [op, op', op''] [b, c, d] pos) (pQ G (chQ3 o o' o'' f g h i)) := PEm (pe_chain3 ho ho' ho'' ha hb hc hd hm) fun σ H Q ⟨S, ρ, R, q⟩ => by
  refine ⟨S, ρ, R, ?_⟩
  unfold chQ3 at q
  cases e : f ρ with
  | none => rw [e] at q; exact q
  | some d =>
    rw [e, Option.bind_some] at q
    intro v S1 H1 g1 b1
    refine link_ok sp (k := fun b => chL o' (chE o'' i) h b) (R.grow g1) b1 id (fun {S2 H2 d2 w Q2} R2 b2 q2 => link_ok sp' (k := chE o'' i) R2 b2 id (fun {S3 H3 d3 w3 Q3} R3 b3 q3 => last_ok sp'' R3 b3 id q3) q2) ?_
    cases e4 : chL o (fun b => chL o' (chE o'' i) h b) g d ρ with
    | none => rw [e4] at q; exact q.elim
    | some d4 => rw [e4] at q; exact fun v' S' H' g' => q v' S' H' (g1.trans g')
end
end PL
namespace PL
open PySem L2
/-! ### xs[::-1] -/
theorem vals_rev : ∀ {vs : List V} {us : List Value}, Vals vs us → Vals vs.reverse us.reverse
  | [], _, .nil => .nil
  | v :: vs, _, .cons h t => by
    rw [List.reverse_cons, List.reverse_cons]
    exact Vals.append (vals_rev t) (.cons h .nil)
section
variable {X : Cx} {G : GC} {W : Wx} {pos : Pos}
def tRev (K : PySem.W.Frag) (te : TE) (tm : TO) : TE := fun σ H Q => te σ H fun x H1 => tm σ H1 fun o H2 => o = some (-1) ∧ ∃ a xs, x = .ref a ∧ SqL K H2 a xs ∧ ∀ p, H2 p = none → Q (.ref p) (upd H2 p (.lst xs.reverse))
theorem pe_rev {e : Expr} {m : Option Expr} {te : TE} {tm : TO} {p2 : Pos} (he : PE X e te) (hm : PO X m tm) (hsub : ∀ v sl : Value, ∃ ops, subscripted (.Slice none none m p2) false v sl = operate ops (getItem v sl) := by exact fun _ _ => ⟨_, rfl⟩) : PE X (.Subscript e (.Slice none none m p2) pos) (tRev X.K te tm) := ⟨fun pins s σ H Q I h => by
  refine PyProof.Rows.Subscript_ (thn (he.run pins s σ H _ I h) fun v s1 ⟨x, H1, I1, r1, q1⟩ => ?_)
  refine wpAny_Slice ?_
  rw [evalPart_none]
  refine wpAny_pure (wpAny_pure (thn (hm.run pins s1 σ H1 _ I1 q1) fun st s3 ⟨o, H3, I3, po, q3⟩ => ?_))
  obtain ⟨rfl, a, xs, rfl, hx, q⟩ := q3
  cases r1
  have I4 := Inv.kept (t' := s3.toks) I3 fun b ob q => Heap.get?_push_of_some { cls := Value.type "slice", data := Data.fields #[Value.none, Value.none, st] } q
  obtain ⟨its, r, ht, hz⟩ := I4.list hx
  have hlen := Vals.length r
  have hs := Heap.IsSliceOf.new s3.heap Value.none Value.none st
  refine PyProof.Rows.tail_any (T := "list") (id := "list.__getitem__") (ht.isList.typeIs) slot_list_getitem.lookup (wpAny_getItem_list_slice ht.isList hs IsPart.none IsPart.none po (by decide) ?_ (by rw [List.size_toArray, ← hlen]; exact hz)) (hsub _ _).choose_spec
  rw [PySem.W.krv_pick]
  refine ⟨V.ref _, _, Inv.laid (o := .lst xs.reverse) I4 (fun b ob q => Heap.get?_push_of_some _ q) (Nat.le_refl _) ⟨by rw [List.length_reverse]; exact hz, its.reverse, 0, vals_rev r, Heap.get?_push_size _ rfl⟩, rfl, q _ (HOk.fresh I4.hok (Nat.le_refl _))⟩⟩
def revF (k : Ev → Rs D) (l : Ev → Rs (Option Int)) : Ev → Rs (List D) := fun ρ => (k ρ).bind fun d ρ1 => (l ρ1).bind fun o ρ2 => match listOf d with
  | some xs => if o = some (-1) then .ok xs.reverse ρ2 else .stuck
  | none => .stuck
theorem rps_rev {K : PySem.W.Frag} {C : CT} {S : Hp} : ∀ {ds : List D} {vs : List V}, Rps K C S ds vs → Rps K C S ds.reverse vs.reverse
  | [], _, h => by cases h; exact rfl
  | d :: ds, _, ⟨v, vs', e, q, r⟩ => by
    subst e
    rw [List.reverse_cons, List.reverse_cons]
    exact Rps.append (rps_rev r) (Rps.cons q Rps.nil)
/-- xs[::-1], a new list -/
theorem f_rev {e : Expr} {m : Option Expr} {p2 : Pos} {k : Ev → Rs D} {l : Ev → Rs (Option Int)} (hK : X.K = G.K) (he : PE X e (pE G W k)) (hm : PO X m (pO G W l)) (hsub : ∀ v sl : Value, ∃ ops, subscripted (.Slice none none m p2) false v sl = operate ops (getItem v sl) := by exact fun _ _ => ⟨_, rfl⟩) :
    PE X (.Subscript e (.Slice none none m p2) pos) (pF G W (revF k l)) := PEm (pe_rev he hm hsub) fun σ H Q ⟨S, ρ, R, q⟩ => ⟨S, ρ, R, Po.mono (Po.bind q) fun d ρ1 S1 H1 s1 R1 q v r => ⟨S1, ρ1, R1, Po.mono (Po.bind q) fun o ρ2 S2 H2 s2 R2 q => by
    cases ed : listOf d with
    | none => rw [ed] at q; exact q.elim
    | some xs =>
      rw [ed] at q
      dsimp only at q
      by_cases ho : o = some (-1)
      · rw [if_pos ho] at q
        obtain ⟨a, vs, e1, hs, r2⟩ := Rp.listOf (Rp.mono s2 _ _ r) ed
        refine ⟨ho, a, vs, e1, by rw [hK]; exact SqL.mono R2.sub hs, fun p hp => ?_⟩
        obtain ⟨h0, h1, h2⟩ := R2.new0 hp
        exact q S2 _ (Same.refl _) (R2.grow (Grow.loose R2.sub _ hp)) p _ h0 h1 h2 upd_same (rps_rev r2)
      · rw [if_neg ho] at q; exact q.elim⟩⟩
end
end PL
namespace PL
open PySem
theorem ex0 {us : List Value} (h : us.length = 0) : us = [] := List.length_eq_zero_iff.mp h
theorem exS {n : Nat} {us : List Value} (h : us.length = n + 1) : ∃ a vs, us = a :: vs ∧ vs.length = n := by
  cases us with
  | nil => cases h
  | cons a vs => exact ⟨a, vs, rfl, by simpa using h⟩
theorem ex1 {us : List Value} (h : us.length = 1) : ∃ a, us = [a] := by
  obtain ⟨a, vs, rfl, h'⟩ := exS h
  exact ⟨a, by rw [ex0 h']⟩
theorem ex2 {us : List Value} (h : us.length = 2) : ∃ a b, us = [a, b] := by
  obtain ⟨a, vs, rfl, h'⟩ := exS h
  obtain ⟨b, rfl⟩ := ex1 h'
  exact ⟨a, b, rfl⟩
theorem ex3 {us : List Value} (h : us.length = 3) : ∃ a b c, us = [a, b, c] := by
  obtain ⟨a, vs, rfl, h'⟩ := exS h
  obtain ⟨b, c, rfl⟩ := ex2 h'
  exact ⟨a, b, c, rfl⟩
theorem ex4 {us : List Value} (h : us.length = 4) : ∃ a b c d, us = [a, b, c, d] := by
  obtain ⟨a, vs, rfl, h'⟩ := exS h
  obtain ⟨b, c, d, rfl⟩ := ex3 h'
  exact ⟨a, b, c, d, rfl⟩
theorem ex5 {us : List Value} (h : us.length = 5) : ∃ a b c d e, us = [a, b, c, d, e] := by
  obtain ⟨a, vs, rfl, h'⟩ := exS h
  obtain ⟨b, c, d, e, rfl⟩ := ex4 h'
  exact ⟨a, b, c, d, e, rfl⟩
end PL
namespace PL
open PySem L2
def oMulN := oI (fun i _ => decide (-(2 ^ 64) < i) && decide (i < 2 ^ 64)) fun i j => .int (i * j)
theorem sp_mulN {G : GC} : BSpec G (rI CMul fun i j => .int (i * j)) oMulN := sp_I (fun i j h => by
  simp only [Bool.and_eq_true, decide_eq_true_eq] at h
  exact .inl h) fun i j => rfl
end PL
namespace PL
open PySem L2
/-! ### o.m(), o.m(k=e, ..) -/
section
variable {X : Cx} {G : GC} {W : Wx} {pos : Pos} {k : Nat} {f C : Addr} {fd : FuncData} {ps : List Str} {sp : Sp}
theorem pe_methG0 {m : Str} {apos : Pos} {o : Expr} {ta : TE} {pl : Sem Bool} (ho : PE X o ta) (c : Cls X.K C) (hm : Meth X.K C m f) (F : FnG X.prog X.w X.K X.mg X.base k f fd ps sp) (hr : Room k X.A) (hg : X.A.guards = some []) (hb : Binds X.K fd ps []) (tk : Takes X W)
    (ht : eval (.Call (.Attribute o m apos) [] [] pos) X.env = (do
      let ov ← eval o X.env
      standAt apos.atName
      let (f, first) ← holding [ov] (getMethod ov m pl)
      callWith pos f first (backTo pos (starEach [] X.env)) (backToKw pos (keywordEach [] X.env))) := by rfl) :
    PE X (.Call (.Attribute o m apos) [] [] pos) (fun σ H Q => ta σ H fun x H1 => ∃ a dx fs, x = .ref a ∧ H1 a = some (.ins C dx fs) ∧ fs.lookup m = none ∧ sp [x] H1 Q fun cls d H' => W cls d σ H') := ⟨fun pins s σ H Q I h =>
  PySem.W.methodCall_KW (thn (ho.run pins s σ H _ I h) fun u s1 ⟨x, H1, I1, rx, a, dx, fs, ex, ea, l, q⟩ => by
    subst ex
    cases rx
    exact getmeth_ok I1 ea c hm l (PySem.W.callWith_K0 I1.kIn hm.kp (goG F hr hg hb .nil tk I1 (Paired.cons (show RelV (V.ref a) (Value.ref a) from rfl) Paired.nil) q))) ht⟩
theorem pe_methX0 {m : Str} {apos : Pos} {o : Expr} {kws : List Keyword} {ta : TE} {tz : TA} {pl : Sem Bool} {ks : List Str} {ix : List Nat} (ho : PE X o ta) (c : Cls X.K C) (hm : Meth X.K C m f) (F : FnG X.prog X.w X.K X.mg X.base k f fd ps sp) (hr : Room k X.A) (hg : X.A.guards = some []) (hb : KX X.K fd ps 1 ks ix) (tk : Takes X W)
    (hz : PK X kws tz) (hall : ((backToKw pos (keywordEach kws X.env)).all fun x => x.fst.isSome) = true := by rfl) (hks : List.filterMap (fun x => x.fst) (backToKw pos (keywordEach kws X.env)) = ks := by rfl)
    (hpl : (((backTo pos (starEach [] X.env)).any fun x => x.fst) || (backToKw pos (keywordEach kws X.env)).any fun x => x.fst.isNone) = false := by rfl)
    (ht : eval (.Call (.Attribute o m apos) [] kws pos) X.env = (do
      let ov ← eval o X.env
      standAt apos.atName
      let (f, first) ← holding [ov] (getMethod ov m pl)
      callWith pos f first (backTo pos (starEach [] X.env)) (backToKw pos (keywordEach kws X.env))) := by rfl) :
    PE X (.Call (.Attribute o m apos) [] kws pos) (fun σ H Q => ta σ H fun x H1 => ∃ a dx fs, x = .ref a ∧ H1 a = some (.ins C dx fs) ∧ fs.lookup m = none ∧ tz σ H1 fun zs H2 => zs.length = ks.length ∧ sp (reo ix (x :: zs)) H2 Q fun cls d H' => W cls d σ H') := ⟨fun pins s σ H Q I h =>
  PySem.W.methodCall_KW (thn (ho.run pins s σ H _ I h) fun u s1 ⟨x, H1, I1, rx, a, dx, fs, ex, ea, l, q⟩ => by
    subst ex
    cases rx
    exact getmeth_ok I1 ea c hm l (PySem.W.callWith_KW0 I1.ok.mod.kin hm.kp hall (thn (hz.run pos pins s1 σ H1 _ I1 q) fun ws s2 ⟨zs, H2, I2, rz, e1, q2⟩ => ⟨I2.kIn, by
      rw [hks]
      exact goX F hr hg hb tk I2 (vs := [V.ref a]) (Paired.cons (show RelV (V.ref a) (Value.ref a) from rfl) Paired.nil) rz rfl (by rw [← rz.length]; exact e1) q2⟩) hpl)) ht⟩
def meth0E (c : Nat) (fn : List D → Fr) (o : Ev → Rs D) : Ev → Rs D := fun ρ => (o ρ).bind fun d ρ1 => match d with
  | .ins c' fs => if c' = c then (match fn [.ins c fs] with
    | .ok d => .ok d ρ1
    | .exc c fs => .exc c fs ρ1
    | .stuck => .stuck) else .stuck
  | _ => .stuck
theorem e_meth0 {c : Nat} {m : Str} {apos : Pos} {o : Expr} {fn : List D → Fr} {a : Ev → Rs D} {pl : Sem Bool} (F : DefT X.prog X.w X.K X.mg X.base m (G.C.at_ c) k ps (spP G.K G.C 1 fn)) (hm : m ∉ G.C.fn c) (hr : Room k X.A) (hg : X.A.guards = some []) (tk : Takes X W)
    (ho : PE X o (pE G W a)) (ht : eval (.Call (.Attribute o m apos) [] [] pos) X.env = (do
      let ov ← eval o X.env
      standAt apos.atName
      let (f, first) ← holding [ov] (getMethod ov m pl)
      callWith pos f first (backTo pos (starEach [] X.env)) (backToKw pos (keywordEach [] X.env))) := by rfl) :
    PE X (.Call (.Attribute o m apos) [] [] pos) (pE G W (meth0E c fn a)) := by
  obtain ⟨f, fd, cl, mt, hb, h⟩ := F.ex
  refine PEm (pe_methG0 ho cl mt h hr hg hb tk ht) fun σ H Q q => ?_
  obtain ⟨S, ρ, R, q⟩ := q
  refine ⟨S, ρ, R, ?_⟩
  have q := Po.bind q
  cases ea : a ρ with
  | stuck => rw [ea] at q; exact q
  | exc c fs ρ1 => rw [ea] at q; exact q
  | ok d ρ1 =>
    rw [ea] at q
    intro S1 H1 s1 R1 v rv
    have q := q S1 H1 s1 R1
    cases d with
    | ins c' fs =>
      dsimp only at q
      by_cases hc : c' = c
      · subst hc
        rw [if_pos rfl] at q
        obtain ⟨a, dx, vs, rfl, q1, l1, r1⟩ := rv
        refine ⟨a, dx, _, rfl, R1.sub _ _ q1, zip_none hm, S1, [.ins c' fs], R1.sub, Rps.cons ⟨a, dx, vs, rfl, q1, l1, r1⟩ Rps.nil, rfl, ?_⟩
        cases ef : fn [.ins c' fs] with
        | ok d => rw [ef] at q; exact fun v S' H' g r => q S' H' g.sS (R1.grow g) v r
        | exc c fs => rw [ef] at q; exact fun S' H' d g xo => q S' H' d g.sS (R1.grow g) (xo.up R1)
        | stuck => rw [ef] at q; exact q
      · rw [if_neg hc] at q; exact q.elim
    | _ => exact q.elim
end
end PL
namespace PL
open PySem L2
structure DefTX (P : Program) (w : World) (K : PySem.W.Frag) (mg : Str → Option Value) (base : Heap) (m : Str) (C : Addr) (k : Nat) (ps : List Str) (sp : Sp) (ks : List Str) (ix : List Nat) : Prop where
  ex : ∃ f fd, Cls K C ∧ Meth K C m f ∧ KX K fd ps 1 ks ix ∧ FnG P w K mg base k f fd ps sp
/-- a class made by names -/
structure DefIX (P : Program) (w : World) (K : PySem.W.Frag) (mg : Str → Option Value) (base : Heap) (x : Str) (C : Addr) (k : Nat) (ps : List Str) (sp : Sp) (ks : List Str) : Prop where
  ex : ∃ f fd, mg x = some (.ref C) ∧ Mk K C f ∧ KX K fd ps 1 ks (List.range (ks.length + 1)) ∧ FnG P w K mg base k f fd ps sp
section
variable {X : Cx} {G : GC} {W : Wx} {pos : Pos} {k : Nat} {f C : Addr} {fd : FuncData} {ps : List Str} {sp : Sp}
def methXE (c : Nat) (ix : List Nat) (fn : List D → Fr) (o : Ev → Rs D) (m : Ev → Rs (List D)) : Ev → Rs D := fun ρ => (o ρ).bind fun d ρ1 => match d with
  | .ins c' fs => if c' = c then (m ρ1).bind fun ds ρ2 => (match fn (reo ix (.ins c fs :: ds)) with
    | .ok d => .ok d ρ2
    | .exc c fs => .exc c fs ρ2
    | .stuck => .stuck) else .stuck
  | _ => .stuck
theorem e_methX0 {c n : Nat} {m : Str} {apos : Pos} {o : Expr} {kws : List Keyword} {fn : List D → Fr} {a : Ev → Rs D} {l : Ev → Rs (List D)} {pl : Sem Bool} {ks : List Str} {ix : List Nat} (F : DefTX X.prog X.w X.K X.mg X.base m (G.C.at_ c) k ps (spP G.K G.C n fn) ks ix) (hm : m ∉ G.C.fn c) (hr : Room k X.A) (hg : X.A.guards = some []) (tk : Takes X W)
    (ho : PE X o (pE G W a)) (hz : PK X kws (pA G W l)) (h2 : ∀ {ρ ds ρ1}, l ρ = .ok ds ρ1 → ds.length = ks.length) (hix : ∀ i ∈ ix, i < ks.length + 1) (hn : ix.length = n) (hall : ((backToKw pos (keywordEach kws X.env)).all fun x => x.fst.isSome) = true := by rfl) (hks : List.filterMap (fun x => x.fst) (backToKw pos (keywordEach kws X.env)) = ks := by rfl)
    (hpl : (((backTo pos (starEach [] X.env)).any fun x => x.fst) || (backToKw pos (keywordEach kws X.env)).any fun x => x.fst.isNone) = false := by rfl)
    (ht : eval (.Call (.Attribute o m apos) [] kws pos) X.env = (do
      let ov ← eval o X.env
      standAt apos.atName
      let (f, first) ← holding [ov] (getMethod ov m pl)
      callWith pos f first (backTo pos (starEach [] X.env)) (backToKw pos (keywordEach kws X.env))) := by rfl) :
    PE X (.Call (.Attribute o m apos) [] kws pos) (pE G W (methXE c ix fn a l)) := by
  obtain ⟨f, fd, cl, mt, kx, h⟩ := F.ex
  subst hn
  refine PEm (pe_methX0 ho cl mt h hr hg kx tk hz hall hks hpl ht) fun σ H Q q => ?_
  obtain ⟨S, ρ, R, q⟩ := q
  refine ⟨S, ρ, R, ?_⟩
  have q := Po.bind q
  cases ea : a ρ with
  | stuck => rw [ea] at q; exact q
  | exc c fs ρ1 => rw [ea] at q; exact q
  | ok d ρ1 =>
    rw [ea] at q
    intro S1 H1 s1 R1 v rv
    have q := q S1 H1 s1 R1
    cases d with
    | ins c' fs =>
      dsimp only at q
      by_cases hc : c' = c
      · subst hc
        rw [if_pos rfl] at q
        obtain ⟨a, dx, vs, rfl, q1, l1, r1⟩ := rv
        refine ⟨a, dx, _, rfl, R1.sub _ _ q1, zip_none hm, S1, ρ1, R1, ?_⟩
        have q := Po.bind q
        cases el : l ρ1 with
        | stuck => rw [el] at q; exact q
        | exc c fs ρ2 => rw [el] at q; exact q
        | ok ds ρ2 =>
          rw [el] at q
          intro S2 H2 s2 R2 us r
          have q := q S2 H2 s2 R2
          dsimp only at q
          have hself : Rp G.K G.C S2 (.ins c' fs) (.ref a) := ⟨a, dx, vs, rfl, s2 _ _ q1, l1, Rps.mono s2 _ _ r1⟩
          refine ⟨by rw [← r.length, h2 el], S2, reo ix (.ins c' fs :: ds), R2.sub, Rps.reo (Rps.cons hself r) ix, reo_len hix _ (by rw [List.length_cons, h2 el]), ?_⟩
          cases ef : fn (reo ix (.ins c' fs :: ds)) with
          | ok d => rw [ef] at q; exact fun v S' H' g r => q S' H' g.sS (R2.grow g) v r
          | exc c fs => rw [ef] at q; exact fun S' H' d g xo => q S' H' d g.sS (R2.grow g) (xo.up R2)
          | stuck => rw [ef] at q; exact q
      · rw [if_neg hc] at q; exact q.elim
    | _ => exact q.elim
end
end PL
namespace PL
open PySem L2
open PyProof.Rows (envOfC)
/-! ### a def that hands back a new list -/
inductive FrL where
  | ok (xs : List D) | stuck
def spL (K : PySem.W.Frag) (C : CT) (n : Nat) (g : List D → FrL) : Sp := fun vs H Q E => ∃ S ds, Same S H ∧ Rps K C S ds vs ∧ ds.length = n ∧ match g ds with
  | .ok xs => ∀ a ws S' H', Grow S H S' H' → H a = none → S' a = none → H' a = some (.lst ws) → Rps K C S' xs ws → Q (.ref a) H'
  | .stuck => False
def runL (n : Nat) (k : Ev → Rs (List D)) (ds : List D) : FrL := match k (env0 n ds) with
  | .ok xs _ => .ok xs
  | _ => .stuck
theorem fnL {P : Program} {w : World} {K : PySem.W.Frag} {C : CT} {mg : Str → Option Value} {base : Heap} {x qual : Str} {params : Arguments} {body : List Stmt} {scope : Scope} {dvs : List V} {kws : List (Str × V)} {f : Addr} {fd : FuncData} {N ps : List Str} {k : Nat} {kk : Ev → Rs (List D)} (F : FunD K x qual params body scope dvs kws f fd) (S : FnScope N ps scope)
    (hb : ∀ (cdv : Value) (A : Around) (outer : List Env) (s : Shared) (H : Hp) (E : XK) (G : GC) (W : Wx), G.K = K → G.C = C → Room k (A.deeper (envOfC qual scope s.heap.objs.size f cdv)) → A.guards = some [] →
      Takes (cxOf (L2.CX P w) P w K mg base N qual scope f cdv A outer s H E) W → PSs (cxOf (L2.CX P w) P w K mg base N qual scope f cdv A outer s H E) body (tRet (pF G W kk))) (hl : ps.length ≤ N.length := by decide) :
    FnG P w K mg base (k + 1) f fd ps (spL K C ps.length (runL N.length kk)) := by
  refine fnG_of F S (fun vs H Q E h => ?_) fun cdv A outer s H vs Q E hr hg h => ?_
  · obtain ⟨S, ds, _, r, e, _⟩ := h
    rw [← e, r.length]
  · obtain ⟨S0, ds, sm, r, e, h⟩ := h
    refine ⟨_, hb cdv A outer s H E ⟨K, C, H, S0, none, fun _ => False, [], none⟩ (fun cls d _ H' => E cls d H') rfl rfl hr hg (takes_of rfl rfl rfl rfl), S0, env0 N.length ds, rel_start sm r (by omega), ?_⟩
    unfold runL at h
    cases eb : kk (env0 N.length ds) with
    | ok xs ρ => rw [eb] at h; exact fun S' H' _ R a vs h0 nS _ hh r => h a vs S' H' R.grown h0 nS hh r
    | exc c fs ρ => rw [eb] at h; exact h.elim
    | stuck => rw [eb] at h; exact h.elim
section
variable {X : Cx} {G : GC} {W : Wx} {pos : Pos} {k : Nat} {ps : List Str}
def callL (fn : List D → FrL) (k : Ev → Rs (List D)) : Ev → Rs (List D) := fun ρ => (k ρ).bind fun ds ρ1 => match fn ds with
  | .ok xs => .ok xs ρ1
  | .stuck => .stuck
theorem e_callL {x : Str} {p : Pos} {e : Expr} {es : List Expr} {fn : List D → FrL} {n : Nat} {l : Ev → Rs (List D)} (F : Def X.prog X.w X.K X.mg X.base x k ps (spL G.K G.C n fn)) (hr : Room k X.A) (hg : X.A.guards = some []) (tk : Takes X W)
    (ha : PA X (e :: es) (pA G W l)) (hl : ∀ {ρ ds ρ1}, l ρ = .ok ds ρ1 → ds.length = n) (hgl : Gl X x := by rfl) (hdb : (x == ("__debug__" : Str)) = false := by decide) (he : starEach (e :: es) X.env = (false, eval e X.env) :: starEach es X.env := by rfl) (hpl : (backTo pos (starEach es X.env)).any (·.1) = false := by rfl) :
    PE X (.Call (.Name x p) (e :: es) [] pos) (pF G W (callL fn l)) := by
  obtain ⟨f, fd, hm, hk, hb, h⟩ := F.ex
  refine PEm (pe_callG h hr hg hm hk hb .nil tk ha hgl hdb he hpl) fun σ H Q ⟨S, ρ, R, q⟩ => ?_
  refine ⟨S, ρ, R, ?_⟩
  unfold callL at q
  have q := Po.bind q
  cases e : l ρ with
  | stuck => rw [e] at q; exact q
  | exc c fs ρ1 => rw [e] at q; exact q
  | ok ds ρ1 =>
    rw [e] at q
    intro S1 H1 s1 R1 vs r
    have q := q S1 H1 s1 R1
    refine ⟨S1, ds, R1.sub, by rw [List.append_nil]; exact r, hl e, ?_⟩
    dsimp only at q
    cases ef : fn ds with
    | ok xs =>
      rw [ef] at q
      intro a ws S' H' g h0 nS hh rx
      refine q S' H' g.sS (R1.grow g) a ws ?_ nS ?_ hh rx
      · cases z : G.H0 a with
        | none => rfl
        | some o =>
          obtain ⟨o', z2⟩ := R1.th a o z
          rw [h0] at z2; cases z2
      · rintro j ⟨⟨sl, e1, e2⟩, e3⟩
        have hs := R1.sl j sl e1
        have e4 : (σ[j]?).getD none = some (V.ref a) := by rw [e3]; rfl
        cases sl with
        | no => cases e2
        | adr => cases e2
        | val d => cases e2
        | own ys =>
          obtain ⟨b, ws', q1, _, q2, _⟩ := hs
          rw [e4] at q1; cases q1
          rw [h0] at q2; cases q2
        | obj c fs =>
          obtain ⟨b, dx, ws', q1, _, _, _, _, q2, _⟩ := hs
          rw [e4] at q1; cases q1
          rw [h0] at q2; cases q2
    | stuck => rw [ef] at q; exact q
/-! ### a list of a slot's own, lent to a def that hands back what holds no list -/
mutual
def flatD : D → Bool
  | .non => true | .bl _ => true | .int _ => true | .str _ => true
  | .tup xs => flatDs xs
  | _ => false
def flatDs : List D → Bool
  | [] => true
  | d :: ds => flatD d && flatDs ds
end
def dropS (S : Hp) (a : Addr) : Hp := fun b => if b = a then none else S b
mutual
theorem Rp.dropS {K : PySem.W.Frag} {C : CT} {S : Hp} {a : Addr} {ws : List V} (ha : S a = some (.lst ws)) : ∀ (d : D) (v : V), flatD d = true → Rp K C S d v → Rp K C (dropS S a) d v
  | .non, _, _, q => q
  | .bl _, _, _, q => q
  | .int _, _, _, q => q
  | .str _, _, _, q => q
  | .tup xs, _, h, ⟨p, vs, e, q, r⟩ => by
    refine ⟨p, vs, e, ?_, Rps.dropS ha xs vs h r⟩
    rcases q with (q | ⟨o, q⟩) | q
    · have hp : p ≠ a := fun z => by rw [z, ha] at q; cases q
      exact .inl (.inl (by unfold PL.dropS; rw [if_neg hp]; exact q))
    · have hp : p ≠ a := fun z => by rw [z, ha] at q; cases q
      exact .inl (.inr ⟨o, by unfold PL.dropS; rw [if_neg hp]; exact q⟩)
    · exact .inr q
  | .scr _, _, h, _ => by cases h
  | .lst _, _, h, _ => by cases h
  | .ins _ _, _, h, _ => by cases h
theorem Rps.dropS {K : PySem.W.Frag} {C : CT} {S : Hp} {a : Addr} {ws : List V} (ha : S a = some (.lst ws)) : ∀ (ds : List D) (vs : List V), flatDs ds = true → Rps K C S ds vs → Rps K C (dropS S a) ds vs
  | [], _, _, q => q
  | d :: ds, _, h, ⟨v, vs', e, q, r⟩ => by
    have h2 : (flatD d && flatDs ds) = true := h
    rw [Bool.and_eq_true] at h2
    exact ⟨v, vs', e, Rp.dropS ha d v h2.1 q, Rps.dropS ha ds vs' h2.2 r⟩
end
def callB (i : Nat) (fn : List D → Fr) (l : Ev → Rs (List D)) : Ev → Rs D := fun ρ => match ρ[i]? with
  | some (.own _) => (l ρ).bind fun ds ρ1 => (match ρ1[i]? with
    | some (.own xs) => (match fn (.lst xs :: ds) with
      | .ok d => if flatD d then .ok d ρ1 else .stuck
      | _ => .stuck)
    | _ => .stuck)
  | _ => .stuck
theorem e_callB {i : Nat} {x y : Str} {p p1 : Pos} {es : List Expr} {fn : List D → Fr} {n : Nat} {l : Ev → Rs (List D)} (F : Def X.prog X.w X.K X.mg X.base x k ps (spP G.K G.C (n + 1) fn)) (hr : Room k X.A) (hg : X.A.guards = some []) (tk : Takes X W)
    (ha : PA X es (pA G W l)) (hl : ∀ {ρ ds ρ1}, l ρ = .ok ds ρ1 → ds.length = n) (hN : X.N[i]? = some y := by rfl) (hv : Vis X.env.scope y := by first | exact Or.inl rfl | exact Or.inr (Or.inl rfl) | exact Or.inr (Or.inr rfl)) (hd : (y == ("__debug__" : Str)) = false := by decide) (hcd : (y == ("__classdict__" : Str)) = false := by decide)
    (hgl : Gl X x := by rfl) (hdb : (x == ("__debug__" : Str)) = false := by decide) (he : starEach (.Name y p1 :: es) X.env = (false, eval (.Name y p1) X.env) :: starEach es X.env := by rfl) (hpl : (backTo pos (starEach es X.env)).any (·.1) = false := by rfl) :
    PE X (.Call (.Name x p) (.Name y p1 :: es) [] pos) (pE G W (callB i fn l)) := by
  obtain ⟨f, fd, hm, hk, hb, h⟩ := F.ex
  refine PEm (pe_callG h hr hg hm hk hb .nil tk (pa_cons (pe_var hN hv hd hcd) ha he) hgl hdb he hpl) fun σ H Q ⟨S, ρ, R, q⟩ => ?_
  unfold callB at q
  obtain ⟨xs0, e1, q⟩ := own_inv (α := D) (P := Po G W S σ _) Po.not q
  obtain ⟨a, vs0, e3, n0, hh0, r0, ow0⟩ := R.at_own e1
  refine ⟨_, e3, S, ρ, R, ?_⟩
  have q := Po.bind q
  cases el : l ρ with
  | stuck => rw [el] at q; exact q
  | exc c fs ρ1 => rw [el] at q; exact q
  | ok ds ρ1 =>
    rw [el] at q
    intro S1 H1 s1 R1 us r
    have q := q S1 H1 s1 R1
    dsimp only at q
    obtain ⟨xs, e4, q⟩ := own_inv (α := D) (P := Po G W S1 σ _) Po.not q
    obtain ⟨a2, ws, e5, n2, hh2, r2, ow2⟩ := R1.at_own e4
    rw [e3] at e5; cases e5
    have sm : Same S1 (upd S1 a (.lst ws)) := fun b o z => by rw [upd_ne (ne_of_none z n2)]; exact z
    have sb : Same (upd S1 a (.lst ws)) H1 := fun b o z => by
      by_cases hb : b = a
      · subst hb; rw [upd_same] at z; cases z; exact hh2
      · rw [upd_ne hb] at z; exact R1.sub b o z
    refine ⟨upd S1 a (.lst ws), .lst xs :: ds, sb, by rw [List.append_nil]; exact ⟨_, _, rfl, ⟨a, ws, rfl, upd_same, Rps.mono sm _ _ r2⟩, Rps.mono sm _ _ r⟩, by rw [List.length_cons, hl el], ?_⟩
    cases ef : fn (.lst xs :: ds) with
    | ok d =>
      rw [ef] at q
      dsimp only at q
      intro v S' H' g rv
      by_cases hf : flatD d = true
      · rw [if_pos hf] at q
        have ha' : S' a = some (.lst ws) := g.sS _ _ upd_same
        have g2 : Grow S1 H1 (dropS S' a) H' := ⟨fun b o z => by
            have hb : b ≠ a := ne_of_none z n2
            unfold dropS; rw [if_neg hb]; exact g.sS _ _ (sm _ _ z), g.hH, fun b o z => by
            unfold dropS at z
            by_cases hb : b = a
            · rw [if_pos hb] at z; cases z
            · rw [if_neg hb] at z; exact g.sub _ _ z, fun b o z => by
            unfold dropS at z
            by_cases hb : b = a
            · rw [if_pos hb] at z; cases z
            · rw [if_neg hb] at z
              rcases g.nw b o z with y | y
              · rw [upd_ne hb] at y; exact .inl y
              · exact .inr y, fun z b ps q => by
            unfold dropS at q
            by_cases hb : b = a
            · rw [if_pos hb] at q; exact nomatch q
            · rw [if_neg hb] at q; exact g.nt (z.upd fun _ => nofun) b ps q⟩
        exact q _ H' g2.sS (R1.grow g2) v (Rp.dropS ha' d v hf rv)
      · rw [if_neg hf] at q; exact q.elim
    | exc c fs => rw [ef] at q; exact q.elim
    | stuck => rw [ef] at q; exact q.elim
/-! ### x, T = a new list, a value: the list stays x's own -/
def asgO (i : Nat) (tg : D → Ev → Option Ev) (k : Ev → Rs (List D)) (l : Ev → Rs D) : Ev → Fl := fun ρ => match k ρ with
  | .ok ds ρ1 => (match l ρ1 with
    | .ok d ρ2 => (put i (.own ds) ρ2).seq fun ρ3 => match tg d ρ3 with
      | some ρ4 => .nx ρ4
      | none => .stuck
    | _ => .stuck)
  | _ => .stuck
theorem le_trans2 : (2 : Nat) ≤ sizeLine := by decide
theorem s_asgO {i : Nat} {x : Str} {T a b : Expr} {tg : D → Ev → Option Ev} {ws : List Nat} {kk : Ev → Rs (List D)} {l : Ev → Rs D} {px pt : Pos} {kt k2 pt2} (hc : X.calm = true) (hK : X.K = G.K) (hN : X.N.Nodup) (hi : X.N[i]? = some x) (hx : L2.Loc X.env.scope x)
    (ha : PE X a (pF G W kk)) (hb : ∀ G' : GC, G'.K = G.K → G'.C = G.C → PE X b (pE G' W l)) (hT : PG X T (pG G tg ws))
    (hf : X.fn x = true ∨ X.env.scope.names.lookup x = some .local := by first | exact .inl rfl | exact .inr rfl | assumption)
    (he : starEach (a :: [b]) X.env = (false, eval a X.env) :: starEach [b] X.env := by rfl) (he2 : starEach (b :: []) X.env = (false, eval b X.env) :: starEach [] X.env := by rfl)
    (hg1 : (assignEach (.Name x px :: [T]) X.env).map (·.2) = assign (.Name x px) X.env :: (assignEach [T] X.env).map (·.2) := by rfl) (hg2 : (assignEach (T :: []) X.env).map (·.2) = assign T X.env :: (assignEach [] X.env).map (·.2) := by rfl)
    (hn : (assignEach [.Name x px, T] X.env).length = 2 := by rfl) (hst : (assignEach [.Name x px, T] X.env).findIdx? (·.1) = none := by rfl)
    (hs : swapsWithSole [.Tuple [.Name x px, T] kt pt] (.Tuple [a, b] k2 pt2) pos.line X.env = pure false := by rfl) (hw : swappedStores [.Tuple [.Name x px, T] kt pt] (.Tuple [a, b] k2 pt2) X.env = pure none := by rfl)
    (h1 : (assignEach [.Tuple [.Name x px, T] kt pt] X.env).map (·.2) = [assign (.Tuple [.Name x px, T] kt pt) X.env] := by rfl) :
    PS X (.Assign [.Tuple [.Name x px, T] kt pt] (.Tuple [a, b] k2 pt2) pos) (pS G W (asgO i tg kk l)) := by
  have hb' : PE X b (fun σ H Q => ∃ G' : GC, G'.K = G.K ∧ G'.C = G.C ∧ pE G' W l σ H Q) := ⟨fun pins s σ H Q I ⟨G', e1, e2, q⟩ => (hb G' e1 e2).run pins s σ H Q I q⟩
  refine PSm (ps_asg (pe_tup (pa_cons ha (pa_cons hb' pa_nil he2) he)) (pg_tup hc (pgs_cons (pg_name hN hi hx hf) (pgs_cons hT pgs_nil hg2) hg1) hn hst) hs hw h1) fun E σ H q => ?_
  obtain ⟨S, ρ, R, q⟩ := pS_iff.mp q
  refine ⟨S, ρ, R, ?_⟩
  unfold asgO at q
  cases ek : kk ρ with
  | stuck => rw [ek] at q; exact q.elim
  | exc c fs ρ1 => rw [ek] at q; exact q.elim
  | ok ds ρ1 =>
    rw [ek] at q
    dsimp only at q
    intro S1 H1 s1 R1 la vs h0 nS nO hh r
    refine ⟨G.re S1 H1 σ ρ1, rfl, rfl, S1, ρ1, R1.into, ?_⟩
    cases el : l ρ1 with
    | stuck => rw [el] at q; exact q.elim
    | exc c fs ρ1 => rw [el] at q; exact q.elim
    | ok d ρ2 =>
      rw [el] at q
      dsimp only at q
      intro S2 H2 s2 R2' v2 rv2
      have R2 := R1.outof R2'
      have hh2 : H2 la = some (.lst vs) := R2'.fr la _ hh fun ⟨j, hj⟩ => nO j hj
      have nS2 : S2 la = none := by
        cases z : S2 la with
        | none => rfl
        | some o =>
          rcases R2'.nw la o z with y | y | ⟨j, y⟩
          · have y : S1 la = some o := y
            rw [nS] at y; cases y
          · have y : H1 la = none := y
            rw [hh] at y; cases y
          · exact absurd y (nO j)
      have nO2 : ∀ j, ¬ Ow ρ2 σ j la := fun j hj => by
        rcases R2'.mine j la hj with ⟨j', y⟩ | y
        · exact nO j' y
        · have y : H1 la = none := y
          rw [hh] at y; cases y
      have r2 := Rps.mono s2 _ _ r
      refine ⟨le_trans2, fun p hp => ?_⟩
      have g := Grow.loose R2.sub (.tup [V.ref la, v2]) hp
      have R3 := R2.grow g
      have hh3 : upd H2 p (.tup [V.ref la, v2]) la = some (.lst vs) := by rw [upd_ne (fun z => by rw [z, hp] at hh2; cases hh2)]; exact hh2
      have q := Fo.mono (s1.trans s2) q
      obtain ⟨z1, z2, q⟩ := Fo.put2 R3 q
      have R4 := R3.seto z1 z2 h0 nS2 nO2 hh3 r2
      refine ⟨p, [V.ref la, v2], rfl, SqT.of upd_same, rfl, V.ref la, [v2], rfl, ?_⟩
      refine ⟨v2, [], rfl, S2, ρ2.set i (.own ds), d, R4, rv2, ?_⟩
      cases et : tg d (ρ2.set i (.own ds)) with
      | none => rw [et] at q; exact q.elim
      | some ρ4 => rw [et] at q; exact fun σ' S' H' g' R' _ => ⟨rfl, q σ' S' H' g'.sS R'⟩
end
end PL
/-! PL29: defs that make lambdas: tables of code may grow -/
namespace PL
open PySem L2 LamX
open PyProof.Rows (envOfC)
/-- all but the tables -/
def strip (H : Hp) : Hp := fun b => match H b with
  | some (.tbl _) => none
  | o => o
theorem strip_of {H : Hp} {b : Addr} {o : HO} (e : H b = some o) (n : ∀ ps, o ≠ .tbl ps) : strip H b = some o := by
  unfold strip
  rw [e]
  cases o with
  | tbl ps => exact absurd rfl (n ps)
  | _ => rfl
theorem of_strip {H : Hp} {b : Addr} {o : HO} (e : strip H b = some o) : H b = some o ∧ ∀ ps, o ≠ .tbl ps := by
  unfold strip at e
  cases q : H b with
  | none => rw [q] at e; cases e
  | some u =>
    rw [q] at e
    cases u with
    | tbl ps => cases e
    | _ => cases e; exact ⟨rfl, fun _ => nofun⟩
theorem strip_noT (H : Hp) : NoT (strip H) := fun b ps e => (of_strip e).2 ps rfl
structure GrowT (T : List (Addr × Str)) (S H S' H' : Hp) : Prop where
  sS : Same S S'
  hH : ExtN H H'
  sub : Same S' H'
  nw : ∀ a o, S' a = some o → S a = some o ∨ strip H a = none
  nt : NoT S'
  tb : Tabs T H'
theorem GrowT.lam {T : List (Addr × Str)} {S H H1 : Hp} (s : Same S H) (n : NoT S) (e : ExtN H H1) (t : Tabs T H1) : GrowT T S H S H1 :=
  ⟨Same.refl _, e, fun b o q => e b o (s b o q) fun ps z => n b ps (by rw [q, z]), fun _ _ q => .inl q, n, t⟩
theorem tabs_none {T : List (Addr × Str)} {S H : Hp} (s : Same S H) (n : NoT S) (t : Tabs T H) : ∀ p ∈ T, S p.1 = none := fun p hp => by
  cases q : S p.1 with
  | none => rfl
  | some o =>
    obtain ⟨ps, h1, _⟩ := t p hp
    have := s _ _ q
    rw [h1] at this
    cases this
    exact absurd q (n p.1 ps)
section
variable {G : GC} {S H S' H' : Hp} {σ : St} {ρ : Ev} {T : List (Addr × Str)}
theorem SlOk.growT {K : PySem.W.Frag} {C : CT} (g : GrowT T S H S' H') {x : Option Addr} {sl : Sl} {o : Option V} (h : SlOk K C x S H sl o) : SlOk K C x S' H' sl o := by
  have up : ∀ {a : Addr} {u : HO}, S a = none → H a = some u → (∀ ps, u ≠ .tbl ps) → S' a = none := fun {a u} n e nt => by
    cases q : S' a with
    | none => rfl
    | some w =>
      rcases g.nw a w q with z | z
      · rw [n] at z; cases z
      · rw [strip_of e nt] at z; cases z
  cases sl with
  | no => trivial
  | adr => exact h
  | val d => obtain ⟨v, e, r⟩ := h; exact ⟨v, e, Rp.mono g.sS d v r⟩
  | own xs => obtain ⟨a, vs, e, n, q, r⟩ := h; exact ⟨a, vs, e, up n q (fun _ => nofun), g.hH _ _ q (fun _ => nofun), Rps.mono g.sS xs vs r⟩
  | obj c fs =>
    obtain ⟨a, dx, vs, e, n, n2, ne, qd, q, r⟩ := h
    exact ⟨a, dx, vs, e, up n q (fun _ => nofun), up n2 qd (fun _ => nofun), ne, g.hH _ _ qd (fun _ => nofun), g.hH _ _ q (fun _ => nofun), r.mono g.sS⟩
/-- a def that makes lambdas goes on -/
theorem Rel.growT (hT : G.T = T) (h0 : NoT G.H0) (hM : ∀ b, G.M b → ∃ o, H b = some o ∧ ∀ ps, o ≠ .tbl ps) (g : GrowT T S H S' H') (R : Rel G S H σ ρ) : Rel G S' H' σ ρ where
  sub := g.sub
  old := R.old.trans g.sS
  fr := fun b o h n => g.hH b o (R.fr b o h n) fun ps z => h0 b ps (by rw [h, z])
  th := fun b o h => by
    by_cases m : G.M b
    · obtain ⟨u, q, n⟩ := hM b m
      exact ⟨_, g.hH b _ q n⟩
    · exact ⟨o, g.hH b o (R.fr b o h m) fun ps z => h0 b ps (by rw [h, z])⟩
  nw := fun a o q => by
    rcases g.nw a o q with z | z
    · exact R.nw a o z
    · cases e : G.H0 a with
      | none => exact .inr (.inl rfl)
      | some u =>
        by_cases m : G.M a
        · exact .inr (.inr m)
        · have := strip_of (R.fr a u e m) fun ps y => h0 a ps (by rw [e, y])
          rw [z] at this; cases this
  sl := fun i sl e => SlOk.growT g (R.sl i sl e)
  dis := R.dis
  mine := R.mine
  mt := R.mt
  len := R.len
  tb := by rw [hT]; exact ⟨g.tb, tabs_none g.sub g.nt g.tb⟩
  nt := fun _ => g.nt
end
/-- what a def that makes lambdas starts from -/
structure TG (G : GC) (T : List (Addr × Str)) : Prop where
  eT : G.T = T
  h0 : NoT G.H0
  s0 : NoT G.S0
  m : ∀ b, G.M b → G.m = some b
theorem Rel.mOk {G : GC} {S H : Hp} {σ : St} {ρ : Ev} {T : List (Addr × Str)} (tg : TG G T) (R : Rel G S H σ ρ) : ∀ b, G.M b → ∃ o, H b = some o ∧ ∀ ps, o ≠ .tbl ps := fun b hb => by
  obtain ⟨e0, sl, e1, e2⟩ := R.mt b (tg.m b hb)
  have h := R.sl 0 sl e1
  rw [e0] at h
  cases sl with
  | no => cases e2
  | adr => cases e2
  | val d => cases e2
  | own xs => obtain ⟨a, vs, e, _, q, _⟩ := h; cases e; exact ⟨_, q, fun _ => nofun⟩
  | obj c fs => obtain ⟨a, dx, vs, e, _, _, _, _, q, _⟩ := h; cases e; exact ⟨_, q, fun _ => nofun⟩
theorem Rel.stepT {G : GC} {S H S' H' : Hp} {σ : St} {ρ : Ev} {T : List (Addr × Str)} (tg : TG G T) (g : GrowT T S H S' H') (R : Rel G S H σ ρ) : Rel G S' H' σ ρ := R.growT tg.eT tg.h0 (R.mOk tg) g
theorem Rel.no {G : GC} {S H : Hp} {σ : St} {ρ : Ev} {T : List (Addr × Str)} (tg : TG G T) (R : Rel G S H σ ρ) : NoT S := R.nt tg.s0
theorem Rel.tabs {G : GC} {S H : Hp} {σ : St} {ρ : Ev} {T : List (Addr × Str)} (tg : TG G T) (R : Rel G S H σ ρ) : Tabs T H := by rw [← tg.eT]; exact R.tb.1
theorem XO.upT {G : GC} {S1 H1 S H : Hp} {σ : St} {ρ : Ev} {T : List (Addr × Str)} {c : Nat} {fs : List D} {d : Option Addr} (tg : TG G T) (x : XO G.K G.C (strip H1) S H c fs d) (R : Rel G S1 H1 σ ρ) : XOk G S H c fs d := by
  obtain ⟨l, x⟩ := x
  refine ⟨l, x.imp id fun ⟨dd, kvs, h1, h2, h3, h4, h5⟩ => ⟨dd, kvs, h1, h2, h3, ?_, h5⟩⟩
  cases e : G.H0 dd with
  | none => rfl
  | some o =>
    by_cases m : G.M dd
    · obtain ⟨u, q, n⟩ := R.mOk tg dd m
      rw [strip_of q n] at h4; cases h4
    · rw [strip_of (R.fr dd o e m) fun ps z => tg.h0 dd ps (by rw [e, z])] at h4; cases h4
/-! ### their promises -/
section
variable {K : PySem.W.Frag} {C : CT} {T : List (Addr × Str)}
abbrev GT (K : PySem.W.Frag) (C : CT) (T : List (Addr × Str)) (S H : Hp) : GC := ⟨K, C, strip H, S, none, fun _ => False, T, none⟩
abbrev GTM (K : PySem.W.Frag) (C : CT) (T : List (Addr × Str)) (S H : Hp) (p : Addr) : GC := ⟨K, C, strip H, S, some p, fun b => b = p, T, none⟩
theorem rel_startT {S H : Hp} {N : List Str} {ds : List D} {vs : List V} (s : Same S H) (n : NoT S) (t : Tabs T H) (r : Rps K C S ds vs) (hN : ds.length ≤ N.length) : Rel (GT K C T S H) S H (L2.start N vs) (env0 N.length ds) := by
  have R := rel_start s r hN
  exact { sub := s, old := Same.refl _, fr := fun b o h _ => (of_strip h).1, th := fun b o h => ⟨o, (of_strip h).1⟩, nw := fun _ _ h => .inl h, sl := R.sl, dis := R.dis, mine := fun i a h => by
            rcases R.mine i a h with z | z
            · exact z.elim
            · refine .inr ?_
              show strip H a = none
              unfold strip
              rw [show H a = none from z], mt := fun a h => (nomatch h), len := R.len, tb := ⟨t, tabs_none s n t⟩, nt := fun _ => n }
theorem Rel.grownT {S H S' H' : Hp} {σ : St} {ρ : Ev} (n : NoT S) (R : Rel (GT K C T S H) S' H' σ ρ) : GrowT T S H S' H' :=
  ⟨R.old, fun b o h nt => R.fr b o (strip_of h nt) id, R.sub, fun a o h => by
    rcases R.nw a o h with z | z | z
    · exact .inl z
    · exact .inr z
    · exact z.elim, R.nt n, R.tb.1⟩
/-- a def that makes lambdas -/
def spT (K : PySem.W.Frag) (C : CT) (T : List (Addr × Str)) (n : Nat) (g : List D → Fr) : Sp := fun vs H Q E => ∃ S ds, Same S H ∧ NoT S ∧ Tabs T H ∧ Rps K C S ds vs ∧ ds.length = n ∧ match g ds with
  | .ok d => ∀ v S' H', GrowT T S H S' H' → Rp K C S' d v → Q v H'
  | .exc c fs => ∀ S' H' d, GrowT T S H S' H' → XO K C (strip H) S' H' c fs d → E (.ref (C.at_ c)) d H'
  | .stuck => False
theorem fnT {P : Program} {w : World} {mg : Str → Option Value} {base : Heap} {x qual : Str} {params : Arguments} {body : List Stmt} {scope : Scope} {dvs : List V} {kws : List (Str × V)} {f : Addr} {fd : FuncData} {N ps : List Str} {k : Nat} {b : Ev → Fl} (F : FunD K x qual params body scope dvs kws f fd) (S : FnScope N ps scope)
    (hb : ∀ (cdv : Value) (A : Around) (outer : List Env) (s : Shared) (H : Hp) (E : XK) (G : GC) (W : Wx), G.K = K → G.C = C → TG G T → Room k (A.deeper (envOfC qual scope s.heap.objs.size f cdv)) → A.guards = some [] →
      Takes (cxOf (L2.CX P w) P w K mg base N qual scope f cdv A outer s H E) W → PSs (cxOf (L2.CX P w) P w K mg base N qual scope f cdv A outer s H E) body (pS G W b)) (hl : ps.length ≤ N.length := by decide) :
    FnG P w K mg base (k + 1) f fd ps (spT K C T ps.length (runF N.length b)) := by
  refine fnG_of F S (fun vs H Q E h => ?_) fun cdv A outer s H vs Q E hr hg h => ?_
  · obtain ⟨S, ds, _, _, _, r, e, _⟩ := h
    rw [← e, r.length]
  · obtain ⟨S0, ds, sm, nt, tb, r, e, h⟩ := h
    refine ⟨_, hb cdv A outer s H E (GT K C T S0 H) (fun cls d _ H' => E cls d H') rfl rfl ⟨rfl, strip_noT H, nt, fun _ z => z.elim⟩ hr hg (takes_of rfl rfl rfl rfl), S0, env0 N.length ds, rel_startT sm nt tb r (by omega), ?_⟩
    unfold runF at h
    cases eb : b (env0 N.length ds) with
    | nx ρ => rw [eb] at h; exact fun σ' S' H' _ R => h _ S' H' (R.grownT nt) rfl
    | rt d ρ => rw [eb] at h; exact fun σ' v S' H' _ R r => h v S' H' (R.grownT nt) r
    | exc c fs ρ => rw [eb] at h; exact fun σ' S' H' d _ R x => h S' H' d (R.grownT nt) x
    | bk ρ => rw [eb] at h; exact h.elim
    | ct ρ => rw [eb] at h; exact h.elim
    | stuck => rw [eb] at h; exact h.elim
end
end PL
/-! PL30: a lambda handed to a def, its body a promise that asks for no repr under way -/
namespace PL
open PySem L2 LamX PySem.Spec PyProof.Rows
section
variable {X : Cx} {pins : List (Addr × Obj)} {σ : L2.St} {H : Hp} {s : Shared}
/-- the context of the def that got it -/
abbrev recvCx (X : Cx) (N : List Str) (q : Str) (sc : Scope) (g : Addr) (cd : Value) (s : Shared) (H : Hp) (CY : CXT) (EY : XK) : Cx := cxOf CY X.prog X.w X.K X.mg X.base N q sc g cd X.A X.stack s H EY
/-- the lambda as an object -/
abbrev lamObj (X : Cx) (ps : Arguments) (b : Expr) (sc : Scope) (pm : Value) (c : Addr) (ct : Value) : Obj := PySem.W.kla_obj "<lambda>" (X.env.qual ++ "<lambda>") ps b sc (cloFrom X.env.cells sc.names []) pm c ct
abbrev lamFd (X : Cx) (ps : Arguments) (b : Expr) (sc : Scope) (pm : Value) (c : Addr) (ct : Value) : FuncData := PySem.W.kla_fn "<lambda>" (X.env.qual ++ "<lambda>") ps b sc (cloFrom X.env.cells sc.names []) pm (.ref c) ct
theorem lam_act {N : List Str} {q : Str} {sg : Scope} {g f c : Addr} {cd pm ct : Value} {ps : Arguments} {b : Expr} {sc : Scope} {k i : Nat} {y : Str} {pn : List (Addr × Obj)} {xe : Value → Shared → Prop} {W : WX} {E : XK} {tb : TE} {p1 p2 : Pos} {CY : CXT} {EY : XK} {τ0 : L2.St}
    (I : Inv X pins σ H s) (L : LamS X.env.scope sc) (ho : s.heap.get? f = some (lamObj X ps b sc pm c ct)) (hn : H f = none) (hf : f ∉ frs X.stack) (bd : bindArgs (lamFd X ps b sc pm c ct) ⟨[], []⟩ = pure []) (tk : Takes ((recvCx X N q sg g cd s H CY EY).tr pn xe) W)
    (hW : ∀ cls d H', E cls d H' → W cls d τ0 H') (room : Room (k + 1) (X.A.deeper (envOfC q sg s.heap.objs.size g cd))) (gd : X.A.guards = some [])
    (hb : ∀ (A : Around) (outer : List Env) (t : Shared) (H' : Hp), Room k (A.deeper (lamEnv X sc t.heap.objs.size f c)) → A.guards = some [] → PE (lamCx X A outer t H' E sc f c) b tb) (hN : N[i]? = some y) (hv : Vis sg y) (hd : (y == ("__debug__" : Str)) = false := by decide) (hcd : (y == ("__classdict__" : Str)) = false := by decide) :
    PE ((recvCx X N q sg g cd s H CY EY).tr pn xe) (.Call (.Name y p1) [] [] p2) (fun τ K1 Q => τ = τ0 ∧ τ[i]? = some (some (.ref f)) ∧ K1 c = some (CodeO c (X.env.qual ++ "<lambda>")) ∧ tb σ K1 Q) := by
  refine ⟨fun pZ sZ τ K1 Q J h => ?_⟩
  obtain ⟨a0, a1, a2, a3⟩ := h
  subst a0
  have name := (pe_var (pos := p1) (i := i) hN hv hd hcd).run pZ sZ τ K1 (fun v K2 => v = .ref f ∧ K2 = K1) J ⟨.ref f, a1, rfl, rfl⟩
  refine wpAny_Call_Name_kw (thn name fun u t r => ?_)
  obtain ⟨v, K2, J1, rv, ev, eK⟩ := r
  subst ev eK
  have eu : u = Value.ref f := rv
  subst eu
  have un : Un (frs X.stack) [] H K2 s.heap t.heap := J1.base
  have of_ := un.keep f _ ho hn hf fun z => nomatch z
  obtain ⟨⟨oc, vs, tok, c1, c2, c3⟩, _, _⟩ := J1.hok c _ a2
  refine PySem.W.callWith_F0 ⟨_, _, _, _, of_⟩ ?_
  have run : codeAny (model X.prog X.w) (X.A.deeper (envOfC q sg s.heap.objs.size g cd)) (.call (.ref f) ⟨[], []⟩) (CR (L2.CX X.prog X.w) (envOfC q sg s.heap.objs.size g cd :: X.stack) X.prog X.w K2 t Q E) t := by
    refine PySem.W.kla_callFunE room.depth of_ rfl L.co L.gen rfl ⟨c, oc, vs, tok, rfl, c1, c2, c3⟩ ?_
    rw [bd]
    refine wpAny_pure (wpAny_newFunctionEnv (fun z hz => (L.own z hz).2) (fun z hz => absurd hz (by simp)) (fun h1 n1 n2 => ⟨J1.nolimit.fresh _ n2, ?_⟩) L.kind)
    have kp : ∀ x o, t.heap.get? x = some o → h1.get? x = some o := fun x o e => n2.extBut x o (Nat.ne_of_lt (Heap.lt_size e)) (Heap.get?_push_of_some _ e)
    have J2 := lam_start2 (E := E) (f := f) (c' := c) (h₁ := h1) (tk := t.toks + ([] : List (Str × Value)).length) I L J1.env0 room.hd un n1 kp
    refine PySem.W.kla_codeExpr (wpAny_mono ((hb _ _ t K2 (room.deeper _) gd).run [] _ _ K2 Q J2 a3) (fun v t2 r => ?_) fun e t2 r => r)
    obtain ⟨w2, K3, J3, rv2, q3⟩ := r
    exact ⟨w2, K3, J3.os, J3.bare, J3.base, J3.hok, rv2, q3⟩
  refine wpAny_call (codeAny_mono run fun r t2 hq => ?_)
  match r, hq with
  | .error e, hq =>
    obtain ⟨z1, z2, z3, z4, z5, h1, h2, h3, h4, h5, h6, h7, h8⟩ := (show L2.CX X.prog X.w (envOfC q sg s.heap.objs.size g cd :: X.stack) K2 t E e t2 from hq)
    exact passAt tk τ pZ K2 t e t2 J1 ⟨z1, z2, z3, z4, z5, h1, h2, h3, h4, h5, h6, h7, hW _ _ _ h8⟩
  | .ok (.ret w), hq => exact J1.after hq
/-- the def that calls what it got, the exception told of the very slots: TT: what it makes of the lambda's reading -/
def GivesG (X : Cx) (N : List Str) (x : Str) (sg : Scope) (g : Addr) (cd : Value) (bg : List Stmt) (y q : Str) (TT : (XK → Hp → VK → Prop) → Hp → VK → Prop) : Prop := ∀ (f c : Addr) (s : Shared) (H : Hp) (Q : VK) (tl : XK → Hp → VK → Prop),
  (∀ (W : WX) (pn : List (Addr × Obj)) (xe : Value → Shared → Prop) (E : XK) (τ0 : L2.St) (p1 p2 : Pos), Takes ((recvCx X N x sg g cd s H C8.CX0 C8.E0).tr pn xe) W → (∀ cls d H', E cls d H' → W cls d τ0 H') →
    PE ((recvCx X N x sg g cd s H C8.CX0 C8.E0).tr pn xe) (.Call (.Name y p1) [] [] p2) (fun τ K1 Q1 => τ = τ0 ∧ τ[0]? = some (some (.ref f)) ∧ K1 c = some (CodeO c q) ∧ tl E K1 Q1)) → H c = some (CodeO c q) → TT tl H Q →
  ∃ t, PSs (recvCx X N x sg g cd s H C8.CX0 C8.E0).nox bg t ∧ t { nx := fun _ H' => Q .non H', rt := Q } (L2.start N [.ref f]) H
/-- x(lambda: b), x a def of the module that takes one thing and lets nothing out but answers -/
theorem lam_call {T : List (Addr × Str)} {TT : (XK → Hp → VK → Prop) → Hp → VK → Prop} {x y : Str} {g c P : Addr} {k : Nat} {pg : Arguments} {bg : List Stmt} {sg : Scope} {fd : FuncData} {N : List Str} {ps : Arguments} {b : Expr} {sc : Scope} {t : XK → TE} {p p2 pos : Pos}
    (hg : Gl X x) (hm : X.mg x = some (.ref g)) (F : FunD X.K x x pg bg sg [] [] g fd) (hb : L2.Binds X.K fd [y] []) (Sg : FnScope N [y] sg) (hN : N[0]? = some y) (hv : Vis sg y)
    (give : ∀ cd : Value, GivesG X N x sg g cd bg y (X.env.qual ++ "<lambda>") TT) (TB : TabB X.base X.mg c P) (code : X.env.code = .ref c) (mem : (P, X.env.qual ++ "<lambda>") ∈ T) (one : ∀ p ∈ T, p.1 = P → p.2 = X.env.qual ++ "<lambda>")
    (room : Room (k + 2) X.A) (gd : X.A.guards = some []) (L : LamS X.env.scope sc) (dfl : defaultsOf ps X.env = ([], [])) (bd : ∀ (q : Str) (cl : List (Str × Addr)) (pm cv ctv : Value), bindArgs (PySem.W.kla_fn "<lambda>" q ps b sc cl pm cv ctv) ⟨[], []⟩ = pure [])
    (body : ∀ (A : Around) (outer : List Env) (s : Shared) (H : Hp) (E : XK) (f c' : Addr), Room k (A.deeper (lamEnv X sc s.heap.objs.size f c')) → A.guards = some [] → PE (lamCx X A outer s H E sc f c') b (t E))
    (hdb : (x == ("__debug__" : Str)) = false := by decide) (hd : (y == ("__debug__" : Str)) = false := by decide) (hcd : (y == ("__classdict__" : Str)) = false := by decide) : PE X (.Call (.Name x p) [.Lambda ps b sc p2] [] pos) (tLam T TT t) := by
  obtain ⟨oc, od, dV, kV, doc, pm, an, cdv, ct, osl, rfl, lk, hcg, _, _⟩ := F.ex
  refine ⟨fun pins s σ H Q I h => ?_⟩
  obtain ⟨tb, h⟩ := h
  refine wpAny_Call_Name_kw (ld_glob I hg hm (PySem.W.callWith_K (h₀ := X.base) I.ok.mod.kin F.kp ?_ (by rfl) (by rfl)) hdb)
  refine Calls.spliced_cons (lam_make2 I TB code mem one tb dfl (L.has I.ok) fun f c' pm' ctv H1 s1 I1 eN T1 o1 n1 f1 co => ?_)
  refine Calls.spliced_nil ⟨I1.kIn, wpAny_call (codeAny_mono (R := CR C8.CX0 X.stack X.prog X.w H1 s1 Q C8.E0) ?_ fun r s2 hq => ?_)⟩
  · refine run_ofS (N := N) (ps := [y]) (us := [.ref f]) (vs := [.ref f]) lk hcg Sg room I1.env0 (hb s1 [.ref f] I1.kIn rfl) (.cons rfl .nil) rfl fun room2 => ?_
    obtain ⟨u, hu, q⟩ := give cdv f c' s1 H1 Q (fun E K1 Q1 => t E σ K1 Q1) (fun W pn xe E τ0 p1 p2 tk hW => lam_act (i := 0) I1 L o1 n1 f1 (bd _ _ _ _ _) tk hW room2 gd (fun A outer s H r2 g2 => body A outer s H E f c' r2 g2) hN hv hd hcd) co (h H1 eN T1)
    exact ⟨u, hu.nox, q⟩
  · match r, hq with
    | .ok (.ret u), hq => exact I1.after hq
end
end PL
/-! PL31: calls of defs that make lambdas -/
namespace PL
open PySem L2 LamX
open PyProof.Rows (envOfC)
structure GrowTM (T : List (Addr × Str)) (p : Addr) (S H S' H' : Hp) : Prop where
  sS : Same S S'
  hH : ∀ b o, H b = some o → (∀ ps, o ≠ .tbl ps) → b ≠ p → H' b = some o
  sub : Same S' H'
  nw : ∀ a o, S' a = some o → S a = some o ∨ strip H a = none
  nt : NoT S'
  tb : Tabs T H'
section
variable {G : GC} {S H S' H' : Hp} {σ : St} {ρ : Ev} {T : List (Addr × Str)} {i : Nat} {p : Addr} {xs xs' : List D} {ws' : List V}
theorem Rel.stepTM (tg : TG G T) (R : Rel G S H σ ρ) (hi : ρ[i]? = some (.own xs)) (hp : σ[i]? = some (some (.ref p))) (g : GrowTM T p S H S' H') (np : S' p = none) (hl : H' p = some (.lst ws')) (hr : Rps G.K G.C S' xs' ws') : Rel G S' H' σ (ρ.set i (.own xs')) := by
  obtain ⟨a, vs, e3, n, hh, r, ow⟩ := R.at_own hi
  rw [hp] at e3; cases e3
  have at_ : ∀ {b : Addr}, b ≠ p → (fun b => if b = p then H p else H' b) b = H' b := fun h => if_neg h
  have g1 : GrowT T S H S' (fun b => if b = p then H p else H' b) := by
    refine ⟨g.sS, fun b o h n => ?_, fun b o h => ?_, g.nw, g.nt, fun q hq => ?_⟩
    · by_cases e : b = p
      · subst e; exact (if_pos rfl).trans h
      · exact (if_neg e).trans (g.hH b o h n e)
    · have e : b ≠ p := fun z => by rw [z, np] at h; cases h
      exact (if_neg e).trans (g.sub b o h)
    · obtain ⟨ps, h1, h2, h3⟩ := g.tb q hq
      have n1 : q.1 ≠ p := fun z => by rw [z, hl] at h1; cases h1
      refine ⟨ps, (if_neg n1).trans h1, h2, fun pos cv hc => ?_⟩
      obtain ⟨c, k1, k2⟩ := h3 pos cv hc
      have n2 : c ≠ p := fun z => by rw [z, hl] at k2; cases k2
      exact ⟨c, k1, (if_neg n2).trans k2⟩
  have R1 := R.stepT tg g1
  have R2 := R1.write hi hp hr
  have e : upd (fun b => if b = p then H p else H' b) p (.lst ws') = H' := by
    funext b
    by_cases h : b = p
    · subst h; rw [upd_same, hl]
    · rw [upd_ne h]; exact if_neg h
  rwa [e] at R2
end
section
variable {K : PySem.W.Frag} {C : CT} {T : List (Addr × Str)}
theorem rel_startTM {S H : Hp} {N : List Str} {p : Addr} {xs ds : List D} {ws us : List V} (s : Same S H) (n : NoT S) (t : Tabs T H) (np : S p = none) (hp : H p = some (.lst ws)) (rx : Rps K C S xs ws) (r : Rps K C S ds us) (hN : ds.length + 1 ≤ N.length) :
    Rel (GTM K C T S H p) S H (L2.start N (.ref p :: us)) (.own xs :: env0 (N.length - 1) ds) := by
  have R := rel_startM s np hp rx r hN
  exact { sub := s, old := Same.refl _, fr := fun b o h _ => (of_strip h).1, th := fun b o h => ⟨o, (of_strip h).1⟩, nw := fun _ _ h => .inl h, sl := R.sl, dis := R.dis, mine := fun i a h => by
            rcases R.mine i a h with z | z
            · exact .inl z
            · refine .inr ?_
              show strip H a = none
              unfold strip
              rw [show H a = none from z], mt := R.mt, len := R.len, tb := ⟨t, tabs_none s n t⟩, nt := fun _ => n }
theorem Rel.grownTM {S H S' H' : Hp} {σ : St} {ρ : Ev} {p : Addr} {xs : List D} (n : NoT S) (hx : ρ[0]? = some (.own xs)) (R : Rel (GTM K C T S H p) S' H' σ ρ) : ∃ ws, GrowTM T p S H S' H' ∧ S' p = none ∧ H' p = some (.lst ws) ∧ Rps K C S' xs ws := by
  obtain ⟨e0, _⟩ := R.mt p rfl
  obtain ⟨a, vs, e3, m, hh, r, _⟩ := R.at_own hx
  rw [e0] at e3; cases e3
  refine ⟨vs, ⟨R.old, fun b o h nt hb => R.fr b o (strip_of h nt) hb, R.sub, fun a o h => ?_, R.nt n, R.tb.1⟩, m, hh, r⟩
  rcases R.nw a o h with z | z | z
  · exact .inl z
  · exact .inr z
  · have z : a = _ := z
    subst z; rw [m] at h; cases h
/-- .. one that changes its first argument, a list -/
def spTM (K : PySem.W.Frag) (C : CT) (T : List (Addr × Str)) (n : Nat) (g : List D → List D → FrM) : Sp := fun vs H Q E => ∃ S p xs ws ds us, vs = .ref p :: us ∧ Same S H ∧ NoT S ∧ Tabs T H ∧ S p = none ∧ H p = some (.lst ws) ∧ Rps K C S xs ws ∧ Rps K C S ds us ∧ ds.length + 1 = n ∧ match g xs ds with
  | .ok d xs' => ∀ v S' H' ws', GrowTM T p S H S' H' → S' p = none → H' p = some (.lst ws') → Rps K C S' xs' ws' → Rp K C S' d v → Q v H'
  | .exc c fs xs' => ∀ S' H' d ws', GrowTM T p S H S' H' → S' p = none → H' p = some (.lst ws') → Rps K C S' xs' ws' → XO K C (strip H) S' H' c fs d → E (.ref (C.at_ c)) d H'
  | .stuck => False
theorem fnTM {P : Program} {w : World} {mg : Str → Option Value} {base : Heap} {x qual : Str} {params : Arguments} {body : List Stmt} {scope : Scope} {dvs : List V} {kws : List (Str × V)} {f : Addr} {fd : FuncData} {N ps : List Str} {k : Nat} {b : Ev → Fl} (F : FunD K x qual params body scope dvs kws f fd) (S : FnScope N ps scope)
    (hb : ∀ (cdv : Value) (A : Around) (outer : List Env) (s : Shared) (H : Hp) (E : XK) (G : GC) (W : Wx), G.K = K → G.C = C → TG G T → Room k (A.deeper (envOfC qual scope s.heap.objs.size f cdv)) → A.guards = some [] →
      Takes (cxOf (L2.CX P w) P w K mg base N qual scope f cdv A outer s H E) W → PSs (cxOf (L2.CX P w) P w K mg base N qual scope f cdv A outer s H E) body (pS G W b)) (hl : ps.length ≤ N.length := by decide) :
    FnG P w K mg base (k + 1) f fd ps (spTM K C T ps.length (runM N.length b)) := by
  refine fnG_of F S (fun vs H Q E h => ?_) fun cdv A outer s H vs Q E hr hg h => ?_
  · obtain ⟨S, p, xs, ws, ds, us, e1, _, _, _, _, _, _, r, e, _⟩ := h
    rw [← e, e1, List.length_cons, r.length]
  · obtain ⟨S0, p, xs, ws, ds, us, rfl, sm, nt, tb, np, hp, rx, r, e, h⟩ := h
    refine ⟨_, hb cdv A outer s H E (GTM K C T S0 H p) (fun cls d _ H' => E cls d H') rfl rfl ⟨rfl, strip_noT H, nt, fun _ z => congrArg some (show _ = p from z).symm⟩ hr hg (takes_of rfl rfl rfl rfl), S0, .own xs :: env0 (N.length - 1) ds, rel_startTM sm nt tb np hp rx r (by omega), ?_⟩
    unfold runM at h
    cases eb : b (.own xs :: env0 (N.length - 1) ds) with
    | nx ρ =>
      rw [eb] at h
      dsimp only [outM] at h
      intro σ' S' H' _ R
      cases e1 : ρ[0]? with
      | none => rw [e1] at h; exact h.elim
      | some sl =>
        rw [e1] at h
        cases sl with
        | own xs' =>
          obtain ⟨ws', g, n, hh, r'⟩ := R.grownTM nt e1
          exact h _ S' H' ws' g n hh r' rfl
        | _ => exact h.elim
    | rt d ρ =>
      rw [eb] at h
      dsimp only [outM] at h
      intro σ' v S' H' _ R rd
      cases e1 : ρ[0]? with
      | none => rw [e1] at h; exact h.elim
      | some sl =>
        rw [e1] at h
        cases sl with
        | own xs' =>
          obtain ⟨ws', g, n, hh, r'⟩ := R.grownTM nt e1
          exact h _ S' H' ws' g n hh r' rd
        | _ => exact h.elim
    | exc c fs ρ =>
      rw [eb] at h
      dsimp only [outX] at h
      intro σ' S' H' d _ R x
      cases e1 : ρ[0]? with
      | none => rw [e1] at h; exact h.elim
      | some sl =>
        rw [e1] at h
        cases sl with
        | own xs' =>
          obtain ⟨ws', g, n, hh, r'⟩ := R.grownTM nt e1
          exact h S' H' d ws' g n hh r' x
        | _ => exact h.elim
    | bk ρ => rw [eb] at h; exact h.elim
    | ct ρ => rw [eb] at h; exact h.elim
    | stuck => rw [eb] at h; exact h.elim
end
section
variable {X : Cx} {G : GC} {W : Wx} {pos : Pos} {k : Nat} {f : Addr} {fd : FuncData} {ps : List Str} {T : List (Addr × Str)}
theorem callE_okT {fn : List D → Fr} {n : Nat} {l : Ev → Rs (List D)} {σ : St} {H : Hp} {Q : VK} (tg : TG G T) (hl : ∀ {ρ ds ρ1}, l ρ = .ok ds ρ1 → ds.length = n) (h : pE G W (callE fn l) σ H Q) : tCallG (spT G.K G.C T n fn) [] W (pA G W l) σ H Q := by
  obtain ⟨S, ρ, R, q⟩ := h
  refine ⟨S, ρ, R, ?_⟩
  have q := Po.bind q
  cases e : l ρ with
  | stuck => rw [e] at q; exact q
  | exc c fs ρ1 => rw [e] at q; exact q
  | ok ds ρ1 =>
    rw [e] at q
    intro S1 H1 s1 R1 vs r
    have q := q S1 H1 s1 R1
    refine ⟨S1, ds, R1.sub, R1.no tg, R1.tabs tg, by rw [List.append_nil]; exact r, hl e, ?_⟩
    dsimp only at q
    cases ef : fn ds with
    | ok d => rw [ef] at q; exact fun v S' H' g rv => q S' H' g.sS (R1.stepT tg g) v rv
    | exc c fs => rw [ef] at q; exact fun S' H' d g x => q S' H' d g.sS (R1.stepT tg g) (XO.upT tg x R1)
    | stuck => rw [ef] at q; exact q
theorem e_callT {x : Str} {p : Pos} {e : Expr} {es : List Expr} {fn : List D → Fr} {n : Nat} {l : Ev → Rs (List D)} (tg : TG G T) (F : Def X.prog X.w X.K X.mg X.base x k ps (spT G.K G.C T n fn)) (hr : Room k X.A) (hg : X.A.guards = some []) (tk : Takes X W)
    (ha : PA X (e :: es) (pA G W l)) (hl : ∀ {ρ ds ρ1}, l ρ = .ok ds ρ1 → ds.length = n) (hgl : Gl X x := by rfl) (hdb : (x == ("__debug__" : Str)) = false := by decide) (he : starEach (e :: es) X.env = (false, eval e X.env) :: starEach es X.env := by rfl) (hpl : (backTo pos (starEach es X.env)).any (·.1) = false := by rfl) :
    PE X (.Call (.Name x p) (e :: es) [] pos) (pE G W (callE fn l)) := by
  obtain ⟨f, fd, hm, hk, hb, h⟩ := F.ex
  exact PEm (pe_callG h hr hg hm hk hb .nil tk ha hgl hdb he hpl) fun _ _ _ h => callE_okT tg hl h
theorem e_callTM {i : Nat} {x y : Str} {p p1 : Pos} {es : List Expr} {fn : List D → List D → FrM} {n : Nat} {l : Ev → Rs (List D)} (tg : TG G T) (F : Def X.prog X.w X.K X.mg X.base x k ps (spTM G.K G.C T (n + 1) fn)) (hr : Room k X.A) (hg : X.A.guards = some []) (tk : Takes X W)
    (ha : PA X es (pA G W l)) (hl : ∀ {ρ ds ρ1}, l ρ = .ok ds ρ1 → ds.length = n) (hN : X.N[i]? = some y := by rfl) (hv : Vis X.env.scope y := by first | exact Or.inl rfl | exact Or.inr (Or.inl rfl) | exact Or.inr (Or.inr rfl)) (hd : (y == ("__debug__" : Str)) = false := by decide) (hcd : (y == ("__classdict__" : Str)) = false := by decide)
    (hgl : Gl X x := by rfl) (hdb : (x == ("__debug__" : Str)) = false := by decide) (he : starEach (.Name y p1 :: es) X.env = (false, eval (.Name y p1) X.env) :: starEach es X.env := by rfl) (hpl : (backTo pos (starEach es X.env)).any (·.1) = false := by rfl) :
    PE X (.Call (.Name x p) (.Name y p1 :: es) [] pos) (pE G W (callM i fn l)) := by
  obtain ⟨f, fd, hm, hk, hb, F⟩ := F.ex
  exact PEm (pe_callG F hr hg hm hk hb .nil tk (pa_cons (pe_var hN hv hd hcd) ha he) hgl hdb he hpl) fun σ H Q ⟨S, ρ, R, q⟩ => by
    unfold callM at q
    obtain ⟨xs0, e1, q⟩ := own_inv (α := D) (P := Po G W S σ _) Po.not q
    obtain ⟨a, vs0, e3, n0, hh0, r0, ow0⟩ := R.at_own e1
    refine ⟨_, e3, S, ρ, R, ?_⟩
    have q := Po.bind q
    cases el : l ρ with
    | stuck => rw [el] at q; exact q
    | exc c fs ρ1 => rw [el] at q; exact q
    | ok ds ρ1 =>
      rw [el] at q
      intro S1 H1 s1 R1 us r
      have q := q S1 H1 s1 R1
      dsimp only at q
      obtain ⟨xs, e4, q⟩ := own_inv (α := D) (P := Po G W S1 σ _) Po.not q
      obtain ⟨a2, ws, e5, n2, hh2, r2, ow2⟩ := R1.at_own e4
      rw [e3] at e5; cases e5
      refine ⟨S1, a, xs, ws, ds, us, by rw [List.append_nil], R1.sub, R1.no tg, R1.tabs tg, n2, hh2, r2, r, by rw [hl el], ?_⟩
      cases ef : fn xs ds with
      | ok d xs' => rw [ef] at q; exact fun v S' H' ws' g n' hh' rx rv => q S' H' g.sS (R1.stepTM tg e4 e3 g n' hh' rx) v rv
      | exc c fs xs' => rw [ef] at q; exact fun S' H' d ws' g n' hh' rx xo => q S' H' d g.sS (R1.stepTM tg e4 e3 g n' hh' rx) (XO.upT tg xo R1)
      | stuck => rw [ef] at q; exact q
end
end PL
/-! PL32: try: .. except ..: .. with the caught exception held as data -/
namespace PL
open PySem L2 PySem.Spec PyProof.Rows
theorem Inv.track {X : Cx} {pins : List (Addr × Obj)} {σ : L2.St} {H : Hp} {s : Shared} {a : Addr} {oe : Obj} (I : Inv X pins σ H s) (ha : s.heap.get? a = some oe) (na : H a = none) (n0 : X.s_0.heap.get? a = none) (nL : a ≠ X.env.locals) (hd : ∀ v, oe.data ≠ .cell v) (hp : ∀ p ∈ X.pn ++ pins, p.1 ≠ a) :
    Inv X pins σ (upd H a (ExT a oe)) s := by
  have keep : ∀ {b : Addr} {o : HO}, H b = some o → upd H a (ExT a oe) b = some o := fun {b o} q => by
    rw [upd_ne (ne_of_none q na)]; exact q
  have none_ : ∀ {b : Addr}, b ≠ a → H b = none → upd H a (ExT a oe) b = none := fun {b} n q => by
    rw [upd_ne n]; exact q
  refine ⟨I.ok, I.os, I.bare, ⟨I.base.keep, I.base.slot, fun b o e n hx => none_ (fun z => by rw [z, n0] at e; cases e) (I.base.free b o e n hx), I.base.there, fun b xs q => keep (I.base.tups b xs q), fun b o u q => keep (I.base.frzs b o u q), fun b ps q => ?_⟩, I.loc, I.cell, none_ (Ne.symm nL) I.free, fun x c e => none_ (fun z => ?_) (I.freeC x c e), fun p q => ?_, fun b o q => ?_, I.len⟩
  · obtain ⟨m, q⟩ := I.base.tbls b ps q
    exact ⟨m, keep q⟩
  · obtain ⟨v, o, e1, e2⟩ := I.cell x c e
    rw [z, ha] at e1
    cases e1
    exact hd v e2
  · obtain ⟨k1, k2, k3, k4, k5⟩ := I.pin p q
    exact ⟨k1, none_ (hp p q) k2, k3, k4, k5⟩
  · by_cases hb : b = a
    · subst hb
      rw [upd_same] at q
      cases q
      exact ⟨ha, ⟨_, ha⟩, fun h1 h2 z k => k _ z⟩
    · rw [upd_ne hb] at q
      exact (I.hok b o q).stay (fun _ _ _ q => q) (fun c q => keep q) fun c xs q => keep q
/-- what a clause is: its class, its name's slot, its suite's reading -/
abbrev HS := Value × Option Nat × (Addr → Obj → Value → Option Addr → TS)
def endsX (oi : Option Nat) (D : Ends) : Ends := match oi with
  | none => D
  | some i => { nx := fun σ' H' => D.nx (σ'.set i none) H', rt := D.rt, bk := fun σ' H' => D.bk (σ'.set i none) H', ct := fun σ' H' => D.ct (σ'.set i none) H' }
def slotX (oi : Option Nat) (σ : L2.St) (a : Addr) : L2.St := match oi with
  | none => σ
  | some i => σ.set i (some (.ref a))
def wTr (K : PySem.W.Frag) (Wout : WX) (D : Ends) : List HS → WX
  | [] => Wout
  | (c, oi, ts) :: r => fun cls d σ H => ∃ b, PySem.W.exmOne K cls c = some b ∧ (b = true → ∀ a oe, H a = none → Zc cls d oe → (∃ vs, oe.data = .fields vs) → ts a oe cls d (endsX oi D) (slotX oi σ a) (upd H a (ExT a oe))) ∧ (b = false → wTr K Wout D r cls d σ H)
inductive HdsT (X : Cx) : List ExceptHandler → List HS → Prop
  | nil : HdsT X [] []
  | only {x : Str} {c : Value} {ts : Addr → Obj → Value → Option Addr → TS} {b0 : Stmt} {suite : List Stmt} {np pos' : Pos} {hds : List ExceptHandler} {l : List HS} (hc : Names X x c)
      (hsu : ∀ (a : Addr) (oe : Obj) (cls : Value) (d : Option Addr) (pn : List (Addr × Obj)), PSs (X.suite a pn) (b0 :: suite) (ts a oe cls d)) (r : HdsT X hds l) :
      HdsT X (.ExceptHandler (some (.Name x np)) none (b0 :: suite) pos' :: hds) ((c, none, ts) :: l)
  | as_ {x n : Str} {c : Value} {i : Nat} {ts : Addr → Obj → Value → Option Addr → TS} {b0 : Stmt} {suite : List Stmt} {np pos' : Pos} {hds : List ExceptHandler} {l : List HS} (hc : Names X x c) (hN : X.N.Nodup) (hi : X.N[i]? = some n) (hln : X.env.kindOf n = some .local)
      (hsu : ∀ (a : Addr) (oe : Obj) (cls : Value) (d : Option Addr) (pn : List (Addr × Obj)), PSs (X.suite a pn) (b0 :: suite) (ts a oe cls d)) (r : HdsT X hds l) :
      HdsT X (.ExceptHandler (some (.Name x np)) (some n) (b0 :: suite) pos' :: hds) ((c, some i, ts) :: l)
section
variable {X : Cx} {body : List Stmt} {h0 : ExceptHandler} {hds : List ExceptHandler} {l : List HS} {pos : Pos} {tb : WX → TS} {Wout : WX}
theorem ps_tryT (hs : X.stack = X.env :: X.outer) (hf : X.env.frame = some X.env.locals) (hex : X.ex = []) (tk : Takes X Wout)
    (hb : ∀ (W : WX) (pn : List (Addr × Obj)) (xe : Value → Shared → Prop), Takes (X.tr pn xe) W → PassesOwn (model X.prog X.w) X.A X.env xe → PSs (X.tr pn xe) body (tb W))
    (hh : HdsT X (h0 :: hds) l) : PS X (.Try body (h0 :: hds) [] [] pos) (fun D σ H => tb (wTr X.K Wout D l) D σ H) := by
  refine ⟨fun pins s σ H D I h => ?_⟩
  have ok := I.ok
  have hfr : X.A.frames = some (X.env :: X.outer) := by rw [ok.frames, hs]
  refine wpAny_Try_except ?_
  refine wpAny_mono ((hb (wTr X.K Wout D l) (X.pn ++ pins) (fun e s₁ => wpAny (model X.prog X.w) X.A (noteFrame e X.env) (fun _ s₂ => wpAny (model X.prog X.w) X.A (setFlight e none) (fun _ s₃ =>
    wpAny (model X.prog X.w) X.A (handleBy e X.env (h0 :: hds)) (SP X pins D) X.xe s₃) X.xe s₂) X.xe s₁) (fun u s' xx => ?_) PassesOwn.looking).run [] s σ H D (I.toTry _) h) (fun f s1 hsp => ?_) (fun e s1 he => he)
  · -- the catch
    obtain ⟨a, B, sI, pins', σ', H', cls, d, rfl, J', nb, up, sky, na, os, ag, w⟩ := xx
    have J : Inv X pins σ' H' sI := J'.ofTry ok
    have sky' : Sky B (X.env :: X.outer) a (Zc cls d) X.env.locals s'.heap := by rw [← hs]; exact sky
    show wpAny (model X.prog X.w) X.A (noteFrame (.ref a) X.env) _ _ _
    refine Sky.land Zc.steady hfr hf sky' fun h3 fl3 up3 => ?_
    have J3 : Inv X pins σ' H' { s' with heap := h3 } := J.landed nb fl3.1 (up.trans up3) os ag
    obtain ⟨oe3, vs3, he3, hz3, hd3⟩ := fl3.there
    have notFr : ∀ {h : Heap} {o : Obj} {vs : Array Value}, h.FunFrames B (X.env :: X.outer) → h.get? a = some o → o.data = .fields vs → a ∉ frs (X.env :: X.outer) := fun {h o vs} ff e dd hm => by
      obtain ⟨_, o', e', hnf⟩ := ff.mem hm
      rw [e] at e'; cases e'
      exact hnf _ dd
    have nfr := notFr fl3.2.2.1 he3 hd3
    have nL : a ≠ X.env.locals := fun z => nfr (List.mem_filterMap.mpr ⟨X.env, List.mem_cons_self, by rw [hf, z]⟩)
    have nF : a ∉ X.fs := fun hm => by
      obtain ⟨e, he, q⟩ := List.mem_filterMap.mp hm
      exact nfr (List.mem_filterMap.mpr ⟨e, List.mem_cons_of_mem _ he, q⟩)
    have nI : sI.heap.get? a = none := by
      cases e : sI.heap.get? a with
      | none => rfl
      | some o =>
        have := nb a o e (by rw [hs]; exact nfr)
        rw [fl3.2.1] at this; cases this
    have n0 : X.s_0.heap.get? a = none := by
      cases e : X.s_0.heap.get? a with
      | none => rfl
      | some o =>
        obtain ⟨o', q⟩ := J.base.there a o e (by rw [hex]; simp)
        rw [nI] at q; cases q
    have nP : ∀ p ∈ X.pn ++ pins, p.1 ≠ a := fun p hp z => by
      have := (J.pin p hp).1
      rw [z, nI] at this; cases this
    have S3 := J3.suite he3 hd3 na nL nF
    have go : ∀ {hds' : List ExceptHandler} {l' : List HS}, HdsT X hds' l' → wTr X.K Wout D l' cls d σ' H' →
        wpAny (model X.prog X.w) X.A (handleBy (.ref a) X.env hds') (SP X pins D) X.xe { s' with heap := h3 } := by
      intro hds' l' hk
      have test : ∀ {x : Str} {c : Value} {np : Pos} (hc : Names X x c) {Q : Value → Shared → Prop} {E : Value → Shared → Prop}, Q c { s' with heap := h3 } → wpAny (model X.prog X.w) (X.A.mark (some (.ref a))) (eval (.Name x np) X.env) Q E { s' with heap := h3 } := fun {x c np} hc {Q E} q => by
        obtain ⟨hg, hdbg, hm | ⟨hm, hv, hnn⟩⟩ := hc
        · exact ld_glob (X := X.suite a ((a, oe3) :: (X.pn ++ pins))) S3 hg hm q hdbg
        · exact ld_blt (X := X.suite a ((a, oe3) :: (X.pn ++ pins))) S3 hg hm hv q hnn hdbg
      have LT : PySem.W.Looks (model X.prog X.w) h3 (typeOf (.ref a)) cls := fun A Q E s k q => wpAny_typeOf_ref (k _ _ he3) (by rw [hz3.1]; exact q)
      have suite_ : ∀ {h4 : Heap} {oe4 : Obj} {vs4 : Array Value}, Inv X pins σ' H' { s' with heap := h4 } → h4.get? a = some oe4 → oe4.data = .fields vs4 → Inv (X.suite a (X.pn ++ pins)) [] σ' (upd H' a (ExT a oe4)) { s' with heap := h4 } := fun {h4 oe4 vs4} J4 he4 hd4 => by
        have J5 := Inv.track J4 he4 na n0 nL (fun v z => by rw [hd4] at z; cases z) nP
        exact ⟨J5.ok.suite _ _, J5.os, J5.bare, J5.base, J5.loc, J5.cell, J5.free, J5.freeC, fun p hp => J5.pin p (by rw [List.append_nil] at hp; exact hp), J5.hok, J5.len⟩
      have unsuite_ : ∀ {σ6 : L2.St} {H6 : Hp} {s6 : Shared}, Inv (X.suite a (X.pn ++ pins)) [] σ6 H6 s6 → Inv X pins σ6 H6 s6 := fun {σ6 H6 s6} J6 => ⟨ok, J6.os, J6.bare, J6.base, J6.loc, J6.cell, J6.free, J6.freeC, fun p hp => J6.pin p (List.mem_append_left _ hp), J6.hok, J6.len⟩
      induction hk with
      | nil =>
        intro w
        refine wpAny_handleBy_nil ?_
        obtain ⟨k1, k2, k3, oe, vs, T, oT, ts', he, hz, hd, h1, hr⟩ := id fl3
        unfold PySem.passOn
        refine wpAny_bind (wpAny_field he hd h1 ?_)
        rw [if_neg (show ¬ ((Value.ref T == Value.none) = true) from by simp)]
        have fin : wpAny (model X.prog X.w) X.A (setFlight (.ref a) X.env.frame) (fun _ s4 => wpAny (model X.prog X.w) X.A (throw (.ref a) : Sem Flow) (SP X pins D) X.xe s4) X.xe { s' with heap := h3 } := by
          rw [hf]
          refine HandSPX.setFlight_upZ fl3 fun h4 hh4 up4 => wpAny_throw (tk _ _ ?_)
          exact ⟨a, B, sI, pins, σ', H', cls, d, rfl, J, nb, (up.trans up3).trans up4, .inr (.inr (by rw [hs]; exact hh4)), na, os, ag, w⟩
        first
          | exact wpAny_bind (wpAny_pure (wpAny_bind fin))
          | exact wpAny_bind fin
      | @only x c ts b0 suite np pos' hds2 l2 hc hsu r ih =>
        intro w
        obtain ⟨b, hb1, hyes, hno⟩ := w
        refine wpAny_handleBy_cons (codeAny_handlers_test ?_) (by intro q; cases q)
        have LM := PySem.W.exm_one (M := model X.prog X.w) (J3.kIn) LT hb1
        refine test hc (LM.here ?_)
        cases b with
        | true =>
          refine codeAny_handlers_suite ?_
          refine HandSPX.lands_againZ fl3 fun h4 fl4 up4 => ?_
          have J4 : Inv X pins σ' H' { s' with heap := h4 } := J.landed nb fl4.1 ((up.trans up3).trans up4) os ag
          obtain ⟨oe4, vs4, he4, hz4, hd4⟩ := fl4.there
          refine wpAny_mono ((hsu a oe4 cls d (X.pn ++ pins)).run [] _ _ _ _ (suite_ J4 he4 hd4) (hyes rfl a oe4 na hz4 ⟨_, hd4⟩)) (fun f s6 hsp => ?_) (fun _ _ z => False.elim z)
          cases f with
          | next =>
            obtain ⟨σ6, H6, S6, q6⟩ := hsp
            exact ⟨_, _, unsuite_ S6, q6⟩
          | brk =>
            obtain ⟨σ6, H6, S6, q6⟩ := hsp
            exact ⟨_, _, unsuite_ S6, q6⟩
          | cont =>
            obtain ⟨σ6, H6, S6, q6⟩ := hsp
            exact ⟨_, _, unsuite_ S6, q6⟩
          | ret u =>
            obtain ⟨v6, σ6, H6, S6, r6, q6⟩ := hsp
            exact ⟨_, _, _, unsuite_ S6, r6, q6⟩
        | false =>
          show wpAny _ X.A (handleBy (.ref a) X.env hds2) _ _ _
          exact ih (hno rfl)
      | @as_ x n c i ts b0 suite np pos' hds2 l2 hc hN hi hln hsu r ih =>
        intro w
        obtain ⟨b, hb1, hyes, hno⟩ := w
        refine wpAny_handleBy_cons (codeAny_handlers_test ?_) (by intro q; cases q)
        have LM := PySem.W.exm_one (M := model X.prog X.w) (J3.kIn) LT hb1
        refine test hc (LM.here ?_)
        cases b with
        | true =>
          refine codeAny_handlers_suite_as ?_
          refine HandSPX.lands_againZ fl3 fun h4 fl4 up4 => ?_
          have J4 : Inv X pins σ' H' { s' with heap := h4 } := J.landed nb fl4.1 ((up.trans up3).trans up4) os ag
          obtain ⟨oe4, vs4, he4, hz4, hd4⟩ := fl4.there
          refine store_ok (X := X.suite a (X.pn ++ pins)) (v := .ref a) (suite_ J4 he4 hd4) hN hi (.inl hln) rfl (fun s5 S5 => ?_) (.inr hln)
          refine wpAny_mono ((hsu a oe4 cls d (X.pn ++ pins)).run [] s5 _ _ _ S5 (hyes rfl a oe4 na hz4 ⟨_, hd4⟩)) (fun f s6 hsp => ?_) (fun _ _ z => False.elim z)
          have end_ : ∀ {σ6 : L2.St} {H6 : Hp} {Q : Shared → Prop}, Inv (X.suite a (X.pn ++ pins)) [] σ6 H6 s6 → (∀ s7, Inv X pins (σ6.set i none) H6 s7 → Q s7) →
              wpAny (model X.prog X.w) X.A (do bindName X.env n .none; unbindBehindTheSuite X.env n pos') (fun _ s7 => Q s7) X.xe s6 := fun {σ6 H6 Q} S6 hq => gone_ok (unsuite_ S6) hN hi hln hq
          cases f with
          | next =>
            obtain ⟨σ6, H6, S6, q6⟩ := hsp
            exact end_ S6 fun s7 J7 => ⟨_, _, J7, q6⟩
          | brk =>
            obtain ⟨σ6, H6, S6, q6⟩ := hsp
            exact end_ S6 fun s7 J7 => ⟨_, _, J7, q6⟩
          | cont =>
            obtain ⟨σ6, H6, S6, q6⟩ := hsp
            exact end_ S6 fun s7 J7 => ⟨_, _, J7, q6⟩
          | ret u =>
            obtain ⟨v6, σ6, H6, S6, r6, q6⟩ := hsp
            exact end_ S6 fun s7 J7 => ⟨_, _, _, J7, r6, q6⟩
        | false =>
          show wpAny _ X.A (handleBy (.ref a) X.env hds2) _ _ _
          exact ih (hno rfl)
    exact go hh w
  · cases f with
    | next =>
      obtain ⟨σ', H', J', q⟩ := hsp
      exact wpAny_execs_nil ⟨σ', H', J'.ofTry ok, q⟩
    | brk =>
      obtain ⟨σ', H', J', q⟩ := hsp
      exact ⟨σ', H', J'.ofTry ok, q⟩
    | cont =>
      obtain ⟨σ', H', J', q⟩ := hsp
      exact ⟨σ', H', J'.ofTry ok, q⟩
    | ret u =>
      obtain ⟨v, σ', H', J', r, q⟩ := hsp
      exact ⟨v, σ', H', J'.ofTry ok, r, q⟩
end
end PL
/-! PL33: exceptions as data: isinstance, fields -/
namespace PL
open PySem L2 PySem.Spec PyProof.Rows
/-- an exception that is held at a -/
structure AtX (K : PySem.W.Frag) (H : Hp) (a D : Addr) (oe : Obj) (dop : Option Addr) : Prop where
  at_ : H a = some (ExT a oe)
  z : Zc (.ref D) dop oe
  f : ∃ vs, oe.data = .fields vs
  d : dop = none ∨ ∃ dd kvs, dop = some dd ∧ H dd = some (.xd kvs)
theorem AtX.get {X : Cx} {pins : List (Addr × Obj)} {σ : L2.St} {H : Hp} {s : Shared} {K : PySem.W.Frag} {a D : Addr} {oe : Obj} {dop : Option Addr} (A : AtX K H a D oe dop) (I : Inv X pins σ H s) : s.heap.get? a = some oe := by
  have ok : ObjOk X.prog X.w H s.heap a (ExT a oe) := I.hok a _ A.at_
  exact ok.1
theorem AtX.inst {X : Cx} {pins : List (Addr × Obj)} {σ : L2.St} {H : Hp} {s : Shared} {K : PySem.W.Frag} {a D : Addr} {oe : Obj} {dop : Option Addr} (A : AtX K H a D oe dop) (I : Inv X pins σ H s) : ∃ od, PySem.W.InstAt s.heap a oe D od ∧ (dop.isSome = od.isSome) := by
  have hg := A.get I
  obtain ⟨vs, hv⟩ := A.f
  have hn : PySem.W.notCls oe := by unfold PySem.W.notCls; rw [hv]
  rcases A.d with e | ⟨dd, kvs, e, hx⟩
  · subst e
    refine ⟨none, ⟨hg, A.z.1, hn, ?_⟩, rfl⟩
    rw [A.z.2]; trivial
  · subst e
    have ok : ObjOk X.prog X.w H s.heap dd (.xd kvs) := I.hok dd _ hx
    obtain ⟨mA, hns, _⟩ := ok
    obtain ⟨od, ho, _⟩ := lookIn_ns hns
    refine ⟨some od, ⟨hg, A.z.1, hn, ?_⟩, rfl⟩
    rw [A.z.2]; exact ho
/-- isinstance(e, c) -/
def rIsX (K : PySem.W.Frag) : List V → Hp → VK → Prop := fun xs H Q => ∃ (a D : Addr) (oe : Obj) (dop : Option Addr) (c : V) (cv : Value) (b : Bool), xs = [.ref a, c] ∧ AtX K H a D oe dop ∧ ExcC K D ∧ (∀ u, RelV c u → u = cv) ∧ PySem.W.kitOne K (.ref D) cv = some b ∧ Q (.bl b) H
theorem kitx_held {K : PySem.W.Frag} {a D : Addr} {oe : Obj} {od : Option Obj} (C : ExcC K D) (h : od.isSome = true ∨ od = none) : PySem.W.KitX K (.ref a) (.ref D) (fun h => PySem.W.InstAt h a oe D od) := by
  have hcl : (PySem.W.clsIn K D).isSome = true := by
    have := C.hd
    unfold PySem.W.hasDictIn at this
    cases z : PySem.W.clsIn K D with
    | none => rw [z] at this; cases this
    | some _ => rfl
  cases od with
  | none => exact PySem.W.handS_kitx_exc C.hg C.hk C.hs C.hd C.ha C.hn C.ht C.hm
  | some od => exact PySem.W.kitx_exc hcl C.hg C.hk C.hs C.ha C.hn C.ht C.hm
theorem call_isX {X : Cx} : CallR X (.builtin "isinstance") (rIsX X.K) := by
  intro pins s σ H xs us Q I r h
  obtain ⟨a, D, oe, dop, c, cv, b, rfl, A, C, hcv, e, q⟩ := h
  match us, r with
  | [u1, u2], .cons r1 (.cons r2 .nil) =>
    have e1 : u1 = Value.ref a := r1
    have e2 := hcv _ r2
    subst e1 e2
    obtain ⟨od, J, _⟩ := A.inst I
    exact PySem.W.kia_one (kitx_held C (by cases od <;> simp)) I.kIn J e (fun z => nomatch z) fun tk => ⟨.bl b, H, I.kept (t' := tk) fun _ _ z => z, rfl, q⟩
/-- isinstance(e, (c1, c2, ..)) -/
def rIsXT (K : PySem.W.Frag) : List V → Hp → VK → Prop := fun xs H Q => ∃ (a D : Addr) (oe : Obj) (dop : Option Addr) (tp : Addr) (cs : List V) (us : List Value) (b : Bool), xs = [.ref a, .ref tp] ∧ AtX K H a D oe dop ∧ ExcC K D ∧ H tp = some (.tup cs) ∧ Paired ClsV cs us ∧ PySem.W.kitAny K (.ref D) us = some b ∧ Q (.bl b) H
theorem call_isXT {X : Cx} : CallR X (.builtin "isinstance") (rIsXT X.K) := by
  intro pins s σ H xs us Q I r h
  obtain ⟨a, D, oe, dop, tp, cs, ws, b, rfl, A, C, hT, k, e, q⟩ := h
  match us, r with
  | [u1, u2], .cons r1 (.cons r2 .nil) =>
    have e1 : u1 = Value.ref a := r1
    have e2 : u2 = Value.ref tp := r2
    subst e1 e2
    obtain ⟨od, J, _⟩ := A.inst I
    obtain ⟨_, its, rv, o, h1, h2, n, h3⟩ := (show ObjOk X.prog X.w H s.heap tp (.tup cs) from I.hok tp _ hT)
    have e3 := ClsV.all k rv
    subst e3
    obtain ⟨oc, od', dt, sl⟩ := o
    simp only at h2 h3
    subst h2 h3
    exact PySem.W.kia_tup (kitx_held C (by cases od <;> simp)) I.kIn J h1 e (fun z => nomatch z) fun tk => ⟨.bl b, H, I.kept (t' := tk) fun _ _ z => z, rfl, q⟩
/-- what is told of the exceptions' classes, numbered from n to below m -/
structure KindsX (K : PySem.W.Frag) (C : CT) (n m : Nat) (sub : Nat → Nat → Bool) : Prop where
  exc : ∀ c, n ≤ c → c < m → ExcC K (C.at_ c)
  fld : ∀ c, n ≤ c → c < m → XfC K (C.at_ c)
  na : ∀ c, n ≤ c → c < m → ∀ f ∈ C.fn c, PySem.W.findIn K (.ref (C.at_ c)) f = some none
  own : ∀ c, n ≤ c → c < m → ∀ t, n ≤ t → t < m → PySem.W.kitOne K (.ref (C.at_ c)) (.ref (C.at_ t)) = some (sub c t)
  noT : ∀ t, n ≤ t → t < m → PySem.W.kitOne K (.type "NoneType") (.ref (C.at_ t)) = some false
def isaX (n m : Nat) (sub : Nat → Nat → Bool) (t : Nat) : D → Option Bool
  | .non => some false
  | .exn c _ => if n ≤ c ∧ c < m then some (sub c t) else none
  | _ => none
def isaXs (n m : Nat) (sub : Nat → Nat → Bool) (ts : List Nat) : D → Option Bool
  | .non => some false
  | .exn c _ => if n ≤ c ∧ c < m then some (ts.any (sub c)) else none
  | _ => none
def attrX (n m : Nat) (fn : Nat → List Str) (f : Str) : D → Option D
  | .exn c fs => if n ≤ c ∧ c < m then ((fn c).zip fs).lookup f else none
  | _ => none
section
variable {X : Cx} {G : GC} {W : Wx} {e : Expr} {f : Ev → Option D} {pos : Pos} {n m : Nat} {sub : Nat → Nat → Bool}
theorem BRp.exn {S H : Hp} {c : Nat} {fs : List D} {v : V} (s : Same S H) (b : BRp G S H (.exn c fs) v) : ∃ a oe dop, v = .ref a ∧ AtX G.K H a (G.C.at_ c) oe dop ∧ Rp G.K G.C S (.exn c fs) v := by
  have r := b.flat (fun _ z => by cases z)
  have r0 := r
  obtain ⟨a, oe, dop, vs, e1, q, z, d, l, k, _⟩ := r
  refine ⟨a, oe, dop, e1, ⟨s _ _ q, z, d, ?_⟩, r0⟩
  rcases k with ⟨_, k⟩ | ⟨dd, kvs, k1, k2, _⟩
  · exact .inl k
  · exact .inr ⟨dd, kvs, k1, s _ _ k2⟩
theorem kitAny_map {K : PySem.W.Frag} {t : Value} : ∀ {us : List Value} {bs : List Bool}, Paired (fun u b => PySem.W.kitOne K t u = some b) us bs → PySem.W.kitAny K t us = some (bs.any id)
  | [], _, .nil => rfl
  | _ :: _, _, .cons (b := b) h r => by
    cases b <;> simp [PySem.W.kitAny, h, kitAny_map r]
theorem paired_cls {at_ : Nat → Addr} : ∀ (ts : List Nat), Paired ClsV (ts.map fun t => V.ref (at_ t)) (ts.map fun t => Value.ref (at_ t))
  | [] => .nil
  | t :: ts => .cons (.own _) (paired_cls ts)
theorem kit_any {K : PySem.W.Frag} {u : Value} {at_ : Nat → Addr} {P : Nat → Bool} : ∀ (ts : List Nat), (∀ t ∈ ts, PySem.W.kitOne K u (.ref (at_ t)) = some (P t)) → PySem.W.kitAny K u (ts.map fun t => Value.ref (at_ t)) = some (ts.any P) := fun ts h => by
  have : ∀ ts : List Nat, (∀ t ∈ ts, PySem.W.kitOne K u (.ref (at_ t)) = some (P t)) → Paired (fun u' b => PySem.W.kitOne K u u' = some b) (ts.map fun t => Value.ref (at_ t)) (ts.map P) := by
    intro ts
    induction ts with
    | nil => intro _; exact .nil
    | cons t ts ih => intro h; exact .cons (h t (by simp)) (ih fun u hu => h u (by simp [hu]))
  rw [kitAny_map (this ts h), List.any_map]
  rfl
theorem any_false : ∀ (ts : List Nat), ts.any (fun _ => false) = false
  | [] => rfl
  | _ :: ts => any_false ts
theorem zip_ix {y : Str} {w : V} : ∀ {ns : List Str} {vs : List V}, (ns.zip vs).lookup y = some w → ∃ i : Nat, ns[i]? = some y ∧ vs[i]? = some w
  | [], _, h => by simp at h
  | _ :: _, [], h => by simp at h
  | n0 :: ns, v0 :: vs, h => by
    rw [List.zip_cons_cons, List.lookup_cons] at h
    cases hc : y == n0 with
    | true =>
      rw [hc] at h
      cases h
      exact ⟨0, by rw [eq_of_beq hc]; rfl, rfl⟩
    | false =>
      rw [hc] at h
      obtain ⟨i, h1, h2⟩ := zip_ix h
      exact ⟨i + 1, h1, h2⟩
/-- isinstance(x, T), T an exception's class of the module -/
theorem q_isiX {x : Str} {t : Nat} {p pt : Pos} (kx : KindsX G.K G.C n m sub) (h1 : n ≤ t) (h2 : t < m) (hK : X.K = G.K) (ha : PE X e (pB G f)) (hm : X.mg "isinstance" = none) (hmT : X.mg x = some (.ref (G.C.at_ t))) (hg : Gl X "isinstance" := by rfl) (hgT : Gl X x := by rfl)
    (hdT : (x == ("__debug__" : Str)) = false := by decide) (he : starEach (e :: [.Name x pt]) X.env = (false, eval e X.env) :: starEach [.Name x pt] X.env := by rfl) (hpl : (backTo pos (starEach [Expr.Name x pt] X.env)).any (·.1) = false := by rfl) :
    PE X (.Call (.Name "isinstance" p) [e, .Name x pt] [] pos) (pQ G (q1 (blO (isaX n m sub t)) f)) := PEm (pe_callB (call_isX.or call_isi) hg hm (by decide +kernel) (pa_cons ha (pa_cons (pe_glob hgT hmT (v := .ref (G.C.at_ t)) rfl hdT) pa_nil (by rfl)) he) (by decide) (by decide) he hpl) fun σ H Q ⟨S, ρ, R, q⟩ => by
  refine ⟨S, ρ, R, ?_⟩
  unfold q1 at q
  cases ef : f ρ with
  | none => rw [ef] at q; exact q
  | some d =>
    rw [ef, Option.bind_some] at q
    intro v S' H' g b
    unfold blO at q
    cases d with
    | non => exact .inr ⟨v, _, .type "NoneType", .ref (G.C.at_ t), false, rfl, .own _, by rw [hK]; exact b.tyX g.sub rfl, by rw [hK]; exact kx.noT t h1 h2, q _ S' H' g rfl⟩
    | exn c fs =>
      by_cases hc : n ≤ c ∧ c < m
      · simp only [isaX, if_pos hc] at q
        obtain ⟨a, oe, dop, rfl, A, _⟩ := b.exn g.sub
        exact .inl ⟨a, _, oe, dop, _, .ref (G.C.at_ t), _, rfl, by rw [hK]; exact A, by rw [hK]; exact kx.exc c hc.1 hc.2, fun u r => r, by rw [hK]; exact kx.own c hc.1 hc.2 t h1 h2, q _ S' H' g rfl⟩
      · simp only [isaX, if_neg hc] at q; exact q.elim
    | _ => exact q.elim
/-- .. (T1, T2, ..) -/
theorem q_isiXs {ts : List Nat} {es : List Expr} {x1} {p pt : Pos} (kx : KindsX G.K G.C n m sub) (h : ∀ t ∈ ts, n ≤ t ∧ t < m) (hl : ts.length ≤ sizeLine) (hK : X.K = G.K) (ha : PE X e (pB G f)) (hm : X.mg "isinstance" = none) (hts : PA X es fun σ H Q => Q (ts.map fun t => V.ref (G.C.at_ t)) H)
    (hg : Gl X "isinstance" := by rfl) (he : starEach (e :: [.Tuple es x1 pt]) X.env = (false, eval e X.env) :: starEach [.Tuple es x1 pt] X.env := by rfl) (hpl : (backTo pos (starEach [Expr.Tuple es x1 pt] X.env)).any (·.1) = false := by rfl) (he2 : starEach [Expr.Tuple es x1 pt] X.env = (false, eval (.Tuple es x1 pt) X.env) :: starEach [] X.env := by rfl) :
    PE X (.Call (.Name "isinstance" p) [e, .Tuple es x1 pt] [] pos) (pQ G (q1 (blO (isaXs n m sub ts)) f)) := PEm (pe_callB (call_isXT.or call_isiT) hg hm (by decide +kernel) (pa_cons ha (pa_cons (pe_tup hts) pa_nil he2) he) (by decide) (by decide) he hpl) fun σ H Q ⟨S, ρ, R, q⟩ => by
  refine ⟨S, ρ, R, ?_⟩
  unfold q1 at q
  cases ef : f ρ with
  | none => rw [ef] at q; exact q
  | some d =>
    rw [ef, Option.bind_some] at q
    intro v S' H' g b
    unfold blO at q
    refine ⟨by rw [List.length_map]; exact hl, fun tp hp => ?_⟩
    have g2 := Grow.loose g.sub (.tup (ts.map fun t => V.ref (G.C.at_ t))) hp
    have b2 := b.grow g2
    have pr : Paired ClsV (ts.map fun t => V.ref (G.C.at_ t)) (ts.map fun t => Value.ref (G.C.at_ t)) := paired_cls ts
    cases d with
    | non =>
      have k : PySem.W.kitAny X.K (.type "NoneType") (ts.map fun t => Value.ref (G.C.at_ t)) = some false := by
        rw [kit_any (P := fun _ => false) ts fun t ht => by rw [hK]; exact kx.noT t (h t ht).1 (h t ht).2, any_false]
      exact .inr ⟨v, tp, _, .type "NoneType", _, false, rfl, upd_same, pr, by rw [hK]; exact b2.tyX g2.sub rfl, k, q _ _ _ (g.trans g2) rfl⟩
    | exn c fs =>
      by_cases hc : n ≤ c ∧ c < m
      · simp only [isaXs, if_pos hc] at q
        obtain ⟨a, oe, dop, rfl, A, _⟩ := b2.exn g2.sub
        have k : PySem.W.kitAny X.K (.ref (G.C.at_ c)) (ts.map fun t => Value.ref (G.C.at_ t)) = some (ts.any (sub c)) := kit_any ts fun t ht => by rw [hK]; exact kx.own c hc.1 hc.2 t (h t ht).1 (h t ht).2
        exact .inl ⟨a, _, oe, dop, tp, _, _, _, rfl, by rw [hK]; exact A, by rw [hK]; exact kx.exc c hc.1 hc.2, upd_same, pr, k, q _ _ _ (g.trans g2) rfl⟩
      · simp only [isaXs, if_neg hc] at q; exact q.elim
    | _ => exact q.elim
/-- e.y of an exception -/
def tXfT (K : PySem.W.Frag) (y : Str) (te : TE) : TE := fun σ H Q => te σ H fun x H1 => ∃ (a D dd : Addr) (oe : Obj) (kvs : List (Str × V)) (v : V), x = .ref a ∧ AtX K H1 a D oe (some dd) ∧ XfC K D ∧ PySem.W.findIn K (.ref D) y = some none ∧ H1 dd = some (.xd kvs) ∧ kvs.lookup y = some v ∧ Q v H1
theorem pe_xfT {y : Str} {te : TE} (he : PE X e te) (hb : attributeBase e y X.env (eval e X.env) = eval e X.env := by rfl) : PE X (.Attribute e y pos) (tXfT X.K y te) := by
  refine ⟨fun pins s σ H Q I h => ?_⟩
  refine attr_of hb (thn (he.run pins s σ H _ I h) fun u s1 hh => ?_)
  obtain ⟨x, H1, I1, rx, a, D, dd, oe, fs, v, ex, A, T, hno, ea, l, q⟩ := hh
  subst ex
  obtain rfl : u = Value.ref a := rx
  have ha := A.get I1
  obtain ⟨vs, hd⟩ := A.f
  have hx : ObjOk X.prog X.w H1 s1.heap dd (.xd fs) := I1.hok dd _ ea
  obtain ⟨mA, hns, hr⟩ := hx
  obtain ⟨od, ho, hl⟩ := lookIn_ns hns
  obtain ⟨u, hu, ru⟩ := RelO.some_of (v := v) (o := mA y) (by rw [← l]; exact hr y)
  have J : PySem.W.InstAt s1.heap a oe D (some od) := ⟨ha, A.z.1, by unfold PySem.W.notCls; rw [hd] <;> rfl, by rw [A.z.2]; exact ho⟩
  exact HandSPX.exc_get I1.kIn J T.ga T.gg T.exC (PySem.W.findObj_own T.hdC hno rfl (by rw [hl, hu])) (handed_of ru) ⟨v, H1, I1.tok _, ru, q⟩
theorem q_xf {fn : Nat → List Str} {y : Str} (kx : KindsX G.K G.C n m sub) (hfn : G.C.fn = fn) (hK : X.K = G.K) (ha : PE X e (pB G f)) (hb : attributeBase e y X.env (eval e X.env) = eval e X.env := by rfl) : PE X (.Attribute e y pos) (pQ G (q1 (attrX n m fn y) f)) := PEm (pe_xfT ha hb) fun σ H Q ⟨S, ρ, R, q⟩ => by
  subst hfn
  refine ⟨S, ρ, R, ?_⟩
  unfold q1 at q
  cases ef : f ρ with
  | none => rw [ef] at q; exact q
  | some d =>
    rw [ef, Option.bind_some] at q
    intro v S' H' g b
    cases d with
    | exn c fs =>
      by_cases hc : n ≤ c ∧ c < m
      · simp only [attrX, if_pos hc] at q
        cases ez : ((G.C.fn c).zip fs).lookup y with
        | none => rw [ez] at q; exact q.elim
        | some x =>
          rw [ez] at q
          have r := b.flat (fun _ z => by cases z)
          obtain ⟨a, oe, dop, vs, rfl, hs, z, dd_, l, k, rs⟩ := r
          obtain ⟨w, ew, rw'⟩ := zip_lookup rs ez
          have hmem := zip_mem ez
          rcases k with ⟨k, _⟩ | ⟨dd, kvs, k1, k2, k3⟩
          · subst k
            simp at ez
          · subst k1
            have hlk : kvs.lookup y = some w := by
              obtain ⟨i, h1, h2⟩ := zip_ix ew
              exact k3 i y w h1 h2
            refine ⟨a, G.C.at_ c, dd, oe, kvs, w, rfl, ⟨g.sub _ _ hs, z, dd_, .inr ⟨dd, kvs, rfl, g.sub _ _ k2⟩⟩, by rw [hK]; exact kx.fld c hc.1 hc.2, by rw [hK]; exact kx.na c hc.1 hc.2 y hmem, g.sub _ _ k2, hlk, q w S' H' g rw'⟩
      · simp only [attrX, if_neg hc] at q
    | _ => exact q.elim
end
end PL
/-! PL34: try: .. except B as n: .. , the rule -/
namespace PL
open PySem L2 PySem.Spec PyProof.Rows
section
variable {G : GC} {S H S' H' : Hp} {σ σ' : L2.St} {ρ ρ' : Ev} {i : Nat} {a : Addr}
/-- a slot is forgotten -/
theorem Rel.forget {o : Option V} (R : Rel G S H σ ρ) (hlt : i < ρ.length) (h0 : i = 0 → G.m = none) : Rel G S H (σ.set i o) (ρ.set i .no) := by
  have f : ∀ {j b}, Ow (ρ.set i .no) (σ.set i o) j b → Ow ρ σ j b := fun {j b} h => by
    rcases ow_set hlt h with ⟨hj, ⟨s, e, m⟩, z⟩ | ⟨e, m, _⟩
    · rw [List.getElem?_set_ne (Ne.symm hj)] at z
      exact ⟨⟨s, e, m⟩, z⟩
    · cases m
  refine ⟨R.sub, R.old, R.fr, R.th, R.nw, fun j sl e => ?_, fun j k b h1 h2 => R.dis j k b (f h1) (f h2), fun j b h => R.mine j b (f h), fun b hb => ?_, by rw [List.length_set, List.length_set]; exact R.len, R.tb, R.nt⟩
  · by_cases hj : i = j
    · subst hj
      rw [List.getElem?_set_self hlt] at e
      cases e
      trivial
    · rw [List.getElem?_set_ne hj] at e
      rw [List.getElem?_set_ne hj]
      exact R.sl j sl e
  · obtain ⟨e0, ⟨xs0, hx0, hy0⟩⟩ := R.mt b hb
    have hi0 : i ≠ 0 := fun z => by rw [h0 z] at hb; cases hb
    exact ⟨by rw [List.getElem?_set_ne hi0]; exact e0, ⟨xs0, by rw [List.getElem?_set_ne hi0]; exact hx0, hy0⟩⟩
/-- an exception's dict is held from now on -/
theorem Rel.holdX {dd : Addr} {kvs : List (Str × V)} (R : Rel G S H σ ρ) (hs : S dd = none) (hh : H dd = some (.xd kvs)) (h0 : G.H0 dd = none) : Rel G (upd S dd (.xd kvs)) H σ ρ := by
  have sm : Same S (upd S dd (.xd kvs)) := fun b o q => by rw [upd_ne (ne_of_none q hs)]; exact q
  refine ⟨fun b o q => ?_, R.old.trans sm, R.fr, R.th, fun b o q => ?_, fun j sl e => ?_, R.dis, R.mine, R.mt, R.len, R.tbU hh fun _ => nofun, fun z => (R.nt z).upd fun _ => nofun⟩
  · by_cases hb : b = dd
    · subst hb; rw [upd_same] at q; cases q; exact hh
    · rw [upd_ne hb] at q; exact R.sub b o q
  · by_cases hb : b = dd
    · subst hb; exact .inr (.inl h0)
    · rw [upd_ne hb] at q; exact R.nw b o q
  · have h := R.sl j sl e
    cases sl with
    | no => trivial
    | adr => exact h
    | val d => obtain ⟨v, q, r⟩ := h; exact ⟨v, q, Rp.mono sm _ _ r⟩
    | own ys =>
      obtain ⟨b, ws, q, nb, hb, r⟩ := h
      exact ⟨b, ws, q, by rw [upd_ne fun z => by rw [z, hh] at hb; cases hb]; exact nb, hb, Rps.mono sm _ _ r⟩
    | obj c fs =>
      obtain ⟨b, dx, ws, q, nb, nd, ne, hd, hb, r⟩ := h
      exact ⟨b, dx, ws, q, by rw [upd_ne fun z => by rw [z, hh] at hb; cases hb]; exact nb, by rw [upd_ne fun z => by rw [z, hh] at hd; cases hd]; exact nd, ne, hd, hb, r.mono sm⟩
/-- the caught exception, as data -/
theorem Rel.caught {c : Nat} {fs : List D} {d : Option Addr} {oe : Obj} (R : Rel G S H σ ρ) (x : XOk G S H c fs d) (na : H a = none) (hz : Zc (.ref (G.C.at_ c)) d oe) (hf : ∃ vs, oe.data = .fields vs) :
    ∃ S2, Same S S2 ∧ Rel G S2 (upd H a (ExT a oe)) σ ρ ∧ Rp G.K G.C S2 (.exn c fs) (.ref a) := by
  obtain ⟨l, x⟩ := x
  have R1 := R.grow (Grow.new R.sub (ExT a oe) na)
  have s1 : Same S (upd S a (ExT a oe)) := (Grow.new R.sub (ExT a oe) na (fun _ => nofun)).sS
  rcases x with ⟨e1, e2⟩ | ⟨dd, kvs, e1, h1, h2, h3, h4⟩
  · subst e1 e2
    exact ⟨_, s1, R1, a, oe, none, [], rfl, upd_same, hz, hf, l, .inl ⟨rfl, rfl⟩, rfl⟩
  · subst e1
    have hda : dd ≠ a := fun z => by rw [z, na] at h1; cases h1
    have R2 := R1.holdX (dd := dd) (kvs := kvs) (by rw [upd_ne hda]; exact h2) (by rw [upd_ne hda]; exact h1) h3
    have s2 : Same (upd S a (ExT a oe)) (upd (upd S a (ExT a oe)) dd (.xd kvs)) := fun b o q => by
      rw [upd_ne (ne_of_none q (by rw [upd_ne hda]; exact h2))]; exact q
    have build : ∀ (k : Nat) (fs' : List D) (ns : List Str), (∀ (i : Nat) (f : Str) (x : D), ns[i]? = some f → fs'[i]? = some x → ∃ v, kvs.lookup f = some v ∧ Rp G.K G.C S x v) → ns.length = fs'.length →
        ∃ vs, Rps G.K G.C S fs' vs ∧ ∀ (i : Nat) (f : Str) (v : V), ns[i]? = some f → vs[i]? = some v → kvs.lookup f = some v := by
      intro k fs'
      induction fs' with
      | nil => intro ns _ _; exact ⟨[], rfl, fun i f v _ h => by simp at h⟩
      | cons y fs' ih =>
        intro ns h hl
        cases ns with
        | nil => simp at hl
        | cons n0 ns =>
          obtain ⟨v0, k1, k2⟩ := h 0 n0 y rfl rfl
          obtain ⟨vs, k3, k4⟩ := ih ns (fun i f x h1 h2 => h (i + 1) f x h1 h2) (by simpa using hl)
          refine ⟨v0 :: vs, .cons k2 k3, fun i f v g1 g2 => ?_⟩
          cases i with
          | zero => cases g1; cases g2; exact k1
          | succ i => exact k4 i f v g1 g2
    obtain ⟨vs, k1, k2⟩ := build 0 fs _ h4 l
    exact ⟨_, s1.trans s2, R2, a, oe, some dd, vs, rfl, by rw [upd_ne (Ne.symm hda)]; exact upd_same, hz, hf, l, .inr ⟨dd, kvs, rfl, upd_same, k2⟩, Rps.mono (s1.trans s2) _ _ k1⟩
end
/-! ### the mirror -/
def noF (i : Nat) (ρ : Ev) : Option Ev := if i < ρ.length ∧ i ≠ 0 then some (ρ.set i .no) else none
def endF (oi : Option Nat) (r : Fl) : Fl := match oi with
  | none => (match r with
    | .exc _ _ _ => .stuck
    | r => r)
  | some i => (match r with
    | .nx ρ => (match noF i ρ with | some ρ' => .nx ρ' | none => .stuck)
    | .rt d ρ => (match noF i ρ with | some ρ' => .rt d ρ' | none => .stuck)
    | .bk ρ => (match noF i ρ with | some ρ' => .bk ρ' | none => .stuck)
    | .ct ρ => (match noF i ρ with | some ρ' => .ct ρ' | none => .stuck)
    | _ => .stuck)
def inF (oi : Option Nat) (c : Nat) (fs : List D) (h : Ev → Fl) (ρ : Ev) : Fl := match oi with
  | none => endF none (h ρ)
  | some i => if i < ρ.length ∧ i ≠ 0 then endF (some i) (h (ρ.set i (.val (.exn c fs)))) else .stuck
/-- a clause: which classes it takes, its name's slot, its suite -/
abbrev Cl := (Nat → Bool) × Option Nat × (Ev → Fl)
def catchF (c : Nat) (fs : List D) (ρ : Ev) : List Cl → Fl
  | [] => .exc c fs ρ
  | (sub, oi, h) :: r => if sub c then inF oi c fs h ρ else catchF c fs ρ r
def tryF (lo hi : Nat) (f : Ev → Fl) (l : List Cl) : Ev → Fl := fun ρ => match f ρ with
  | .exc c fs ρ1 => if lo ≤ c ∧ c < hi then catchF c fs ρ1 l else .stuck
  | r => r
section
variable {X : Cx} {G : GC} {W : Wx} {lo hi : Nat} {f : Ev → Fl}
def W00 : Wx := fun _ _ _ _ => False
inductive HdF (X : Cx) (G : GC) (lo hi : Nat) : List ExceptHandler → List Cl → Prop
  | nil : HdF X G lo hi [] []
  | only {x : Str} {B : Addr} {sub : Nat → Bool} {h : Ev → Fl} {b0 : Stmt} {suite : List Stmt} {np pos' : Pos} {hds : List ExceptHandler} {l : List Cl} (hc : Names X x (.ref B)) (hsub : ∀ c, lo ≤ c → c < hi → PySem.W.exmOne X.K (.ref (G.C.at_ c)) (.ref B) = some (sub c))
      (hsu : ∀ (a : Addr) (pn : List (Addr × Obj)), PSs (X.suite a pn) (b0 :: suite) (pS G W00 h)) (r : HdF X G lo hi hds l) :
      HdF X G lo hi (.ExceptHandler (some (.Name x np)) none (b0 :: suite) pos' :: hds) ((sub, none, h) :: l)
  | as_ {x n : Str} {i : Nat} {B : Addr} {sub : Nat → Bool} {h : Ev → Fl} {b0 : Stmt} {suite : List Stmt} {np pos' : Pos} {hds : List ExceptHandler} {l : List Cl} (hc : Names X x (.ref B)) (hsub : ∀ c, lo ≤ c → c < hi → PySem.W.exmOne X.K (.ref (G.C.at_ c)) (.ref B) = some (sub c))
      (hN : X.N.Nodup) (hi_ : X.N[i]? = some n) (hln : X.env.kindOf n = some .local)
      (hsu : ∀ (a : Addr) (pn : List (Addr × Obj)), PSs (X.suite a pn) (b0 :: suite) (pS G W00 h)) (r : HdF X G lo hi hds l) :
      HdF X G lo hi (.ExceptHandler (some (.Name x np)) (some n) (b0 :: suite) pos' :: hds) ((sub, some i, h) :: l)
theorem Fo.end0 {Wout : Wx} {S S2 : Hp} {D : Ends} {r : Fl} (s : Same S S2) (q : Fo G Wout S D (endF none r)) : Fo G W00 S2 (endsX none D) r := by
  cases r with
  | exc c fs ρ => exact q.elim
  | nx ρ => exact Fo.mono (r := .nx ρ) (G := G) (W := W00) s q
  | rt d ρ => exact Fo.mono (r := .rt d ρ) (G := G) (W := W00) s q
  | bk ρ => exact Fo.mono (r := .bk ρ) (G := G) (W := W00) s q
  | ct ρ => exact Fo.mono (r := .ct ρ) (G := G) (W := W00) s q
  | stuck => exact q
theorem noF_some {i : Nat} {ρ ρ' : Ev} (h : noF i ρ = some ρ') : i < ρ.length ∧ i ≠ 0 ∧ ρ' = ρ.set i .no := by
  unfold noF at h
  split at h
  · rename_i c; cases h; exact ⟨c.1, c.2, rfl⟩
  · cases h
theorem Fo.endI {Wout : Wx} {S S2 : Hp} {D : Ends} {r : Fl} {i : Nat} (s : Same S S2) (q : Fo G Wout S D (endF (some i) r)) : Fo G W00 S2 (endsX (some i) D) r := by
  cases r with
  | exc c fs ρ => exact q.elim
  | stuck => exact q.elim
  | nx ρ =>
    dsimp only [endF] at q
    cases e : noF i ρ with
    | none => rw [e] at q; exact q.elim
    | some ρ' =>
      rw [e] at q
      obtain ⟨h1, h2, rfl⟩ := noF_some e
      exact fun σ' S' H' s' R' => q _ S' H' (s.trans s') (R'.forget h1 fun z => absurd z h2)
  | bk ρ =>
    dsimp only [endF] at q
    cases e : noF i ρ with
    | none => rw [e] at q; exact q.elim
    | some ρ' =>
      rw [e] at q
      obtain ⟨h1, h2, rfl⟩ := noF_some e
      exact fun σ' S' H' s' R' => q _ S' H' (s.trans s') (R'.forget h1 fun z => absurd z h2)
  | ct ρ =>
    dsimp only [endF] at q
    cases e : noF i ρ with
    | none => rw [e] at q; exact q.elim
    | some ρ' =>
      rw [e] at q
      obtain ⟨h1, h2, rfl⟩ := noF_some e
      exact fun σ' S' H' s' R' => q _ S' H' (s.trans s') (R'.forget h1 fun z => absurd z h2)
  | rt d ρ =>
    dsimp only [endF] at q
    cases e : noF i ρ with
    | none => rw [e] at q; exact q.elim
    | some ρ' =>
      rw [e] at q
      obtain ⟨h1, h2, rfl⟩ := noF_some e
      exact fun σ' v S' H' s' R' r => q (σ'.set i none) v S' H' (s.trans s') (R'.forget h1 fun z => absurd z h2) r
/-- the hand layer's clauses of these -/
theorem HdF.hs {hds : List ExceptHandler} {l : List Cl} (h : HdF X G lo hi hds l) : ∃ l', HdsT X hds l' ∧
    ∀ (Wout : Wx) (D : Ends) (c : Nat) (fs : List PL.D) (d : Option Addr) (S H : Hp) (σ : L2.St) (ρ : Ev), lo ≤ c → c < hi → Rel G S H σ ρ → XOk G S H c fs d → Fo G Wout S D (catchF c fs ρ l) → wTr X.K Wout D l' (.ref (G.C.at_ c)) d σ H := by
  induction h with
  | nil => exact ⟨[], .nil, fun Wout D c fs d S H σ ρ _ _ R x q => q σ S H d (Same.refl _) R x⟩
  | only hc hsub hsu r ih =>
    rename_i x B sub h b0 suite np pos' hds l
    obtain ⟨l', h1, h2⟩ := ih
    refine ⟨_, .only hc (ts := fun _ _ _ _ => pS G W00 h) (fun a _ _ _ pn => hsu a pn) h1, fun Wout D c fs d S H σ ρ c1 c2 R x q => ⟨sub c, hsub c c1 c2, fun hb a oe na hz hf => ?_, fun hb => h2 Wout D c fs d S H σ ρ c1 c2 R x ?_⟩⟩
    · unfold catchF at q
      rw [hb] at q
      obtain ⟨S2, s2, R2, _⟩ := R.caught x na hz hf
      exact ⟨S2, ρ, R2, Fo.end0 s2 q⟩
    · unfold catchF at q
      rw [hb] at q
      exact q
  | as_ hc hsub hN hi_ hln hsu r ih =>
    rename_i x n i B sub h b0 suite np pos' hds l
    obtain ⟨l', h1, h2⟩ := ih
    refine ⟨_, .as_ hc hN hi_ hln (ts := fun _ _ _ _ => pS G W00 h) (fun a _ _ _ pn => hsu a pn) h1, fun Wout D c fs d S H σ ρ c1 c2 R x q => ⟨sub c, hsub c c1 c2, fun hb a oe na hz hf => ?_, fun hb => h2 Wout D c fs d S H σ ρ c1 c2 R x ?_⟩⟩
    · unfold catchF at q
      rw [hb] at q
      have q : Fo G Wout S D (if i < ρ.length ∧ i ≠ 0 then endF (some i) (h (ρ.set i (.val (.exn c fs)))) else .stuck) := q
      by_cases k : i < ρ.length ∧ i ≠ 0
      · rw [if_pos k] at q
        obtain ⟨S2, s2, R2, rx⟩ := R.caught x na hz hf
        exact ⟨S2, _, R2.setv k.1 (fun z => absurd z k.2) rx, Fo.endI s2 q⟩
      · rw [if_neg k] at q; exact q.elim
    · unfold catchF at q
      rw [hb] at q
      exact q
theorem s_try {body : List Stmt} {h0 : ExceptHandler} {hds : List ExceptHandler} {l : List Cl} {pos : Pos} (hs : X.stack = X.env :: X.outer) (hf : X.env.frame = some X.env.locals) (hex : X.ex = []) (tk : Takes X W)
    (hb : ∀ (W2 : Wx) (pn : List (Addr × Obj)) (xe : Value → Shared → Prop), Takes (X.tr pn xe) W2 → PassesOwn (model X.prog X.w) X.A X.env xe → PSs (X.tr pn xe) body (pS G W2 f)) (hh : HdF X G lo hi (h0 :: hds) l) :
    PS X (.Try body (h0 :: hds) [] [] pos) (pS G W (tryF lo hi f l)) := by
  obtain ⟨l', h1, h2⟩ := hh.hs
  refine PSm (ps_tryT (tb := fun W2 => pS G W2 f) hs hf hex tk hb h1) fun E σ H ⟨S, ρ, R, q⟩ => ⟨S, ρ, R, ?_⟩
  unfold tryF at q
  cases ef : f ρ with
  | nx ρ1 => rw [ef] at q; exact q
  | rt d ρ1 => rw [ef] at q; exact q
  | bk ρ1 => rw [ef] at q; exact q
  | ct ρ1 => rw [ef] at q; exact q
  | stuck => rw [ef] at q; exact q
  | exc c fs ρ1 =>
    rw [ef] at q
    have q : Fo G W S E (if lo ≤ c ∧ c < hi then catchF c fs ρ1 l else .stuck) := q
    by_cases k : lo ≤ c ∧ c < hi
    · rw [if_pos k] at q
      exact fun σ1 S1 H1 d s1 R1 x => h2 W E c fs d S1 H1 σ1 ρ1 k.1 k.2 R1 x (Fo.mono s1 q)
    · rw [if_neg k] at q; exact q.elim
end
end PL
/-! PL35: a def that hears out a lambda, by the pure reading of its clauses and of what stands behind them -/
namespace PL
open PySem L2 LamX
open PyProof.Rows (envOfC)
/-- h none: the lambda answered; h (some (c, fs)): an exception of class c with these fields -/
def heardE (h : Option (Nat × List D) → Option D) (f : Ev → Rs D) : Ev → Rs D := fun ρ => match f ρ with
  | .ok _ ρ1 => Rs.opt (h none) ρ1
  | .exc c fs ρ1 => Rs.opt (h (some (c, fs))) ρ1
  | .stuck => .stuck
/-- an exception's fields, its dict held -/
def XH (K : PySem.W.Frag) (C : CT) (S : Hp) (c : Nat) (fs : List D) (d : Option Addr) : Prop :=
  (C.fn c).length = fs.length ∧ ((fs = [] ∧ d = none) ∨ ∃ dd kvs, d = some dd ∧ S dd = some (.xd kvs) ∧
    ∀ (i : Nat) (f : Str) (x : D), (C.fn c)[i]? = some f → fs[i]? = some x → ∃ v, kvs.lookup f = some v ∧ Rp K C S x v)
theorem XH.mono {K : PySem.W.Frag} {C : CT} {S S' : Hp} {c : Nat} {fs : List D} {d : Option Addr} (s : Same S S') (x : XH K C S c fs d) : XH K C S' c fs d :=
  ⟨x.1, x.2.imp id fun ⟨dd, kvs, h1, h2, h3⟩ => ⟨dd, kvs, h1, s _ _ h2, fun i f y e1 e2 => let ⟨v, k1, k2⟩ := h3 i f y e1 e2; ⟨v, k1, Rp.mono s _ _ k2⟩⟩⟩
section
variable (K : PySem.W.Frag) (C : CT) (h : Option (Nat × List D) → Option D)
/-- the answer is new data -/
def Tells (o : Option (Nat × List D)) (S H : Hp) (Q : VK) : Prop := ∃ r, h o = some r ∧ ∀ v S' H', Grow S H S' H' → Rp K C S' r v → Q v H'
def HeardN (d0 : D) (v0 : V) (Q : VK) : VK := fun _ H => ∃ S, Same S H ∧ Rp K C S d0 v0 ∧ Tells K C h none S H Q
def HeardX (d0 : D) (v0 : V) (Q : VK) : XK := fun cls d H => ∃ S c fs, Same S H ∧ Rp K C S d0 v0 ∧ cls = .ref (C.at_ c) ∧ XH K C S c fs d ∧ Tells K C h (some (c, fs)) S H Q
/-- d0: what stands in the def's own name before it asks -/
def TTh (d0 : D) : (XK → Hp → VK → Prop) → Hp → VK → Prop := fun tl H Q => ∃ S, Same S H ∧ ∀ v0 S1 H1, Grow S H S1 H1 → Rp K C S1 d0 v0 → ∀ (E1 : XK) (Q1 : VK), (∀ cls d H2, HeardX K C h d0 v0 Q cls d H2 → E1 cls d H2) → (∀ v H2, HeardN K C h d0 v0 Q v H2 → Q1 v H2) → tl E1 H1 Q1
end
section
variable {X : Cx} {G : GC} {W : Wx} {T : List (Addr × Str)} {S H : Hp} {σ : L2.St} {ρ : Ev} {c : Nat} {fs : List D} {d : Option Addr}
theorem Po.later {α : Type} {S S1 : Hp} {σ : L2.St} {P : Hp → α → Hp → Ev → Prop} {r : Rs α} (s : Same S S1) (q : Po G W S σ P r) : Po G W S1 σ P r := by
  cases r with
  | ok a ρ => exact fun S' H' s' => q S' H' (s.trans s')
  | exc c fs ρ => exact Px.mono q s
  | stuck => exact q
/-- what was let out is held -/
theorem Rel.holdE (R : Rel G S H σ ρ) (x : XOk G S H c fs d) : ∃ S2, Same S S2 ∧ Rel G S2 H σ ρ ∧ XH G.K G.C S2 c fs d := by
  obtain ⟨l, x⟩ := x
  rcases x with ⟨e1, e2⟩ | ⟨dd, kvs, e1, h1, h2, h3, h4⟩
  · exact ⟨S, Same.refl _, R, l, .inl ⟨e1, e2⟩⟩
  · have sm : Same S (upd S dd (.xd kvs)) := fun b o q => by rw [upd_ne (ne_of_none q h2)]; exact q
    exact ⟨_, sm, R.holdX h2 h1 h3, l, .inr ⟨dd, kvs, e1, upd_same, fun i f y k1 k2 => let ⟨v, z1, z2⟩ := h4 i f y k1 k2; ⟨v, z1, Rp.mono sm _ _ z2⟩⟩⟩
theorem heard_ok {d0 : D} {h : Option (Nat × List D) → Option D} {f : Ev → Rs D} {Q : VK} (tg : TG G T) (q : pE G W (heardE h f) σ H Q) : tLam T (TTh G.K G.C h d0) (fun E => pE G (fun cls d _ H' => E cls d H') f) σ H Q := by
  obtain ⟨S, ρ, R, q⟩ := q
  refine ⟨R.tabs tg, fun H1 e t => ?_⟩
  have R0 := R.stepT tg (GrowT.lam R.sub (R.no tg) e t)
  refine ⟨S, R0.sub, fun v0 S1 H2 gr r0 E1 Q1 kE kQ => ⟨S1, ρ, R0.grow gr, ?_⟩⟩
  have q := Po.later gr.sS q
  unfold heardE at q
  cases ef : f ρ with
  | stuck => rw [ef] at q; exact q
  | ok d ρ1 =>
    rw [ef] at q
    intro S2 H3 s1 R1 v _
    dsimp only at q
    cases eh : h none with
    | none => rw [eh] at q; exact q.elim
    | some r =>
      rw [eh] at q
      exact kQ _ _ ⟨S2, R1.sub, Rp.mono s1 _ _ r0, r, eh, fun v2 S3 H4 g rv => q S3 H4 (s1.trans g.sS) (R1.grow g) v2 rv⟩
  | exc c fs ρ1 =>
    rw [ef] at q
    intro S2 H3 dd s1 R1 xo
    dsimp only at q
    cases eh : h (some (c, fs)) with
    | none => rw [eh] at q; exact q.elim
    | some r =>
      rw [eh] at q
      obtain ⟨S3, s3, R3, xh⟩ := R1.holdE xo
      exact kE _ _ _ ⟨S3, c, fs, R3.sub, Rp.mono (s1.trans s3) _ _ r0, rfl, xh, r, eh, fun v2 S4 H4 g rv => q S4 H4 ((s1.trans s3).trans g.sS) (R3.grow g) v2 rv⟩
/-- x(lambda: b) -/
theorem e_heard {d0 : D} {h : Option (Nat × List D) → Option D} {f : Ev → Rs D} {x y : Str} {g c P : Addr} {k : Nat} {pg : Arguments} {bg : List Stmt} {sg : Scope} {fd : FuncData} {N : List Str} {ps : Arguments} {b : Expr} {sc : Scope} {p p2 pos : Pos} (tg : TG G T)
    (hg : Gl X x) (hm : X.mg x = some (.ref g)) (F : FunD X.K x x pg bg sg [] [] g fd) (hb : L2.Binds X.K fd [y] []) (Sg : FnScope N [y] sg) (hN : N[0]? = some y) (hv : Vis sg y)
    (give : ∀ cd : Value, GivesG X N x sg g cd bg y (X.env.qual ++ "<lambda>") (TTh G.K G.C h d0)) (TB : TabB X.base X.mg c P) (code : X.env.code = .ref c) (mem : (P, X.env.qual ++ "<lambda>") ∈ T) (one : ∀ p ∈ T, p.1 = P → p.2 = X.env.qual ++ "<lambda>")
    (room : Room (k + 2) X.A) (gd : X.A.guards = some []) (L : LamS X.env.scope sc) (dfl : defaultsOf ps X.env = ([], [])) (bd : ∀ (q : Str) (cl : List (Str × Addr)) (pm cv ctv : Value), bindArgs (PySem.W.kla_fn "<lambda>" q ps b sc cl pm cv ctv) ⟨[], []⟩ = pure [])
    (body : ∀ (A : Around) (outer : List Env) (s : Shared) (H : Hp) (E : XK) (f1 c' : Addr), Room k (A.deeper (lamEnv X sc s.heap.objs.size f1 c')) → A.guards = some [] → PE (lamCx X A outer s H E sc f1 c') b (pE G (fun cls d _ H' => E cls d H') f))
    (hdb : (x == ("__debug__" : Str)) = false := by decide) (hd : (y == ("__debug__" : Str)) = false := by decide) (hcd : (y == ("__classdict__" : Str)) = false := by decide) : PE X (.Call (.Name x p) [.Lambda ps b sc p2] [] pos) (pE G W (heardE h f)) :=
  PEm (lam_call (t := fun E => pE G (fun cls d _ H' => E cls d H') f) hg hm F hb Sg hN hv give TB code mem one room gd L dfl bd body hdb hd hcd) fun _ _ _ q => heard_ok tg q
/-- slots of which nothing is owned -/
theorem rel_plain {K : PySem.W.Frag} {C : CT} {S H : Hp} {σ : L2.St} {ρ : Ev} {x : Option Addr} (s : Same S H) (hl : ρ.length = σ.length) (hs : ∀ (i : Nat) sl, ρ[i]? = some sl → sl = .no ∨ (∃ a, sl = .adr ∧ x = some a ∧ σ[i]? = some (some (.ref a))) ∨ ∃ d v, sl = .val d ∧ σ[i]? = some (some v) ∧ Rp K C S d v) : Rel ⟨K, C, H, S, none, fun _ => False, [], x⟩ S H σ ρ := by
  have no : ∀ {i a}, ¬ Ow ρ σ i a := fun {i a} ⟨⟨sl, e, m⟩, _⟩ => by
    rcases hs i sl e with rfl | ⟨_, rfl, _⟩ | ⟨d, v, rfl, _⟩ <;> cases m
  refine ⟨s, Same.refl _, fun _ _ h _ => h, fun _ o h => ⟨o, h⟩, fun _ _ h => .inl h, fun i sl e => ?_, fun i j a h _ => (no h).elim, fun i a h => (no h).elim, fun a h => (nomatch h), hl, ⟨fun _ h => (nomatch h), fun _ h => (nomatch h)⟩, id⟩
  rcases hs i sl e with rfl | ⟨a, rfl, e1, e2⟩ | ⟨d, v, rfl, e2, r⟩
  · trivial
  · exact ⟨a, e1, by rw [e2]; rfl⟩
  · exact ⟨v, by rw [e2]; rfl, r⟩
theorem Rel.grownX {K : PySem.W.Frag} {C : CT} {S0 H0 : Hp} {x : Option Addr} (R : Rel ⟨K, C, H0, S0, none, fun _ => False, [], x⟩ S H σ ρ) : Grow S0 H0 S H :=
  ⟨R.old, fun b o h => R.fr b o h id, R.sub, fun a o h => by
    rcases R.nw a o h with z | z | z
    · exact .inl z
    · exact .inr z
    · exact z.elim, R.nt⟩
theorem Rel.caughtH {a : Addr} {oe : Obj} (R : Rel G S H σ ρ) (x : XH G.K G.C S c fs d) (na : H a = none) (hz : Zc (.ref (G.C.at_ c)) d oe) (hf : ∃ vs, oe.data = .fields vs) :
    ∃ S2, Same S S2 ∧ Rel G S2 (upd H a (ExT a oe)) σ ρ ∧ Rp G.K G.C S2 (.exn c fs) (.ref a) := by
  have R1 := R.grow (Grow.new R.sub (ExT a oe) na)
  have s1 : Same S (upd S a (ExT a oe)) := (Grow.new R.sub (ExT a oe) na (fun _ => nofun)).sS
  obtain ⟨l, x⟩ := x
  rcases x with ⟨e1, e2⟩ | ⟨dd, kvs, e1, h1, h4⟩
  · subst e1 e2
    exact ⟨_, s1, R1, a, oe, none, [], rfl, upd_same, hz, hf, l, .inl ⟨rfl, rfl⟩, rfl⟩
  · subst e1
    have build : ∀ (fs' : List D) (ns : List Str), (∀ (i : Nat) (f : Str) (x : D), ns[i]? = some f → fs'[i]? = some x → ∃ v, kvs.lookup f = some v ∧ Rp G.K G.C S x v) → ns.length = fs'.length →
        ∃ vs, Rps G.K G.C S fs' vs ∧ ∀ (i : Nat) (f : Str) (v : V), ns[i]? = some f → vs[i]? = some v → kvs.lookup f = some v := by
      intro fs'
      induction fs' with
      | nil => intro ns _ _; exact ⟨[], rfl, fun i f v _ h => by simp at h⟩
      | cons y fs' ih =>
        intro ns h hl
        cases ns with
        | nil => simp at hl
        | cons n0 ns =>
          obtain ⟨v0, k1, k2⟩ := h 0 n0 y rfl rfl
          obtain ⟨vs, k3, k4⟩ := ih ns (fun i f x h1 h2 => h (i + 1) f x h1 h2) (by simpa using hl)
          refine ⟨v0 :: vs, .cons k2 k3, fun i f v g1 g2 => ?_⟩
          cases i with
          | zero => cases g1; cases g2; exact k1
          | succ i => exact k4 i f v g1 g2
    obtain ⟨vs, k1, k2⟩ := build fs _ h4 l
    exact ⟨_, s1, R1, a, oe, some dd, vs, rfl, upd_same, hz, hf, l, .inr ⟨dd, kvs, rfl, s1 _ _ h1, k2⟩, Rps.mono s1 _ _ k1⟩
end
/-! ### clauses, for whatever frame -/
section
variable {X : Cx} {K : PySem.W.Frag} {C : CT} {lo hi : Nat}
abbrev GOk (K : PySem.W.Frag) (C : CT) (G : GC) : Prop := G.K = K ∧ G.C = C
inductive HdG (X : Cx) (K : PySem.W.Frag) (C : CT) (lo hi : Nat) : List ExceptHandler → List Cl → Prop
  | nil : HdG X K C lo hi [] []
  | only {x : Str} {B : Addr} {sub : Nat → Bool} {h : Ev → Fl} {b0 : Stmt} {suite : List Stmt} {np pos' : Pos} {hds : List ExceptHandler} {l : List Cl} (hc : Names X x (.ref B)) (hsub : ∀ c, lo ≤ c → c < hi → PySem.W.exmOne X.K (.ref (C.at_ c)) (.ref B) = some (sub c))
      (hsu : ∀ G, GOk K C G → ∀ (a : Addr) (pn : List (Addr × Obj)), PSs (X.suite a pn) (b0 :: suite) (pS G W00 h)) (r : HdG X K C lo hi hds l) :
      HdG X K C lo hi (.ExceptHandler (some (.Name x np)) none (b0 :: suite) pos' :: hds) ((sub, none, h) :: l)
  | as_ {x n : Str} {i : Nat} {B : Addr} {sub : Nat → Bool} {h : Ev → Fl} {b0 : Stmt} {suite : List Stmt} {np pos' : Pos} {hds : List ExceptHandler} {l : List Cl} (hc : Names X x (.ref B)) (hsub : ∀ c, lo ≤ c → c < hi → PySem.W.exmOne X.K (.ref (C.at_ c)) (.ref B) = some (sub c))
      (hN : X.N.Nodup) (hi_ : X.N[i]? = some n) (hln : X.env.kindOf n = some .local)
      (hsu : ∀ G, GOk K C G → ∀ (a : Addr) (pn : List (Addr × Obj)), PSs (X.suite a pn) (b0 :: suite) (pS G W00 h)) (r : HdG X K C lo hi hds l) :
      HdG X K C lo hi (.ExceptHandler (some (.Name x np)) (some n) (b0 :: suite) pos' :: hds) ((sub, some i, h) :: l)
def tsG (K : PySem.W.Frag) (C : CT) (h : Ev → Fl) : TS := fun E σ H => ∃ G, GOk K C G ∧ pS G W00 h E σ H
theorem pss_G {l : List Stmt} {h : Ev → Fl} (k : ∀ G, GOk K C G → PSs X l (pS G W00 h)) : PSs X l (tsG K C h) :=
  ⟨fun pins s σ H E I ⟨G, g, z⟩ => (k G g).run pins s σ H E I z⟩
theorem endF_none {r : Fl} {ρ2 : Ev} (e : endF none r = .nx ρ2) : r = .nx ρ2 := by
  cases r <;> first | exact e | cases e
theorem endF_some {i : Nat} {r : Fl} {ρ2 : Ev} (e : endF (some i) r = .nx ρ2) : ∃ ρ1, r = .nx ρ1 ∧ noF i ρ1 = some ρ2 := by
  cases r with
  | nx ρ =>
    dsimp only [endF] at e
    cases z : noF i ρ with
    | none => rw [z] at e; cases e
    | some ρ' => rw [z] at e; cases e; exact ⟨ρ, rfl, z⟩
  | rt d ρ => dsimp only [endF] at e; split at e <;> cases e
  | bk ρ => dsimp only [endF] at e; split at e <;> cases e
  | ct ρ => dsimp only [endF] at e; split at e <;> cases e
  | exc c fs ρ => cases e
  | stuck => cases e
theorem HdG.hs {hds : List ExceptHandler} {l : List Cl} (h : HdG X K C lo hi hds l) : ∃ l', HdsT X hds l' ∧
    ∀ (G : GC) (D : Ends) (c : Nat) (fs : List PL.D) (d : Option Addr) (S H : Hp) (σ : L2.St) (ρ ρ2 : Ev), GOk K C G → lo ≤ c → c < hi → Rel G S H σ ρ → XH K C S c fs d → catchF c fs ρ l = .nx ρ2 → (∀ σ' S' H', Same S S' → Rel G S' H' σ' ρ2 → D.nx σ' H') → wTr X.K (fun _ _ _ _ => False) D l' (.ref (C.at_ c)) d σ H := by
  induction h with
  | nil => exact ⟨[], .nil, fun G D c fs d S H σ ρ ρ2 _ _ _ R x e q => by cases e⟩
  | only hc hsub hsu r ih =>
    rename_i x B sub h b0 suite np pos' hds l
    obtain ⟨l', h1, h2⟩ := ih
    refine ⟨_, .only hc (ts := fun _ _ _ _ => tsG K C h) (fun a _ _ _ pn => pss_G fun G g => hsu G g a pn) h1, fun G D c fs d S H σ ρ ρ2 g c1 c2 R x e q => ⟨sub c, hsub c c1 c2, fun hb a oe na hz hf => ?_, fun hb => h2 G D c fs d S H σ ρ ρ2 g c1 c2 R x ?_ q⟩⟩
    · unfold catchF at e
      rw [hb] at e
      have e1 := endF_none e
      obtain ⟨gk, gc⟩ := id g
      subst gk gc
      obtain ⟨S2, s2, R2, _⟩ := R.caughtH x na hz hf
      refine ⟨G, g, S2, ρ, R2, ?_⟩
      rw [e1]
      exact fun σ' S' H' s' R' => q σ' S' H' (s2.trans s') R'
    · unfold catchF at e
      rw [hb] at e
      exact e
  | as_ hc hsub hN hi_ hln hsu r ih =>
    rename_i x n i B sub h b0 suite np pos' hds l
    obtain ⟨l', h1, h2⟩ := ih
    refine ⟨_, .as_ hc hN hi_ hln (ts := fun _ _ _ _ => tsG K C h) (fun a _ _ _ pn => pss_G fun G g => hsu G g a pn) h1, fun G D c fs d S H σ ρ ρ2 g c1 c2 R x e q => ⟨sub c, hsub c c1 c2, fun hb a oe na hz hf => ?_, fun hb => h2 G D c fs d S H σ ρ ρ2 g c1 c2 R x ?_ q⟩⟩
    · unfold catchF at e
      rw [hb] at e
      have e : (if i < ρ.length ∧ i ≠ 0 then endF (some i) (h (ρ.set i (.val (.exn c fs)))) else .stuck) = Fl.nx ρ2 := e
      by_cases k : i < ρ.length ∧ i ≠ 0
      · rw [if_pos k] at e
        obtain ⟨ρ1, e1, e2⟩ := endF_some e
        obtain ⟨k1, k2, rfl⟩ := noF_some e2
        obtain ⟨gk, gc⟩ := id g
        subst gk gc
        obtain ⟨S2, s2, R2, rx⟩ := R.caughtH x na hz hf
        refine ⟨G, g, S2, _, R2.setv k.1 (fun z => absurd z k.2) rx, ?_⟩
        rw [e1]
        exact fun σ' S' H' s' R' => q _ S' H' (s2.trans s') (R'.forget k1 fun z => absurd z k2)
      · rw [if_neg k] at e; cases e
    · unfold catchF at e
      rw [hb] at e
      exact e
/-- the slots when the lambda is asked -/
def ask0 (n : Nat) : Ev := .adr :: List.replicate (n - 1) .no
def ask1 (n : Nat) (d0 : D) : Ev := .adr :: .val d0 :: List.replicate (n - 2) .no
/-- what is told behind the try -/
def retOf : Fl → Option D
  | .rt d _ => some d
  | .nx _ => some .non
  | _ => none
def hOf (lo hi n : Nat) (d0 : D) (l : List Cl) (fr : Ev → Fl) : Option (Nat × List D) → Option D
  | none => retOf (fr (ask1 n d0))
  | some (c, fs) => if lo ≤ c ∧ c < hi then (match catchF c fs (ask1 n d0) l with
    | .nx ρ2 => retOf (fr ρ2)
    | _ => none) else none
theorem rest_ok {H S : Hp} {x : Option Addr} {fr : Ev → Fl} {ρ2 : Ev} {r : D} {σ' : L2.St} {S' H' : Hp} {Q : VK} (e : retOf (fr ρ2) = some r) (tell : ∀ v S' H', Grow S H S' H' → Rp K C S' r v → Q v H') (R : Rel ⟨K, C, H, S, none, fun _ => False, [], x⟩ S' H' σ' ρ2) : tsG K C fr { nx := fun _ H' => Q .non H', rt := Q } σ' H' := by
  refine ⟨_, ⟨rfl, rfl⟩, S', ρ2, R, ?_⟩
  cases ef : fr ρ2 with
  | nx ρ3 =>
    rw [ef] at e
    cases e
    exact fun σ3 S3 H3 _ R3 => tell _ S3 H3 R3.grownX rfl
  | rt d ρ3 =>
    rw [ef] at e
    cases e
    exact fun σ3 v S3 H3 _ R3 rv => tell v S3 H3 R3.grownX rv
  | bk ρ => rw [ef] at e; cases e
  | ct ρ => rw [ef] at e; cases e
  | exc c fs ρ => rw [ef] at e; cases e
  | stuck => rw [ef] at e; cases e
theorem ask1_rel {S H : Hp} {σ : L2.St} {n : Nat} {d0 : D} {v0 : V} {f : Addr} (s : Same S H) (hn : 2 ≤ n) (hl : σ.length = n) (e0 : σ[0]? = some (some (.ref f))) (e1 : σ[1]? = some (some v0)) (r : Rp K C S d0 v0) : Rel ⟨K, C, H, S, none, fun _ => False, [], some f⟩ S H σ (ask1 n d0) := by
  refine rel_plain s (by unfold ask1; simp; omega) fun i sl e => ?_
  match i, e with
  | 0, e => cases e; exact .inr (.inl ⟨f, rfl, rfl, e0⟩)
  | 1, e => cases e; exact .inr (.inr ⟨d0, v0, rfl, e1, r⟩)
  | i + 2, e =>
    unfold ask1 at e
    rw [List.getElem?_cons_succ, List.getElem?_cons_succ, List.getElem?_replicate] at e
    split at e
    · cases e; exact .inl rfl
    · cases e
theorem gives_heard {N : List Str} {x y q : Str} {sg : Scope} {g : Addr} {cd : Value} {s0 : Stmt} {rest : List Stmt} {h0 : ExceptHandler} {hds : List ExceptHandler} {l : List Cl} {d0 : D} {f0 fr : Ev → Fl} {n : Nat} {p1 p2 p3 p6 : Pos}
    (hK : X.K = K) (hN : N.length = n) (hn : 2 ≤ n)
    (hs0 : ∀ (s : Shared) (H : Hp) (G : GC), GOk K C G → PS (recvCx X N x sg g cd s H C8.CX0 C8.E0).nox s0 (pS G W00 f0)) (e0 : f0 (ask0 n) = .nx (ask1 n d0))
    (hh : ∀ (s : Shared) (H : Hp), HdG (recvCx X N x sg g cd s H C8.CX0 C8.E0).nox K C lo hi (h0 :: hds) l)
    (hr : ∀ (s : Shared) (H : Hp) (G : GC), GOk K C G → PSs (recvCx X N x sg g cd s H C8.CX0 C8.E0).nox rest (pS G W00 fr)) :
    GivesG X N x sg g cd (s0 :: .Try [.Expr (.Call (.Name y p1) [] [] p2) p3] (h0 :: hds) [] [] p6 :: rest) y q (TTh K C (hOf lo hi n d0 l fr) d0) := by
  subst hK
  intro f c' s H Q tl act hc hT
  obtain ⟨S, sm, hT⟩ := hT
  obtain ⟨l', hl', hw⟩ := (hh s H).hs
  have htry := ps_tryT (X := (recvCx X N x sg g cd s H C8.CX0 C8.E0).nox) (body := [.Expr (.Call (.Name y p1) [] [] p2) p3]) (pos := p6)
    (tb := fun W E σ K1 => ∃ Ech : XK, (∀ cls d H', Ech cls d H' → W cls d σ H') ∧ σ[0]? = some (some (.ref f)) ∧ K1 c' = some (CodeO c' q) ∧ tl Ech K1 fun _ H' => E.nx σ H')
    (Wout := fun _ _ _ _ => False) rfl rfl rfl L2.takes0
    (fun W pn xe tk _ => ⟨fun pins t σ K1 E I z => by
      obtain ⟨Ech, hW, z1, z2, z3⟩ := z
      have hp := act W pn xe Ech σ p1 p2 tk hW
      exact (pss_one (ps_expr (pos := p3) hp)).run pins t σ K1 E I ⟨rfl, z1, z2, z3⟩⟩) hl'
  have hs : PS (recvCx X N x sg g cd s H C8.CX0 C8.E0).nox s0 (tsG X.K C f0) := ⟨fun pins t σ K1 E I ⟨G, g, z⟩ => (hs0 s H G g).run pins t σ K1 E I z⟩
  refine ⟨_, pss_cons hs (pss_cons htry (pss_G fun G g => hr s H G g)), ?_⟩
  have hl : (L2.start N [V.ref f]).length = n := by
    unfold L2.start
    simp only [List.length_append, List.length_map, List.length_replicate, List.length_cons, List.length_nil]
    omega
  have at0 : (L2.start N [V.ref f])[0]? = some (some (V.ref f)) := start_get rfl
  refine ⟨⟨X.K, C, H, S, none, fun _ => False, [], some f⟩, ⟨rfl, rfl⟩, S, ask0 n, rel_plain sm (by unfold ask0; simp; omega) fun i sl e => ?_, ?_⟩
  · match i, e with
    | 0, e => cases e; exact .inr (.inl ⟨f, rfl, rfl, at0⟩)
    | i + 1, e =>
      unfold ask0 at e
      rw [List.getElem?_cons_succ, List.getElem?_replicate] at e
      split at e
      · cases e; exact .inl rfl
      · cases e
  rw [e0]
  intro σ1 S1 H1 s1 R1
  obtain ⟨a, ea, ez⟩ := R1.sl 0 .adr rfl
  cases ea
  obtain ⟨v0, ev, r0⟩ := R1.sl 1 (.val d0) rfl
  have up : ∀ {i : Nat} {v : V}, (σ1[i]?).getD none = some v → σ1[i]? = some (some v) := fun {i v} e2 => by
    cases h : σ1[i]? with
    | none => rw [h] at e2; cases e2
    | some o => rw [h] at e2; exact congrArg some e2
  have len1 : σ1.length = n := by rw [← R1.len]; unfold ask1; simp; omega
  have gr := R1.grownX
  refine ⟨HeardX X.K C (hOf lo hi n d0 l fr) d0 v0 Q, fun cls d H2 hx => ?_, up ez, gr.hH _ _ hc, ?_⟩
  · obtain ⟨S2, c, fs, sm2, rv0, ec, xh, r, eh, tell⟩ := hx
    subst ec
    dsimp only [hOf] at eh
    by_cases k : lo ≤ c ∧ c < hi
    · rw [if_pos k] at eh
      cases ek : catchF c fs (ask1 n d0) l with
      | nx ρ2 =>
        rw [ek] at eh
        exact hw ⟨X.K, C, H2, S2, none, fun _ => False, [], some f⟩ _ c fs d S2 H2 σ1 (ask1 n d0) ρ2 ⟨rfl, rfl⟩ k.1 k.2 (ask1_rel sm2 hn len1 (up ez) (up ev) rv0) xh ek fun σ' S' H' s' R' => rest_ok eh tell R'
      | _ => rw [ek] at eh; cases eh
    · rw [if_neg k] at eh; cases eh
  · refine hT v0 S1 H1 gr r0 _ _ (fun _ _ _ z => z) fun v H2 z => ?_
    obtain ⟨S2, sm2, rv0, r, eh, tell⟩ := z
    exact rest_ok eh tell (ask1_rel sm2 hn len1 (up ez) (up ev) rv0)
end
end PL
/-! PL36: raise of own exceptions -/
namespace PL
open PySem L2 PyProof.Rows PySem.Spec
open PyProof.Rows (envOfC)
/-- an exception's own __init__ stores what it gets -/
def spX (K : PySem.W.Frag) (ns : List Str) : Sp := fun vs H Q _ => ∃ (a C : Addr) (us : List V), vs = .ref a :: us ∧ us.length = ns.length ∧ OexC K C ∧ (∀ f ∈ ns, PySem.W.findIn K (.ref C) f = some none) ∧ H a = some (exo a C none) ∧
  ∀ d, H d = none → d ≠ a → Q .non (upd (upd H d (exd d (ns.zip us).reverse)) a (exo a C (some d)))
theorem spX_len {K : PySem.W.Frag} {ns : List Str} {vs : List V} {H : Hp} {Q : VK} {E : XK} (h : spX K ns vs H Q E) : vs.length = ns.length + 1 := by
  obtain ⟨a, C, us, rfl, e, _⟩ := h
  rw [List.length_cons, e]
section
variable {P : Program} {w : World} {K : PySem.W.Frag} {mg : Str → Option Value} {base : Heap} {x qual : Str} {params : Arguments} {body : List Stmt} {scope : Scope} {kws : List (Str × V)} {f : Addr} {fd : FuncData} {N : List Str} {p0 p1 p2 f1 f2 : Str} {k : Nat}
theorem fnX1 (F : FunD K x qual params body scope [] kws f fd) (S : FnScope N [p0, p1] scope)
    (hb : ∀ (cdv : Value) (A : Around) (outer : List Env) (s : Shared) (H : Hp) (E : XK), PSs (cxOf (L2.CX P w) P w K mg base N qual scope f cdv A outer s H E) body (tOst K f1 (tVar 0) (tVar 1))) : FnG P w K mg base (k + 1) f fd [p0, p1] (spX K [f1]) :=
  fnG_of F S (fun vs H Q E h => (spX_len h).trans rfl) fun cdv A outer s H vs Q E hr hg h => by
    obtain ⟨a, C, us, rfl, e, T, hno, ha, q⟩ := h
    match us, e with
    | [y], _ =>
      refine ⟨_, hb cdv A outer s H E, ⟨y, start_get rfl, ⟨.ref a, start_get rfl, a, C, rfl, T, hno _ (by simp), .inl ⟨ha, fun dx n ne => q dx n ne⟩⟩⟩⟩
theorem fnX2 (F : FunD K x qual params body scope [] kws f fd) (S : FnScope N [p0, p1, p2] scope) {st1 st2 : Stmt} (eb : body = [st1, st2])
    (hb1 : ∀ (cdv : Value) (A : Around) (outer : List Env) (s : Shared) (H : Hp) (E : XK), PS (cxOf (L2.CX P w) P w K mg base N qual scope f cdv A outer s H E) st1 (tOst K f1 (tVar 0) (tVar 1)))
    (hb2 : ∀ (cdv : Value) (A : Around) (outer : List Env) (s : Shared) (H : Hp) (E : XK), PS (cxOf (L2.CX P w) P w K mg base N qual scope f cdv A outer s H E) st2 (tOst K f2 (tVar 0) (tVar 2))) : FnG P w K mg base (k + 1) f fd [p0, p1, p2] (spX K [f1, f2]) :=
  fnG_of F S (fun vs H Q E h => (spX_len h).trans rfl) fun cdv A outer s H vs Q E hr hg h => by
    obtain ⟨a, C, us, rfl, e, T, hno, ha, q⟩ := h
    match us, e with
    | [y, z], _ =>
      subst eb
      refine ⟨_, pss_cons (hb1 cdv A outer s H E) (pss_one (hb2 cdv A outer s H E)), ⟨y, start_get rfl, ⟨.ref a, start_get rfl, a, C, rfl, T, hno _ (by simp), .inl ⟨ha, fun dx n ne => ?_⟩⟩⟩⟩
      refine ⟨z, start_get rfl, .ref a, start_get rfl, a, C, rfl, T, hno _ (by simp), .inr ⟨dx, [(f1, y)], upd_same, by rw [upd_ne ne, upd_same], by simp, ?_⟩⟩
      have := q dx n ne
      have e2 : upd (upd (upd H dx (exd dx [(f1, y)])) a (exo a C (some dx))) dx (exd dx [(f2, z), (f1, y)]) = upd (upd H dx (exd dx ([f1, f2].zip [y, z]).reverse)) a (exo a C (some dx)) := by
        funext b
        by_cases hb : b = dx
        · subst hb; rw [upd_same, upd_ne ne, upd_same]; rfl
        · rw [upd_ne hb]
          by_cases ha : b = a
          · subst ha; rw [upd_same, upd_same]
          · rw [upd_ne ha, upd_ne ha, upd_ne hb, upd_ne hb]
      rw [e2]
      exact this
/-- .. by its base's -/
theorem fnXB {B g : Addr} {mc : Value} {m : Str} {j : Nat} (F : FunD K x qual params body scope [] kws f fd) (S : FnScope N [p0, p1] scope) (cr : ClX.CRead K B mc) (cv : ClX.CVal K B mc m (.ref g) (.ref g)) (kg : PySem.W.keepIn K (.ref g) = true) (Fb : FnN P w K mg base j g (spX K [f1])) (hj : j ≤ k)
    {eb ea ec : Expr} {apos pos spos : Pos} (ebody : body = [.Expr (.Call (.Attribute eb m apos) [ea, ec] [] pos) spos])
    (hb : ∀ (cdv : Value) (A : Around) (outer : List Env) (s : Shared) (H : Hp) (E : XK), PE (cxOf (L2.CX P w) P w K mg base N qual scope f cdv A outer s H E) eb (fun _ H Q => Q (.ref B) H) ∧ PE (cxOf (L2.CX P w) P w K mg base N qual scope f cdv A outer s H E) ea (tVar 0) ∧ PE (cxOf (L2.CX P w) P w K mg base N qual scope f cdv A outer s H E) ec (tVar 1) ∧
      (starEach [ea, ec] (cxOf (L2.CX P w) P w K mg base N qual scope f cdv A outer s H E).env = (false, eval ea (cxOf (L2.CX P w) P w K mg base N qual scope f cdv A outer s H E).env) :: starEach [ec] (cxOf (L2.CX P w) P w K mg base N qual scope f cdv A outer s H E).env) ∧
      (starEach [ec] (cxOf (L2.CX P w) P w K mg base N qual scope f cdv A outer s H E).env = (false, eval ec (cxOf (L2.CX P w) P w K mg base N qual scope f cdv A outer s H E).env) :: starEach [] (cxOf (L2.CX P w) P w K mg base N qual scope f cdv A outer s H E).env) ∧
      ((backTo pos (starEach [ec] (cxOf (L2.CX P w) P w K mg base N qual scope f cdv A outer s H E).env)).any (·.1) = false) ∧
      (swapsWith (.Call (.Attribute eb m apos) [ea, ec] [] pos) none spos.line (cxOf (L2.CX P w) P w K mg base N qual scope f cdv A outer s H E).env = pure false) ∧ ∃ pl : Sem Bool,
      eval (.Call (.Attribute eb m apos) [ea, ec] [] pos) (cxOf (L2.CX P w) P w K mg base N qual scope f cdv A outer s H E).env = (do
        let ov ← eval eb (cxOf (L2.CX P w) P w K mg base N qual scope f cdv A outer s H E).env
        standAt apos.atName
        let (g0, first) ← holding [ov] (getMethod ov m pl)
        callWith pos g0 first (backTo pos (starEach [ea, ec] (cxOf (L2.CX P w) P w K mg base N qual scope f cdv A outer s H E).env)) (backToKw pos (keywordEach [] (cxOf (L2.CX P w) P w K mg base N qual scope f cdv A outer s H E).env)))) : FnG P w K mg base (k + 1) f fd [p0, p1] (spX K [f1]) :=
  fnG_of F S (fun vs H Q E h => (spX_len h).trans rfl) fun cdv A outer s H vs Q E hr hg h => by
    obtain ⟨a, C, us, rfl, e, T, hno, ha, q⟩ := h
    match us, e with
    | [y], _ =>
      subst ebody
      obtain ⟨h1, h2, h3, h4, h5, h6, h7, pl, h8⟩ := hb cdv A outer s H E
      have he := pe_clsfn (sp := spX K [f1]) (W := fun cls d _ H' => E cls d H') h1 cr cv kg Fb (hr.mono hj) hg (takes_of rfl rfl rfl rfl) (pa_cons h2 (pa_cons h3 pa_nil h5) h4) h4 h6 h8
      refine ⟨_, pss_one (ps_expr he h7), ?_⟩
      exact ⟨rfl, .ref a, start_get rfl, y, start_get rfl, a, C, [y], rfl, rfl, T, hno, ha, q⟩
end
/-- an exception's class of the module: its name, its address, its fields -/
structure DefE (P : Program) (w : World) (K : PySem.W.Frag) (mg : Str → Option Value) (base : Heap) (x : Str) (C : Addr) (k : Nat) (ns : List Str) : Prop where
  ex : ∃ fI fd ps, OexC K C ∧ PySem.W.findIn K (.ref C) "__init__" = some (some (.ref fI)) ∧ PySem.W.typeIn K (.ref fI) = some (.type "function") ∧ (∀ f ∈ ns, PySem.W.findIn K (.ref C) f = some none) ∧ mg x = some (.ref C) ∧ FnG P w K mg base k fI fd ps (spX K ns) ∧ Binds K fd ps []
section
variable {X : Cx} {G : GC} {W : Wx} {e : Expr} {es : List Expr} {ta : TA} {p pos : Pos}
theorem pmk_oexG {x : Str} {C fI : Addr} {k : Nat} {fd : FuncData} {ps : List Str} {sp : Sp} (T : OexC X.K C) (iC : PySem.W.findIn X.K (.ref C) "__init__" = some (some (.ref fI))) (tI : PySem.W.typeIn X.K (.ref fI) = some (.type "function"))
    (F1 : FnG X.prog X.w X.K X.mg X.base k fI fd ps sp) (hr : Room (k + 1) X.A) (hg1 : X.A.guards = some []) (hb : Binds X.K fd ps []) (hg : Gl X x) (hm : X.mg x = some (.ref C)) (ha : PA X (e :: es) ta)
    (hdb : (x == ("__debug__" : Str)) = false := by decide) (he : starEach (e :: es) X.env = (false, eval e X.env) :: starEach es X.env := by rfl) (hpl : (backTo pos (starEach es X.env)).any (·.1) = false := by rfl) :
    PMk X (.Call (.Name x p) (e :: es) [] pos) (tMkO C sp [] ta) := by
  intro pins s σ H Q I h
  obtain ⟨nm, q, N, bs, bm, sn, sub, ab, col, dd, k0, k1, k2, k3, k5, hC, hbm⟩ := T.cls
  refine wpAny_Call_Name_kw (ld_glob I hg hm ?_ hdb)
  refine PySem.W.callWith_K (h₀ := X.base) I.ok.mod.kin T.kC (thn (ha.run pos pins s σ H _ I h) fun us s1 ⟨vs, H1, I1, r1, hz, q1⟩ => ⟨I1.kIn, ?_⟩) he hpl
  show wpAny _ _ (call (.ref C) us) _ _ _
  obtain ⟨hp, g, dr, tk, os⟩ := s1
  have hsz : hp.objs.size ≤ hp.objs.size + 1 := Nat.le_succ _
  have hn : H1 (hp.objs.size + 1) = none := I1.hok.fresh hsz
  have hq := q1 (hp.objs.size + 1) hn
  rw [List.append_nil] at hq
  have kk : ∀ b o, hp.get? b = some o → ((hp.push (PySem.W.kdv_tup us)).push (PySem.HandSPX.excO C hp.objs.size)).get? b = some o := fun b o e => Heap.get?_push_of_some _ (Heap.get?_push_of_some _ e)
  have hget : ((hp.push (PySem.W.kdv_tup us)).push (PySem.HandSPX.excO C hp.objs.size)).get? (hp.objs.size + 1) = some (PySem.HandSPX.excO C hp.objs.size) := by heap_get
  have I2 : Inv X pins σ (upd H1 (hp.objs.size + 1) (exo (hp.objs.size + 1) C none)) ⟨(hp.push (PySem.W.kdv_tup us)).push (PySem.HandSPX.excO C hp.objs.size), g, dr, tk, os⟩ :=
    I1.laid (t' := tk) (a := hp.objs.size + 1) (o := exo (hp.objs.size + 1) C none) (h' := (hp.push (PySem.W.kdv_tup us)).push (PySem.HandSPX.excO C hp.objs.size)) kk hsz (exo_ok hget)
  have r2 : Vals (V.ref (hp.objs.size + 1) :: vs) (Value.ref (hp.objs.size + 1) :: us) := .cons rfl r1
  have hl : (Value.ref (hp.objs.size + 1) :: us).length = ps.length := by
    have e := r2.length
    rw [F1.len _ _ _ _ hq] at e
    exact e.symm
  have hus : us.length ≤ sizeLine := by
    rw [← Paired.length r1, sizeLine_eq]
    omega
  refine wpAny_call (PySem.HandSPX.call_own F.excBase_ValueError (fun Y => PySem.HandSPX.refsVE_contains Y bm hbm) (I1.kIn _ _ hC) (PySem.W.looks_findIn I1.kIn iC) (fun self => PySem.W.bind_fn I1.kIn self tI) hus
    (codeAny_mono (F1.go _ X.stack _ _ ⟨Value.ref (hp.objs.size + 1) :: us, []⟩ (Value.ref (hp.objs.size + 1) :: us) _ _ (fun _ _ _ => False) (hr.make C us []) hg1 (I2.env0.make C us []) (by have z := hb _ (Value.ref (hp.objs.size + 1) :: us) I2.kIn (by rw [List.append_nil]; exact hl); rw [List.append_nil] at z; exact z) r2 hq) fun r s' hq' => ?_))
  cases r with
  | error er =>
    obtain ⟨_, _, _, _, _, _, _, _, _, _, _, _, z⟩ := hq'
    exact z.elim
  | ok fl =>
    cases fl with
    | ret u =>
      obtain ⟨v, H2, os2, bare2, un2, hok2, rv, ev, d, fs, ea, ed, hd1, q2⟩ := hq'
      subst ev
      obtain ⟨h2, g2, d2, t2, os'⟩ := s'
      exact ⟨rv, mk_end (raises_own T.exC T.tyC) I1 hsz kk un2 hok2 os2 bare2 ea ed hd1 q2⟩
    | next => exact False.elim hq'
    | brk => exact False.elim hq'
    | cont => exact False.elim hq'
end
end PL
/-! PL37: the rule for raise -/
namespace PL
open PySem L2 PyProof.Rows PySem.Spec
theorem lookup_mem : ∀ {l : List (Str × V)} {f : Str} {v : V}, (l.map (·.1)).Nodup → (f, v) ∈ l → l.lookup f = some v
  | [], _, _, _, h => by cases h
  | (g, u) :: l, f, v, nd, h => by
    rw [lookup_put]
    rw [List.map_cons, List.nodup_cons] at nd
    rcases List.mem_cons.mp h with e | h
    · cases e; rw [if_pos rfl]
    · have : f ≠ g := fun z => nd.1 (by rw [← z]; exact List.mem_map.mpr ⟨_, h, rfl⟩)
      rw [if_neg this]
      exact lookup_mem nd.2 h
theorem lookup_zip {ns : List Str} {us : List V} (nd : ns.Nodup) (hl : us.length = ns.length) {i : Nat} {f : Str} {v : V} (h1 : ns[i]? = some f) (h2 : us[i]? = some v) : ((ns.zip us).reverse).lookup f = some v := by
  refine lookup_mem ?_ ?_
  · rw [List.map_reverse, List.map_fst_zip (by omega)]
    exact (List.reverse_perm ns).nodup_iff.mpr nd
  · rw [List.mem_reverse]
    refine List.mem_of_getElem? (i := i) ?_
    rw [List.getElem?_zip_eq_some]
    exact ⟨h1, h2⟩
def raiseF (c n : Nat) (l : Ev → Rs (List D)) : Ev → Fl := fun ρ => (l ρ).fl fun ds ρ1 => if ds.length = n then .exc c ds ρ1 else .stuck
section
variable {X : Cx} {G : GC} {W : Wx} {e : Expr} {es : List Expr} {p pos pos2 : Pos}
theorem s_raise {x : Str} {k c : Nat} {ns : List Str} {l : Ev → Rs (List D)} (E : DefE X.prog X.w X.K X.mg X.base x (G.C.at_ c) k ns) (hK : X.K = G.K) (hfn : G.C.fn c = ns) (nd : ns.Nodup) (hn : ns.length ≤ 1000) (hc : X.calm = true) (hr : Room (k + 1) X.A) (hg : X.A.guards = some []) (tk : Takes X W)
    (ha : PA X (e :: es) (pA G W l)) (hgl : Gl X x := by rfl) (hdb : (x == ("__debug__" : Str)) = false := by decide) (he : starEach (e :: es) X.env = (false, eval e X.env) :: starEach es X.env := by rfl) (hpl : (backTo pos (starEach es X.env)).any (·.1) = false := by rfl) :
    PS X (.Raise (some (.Call (.Name x p) (e :: es) [] pos)) none pos2) (pS G W (raiseF c ns.length l)) := by
  obtain ⟨fI, fd, ps, T, iC, tI, hno, hm, F, hb⟩ := E.ex
  refine PSm (ps_raise hc tk (pmk_oexG T iC tI F hr hg hb hgl hm ha hdb he hpl)) fun Ed σ H ⟨S, ρ, R, q⟩ => ?_
  refine ⟨S, ρ, R, Po.mono (Po.fl (S := S) (σ := σ) q) fun ds ρ1 S1 H1 s1 R1 q vs r => ?_⟩
  by_cases hd : ds.length = ns.length
  · rw [if_pos hd] at q
    have hl : vs.length = ns.length := by rw [← r.length]; exact hd
    refine ⟨by omega, fun a na => ?_⟩
    refine ⟨a, G.C.at_ c, vs, by rw [List.append_nil], hl, T, hno, upd_same, fun d nd1 ne => ?_⟩
    have nd2 : H1 d = none := by rw [upd_ne ne] at nd1; exact nd1
    refine ⟨rfl, d, (ns.zip vs).reverse, upd_same, by rw [upd_ne ne, upd_same], nd2, ?_⟩
    have e2 : upd (del (upd (upd (upd H1 a (exo a (G.C.at_ c) none)) d (exd d (ns.zip vs).reverse)) a (exo a (G.C.at_ c) (some d))) a) d (.xd (ns.zip vs).reverse) = upd H1 d (.xd (ns.zip vs).reverse) := by
      funext b
      by_cases hb : b = d
      · subst hb; rw [upd_same, upd_same]
      · rw [upd_ne hb, upd_ne hb]
        by_cases ha : b = a
        · subst ha; rw [del_same, na]
        · rw [del_ne ha, upd_ne ha, upd_ne hb, upd_ne ha]
    rw [e2]
    have sd : S1 d = none := R1.sub.free nd2
    have h0d : G.H0 d = none := by
      cases e : G.H0 d with
      | none => rfl
      | some o =>
        obtain ⟨o', z⟩ := R1.th d o e
        rw [nd2] at z; cases z
    refine q σ S1 _ (some d) (Same.refl _) (R1.grow (Grow.loose R1.sub _ nd2)) ⟨by rw [hfn]; exact hd.symm, .inr ⟨d, _, rfl, upd_same, sd, h0d, fun i f y h1 h2 => ?_⟩⟩
    obtain ⟨v, e3, rv⟩ := Rps.get _ _ _ _ r h2
    rw [hfn] at h1
    exact ⟨v, lookup_zip nd hl h1 e3, rv⟩
  · rw [if_neg hd] at q; exact q.elim
/-- X(), X an own exception class without own __init__ -/
theorem pmk_own0 {C : Addr} {bmB : List Value} {B newId initId : String} {x : Str} (F : ExcBaseFacts B newId initId bmB) (q : PySem.W.excIn X.K C bmB newId = true) (gC : X.mg x = some (.ref C))
    (kC : PySem.W.keepIn X.K (.ref C) = true) (r : Raises X (.ref C)) (hg : Gl X x) (hdb : (x == ("__debug__" : Str)) = false := by decide) :
    PMk X (.Call (.Name x p) [] [] pos) (fun σ H Q => Q (.ref C) none H) := by
  intro pins s σ H Q I h
  refine wpAny_Call_Name_kw (ld_glob I hg gC ?_ hdb)
  refine PySem.W.callWith_K0 I.kIn kC ?_
  show wpAny _ _ (call (.ref C) []) _ _ _
  obtain ⟨bm, N, nm, qn, bs, hdct, sn, sub, ab, col, dd, k0, k1, k2, k3, k5, mN, hC, hN, hni, T⟩ := exc_obj I.kIn q
  refine wpAny_call_exc_subT F T hC hN hni (fun h' e hm => ?_) (Nat.zero_le _)
  exact mk_of I hm r h (I.hok.gone hm.new)
def raise0F (c : Nat) : Ev → Fl := fun ρ => .exc c [] ρ
theorem s_raise0 {x : Str} {c : Nat} {bmB : List Value} {B newId initId : String} (F : ExcBaseFacts B newId initId bmB) (q : PySem.W.excIn X.K (G.C.at_ c) bmB newId = true) (gC : X.mg x = some (.ref (G.C.at_ c)))
    (kC : PySem.W.keepIn X.K (.ref (G.C.at_ c)) = true) (r : Raises X (.ref (G.C.at_ c))) (hfn : G.C.fn c = []) (hc : X.calm = true) (tk : Takes X W) (hg : Gl X x := by rfl) (hdb : (x == ("__debug__" : Str)) = false := by decide) :
    PS X (.Raise (some (.Call (.Name x p) [] [] pos)) none pos2) (pS G W (raise0F c)) :=
  PSm (ps_raise hc tk (pmk_own0 F q gC kC r hg hdb)) fun Ed σ H ⟨S, ρ, R, q⟩ => q σ S H none (Same.refl _) R ⟨by rw [hfn]; rfl, .inl ⟨rfl, rfl⟩⟩
end
end PL
/-! PLQ: == and != of objects by their own __eq__, with both answers -/
namespace PL
open PySem L2
open PyProof.Rows (envOfC)
section
open PySem.W
variable {prog : Program} {w : World} {A : Around} {E : Value → Shared → Prop} {s : Shared} {K : Frag} {x C L f : Addr} {h₀ : Heap} {m : Str → Option Value} {ox : Obj} {od : Option Obj} {b tb : Value}
theorem ifBound_ne {M : Model} {args : List Value} {Q : Option Value → Shared → Prop} (X : K.In s.heap) (I : InstAt s.heap x ox C od) (hs : findIn K (.ref C) "__ne__" = some (some (.builtin "object.__ne__")))
    (h : wpAny M A (call (.builtin "object.__ne__") (.ref x :: args)) (fun v => Q (some v)) E s) : wpAny M A (callSpecialIfBound? (.ref x) "__ne__" args) Q E s := by
  simp only [callSpecialIfBound?, bindSpecialIfBound?]
  refine wpAny_holding (wpAny_bind (wpAny_bind (wpAny_bind (I.type.here ((looks_findIn X hs).here ?_)))))
  simp only [PySem.F.cmp_object.ne.bind]
  refine wpAny_bind (wpAny_askSetting (wpAny_ite ?_))
  have fin : wpAny M A (call (.builtin "object.__ne__") ([.ref x] ++ args) >>= fun v => pure (some v)) Q E s := wpAny_bind (wpAny_mono h (fun v s' h' => wpAny_pure h') fun _ _ h' => h')
  split
  · exact wpAny_bind (wpAny_pure (wpAny_pure fin))
  · exact wpAny_tryCatch (wpAny_bind (wpAny_pure (wpAny_pure fin)))
theorem objNe_K {Q : Fin → Shared → Prop} (X : K.In s.heap) (I : InstAt s.heap x ox C od) (hs : findIn K (.ref C) "__eq__" = some (some (.ref f))) (hf : isFn K (.ref f) = true) (hu : A.units < cLine)
    (hcall : wpAny (model prog w) A (call (.ref f) [.ref x, b]) (fun v s' => ∃ r, v = .bool r ∧ Q (.done (.ret (.bool (!r)))) s') E s) :
    wpAny (model prog w) A (Builtin.«object.__ne__» ⟨[.ref x, b], []⟩) Q E s := by
  unfold Builtin.«object.__ne__»
  repeat (first
    | with_reducible refine wpAny_cRoomFor hu ?_
    | (refine wpAny_bind (m := callSpecialIfBound? (.ref x) (Str.ofString "__eq__") [b])
        (ifBound_K X I hs hf (wpAny_mono hcall (fun r s' hr => by
          obtain ⟨r', rfl, hq⟩ := hr
          repeat (first | exact hq | exact wpAny_pure hq | exact wpAny_truthy_bool hq | (refine wpAny_bind (m := truthy (.bool _)) (wpAny_truthy_bool ?_)) | wp_step)) fun _ _ e => e)))
    | wp_step)
theorem ne_K {Q : Value → Shared → Prop} (hu : A.units + 1 < cLine) (F : PyProof.Rows.Fr h₀ L s.heap m) (X₀ : K.In h₀) (I : InstAt s.heap x ox C od) (hb : Looks (model prog w) s.heap (typeOf b) tb) (hn : notFirst K C tb = true) (hp : plainOver K C = true)
    (h1 : findIn K (.ref C) "__ne__" = some (some (.builtin "object.__ne__"))) (hs : findIn K (.ref C) "__eq__" = some (some (.ref f))) (hf : isFn K (.ref f) = true)
    (h : wpAny (model prog w) A.in1 (call (.ref f) [.ref x, b]) (fun v s' => ∃ r, v = .bool r ∧ Q (.bool (!r)) s') E s) : wpAny (model prog w) A (richCompare .NotEq (.ref x) b) Q E s := by
  have X := X₀.keeps F.keep
  obtain ⟨cd, hc, ho⟩ := any_some hp
  have ne : cd.mro.isEmpty = false := by cases q : cd.mro with | nil => rw [q] at ho; cases ho | cons _ _ => rfl
  have sub : Looks (model prog w) s.heap (isInstance (.ref x) (.type "object")) true := I.type.andThen (looks_mroIn X (by unfold mroIn; rw [hc, Option.bind_some, if_neg (by rw [ne]; decide), only_has ho]))
  have one : wpAny (model prog w) A (tryCompare (.ref x) "__ne__" b) (fun r s' => ∃ v, r = some v ∧ Q v s') E s := by
    unfold tryCompare
    refine wpAny_bind (ifBound_ne X I h1 (wpAny_call (codeAny_call_builtin PySem.F.cmp_object.ne.plain PySem.F.cmpEntry_ne (@check_slot (model prog w) _ _ s "object.__ne__" "object" "__ne__" (.ref x) [b] [] _ PySem.F.cmpKind_ne PySem.F.cmpSplit_ne sub (PySem.F.cmpArgs_ne _ _) ?_))))
    refine objNe_K X I hs hf (by simpa using hu) (wpAny_mono h (fun v s' hv => ?_) fun _ _ e => e)
    obtain ⟨r, rfl, q⟩ := hv
    exact ⟨r, rfl, wpAny_pure ⟨_, rfl, q⟩⟩
  unfold richCompare
  simp only [oneThing_ref]
  refine wpAny_holding (wpAny_bind (wpAny_cRoomFor (Nat.lt_of_succ_lt hu) ?_))
  rw [cmpInfo_NotEq]
  dsimp only
  refine wpAny_bind (I.type.here (wpAny_bind (hb.here ?_)))
  split
  · rename_i q
    have e : subIn K tb (.ref C) = some false := by
      rcases Bool.or_eq_true_iff.mp hn with e | e
      · rw [beq_iff_eq.mp e] at q; simp at q
      · exact beq_iff_eq.mp e
    refine wpAny_bind ((looks_subIn X e).here ?_)
    simp only [Bool.false_eq_true, if_false]
    refine wpAny_bind (wpAny_mono one (fun r s' z => ?_) fun _ _ e => e)
    obtain ⟨v, rfl, hq⟩ := z
    exact wpAny_pure hq
  · refine wpAny_bind (wpAny_pure ?_)
    simp only [Bool.false_eq_true, if_false]
    refine wpAny_bind (wpAny_mono one (fun r s' z => ?_) fun _ _ e => e)
    obtain ⟨v, rfl, hq⟩ := z
    exact wpAny_pure hq
end
/-- what is told of the classes with an own __eq__ -/
structure EqT (P : Program) (w : World) (K : PySem.W.Frag) (mg : Str → Option Value) (base : Heap) (C : CT) (k n : Nat) (eqs : Nat → Option (List D → Fr)) : Prop where
  ok : ∀ c g, eqs c = some g → (∃ ps, DefT P w K mg base "__eq__" (C.at_ c) k ps (spP K C 2 g)) ∧ PySem.W.findIn K (.ref (C.at_ c)) "__ne__" = some (some (.builtin "object.__ne__")) ∧ ∀ c' < n, PySem.W.notFirst K (C.at_ c) (.ref (C.at_ c')) = true
def eqO (neg : Bool) (n : Nat) (eqs : Nat → Option (List D → Fr)) : D → D → Option D := fun a b => match a with
  | .ins c fs => (match b with
    | .ins c' gs => if c' < n then (match eqs c with
      | some g => (match g [.ins c fs, .ins c' gs] with
        | .ok (.bl r) => some (.bl (if neg then !r else r))
        | _ => none)
      | none => none) else none
    | _ => none)
  | a => eqD neg a b
section
variable {X : Cx} {G : GC} {k n : Nat} {eqs : Nat → Option (List D → Fr)}
/-- both instances; the def's promise -/
def rOwnQ (K : PySem.W.Frag) (C : CT) (n : Nat) (eqs : Nat → Option (List D → Fr)) (neg : Bool) : R2 := fun x y H Q => ∃ a b c c' dx dy vs ws g, x = .ref a ∧ y = .ref b ∧ H a = some (.ins (C.at_ c) dx vs) ∧ H b = some (.ins (C.at_ c') dy ws) ∧ c' < n ∧ eqs c = some g ∧
  spP K C 2 g [x, y] H (fun v H' => ∃ r, v = .bl r ∧ Q (.bl (if neg then !r else r)) H') (fun _ _ _ => False)
theorem callQ {A : Around} {pins : List (Addr × Obj)} {s : Shared} {σ : L2.St} {H : Hp} {f : Addr} {fd : FuncData} {ps : List Str} {sp : Sp} {x y : V} {v u : Value} {Q : VK} (F : FnG X.prog X.w X.K X.mg X.base k f fd ps sp) (hr : Room k A) (hg : A.guards = some []) (hfr : A.frames = X.A.frames) (hb : Binds X.K fd ps [])
    (I : Inv X pins σ H s) (rx : RelV x v) (ry : RelV y u) (h : sp [x, y] H Q (fun _ _ _ => False)) : wpAny (model X.prog X.w) A (call (.ref f) [v, u]) (EP X pins σ Q) X.xe s := by
  have r2 : Vals [x, y] [v, u] := .cons rx (.cons ry .nil)
  have hl : ([v, u] : List Value).length = ps.length := (r2.length).symm.trans (F.len _ _ _ _ h)
  have e0 : Env0 X.prog X.w X.K X.mg X.base A X.stack s H := by
    have e := I.env0
    exact ⟨by rw [hfr]; exact e.frames, e.mod, e.bs, e.bsz, e.funs, e.frf, e.hok, e.bare⟩
  refine wpAny_call (codeAny_mono (F.go A X.stack s H ⟨[v, u], []⟩ _ _ Q _ hr hg e0 (by have z := hb s [v, u] I.kIn (by simpa using hl); simpa using z) r2 h) ?_)
  rintro (e | fl) s' hq
  · exact passAt (W := fun _ _ _ _ => False) L2.takes0 σ pins H s e s' I hq
  · cases fl with
    | ret u => exact I.after hq
    | _ => exact False.elim hq
theorem op_eqQ {C : CT} (T : EqT X.prog X.w X.K X.mg X.base C k n eqs) (hr : Room (k + 1) X.A) (hg : X.A.guards = some []) : OpR X (compareOp .Eq) (rOwnQ X.K C n eqs false) := by
  intro pins s σ H x y v u Q I rx ry h
  obtain ⟨a, b, c, c', dx, dy, vs, ws, g, rfl, rfl, ha, hb, lt, eg, q⟩ := h
  obtain ⟨⟨ps, D1⟩, hne, hnf⟩ := T.ok c g eg
  obtain ⟨f, fd, cl, mt, hbd, F⟩ := D1.ex
  cases (show v = Value.ref a from rx)
  cases (show u = Value.ref b from ry)
  obtain ⟨mA, J, _⟩ := ins_get I.hok ha
  obtain ⟨mB, J', _⟩ := ins_get I.hok hb
  obtain ⟨od, J, _⟩ := J.look
  obtain ⟨od', J', _⟩ := J'.look
  obtain ⟨m, hF⟩ := I.fr
  show wpAny (model X.prog X.w) X.A (richCompare .Eq (.ref a) (.ref b)) (EP X pins σ Q) X.xe s
  refine PySem.W.cmp_K (op := .Eq) (tb := .ref (C.at_ c')) hr.units0 hF I.ok.mod.kin J J'.type (hnf c' lt) mt.at_ mt.fn ?_
  refine wpAny_mono (callQ (A := X.A) (x := .ref a) (y := .ref b) F (hr.mono (Nat.le_succ _)) hg rfl hbd I rfl rfl q) (fun z s' hz => ?_) fun _ _ e => e
  obtain ⟨v', H', I', rv, r, rfl, q2⟩ := hz
  cases rv
  exact ⟨.bl r, H', I', rfl, q2⟩
theorem op_neQ {C : CT} (T : EqT X.prog X.w X.K X.mg X.base C k n eqs) (hr : Room (k + 1) X.A) (hg : X.A.guards = some []) : OpR X (compareOp .NotEq) (rOwnQ X.K C n eqs true) := by
  intro pins s σ H x y v u Q I rx ry h
  obtain ⟨a, b, c, c', dx, dy, vs, ws, g, rfl, rfl, ha, hb, lt, eg, q⟩ := h
  obtain ⟨⟨ps, D1⟩, hne, hnf⟩ := T.ok c g eg
  obtain ⟨f, fd, cl, mt, hbd, F⟩ := D1.ex
  cases (show v = Value.ref a from rx)
  cases (show u = Value.ref b from ry)
  obtain ⟨mA, J, _⟩ := ins_get I.hok ha
  obtain ⟨mB, J', _⟩ := ins_get I.hok hb
  obtain ⟨od, J, _⟩ := J.look
  obtain ⟨od', J', _⟩ := J'.look
  obtain ⟨m, hF⟩ := I.fr
  show wpAny (model X.prog X.w) X.A (richCompare .NotEq (.ref a) (.ref b)) (EP X pins σ Q) X.xe s
  refine ne_K (tb := .ref (C.at_ c')) (by have := hr.in1.units0; exact this) hF I.ok.mod.kin J J'.type (hnf c' lt) cl.po hne mt.at_ mt.fn ?_
  refine wpAny_mono (callQ (A := X.A.in1) (x := .ref a) (y := .ref b) F hr.in1 hg rfl hbd I rfl rfl q) (fun z s' hz => ?_) fun _ _ e => e
  obtain ⟨v', H', I', rv, r, rfl, q2⟩ := hz
  cases rv
  exact ⟨r, rfl, .bl (!r), H', I', rfl, q2⟩
def rEqO (K : PySem.W.Frag) (C : CT) (n : Nat) (eqs : Nat → Option (List D → Fr)) : R2 := fun x y H Q => rEqD K x y H Q ∨ rOwnQ K C n eqs false x y H Q
def rNeO (K : PySem.W.Frag) (C : CT) (n : Nat) (eqs : Nat → Option (List D → Fr)) : R2 := fun x y H Q => rNeD K x y H Q ∨ rOwnQ K C n eqs true x y H Q
theorem op_eqO {C : CT} (T : EqT X.prog X.w X.K X.mg X.base C k n eqs) (hr : Room (k + 1) X.A) (hg : X.A.guards = some []) : OpR X (compareOp .Eq) (rEqO X.K C n eqs) := by
  intro pins s σ H x y v u Q I rx ry h
  rcases h with h | h
  · exact op_eqD hr.units pins s σ H x y v u Q I rx ry h
  · exact op_eqQ T hr hg pins s σ H x y v u Q I rx ry h
theorem op_neO {C : CT} (T : EqT X.prog X.w X.K X.mg X.base C k n eqs) (hr : Room (k + 1) X.A) (hg : X.A.guards = some []) : OpR X (compareOp .NotEq) (rNeO X.K C n eqs) := by
  intro pins s σ H x y v u Q I rx ry h
  rcases h with h | h
  · exact op_neD hr.units pins s σ H x y v u Q I rx ry h
  · exact op_neQ T hr hg pins s σ H x y v u Q I rx ry h
theorem own_spec (neg : Bool) {S H : Hp} {x y : V} {c c' : Nat} {fs gs : List D} {d' : D} {Q : VK} (s : Same S H) (b1 : BRp G S H (.ins c fs) x) (b2 : BRp G S H (.ins c' gs) y) (e : eqO neg n eqs (.ins c fs) (.ins c' gs) = some d') (k : ∀ v S' H', Grow S H S' H' → Rp G.K G.C S' d' v → Q v H') : rOwnQ G.K G.C n eqs neg x y H Q := by
  unfold eqO at e
  dsimp only at e
  split at e
  · rename_i lt
    split at e
    · rename_i g eg
      split at e
      · rename_i r er
        cases e
        have r1 := b1.flat (fun _ z => by cases z)
        have r2 := b2.flat (fun _ z => by cases z)
        obtain ⟨a, dx, vs, rfl, ha, l1, q1⟩ := id r1
        obtain ⟨b, dy, ws, rfl, hb, l2, q2⟩ := id r2
        refine ⟨a, b, c, c', dx, dy, _, _, g, rfl, rfl, s _ _ ha, s _ _ hb, lt, eg, S, _, s, .cons r1 (.cons r2 .nil), rfl, ?_⟩
        rw [er]
        intro v S' H' gr rv
        cases rv
        exact ⟨r, rfl, k _ S' H' gr rfl⟩
      · cases e
    · cases e
  · cases e
theorem sp_eqO : BSpec G (rEqO G.K G.C n eqs) (eqO false n eqs) := by
  intro S H x y d1 d2 d' Q s b1 b2 e k
  cases d1 with
  | ins c fs =>
    cases d2 with
    | ins c' gs => exact .inr (own_spec false s b1 b2 e k)
    | _ => cases e
  | _ => exact .inl (sp_eqD S H x y _ d2 d' Q s b1 b2 e k)
theorem sp_neO : BSpec G (rNeO G.K G.C n eqs) (eqO true n eqs) := by
  intro S H x y d1 d2 d' Q s b1 b2 e k
  cases d1 with
  | ins c fs =>
    cases d2 with
    | ins c' gs => exact .inr (own_spec true s b1 b2 e k)
    | _ => cases e
  | _ => exact .inl (sp_neD S H x y _ d2 d' Q s b1 b2 e k)
end
end PL
/-! PLX: a def whose code object is known, {}, all that is told of the exceptions' classes -/
namespace PL
open PySem L2 LamX
open PyProof.Rows (envOfC)
theorem FunD.codeEx {K : PySem.W.Frag} {x qual : Str} {params : Arguments} {body : List Stmt} {scope : Scope} {dvs : List V} {kws : List (Str × V)} {f : Addr} {fd : FuncData} (F : FunD K x qual params body scope dvs kws f fd) : ∃ c, fd.code = .ref c ∧ ∃ oc od osl, K.lookup f = some ⟨oc, od, .func fd, osl⟩ := by
  obtain ⟨oc, od, dV, kV, doc, pm, an, cdv, ct, osl, rfl, lk, hcd, _, _⟩ := F.ex
  cases cdv with
  | ref c => exact ⟨c, rfl, oc, od, osl, lk⟩
  | _ => cases hcd
section
variable {P : Program} {w : World} {K : PySem.W.Frag} {mg : Str → Option Value} {base : Heap} {C : CT} {T : List (Addr × Str)}
theorem fnG_ofC {x qual : Str} {params : Arguments} {body : List Stmt} {scope : Scope} {dvs : List V} {kws : List (Str × V)} {f c : Addr} {fd : FuncData} {N ps : List Str} {k : Nat} {sp : Sp} (F : FunD K x qual params body scope dvs kws f fd) (S : FnScope N ps scope) (hc : fd.code = .ref c)
    (len : ∀ vs H Q E, sp vs H Q E → vs.length = ps.length)
    (hb : ∀ (A : Around) (outer : List Env) (s : Shared) (H : Hp) (vs : List V) (Q : VK) (E : XK), Room k (A.deeper (envOfC qual scope s.heap.objs.size f (.ref c))) → A.guards = some [] → sp vs H Q E →
      ∃ t, PSs (cxOf (L2.CX P w) P w K mg base N qual scope f (.ref c) A outer s H E) body t ∧ t { nx := fun _ H' => Q .non H', rt := Q } (L2.start N vs) H) : FnG P w K mg base (k + 1) f fd ps sp := by
  obtain ⟨oc, od, dV, kV, doc, pm, an, cdv, ct, osl, rfl, lk, hcd, _, _⟩ := F.ex
  have ec : cdv = .ref c := hc
  subst ec
  exact ⟨len, fun A outer s H args us vs Q E hr hg e0 hbd r h => LamX.run_ofS lk hcd S hr e0 hbd r (len _ _ _ _ h) fun hr' => hb A outer s H vs Q E hr' hg h⟩
/-- a def that makes lambdas, its code object known -/
theorem fnTc {x qual : Str} {params : Arguments} {body : List Stmt} {scope : Scope} {dvs : List V} {kws : List (Str × V)} {f c : Addr} {fd : FuncData} {N ps : List Str} {k : Nat} {b : Ev → Fl} (F : FunD K x qual params body scope dvs kws f fd) (S : FnScope N ps scope) (hc : fd.code = .ref c)
    (hb : ∀ (A : Around) (outer : List Env) (s : Shared) (H : Hp) (E : XK) (G : GC) (W : Wx), G.K = K → G.C = C → TG G T → Room k (A.deeper (envOfC qual scope s.heap.objs.size f (.ref c))) → A.guards = some [] →
      Takes (cxOf (L2.CX P w) P w K mg base N qual scope f (.ref c) A outer s H E) W → PSs (cxOf (L2.CX P w) P w K mg base N qual scope f (.ref c) A outer s H E) body (pS G W b)) (hl : ps.length ≤ N.length := by decide) :
    FnG P w K mg base (k + 1) f fd ps (spT K C T ps.length (runF N.length b)) := by
  refine fnG_ofC F S hc (fun vs H Q E h => ?_) fun A outer s H vs Q E hr hg h => ?_
  · obtain ⟨S, ds, _, _, _, r, e, _⟩ := h
    rw [← e, r.length]
  · obtain ⟨S0, ds, sm, nt, tb, r, e, h⟩ := h
    refine ⟨_, hb A outer s H E (GT K C T S0 H) (fun cls d _ H' => E cls d H') rfl rfl ⟨rfl, strip_noT H, nt, fun _ z => z.elim⟩ hr hg (takes_of rfl rfl rfl rfl), S0, env0 N.length ds, rel_startT sm nt tb r (by omega), ?_⟩
    unfold runF at h
    cases eb : b (env0 N.length ds) with
    | nx ρ => rw [eb] at h; exact fun σ' S' H' _ R => h _ S' H' (R.grownT nt) rfl
    | rt d ρ => rw [eb] at h; exact fun σ' v S' H' _ R r => h v S' H' (R.grownT nt) r
    | exc c fs ρ => rw [eb] at h; exact fun σ' S' H' d _ R x => h S' H' d (R.grownT nt) x
    | bk ρ => rw [eb] at h; exact h.elim
    | ct ρ => rw [eb] at h; exact h.elim
    | stuck => rw [eb] at h; exact h.elim
theorem fnTMc {x qual : Str} {params : Arguments} {body : List Stmt} {scope : Scope} {dvs : List V} {kws : List (Str × V)} {f c : Addr} {fd : FuncData} {N ps : List Str} {k : Nat} {b : Ev → Fl} (F : FunD K x qual params body scope dvs kws f fd) (S : FnScope N ps scope) (hc : fd.code = .ref c)
    (hb : ∀ (A : Around) (outer : List Env) (s : Shared) (H : Hp) (E : XK) (G : GC) (W : Wx), G.K = K → G.C = C → TG G T → Room k (A.deeper (envOfC qual scope s.heap.objs.size f (.ref c))) → A.guards = some [] →
      Takes (cxOf (L2.CX P w) P w K mg base N qual scope f (.ref c) A outer s H E) W → PSs (cxOf (L2.CX P w) P w K mg base N qual scope f (.ref c) A outer s H E) body (pS G W b)) (hl : ps.length ≤ N.length := by decide) :
    FnG P w K mg base (k + 1) f fd ps (spTM K C T ps.length (runM N.length b)) := by
  refine fnG_ofC F S hc (fun vs H Q E h => ?_) fun A outer s H vs Q E hr hg h => ?_
  · obtain ⟨S, p, xs, ws, ds, us, e1, _, _, _, _, _, _, r, e, _⟩ := h
    rw [← e, e1, List.length_cons, r.length]
  · obtain ⟨S0, p, xs, ws, ds, us, rfl, sm, nt, tb, np, hp, rx, r, e, h⟩ := h
    refine ⟨_, hb A outer s H E (GTM K C T S0 H p) (fun cls d _ H' => E cls d H') rfl rfl ⟨rfl, strip_noT H, nt, fun _ z => congrArg some (show _ = p from z).symm⟩ hr hg (takes_of rfl rfl rfl rfl), S0, .own xs :: env0 (N.length - 1) ds, rel_startTM sm nt tb np hp rx r (by omega), ?_⟩
    unfold runM at h
    cases eb : b (.own xs :: env0 (N.length - 1) ds) with
    | nx ρ =>
      rw [eb] at h
      dsimp only [outM] at h
      intro σ' S' H' _ R
      cases e1 : ρ[0]? with
      | none => rw [e1] at h; exact h.elim
      | some sl =>
        rw [e1] at h
        cases sl with
        | own xs' =>
          obtain ⟨ws', g, n, hh, r'⟩ := R.grownTM nt e1
          exact h _ S' H' ws' g n hh r' rfl
        | _ => exact h.elim
    | rt d ρ =>
      rw [eb] at h
      dsimp only [outM] at h
      intro σ' v S' H' _ R rd
      cases e1 : ρ[0]? with
      | none => rw [e1] at h; exact h.elim
      | some sl =>
        rw [e1] at h
        cases sl with
        | own xs' =>
          obtain ⟨ws', g, n, hh, r'⟩ := R.grownTM nt e1
          exact h _ S' H' ws' g n hh r' rd
        | _ => exact h.elim
    | exc c fs ρ =>
      rw [eb] at h
      dsimp only [outX] at h
      intro σ' S' H' d _ R x
      cases e1 : ρ[0]? with
      | none => rw [e1] at h; exact h.elim
      | some sl =>
        rw [e1] at h
        cases sl with
        | own xs' =>
          obtain ⟨ws', g, n, hh, r'⟩ := R.grownTM nt e1
          exact h S' H' d ws' g n hh r' x
        | _ => exact h.elim
    | bk ρ => rw [eb] at h; exact h.elim
    | ct ρ => rw [eb] at h; exact h.elim
    | stuck => rw [eb] at h; exact h.elim
end
section
variable {X : Cx} {G : GC} {pos : Pos}
theorem q_dct0 : PE X (.Dict [] [] pos) (pQ G (ct .dct)) := PEm pe_dnewK fun σ H Q ⟨S, ρ, R, q⟩ p hp => by
  have g := Grow.new R.sub (.dK []) hp
  exact q _ _ _ g ⟨p, [], rfl, upd_same⟩
end
/-- a class whose instances may be raised -/
def RaisesK (K : PySem.W.Frag) (C : Addr) : Prop := PySem.W.subIn K (.ref C) (.type "BaseException") = some true ∧ PySem.W.typeIn K (.ref C) = some (.type "type")
/-- all that is told of the exceptions' classes -/
structure KindsE (K : PySem.W.Frag) (C : CT) (n m : Nat) (sub : Nat → Nat → Bool) : Prop where
  x : KindsX K C n m sub
  exm : ∀ c, n ≤ c → c < m → ∀ t, n ≤ t → t < m → PySem.W.exmOne K (.ref (C.at_ c)) (.ref (C.at_ t)) = some (sub c t)
end PL
/-! PLS: str of a number and of an object with its own __str__; join -/
namespace PL
open PySem L2
def oStr : D → Option D
  | .int i => if i.natAbs.log2 < 1920 then some (.str (Str.ofString (toString i))) else none
  | _ => none
theorem sp_str {G : GC} : USpec G (fun v H Q => ∃ i, [v] = [V.int i] ∧ i.natAbs.log2 < 1920 ∧ Q (.str (toString i)) H) oStr := by
  intro S H x d d' Q s b e k
  cases d with
  | int i =>
    by_cases h : i.natAbs.log2 < 1920
    · have e2 : (if i.natAbs.log2 < 1920 then some (D.str (Str.ofString (toString i))) else none) = some d' := e
      rw [if_pos h] at e2
      cases e2
      have b1 := b.flat (fun _ z => by cases z)
      exact ⟨i, by rw [show x = V.int i from b1], h, k _ S H (Grow.refl s) rfl⟩
    · have e2 : (if i.natAbs.log2 < 1920 then some (D.str (Str.ofString (toString i))) else none) = some d' := e
      rw [if_neg h] at e2
      cases e2
  | _ => cases e
def strsOf : List D → Option (List Str)
  | [] => some []
  | .str z :: ds => (strsOf ds).map (z :: ·)
  | _ :: _ => none
def oJoin : D → D → Option D := fun a b => match a with
  | .str z => (seqOf b).bind fun xs => (strsOf xs).bind fun ys => if (ys.map (·.length)).sum + ys.length * z.length ≤ 16777216 then some (.str (Str.join z ys)) else none
  | _ => none
theorem strs_rps {K : PySem.W.Frag} {C : CT} {S : Hp} : ∀ {xs : List D} {ys : List Str} {vs : List V}, strsOf xs = some ys → Rps K C S xs vs → vs = ys.map V.str
  | [], ys, vs, e, r => by
    cases e
    exact r
  | .str z :: ds, ys, vs, e, r => by
    simp only [strsOf, Option.map_eq_some_iff] at e
    obtain ⟨zs, e, rfl⟩ := e
    obtain ⟨v, vs', rfl, r1, r2⟩ := r
    rw [List.map_cons, ← strs_rps e r2, show v = V.str z from r1]
def rJoin (K : PySem.W.Frag) : V → List V → Hp → VK → Prop := fun x xs H Q => ∃ a p, ∃ ys : List Str, x = .str a ∧ xs = [.ref p] ∧ (SqL K H p (ys.map V.str) ∨ SqT K H p (ys.map V.str)) ∧
    (ys.map (·.length)).sum + ys.length * a.length ≤ 16777216 ∧ Q (.str (PySem.Txt.join a ys)) H
theorem sp_join {G : GC} : BSpec G (fun x y H Q => rJoin G.K x [y] H Q) oJoin := by
  intro S H x y d1 d2 d' Q s b1 b2 e k
  cases d1 with
  | str z =>
    have e : (seqOf d2).bind (fun xs => (strsOf xs).bind fun ys => if (ys.map (·.length)).sum + ys.length * z.length ≤ 16777216 then some (D.str (Str.join z ys)) else none) = some d' := e
    simp only [Option.bind_eq_some_iff] at e
    obtain ⟨xs, ex, ys, ey, e⟩ := e
    split at e
    · rename_i hz
      cases e
      obtain ⟨a, vs, rfl, q, r⟩ := b2.seq s ex
      rw [strs_rps ey r] at q
      refine ⟨z, a, ys, b1.str, rfl, q, hz, ?_⟩
      rw [TL.join_eq]
      exact k _ S H (Grow.refl s) rfl
    · cases e
  | _ => cases e
section
variable {X : Cx} {G : GC} {W : Wx} {o e : Expr} {k l : Ev → Rs D} {f g : Ev → Option D}
theorem str_left {z : Str} {g : Ev → Rs D} {σ : St} {H : Hp} {Q : VK} (h : pE G W (e2 oJoin (up (ct (.str z))) g) σ H Q) : pE G W (up (ct (.str z))) σ H fun x H1 => (∃ a, x = .str a) ∧ pE G W g σ H1 fun y H2 => rJoin G.K x [y] H2 Q := by
  obtain ⟨S, ρ, R, q⟩ := h
  refine ⟨S, ρ, R, ?_⟩
  have q := Po.bind q
  have e : up (ct (.str z)) ρ = .ok (.str z) ρ := rfl
  rw [e] at q ⊢
  intro S1 H1 s1 R1 v rp1
  refine ⟨⟨z, rp1⟩, ?_⟩
  have q := Po.bind (q S1 H1 s1 R1)
  refine ⟨S1, ρ, R1, ?_⟩
  cases e2 : g ρ with
  | stuck => rw [e2] at q; exact q
  | exc c fs ρ' => rw [e2] at q; exact q
  | ok d2 ρ2 =>
    rw [e2] at q
    intro S2 H2 s2 R2 v2 rp2
    have q := q S2 H2 s2 R2
    dsimp only at q
    cases e3 : oJoin (.str z) d2 with
    | none => rw [e3] at q; exact q.elim
    | some d' =>
      rw [e3] at q
      exact sp_join S2 H2 v v2 _ d2 d' Q R2.sub (.inl (Rp.mono s2 _ _ rp1)) (.inl rp2) e3 fun v3 S3 H3 g3 r3 => q S3 H3 g3.sS (R2.grow g3) v3 r3
theorem e_join {apos pos : Pos} {z : Str} (hK : X.K = G.K) (ho : PE X o (pE G W (up (ct (.str z))))) (he : PE X e (pE G W l)) (hs : starEach [e] X.env = [(false, eval e X.env)] := by rfl) (hbase : attributeBase o "join" X.env (eval o X.env) = eval o X.env := by rfl) (hline : (apos.endLine == pos.line) = true := by rfl) :
    PE X (.Call (.Attribute o "join" apos) [e] [] pos) (pE G W (e2 oJoin (up (ct (.str z))) l)) := by
  have p := pe_join (o := o) (e := e) ho he hs hbase hline
  rw [hK] at p
  exact PEm p fun σ H Q h => str_left h
end
/-! ### of an object -/
section
variable {X : Cx}
theorem callS1 {k : Nat} {A : Around} {pins : List (Addr × Obj)} {s : Shared} {σ : L2.St} {H : Hp} {f : Addr} {fd : FuncData} {ps : List Str} {sp : Sp} {x : V} {v : Value} {Q : VK} (F : FnG X.prog X.w X.K X.mg X.base k f fd ps sp) (hr : Room k A) (hg : A.guards = some []) (hfr : A.frames = X.A.frames) (hb : Binds X.K fd ps [])
    (I : Inv X pins σ H s) (rx : RelV x v) (h : sp [x] H Q (fun _ _ _ => False)) : wpAny (model X.prog X.w) A (call (.ref f) [v]) (EP X pins σ Q) X.xe s := by
  have r2 : Vals [x] [v] := .cons rx .nil
  have hl : ([v] : List Value).length = ps.length := (r2.length).symm.trans (F.len _ _ _ _ h)
  have e0 : Env0 X.prog X.w X.K X.mg X.base A X.stack s H := by
    have e := I.env0
    exact ⟨by rw [hfr]; exact e.frames, e.mod, e.bs, e.bsz, e.funs, e.frf, e.hok, e.bare⟩
  refine wpAny_call (codeAny_mono (F.go A X.stack s H ⟨[v], []⟩ _ _ Q _ hr hg e0 (by have z := hb s [v] I.kIn (by simpa using hl); simpa using z) r2 h) ?_)
  rintro (e | fl) s' hq
  · exact passAt (W := fun _ _ _ _ => False) L2.takes0 σ pins H s e s' I hq
  · cases fl with
    | ret u => exact I.after hq
    | _ => exact False.elim hq
end
section
variable {X : Cx} {G : GC} {k c : Nat} {g : List D → Fr} {ps : List Str}
def rStrC (K : PySem.W.Frag) (C : CT) (c : Nat) (g : List D → Fr) : List V → Hp → VK → Prop := fun xs H Q => ∃ a dx vs, xs = [.ref a] ∧ H a = some (.ins (C.at_ c) dx vs) ∧ spP K C 1 g [.ref a] H (fun v H' => ∃ z, v = .str z ∧ Q (.str z) H') (fun _ _ _ => False)
def oStrC (c : Nat) (g : List D → Fr) : D → Option D
  | .ins c' fs => if c' = c then (match g [.ins c' fs] with | .ok (.str z) => some (.str z) | _ => none) else none
  | _ => none
theorem sp_strC : USpec G (fun v H Q => rStrC G.K G.C c g [v] H Q) (oStrC c g) := by
  intro S H x d d' Q s b e k
  cases d with
  | ins c' fs =>
    by_cases h : c' = c
    · subst h
      have e2 : (match g [.ins c' fs] with | .ok (.str z) => some (D.str z) | _ => none) = some d' := by
        have z := e
        unfold oStrC at z
        dsimp only at z
        rw [if_pos rfl] at z
        exact z
      clear e
      split at e2
      · rename_i z er
        cases e2
        have r1 := b.flat (fun _ z => by cases z)
        obtain ⟨a, dx, vs, rfl, ha, l1, q1⟩ := id r1
        refine ⟨a, dx, _, rfl, s _ _ ha, S, _, s, .cons r1 .nil, rfl, ?_⟩
        rw [er]
        intro v S' H' gr rv
        cases rv
        exact ⟨z, rfl, k _ S' H' gr rfl⟩
      · cases e2
    · unfold oStrC at e
      dsimp only at e
      rw [if_neg h] at e
      cases e
  | _ => cases e
theorem call_strC {C : CT} (D : DefT X.prog X.w X.K X.mg X.base "__str__" (C.at_ c) k ps (spP X.K C 1 g)) (hr : Room (k + 2) X.A) (hg : X.A.guards = some []) : CallR X (.type "str") (rStrC X.K C c g) := by
  intro pins s σ H xs us Q I r h
  obtain ⟨a, dx, vs, rfl, ha, q⟩ := h
  obtain ⟨f, fd, cl, mt, hbd, F⟩ := D.ex
  obtain ⟨u, rfl, r1⟩ := vals1 r
  cases (show u = Value.ref a from r1)
  obtain ⟨mA, J, _⟩ := ins_get I.hok ha
  obtain ⟨od, J, _⟩ := J.look
  refine PySem.W.kso_call (C := C.at_ c) hr.in1.in1.units0 I.kIn J mt.at_ mt.fn ?_
  refine wpAny_mono (callS1 (A := X.A.in1.in1) (x := .ref a) F hr.in1.in1 hg rfl hbd I rfl q) (fun z s' hz => ?_) fun _ _ e => e
  obtain ⟨v', H', I', rv, y, rfl, q2⟩ := hz
  obtain ⟨t, rfl⟩ := rv
  exact ⟨.str y, H', I', ⟨t, rfl⟩, q2⟩
theorem e_str {W : Wx} {a : Expr} {pos p : Pos} {x : Str} {f : Ev → Rs D} (hx : X.K = G.K) (D : DefT X.prog X.w G.K X.mg X.base "__str__" (G.C.at_ c) k ps (spP G.K G.C 1 g)) (hr : Room (k + 2) X.A) (hg : X.A.guards = some []) (ha : PE X a (pE G W f)) (hm : X.mg x = none) (hv : bootBuiltins x = some (.type "str") := by decide +kernel) (hgl : Gl X x := by rfl)
    (hn : x ≠ "__name__" := by decide) (hdb : (x == ("__debug__" : Str)) = false := by decide) (he : starEach (a :: []) X.env = (false, eval a X.env) :: starEach [] X.env := by rfl) (hpl : (backTo pos (starEach [] X.env)).any (·.1) = false := by rfl) :
    PE X (.Call (.Name x p) [a] [] pos) (pE G W (e1 (oStrC c g) f)) := by
  rw [← hx] at D
  have sp := sp_strC (G := G) (c := c) (g := g)
  rw [← hx] at sp
  exact e_t1 (call_strC D hr hg) sp ha hm hv hgl hn hdb he hpl
end
end PL
/-! PLT: enumerate of a tuple -/
namespace PL
open PySem L2
section
theorem enum_new {v : Value} {ob : Obj} {Z : Heap → Prop} (B : PySem.Begins v ob Z) :
    Meets (Builtin.«enumerate.__new__» ⟨[.type "enumerate", v], []⟩) (fun _ R s => Z s.heap ∧
      R (.ok (.ret (.ref (s.heap.push ob).objs.size))) { s with heap := (s.heap.push ob).push { cls := .type "enumerate", data := .fields #[.none, .bool false, .ref s.heap.objs.size, rawInt 0, .none, .none] } }) :=
  .of_wp fun prog w A R s h => by
    obtain ⟨hh, gs, dd, tt, oo⟩ := s
    obtain ⟨hz, h⟩ := h
    have one := sub_enumerate
    have go : ∀ {A1 : Around} {E1 : Value → Shared → Prop} {Q1 : Value → Shared → Prop}, Q1 (.ref hh.objs.size) ⟨hh.push ob, gs, dd, tt, oo⟩ → wpAny (model prog w) A1 (pyIter v) Q1 E1 ⟨hh, gs, dd, tt, oo⟩ := fun z => B.iter prog w _ _ ⟨hh, gs, dd, tt, oo⟩ _ hz z
    wp_walk using go
    refine wpAny_stack_any fun st => wpAny_pure ?_
    split
    · rename_i c1 _ _ _ _ _
      cases (c1 == Value.type "enumerate") <;> (wp_walk using go; exact ⟨_, rfl, h⟩)
    · wp_walk using go
      exact ⟨_, rfl, h⟩
theorem enum_go {prog : Program} {w : World} {A : Around} {E : Value → Shared → Prop} {s : Shared} {v : Value} {ob : Obj} {Z : Heap → Prop} {Q : Value → Shared → Prop} (B : PySem.Begins v ob Z) (hz : Z s.heap)
    (h : ∀ h1, IsEnum h1 (s.heap.objs.size + 1) s.heap.objs.size 0 .none → h1.get? s.heap.objs.size = some ob → h1.objs.size = s.heap.objs.size + 2 →
      (∀ b o, s.heap.get? b = some o → h1.get? b = some o) → Q (.ref (s.heap.objs.size + 1)) { s with heap := h1 }) : wpAny (model prog w) A (call (.type "enumerate") [v]) Q E s := by
  refine callType_new F.called_enumerate (by decide) (F.typeCall_enumerate_1 _) (F.newCall_enumerate_1 _) (fun ob => F.args_object_init_2 ob _) F.entry_enumerate_new (enum_new B) ⟨hz, ?_⟩
  have sz : (s.heap.push ob).objs.size = s.heap.objs.size + 1 := Heap.size_push ..
  show _ ∧ _
  rw [sz]
  have q := Heap.get?_push_size (s.heap.push ob) (o := { cls := .type "enumerate", data := .fields #[.none, .bool false, .ref s.heap.objs.size, rawInt 0, .none, .none] }) rfl
  rw [sz] at q
  exact ⟨⟨_, q, rfl⟩, h _ q (Heap.get?_push_of_some _ (Heap.get?_push_size _ B.free)) (by rw [Heap.size_push, sz]) fun b o z => Heap.get?_push_of_some _ (Heap.get?_push_of_some _ z)⟩
end
/-- the tuple at a, each item in a new pair -/
def Itu (K : PySem.W.Frag) (a : Addr) : It :=
  ⟨fun i H => ∃ (ys : List V) (y : V), SqT K H a ys ∧ ys[i]? = some y, fun i H v H1 => ∃ P y, v = .ref P ∧ H P = none ∧ H1 = upd H P (.tup [.int (i : Nat), y]) ∧ ∀ ys, SqT K H a ys → ys[i]? = some y, fun i H => ∃ ys : List V, SqT K H a ys ∧ ys.length = i⟩
theorem tup_in1 {h : Heap} {a : Addr} {its : Array Value} (p : PyProof.Rows.IsTup h a its) : h.IsTuple a its := by
  obtain ⟨o, ho, hc, n, hd⟩ := p
  exact ⟨o, ho, hc, n, hd⟩
theorem turn_enumT {P : Program} {w : World} {K : PySem.W.Frag} {es : List Expr} {kk : Nat} {tp : Pos} (a e it : Addr) :
    Turn P w K (.Tuple es kk tp) (Itu K a) [e, it] e (fun i h => (∃ b, IsEnum h e it ((i : Nat) : Int) b) ∧ h.IsTupleIter it a i ∧ e ≠ it ∧ a ≠ it ∧ a ≠ e) where
  mem := by simp
  obj := fun i h st b hb => by
    obtain ⟨⟨old, he⟩, ⟨o, ho, hc, hd⟩, _⟩ := st
    rcases (by simpa using hb : b = e ∨ b = it) with rfl | rfl
    · exact ⟨_, he, fun v q => nomatch q⟩
    · exact ⟨o, ho, fun v q => by rw [hd] at q; cases q⟩
  keep := fun i h h1 st k => ⟨st.1.elim fun old he => ⟨old, k e (by simp) _ he⟩, st.2.1.at fun o q => k it (by simp) o q, st.2.2⟩
  item := by
    intro X hP hw hK hc i pins s σ H E I hf st hg
    subst hP hw hK
    obtain ⟨⟨old, he⟩, hit, hne, nai, nae⟩ := st
    obtain ⟨ys, y, hq, hy⟩ := hg
    obtain ⟨its, rv, p, hz⟩ := I.tuple hq
    obtain ⟨u, hu, ru⟩ := rv.get hy
    have le : e < s.heap.objs.size := Heap.lt_size he
    have li : it < s.heap.objs.size := by obtain ⟨_, q, _⟩ := hit; exact Heap.lt_size q
    have D := PySem.Draws.tuple (prog := X.prog) (w := X.w) (A := X.A.in1) (I.ok.hd hc) it a nai its.toArray
    have hlt : i < its.toArray.size := by
      rw [List.size_toArray]
      exact (List.getElem?_eq_some_iff.mp hu).1
    refine wpAny_pyNext_enum_itemD D he ⟨hit, tup_in1 p⟩ hlt hne (by simp [hne, Ne.symm nae]) fun x1 h1 tk hx ho hst hT hsz hk => ?_
    obtain rfl : u = x1 := by
      have z : its[i]? = some x1 := by simpa using hx
      rw [hu] at z
      exact Option.some.inj z
    refine ⟨_, rfl, wpAny_letOwnedTupleGo_enum (s := { s with heap := h1, toks := tk + 1 }) ho fun h2 he2 sb => ?_⟩
    have at2 : h2.get? s.heap.objs.size = some { cls := .type "tuple", data := .seq #[.int i tk, u] } := (sb.2 _ (Nat.ne_of_gt le)).trans hT
    have fresh : ObjOk X.prog X.w (upd H s.heap.objs.size (.tup [.int (i : Nat), y])) h2 s.heap.objs.size (.tup [.int (i : Nat), y]) :=
      ⟨by show 2 ≤ sizeLine; decide, [.int i tk, u], .cons ⟨_, rfl⟩ (.cons ru .nil), ⟨_, at2, rfl, _, rfl⟩⟩
    have J : Inv X pins σ (upd H s.heap.objs.size (.tup [.int (i : Nat), y])) { s with heap := h2, toks := tk + 1 } :=
      I.turnedNew (ch := [e, it]) (fun b ob hb q => (sb.2 b (fun z => hb (by simp [z]))).trans (hk b ob (fun z => hb (by simp [z])) (fun z => hb (by simp [z])) q)) hf (Nat.le_refl _) fresh
    refine ⟨.ref s.heap.objs.size, _, J, rfl, ⟨_, y, rfl, I.hok.fresh (Nat.le_refl _), rfl, fun zs hy2 => by rw [I.tuple_inj hy2 hq]; exact hy⟩, ⟨⟨u, ?_⟩, hst.1.at fun o q => (sb.2 it (Ne.symm hne)).trans q, hne, nai, nae⟩, fun b hb => ?_⟩
    · rw [show ((i + 1 : Nat) : Int) = (i : Int) + 1 by omega]
      exact he2
    · have lb : b < s.heap.objs.size := by
        rcases (by simpa using hb : b = e ∨ b = it) with rfl | rfl
        · exact le
        · exact li
      rw [upd_ne (Nat.ne_of_lt lb)]
      exact (hf b hb).1
  done := by
    intro X hP hw hK hc i pins s σ H E I hf st hg
    subst hP hw hK
    obtain ⟨⟨old, he⟩, hit, hne, nai, nae⟩ := st
    obtain ⟨ys, hq, hy⟩ := hg
    obtain ⟨its, rv, p, hz⟩ := I.tuple hq
    obtain ⟨f0, f1, f2, f3, f4, f5⟩ := hf it (by simp)
    have hl := rv.length
    have D := PySem.Draws.tuple (prog := X.prog) (w := X.w) (A := X.A.in1) (I.ok.hd hc) it a nai its.toArray
    have ei : i = its.toArray.size := by rw [List.size_toArray, ← hl]; exact hy.symm
    rw [ei] at hit
    exact wpAny_pyNext_enum_endD D he ⟨hit, tup_in1 p⟩ fun h1 eb => ⟨rfl, I.turned (t' := s.toks) (fun b o hb q => eb b o hb q) f0 f1 f3 f4 f5⟩
  self := fun A i s Q E st h => st.1.elim fun _ he => wpAny_pyIter_enum he h
def iEnumT (K : PySem.W.Frag) (ta : TA) : TI := fun σ H R => ta σ H fun vs H1 => ∃ a ys, vs = [.ref a] ∧ SqT K H1 a ys ∧ R (Itu K a) H1
theorem pi_enumT {X : Cx} {e : Expr} {ta : TA} {p pos tp : Pos} {es : List Expr} {kk : Nat} (hg : Gl X "enumerate") (hm : X.mg "enumerate" = none) (ha : PA X [e] ta) (hs : starEach [e] X.env = [(false, eval e X.env)] := by rfl) :
    PI X (.Tuple es kk tp) (.Call (.Name "enumerate" p) [e] [] pos) (iEnumT X.K ta) := by
  refine ⟨fun pins s σ H R I h => ?_⟩
  refine PyProof.Rows.Call_ (ld_blt I hg hm PyProof.Rows.boot_enumerate (PyProof.Rows.callWith_type1 (thn (ha.run pos pins s σ H _ I h) fun us s1 ⟨vs, H1, J, r1, q1⟩ => ?_) hs rfl))
  obtain ⟨a, ys, rfl, hq, q⟩ := q1
  obtain ⟨u, rfl, r⟩ := vals1 r1
  cases (show u = Value.ref a from r)
  obtain ⟨its, rv, p1, hz⟩ := J.tuple hq
  have la : a < s1.heap.objs.size := by obtain ⟨o, ho, _⟩ := p1; exact Heap.lt_size ho
  refine enum_go (PySem.begins_tuple a its.toArray) (tup_in1 p1) fun h1 he hit sz hk => wpAny_pyIter_enum he ?_
  have J2 : Inv X pins σ H1 { s1 with heap := h1 } := J.kept (t' := s1.toks) hk
  refine ⟨s1.heap.objs.size + 1, [s1.heap.objs.size + 1, s1.heap.objs.size], _, _, H1, rfl, J2, turn_enumT a (s1.heap.objs.size + 1) s1.heap.objs.size, ⟨⟨.none, he⟩, ⟨_, hit, rfl, rfl⟩, Nat.succ_ne_self _, Nat.ne_of_lt la, Nat.ne_of_lt (Nat.lt_succ_of_lt la)⟩, fun b hb => ?_, q⟩
  have hle : s1.heap.objs.size ≤ b := by
    rcases (by simpa using hb : b = s1.heap.objs.size + 1 ∨ b = s1.heap.objs.size) with z | z <;> (rw [z]; first | exact Nat.le_refl _ | exact Nat.le_add_right _ _)
  exact J.fpOk hle (J.hok.fresh hle)
/-! ### the layer's rule -/
def enumT (k : Ev → Rs (List D)) : Ev → Rs (List D) := fun ρ => (k ρ).bind fun ds ρ1 => match ds with
  | [.tup xs] => .ok (enumL 0 xs) ρ1
  | _ => .stuck
section
variable {X : Cx} {G : GC} {W : Wx}
theorem feeds_enumT {S0 : Hp} {a : Addr} {vs : List V} {ds : List D} {K : PySem.W.Frag} (hK : K = G.K) (h : SqT K S0 a vs) (r : Rps G.K G.C S0 ds vs) : Feeds G S0 (Itu K a) (enumL 0 ds) := by
  refine ⟨fun i S H s1 s2 hi => ?_, fun S H s1 s2 => ⟨vs, SqT.mono (s1.trans s2) h, by rw [enumL_len, ← r.length]⟩⟩
  rw [enumL_len] at hi
  have q := SqT.mono (s1.trans s2) h
  have hd : ds[i]? = some ds[i] := List.getElem?_eq_getElem hi
  obtain ⟨v, ev, rv⟩ := Rps.get _ _ _ _ r hd
  refine ⟨⟨vs, v, q, ev⟩, fun x H1 y => ?_⟩
  obtain ⟨T, z, rfl, hT, rfl, y⟩ := y
  have ex := y vs q
  rw [ev] at ex
  cases ex
  have g := Grow.new s2 (.tup [.int (i : Nat), v]) hT
  refine ⟨_, D.tup [.int ((0 + i : Nat) : Int), ds[i]], g, by rw [enumL_get, hd]; rfl, ⟨T, _, rfl, .inl (.inl upd_same), ?_⟩⟩
  refine .cons ?_ (.cons (Rp.mono (s1.trans g.sS) _ _ rv) .nil)
  show V.int _ = V.int _
  rw [Nat.zero_add]
theorem i_enumT {e : Expr} {k : Ev → Rs (List D)} {p tp : Pos} {es : List Expr} {kk : Nat} (hK : X.K = G.K) (ha : PA X [e] (pA G W k)) (hm : X.mg "enumerate" = none) (hg : Gl X "enumerate" := by rfl) (hs : starEach [e] X.env = [(false, eval e X.env)] := by rfl) :
    PI X (.Tuple es kk tp) (.Call (.Name "enumerate" p) [e] [] pos) (pI G W (enumT k)) := PIm (pi_enumT hg hm ha hs) fun σ H R ⟨S, ρ, Re, q⟩ => ⟨S, ρ, Re, Po.mono (Po.bind q) fun ds ρ1 S1 H1 s1 R1 q vs r => by
    match ds, q, r with
    | [.tup xs], q, r =>
      obtain ⟨v, ev, rv⟩ := rps1 r
      obtain ⟨a, ws, rfl, hs, r2⟩ := rv
      refine ⟨a, ws, ev, ?_, q S1 H1 (Same.refl _) R1 _ (feeds_enumT hK (by rw [hK]; exact hs) r2)⟩
      rw [hK]
      exact SqT.mono R1.sub hs⟩
end
end PL
/-! PLD: a dict display with one pair of numbers -/
namespace PL
open PySem L2
section
variable {X : Cx} {G : GC} {pos : Pos}
theorem q_dct1 {a b : Expr} {i j : Int} (ha : PE X a (fun _ H Q => Q (.int i) H)) (hb : PE X b (fun _ H Q => Q (.int j) H)) : PE X (.Dict [some a] [b] pos) (pQ G (ct .dct)) :=
  PEm (pe_disp (pps_cons ha hb pps_nil) rfl rfl (by simp) (Nat.le_trans (Nat.le_refl 1) (by decide))) fun σ H Q ⟨S, ρ, R, q⟩ p hp => by
    refine ⟨upd_same, [(.inl i, .int j)], rfl, Nat.le_trans (Nat.le_refl 1) (by decide), ?_⟩
    have g := Grow.new R.sub (.dK (mergeK [] [(.inl i, .int j)])) hp
    have e : upd (upd H p (.dK [])) p (.dK (mergeK [] [(.inl i, .int j)])) = upd H p (.dK (mergeK [] [(.inl i, .int j)])) := by
      funext x
      unfold upd
      split <;> rfl
    rw [e]
    exact q _ _ _ g ⟨p, _, rfl, upd_same⟩
end
end PL
/-! PLI: isinstance(e, (A, B)) for two exceptions' classes -/
namespace PL
open PySem L2
section
variable {X : Cx} {G : GC} {pos : Pos} {e : Expr} {f : Ev → Option D} {n m : Nat} {sub : Nat → Nat → Bool}
theorem q_isiX2 {t u : Nat} {x y : Str} {x1} {p pt px py : Pos} (kx : KindsX G.K G.C n m sub) (ht : n ≤ t ∧ t < m) (hu : n ≤ u ∧ u < m) (hK : X.K = G.K) (ha : PE X e (pB G f)) (hm : X.mg "isinstance" = none) (hx : X.mg x = some (.ref (G.C.at_ t))) (hy : X.mg y = some (.ref (G.C.at_ u)))
    (gx : Gl X x := by rfl) (gy : Gl X y := by rfl) (dx : (x == ("__debug__" : Str)) = false := by decide) (dy : (y == ("__debug__" : Str)) = false := by decide)
    (hg : Gl X "isinstance" := by rfl) (he : starEach (e :: [.Tuple [.Name x px, .Name y py] x1 pt]) X.env = (false, eval e X.env) :: starEach [.Tuple [.Name x px, .Name y py] x1 pt] X.env := by rfl) (hpl : (backTo pos (starEach [Expr.Tuple [.Name x px, .Name y py] x1 pt] X.env)).any (·.1) = false := by rfl) :
    PE X (.Call (.Name "isinstance" p) [e, .Tuple [.Name x px, .Name y py] x1 pt] [] pos) (pQ G (q1 (blO (isaXs n m sub [t, u])) f)) :=
  q_isiXs (ts := [t, u]) kx (fun z hz => by
    simp only [List.mem_cons, List.not_mem_nil, or_false] at hz
    rcases hz with rfl | rfl
    · exact ht
    · exact hu) (show 2 ≤ sizeLine by decide) hK ha hm (pa_cons (pe_glob gx hx (v := .ref (G.C.at_ t)) rfl dx) (pa_cons (pe_glob gy hy (v := .ref (G.C.at_ u)) rfl dy) pa_nil (by rfl)) (by rfl)) hg he hpl (by rfl)
end
end PL
/-! PLO: an operator of two objects of one class by its own method, a new object as its answer -/
namespace PL
open PySem L2
section
variable {X : Cx} {G : GC} {k c : Nat} {g : List D → Fr} {ps : List Str} {m : Str}
def rBinC (K : PySem.W.Frag) (C : CT) (c : Nat) (g : List D → Fr) : R2 := fun x y H Q => ∃ a b dx dy vs ws, x = .ref a ∧ y = .ref b ∧ H a = some (.ins (C.at_ c) dx vs) ∧ H b = some (.ins (C.at_ c) dy ws) ∧ spP K C 2 g [x, y] H (fun v H' => (∃ r, v = .ref r) ∧ Q v H') (fun _ _ _ => False)
def oBinC (c : Nat) (g : List D → Fr) : D → D → Option D
  | .ins c1 fs, .ins c2 gs => if c1 = c ∧ c2 = c then (match g [.ins c1 fs, .ins c2 gs] with | .ok (.ins c3 hs) => some (.ins c3 hs) | _ => none) else none
  | _, _ => none
theorem sp_binC : BSpec G (rBinC G.K G.C c g) (oBinC c g) := by
  intro S H x y d1 d2 d' Q s b1 b2 e k
  cases d1 with
  | ins c1 fs =>
    cases d2 with
    | ins c2 gs =>
      by_cases h : c1 = c ∧ c2 = c
      · obtain ⟨h1, h2⟩ := h
        subst h1
        subst h2
        have e2 : (match g [.ins c2 fs, .ins c2 gs] with | .ok (.ins c3 hs) => some (D.ins c3 hs) | _ => none) = some d' := by
          have z := e
          unfold oBinC at z
          dsimp only at z
          rw [if_pos ⟨rfl, rfl⟩] at z
          exact z
        clear e
        split at e2
        · rename_i c3 hs er
          cases e2
          have r1 := b1.flat (fun _ z => by cases z)
          have r2 := b2.flat (fun _ z => by cases z)
          obtain ⟨a, dx, vs, rfl, ha, l1, q1⟩ := id r1
          obtain ⟨b, dy, ws, rfl, hb, l2, q2⟩ := id r2
          refine ⟨a, b, dx, dy, _, _, rfl, rfl, s _ _ ha, s _ _ hb, S, _, s, .cons r1 (.cons r2 .nil), rfl, ?_⟩
          rw [er]
          intro v S' H' gr rv
          obtain ⟨r, dz, us, ev, _⟩ := id rv
          exact ⟨⟨r, ev⟩, k v S' H' gr rv⟩
        · cases e2
      · unfold oBinC at e
        dsimp only at e
        rw [if_neg h] at e
        cases e
    | _ => cases e
  | _ => cases e
theorem op_binC {C : CT} {op : Operator} (D : DefT X.prog X.w X.K X.mg X.base m (C.at_ c) k ps (spP X.K C 2 g)) (hm : PySem.dunder op.info.2 = m) (sf : PySem.W.selfFirst X.K (C.at_ c) = true) (hr : Room k X.A) (hg : X.A.guards = some []) : OpR X (binaryOp op) (rBinC X.K C c g) := by
  intro pins s σ H x y v u Q I rx ry h
  obtain ⟨a, b, dx, dy, vs, ws, rfl, rfl, ha, hb, q⟩ := h
  obtain ⟨f, fd, cl, mt, hbd, F⟩ := D.ex
  cases (show v = Value.ref a from rx)
  cases (show u = Value.ref b from ry)
  obtain ⟨mA, J, _⟩ := ins_get I.hok ha
  obtain ⟨mB, J', _⟩ := ins_get I.hok hb
  obtain ⟨od, J, _⟩ := J.look
  obtain ⟨od', J', _⟩ := J'.look
  obtain ⟨mm, hF⟩ := I.fr
  refine PySem.W.binop_K hF I.ok.mod.kin J J'.type sf (by rw [hm]; exact mt.at_) mt.fn ?_
  refine wpAny_mono (callQ (A := X.A) (x := .ref a) (y := .ref b) F hr hg rfl hbd I rfl rfl q) (fun z s' hz => ?_) fun _ _ e => e
  obtain ⟨v', H', I', rv, ⟨r, rfl⟩, q2⟩ := hz
  cases (show z = Value.ref r from rv)
  exact ⟨.ref r, H', I', rfl, q2⟩
def rNegC (K : PySem.W.Frag) (C : CT) (c : Nat) (g : List D → Fr) : V → Hp → VK → Prop := fun x H Q => ∃ a dx vs, x = .ref a ∧ H a = some (.ins (C.at_ c) dx vs) ∧ spP K C 1 g [x] H Q (fun _ _ _ => False)
def oNegC (c : Nat) (g : List D → Fr) : D → Option D
  | .ins c1 fs => if c1 = c then (match g [.ins c1 fs] with | .ok d => some d | _ => none) else none
  | _ => none
theorem sp_negC : USpec G (rNegC G.K G.C c g) (oNegC c g) := by
  intro S H x d d' Q s b e k
  cases d with
  | ins c1 fs =>
    by_cases h : c1 = c
    · subst h
      have e2 : (match g [.ins c1 fs] with | .ok d => some d | _ => none) = some d' := by
        have z := e
        unfold oNegC at z
        dsimp only at z
        rw [if_pos rfl] at z
        exact z
      clear e
      split at e2
      · rename_i d3 er
        cases e2
        have r1 := b.flat (fun _ z => by cases z)
        obtain ⟨a, dx, vs, rfl, ha, l1, q1⟩ := id r1
        refine ⟨a, dx, _, rfl, s _ _ ha, S, _, s, .cons r1 .nil, rfl, ?_⟩
        rw [er]
        exact fun v S' H' gr rv => k v S' H' gr rv
      · cases e2
    · unfold oNegC at e
      dsimp only at e
      rw [if_neg h] at e
      cases e
  | _ => cases e
theorem un_negC {C : CT} (D : DefT X.prog X.w X.K X.mg X.base "__neg__" (C.at_ c) k ps (spP X.K C 1 g)) (hr : Room k X.A) (hg : X.A.guards = some []) : UnR X (unaryOp .USub) (rNegC X.K C c g) := by
  intro pins s σ H x v Q I rx h
  obtain ⟨a, dx, vs, rfl, ha, q⟩ := h
  obtain ⟨f, fd, cl, mt, hbd, F⟩ := D.ex
  cases (show v = Value.ref a from rx)
  obtain ⟨mA, J, _⟩ := ins_get I.hok ha
  obtain ⟨od, J, _⟩ := J.look
  obtain ⟨mm, hF⟩ := I.fr
  exact PySem.W.ksp_neg hF I.ok.mod.kin J mt.at_ mt.fn (callS1 (A := X.A) (x := .ref a) F hr hg rfl hbd I rfl q)
theorem e_binC {W : Wx} {a b : Expr} {pos : Pos} {op : Operator} {f h : Ev → Rs D} (hx : X.K = G.K) (D : DefT X.prog X.w G.K X.mg X.base m (G.C.at_ c) k ps (spP G.K G.C 2 g)) (hm : PySem.dunder op.info.2 = m) (sf : PySem.W.selfFirst G.K (G.C.at_ c) = true) (hr : Room k X.A) (hg : X.A.guards = some [])
    (ha : PE X a (pE G W f)) (hb : PE X b (pE G W h)) : PE X (.BinOp a op b pos) (pE G W (e2 (oBinC c g) f h)) := by
  have sp := sp_binC (G := G) (c := c) (g := g)
  rw [← hx] at D sf sp
  exact e_op (op_binC D hm sf hr hg) sp ha hb
theorem e_negC {W : Wx} {a : Expr} {pos : Pos} {f : Ev → Rs D} (hx : X.K = G.K) (D : DefT X.prog X.w G.K X.mg X.base "__neg__" (G.C.at_ c) k ps (spP G.K G.C 1 g)) (hr : Room k X.A) (hg : X.A.guards = some []) (ha : PE X a (pE G W f)) : PE X (.UnaryOp .USub a pos) (pE G W (e1 (oNegC c g) f)) := by
  have sp := sp_negC (G := G) (c := c) (g := g)
  rw [← hx] at D sp
  exact e_un (un_negC D hr hg) sp ha
end
end PL
/-! PLC: a < b < c as a test -/
namespace PL
open PySem L2
section
variable {X : Cx} {G : GC} {W : Wx} {pos : Pos}
theorem chain_ok {r r' : R2} {o o' : D → D → Option D} {f g h : Ev → Option D} (sp : BSpec G r o) (sp' : BSpec G r' o') {σ : L2.St} {H : Hp} {Q : VK} (q : pQ G (chQ o o' f g h) σ H Q) : tChain r r' (pB G f) (pB G g) (pB G h) σ H Q := by
  obtain ⟨S, ρ, R, q⟩ := q
  refine ⟨S, ρ, R, ?_⟩
  unfold chQ at q
  cases e : f ρ with
  | none => rw [e] at q; exact q
  | some d =>
    rw [e, Option.bind_some] at q
    intro v S1 H1 g1 b1
    refine ⟨S1, ρ, R.grow g1, ?_⟩
    cases e2 : g ρ with
    | none => rw [e2] at q; exact q.elim
    | some d2 =>
      rw [e2, Option.bind_some] at q
      intro v2 S2 H2 g2 b2
      cases e3 : o d d2 with
      | none => rw [e3] at q; exact q.elim
      | some d' =>
        rw [e3, Option.bind_some] at q
        refine sp S2 H2 v v2 d d2 d' _ g2.sub (b1.grow g2) b2 e3 fun v3 S3 H3 g3 r3 => ?_
        cases d' with
        | bl k =>
          refine ⟨k, r3, ?_⟩
          cases k with
          | false => exact iteF (q _ _ _ ((g1.trans g2).trans g3) rfl)
          | true =>
            refine iteT ⟨S3, ρ, R.grow ((g1.trans g2).trans g3), ?_⟩
            dsimp only at q
            cases e4 : h ρ with
            | none => rw [e4] at q; exact q.elim
            | some d4 =>
              rw [e4, Option.bind_some] at q
              intro v4 S4 H4 g4 b4
              cases e5 : o' d2 d4 with
              | none => rw [e5] at q; exact q.elim
              | some d5 =>
                rw [e5] at q
                exact sp' S4 H4 v2 v4 d2 d4 d5 Q g4.sub (b2.grow (g3.trans g4)) b4 e5 fun v5 S5 H5 g5 r5 => q v5 S5 H5 ((((g1.trans g2).trans g3).trans g4).trans g5) r5
        | _ => exact q.elim
theorem t_chain {r r' : R2} {o o' : D → D → Option D} {a b c : Expr} {f g h : Ev → Option D} {op op' : CmpOp} (ho : OpR X (compareOp op) r) (sp : BSpec G r o) (ho' : OpR X (compareOp op') r') (sp' : BSpec G r' o') (ha : PE X a (pB G f)) (hb : PE X b (pB G g)) (hc : PE X c (pB G h)) (hm : lastMarks [op, op'] [b, c] = false := by rfl) :
    PT X (.Compare a [op, op'] [b, c] pos) (pT G W (asB (up (chQ o o' f g h)))) := PTm (pt_chain ho ho' ha hb hc hm) fun σ H Q q => by
  have q := asB_ok q
  refine chain_ok sp sp' ?_
  obtain ⟨S, ρ, R, q⟩ := q
  refine ⟨S, ρ, R, ?_⟩
  unfold up Po at q
  cases e : chQ o o' f g h ρ with
  | none => rw [e] at q; exact q
  | some d => rw [e] at q; exact fun v S' H' gr r => q S' H' gr.sS (R.grow gr) v r
end
end PL
/-! PLJ: is, is not with True, False, None -/
namespace PL
open PySem L2
section
variable {X : Cx} {G : GC}
def isBl (neg : Bool) : D → D → Option D
  | .bl a, .bl b => some (.bl (if neg then !decide (a = b) else decide (a = b)))
  | _, _ => none
def isA (neg : Bool) : D → D → Option D := orE (isN neg) (isBl neg)
theorem sp_isB : BSpec G (fun x y H Q => ∃ a b, x = .bl a ∧ y = .bl b ∧ Q (.bl (decide (a = b))) H) (isBl false) := by
  intro S H x y d1 d2 d' Q s b1 b2 e k
  cases d1 with
  | bl a =>
    cases d2 with
    | bl b => cases e; exact ⟨a, b, b1.bl, b2.bl, k _ S H (Grow.refl s) rfl⟩
    | _ => cases e
  | _ => cases e
theorem sp_notB : BSpec G (fun x y H Q => ∃ a b, x = .bl a ∧ y = .bl b ∧ Q (.bl (!decide (a = b))) H) (isBl true) := by
  intro S H x y d1 d2 d' Q s b1 b2 e k
  cases d1 with
  | bl a =>
    cases d2 with
    | bl b => cases e; exact ⟨a, b, b1.bl, b2.bl, k _ S H (Grow.refl s) rfl⟩
    | _ => cases e
  | _ => cases e
theorem op_isA : OpR X (compareOp .Is) (fun x y H Q => (y = .non ∧ Q (.bl (decide (x = .non))) H) ∨ (∃ a b, x = .bl a ∧ y = .bl b ∧ Q (.bl (decide (a = b))) H)) := op_isN.or op_is_bl
theorem op_notA : OpR X (compareOp .IsNot) (fun x y H Q => (y = .non ∧ Q (.bl (!decide (x = .non))) H) ∨ (∃ a b, x = .bl a ∧ y = .bl b ∧ Q (.bl (!decide (a = b))) H)) := op_notN.or op_isnot_bl
theorem sp_isA : BSpec G (fun x y H Q => (y = .non ∧ Q (.bl (decide (x = .non))) H) ∨ (∃ a b, x = .bl a ∧ y = .bl b ∧ Q (.bl (decide (a = b))) H)) (isA false) := sp_isN.or sp_isB
theorem sp_notA : BSpec G (fun x y H Q => (y = .non ∧ Q (.bl (!decide (x = .non))) H) ∨ (∃ a b, x = .bl a ∧ y = .bl b ∧ Q (.bl (!decide (a = b))) H)) (isA true) := sp_notN.or sp_notB
end
end PL
/-! PLZ: zip of two lists, of two tuples -/
namespace PL
open PySem L2
def zipL (xs ys : List D) : List D := List.zipWith (fun a b => D.tup [a, b]) xs ys
def zipE (k : Ev → Rs (List D)) : Ev → Rs (List D) := fun ρ => (k ρ).bind fun ds ρ1 => match ds with
  | [.tup xs, .tup ys] => .ok (zipL xs ys) ρ1
  | [.lst xs, .lst ys] => .ok (zipL xs ys) ρ1
  | _ => .stuck
section
variable {X : Cx} {G : GC} {W : Wx}
theorem zipL_get {xs ys : List D} {i : Nat} {x y : D} (hx : xs[i]? = some x) (hy : ys[i]? = some y) : (zipL xs ys)[i]? = some (.tup [x, y]) := by
  unfold zipL
  rw [List.getElem?_zipWith, hx, hy]
theorem zipL_len {xs ys : List D} : (zipL xs ys).length = min xs.length ys.length := List.length_zipWith
theorem feeds_zipT {S0 : Hp} {a b : Addr} {vs ws : List V} {ds es : List D} {K : PySem.W.Frag} (hK : K = G.K) (h : SqT K S0 a vs) (h2 : SqT K S0 b ws) (r : Rps G.K G.C S0 ds vs) (r2 : Rps G.K G.C S0 es ws) : Feeds G S0 (RZ.ItzT K a b) (zipL ds es) := by
  refine ⟨fun i S H s1 s2 hi => ?_, fun S H s1 s2 => ⟨vs, ws, SqT.mono (s1.trans s2) h, SqT.mono (s1.trans s2) h2, by rw [zipL_len, ← r.length, ← r2.length]; omega⟩⟩
  rw [zipL_len] at hi
  have q := SqT.mono (s1.trans s2) h
  have q2 := SqT.mono (s1.trans s2) h2
  have i1 : i < ds.length := by omega
  have i2 : i < es.length := by omega
  have hd : ds[i]? = some ds[i] := List.getElem?_eq_getElem i1
  have he : es[i]? = some es[i] := List.getElem?_eq_getElem i2
  obtain ⟨v, ev, rv⟩ := Rps.get _ _ _ _ r hd
  obtain ⟨w, ew, rw_⟩ := Rps.get _ _ _ _ r2 he
  refine ⟨⟨vs, ws, v, w, q, q2, ev, ew⟩, fun x H1 y => ?_⟩
  obtain ⟨T, z, z2, rfl, hT, rfl, y1, y2⟩ := y
  have ex := y1 vs q
  rw [ev] at ex
  cases ex
  have ex2 := y2 ws q2
  rw [ew] at ex2
  cases ex2
  have g := Grow.new s2 (.tup [v, w]) hT
  exact ⟨_, D.tup [ds[i], es[i]], g, zipL_get hd he, ⟨T, _, rfl, .inl (.inl upd_same), .cons (Rp.mono (s1.trans g.sS) _ _ rv) (.cons (Rp.mono (s1.trans g.sS) _ _ rw_) .nil)⟩⟩
theorem feeds_zipL {S0 : Hp} {a b : Addr} {vs ws : List V} {ds es : List D} {K : PySem.W.Frag} (hK : K = G.K) (h : SqL K S0 a vs) (h2 : SqL K S0 b ws) (r : Rps G.K G.C S0 ds vs) (r2 : Rps G.K G.C S0 es ws) : Feeds G S0 (Itz K a b) (zipL ds es) := by
  refine ⟨fun i S H s1 s2 hi => ?_, fun S H s1 s2 => ⟨vs, ws, SqL.mono (s1.trans s2) h, SqL.mono (s1.trans s2) h2, by rw [zipL_len, ← r.length, ← r2.length]; omega⟩⟩
  rw [zipL_len] at hi
  have q := SqL.mono (s1.trans s2) h
  have q2 := SqL.mono (s1.trans s2) h2
  have i1 : i < ds.length := by omega
  have i2 : i < es.length := by omega
  have hd : ds[i]? = some ds[i] := List.getElem?_eq_getElem i1
  have he : es[i]? = some es[i] := List.getElem?_eq_getElem i2
  obtain ⟨v, ev, rv⟩ := Rps.get _ _ _ _ r hd
  obtain ⟨w, ew, rw_⟩ := Rps.get _ _ _ _ r2 he
  refine ⟨⟨vs, ws, v, w, q, q2, ev, ew⟩, fun x H1 y => ?_⟩
  obtain ⟨T, z, z2, rfl, hT, rfl, y1, y2⟩ := y
  have ex := y1 vs q
  rw [ev] at ex
  cases ex
  have ex2 := y2 ws q2
  rw [ew] at ex2
  cases ex2
  have g := Grow.new s2 (.tup [v, w]) hT
  exact ⟨_, D.tup [ds[i], es[i]], g, zipL_get hd he, ⟨T, _, rfl, .inl (.inl upd_same), .cons (Rp.mono (s1.trans g.sS) _ _ rv) (.cons (Rp.mono (s1.trans g.sS) _ _ rw_) .nil)⟩⟩
theorem i_zip {e e2 : Expr} {k : Ev → Rs (List D)} {p tp : Pos} {es : List Expr} {kk : Nat} (hK : X.K = G.K) (ha : PA X [e, e2] (pA G W k)) (hm : X.mg "zip" = none) (hg : Gl X "zip" := by rfl) (hs : starEach [e, e2] X.env = (false, eval e X.env) :: starEach [e2] X.env := by rfl) (hpl : (backTo p (starEach [e2] X.env)).any (·.1) = false := by rfl) {pos : Pos} (hpl2 : (backTo pos (starEach [e2] X.env)).any (·.1) = false := by rfl) :
    PI X (.Tuple es kk tp) (.Call (.Name "zip" p) [e, e2] [] pos) (pI G W (zipE k)) := PIm (RZ.pi_zipA hg hm ha hs hpl2) fun σ H R ⟨S, ρ, Re, q⟩ => ⟨S, ρ, Re, Po.mono (Po.bind q) fun ds ρ1 S1 H1 s1 R1 q vs r => by
    match ds, q, r with
    | [.tup xs, .tup ys], q, r =>
      obtain ⟨v, w, ev, rv, rw_⟩ := rps2 r
      obtain ⟨a, us, rfl, hs, r2⟩ := rv
      obtain ⟨b, ws, rfl, hs2, r3⟩ := rw_
      refine ⟨a, b, us, ws, ev, .inr ⟨?_, ?_, q S1 H1 (Same.refl _) R1 _ (feeds_zipT hK (by rw [hK]; exact hs) (by rw [hK]; exact hs2) r2 r3)⟩⟩
      · rw [hK]; exact SqT.mono R1.sub hs
      · rw [hK]; exact SqT.mono R1.sub hs2
    | [.lst xs, .lst ys], q, r =>
      obtain ⟨v, w, ev, rv, rw_⟩ := rps2 r
      obtain ⟨a, us, rfl, hs, r2⟩ := rv
      obtain ⟨b, ws, rfl, hs2, r3⟩ := rw_
      have q1 : SqL X.K S1 a us := .inl (.inl hs)
      have q2 : SqL X.K S1 b ws := .inl (.inl hs2)
      exact ⟨a, b, us, ws, ev, .inl ⟨SqL.mono R1.sub q1, SqL.mono R1.sub q2, q S1 H1 (Same.refl _) R1 _ (feeds_zipL hK q1 q2 r2 r3)⟩⟩⟩
end
end PL
/-! the law's call by the judge: the promise of a law that makes lambdas, one table -/
namespace PL
open PySem PySem.Spec PyProof.Rows L2
open LamX (TabB Tabs)
section
variable {P : Program} {w : World} {K : PySem.W.Frag} {mg mb : Str → Option Value} {k : Nat} {fa a c Pt : Addr} {fd : FuncData} {x : Str} {sp : Sp} {t : Shared} {vs : List Value} {ns : List Int}
abbrev scrO (vs : List Value) : Obj := { cls := .type "list", data := .seq vs.toArray }
/-- the judge's wish -/
abbrev GoodT (t : Shared) : Result → Shared → Prop := fun r u => r = .ok (.ret (.bool true)) ∧ OldK t.heap u.heap ∧ u.os = t.os ∧ AllBare u.gens
/-- what the promise sees at the beginning: the table, and maybe the script -/
structure SeenT (P : Program) (w : World) (K : PySem.W.Frag) (t : Shared) (a Pt : Addr) (ns : List Int) (H : Hp) : Prop where
  tab : H Pt = some (.tbl #[])
  scr : H a = none ∨ ∃ ob xs, H a = some (.frz ob (.lst xs))
  sq : SqL K H a (ns.map V.int)
  ok : HOk P w H t.heap
  none' : ∀ b, b ≠ a → b ≠ Pt → H b = none
  own : H a ≠ none → K.lookup a = none
theorem SeenT.at_ {H : Hp} (S : SeenT P w K t a Pt ns H) {b : Addr} (h : H b ≠ none) : b = a ∨ b = Pt := by
  by_cases e : b = a
  · exact .inl e
  · by_cases e2 : b = Pt
    · exact .inr e2
    · exact absurd (S.none' b e e2) h
/-- what is neither the script nor the table is as it stands -/
theorem SeenT.see {H : Hp} (S : SeenT P w K t a Pt ns H) (ha : t.heap.get? a = some (scrO vs)) (hP : t.heap.get? Pt = some tab0) {b : Addr} {o : Obj} (e : t.heap.get? b = some o) (n1 : o ≠ scrO vs) (n2 : o ≠ tab0) : (hidT t.heap H).get? b = some o := by
  refine hidT_get e (Classical.byContradiction fun z => ?_)
  rcases S.at_ z with z | z
  · subst z; rw [ha] at e; exact n1 (Option.some.inj e).symm
  · subst z; rw [hP] at e; exact n2 (Option.some.inj e).symm
theorem SeenT.nsp {H : Hp} (S : SeenT P w K t a Pt ns H) (ha : t.heap.get? a = some (scrO vs)) (hP : t.heap.get? Pt = some tab0) {b : Addr} {m : Str → Option Value} (h : t.heap.Ns b m) : (hidT t.heap H).Ns b m := by
  obtain ⟨o, es, ep, e, d, r⟩ := h
  exact ⟨o, es, ep, S.see ha hP e (fun z => by rw [z] at d; cases d) (fun z => by rw [z] at d; cases d), d, r⟩
theorem SeenT.kIn {H : Hp} (S : SeenT P w K t a Pt ns H) (KX : K.In t.heap) (nP : K.lookup Pt = none) : K.In (hidT t.heap H) := fun b o e => by
  refine hidT_get (KX b o e) (Classical.byContradiction fun z => ?_)
  rcases S.at_ z with q | q
  · subst q; rw [S.own z] at e; cases e
  · subst q; rw [nP] at e; cases e
theorem SeenT.code {H : Hp} (S : SeenT P w K t a Pt ns H) (ha : t.heap.get? a = some (scrO vs)) (hP : t.heap.get? Pt = some tab0) (h : PySem.W.CodeHd t.heap c Pt) : PySem.W.CodeHd (hidT t.heap H) c Pt := by
  obtain ⟨o, us, z1, z2, z3, z4, z5, z6, z7, e, r, d, q⟩ := h
  refine ⟨o, us, z1, z2, z3, z4, z5, z6, z7, S.see ha hP e (fun z => ?_) (fun z => ?_), r, d, q⟩
  · rw [z] at d; cases d
  · rw [z] at d; cases d
    simp at q
theorem SeenT.built {H : Hp} (S : SeenT P w K t a Pt ns H) (ha : t.heap.get? a = some (scrO vs)) (hP : t.heap.get? Pt = some tab0) (h1 : t.heap.Ns mainGlobals mg)
    (hb : ∃ (bm : Addr) (ob : Obj), mg "__builtins__" = some (.ref bm) ∧ bm ≠ builtinsNs ∧ t.heap.get? bm = some ob ∧ ob.cls = .type "module" ∧ ob.dict = some builtinsNs ∧ ob.data = .plain) : (hidT t.heap H).BuiltinsAt mg Pt := by
  obtain ⟨bm, ob, b1, b2, b3, b4, b5, b6⟩ := hb
  have g : bm ≠ mainGlobals := fun q => by
    obtain ⟨o, es, ep, e, d, _⟩ := h1
    rw [q, e] at b3
    cases b3
    rw [d] at b6; cases b6
  have p : bm ≠ Pt := fun q => by
    rw [q, hP] at b3
    cases b3; cases b6
  exact ⟨bm, ob, b1, b2, g, p, S.see ha hP b3 (fun z => by rw [z] at b6; cases b6) (fun z => by rw [z] at b6; cases b6), b4, b5, b6⟩
theorem noXT {H : Hp} {e : Value} {u : Shared} (h : L2.CX P w [] H t (fun _ _ _ => False) e u) : False := by
  obtain ⟨_, _, _, _, _, _, _, _, _, _, _, _, z⟩ := h
  exact z
theorem SeenT.done {H : Hp} (S : SeenT P w K t a Pt ns H) (hP : t.heap.get? Pt = some tab0) (hc : PySem.W.CodeHd t.heap c Pt) {r : Result} {u : Shared} (h : CR (L2.CX P w) [] P w H t (fun v _ => v = .bl true) (fun _ _ _ => False) r u) : GoodT t r u := by
  match r, h with
  | .error _, h => exact (noXT h).elim
  | .ok (.ret y), h =>
    obtain ⟨v, H2, hos, hbare, un, ok2, rel, q⟩ := h
    rw [show v = .bl true from q] at rel
    have ey : y = Value.bool true := rel
    have stays : ∀ b o, b ≠ Pt → t.heap.get? b = some o → u.heap.get? b = some o := fun b o nb e => by
      by_cases hb : b = a
      · subst hb
        rcases S.scr with z | ⟨ob, xs, z⟩
        · exact un.keep b o e z (fun m => by cases m) (by simp)
        · have p1 := (S.ok b _ z).1
          have p2 := (ok2 b _ (un.frzs b ob _ z)).1
          rw [p1] at e
          rw [← Option.some.inj e]; exact p2
      · exact un.keep b o e (S.none' b hb nb) (fun m => by cases m) (by simp)
    obtain ⟨more, hm⟩ := un.tbls Pt #[] S.tab
    have grew : u.heap.get? Pt = some { cls := .none, data := .fields more } := by
      have := ok2 Pt _ hm
      rw [Array.empty_append] at this
      exact this
    refine ⟨by rw [ey], ⟨fun b o e => ?_, fun b o e => ?_⟩, hos, hbare⟩
    · by_cases hb : b = Pt
      · subst hb
        rw [hP] at e
        obtain rfl := Option.some.inj e
        exact .inr (.inl ⟨(hc.tab hP).isCodeTable, rfl, #[], more, rfl, by rw [Array.empty_append]; exact grew⟩)
      · exact .inl (stays b o hb e)
    · by_cases hb : b = Pt
      · subst hb; exact ⟨_, grew⟩
      · exact ⟨o, stays b o hb e⟩
theorem SeenT.run {H : Hp} (S : SeenT P w K t a Pt ns H) (KX : K.In t.heap) (h1 : t.heap.Ns mainGlobals mg) (h2 : t.heap.Ns builtinsNs mb) (h3 : ∀ y : Str, y ≠ "__name__" → mb y = bootBuiltins y) (h4 : t.heap.NoLimit) (h5 : t.gens = #[])
    (ha : t.heap.get? a = some (scrO vs)) (hP : t.heap.get? Pt = some tab0) (nP : K.lookup Pt = none) (hc : PySem.W.CodeHd t.heap c Pt)
    (hb : ∃ (bm : Addr) (ob : Obj), mg "__builtins__" = some (.ref bm) ∧ bm ≠ builtinsNs ∧ t.heap.get? bm = some ob ∧ ob.cls = .type "module" ∧ ob.dict = some builtinsNs ∧ ob.data = .plain) (room : Room k callerA)
    (F : ∀ base : Heap, TabB base mg c Pt → FnG P w K mg base k fa fd [x] sp) (bd : ∀ (s : Shared) (y : Value), BindsTo s fd ⟨[y], []⟩ [(x, y)])
    (hsp : sp [.ref a] H (fun v _ => v = .bl true) fun _ _ _ => False) : codeAny (model P w) callerA (.call (.ref fa) ⟨[.ref a], []⟩) (GoodT t) t := by
  obtain ⟨mc, c1, c2⟩ := h4
  have md : Mod K mg (hidT t.heap H) := ⟨S.kIn KX nP, S.nsp ha hP h1, ⟨mb, S.nsp ha hP h2, h3⟩, ⟨mc, S.nsp ha hP c1, c2⟩⟩
  have gP : mainGlobals ≠ Pt := fun z => by
    obtain ⟨o, es, ep, e, d, _⟩ := h1
    rw [z, hP] at e
    cases e; cases d
  have ev : Env0 P w K mg (hidT t.heap H) callerA [] t H := {
    frames := rfl
    mod := md
    bs := fun b o e => of_hidT e
    bsz := Nat.le_of_eq (hidT_size _ _)
    funs := trivial
    frf := fun b hb => by cases hb
    hok := S.ok
    bare := .of_eq h5 }
  have q := (F _ ⟨S.code ha hP hc, S.built ha hP h1 hb, gP⟩).go callerA [] t H ⟨[.ref a], []⟩ [.ref a] [.ref a] _ _ room rfl ev (bd t (.ref a)) (.cons rfl .nil) hsp
  exact codeAny_mono q fun r u h => S.done hP hc h
theorem endT (KX : K.In t.heap) (h1 : t.heap.Ns mainGlobals mg) (h2 : t.heap.Ns builtinsNs mb) (h3 : ∀ y : Str, y ≠ "__name__" → mb y = bootBuiltins y) (h4 : t.heap.NoLimit) (h5 : t.gens = #[])
    (ha : t.heap.get? a = some (scrO vs)) (hi : IntsAre vs ns) (hl : ns.length ≤ sizeLine) (hP : t.heap.get? Pt = some tab0) (nP : K.lookup Pt = none) (hc : PySem.W.CodeHd t.heap c Pt)
    (hb : ∃ (bm : Addr) (ob : Obj), mg "__builtins__" = some (.ref bm) ∧ bm ≠ builtinsNs ∧ t.heap.get? bm = some ob ∧ ob.cls = .type "module" ∧ ob.dict = some builtinsNs ∧ ob.data = .plain) (room : Room k callerA)
    (F : ∀ base : Heap, TabB base mg c Pt → FnG P w K mg base k fa fd [x] sp) (bd : ∀ (s : Shared) (y : Value), BindsTo s fd ⟨[y], []⟩ [(x, y)])
    (hsp : ∀ H : Hp, H Pt = some (.tbl #[]) → SqL K H a (ns.map V.int) → sp [.ref a] H (fun v _ => v = .bl true) fun _ _ _ => False) : codeAny (model P w) callerA (.call (.ref fa) ⟨[.ref a], []⟩) (GoodT t) t := by
  have rel := vals_ints hi
  have hn := hi.length
  have nAP : a ≠ Pt := fun z => by
    rw [z, hP] at ha; cases ha
  obtain ⟨H, S⟩ : ∃ H : Hp, SeenT P w K t a Pt ns H := by
    cases e : K.lookup a with
    | some o =>
      have e2 := KX a o e
      rw [ha] at e2
      have eo := Option.some.inj e2
      refine ⟨upd (fun _ => none) Pt (.tbl #[]), upd_same, .inl (upd_ne nAP), ?_, ?_, fun b _ n => upd_ne n, fun z => absurd (upd_ne nAP) z⟩
      · exact .inr ⟨_, vs.toArray, _, by rw [e, ← eo], rfl, rfl, rfl, by rw [List.size_toArray]; omega, by rw [List.toList_toArray]; exact rel⟩
      · intro b u z
        by_cases hb : b = Pt
        · subst hb; rw [upd_same] at z; cases z; exact hP
        · rw [upd_ne hb] at z; cases z
    | none =>
      refine ⟨upd (upd (fun _ => none) a (.frz (scrO vs) (.lst (ns.map V.int)))) Pt (.tbl #[]), upd_same, .inr ⟨_, _, by rw [upd_ne nAP]; exact upd_same⟩, ?_, ?_, fun b n1 n2 => by rw [upd_ne n2]; exact upd_ne n1, fun _ => e⟩
      · exact .inl (.inr ⟨_, by rw [upd_ne nAP]; exact upd_same⟩)
      · intro b u z
        by_cases hb : b = Pt
        · subst hb; rw [upd_same] at z; cases z; exact hP
        · rw [upd_ne hb] at z
          by_cases h2 : b = a
          · subst h2
            rw [upd_same] at z
            cases z
            exact ⟨ha, by rw [List.length_map]; exact hl, vs, _, rel, ha⟩
          · rw [upd_ne h2] at z; cases z
  exact S.run KX h1 h2 h3 h4 h5 ha hP nP hc hb room F bd (hsp H S.tab S.sq)
/-- what the promise of a law with a table is asked for by the judge -/
theorem says_of {C : CT} {q : Str} {f : List D → Fr} {H : Hp} (ht : H Pt = some (.tbl #[])) (sq : SqL K H a (ns.map V.int)) (h : f [.scr ns] = .ok (.bl true)) : spT K C [(Pt, q)] 1 f [.ref a] H (fun v _ => v = .bl true) fun _ _ _ => False := by
  refine ⟨strip H, [.scr ns], fun b o e => (of_strip e).1, strip_noT H, fun p hp => ?_, .cons ⟨a, rfl, ?_⟩ .nil, rfl, ?_⟩
  · rw [List.mem_singleton.mp hp]
    exact ⟨#[], ht, trivial, fun pos cv hcv => by cases hcv⟩
  · rcases sq with (z | ⟨o, z⟩) | z
    · exact .inl (.inl (strip_of z fun _ => nofun))
    · exact .inl (.inr ⟨o, strip_of z fun _ => nofun⟩)
    · exact .inr z
  · rw [h]
    exact fun v S' H' _ r => r
end
end PL
/-! PEM: the law's call by the judge, several tables of code -/
namespace PL
open PySem PySem.Spec PyProof.Rows L2
open LamX (TabB Tabs)
theorem memT {T : List (Addr × Str)} {p : Addr × Str} (i : Nat) (h : T[i]? = some p) : p ∈ T := List.mem_of_getElem? h
theorem oneT {T : List (Addr × Str)} {P : Addr} {q : Str} (i : Nat) (nd : (T.map (·.1)).Nodup) (h : T[i]? = some (P, q)) : ∀ p ∈ T, p.1 = P → p.2 = q := by
  intro p hp e
  obtain ⟨j, hj⟩ := List.getElem?_of_mem hp
  have a1 : (T.map (·.1))[i]? = some P := by rw [List.getElem?_map, h]; rfl
  have a2 : (T.map (·.1))[j]? = some P := by rw [List.getElem?_map, hj, ← e]; rfl
  have l1 : i < (T.map (·.1)).length := (List.getElem?_eq_some_iff.mp a1).1
  have ij : i = j := (List.getElem?_inj l1 nd).mp (a1.trans a2.symm)
  rw [ij, hj] at h
  exact congrArg (·.2) (Option.some.inj h)
section
variable {P : Program} {w : World} {K : PySem.W.Frag} {mg mb : Str → Option Value} {k : Nat} {fa a : Addr} {Ts : List (Addr × Addr)} {fd : FuncData} {x : Str} {sp : Sp} {t : Shared} {vs : List Value} {ns : List Int}
/-- what the promise sees at the beginning: the tables, and maybe the script -/
structure SeenM (P : Program) (w : World) (K : PySem.W.Frag) (t : Shared) (a : Addr) (Ts : List (Addr × Addr)) (ns : List Int) (H : Hp) : Prop where
  tab : ∀ p ∈ Ts, H p.2 = some (.tbl #[])
  scr : H a = none ∨ ∃ ob xs, H a = some (.frz ob (.lst xs))
  sq : SqL K H a (ns.map V.int)
  ok : HOk P w H t.heap
  none' : ∀ b, b ≠ a → (∀ p ∈ Ts, b ≠ p.2) → H b = none
  own : H a ≠ none → K.lookup a = none
theorem SeenM.at_ {H : Hp} (S : SeenM P w K t a Ts ns H) {b : Addr} (h : H b ≠ none) : b = a ∨ ∃ p ∈ Ts, b = p.2 := by
  by_cases e : b = a
  · exact .inl e
  · by_cases e2 : ∃ p ∈ Ts, b = p.2
    · exact .inr e2
    · exact absurd (S.none' b e fun p hp z => e2 ⟨p, hp, z⟩) h
theorem SeenM.see {H : Hp} (S : SeenM P w K t a Ts ns H) (ha : t.heap.get? a = some (scrO vs)) (hP : ∀ p ∈ Ts, t.heap.get? p.2 = some tab0) {b : Addr} {o : Obj} (e : t.heap.get? b = some o) (n1 : o ≠ scrO vs) (n2 : o ≠ tab0) : (hidT t.heap H).get? b = some o := by
  refine hidT_get e (Classical.byContradiction fun z => ?_)
  rcases S.at_ z with z | ⟨p, hp, z⟩
  · subst z; rw [ha] at e; exact n1 (Option.some.inj e).symm
  · subst z; rw [hP p hp] at e; exact n2 (Option.some.inj e).symm
theorem SeenM.nsp {H : Hp} (S : SeenM P w K t a Ts ns H) (ha : t.heap.get? a = some (scrO vs)) (hP : ∀ p ∈ Ts, t.heap.get? p.2 = some tab0) {b : Addr} {m : Str → Option Value} (h : t.heap.Ns b m) : (hidT t.heap H).Ns b m := by
  obtain ⟨o, es, ep, e, d, r⟩ := h
  exact ⟨o, es, ep, S.see ha hP e (fun z => by rw [z] at d; cases d) (fun z => by rw [z] at d; cases d), d, r⟩
theorem SeenM.kIn {H : Hp} (S : SeenM P w K t a Ts ns H) (KX : K.In t.heap) (nP : ∀ p ∈ Ts, K.lookup p.2 = none) : K.In (hidT t.heap H) := fun b o e => by
  refine hidT_get (KX b o e) (Classical.byContradiction fun z => ?_)
  rcases S.at_ z with q | ⟨p, hp, q⟩
  · subst q; rw [S.own z] at e; cases e
  · subst q; rw [nP p hp] at e; cases e
theorem SeenM.code {H : Hp} (S : SeenM P w K t a Ts ns H) (ha : t.heap.get? a = some (scrO vs)) (hP : ∀ p ∈ Ts, t.heap.get? p.2 = some tab0) {c Pt : Addr} (h : PySem.W.CodeHd t.heap c Pt) : PySem.W.CodeHd (hidT t.heap H) c Pt := by
  obtain ⟨o, us, z1, z2, z3, z4, z5, z6, z7, e, r, d, q⟩ := h
  refine ⟨o, us, z1, z2, z3, z4, z5, z6, z7, S.see ha hP e (fun z => ?_) (fun z => ?_), r, d, q⟩
  · rw [z] at d; cases d
  · rw [z] at d; cases d
    simp at q
theorem SeenM.built {H : Hp} (S : SeenM P w K t a Ts ns H) (ha : t.heap.get? a = some (scrO vs)) (hP : ∀ p ∈ Ts, t.heap.get? p.2 = some tab0) (h1 : t.heap.Ns mainGlobals mg)
    (hb : ∃ (bm : Addr) (ob : Obj), mg "__builtins__" = some (.ref bm) ∧ bm ≠ builtinsNs ∧ t.heap.get? bm = some ob ∧ ob.cls = .type "module" ∧ ob.dict = some builtinsNs ∧ ob.data = .plain) {Pt : Addr} (hp : t.heap.get? Pt = some tab0) : (hidT t.heap H).BuiltinsAt mg Pt := by
  obtain ⟨bm, ob, b1, b2, b3, b4, b5, b6⟩ := hb
  have g : bm ≠ mainGlobals := fun q => by
    obtain ⟨o, es, ep, e, d, _⟩ := h1
    rw [q, e] at b3
    cases b3
    rw [d] at b6; cases b6
  have p : bm ≠ Pt := fun q => by
    rw [q, hp] at b3
    cases b3; cases b6
  exact ⟨bm, ob, b1, b2, g, p, S.see ha hP b3 (fun z => by rw [z] at b6; cases b6) (fun z => by rw [z] at b6; cases b6), b4, b5, b6⟩
theorem SeenM.done {H : Hp} (S : SeenM P w K t a Ts ns H) (hP : ∀ p ∈ Ts, t.heap.get? p.2 = some tab0) (hc : ∀ p ∈ Ts, PySem.W.CodeHd t.heap p.1 p.2) {r : Result} {u : Shared} (h : CR (L2.CX P w) [] P w H t (fun v _ => v = .bl true) (fun _ _ _ => False) r u) : GoodT t r u := by
  match r, h with
  | .error _, h => exact (noXT h).elim
  | .ok (.ret y), h =>
    obtain ⟨v, H2, hos, hbare, un, ok2, rel, q⟩ := h
    rw [show v = .bl true from q] at rel
    have ey : y = Value.bool true := rel
    have stays : ∀ b o, (∀ p ∈ Ts, b ≠ p.2) → t.heap.get? b = some o → u.heap.get? b = some o := fun b o nb e => by
      by_cases hb : b = a
      · subst hb
        rcases S.scr with z | ⟨ob, xs, z⟩
        · exact un.keep b o e z (fun m => by cases m) (by simp)
        · have p1 := (S.ok b _ z).1
          have p2 := (ok2 b _ (un.frzs b ob _ z)).1
          rw [p1] at e
          rw [← Option.some.inj e]; exact p2
      · exact un.keep b o e (S.none' b hb nb) (fun m => by cases m) (by simp)
    have grew : ∀ p ∈ Ts, ∃ more, u.heap.get? p.2 = some { cls := .none, data := .fields more } := fun p hp => by
      obtain ⟨more, hm⟩ := un.tbls p.2 #[] (S.tab p hp)
      have := ok2 p.2 _ hm
      rw [Array.empty_append] at this
      exact ⟨more, this⟩
    refine ⟨by rw [ey], ⟨fun b o e => ?_, fun b o e => ?_⟩, hos, hbare⟩
    · by_cases hb : ∃ p ∈ Ts, b = p.2
      · obtain ⟨p, hp, hb⟩ := hb
        subst hb
        rw [hP p hp] at e
        obtain rfl := Option.some.inj e
        obtain ⟨more, g⟩ := grew p hp
        exact .inr (.inl ⟨((hc p hp).tab (hP p hp)).isCodeTable, rfl, #[], more, rfl, by rw [Array.empty_append]; exact g⟩)
      · exact .inl (stays b o (fun p hp z => hb ⟨p, hp, z⟩) e)
    · by_cases hb : ∃ p ∈ Ts, b = p.2
      · obtain ⟨p, hp, hb⟩ := hb
        subst hb
        obtain ⟨more, g⟩ := grew p hp
        exact ⟨_, g⟩
      · exact ⟨o, stays b o (fun p hp z => hb ⟨p, hp, z⟩) e⟩
theorem SeenM.run {H : Hp} (S : SeenM P w K t a Ts ns H) (KX : K.In t.heap) (h1 : t.heap.Ns mainGlobals mg) (h2 : t.heap.Ns builtinsNs mb) (h3 : ∀ y : Str, y ≠ "__name__" → mb y = bootBuiltins y) (h4 : t.heap.NoLimit) (h5 : t.gens = #[])
    (ha : t.heap.get? a = some (scrO vs)) (hP : ∀ p ∈ Ts, t.heap.get? p.2 = some tab0) (nP : ∀ p ∈ Ts, K.lookup p.2 = none) (hc : ∀ p ∈ Ts, PySem.W.CodeHd t.heap p.1 p.2)
    (hb : ∃ (bm : Addr) (ob : Obj), mg "__builtins__" = some (.ref bm) ∧ bm ≠ builtinsNs ∧ t.heap.get? bm = some ob ∧ ob.cls = .type "module" ∧ ob.dict = some builtinsNs ∧ ob.data = .plain) (room : Room k callerA)
    (F : ∀ base : Heap, (∀ p ∈ Ts, TabB base mg p.1 p.2) → FnG P w K mg base k fa fd [x] sp) (bd : ∀ (s : Shared) (y : Value), BindsTo s fd ⟨[y], []⟩ [(x, y)])
    (hsp : sp [.ref a] H (fun v _ => v = .bl true) fun _ _ _ => False) : codeAny (model P w) callerA (.call (.ref fa) ⟨[.ref a], []⟩) (GoodT t) t := by
  obtain ⟨mc, c1, c2⟩ := h4
  have md : Mod K mg (hidT t.heap H) := ⟨S.kIn KX nP, S.nsp ha hP h1, ⟨mb, S.nsp ha hP h2, h3⟩, ⟨mc, S.nsp ha hP c1, c2⟩⟩
  have gP : ∀ p ∈ Ts, mainGlobals ≠ p.2 := fun p hp z => by
    obtain ⟨o, es, ep, e, d, _⟩ := h1
    rw [z, hP p hp] at e
    cases e; cases d
  have ev : Env0 P w K mg (hidT t.heap H) callerA [] t H := {
    frames := rfl
    mod := md
    bs := fun b o e => of_hidT e
    bsz := Nat.le_of_eq (hidT_size _ _)
    funs := trivial
    frf := fun b hb => by cases hb
    hok := S.ok
    bare := .of_eq h5 }
  have q := (F _ fun p hp => ⟨S.code ha hP (hc p hp), S.built ha hP h1 hb (hP p hp), gP p hp⟩).go callerA [] t H ⟨[.ref a], []⟩ [.ref a] [.ref a] _ _ room rfl ev (bd t (.ref a)) (.cons rfl .nil) hsp
  exact codeAny_mono q fun r u h => S.done hP hc h
theorem endM (KX : K.In t.heap) (h1 : t.heap.Ns mainGlobals mg) (h2 : t.heap.Ns builtinsNs mb) (h3 : ∀ y : Str, y ≠ "__name__" → mb y = bootBuiltins y) (h4 : t.heap.NoLimit) (h5 : t.gens = #[])
    (ha : t.heap.get? a = some (scrO vs)) (hi : IntsAre vs ns) (hl : ns.length ≤ sizeLine) (hP : ∀ p ∈ Ts, t.heap.get? p.2 = some tab0) (nP : ∀ p ∈ Ts, K.lookup p.2 = none) (hc : ∀ p ∈ Ts, PySem.W.CodeHd t.heap p.1 p.2)
    (hb : ∃ (bm : Addr) (ob : Obj), mg "__builtins__" = some (.ref bm) ∧ bm ≠ builtinsNs ∧ t.heap.get? bm = some ob ∧ ob.cls = .type "module" ∧ ob.dict = some builtinsNs ∧ ob.data = .plain) (room : Room k callerA)
    (F : ∀ base : Heap, (∀ p ∈ Ts, TabB base mg p.1 p.2) → FnG P w K mg base k fa fd [x] sp) (bd : ∀ (s : Shared) (y : Value), BindsTo s fd ⟨[y], []⟩ [(x, y)])
    (hsp : ∀ H : Hp, (∀ p ∈ Ts, H p.2 = some (.tbl #[])) → SqL K H a (ns.map V.int) → sp [.ref a] H (fun v _ => v = .bl true) fun _ _ _ => False) : codeAny (model P w) callerA (.call (.ref fa) ⟨[.ref a], []⟩) (GoodT t) t := by
  have rel := vals_ints hi
  have hn := hi.length
  have nAP : a ∉ Ts.map (·.2) := fun z => by
    obtain ⟨p, hp, e⟩ := List.mem_map.mp z
    rw [← e, hP p hp] at ha; cases ha
  have isP : ∀ p ∈ Ts, p.2 ∈ Ts.map (·.2) := fun p hp => List.mem_map.mpr ⟨p, hp, rfl⟩
  have noP : ∀ b, (∀ p ∈ Ts, b ≠ p.2) → b ∉ Ts.map (·.2) := fun b h z => by
    obtain ⟨p, hp, e⟩ := List.mem_map.mp z
    exact h p hp e.symm
  obtain ⟨H, S⟩ : ∃ H : Hp, SeenM P w K t a Ts ns H := by
    cases e : K.lookup a with
    | some o =>
      have e2 := KX a o e
      rw [ha] at e2
      have eo := Option.some.inj e2
      have eA : (if a ∈ Ts.map (·.2) then some (HO.tbl #[]) else none) = none := if_neg nAP
      refine ⟨fun b => if b ∈ Ts.map (·.2) then some (.tbl #[]) else none, fun p hp => if_pos (isP p hp), .inl eA, ?_, ?_, fun b _ n => if_neg (noP b n), fun z => absurd eA z⟩
      · exact .inr ⟨_, vs.toArray, _, by rw [e, ← eo], rfl, rfl, rfl, by rw [List.size_toArray]; omega, by rw [List.toList_toArray]; exact rel⟩
      · intro b u z
        dsimp only at z
        by_cases hb : b ∈ Ts.map (·.2)
        · rw [if_pos hb] at z; cases z
          obtain ⟨p, hp, e⟩ := List.mem_map.mp hb
          rw [← e]
          exact hP p hp
        · rw [if_neg hb] at z; cases z
    | none =>
      have eA : (if a ∈ Ts.map (·.2) then some (HO.tbl #[]) else if a = a then some (HO.frz (scrO vs) (.lst (ns.map V.int))) else none) = some (HO.frz (scrO vs) (.lst (ns.map V.int))) := by rw [if_neg nAP, if_pos rfl]
      refine ⟨fun b => if b ∈ Ts.map (·.2) then some (.tbl #[]) else if b = a then some (.frz (scrO vs) (.lst (ns.map V.int))) else none, fun p hp => if_pos (isP p hp), .inr ⟨_, _, eA⟩, ?_, ?_, fun b n1 n2 => by rw [if_neg (noP b n2), if_neg n1], fun _ => e⟩
      · exact .inl (.inr ⟨_, eA⟩)
      · intro b u z
        dsimp only at z
        by_cases hb : b ∈ Ts.map (·.2)
        · rw [if_pos hb] at z; cases z
          obtain ⟨p, hp, e⟩ := List.mem_map.mp hb
          rw [← e]
          exact hP p hp
        · rw [if_neg hb] at z
          by_cases h2 : b = a
          · subst h2
            rw [if_pos rfl] at z
            cases z
            exact ⟨ha, by rw [List.length_map]; exact hl, vs, _, rel, ha⟩
          · rw [if_neg h2] at z; cases z
  exact S.run KX h1 h2 h3 h4 h5 ha hP nP hc hb room F bd (hsp H S.tab S.sq)
theorem says_ofM {C : CT} {T : List (Addr × Str)} {f : List D → Fr} {H : Hp} (ht : ∀ p ∈ T, H p.1 = some (.tbl #[])) (sq : SqL K H a (ns.map V.int)) (h : f [.scr ns] = .ok (.bl true)) : spT K C T 1 f [.ref a] H (fun v _ => v = .bl true) fun _ _ _ => False := by
  refine ⟨strip H, [.scr ns], fun b o e => (of_strip e).1, strip_noT H, fun p hp => ?_, .cons ⟨a, rfl, ?_⟩ .nil, rfl, ?_⟩
  · exact ⟨#[], ht p hp, trivial, fun pos cv hcv => by cases hcv⟩
  · rcases sq with (z | ⟨o, z⟩) | z
    · exact .inl (.inl (strip_of z fun _ => nofun))
    · exact .inl (.inr ⟨o, strip_of z fun _ => nofun⟩)
    · exact .inr z
  · rw [h]
    exact fun v S' H' _ r => r
end
end PL
/-! PLU: comprehensions whose parts may make lambdas: the tables stay named -/
namespace PL
open PySem L2
open Classical in
/-- looked at anew, the tables and what is owned left out -/
noncomputable def GC.reT (G : GC) (S H : Hp) (σ : St) (ρ : Ev) : GC := { G with H0 := fun b => if ∃ j, Ow ρ σ j b then none else strip H b, S0 := S, M := fun _ => False }
section
variable {G : GC} {S H S' H' : Hp} {σ σ' : St} {ρ ρ' : Ev} {T : List (Addr × Str)}
open Classical in
theorem reT_at {b : Addr} {o : HO} (h : H b = some o) (n : ∀ ps, o ≠ .tbl ps) (nO : ∀ j, ¬ Ow ρ σ j b) : (G.reT S H σ ρ).H0 b = some o := by
  show (if ∃ j, Ow ρ σ j b then none else strip H b) = _
  rw [if_neg (fun ⟨j, z⟩ => nO j z)]
  exact strip_of h n
open Classical in
theorem of_reT {b : Addr} {o : HO} (h : (G.reT S H σ ρ).H0 b = some o) : H b = some o ∧ (∀ ps, o ≠ .tbl ps) ∧ ∀ j, ¬ Ow ρ σ j b := by
  have h : (if ∃ j, Ow ρ σ j b then none else strip H b) = some o := h
  by_cases c : ∃ j, Ow ρ σ j b
  · rw [if_pos c] at h; cases h
  · rw [if_neg c] at h
    exact ⟨(of_strip h).1, (of_strip h).2, fun j z => c ⟨j, z⟩⟩
open Classical in
theorem Rel.tgT (tg : TG G T) (R : Rel G S H σ ρ) : TG (G.reT S H σ ρ) T :=
  ⟨tg.eT, fun b ps e => (of_reT e).2.1 ps rfl, R.no tg, fun b z => z.elim⟩
open Classical in
theorem Rel.intoT (tg : TG G T) (R : Rel G S H σ ρ) : Rel (G.reT S H σ ρ) S H σ ρ := by
  refine ⟨R.sub, Same.refl _, fun b o h _ => (of_reT h).1, fun b o h => ⟨o, (of_reT h).1⟩, fun _ _ h => .inl h, R.sl, R.dis, fun i a h => .inr ?_, R.mt, R.len, R.tb, id⟩
  show (if ∃ j, Ow ρ σ j a then none else strip H a) = none
  rw [if_pos ⟨i, h⟩]
open Classical in
/-- what was not there, or was owned, is not the caller's -/
theorem Rel.outside (tg : TG G T) (R : Rel G S H σ ρ) {a : Addr} (h : (G.reT S H σ ρ).H0 a = none) : G.M a ∨ G.H0 a = none := by
  have h : (if ∃ j, Ow ρ σ j a then none else strip H a) = none := h
  by_cases c : ∃ j, Ow ρ σ j a
  · obtain ⟨j, z⟩ := c
    exact R.mine j a z
  · rw [if_neg c] at h
    cases e : G.H0 a with
    | none => exact .inr rfl
    | some o =>
      by_cases m : G.M a
      · exact .inl m
      · have := strip_of (R.fr a o e m) fun ps z => tg.h0 a ps (by rw [e, z])
        rw [h] at this; cases this
open Classical in
theorem Rel.outofT (tg : TG G T) (R : Rel G S H σ ρ) (R' : Rel (G.reT S H σ ρ) S' H' σ' ρ') : Rel G S' H' σ' ρ' := by
  have fr : ∀ b o, G.H0 b = some o → ¬ G.M b → H' b = some o := fun b o e m => by
    refine R'.fr b o (reT_at (R.fr b o e m) (fun ps z => tg.h0 b ps (by rw [e, z])) fun j z => ?_) (fun z => z)
    rcases R.mine j b z with y | y
    · exact m y
    · rw [e] at y; cases y
  refine ⟨R'.sub, R.old.trans R'.old, fr, fun b o e => ?_, fun a o e => ?_, R'.sl, R'.dis, fun i a h => ?_, R'.mt, R'.len, R'.tb, fun n => R'.nt (R.nt n)⟩
  · by_cases m : G.M b
    · obtain ⟨e0, sl, e1, e2⟩ := R'.mt b (tg.m b m)
      have h := R'.sl 0 sl e1
      rw [e0] at h
      cases sl with
      | no => cases e2
      | adr => cases e2
      | val d => cases e2
      | own xs => obtain ⟨a, vs, e, _, q, _⟩ := h; cases e; exact ⟨_, q⟩
      | obj c fs => obtain ⟨a, dx, vs, e, _, _, _, _, q, _⟩ := h; cases e; exact ⟨_, q⟩
    · exact ⟨o, fr b o e m⟩
  · rcases R'.nw a o e with z | z | z
    · exact R.nw a o z
    · exact .inr (R.outside tg z).symm
    · exact z.elim
  · rcases R'.mine i a h with z | z
    · exact z.elim
    · exact R.outside tg z
end
section
variable {X : Cx} {G : GC} {W : Wx} {pos : Pos}
theorem comp_turnsT {vs : List Nat} {tg : D → Ev → Option Ev} {c : Ev → Rs Bool} {e : Ev → Rs D} {ws : List Nat} {J : It} {S1 H1 : Hp} {σ : St} {ρ1 : Ev} {ds ys : List D} {ρ2 : Ev} {g : GC → L2.TG} {tt : GC → TT} {te : GC → TE} {D0 : Addr} {Q : V → Hp → Prop}
    {T : List (Addr × Str)} (tgT : TG G T) (h0 : 0 ∉ vs) (hws : ∀ i ∈ ws, i ∈ vs) (R : Rel G S1 H1 σ ρ1) (F : Feeds G S1 J ds) (hD : H1 D0 = none) (ec : compL vs tg c e ds (wipeE ρ1 vs) = .ok ys ρ2) (hl : ys.length ≤ sizeLine)
    (g0 : L2.TG) (t0 : TT) (te0 : TE) (hg : ∀ G' : GC, G'.K = G.K → G'.C = G.C → TG G' T → ∀ v σ H Q, pG G' tg ws v σ H Q → g0 v σ H Q) (ht : ∀ G' : GC, G'.K = G.K → G'.C = G.C → TG G' T → ∀ σ H Q, pT G' W0 c σ H Q → t0 σ H Q) (he : ∀ G' : GC, G'.K = G.K → G'.C = G.C → TG G' T → ∀ σ H Q, pE G' W0 e σ H Q → te0 σ H Q)
    (hQ : ∀ S' H' zs, Same S1 S' → Rel G S' H' σ ρ2 → S' D0 = none → (∀ j, ¬ Ow ρ2 σ j D0) → H' D0 = some (.lst zs) → Rps G.K G.C S' ys zs → Q (.ref D0) H') :
    ∃ W : Nat → Nat → Hp → Prop, (∃ m, W 0 m (upd H1 D0 (.lst []))) ∧ ∀ i m H, W i m H →
      (J.stop i H ∧ Q (.ref D0) H) ∨ (J.go i H ∧ ∃ Nx : Hp → Prop, (∀ H', Nx H' → ∃ m', m' < m ∧ W (i + 1) m' H') ∧ ∀ x H', J.yld i H x H' → g0 x (wipe σ vs) H' fun σ2 H2 => wipe σ2 vs = wipe σ vs ∧ t0 σ2 H2 fun b H3 =>
        if b = true then te0 σ2 H3 fun y H4 => ∃ acc, H4 D0 = some (.lst acc) ∧ acc.length < sizeLine ∧ Nx (upd H4 D0 (.lst (acc ++ [y]))) else Nx H3) := by
  obtain ⟨hn0, hn1, hn2⟩ := R.new0 hD
  -- the state at turn i
  let St_ : Nat → Hp → Prop := fun i H => ∃ (S' : Hp) (ρ' : Ev) (done rest : List D) (zs : List V), Same S1 S' ∧ Rel G S' H (wipe σ vs) ρ' ∧ S' D0 = none ∧ (∀ j, ¬ Ow ρ' (wipe σ vs) j D0) ∧ H D0 = some (.lst zs) ∧ Rps G.K G.C S' done zs ∧
    compL vs tg c e (ds.drop i) ρ' = .ok rest ρ2 ∧ ys = done ++ rest ∧ wipeE ρ' vs = ρ'
  have wE : ∀ (ρ : Ev), wipeE (wipeE ρ vs) vs = wipeE ρ vs := fun ρ => by
    apply List.ext_getElem?
    intro i
    rw [wipeE_get, wipeE_length]
    by_cases q : i ∈ vs ∧ i < ρ.length
    · rw [if_pos q, wipeE_get, if_pos q]
    · rw [if_neg q]
  have sw : ∀ {S' H' : Hp} {ρ' : Ev}, Rel G S' H' σ ρ' → Rel G S' H' (wipe σ vs) (wipeE ρ' vs) := fun R' => R'.wiped h0 (wipe_wipe σ vs)
  have owW : ∀ {ρ' : Ev} {σ1 : St} {j a}, wipe σ1 vs = wipe σ vs → Ow (wipeE ρ' vs) (wipe σ vs) j a → Ow ρ' σ1 j a := fun {ρ' σ1 j a} hσ ⟨⟨sl, e1, m⟩, e2⟩ => by
    rw [wipeE_get] at e1
    by_cases q : j ∈ vs ∧ j < ρ'.length
    · rw [if_pos q] at e1; cases e1; cases m
    · rw [if_neg q] at e1
      rw [← hσ, wipe_get] at e2
      by_cases q2 : j ∈ vs ∧ j < σ1.length
      · rw [if_pos q2] at e2; cases e2
      · rw [if_neg q2] at e2
        exact ⟨⟨sl, e1, m⟩, e2⟩
  refine ⟨fun i m H => m = ds.length - i ∧ i ≤ ds.length ∧ St_ i H, ⟨ds.length, by simp, Nat.zero_le _, S1, wipeE ρ1 vs, [], ys, [], Same.refl _, sw (R.grow (Grow.loose R.sub _ hD)), hn1, fun j h => hn2 j (owW (wipe_wipe σ vs ▸ rfl) h), upd_same, rfl, ec, rfl, wE ρ1⟩, ?_⟩
  rintro i m H ⟨rfl, hi, S2, ρ', done, rest, zs, s2, R2, nD, oD, hDz, rz, ec2, ey, ew⟩
  by_cases hlt : i < ds.length
  · obtain ⟨go, yl⟩ := F.1 i S2 H s2 R2.sub hlt
    refine .inr ⟨go, St_ (i + 1), fun H' z => ⟨ds.length - (i + 1), by omega, rfl, hlt, z⟩, fun x H' y => ?_⟩
    obtain ⟨S3, d, gr, hd, rx⟩ := yl x H' y
    have ed : ds.drop i = d :: ds.drop (i + 1) := by
      rw [List.drop_eq_getElem_cons hlt]
      rw [List.getElem?_eq_getElem hlt] at hd
      cases hd
      rfl
    rw [ed] at ec2
    have R3 := R2.grow gr
    have nD3 : S3 D0 = none := by
      cases z : S3 D0 with
      | none => rfl
      | some o =>
        rcases gr.nw D0 o z with y | y
        · rw [nD] at y; cases y
        · rw [hDz] at y; cases y
    have hD3 := gr.hH _ _ hDz
    -- from here on, looked at anew
    let G' := G.reT S3 H' (wipe σ vs) ρ'
    have R3' : Rel G' S3 H' (wipe σ vs) ρ' := R3.intoT tgT
    have tg' : TG G' T := R3.tgT tgT
    have notM : ¬ G'.M D0 := fun z => z
    have hD4 : G'.H0 D0 = some (.lst zs) := reT_at hD3 (fun _ => nofun) oD
    have ec2 : (match tg d ρ' with
      | none => Rs.stuck
      | some ρ1 => (match c ρ1 with
        | .ok true ρ2 => (match e ρ2 with
          | .ok y ρ3 => (match compL vs tg c e (ds.drop (i + 1)) (wipeE ρ3 vs) with
            | .ok ys ρ4 => .ok (y :: ys) ρ4
            | _ => .stuck)
          | _ => .stuck)
        | .ok false ρ2 => compL vs tg c e (ds.drop (i + 1)) (wipeE ρ2 vs)
        | _ => .stuck)) = Rs.ok rest ρ2 := ec2
    refine hg G' rfl rfl tg' _ _ _ _ ⟨S3, ρ', d, R3', rx, ?_⟩
    cases et : tg d ρ' with
    | none => rw [et] at ec2; cases ec2
    | some ρ3 =>
      rw [et] at ec2
      dsimp only at ec2 ⊢
      intro σ4 S4 H4 g4 R4 o4
      have hσ : wipe σ4 vs = wipe σ vs := (wipe_off o4 hws).trans (wipe_wipe σ vs)
      refine ⟨hσ, ht G' rfl rfl tg' _ _ _ ⟨S4, ρ3, R4, ?_⟩⟩
      -- how D0 stands behind a piece
      have keepD : ∀ {S' H' : Hp} {ρ5 : Ev}, Rel G' S' H' σ4 ρ5 → H' D0 = some (.lst zs) ∧ S' D0 = none ∧ ∀ j, ¬ Ow ρ5 σ4 j D0 := fun {S' H' ρ5} R5 => by
        refine ⟨R5.fr D0 _ hD4 notM, ?_, fun j h => ?_⟩
        · cases z : S' D0 with
          | none => rfl
          | some o =>
            rcases R5.nw D0 o z with y | y | y
            · have y : S3 D0 = some o := y
              rw [nD3] at y; cases y
            · have y : G'.H0 D0 = none := y
              have z2 : some (HO.lst zs) = none := hD4.symm.trans y
              cases z2
            · exact absurd y notM
        · rcases R5.mine j D0 h with y | y
          · exact notM y
          · have z2 : some (HO.lst zs) = none := hD4.symm.trans y
            cases z2
      cases ect : c ρ3 with
      | stuck => rw [ect] at ec2; cases ec2
      | exc _ _ _ => rw [ect] at ec2; cases ec2
      | ok b ρ5 =>
        rw [ect] at ec2
        intro S5 H5 s5 R5
        have back : ∀ {S' H' : Hp} {ρ6 : Ev}, Rel G' S' H' σ4 ρ6 → Rel G S' H' (wipe σ vs) (wipeE ρ6 vs) := fun R6 => (R3.outofT tgT R6).wiped h0 ((wipe_wipe σ vs).trans hσ.symm)
        cases b with
        | false =>
          dsimp only at ec2
          refine iteF ?_
          obtain ⟨k1, k2, k3⟩ := keepD R5
          exact ⟨S5, wipeE ρ5 vs, done, rest, zs, s2.trans (gr.sS.trans R5.old), back R5, k2, fun j h => k3 j (owW hσ h), k1, Rps.mono (gr.sS.trans R5.old) _ _ rz, ec2, ey, wE ρ5⟩
        | true =>
          dsimp only at ec2
          refine iteT (he G' rfl rfl tg' _ _ _ ⟨S5, ρ5, R5, ?_⟩)
          cases ee : e ρ5 with
          | stuck => rw [ee] at ec2; cases ec2
          | exc _ _ _ => rw [ee] at ec2; cases ec2
          | ok y ρ6 =>
            rw [ee] at ec2
            dsimp only at ec2
            intro S6 H6 s6 R6 v rv
            obtain ⟨k1, k2, k3⟩ := keepD R6
            cases er : compL vs tg c e (ds.drop (i + 1)) (wipeE ρ6 vs) with
            | stuck => rw [er] at ec2; cases ec2
            | exc _ _ _ => rw [er] at ec2; cases ec2
            | ok ys2 ρ7 =>
              rw [er] at ec2
              cases ec2
              have hlen : zs.length < sizeLine := by
                rw [← rz.length]
                rw [ey, List.length_append, List.length_cons] at hl
                omega
              refine ⟨zs, k1, hlen, S6, wipeE ρ6 vs, done ++ [y], ys2, zs ++ [v], s2.trans (gr.sS.trans R6.old), ?_, k2, fun j h => k3 j (owW hσ h), upd_same, (Rps.mono (gr.sS.trans R6.old) _ _ rz).append (.cons rv .nil), er, by rw [ey, List.append_assoc]; rfl, wE ρ6⟩
              -- the new list has one more
              have Rb := back R6
              refine ⟨fun b o q => ?_, Rb.old, fun b o h hm => ?_, fun b o h => ?_, Rb.nw, fun j sl es => ?_, Rb.dis, Rb.mine, Rb.mt, Rb.len, ⟨Rb.tbM k1 (fun _ => nofun) (fun _ _ => nofun) (fun b o q hb => by rw [upd_ne hb]; exact q), Rb.tb.2⟩, Rb.nt⟩
              · have hb : b ≠ D0 := fun z => by subst z; rw [k2] at q; cases q
                rw [upd_ne hb]; exact Rb.sub b o q
              · have hb : b ≠ D0 := fun z => by subst z; rw [hn0] at h; cases h
                rw [upd_ne hb]; exact Rb.fr b o h hm
              · by_cases hb : b = D0
                · subst hb; exact ⟨_, upd_same⟩
                · rw [upd_ne hb]; exact Rb.th b o h
              · have hs := Rb.sl j sl es
                cases sl with
                | no => trivial
                | adr => exact hs
                | val d => exact hs
                | own xs =>
                  obtain ⟨a, ws', e1, e2, e3, e4⟩ := hs
                  have ha : a ≠ D0 := fun z => by
                    subst z
                    refine k3 j (owW hσ ⟨⟨_, es, rfl⟩, ?_⟩)
                    cases hx : (wipe σ vs)[j]? with
                    | none => rw [hx] at e1; cases e1
                    | some o => rw [hx] at e1; exact congrArg some e1
                  exact ⟨a, ws', e1, e2, by rw [upd_ne ha]; exact e3, e4⟩
                | obj c fs =>
                  obtain ⟨a, dx, ws', e1, e2, e3, e4, e5, e6, e7⟩ := hs
                  have ha : a ≠ D0 := fun z => by rw [z, k1] at e6; cases e6
                  have hd' : dx ≠ D0 := fun z => by rw [z, k1] at e5; cases e5
                  exact ⟨a, dx, ws', e1, e2, e3, e4, by rw [upd_ne hd']; exact e5, by rw [upd_ne ha]; exact e6, e7⟩
  · have ei : i = ds.length := by omega
    subst ei
    rw [List.drop_length] at ec2
    cases ec2
    refine .inl ⟨F.2 S2 H s2 R2.sub, ?_⟩
    rw [List.append_nil] at ey
    subst ey
    have Rf : Rel G S2 H σ ρ2 := by
      have := R2.wiped (σ' := σ) h0 (wipe_wipe σ vs).symm
      rwa [ew] at this
    refine hQ S2 H zs s2 Rf nD (fun j h => oD j ?_) hDz rz
    obtain ⟨⟨sl, e1, m⟩, e2⟩ := h
    refine ⟨⟨sl, e1, m⟩, ?_⟩
    rw [wipe_get, if_neg]
    · exact e2
    · rintro ⟨z1, z2⟩
      rw [← ew, wipeE_get, if_pos ⟨z1, by rw [R2.len, wipe_length]; exact z2⟩] at e1
      cases e1
      cases m
section
variable {elt tgt iter : Expr} {ifs : List Expr} {scope : Scope} {own : List (Str × Nat)} {tg : D → Ev → Option Ev} {ws : List Nat} {k : Ev → Rs (List D)} {c : Ev → Rs Bool} {e : Ev → Rs D}
/-- a block's target, tests and element, looked at from anywhere -/
def gAnyT (K : PySem.W.Frag) (C : CT) (T : List (Addr × Str)) (tg : D → Ev → Option Ev) (ws : List Nat) : L2.TG := fun v σ H Q => ∃ G' : GC, G'.K = K ∧ G'.C = C ∧ TG G' T ∧ pG G' tg ws v σ H Q
def tAnyT (K : PySem.W.Frag) (C : CT) (T : List (Addr × Str)) (c : Ev → Rs Bool) : TT := fun σ H Q => ∃ G' : GC, G'.K = K ∧ G'.C = C ∧ TG G' T ∧ pT G' W0 c σ H Q
def eAnyT (K : PySem.W.Frag) (C : CT) (T : List (Addr × Str)) (e : Ev → Rs D) : TE := fun σ H Q => ∃ G' : GC, G'.K = K ∧ G'.C = C ∧ TG G' T ∧ pE G' W0 e σ H Q
theorem lc_readsT {T : List (Addr × Str)} (tgT : TG G T) {vs : List Nat} {σ : St} {H : Hp} {R : V → Hp → Prop} (h0 : 0 ∉ vs) (hws : ∀ i ∈ ws, i ∈ vs) (h : pF G W (compF vs tg k c e) σ H R) :
    tLc (pI G W k) (gAnyT G.K G.C T tg ws) (tAnyT G.K G.C T c) (eAnyT G.K G.C T e) vs σ H R := by
  obtain ⟨S, ρ, Re, q⟩ := h
  refine ⟨S, ρ, Re, Po.mono (Po.bind q) fun ds ρ1 S1 H1 s1 R1 q J F D0 hD => ?_⟩
  obtain ⟨ys, ρ2, ec, hl, q2⟩ := comp_inv (P := Po G W S1 σ _) Po.not q
  obtain ⟨hn0, hn1, hn2⟩ := R1.new0 hD
  exact comp_turnsT tgT (g := fun _ => gAnyT G.K G.C T tg ws) (tt := fun _ => tAnyT G.K G.C T c) (te := fun _ => eAnyT G.K G.C T e) h0 hws R1 F hD ec hl _ _ _ (fun G' a b t v σ H Q z => ⟨G', a, b, t, z⟩) (fun G' a b t σ H Q z => ⟨G', a, b, t, z⟩) (fun G' a b t σ H Q z => ⟨G', a, b, t, z⟩)
    fun S' H' zs s' R' nS nO hh r => q2 S' H' s' R' D0 zs hn0 nS nO hh r
theorem f_lcT {T : List (Addr × Str)} (tgT : TG G T) (hc : X.calm = true) (hN : X.N.Nodup) (hi : PI X tgt iter (pI G W k)) (ok : BlkOk X.N X.env.scope scope own)
    (hg : ∀ (s : Shared) (H : Hp) (A : Addr) (cl : List (Str × Addr)) (fp : List Addr) (G' : GC), G'.K = G.K → G'.C = G.C → TG G' T → PG (X.blk s H scope (compEnvC scope cl A X.env) fp) tgt (pG G' tg ws))
    (ht : ∀ (s : Shared) (H : Hp) (A : Addr) (cl : List (Str × Addr)) (fp : List Addr) (G' : GC), G'.K = G.K → G'.C = G.C → TG G' T → PTs (X.blk s H scope (compEnvC scope cl A X.env) fp) ifs (pT G' W0 c))
    (he : ∀ (s : Shared) (H : Hp) (A : Addr) (cl : List (Str × Addr)) (fp : List Addr) (G' : GC), G'.K = G.K → G'.C = G.C → TG G' T → PE (X.blk s H scope (compEnvC scope cl A X.env) fp) elt (pE G' W0 e))
    (h0 : 0 ∉ own.map (·.2) := by decide) (hws : ∀ i ∈ ws, i ∈ own.map (·.2) := by decide) (hs : ∀ x, foldedSetIterable iter X.env x = pure x := by intro _; rfl) :
    PE X (.ListComp elt [⟨tgt, iter, ifs, 0⟩] scope pos) (pF G W (compF (own.map (·.2)) tg k c e)) :=
  PEm (pe_lc (g := gAnyT G.K G.C T tg ws) (tt := tAnyT G.K G.C T c) (te := eAnyT G.K G.C T e) hc hN hi ok
    (fun s H A cl fp => ⟨fun pins s' σ H' v u Q I r ⟨G', a, b, t, z⟩ => (hg s H A cl fp G' a b t).run pins s' σ H' v u Q I r z⟩)
    (fun s H A cl fp => ⟨fun pins s' σ H' Q I ⟨G', a, b, t, z⟩ => (ht s H A cl fp G' a b t).run pins s' σ H' Q I z⟩)
    (fun s H A cl fp => ⟨fun pins s' σ H' Q I ⟨G', a, b, t, z⟩ => (he s H A cl fp G' a b t).run pins s' σ H' Q I z⟩) hs) fun σ H Q h => lc_readsT tgT h0 hws h
theorem s_setLcT {T : List (Addr × Str)} (tgT : TG G T) {i : Nat} {y : Str} {py spos : Pos} (hc : X.calm = true) (hN : X.N.Nodup) (hy : X.N[i]? = some y) (hyl : X.env.scope.names.lookup y = some .local)
    (hsw : swapsWith (.ListComp elt [⟨tgt, iter, ifs, 0⟩] scope pos) (some (.Name y py)) spos.line X.env = pure true) (hi : PI X tgt iter (pI G W k)) (ok : BlkOk X.N X.env.scope scope own)
    (hg : ∀ (s : Shared) (H : Hp) (A : Addr) (cl : List (Str × Addr)) (fp : List Addr) (G' : GC), G'.K = G.K → G'.C = G.C → TG G' T → PG (X.blk s H scope (compEnvC scope cl A X.env) fp) tgt (pG G' tg ws))
    (ht : ∀ (s : Shared) (H : Hp) (A : Addr) (cl : List (Str × Addr)) (fp : List Addr) (G' : GC), G'.K = G.K → G'.C = G.C → TG G' T → PTs (X.blk s H scope (compEnvC scope cl A X.env) fp) ifs (pT G' W0 c))
    (he : ∀ (s : Shared) (H : Hp) (A : Addr) (cl : List (Str × Addr)) (fp : List Addr) (G' : GC), G'.K = G.K → G'.C = G.C → TG G' T → PE (X.blk s H scope (compEnvC scope cl A X.env) fp) elt (pE G' W0 e))
    (h0 : 0 ∉ own.map (·.2) := by decide) (hws : ∀ i ∈ ws, i ∈ own.map (·.2) := by decide) (hs : ∀ x, foldedSetIterable iter X.env x = pure x := by intro _; rfl) :
    PS X (.Assign [.Name y py] (.ListComp elt [⟨tgt, iter, ifs, 0⟩] scope pos) spos) (pS G W (setoF i (compF (own.map (·.2)) tg k c e))) :=
  PSm (ps_setLc (g := gAnyT G.K G.C T tg ws) (tt := tAnyT G.K G.C T c) (te := eAnyT G.K G.C T e) hc hN hy hyl hsw hi ok
    (fun s H A cl fp => ⟨fun pins s' σ H' v u Q I r ⟨G', a, b, t, z⟩ => (hg s H A cl fp G' a b t).run pins s' σ H' v u Q I r z⟩)
    (fun s H A cl fp => ⟨fun pins s' σ H' Q I ⟨G', a, b, t, z⟩ => (ht s H A cl fp G' a b t).run pins s' σ H' Q I z⟩)
    (fun s H A cl fp => ⟨fun pins s' σ H' Q I ⟨G', a, b, t, z⟩ => (he s H A cl fp G' a b t).run pins s' σ H' Q I z⟩) hs) fun E σ H ⟨S, ρ, R, q⟩ => lc_readsT tgT h0 hws ⟨S, ρ, R, Po.mono (Po.fl (S := S) (σ := σ) q) fun ds ρ1 S1 H1 s1 R1 q a vs h0 nS nO hh r => by
      obtain ⟨h1, h2, h3⟩ := put_ok R1 q
      exact h3 _ _ _ (Same.refl _) (R1.seto h1 h2 h0 nS nO hh r)⟩
end
end
end PL
/-! PLV: a lambda with one name of its own and a number for it -/
namespace PL
open PySem L2 LamX PySem.Spec PyProof.Rows
open PyProof.Rows (envOfC)
section
variable {X : Cx} {pins : List (Addr × Obj)} {σ : L2.St} {H : Hp} {s : Shared}
abbrev lamObjD (X : Cx) (ps : Arguments) (b : Expr) (sc : Scope) (dV doc pm : Value) (c : Addr) (ct : Value) : Obj := PySem.W.kdv_obj "<lambda>" (X.env.qual ++ "<lambda>") ps (.expr b) sc (cloFrom X.env.cells sc.names []) dV doc pm c ct
abbrev lamFdD (X : Cx) (ps : Arguments) (b : Expr) (sc : Scope) (dV doc pm : Value) (c : Addr) (ct : Value) : FuncData := PySem.W.kdv_fn "<lambda>" (X.env.qual ++ "<lambda>") ps (.expr b) sc (cloFrom X.env.cells sc.names []) dV doc pm (.ref c) ct
theorem nofrs (I : Inv X pins σ H s) (f : Addr) (big : s.heap.objs.size ≤ f) : f ∉ frs X.stack := by
  intro m
  have small := I.lt
  rcases List.mem_cons.mp (I.stkSub f m) with eq | rest
  · rw [eq] at big
    exact Nat.not_lt.mpr big small
  · exact I.nofs big rest
/-! #### a table of code that grows by one -/
abbrev three (pos : Pos) (a : Addr) : Array Value := #[rawInt pos.line, rawInt pos.col, .ref a]
abbrev grownT (H : Hp) (P : Addr) (ps : Array Value) (pos : Pos) (a : Addr) (q : Str) : Hp := upd (upd H P (.tbl (ps ++ three pos a))) a (CodeO a q)
section
variable {T : List (Addr × Str)} {P a : Addr} {ps : Array Value} {pos : Pos} {q : Str}
theorem grown_ext (tb : H P = some (.tbl ps)) (new : H a = none) : ExtN H (grownT H P ps pos a q) := by
  intro b o hb hn
  have nb : b ≠ a := ne_of_none hb new
  have np : b ≠ P := by
    intro z
    subst z
    exact hn ps (Option.some.inj (hb.symm.trans tb))
  simp only [grownT, upd_ne nb, upd_ne np, hb]
theorem grown_tabs (tabs : Tabs T H) (mem : (P, q) ∈ T) (one : ∀ p ∈ T, p.1 = P → p.2 = q) (tb : H P = some (.tbl ps)) (new : H a = none) (fine : TriplesOk ps.toList)
    (told : ∀ (p2 : Pos) (cv : Value), codeAmong p2 ps.toList = some cv → ∃ c, cv = .ref c ∧ H c = some (CodeO c q)) : Tabs T (grownT H P ps pos a q) := by
  have ext := grown_ext (pos := pos) (q := q) tb new
  have keep : ∀ (c : Addr) (y : Str), H c = some (CodeO c y) → grownT H P ps pos a q c = some (CodeO c y) := fun c y h => ext c _ h codeO_ne
  have nPa : P ≠ a := ne_of_none tb new
  have flat : (ps ++ three pos a).toList = ps.toList ++ [rawInt pos.line, rawInt pos.col, .ref a] := by simp [three]
  rintro ⟨b, y⟩ hp
  by_cases hb : b = P
  · have hy : y = q := one (b, y) hp hb
    subst hb hy
    refine ⟨ps ++ three pos a, by simp only [grownT, upd_ne nPa, upd_same], ?_, fun p2 cv h2 => ?_⟩
    · rw [flat]
      exact PySem.TriplesOk_snoc _ _ _ _ fine
    · rw [flat] at h2
      cases among_app ps.toList fine h2 with
      | inl z =>
        obtain ⟨c, rfl, hc⟩ := told p2 cv z
        exact ⟨c, rfl, keep c _ hc⟩
      | inr z => exact ⟨a, z, upd_same⟩
  · obtain ⟨rs, r1, r2, r3⟩ := tabs (b, y) hp
    have na : b ≠ a := ne_of_none r1 new
    refine ⟨rs, by simp only [grownT, upd_ne na, upd_ne hb]; exact r1, r2, fun p2 cv h2 => ?_⟩
    obtain ⟨c, e, hc⟩ := r3 p2 cv h2
    exact ⟨c, e, keep c y hc⟩
end
/-- what is known where the new function is at hand -/
structure Made (X : Cx) (pins : List (Addr × Obj)) (σ : L2.St) (H : Hp) (s : Shared) (T : List (Addr × Str)) (params : Arguments) (body : Expr) (scope : Scope) (dV : Value) (f c' : Addr) (doc pm ctv : Value) (H1 : Hp) (s' : Shared) : Prop where
  inv : Inv X pins σ H1 s'
  ext : ExtN H H1
  tabs : Tabs T H1
  obj : s'.heap.get? f = some (lamObjD X params body scope dV doc pm c' ctv)
  free : H1 f = none
  nofr : f ∉ frs X.stack
  code : H1 c' = some (CodeO c' (X.env.qual ++ "<lambda>"))
  kept : ∀ b o, H b = none → s.heap.get? b = some o → s'.heap.get? b = some o ∧ H1 b = none
/-- the function is made: its code is found in the table, or put there -/
theorem lam_tail {T : List (Addr × Str)} {c P : Addr} {params : Arguments} {body : Expr} {scope : Scope} {pos : Pos} {dV : Value} {E Q : Value → Shared → Prop} (I : Inv X pins σ H s) (TB : TabB X.base X.mg c P) (hcode : X.env.code = .ref c)
    (mem : (P, X.env.qual ++ "<lambda>") ∈ T) (one : ∀ p ∈ T, p.1 = P → p.2 = X.env.qual ++ "<lambda>") (tabs : Tabs T H) (caught : ∀ y ∈ scope.names, y.2 = .free → ∃ c, X.env.cells.lookup y.1 = some c)
    (h : ∀ f c' doc pm ctv H1 s', Made X pins σ H s T params body scope dV f c' doc pm ctv H1 s' → Q (.ref f) s') :
    wpAny (model X.prog X.w) X.A (makeTail "<lambda>" (X.env.qual ++ "<lambda>") params (.expr body) scope X.env dV .none none pos pos.line) Q E s := by
  obtain ⟨ps, tb, fine, told⟩ := tabs (P, X.env.qual ++ "<lambda>") mem
  have row := I.hok P (.tbl ps) tb
  have glob := I.mod.glob.keeps I.bk
  have chd := TB.code.keeps I.bk
  have bat := TB.bm.keeps I.bk
  have clo := closure_ok (env := X.env) caught
  match known : codeAmong pos ps.toList with
  | some cv =>
    obtain ⟨c', rfl, co⟩ := told pos cv known
    refine PySem.W.kdv_makeTailHit clo I.ok.glob glob hcode chd row fine known bat ?_
    intro ctv doc g tk same grows
    have up : ∀ b o, s.heap.get? b = some o → (g.push (lamObjD X params body scope dV doc ((X.mg "__name__").getD .none) c' ctv)).get? b = some o := fun b o q => Heap.get?_push_of_some _ (same b o q)
    exact h g.objs.size c' doc _ ctv H _ ⟨I.kept up, ExtN.refl H, tabs, Heap.get?_push_size _ rfl, I.hok.fresh grows, nofrs I _ grows, co, fun b o nb q => ⟨up b o q, nb⟩⟩
  | none =>
    refine PySem.W.kdv_makeTail clo I.ok.glob glob hcode chd row fine known TB.gP bat ?_
    intro c' ctv doc g tk most above below crec trow
    obtain ⟨cc, oc, fs, tt, ce, q1, q2, q3⟩ := crec
    cases ce
    have grows : s.heap.objs.size ≤ g.objs.size := by omega
    have new : H c' = none := I.hok.fresh above
    have Pin : P < s.heap.objs.size := Heap.lt_size row
    have up : ∀ b o, b ≠ P → s.heap.get? b = some o → (g.push (lamObjD X params body scope dV doc ((X.mg "__name__").getD .none) c' ctv)).get? b = some o := fun b o nb q => Heap.get?_push_of_some _ (most b o nb q)
    have J := inv_table (t' := tk) (more := three pos c') I tb up (Heap.get?_push_of_some _ trow) above ⟨oc, fs, tt, Heap.get?_push_of_some _ q1, q2, q3⟩
    have bare : grownT H P ps pos c' (X.env.qual ++ "<lambda>") g.objs.size = none := by
      simp only [grownT, upd_ne (Nat.ne_of_gt below), upd_ne (Nat.ne_of_gt (Nat.lt_of_lt_of_le Pin grows))]
      exact I.hok.fresh grows
    refine h g.objs.size c' doc _ ctv _ _ ⟨J, grown_ext tb new, grown_tabs tabs mem one tb new fine told, Heap.get?_push_size _ rfl, bare, nofrs I _ grows, upd_same, fun b o nb q => ?_⟩
    have lt := Heap.lt_size q
    have b1 : b ≠ P := fun z => by rw [z, tb] at nb; cases nb
    exact ⟨up b o b1 q, by simp only [grownT, upd_ne (Nat.ne_of_lt (Nat.lt_of_lt_of_le lt above)), upd_ne b1, nb]⟩
/-- the lambda is made, its default in a tuple -/
theorem lam_make2D {T : List (Addr × Str)} {c P : Addr} {params : Arguments} {body : Expr} {scope : Scope} {pos : Pos} {n0 : Int} {kk : Nat} {p0 : Pos} {E : Value → Shared → Prop} {Q : Value → Shared → Prop} (I : Inv X pins σ H s) (TB : TabB X.base X.mg c P) (hcode : X.env.code = .ref c)
    (hm : (P, X.env.qual ++ "<lambda>") ∈ T) (hu : ∀ p ∈ T, p.1 = P → p.2 = X.env.qual ++ "<lambda>") (hT : Tabs T H) (hd : params.defaults = [.Constant (.int n0) kk p0]) (hk0 : params.kw_defaults = []) (hfree : ∀ y ∈ scope.names, y.2 = .free → ∃ c, X.env.cells.lookup y.1 = some c)
    (h : ∀ (f c' t : Addr) (tok : Tok) (doc pm ctv : Value) (H1 : Hp) (s' : Shared), Inv X pins σ H1 s' → ExtN H H1 → Tabs T H1 →
      s'.heap.get? f = some (lamObjD X params body scope (.ref t) doc pm c' ctv) → H1 f = none → f ∉ frs X.stack → H1 c' = some (CodeO c' (X.env.qual ++ "<lambda>")) →
      s'.heap.get? t = some (PySem.W.kdv_tup [.int n0 tok]) → H1 t = none → t ∉ frs X.stack → Q (.ref f) s') :
    wpAny (model X.prog X.w) X.A (eval (.Lambda params body scope pos) X.env) Q E s := by
  refine PySem.W.kdv_lam (by rw [hd]; rfl) hk0 ?_
  rw [hd]
  refine PySem.W.kdv_all1 (wpAny_Constant_int (PySem.W.kdv_all0 ?_))
  have I0 : Inv X pins σ H { s with toks := s.toks + 1 } := I.tok _
  rw [makeFunction_eq]
  simp only [List.zip_nil_right, List.filterMap_nil, List.isEmpty_nil, if_true, pure_bind, List.isEmpty_cons, Bool.false_eq_true, if_false]
  refine wpAny_bind (wpAny_newTextTuple ?_)
  have I1 : Inv X pins σ H { s with toks := s.toks + 1, heap := s.heap.push (PySem.W.kdv_tup [.int n0 s.toks]) } := I0.kept fun b o e => Heap.get?_push_of_some _ e
  refine lam_tail I1 TB hcode hm hu hT hfree fun f c' doc pm ctv H1 s' M => ?_
  have nt : H s.heap.objs.size = none := I.hok.fresh (Nat.le_refl _)
  obtain ⟨k1, k2⟩ := M.kept s.heap.objs.size _ nt (Heap.get?_push_size _ rfl)
  exact h f c' s.heap.objs.size s.toks doc pm ctv H1 s' M.inv M.ext M.tabs M.obj M.free M.nofr M.code k1 k2 (nofrs I _ (Nat.le_refl _))
end
/-- one name of its own, seen nowhere around; captured ones and globals -/
structure LamSD (sc scope : Scope) (N : List Str) (y0 : Str) : Prop where
  kind : scope.kind = .function
  co : scope.isCoroutine = false
  gen : scope.isGenerator = false
  own : ∀ y ∈ scope.names, y.2 ≠ .cell ∧ (y.2 = .local → y.1 = y0)
  is0 : scope.names.lookup y0 = some .local
  notN : y0 ∉ N
  free : ∀ y ∈ scope.names, y.2 = .free → sc.names.lookup y.1 = some .cell ∨ sc.names.lookup y.1 = some .free
def lamSDB (sc scope : Scope) (N : List Str) (y0 : Str) : Bool :=
  decide (scope.kind = .function) && !scope.isCoroutine && !scope.isGenerator && decide (scope.names.lookup y0 = some .local) && !N.contains y0 && scope.names.all fun y => !decide (y.2 = .cell) && (!decide (y.2 = .local) || decide (y.1 = y0)) && (!decide (y.2 = .free) || decide (sc.names.lookup y.1 = some .cell) || decide (sc.names.lookup y.1 = some .free))
theorem lamSD_by {sc scope : Scope} {N : List Str} {y0 : Str} (h : lamSDB sc scope N y0 = true) : LamSD sc scope N y0 := by
  simp only [lamSDB, Bool.and_eq_true, Bool.or_eq_true, Bool.not_eq_true', decide_eq_true_eq, decide_eq_false_iff_not, List.all_eq_true] at h
  obtain ⟨⟨⟨⟨⟨k, c⟩, g⟩, i0⟩, nn⟩, all⟩ := h
  constructor
  · exact k
  · exact c
  · exact g
  · intro y hy
    obtain ⟨⟨u1, u2⟩, _⟩ := all y hy
    exact ⟨u1, fun z => u2.elim (absurd z) id⟩
  · exact i0
  · intro m
    rw [List.contains_iff_mem.mpr m] at nn
    cases nn
  · intro y hy fr
    obtain ⟨_, (u | u) | u⟩ := all y hy
    · exact absurd fr u
    · exact .inl u
    · exact .inr u
section
variable {X : Cx} {pins : List (Addr × Obj)} {σ : L2.St} {H HZ : Hp} {s s1 : Shared}
theorem LamSD.has {scope : Scope} {y0 : Str} (L : LamSD X.env.scope scope X.N y0) (ok : X.Ok) (y : Str × NameKind) (hy : y ∈ scope.names) (fr : y.2 = .free) : ∃ c, X.env.cells.lookup y.1 = some c :=
  ok.has y.1 (L.free y hy fr)
section
variable {scope : Scope} {y0 : Str}
/-- what the lambda's own names stand for: cells of the def around -/
theorem clo_of (L : LamSD X.env.scope scope X.N y0) (ok : X.Ok) {y : Str} {c : Addr} (e : (cloFrom X.env.cells scope.names []).lookup y = some c) : X.env.cells.lookup y = some c := by
  cases cloFrom_mem (PySem.mem_of_lookup e) with
  | inl z => cases z
  | inr z =>
    obtain ⟨fr, eq⟩ := z
    obtain ⟨c0, h0⟩ := L.has ok _ fr rfl
    have h0 : X.env.cells.lookup y = some c0 := h0
    have : c = c0 := by rw [eq, h0]; rfl
    rw [this, h0]
theorem clo_has {cells : List (Str × Addr)} {y : Str} (fr : scope.names.lookup y = some .free) : ∃ c, (cloFrom cells scope.names []).lookup y = some c :=
  mem_lookup (cloFrom_has (acc := []) (show (y, NameKind.free) ∈ scope.names from PySem.mem_of_lookup fr))
theorem lam_start2D {A : Around} {outer : List Env} {E : XK} {f c' : Addr} {g : Heap} {tk : Nat} {bs : List (Str × Value)} (I : Inv X pins σ H s) (L : LamSD X.env.scope scope X.N y0) (e0 : Env0 X.prog X.w X.K X.mg X.base A outer s1 HZ) (calm : A.handled = none)
    (un : Un (frs X.stack) [] H HZ s.heap s1.heap) (names : g.Ns s1.heap.objs.size fun y => bs.reverse.lookup y) (up : ∀ b o, s1.heap.get? b = some o → g.get? b = some o) :
    Inv (lamCx X A outer s1 HZ E scope f c') [] σ HZ { s1 with heap := g, toks := tk } := by
  have back := fun {y : Str} {c : Addr} => clo_of (y := y) (c := c) L I.ok
  have cells : ∀ {c : Addr} {v : Option Value}, H c = none → s.heap.IsCell c v → g.IsCell c v := by
    rintro c v nc ⟨o, get, dat⟩
    obtain ⟨sl, q⟩ := un.any get nc (by simp)
    exact ⟨_, up _ _ q, dat⟩
  have none_ : ∀ {b : Addr} {P : Prop}, b ∈ (lamCx X A outer s1 HZ E scope f c').ex → P := fun {b P} z => absurd (show b ∈ ([] : List Addr) from z) List.not_mem_nil
  have seen : ∀ (i : Nat) (y : Str) (v : V), X.N[i]? = some y → σ[i]? = some (some v) → Vis scope y → ∃ u, RelV v u ∧ Look (lamEnv X scope s1.heap.objs.size f c') g (fun y => bs.reverse.lookup y) y u := by
    intro i y v at_ val vis
    rcases vis with k | k | k
    · have own := (L.own _ (PySem.mem_of_lookup k)).2 rfl
      have own : y = y0 := own
      subst own
      exact absurd (List.mem_of_getElem? at_) L.notN
    · exact absurd rfl (L.own _ (PySem.mem_of_lookup k)).1
    · have up1 := L.free _ (PySem.mem_of_lookup k) rfl
      obtain ⟨m, _, every⟩ := I.loc
      obtain ⟨u, rel, how⟩ := every i y v at_ val (up1.elim (fun k => .inr (.inl k)) fun k => .inr (.inr k))
      obtain ⟨c, hc⟩ := clo_has (cells := X.env.cells) k
      refine ⟨u, rel, .inr ⟨.inr k, c, hc, ?_⟩⟩
      have outerc := back hc
      rcases how with ⟨isl, _⟩ | ⟨_, c3, e3, cell⟩
      · have isl : X.env.scope.names.lookup y = some .local := isl
        rcases up1 with z | z
        all_goals
          have z : X.env.scope.names.lookup y = _ := z
          rw [z] at isl
          cases isl
      · obtain rfl : c = c3 := Option.some.inj (outerc.symm.trans e3)
        exact cells (I.freeC y _ outerc) cell
  exact {
    ok := {
      mod := e0.mod, kind := L.kind, glob := rfl, blt := rfl, above := Nat.le_refl _
      inj := fun y z c h1 h2 => I.ok.inj y z c (back h1) (back h2)
      has := fun y hy => by
        rcases (show scope.names.lookup y = some .cell ∨ scope.names.lookup y = some .free from hy) with z | z
        · exact absurd rfl (L.own _ (PySem.mem_of_lookup z)).1
        · exact clo_has z
      cab := fun y c z _ => absurd (show false = true from z) (by decide)
      hd := fun _ => calm, frames := Around.frames_deeper e0.frames, stk := .inr ⟨rfl, rfl⟩
      exf := fun b z => none_ z, bs := e0.bs, bsz := e0.bsz, noex := fun b _ _ z => none_ z, exfs := fun b z => none_ z, funs := e0.funs, frf := e0.frf }
    os := rfl, bare := e0.bare, base := Un.kept up
    loc := ⟨_, names, seen⟩
    cell := fun y c e => let ⟨v, z⟩ := I.cell y c (back e); ⟨v, cells (I.freeC y c (back e)) z⟩
    free := e0.hok.fresh (Nat.le_refl _)
    freeC := fun y c e => by
      obtain ⟨v, o, get, dat⟩ := I.cell y c (back e)
      exact un.free c o get (I.freeC y c (back e)) (by simp)
    pin := fun p hp => absurd (show p ∈ ([] : List (Addr × Obj)) ++ [] from hp) (by simp)
    hok := e0.hok.kept up
    len := I.len }
end
theorem lam_actD {N : List Str} {q : Str} {sg : Scope} {g f c t : Addr} {tok : Tok} {n0 : Int} {y0 : Str} {cd doc pm ct : Value} {ps : Arguments} {b : Expr} {sc : Scope} {k i : Nat} {y : Str} {pn : List (Addr × Obj)} {xe : Value → Shared → Prop} {W : WX} {E : XK} {tb : TE} {p1 p2 : Pos} {CY : CXT} {EY : XK} {τ0 : L2.St}
    (I : Inv X pins σ H s) (L : LamSD X.env.scope sc X.N y0) (ho : s.heap.get? f = some (lamObjD X ps b sc (.ref t) doc pm c ct)) (hn : H f = none) (hf : f ∉ frs X.stack) (hot : s.heap.get? t = some (PySem.W.kdv_tup [.int n0 tok])) (hnt : H t = none) (hft : t ∉ frs X.stack)
    (bd : ∃ kb, bindArgs (lamFdD X ps b sc (.ref t) doc pm c ct) ⟨[], []⟩ = (seqItems? (.ref t) >>= kb) ∧ kb (some #[.int n0 tok]) = pure [(y0, .int n0 tok)]) (tk : Takes ((recvCx X N q sg g cd s H CY EY).tr pn xe) W)
    (hW : ∀ cls d H', E cls d H' → W cls d τ0 H') (room : Room (k + 1) (X.A.deeper (envOfC q sg s.heap.objs.size g cd))) (gd : X.A.guards = some [])
    (hb : ∀ (A : Around) (outer : List Env) (t : Shared) (H' : Hp), Room k (A.deeper (lamEnv X sc t.heap.objs.size f c)) → A.guards = some [] → PE (lamCx X A outer t H' E sc f c) b tb) (hN : N[i]? = some y) (hv : Vis sg y) (hd : (y == ("__debug__" : Str)) = false := by decide) (hcd : (y == ("__classdict__" : Str)) = false := by decide) :
    PE ((recvCx X N q sg g cd s H CY EY).tr pn xe) (.Call (.Name y p1) [] [] p2) (fun τ K1 Q => τ = τ0 ∧ τ[i]? = some (some (.ref f)) ∧ K1 c = some (CodeO c (X.env.qual ++ "<lambda>")) ∧ tb σ K1 Q) := by
  refine ⟨fun pZ sZ τ K1 Q J h => ?_⟩
  obtain ⟨a0, a1, a2, a3⟩ := h
  subst a0
  have name := (pe_var (pos := p1) (i := i) hN hv hd hcd).run pZ sZ τ K1 (fun v K2 => v = .ref f ∧ K2 = K1) J ⟨.ref f, a1, rfl, rfl⟩
  refine wpAny_Call_Name_kw (thn name fun u t1 r => ?_)
  obtain ⟨v, K2, J1, rv, ev, eK⟩ := r
  subst ev eK
  have eu : u = Value.ref f := rv
  subst eu
  have un : Un (frs X.stack) [] H K2 s.heap t1.heap := J1.base
  have of_ := un.keep f _ ho hn hf fun z => nomatch z
  have oft := un.keep t _ hot hnt hft fun z => nomatch z
  obtain ⟨⟨oc, vs, tokc, c1, c2, c3⟩, _, _⟩ := J1.hok c _ a2
  refine PySem.W.callWith_F0 ⟨_, _, _, _, of_⟩ ?_
  have run : codeAny (model X.prog X.w) (X.A.deeper (envOfC q sg s.heap.objs.size g cd)) (.call (.ref f) ⟨[], []⟩) (CR (L2.CX X.prog X.w) (envOfC q sg s.heap.objs.size g cd :: X.stack) X.prog X.w K2 t1 Q E) t1 := by
    refine PySem.W.kla_callFunE room.depth of_ rfl L.co L.gen rfl ⟨c, oc, vs, tokc, rfl, c1, c2, c3⟩ ?_
    obtain ⟨kb, b1, b2⟩ := bd
    refine BindsTo.of_defaults (n := _) rfl oft rfl b1 b2 _ _ _ _ ?_
    refine wpAny_newFunctionEnv (fun z hz => (L.own z hz).1) (fun z hz => by rw [List.mem_singleton.mp hz]; exact L.is0) (fun h1 n1 n2 => ⟨J1.nolimit.fresh _ n2, ?_⟩) L.kind
    have kp : ∀ x o, t1.heap.get? x = some o → h1.get? x = some o := fun x o e => n2.extBut x o (Nat.ne_of_lt (Heap.lt_size e)) (Heap.get?_push_of_some _ e)
    have J2 := lam_start2D (E := E) (f := f) (c' := c) (g := h1) (tk := t1.toks + ([(y0, Value.int n0 tok)] : List (Str × Value)).length) I L J1.env0 room.hd un n1 kp
    refine PySem.W.kla_codeExpr (wpAny_mono ((hb _ _ t1 K2 (room.deeper _) gd).run [] _ _ K2 Q J2 a3) (fun v t2 r => ?_) fun e t2 r => r)
    obtain ⟨w2, K3, J3, rv2, q3⟩ := r
    exact ⟨w2, K3, J3.os, J3.bare, J3.base, J3.hok, rv2, q3⟩
  refine wpAny_call (codeAny_mono run fun r t2 hq => ?_)
  match r, hq with
  | .error e, hq =>
    obtain ⟨z1, z2, z3, z4, z5, h1, h2, h3, h4, h5, h6, h7, h8⟩ := (show L2.CX X.prog X.w (envOfC q sg s.heap.objs.size g cd :: X.stack) K2 t1 E e t2 from hq)
    exact passAt tk τ pZ K2 t1 e t2 J1 ⟨z1, z2, z3, z4, z5, h1, h2, h3, h4, h5, h6, h7, hW _ _ _ h8⟩
  | .ok (.ret w), hq => exact J1.after hq
theorem lam_callD {T : List (Addr × Str)} {TT : (XK → Hp → VK → Prop) → Hp → VK → Prop} {x y y0 : Str} {g c P : Addr} {k kk : Nat} {n0 : Int} {p0 : Pos} {pg : Arguments} {bg : List Stmt} {sg : Scope} {fd : FuncData} {N : List Str} {ps : Arguments} {b : Expr} {sc : Scope} {t : XK → TE} {p p2 pos : Pos}
    (hg : Gl X x) (hm : X.mg x = some (.ref g)) (F : FunD X.K x x pg bg sg [] [] g fd) (hb : L2.Binds X.K fd [y] []) (Sg : FnScope N [y] sg) (hN : N[0]? = some y) (hv : Vis sg y)
    (give : ∀ cd : Value, GivesG X N x sg g cd bg y (X.env.qual ++ "<lambda>") TT) (TB : TabB X.base X.mg c P) (code : X.env.code = .ref c) (mem : (P, X.env.qual ++ "<lambda>") ∈ T) (one : ∀ p ∈ T, p.1 = P → p.2 = X.env.qual ++ "<lambda>")
    (room : Room (k + 2) X.A) (gd : X.A.guards = some []) (L : LamSD X.env.scope sc X.N y0) (dfl : ps.defaults = [.Constant (.int n0) kk p0]) (kwd : ps.kw_defaults = []) (bd : ∀ (q : Str) (cl : List (Str × Addr)) (t : Addr) (tok : Tok) (doc pm cv ctv : Value), ∃ kb, bindArgs (PySem.W.kdv_fn "<lambda>" q ps (.expr b) sc cl (.ref t) doc pm cv ctv) ⟨[], []⟩ = (seqItems? (.ref t) >>= kb) ∧ kb (some #[.int n0 tok]) = pure [(y0, .int n0 tok)])
    (body : ∀ (A : Around) (outer : List Env) (s : Shared) (H : Hp) (E : XK) (f c' : Addr), Room k (A.deeper (lamEnv X sc s.heap.objs.size f c')) → A.guards = some [] → PE (lamCx X A outer s H E sc f c') b (t E))
    (hdb : (x == ("__debug__" : Str)) = false := by decide) (hd : (y == ("__debug__" : Str)) = false := by decide) (hcd : (y == ("__classdict__" : Str)) = false := by decide) : PE X (.Call (.Name x p) [.Lambda ps b sc p2] [] pos) (tLam T TT t) := by
  obtain ⟨oc, od, dV, kV, doc, pm, an, cdv, ct, osl, rfl, lk, hcg, _, _⟩ := F.ex
  refine ⟨fun pins s σ H Q I h => ?_⟩
  obtain ⟨tb, h⟩ := h
  refine wpAny_Call_Name_kw (ld_glob I hg hm (PySem.W.callWith_K (h₀ := X.base) I.ok.mod.kin F.kp ?_ (by rfl) (by rfl)) hdb)
  refine Calls.spliced_cons (lam_make2D I TB code mem one tb dfl kwd (L.has I.ok) fun f c' td tok doc' pm' ctv H1 s1 I1 eN T1 o1 n1 f1 co ot nt ft => ?_)
  refine Calls.spliced_nil ⟨I1.kIn, wpAny_call (codeAny_mono (R := CR C8.CX0 X.stack X.prog X.w H1 s1 Q C8.E0) ?_ fun r s2 hq => ?_)⟩
  · refine run_ofS (N := N) (ps := [y]) (us := [.ref f]) (vs := [.ref f]) lk hcg Sg room I1.env0 (hb s1 [.ref f] I1.kIn rfl) (.cons rfl .nil) rfl fun room2 => ?_
    obtain ⟨u, hu, q⟩ := give cdv f c' s1 H1 Q (fun E K1 Q1 => t E σ K1 Q1) (fun W pn xe E τ0 p1 p2 tk hW => lam_actD (i := 0) I1 L o1 n1 f1 ot nt ft (bd _ _ _ _ _ _ _ _) tk hW room2 gd (fun A outer s H r2 g2 => body A outer s H E f c' r2 g2) hN hv hd hcd) co (h H1 eN T1)
    exact ⟨u, hu.nox, q⟩
  · match r, hq with
    | .ok (.ret u), hq => exact I1.after hq
end
section
variable {X : Cx} {G : GC} {W : Wx} {T : List (Addr × Str)}
/-- x(lambda y0=n0: b) -/
theorem e_heardD {d0 : D} {h : Option (Nat × List D) → Option D} {f : Ev → Rs D} {x y y0 : Str} {g c P : Addr} {k kk : Nat} {n0 : Int} {p0 : Pos} {pg : Arguments} {bg : List Stmt} {sg : Scope} {fd : FuncData} {N : List Str} {ps : Arguments} {b : Expr} {sc : Scope} {p p2 pos : Pos} (tg : TG G T)
    (hg : Gl X x) (hm : X.mg x = some (.ref g)) (F : FunD X.K x x pg bg sg [] [] g fd) (hb : L2.Binds X.K fd [y] []) (Sg : FnScope N [y] sg) (hN : N[0]? = some y) (hv : Vis sg y)
    (give : ∀ cd : Value, GivesG X N x sg g cd bg y (X.env.qual ++ "<lambda>") (TTh G.K G.C h d0)) (TB : TabB X.base X.mg c P) (code : X.env.code = .ref c) (mem : (P, X.env.qual ++ "<lambda>") ∈ T) (one : ∀ p ∈ T, p.1 = P → p.2 = X.env.qual ++ "<lambda>")
    (room : Room (k + 2) X.A) (gd : X.A.guards = some []) (L : LamSD X.env.scope sc X.N y0) (dfl : ps.defaults = [.Constant (.int n0) kk p0]) (kwd : ps.kw_defaults = []) (bd : ∀ (q : Str) (cl : List (Str × Addr)) (t : Addr) (tok : Tok) (doc pm cv ctv : Value), ∃ kb, bindArgs (PySem.W.kdv_fn "<lambda>" q ps (.expr b) sc cl (.ref t) doc pm cv ctv) ⟨[], []⟩ = (seqItems? (.ref t) >>= kb) ∧ kb (some #[.int n0 tok]) = pure [(y0, .int n0 tok)])
    (body : ∀ (A : Around) (outer : List Env) (s : Shared) (H : Hp) (E : XK) (f1 c' : Addr), Room k (A.deeper (lamEnv X sc s.heap.objs.size f1 c')) → A.guards = some [] → PE (lamCx X A outer s H E sc f1 c') b (pE G (fun cls d _ H' => E cls d H') f))
    (hdb : (x == ("__debug__" : Str)) = false := by decide) (hd : (y == ("__debug__" : Str)) = false := by decide) (hcd : (y == ("__classdict__" : Str)) = false := by decide) : PE X (.Call (.Name x p) [.Lambda ps b sc p2] [] pos) (pE G W (heardE h f)) :=
  PEm (lam_callD (t := fun E => pE G (fun cls d _ H' => E cls d H') f) hg hm F hb Sg hN hv give TB code mem one room gd L dfl kwd bd body hdb hd hcd) fun _ _ _ q => heard_ok tg q
end
end PL
/-! PLK: an object made by names alone -/
namespace PL
open PySem L2
def permF (ix : List Nat) (l : Ev → Rs (List D)) : Ev → Rs (List D) := fun ρ => (l ρ).bind fun ds ρ1 => .ok (reo ix ds) ρ1
section
variable {X : Cx} {G : GC} {W : Wx} {pos : Pos} {k : Nat} {f C : Addr} {fd : FuncData} {ps : List Str} {sp : Sp}
theorem reo_cons {α : Type} (ix : List Nat) (x : α) (xs : List α) : reo (0 :: ix.map (· + 1)) (x :: xs) = x :: reo ix xs := by
  unfold reo
  rw [List.filterMap_cons_some (f := fun i => (x :: xs)[i]?) (a := 0) (b := x) rfl, List.filterMap_map]
  congr 1
/-- names ks bind a new thing and the values to the parameters, as ix tells -/
structure DefIN (P : Program) (w : World) (K : PySem.W.Frag) (mg : Str → Option Value) (base : Heap) (x : Str) (C : Addr) (k : Nat) (ps : List Str) (sp : Sp) (ks : List Str) (ix : List Nat) : Prop where
  ex : ∃ f fd, mg x = some (.ref C) ∧ Mk K C f ∧ KX K fd ps 1 ks (0 :: ix.map (· + 1)) ∧ FnG P w K mg base k f fd ps sp
theorem makeGX {pins : List (Addr × Obj)} {σ : St} {H : Hp} {s : Shared} {Q : VK} {ws : List Value} {zs : List V} {ks : List Str} {ix : List Nat} (M : Mk X.K C f) (F : FnG X.prog X.w X.K X.mg X.base k f fd ps sp) (hr : Room (k + 1) X.A) (hg : X.A.guards = some []) (hb : KX X.K fd ps 1 ks (0 :: ix.map (· + 1))) (tk : Takes X W)
    (I : Inv X pins σ H s) (rz : Vals zs ws) (hl : ws.length = ks.length) (h : ∀ (x dx : Addr), H x = none → H dx = none → dx ≠ x → sp (.ref x :: reo ix zs) (upd (upd H dx (.own x)) x (.ins C dx [])) (fun v H2 => v = .non ∧ Q (.ref x) H2) fun cls d H' => W cls d σ H') :
    wpAny (model X.prog X.w) X.A (call (.ref C) [] (ks.zip ws)) (EP X pins σ Q) X.xe s := by
  let nw := s.heap.objs.size + 1
  have hq := h nw s.heap.objs.size (HOk.fresh I.hok (Nat.le_succ _)) (HOk.fresh I.hok (Nat.le_refl _)) (Nat.ne_of_lt (Nat.lt_succ_self _))
  have J := Inv.made (C := C) I
  have rel : Vals (V.ref nw :: reo ix zs) (Value.ref nw :: reo ix ws) := Paired.cons rfl (Vals.reo rz ix)
  have bd := hb _ [Value.ref nw] ws J.kIn rfl hl
  rw [show [Value.ref nw] ++ ws = Value.ref nw :: ws from rfl, reo_cons] at bd
  refine wpAny_call (make_map (f := f) I.kIn M.makes M.init (beq_iff_eq.mp M.fn) (codeAny_mono (F.go _ X.stack _ _ ⟨[Value.ref nw], ks.zip ws⟩ _ _ _ _ (hr.make C [] (ks.zip ws)) hg (J.env0.make C [] (ks.zip ws)) bd rel hq) ?_))
  rintro (e | fl) s' out
  · exact passAt tk σ pins _ _ e s' J out
  · match fl, out with
    | .ret u, out =>
      obtain ⟨v, H', J2, rv, ev, q3⟩ := J.after out
      subst ev
      exact ⟨rv, .ref nw, H', J2, rfl, q3⟩
def tMakeX (C : Addr) (sp : Sp) (W : Wx) (ix : List Nat) (m : Nat) (t : TA) : TE := fun σ H Q => t σ H fun zs H1 => zs.length = m ∧ ∀ (x dx : Addr), H1 x = none → H1 dx = none → dx ≠ x → sp (.ref x :: reo ix zs) (upd (upd H1 dx (.own x)) x (.ins C dx [])) (fun v H2 => v = .non ∧ Q (.ref x) H2) fun cls d H' => W cls d σ H'
theorem pe_makeX0 {x : Str} {p : Pos} {kws : List Keyword} {tz : TA} {ks : List Str} {ix : List Nat} (M : Mk X.K C f) (F : FnG X.prog X.w X.K X.mg X.base k f fd ps sp) (hr : Room (k + 1) X.A) (hg : X.A.guards = some []) (hm : X.mg x = some (.ref C)) (hb : KX X.K fd ps 1 ks (0 :: ix.map (· + 1))) (tk : Takes X W)
    (hz : PK X kws tz) (hgl : Gl X x := by rfl) (hdb : (x == ("__debug__" : Str)) = false := by decide) (hall : ((backToKw pos (keywordEach kws X.env)).all fun x => x.fst.isSome) = true := by rfl) (hks : List.filterMap (fun x => x.fst) (backToKw pos (keywordEach kws X.env)) = ks := by rfl)
    (hpl : (((backTo pos (starEach [] X.env)).any fun x => x.fst) || (backToKw pos (keywordEach kws X.env)).any fun x => x.fst.isNone) = false := by rfl) :
    PE X (.Call (.Name x p) [] kws pos) (tMakeX C sp W ix ks.length tz) := ⟨fun pins s σ H Q I h =>
  wpAny_Call_Name_kw (ld_glob I hgl hm (PySem.W.callWith_KW0 I.ok.mod.kin M.kp hall (thn (hz.run pos pins s σ H _ I h) fun ws s2 ⟨zs, H2, I2, rz, e1, q2⟩ => ⟨I2.kIn, by
    rw [hks]
    exact makeGX M F hr hg hb tk I2 rz (by rw [← rz.length]; exact e1) q2⟩) hpl) hdb)⟩
/-- C(k = v, ..) -/
theorem e_makeX0 {c : Nat} {ns : List Str} {x : Str} {p : Pos} {kws : List Keyword} {fn : List D → FrI} {n : Nat} {l : Ev → Rs (List D)} {ks : List Str} {ix : List Nat} (F : DefIN X.prog X.w X.K X.mg X.base x (G.C.at_ c) k ps (spI G.K G.C c (n + 1) fn) ks ix) (hns : G.C.fn c = ns) (hr : Room (k + 1) X.A) (hg : X.A.guards = some []) (tk : Takes X W)
    (hz : PK X kws (pA G W l)) (hl : ∀ {ρ ds ρ1}, l ρ = .ok ds ρ1 → ds.length = ks.length) (hix : ∀ i ∈ ix, i < ks.length) (hnn : ix.length = n) (hgl : Gl X x := by rfl) (hdb : (x == ("__debug__" : Str)) = false := by decide) (hall : ((backToKw pos (keywordEach kws X.env)).all fun x => x.fst.isSome) = true := by rfl) (hks : List.filterMap (fun x => x.fst) (backToKw pos (keywordEach kws X.env)) = ks := by rfl)
    (hpl : (((backTo pos (starEach [] X.env)).any fun x => x.fst) || (backToKw pos (keywordEach kws X.env)).any fun x => x.fst.isNone) = false := by rfl) :
    PE X (.Call (.Name x p) [] kws pos) (pE G W (makeE c ns fn (permF ix l))) := by
  obtain ⟨f, fd, hm, mk, hb, h⟩ := F.ex
  have hn : ∀ ds : List D, ds.length = ks.length → (reo ix ds).length = n := fun ds hd => by rw [reo_len hix ds hd, hnn]
  refine PEm (pe_makeX0 mk h hr hg hm hb tk hz hgl hdb hall hks hpl) fun σ H Q q => ?_
  obtain ⟨S, ρ, R, q⟩ := q
  refine ⟨S, ρ, R, ?_⟩
  have q := Po.bind q
  unfold permF at q
  cases el : l ρ with
  | stuck => rw [el] at q; exact q
  | exc c fs ρ1 => rw [el] at q; exact q
  | ok ds ρ1 =>
    rw [el] at q
    intro S1 H1 s1 R1 us r
    refine ⟨by rw [← r.length]; exact hl el, fun x dx hx hdx ne => ?_⟩
    have q := q S1 H1 s1 R1
    dsimp only at q
    have nx : S1 x = none := R1.sub.free hx
    have nd : S1 dx = none := R1.sub.free hdx
    have g1 := Grow.loose R1.sub (.own x) hdx
    have hx2 : upd H1 dx (HO.own x) x = none := by rw [upd_ne (Ne.symm ne)]; exact hx
    have g2 := Grow.loose g1.sub (.ins (G.C.at_ c) dx []) hx2
    have back : ∀ {S' H' : Hp}, GrowM x S1 (upd (upd H1 dx (.own x)) x (.ins (G.C.at_ c) dx [])) S' H' → Grow S1 H1 S' H' := fun {S' H'} g => ⟨g.sS, fun b o q => g.hH b o (by rw [upd_ne (ne_of_none q hx), upd_ne (ne_of_none q hdx)]; exact q) (ne_of_none q hx), g.sub, fun a o q => by
      rcases g.nw a o q with z | z
      · exact .inl z
      · exact .inr (by
          by_cases ha : a = x
          · rw [ha]; exact hx
          · rw [upd_ne ha] at z
            by_cases hb : a = dx
            · rw [hb]; exact hdx
            · rw [upd_ne hb] at z; exact z), g.nt⟩
    refine ⟨S1, x, dx, reo ix ds, PL.reo ix us, rfl, g2.sub, nx, nd, ne, by rw [upd_ne ne]; exact upd_same, upd_same, Rps.reo r ix, by rw [hn ds (hl el)], ?_⟩
    cases ef : fn (reo ix ds) with
    | ok fs =>
      rw [ef] at q
      dsimp only at q
      by_cases hfs : fs.map (·.1) = ns
      · rw [if_pos hfs] at q
        intro S' H' dx' vs' g n' hh rf
        refine ⟨rfl, ?_⟩
        have g3 := back g
        obtain ⟨z1, z2⟩ := rf.rps
        have g4 : Grow S1 H1 (upd S' x (.ins (G.C.at_ c) dx' vs')) H' := ⟨fun b o q => by rw [upd_ne (ne_of_none q nx)]; exact g3.sS b o q, g3.hH, fun b o q => by
          by_cases hb : b = x
          · subst hb; rw [upd_same] at q; cases q; exact hh
          · rw [upd_ne hb] at q; exact g3.sub b o q, fun b o q => by
          by_cases hb : b = x
          · subst hb; exact .inr hx
          · rw [upd_ne hb] at q; exact g3.nw b o q, fun z => (g3.nt z).upd fun _ => nofun⟩
        refine q _ H' g4.sS (R1.grow g4) _ ⟨x, dx', vs'.map (·.2), rfl, ?_, ?_, Rps.mono (fun b o q => by rw [upd_ne (ne_of_none q n')]; exact q) _ _ z2⟩
        · rw [upd_same, hns, ← hfs, ← z1]
        · rw [hns, ← hfs, List.length_map, List.length_map]
      · rw [if_neg hfs] at q; exact q.elim
    | exc c' fs =>
      rw [ef] at q
      intro S' H' d g xo
      have g3 := back g
      exact q S' H' d g3.sS (R1.grow g3) ((xo.from_ fun _ z => upd_none (upd_none z)).up R1)
    | stuck => rw [ef] at q; exact q
end
end PL
/-! PLH: what the head tells of exceptions' classes, tables, == -/
namespace PL
open PySem L2 PySem.Spec PyProof.Rows
theorem arr6 {α : Type} {sl : Array α} {x : α} (h1 : sl.size = 6) (h2 : sl[4]? = some x) : ∃ a b c d e, sl = #[a, b, c, d, x, e] := by
  obtain ⟨l⟩ := sl
  match l, h1 with
  | [a, b, c, d, y, e], _ => cases h2; exact ⟨a, b, c, d, e, rfl⟩
theorem oxK_ok {K : PySem.W.Frag} {C : Addr} (h : oxK K C = true) : ∃ nm q N bs bm sn sub ab col dd k0 k1 k2 k3 k5, K.lookup C = some (excClassObj nm q C N bs bm true sn sub ab col dd k0 k1 k2 k3 k5 "ValueError.__new__") ∧ PySem.HandSPX.refsVE bm = true := by
  unfold oxK at h
  split at h
  · rename_i T dd cd sl e
    simp only [Bool.and_eq_true, decide_eq_true_eq, Bool.not_eq_true'] at h
    obtain ⟨⟨hT, hm⟩, ⟨h1, h2⟩, h3, h4⟩ := h
    subst hT
    obtain ⟨a, b, c, d, e5, rfl⟩ := arr6 h1 h2
    obtain ⟨nm, bs, mro, ns, qn, hd, sn, sub, ab, col, del⟩ := cd
    dsimp only at hm h3 h4
    subst h3 h4
    split at hm
    · rename_i C' bm
      simp only [Bool.and_eq_true, decide_eq_true_eq] at hm
      obtain ⟨rfl, hb⟩ := hm
      exact ⟨nm, qn, ns, bs, bm, sn, sub, ab, col, dd, a, b, c, d, e5, e, hb⟩
    · cases hm
  · cases h
theorem oexK_ok {K : PySem.W.Frag} {C : Addr} (h : oexK K C = true) : OexC K C := by
  obtain ⟨h1, h⟩ := He.ba h
  obtain ⟨h2, h⟩ := He.ba h
  obtain ⟨h3, h⟩ := He.ba h
  obtain ⟨h4, h5⟩ := He.ba h
  exact ⟨oxK_ok h1, He.eqO_ok h2, of_decide_eq_true h3, of_decide_eq_true h4, h5⟩
theorem xiK_ok {K : PySem.W.Frag} {C f : Addr} {ns : List Str} (h : xiK K C f ns = true) : OexC K C ∧ PySem.W.findIn K (.ref C) "__init__" = some (some (.ref f)) ∧ PySem.W.typeIn K (.ref f) = some (.type "function") ∧ ∀ y ∈ ns, PySem.W.findIn K (.ref C) y = some none := by
  obtain ⟨h1, h⟩ := He.ba h
  obtain ⟨h2, h⟩ := He.ba h
  obtain ⟨h3, h4⟩ := He.ba h
  exact ⟨oexK_ok h1, He.eqO_ok h2, of_decide_eq_true h3, fun y hy => He.eqO_ok (List.all_eq_true.mp h4 y hy)⟩
theorem xcK_ok {K : PySem.W.Frag} {D : Addr} (ho1 : PySem.W.specialIn K (.builtin "object.__class__") "__get__" = some (some (.builtin "getset_descriptor.__get__"))) (ho2 : PySem.W.takesIn K (.builtin "object.__class__") = some true) (h : xcK K D = true) : ExcC K D ∧ XfC K D := by
  obtain ⟨h1, h⟩ := He.ba h
  obtain ⟨h2, h3⟩ := He.ba h
  have x := xfB_ok h1
  exact ⟨⟨x.ga, x.gg, x.exC, x.hdC, He.eqO_ok h2, ho1, ho2, of_decide_eq_true h3⟩, x⟩
theorem keK_ok {K : PySem.W.Frag} {C : CT} {n m : Nat} {sub : Nat → Nat → Bool} (ho1 : PySem.W.specialIn K (.builtin "object.__class__") "__get__" = some (some (.builtin "getset_descriptor.__get__"))) (ho2 : PySem.W.takesIn K (.builtin "object.__class__") = some true) (h : keK K C.at_ C.fn n m sub = true) : KindsE K C n m sub := by
  have z : ∀ c, n ≤ c → c < m → xcK K (C.at_ c) = true ∧ ((C.fn c).all fun f => He.eqO (PySem.W.findIn K (.ref (C.at_ c)) f) (some none)) = true ∧ PySem.W.kitOne K (.type "NoneType") (.ref (C.at_ c)) = some false ∧
      ∀ t, n ≤ t → t < m → PySem.W.kitOne K (.ref (C.at_ c)) (.ref (C.at_ t)) = some (sub c t) ∧ PySem.W.exmOne K (.ref (C.at_ c)) (.ref (C.at_ t)) = some (sub c t) := fun c h1 h2 => by
    have q := List.all_eq_true.mp h c (List.mem_range.mpr h2)
    rcases Bool.or_eq_true_iff.mp q with q | q
    · have := of_decide_eq_true q; omega
    · obtain ⟨q1, q⟩ := He.ba q
      obtain ⟨q2, q⟩ := He.ba q
      obtain ⟨q3, q⟩ := He.ba q
      refine ⟨q1, q2, of_decide_eq_true q3, fun t t1 t2 => ?_⟩
      rcases Bool.or_eq_true_iff.mp (List.all_eq_true.mp q t (List.mem_range.mpr t2)) with r | r
      · have := of_decide_eq_true r; omega
      · obtain ⟨r1, r2⟩ := He.ba r
        exact ⟨of_decide_eq_true r1, of_decide_eq_true r2⟩
  exact ⟨⟨fun c h1 h2 => (xcK_ok ho1 ho2 (z c h1 h2).1).1, fun c h1 h2 => (xcK_ok ho1 ho2 (z c h1 h2).1).2, fun c h1 h2 f hf => He.eqO_ok (List.all_eq_true.mp (z c h1 h2).2.1 f hf), fun c h1 h2 t t1 t2 => ((z c h1 h2).2.2.2 t t1 t2).1, fun t t1 t2 => (z t t1 t2).2.2.1⟩, fun c h1 h2 t t1 t2 => ((z c h1 h2).2.2.2 t t1 t2).2⟩
theorem eqK_ok {K : PySem.W.Frag} {at_ : Nat → Addr} {n : Nat} {cs : List Nat} (h : eqK K at_ n cs = true) {c : Nat} (hc : c ∈ cs) : PySem.W.findIn K (.ref (at_ c)) "__ne__" = some (some (.builtin "object.__ne__")) ∧ ∀ t < n, PySem.W.notFirst K (at_ c) (.ref (at_ t)) = true := by
  obtain ⟨h1, h2⟩ := He.ba (List.all_eq_true.mp h c hc)
  exact ⟨He.eqO_ok h1, fun t ht => List.all_eq_true.mp h2 t (List.mem_range.mpr ht)⟩
theorem tbK_ok {K : PySem.W.Frag} {h : Heap} {p : Str × Option Str} (X : K.In h) (q : tbK K p = true) : PySem.W.CodeHd h (He.codeOf K p) (He.tabOf K (He.codeOf K p)) ∧ K.lookup (He.tabOf K (He.codeOf K p)) = none := by
  obtain ⟨h1, h2⟩ := He.ba q
  refine ⟨PySem.W.codeHd_of_K X h1, ?_⟩
  cases e : K.lookup (He.tabOf K (He.codeOf K p)) with
  | none => rfl
  | some o => rw [e] at h2; cases h2
theorem codeAt {K : PySem.W.Frag} {x qual : Str} {params : Arguments} {body : List Stmt} {scope : Scope} {dvs : List V} {kws : List (Str × V)} {p : Str × Option Str} {fd : FuncData} (F : FunD K x qual params body scope dvs kws (He.fAd K p) fd) : fd.code = .ref (He.codeOf K p) := by
  obtain ⟨c, e, oc, od, osl, lk⟩ := FunD.codeEx F
  rw [He.codeOf_eq lk e, e]
theorem bxK_ok {K : PySem.W.Frag} {C f : Addr} (h : bxK K C f = true) : ClX.CRead K C (.type "type") ∧ ClX.CVal K C (.type "type") "__init__" (.ref f) (.ref f) := by
  obtain ⟨p1, p2⟩ := He.ba h
  obtain ⟨p2, p3⟩ := He.ba p2
  refine ⟨⟨p1, He.eqO_ok p2⟩, ?_, rfl⟩
  split at p3
  · rename_i b e
    rw [e, of_decide_eq_true p3]
  · cases p3
end PL
/-! PLM: texts: how one begins, the number that one tells -/
namespace PL
open PySem L2
def oStarts : D → D → Option D
  | .str a, .str b => some (.bl (Txt.startswith a b))
  | _, _ => none
def oIntS : D → Option D
  | .str a => if a.length ≤ 640 then (intText? a).map .int else none
  | _ => none
section
variable {X : Cx} {G : GC} {W : Wx}
theorem q_starts {o e : Expr} {f g : Ev → Option D} {apos cpos : Pos} (ho : PE X o (pB G f)) (he : PE X e (pB G g)) (hbase : attributeBase o "startswith" X.env (eval o X.env) = eval o X.env := by rfl)
    (hline : (apos.endLine == cpos.line) = true := by rfl) (hs : starEach [e] X.env = [(false, eval e X.env)] := by rfl) :
    PE X (.Call (.Attribute o "startswith" apos) [e] [] cpos) (pQ G (q2 oStarts f g)) :=
  PEm (pe_m1 F.slot_str_startswith F.type_str_startswith mt_startswith ho he hs hbase hline) fun σ H Q ⟨S, ρ, R, q⟩ => by
    refine ⟨S, ρ, R, ?_⟩
    unfold q2 at q
    cases e1 : f ρ with
    | none => rw [e1] at q; exact q
    | some d =>
      rw [e1, Option.bind_some] at q
      intro v S1 H1 g1 b1
      cases e2 : g ρ with
      | none => rw [e2] at q; exact q.elim
      | some d2 =>
        rw [e2, Option.bind_some] at q
        cases d with
        | str a =>
          have ev := b1.flat fun _ z => by cases z
          refine ⟨⟨a, ev⟩, S1, ρ, R.grow g1, ?_⟩
          rw [e2]
          intro v2 S2 H2 g2 b2
          cases d2 with
          | str b =>
            have ev2 := b2.flat fun _ z => by cases z
            exact ⟨a, b, ev, by rw [show v2 = V.str b from ev2], q _ S2 H2 (g1.trans g2) rfl⟩
          | _ => exact q.elim
        | _ => exact q.elim
theorem sp_intS : USpec G (fun v H Q => ∃ a n, [v] = [.str a] ∧ intText? a = some n ∧ a.length ≤ 640 ∧ Q (.int n) H) oIntS := by
  intro S H x d d' Q s b e k
  cases d with
  | str a =>
    have ev : x = V.str a := b.flat fun _ z => by cases z
    unfold oIntS at e
    dsimp only at e
    by_cases hl : a.length ≤ 640
    · rw [if_pos hl] at e
      cases hn : intText? a with
      | none => rw [hn] at e; cases e
      | some n =>
        rw [hn] at e
        cases e
        exact ⟨a, n, by rw [ev], hn, hl, k _ S H (Grow.refl s) rfl⟩
    · rw [if_neg hl] at e; cases e
  | _ => cases e
/-! a text gone through, a sign within a text -/
def chrs (z : Str) : List D := z.cps.toList.map fun c => .str ⟨#[c]⟩
def chrE (k : Ev → Rs D) : Ev → Rs (List D) := fun ρ => (k ρ).bind fun d ρ1 => match d with
  | .str z => .ok (chrs z) ρ1
  | _ => .stuck
theorem feeds_str {S0 : Hp} (z : Str) : Feeds G S0 (Its z) (chrs z) := by
  have len : (chrs z).length = z.cps.size := by unfold chrs; rw [List.length_map, Array.length_toList]
  refine ⟨fun i S H s1 s2 hi => ?_, fun S H s1 s2 => by rw [len]; exact Nat.le_refl _⟩
  have il : i < z.cps.size := by rw [← len]; exact hi
  refine ⟨il, fun x H' y => ?_⟩
  obtain ⟨e, c, hc, ev⟩ := y
  subst e
  have hd : (chrs z)[i]? = some (.str ⟨#[c]⟩) := by
    unfold chrs
    rw [List.getElem?_map, Array.getElem?_toList, hc]
    rfl
  exact ⟨S, _, Grow.refl s2, hd, ev⟩
theorem i_str {tg e : Expr} {k : Ev → Rs D} (he : PE X e (pE G W k)) : PI X tg e (pI G W (chrE k)) := PIm (pi_str he) fun σ H R ⟨S, ρ, Re, q⟩ => by
  have q := Po.bind q
  refine ⟨S, ρ, Re, ?_⟩
  cases e : k ρ with
  | stuck => rw [e] at q; exact q.elim
  | exc c fs ρ1 => rw [e] at q; exact q
  | ok d ρ1 =>
    rw [e] at q
    intro S1 H1 s1 R1 v r
    have q := q S1 H1 s1 R1
    cases d with
    | str z => exact ⟨z, r, q S1 H1 (Same.refl _) R1 _ (feeds_str z)⟩
    | _ => exact q.elim
def oInSign (neg : Bool) : D → D → Option D
  | .str a, .str z => if a.cps.size = 1 then some (.bl (if neg then !decide (a.cps.getD 0 0 ∈ z.cps.toList) else decide (a.cps.getD 0 0 ∈ z.cps.toList))) else none
  | _, _ => none
theorem sign_of {a : Str} (h : a.cps.size = 1) : a = ⟨#[a.cps.getD 0 0]⟩ := by
  obtain ⟨⟨l⟩⟩ := a
  match l, h with
  | [c], _ => rfl
theorem sp_inSign : BSpec G (fun x y H Q => ∃ (c : Nat) (z : Str), x = .str ⟨#[c]⟩ ∧ y = .str z ∧ Q (.bl (decide (c ∈ z.cps.toList))) H) (oInSign false) := by
  intro S H x y d1 d2 d' Q s b1 b2 e k
  cases d1 with
  | str a =>
    cases d2 with
    | str z =>
      have e1 : x = V.str a := b1.flat fun _ z => by cases z
      have e2 : y = V.str z := b2.flat fun _ z => by cases z
      unfold oInSign at e
      dsimp only at e
      by_cases h : a.cps.size = 1
      · rw [if_pos h] at e
        cases e
        exact ⟨_, z, by rw [e1]; exact congrArg V.str (sign_of h), e2, k _ S H (Grow.refl s) rfl⟩
      · rw [if_neg h] at e; cases e
    | _ => cases e
  | _ => cases e
/-! a piece of a text -/
def slS (k : Ev → Rs D) (l u : Ev → Rs (Option Int)) : Ev → Rs D := fun ρ => (k ρ).bind fun d ρ1 => (l ρ1).bind fun lo ρ2 => (u ρ2).bind fun hi ρ3 => match d with
  | .str z => if z.length ≤ sizeLine then .ok (.str (cutS z lo hi)) ρ3 else .stuck
  | _ => .stuck
theorem e_slS {e : Expr} {k : Ev → Rs D} {lo hi : Option Expr} {l u : Ev → Rs (Option Int)} {p2 pos : Pos} (he : PE X e (pE G W k)) (hl : PO X lo (pO G W l)) (hu : PO X hi (pO G W u)) : PE X (.Subscript e (.Slice lo hi none p2) pos) (pE G W (slS k l u)) :=
  PEm (pe_slice sl_str he hl hu) fun σ H Q ⟨S, ρ, R, q⟩ => ⟨S, ρ, R, Po.mono (Po.bind q) fun d ρ1 S1 H1 s1 R1 q v r => ⟨S1, ρ1, R1, Po.mono (Po.bind q) fun lo ρ2 S2 H2 s2 R2 q => ⟨S2, ρ2, R2, Po.mono (Po.bind q) fun hi ρ3 S3 H3 s3 R3 q => by
    cases d with
    | str z =>
      dsimp only at q
      by_cases h : z.length ≤ sizeLine
      · rw [if_pos h] at q
        exact ⟨z, r, h, q S3 H3 (Same.refl _) R3 _ rfl⟩
      · rw [if_neg h] at q; exact q.elim
    | _ => exact q.elim⟩⟩⟩
/-! a text cut at another one -/
def oSplit : D → D → Option (List D)
  | .str a, .str b => if (b.length == 0) = false ∧ a.length + 2 ≤ sizeLine then some ((Txt.split a b).map D.str) else none
  | _, _ => none
def splitF (k l : Ev → Rs D) : Ev → Rs (List D) := fun ρ => (k ρ).bind fun d ρ1 => match d with
  | .str a => (l ρ1).bind fun b ρ2 => Rs.opt (oSplit (.str a) b) ρ2
  | _ => .stuck
theorem rps_strs {K : PySem.W.Frag} {C : CT} {S : Hp} : ∀ xs : List Str, Rps K C S (xs.map D.str) (xs.map V.str)
  | [] => Rps.nil
  | x :: xs => Rps.cons (show V.str x = V.str x from rfl) (rps_strs xs)
theorem f_split {o e : Expr} {k l : Ev → Rs D} {apos pos : Pos} (ho : PE X o (pE G W k)) (he : PE X e (pE G W l)) (hs : starEach [e] X.env = [(false, eval e X.env)] := by rfl) (hbase : attributeBase o "split" X.env (eval o X.env) = eval o X.env := by rfl) (hline : (apos.endLine == pos.line) = true := by rfl) :
    PE X (.Call (.Attribute o "split" apos) [e] [] pos) (pF G W (splitF k l)) :=
  PEm (pe_split ho he hs hbase hline) fun σ H Q ⟨S, ρ, R, q⟩ => by
    refine ⟨S, ρ, R, ?_⟩
    have q := Po.bind q
    cases ek : k ρ with
    | stuck => rw [ek] at q; exact q
    | exc c fs ρ1 => rw [ek] at q; exact q
    | ok d ρ1 =>
      rw [ek] at q
      intro S1 H1 s1 R1 v r
      have q := q S1 H1 s1 R1
      cases d with
      | str a =>
        have q := Po.bind q
        refine ⟨⟨a, r⟩, S1, ρ1, R1, ?_⟩
        refine Po.mono q fun d2 ρ2 S2 H2 s2 R2 q v2 r2 => ?_
        cases d2 with
        | str b =>
          unfold oSplit at q
          dsimp only at q
          by_cases h : (b.length == 0) = false ∧ a.length + 2 ≤ sizeLine
          · rw [if_pos h] at q
            refine ⟨a, b, r, by rw [show v2 = V.str b from r2], h.1, h.2, fun p hp => ?_⟩
            obtain ⟨h0, h1, h2⟩ := R2.new0 hp
            exact q S2 _ (Same.refl _) (R2.grow (Grow.loose R2.sub _ hp)) p _ h0 h1 h2 upd_same (rps_strs _)
          · rw [if_neg h] at q; exact q.elim
        | _ => exact q.elim
      | _ => exact q.elim
end
end PL
/-! PLN: a staticmethod called by its class -/
namespace PL
open PySem L2
/-- C.m is a staticmethod: its record at p, its def at g -/
structure SMet (K : PySem.W.Frag) (C : Addr) (mc : Value) (m : Str) (p g : Addr) : Prop where
  rd : PySem.W.readsIn K C mc = true
  ga : PySem.W.specialIn K (.ref C) "__getattribute__" = some (some (.builtin "type.__getattribute__"))
  at_ : PySem.W.findCls K (.ref C) mc m = some (.get (.builtin "staticmethod.__get__") (.ref p) .none (.ref C))
  rc : ∃ rest, PySem.W.recIn K p "staticmethod" = some (.ref g :: rest)
  kp : PySem.W.keepIn K (.ref g) = true
section
variable {X : Cx} {G : GC} {W : Wx} {pos apos : Pos} {k : Nat} {g C p : Addr} {mc : Value} {m : Str} {fd : FuncData} {ps : List Str} {sp : Sp}
def tSMeth (C : Addr) (sp : Sp) (W : Wx) (ta : TE) (t : TA) : TE := fun σ H Q => ta σ H fun x H1 => x = .ref C ∧ t σ H1 fun vs H2 => sp (vs ++ []) H2 Q fun cls d H' => W cls d σ H'
theorem pe_smeth {o e : Expr} {es : List Expr} {ta : TE} {t : TA} {pl : Sem Bool} (he : PE X o ta) (c : SMet X.K C mc m p g) (F : FnG X.prog X.w X.K X.mg X.base k g fd ps sp) (hr : Room k X.A) (hg : X.A.guards = some []) (hb : Binds X.K fd ps []) (tk : Takes X W) (ha : PA X (e :: es) t)
    (hs : starEach (e :: es) X.env = (false, eval e X.env) :: starEach es X.env := by rfl) (hpl : (backTo pos (starEach es X.env)).any (·.1) = false := by rfl)
    (ht : eval (.Call (.Attribute o m apos) (e :: es) [] pos) X.env = (do
      let ov ← eval o X.env
      standAt apos.atName
      let (f, first) ← holding [ov] (getMethod ov m pl)
      callWith pos f first (backTo pos (starEach (e :: es) X.env)) (backToKw pos (keywordEach [] X.env))) := by rfl) :
    PE X (.Call (.Attribute o m apos) (e :: es) [] pos) (tSMeth C sp W ta t) := ⟨fun pins s σ H Q I h => by
  obtain ⟨rest, hp⟩ := c.rc
  refine PySem.W.methodCall_KW (pl := pl) (thn (he.run pins s σ H _ I h) ?_) ht
  rintro u s1 ⟨x, H1, I1, rx, ex, q⟩
  subst ex
  cases rx
  have I2 : Inv X pins σ H1 { s1 with toks := s1.toks + 1 } := I1.tok _
  refine PySem.W.method_cls I1.kIn c.ga (PySem.W.cls_bind I1.kIn c.rd c.at_ (wpAny_call (PySem.W.sm_get (s := { s1 with toks := s1.toks + 1 }) I1.kIn hp (PySem.W.handed_on (by rfl) ?_))))
  exact PySem.W.callWith_K I.ok.mod.kin c.kp (thn (ha.run pos pins _ σ H1 _ I2 q) fun us s3 ⟨vs, H2, I3, rv, q2⟩ => ⟨I3.kIn, goG F hr hg hb .nil tk I3 rv q2⟩) hs hpl⟩
/-- a def within a class that takes no self, reached by the class's name x -/
structure DefS (P : Program) (w : World) (K : PySem.W.Frag) (mg : Str → Option Value) (base : Heap) (x m : Str) (C : Addr) (k : Nat) (ps : List Str) (sp : Sp) : Prop where
  ex : ∃ mc p g fd, mg x = some (.ref C) ∧ SMet K C mc m p g ∧ Binds K fd ps [] ∧ FnG P w K mg base k g fd ps sp
/-- C.m(e, ..) -/
theorem e_smeth {x : Str} {p0 : Pos} {e : Expr} {es : List Expr} {fn : List D → Fr} {n : Nat} {l : Ev → Rs (List D)} {pl : Sem Bool} (F : DefS X.prog X.w X.K X.mg X.base x m C k ps (spP G.K G.C n fn)) (hr : Room k X.A) (hg : X.A.guards = some []) (tk : Takes X W)
    (ha : PA X (e :: es) (pA G W l)) (hl : ∀ {ρ ds ρ1}, l ρ = .ok ds ρ1 → ds.length = n) (hgl : Gl X x := by rfl) (hdb : (x == ("__debug__" : Str)) = false := by decide)
    (hs : starEach (e :: es) X.env = (false, eval e X.env) :: starEach es X.env := by rfl) (hpl : (backTo pos (starEach es X.env)).any (·.1) = false := by rfl)
    (ht : eval (.Call (.Attribute (.Name x p0) m apos) (e :: es) [] pos) X.env = (do
      let ov ← eval (.Name x p0) X.env
      standAt apos.atName
      let (f, first) ← holding [ov] (getMethod ov m pl)
      callWith pos f first (backTo pos (starEach (e :: es) X.env)) (backToKw pos (keywordEach [] X.env))) := by rfl) :
    PE X (.Call (.Attribute (.Name x p0) m apos) (e :: es) [] pos) (pE G W (callE fn l)) := by
  obtain ⟨mc, p, g, fd, hm, c, hb, h⟩ := F.ex
  exact PEm (pe_smeth (pl := pl) (pe_glob (v := .ref C) hgl hm rfl hdb) c h hr hg hb tk ha hs hpl ht) fun σ H Q q => ⟨rfl, callE_ok hl q⟩
/-! by names -/
structure DefSX (P : Program) (w : World) (K : PySem.W.Frag) (mg : Str → Option Value) (base : Heap) (x m : Str) (C : Addr) (k : Nat) (ps : List Str) (sp : Sp) (ks : List Str) (ix : List Nat) : Prop where
  ex : ∃ mc p g fd, mg x = some (.ref C) ∧ SMet K C mc m p g ∧ KX K fd ps 0 ks ix ∧ FnG P w K mg base k g fd ps sp
/-- C.m(k = v, ..) -/
theorem e_smethX0 {x : Str} {p0 : Pos} {kws : List Keyword} {fn : List D → Fr} {n : Nat} {l : Ev → Rs (List D)} {ks : List Str} {ix : List Nat} {pl : Sem Bool} (F : DefSX X.prog X.w X.K X.mg X.base x m C k ps (spP G.K G.C n fn) ks ix) (hr : Room k X.A) (hg : X.A.guards = some []) (tk : Takes X W)
    (hz : PK X kws (pA G W l)) (h2 : ∀ {ρ ds ρ1}, l ρ = .ok ds ρ1 → ds.length = ks.length) (hix : ∀ i ∈ ix, i < 0 + ks.length) (hn : ix.length = n) (hgl : Gl X x := by rfl) (hdb : (x == ("__debug__" : Str)) = false := by decide) (hall : ((backToKw pos (keywordEach kws X.env)).all fun x => x.fst.isSome) = true := by rfl) (hks : List.filterMap (fun x => x.fst) (backToKw pos (keywordEach kws X.env)) = ks := by rfl)
    (hpl : (((backTo pos (starEach [] X.env)).any fun x => x.fst) || (backToKw pos (keywordEach kws X.env)).any fun x => x.fst.isNone) = false := by rfl)
    (ht : eval (.Call (.Attribute (.Name x p0) m apos) [] kws pos) X.env = (do
      let ov ← eval (.Name x p0) X.env
      standAt apos.atName
      let (f, first) ← holding [ov] (getMethod ov m pl)
      callWith pos f first (backTo pos (starEach [] X.env)) (backToKw pos (keywordEach kws X.env))) := by rfl) :
    PE X (.Call (.Attribute (.Name x p0) m apos) [] kws pos) (pE G W (callX ix fn nilA l)) := by
  obtain ⟨mc, p, g, fd, hm, c, hb, h⟩ := F.ex
  obtain ⟨rest, hp⟩ := c.rc
  subst hn
  refine ⟨fun pins s σ H Q I q => ?_⟩
  have q := callX_ok (np := 0) (nk := ks.length) nilA_len h2 (reo_len hix) q
  obtain ⟨S, ρ, R, q⟩ := q
  have q := (q S H (Same.refl _) R [] rfl).2
  refine PySem.W.methodCall_KW (pl := pl) (thn ((pe_glob (pos := p0) (v := .ref C) hgl hm rfl hdb).run pins s σ H (fun v H1 => v = .ref C ∧ H1 = H) I ⟨rfl, rfl⟩) ?_) ht
  rintro u s1 ⟨y, H1, I1, rx, ex, eH⟩
  subst ex eH
  cases rx
  have I2 : Inv X pins σ H1 { s1 with toks := s1.toks + 1 } := I1.tok _
  refine PySem.W.method_cls I1.kIn c.ga (PySem.W.cls_bind I1.kIn c.rd c.at_ (wpAny_call (PySem.W.sm_get (s := { s1 with toks := s1.toks + 1 }) I1.kIn hp (PySem.W.handed_on (by rfl) ?_))))
  refine PySem.W.callWith_KW0 I.ok.mod.kin c.kp hall (thn (hz.run pos pins _ σ H1 _ I2 q) fun ws s2 ⟨zs, H2, I3, rz, e1, q2⟩ => ⟨I3.kIn, ?_⟩) hpl
  rw [hks]
  exact goX h hr hg hb tk I3 Paired.nil rz rfl (by rw [← rz.length]; exact e1) q2
end
end PL
/-! PLW: a text times a number; an own object == what is none; a staticmethod read off the head -/
namespace PL
open PySem L2
def oMulS : D → D → Option D
  | .str x, .int n => if x.length = 1 ∧ 2 ≤ n ∧ n ≤ 10000 then some (.str (Txt.mul x n)) else none
  | _, _ => none
section
variable {X : Cx} {G : GC} {W : Wx} {pos : Pos}
abbrev rMulS : R2 := fun x y H Q => ∃ i k, x = .str i ∧ y = .int k ∧ MulOk i k ∧ Q (.str (Txt.mul i k)) H
theorem op_mulS : OpR X (binaryOp .Mult) rMulS := by
  intro pins s σ H x y v u Q I rx ry h
  obtain ⟨i, k, rfl, rfl, hk, q⟩ := h
  obtain ⟨t, rfl⟩ := rx
  obtain ⟨t', rfl⟩ := ry
  exact SB.mul hk fun t' tk => ⟨.str (Txt.mul i k), H, I.tok _, ⟨_, rfl⟩, q⟩
theorem mulOk1 {x : Str} {n : Int} (h : x.length = 1 ∧ 2 ≤ n ∧ n ≤ 10000) : MulOk x n := by
  obtain ⟨h1, h2, h3⟩ := h
  refine ⟨?_, fun _ _ => ?_, fun _ _ => ?_⟩
  · simp only [Bool.or_eq_false_iff, decide_eq_false_iff_not]
    constructor <;> omega
  · rw [h1]
    have e : (1 : Int) ≤ (2 ^ 63 - 1) / n := by
      rw [Int.le_ediv_iff_mul_le (by omega)]
      omega
    have e2 : (((1 : Nat) : Int)) = 1 := rfl
    omega
  · rw [h1]
    unfold Builtin.Str.tooLong
    have z : (10000 : Nat) ≤ sizeLine := by decide
    refine decide_eq_false fun q => ?_
    omega
theorem sp_mulS : BSpec G rMulS oMulS := by
  intro S H x y d1 d2 d' Q s b1 b2 e k
  cases d1 with
  | str a =>
    cases d2 with
    | int n =>
      unfold oMulS at e
      dsimp only at e
      by_cases h : a.length = 1 ∧ 2 ≤ n ∧ n ≤ 10000
      · rw [if_pos h] at e
        cases e
        exact ⟨a, n, b1.str, b2.int, mulOk1 h, k _ S H (Grow.refl s) rfl⟩
      · rw [if_neg h] at e; cases e
    | _ => cases e
  | _ => cases e
theorem sp_notInSign : BSpec G (fun x y H Q => ∃ (c : Nat) (z : Str), x = .str ⟨#[c]⟩ ∧ y = .str z ∧ Q (.bl (!decide (c ∈ z.cps.toList))) H) (oInSign true) := by
  intro S H x y d1 d2 d' Q s b1 b2 e k
  cases d1 with
  | str a =>
    cases d2 with
    | str z =>
      have e1 : x = V.str a := b1.flat fun _ z => by cases z
      have e2 : y = V.str z := b2.flat fun _ z => by cases z
      unfold oInSign at e
      dsimp only at e
      by_cases h : a.cps.size = 1
      · rw [if_pos h] at e
        cases e
        exact ⟨_, z, by rw [e1]; exact congrArg V.str (sign_of h), e2, k _ S H (Grow.refl s) rfl⟩
      · rw [if_neg h] at e; cases e
    | _ => cases e
  | _ => cases e
/-! #### a relation asked of values that are held -/
def RSpec (G : GC) (r : R2) (o : D → D → Option D) : Prop := ∀ S H x y d1 d2 d' Q, Same S H → Rp G.K G.C S d1 x → Rp G.K G.C S d2 y → o d1 d2 = some d' → (∀ v S' H', Grow S H S' H' → Rp G.K G.C S' d' v → Q v H') → r x y H Q
theorem e2R_ok {r : R2} {o : D → D → Option D} (sp : RSpec G r o) {f g : Ev → Rs D} {σ : L2.St} {H : Hp} {Q : VK} (h : pE G W (e2 o f g) σ H Q) : pE G W f σ H fun x H1 => pE G W g σ H1 fun y H2 => r x y H2 Q := by
  obtain ⟨S, ρ, R, q⟩ := h
  refine ⟨S, ρ, R, ?_⟩
  have q := Po.bind q
  cases e : f ρ with
  | stuck => rw [e] at q; exact q
  | exc c fs ρ' => rw [e] at q; exact q
  | ok d ρ' =>
    rw [e] at q
    intro S1 H1 s1 R1 v rp1
    have q := Po.bind (q S1 H1 s1 R1)
    refine ⟨S1, ρ', R1, ?_⟩
    cases e2 : g ρ' with
    | stuck => rw [e2] at q; exact q
    | exc c fs ρ' => rw [e2] at q; exact q
    | ok d2 ρ2 =>
      rw [e2] at q
      intro S2 H2 s2 R2 v2 rp2
      have q := q S2 H2 s2 R2
      dsimp only at q
      cases e3 : o d d2 with
      | none => rw [e3] at q; exact q.elim
      | some d' =>
        rw [e3] at q
        exact sp S2 H2 v v2 d d2 d' Q R2.sub (Rp.mono s2 _ _ rp1) rp2 e3 fun v3 S3 H3 g3 r3 => q S3 H3 g3.sS (R2.grow g3) v3 r3
theorem e_cmpR {op : CmpOp} {r : R2} {o : D → D → Option D} {a b : Expr} {k l : Ev → Rs D} (ho : OpR X (compareOp op) r) (sp : RSpec G r o) (ha : PE X a (pE G W k)) (hb : PE X b (pE G W l)) (hm : behindInMarks op b = false := by first | exact nomark _ | rfl) : PE X (.Compare a [op] [b] pos) (pE G W (e2 o k l)) := PEm (pe_cmpR ho ha hb hm) fun _ _ _ h => e2R_ok sp h
theorem t_cmpR {op : CmpOp} {r : R2} {o : D → D → Option D} {a b : Expr} {k l : Ev → Rs D} (ho : OpR X (compareOp op) r) (sp : RSpec G r o) (ha : PE X a (pE G W k)) (hb : PE X b (pE G W l)) (hm : behindInMarks op b = false := by first | exact nomark _ | rfl) :
    PT X (.Compare a [op] [b] pos) (pT G W (asB (e2 o k l))) := PTm (pt_cmpR ho ha hb hm) fun _ _ _ q => e2R_ok sp (asB_ok q)
end
/-! #### an own object and whatever -/
def eqM (neg : Bool) (n : Nat) (eqs : Nat → Option (List D → Fr)) : D → D → Option D := fun a b => match a with
  | .ins c fs => (match tyN b with
    | some _ => (match eqs c with
      | some g => (match g [.ins c fs, b] with
        | .ok (.bl r) => some (.bl (if neg then !r else r))
        | _ => none)
      | none => none)
    | none => eqO neg n eqs (.ins c fs) b)
  | a => eqO neg n eqs a b
section
variable {X : Cx} {G : GC} {k n : Nat} {eqs : Nat → Option (List D → Fr)}
def rOwnM (K : PySem.W.Frag) (C : CT) (eqs : Nat → Option (List D → Fr)) (neg : Bool) : R2 := fun x y H Q => ∃ a c dx vs g t, x = .ref a ∧ H a = some (.ins (C.at_ c) dx vs) ∧ TyX K H y (.type t) ∧ t ∈ tyNs ∧ eqs c = some g ∧
  spP K C 2 g [x, y] H (fun v H' => ∃ r, v = .bl r ∧ Q (.bl (if neg then !r else r)) H') (fun _ _ _ => False)
/-- a class with an own __eq__ is asked first -/
def EqM (K : PySem.W.Frag) (C : CT) (eqs : Nat → Option (List D → Fr)) : Prop := ∀ c g, eqs c = some g → ∀ t ∈ tyNs, PySem.W.notFirst K (C.at_ c) (.type t) = true
theorem op_eqM {C : CT} (T : EqT X.prog X.w X.K X.mg X.base C k n eqs) (M : EqM X.K C eqs) (hr : Room (k + 1) X.A) (hg : X.A.guards = some []) : OpR X (compareOp .Eq) (fun x y H Q => rEqO X.K C n eqs x y H Q ∨ rOwnM X.K C eqs false x y H Q) := by
  intro pins s σ H x y v u Q I rx ry h
  rcases h with h | h
  · exact op_eqO T hr hg pins s σ H x y v u Q I rx ry h
  · obtain ⟨a, c, dx, vs, g, t, rfl, ha, ty, ht, eg, q⟩ := h
    obtain ⟨⟨ps, D1⟩, hne, _⟩ := T.ok c g eg
    obtain ⟨f, fd, cl, mt, hbd, F⟩ := D1.ex
    cases (show v = Value.ref a from rx)
    obtain ⟨mA, J, _⟩ := ins_get I.hok ha
    obtain ⟨od, J, _⟩ := J.look
    obtain ⟨P, Z, hp, _⟩ := kit_of I ry ty
    obtain ⟨m, hF⟩ := I.fr
    show wpAny (model X.prog X.w) X.A (richCompare .Eq (.ref a) u) (EP X pins σ Q) X.xe s
    refine PySem.W.cmp_K (op := .Eq) (tb := .type t) hr.units0 hF I.ok.mod.kin J (Z.ty _ _ I.kIn hp) (M c g eg t ht) mt.at_ mt.fn ?_
    refine wpAny_mono (callQ (A := X.A) (x := .ref a) (y := y) F (hr.mono (Nat.le_succ _)) hg rfl hbd I rfl ry q) (fun z s' hz => ?_) fun _ _ e => e
    obtain ⟨v', H', I', rv, r, rfl, q2⟩ := hz
    cases rv
    exact ⟨.bl r, H', I', rfl, q2⟩
theorem op_neM {C : CT} (T : EqT X.prog X.w X.K X.mg X.base C k n eqs) (M : EqM X.K C eqs) (hr : Room (k + 1) X.A) (hg : X.A.guards = some []) : OpR X (compareOp .NotEq) (fun x y H Q => rNeO X.K C n eqs x y H Q ∨ rOwnM X.K C eqs true x y H Q) := by
  intro pins s σ H x y v u Q I rx ry h
  rcases h with h | h
  · exact op_neO T hr hg pins s σ H x y v u Q I rx ry h
  · obtain ⟨a, c, dx, vs, g, t, rfl, ha, ty, ht, eg, q⟩ := h
    obtain ⟨⟨ps, D1⟩, hne, _⟩ := T.ok c g eg
    obtain ⟨f, fd, cl, mt, hbd, F⟩ := D1.ex
    cases (show v = Value.ref a from rx)
    obtain ⟨mA, J, _⟩ := ins_get I.hok ha
    obtain ⟨od, J, _⟩ := J.look
    obtain ⟨P, Z, hp, _⟩ := kit_of I ry ty
    obtain ⟨m, hF⟩ := I.fr
    show wpAny (model X.prog X.w) X.A (richCompare .NotEq (.ref a) u) (EP X pins σ Q) X.xe s
    refine ne_K (tb := .type t) (by have := hr.in1.units0; exact this) hF I.ok.mod.kin J (Z.ty _ _ I.kIn hp) (M c g eg t ht) cl.po hne mt.at_ mt.fn ?_
    refine wpAny_mono (callQ (A := X.A.in1) (x := .ref a) (y := y) F hr.in1 hg rfl hbd I rfl ry q) (fun z s' hz => ?_) fun _ _ e => e
    obtain ⟨v', H', I', rv, r, rfl, q2⟩ := hz
    cases rv
    exact ⟨r, rfl, .bl (!r), H', I', rfl, q2⟩
theorem ownM_spec (neg : Bool) {S H : Hp} {x y : V} {c : Nat} {fs : List D} {d2 d' : D} {t : String} {Q : VK} (s : Same S H) (b1 : Rp G.K G.C S (.ins c fs) x) (b2 : Rp G.K G.C S d2 y) (ht : tyN d2 = some t) (e : eqM neg n eqs (.ins c fs) d2 = some d') (k : ∀ v S' H', Grow S H S' H' → Rp G.K G.C S' d' v → Q v H') : rOwnM G.K G.C eqs neg x y H Q := by
  unfold eqM at e
  dsimp only at e
  rw [ht] at e
  dsimp only at e
  split at e
  · rename_i g eg
    split at e
    · rename_i r er
      cases e
      obtain ⟨a, dx, vs, rfl, ha, l1, q1⟩ := id b1
      refine ⟨a, c, dx, _, g, t, rfl, s _ _ ha, BRp.tyX s (.inl b2) ht, tyN_mem ht, eg, S, _, s, .cons b1 (.cons b2 .nil), rfl, ?_⟩
      rw [er]
      intro v S' H' gr rv
      cases rv
      exact ⟨r, rfl, k _ S' H' gr rfl⟩
    · cases e
  · cases e
theorem eqM_non {neg : Bool} {a b : D} (h : ∀ c fs, a = .ins c fs → tyN b = none) : eqM neg n eqs a b = eqO neg n eqs a b := by
  cases a with
  | ins c fs =>
    unfold eqM
    dsimp only
    rw [h c fs rfl]
  | _ => rfl
theorem sp_eqM : RSpec G (fun x y H Q => rEqO G.K G.C n eqs x y H Q ∨ rOwnM G.K G.C eqs false x y H Q) (eqM false n eqs) := by
  intro S H x y d1 d2 d' Q s b1 b2 e k
  cases d1 with
  | ins c fs =>
    cases ht : tyN d2 with
    | some t => exact .inr (ownM_spec false s b1 b2 ht e k)
    | none => exact .inl (sp_eqO S H x y _ d2 d' Q s (.inl b1) (.inl b2) (by rw [← e]; exact (eqM_non fun _ _ _ => ht).symm) k)
  | _ => exact .inl (sp_eqO S H x y _ d2 d' Q s (.inl b1) (.inl b2) e k)
theorem sp_neM : RSpec G (fun x y H Q => rNeO G.K G.C n eqs x y H Q ∨ rOwnM G.K G.C eqs true x y H Q) (eqM true n eqs) := by
  intro S H x y d1 d2 d' Q s b1 b2 e k
  cases d1 with
  | ins c fs =>
    cases ht : tyN d2 with
    | some t => exact .inr (ownM_spec true s b1 b2 ht e k)
    | none => exact .inl (sp_neO S H x y _ d2 d' Q s (.inl b1) (.inl b2) (by rw [← e]; exact (eqM_non fun _ _ _ => ht).symm) k)
  | _ => exact .inl (sp_neO S H x y _ d2 d' Q s (.inl b1) (.inl b2) e k)
end
/-! #### what the head tells -/
theorem smK_ok {K : PySem.W.Frag} {C : Addr} {m : Str} (h : smK K C m = true) (kp : PySem.W.keepIn K (.ref (He5.wf K C "staticmethod" m)) = true) : SMet K C (.type "type") m (He.ma K C m) (He5.wf K C "staticmethod" m) := by
  obtain ⟨h1, h⟩ := He.ba h
  obtain ⟨h2, h3⟩ := He.ba h
  obtain ⟨h4, h5⟩ := He5.wrapB_ok h3
  exact ⟨h1, He.eqO_ok h2, h4, h5, kp⟩
theorem emK_ok {K : PySem.W.Frag} {at_ : Nat → Addr} {cs : List Nat} (h : emK K at_ cs = true) {c : Nat} (hc : c ∈ cs) : ∀ t ∈ tyNs, PySem.W.notFirst K (at_ c) (.type t) = true :=
  fun t ht => List.all_eq_true.mp (List.all_eq_true.mp h c hc) t ht
end PL
namespace PL
open PySem L2
open LamX (TabB LamS lamS_by lamCx)
open PyProof.Rows (envOfC)
abbrev FnT (K : PySem.W.Frag) (x q : Str) (s : Stmt) (f : Addr) (fd : FuncData) : Prop := FunD K x q (defArgs s) (defBody s) (defScope s) [] [] f fd
structure Bi (mg : Str → Option Value) : Prop where
  b_abs : mg "abs" = none
  b_all : mg "all" = none
  b_bool : mg "bool" = none
  b_enumerate : mg "enumerate" = none
  b_int : mg "int" = none
  b_isinstance : mg "isinstance" = none
  b_len : mg "len" = none
  b_range : mg "range" = none
  b_repr : mg "repr" = none
  b_str : mg "str" = none
abbrev CC (at_ : Nat → Addr) : CT := ⟨at_, fnTab⟩
noncomputable def l__law_heard : List Cl := [((fun c => subs c 3), some 2, (setF 1 (tupE (consA (up (ct (.str "text"))) (consA (up (q1 (attrX nC nX fnTab "line") (bn 2))) (consA (up (q1 (attrX nC nX fnTab "item") (bn 2))) nilA)))))), ((fun c => subs c 2), some 2, (setF 1 (tupE (consA (up (ct (.str "number"))) (consA (up (q1 (attrX nC nX fnTab "part") (bn 2))) nilA))))), ((fun c => subs c 1), none, (setF 1 (tupE (consA (up (ct (.str "other"))) nilA))))]
noncomputable def fr__law_heard : Ev → Fl := (retF (fz 1))
noncomputable def h__law_heard : Option (Nat × List D) → Option D := hOf nC nX 3 (.tup []) l__law_heard fr__law_heard
noncomputable def b__law_can : Ev → Rs (List D) := (lenOk (consA (asL (compF [1] (tnm 1) (seqE (asL (slF (fz 0) noO (asO (up (ct (.int 63))))))) yesT (up (q1 oInt (bn 1))))) (consA (up (ct (.int 0))) (consA (up (ct (.int 0))) nilA))))
noncomputable def m__law_can : List D → FrL := runL 2 b__law_can
noncomputable def b__law_sip : Ev → Fl := (sq (ifF (asB (up (q2 oGt (q2 oIx (bn 0) (ct (.int 2))) (ct (.int 0)))))
  (sq (setF 2 (up (q1 oInt (q2 oIx (bn 0) (ct (.int 2))))))
  (sq (setiF 0 (ct (.int 2)) (up (q2 oDiv (bn 2) (bn 1))))
  (retF (up (q2 oMod (q1 oInt (bn 2)) (bn 1))))))
  Fl.nx)
  (sq (setF 3 (up (q2 oIx (bn 0) (ct (.int 1)))))
  (sq (setiF 0 (ct (.int 1)) (up (q2 oPlus (bn 3) (ct (.int 1)))))
  (sq (setF 4 (up (q2 oPlus (q2 oTimes (ct (.int 88069)) (bn 3)) (ct (.int 7211)))))
  (sq (ifF (asB (up (q2 (eqD true) (q2 oIx (bn 0) (ct (.int 0))) (ct (.lst [])))))
  (setF 4 (up (q2 oIx (q2 oIx (bn 0) (ct (.int 0))) (q2 oMod (q1 oInt (bn 3)) (q1 (orU oLen oLenS) (q2 oIx (bn 0) (ct (.int 0))))))))
  Fl.nx)
  (sq (ifF (andT (asB (up (q2 oLt (bn 3) (q1 (orU oLen oLenS) (q2 oIx (bn 0) (ct (.int 0))))))) (asB (up (q2 oGe (q1 oAbs (bn 4)) (q2 oPow (ct (.int 10)) (ct (.int 18)))))))
  (sq (setF 2 (up (q2 oPlus (q2 oTimes (ct (.int 2)) (q2 oSub (q1 oAbs (bn 4)) (q2 oPow (ct (.int 10)) (ct (.int 18))))) (q1 oInt (q2 oLt (bn 4) (ct (.int 0)))))))
  (sq (setiF 0 (ct (.int 2)) (up (q2 oDiv (q1 oInt (bn 2)) (bn 1))))
  (retF (up (q2 oMod (q1 oInt (bn 2)) (bn 1))))))
  Fl.nx)
  (sq (setF 5 (up (q2 oMod (q1 oInt (q2 oPow (q2 oPlus (q2 oPlus (q2 oMod (q1 oInt (bn 4)) (ct (.int 2147483587))) (q2 oTimes (ct (.int 61051)) (bn 3))) (ct (.int 7211))) (ct (.int 5)))) (ct (.int 2147483563)))))
  (sq (setF 5 (up (q2 oMod (q1 oInt (q2 oPow (q2 oPlus (q2 oPlus (q2 oTimes (bn 5) (q2 oPlus (q2 oTimes (ct (.int 2)) (bn 3)) (ct (.int 3907)))) (q2 oTimes (q2 oTimes (ct (.int 88069)) (bn 3)) (bn 3))) (ct (.int 61051))) (ct (.int 3)))) (ct (.int 2147483629)))))
  (retF (up (q2 oMod (q1 oInt (q2 oDiv (bn 5) (ct (.int 64)))) (bn 1))))))))))))
noncomputable def m__law_sip : List D → List D → FrM := runM 6 b__law_sip
noncomputable def b__law_choose : Ev → Fl := (retF (e2 oIx (fz 1) (callM 0 m__law_sip (consA (up (q1 (orU oLen oLenS) (bn 1))) nilA))))
noncomputable def m__law_choose : List D → List D → FrM := runM 2 b__law_choose
noncomputable def b_is_integer : Ev → Fl := (retF (andE (asB (up (q1 (blO (isaT nC "int")) (bn 0)))) (notE (asB (up (q1 (blO (isaT nC "bool")) (bn 0)))))))
noncomputable def m_is_integer : List D → Fr := runF 1 b_is_integer
noncomputable def b_need_integer : Ev → Fl := (ifF (notT (asB (callE m_is_integer (consA (fz 0) nilA))))
  (raiseF 2 1 (consA (fz 1) nilA))
  Fl.nx)
noncomputable def m_need_integer : List D → Fr := runF 2 b_need_integer
noncomputable def b_Pair_init : Ev → Fl := (sq (dropF (callE m_need_integer (consA (fz 1) (consA (up (ct (.str "one"))) nilA))))
  (sq (dropF (callE m_need_integer (consA (fz 2) (consA (up (ct (.str "other"))) nilA))))
  (sq (fldF nC fnTab 0 "one" (fz 1))
  (sq (fldF nC fnTab 0 "other" (fz 2))
  (fldF nC fnTab 0 "norm" (up (q2 oPlus (q2 oTimes (bn 1) (bn 1)) (q2 oTimes (bn 2) (bn 2)))))))))
noncomputable def m_Pair_init : List D → FrI := runI 0 3 b_Pair_init
noncomputable def b_Pair_times_i : Ev → Fl := (sq (dropF (callE m_need_integer (consA (fz 1) (consA (up (ct (.str "power"))) nilA))))
  (sq (parF 2 3 (consA (up (q1 (attr nC fnTab "one") (bn 0))) (consA (up (q1 (attr nC fnTab "other") (bn 0))) nilA)))
  (sq (forF (tnm 4) (rng1 (consA (up (q2 oMod (bn 1) (ct (.int 4)))) nilA))
  (parF 2 3 (consA (up (q1 oNeg (bn 3))) (consA (fz 2) nilA))))
  (retF (makeE 0 ["one", "other", "norm"] m_Pair_init (consA (fz 2) (consA (fz 3) nilA)))))))
noncomputable def m_Pair_times_i : List D → Fr := runF 5 b_Pair_times_i
noncomputable def b__law_refused_right : Ev → Fl := (sq (asgF (ttup 2 (tcons (tnm 1) (tcons (tnm 2) tnil))) (tupE (consA (callM 0 m__law_choose (consA (asL (lenOk (consA (up (ct .non)) (consA (up (ct (.bl true))) (consA (up (ct (.bl false))) (consA (up (ct (.str "1"))) (consA (tupE (consA (up (ct (.int 1))) nilA)) (consA (asL (lenOk (consA (up (ct (.int 2))) nilA))) (consA (up (ct .dct)) nilA))))))))) nilA)) (consA (makeE 0 ["one", "other", "norm"] m_Pair_init (consA (up (ct (.int 1))) (consA (up (ct (.int 2))) nilA))) nilA))))
  (sq (setoF 3 (lenOk (consA (heardE h__law_heard (makeE 0 ["one", "other", "norm"] m_Pair_init (consA (fz 1) (consA (fz 1) nilA)))) nilA)))
  (sq (dropF (appE 3 (heardE h__law_heard (makeE 0 ["one", "other", "norm"] m_Pair_init (consA (up (ct (.int 2))) (consA (fz 1) nilA))))))
  (sq (dropF (appE 3 (heardE h__law_heard (makeE 0 ["one", "other", "norm"] m_Pair_init (consA (fz 1) (consA (up (ct (.int 2))) nilA))))))
  (sq (dropF (appE 3 (heardE h__law_heard (methE 0 m_Pair_times_i (fz 2) (consA (fz 1) nilA)))))
  (sq (dropF (appE 3 (heardE h__law_heard (methE 0 m_Pair_times_i (fz 2) (consA (up (q1 oNeg (ct (.int 3)))) nilA)))))
  (retF (e2 (eqD false) (fz 3) (asL (lenOk (consA (tupE (consA (up (ct (.str "number"))) (consA (up (ct (.str "one"))) nilA))) (consA (tupE (consA (up (ct (.str "number"))) (consA (up (ct (.str "other"))) nilA))) (consA (tupE (consA (up (ct (.str "number"))) (consA (up (ct (.str "one"))) nilA))) (consA (tupE (consA (up (ct (.str "number"))) (consA (up (ct (.str "power"))) nilA))) (consA (tupE nilA) nilA)))))))))))))))
noncomputable def m__law_refused_right : List D → List D → FrM := runM 4 b__law_refused_right
noncomputable def b_Pair___eq__ : Ev → Fl := (retF (andE (asB (up (q1 (blO (isaC nC subs 0)) (bn 1)))) (andE (asB (up (q2 (eqD false) (q1 (attr nC fnTab "one") (bn 0)) (q1 (attr nC fnTab "one") (bn 1))))) (up (q2 (eqD false) (q1 (attr nC fnTab "other") (bn 0)) (q1 (attr nC fnTab "other") (bn 1)))))))
noncomputable def m_Pair___eq__ : List D → Fr := runF 2 b_Pair___eq__
noncomputable def b__law_part : Ev → Fl := (sq (setF 1 (callM 0 m__law_sip (consA (up (ct (.int 5))) nilA)))
  (sq (ifF (asB (up (q2 (eqD false) (bn 1) (ct (.int 0)))))
  (retF (e2 oSub (callM 0 m__law_sip (consA (up (ct (.int 5))) nilA)) (up (ct (.int 2)))))
  Fl.nx)
  (sq (ifF (asB (up (q2 oLt (bn 1) (ct (.int 3)))))
  (retF (e2 oSub (callM 0 m__law_sip (consA (up (ct (.int 199))) nilA)) (up (ct (.int 99)))))
  Fl.nx)
  (sq (setF 2 (up (ct (.int 0))))
  (sq (forF (tnm 3) (rng1 (consA (e2 oPlus (up (ct (.int 1))) (callM 0 m__law_sip (consA (up (ct (.int 4))) nilA))) nilA))
  (setF 2 (e2 oPlus (up (q2 oTimes (bn 2) (q2 oPow (ct (.int 10)) (ct (.int 7))))) (callM 0 m__law_sip (consA (up (q2 oPow (ct (.int 10)) (ct (.int 7)))) nilA)))))
  (retF (ifE (asB (e2 (eqD false) (callM 0 m__law_sip (consA (up (ct (.int 2))) nilA)) (up (ct (.int 0))))) (fz 2) (up (q1 oNeg (bn 2))))))))))
noncomputable def m__law_part : List D → List D → FrM := runM 4 b__law_part
noncomputable def b__law_turned : Ev → Fl := (retF (e2 oIx (asL (lenOk (consA (tupE (consA (fz 0) (consA (fz 1) nilA))) (consA (tupE (consA (up (q1 oNeg (bn 1))) (consA (fz 0) nilA))) (consA (tupE (consA (up (q1 oNeg (bn 0))) (consA (up (q1 oNeg (bn 1))) nilA))) (consA (tupE (consA (fz 1) (consA (up (q1 oNeg (bn 0))) nilA))) nilA)))))) (up (q2 oMod (q1 oInt (bn 2)) (ct (.int 4))))))
noncomputable def m__law_turned : List D → Fr := runF 3 b__law_turned
noncomputable def b__law_is : Ev → Fl := (retF (andE (asB (up (q1 (blO (isaC nC subs 0)) (bn 0)))) (e2 (eqD false) (e1 oRepr (tupE (consA (up (q1 (attr nC fnTab "one") (bn 0))) (consA (up (q1 (attr nC fnTab "other") (bn 0))) (consA (up (q1 (attr nC fnTab "norm") (bn 0))) nilA))))) (e1 oRepr (tupE (consA (fz 1) (consA (fz 2) (consA (up (q2 oPlus (q2 oTimes (bn 1) (bn 1)) (q2 oTimes (bn 2) (bn 2)))) nilA))))))))
noncomputable def m__law_is : List D → Fr := runF 3 b__law_is
noncomputable def b_Pair___add__ : Ev → Fl := (sq (ifF (notT (asB (up (q1 (blO (isaC nC subs 0)) (bn 1)))))
  (fun _ => Fl.stuck)
  Fl.nx)
  (retF (makeE 0 ["one", "other", "norm"] m_Pair_init (consA (up (q2 oPlus (q1 (attr nC fnTab "one") (bn 0)) (q1 (attr nC fnTab "one") (bn 1)))) (consA (up (q2 oPlus (q1 (attr nC fnTab "other") (bn 0)) (q1 (attr nC fnTab "other") (bn 1)))) nilA)))))
noncomputable def m_Pair___add__ : List D → Fr := runF 2 b_Pair___add__
noncomputable def b_Pair___sub__ : Ev → Fl := (sq (ifF (notT (asB (up (q1 (blO (isaC nC subs 0)) (bn 1)))))
  (fun _ => Fl.stuck)
  Fl.nx)
  (retF (makeE 0 ["one", "other", "norm"] m_Pair_init (consA (up (q2 oSub (q1 (attr nC fnTab "one") (bn 0)) (q1 (attr nC fnTab "one") (bn 1)))) (consA (up (q2 oSub (q1 (attr nC fnTab "other") (bn 0)) (q1 (attr nC fnTab "other") (bn 1)))) nilA)))))
noncomputable def m_Pair___sub__ : List D → Fr := runF 2 b_Pair___sub__
noncomputable def b_Pair___mul__ : Ev → Fl := (sq (ifF (notT (asB (up (q1 (blO (isaC nC subs 0)) (bn 1)))))
  (fun _ => Fl.stuck)
  Fl.nx)
  (sq (setF 2 (up (q2 oSub (q2 oTimes (q1 (attr nC fnTab "one") (bn 0)) (q1 (attr nC fnTab "one") (bn 1))) (q2 oTimes (q1 (attr nC fnTab "other") (bn 0)) (q1 (attr nC fnTab "other") (bn 1))))))
  (retF (makeE 0 ["one", "other", "norm"] m_Pair_init (consA (fz 2) (consA (up (q2 oPlus (q2 oTimes (q1 (attr nC fnTab "one") (bn 0)) (q1 (attr nC fnTab "other") (bn 1))) (q2 oTimes (q1 (attr nC fnTab "other") (bn 0)) (q1 (attr nC fnTab "one") (bn 1))))) nilA))))))
noncomputable def m_Pair___mul__ : List D → Fr := runF 3 b_Pair___mul__
noncomputable def b_Pair___neg__ : Ev → Fl := (retF (makeE 0 ["one", "other", "norm"] m_Pair_init (consA (up (q1 oNeg (q1 (attr nC fnTab "one") (bn 0)))) (consA (up (q1 oNeg (q1 (attr nC fnTab "other") (bn 0)))) nilA))))
noncomputable def m_Pair___neg__ : List D → Fr := runF 1 b_Pair___neg__
noncomputable def b_Pair_flipped : Ev → Fl := (retF (makeE 0 ["one", "other", "norm"] m_Pair_init (consA (up (q1 (attr nC fnTab "one") (bn 0))) (consA (up (q1 oNeg (q1 (attr nC fnTab "other") (bn 0)))) nilA))))
noncomputable def m_Pair_flipped : List D → Fr := runF 1 b_Pair_flipped
noncomputable def b_Pair___str__ : Ev → Fl := (retF (e2 oJoin (up (ct (.str " "))) (asL (lenOk (consA (up (q1 oStr (q1 (attr nC fnTab "one") (bn 0)))) (consA (up (q1 oStr (q1 (attr nC fnTab "other") (bn 0)))) nilA))))))
noncomputable def m_Pair___str__ : List D → Fr := runF 1 b_Pair___str__
noncomputable def eqTab : Nat → Option (List D → Fr)
  | 0 => some m_Pair___eq__
  | _ => none
noncomputable def b__law_sums_right : Ev → Fl := (sq (asgF (ttup 4 (tcons (tnm 1) (tcons (tnm 2) (tcons (tnm 3) (tcons (tnm 4) tnil))))) (tupE (consA (callM 0 m__law_part nilA) (consA (callM 0 m__law_part nilA) (consA (callM 0 m__law_part nilA) (consA (callM 0 m__law_part nilA) nilA))))))
  (sq (ifF (asB (e2 (eqD false) (callM 0 m__law_sip (consA (up (ct (.int 4))) nilA)) (up (ct (.int 0)))))
  (asgF (ttup 2 (tcons (tnm 3) (tcons (tnm 4) tnil))) (callM 0 m__law_choose (consA (asL (lenOk (consA (tupE (consA (fz 1) (consA (fz 2) nilA))) (consA (tupE (consA (fz 1) (consA (up (q1 oNeg (bn 2))) nilA))) (consA (tupE (consA (fz 2) (consA (fz 1) nilA))) (consA (tupE (consA (up (q1 oNeg (bn 1))) (consA (fz 2) nilA))) (consA (tupE (consA (fz 1) (consA (fz 4) nilA))) (consA (tupE (consA (fz 3) (consA (fz 2) nilA))) nilA)))))))) nilA)))
  Fl.nx)
  (sq (asgF (ttup 2 (tcons (tnm 5) (tcons (tnm 6) tnil))) (tupE (consA (makeE 0 ["one", "other", "norm"] m_Pair_init (consA (fz 1) (consA (fz 2) nilA))) (consA (makeE 0 ["one", "other", "norm"] m_Pair_init (permF [1, 0] (consA (fz 4) (consA (fz 3) nilA)))) nilA))))
  (sq (setF 7 (callM 0 m__law_choose (consA (asL (lenOk (consA (e2 oSub (callM 0 m__law_sip (consA (up (ct (.int 9))) nilA)) (up (ct (.int 4)))) (consA (e2 oPlus (up (q2 oPow (ct (.int 10)) (ct (.int 20)))) (callM 0 m__law_sip (consA (up (ct (.int 4))) nilA))) (consA (e2 oSub (up (q1 oNeg (q2 oPow (ct (.int 10)) (ct (.int 20))))) (callM 0 m__law_sip (consA (up (ct (.int 4))) nilA))) nilA))))) nilA)))
  (sq (setoF 8 (lenOk (consA (tupE (consA (e2 (oBinC 0 m_Pair___add__) (fz 5) (fz 6)) (consA (up (q2 oPlus (bn 1) (bn 3))) (consA (up (q2 oPlus (bn 2) (bn 4))) nilA)))) (consA (tupE (consA (e2 (oBinC 0 m_Pair___sub__) (fz 5) (fz 6)) (consA (up (q2 oSub (bn 1) (bn 3))) (consA (up (q2 oSub (bn 2) (bn 4))) nilA)))) (consA (tupE (consA (e2 (oBinC 0 m_Pair___mul__) (fz 5) (fz 6)) (consA (up (q2 oSub (q2 oTimes (bn 1) (bn 3)) (q2 oTimes (bn 2) (bn 4)))) (consA (up (q2 oPlus (q2 oTimes (bn 1) (bn 4)) (q2 oTimes (bn 2) (bn 3)))) nilA)))) (consA (tupE (consA (e2 (oBinC 0 m_Pair___mul__) (fz 6) (fz 5)) (consA (up (q2 oSub (q2 oTimes (bn 1) (bn 3)) (q2 oTimes (bn 2) (bn 4)))) (consA (up (q2 oPlus (q2 oTimes (bn 1) (bn 4)) (q2 oTimes (bn 2) (bn 3)))) nilA)))) nilA))))))
  (sq (setoF 8 (f2 oCat (fz 8) (asL (lenOk (consA (tupE (consA (e1 (oNegC 0 m_Pair___neg__) (fz 5)) (consA (up (q1 oNeg (bn 1))) (consA (up (q1 oNeg (bn 2))) nilA)))) (consA (tupE (consA (meth0E 0 m_Pair_flipped (fz 5)) (consA (fz 1) (consA (up (q1 oNeg (bn 2))) nilA)))) (consA (tupE (consA (meth0E 0 m_Pair_flipped (fz 6)) (consA (fz 3) (consA (up (q1 oNeg (bn 4))) nilA)))) nilA)))))))
  (sq (forF (ttup 2 (tcons (tnm 9) (tcons (tnm 10) tnil))) (seqE (tupE (consA (tupE (consA (methE 0 m_Pair_times_i (fz 5) (consA (fz 7) nilA)) (consA (fz 7) nilA))) (consA (tupE (consA (methXE 0 [0, 1] m_Pair_times_i (fz 5) (consA (up (q2 oPlus (bn 7) (ct (.int 1)))) nilA)) (consA (up (q2 oPlus (bn 7) (ct (.int 1)))) nilA))) (consA (tupE (consA (methE 0 m_Pair_times_i (fz 5) (consA (up (ct (.int 0))) nilA)) (consA (up (ct (.int 0))) nilA))) (consA (tupE (consA (methE 0 m_Pair_times_i (fz 5) (consA (up (q1 oNeg (ct (.int 1)))) nilA)) (consA (up (q1 oNeg (ct (.int 1)))) nilA))) nilA))))))
  (sq (setF 11 (callE m__law_turned (consA (fz 1) (consA (fz 2) (consA (fz 10) nilA)))))
  (dropF (appE 8 (tupE (consA (fz 9) (consA (up (q2 oIx (bn 11) (ct (.int 0)))) (consA (up (q2 oIx (bn 11) (ct (.int 1)))) nilA))))))))
  (sq (ifF (asB (e2 (eqD true) (asL (compF [12] (tnm 12) (seqE (fz 8)) (notT (asB (callE m__law_is (consA (up (q2 oIx (bn 12) (ct (.int 0)))) (consA (up (q2 oIx (bn 12) (ct (.int 1)))) (consA (up (q2 oIx (bn 12) (ct (.int 2)))) nilA)))))) (fz 12))) (asL (lenOk nilA))))
  (retF (up (ct (.bl false))))
  Fl.nx)
  (sq (ifF (asB (e2 (eqD true) (e1 (attr nC fnTab "norm") (e2 (oBinC 0 m_Pair___mul__) (fz 5) (fz 6))) (up (q2 oTimes (q2 oPlus (q2 oTimes (bn 1) (bn 1)) (q2 oTimes (bn 2) (bn 2))) (q2 oPlus (q2 oTimes (bn 3) (bn 3)) (q2 oTimes (bn 4) (bn 4)))))))
  (retF (up (ct (.bl false))))
  Fl.nx)
  (sq (setoF 9 (lenOk (consA (up (q2 (eqO false nC eqTab) (bn 5) (bn 6))) (consA (up (q2 (eqO true nC eqTab) (bn 5) (bn 6))) (consA (e2 (eqO false nC eqTab) (fz 5) (makeE 0 ["one", "other", "norm"] m_Pair_init (consA (fz 1) (consA (fz 2) nilA)))) (consA (e2 (eqO false nC eqTab) (fz 5) (makeE 0 ["one", "other", "norm"] m_Pair_init (consA (fz 1) (consA (up (q2 oPlus (bn 2) (ct (.int 1)))) nilA)))) (consA (e2 (eqO false nC eqTab) (fz 5) (makeE 0 ["one", "other", "norm"] m_Pair_init (consA (up (q2 oSub (bn 1) (ct (.int 1)))) (consA (fz 2) nilA)))) nilA)))))))
  (sq (ifF (asB (e2 (eqD true) (up (q1 oRepr (bn 9))) (e1 oRepr (asL (lenOk (consA (up (q2 (eqD false) (q2 oPair (bn 1) (bn 2)) (q2 oPair (bn 3) (bn 4)))) (consA (up (q2 (eqD true) (q2 oPair (bn 1) (bn 2)) (q2 oPair (bn 3) (bn 4)))) (consA (up (ct (.bl true))) (consA (up (ct (.bl false))) (consA (up (ct (.bl false))) nilA))))))))))
  (retF (up (ct (.bl false))))
  Fl.nx)
  (sq (ifF (asB (e2 (eqD true) (asL (compF [13] (tnm 13) (seqE (asL (lenOk (consA (tupE (consA (fz 1) (consA (fz 2) nilA))) (consA (asL (lenOk (consA (fz 1) (consA (fz 2) nilA)))) (consA (fz 1) (consA (up (ct .non)) (consA (e1 (oStrC 0 m_Pair___str__) (fz 5)) nilA)))))))) (asB (e2 (eqM false nC eqTab) (fz 5) (fz 13))) (fz 13))) (asL (lenOk nilA))))
  (retF (up (ct (.bl false))))
  Fl.nx)
  (retF (andE (asB (callE m__law_is (consA (fz 5) (consA (fz 1) (consA (fz 2) nilA))))) (callE m__law_is (consA (fz 6) (consA (fz 3) (consA (fz 4) nilA))))))))))))))))))
noncomputable def m__law_sums_right : List D → List D → FrM := runM 14 b__law_sums_right
noncomputable def b_items_of : Ev → Fl := (sq (ifF (notT (asB (up (q1 (blO (isaT nC "str")) (bn 0)))))
  (raiseF 3 2 (consA (up (ct (.int 0))) (consA (up (ct (.int 0))) nilA)))
  Fl.nx)
  (retF (asL (splitF (fz 0) (up (ct (.str " ")))))))
noncomputable def m_items_of : List D → Fr := runF 1 b_items_of
noncomputable def b_need_many : Ev → Fl := (ifF (asB (up (q2 oLt (q1 (orU oLen oLenS) (bn 0)) (bn 1))))
  (raiseF 3 2 (consA (up (ct (.int 0))) (consA (up (q1 (orU oLen oLenS) (bn 0))) nilA)))
  Fl.nx)
noncomputable def m_need_many : List D → Fr := runF 2 b_need_many
noncomputable def b_is_number : Ev → Fl := (sq (setF 1 (ifE (asB (up (q2 oStarts (bn 0) (ct (.str "-"))))) (slS (fz 0) (asO (up (ct (.int 1)))) noO) (fz 0)))
  (sq (ifF (notT (asB (up (chQ oLe oLe (ct (.int 1)) (q1 (orU oLen oLenS) (bn 1)) (ct (.int 60))))))
  (retF (up (ct (.bl false))))
  Fl.nx)
  (sq (ifF (notT (asB (e1 oAll (asL (compF [2] (tnm 2) (chrE (fz 1)) yesT (up (q2 (oInSign false) (bn 2) (ct (.str "0123456789")))))))))
  (retF (up (ct (.bl false))))
  Fl.nx)
  (retF (orE' (asB (up (q2 (eqD false) (bn 0) (ct (.str "0"))))) (notE (asB (up (q2 oStarts (bn 1) (ct (.str "0")))))))))))
noncomputable def m_is_number : List D → Fr := runF 3 b_is_number
noncomputable def b_is_within : Ev → Fl := (sq (ifF (notT (asB (callE m_is_integer (consA (fz 0) nilA))))
  (retF (up (ct (.bl false))))
  Fl.nx)
  (retF (andE (asB (orE' (asB (up (q2 (isA false) (bn 1) (ct .non)))) (up (q2 oLe (bn 1) (bn 0))))) (orE' (asB (up (q2 (isA false) (bn 2) (ct .non)))) (up (q2 oLe (bn 0) (bn 2)))))))
noncomputable def m_is_within : List D → Fr := runF 3 b_is_within
noncomputable def b_is_number_from : Ev → Fl := (retF (andE (asB (callE m_is_number (consA (fz 0) nilA))) (callE m_is_within (consA (up (q1 oIntS (bn 0))) (consA (fz 1) (consA (up (ct .non)) nilA))))))
noncomputable def m_is_number_from : List D → Fr := runF 2 b_is_number_from
noncomputable def b_read_numbers : Ev → Fl := (sq (setF 2 (callE m_items_of (consA (fz 0) nilA)))
  (sq (forF (ttup 2 (tcons (tnm 3) (tcons (tnm 4) tnil))) (enumE (consA (fz 2) nilA))
  (ifF (orT (asB (up (q2 (eqD false) (bn 3) (q1 (orU oLen oLenS) (bn 1))))) (notT (asB (callE m_is_number_from (consA (fz 4) (consA (up (q2 oIx (bn 1) (bn 3))) nilA))))))
  (raiseF 3 2 (consA (up (ct (.int 0))) (consA (fz 3) nilA)))
  Fl.nx))
  (sq (dropF (callE m_need_many (consA (fz 2) (consA (up (q1 (orU oLen oLenS) (bn 1))) nilA))))
  (retF (asL (compF [4] (tnm 4) (seqE (fz 2)) yesT (up (q1 oIntS (bn 4)))))))))
noncomputable def m_read_numbers : List D → Fr := runF 5 b_read_numbers
noncomputable def b_Pair_read : Ev → Fl := (sq (asgF (ttup 2 (tcons (tnm 1) (tcons (tnm 2) tnil))) (callE m_read_numbers (consA (fz 0) (consA (tupE (consA (up (ct .non)) (consA (up (ct .non)) nilA))) nilA))))
  (retF (makeE 0 ["one", "other", "norm"] m_Pair_init (consA (fz 1) (consA (fz 2) nilA)))))
noncomputable def m_Pair_read : List D → Fr := runF 3 b_Pair_read
noncomputable def b__law_texts_right : Ev → Fl := (sq (parF 1 2 (consA (callM 0 m__law_part nilA) (consA (callM 0 m__law_part nilA) nilA)))
  (sq (ifF (asB (e2 (eqD false) (callM 0 m__law_sip (consA (up (ct (.int 5))) nilA)) (up (ct (.int 0)))))
  (asgF (ttup 2 (tcons (tnm 1) (tcons (tnm 2) tnil))) (callM 0 m__law_choose (consA (asL (lenOk (consA (tupE (consA (up (q2 oSub (q2 oPow (ct (.int 10)) (ct (.int 60))) (ct (.int 1)))) (consA (fz 2) nilA))) (consA (tupE (consA (fz 1) (consA (up (q2 oSub (ct (.int 1)) (q2 oPow (ct (.int 10)) (ct (.int 60))))) nilA))) (consA (tupE (consA (up (q1 oNeg (q2 oPow (ct (.int 10)) (ct (.int 59))))) (consA (up (q2 oPow (ct (.int 10)) (ct (.int 59)))) nilA))) nilA))))) nilA)))
  Fl.nx)
  (sq (setoF 3 (lenOk (consA (up (q1 oStr (bn 1))) (consA (up (q1 oStr (bn 2))) nilA))))
  (sq (setF 4 (e2 oJoin (up (ct (.str " "))) (fz 3)))
  (sq (ifF (orT (asB (e2 (eqD true) (e1 (oStrC 0 m_Pair___str__) (makeE 0 ["one", "other", "norm"] m_Pair_init (consA (fz 1) (consA (fz 2) nilA)))) (fz 4))) (orT (notT (asB (callE m__law_is (consA (callE m_Pair_read (consA (fz 4) nilA)) (consA (fz 1) (consA (fz 2) nilA)))))) (notT (asB (callE m__law_is (consA (callX [0] m_Pair_read nilA (consA (fz 4) nilA)) (consA (fz 1) (consA (fz 2) nilA))))))))
  (retF (up (ct (.bl false))))
  Fl.nx)
  (sq (setF 5 (callM 0 m__law_choose (consA (asL (lenOk (consA (up (ct (.str ""))) (consA (up (ct (.str "+1"))) (consA (up (ct (.str "01"))) (consA (up (ct (.str "-0"))) (consA (up (ct (.str "1.0"))) (consA (up (ct (.str "a"))) (consA (up (ct (.str "-"))) (consA (up (q2 oMulS (ct (.str "1")) (ct (.int 61)))) (consA (up (ct (.str "--1"))) (consA (up (ct (.str "1_0"))) (consA (up (q2 oPlus (ct (.str "-")) (q2 oMulS (ct (.str "2")) (ct (.int 61))))) (consA (up (ct (.str "00"))) (consA (up (ct (.str "-01"))) nilA))))))))))))))) nilA)))
  (sq (asgF (ttup 2 (tcons (tnm 6) (tcons (tnm 7) tnil))) (tupE (consA (callM 0 m__law_sip (consA (up (ct (.int 2))) nilA)) (consA (callM 0 m__law_choose (consA (asL (lenOk (consA (up (ct .non)) (consA (up (ct (.int 5))) (consA (fz 3) (consA (up (ct (.bl true))) (consA (tupE nilA) (consA (up (ct .dct)) nilA)))))))) nilA)) nilA))))
  (sq (setoF 8 (lenOk (consA (tupE (consA (asL (f2 oCat (asL (f2 oCat (asL (slF (fz 3) noO (asO (fz 6)))) (asL (lenOk (consA (fz 5) nilA))))) (asL (slF (fz 3) (asO (up (q2 oPlus (bn 6) (ct (.int 1))))) noO)))) (consA (fz 6) nilA))) (consA (tupE (consA (asL (slF (fz 3) noO (asO (up (ct (.int 1)))))) (consA (up (ct (.int 1))) nilA))) (consA (tupE (consA (asL (f2 oCat (fz 3) (asL (lenOk (consA (fz 5) nilA))))) (consA (up (ct (.int 2))) nilA))) (consA (tupE (consA (asL (f2 oCat (fz 3) (asL (lenOk (consA (up (ct (.str "0"))) nilA))))) (consA (up (ct (.int 2))) nilA))) (consA (tupE (consA (asL (lenOk nilA)) (consA (up (ct (.int 0))) nilA))) (consA (tupE (consA (asL (lenOk (consA (fz 5) (consA (fz 5) nilA)))) (consA (up (ct (.int 0))) nilA))) nilA))))))))
  (sq (forF (ttup 2 (tcons (tnm 9) (tcons (tnm 10) tnil))) (seqE (fz 8))
  (ifF (asB (e2 (eqD true) (heardE h__law_heard (callE m_Pair_read (consA (e2 oJoin (up (ct (.str " "))) (fz 9)) nilA))) (tupE (consA (up (ct (.str "text"))) (consA (up (ct (.int 0))) (consA (fz 10) nilA))))))
  (retF (up (ct (.bl false))))
  Fl.nx))
  (retF (e2 (eqD false) (heardE h__law_heard (callE m_Pair_read (consA (fz 7) nilA))) (tupE (consA (up (ct (.str "text"))) (consA (up (ct (.int 0))) (consA (up (ct (.int 0))) nilA)))))))))))))))
noncomputable def m__law_texts_right : List D → List D → FrM := runM 11 b__law_texts_right
noncomputable def b_law : Ev → Fl := (sq (setoF 1 (callL m__law_can (consA (fz 0) nilA)))
  (sq (forF (tnm 2) (rng1 (consA (up (ct (.int 5))) nilA))
  (ifF (orT (notT (asB (callM 1 m__law_sums_right nilA))) (notT (asB (callM 1 m__law_texts_right nilA))))
  (retF (up (ct (.bl false))))
  Fl.nx))
  (retF (callM 1 m__law_refused_right nilA))))
noncomputable def m_law : List D → Fr := runF 3 b_law
section
variable {P : Program} {w : World} {K : PySem.W.Frag} {mg : Str → Option Value} {base : Heap} {at_ : Nat → Addr}
theorem sc_BadNumber_init : FnScope ["self", "part"] ["self", "part"] (defScope (inner (top 3) 0)) := ⟨rfl, rfl, rfl, by decide +kernel, rfl, by decide +kernel, by decide +kernel⟩
theorem ok_BadNumber_init {f : Addr} {fd : FuncData} (F : FnT K "__init__" "BadNumber.__init__" (inner (top 3) 0) f fd) (gm : mg "BadNumber" = some (.ref (at_ 2))) (ox : OexC K (at_ 2)) (iC : PySem.W.findIn K (.ref (at_ 2)) "__init__" = some (some (.ref f))) (tI : PySem.W.typeIn K (.ref f) = some (.type "function")) (no : ∀ y ∈ fnTab 2, PySem.W.findIn K (.ref (at_ 2)) y = some none) : DefE P w K mg base "BadNumber" (at_ 2) 1 ["part"] := ⟨f, fd, ["self", "part"], ox, iC, tI, no, gm, fnX1 (k := 0) F sc_BadNumber_init (fun cdv A outer s H E => pss_one (ps_ost (pe_var (i := 0) rfl (by first | exact Or.inl rfl | exact Or.inr (Or.inl rfl) | exact Or.inr (Or.inr rfl))) (pe_var (i := 1) rfl (by first | exact Or.inl rfl | exact Or.inr (Or.inl rfl) | exact Or.inr (Or.inr rfl))))), F.bindsN (fun _ _ _ _ _ _ us hl => match us, hl with | [_, _], _ => rfl)⟩
theorem sc_BadText_init : FnScope ["self", "line", "item"] ["self", "line", "item"] (defScope (inner (top 4) 0)) := ⟨rfl, rfl, rfl, by decide +kernel, rfl, by decide +kernel, by decide +kernel⟩
theorem ok_BadText_init {f : Addr} {fd : FuncData} (F : FnT K "__init__" "BadText.__init__" (inner (top 4) 0) f fd) (gm : mg "BadText" = some (.ref (at_ 3))) (ox : OexC K (at_ 3)) (iC : PySem.W.findIn K (.ref (at_ 3)) "__init__" = some (some (.ref f))) (tI : PySem.W.typeIn K (.ref f) = some (.type "function")) (no : ∀ y ∈ fnTab 3, PySem.W.findIn K (.ref (at_ 3)) y = some none) : DefE P w K mg base "BadText" (at_ 3) 1 ["line", "item"] := ⟨f, fd, ["self", "line", "item"], ox, iC, tI, no, gm, fnX2 (k := 0) F sc_BadText_init rfl (fun cdv A outer s H E => ps_ost (pe_var (i := 0) rfl (by first | exact Or.inl rfl | exact Or.inr (Or.inl rfl) | exact Or.inr (Or.inr rfl))) (pe_var (i := 1) rfl (by first | exact Or.inl rfl | exact Or.inr (Or.inl rfl) | exact Or.inr (Or.inr rfl)))) (fun cdv A outer s H E => ps_ost (pe_var (i := 0) rfl (by first | exact Or.inl rfl | exact Or.inr (Or.inl rfl) | exact Or.inr (Or.inr rfl))) (pe_var (i := 2) rfl (by first | exact Or.inl rfl | exact Or.inr (Or.inl rfl) | exact Or.inr (Or.inr rfl)))), F.bindsN (fun _ _ _ _ _ _ us hl => match us, hl with | [_, _, _], _ => rfl)⟩
theorem sc__law_heard : FnScope ["_law_ask", "_law_found", "error"] ["_law_ask"] (defScope (top 28)) := ⟨rfl, rfl, rfl, by decide +kernel, rfl, by decide +kernel, by decide +kernel⟩
theorem gv__law_heard {X : Cx} {at_ : Nat → Addr} {cd : Value} {ga : Addr} {q : Str} (hr : Room 3 X.A) (hg : X.A.guards = some []) (z : Bi X.mg) (kd : Kinds X.K (CC at_) nC subs) (kx : KindsE X.K (CC at_) nC nX subs) (mc_BadText : X.mg "BadText" = some (.ref (at_ 3))) (mc_BadNumber : X.mg "BadNumber" = some (.ref (at_ 2))) (mc_BendError : X.mg "BendError" = some (.ref (at_ 1))) : GivesG X ["_law_ask", "_law_found", "error"] "_law_heard" (defScope (top 28)) ga cd (defBody (top 28)) "_law_ask" q (TTh X.K (CC at_) h__law_heard (.tup [])) := by
  have nd := sc__law_heard.nd
  exact gives_heard (n := 3) rfl rfl (by decide) (fun s H G g => by obtain ⟨K', C', H0, S0, m, M⟩ := G; obtain ⟨hK, hC⟩ := g; dsimp only at hK hC; subst hK; subst hC; exact (s_set (i := 1) nd rfl (by first | exact .inl rfl | exact .inr rfl) (e_tup a_nil))) rfl
    (fun s H => by
      have hr := hr.deeper (envOfC "_law_heard" (defScope (top 28)) s.heap.objs.size ga cd)
      exact (.as_ (i := 2) (B := at_ 3) ⟨rfl, by decide, .inl mc_BadText⟩ (fun c h1 h2 => kx.exm c h1 h2 3 (by decide) (by decide)) nd rfl rfl (fun G g a pn => by obtain ⟨K', C', H0, S0, m, M⟩ := G; obtain ⟨hK, hC⟩ := g; dsimp only at hK hC; subst hK; subst hC; exact (s_one (s_set (i := 1) nd rfl (by first | exact .inl rfl | exact .inr rfl) (e_tup (a_cons (qe q_str) (a_cons (qe (q_xf kx.x rfl rfl (b_nm 2))) (a_cons (qe (q_xf kx.x rfl rfl (b_nm 2))) a_nil))))))) (.as_ (i := 2) (B := at_ 2) ⟨rfl, by decide, .inl mc_BadNumber⟩ (fun c h1 h2 => kx.exm c h1 h2 2 (by decide) (by decide)) nd rfl rfl (fun G g a pn => by obtain ⟨K', C', H0, S0, m, M⟩ := G; obtain ⟨hK, hC⟩ := g; dsimp only at hK hC; subst hK; subst hC; exact (s_one (s_set (i := 1) nd rfl (by first | exact .inl rfl | exact .inr rfl) (e_tup (a_cons (qe q_str) (a_cons (qe (q_xf kx.x rfl rfl (b_nm 2))) a_nil)))))) (.only (B := at_ 1) ⟨rfl, by decide, .inl mc_BendError⟩ (fun c h1 h2 => kx.exm c h1 h2 1 (by decide) (by decide)) (fun G g a pn => by obtain ⟨K', C', H0, S0, m, M⟩ := G; obtain ⟨hK, hC⟩ := g; dsimp only at hK hC; subst hK; subst hC; exact (s_one (s_set (i := 1) nd rfl (by first | exact .inl rfl | exact .inr rfl) (e_tup (a_cons (qe q_str) a_nil))))) .nil)))) (fun s H G g => by
      have hr := hr.deeper (envOfC "_law_heard" (defScope (top 28)) s.heap.objs.size ga cd)
      obtain ⟨K', C', H0, S0, m, M⟩ := G; obtain ⟨hK, hC⟩ := g; dsimp only at hK hC; subst hK; subst hC; exact (s_one (s_ret (e_fz 1))))
theorem sc__law_can : FnScope ["_law_script", "_law_cell"] ["_law_script"] (defScope (top 21)) := ⟨rfl, rfl, rfl, by decide +kernel, rfl, by decide +kernel, by decide +kernel⟩
theorem fn__law_can {f : Addr} {fd : FuncData} (F : FnT K "_law_can" "_law_can" (top 21) f fd) (z : Bi mg) (kd : Kinds K (CC at_) nC subs) (cf : ClsF K (CC at_) nC)               : FnG P w K mg base 1 f fd ["_law_script"] (spL K (CC at_) 1 m__law_can) := by
  have nd := sc__law_can.nd
  refine  (fnL F sc__law_can (k := 0) (fun cdv A outer s H E G W hK hC hr hg tk => ?_))
  obtain ⟨K', C', H0, S0, m, M⟩ := G
  dsimp only at hK hC
  subst hK; subst hC
  exact (pss_one (ps_ret (f_lst (a_cons (fe (f_lc (own := [("_law_cell", 1)]) rfl nd (i_seq rfl (fe (f_sl rfl (e_fz 0) o_none (o_some (qe q_int))))) (blkOk_by (own := [("_law_cell", 1)]) (by rfl)) (fun s H A cl fp G' hK' hC' => by obtain ⟨K', C', H0', S0', m', M'⟩ := G'; dsimp only at hK' hC'; subst hK'; subst hC'; exact (g_nm (i := 1) nd rfl (by first | exact .inl rfl | exact .inr rfl))) (fun s H A cl fp G' hK' hC' => by obtain ⟨K', C', H0', S0', m', M'⟩ := G'; dsimp only at hK' hC'; subst hK'; subst hC'; exact c_nil) (fun s H A cl fp G' hK' hC' => by obtain ⟨K', C', H0', S0', m', M'⟩ := G'; dsimp only at hK' hC'; subst hK'; subst hC'; exact (qe (q_t1 call_int1 sp_int (b_nm 1) z.b_int))))) (a_cons (qe q_int) (a_cons (qe q_int) a_nil))))))
theorem ok__law_can {f : Addr} {fd : FuncData} (F : FnT K "_law_can" "_law_can" (top 21) f fd) (gm : mg "_law_can" = some (.ref f)) (z : Bi mg) (kd : Kinds K (CC at_) nC subs) (cf : ClsF K (CC at_) nC)               : Def P w K mg base "_law_can" 1 ["_law_script"] (spL K (CC at_) 1 m__law_can) := Def.mk' F gm (F.bindsN (fun _ _ _ _ _ _ us hl => match us, hl with | [_], _ => rfl)) (fn__law_can F z kd cf)
theorem sc__law_sip : FnScope ["_law_can_here", "_law_many", "_law_rest", "_law_at", "_law_cell", "_law_mixed"] ["_law_can_here", "_law_many"] (defScope (top 22)) := ⟨rfl, rfl, rfl, by decide +kernel, rfl, by decide +kernel, by decide +kernel⟩
theorem fn__law_sip {f : Addr} {fd : FuncData} (F : FnT K "_law_sip" "_law_sip" (top 22) f fd) (z : Bi mg) (kd : Kinds K (CC at_) nC subs) (cf : ClsF K (CC at_) nC)               : FnG P w K mg base 1 f fd ["_law_can_here", "_law_many"] (spM K (CC at_) 2 m__law_sip) := by
  have nd := sc__law_sip.nd
  refine  (fnM F sc__law_sip (k := 0) (fun cdv A outer s H E G W hK hC hr hg tk => ?_))
  obtain ⟨K', C', H0, S0, m, M⟩ := G
  dsimp only at hK hC
  subst hK; subst hC
  exact (s_cons (s_if (t_cmpQ op_gt sp_gt (qb (q_ix ix_seq sp_ix (b_nm 0) (qb q_int))) (qb q_int))
  (s_cons (s_set (i := 2) nd rfl (by first | exact .inl rfl | exact .inr rfl) (qe (q_t1 call_int1 sp_int (qb (q_ix ix_seq sp_ix (b_nm 0) (qb q_int))) z.b_int)))
  (s_cons (s_seti q_int (qe (q_op op_fdivF sp_div (b_nm 2) (b_nm 1))))
  (s_one (s_ret (qe (q_op op_mod sp_mod (qb (q_t1 call_int1 sp_int (b_nm 2) z.b_int)) (b_nm 1)))))))
  s_nil)
  (s_cons (s_set (i := 3) nd rfl (by first | exact .inl rfl | exact .inr rfl) (qe (q_ix ix_seq sp_ix (b_nm 0) (qb q_int))))
  (s_cons (s_seti q_int (qe (q_op op_plus sp_plus (b_nm 3) (qb q_int))))
  (s_cons (s_set (i := 4) nd rfl (by first | exact .inl rfl | exact .inr rfl) (qe (q_op op_plus sp_plus (qb (q_op op_times sp_times (qb q_int) (b_nm 3))) (qb q_int))))
  (s_cons (s_if (t_cmpQ (op_neD hr.units) sp_neD (qb (q_ix ix_seq sp_ix (b_nm 0) (qb q_int))) (qb b_nil))
  (s_one (s_set (i := 4) nd rfl (by first | exact .inl rfl | exact .inr rfl) (qe (q_ix ix_seq sp_ix (qb (q_ix ix_seq sp_ix (b_nm 0) (qb q_int))) (qb (q_op op_mod sp_mod (qb (q_t1 call_int1 sp_int (b_nm 3) z.b_int)) (qb (q_b1 (call_len_seq.or call_len_str) (sp_len.or sp_lenS) (qb (q_ix ix_seq sp_ix (b_nm 0) (qb q_int))) z.b_len))))))))
  s_nil)
  (s_cons (s_if (PW.pt (w_and (t_cmpQ op_lt sp_lt (b_nm 3) (qb (q_b1 (call_len_seq.or call_len_str) (sp_len.or sp_lenS) (qb (q_ix ix_seq sp_ix (b_nm 0) (qb q_int))) z.b_len))) (w_and1 (t_cmpQ op_ge sp_ge (qb (q_b1 call_abs sp_abs (b_nm 4) z.b_abs)) (qb (q_op op_pow sp_pow (qb q_int) (qb q_int)))))))
  (s_cons (s_set (i := 2) nd rfl (by first | exact .inl rfl | exact .inr rfl) (qe (q_op op_plus sp_plus (qb (q_op op_times sp_times (qb q_int) (qb (q_op op_sub sp_sub (qb (q_b1 call_abs sp_abs (b_nm 4) z.b_abs)) (qb (q_op op_pow sp_pow (qb q_int) (qb q_int))))))) (qb (q_t1 call_int1 sp_int (qb (q_cmp op_lt sp_lt (b_nm 4) (qb q_int))) z.b_int)))))
  (s_cons (s_seti q_int (qe (q_op op_fdivF sp_div (qb (q_t1 call_int1 sp_int (b_nm 2) z.b_int)) (b_nm 1))))
  (s_one (s_ret (qe (q_op op_mod sp_mod (qb (q_t1 call_int1 sp_int (b_nm 2) z.b_int)) (b_nm 1)))))))
  s_nil)
  (s_cons (s_set (i := 5) nd rfl (by first | exact .inl rfl | exact .inr rfl) (qe (q_op op_mod sp_mod (qb (q_t1 call_int1 sp_int (qb (q_op op_pow sp_pow (qb (q_op op_plus sp_plus (qb (q_op op_plus sp_plus (qb (q_op op_mod sp_mod (qb (q_t1 call_int1 sp_int (b_nm 4) z.b_int)) (qb q_int))) (qb (q_op op_times sp_times (qb q_int) (b_nm 3))))) (qb q_int))) (qb q_int))) z.b_int)) (qb q_int))))
  (s_cons (s_set (i := 5) nd rfl (by first | exact .inl rfl | exact .inr rfl) (qe (q_op op_mod sp_mod (qb (q_t1 call_int1 sp_int (qb (q_op op_pow sp_pow (qb (q_op op_plus sp_plus (qb (q_op op_plus sp_plus (qb (q_op op_times sp_times (b_nm 5) (qb (q_op op_plus sp_plus (qb (q_op op_times sp_times (qb q_int) (b_nm 3))) (qb q_int))))) (qb (q_op op_times sp_times (qb (q_op op_times sp_times (qb q_int) (b_nm 3))) (b_nm 3))))) (qb q_int))) (qb q_int))) z.b_int)) (qb q_int))))
  (s_one (s_ret (qe (q_op op_mod sp_mod (qb (q_t1 call_int1 sp_int (qb (q_op op_fdivF sp_div (b_nm 5) (qb q_int))) z.b_int)) (b_nm 1)))))))))))))
theorem ok__law_sip {f : Addr} {fd : FuncData} (F : FnT K "_law_sip" "_law_sip" (top 22) f fd) (gm : mg "_law_sip" = some (.ref f)) (z : Bi mg) (kd : Kinds K (CC at_) nC subs) (cf : ClsF K (CC at_) nC)               : Def P w K mg base "_law_sip" 1 ["_law_can_here", "_law_many"] (spM K (CC at_) 2 m__law_sip) := Def.mk' F gm (F.bindsN (fun _ _ _ _ _ _ us hl => match us, hl with | [_, _], _ => rfl)) (fn__law_sip F z kd cf)
theorem sc__law_choose : FnScope ["_law_can_here", "_law_some"] ["_law_can_here", "_law_some"] (defScope (top 23)) := ⟨rfl, rfl, rfl, by decide +kernel, rfl, by decide +kernel, by decide +kernel⟩
theorem fn__law_choose {f : Addr} {fd : FuncData} (F : FnT K "_law_choose" "_law_choose" (top 23) f fd) (z : Bi mg) (kd : Kinds K (CC at_) nC subs) (cf : ClsF K (CC at_) nC) (D__law_sip : Def P w K mg base "_law_sip" 1 ["_law_can_here", "_law_many"] (spM K (CC at_) 2 m__law_sip))              : FnG P w K mg base 2 f fd ["_law_can_here", "_law_some"] (spM K (CC at_) 2 m__law_choose) := by
  have nd := sc__law_choose.nd
  refine  (fnM F sc__law_choose (k := 1) (fun cdv A outer s H E G W hK hC hr hg tk => ?_))
  obtain ⟨K', C', H0, S0, m, M⟩ := G
  dsimp only at hK hC
  subst hK; subst hC
  exact (s_one (s_ret (e_ix ix_seq sp_ix (e_fz 1) (e_callMD D__law_sip (hr.mono (by decide)) hg tk (a_cons (qe (q_b1 (call_len_seq.or call_len_str) (sp_len.or sp_lenS) (b_nm 1) z.b_len)) a_nil) (consA_len nilA_len)))))
theorem ok__law_choose {f : Addr} {fd : FuncData} (F : FnT K "_law_choose" "_law_choose" (top 23) f fd) (gm : mg "_law_choose" = some (.ref f)) (z : Bi mg) (kd : Kinds K (CC at_) nC subs) (cf : ClsF K (CC at_) nC) (D__law_sip : Def P w K mg base "_law_sip" 1 ["_law_can_here", "_law_many"] (spM K (CC at_) 2 m__law_sip))              : Def P w K mg base "_law_choose" 2 ["_law_can_here", "_law_some"] (spM K (CC at_) 2 m__law_choose) := Def.mk' F gm (F.bindsN (fun _ _ _ _ _ _ us hl => match us, hl with | [_, _], _ => rfl)) (fn__law_choose F z kd cf D__law_sip)
theorem sc_is_integer : FnScope ["value"] ["value"] (defScope (top 7)) := ⟨rfl, rfl, rfl, by decide +kernel, rfl, by decide +kernel, by decide +kernel⟩
theorem fn_is_integer {f : Addr} {fd : FuncData} (F : FnT K "is_integer" "is_integer" (top 7) f fd) (z : Bi mg) (kd : Kinds K (CC at_) nC subs) (cf : ClsF K (CC at_) nC)               : FnG P w K mg base 1 f fd ["value"] (spP K (CC at_) 1 m_is_integer) := by
  have nd := sc_is_integer.nd
  refine  (fnP F sc_is_integer (k := 0) (fun cdv A outer s H E G W hK hC hr hg tk => ?_))
  obtain ⟨K', C', H0, S0, m, M⟩ := G
  dsimp only at hK hC
  subst hK; subst hC
  exact (s_one (s_ret (e_and (qe (q_isi (T := "int") (T0 := "int") kd (by decide) rfl (b_nm 0) z.b_isinstance z.b_int (by decide +kernel))) (e_one (e_not (qe (q_isi (T := "bool") (T0 := "bool") kd (by decide) rfl (b_nm 0) z.b_isinstance z.b_bool (by decide +kernel))))))))
theorem ok_is_integer {f : Addr} {fd : FuncData} (F : FnT K "is_integer" "is_integer" (top 7) f fd) (gm : mg "is_integer" = some (.ref f)) (z : Bi mg) (kd : Kinds K (CC at_) nC subs) (cf : ClsF K (CC at_) nC)               : Def P w K mg base "is_integer" 1 ["value"] (spP K (CC at_) 1 m_is_integer) := Def.mk' F gm (F.bindsN (fun _ _ _ _ _ _ us hl => match us, hl with | [_], _ => rfl)) (fn_is_integer F z kd cf)
theorem sc_need_integer : FnScope ["value", "part"] ["value", "part"] (defScope (top 10)) := ⟨rfl, rfl, rfl, by decide +kernel, rfl, by decide +kernel, by decide +kernel⟩
theorem fn_need_integer {f : Addr} {fd : FuncData} (F : FnT K "need_integer" "need_integer" (top 10) f fd) (z : Bi mg) (kd : Kinds K (CC at_) nC subs) (cf : ClsF K (CC at_) nC) (D_is_integer : Def P w K mg base "is_integer" 1 ["value"] (spP K (CC at_) 1 m_is_integer))           (DE_BadNumber : DefE P w K mg base "BadNumber" (at_ 2) 1 ["part"])   : FnG P w K mg base 3 f fd ["value", "part"] (spP K (CC at_) 2 m_need_integer) := by
  have nd := sc_need_integer.nd
  refine  (fnP F sc_need_integer (k := 2) (fun cdv A outer s H E G W hK hC hr hg tk => ?_))
  obtain ⟨K', C', H0, S0, m, M⟩ := G
  dsimp only at hK hC
  subst hK; subst hC
  exact (s_one (s_if (t_not (t_val (e_callD D_is_integer (hr.mono (by decide)) hg tk (a_cons (e_fz 0) a_nil) (consA_len nilA_len))))
  (s_one (s_raise (c := 2) (ns := ["part"]) DE_BadNumber rfl rfl (by decide) (by decide) rfl (hr.mono (by decide)) hg tk (a_cons (e_fz 1) a_nil)))
  s_nil))
theorem ok_need_integer {f : Addr} {fd : FuncData} (F : FnT K "need_integer" "need_integer" (top 10) f fd) (gm : mg "need_integer" = some (.ref f)) (z : Bi mg) (kd : Kinds K (CC at_) nC subs) (cf : ClsF K (CC at_) nC) (D_is_integer : Def P w K mg base "is_integer" 1 ["value"] (spP K (CC at_) 1 m_is_integer))           (DE_BadNumber : DefE P w K mg base "BadNumber" (at_ 2) 1 ["part"])   : Def P w K mg base "need_integer" 3 ["value", "part"] (spP K (CC at_) 2 m_need_integer) := Def.mk' F gm (F.bindsN (fun _ _ _ _ _ _ us hl => match us, hl with | [_, _], _ => rfl)) (fn_need_integer F z kd cf D_is_integer DE_BadNumber)
theorem sc_Pair_init : FnScope ["self", "one", "other"] ["self", "one", "other"] (defScope (inner (top 19) 0)) := ⟨rfl, rfl, rfl, by decide +kernel, rfl, by decide +kernel, by decide +kernel⟩
theorem ok_Pair_init {f : Addr} {fd : FuncData} (F : FnT K "__init__" "Pair.__init__" (inner (top 19) 0) f fd) (gm : mg "Pair" = some (.ref (at_ 0))) (mk : Mk K (at_ 0) f) (z : Bi mg) (kd : Kinds K (CC at_) nC subs) (cf : ClsF K (CC at_) nC) (D_need_integer : Def P w K mg base "need_integer" 3 ["value", "part"] (spP K (CC at_) 2 m_need_integer))              : DefI P w K mg base "Pair" (at_ 0) 4 ["self", "one", "other"] (spI K (CC at_) 0 3 m_Pair_init) := by
  have nd := sc_Pair_init.nd
  refine DefI.mk ⟨_, _, gm, mk, F.bindsN (fun _ _ _ _ _ _ us hl => match us, hl with | [_, _, _], _ => rfl),  (fnI F sc_Pair_init (k := 3) (fun cdv A outer s H E G W hK hC hr hg tk => ?_))⟩
  obtain ⟨K', C', H0, S0, m, M⟩ := G
  dsimp only at hK hC
  subst hK; subst hC
  exact (s_cons (s_expr (e_callD D_need_integer (hr.mono (by decide)) hg tk (a_cons (e_fz 1) (a_cons (qe q_str) a_nil)) (consA_len (consA_len nilA_len))))
  (s_cons (s_expr (e_callD D_need_integer (hr.mono (by decide)) hg tk (a_cons (e_fz 2) (a_cons (qe q_str) a_nil)) (consA_len (consA_len nilA_len))))
  (s_cons (s_fld (i := 0) cf rfl rfl (e_fz 1))
  (s_cons (s_fld (i := 0) cf rfl rfl (e_fz 2))
  (s_one (s_fld (i := 0) cf rfl rfl (qe (q_op op_plus sp_plus (qb (q_op op_times sp_times (b_nm 1) (b_nm 1))) (qb (q_op op_times sp_times (b_nm 2) (b_nm 2)))))))))))
theorem fn_Pair_init {f : Addr} {fd : FuncData} (F : FnT K "__init__" "Pair.__init__" (inner (top 19) 0) f fd) (z : Bi mg) (kd : Kinds K (CC at_) nC subs) (cf : ClsF K (CC at_) nC) (D_need_integer : Def P w K mg base "need_integer" 3 ["value", "part"] (spP K (CC at_) 2 m_need_integer))              : FnG P w K mg base 4 f fd ["self", "one", "other"] (spI K (CC at_) 0 3 m_Pair_init) := by
  have nd := sc_Pair_init.nd
  refine  (fnI F sc_Pair_init (k := 3) (fun cdv A outer s H E G W hK hC hr hg tk => ?_))
  obtain ⟨K', C', H0, S0, m, M⟩ := G
  dsimp only at hK hC
  subst hK; subst hC
  exact (s_cons (s_expr (e_callD D_need_integer (hr.mono (by decide)) hg tk (a_cons (e_fz 1) (a_cons (qe q_str) a_nil)) (consA_len (consA_len nilA_len))))
  (s_cons (s_expr (e_callD D_need_integer (hr.mono (by decide)) hg tk (a_cons (e_fz 2) (a_cons (qe q_str) a_nil)) (consA_len (consA_len nilA_len))))
  (s_cons (s_fld (i := 0) cf rfl rfl (e_fz 1))
  (s_cons (s_fld (i := 0) cf rfl rfl (e_fz 2))
  (s_one (s_fld (i := 0) cf rfl rfl (qe (q_op op_plus sp_plus (qb (q_op op_times sp_times (b_nm 1) (b_nm 1))) (qb (q_op op_times sp_times (b_nm 2) (b_nm 2)))))))))))
theorem okx_Pair_init_other_one {f : Addr} {fd : FuncData} (F : FnT K "__init__" "Pair.__init__" (inner (top 19) 0) f fd) (gm : mg "Pair" = some (.ref (at_ 0))) (mk : Mk K (at_ 0) f) (z : Bi mg) (kd : Kinds K (CC at_) nC subs) (cf : ClsF K (CC at_) nC) (D_need_integer : Def P w K mg base "need_integer" 3 ["value", "part"] (spP K (CC at_) 2 m_need_integer))              : DefIN P w K mg base "Pair" (at_ 0) 4 ["self", "one", "other"] (spI K (CC at_) 0 3 m_Pair_init) ["other", "one"] [1, 0] := ⟨_, _, gm, mk, kxN F (fun _ _ _ _ _ _ us ws h1 h2 => by obtain ⟨a0, rfl⟩ := ex1 h1; obtain ⟨b0, b1, rfl⟩ := ex2 h2; rfl), fn_Pair_init F z kd cf D_need_integer⟩
theorem sc_Pair_times_i : FnScope ["self", "power", "one", "other", "_"] ["self", "power"] (defScope (inner (top 19) 9)) := ⟨rfl, rfl, rfl, by decide +kernel, rfl, by decide +kernel, by decide +kernel⟩
theorem fn_Pair_times_i {f : Addr} {fd : FuncData} (F : FnT K "times_i" "Pair.times_i" (inner (top 19) 9) f fd) (z : Bi mg) (kd : Kinds K (CC at_) nC subs) (cf : ClsF K (CC at_) nC) (D_need_integer : Def P w K mg base "need_integer" 3 ["value", "part"] (spP K (CC at_) 2 m_need_integer)) (DI_Pair : DefI P w K mg base "Pair" (at_ 0) 4 ["self", "one", "other"] (spI K (CC at_) 0 3 m_Pair_init))             : FnG P w K mg base 6 f fd ["self", "power"] (spP K (CC at_) 2 m_Pair_times_i) := by
  have nd := sc_Pair_times_i.nd
  refine  (fnP F sc_Pair_times_i (k := 5) (fun cdv A outer s H E G W hK hC hr hg tk => ?_))
  obtain ⟨K', C', H0, S0, m, M⟩ := G
  dsimp only at hK hC
  subst hK; subst hC
  exact (s_cons (s_expr (e_callD D_need_integer (hr.mono (by decide)) hg tk (a_cons (e_fz 1) (a_cons (qe q_str) a_nil)) (consA_len (consA_len nilA_len))))
  (s_cons (s_par (i := 2) (j := 3) rfl nd rfl rfl (by decide) rfl rfl (a_cons (qe (q_fld cf rfl rfl (b_nm 0))) (a_cons (qe (q_fld cf rfl rfl (b_nm 0))) a_nil)))
  (s_cons (s_for (passes_of rfl) rfl (i_rng1 (a_cons (qe (q_op op_mod sp_mod (b_nm 1) (qb q_int))) a_nil) z.b_range) (g_nm (i := 4) nd rfl (by first | exact .inl rfl | exact .inr rfl))
  (s_one (s_par (i := 2) (j := 3) rfl nd rfl rfl (by decide) rfl rfl (a_cons (qe (q_un un_neg sp_neg (b_nm 3))) (a_cons (e_fz 2) a_nil)))))
  (s_one (s_ret (e_make (c := 0) DI_Pair rfl (hr.mono (by decide)) hg tk (a_cons (e_fz 2) (a_cons (e_fz 3) a_nil)) (consA_len (consA_len nilA_len))))))))
theorem ok_Pair_times_i {f : Addr} {fd : FuncData} (F : FnT K "times_i" "Pair.times_i" (inner (top 19) 9) f fd) (cl : Cls K (at_ 0)) (mt : Meth K (at_ 0) "times_i" f) (z : Bi mg) (kd : Kinds K (CC at_) nC subs) (cf : ClsF K (CC at_) nC) (D_need_integer : Def P w K mg base "need_integer" 3 ["value", "part"] (spP K (CC at_) 2 m_need_integer)) (DI_Pair : DefI P w K mg base "Pair" (at_ 0) 4 ["self", "one", "other"] (spI K (CC at_) 0 3 m_Pair_init))             : DefT P w K mg base "times_i" (at_ 0) 6 ["self", "power"] (spP K (CC at_) 2 m_Pair_times_i) := ⟨_, _, cl, mt, F.bindsN (fun _ _ _ _ _ _ us hl => match us, hl with | [_, _], _ => rfl), fn_Pair_times_i F z kd cf D_need_integer DI_Pair⟩
theorem okx_Pair_times_i_power {f : Addr} {fd : FuncData} (F : FnT K "times_i" "Pair.times_i" (inner (top 19) 9) f fd) (cl : Cls K (at_ 0)) (mt : Meth K (at_ 0) "times_i" f) (z : Bi mg) (kd : Kinds K (CC at_) nC subs) (cf : ClsF K (CC at_) nC) (D_need_integer : Def P w K mg base "need_integer" 3 ["value", "part"] (spP K (CC at_) 2 m_need_integer)) (DI_Pair : DefI P w K mg base "Pair" (at_ 0) 4 ["self", "one", "other"] (spI K (CC at_) 0 3 m_Pair_init))             : DefTX P w K mg base "times_i" (at_ 0) 6 ["self", "power"] (spP K (CC at_) 2 m_Pair_times_i) ["power"] [0, 1] := ⟨_, _, cl, mt, kxN F (fun _ _ _ _ _ _ us ws h1 h2 => by obtain ⟨a0, rfl⟩ := ex1 h1; obtain ⟨b0, rfl⟩ := ex1 h2; rfl), fn_Pair_times_i F z kd cf D_need_integer DI_Pair⟩
theorem sc__law_refused_right : FnScope ["_law_can_here", "_law_none", "_law_p", "_law_heard_here"] ["_law_can_here"] (defScope (top 30)) := ⟨rfl, rfl, rfl, by decide +kernel, rfl, by decide +kernel, by decide +kernel⟩
theorem fn__law_refused_right {f : Addr} {fd : FuncData} (F : FnT K "_law_refused_right" "_law_refused_right" (top 30) f fd) (z : Bi mg) (kd : Kinds K (CC at_) nC subs) (cf : ClsF K (CC at_) nC)  {Pt0 Pt1 : Addr} (D__law_choose : Def P w K mg base "_law_choose" 2 ["_law_can_here", "_law_some"] (spM K (CC at_) 2 m__law_choose)) (DI_Pair : DefI P w K mg base "Pair" (at_ 0) 4 ["self", "one", "other"] (spI K (CC at_) 0 3 m_Pair_init)) (DT_Pair_times_i : DefT P w K mg base "times_i" (at_ 0) 6 ["self", "power"] (spP K (CC at_) 2 m_Pair_times_i))       (mc_BadText : mg "BadText" = some (.ref (at_ 3))) (mc_BadNumber : mg "BadNumber" = some (.ref (at_ 2))) (mc_BendError : mg "BendError" = some (.ref (at_ 1)))    (kx : KindsE K (CC at_) nC nX subs) {gh : Addr} {fdh : FuncData} (g_law_heard : mg "_law_heard" = some (.ref gh)) (F_law_heard : FnT K "_law_heard" "_law_heard" (top 28) gh fdh) (b_law_heard : L2.Binds K fdh ["_law_ask"] []) {cL : Addr} (hcode : fd.code = .ref cL) (TB : TabB base mg cL Pt0) (ndT : [Pt0, Pt1].Nodup)  : FnG P w K mg base 9 f fd ["_law_can_here"] (spTM K (CC at_) [(Pt0, ((envOfC "_law_refused_right" (defScope (top 30)) 0 0 .none).qual ++ "<lambda>")), (Pt1, ((envOfC "_law_texts_right" (defScope (top 29)) 0 0 .none).qual ++ "<lambda>"))] 1 m__law_refused_right) := by
  have nd := sc__law_refused_right.nd
  refine  (fnTMc F sc__law_refused_right hcode (k := 8) (fun A outer s H E G W hK hC tg hr hg tk => ?_))
  obtain ⟨K', C', H0, S0, m, M⟩ := G
  dsimp only at hK hC
  subst hK; subst hC
  exact (s_cons (s_asg (e_tup (a_cons (e_callMD D__law_choose (hr.mono (by decide)) hg tk (a_cons (fe (f_lst (a_cons (qe q_non) (a_cons (qe q_bl) (a_cons (qe q_bl) (a_cons (qe q_str) (a_cons (e_tup (a_cons (qe q_int) a_nil)) (a_cons (fe (f_lst (a_cons (qe q_int) a_nil))) (a_cons (qe q_dct0) a_nil))))))))) a_nil) (consA_len nilA_len)) (a_cons (e_make (c := 0) DI_Pair rfl (hr.mono (by decide)) hg tk (a_cons (qe q_int) (a_cons (qe q_int) a_nil)) (consA_len (consA_len nilA_len))) a_nil))) (g_tup rfl rfl (gs_cons (g_nm (i := 1) nd rfl (by first | exact .inl rfl | exact .inr rfl)) (gs_cons (g_nm (i := 2) nd rfl (by first | exact .inl rfl | exact .inr rfl)) gs_nil))))
  (s_cons (s_seto (i := 3) nd rfl (by first | exact .inl rfl | exact .inr rfl) (f_lst (a_cons (e_heard (k := 6) tg rfl g_law_heard F_law_heard b_law_heard sc__law_heard rfl (by first | exact Or.inl rfl | exact Or.inr (Or.inl rfl) | exact Or.inr (Or.inr rfl)) (fun cd => gv__law_heard (hr.mono (by decide)) hg z kd kx mc_BadText mc_BadNumber mc_BendError) TB rfl (memT 0 rfl) (oneT 0 ndT rfl) (hr.mono (by decide)) hg (lamS_by (by rfl)) rfl (fun _ _ _ _ _ => rfl) (fun A outer s H E f1 c2 hr hg => (e_make (c := 0) DI_Pair rfl (hr.mono (by decide)) hg (takes_of rfl rfl rfl rfl) (a_cons (e_fz 1) (a_cons (e_fz 1) a_nil)) (consA_len (consA_len nilA_len))))) a_nil)))
  (s_cons (s_expr (e_app (e_heard (k := 6) tg rfl g_law_heard F_law_heard b_law_heard sc__law_heard rfl (by first | exact Or.inl rfl | exact Or.inr (Or.inl rfl) | exact Or.inr (Or.inr rfl)) (fun cd => gv__law_heard (hr.mono (by decide)) hg z kd kx mc_BadText mc_BadNumber mc_BendError) TB rfl (memT 0 rfl) (oneT 0 ndT rfl) (hr.mono (by decide)) hg (lamS_by (by rfl)) rfl (fun _ _ _ _ _ => rfl) (fun A outer s H E f1 c2 hr hg => (e_make (c := 0) DI_Pair rfl (hr.mono (by decide)) hg (takes_of rfl rfl rfl rfl) (a_cons (qe q_int) (a_cons (e_fz 1) a_nil)) (consA_len (consA_len nilA_len))))) rfl))
  (s_cons (s_expr (e_app (e_heard (k := 6) tg rfl g_law_heard F_law_heard b_law_heard sc__law_heard rfl (by first | exact Or.inl rfl | exact Or.inr (Or.inl rfl) | exact Or.inr (Or.inr rfl)) (fun cd => gv__law_heard (hr.mono (by decide)) hg z kd kx mc_BadText mc_BadNumber mc_BendError) TB rfl (memT 0 rfl) (oneT 0 ndT rfl) (hr.mono (by decide)) hg (lamS_by (by rfl)) rfl (fun _ _ _ _ _ => rfl) (fun A outer s H E f1 c2 hr hg => (e_make (c := 0) DI_Pair rfl (hr.mono (by decide)) hg (takes_of rfl rfl rfl rfl) (a_cons (e_fz 1) (a_cons (qe q_int) a_nil)) (consA_len (consA_len nilA_len))))) rfl))
  (s_cons (s_expr (e_app (e_heard (k := 6) tg rfl g_law_heard F_law_heard b_law_heard sc__law_heard rfl (by first | exact Or.inl rfl | exact Or.inr (Or.inl rfl) | exact Or.inr (Or.inr rfl)) (fun cd => gv__law_heard (hr.mono (by decide)) hg z kd kx mc_BadText mc_BadNumber mc_BendError) TB rfl (memT 0 rfl) (oneT 0 ndT rfl) (hr.mono (by decide)) hg (lamS_by (by rfl)) rfl (fun _ _ _ _ _ => rfl) (fun A outer s H E f1 c2 hr hg => (e_meth (c := 0) DT_Pair_times_i (by show _ ∉ fnTab 0; decide +kernel) (hr.mono (by decide)) hg (takes_of rfl rfl rfl rfl) (e_fz 2) (a_cons (e_fz 1) a_nil) (consA_len nilA_len)))) rfl))
  (s_cons (s_expr (e_app (e_heard (k := 6) tg rfl g_law_heard F_law_heard b_law_heard sc__law_heard rfl (by first | exact Or.inl rfl | exact Or.inr (Or.inl rfl) | exact Or.inr (Or.inr rfl)) (fun cd => gv__law_heard (hr.mono (by decide)) hg z kd kx mc_BadText mc_BadNumber mc_BendError) TB rfl (memT 0 rfl) (oneT 0 ndT rfl) (hr.mono (by decide)) hg (lamS_by (by rfl)) rfl (fun _ _ _ _ _ => rfl) (fun A outer s H E f1 c2 hr hg => (e_meth (c := 0) DT_Pair_times_i (by show _ ∉ fnTab 0; decide +kernel) (hr.mono (by decide)) hg (takes_of rfl rfl rfl rfl) (e_fz 2) (a_cons (qe (q_un un_neg sp_neg (qb q_int))) a_nil) (consA_len nilA_len)))) rfl))
  (s_one (s_ret (e_cmp (op_eqD hr.units) sp_eqD (e_fz 3) (fe (f_lst (a_cons (e_tup (a_cons (qe q_str) (a_cons (qe q_str) a_nil))) (a_cons (e_tup (a_cons (qe q_str) (a_cons (qe q_str) a_nil))) (a_cons (e_tup (a_cons (qe q_str) (a_cons (qe q_str) a_nil))) (a_cons (e_tup (a_cons (qe q_str) (a_cons (qe q_str) a_nil))) (a_cons (e_tup a_nil) a_nil))))))))))))))))
theorem ok__law_refused_right {f : Addr} {fd : FuncData} (F : FnT K "_law_refused_right" "_law_refused_right" (top 30) f fd) (gm : mg "_law_refused_right" = some (.ref f)) (z : Bi mg) (kd : Kinds K (CC at_) nC subs) (cf : ClsF K (CC at_) nC)  {Pt0 Pt1 : Addr} (D__law_choose : Def P w K mg base "_law_choose" 2 ["_law_can_here", "_law_some"] (spM K (CC at_) 2 m__law_choose)) (DI_Pair : DefI P w K mg base "Pair" (at_ 0) 4 ["self", "one", "other"] (spI K (CC at_) 0 3 m_Pair_init)) (DT_Pair_times_i : DefT P w K mg base "times_i" (at_ 0) 6 ["self", "power"] (spP K (CC at_) 2 m_Pair_times_i))       (mc_BadText : mg "BadText" = some (.ref (at_ 3))) (mc_BadNumber : mg "BadNumber" = some (.ref (at_ 2))) (mc_BendError : mg "BendError" = some (.ref (at_ 1)))    (kx : KindsE K (CC at_) nC nX subs) {gh : Addr} {fdh : FuncData} (g_law_heard : mg "_law_heard" = some (.ref gh)) (F_law_heard : FnT K "_law_heard" "_law_heard" (top 28) gh fdh) (b_law_heard : L2.Binds K fdh ["_law_ask"] []) {cL : Addr} (hcode : fd.code = .ref cL) (TB : TabB base mg cL Pt0) (ndT : [Pt0, Pt1].Nodup)  : Def P w K mg base "_law_refused_right" 9 ["_law_can_here"] (spTM K (CC at_) [(Pt0, ((envOfC "_law_refused_right" (defScope (top 30)) 0 0 .none).qual ++ "<lambda>")), (Pt1, ((envOfC "_law_texts_right" (defScope (top 29)) 0 0 .none).qual ++ "<lambda>"))] 1 m__law_refused_right) := Def.mk' F gm (F.bindsN (fun _ _ _ _ _ _ us hl => match us, hl with | [_], _ => rfl)) (fn__law_refused_right F z kd cf D__law_choose DI_Pair DT_Pair_times_i mc_BadText mc_BadNumber mc_BendError kx g_law_heard F_law_heard b_law_heard hcode TB ndT)
theorem sc_Pair___eq__ : FnScope ["self", "other"] ["self", "other"] (defScope (inner (top 19) 1)) := ⟨rfl, rfl, rfl, by decide +kernel, rfl, by decide +kernel, by decide +kernel⟩
theorem fn_Pair___eq__ {f : Addr} {fd : FuncData} (F : FnT K "__eq__" "Pair.__eq__" (inner (top 19) 1) f fd) (z : Bi mg) (kd : Kinds K (CC at_) nC subs) (cf : ClsF K (CC at_) nC)          (mc_Pair : mg "Pair" = some (.ref (at_ 0)))     : FnG P w K mg base 1 f fd ["self", "other"] (spP K (CC at_) 2 m_Pair___eq__) := by
  have nd := sc_Pair___eq__.nd
  refine  (fnP F sc_Pair___eq__ (k := 0) (fun cdv A outer s H E G W hK hC hr hg tk => ?_))
  obtain ⟨K', C', H0, S0, m, M⟩ := G
  dsimp only at hK hC
  subst hK; subst hC
  exact (s_one (s_ret (e_and (qe (q_isiC (t := 0) kd (by decide) rfl (b_nm 1) z.b_isinstance mc_Pair)) (e_and (qe (q_cmp (op_eqD hr.units) sp_eqD (qb (q_fld cf rfl rfl (b_nm 0))) (qb (q_fld cf rfl rfl (b_nm 1))))) (e_one (qe (q_cmp (op_eqD hr.units) sp_eqD (qb (q_fld cf rfl rfl (b_nm 0))) (qb (q_fld cf rfl rfl (b_nm 1))))))))))
theorem ok_Pair___eq__ {f : Addr} {fd : FuncData} (F : FnT K "__eq__" "Pair.__eq__" (inner (top 19) 1) f fd) (cl : Cls K (at_ 0)) (mt : Meth K (at_ 0) "__eq__" f) (z : Bi mg) (kd : Kinds K (CC at_) nC subs) (cf : ClsF K (CC at_) nC)          (mc_Pair : mg "Pair" = some (.ref (at_ 0)))     : DefT P w K mg base "__eq__" (at_ 0) 1 ["self", "other"] (spP K (CC at_) 2 m_Pair___eq__) := ⟨_, _, cl, mt, F.bindsN (fun _ _ _ _ _ _ us hl => match us, hl with | [_, _], _ => rfl), fn_Pair___eq__ F z kd cf mc_Pair⟩
theorem sc__law_part : FnScope ["_law_can_here", "_law_way", "_law_found", "_law_turn"] ["_law_can_here"] (defScope (top 24)) := ⟨rfl, rfl, rfl, by decide +kernel, rfl, by decide +kernel, by decide +kernel⟩
theorem fn__law_part {f : Addr} {fd : FuncData} (F : FnT K "_law_part" "_law_part" (top 24) f fd) (z : Bi mg) (kd : Kinds K (CC at_) nC subs) (cf : ClsF K (CC at_) nC) (D__law_sip : Def P w K mg base "_law_sip" 1 ["_law_can_here", "_law_many"] (spM K (CC at_) 2 m__law_sip))              : FnG P w K mg base 2 f fd ["_law_can_here"] (spM K (CC at_) 1 m__law_part) := by
  have nd := sc__law_part.nd
  refine  (fnM F sc__law_part (k := 1) (fun cdv A outer s H E G W hK hC hr hg tk => ?_))
  obtain ⟨K', C', H0, S0, m, M⟩ := G
  dsimp only at hK hC
  subst hK; subst hC
  exact (s_cons (s_set (i := 1) nd rfl (by first | exact .inl rfl | exact .inr rfl) (e_callMD D__law_sip (hr.mono (by decide)) hg tk (a_cons (qe q_int) a_nil) (consA_len nilA_len)))
  (s_cons (s_if (t_cmpQ (op_eqD hr.units) sp_eqD (b_nm 1) (qb q_int))
  (s_one (s_ret (e_op op_sub sp_sub (e_callMD D__law_sip (hr.mono (by decide)) hg tk (a_cons (qe q_int) a_nil) (consA_len nilA_len)) (qe q_int))))
  s_nil)
  (s_cons (s_if (t_cmpQ op_lt sp_lt (b_nm 1) (qb q_int))
  (s_one (s_ret (e_op op_sub sp_sub (e_callMD D__law_sip (hr.mono (by decide)) hg tk (a_cons (qe q_int) a_nil) (consA_len nilA_len)) (qe q_int))))
  s_nil)
  (s_cons (s_set (i := 2) nd rfl (by first | exact .inl rfl | exact .inr rfl) (qe q_int))
  (s_cons (s_for (passes_of rfl) rfl (i_rng1 (a_cons (e_op op_plus sp_plus (qe q_int) (e_callMD D__law_sip (hr.mono (by decide)) hg tk (a_cons (qe q_int) a_nil) (consA_len nilA_len))) a_nil) z.b_range) (g_nm (i := 3) nd rfl (by first | exact .inl rfl | exact .inr rfl))
  (s_one (s_set (i := 2) nd rfl (by first | exact .inl rfl | exact .inr rfl) (e_op op_plus sp_plus (qe (q_op op_times sp_times (b_nm 2) (qb (q_op op_pow sp_pow (qb q_int) (qb q_int))))) (e_callMD D__law_sip (hr.mono (by decide)) hg tk (a_cons (qe (q_op op_pow sp_pow (qb q_int) (qb q_int))) a_nil) (consA_len nilA_len))))))
  (s_one (s_ret (e_if (t_cmp (op_eqD hr.units) sp_eqD (e_callMD D__law_sip (hr.mono (by decide)) hg tk (a_cons (qe q_int) a_nil) (consA_len nilA_len)) (qe q_int)) (e_fz 2) (qe (q_un un_neg sp_neg (b_nm 2)))))))))))
theorem ok__law_part {f : Addr} {fd : FuncData} (F : FnT K "_law_part" "_law_part" (top 24) f fd) (gm : mg "_law_part" = some (.ref f)) (z : Bi mg) (kd : Kinds K (CC at_) nC subs) (cf : ClsF K (CC at_) nC) (D__law_sip : Def P w K mg base "_law_sip" 1 ["_law_can_here", "_law_many"] (spM K (CC at_) 2 m__law_sip))              : Def P w K mg base "_law_part" 2 ["_law_can_here"] (spM K (CC at_) 1 m__law_part) := Def.mk' F gm (F.bindsN (fun _ _ _ _ _ _ us hl => match us, hl with | [_], _ => rfl)) (fn__law_part F z kd cf D__law_sip)
theorem sc__law_turned : FnScope ["_law_one", "_law_other", "_law_power"] ["_law_one", "_law_other", "_law_power"] (defScope (top 26)) := ⟨rfl, rfl, rfl, by decide +kernel, rfl, by decide +kernel, by decide +kernel⟩
theorem fn__law_turned {f : Addr} {fd : FuncData} (F : FnT K "_law_turned" "_law_turned" (top 26) f fd) (z : Bi mg) (kd : Kinds K (CC at_) nC subs) (cf : ClsF K (CC at_) nC)               : FnG P w K mg base 1 f fd ["_law_one", "_law_other", "_law_power"] (spP K (CC at_) 3 m__law_turned) := by
  have nd := sc__law_turned.nd
  refine  (fnP F sc__law_turned (k := 0) (fun cdv A outer s H E G W hK hC hr hg tk => ?_))
  obtain ⟨K', C', H0, S0, m, M⟩ := G
  dsimp only at hK hC
  subst hK; subst hC
  exact (s_one (s_ret (e_ix ix_seq sp_ix (fe (f_lst (a_cons (e_tup (a_cons (e_fz 0) (a_cons (e_fz 1) a_nil))) (a_cons (e_tup (a_cons (qe (q_un un_neg sp_neg (b_nm 1))) (a_cons (e_fz 0) a_nil))) (a_cons (e_tup (a_cons (qe (q_un un_neg sp_neg (b_nm 0))) (a_cons (qe (q_un un_neg sp_neg (b_nm 1))) a_nil))) (a_cons (e_tup (a_cons (e_fz 1) (a_cons (qe (q_un un_neg sp_neg (b_nm 0))) a_nil))) a_nil)))))) (qe (q_op op_mod sp_mod (qb (q_t1 call_int1 sp_int (b_nm 2) z.b_int)) (qb q_int))))))
theorem ok__law_turned {f : Addr} {fd : FuncData} (F : FnT K "_law_turned" "_law_turned" (top 26) f fd) (gm : mg "_law_turned" = some (.ref f)) (z : Bi mg) (kd : Kinds K (CC at_) nC subs) (cf : ClsF K (CC at_) nC)               : Def P w K mg base "_law_turned" 1 ["_law_one", "_law_other", "_law_power"] (spP K (CC at_) 3 m__law_turned) := Def.mk' F gm (F.bindsN (fun _ _ _ _ _ _ us hl => match us, hl with | [_, _, _], _ => rfl)) (fn__law_turned F z kd cf)
theorem sc__law_is : FnScope ["_law_value", "_law_one", "_law_other"] ["_law_value", "_law_one", "_law_other"] (defScope (top 25)) := ⟨rfl, rfl, rfl, by decide +kernel, rfl, by decide +kernel, by decide +kernel⟩
theorem fn__law_is {f : Addr} {fd : FuncData} (F : FnT K "_law_is" "_law_is" (top 25) f fd) (z : Bi mg) (kd : Kinds K (CC at_) nC subs) (cf : ClsF K (CC at_) nC)          (mc_Pair : mg "Pair" = some (.ref (at_ 0)))     : FnG P w K mg base 1 f fd ["_law_value", "_law_one", "_law_other"] (spP K (CC at_) 3 m__law_is) := by
  have nd := sc__law_is.nd
  refine  (fnP F sc__law_is (k := 0) (fun cdv A outer s H E G W hK hC hr hg tk => ?_))
  obtain ⟨K', C', H0, S0, m, M⟩ := G
  dsimp only at hK hC
  subst hK; subst hC
  exact (s_one (s_ret (e_and (qe (q_isiC (t := 0) kd (by decide) rfl (b_nm 0) z.b_isinstance mc_Pair)) (e_one (e_cmp (op_eqD hr.units) sp_eqD (e_b1 (cr_repr hg (u65 hr)) sp_repr (e_tup (a_cons (qe (q_fld cf rfl rfl (b_nm 0))) (a_cons (qe (q_fld cf rfl rfl (b_nm 0))) (a_cons (qe (q_fld cf rfl rfl (b_nm 0))) a_nil)))) z.b_repr) (e_b1 (cr_repr hg (u65 hr)) sp_repr (e_tup (a_cons (e_fz 1) (a_cons (e_fz 2) (a_cons (qe (q_op op_plus sp_plus (qb (q_op op_times sp_times (b_nm 1) (b_nm 1))) (qb (q_op op_times sp_times (b_nm 2) (b_nm 2))))) a_nil)))) z.b_repr))))))
theorem ok__law_is {f : Addr} {fd : FuncData} (F : FnT K "_law_is" "_law_is" (top 25) f fd) (gm : mg "_law_is" = some (.ref f)) (z : Bi mg) (kd : Kinds K (CC at_) nC subs) (cf : ClsF K (CC at_) nC)          (mc_Pair : mg "Pair" = some (.ref (at_ 0)))     : Def P w K mg base "_law_is" 1 ["_law_value", "_law_one", "_law_other"] (spP K (CC at_) 3 m__law_is) := Def.mk' F gm (F.bindsN (fun _ _ _ _ _ _ us hl => match us, hl with | [_, _, _], _ => rfl)) (fn__law_is F z kd cf mc_Pair)
theorem sc_Pair___add__ : FnScope ["self", "other"] ["self", "other"] (defScope (inner (top 19) 4)) := ⟨rfl, rfl, rfl, by decide +kernel, rfl, by decide +kernel, by decide +kernel⟩
theorem fn_Pair___add__ {f : Addr} {fd : FuncData} (F : FnT K "__add__" "Pair.__add__" (inner (top 19) 4) f fd) (z : Bi mg) (kd : Kinds K (CC at_) nC subs) (cf : ClsF K (CC at_) nC)  (DI_Pair : DefI P w K mg base "Pair" (at_ 0) 4 ["self", "one", "other"] (spI K (CC at_) 0 3 m_Pair_init))        (mc_Pair : mg "Pair" = some (.ref (at_ 0)))     : FnG P w K mg base 6 f fd ["self", "other"] (spP K (CC at_) 2 m_Pair___add__) := by
  have nd := sc_Pair___add__.nd
  refine  (fnP F sc_Pair___add__ (k := 5) (fun cdv A outer s H E G W hK hC hr hg tk => ?_))
  obtain ⟨K', C', H0, S0, m, M⟩ := G
  dsimp only at hK hC
  subst hK; subst hC
  exact (s_cons (s_if (t_not (t_val (qe (q_isiC (t := 0) kd (by decide) rfl (b_nm 1) z.b_isinstance mc_Pair))))
  (s_one s_never)
  s_nil)
  (s_one (s_ret (e_make (c := 0) DI_Pair rfl (hr.mono (by decide)) hg tk (a_cons (qe (q_op op_plus sp_plus (qb (q_fld cf rfl rfl (b_nm 0))) (qb (q_fld cf rfl rfl (b_nm 1))))) (a_cons (qe (q_op op_plus sp_plus (qb (q_fld cf rfl rfl (b_nm 0))) (qb (q_fld cf rfl rfl (b_nm 1))))) a_nil)) (consA_len (consA_len nilA_len))))))
theorem ok_Pair___add__ {f : Addr} {fd : FuncData} (F : FnT K "__add__" "Pair.__add__" (inner (top 19) 4) f fd) (cl : Cls K (at_ 0)) (mt : Meth K (at_ 0) "__add__" f) (z : Bi mg) (kd : Kinds K (CC at_) nC subs) (cf : ClsF K (CC at_) nC)  (DI_Pair : DefI P w K mg base "Pair" (at_ 0) 4 ["self", "one", "other"] (spI K (CC at_) 0 3 m_Pair_init))        (mc_Pair : mg "Pair" = some (.ref (at_ 0)))     : DefT P w K mg base "__add__" (at_ 0) 6 ["self", "other"] (spP K (CC at_) 2 m_Pair___add__) := ⟨_, _, cl, mt, F.bindsN (fun _ _ _ _ _ _ us hl => match us, hl with | [_, _], _ => rfl), fn_Pair___add__ F z kd cf DI_Pair mc_Pair⟩
theorem sc_Pair___sub__ : FnScope ["self", "other"] ["self", "other"] (defScope (inner (top 19) 5)) := ⟨rfl, rfl, rfl, by decide +kernel, rfl, by decide +kernel, by decide +kernel⟩
theorem fn_Pair___sub__ {f : Addr} {fd : FuncData} (F : FnT K "__sub__" "Pair.__sub__" (inner (top 19) 5) f fd) (z : Bi mg) (kd : Kinds K (CC at_) nC subs) (cf : ClsF K (CC at_) nC)  (DI_Pair : DefI P w K mg base "Pair" (at_ 0) 4 ["self", "one", "other"] (spI K (CC at_) 0 3 m_Pair_init))        (mc_Pair : mg "Pair" = some (.ref (at_ 0)))     : FnG P w K mg base 6 f fd ["self", "other"] (spP K (CC at_) 2 m_Pair___sub__) := by
  have nd := sc_Pair___sub__.nd
  refine  (fnP F sc_Pair___sub__ (k := 5) (fun cdv A outer s H E G W hK hC hr hg tk => ?_))
  obtain ⟨K', C', H0, S0, m, M⟩ := G
  dsimp only at hK hC
  subst hK; subst hC
  exact (s_cons (s_if (t_not (t_val (qe (q_isiC (t := 0) kd (by decide) rfl (b_nm 1) z.b_isinstance mc_Pair))))
  (s_one s_never)
  s_nil)
  (s_one (s_ret (e_make (c := 0) DI_Pair rfl (hr.mono (by decide)) hg tk (a_cons (qe (q_op op_sub sp_sub (qb (q_fld cf rfl rfl (b_nm 0))) (qb (q_fld cf rfl rfl (b_nm 1))))) (a_cons (qe (q_op op_sub sp_sub (qb (q_fld cf rfl rfl (b_nm 0))) (qb (q_fld cf rfl rfl (b_nm 1))))) a_nil)) (consA_len (consA_len nilA_len))))))
theorem ok_Pair___sub__ {f : Addr} {fd : FuncData} (F : FnT K "__sub__" "Pair.__sub__" (inner (top 19) 5) f fd) (cl : Cls K (at_ 0)) (mt : Meth K (at_ 0) "__sub__" f) (z : Bi mg) (kd : Kinds K (CC at_) nC subs) (cf : ClsF K (CC at_) nC)  (DI_Pair : DefI P w K mg base "Pair" (at_ 0) 4 ["self", "one", "other"] (spI K (CC at_) 0 3 m_Pair_init))        (mc_Pair : mg "Pair" = some (.ref (at_ 0)))     : DefT P w K mg base "__sub__" (at_ 0) 6 ["self", "other"] (spP K (CC at_) 2 m_Pair___sub__) := ⟨_, _, cl, mt, F.bindsN (fun _ _ _ _ _ _ us hl => match us, hl with | [_, _], _ => rfl), fn_Pair___sub__ F z kd cf DI_Pair mc_Pair⟩
theorem sc_Pair___mul__ : FnScope ["self", "other", "one"] ["self", "other"] (defScope (inner (top 19) 6)) := ⟨rfl, rfl, rfl, by decide +kernel, rfl, by decide +kernel, by decide +kernel⟩
theorem fn_Pair___mul__ {f : Addr} {fd : FuncData} (F : FnT K "__mul__" "Pair.__mul__" (inner (top 19) 6) f fd) (z : Bi mg) (kd : Kinds K (CC at_) nC subs) (cf : ClsF K (CC at_) nC)  (DI_Pair : DefI P w K mg base "Pair" (at_ 0) 4 ["self", "one", "other"] (spI K (CC at_) 0 3 m_Pair_init))        (mc_Pair : mg "Pair" = some (.ref (at_ 0)))     : FnG P w K mg base 6 f fd ["self", "other"] (spP K (CC at_) 2 m_Pair___mul__) := by
  have nd := sc_Pair___mul__.nd
  refine  (fnP F sc_Pair___mul__ (k := 5) (fun cdv A outer s H E G W hK hC hr hg tk => ?_))
  obtain ⟨K', C', H0, S0, m, M⟩ := G
  dsimp only at hK hC
  subst hK; subst hC
  exact (s_cons (s_if (t_not (t_val (qe (q_isiC (t := 0) kd (by decide) rfl (b_nm 1) z.b_isinstance mc_Pair))))
  (s_one s_never)
  s_nil)
  (s_cons (s_set (i := 2) nd rfl (by first | exact .inl rfl | exact .inr rfl) (qe (q_op op_sub sp_sub (qb (q_op op_times sp_times (qb (q_fld cf rfl rfl (b_nm 0))) (qb (q_fld cf rfl rfl (b_nm 1))))) (qb (q_op op_times sp_times (qb (q_fld cf rfl rfl (b_nm 0))) (qb (q_fld cf rfl rfl (b_nm 1))))))))
  (s_one (s_ret (e_make (c := 0) DI_Pair rfl (hr.mono (by decide)) hg tk (a_cons (e_fz 2) (a_cons (qe (q_op op_plus sp_plus (qb (q_op op_times sp_times (qb (q_fld cf rfl rfl (b_nm 0))) (qb (q_fld cf rfl rfl (b_nm 1))))) (qb (q_op op_times sp_times (qb (q_fld cf rfl rfl (b_nm 0))) (qb (q_fld cf rfl rfl (b_nm 1))))))) a_nil)) (consA_len (consA_len nilA_len)))))))
theorem ok_Pair___mul__ {f : Addr} {fd : FuncData} (F : FnT K "__mul__" "Pair.__mul__" (inner (top 19) 6) f fd) (cl : Cls K (at_ 0)) (mt : Meth K (at_ 0) "__mul__" f) (z : Bi mg) (kd : Kinds K (CC at_) nC subs) (cf : ClsF K (CC at_) nC)  (DI_Pair : DefI P w K mg base "Pair" (at_ 0) 4 ["self", "one", "other"] (spI K (CC at_) 0 3 m_Pair_init))        (mc_Pair : mg "Pair" = some (.ref (at_ 0)))     : DefT P w K mg base "__mul__" (at_ 0) 6 ["self", "other"] (spP K (CC at_) 2 m_Pair___mul__) := ⟨_, _, cl, mt, F.bindsN (fun _ _ _ _ _ _ us hl => match us, hl with | [_, _], _ => rfl), fn_Pair___mul__ F z kd cf DI_Pair mc_Pair⟩
theorem sc_Pair___neg__ : FnScope ["self"] ["self"] (defScope (inner (top 19) 7)) := ⟨rfl, rfl, rfl, by decide +kernel, rfl, by decide +kernel, by decide +kernel⟩
theorem fn_Pair___neg__ {f : Addr} {fd : FuncData} (F : FnT K "__neg__" "Pair.__neg__" (inner (top 19) 7) f fd) (z : Bi mg) (kd : Kinds K (CC at_) nC subs) (cf : ClsF K (CC at_) nC)  (DI_Pair : DefI P w K mg base "Pair" (at_ 0) 4 ["self", "one", "other"] (spI K (CC at_) 0 3 m_Pair_init))             : FnG P w K mg base 6 f fd ["self"] (spP K (CC at_) 1 m_Pair___neg__) := by
  have nd := sc_Pair___neg__.nd
  refine  (fnP F sc_Pair___neg__ (k := 5) (fun cdv A outer s H E G W hK hC hr hg tk => ?_))
  obtain ⟨K', C', H0, S0, m, M⟩ := G
  dsimp only at hK hC
  subst hK; subst hC
  exact (s_one (s_ret (e_make (c := 0) DI_Pair rfl (hr.mono (by decide)) hg tk (a_cons (qe (q_un un_neg sp_neg (qb (q_fld cf rfl rfl (b_nm 0))))) (a_cons (qe (q_un un_neg sp_neg (qb (q_fld cf rfl rfl (b_nm 0))))) a_nil)) (consA_len (consA_len nilA_len)))))
theorem ok_Pair___neg__ {f : Addr} {fd : FuncData} (F : FnT K "__neg__" "Pair.__neg__" (inner (top 19) 7) f fd) (cl : Cls K (at_ 0)) (mt : Meth K (at_ 0) "__neg__" f) (z : Bi mg) (kd : Kinds K (CC at_) nC subs) (cf : ClsF K (CC at_) nC)  (DI_Pair : DefI P w K mg base "Pair" (at_ 0) 4 ["self", "one", "other"] (spI K (CC at_) 0 3 m_Pair_init))             : DefT P w K mg base "__neg__" (at_ 0) 6 ["self"] (spP K (CC at_) 1 m_Pair___neg__) := ⟨_, _, cl, mt, F.bindsN (fun _ _ _ _ _ _ us hl => match us, hl with | [_], _ => rfl), fn_Pair___neg__ F z kd cf DI_Pair⟩
theorem sc_Pair_flipped : FnScope ["self"] ["self"] (defScope (inner (top 19) 8)) := ⟨rfl, rfl, rfl, by decide +kernel, rfl, by decide +kernel, by decide +kernel⟩
theorem fn_Pair_flipped {f : Addr} {fd : FuncData} (F : FnT K "flipped" "Pair.flipped" (inner (top 19) 8) f fd) (z : Bi mg) (kd : Kinds K (CC at_) nC subs) (cf : ClsF K (CC at_) nC)  (DI_Pair : DefI P w K mg base "Pair" (at_ 0) 4 ["self", "one", "other"] (spI K (CC at_) 0 3 m_Pair_init))             : FnG P w K mg base 6 f fd ["self"] (spP K (CC at_) 1 m_Pair_flipped) := by
  have nd := sc_Pair_flipped.nd
  refine  (fnP F sc_Pair_flipped (k := 5) (fun cdv A outer s H E G W hK hC hr hg tk => ?_))
  obtain ⟨K', C', H0, S0, m, M⟩ := G
  dsimp only at hK hC
  subst hK; subst hC
  exact (s_one (s_ret (e_make (c := 0) DI_Pair rfl (hr.mono (by decide)) hg tk (a_cons (qe (q_fld cf rfl rfl (b_nm 0))) (a_cons (qe (q_un un_neg sp_neg (qb (q_fld cf rfl rfl (b_nm 0))))) a_nil)) (consA_len (consA_len nilA_len)))))
theorem ok_Pair_flipped {f : Addr} {fd : FuncData} (F : FnT K "flipped" "Pair.flipped" (inner (top 19) 8) f fd) (cl : Cls K (at_ 0)) (mt : Meth K (at_ 0) "flipped" f) (z : Bi mg) (kd : Kinds K (CC at_) nC subs) (cf : ClsF K (CC at_) nC)  (DI_Pair : DefI P w K mg base "Pair" (at_ 0) 4 ["self", "one", "other"] (spI K (CC at_) 0 3 m_Pair_init))             : DefT P w K mg base "flipped" (at_ 0) 6 ["self"] (spP K (CC at_) 1 m_Pair_flipped) := ⟨_, _, cl, mt, F.bindsN (fun _ _ _ _ _ _ us hl => match us, hl with | [_], _ => rfl), fn_Pair_flipped F z kd cf DI_Pair⟩
theorem sc_Pair___str__ : FnScope ["self"] ["self"] (defScope (inner (top 19) 2)) := ⟨rfl, rfl, rfl, by decide +kernel, rfl, by decide +kernel, by decide +kernel⟩
theorem fn_Pair___str__ {f : Addr} {fd : FuncData} (F : FnT K "__str__" "Pair.__str__" (inner (top 19) 2) f fd) (z : Bi mg) (kd : Kinds K (CC at_) nC subs) (cf : ClsF K (CC at_) nC)               : FnG P w K mg base 1 f fd ["self"] (spP K (CC at_) 1 m_Pair___str__) := by
  have nd := sc_Pair___str__.nd
  refine  (fnP F sc_Pair___str__ (k := 0) (fun cdv A outer s H E G W hK hC hr hg tk => ?_))
  obtain ⟨K', C', H0, S0, m, M⟩ := G
  dsimp only at hK hC
  subst hK; subst hC
  exact (s_one (s_ret (e_join rfl (qe q_str) (fe (f_lst (a_cons (qe (q_t1 call_str_int sp_str (qb (q_fld cf rfl rfl (b_nm 0))) z.b_str)) (a_cons (qe (q_t1 call_str_int sp_str (qb (q_fld cf rfl rfl (b_nm 0))) z.b_str)) a_nil)))))))
theorem ok_Pair___str__ {f : Addr} {fd : FuncData} (F : FnT K "__str__" "Pair.__str__" (inner (top 19) 2) f fd) (cl : Cls K (at_ 0)) (mt : Meth K (at_ 0) "__str__" f) (z : Bi mg) (kd : Kinds K (CC at_) nC subs) (cf : ClsF K (CC at_) nC)               : DefT P w K mg base "__str__" (at_ 0) 1 ["self"] (spP K (CC at_) 1 m_Pair___str__) := ⟨_, _, cl, mt, F.bindsN (fun _ _ _ _ _ _ us hl => match us, hl with | [_], _ => rfl), fn_Pair___str__ F z kd cf⟩
theorem sc__law_sums_right : FnScope ["_law_can_here", "_law_a", "_law_b", "_law_c", "_law_d", "_law_p", "_law_q", "_law_power", "_law_rows", "_law_told", "_law_turns", "_law_due", "_law_row", "_law_value"] ["_law_can_here"] (defScope (top 27)) := ⟨rfl, rfl, rfl, by decide +kernel, rfl, by decide +kernel, by decide +kernel⟩
theorem fn__law_sums_right {f : Addr} {fd : FuncData} (F : FnT K "_law_sums_right" "_law_sums_right" (top 27) f fd) (z : Bi mg) (kd : Kinds K (CC at_) nC subs) (cf : ClsF K (CC at_) nC) (D__law_part : Def P w K mg base "_law_part" 2 ["_law_can_here"] (spM K (CC at_) 1 m__law_part)) (D__law_sip : Def P w K mg base "_law_sip" 1 ["_law_can_here", "_law_many"] (spM K (CC at_) 2 m__law_sip)) (D__law_choose : Def P w K mg base "_law_choose" 2 ["_law_can_here", "_law_some"] (spM K (CC at_) 2 m__law_choose)) (D__law_turned : Def P w K mg base "_law_turned" 1 ["_law_one", "_law_other", "_law_power"] (spP K (CC at_) 3 m__law_turned)) (D__law_is : Def P w K mg base "_law_is" 1 ["_law_value", "_law_one", "_law_other"] (spP K (CC at_) 3 m__law_is)) (DI_Pair : DefI P w K mg base "Pair" (at_ 0) 4 ["self", "one", "other"] (spI K (CC at_) 0 3 m_Pair_init)) (DT_Pair___mul__ : DefT P w K mg base "__mul__" (at_ 0) 6 ["self", "other"] (spP K (CC at_) 2 m_Pair___mul__)) (DT_Pair___sub__ : DefT P w K mg base "__sub__" (at_ 0) 6 ["self", "other"] (spP K (CC at_) 2 m_Pair___sub__)) (DT_Pair___add__ : DefT P w K mg base "__add__" (at_ 0) 6 ["self", "other"] (spP K (CC at_) 2 m_Pair___add__)) (DT_Pair_flipped : DefT P w K mg base "flipped" (at_ 0) 6 ["self"] (spP K (CC at_) 1 m_Pair_flipped)) (DT_Pair___neg__ : DefT P w K mg base "__neg__" (at_ 0) 6 ["self"] (spP K (CC at_) 1 m_Pair___neg__)) (DT_Pair_times_i : DefT P w K mg base "times_i" (at_ 0) 6 ["self", "power"] (spP K (CC at_) 2 m_Pair_times_i)) (DT_Pair___str__ : DefT P w K mg base "__str__" (at_ 0) 1 ["self"] (spP K (CC at_) 1 m_Pair___str__))  (DTX_Pair_times_i_power : DefTX P w K mg base "times_i" (at_ 0) 6 ["self", "power"] (spP K (CC at_) 2 m_Pair_times_i) ["power"] [0, 1]) (DIN_Pair_init_other_one : DefIN P w K mg base "Pair" (at_ 0) 4 ["self", "one", "other"] (spI K (CC at_) 0 3 m_Pair_init) ["other", "one"] [1, 0])        (sf_Pair : PySem.W.selfFirst K (at_ 0) = true) (EQ : EqT P w K mg base (CC at_) 1 nC eqTab) (EM : EqM K (CC at_) eqTab)  : FnG P w K mg base 7 f fd ["_law_can_here"] (spM K (CC at_) 1 m__law_sums_right) := by
  have nd := sc__law_sums_right.nd
  refine  (fnM F sc__law_sums_right (k := 6) (fun cdv A outer s H E G W hK hC hr hg tk => ?_))
  obtain ⟨K', C', H0, S0, m, M⟩ := G
  dsimp only at hK hC
  subst hK; subst hC
  exact (s_cons (s_asg (e_tup (a_cons (e_callMD D__law_part (hr.mono (by decide)) hg tk a_nil nilA_len) (a_cons (e_callMD D__law_part (hr.mono (by decide)) hg tk a_nil nilA_len) (a_cons (e_callMD D__law_part (hr.mono (by decide)) hg tk a_nil nilA_len) (a_cons (e_callMD D__law_part (hr.mono (by decide)) hg tk a_nil nilA_len) a_nil))))) (g_tup rfl rfl (gs_cons (g_nm (i := 1) nd rfl (by first | exact .inl rfl | exact .inr rfl)) (gs_cons (g_nm (i := 2) nd rfl (by first | exact .inl rfl | exact .inr rfl)) (gs_cons (g_nm (i := 3) nd rfl (by first | exact .inl rfl | exact .inr rfl)) (gs_cons (g_nm (i := 4) nd rfl (by first | exact .inl rfl | exact .inr rfl)) gs_nil))))))
  (s_cons (s_if (t_cmp (op_eqD hr.units) sp_eqD (e_callMD D__law_sip (hr.mono (by decide)) hg tk (a_cons (qe q_int) a_nil) (consA_len nilA_len)) (qe q_int))
  (s_one (s_asg (e_callMD D__law_choose (hr.mono (by decide)) hg tk (a_cons (fe (f_lst (a_cons (e_tup (a_cons (e_fz 1) (a_cons (e_fz 2) a_nil))) (a_cons (e_tup (a_cons (e_fz 1) (a_cons (qe (q_un un_neg sp_neg (b_nm 2))) a_nil))) (a_cons (e_tup (a_cons (e_fz 2) (a_cons (e_fz 1) a_nil))) (a_cons (e_tup (a_cons (qe (q_un un_neg sp_neg (b_nm 1))) (a_cons (e_fz 2) a_nil))) (a_cons (e_tup (a_cons (e_fz 1) (a_cons (e_fz 4) a_nil))) (a_cons (e_tup (a_cons (e_fz 3) (a_cons (e_fz 2) a_nil))) a_nil)))))))) a_nil) (consA_len nilA_len)) (g_tup rfl rfl (gs_cons (g_nm (i := 3) nd rfl (by first | exact .inl rfl | exact .inr rfl)) (gs_cons (g_nm (i := 4) nd rfl (by first | exact .inl rfl | exact .inr rfl)) gs_nil)))))
  s_nil)
  (s_cons (s_asg (e_tup (a_cons (e_make (c := 0) DI_Pair rfl (hr.mono (by decide)) hg tk (a_cons (e_fz 1) (a_cons (e_fz 2) a_nil)) (consA_len (consA_len nilA_len))) (a_cons (e_makeX0 (c := 0) DIN_Pair_init_other_one rfl (hr.mono (by decide)) hg tk (k_cons (e_fz 4) (k_cons (e_fz 3) k_nil)) (consA_len (consA_len nilA_len)) (by decide) rfl) a_nil))) (g_tup rfl rfl (gs_cons (g_nm (i := 5) nd rfl (by first | exact .inl rfl | exact .inr rfl)) (gs_cons (g_nm (i := 6) nd rfl (by first | exact .inl rfl | exact .inr rfl)) gs_nil))))
  (s_cons (s_set (i := 7) nd rfl (by first | exact .inl rfl | exact .inr rfl) (e_callMD D__law_choose (hr.mono (by decide)) hg tk (a_cons (fe (f_lst (a_cons (e_op op_sub sp_sub (e_callMD D__law_sip (hr.mono (by decide)) hg tk (a_cons (qe q_int) a_nil) (consA_len nilA_len)) (qe q_int)) (a_cons (e_op op_plus sp_plus (qe (q_op op_pow sp_pow (qb q_int) (qb q_int))) (e_callMD D__law_sip (hr.mono (by decide)) hg tk (a_cons (qe q_int) a_nil) (consA_len nilA_len))) (a_cons (e_op op_sub sp_sub (qe (q_un un_neg sp_neg (qb (q_op op_pow sp_pow (qb q_int) (qb q_int))))) (e_callMD D__law_sip (hr.mono (by decide)) hg tk (a_cons (qe q_int) a_nil) (consA_len nilA_len))) a_nil))))) a_nil) (consA_len nilA_len)))
  (s_cons (s_seto (i := 8) nd rfl (by first | exact .inl rfl | exact .inr rfl) (f_lst (a_cons (e_tup (a_cons (e_binC (c := 0) rfl DT_Pair___add__ (by decide) sf_Pair (hr.mono (by decide)) hg (e_fz 5) (e_fz 6)) (a_cons (qe (q_op op_plus sp_plus (b_nm 1) (b_nm 3))) (a_cons (qe (q_op op_plus sp_plus (b_nm 2) (b_nm 4))) a_nil)))) (a_cons (e_tup (a_cons (e_binC (c := 0) rfl DT_Pair___sub__ (by decide) sf_Pair (hr.mono (by decide)) hg (e_fz 5) (e_fz 6)) (a_cons (qe (q_op op_sub sp_sub (b_nm 1) (b_nm 3))) (a_cons (qe (q_op op_sub sp_sub (b_nm 2) (b_nm 4))) a_nil)))) (a_cons (e_tup (a_cons (e_binC (c := 0) rfl DT_Pair___mul__ (by decide) sf_Pair (hr.mono (by decide)) hg (e_fz 5) (e_fz 6)) (a_cons (qe (q_op op_sub sp_sub (qb (q_op op_times sp_times (b_nm 1) (b_nm 3))) (qb (q_op op_times sp_times (b_nm 2) (b_nm 4))))) (a_cons (qe (q_op op_plus sp_plus (qb (q_op op_times sp_times (b_nm 1) (b_nm 4))) (qb (q_op op_times sp_times (b_nm 2) (b_nm 3))))) a_nil)))) (a_cons (e_tup (a_cons (e_binC (c := 0) rfl DT_Pair___mul__ (by decide) sf_Pair (hr.mono (by decide)) hg (e_fz 6) (e_fz 5)) (a_cons (qe (q_op op_sub sp_sub (qb (q_op op_times sp_times (b_nm 1) (b_nm 3))) (qb (q_op op_times sp_times (b_nm 2) (b_nm 4))))) (a_cons (qe (q_op op_plus sp_plus (qb (q_op op_times sp_times (b_nm 1) (b_nm 4))) (qb (q_op op_times sp_times (b_nm 2) (b_nm 3))))) a_nil)))) a_nil))))))
  (s_cons (s_seto (i := 8) nd rfl (by first | exact .inl rfl | exact .inr rfl) (f_op op_cat sp_cat (e_fz 8) (fe (f_lst (a_cons (e_tup (a_cons (e_negC (c := 0) rfl DT_Pair___neg__ (hr.mono (by decide)) hg (e_fz 5)) (a_cons (qe (q_un un_neg sp_neg (b_nm 1))) (a_cons (qe (q_un un_neg sp_neg (b_nm 2))) a_nil)))) (a_cons (e_tup (a_cons (e_meth0 (c := 0) DT_Pair_flipped (by show _ ∉ fnTab 0; decide +kernel) (hr.mono (by decide)) hg tk (e_fz 5)) (a_cons (e_fz 1) (a_cons (qe (q_un un_neg sp_neg (b_nm 2))) a_nil)))) (a_cons (e_tup (a_cons (e_meth0 (c := 0) DT_Pair_flipped (by show _ ∉ fnTab 0; decide +kernel) (hr.mono (by decide)) hg tk (e_fz 6)) (a_cons (e_fz 3) (a_cons (qe (q_un un_neg sp_neg (b_nm 4))) a_nil)))) a_nil)))))))
  (s_cons (s_for (passes_of rfl) rfl (i_seq rfl (e_tup (a_cons (e_tup (a_cons (e_meth (c := 0) DT_Pair_times_i (by show _ ∉ fnTab 0; decide +kernel) (hr.mono (by decide)) hg tk (e_fz 5) (a_cons (e_fz 7) a_nil) (consA_len nilA_len)) (a_cons (e_fz 7) a_nil))) (a_cons (e_tup (a_cons (e_methX0 (c := 0) DTX_Pair_times_i_power (by show _ ∉ fnTab 0; decide +kernel) (hr.mono (by decide)) hg tk (e_fz 5) (k_cons (qe (q_op op_plus sp_plus (b_nm 7) (qb q_int))) k_nil) (consA_len nilA_len) (by decide) rfl) (a_cons (qe (q_op op_plus sp_plus (b_nm 7) (qb q_int))) a_nil))) (a_cons (e_tup (a_cons (e_meth (c := 0) DT_Pair_times_i (by show _ ∉ fnTab 0; decide +kernel) (hr.mono (by decide)) hg tk (e_fz 5) (a_cons (qe q_int) a_nil) (consA_len nilA_len)) (a_cons (qe q_int) a_nil))) (a_cons (e_tup (a_cons (e_meth (c := 0) DT_Pair_times_i (by show _ ∉ fnTab 0; decide +kernel) (hr.mono (by decide)) hg tk (e_fz 5) (a_cons (qe (q_un un_neg sp_neg (qb q_int))) a_nil) (consA_len nilA_len)) (a_cons (qe (q_un un_neg sp_neg (qb q_int))) a_nil))) a_nil)))))) (g_tup rfl rfl (gs_cons (g_nm (i := 9) nd rfl (by first | exact .inl rfl | exact .inr rfl)) (gs_cons (g_nm (i := 10) nd rfl (by first | exact .inl rfl | exact .inr rfl)) gs_nil)))
  (s_cons (s_set (i := 11) nd rfl (by first | exact .inl rfl | exact .inr rfl) (e_callD D__law_turned (hr.mono (by decide)) hg tk (a_cons (e_fz 1) (a_cons (e_fz 2) (a_cons (e_fz 10) a_nil))) (consA_len (consA_len (consA_len nilA_len)))))
  (s_one (s_expr (e_app (e_tup (a_cons (e_fz 9) (a_cons (qe (q_ix ix_seq sp_ix (b_nm 11) (qb q_int))) (a_cons (qe (q_ix ix_seq sp_ix (b_nm 11) (qb q_int))) a_nil)))) rfl)))))
  (s_cons (s_if (t_cmp (op_neD hr.units) sp_neD (fe (f_lc (own := [("_law_row", 12)]) rfl nd (i_seq rfl (e_fz 8)) (blkOk_by (own := [("_law_row", 12)]) (by rfl)) (fun s H A cl fp G' hK' hC' => by obtain ⟨K', C', H0', S0', m', M'⟩ := G'; dsimp only at hK' hC'; subst hK'; subst hC'; exact (g_nm (i := 12) nd rfl (by first | exact .inl rfl | exact .inr rfl))) (fun s H A cl fp G' hK' hC' => by obtain ⟨K', C', H0', S0', m', M'⟩ := G'; dsimp only at hK' hC'; subst hK'; subst hC'; exact (c_one (t_not (t_val (e_callD D__law_is (hr.mono (by decide)) hg takes0 (a_cons (qe (q_ix ix_seq sp_ix (b_nm 12) (qb q_int))) (a_cons (qe (q_ix ix_seq sp_ix (b_nm 12) (qb q_int))) (a_cons (qe (q_ix ix_seq sp_ix (b_nm 12) (qb q_int))) a_nil))) (consA_len (consA_len (consA_len nilA_len)))))))) (fun s H A cl fp G' hK' hC' => by obtain ⟨K', C', H0', S0', m', M'⟩ := G'; dsimp only at hK' hC'; subst hK'; subst hC'; exact (e_fz 12)))) (fe (f_lst a_nil)))
  (s_one (s_ret (qe q_bl)))
  s_nil)
  (s_cons (s_if (t_cmp (op_neD hr.units) sp_neD (e_fld cf rfl rfl (e_binC (c := 0) rfl DT_Pair___mul__ (by decide) sf_Pair (hr.mono (by decide)) hg (e_fz 5) (e_fz 6))) (qe (q_op op_times sp_times (qb (q_op op_plus sp_plus (qb (q_op op_times sp_times (b_nm 1) (b_nm 1))) (qb (q_op op_times sp_times (b_nm 2) (b_nm 2))))) (qb (q_op op_plus sp_plus (qb (q_op op_times sp_times (b_nm 3) (b_nm 3))) (qb (q_op op_times sp_times (b_nm 4) (b_nm 4))))))))
  (s_one (s_ret (qe q_bl)))
  s_nil)
  (s_cons (s_seto (i := 9) nd rfl (by first | exact .inl rfl | exact .inr rfl) (f_lst (a_cons (qe (q_cmp (op_eqO EQ (hr.mono (by decide)) hg) sp_eqO (b_nm 5) (b_nm 6))) (a_cons (qe (q_cmp (op_neO EQ (hr.mono (by decide)) hg) sp_neO (b_nm 5) (b_nm 6))) (a_cons (e_cmp (op_eqO EQ (hr.mono (by decide)) hg) sp_eqO (e_fz 5) (e_make (c := 0) DI_Pair rfl (hr.mono (by decide)) hg tk (a_cons (e_fz 1) (a_cons (e_fz 2) a_nil)) (consA_len (consA_len nilA_len)))) (a_cons (e_cmp (op_eqO EQ (hr.mono (by decide)) hg) sp_eqO (e_fz 5) (e_make (c := 0) DI_Pair rfl (hr.mono (by decide)) hg tk (a_cons (e_fz 1) (a_cons (qe (q_op op_plus sp_plus (b_nm 2) (qb q_int))) a_nil)) (consA_len (consA_len nilA_len)))) (a_cons (e_cmp (op_eqO EQ (hr.mono (by decide)) hg) sp_eqO (e_fz 5) (e_make (c := 0) DI_Pair rfl (hr.mono (by decide)) hg tk (a_cons (qe (q_op op_sub sp_sub (b_nm 1) (qb q_int))) (a_cons (e_fz 2) a_nil)) (consA_len (consA_len nilA_len)))) a_nil)))))))
  (s_cons (s_if (t_cmp (op_neD hr.units) sp_neD (qe (q_b1 (cr_repr hg (u65 hr)) sp_repr (b_nm 9) z.b_repr)) (e_b1 (cr_repr hg (u65 hr)) sp_repr (fe (f_lst (a_cons (qe (q_cmp (op_eqD hr.units) sp_eqD (qb (q_pair (b_nm 1) (b_nm 2))) (qb (q_pair (b_nm 3) (b_nm 4))))) (a_cons (qe (q_cmp (op_neD hr.units) sp_neD (qb (q_pair (b_nm 1) (b_nm 2))) (qb (q_pair (b_nm 3) (b_nm 4))))) (a_cons (qe q_bl) (a_cons (qe q_bl) (a_cons (qe q_bl) a_nil))))))) z.b_repr))
  (s_one (s_ret (qe q_bl)))
  s_nil)
  (s_cons (s_if (t_cmp (op_neD hr.units) sp_neD (fe (f_lc (own := [("_law_value", 13)]) rfl nd (i_seq rfl (fe (f_lst (a_cons (e_tup (a_cons (e_fz 1) (a_cons (e_fz 2) a_nil))) (a_cons (fe (f_lst (a_cons (e_fz 1) (a_cons (e_fz 2) a_nil)))) (a_cons (e_fz 1) (a_cons (qe q_non) (a_cons (e_str (c := 0) rfl DT_Pair___str__ (hr.mono (by decide)) hg (e_fz 5) z.b_str) a_nil)))))))) (blkOk_by (own := [("_law_value", 13)]) (by rfl)) (fun s H A cl fp G' hK' hC' => by obtain ⟨K', C', H0', S0', m', M'⟩ := G'; dsimp only at hK' hC'; subst hK'; subst hC'; exact (g_nm (i := 13) nd rfl (by first | exact .inl rfl | exact .inr rfl))) (fun s H A cl fp G' hK' hC' => by obtain ⟨K', C', H0', S0', m', M'⟩ := G'; dsimp only at hK' hC'; subst hK'; subst hC'; exact (c_one (t_cmpR (op_eqM EQ EM (hr.mono (by decide)) hg) sp_eqM (e_fz 5) (e_fz 13)))) (fun s H A cl fp G' hK' hC' => by obtain ⟨K', C', H0', S0', m', M'⟩ := G'; dsimp only at hK' hC'; subst hK'; subst hC'; exact (e_fz 13)))) (fe (f_lst a_nil)))
  (s_one (s_ret (qe q_bl)))
  s_nil)
  (s_one (s_ret (e_and (e_callD D__law_is (hr.mono (by decide)) hg tk (a_cons (e_fz 5) (a_cons (e_fz 1) (a_cons (e_fz 2) a_nil))) (consA_len (consA_len (consA_len nilA_len)))) (e_one (e_callD D__law_is (hr.mono (by decide)) hg tk (a_cons (e_fz 6) (a_cons (e_fz 3) (a_cons (e_fz 4) a_nil))) (consA_len (consA_len (consA_len nilA_len))))))))))))))))))))
theorem ok__law_sums_right {f : Addr} {fd : FuncData} (F : FnT K "_law_sums_right" "_law_sums_right" (top 27) f fd) (gm : mg "_law_sums_right" = some (.ref f)) (z : Bi mg) (kd : Kinds K (CC at_) nC subs) (cf : ClsF K (CC at_) nC) (D__law_part : Def P w K mg base "_law_part" 2 ["_law_can_here"] (spM K (CC at_) 1 m__law_part)) (D__law_sip : Def P w K mg base "_law_sip" 1 ["_law_can_here", "_law_many"] (spM K (CC at_) 2 m__law_sip)) (D__law_choose : Def P w K mg base "_law_choose" 2 ["_law_can_here", "_law_some"] (spM K (CC at_) 2 m__law_choose)) (D__law_turned : Def P w K mg base "_law_turned" 1 ["_law_one", "_law_other", "_law_power"] (spP K (CC at_) 3 m__law_turned)) (D__law_is : Def P w K mg base "_law_is" 1 ["_law_value", "_law_one", "_law_other"] (spP K (CC at_) 3 m__law_is)) (DI_Pair : DefI P w K mg base "Pair" (at_ 0) 4 ["self", "one", "other"] (spI K (CC at_) 0 3 m_Pair_init)) (DT_Pair___mul__ : DefT P w K mg base "__mul__" (at_ 0) 6 ["self", "other"] (spP K (CC at_) 2 m_Pair___mul__)) (DT_Pair___sub__ : DefT P w K mg base "__sub__" (at_ 0) 6 ["self", "other"] (spP K (CC at_) 2 m_Pair___sub__)) (DT_Pair___add__ : DefT P w K mg base "__add__" (at_ 0) 6 ["self", "other"] (spP K (CC at_) 2 m_Pair___add__)) (DT_Pair_flipped : DefT P w K mg base "flipped" (at_ 0) 6 ["self"] (spP K (CC at_) 1 m_Pair_flipped)) (DT_Pair___neg__ : DefT P w K mg base "__neg__" (at_ 0) 6 ["self"] (spP K (CC at_) 1 m_Pair___neg__)) (DT_Pair_times_i : DefT P w K mg base "times_i" (at_ 0) 6 ["self", "power"] (spP K (CC at_) 2 m_Pair_times_i)) (DT_Pair___str__ : DefT P w K mg base "__str__" (at_ 0) 1 ["self"] (spP K (CC at_) 1 m_Pair___str__))  (DTX_Pair_times_i_power : DefTX P w K mg base "times_i" (at_ 0) 6 ["self", "power"] (spP K (CC at_) 2 m_Pair_times_i) ["power"] [0, 1]) (DIN_Pair_init_other_one : DefIN P w K mg base "Pair" (at_ 0) 4 ["self", "one", "other"] (spI K (CC at_) 0 3 m_Pair_init) ["other", "one"] [1, 0])        (sf_Pair : PySem.W.selfFirst K (at_ 0) = true) (EQ : EqT P w K mg base (CC at_) 1 nC eqTab) (EM : EqM K (CC at_) eqTab)  : Def P w K mg base "_law_sums_right" 7 ["_law_can_here"] (spM K (CC at_) 1 m__law_sums_right) := Def.mk' F gm (F.bindsN (fun _ _ _ _ _ _ us hl => match us, hl with | [_], _ => rfl)) (fn__law_sums_right F z kd cf D__law_part D__law_sip D__law_choose D__law_turned D__law_is DI_Pair DT_Pair___mul__ DT_Pair___sub__ DT_Pair___add__ DT_Pair_flipped DT_Pair___neg__ DT_Pair_times_i DT_Pair___str__ DTX_Pair_times_i_power DIN_Pair_init_other_one sf_Pair EQ EM)
theorem sc_items_of : FnScope ["text"] ["text"] (defScope (top 15)) := ⟨rfl, rfl, rfl, by decide +kernel, rfl, by decide +kernel, by decide +kernel⟩
theorem fn_items_of {f : Addr} {fd : FuncData} (F : FnT K "items_of" "items_of" (top 15) f fd) (z : Bi mg) (kd : Kinds K (CC at_) nC subs) (cf : ClsF K (CC at_) nC)            (DE_BadText : DefE P w K mg base "BadText" (at_ 3) 1 ["line", "item"])   : FnG P w K mg base 3 f fd ["text"] (spP K (CC at_) 1 m_items_of) := by
  have nd := sc_items_of.nd
  refine  (fnP F sc_items_of (k := 2) (fun cdv A outer s H E G W hK hC hr hg tk => ?_))
  obtain ⟨K', C', H0, S0, m, M⟩ := G
  dsimp only at hK hC
  subst hK; subst hC
  exact (s_cons (s_if (t_not (t_val (qe (q_isi (T := "str") (T0 := "str") kd (by decide) rfl (b_nm 0) z.b_isinstance z.b_str (by decide +kernel)))))
  (s_one (s_raise (c := 3) (ns := ["line", "item"]) DE_BadText rfl rfl (by decide) (by decide) rfl (hr.mono (by decide)) hg tk (a_cons (qe q_int) (a_cons (qe q_int) a_nil))))
  s_nil)
  (s_one (s_ret (fe (f_split (e_fz 0) (qe q_str))))))
theorem ok_items_of {f : Addr} {fd : FuncData} (F : FnT K "items_of" "items_of" (top 15) f fd) (gm : mg "items_of" = some (.ref f)) (z : Bi mg) (kd : Kinds K (CC at_) nC subs) (cf : ClsF K (CC at_) nC)            (DE_BadText : DefE P w K mg base "BadText" (at_ 3) 1 ["line", "item"])   : Def P w K mg base "items_of" 3 ["text"] (spP K (CC at_) 1 m_items_of) := Def.mk' F gm (F.bindsN (fun _ _ _ _ _ _ us hl => match us, hl with | [_], _ => rfl)) (fn_items_of F z kd cf DE_BadText)
theorem sc_need_many : FnScope ["items", "many"] ["items", "many"] (defScope (top 16)) := ⟨rfl, rfl, rfl, by decide +kernel, rfl, by decide +kernel, by decide +kernel⟩
theorem fn_need_many {f : Addr} {fd : FuncData} (F : FnT K "need_many" "need_many" (top 16) f fd) (z : Bi mg) (kd : Kinds K (CC at_) nC subs) (cf : ClsF K (CC at_) nC)            (DE_BadText : DefE P w K mg base "BadText" (at_ 3) 1 ["line", "item"])   : FnG P w K mg base 3 f fd ["items", "many"] (spP K (CC at_) 2 m_need_many) := by
  have nd := sc_need_many.nd
  refine  (fnP F sc_need_many (k := 2) (fun cdv A outer s H E G W hK hC hr hg tk => ?_))
  obtain ⟨K', C', H0, S0, m, M⟩ := G
  dsimp only at hK hC
  subst hK; subst hC
  exact (s_one (s_if (t_cmpQ op_lt sp_lt (qb (q_b1 (call_len_seq.or call_len_str) (sp_len.or sp_lenS) (b_nm 0) z.b_len)) (b_nm 1))
  (s_one (s_raise (c := 3) (ns := ["line", "item"]) DE_BadText rfl rfl (by decide) (by decide) rfl (hr.mono (by decide)) hg tk (a_cons (qe q_int) (a_cons (qe (q_b1 (call_len_seq.or call_len_str) (sp_len.or sp_lenS) (b_nm 0) z.b_len)) a_nil))))
  s_nil))
theorem ok_need_many {f : Addr} {fd : FuncData} (F : FnT K "need_many" "need_many" (top 16) f fd) (gm : mg "need_many" = some (.ref f)) (z : Bi mg) (kd : Kinds K (CC at_) nC subs) (cf : ClsF K (CC at_) nC)            (DE_BadText : DefE P w K mg base "BadText" (at_ 3) 1 ["line", "item"])   : Def P w K mg base "need_many" 3 ["items", "many"] (spP K (CC at_) 2 m_need_many) := Def.mk' F gm (F.bindsN (fun _ _ _ _ _ _ us hl => match us, hl with | [_, _], _ => rfl)) (fn_need_many F z kd cf DE_BadText)
theorem sc_is_number : FnScope ["item", "digits", "digit"] ["item"] (defScope (top 13)) := ⟨rfl, rfl, rfl, by decide +kernel, rfl, by decide +kernel, by decide +kernel⟩
theorem fn_is_number {f : Addr} {fd : FuncData} (F : FnT K "is_number" "is_number" (top 13) f fd) (z : Bi mg) (kd : Kinds K (CC at_) nC subs) (cf : ClsF K (CC at_) nC)              {t_MOST_DIGITS : Tok} (c_MOST_DIGITS : mg "MOST_DIGITS" = some (.int 60 t_MOST_DIGITS)) {t_DIGITS : Tok} (c_DIGITS : mg "DIGITS" = some (.str "0123456789" t_DIGITS)) : FnG P w K mg base 1 f fd ["item"] (spP K (CC at_) 1 m_is_number) := by
  have nd := sc_is_number.nd
  refine  (fnP F sc_is_number (k := 0) (fun cdv A outer s H E G W hK hC hr hg tk => ?_))
  obtain ⟨K', C', H0, S0, m, M⟩ := G
  dsimp only at hK hC
  subst hK; subst hC
  exact (s_cons (s_set (i := 1) nd rfl (by first | exact .inl rfl | exact .inr rfl) (e_if (t_val (qe (q_starts (b_nm 0) (qb q_str)))) (e_slS (e_fz 0) (o_some (qe q_int)) o_none) (e_fz 0)))
  (s_cons (s_if (t_not (t_chain op_le sp_le op_le sp_le (qb q_int) (qb (q_b1 (call_len_seq.or call_len_str) (sp_len.or sp_lenS) (b_nm 1) z.b_len)) (qb (q_glob (v := .int 60) c_MOST_DIGITS ⟨_, rfl⟩ rfl))))
  (s_one (s_ret (qe q_bl)))
  s_nil)
  (s_cons (s_if (t_not (t_val (e_b1 (cr_all rfl) sp_all (fe (f_lc (own := [("digit", 2)]) rfl nd (i_str (e_fz 1)) (blkOk_by (own := [("digit", 2)]) (by rfl)) (fun s H A cl fp G' hK' hC' => by obtain ⟨K', C', H0', S0', m', M'⟩ := G'; dsimp only at hK' hC'; subst hK'; subst hC'; exact (g_nm (i := 2) nd rfl (by first | exact .inl rfl | exact .inr rfl))) (fun s H A cl fp G' hK' hC' => by obtain ⟨K', C', H0', S0', m', M'⟩ := G'; dsimp only at hK' hC'; subst hK'; subst hC'; exact c_nil) (fun s H A cl fp G' hK' hC' => by obtain ⟨K', C', H0', S0', m', M'⟩ := G'; dsimp only at hK' hC'; subst hK'; subst hC'; exact (qe (q_cmp op_in_sign sp_inSign (b_nm 2) (qb (q_glob (v := .str "0123456789") c_DIGITS ⟨_, rfl⟩ rfl))))))) z.b_all)))
  (s_one (s_ret (qe q_bl)))
  s_nil)
  (s_one (s_ret (e_or (qe (q_cmp (op_eqD hr.units) sp_eqD (b_nm 0) (qb q_str))) (e_one (e_not (qe (q_starts (b_nm 1) (qb q_str)))))))))))
theorem ok_is_number {f : Addr} {fd : FuncData} (F : FnT K "is_number" "is_number" (top 13) f fd) (gm : mg "is_number" = some (.ref f)) (z : Bi mg) (kd : Kinds K (CC at_) nC subs) (cf : ClsF K (CC at_) nC)              {t_MOST_DIGITS : Tok} (c_MOST_DIGITS : mg "MOST_DIGITS" = some (.int 60 t_MOST_DIGITS)) {t_DIGITS : Tok} (c_DIGITS : mg "DIGITS" = some (.str "0123456789" t_DIGITS)) : Def P w K mg base "is_number" 1 ["item"] (spP K (CC at_) 1 m_is_number) := Def.mk' F gm (F.bindsN (fun _ _ _ _ _ _ us hl => match us, hl with | [_], _ => rfl)) (fn_is_number F z kd cf c_MOST_DIGITS c_DIGITS)
theorem sc_is_within : FnScope ["value", "least", "most"] ["value", "least", "most"] (defScope (top 8)) := ⟨rfl, rfl, rfl, by decide +kernel, rfl, by decide +kernel, by decide +kernel⟩
theorem fn_is_within {f : Addr} {fd : FuncData} (F : FnT K "is_within" "is_within" (top 8) f fd) (z : Bi mg) (kd : Kinds K (CC at_) nC subs) (cf : ClsF K (CC at_) nC) (D_is_integer : Def P w K mg base "is_integer" 1 ["value"] (spP K (CC at_) 1 m_is_integer))              : FnG P w K mg base 2 f fd ["value", "least", "most"] (spP K (CC at_) 3 m_is_within) := by
  have nd := sc_is_within.nd
  refine  (fnP F sc_is_within (k := 1) (fun cdv A outer s H E G W hK hC hr hg tk => ?_))
  obtain ⟨K', C', H0, S0, m, M⟩ := G
  dsimp only at hK hC
  subst hK; subst hC
  exact (s_cons (s_if (t_not (t_val (e_callD D_is_integer (hr.mono (by decide)) hg tk (a_cons (e_fz 0) a_nil) (consA_len nilA_len))))
  (s_one (s_ret (qe q_bl)))
  s_nil)
  (s_one (s_ret (e_and (e_or (qe (q_cmp op_isA sp_isA (b_nm 1) (qb q_non))) (e_one (qe (q_cmp op_le sp_le (b_nm 1) (b_nm 0))))) (e_one (e_or (qe (q_cmp op_isA sp_isA (b_nm 2) (qb q_non))) (e_one (qe (q_cmp op_le sp_le (b_nm 0) (b_nm 2))))))))))
theorem ok_is_within {f : Addr} {fd : FuncData} (F : FnT K "is_within" "is_within" (top 8) f fd) (gm : mg "is_within" = some (.ref f)) (z : Bi mg) (kd : Kinds K (CC at_) nC subs) (cf : ClsF K (CC at_) nC) (D_is_integer : Def P w K mg base "is_integer" 1 ["value"] (spP K (CC at_) 1 m_is_integer))              : Def P w K mg base "is_within" 2 ["value", "least", "most"] (spP K (CC at_) 3 m_is_within) := Def.mk' F gm (F.bindsN (fun _ _ _ _ _ _ us hl => match us, hl with | [_, _, _], _ => rfl)) (fn_is_within F z kd cf D_is_integer)
theorem sc_is_number_from : FnScope ["item", "least"] ["item", "least"] (defScope (top 14)) := ⟨rfl, rfl, rfl, by decide +kernel, rfl, by decide +kernel, by decide +kernel⟩
theorem fn_is_number_from {f : Addr} {fd : FuncData} (F : FnT K "is_number_from" "is_number_from" (top 14) f fd) (z : Bi mg) (kd : Kinds K (CC at_) nC subs) (cf : ClsF K (CC at_) nC) (D_is_within : Def P w K mg base "is_within" 2 ["value", "least", "most"] (spP K (CC at_) 3 m_is_within)) (D_is_number : Def P w K mg base "is_number" 1 ["item"] (spP K (CC at_) 1 m_is_number))              : FnG P w K mg base 3 f fd ["item", "least"] (spP K (CC at_) 2 m_is_number_from) := by
  have nd := sc_is_number_from.nd
  refine  (fnP F sc_is_number_from (k := 2) (fun cdv A outer s H E G W hK hC hr hg tk => ?_))
  obtain ⟨K', C', H0, S0, m, M⟩ := G
  dsimp only at hK hC
  subst hK; subst hC
  exact (s_one (s_ret (e_and (e_callD D_is_number (hr.mono (by decide)) hg tk (a_cons (e_fz 0) a_nil) (consA_len nilA_len)) (e_one (e_callD D_is_within (hr.mono (by decide)) hg tk (a_cons (qe (q_t1 call_int_str sp_intS (b_nm 0) z.b_int)) (a_cons (e_fz 1) (a_cons (qe q_non) a_nil))) (consA_len (consA_len (consA_len nilA_len))))))))
theorem ok_is_number_from {f : Addr} {fd : FuncData} (F : FnT K "is_number_from" "is_number_from" (top 14) f fd) (gm : mg "is_number_from" = some (.ref f)) (z : Bi mg) (kd : Kinds K (CC at_) nC subs) (cf : ClsF K (CC at_) nC) (D_is_within : Def P w K mg base "is_within" 2 ["value", "least", "most"] (spP K (CC at_) 3 m_is_within)) (D_is_number : Def P w K mg base "is_number" 1 ["item"] (spP K (CC at_) 1 m_is_number))              : Def P w K mg base "is_number_from" 3 ["item", "least"] (spP K (CC at_) 2 m_is_number_from) := Def.mk' F gm (F.bindsN (fun _ _ _ _ _ _ us hl => match us, hl with | [_, _], _ => rfl)) (fn_is_number_from F z kd cf D_is_within D_is_number)
theorem sc_read_numbers : FnScope ["text", "leasts", "items", "index", "item"] ["text", "leasts"] (defScope (top 17)) := ⟨rfl, rfl, rfl, by decide +kernel, rfl, by decide +kernel, by decide +kernel⟩
theorem fn_read_numbers {f : Addr} {fd : FuncData} (F : FnT K "read_numbers" "read_numbers" (top 17) f fd) (z : Bi mg) (kd : Kinds K (CC at_) nC subs) (cf : ClsF K (CC at_) nC) (D_items_of : Def P w K mg base "items_of" 3 ["text"] (spP K (CC at_) 1 m_items_of)) (D_is_number_from : Def P w K mg base "is_number_from" 3 ["item", "least"] (spP K (CC at_) 2 m_is_number_from)) (D_need_many : Def P w K mg base "need_many" 3 ["items", "many"] (spP K (CC at_) 2 m_need_many))           (DE_BadText : DefE P w K mg base "BadText" (at_ 3) 1 ["line", "item"])   : FnG P w K mg base 4 f fd ["text", "leasts"] (spP K (CC at_) 2 m_read_numbers) := by
  have nd := sc_read_numbers.nd
  refine  (fnP F sc_read_numbers (k := 3) (fun cdv A outer s H E G W hK hC hr hg tk => ?_))
  obtain ⟨K', C', H0, S0, m, M⟩ := G
  dsimp only at hK hC
  subst hK; subst hC
  exact (s_cons (s_set (i := 2) nd rfl (by first | exact .inl rfl | exact .inr rfl) (e_callD D_items_of (hr.mono (by decide)) hg tk (a_cons (e_fz 0) a_nil) (consA_len nilA_len)))
  (s_cons (s_for (passes_of rfl) rfl (i_enum rfl (a_cons (e_fz 2) a_nil) z.b_enumerate) (g_tup rfl rfl (gs_cons (g_nm (i := 3) nd rfl (by first | exact .inl rfl | exact .inr rfl)) (gs_cons (g_nm (i := 4) nd rfl (by first | exact .inl rfl | exact .inr rfl)) gs_nil)))
  (s_one (s_if (PW.pt (w_or (t_cmpQ (op_eqD hr.units) sp_eqD (b_nm 3) (qb (q_b1 (call_len_seq.or call_len_str) (sp_len.or sp_lenS) (b_nm 1) z.b_len))) (w_or1 (t_not (t_val (e_callD D_is_number_from (hr.mono (by decide)) hg tk (a_cons (e_fz 4) (a_cons (qe (q_ix ix_seq sp_ix (b_nm 1) (b_nm 3))) a_nil)) (consA_len (consA_len nilA_len))))))))
  (s_one (s_raise (c := 3) (ns := ["line", "item"]) DE_BadText rfl rfl (by decide) (by decide) rfl (hr.mono (by decide)) hg tk (a_cons (qe q_int) (a_cons (e_fz 3) a_nil))))
  s_nil)))
  (s_cons (s_expr (e_callD D_need_many (hr.mono (by decide)) hg tk (a_cons (e_fz 2) (a_cons (qe (q_b1 (call_len_seq.or call_len_str) (sp_len.or sp_lenS) (b_nm 1) z.b_len)) a_nil)) (consA_len (consA_len nilA_len))))
  (s_one (s_ret (fe (f_lc (own := [("item", 4)]) rfl nd (i_seq rfl (e_fz 2)) (blkOk_by (own := [("item", 4)]) (by rfl)) (fun s H A cl fp G' hK' hC' => by obtain ⟨K', C', H0', S0', m', M'⟩ := G'; dsimp only at hK' hC'; subst hK'; subst hC'; exact (g_nm (i := 4) nd rfl (by first | exact .inl rfl | exact .inr rfl))) (fun s H A cl fp G' hK' hC' => by obtain ⟨K', C', H0', S0', m', M'⟩ := G'; dsimp only at hK' hC'; subst hK'; subst hC'; exact c_nil) (fun s H A cl fp G' hK' hC' => by obtain ⟨K', C', H0', S0', m', M'⟩ := G'; dsimp only at hK' hC'; subst hK'; subst hC'; exact (qe (q_t1 call_int_str sp_intS (b_nm 4) z.b_int))))))))))
theorem ok_read_numbers {f : Addr} {fd : FuncData} (F : FnT K "read_numbers" "read_numbers" (top 17) f fd) (gm : mg "read_numbers" = some (.ref f)) (z : Bi mg) (kd : Kinds K (CC at_) nC subs) (cf : ClsF K (CC at_) nC) (D_items_of : Def P w K mg base "items_of" 3 ["text"] (spP K (CC at_) 1 m_items_of)) (D_is_number_from : Def P w K mg base "is_number_from" 3 ["item", "least"] (spP K (CC at_) 2 m_is_number_from)) (D_need_many : Def P w K mg base "need_many" 3 ["items", "many"] (spP K (CC at_) 2 m_need_many))           (DE_BadText : DefE P w K mg base "BadText" (at_ 3) 1 ["line", "item"])   : Def P w K mg base "read_numbers" 4 ["text", "leasts"] (spP K (CC at_) 2 m_read_numbers) := Def.mk' F gm (F.bindsN (fun _ _ _ _ _ _ us hl => match us, hl with | [_, _], _ => rfl)) (fn_read_numbers F z kd cf D_items_of D_is_number_from D_need_many DE_BadText)
theorem sc_Pair_read : FnScope ["text", "one", "other"] ["text"] (defScope (inner (top 19) 3)) := ⟨rfl, rfl, rfl, by decide +kernel, rfl, by decide +kernel, by decide +kernel⟩
theorem fn_Pair_read {f : Addr} {fd : FuncData} (F : FnT K "read" "Pair.read" (inner (top 19) 3) f fd) (z : Bi mg) (kd : Kinds K (CC at_) nC subs) (cf : ClsF K (CC at_) nC) (D_read_numbers : Def P w K mg base "read_numbers" 4 ["text", "leasts"] (spP K (CC at_) 2 m_read_numbers)) (DI_Pair : DefI P w K mg base "Pair" (at_ 0) 4 ["self", "one", "other"] (spI K (CC at_) 0 3 m_Pair_init))             : FnG P w K mg base 6 f fd ["text"] (spP K (CC at_) 1 m_Pair_read) := by
  have nd := sc_Pair_read.nd
  refine  (fnP F sc_Pair_read (k := 5) (fun cdv A outer s H E G W hK hC hr hg tk => ?_))
  obtain ⟨K', C', H0, S0, m, M⟩ := G
  dsimp only at hK hC
  subst hK; subst hC
  exact (s_cons (s_asg (e_callD D_read_numbers (hr.mono (by decide)) hg tk (a_cons (e_fz 0) (a_cons (e_tup (a_cons (qe q_non) (a_cons (qe q_non) a_nil))) a_nil)) (consA_len (consA_len nilA_len))) (g_tup rfl rfl (gs_cons (g_nm (i := 1) nd rfl (by first | exact .inl rfl | exact .inr rfl)) (gs_cons (g_nm (i := 2) nd rfl (by first | exact .inl rfl | exact .inr rfl)) gs_nil))))
  (s_one (s_ret (e_make (c := 0) DI_Pair rfl (hr.mono (by decide)) hg tk (a_cons (e_fz 1) (a_cons (e_fz 2) a_nil)) (consA_len (consA_len nilA_len))))))
theorem ok_Pair_read {f : Addr} {fd : FuncData} (F : FnT K "read" "Pair.read" (inner (top 19) 3) f fd) (gm : mg "Pair" = some (.ref (at_ 0))) {pS : Addr} (sm : SMet K (at_ 0) (.type "type") "read" pS f) (z : Bi mg) (kd : Kinds K (CC at_) nC subs) (cf : ClsF K (CC at_) nC) (D_read_numbers : Def P w K mg base "read_numbers" 4 ["text", "leasts"] (spP K (CC at_) 2 m_read_numbers)) (DI_Pair : DefI P w K mg base "Pair" (at_ 0) 4 ["self", "one", "other"] (spI K (CC at_) 0 3 m_Pair_init))             : DefS P w K mg base "Pair" "read" (at_ 0) 6 ["text"] (spP K (CC at_) 1 m_Pair_read) := ⟨_, _, _, _, gm, sm, F.bindsN (fun _ _ _ _ _ _ us hl => match us, hl with | [_], _ => rfl), fn_Pair_read F z kd cf D_read_numbers DI_Pair⟩
theorem okx_Pair_read_text {f : Addr} {fd : FuncData} (F : FnT K "read" "Pair.read" (inner (top 19) 3) f fd) (gm : mg "Pair" = some (.ref (at_ 0))) {pS : Addr} (sm : SMet K (at_ 0) (.type "type") "read" pS f) (z : Bi mg) (kd : Kinds K (CC at_) nC subs) (cf : ClsF K (CC at_) nC) (D_read_numbers : Def P w K mg base "read_numbers" 4 ["text", "leasts"] (spP K (CC at_) 2 m_read_numbers)) (DI_Pair : DefI P w K mg base "Pair" (at_ 0) 4 ["self", "one", "other"] (spI K (CC at_) 0 3 m_Pair_init))             : DefSX P w K mg base "Pair" "read" (at_ 0) 6 ["text"] (spP K (CC at_) 1 m_Pair_read) ["text"] [0] := ⟨_, _, _, _, gm, sm, kxN F (fun _ _ _ _ _ _ us ws h1 h2 => by obtain rfl := ex0 h1; obtain ⟨b0, rfl⟩ := ex1 h2; rfl), fn_Pair_read F z kd cf D_read_numbers DI_Pair⟩
theorem sc__law_texts_right : FnScope ["_law_can_here", "_law_a", "_law_b", "_law_items", "_law_text", "_law_odd", "_law_at", "_law_none", "_law_rows", "_law_bent", "_law_item"] ["_law_can_here"] (defScope (top 29)) := ⟨rfl, rfl, rfl, by decide +kernel, rfl, by decide +kernel, by decide +kernel⟩
theorem fn__law_texts_right {f : Addr} {fd : FuncData} (F : FnT K "_law_texts_right" "_law_texts_right" (top 29) f fd) (z : Bi mg) (kd : Kinds K (CC at_) nC subs) (cf : ClsF K (CC at_) nC)  {Pt0 Pt1 : Addr} (D__law_part : Def P w K mg base "_law_part" 2 ["_law_can_here"] (spM K (CC at_) 1 m__law_part)) (D__law_sip : Def P w K mg base "_law_sip" 1 ["_law_can_here", "_law_many"] (spM K (CC at_) 2 m__law_sip)) (D__law_choose : Def P w K mg base "_law_choose" 2 ["_law_can_here", "_law_some"] (spM K (CC at_) 2 m__law_choose)) (D__law_is : Def P w K mg base "_law_is" 1 ["_law_value", "_law_one", "_law_other"] (spP K (CC at_) 3 m__law_is)) (DI_Pair : DefI P w K mg base "Pair" (at_ 0) 4 ["self", "one", "other"] (spI K (CC at_) 0 3 m_Pair_init)) (DT_Pair___str__ : DefT P w K mg base "__str__" (at_ 0) 1 ["self"] (spP K (CC at_) 1 m_Pair___str__))    (DS_Pair_read : DefS P w K mg base "Pair" "read" (at_ 0) 6 ["text"] (spP K (CC at_) 1 m_Pair_read)) (DSX_Pair_read_text : DefSX P w K mg base "Pair" "read" (at_ 0) 6 ["text"] (spP K (CC at_) 1 m_Pair_read) ["text"] [0])  (mc_BadText : mg "BadText" = some (.ref (at_ 3))) (mc_BadNumber : mg "BadNumber" = some (.ref (at_ 2))) (mc_BendError : mg "BendError" = some (.ref (at_ 1)))    (kx : KindsE K (CC at_) nC nX subs) {gh : Addr} {fdh : FuncData} (g_law_heard : mg "_law_heard" = some (.ref gh)) (F_law_heard : FnT K "_law_heard" "_law_heard" (top 28) gh fdh) (b_law_heard : L2.Binds K fdh ["_law_ask"] []) {cL : Addr} (hcode : fd.code = .ref cL) (TB : TabB base mg cL Pt1) (ndT : [Pt0, Pt1].Nodup)  : FnG P w K mg base 9 f fd ["_law_can_here"] (spTM K (CC at_) [(Pt0, ((envOfC "_law_refused_right" (defScope (top 30)) 0 0 .none).qual ++ "<lambda>")), (Pt1, ((envOfC "_law_texts_right" (defScope (top 29)) 0 0 .none).qual ++ "<lambda>"))] 1 m__law_texts_right) := by
  have nd := sc__law_texts_right.nd
  refine  (fnTMc F sc__law_texts_right hcode (k := 8) (fun A outer s H E G W hK hC tg hr hg tk => ?_))
  obtain ⟨K', C', H0, S0, m, M⟩ := G
  dsimp only at hK hC
  subst hK; subst hC
  exact (s_cons (s_par (i := 1) (j := 2) rfl nd rfl rfl (by decide) rfl rfl (a_cons (e_callMD D__law_part (hr.mono (by decide)) hg tk a_nil nilA_len) (a_cons (e_callMD D__law_part (hr.mono (by decide)) hg tk a_nil nilA_len) a_nil)))
  (s_cons (s_if (t_cmp (op_eqD hr.units) sp_eqD (e_callMD D__law_sip (hr.mono (by decide)) hg tk (a_cons (qe q_int) a_nil) (consA_len nilA_len)) (qe q_int))
  (s_one (s_asg (e_callMD D__law_choose (hr.mono (by decide)) hg tk (a_cons (fe (f_lst (a_cons (e_tup (a_cons (qe (q_op op_sub sp_sub (qb (q_op op_pow sp_pow (qb q_int) (qb q_int))) (qb q_int))) (a_cons (e_fz 2) a_nil))) (a_cons (e_tup (a_cons (e_fz 1) (a_cons (qe (q_op op_sub sp_sub (qb q_int) (qb (q_op op_pow sp_pow (qb q_int) (qb q_int))))) a_nil))) (a_cons (e_tup (a_cons (qe (q_un un_neg sp_neg (qb (q_op op_pow sp_pow (qb q_int) (qb q_int))))) (a_cons (qe (q_op op_pow sp_pow (qb q_int) (qb q_int))) a_nil))) a_nil))))) a_nil) (consA_len nilA_len)) (g_tup rfl rfl (gs_cons (g_nm (i := 1) nd rfl (by first | exact .inl rfl | exact .inr rfl)) (gs_cons (g_nm (i := 2) nd rfl (by first | exact .inl rfl | exact .inr rfl)) gs_nil)))))
  s_nil)
  (s_cons (s_seto (i := 3) nd rfl (by first | exact .inl rfl | exact .inr rfl) (f_lst (a_cons (qe (q_t1 call_str_int sp_str (b_nm 1) z.b_str)) (a_cons (qe (q_t1 call_str_int sp_str (b_nm 2) z.b_str)) a_nil))))
  (s_cons (s_set (i := 4) nd rfl (by first | exact .inl rfl | exact .inr rfl) (e_join rfl (qe q_str) (e_fz 3)))
  (s_cons (s_if (PW.pt (w_or (t_cmp (op_neD hr.units) sp_neD (e_str (c := 0) rfl DT_Pair___str__ (hr.mono (by decide)) hg (e_make (c := 0) DI_Pair rfl (hr.mono (by decide)) hg tk (a_cons (e_fz 1) (a_cons (e_fz 2) a_nil)) (consA_len (consA_len nilA_len))) z.b_str) (e_fz 4)) (w_or (t_not (t_val (e_callD D__law_is (hr.mono (by decide)) hg tk (a_cons (e_smeth DS_Pair_read (hr.mono (by decide)) hg tk (a_cons (e_fz 4) a_nil) (consA_len nilA_len)) (a_cons (e_fz 1) (a_cons (e_fz 2) a_nil))) (consA_len (consA_len (consA_len nilA_len)))))) (w_or1 (t_not (t_val (e_callD D__law_is (hr.mono (by decide)) hg tk (a_cons (e_smethX0 DSX_Pair_read_text (hr.mono (by decide)) hg tk (k_cons (e_fz 4) k_nil) (consA_len nilA_len) (by decide) rfl) (a_cons (e_fz 1) (a_cons (e_fz 2) a_nil))) (consA_len (consA_len (consA_len nilA_len))))))))))
  (s_one (s_ret (qe q_bl)))
  s_nil)
  (s_cons (s_set (i := 5) nd rfl (by first | exact .inl rfl | exact .inr rfl) (e_callMD D__law_choose (hr.mono (by decide)) hg tk (a_cons (fe (f_lst (a_cons (qe q_str) (a_cons (qe q_str) (a_cons (qe q_str) (a_cons (qe q_str) (a_cons (qe q_str) (a_cons (qe q_str) (a_cons (qe q_str) (a_cons (qe (q_op op_mulS sp_mulS (qb q_str) (qb q_int))) (a_cons (qe q_str) (a_cons (qe q_str) (a_cons (qe (q_op op_plus sp_plus (qb q_str) (qb (q_op op_mulS sp_mulS (qb q_str) (qb q_int))))) (a_cons (qe q_str) (a_cons (qe q_str) a_nil))))))))))))))) a_nil) (consA_len nilA_len)))
  (s_cons (s_asg (e_tup (a_cons (e_callMD D__law_sip (hr.mono (by decide)) hg tk (a_cons (qe q_int) a_nil) (consA_len nilA_len)) (a_cons (e_callMD D__law_choose (hr.mono (by decide)) hg tk (a_cons (fe (f_lst (a_cons (qe q_non) (a_cons (qe q_int) (a_cons (e_fz 3) (a_cons (qe q_bl) (a_cons (e_tup a_nil) (a_cons (qe q_dct0) a_nil)))))))) a_nil) (consA_len nilA_len)) a_nil))) (g_tup rfl rfl (gs_cons (g_nm (i := 6) nd rfl (by first | exact .inl rfl | exact .inr rfl)) (gs_cons (g_nm (i := 7) nd rfl (by first | exact .inl rfl | exact .inr rfl)) gs_nil))))
  (s_cons (s_seto (i := 8) nd rfl (by first | exact .inl rfl | exact .inr rfl) (f_lst (a_cons (e_tup (a_cons (fe (f_op op_cat sp_cat (fe (f_op op_cat sp_cat (fe (f_sl rfl (e_fz 3) o_none (o_some (e_fz 6)))) (fe (f_lst (a_cons (e_fz 5) a_nil))))) (fe (f_sl rfl (e_fz 3) (o_some (qe (q_op op_plus sp_plus (b_nm 6) (qb q_int)))) o_none)))) (a_cons (e_fz 6) a_nil))) (a_cons (e_tup (a_cons (fe (f_sl rfl (e_fz 3) o_none (o_some (qe q_int)))) (a_cons (qe q_int) a_nil))) (a_cons (e_tup (a_cons (fe (f_op op_cat sp_cat (e_fz 3) (fe (f_lst (a_cons (e_fz 5) a_nil))))) (a_cons (qe q_int) a_nil))) (a_cons (e_tup (a_cons (fe (f_op op_cat sp_cat (e_fz 3) (fe (f_lst (a_cons (qe q_str) a_nil))))) (a_cons (qe q_int) a_nil))) (a_cons (e_tup (a_cons (fe (f_lst a_nil)) (a_cons (qe q_int) a_nil))) (a_cons (e_tup (a_cons (fe (f_lst (a_cons (e_fz 5) (a_cons (e_fz 5) a_nil)))) (a_cons (qe q_int) a_nil))) a_nil))))))))
  (s_cons (s_for (passes_of rfl) rfl (i_seq rfl (e_fz 8)) (g_tup rfl rfl (gs_cons (g_nm (i := 9) nd rfl (by first | exact .inl rfl | exact .inr rfl)) (gs_cons (g_nm (i := 10) nd rfl (by first | exact .inl rfl | exact .inr rfl)) gs_nil)))
  (s_one (s_if (t_cmp (op_neD hr.units) sp_neD (e_heard (k := 6) tg rfl g_law_heard F_law_heard b_law_heard sc__law_heard rfl (by first | exact Or.inl rfl | exact Or.inr (Or.inl rfl) | exact Or.inr (Or.inr rfl)) (fun cd => gv__law_heard (hr.mono (by decide)) hg z kd kx mc_BadText mc_BadNumber mc_BendError) TB rfl (memT 1 rfl) (oneT 1 ndT rfl) (hr.mono (by decide)) hg (lamS_by (by rfl)) rfl (fun _ _ _ _ _ => rfl) (fun A outer s H E f1 c2 hr hg => (e_smeth DS_Pair_read (hr.mono (by decide)) hg (takes_of rfl rfl rfl rfl) (a_cons (e_join rfl (qe q_str) (e_fz 9)) a_nil) (consA_len nilA_len)))) (e_tup (a_cons (qe q_str) (a_cons (qe q_int) (a_cons (e_fz 10) a_nil)))))
  (s_one (s_ret (qe q_bl)))
  s_nil)))
  (s_one (s_ret (e_cmp (op_eqD hr.units) sp_eqD (e_heard (k := 6) tg rfl g_law_heard F_law_heard b_law_heard sc__law_heard rfl (by first | exact Or.inl rfl | exact Or.inr (Or.inl rfl) | exact Or.inr (Or.inr rfl)) (fun cd => gv__law_heard (hr.mono (by decide)) hg z kd kx mc_BadText mc_BadNumber mc_BendError) TB rfl (memT 1 rfl) (oneT 1 ndT rfl) (hr.mono (by decide)) hg (lamS_by (by rfl)) rfl (fun _ _ _ _ _ => rfl) (fun A outer s H E f1 c2 hr hg => (e_smeth DS_Pair_read (hr.mono (by decide)) hg (takes_of rfl rfl rfl rfl) (a_cons (e_fz 7) a_nil) (consA_len nilA_len)))) (e_tup (a_cons (qe q_str) (a_cons (qe q_int) (a_cons (qe q_int) a_nil))))))))))))))))
theorem ok__law_texts_right {f : Addr} {fd : FuncData} (F : FnT K "_law_texts_right" "_law_texts_right" (top 29) f fd) (gm : mg "_law_texts_right" = some (.ref f)) (z : Bi mg) (kd : Kinds K (CC at_) nC subs) (cf : ClsF K (CC at_) nC)  {Pt0 Pt1 : Addr} (D__law_part : Def P w K mg base "_law_part" 2 ["_law_can_here"] (spM K (CC at_) 1 m__law_part)) (D__law_sip : Def P w K mg base "_law_sip" 1 ["_law_can_here", "_law_many"] (spM K (CC at_) 2 m__law_sip)) (D__law_choose : Def P w K mg base "_law_choose" 2 ["_law_can_here", "_law_some"] (spM K (CC at_) 2 m__law_choose)) (D__law_is : Def P w K mg base "_law_is" 1 ["_law_value", "_law_one", "_law_other"] (spP K (CC at_) 3 m__law_is)) (DI_Pair : DefI P w K mg base "Pair" (at_ 0) 4 ["self", "one", "other"] (spI K (CC at_) 0 3 m_Pair_init)) (DT_Pair___str__ : DefT P w K mg base "__str__" (at_ 0) 1 ["self"] (spP K (CC at_) 1 m_Pair___str__))    (DS_Pair_read : DefS P w K mg base "Pair" "read" (at_ 0) 6 ["text"] (spP K (CC at_) 1 m_Pair_read)) (DSX_Pair_read_text : DefSX P w K mg base "Pair" "read" (at_ 0) 6 ["text"] (spP K (CC at_) 1 m_Pair_read) ["text"] [0])  (mc_BadText : mg "BadText" = some (.ref (at_ 3))) (mc_BadNumber : mg "BadNumber" = some (.ref (at_ 2))) (mc_BendError : mg "BendError" = some (.ref (at_ 1)))    (kx : KindsE K (CC at_) nC nX subs) {gh : Addr} {fdh : FuncData} (g_law_heard : mg "_law_heard" = some (.ref gh)) (F_law_heard : FnT K "_law_heard" "_law_heard" (top 28) gh fdh) (b_law_heard : L2.Binds K fdh ["_law_ask"] []) {cL : Addr} (hcode : fd.code = .ref cL) (TB : TabB base mg cL Pt1) (ndT : [Pt0, Pt1].Nodup)  : Def P w K mg base "_law_texts_right" 9 ["_law_can_here"] (spTM K (CC at_) [(Pt0, ((envOfC "_law_refused_right" (defScope (top 30)) 0 0 .none).qual ++ "<lambda>")), (Pt1, ((envOfC "_law_texts_right" (defScope (top 29)) 0 0 .none).qual ++ "<lambda>"))] 1 m__law_texts_right) := Def.mk' F gm (F.bindsN (fun _ _ _ _ _ _ us hl => match us, hl with | [_], _ => rfl)) (fn__law_texts_right F z kd cf D__law_part D__law_sip D__law_choose D__law_is DI_Pair DT_Pair___str__ DS_Pair_read DSX_Pair_read_text mc_BadText mc_BadNumber mc_BendError kx g_law_heard F_law_heard b_law_heard hcode TB ndT)
theorem sc_law : FnScope ["_law_script", "_law_can_here", "_law_turn"] ["_law_script"] (defScope (top 31)) := ⟨rfl, rfl, rfl, by decide +kernel, rfl, by decide +kernel, by decide +kernel⟩
theorem fn_law {f : Addr} {fd : FuncData} (F : FnT K "law" "law" (top 31) f fd) (z : Bi mg) (kd : Kinds K (CC at_) nC subs) (cf : ClsF K (CC at_) nC)  {Pt0 Pt1 : Addr} (D__law_can : Def P w K mg base "_law_can" 1 ["_law_script"] (spL K (CC at_) 1 m__law_can)) (D__law_texts_right : Def P w K mg base "_law_texts_right" 9 ["_law_can_here"] (spTM K (CC at_) [(Pt0, ((envOfC "_law_refused_right" (defScope (top 30)) 0 0 .none).qual ++ "<lambda>")), (Pt1, ((envOfC "_law_texts_right" (defScope (top 29)) 0 0 .none).qual ++ "<lambda>"))] 1 m__law_texts_right)) (D__law_sums_right : Def P w K mg base "_law_sums_right" 7 ["_law_can_here"] (spM K (CC at_) 1 m__law_sums_right)) (D__law_refused_right : Def P w K mg base "_law_refused_right" 9 ["_law_can_here"] (spTM K (CC at_) [(Pt0, ((envOfC "_law_refused_right" (defScope (top 30)) 0 0 .none).qual ++ "<lambda>")), (Pt1, ((envOfC "_law_texts_right" (defScope (top 29)) 0 0 .none).qual ++ "<lambda>"))] 1 m__law_refused_right))              : FnG P w K mg base 10 f fd ["_law_script"] (spT K (CC at_) [(Pt0, ((envOfC "_law_refused_right" (defScope (top 30)) 0 0 .none).qual ++ "<lambda>")), (Pt1, ((envOfC "_law_texts_right" (defScope (top 29)) 0 0 .none).qual ++ "<lambda>"))] 1 m_law) := by
  have nd := sc_law.nd
  refine  (fnT F sc_law (k := 9) (fun cdv A outer s H E G W hK hC tg hr hg tk => ?_))
  obtain ⟨K', C', H0, S0, m, M⟩ := G
  dsimp only at hK hC
  subst hK; subst hC
  exact (s_cons (s_seto (i := 1) nd rfl (by first | exact .inl rfl | exact .inr rfl) (e_callL D__law_can (hr.mono (by decide)) hg tk (a_cons (e_fz 0) a_nil) (consA_len nilA_len)))
  (s_cons (s_for (passes_of rfl) rfl (i_rng1 (a_cons (qe q_int) a_nil) z.b_range) (g_nm (i := 2) nd rfl (by first | exact .inl rfl | exact .inr rfl))
  (s_one (s_if (PW.pt (w_or (t_not (t_val (e_callMD D__law_sums_right (hr.mono (by decide)) hg tk a_nil nilA_len))) (w_or1 (t_not (t_val (e_callTM tg D__law_texts_right (hr.mono (by decide)) hg tk a_nil nilA_len))))))
  (s_one (s_ret (qe q_bl)))
  s_nil)))
  (s_one (s_ret (e_callTM tg D__law_refused_right (hr.mono (by decide)) hg tk a_nil nilA_len)))))
theorem ok_law {f : Addr} {fd : FuncData} (F : FnT K "law" "law" (top 31) f fd) (gm : mg "law" = some (.ref f)) (z : Bi mg) (kd : Kinds K (CC at_) nC subs) (cf : ClsF K (CC at_) nC)  {Pt0 Pt1 : Addr} (D__law_can : Def P w K mg base "_law_can" 1 ["_law_script"] (spL K (CC at_) 1 m__law_can)) (D__law_texts_right : Def P w K mg base "_law_texts_right" 9 ["_law_can_here"] (spTM K (CC at_) [(Pt0, ((envOfC "_law_refused_right" (defScope (top 30)) 0 0 .none).qual ++ "<lambda>")), (Pt1, ((envOfC "_law_texts_right" (defScope (top 29)) 0 0 .none).qual ++ "<lambda>"))] 1 m__law_texts_right)) (D__law_sums_right : Def P w K mg base "_law_sums_right" 7 ["_law_can_here"] (spM K (CC at_) 1 m__law_sums_right)) (D__law_refused_right : Def P w K mg base "_law_refused_right" 9 ["_law_can_here"] (spTM K (CC at_) [(Pt0, ((envOfC "_law_refused_right" (defScope (top 30)) 0 0 .none).qual ++ "<lambda>")), (Pt1, ((envOfC "_law_texts_right" (defScope (top 29)) 0 0 .none).qual ++ "<lambda>"))] 1 m__law_refused_right))              : Def P w K mg base "law" 10 ["_law_script"] (spT K (CC at_) [(Pt0, ((envOfC "_law_refused_right" (defScope (top 30)) 0 0 .none).qual ++ "<lambda>")), (Pt1, ((envOfC "_law_texts_right" (defScope (top 29)) 0 0 .none).qual ++ "<lambda>"))] 1 m_law) := Def.mk' F gm (F.bindsN (fun _ _ _ _ _ _ us hl => match us, hl with | [_], _ => rfl)) (fn_law F z kd cf D__law_can D__law_texts_right D__law_sums_right D__law_refused_right)
end
end PL
namespace PL
open PySem L2
section
variable {ρ : Ev} {f g : Ev → Fl} {k l : Ev → Rs D} {c c' : Ev → Rs Bool} {ks : Ev → Rs (List D)} {o1 : D → Option D} {o2 : D → D → Option D} {u v : Ev → Option D} {i j n : Nat} {d : D}
@[simp] theorem sq_ap : sq f g ρ = (f ρ).seq g := rfl
@[simp] theorem seq_nx : (Fl.nx ρ).seq g = g ρ := rfl
@[simp] theorem seq_rt : (Fl.rt d ρ).seq g = .rt d ρ := rfl
@[simp] theorem seq_stuck : (Fl.stuck).seq g = .stuck := rfl
@[simp] theorem seq_ite {p : Prop} [Decidable p] {a b : Fl} : (if p then a else b).seq g = if p then a.seq g else b.seq g := by split <;> rfl
@[simp] theorem retF_ap : retF k ρ = (k ρ).fl .rt := rfl
@[simp] theorem dropF_ap : dropF k ρ = (k ρ).fl fun _ => .nx := rfl
@[simp] theorem ifF_ap : ifF c f g ρ = (c ρ).fl fun b ρ1 => if b then f ρ1 else g ρ1 := rfl
@[simp] theorem setF_ap : setF i k ρ = (k ρ).fl fun d ρ1 => put i (.val d) ρ1 := rfl
@[simp] theorem setoF_ap : setoF i ks ρ = (ks ρ).fl fun ds ρ1 => put i (.own ds) ρ1 := rfl
@[simp] theorem fl_ok {α : Type} {a : α} {h : α → Ev → Fl} : (Rs.ok a ρ).fl h = h a ρ := of_eq_true (eq_self _)
@[simp] theorem fl_stuck {α : Type} {h : α → Ev → Fl} : (Rs.stuck : Rs α).fl h = .stuck := rfl
@[simp] theorem fl_ite {α : Type} {p : Prop} [Decidable p] {a b : Rs α} {h : α → Ev → Fl} : (if p then a else b).fl h = if p then a.fl h else b.fl h := by split <;> rfl
@[simp] theorem bind_ite {α β : Type} {p : Prop} [Decidable p] {a b : Rs α} {h : α → Ev → Rs β} : (if p then a else b).bind h = if p then a.bind h else b.bind h := by split <;> rfl
@[simp] theorem up_ap : up u ρ = Rs.opt (u ρ) ρ := rfl
@[simp] theorem q1_ap : q1 o1 u ρ = (u ρ).bind o1 := rfl
@[simp] theorem q2_ap : q2 o2 u v ρ = (u ρ).bind fun a => (v ρ).bind fun b => o2 a b := rfl
@[simp] theorem e1_ap : e1 o1 k ρ = (k ρ).bind fun a ρ1 => Rs.opt (o1 a) ρ1 := rfl
@[simp] theorem e2_ap : e2 o2 k l ρ = (k ρ).bind fun a ρ1 => (l ρ1).bind fun b ρ2 => Rs.opt (o2 a b) ρ2 := rfl
@[simp] theorem ct_ap : ct d ρ = some d := rfl
@[simp] theorem nm_ap : nm i ρ = match ρ[i]? with | some (.val d) => some d | _ => none := rfl
@[simp] theorem bn_ap : bn i ρ = match ρ[i]? with | some (.val d) => some d | some (.own xs) => some (.lst xs) | _ => none := rfl
@[simp] theorem fz_ap : fz i ρ = match ρ[i]? with | some (.val d) => .ok d ρ | some (.own xs) => if i = 0 then .stuck else .ok (.lst xs) (ρ.set i (.val (.lst xs))) | _ => .stuck := rfl
@[simp] theorem asB_ap : asB k ρ = (k ρ).bind fun d ρ1 => match d with | .bl b => .ok b ρ1 | _ => .stuck := rfl
@[simp] theorem notT_ap : notT c ρ = (c ρ).bind fun b ρ1 => .ok (!b) ρ1 := rfl
@[simp] theorem orT_ap : orT c c' ρ = (c ρ).bind fun b ρ1 => if b then .ok true ρ1 else c' ρ1 := rfl
@[simp] theorem andT_ap : andT c c' ρ = (c ρ).bind fun b ρ1 => if b then c' ρ1 else .ok false ρ1 := rfl
@[simp] theorem andE_ap : andE c k ρ = (c ρ).bind fun b ρ1 => if b then k ρ1 else .ok (.bl false) ρ1 := rfl
@[simp] theorem orE_ap : orE' c k ρ = (c ρ).bind fun b ρ1 => if b then .ok (.bl true) ρ1 else k ρ1 := rfl
@[simp] theorem notE_ap : notE c ρ = (c ρ).bind fun b ρ1 => .ok (.bl (!b)) ρ1 := rfl
@[simp] theorem ifE_ap : ifE c k l ρ = (c ρ).bind fun b ρ1 => if b then k ρ1 else l ρ1 := rfl
@[simp] theorem nilA_ap : nilA ρ = .ok [] ρ := rfl
@[simp] theorem consA_ap : consA k ks ρ = (k ρ).bind fun d ρ1 => (ks ρ1).bind fun ds ρ2 => .ok (d :: ds) ρ2 := rfl
@[simp] theorem lenOk_ap : lenOk ks ρ = (ks ρ).bind fun ds ρ1 => if ds.length ≤ sizeLine then .ok ds ρ1 else .stuck := of_eq_true (eq_self _)
@[simp] theorem tupE_ap : tupE ks ρ = (ks ρ).bind fun ds ρ1 => if ds.length ≤ sizeLine then .ok (.tup ds) ρ1 else .stuck := of_eq_true (eq_self _)
@[simp] theorem asL_ap : asL ks ρ = (ks ρ).bind fun ds ρ1 => .ok (.lst ds) ρ1 := rfl
@[simp] theorem seqE_ap : seqE k ρ = (k ρ).bind fun d ρ1 => Rs.opt (seqOf d) ρ1 := rfl
@[simp] theorem f1_ap {o : D → Option (List D)} : f1 o k ρ = (k ρ).bind fun d ρ1 => Rs.opt (o d) ρ1 := rfl
@[simp] theorem yesT_ap : yesT ρ = .ok true ρ := rfl
def frR (r : Fr) (ρ : Ev) : Rs D := match r with | .ok d => .ok d ρ | .exc c fs => .exc c fs ρ | .stuck => .stuck
@[simp] theorem frR_ok : frR (.ok d) ρ = .ok d ρ := of_eq_true (eq_self _)
@[simp] theorem frR_exc {c : Nat} {fs : List D} : frR (.exc c fs) ρ = .exc c fs ρ := rfl
@[simp] theorem frR_ite {p : Prop} [Decidable p] {a b : Fr} : frR (if p then a else b) ρ = if p then frR a ρ else frR b ρ := by split <;> rfl
def mkR (c : Nat) (ns : List Str) (fn : List D → FrI) (ds : List D) (ρ : Ev) : Rs D := match fn ds with | .ok fs => if fs.map (·.1) = ns then .ok (.ins c (fs.map (·.2))) ρ else .stuck | .exc c fs => .exc c fs ρ | .stuck => .stuck
def mtR (c : Nat) (fn : List D → Fr) (ks : Ev → Rs (List D)) (d : D) (ρ : Ev) : Rs D := match d with
  | .ins c' fs => if c' = c then (ks ρ).bind fun ds ρ2 => (match fn (.ins c fs :: ds) with | .ok d => .ok d ρ2 | .exc c fs => .exc c fs ρ2 | .stuck => .stuck) else .stuck
  | _ => .stuck
def mt0R (c : Nat) (fn : List D → Fr) (d : D) (ρ : Ev) : Rs D := match d with
  | .ins c' fs => if c' = c then (match fn [.ins c fs] with | .ok d => .ok d ρ | .exc c fs => .exc c fs ρ | .stuck => .stuck) else .stuck
  | _ => .stuck
@[simp] theorem callE_ap {fn : List D → Fr} : callE fn ks ρ = (ks ρ).bind fun ds ρ1 => frR (fn ds) ρ1 := rfl
@[simp] theorem makeE_ap {c : Nat} {ns : List Str} {fn : List D → FrI} : makeE c ns fn ks ρ = (ks ρ).bind fun ds ρ1 => mkR c ns fn ds ρ1 := rfl
@[simp] theorem methE_ap {c : Nat} {fn : List D → Fr} : methE c fn k ks ρ = (k ρ).bind fun d ρ1 => mtR c fn ks d ρ1 := rfl
@[simp] theorem meth0E_ap {c : Nat} {fn : List D → Fr} : meth0E c fn k ρ = (k ρ).bind fun d ρ1 => mt0R c fn d ρ1 := rfl
theorem mtR_ins {c : Nat} {fn : List D → Fr} {fs : List D} : mtR c fn ks (.ins c fs) ρ = (ks ρ).bind fun ds ρ2 => frR (fn (.ins c fs :: ds)) ρ2 := by
  show (if c = c then _ else _) = _
  rw [if_pos rfl]; rfl
theorem mt0R_ins {c : Nat} {fn : List D → Fr} {fs : List D} : mt0R c fn (.ins c fs) ρ = frR (fn [.ins c fs]) ρ := by
  show (if c = c then _ else _) = _
  rw [if_pos rfl]; rfl
@[simp] theorem heardE_ap {h : Option (Nat × List D) → Option D} : heardE h k ρ = match k ρ with | .ok _ ρ1 => Rs.opt (h none) ρ1 | .exc c fs ρ1 => Rs.opt (h (some (c, fs))) ρ1 | .stuck => .stuck := rfl
def rngR1 (ds : List D) (ρ : Ev) : Rs (List D) := match ds with
  | [.int j] => if -(2 ^ 62) ≤ j ∧ j < 2 ^ 62 then .ok (rangeL 0 j.toNat) ρ else .stuck
  | _ => .stuck
def rngR2 (ds : List D) (ρ : Ev) : Rs (List D) := match ds with
  | [.int i, .int j] => if -(2 ^ 62) ≤ i ∧ i < 2 ^ 62 ∧ -(2 ^ 62) ≤ j ∧ j < 2 ^ 62 then .ok (rangeL i (j - i).toNat) ρ else .stuck
  | _ => .stuck
@[simp] theorem rng1_ap : rng1 ks ρ = (ks ρ).bind rngR1 := of_eq_true (eq_self _)
@[simp] theorem rng2_ap : rng2 ks ρ = (ks ρ).bind rngR2 := of_eq_true (eq_self _)
@[simp] theorem rngR1_i {j : Int} : rngR1 [.int j] ρ = if -(2 ^ 62) ≤ j ∧ j < 2 ^ 62 then .ok (rangeL 0 j.toNat) ρ else .stuck := of_eq_true (eq_self _)
@[simp] theorem rngR2_i {i j : Int} : rngR2 [.int i, .int j] ρ = if -(2 ^ 62) ≤ i ∧ i < 2 ^ 62 ∧ -(2 ^ 62) ≤ j ∧ j < 2 ^ 62 then .ok (rangeL i (j - i).toNat) ρ else .stuck := of_eq_true (eq_self _)
theorem rngR1_n {n : Nat} (h : n < 1000000) : rngR1 [.int n] ρ = .ok (rangeL 0 n) ρ := by
  have h2 : -2 ^ 62 ≤ (n : Int) ∧ (n : Int) < 2 ^ 62 := by omega
  unfold rngR1
  dsimp only
  rw [if_pos h2, Int.toNat_natCast]
@[simp] theorem range4 : rangeL 0 4 = [.int 0, .int 1, .int 2, .int 3] := rfl
@[simp] theorem asgF_ap {tg : D → Ev → Option Ev} : asgF tg k ρ = (k ρ).fl fun d ρ1 => match tg d ρ1 with | some ρ2 => .nx ρ2 | none => .stuck := rfl
@[simp] theorem parF_ap : parF i j ks ρ = (ks ρ).fl fun ds ρ1 => match ds with | [a, b] => (put i (.val a) ρ1).seq (put j (.val b)) | _ => .stuck := rfl
@[simp] theorem par3F_ap : par3F i j n ks ρ = (ks ρ).fl fun ds ρ1 => match ds with | [a, b, c] => (put i (.val a) ρ1).seq fun ρ2 => (put j (.val b) ρ2).seq (put n (.val c)) | _ => .stuck := rfl
@[simp] theorem forF_ap {tg : D → Ev → Option Ev} : forF tg ks f ρ = (ks ρ).fl fun ds ρ1 => forL tg f ds ρ1 := rfl
@[simp] theorem setiF_ap : setiF i u k ρ = (k ρ).fl fun d ρ1 => match ρ1[i]?, u ρ1 with
  | some (.own xs), some (.int j) => (match ixN xs.length j with | some n => .nx (ρ1.set i (.own (xs.set n d))) | none => .stuck)
  | _, _ => .stuck := rfl
@[simp] theorem compF_ap {vs : List Nat} {tg : D → Ev → Option Ev} : compF vs tg ks c k ρ = (ks ρ).bind fun ds ρ1 => match compL vs tg c k ds (wipeE ρ1 vs) with
  | .ok ys ρ2 => if ys.length ≤ sizeLine then .ok ys ρ2 else .stuck
  | _ => .stuck := of_eq_true (eq_self _)
@[simp] theorem appE_ap : appE i k ρ = match ρ[i]? with
  | some (.own _) => (k ρ).bind fun d ρ1 => (match ρ1[i]? with
    | some (.own xs) => if xs.length < sizeLine then .ok .non (ρ1.set i (.own (xs ++ [d]))) else .stuck
    | _ => .stuck)
  | _ => .stuck := of_eq_true (eq_self _)
@[simp] theorem popE_ap : popE i k ρ = match ρ[i]? with
  | some (.own _) => (k ρ).bind fun d ρ1 => (match d with
    | .int j => (match ρ1[i]? with
      | some (.own xs) => if 0 ≤ j ∧ j < 2 ^ 63 then (match xs[j.toNat]? with
        | some y => .ok y (ρ1.set i (.own (xs.eraseIdx j.toNat)))
        | none => .stuck) else .stuck
      | _ => .stuck)
    | _ => .stuck)
  | _ => .stuck := of_eq_true (eq_self _)
@[simp] theorem callM_ap {fn : List D → List D → FrM} : callM i fn ks ρ = match ρ[i]? with
  | some (.own _) => (ks ρ).bind fun ds ρ1 => (match ρ1[i]? with
    | some (.own xs) => (match fn xs ds with
      | .ok d xs' => .ok d (ρ1.set i (.own xs'))
      | .exc c fs xs' => .exc c fs (ρ1.set i (.own xs'))
      | .stuck => .stuck)
    | _ => .stuck)
  | _ => .stuck := rfl
@[simp] theorem put0 {s : Sl} {ρ : List Sl} {sl : Sl} (h : s.mine = false) : put 0 sl (s :: ρ) = .nx (sl :: ρ) := by
  unfold put own0
  simp [h]
@[simp] theorem putS {s : Sl} {ρ : List Sl} {sl : Sl} (h : i < ρ.length) : put (i + 1) sl (s :: ρ) = .nx (s :: ρ.set i sl) := by
  unfold put
  simp [h]
@[simp] theorem mine_val : (Sl.val d).mine = false := rfl
@[simp] theorem mine_no : (Sl.no).mine = false := rfl
@[simp] theorem tnm0 {s : Sl} {ρ : List Sl} (h : s.mine = false) : tnm 0 d (s :: ρ) = some (.val d :: ρ) := by
  unfold tnm own0
  simp [h]
@[simp] theorem tnmS {s : Sl} {ρ : List Sl} (h : i < ρ.length) : tnm (i + 1) d (s :: ρ) = some (s :: ρ.set i (.val d)) := by
  unfold tnm
  simp [h]
@[simp] theorem put0v {ρ : List Sl} {sl : Sl} : put 0 sl (Sl.val d :: ρ) = .nx (sl :: ρ) := put0 rfl
@[simp] theorem put0n {ρ : List Sl} {sl : Sl} : put 0 sl (Sl.no :: ρ) = .nx (sl :: ρ) := put0 rfl
@[simp] theorem tnm0v {ρ : List Sl} {e : D} : tnm 0 d (Sl.val e :: ρ) = some (.val d :: ρ) := tnm0 rfl
@[simp] theorem tnm0n {ρ : List Sl} : tnm 0 d (Sl.no :: ρ) = some (.val d :: ρ) := tnm0 rfl
@[simp] theorem tnil_ap : tnil [] ρ = some ρ := rfl
@[simp] theorem tcons_ap {t : D → Ev → Option Ev} {u : List D → Ev → Option Ev} {r : List D} : tcons t u (d :: r) ρ = (t d ρ).bind fun ρ1 => u r ρ1 := rfl
@[simp] theorem ttup_ap {u : List D → Ev → Option Ev} {r : List D} : ttup n u (.tup r) ρ = if r.length = n then u r ρ else none := rfl
@[simp] theorem ttup_apL {u : List D → Ev → Option Ev} {r : List D} : ttup n u (.lst r) ρ = if r.length = n then u r ρ else none := rfl
@[simp] theorem runF_ap {ds : List D} : runF n f ds = match f (env0 n ds) with | .nx _ => .ok .non | .rt d _ => .ok d | .exc c fs _ => .exc c fs | _ => .stuck := rfl
@[simp] theorem forL_nil {tg : D → Ev → Option Ev} : forL tg f [] ρ = .nx ρ := rfl
theorem forL_cons {tg : D → Ev → Option Ev} {ds : List D} : forL tg f (d :: ds) ρ = match tg d ρ with | some ρ1 => loopK (f ρ1) (forL tg f ds) | none => .stuck := rfl
@[simp] theorem loopK_nx : loopK (.nx ρ) f = f ρ := rfl
@[simp] theorem loopK_rt : loopK (.rt d ρ) f = .rt d ρ := rfl
@[simp] theorem wipe_nil : wipeE ρ [] = ρ := rfl
@[simp] theorem wipe_cons {v : Nat} {vs : List Nat} : wipeE ρ (v :: vs) = (wipeE ρ vs).set v .no := rfl
@[simp] theorem opt_some {α : Type} {a : α} : Rs.opt (some a) ρ = .ok a ρ := of_eq_true (eq_self _)
@[simp] theorem compL_nil {vs : List Nat} {tg : D → Ev → Option Ev} : compL vs tg c k [] ρ = .ok [] ρ := rfl
theorem compL_cons {vs : List Nat} {tg : D → Ev → Option Ev} {ds : List D} : compL vs tg c k (d :: ds) ρ = match tg d ρ with
    | none => .stuck
    | some ρ1 => (match c ρ1 with
      | .ok true ρ2 => (match k ρ2 with
        | .ok y ρ3 => (match compL vs tg c k ds (wipeE ρ3 vs) with
          | .ok ys ρ4 => .ok (y :: ys) ρ4
          | _ => .stuck)
        | _ => .stuck)
      | .ok false ρ2 => compL vs tg c k ds (wipeE ρ2 vs)
      | _ => .stuck) := rfl
end
/-- a comprehension whose step leaves the other slots as they are -/
theorem compL_map {vs : List Nat} {tg : D → Ev → Option Ev} {c : Ev → Rs Bool} {e : Ev → Rs D} {ρ : Ev} (p : D → Bool) (h : D → D) : ∀ (ds : List D),
    (∀ d ∈ ds, ∃ ρ1, tg d ρ = some ρ1 ∧ (∃ ρ2, c ρ1 = .ok (p d) ρ2 ∧ wipeE ρ2 vs = ρ ∧ (p d = true → ∃ ρ3, e ρ2 = .ok (h d) ρ3 ∧ wipeE ρ3 vs = ρ))) →
    compL vs tg c e ds ρ = .ok ((ds.filter p).map h) ρ
  | [], _ => rfl
  | d :: ds, H => by
    obtain ⟨ρ1, h1, ρ2, h2, h3, h4⟩ := H d List.mem_cons_self
    rw [compL_cons, h1]
    dsimp only
    rw [h2]
    have ih := compL_map p h ds fun d hd => H d (List.mem_cons_of_mem _ hd)
    cases hp : p d with
    | true =>
      dsimp only
      obtain ⟨ρ3, h5, h6⟩ := h4 hp
      rw [h5]
      dsimp only
      rw [h6, ih]
      simp [List.filter_cons, hp]
    | false =>
      dsimp only
      rw [h3, ih]
      simp [List.filter_cons, hp]
theorem compL_all {vs : List Nat} {tg : D → Ev → Option Ev} {c : Ev → Rs Bool} {e : Ev → Rs D} {ρ : Ev} (h : D → D) (ds : List D)
    (H : ∀ d ∈ ds, ∃ ρ1, tg d ρ = some ρ1 ∧ (∃ ρ2, c ρ1 = .ok true ρ2 ∧ ∃ ρ3, e ρ2 = .ok (h d) ρ3 ∧ wipeE ρ3 vs = ρ)) (hw : ∀ d ∈ ds, ∀ ρ1, tg d ρ = some ρ1 → ∀ ρ2, c ρ1 = .ok true ρ2 → wipeE ρ2 vs = ρ := by
      intro d hd ρ1 h1 ρ2 h2; simp at h1; subst h1; cases h2; simp) :
    compL vs tg c e ds ρ = .ok (ds.map h) ρ := by
  have q := compL_map (vs := vs) (tg := tg) (c := c) (e := e) (ρ := ρ) (fun _ => true) h ds fun d hd => by
    obtain ⟨ρ1, h1, ρ2, h2, ρ3, h3, h4⟩ := H d hd
    exact ⟨ρ1, h1, ρ2, h2, hw d hd ρ1 h1 ρ2 h2, fun _ => ⟨ρ3, h3, h4⟩⟩
  rw [q, List.filter_eq_self.mpr (fun _ _ => rfl)]
/-- a loop over range(n), its state an assertion -/
theorem forL_rangeFrom {tg : D → Ev → Option Ev} {f : Ev → Fl} {lo : Int} (Inv : Nat → Ev → Prop) {n : Nat} (step : ∀ k ρ, k < n → Inv k ρ → ∃ ρ1, tg (.int (lo + (k : Nat))) ρ = some ρ1 ∧ ∃ ρ2, f ρ1 = .nx ρ2 ∧ Inv (k + 1) ρ2) :
    ∀ (m k : Nat) (ρ : Ev), k + m = n → Inv k ρ → ∃ ρ', forL tg f ((List.range' k m).map fun i => D.int (lo + (i : Nat))) ρ = .nx ρ' ∧ Inv n ρ'
  | 0, k, ρ, hk, h => ⟨ρ, rfl, by rw [← hk]; exact h⟩
  | m + 1, k, ρ, hk, h => by
    obtain ⟨ρ1, e1, ρ2, e2, h2⟩ := step k ρ (by omega) h
    obtain ⟨ρ', e3, h3⟩ := forL_rangeFrom Inv step m (k + 1) ρ2 (by omega) h2
    refine ⟨ρ', ?_, h3⟩
    rw [List.range'_succ, List.map_cons, forL_cons, e1]
    dsimp only
    rw [e2, loopK_nx, e3]
theorem forL_range {tg : D → Ev → Option Ev} {f : Ev → Fl} {lo : Int} (Inv : Nat → Ev → Prop) {n : Nat} {ρ : Ev} (h0 : Inv 0 ρ) (step : ∀ k ρ, k < n → Inv k ρ → ∃ ρ1, tg (.int (lo + (k : Nat))) ρ = some ρ1 ∧ ∃ ρ2, f ρ1 = .nx ρ2 ∧ Inv (k + 1) ρ2) :
    ∃ ρ', forL tg f (rangeL lo n) ρ = .nx ρ' ∧ Inv n ρ' := by
  have := forL_rangeFrom Inv step n 0 ρ (by omega) h0
  unfold rangeL
  rw [List.range_eq_range']
  exact this
/-- a loop over a list, its state an assertion of what is left -/
theorem forL_list {tg : D → Ev → Option Ev} {f : Ev → Fl} (Inv : List D → Ev → Prop) (step : ∀ d ds ρ, Inv (d :: ds) ρ → ∃ ρ1, tg d ρ = some ρ1 ∧ ∃ ρ2, f ρ1 = .nx ρ2 ∧ Inv ds ρ2) :
    ∀ (ds : List D) (ρ : Ev), Inv ds ρ → ∃ ρ', forL tg f ds ρ = .nx ρ' ∧ Inv [] ρ'
  | [], ρ, h => ⟨ρ, rfl, h⟩
  | d :: ds, ρ, h => by
    obtain ⟨ρ1, e1, ρ2, e2, h2⟩ := step d ds ρ h
    obtain ⟨ρ', e3, h3⟩ := forL_list Inv step ds ρ2 h2
    refine ⟨ρ', ?_, h3⟩
    rw [forL_cons, e1]
    dsimp only
    rw [e2, loopK_nx, e3]
/-- a while, its state an assertion with a measure -/
theorem whF_inv {c : Ev → Rs Bool} {f : Ev → Fl} (Inv : Nat → Ev → Prop) (P : Ev → Prop) (step : ∀ n ρ, Inv n ρ → (∃ ρ1, c ρ = .ok false ρ1 ∧ P ρ1) ∨ ∃ ρ1, c ρ = .ok true ρ1 ∧ ∃ ρ2, f ρ1 = .nx ρ2 ∧ ∃ m, m < n ∧ Inv m ρ2) :
    ∀ (n : Nat) (ρ : Ev), Inv n ρ → ∃ ρ', whF c f ρ = .nx ρ' ∧ P ρ' := by
  intro n
  induction n using Nat.strongRecOn with
  | ind n ih =>
    intro ρ h
    rcases step n ρ h with ⟨ρ1, e, p⟩ | ⟨ρ1, e, ρ2, e2, m, hm, h2⟩
    · exact ⟨ρ1, whF_end e, p⟩
    · obtain ⟨ρ', e3, p⟩ := ih m hm ρ2 h2
      exact ⟨ρ', by rw [whF_step e e2]; exact e3, p⟩
section
variable {i j : Int}
@[simp] theorem oPlus_ii : oPlus (.int i) (.int j) = some (.int (i + j)) := rfl
@[simp] theorem oSub_ii : oSub (.int i) (.int j) = some (.int (i - j)) := rfl
@[simp] theorem oNeg_i : oNeg (.int i) = some (.int (-i)) := rfl
@[simp] theorem oLt_ii : oLt (.int i) (.int j) = some (.bl (decide (i < j))) := rfl
@[simp] theorem oLe_ii : oLe (.int i) (.int j) = some (.bl (decide (i ≤ j))) := rfl
@[simp] theorem oGt_ii : oGt (.int i) (.int j) = some (.bl (decide (j < i))) := rfl
@[simp] theorem oGe_ii : oGe (.int i) (.int j) = some (.bl (decide (j ≤ i))) := rfl
@[simp] theorem oAbs_i : oAbs (.int i) = some (.int (if i < 0 then -i else i)) := rfl
@[simp] theorem oInt_i : oInt (.int i) = some (.int i) := rfl
@[simp] theorem oInt_b {b : Bool} : oInt (.bl b) = some (.int (if b then 1 else 0)) := rfl
@[simp] theorem oGcd_ii : oGcd (.int i) (.int j) = some (.int ((Nat.gcd i.natAbs j.natAbs : Nat) : Int)) := rfl
/-- a number that is not too great -/
def Sm (i : Int) : Prop := i.natAbs.log2 < 400000
theorem oTimes_ii (h : i.natAbs < 2 ^ 64 ∨ j.natAbs < 2 ^ 64 ∨ i.natAbs.log2 + j.natAbs.log2 < 1000000) : oTimes (.int i) (.int j) = some (.int (i * j)) := by
  have : (decide (i.natAbs < 2 ^ 64) || (decide (j.natAbs < 2 ^ 64) || decide (i.natAbs.log2 + j.natAbs.log2 < 1000000))) = true := by
    simp only [Bool.or_eq_true, decide_eq_true_eq]; exact h
  unfold oTimes orE oMul oI
  dsimp only
  rw [if_pos this]
theorem oTimes_sm (hi : Sm i) (hj : Sm j) : oTimes (.int i) (.int j) = some (.int (i * j)) := oTimes_ii (.inr (.inr (by unfold Sm at hi hj; omega)))
theorem oTimes_l (h : i.natAbs < 2 ^ 64) : oTimes (.int i) (.int j) = some (.int (i * j)) := oTimes_ii (.inl h)
theorem oTimes_r (h : j.natAbs < 2 ^ 64) : oTimes (.int i) (.int j) = some (.int (i * j)) := oTimes_ii (.inr (.inl h))
@[simp] theorem oTimes_2 : oTimes (.int 2) (.int j) = some (.int (2 * j)) := oTimes_l (by decide)
@[simp] theorem oTimes_3 : oTimes (.int 3) (.int j) = some (.int (3 * j)) := oTimes_l (by decide)
theorem oDiv_nz (h : j ≠ 0) (h2 : j.natAbs.log2 < 9000) : oDiv (.int i) (.int j) = some (.int (Int.fdiv i j)) := by
  unfold oDiv oI
  simp [h, h2]
theorem oDiv_ii (h : 0 < j) (h2 : j.natAbs.log2 < 9000) : oDiv (.int i) (.int j) = some (.int (i / j)) := by
  rw [oDiv_nz (by omega) h2, Int.fdiv_eq_ediv_of_nonneg i (by omega)]
theorem oMod_ii (h : 0 < j) : oMod (.int i) (.int j) = some (.int (i % j)) := by
  unfold oMod oI
  simp [h]
theorem shaped_int : SeqAt.shaped (.int i) = true := rfl
@[simp] theorem eqD_ii {neg : Bool} : eqD neg (.int i) (.int j) = some (.bl (if neg then !decide (i = j) else decide (i = j))) := by
  have e : PyData.eqv (.int i) (.int j) = decide (i = j) := by
    simp [PyData.eqv]
    try rfl
  show (if SeqAt.shaped (.int i) && SeqAt.shaped (.int j) then some (D.bl (if neg then !PyData.eqv (.int i) (.int j) else PyData.eqv (.int i) (.int j))) else none) = _
  rw [e]; rfl
@[simp] theorem isN_i : isN false (.int i) .non = some (.bl false) := rfl
end
@[simp] theorem oIx_t {xs : List D} {i : Int} : oIx (.tup xs) (.int i) = atI xs i := rfl
@[simp] theorem oIx_l {xs : List D} {i : Int} : oIx (.lst xs) (.int i) = atI xs i := rfl
@[simp] theorem seqOf_t {xs : List D} : seqOf (.tup xs) = some xs := rfl
@[simp] theorem seqOf_l {xs : List D} : seqOf (.lst xs) = some xs := rfl
@[simp] theorem oList_t {xs : List D} : oList (.tup xs) = some xs := rfl
@[simp] theorem oList_l {xs : List D} : oList (.lst xs) = some xs := rfl
@[simp] theorem oTuple_t {xs : List D} : oTuple (.tup xs) = some (.tup xs) := rfl
@[simp] theorem oTuple_l {xs : List D} : oTuple (.lst xs) = some (.tup xs) := rfl
end PL
/-! PD: what all laws share of the pure proof: numbers, lists of numbers, the draws -/
namespace PL
open PySem L2
@[simp] theorem le_sz {n : Nat} (h : n ≤ 1000) : n ≤ sizeLine := Nat.le_trans h (by decide)
@[simp] theorem lt_sz {n : Nat} (h : n < 1000) : n < sizeLine := Nat.lt_of_lt_of_le h (by decide)
abbrev I (xs : List Int) : List D := xs.map D.int
@[simp] theorem intsOf_I : ∀ xs : List Int, intsOf (xs.map D.int) = some xs
  | [] => rfl
  | x :: xs => by simp [intsOf, intsOf_I xs]
theorem Sm.of {k : Nat} {i : Int} (h : i.natAbs < 2 ^ k) (hk : k ≤ 400000) : Sm i := by
  unfold Sm
  by_cases h0 : i.natAbs = 0
  · rw [h0]; decide
  · exact Nat.lt_of_lt_of_le ((Nat.log2_lt h0).mpr h) hk
theorem blsOf_true {α : Type} : ∀ (xs : List α), blsOf (xs.map fun _ => D.bl true) = some (xs.map fun _ => true)
  | [] => rfl
  | x :: xs => by simp [blsOf, blsOf_true xs]
theorem ixN_nat {n p : Nat} (h : p < n) : ixN n (p : Int) = some p := by
  unfold ixN
  rw [if_pos (by omega), if_pos (by omega)]
  simp
theorem atI_nat {α : Type} {xs : List α} {p : Nat} (h : p < xs.length) : atI xs (p : Int) = xs[p]? := by
  unfold atI
  rw [ixN_nat h]
  rfl
theorem atI_I {bs : List Int} {p : Nat} (h : p < bs.length) : atI (bs.map D.int) (p : Int) = some (.int (bs.getD p 0)) := by
  rw [atI_nat (by simpa using h)]
  simp [h]
theorem sq_nonneg (x : Int) : 0 ≤ x * x := by
  rcases Int.le_total 0 x with h | h
  · exact Int.mul_nonneg h h
  · exact Int.mul_nonneg_of_nonpos_of_nonpos h h
theorem sq_zero {x : Int} (h : x * x ≤ 0) : x = 0 := by
  have h2 := sq_nonneg x
  have h3 : x * x = 0 := by omega
  rcases Int.mul_eq_zero.mp h3 with h | h <;> exact h
theorem pys_I : ∀ cs : List Int, pys? (I cs) = some (cs.map PyData.int)
  | [] => rfl
  | c :: cs => by
    show ((py? (.int c)).bind fun p => (pys? (I cs)).map fun ps => p :: ps) = _
    rw [pys_I cs]; rfl
theorem lay_I : ∀ cs : List Int, PyData.canLayAll0 (cs.map PyData.int) = true ∧ PyData.depthAll (cs.map PyData.int) = 0
  | [] => ⟨by simp [PyData.canLayAll0], by simp [PyData.depthAll]⟩
  | c :: cs => by
    obtain ⟨a, b⟩ := lay_I cs
    exact ⟨by simp [PyData.canLayAll0, PyData.canLay0, a], by simp [PyData.depthAll, PyData.depth, b]⟩
theorem shaped_I (cs : List Int) : SeqAt.shaped (.list (cs.map PyData.int)) = true := by
  obtain ⟨a, b⟩ := lay_I cs
  simp [SeqAt.shaped, PyData.canLay0, PyData.depth, a, b]
@[simp] theorem eqD_nil {neg : Bool} (cs : List Int) : eqD neg (.lst (I cs)) (.lst []) = some (.bl (if neg then !cs.isEmpty else cs.isEmpty)) := by
  have e1 : py? (.lst (I cs)) = some (.list (cs.map PyData.int)) := by
    show (pys? (I cs)).map PyData.list = _
    rw [pys_I]; rfl
  have e2 : py? (.lst []) = some (.list []) := rfl
  have e3 : SeqAt.shaped (.list []) = true := shaped_I []
  have e4 : PyData.eqv (.list (cs.map PyData.int)) (.list []) = cs.isEmpty := by
    cases cs <;> simp [PyData.eqv, PyData.eqvAll]
  unfold eqD
  rw [e1, e2]
  dsimp only
  rw [shaped_I, e3, e4]
  rfl
def Cup (N : Nat) (xs : List D) : Prop := ∃ (cells : List Int) (t l : Int), xs = [.lst (I cells), .int t, .int l] ∧ 0 ≤ t ∧ t ≤ N ∧ 0 ≤ l
theorem oPow_ii {i j : Int} (h : 0 ≤ j) (h2 : j ≤ 1000000) (h3 : i.natAbs < 2 ^ 64) : oPow (.int i) (.int j) = some (.int (i ^ j.toNat)) := by
  unfold oPow oI
  simp [h, h2, h3]
theorem oMod_m {i m : Int} (h : 0 < m) : oMod (.int i) (.int m) = some (.int (i % m)) := oMod_ii h
theorem log_small {m : Int} (h0 : 0 < m) (h : m < 2 ^ 64) : m.natAbs.log2 < 9000 := by
  have : m.natAbs < 2 ^ 64 := by omega
  have := (Nat.log2_lt (by omega)).mpr this
  omega
theorem cup_left {N : Nat} {cells : List Int} {t l m : Int} (h0 : 0 ≤ t) (h1 : t ≤ N) (h2 : 0 ≤ l) (hm : 0 < m) : Cup (N + 1) [.lst (I cells), .int t, .int (l / m)] :=
  ⟨cells, t, l / m, rfl, h0, by omega, Int.ediv_nonneg h2 (by omega)⟩
theorem bnd64 {a b : Int} (h : 0 ≤ a) (h2 : a < b) (hb : b < 2 ^ 64) : a.natAbs < 2 ^ 64 := by omega
theorem cut_I (ns : List Int) (lo hi : Option Int) : ∃ cs, cutD (I ns) lo hi = I cs ∧ cs.length ≤ ns.length := by
  refine ⟨(ns.drop (HT.sIx (I ns).length 0 lo)).take (HT.sIx (I ns).length (I ns).length hi - HT.sIx (I ns).length 0 lo), ?_, ?_⟩
  · unfold cutD I
    rw [← List.map_drop, ← List.map_take]
  · simp only [List.length_take, List.length_drop]; omega
theorem erase_I (left : List Int) (k : Nat) : (I left).eraseIdx k = I (left.eraseIdx k) := by
  simp only [List.eraseIdx_eq_take_drop_succ, I, List.map_append, List.map_take, List.map_drop]
theorem erase_perm {left : List Int} {k : Nat} (hk : k < left.length) : (left[k] :: left.eraseIdx k).Perm left := by
  rw [List.eraseIdx_eq_take_drop_succ]
  have e : left = left.take k ++ left[k] :: left.drop (k + 1) := by
    rw [← List.drop_eq_getElem_cons hk, List.take_append_drop]
  have p := (List.perm_middle (a := left[k]) (l₁ := left.take k) (l₂ := left.drop (k + 1))).symm
  rw [← e] at p
  exact p
theorem get_I {left : List Int} {k : Nat} (hk : k < left.length) : (I left)[k]? = some (.int left[k]) := by simp [hk]
/-! ### the draws: a box of numbers, a counter, what is left of a great one -/
def iv (b : Bool) (A : Ev → Option D) : Ev → Option D := match b with
  | true => q1 oInt A
  | false => A
def ivO (b : Bool) (d : D) : Option D := match b with
  | true => oInt d
  | false => some d
@[simp] theorem ivO_i {b : Bool} {i : Int} : ivO b (.int i) = some (.int i) := by cases b <;> rfl
@[simp] theorem iv_ap {b : Bool} {A : Ev → Option D} {ρ : Ev} : iv b A ρ = (A ρ).bind (ivO b) := by
  cases b
  · show A ρ = (A ρ).bind fun d => some d
    cases A ρ <;> rfl
  · rfl
structure Scoop (sc : List D → List D → FrM) : Prop where
  h : ∀ {N : Nat} {xs : List D} {m : Int}, Cup N xs → N ≤ 1000000 → 0 < m → m < 2 ^ 200 → ∃ v xs', sc xs [.int m] = .ok (.int v) xs' ∧ 0 ≤ v ∧ v < m ∧ Cup (N + 1) xs'
noncomputable def scoopB (b1 b2 b3 b4 b5 b6 b7 b8 b9 b10 b11 : Bool) (c1 c2 p1 e1 e2 p2 f g h p3 dv : Int) : Ev → Fl := (sq (ifF (asB (up (q2 oGt (q2 oIx (bn 0) (ct (.int 2))) (ct (.int 0)))))
  (sq (setF 2 (up (iv b1 (q2 oIx (bn 0) (ct (.int 2))))))
  (sq (setiF 0 (ct (.int 2)) (up (q2 oDiv (iv b2 (bn 2)) (bn 1))))
  (retF (up (q2 oMod (iv b3 (bn 2)) (bn 1))))))
  Fl.nx)
  (sq (setF 3 (up (q2 oIx (bn 0) (ct (.int 1)))))
  (sq (setiF 0 (ct (.int 1)) (up (q2 oPlus (bn 3) (ct (.int 1)))))
  (sq (setF 4 (up (q2 oPlus (q2 oTimes (ct (.int c1)) (bn 3)) (ct (.int c2)))))
  (sq (ifF (asB (up (q2 (eqD true) (q2 oIx (bn 0) (ct (.int 0))) (ct (.lst [])))))
  (setF 4 (up (q2 oIx (q2 oIx (bn 0) (ct (.int 0))) (q2 oMod (iv b4 (bn 3)) (q1 (orU oLen oLenS) (q2 oIx (bn 0) (ct (.int 0))))))))
  Fl.nx)
  (sq (ifF (andT (asB (up (q2 oLt (bn 3) (q1 (orU oLen oLenS) (q2 oIx (bn 0) (ct (.int 0))))))) (asB (up (q2 oGe (q1 oAbs (iv b5 (bn 4))) (q2 oPow (ct (.int 10)) (ct (.int 18)))))))
  (sq (setF 2 (up (q2 oPlus (q2 oTimes (ct (.int 2)) (q2 oSub (q1 oAbs (iv b6 (bn 4))) (q2 oPow (ct (.int 10)) (ct (.int 18))))) (q1 oInt (q2 oLt (bn 4) (ct (.int 0)))))))
  (sq (setiF 0 (ct (.int 2)) (up (q2 oDiv (iv b7 (bn 2)) (bn 1))))
  (retF (up (q2 oMod (iv b8 (bn 2)) (bn 1))))))
  Fl.nx)
  (sq (setF 5 (up (q2 oMod (q1 oInt (q2 oPow (q2 oPlus (q2 oPlus (q2 oMod (iv b9 (bn 4)) (ct (.int p1))) (q2 oTimes (ct (.int e1)) (bn 3))) (ct (.int e2))) (ct (.int 5)))) (ct (.int p2)))))
  (sq (setF 5 (up (q2 oMod (q1 oInt (q2 oPow (q2 oPlus (q2 oPlus (q2 oTimes (bn 5) (q2 oPlus (q2 oTimes (ct (.int 2)) (bn 3)) (ct (.int f)))) (q2 oTimes (q2 oTimes (ct (.int g)) (bn 3)) (bn 3))) (ct (.int h))) (ct (.int 3)))) (ct (.int p3)))))
  (retF (up (q2 oMod (iv b10 (q2 oDiv (iv b11 (bn 5)) (ct (.int dv)))) (bn 1))))))))))))
theorem log_200 {m : Int} (h0 : 0 < m) (h : m < 2 ^ 200) : m.natAbs.log2 < 9000 := by
  have : m.natAbs < 2 ^ 200 := by omega
  have := (Nat.log2_lt (by omega)).mpr this
  omega
structure DrawC (c1 c2 p1 e1 e2 p2 f g h p3 dv : Int) : Prop where
  c1 : 0 ≤ c1 ∧ c1 < 1000000
  c2 : 0 ≤ c2 ∧ c2 < 1000000
  p1 : 0 < p1 ∧ p1 < 2147483649
  e1 : 0 ≤ e1 ∧ e1 < 1000000
  e2 : 0 ≤ e2 ∧ e2 < 1000000
  p2 : 0 < p2 ∧ p2 < 2147483649
  f : 0 ≤ f ∧ f < 1000000
  g : 0 ≤ g ∧ g < 1000000
  h : 0 ≤ h ∧ h < 1000000
  p3 : 0 < p3 ∧ p3 < 2147483649
  dv : 0 < dv ∧ dv < 1000000
theorem scoop_gen (b1 b2 b3 b4 b5 b6 b7 b8 b9 b10 b11 : Bool) {c1 c2 p1 e1 e2 p2 f g h p3 dv : Int} (C : DrawC c1 c2 p1 e1 e2 p2 f g h p3 dv) : Scoop (runM 6 (scoopB b1 b2 b3 b4 b5 b6 b7 b8 b9 b10 b11 c1 c2 p1 e1 e2 p2 f g h p3 dv)) := ⟨fun {N xs m} hc hN hm hm2 => by
  obtain ⟨cells, t, l, rfl, ht0, ht, h2⟩ := hc
  obtain ⟨C1, C2, P1, E1, E2, P2, F, G, Hh, P3, DV⟩ := C
  by_cases hl : 0 < l
  · refine ⟨l % m, [.lst (I cells), .int t, .int (l / m)], ?_, Int.emod_nonneg _ (by omega), Int.emod_lt_of_pos _ hm, cup_left ht0 ht h2 hm⟩
    have ax : ∀ z : Int, atI [D.lst (I cells), .int t, .int z] 2 = some (.int z) := fun z => rfl
    unfold scoopB runM
    simp [env0, ax, hl, oDiv_ii hm (log_200 hm hm2), oMod_m hm, ixN, outM]
  have ax : ∀ z y : Int, atI [D.lst (I cells), .int y, .int z] 2 = some (.int z) := fun z y => rfl
  have ay : ∀ z y : Int, atI [D.lst (I cells), .int y, .int z] 1 = some (.int y) := fun z y => rfl
  have az : ∀ z y : Int, atI [D.lst (I cells), .int y, .int z] 0 = some (.lst (I cells)) := fun z y => rfl
  have p18 : oPow (.int 10) (.int 18) = some (.int 1000000000000000000) := by rw [oPow_ii (by decide) (by decide) (by decide)]; rfl
  have hn : oLen (.lst (I cells)) = some (.int cells.length) := by unfold oLen; simp
  have hlen : (orU oLen oLenS) (.lst (I cells)) = some (.int cells.length) := by unfold orU; rw [hn]
  obtain ⟨cell, hcell⟩ : ∃ cell : Int, cell = if cells.isEmpty then c1 * t + c2 else cells.getD (t % cells.length).toNat 0 := ⟨_, rfl⟩
  have hd : oTimes (.int c1) (.int t) = some (.int (c1 * t)) := oTimes_l (by omega)
  have hd2 : oTimes (.int (g * t)) (.int t) = some (.int (g * t * t)) := oTimes_r (by omega)
  have hd0 : oTimes (.int g) (.int t) = some (.int (g * t)) := oTimes_l (by omega)
  have hd3 : oTimes (.int e1) (.int t) = some (.int (e1 * t)) := oTimes_l (by omega)
  have hx : cells ≠ [] → atI (I cells) (t % cells.length) = some (.int cell) ∧ oMod (.int t) (.int cells.length) = some (.int (t % cells.length)) := fun hne => by
    have hp : 0 < cells.length := List.length_pos_iff.mpr hne
    have h1 := Int.emod_nonneg t (b := cells.length) (by omega)
    have h2 := Int.emod_lt_of_pos t (b := cells.length) (by omega)
    have := atI_I (bs := cells) (p := (t % cells.length).toNat) (by omega)
    rw [Int.toNat_of_nonneg h1] at this
    refine ⟨?_, oMod_ii (by omega)⟩
    rw [hcell, this]
    simp [hne]
  have m1 : oMod (.int cell) (.int p1) = some (.int (cell % p1)) := oMod_ii P1.1
  have r1 := Int.emod_nonneg cell (b := p1) (by omega)
  have r2 := Int.emod_lt_of_pos cell (b := p1) P1.1
  have q1 : 0 ≤ e1 * t := Int.mul_nonneg E1.1 ht0
  have q2 : e1 * t ≤ 1000000 * t := Int.mul_le_mul_of_nonneg_right (by omega) ht0
  have pw1 : oPow (.int (cell % p1 + e1 * t + e2)) (.int 5) = some (.int ((cell % p1 + e1 * t + e2) ^ 5)) := by rw [oPow_ii (by decide) (by decide) (by omega)]; rfl
  obtain ⟨x, ex⟩ : ∃ x : Int, x = (cell % p1 + e1 * t + e2) ^ 5 % p2 := ⟨_, rfl⟩
  have r3 : 0 ≤ x := by rw [ex]; exact Int.emod_nonneg _ (by omega)
  have r4 : x < p2 := by rw [ex]; exact Int.emod_lt_of_pos _ P2.1
  have m2 : oMod (.int ((cell % p1 + e1 * t + e2) ^ 5)) (.int p2) = some (.int x) := by rw [ex]; exact oMod_ii P2.1
  have tm : oTimes (.int x) (.int (2 * t + f)) = some (.int (x * (2 * t + f))) := oTimes_l (by omega)
  have b1 : x * (2 * t + f) ≤ x * 3000000 := Int.mul_le_mul_of_nonneg_left (by omega) r3
  have b2 : 0 ≤ x * (2 * t + f) := Int.mul_nonneg r3 (by omega)
  have q3 : 0 ≤ g * t := Int.mul_nonneg G.1 ht0
  have q4 : g * t ≤ 1000000 * t := Int.mul_le_mul_of_nonneg_right (by omega) ht0
  have b3 : g * t * t ≤ g * t * 1000000 := Int.mul_le_mul_of_nonneg_left (by omega) q3
  have b4 : 0 ≤ g * t * t := Int.mul_nonneg q3 ht0
  have pw2 : oPow (.int (x * (2 * t + f) + g * t * t + h)) (.int 3) = some (.int ((x * (2 * t + f) + g * t * t + h) ^ 3)) := by rw [oPow_ii (by decide) (by decide) (by omega)]; rfl
  obtain ⟨y, ey⟩ : ∃ y : Int, y = (x * (2 * t + f) + g * t * t + h) ^ 3 % p3 := ⟨_, rfl⟩
  have m3 : oMod (.int ((x * (2 * t + f) + g * t * t + h) ^ 3)) (.int p3) = some (.int y) := by rw [ey]; exact oMod_ii P3.1
  have d64 : oDiv (.int y) (.int dv) = some (.int (y / dv)) := oDiv_ii DV.1 (log_small DV.1 (by omega))
  clear q1 q2 q3 q4 b1 b2 b3 b4 r1 r2 r3 r4 ex ey
  unfold scoopB runM
  by_cases hc : cells = []
  · subst hc
    rw [List.isEmpty_nil, if_pos rfl] at hcell
    subst hcell
    have ht1 : ¬ t < 0 := by omega
    have en : eqD true (.lst []) (.lst []) = some (.bl false) := eqD_nil []
    have ez : (orU oLen oLenS) (.lst []) = some (.int 0) := rfl
    have ax0 : ∀ z y : Int, atI [D.lst [], .int y, .int z] 2 = some (.int z) := fun _ _ => rfl
    have ay0 : ∀ z y : Int, atI [D.lst [], .int y, .int z] 1 = some (.int y) := fun _ _ => rfl
    have az0 : ∀ z y : Int, atI [D.lst [], .int y, .int z] 0 = some (.lst []) := fun _ _ => rfl
    refine ⟨y / dv % m, [.lst (I []), .int (t + 1), .int l], ?_, Int.emod_nonneg _ (by omega), Int.emod_lt_of_pos _ hm, [], t + 1, l, rfl, by omega, by omega, h2⟩
    simp [env0, ax0, ay0, az0, hl, hd, hd0, hd2, hd3, hlen, p18, m1, pw1, m2, tm, pw2, m3, d64, oMod_m hm, ixN, outM, ht1, en, ez]
  · obtain ⟨hx1, hx2⟩ := hx hc
    by_cases hbig : t < cells.length ∧ 1000000000000000000 ≤ (if cell < 0 then -cell else cell)
    · obtain ⟨g1, g2⟩ := hbig
      obtain ⟨left, hleft⟩ : ∃ z : Int, z = 2 * ((if cell < 0 then -cell else cell) - 1000000000000000000) + (if cell < 0 then 1 else 0) := ⟨_, rfl⟩
      have l0 : 0 ≤ left := by rw [hleft]; split <;> omega
      refine ⟨left % m, [.lst (I cells), .int (t + 1), .int (left / m)], ?_, Int.emod_nonneg _ (by omega), Int.emod_lt_of_pos _ hm, cells, t + 1, left / m, rfl, by omega, by omega, Int.ediv_nonneg l0 (by omega)⟩
      have dm : oDiv (.int left) (.int m) = some (.int (left / m)) := oDiv_ii hm (log_200 hm hm2)
      simp [env0, ax, ay, az, hl, hd, hd0, hd2, hd3, hlen, p18, hc, hx1, hx2, g1, g2, ← hleft, dm, oMod_m hm, ixN, outM]
    · refine ⟨y / dv % m, [.lst (I cells), .int (t + 1), .int l], ?_, Int.emod_nonneg _ (by omega), Int.emod_lt_of_pos _ hm, cells, t + 1, l, rfl, by omega, by omega, h2⟩
      have hb2 : t < cells.length → ¬ (1000000000000000000 ≤ (if cell < 0 then -cell else cell)) := fun a b => hbig ⟨a, b⟩
      by_cases g1 : t < cells.length
      · have g2 := hb2 g1
        simp [env0, ax, ay, az, hl, hd, hd0, hd2, hd3, hlen, p18, hc, hx1, hx2, g1, g2, m1, pw1, m2, tm, pw2, m3, d64, oMod_m hm, ixN, outM]
      · simp [env0, ax, ay, az, hl, hd, hd0, hd2, hd3, hlen, p18, hc, hx1, hx2, g1, m1, pw1, m2, tm, pw2, m3, d64, oMod_m hm, ixN, outM]⟩
noncomputable def boxB (K : Int) : Ev → Rs (List D) := (lenOk (consA (asL (compF [1] (tnm 1) (seqE (asL (slF (fz 0) noO (asO (up (ct (.int K))))))) yesT (up (q1 oInt (bn 1))))) (consA (up (ct (.int 0))) (consA (up (ct (.int 0))) nilA))))
theorem box_gen (K : Int) {ns : List Int} (h : ns.length ≤ 1000) : ∃ xs, runL 2 (boxB K) [.scr ns] = .ok xs ∧ Cup 0 xs := by
  obtain ⟨cs, e, hl⟩ := cut_I ns none (some K)
  have hc := compL_all (vs := [1]) (tg := tnm 1) (c := yesT) (e := up (q1 oInt (bn 1))) (ρ := [.val (.scr ns), .no]) id (I cs) (fun d hd => by
    obtain ⟨n, hn, rfl⟩ := List.mem_map.mp hd
    exact ⟨_, by simp; rfl, _, rfl, _, by simp; rfl, by simp⟩)
  refine ⟨_, ?_, cs, 0, 0, rfl, by omega, by omega, by omega⟩
  unfold boxB runL
  have z : ¬ sizeLine < cs.length := by unfold sizeLine; omega
  have z3 : (3 : Nat) ≤ sizeLine := by decide
  have z4 : cs.length ≤ sizeLine := by omega
  rw [List.map_id] at hc
  simp [env0, slF, noO, asO, listOf, e, hc, z3, z4, -List.map_map]
theorem Cup.mono {N M : Nat} {xs : List D} (h : Cup N xs) (hm : N ≤ M) : Cup M xs := by
  obtain ⟨cells, t, l, rfl, a, b, c⟩ := h
  exact ⟨cells, t, l, rfl, a, by omega, c⟩
section
variable {sc : List D → List D → FrM}
noncomputable def pickB (sc : List D → List D → FrM) : Ev → Fl := retF (e2 oIx (fz 1) (callM 0 sc (consA (up (q1 (orU oLen oLenS) (bn 1))) nilA)))
theorem pick_gen (S : Scoop sc) {N : Nat} {xs ds : List D} (h : Cup N xs) (hN : N ≤ 1000000) (hd : ds ≠ []) (hl : ds.length < 1000000) : ∃ d ∈ ds, ∃ xs', runM 2 (pickB sc) xs [.lst ds] = .ok d xs' ∧ Cup (N + 1) xs' := by
  have hp : 0 < ds.length := List.length_pos_iff.mpr hd
  have big : (ds.length : Int) < 2 ^ 200 := Int.lt_of_lt_of_le (b := 2 ^ 64) (by omega) (by decide)
  obtain ⟨v, xs', e, h0, h1, hc⟩ := S.h (m := ds.length) h hN (by omega) big
  obtain ⟨k, rfl⟩ : ∃ k : Nat, v = k := ⟨v.toNat, by omega⟩
  have hk : k < ds.length := by omega
  have ha : atI ds (k : Int) = some ds[k] := by rw [atI_nat hk]; simp [hk]
  have hn : (orU oLen oLenS) (.lst ds) = some (.int ds.length) := by unfold orU oLen; simp
  refine ⟨ds[k], List.getElem_mem hk, xs', ?_, hc⟩
  unfold pickB runM
  simp [env0, hn, e, ha, outM]
noncomputable def sbody (sc : List D → List D → FrM) : Ev → Fl := dropF (appE 3 (popE 2 (callM 0 sc (consA (up (q1 (orU oLen oLenS) (bn 2))) nilA))))
def scond : Ev → Rs Bool := asB (up (q2 (eqD true) (bn 2) (ct (.lst []))))
theorem stir_turn {xs xs1 : List D} {left found : List Int} {k : Nat} {r : Sl} (hk : k < left.length) (b1 : (k : Int) < 2 ^ 63) (b2 : found.length < sizeLine) (e : sc xs [.int left.length] = .ok (.int k) xs1) :
    sbody sc [.own xs, r, .own (I left), .own (I found)] = .nx [.own xs1, r, .own (I (left.eraseIdx k)), .own (I (found ++ [left[k]]))] := by
  have hlen : (orU oLen oLenS) (.lst (I left)) = some (.int left.length) := by unfold orU oLen; simp
  have b0 : 0 ≤ (k : Int) ∧ (k : Int) < 2 ^ 63 := ⟨by omega, b1⟩
  have b3 : (I found).length < sizeLine := by rw [List.length_map]; exact b2
  have hp : popE 2 (callM 0 sc (consA (up (q1 (orU oLen oLenS) (bn 2))) nilA)) [.own xs, r, .own (I left), .own (I found)] = .ok (.int left[k]) [.own xs1, r, .own (I (left.eraseIdx k)), .own (I found)] := by
    have hc : callM 0 sc (consA (up (q1 (orU oLen oLenS) (bn 2))) nilA) [.own xs, r, .own (I left), .own (I found)] = .ok (.int k) [.own xs1, r, .own (I left), .own (I found)] := by
      simp only [callM_ap, consA_ap, nilA_ap, up_ap, q1_ap, bn_ap, List.getElem?_cons_zero, List.getElem?_cons_succ, Option.bind, hlen, Rs.opt, Rs.bind, e, List.set_cons_zero]
    rw [popE_ap]
    simp only [List.getElem?_cons_zero, List.getElem?_cons_succ, hc, Rs.bind]
    rw [if_pos b0, Int.toNat_natCast, get_I hk, erase_I]
    rfl
  unfold sbody
  rw [dropF_ap, appE_ap]
  simp only [List.getElem?_cons_zero, List.getElem?_cons_succ, hp, Rs.bind]
  rw [if_pos b3]
  show Fl.nx _ = _
  simp only [List.set_cons_zero, List.set_cons_succ, I, List.map_append, List.map_cons, List.map_nil]
theorem stir_loop (S : Scoop sc) (r : Sl) (n : Nat) : ∀ (left found : List Int) (N : Nat) (xs : List D), left.length = n → Cup N xs → N + n ≤ 1000000 → found.length + n ≤ 1000000 →
    ∃ found' xs' , whF scond (sbody sc) [.own xs, r, .own (I left), .own (I found)] = .nx [.own xs', r, .own [], .own (I found')] ∧ found'.Perm (left ++ found) ∧ Cup (N + n) xs' := by
  induction n with
  | zero =>
    intro left found N xs hn hc _ _
    have : left = [] := List.length_eq_zero_iff.mp hn
    subst this
    refine ⟨found, xs, ?_, List.Perm.refl _, hc⟩
    have en : eqD true (.lst []) (.lst []) = some (.bl false) := eqD_nil []
    rw [whF_end (ρ1 := [.own xs, r, .own (I []), .own (I found)]) (by unfold scond; simp [en])]
    rfl
  | succ n ih =>
    intro left found N xs hn hc hN hf
    have hp : left ≠ [] := by intro z; rw [z] at hn; cases hn
    have big : (left.length : Int) < 2 ^ 200 := Int.lt_of_lt_of_le (b := 2 ^ 64) (by omega) (by decide)
    obtain ⟨v, xs1, e, h0, h1, hc1⟩ := S.h (m := left.length) hc (by omega) (by omega) big
    obtain ⟨k, rfl⟩ : ∃ k : Nat, v = k := ⟨v.toNat, by omega⟩
    have hk : k < left.length := by omega
    obtain ⟨found', xs', e2, hperm, hc2⟩ := ih (left.eraseIdx k) (found ++ [left[k]]) (N + 1) xs1 (by rw [List.length_eraseIdx]; rw [if_pos hk]; omega) hc1 (by omega) (by simp; omega)
    refine ⟨found', xs', ?_, ?_, by rw [show N + (n + 1) = N + 1 + n by omega]; exact hc2⟩
    · rw [whF_step (ρ1 := [.own xs, r, .own (I left), .own (I found)]) (by unfold scond; simp [hp]) (stir_turn hk (by omega) (by unfold sizeLine; omega) e)]
      exact e2
    · refine hperm.trans ?_
      have p1 : (left[k] :: left.eraseIdx k).Perm left := erase_perm hk
      have p2 : (left.eraseIdx k ++ (found ++ [left[k]])).Perm (left[k] :: left.eraseIdx k ++ found) := by
        rw [← List.append_assoc]
        exact List.perm_append_comm
      exact p2.trans (p1.append_right _)
noncomputable def stirB (sc : List D → List D → FrM) : Ev → Fl := sq (parON 2 3 (f1 oList (fz 1))) (sq (whF scond (sbody sc)) (retF (fz 3)))
theorem stir_gen (S : Scoop sc) {N : Nat} {xs : List D} {bs : List Int} (h : Cup N xs) (hN : N + bs.length ≤ 1000000) : ∃ bs' xs', runM 4 (stirB sc) xs [.lst (I bs)] = .ok (.lst (I bs')) xs' ∧ bs'.Perm bs ∧ Cup (N + bs.length) xs' := by
  obtain ⟨found', xs', e, p, c⟩ := stir_loop S (.val (.lst (I bs))) bs.length bs [] N xs rfl h hN (by simp; omega)
  refine ⟨found', xs', ?_, by simpa using p, c⟩
  unfold stirB runM
  simp [env0, parON, -List.map_map]
  change whF _ _ [.own xs, _, .own (I bs), .own []] = _ at e
  rw [e]
  simp [outM]
end
end PL
/-! PR: the text of data, and that data equals itself -/
namespace PL
open PySem L2
theorem natStr_len {n k : Nat} (hk : 0 < k) (h : n < 10 ^ k) : (Str.ofString (toString (n : Int))).length ≤ k :=
  PyProof.Rows.toString_length_le (v := n) (by omega) hk (by
    have : ((10 ^ k : Nat) : Int) = (10 : Int) ^ k := by simp
    rw [← this]; omega)
theorem intStr_len {i : Int} {k : Nat} (hk : 0 < k) (h : i.natAbs < 10 ^ k) : (Str.ofString (toString i)).length ≤ k + 1 := by
  cases i with
  | ofNat n => exact Nat.le_succ_of_le (natStr_len hk (by simpa using h))
  | negSucc n =>
    have e : (toString (Int.negSucc n)).toList = '-' :: (toString (((n + 1 : Nat) : Int))).toList := by
      show ("-" ++ Nat.repr (n + 1)).toList = '-' :: (Nat.repr (n + 1)).toList
      rw [String.toList_append]
      rfl
    have q := natStr_len (n := n + 1) hk (by simpa using h)
    rw [PyProof.Rows.ofString_length] at q ⊢
    rw [e, List.length_cons]
    omega
theorem ok_of (s : String) : PyData.strOk (Str.ofString s) = true := by
  unfold PyData.strOk
  rw [Str.ofString_eq_toList, List.all_toArray, List.all_map]
  refine List.all_eq_true.mpr fun c _ => ?_
  have h : c.toNat < 1114112 := by
    have := c.valid
    rcases this with h | h
    · exact Nat.lt_trans h (by decide)
    · exact h.2
  exact decide_eq_true h
theorem ok_app {a b : Str} (h1 : PyData.strOk a = true) (h2 : PyData.strOk b = true) : PyData.strOk (a ++ b) = true := by
  unfold PyData.strOk at *
  show (a.cps ++ b.cps).all _ = true
  rw [Array.all_append, h1, h2]; rfl
theorem ok_join {x : Str} (hx : PyData.strOk x = true) : ∀ ts : List Str, (∀ t ∈ ts, PyData.strOk t = true) → PyData.strOk (Str.join x ts) = true
  | [], _ => by show PyData.strOk Str.empty = true; simp [PyData.strOk, Str.empty]
  | [t], h => h t (by simp)
  | t :: u :: r, h => by
    have ih := ok_join hx (u :: r) fun y hy => h y (List.mem_cons_of_mem _ hy)
    exact ok_app (ok_app (h t (by simp)) hx) ih
theorem ok_from : ∀ (ts : List Str) (k : Nat) (acc : Str), PyData.strOk acc = true → (∀ t ∈ ts, PyData.strOk t = true) → PyData.strOk (textFrom k acc ts) = true
  | [], _, _, h, _ => h
  | t :: r, k, acc, h, ht => by
    show PyData.strOk (textFrom (k + 1) _ r) = true
    exact ok_from r _ _ (ok_app (ok_app h (ok_of _)) (ht t (by simp))) fun u hu => ht u (List.mem_cons_of_mem _ hu)
theorem listText_len (ts : List Str) : (listText ts).length ≤ piled ts + 2 := by
  unfold listText
  rw [strLen_append]
  have p1 : (Str.ofString "[").length = 1 := rfl
  have p2 : (Str.ofString "]").length = 1 := rfl
  cases ts with
  | nil => show (Str.ofString "[").length + (Str.ofString "]").length ≤ _; rw [p1, p2]; omega
  | cons t r =>
    have h := textFrom_length_pos r 1 (("[" : Str) ++ (if (0 : Nat) > 0 then ", " else "" : String) ++ t) (Nat.succ_pos 0)
    have e : ((("[" : Str) ++ (if (0 : Nat) > 0 then ", " else "" : String) ++ t)).length = 1 + t.length := by
      rw [strLen_append, strLen_append]; rfl
    have hY : (textFrom 0 "[" (t :: r)).length = (textFrom 1 (("[" : Str) ++ (if (0 : Nat) > 0 then ", " else "" : String) ++ t) r).length := rfl
    rw [hY, h, e, piled_cons, p2]; omega
theorem tupleText_len (ts : List Str) : (tupleText ts).length ≤ piled ts + 3 := by
  unfold tupleText
  rw [strLen_append, strLen_append]
  have e1 : ((("(" : String) : Str)).length = 1 := rfl
  have e3 : (((if ts.length == 1 then ",)" else ")" : String) : Str)).length ≤ 2 := by split <;> decide
  rw [e1]
  by_cases h : ts = []
  · subst h
    have : (Str.join ", " ([] : List Str)).length = 0 := rfl
    omega
  · have := join_length_add ts h
    omega
theorem ok_listText (ts : List Str) (h : ∀ t ∈ ts, PyData.strOk t = true) : PyData.strOk (listText ts) = true := by
  unfold listText
  exact ok_app (ok_from ts 0 _ (ok_of _) h) (ok_of _)
theorem ok_tupleText (ts : List Str) (h : ∀ t ∈ ts, PyData.strOk t = true) : PyData.strOk (tupleText ts) = true := by
  unfold tupleText
  exact ok_app (ok_app (ok_of _) (ok_join (ok_of _) _ h)) (ok_of _)
/-! data of numbers below 2 ^ 600, truths, None, lists, tuples -/
mutual
def dOk : D → Bool
  | .non => true
  | .bl _ => true
  | .int i => decide (i.natAbs < 2 ^ 600)
  | .lst xs => dOks xs
  | .tup xs => dOks xs
  | _ => false
def dOks : List D → Bool
  | [] => true
  | d :: ds => dOk d && dOks ds
end
mutual
def dSz : D → Nat
  | .int _ => 602
  | .lst xs => dSzs xs + 3
  | .tup xs => dSzs xs + 3
  | _ => 5
def dSzs : List D → Nat
  | [] => 0
  | d :: ds => dSz d + 2 + dSzs ds
end
mutual
def dDp : D → Nat
  | .lst xs => dDps xs + 1
  | .tup xs => dDps xs + 1
  | _ => 0
def dDps : List D → Nat
  | [] => 0
  | d :: ds => max (dDp d) (dDps ds)
end
structure Told (d : D) (p : PyData) : Prop where
  e : py? d = some p
  sh : p.showable = true
  lay : p.canLay0 = true
  dp : p.depth ≤ dDp d
  len : p.shown.length ≤ dSz d
  ok : PyData.strOk p.shown = true
structure Tolds (ds : List D) (ps : List PyData) : Prop where
  e : pys? ds = some ps
  sh : PyData.showableAll ps = true
  lay : PyData.canLayAll0 ps = true
  dp : PyData.depthAll ps ≤ dDps ds
  len : piled (PyData.shownAll ps) ≤ dSzs ds
  ok : ∀ t ∈ PyData.shownAll ps, PyData.strOk t = true
mutual
theorem told_of : ∀ d : D, dOk d = true → ∃ p, Told d p
  | .non, _ => ⟨.none, rfl, by simp [PyData.showable], by simp [PyData.canLay0], by simp [PyData.depth], by simp only [PyData.shown]; decide, by simp only [PyData.shown]; exact ok_of _⟩
  | .bl b, _ => ⟨.bool b, rfl, by simp [PyData.showable], by simp [PyData.canLay0], by simp [PyData.depth], by simp only [PyData.shown]; cases b <;> decide, by simp only [PyData.shown]; cases b <;> exact ok_of _⟩
  | .int i, h => by
    have hi : i.natAbs < 2 ^ 600 := by simpa only [dOk, decide_eq_true_eq] using h
    refine ⟨.int i, rfl, ?_, by simp [PyData.canLay0], by simp [PyData.depth], ?_, by simp only [PyData.shown]; exact ok_of _⟩
    · simp only [PyData.showable]
      by_cases z : i.natAbs = 0
      · rw [z]; decide
      · have := (Nat.log2_lt z).mpr hi
        exact decide_eq_true (by omega)
    · simp only [PyData.shown]
      have := intStr_len (k := 601) (by decide) (Nat.lt_of_lt_of_le hi (Nat.le_trans (Nat.pow_le_pow_left (show 2 ≤ 10 by decide) 600) (Nat.pow_le_pow_right (by decide) (by decide))))
      exact this
  | .lst xs, h => by
    obtain ⟨ps, t⟩ := tolds_of xs (by simpa [dOk] using h)
    refine ⟨.list ps, ?_, by simp only [PyData.showable]; exact t.sh, by simp only [PyData.canLay0]; exact t.lay, by have := t.dp; simp only [PyData.depth, dDp]; omega, ?_, ?_⟩
    · show (pys? xs).map PyData.list = _
      rw [t.e]; rfl
    · simp only [PyData.shown, dSz]
      have := listText_len (PyData.shownAll ps)
      have := t.len
      omega
    · simp only [PyData.shown]
      exact ok_listText _ t.ok
  | .tup xs, h => by
    obtain ⟨ps, t⟩ := tolds_of xs (by simpa [dOk] using h)
    refine ⟨.tuple ps, ?_, by simp only [PyData.showable]; exact t.sh, by simp only [PyData.canLay0]; exact t.lay, by have := t.dp; simp only [PyData.depth, dDp]; omega, ?_, ?_⟩
    · show (pys? xs).map PyData.tuple = _
      rw [t.e]; rfl
    · simp only [PyData.shown, dSz]
      have := tupleText_len (PyData.shownAll ps)
      have := t.len
      omega
    · simp only [PyData.shown]
      exact ok_tupleText _ t.ok
  | .str _, h => by simp [dOk] at h
  | .scr _, h => by simp [dOk] at h
  | .ins _ _, h => by simp [dOk] at h
  | .exn _ _, h => by simp [dOk] at h
  | .dct, h => by simp [dOk] at h
theorem tolds_of : ∀ ds : List D, dOks ds = true → ∃ ps, Tolds ds ps
  | [], _ => ⟨[], rfl, by simp [PyData.showableAll], by simp [PyData.canLayAll0], by simp [PyData.depthAll], by simp [PyData.shownAll, piled], by simp [PyData.shownAll]⟩
  | d :: ds, h => by
    have h' : dOk d = true ∧ dOks ds = true := by simpa [dOks] using h
    obtain ⟨p, t⟩ := told_of d h'.1
    obtain ⟨ps, ts⟩ := tolds_of ds h'.2
    refine ⟨p :: ps, ?_, by simp [PyData.showableAll, t.sh, ts.sh], by simp [PyData.canLayAll0, t.lay, ts.lay], ?_, ?_, ?_⟩
    · show ((py? d).bind fun p => (pys? ds).map fun ps => p :: ps) = _
      rw [t.e, ts.e]; rfl
    · have := t.dp
      have := ts.dp
      simp only [PyData.depthAll, dDps]
      omega
    · have := t.len
      have := ts.len
      simp only [PyData.shownAll, piled_cons, dSzs]
      omega
    · intro u hu
      simp only [PyData.shownAll, List.mem_cons] at hu
      rcases hu with rfl | hu
      · exact t.ok
      · exact ts.ok u hu
end
theorem repr_of {d : D} (h : dOk d = true) (hs : dSz d ≤ sizeLine) (hd : dDp d ≤ 60) : ∃ s, oRepr d = some (.str s) ∧ PyData.strOk s = true := by
  obtain ⟨p, t⟩ := told_of d h
  refine ⟨p.shown, ?_, t.ok⟩
  have h1 := t.sh
  have h2 := PyData.hasDict_of_canLay p t.lay
  have h3 : p.depth ≤ 60 := Nat.le_trans t.dp hd
  have h4 : p.shown.length ≤ sizeLine := Nat.le_trans t.len hs
  unfold oRepr
  rw [t.e, Option.bind_some]
  have e := t.e
  have r : pyR p = some p.shown := by
    cases p with
    | none => simp [pyR, PyData.shown]
    | bool b => cases b <;> simp [pyR, PyData.shown]
    | int i =>
      simp only [PyData.showable] at h1
      simp only [pyR, PyData.shown]
      rw [if_pos (of_decide_eq_true h1)]
    | str x =>
      simp only [PyData.shown] at h4
      simp only [pyR, PyData.shown]
      rw [if_pos h4]
    | list xs => simp only [pyR, h1, h2, decide_eq_true h3, decide_eq_true h4]; rfl
    | tuple xs => simp only [pyR, h1, h2, decide_eq_true h3, decide_eq_true h4]; rfl
    | dict kvs => have := t.lay; simp [PyData.canLay0] at this
  rw [r]; rfl
theorem eqv_str (s : Str) : PyData.eqv (.str s) (.str s) = true := by simp [PyData.eqv]
theorem eqD_str {neg : Bool} {s : Str} (h : PyData.strOk s = true) : eqD neg (.str s) (.str s) = some (.bl (!neg)) := by
  show (if SeqAt.shaped (.str s) && SeqAt.shaped (.str s) then some (D.bl (if neg then !PyData.eqv (.str s) (.str s) else PyData.eqv (.str s) (.str s))) else none) = _
  rw [eqv_str]
  have : SeqAt.shaped (.str s) = true := by simp [SeqAt.shaped, PyData.canLay0, PyData.depth, h]
  rw [this]
  cases neg <;> rfl
theorem eqvAll_I : ∀ xs : List Int, PyData.eqvAll (xs.map PyData.int) (xs.map PyData.int) = true
  | [] => by simp [PyData.eqvAll]
  | x :: xs => by simp [PyData.eqvAll, PyData.eqv, eqvAll_I xs]
theorem shaped_T (cs : List Int) : SeqAt.shaped (.tuple (cs.map PyData.int)) = true := by
  obtain ⟨a, b⟩ := lay_I cs
  simp [SeqAt.shaped, PyData.canLay0, PyData.depth, a, b]
theorem eqvAll_II : ∀ xs ys : List Int, PyData.eqvAll (xs.map PyData.int) (ys.map PyData.int) = decide (xs = ys)
  | [], [] => by simp [PyData.eqvAll]
  | [], y :: ys => by simp [PyData.eqvAll]
  | x :: xs, [] => by simp [PyData.eqvAll]
  | x :: xs, y :: ys => by
    simp only [List.map_cons, PyData.eqvAll, PyData.eqv, eqvAll_II xs ys]
    by_cases h1 : x = y <;> by_cases h2 : xs = ys <;> simp [h1, h2]
/-- tuples of numbers compared -/
theorem eqD_TT {neg : Bool} (xs ys : List Int) : eqD neg (.tup (I xs)) (.tup (I ys)) = some (.bl (if neg then !decide (xs = ys) else decide (xs = ys))) := by
  have e1 : ∀ xs : List Int, py? (.tup (I xs)) = some (.tuple (xs.map PyData.int)) := fun xs => by
    show (pys? (I xs)).map PyData.tuple = _
    rw [pys_I]; rfl
  have e4 : PyData.eqv (.tuple (xs.map PyData.int)) (.tuple (ys.map PyData.int)) = decide (xs = ys) := by
    simp only [PyData.eqv]
    exact eqvAll_II xs ys
  unfold eqD
  rw [e1, e1]
  dsimp only
  rw [shaped_T, shaped_T, e4]
  rfl
theorem eqD_LL {neg : Bool} (xs ys : List Int) : eqD neg (.lst (I xs)) (.lst (I ys)) = some (.bl (if neg then !decide (xs = ys) else decide (xs = ys))) := by
  have e1 : ∀ xs : List Int, py? (.lst (I xs)) = some (.list (xs.map PyData.int)) := fun xs => by
    show (pys? (I xs)).map PyData.list = _
    rw [pys_I]; rfl
  have e4 : PyData.eqv (.list (xs.map PyData.int)) (.list (ys.map PyData.int)) = decide (xs = ys) := by
    simp only [PyData.eqv]
    exact eqvAll_II xs ys
  unfold eqD
  rw [e1, e1]
  dsimp only
  rw [shaped_I, shaped_I, e4]
  rfl
theorem eqD_T {neg : Bool} (xs : List Int) : eqD neg (.tup (I xs)) (.tup (I xs)) = some (.bl (!neg)) := by
  rw [eqD_TT]; cases neg <;> simp
theorem eqD_t2 {neg : Bool} {a b c d : Int} : eqD neg (.tup [.int a, .int b]) (.tup [.int c, .int d]) = some (.bl (if neg then !decide (a = c ∧ b = d) else decide (a = c ∧ b = d))) := by
  have := eqD_TT (neg := neg) [a, b] [c, d]
  simpa using this
theorem eqD_t3 {neg : Bool} {a b c : Int} : eqD neg (.tup [.int a, .int b, .int c]) (.tup [.int a, .int b, .int c]) = some (.bl (!neg)) := eqD_T [a, b, c]
theorem eqD_t4 {neg : Bool} {a b c d : Int} : eqD neg (.tup [.int a, .int b, .int c, .int d]) (.tup [.int a, .int b, .int c, .int d]) = some (.bl (!neg)) := eqD_T [a, b, c, d]
theorem repr_i {a : Int} (ha : a.natAbs < 2 ^ 600) : ∃ s, oRepr (.int a) = some (.str s) ∧ PyData.strOk s = true := repr_of (by simp [dOk, ha]) (by simp only [dSz]; decide) (by simp [dDp])
def noF_ : Ev → Fl := retF (up (ct (.bl false)))
theorem le4 : (4 : Nat) ≤ sizeLine := by decide
theorem le3 : (3 : Nat) ≤ sizeLine := by decide
theorem z1s : (1 : Nat) ≤ sizeLine := by decide
theorem z2s : (2 : Nat) ≤ sizeLine := by decide
theorem noF_ifF {c : Ev → Rs Bool} {ρ ρ1 : Ev} (e : c ρ = .ok false ρ1) : ifF c noF_ Fl.nx ρ = .nx ρ1 := by
  rw [ifF_ap, e]; rfl
@[simp] theorem fl_exc {α : Type} {c : Nat} {fs : List D} {ρ : Ev} {h : α → Ev → Fl} : (Rs.exc c fs ρ : Rs α).fl h = .exc c fs ρ := rfl
@[simp] theorem seq_exc {c : Nat} {fs : List D} {ρ : Ev} {g : Ev → Fl} : (Fl.exc c fs ρ).seq g = .exc c fs ρ := rfl
/-- a heard exception -/
theorem heard_x {h : Option (Nat × List D) → Option D} {f : Ev → Rs D} {ρ ρ1 : Ev} {c : Nat} {fs : List D} {r : D} (e : f ρ = .exc c fs ρ1) (eh : h (some (c, fs)) = some r) : heardE h f ρ = .ok r ρ1 := by
  unfold heardE
  rw [e]
  dsimp only
  rw [eh]
  rfl
end PL
/-! PR2: data, texts among it, equals itself -/
namespace PL
open PySem L2
mutual
def qOk : D → Bool
  | .non => true
  | .bl _ => true
  | .int _ => true
  | .str x => PyData.strOk x
  | .lst xs => qOks xs
  | .tup xs => qOks xs
  | _ => false
def qOks : List D → Bool
  | [] => true
  | d :: ds => qOk d && qOks ds
end
mutual
theorem same_of : ∀ d : D, qOk d = true → ∃ p, py? d = some p ∧ p.canLay0 = true ∧ p.depth ≤ dDp d ∧ PyData.eqv p p = true
  | .non, _ => ⟨.none, rfl, by simp [PyData.canLay0], by simp [PyData.depth], by simp [PyData.eqv]⟩
  | .bl b, _ => ⟨.bool b, rfl, by simp [PyData.canLay0], by simp [PyData.depth], by simp [PyData.eqv]⟩
  | .int i, _ => ⟨.int i, rfl, by simp [PyData.canLay0], by simp [PyData.depth], by simp [PyData.eqv]⟩
  | .str x, h => ⟨.str x, rfl, by simpa [PyData.canLay0, qOk] using h, by simp [PyData.depth], by simp [PyData.eqv]⟩
  | .lst xs, h => by
    obtain ⟨ps, e, l, d, q⟩ := sames_of xs (by simpa [qOk] using h)
    refine ⟨.list ps, ?_, by simpa only [PyData.canLay0] using l, by simp only [PyData.depth, dDp]; omega, by simpa only [PyData.eqv] using q⟩
    show (pys? xs).map PyData.list = _
    rw [e]; rfl
  | .tup xs, h => by
    obtain ⟨ps, e, l, d, q⟩ := sames_of xs (by simpa [qOk] using h)
    refine ⟨.tuple ps, ?_, by simpa only [PyData.canLay0] using l, by simp only [PyData.depth, dDp]; omega, by simpa only [PyData.eqv] using q⟩
    show (pys? xs).map PyData.tuple = _
    rw [e]; rfl
  | .scr _, h => by simp [qOk] at h
  | .ins _ _, h => by simp [qOk] at h
  | .exn _ _, h => by simp [qOk] at h
  | .dct, h => by simp [qOk] at h
theorem sames_of : ∀ ds : List D, qOks ds = true → ∃ ps, pys? ds = some ps ∧ PyData.canLayAll0 ps = true ∧ PyData.depthAll ps ≤ dDps ds ∧ PyData.eqvAll ps ps = true
  | [], _ => ⟨[], rfl, by simp [PyData.canLayAll0], by simp [PyData.depthAll], by simp [PyData.eqvAll]⟩
  | d :: ds, h => by
    have h' : qOk d = true ∧ qOks ds = true := by simpa [qOks] using h
    obtain ⟨p, e, l, dp, q⟩ := same_of d h'.1
    obtain ⟨ps, es, ls, dps, qs⟩ := sames_of ds h'.2
    refine ⟨p :: ps, ?_, by simp [PyData.canLayAll0, l, ls], by simp only [PyData.depthAll, dDps]; omega, by simp [PyData.eqvAll, q, qs]⟩
    show ((py? d).bind fun p => (pys? ds).map fun ps => p :: ps) = _
    rw [e, es]; rfl
end
theorem eqD_refl {neg : Bool} {d : D} (h : qOk d = true) (hd : dDp d ≤ 64) : eqD neg d d = some (.bl (!neg)) := by
  obtain ⟨p, e, l, dp, q⟩ := same_of d h
  have s : SeqAt.shaped p = true := by
    unfold SeqAt.shaped
    rw [l, decide_eq_true (Nat.le_trans dp hd)]; rfl
  unfold eqD
  rw [e]
  dsimp only
  rw [s, q]
  cases neg <;> rfl
end PL
/-! PT: texts of numbers, and texts of items -/
namespace PL
open PySem L2 TL
abbrev nt (i : Int) : Str := Str.ofString (toString i)
theorem nt_tl_neg (n : Nat) : tl (nt (Int.negSucc n)) = 45 :: numL (n + 1) := by
  have q := tl_num (n + 1)
  rw [tl_ofString] at q
  have e : (toString (Int.negSucc n)).toList = '-' :: (toString (((n + 1 : Nat) : Int))).toList := by
    show ("-" ++ Nat.repr (n + 1)).toList = '-' :: (Nat.repr (n + 1)).toList
    rw [String.toList_append]
    rfl
  rw [tl_ofString, e, List.map_cons, q]
  rfl
theorem nt_tl (i : Int) : tl (nt i) = if i < 0 then 45 :: numL i.natAbs else numL i.natAbs := by
  cases i with
  | ofNat n =>
    rw [if_neg (by show ¬ ((n : Int) < 0); omega)]
    exact tl_num n
  | negSucc n =>
    rw [if_pos (Int.negSucc_lt_zero n), nt_tl_neg]
    rfl
/-- the digits of an item -/
def dg (l : List Nat) : List Nat := if l.head? = some 45 then l.tail else l
def isDg (c : Nat) : Bool := decide (48 ≤ c) && decide (c ≤ 57)
/-- an integer in its one way -/
def isNumL (l : List Nat) : Bool := decide (1 ≤ (dg l).length) && (decide ((dg l).length ≤ 60) && ((dg l).all isDg && (decide (l = [48]) || !decide ((dg l).head? = some 48))))
def intOf (x : Str) : Int := (intText? x).getD 0
theorem all_digits {l : List Nat} (h : l.all isDg = true) : NumText.AllDigits l := by
  intro c hc
  have q := List.all_eq_true.mp h c hc
  unfold isDg at q
  simp only [Bool.and_eq_true, decide_eq_true_eq] at q
  exact q
theorem digits_all {l : List Nat} (h : NumText.AllDigits l) : l.all isDg = true := by
  refine List.all_eq_true.mpr fun c hc => ?_
  have q := h c hc
  unfold isDg
  simp only [Bool.and_eq_true, decide_eq_true_eq]
  exact q
theorem numL_head {n : Nat} (h : 0 < n) : (numL n).head? ≠ some 48 := by
  induction n using Nat.strongRecOn with
  | _ n ih =>
    by_cases c : n < 10
    · rw [numL_lt c]
      simp
      omega
    · have := ih (n / 10) (by omega) (by omega)
      rw [numL_step (by omega), List.head?_append]
      cases e : (numL (n / 10)).head? with
      | none => exact absurd (List.head?_eq_none_iff.mp e) (numL_ne _)
      | some d =>
        rw [e] at this
        simpa using this
theorem numL_head45 (n : Nat) : (numL n).head? ≠ some 45 := by
  intro h
  have m : 45 ∈ numL n := List.mem_of_mem_head? h
  exact numL_free (n := n) (s := 45) (by omega) m
theorem dg_nt (i : Int) : dg (tl (nt i)) = numL i.natAbs := by
  rw [nt_tl]
  by_cases c : i < 0
  · rw [if_pos c]; rfl
  · rw [if_neg c]
    unfold dg
    rw [if_neg (numL_head45 _)]
theorem nt_num {i : Int} (h : i.natAbs < 10 ^ 60) : isNumL (tl (nt i)) = true := by
  unfold isNumL
  rw [dg_nt]
  have l1 : 1 ≤ (numL i.natAbs).length := List.length_pos_iff.mpr (numL_ne _)
  have l2 : (numL i.natAbs).length ≤ 60 := numL_len (by decide) h
  have a := digits_all (numL_digits i.natAbs)
  simp only [l1, l2, a, decide_true, Bool.true_and]
  by_cases z : i.natAbs = 0
  · have : i = 0 := by omega
    subst this
    decide +kernel
  · have := numL_head (n := i.natAbs) (by omega)
    simp [this]
theorem nt_intOf {i : Int} (h : i.natAbs < 10 ^ 640) : intText? (nt i) = some i := by
  have l2 : (numL i.natAbs).length ≤ 640 := numL_len (by decide) h
  have e := nt_tl i
  by_cases c : i < 0
  · rw [if_pos c] at e
    have q := PySem.intText_neg (x := nt i) e (numL_digits _) (numL_ne _) (by rw [len_tl, e]; simp; omega)
    rw [q, numL_val]
    congr 1
    omega
  · rw [if_neg c] at e
    have q := PySem.intText_digits (x := nt i) (by show NumText.AllDigits (tl (nt i)); rw [e]; exact numL_digits _) (by show tl (nt i) ≠ []; rw [e]; exact numL_ne _) (by rw [len_tl, e]; omega)
    rw [q, show (nt i).cps.toList = numL i.natAbs from e, numL_val]
    congr 1
    omega
theorem intOf_nt {i : Int} (h : i.natAbs < 10 ^ 640) : intOf (nt i) = i := by unfold intOf; rw [nt_intOf h]; rfl
theorem num_parts {l : List Nat} (h : isNumL l = true) : 1 ≤ (dg l).length ∧ (dg l).length ≤ 60 ∧ (dg l).all isDg = true := by
  unfold isNumL at h
  simp only [Bool.and_eq_true, decide_eq_true_eq] at h
  exact ⟨h.1, h.2.1, h.2.2.1⟩
theorem num_int {x : Str} (h : isNumL (tl x) = true) : intText? x = some (intOf x) ∧ x.length ≤ 61 := by
  obtain ⟨h1, h2, h3⟩ := num_parts h
  have d := all_digits h3
  unfold dg at h1 h2 d
  by_cases c : (tl x).head? = some 45
  · rw [if_pos c] at h1 h2 d
    obtain ⟨cs, e⟩ : ∃ cs, tl x = 45 :: cs := by
      cases q : tl x with
      | nil => rw [q] at c; cases c
      | cons a cs => rw [q] at c; cases c; exact ⟨cs, rfl⟩
    rw [e] at h1 h2 d
    have q := PySem.intText_neg (x := x) e d (by intro z; rw [z] at h1; simp at h1) (by rw [len_tl, e]; simp at h2 ⊢; omega)
    exact ⟨by unfold intOf; rw [q]; rfl, by rw [len_tl, e]; simp at h2 ⊢; omega⟩
  · rw [if_neg c] at h1 h2 d
    have q := PySem.intText_digits (x := x) d (by intro z; have z : tl x = [] := z; rw [z] at h1; simp at h1) (by rw [len_tl]; omega)
    exact ⟨by unfold intOf; rw [q]; rfl, by rw [len_tl]; omega⟩
/-! ### items -/
theorem sp_tl : tl (Str.ofString " ") = [32] := by decide +kernel
theorem sp_len1 : (Str.ofString " ").length = 1 := by rw [len_tl, sp_tl]; rfl
theorem nt_free {i : Int} : 32 ∉ tl (nt i) := by
  rw [nt_tl]
  by_cases c : i < 0
  · rw [if_pos c]
    intro h
    rcases List.mem_cons.mp h with h | h
    · cases h
    · exact numL_free (by omega) h
  · rw [if_neg c]; exact numL_free (by omega)
theorem split_items {ps : List Str} (hne : ps ≠ []) (hp : ∀ p ∈ ps, 32 ∉ tl p) : Txt.split (Str.join (Str.ofString " ") ps) (Str.ofString " ") = ps := by
  have q := split_join (y := Str.ofString " ") sp_tl (by decide +kernel) hne hp
  rwa [join_eq] at q
theorem split_none : Txt.split (Str.join (Str.ofString " ") []) (Str.ofString " ") = [Str.empty] := by
  refine map_tl_inj ?_
  rw [split_spl _ _ (by rw [sp_tl]; simp) (kind_ok (by decide +kernel)), sp_tl]
  rfl
/-! ### how a text begins, its signs -/
theorem starts1 (x y : Str) {c : Nat} (hy : tl y = [c]) : Txt.startswith x y = decide ((tl x).head? = some c) := by
  have hl : y.length = 1 := by rw [len_tl, hy]; rfl
  unfold Txt.startswith
  rw [StrLaws.subAt_eq, hl]
  show (decide (0 + 1 ≤ x.length) && _) = _
  rw [len_tl]
  have e : y.cps.toList = [c] := hy
  rw [e, List.drop_zero]
  show (decide (0 + 1 ≤ (tl x).length) && ((tl x).take 1 == [c])) = _
  cases h : tl x with
  | nil => simp
  | cons a l =>
    by_cases q : a = c
    · subst q; simp
    · have : (a == c) = false := by simpa using q
      simp [q]
theorem minus_tl : tl (Str.ofString "-") = [45] := by decide +kernel
theorem zero_tl : tl (Str.ofString "0") = [48] := by decide +kernel
theorem cut1_tl (x : Str) : tl (cutS x (some 1) none) = (tl x).tail := by
  show ((tl x).drop (HT.sIx x.length 0 (some 1))).take (HT.sIx x.length x.length none - HT.sIx x.length 0 (some 1)) = _
  rw [HT.sIx_none, show (1 : Int) = ((1 : Nat) : Int) from rfl, HT.sIx_nat, len_tl]
  cases h : tl x with
  | nil => rfl
  | cons a l => simp
theorem digit_in {c : Nat} : decide (c ∈ (Str.ofString "0123456789").cps.toList) = isDg c := by
  have e : (Str.ofString "0123456789").cps.toList = [48, 49, 50, 51, 52, 53, 54, 55, 56, 57] := by decide +kernel
  rw [e]
  unfold isDg
  rw [← Bool.decide_and]
  refine decide_eq_decide.mpr ?_
  simp only [List.mem_cons, List.not_mem_nil, or_false]
  omega
theorem shaped_str {s : Str} (h : PyData.strOk s = true) : SeqAt.shaped (.str s) = true := by
  simp [SeqAt.shaped, PyData.canLay0, PyData.depth, h]
theorem eqD_strs {neg : Bool} {a b : Str} (h1 : PyData.strOk a = true) (h2 : PyData.strOk b = true) : eqD neg (.str a) (.str b) = some (.bl (if neg then !decide (a = b) else decide (a = b))) := by
  unfold eqD
  show (if (SeqAt.shaped (.str a) && SeqAt.shaped (.str b)) = true then _ else none) = _
  rw [shaped_str h1, shaped_str h2]
  have e : PyData.eqv (.str a) (.str b) = decide (a = b) := by
    unfold PyData.eqv
    by_cases q : a = b
    · subst q; simp
    · simp [q]
  simp [e]
theorem ok_mk {l : List Nat} (h : ∀ c ∈ l, c < 1114112) : PyData.strOk ⟨l.toArray⟩ = true := by
  unfold PyData.strOk
  rw [List.all_toArray]
  exact List.all_eq_true.mpr fun c hc => decide_eq_true (h c hc)
theorem ok_tl {x : Str} (h : ∀ c ∈ tl x, c < 1114112) : PyData.strOk x = true := by
  rw [← mk_tl x]; exact ok_mk h
theorem str_inj {a b : String} : (Str.ofString a = Str.ofString b) ↔ a = b := by
  constructor
  · intro h
    have q : tl (Str.ofString a) = tl (Str.ofString b) := by rw [h]
    rw [tl_ofString, tl_ofString] at q
    have : a.toList = b.toList := by
      refine List.map_inj_right (f := Char.toNat) (fun x y e => ?_) |>.mp q
      exact Char.ext (UInt32.toNat_inj.mp e)
    exact String.toList_inj.mp this
  · intro h; rw [h]
end PL
namespace PL
open PySem L2
theorem sc_ : Scoop m__law_sip := by
  have e : m__law_sip = runM 6 (scoopB true false true true false false true true true true false 88069 7211 2147483587 61051 7211 2147483563 3907 88069 61051 2147483629 64) := rfl
  rw [e]
  exact scoop_gen _ _ _ _ _ _ _ _ _ _ _ ⟨by decide, by decide, by decide, by decide, by decide, by decide, by decide, by decide, by decide, by decide, by decide⟩
theorem box_ {ns : List Int} (h : ns.length ≤ 1000) : ∃ xs, m__law_can [.scr ns] = .ok xs ∧ Cup 0 xs := by
  have e : m__law_can = runL 2 (boxB 63) := rfl
  rw [e]
  exact box_gen _ h
theorem pick_ {N : Nat} {xs ds : List D} (h : Cup N xs) (hN : N ≤ 1000000) (hd : ds ≠ []) (hl : ds.length < 1000000) : ∃ d ∈ ds, ∃ xs', m__law_choose xs [.lst ds] = .ok d xs' ∧ Cup (N + 1) xs' := by
  have e : m__law_choose = runM 2 (pickB m__law_sip) := rfl
  rw [e]
  exact pick_gen sc_ h hN hd hl
@[simp] theorem at2_0 {x y : D} : atI [x, y] 0 = some x := rfl
@[simp] theorem at2_1 {x y : D} : atI [x, y] 1 = some y := rfl
theorem ti1 (n : Int) : m_is_integer [.int n] = .ok (.bl true) := rfl
theorem t_needint {n : Int} {s : D} : m_need_integer [.int n, s] = .ok .non := by
  unfold m_need_integer b_need_integer
  simp [env0, ti1]
def pairD (a b : Int) : D := .ins 0 [.int a, .int b, .int (a * a + b * b)]
theorem st1 : (Str.ofString "other" = Str.ofString "one") = False := by decide
theorem st2 : (Str.ofString "norm" = Str.ofString "one") = False := by decide
theorem st3 : (Str.ofString "norm" = Str.ofString "other") = False := by decide
theorem t_pairinit {a b : Int} (ha : Sm a) (hb : Sm b) : m_Pair_init [.int a, .int b] = .ok [("one", .int a), ("other", .int b), ("norm", .int (a * a + b * b))] := by
  unfold m_Pair_init b_Pair_init runI
  simp [env0, t_needint, oTimes_sm ha ha, oTimes_sm hb hb, outI, fldF, nC, fnTab, st1, st2, st3]
theorem mkP {a b : Int} {ρ : Ev} (ha : Sm a) (hb : Sm b) : mkR 0 ["one", "other", "norm"] m_Pair_init [.int a, .int b] ρ = .ok (pairD a b) ρ := by
  unfold mkR
  rw [t_pairinit ha hb]
  rfl
@[simp] theorem mtP {fn : List D → Fr} {ks : Ev → Rs (List D)} {ρ : Ev} {a b : Int} : mtR 0 fn ks (pairD a b) ρ = (ks ρ).bind fun ds ρ2 => frR (fn (pairD a b :: ds)) ρ2 := mtR_ins
@[simp] theorem mt0P {fn : List D → Fr} {ρ : Ev} {a b : Int} : mt0R 0 fn (pairD a b) ρ = frR (fn [pairD a b]) ρ := mt0R_ins
@[simp] theorem at_one {a b : Int} : attr nC fnTab "one" (pairD a b) = some (.int a) := rfl
@[simp] theorem at_other {a b : Int} : attr nC fnTab "other" (pairD a b) = some (.int b) := rfl
@[simp] theorem at_norm {a b : Int} : attr nC fnTab "norm" (pairD a b) = some (.int (a * a + b * b)) := rfl
@[simp] theorem isa_pair {a b : Int} : isaC nC subs 0 (pairD a b) = some true := by
  show (if 0 < nC then some (subs 0 0) else none) = some true
  decide +kernel
def rx (p a b : Int) : Int := if p % 4 = 0 then a else if p % 4 = 1 then -b else if p % 4 = 2 then -a else b
def ry (p a b : Int) : Int := if p % 4 = 0 then b else if p % 4 = 1 then a else if p % 4 = 2 then -b else -a
theorem Sm.neg {a : Int} (h : Sm a) : Sm (-a) := by unfold Sm at *; rwa [Int.natAbs_neg]
theorem t_timesi {a b p : Int} (ha : Sm a) (hb : Sm b) : m_Pair_times_i [pairD a b, .int p] = .ok (pairD (rx p a b) (ry p a b)) := by
  have m : oMod (.int p) (.int 4) = some (.int (p % 4)) := oMod_ii (by decide)
  have r : p % 4 = 0 ∨ p % 4 = 1 ∨ p % 4 = 2 ∨ p % 4 = 3 := by omega
  have r0 : rangeL 0 0 = [] := rfl
  have r1 : rangeL 0 1 = [.int 0] := rfl
  have r2 : rangeL 0 2 = [.int 0, .int 1] := rfl
  have r3 : rangeL 0 3 = [.int 0, .int 1, .int 2] := rfl
  unfold m_Pair_times_i b_Pair_times_i
  rcases r with r | r | r | r
  all_goals
    simp [env0, t_needint, m, r, r0, r1, r2, r3, forL_cons, rx, ry]
    rw [mkP (by first | exact ha | exact hb | exact ha.neg | exact hb.neg) (by first | exact ha | exact hb | exact ha.neg | exact hb.neg)]
    simp
theorem sm_of {a : Int} {k : Nat} (h : a.natAbs < 2 ^ k) (hk : k ≤ 400000 := by decide) : Sm a := Sm.of h hk
theorem p7 : oPow (.int 10) (.int 7) = some (.int 10000000) := by rw [oPow_ii (by decide) (by decide) (by decide)]; rfl
theorem natAbs_mul_lt {a b : Int} {m n : Nat} (h1 : a.natAbs < 2 ^ m) (h2 : b.natAbs < 2 ^ n) : (a * b).natAbs < 2 ^ (m + n) := by
  rw [Int.natAbs_mul, Nat.pow_add]
  exact Nat.mul_lt_mul_of_lt_of_le h1 (Nat.le_of_lt h2) (Nat.two_pow_pos _)
theorem sm0 : Sm 0 := sm_of (k := 1) (by decide)
theorem sm1 : Sm 1 := sm_of (k := 1) (by decide)
theorem en {neg : Bool} : eqD neg (.lst []) (.lst []) = some (.bl (!neg)) := by
  have := eqD_nil (neg := neg) []
  rw [show I [] = [] from rfl] at this
  rw [this]; cases neg <;> rfl
theorem isA_ff : isA true (.bl false) (.bl false) = some (.bl false) := rfl
theorem isA_tt : isA true (.bl true) (.bl true) = some (.bl false) := rfl
section
variable {a b c d : Int}
theorem t_mul {m : Nat} (ha : a.natAbs < 2 ^ m) (hb : b.natAbs < 2 ^ m) (hc : c.natAbs < 2 ^ m) (hd : d.natAbs < 2 ^ m) (hm : m ≤ 1000) : oBinC 0 m_Pair___mul__ (pairD a b) (pairD c d) = some (pairD (a * c - b * d) (a * d + b * c)) ∧ (a * c - b * d).natAbs < 2 ^ (m + m + 1) ∧ (a * d + b * c).natAbs < 2 ^ (m + m + 1) := by
  have e : 2 ^ (m + m + 1) = 2 * 2 ^ (m + m) := by rw [Nat.pow_succ]; omega
  have b1 := natAbs_mul_lt ha hc
  have b2 := natAbs_mul_lt hb hd
  have b3 := natAbs_mul_lt ha hd
  have b4 := natAbs_mul_lt hb hc
  have h1 : (a * c - b * d).natAbs < 2 ^ (m + m + 1) := by
    rw [e]
    generalize a * c = x at *
    generalize b * d = y at *
    omega
  have h2 : (a * d + b * c).natAbs < 2 ^ (m + m + 1) := by
    rw [e]
    generalize a * d = x at *
    generalize b * c = y at *
    omega
  refine ⟨?_, h1, h2⟩
  have sa := Sm.of ha (by omega)
  have sb := Sm.of hb (by omega)
  have sc := Sm.of hc (by omega)
  have sd := Sm.of hd (by omega)
  have mk := fun ρ => mkP (ρ := ρ) (Sm.of h1 (by omega)) (Sm.of h2 (by omega))
  have q : m_Pair___mul__ [pairD a b, pairD c d] = .ok (pairD (a * c - b * d) (a * d + b * c)) := by
    unfold m_Pair___mul__ b_Pair___mul__
    simp [env0, blO, oTimes_sm sa sc, oTimes_sm sb sd, oTimes_sm sa sd, oTimes_sm sb sc, mk]
  show (if 0 = 0 ∧ 0 = 0 then (match m_Pair___mul__ [pairD a b, pairD c d] with | .ok (.ins c3 hs) => some (D.ins c3 hs) | _ => none) else none) = _
  rw [if_pos ⟨rfl, rfl⟩, q]
  rfl
theorem t_neg (sa : Sm a) (sb : Sm b) : oNegC 0 m_Pair___neg__ (pairD a b) = some (pairD (-a) (-b)) := by
  have mk := fun ρ => mkP (ρ := ρ) sa.neg sb.neg
  have q : m_Pair___neg__ [pairD a b] = .ok (pairD (-a) (-b)) := by
    unfold m_Pair___neg__ b_Pair___neg__
    simp [env0, mk]
  show (if 0 = 0 then (match m_Pair___neg__ [pairD a b] with | .ok d => some d | _ => none) else none) = _
  rw [if_pos rfl, q]
theorem t_flip (sa : Sm a) (sb : Sm b) : m_Pair_flipped [pairD a b] = .ok (pairD a (-b)) := by
  have mk := fun ρ => mkP (ρ := ρ) sa sb.neg
  unfold m_Pair_flipped b_Pair_flipped
  simp [env0, mk]
theorem t_sub {m : Nat} (ha : a.natAbs < 2 ^ m) (hb : b.natAbs < 2 ^ m) (hc : c.natAbs < 2 ^ m) (hd : d.natAbs < 2 ^ m) (hm : m ≤ 10000) : oBinC 0 m_Pair___sub__ (pairD a b) (pairD c d) = some (pairD (a - c) (b - d)) := by
  have e : 2 ^ (m + 1) = 2 * 2 ^ m := by rw [Nat.pow_succ]; omega
  have mk := fun ρ => mkP (a := a - c) (b := b - d) (ρ := ρ) (Sm.of (k := m + 1) (by rw [e]; omega) (by omega)) (Sm.of (k := m + 1) (by rw [e]; omega) (by omega))
  have q : m_Pair___sub__ [pairD a b, pairD c d] = .ok (pairD (a - c) (b - d)) := by
    unfold m_Pair___sub__ b_Pair___sub__
    simp [env0, blO, mk]
  show (if 0 = 0 ∧ 0 = 0 then (match m_Pair___sub__ [pairD a b, pairD c d] with | .ok (.ins c3 hs) => some (D.ins c3 hs) | _ => none) else none) = _
  rw [if_pos ⟨rfl, rfl⟩, q]
  rfl
theorem t_add {m : Nat} (ha : a.natAbs < 2 ^ m) (hb : b.natAbs < 2 ^ m) (hc : c.natAbs < 2 ^ m) (hd : d.natAbs < 2 ^ m) (hm : m ≤ 10000) : oBinC 0 m_Pair___add__ (pairD a b) (pairD c d) = some (pairD (a + c) (b + d)) := by
  have e : 2 ^ (m + 1) = 2 * 2 ^ m := by rw [Nat.pow_succ]; omega
  have mk := fun ρ => mkP (a := a + c) (b := b + d) (ρ := ρ) (Sm.of (k := m + 1) (by rw [e]; omega) (by omega)) (Sm.of (k := m + 1) (by rw [e]; omega) (by omega))
  have q : m_Pair___add__ [pairD a b, pairD c d] = .ok (pairD (a + c) (b + d)) := by
    unfold m_Pair___add__ b_Pair___add__
    simp [env0, blO, mk]
  show (if 0 = 0 ∧ 0 = 0 then (match m_Pair___add__ [pairD a b, pairD c d] with | .ok (.ins c3 hs) => some (D.ins c3 hs) | _ => none) else none) = _
  rw [if_pos ⟨rfl, rfl⟩, q]
  rfl
theorem t_eq : m_Pair___eq__ [pairD a b, pairD c d] = .ok (.bl (decide (a = c) && decide (b = d))) := by
  unfold m_Pair___eq__ b_Pair___eq__
  by_cases h : a = c <;> simp [env0, blO, h]
theorem t_eqx {o : D} (h : isaC nC subs 0 o = some false) : m_Pair___eq__ [pairD a b, o] = .ok (.bl false) := by
  unfold m_Pair___eq__ b_Pair___eq__
  simp [env0, blO, h]
theorem eqO_pp {neg : Bool} : eqO neg nC eqTab (pairD a b) (pairD c d) = some (.bl (if neg then !(decide (a = c) && decide (b = d)) else (decide (a = c) && decide (b = d)))) := by
  show (if 0 < nC then (match m_Pair___eq__ [pairD a b, pairD c d] with | .ok (.bl r) => some (D.bl (if neg then !r else r)) | _ => none) else none) = _
  rw [if_pos (by decide), t_eq]
theorem eqM_px {o : D} {t : String} (h : isaC nC subs 0 o = some false) (ht : tyN o = some t) : eqM false nC eqTab (pairD a b) o = some (.bl false) := by
  unfold eqM pairD
  dsimp only
  rw [ht]
  show (match m_Pair___eq__ [pairD a b, o] with | .ok (.bl r) => some (D.bl (if false then !r else r)) | _ => none) = _
  rw [t_eqx h]
  rfl
theorem t_str (ha : a.natAbs < 10 ^ 500) (hb : b.natAbs < 10 ^ 500) : m_Pair___str__ [pairD a b] = .ok (.str (Str.join (Str.ofString " ") [nt a, nt b])) := by
  have l : ∀ {i : Int}, i.natAbs < 10 ^ 500 → i.natAbs.log2 < 1920 := fun {i} h => by
    by_cases z : i.natAbs = 0
    · rw [z]; decide
    · exact (Nat.log2_lt z).mpr (Nat.lt_trans h (by decide +kernel))
  have s1 := l ha
  have s2 := l hb
  have e1 : oStr (.int a) = some (.str (nt a)) := by unfold oStr; exact if_pos s1
  have e2 : oStr (.int b) = some (.str (nt b)) := by unfold oStr; exact if_pos s2
  have l1 : (nt a).length ≤ 501 := intStr_len (k := 500) (by decide) ha
  have l2 : (nt b).length ≤ 501 := intStr_len (k := 500) (by decide) hb
  have j : oJoin (.str (Str.ofString " ")) (.lst [.str (nt a), .str (nt b)]) = some (.str (Str.join (Str.ofString " ") [nt a, nt b])) := by
    show (if ([nt a, nt b].map (·.length)).sum + [nt a, nt b].length * (Str.ofString " ").length ≤ 16777216 then some (D.str (Str.join (Str.ofString " ") [nt a, nt b])) else none) = _
    rw [if_pos]
    rw [sp_len1]
    simp only [List.map_cons, List.map_nil, List.sum_cons, List.sum_nil, List.length_cons, List.length_nil]
    omega
  unfold m_Pair___str__ b_Pair___str__
  simp [env0, e1, e2, z2s, j]
end
end PL
namespace PL
open PySem L2 TL
/-! ### texts, as the program reads them -/
abbrev cTxt : Nat := 3
theorem isa_ss {x : Str} : isaT nC "str" (.str x) = some true := rfl
theorem t_items {x : Str} (h : x.length + 2 ≤ sizeLine) : m_items_of [.str x] = .ok (.lst ((Txt.split x (Str.ofString " ")).map .str)) := by
  have e : oSplit (.str x) (.str (Str.ofString " ")) = some ((Txt.split x (Str.ofString " ")).map .str) := by
    show (if ((Str.ofString " ").length == 0) = false ∧ x.length + 2 ≤ sizeLine then _ else none) = _
    rw [if_pos ⟨by rw [sp_len1]; rfl, h⟩]
  unfold m_items_of b_items_of
  simp [env0, blO, isa_ss, splitF, e]
theorem x_items {o : D} (h : isaT nC "str" o = some false) : m_items_of [o] = .exc cTxt [.int 0, .int 0] := by
  unfold m_items_of b_items_of
  simp [env0, blO, h, raiseF]
theorem oLen_s {x : Str} (h : x.length ≤ sizeLine) : (orU oLen oLenS) (.str x) = some (.int x.length) := by
  show oLenS (.str x) = _
  show (if x.length ≤ sizeLine then _ else none) = _
  rw [if_pos h]
theorem starts_m {x : Str} : oStarts (.str x) (.str (Str.ofString "-")) = some (.bl (decide ((tl x).head? = some 45))) := by
  show some (D.bl (Txt.startswith x (Str.ofString "-"))) = _
  rw [starts1 x _ minus_tl]
theorem starts_z {x : Str} : oStarts (.str x) (.str (Str.ofString "0")) = some (.bl (decide ((tl x).head? = some 48))) := by
  show some (D.bl (Txt.startswith x (Str.ofString "0"))) = _
  rw [starts1 x _ zero_tl]
/-- the digits, as a text -/
def dgS (x : Str) : Str := if (tl x).head? = some 45 then cutS x (some 1) none else x
theorem dgS_tl (x : Str) : tl (dgS x) = dg (tl x) := by
  unfold dgS dg
  by_cases h : (tl x).head? = some 45
  · rw [if_pos h, if_pos h, cut1_tl]
  · rw [if_neg h, if_neg h]
def sgB : D → D
  | .str a => .bl (isDg (a.cps.getD 0 0))
  | _ => .non
theorem all_signs (x : Str) : oAll (.lst ((chrs x).map sgB)) = some (.bl ((tl x).all isDg)) := by
  have e : ((chrs x).map sgB) = ((tl x).map isDg).map D.bl := by
    show ((x.cps.toList.map fun c => D.str ⟨#[c]⟩).map _) = (x.cps.toList.map isDg).map D.bl
    rw [List.map_map, List.map_map]
    rfl
  have b : ∀ bs : List Bool, blsOf (bs.map D.bl) = some bs := by
    intro bs
    induction bs with
    | nil => rfl
    | cons b bs ih => show (blsOf (bs.map D.bl)).map (b :: ·) = _; rw [ih]; rfl
  show (blsOf _).map _ = _
  rw [e, b]
  show some (D.bl (((tl x).map isDg).all id)) = _
  rw [List.all_map]
  rfl
noncomputable def in1 : Ev → Fl := (setF 1 (ifE (asB (up (q2 oStarts (bn 0) (ct (.str "-"))))) (slS (fz 0) (asO (up (ct (.int 1)))) noO) (fz 0)))
noncomputable def in2 : Ev → Fl := (ifF (notT (asB (up (chQ oLe oLe (ct (.int 1)) (q1 (orU oLen oLenS) (bn 1)) (ct (.int 60))))))
  (retF (up (ct (.bl false))))
  Fl.nx)
noncomputable def in3 : Ev → Fl := (ifF (notT (asB (e1 oAll (asL (compF [2] (tnm 2) (chrE (fz 1)) yesT (up (q2 (oInSign false) (bn 2) (ct (.str "0123456789")))))))))
  (retF (up (ct (.bl false))))
  Fl.nx)
noncomputable def in4 : Ev → Fl := (retF (orE' (asB (up (q2 (eqD false) (bn 0) (ct (.str "0"))))) (notE (asB (up (q2 oStarts (bn 1) (ct (.str "0"))))))))
theorem in_eq : b_is_number = (sq in1 (sq in2 (sq in3 in4))) := rfl
theorem in1_ev {x : Str} {r1 r2 : Sl} (h : x.length ≤ sizeLine) : in1 [.val (.str x), r1, r2] = .nx [.val (.str x), .val (.str (dgS x)), r2] := by
  unfold in1 dgS slS
  by_cases c : (tl x).head? = some 45
  · simp [starts_m, c, asO, noO, h]
  · simp [starts_m, c]
theorem in2_t {x y : Str} {r2 : Sl} (h : y.length ≤ sizeLine) (h1 : 1 ≤ y.length) (h2 : y.length ≤ 60) : in2 [.val (.str x), .val (.str y), r2] = .nx [.val (.str x), .val (.str y), r2] := by
  have a1 : (1 : Int) ≤ y.length := by omega
  have a2 : (y.length : Int) ≤ 60 := by omega
  unfold in2
  simp [chQ, oLen_s h, a1, a2]
theorem in2_f {x y : Str} {r2 : Sl} (h : y.length ≤ sizeLine) (h1 : ¬ (1 ≤ y.length ∧ y.length ≤ 60)) : in2 [.val (.str x), .val (.str y), r2] = .rt (.bl false) [.val (.str x), .val (.str y), r2] := by
  unfold in2
  by_cases a1 : (1 : Int) ≤ y.length
  · have a2 : ¬ (y.length : Int) ≤ 60 := by omega
    simp [chQ, oLen_s h, a1, a2]
  · simp [chQ, oLen_s h, a1]
theorem in3_ev {x y : Str} (h : y.length ≤ sizeLine) : in3 [.val (.str x), .val (.str y), .no] = if (tl y).all isDg then .nx [.val (.str x), .val (.str y), .no] else .rt (.bl false) [.val (.str x), .val (.str y), .no] := by
  have cm := compL_all (vs := [2]) (tg := tnm 2) (c := yesT) (e := up (q2 (oInSign false) (bn 2) (ct (.str (Str.ofString "0123456789"))))) (ρ := [.val (.str x), .val (.str y), .no])
    sgB (chrs y) (fun d hd => by
      obtain ⟨c, _, rfl⟩ := List.mem_map.mp hd
      have e : oInSign false (.str ⟨#[c]⟩) (.str (Str.ofString "0123456789")) = some (.bl (isDg c)) := by
        show (if (#[c] : Array Nat).size = 1 then some (D.bl (if false then _ else decide ((#[c] : Array Nat).getD 0 0 ∈ (Str.ofString "0123456789").cps.toList))) else none) = _
        rw [if_pos (show (#[c] : Array Nat).size = 1 from rfl)]
        exact congrArg (fun b => some (D.bl b)) digit_in
      refine ⟨[.val (.str x), .val (.str y), .val (.str ⟨#[c]⟩)], by simp, [.val (.str x), .val (.str y), .val (.str ⟨#[c]⟩)], by simp, [.val (.str x), .val (.str y), .val (.str ⟨#[c]⟩)], ?_, by simp⟩
      simp [e, sgB])
  have l : (chrs y).length ≤ sizeLine := by
    unfold chrs
    rw [List.length_map, Array.length_toList]
    exact h
  have a := all_signs y
  unfold in3
  cases q : (tl y).all isDg with
  | true => rw [q] at a; simp [chrE, cm, l, a]
  | false => rw [q] at a; simp [chrE, cm, l, a]
theorem in4_ev {x y : Str} {r2 : Sl} (hx : PyData.strOk x = true) : in4 [.val (.str x), .val (.str y), r2] = .rt (.bl (decide (tl x = [48]) || !decide ((tl y).head? = some 48))) [.val (.str x), .val (.str y), r2] := by
  have e := eqD_strs (neg := false) hx (ok_of "0")
  have d : decide (x = Str.ofString "0") = decide (tl x = [48]) := by
    refine decide_eq_decide.mpr ⟨fun z => by rw [z, zero_tl], fun z => ext_tl (by rw [z, zero_tl])⟩
  unfold in4
  by_cases c : tl x = [48] <;> by_cases c2 : (tl y).head? = some 48 <;> simp [e, d, starts_z, c, c2]
theorem t_isnumber {x : Str} (hx : PyData.strOk x = true) (h : x.length ≤ sizeLine) : m_is_number [.str x] = .ok (.bl (isNumL (tl x))) := by
  have hl : (dgS x).length = (dg (tl x)).length := by rw [len_tl, dgS_tl]
  have hle : (dgS x).length ≤ sizeLine := by
    unfold dgS
    split
    · exact Nat.le_trans (cutS_length _ _ _) h
    · exact h
  unfold m_is_number isNumL
  rw [in_eq]
  have e1 := in1_ev (x := x) (r1 := .no) (r2 := .no) h
  by_cases c1 : 1 ≤ (dgS x).length ∧ (dgS x).length ≤ 60
  · have e2 := in2_t (x := x) (y := dgS x) (r2 := .no) hle c1.1 c1.2
    have e3 := in3_ev (x := x) (y := dgS x) hle
    have e4 := in4_ev (x := x) (y := dgS x) (r2 := .no) hx
    rw [dgS_tl] at e3 e4
    rw [hl] at c1
    cases c3 : (dg (tl x)).all isDg with
    | true => rw [c3] at e3; simp [env0, e1, e2, e3, e4, c1.1, c1.2]
    | false => rw [c3] at e3; simp [env0, e1, e2, e3, c1.1, c1.2]
  · have e2 := in2_f (x := x) (y := dgS x) (r2 := .no) hle c1
    rw [hl] at c1
    have c2 : (decide (1 ≤ (dg (tl x)).length) && decide ((dg (tl x)).length ≤ 60)) = false := by
      rw [← Bool.decide_and]; exact decide_eq_false c1
    rw [← Bool.and_assoc, c2]
    simp [env0, e1, e2]
end PL
namespace PL
open PySem L2 TL
/-! ### read_numbers -/
theorem t_within0 {n : Int} : m_is_within [.int n, .non, .non] = .ok (.bl true) := by
  unfold m_is_within b_is_within
  simp [env0, ti1, isA, orE, isN, isNon]
theorem t_withinL {n m : Int} : m_is_within [.int n, .int m, .non] = .ok (.bl (decide (m ≤ n))) := by
  unfold m_is_within b_is_within
  by_cases h : m ≤ n <;> simp [env0, ti1, isA, orE, isN, isNon, h]
def numOk (l : D) (x : Str) : Bool := isNumL (tl x) && (match l with | .int m => decide (m ≤ intOf x) | _ => true)
def Bnd (l : D) : Prop := l = .non ∨ ∃ m, l = .int m
theorem oIntS_num {x : Str} (h : isNumL (tl x) = true) : oIntS (.str x) = some (.int (intOf x)) := by
  obtain ⟨e, l⟩ := num_int h
  show (if x.length ≤ 640 then (intText? x).map D.int else none) = _
  rw [if_pos (by omega), e]
  rfl
theorem t_numfrom {x : Str} {l : D} (hx : PyData.strOk x = true) (h : x.length ≤ sizeLine) (hl : Bnd l) : m_is_number_from [.str x, l] = .ok (.bl (numOk l x)) := by
  have e := t_isnumber hx h
  unfold m_is_number_from b_is_number_from numOk
  cases c : isNumL (tl x) with
  | false => rw [c] at e; simp [env0, e]
  | true =>
    rw [c] at e
    have i := oIntS_num c
    rcases hl with rfl | ⟨m, rfl⟩
    · simp [env0, e, i, t_within0]
    · simp [env0, e, i, t_withinL]
def lp (ls : List D) : Nat → List Str → Option Nat
  | _, [] => none
  | k, x :: xs => if k = ls.length ∨ numOk (ls.getD k .non) x = false then some k else lp ls (k + 1) xs
noncomputable def rn1 : Ev → Fl := (setF 2 (callE m_items_of (consA (fz 0) nilA)))
noncomputable def rnB : Ev → Fl := (ifF (orT (asB (up (q2 (eqD false) (bn 3) (q1 (orU oLen oLenS) (bn 1))))) (notT (asB (callE m_is_number_from (consA (fz 4) (consA (up (q2 oIx (bn 1) (bn 3))) nilA))))))
  (raiseF 3 2 (consA (up (ct (.int 0))) (consA (fz 3) nilA)))
  Fl.nx)
noncomputable def rn2 : Ev → Fl := (forF (ttup 2 (tcons (tnm 3) (tcons (tnm 4) tnil))) (enumE (consA (fz 2) nilA)) rnB)
noncomputable def rn3 : Ev → Fl := (dropF (callE m_need_many (consA (fz 2) (consA (up (q1 (orU oLen oLenS) (bn 1))) nilA))))
noncomputable def rn4 : Ev → Fl := (retF (asL (compF [4] (tnm 4) (seqE (fz 2)) yesT (up (q1 oIntS (bn 4))))))
theorem rn_eq : b_read_numbers = sq rn1 (sq rn2 (sq rn3 rn4)) := rfl
abbrev rnT : D → Ev → Option Ev := (ttup 2 (tcons (tnm 3) (tcons (tnm 4) tnil)))
section
variable {t L : D} {ls : List D} {r3 r4 : Sl}
theorem rnB_end {k : Nat} {x : Str} (h : k = ls.length) : ∃ ρ', rnB [.val t, .val (.tup ls), .val L, .val (.int k), .val (.str x)] = .exc cTxt [.int 0, .int k] ρ' := by
  subst h
  unfold rnB
  refine ⟨[.val t, .val (.tup ls), .val L, .val (.int ls.length), .val (.str x)], ?_⟩
  have e : (orU oLen oLenS) (.tup ls) = some (.int ls.length) := rfl
  simp [e, raiseF]
theorem rnB_bad {k : Nat} {x : Str} (h : k < ls.length) (e : m_is_number_from [.str x, ls.getD k .non] = .ok (.bl false)) : ∃ ρ', rnB [.val t, .val (.tup ls), .val L, .val (.int k), .val (.str x)] = .exc cTxt [.int 0, .int k] ρ' := by
  unfold rnB
  refine ⟨[.val t, .val (.tup ls), .val L, .val (.int k), .val (.str x)], ?_⟩
  have e0 : (orU oLen oLenS) (.tup ls) = some (.int ls.length) := rfl
  have n : ¬ ((k : Int) = ls.length) := by omega
  have n2 : ¬ (k = ls.length) := by omega
  have a : atI ls (k : Int) = some (ls.getD k .non) := by
    rw [atI_nat h, List.getElem?_eq_getElem h, List.getD_eq_getElem?_getD, List.getElem?_eq_getElem h]
    rfl
  generalize ls.getD k .non = l at a e
  simp [e0, n, n2, a, e, raiseF]
theorem rnB_ok {k : Nat} {x : Str} (h : k < ls.length) (e : m_is_number_from [.str x, ls.getD k .non] = .ok (.bl true)) : rnB [.val t, .val (.tup ls), .val L, .val (.int k), .val (.str x)] = .nx [.val t, .val (.tup ls), .val L, .val (.int k), .val (.str x)] := by
  unfold rnB
  have e0 : (orU oLen oLenS) (.tup ls) = some (.int ls.length) := rfl
  have n : ¬ ((k : Int) = ls.length) := by omega
  have n2 : ¬ (k = ls.length) := by omega
  have a : atI ls (k : Int) = some (ls.getD k .non) := by
    rw [atI_nat h, List.getElem?_eq_getElem h, List.getD_eq_getElem?_getD, List.getElem?_eq_getElem h]
    rfl
  generalize ls.getD k .non = l at a e
  simp [e0, n, n2, a, e]
theorem rn_loop (hb : ∀ l ∈ ls, Bnd l) : ∀ (xs : List Str) (k : Nat) (r3 r4 : Sl), k ≤ ls.length → (∀ x ∈ xs, PyData.strOk x = true ∧ x.length ≤ sizeLine) →
    (∀ j, lp ls k xs = some j → ∃ ρ', forL rnT rnB (enumL k (xs.map D.str)) [.val t, .val (.tup ls), .val L, r3, r4] = .exc cTxt [.int 0, .int j] ρ') ∧
    (lp ls k xs = none → ∃ q3 q4, forL rnT rnB (enumL k (xs.map D.str)) [.val t, .val (.tup ls), .val L, r3, r4] = .nx [.val t, .val (.tup ls), .val L, q3, q4])
  | [], k, r3, r4, _, _ => ⟨fun j h => (by cases h), fun _ => ⟨r3, r4, rfl⟩⟩
  | x :: xs, k, r3, r4, hk, hx => by
    obtain ⟨o, l⟩ := hx x (by simp)
    have tg : rnT (.tup [.int k, .str x]) [.val t, .val (.tup ls), .val L, r3, r4] = some [.val t, .val (.tup ls), .val L, .val (.int k), .val (.str x)] := by simp
    have st : forL rnT rnB (enumL k ((x :: xs).map D.str)) [.val t, .val (.tup ls), .val L, r3, r4] = loopK (rnB [.val t, .val (.tup ls), .val L, .val (.int k), .val (.str x)]) (forL rnT rnB (enumL (k + 1) (xs.map D.str))) := by
      show forL rnT rnB (.tup [.int k, .str x] :: enumL (k + 1) (xs.map D.str)) _ = _
      rw [forL_cons, tg]
    rw [st]
    unfold lp
    by_cases c : k = ls.length
    · obtain ⟨ρ', e⟩ := rnB_end (t := t) (L := L) (x := x) c
      rw [if_pos (.inl c), e]
      exact ⟨fun j h => (by cases h; exact ⟨ρ', rfl⟩), fun h => (by cases h)⟩
    · have lt : k < ls.length := by omega
      have bd : Bnd (ls.getD k .non) := by
        rw [List.getD_eq_getElem?_getD, List.getElem?_eq_getElem lt]
        exact hb _ (List.getElem_mem lt)
      have e := t_numfrom (l := ls.getD k .non) o l bd
      cases c2 : numOk (ls.getD k .non) x with
      | false =>
        rw [c2] at e
        obtain ⟨ρ', e⟩ := rnB_bad (t := t) (L := L) lt e
        rw [if_pos (.inr rfl), e]
        exact ⟨fun j h => (by cases h; exact ⟨ρ', rfl⟩), fun h => (by cases h)⟩
      | true =>
        rw [c2] at e
        have e := rnB_ok (t := t) (L := L) lt e
        rw [if_neg (by simp [c]), e, loopK_nx]
        exact rn_loop hb xs (k + 1) _ _ (by omega) fun y hy => hx y (List.mem_cons_of_mem _ hy)
end
theorem lp_none : ∀ {ls : List D} {xs : List Str} {k : Nat}, k ≤ ls.length → lp ls k xs = none → k + xs.length ≤ ls.length ∧ ∀ x ∈ xs, isNumL (tl x) = true
  | ls, [], k, hk, _ => ⟨(by simpa using hk), fun x hx => (by cases hx)⟩
  | ls, x :: xs, k, hk, h => by
    unfold lp at h
    split at h
    · cases h
    · rename_i c
      have c1 : ¬ k = ls.length := fun z => c (.inl z)
      have c2 : numOk (ls.getD k .non) x ≠ false := fun z => c (.inr z)
      obtain ⟨l, a⟩ := lp_none (ls := ls) (xs := xs) (k := k + 1) (by omega) h
      refine ⟨by simp; omega, fun y hy => ?_⟩
      rcases List.mem_cons.mp hy with rfl | hy
      · unfold numOk at c2
        cases q : isNumL (tl y) with
        | true => rfl
        | false => rw [q] at c2; simp at c2
      · exact a y hy
/-- the first item that cannot stand -/
def fbad (ls : List D) (xs : List Str) : Option Nat := match lp ls 0 xs with
  | some j => some j
  | none => if xs.length < ls.length then some xs.length else none
theorem t_needmany {xs : List D} {n : Nat} : m_need_many [.lst xs, .int n] = if xs.length < n then .exc cTxt [.int 0, .int xs.length] else .ok .non := by
  have e : (orU oLen oLenS) (.lst xs) = some (.int xs.length) := rfl
  unfold m_need_many b_need_many
  by_cases h : xs.length < n
  · have h2 : (xs.length : Int) < n := by omega
    simp [env0, e, h, h2, raiseF]
  · have h2 : ¬ (xs.length : Int) < n := by omega
    simp [env0, e, h, h2]
theorem t_readnums {x : Str} {ls : List D} (hb : ∀ l ∈ ls, Bnd l) (h : x.length + 2 ≤ sizeLine) (hx : ∀ y ∈ Txt.split x (Str.ofString " "), PyData.strOk y = true ∧ y.length ≤ sizeLine) (hn : (Txt.split x (Str.ofString " ")).length ≤ sizeLine) :
    m_read_numbers [.str x, .tup ls] = match fbad ls (Txt.split x (Str.ofString " ")) with
      | some j => .exc cTxt [.int 0, .int j]
      | none => .ok (.lst ((Txt.split x (Str.ofString " ")).map fun y => .int (intOf y))) := by
  have e1 := t_items h
  generalize Txt.split x (Str.ofString " ") = xs at *
  obtain ⟨l1, l2⟩ := rn_loop (t := .str x) (L := .lst (xs.map D.str)) hb xs 0 .no .no (Nat.zero_le _) hx
  have a1 : rn1 (env0 5 [.str x, .tup ls]) = .nx [.val (.str x), .val (.tup ls), .val (.lst (xs.map D.str)), .no, .no] := by
    unfold rn1
    simp [env0, e1]
  have en : ∀ ρ : Ev, ρ[2]? = some (.val (.lst (xs.map D.str))) → enumE (consA (fz 2) nilA) ρ = .ok (enumL 0 (xs.map D.str)) ρ := fun ρ h => by
    unfold enumE
    simp [h, listOf]
  have a2 : rn2 [.val (.str x), .val (.tup ls), .val (.lst (xs.map D.str)), .no, .no] = forL rnT rnB (enumL 0 (xs.map D.str)) [.val (.str x), .val (.tup ls), .val (.lst (xs.map D.str)), .no, .no] := by
    unfold rn2
    rw [forF_ap, en _ rfl, fl_ok]
  unfold m_read_numbers fbad
  rw [rn_eq, runF_ap, sq_ap, a1, seq_nx, sq_ap, a2]
  cases q : lp ls 0 xs with
  | some j =>
    obtain ⟨ρ', e⟩ := l1 j q
    rw [show ((0 : Nat)) = 0 from rfl] at e
    rw [e]
    rfl
  | none =>
    obtain ⟨q3, q4, e⟩ := l2 q
    obtain ⟨ln, al⟩ := lp_none (Nat.zero_le _) q
    rw [e, seq_nx, sq_ap]
    have m := t_needmany (xs := xs.map D.str) (n := ls.length)
    rw [List.length_map] at m
    have o : (orU oLen oLenS) (.tup ls) = some (.int ls.length) := rfl
    by_cases c : xs.length < ls.length
    · rw [if_pos c] at m
      have a3 : rn3 [.val (.str x), .val (.tup ls), .val (.lst (xs.map D.str)), q3, q4] = .exc cTxt [.int 0, .int xs.length] [.val (.str x), .val (.tup ls), .val (.lst (xs.map D.str)), q3, q4] := by
        unfold rn3
        simp [o, m]
      rw [a3]
      dsimp only
      rw [if_pos c]
      rfl
    · rw [if_neg c] at m
      have a3 : rn3 [.val (.str x), .val (.tup ls), .val (.lst (xs.map D.str)), q3, q4] = .nx [.val (.str x), .val (.tup ls), .val (.lst (xs.map D.str)), q3, q4] := by
        unfold rn3
        simp [o, m]
      have cm := compL_all (vs := [4]) (tg := tnm 4) (c := yesT) (e := up (q1 oIntS (bn 4))) (ρ := [.val (.str x), .val (.tup ls), .val (.lst (xs.map D.str)), q3, .no])
        (fun d => match d with | .str y => D.int (intOf y) | _ => .non) (xs.map D.str) (fun d hd => by
          obtain ⟨y, hy, rfl⟩ := List.mem_map.mp hd
          have e := oIntS_num (al y hy)
          exact ⟨[.val (.str x), .val (.tup ls), .val (.lst (xs.map D.str)), q3, .val (.str y)], by simp, _, rfl, [.val (.str x), .val (.tup ls), .val (.lst (xs.map D.str)), q3, .val (.str y)], by simp [e], by simp⟩)
      have mm : ((xs.map D.str).map fun d => match d with | .str y => D.int (intOf y) | _ => .non) = xs.map fun y => D.int (intOf y) := by
        rw [List.map_map]; rfl
      rw [mm] at cm
      have a4 : rn4 [.val (.str x), .val (.tup ls), .val (.lst (xs.map D.str)), q3, q4] = .rt (.lst (xs.map fun y => D.int (intOf y))) [.val (.str x), .val (.tup ls), .val (.lst (xs.map D.str)), q3, .no] := by
        unfold rn4
        simp [cm, hn]
      rw [a3, seq_nx, a4]
      dsimp only
      rw [if_neg c]
theorem x_readnums {o : D} {ls : List D} (h : isaT nC "str" o = some false) : m_read_numbers [o, .tup ls] = .exc cTxt [.int 0, .int 0] := by
  have e := x_items h
  unfold m_read_numbers
  rw [rn_eq]
  unfold rn1
  simp [env0, e]
end PL
namespace PL
open PySem L2 TL
/-! ### a drawn number -/
noncomputable def pa1 : Ev → Fl := (setF 1 (callM 0 m__law_sip (consA (up (ct (.int 5))) nilA)))
noncomputable def pa2 : Ev → Fl := (ifF (asB (up (q2 (eqD false) (bn 1) (ct (.int 0)))))
  (retF (e2 oSub (callM 0 m__law_sip (consA (up (ct (.int 5))) nilA)) (up (ct (.int 2)))))
  Fl.nx)
noncomputable def pa3 : Ev → Fl := (ifF (asB (up (q2 oLt (bn 1) (ct (.int 3)))))
  (retF (e2 oSub (callM 0 m__law_sip (consA (up (ct (.int 199))) nilA)) (up (ct (.int 99)))))
  Fl.nx)
noncomputable def pa4 : Ev → Fl := (setF 2 (up (ct (.int 0))))
noncomputable def paB : Ev → Fl := (setF 2 (e2 oPlus (up (q2 oTimes (bn 2) (q2 oPow (ct (.int 10)) (ct (.int 7))))) (callM 0 m__law_sip (consA (up (q2 oPow (ct (.int 10)) (ct (.int 7)))) nilA))))
noncomputable def pa5 : Ev → Fl := (forF (tnm 3) (rng1 (consA (e2 oPlus (up (ct (.int 1))) (callM 0 m__law_sip (consA (up (ct (.int 4))) nilA))) nilA))
  paB)
noncomputable def pa6 : Ev → Fl := (retF (ifE (asB (e2 (eqD false) (callM 0 m__law_sip (consA (up (ct (.int 2))) nilA)) (up (ct (.int 0))))) (fz 2) (up (q1 oNeg (bn 2)))))
theorem pa_eq : b__law_part = (sq pa1 (sq pa2 (sq pa3 (sq pa4 (sq pa5 pa6))))) := rfl
theorem pow7 : oPow (.int 10) (.int 7) = some (.int 10000000) := by rw [oPow_ii (by decide) (by decide) (by decide)]; rfl
theorem pow20 : oPow (.int 10) (.int 20) = some (.int 100000000000000000000) := by rw [oPow_ii (by decide) (by decide) (by decide)]; rfl
section
variable {xs x1 x2 x3 : List D} {w v u f : Int} {r1 r2 r3 : Sl}
theorem paB_ev (q : m__law_sip xs [.int 10000000] = .ok (.int v) x1) : paB [.own xs, r1, .val (.int f), r3] = .nx [.own x1, r1, .val (.int (f * 10000000 + v)), r3] := by
  have t := oTimes_r (i := f) (j := 10000000) (by decide)
  unfold paB
  simp [pow7, t, q]
theorem pa_loop {N n : Nat} (hc : Cup N xs) (hN : N + n ≤ 1000000) : ∃ f x1 r3, forL (tnm 3) paB (rangeL 0 n) [.own xs, .val (.int w), .val (.int 0), .no] = .nx [.own x1, .val (.int w), .val (.int f), r3] ∧ 0 ≤ f ∧ f < 10000000 ^ n ∧ Cup (N + n) x1 := by
  obtain ⟨ρ', e, f, x1, r3, h, h0, h1, h2⟩ := forL_range (tg := tnm 3) (f := paB) (lo := 0) (n := n) (ρ := [.own xs, .val (.int w), .val (.int 0), .no])
    (fun k ρ => ∃ (f : Int) (x1 : List D) (r3 : Sl), ρ = [.own x1, .val (.int w), .val (.int f), r3] ∧ 0 ≤ f ∧ f < 10000000 ^ k ∧ Cup (N + k) x1) ⟨0, xs, .no, rfl, by decide, by decide, hc⟩ (fun k ρ hk ⟨f, ys, r3, h, h0, h1, c⟩ => by
      subst h
      obtain ⟨v, x2, e2, v0, v1, c2⟩ := sc_.h (m := 10000000) c (by omega) (by decide) (by decide)
      refine ⟨[.own ys, .val (.int w), .val (.int f), .val (.int (0 + (k : Nat)))], by simp, _, paB_ev e2, _, x2, _, rfl, by omega, ?_, c2⟩
      rw [Int.pow_succ]
      generalize (10000000 : Int) ^ k = z at *
      omega)
  exact ⟨f, x1, r3, by rw [e, h], h0, h1, h2⟩
theorem pt_a (q1 : m__law_sip xs [.int 5] = .ok (.int 0) x1) (q2 : m__law_sip x1 [.int 5] = .ok (.int v) x2) : m__law_part xs [] = .ok (.int (v - 2)) x2 := by
  unfold m__law_part
  rw [pa_eq]
  unfold pa1 pa2 runM
  simp [env0, q1, q2, outM]
theorem pt_b (q1 : m__law_sip xs [.int 5] = .ok (.int w) x1) (h : ¬ w = 0) (h2 : w < 3) (q2 : m__law_sip x1 [.int 199] = .ok (.int v) x2) : m__law_part xs [] = .ok (.int (v - 99)) x2 := by
  unfold m__law_part
  rw [pa_eq]
  unfold pa1 pa2 pa3 runM
  simp [env0, q1, h, h2, q2, outM]
theorem pt_c {n : Nat} (q1 : m__law_sip xs [.int 5] = .ok (.int w) x1) (h : ¬ w = 0) (h2 : ¬ w < 3) (q2 : m__law_sip x1 [.int 4] = .ok (.int v) x2) (hn : 1 + v = (n : Nat)) (h4 : n ≤ 10)
    (lo : forL (tnm 3) paB (rangeL 0 n) [.own x2, .val (.int w), .val (.int 0), .no] = .nx [.own x3, .val (.int w), .val (.int f), r3]) {x4 : List D} (q3 : m__law_sip x3 [.int 2] = .ok (.int u) x4) : m__law_part xs [] = .ok (.int (if u = 0 then f else -f)) x4 := by
  have rr : ∀ ρ, rngR1 [.int (1 + v)] ρ = .ok (rangeL 0 n) ρ := fun ρ => by rw [hn]; exact rngR1_n (by omega)
  unfold m__law_part
  rw [pa_eq]
  unfold pa1 pa2 pa3 pa4 pa5 pa6 runM
  by_cases z : u = 0 <;> simp [env0, q1, h, h2, q2, rr, lo, q3, z, outM, -rngR1_i]
end
def P28 (v : Int) : Prop := v.natAbs < 10 ^ 28
theorem t_part {N : Nat} {xs : List D} (hc : Cup N xs) (hN : N + 20 ≤ 1000000) : ∃ v xs', m__law_part xs [] = .ok (.int v) xs' ∧ P28 v ∧ Cup (N + 7) xs' := by
  obtain ⟨w, x1, e1, w0, w1, c1⟩ := sc_.h (m := 5) hc (by omega) (by decide) (by decide)
  by_cases h : w = 0
  · subst h
    obtain ⟨v, x2, e2, v0, v1, c2⟩ := sc_.h (m := 5) c1 (by omega) (by decide) (by decide)
    exact ⟨v - 2, x2, pt_a e1 e2, by unfold P28; omega, c2.mono (by omega)⟩
  · by_cases h2 : w < 3
    · obtain ⟨v, x2, e2, v0, v1, c2⟩ := sc_.h (m := 199) c1 (by omega) (by decide) (by decide)
      exact ⟨v - 99, x2, pt_b e1 h h2 e2, by unfold P28; omega, c2.mono (by omega)⟩
    · obtain ⟨v, x2, e2, v0, v1, c2⟩ := sc_.h (m := 4) c1 (by omega) (by decide) (by decide)
      obtain ⟨n, hn⟩ : ∃ n : Nat, 1 + v = n := ⟨(1 + v).toNat, by omega⟩
      obtain ⟨f, x3, r3, lo, f0, f1, c3⟩ := pa_loop (w := w) (n := n) c2 (by omega)
      obtain ⟨u, x4, e4, u0, u1, c4⟩ := sc_.h (m := 2) c3 (by omega) (by decide) (by decide)
      have hb : f < 10 ^ 28 := by
        have n4 : n = 1 ∨ n = 2 ∨ n = 3 ∨ n = 4 := by omega
        rcases n4 with rfl | rfl | rfl | rfl <;> omega
      exact ⟨_, x4, pt_c e1 h h2 e2 hn (by omega) lo e4, by unfold P28; split <;> omega, c4.mono (by omega)⟩
/-! ### the law's own looks -/
theorem t_turned {a b t : Int} : m__law_turned [.int a, .int b, .int t] = .ok (.tup [.int (rx t a b), .int (ry t a b)]) := by
  have m : oMod (.int t) (.int 4) = some (.int (t % 4)) := oMod_ii (by decide)
  have r : t % 4 = 0 ∨ t % 4 = 1 ∨ t % 4 = 2 ∨ t % 4 = 3 := by omega
  have a0 : ∀ x y z w : D, atI [x, y, z, w] 0 = some x := fun _ _ _ _ => rfl
  have a1 : ∀ x y z w : D, atI [x, y, z, w] 1 = some y := fun _ _ _ _ => rfl
  have a2 : ∀ x y z w : D, atI [x, y, z, w] 2 = some z := fun _ _ _ _ => rfl
  have a3 : ∀ x y z w : D, atI [x, y, z, w] 3 = some w := fun _ _ _ _ => rfl
  unfold m__law_turned b__law_turned
  rcases r with r | r | r | r <;> simp [env0, m, r, z2s, le4, rx, ry, a0, a1, a2, a3]
theorem nrm_bd {a b : Int} (ha : a.natAbs < 2 ^ 290) (hb : b.natAbs < 2 ^ 290) : (a * a + b * b).natAbs < 2 ^ 600 := by
  have b1 := natAbs_mul_lt ha ha
  have b2 := natAbs_mul_lt hb hb
  generalize a * a = x at *
  generalize b * b = y at *
  omega
theorem t_is {a b : Int} (ha : a.natAbs < 2 ^ 290) (hb : b.natAbs < 2 ^ 290) : m__law_is [pairD a b, .int a, .int b] = .ok (.bl true) := by
  have n := nrm_bd ha hb
  have e : (2 : Nat) ^ 290 ≤ 2 ^ 600 := by decide +kernel
  have h1 := Nat.lt_of_lt_of_le ha e
  have h2 := Nat.lt_of_lt_of_le hb e
  have ta := oTimes_sm (sm_of (k := 290) ha (by decide)) (sm_of (k := 290) ha (by decide))
  have tb := oTimes_sm (sm_of (k := 290) hb (by decide)) (sm_of (k := 290) hb (by decide))
  obtain ⟨s, r, ok⟩ := repr_of (d := .tup [.int a, .int b, .int (a * a + b * b)]) (by simp [dOk, dOks, h1, h2, n]) (by simp only [dSz, dSzs]; decide) (by simp [dDp, dDps])
  have q := eqD_str (neg := false) ok
  unfold m__law_is b__law_is
  simp [env0, blO, ta, tb, le3, r, q]
theorem reo2 {x y : D} : reo [0, 1] [x, y] = [x, y] := rfl
def mtX (c : Nat) (ix : List Nat) (fn : List D → Fr) (m : Ev → Rs (List D)) (d : D) (ρ : Ev) : Rs D := match d with
  | .ins c' fs => if c' = c then (m ρ).bind fun ds ρ2 => (match fn (reo ix (.ins c fs :: ds)) with
    | .ok d => .ok d ρ2
    | .exc c fs => .exc c fs ρ2
    | .stuck => .stuck) else .stuck
  | _ => .stuck
theorem methXE_ap {c : Nat} {ix : List Nat} {fn : List D → Fr} {o : Ev → Rs D} {m : Ev → Rs (List D)} {ρ : Ev} : methXE c ix fn o m ρ = (o ρ).bind fun d ρ1 => mtX c ix fn m d ρ1 := rfl
theorem mtXP {ix : List Nat} {fn : List D → Fr} {ks : Ev → Rs (List D)} {ρ : Ev} {a b : Int} : mtX 0 ix fn ks (pairD a b) ρ = (ks ρ).bind fun ds ρ2 => frR (fn (reo ix (pairD a b :: ds))) ρ2 := by
  show (if (0 : Nat) = 0 then ((ks ρ).bind fun ds ρ2 => frR (fn (reo ix (pairD a b :: ds))) ρ2 : Rs D) else .stuck) = _
  rw [if_pos rfl]
/-! ### sums -/
abbrev rowD (x y : Int) : D := .tup [pairD x y, .int x, .int y]
noncomputable def s1 : Ev → Fl := (asgF (ttup 4 (tcons (tnm 1) (tcons (tnm 2) (tcons (tnm 3) (tcons (tnm 4) tnil))))) (tupE (consA (callM 0 m__law_part nilA) (consA (callM 0 m__law_part nilA) (consA (callM 0 m__law_part nilA) (consA (callM 0 m__law_part nilA) nilA))))))
noncomputable def s2 : Ev → Fl := (ifF (asB (e2 (eqD false) (callM 0 m__law_sip (consA (up (ct (.int 4))) nilA)) (up (ct (.int 0)))))
  (asgF (ttup 2 (tcons (tnm 3) (tcons (tnm 4) tnil))) (callM 0 m__law_choose (consA (asL (lenOk (consA (tupE (consA (fz 1) (consA (fz 2) nilA))) (consA (tupE (consA (fz 1) (consA (up (q1 oNeg (bn 2))) nilA))) (consA (tupE (consA (fz 2) (consA (fz 1) nilA))) (consA (tupE (consA (up (q1 oNeg (bn 1))) (consA (fz 2) nilA))) (consA (tupE (consA (fz 1) (consA (fz 4) nilA))) (consA (tupE (consA (fz 3) (consA (fz 2) nilA))) nilA)))))))) nilA)))
  Fl.nx)
noncomputable def s3 : Ev → Fl := (asgF (ttup 2 (tcons (tnm 5) (tcons (tnm 6) tnil))) (tupE (consA (makeE 0 ["one", "other", "norm"] m_Pair_init (consA (fz 1) (consA (fz 2) nilA))) (consA (makeE 0 ["one", "other", "norm"] m_Pair_init (permF [1, 0] (consA (fz 4) (consA (fz 3) nilA)))) nilA))))
noncomputable def s4 : Ev → Fl := (setF 7 (callM 0 m__law_choose (consA (asL (lenOk (consA (e2 oSub (callM 0 m__law_sip (consA (up (ct (.int 9))) nilA)) (up (ct (.int 4)))) (consA (e2 oPlus (up (q2 oPow (ct (.int 10)) (ct (.int 20)))) (callM 0 m__law_sip (consA (up (ct (.int 4))) nilA))) (consA (e2 oSub (up (q1 oNeg (q2 oPow (ct (.int 10)) (ct (.int 20))))) (callM 0 m__law_sip (consA (up (ct (.int 4))) nilA))) nilA))))) nilA)))
noncomputable def s5 : Ev → Fl := (setoF 8 (lenOk (consA (tupE (consA (e2 (oBinC 0 m_Pair___add__) (fz 5) (fz 6)) (consA (up (q2 oPlus (bn 1) (bn 3))) (consA (up (q2 oPlus (bn 2) (bn 4))) nilA)))) (consA (tupE (consA (e2 (oBinC 0 m_Pair___sub__) (fz 5) (fz 6)) (consA (up (q2 oSub (bn 1) (bn 3))) (consA (up (q2 oSub (bn 2) (bn 4))) nilA)))) (consA (tupE (consA (e2 (oBinC 0 m_Pair___mul__) (fz 5) (fz 6)) (consA (up (q2 oSub (q2 oTimes (bn 1) (bn 3)) (q2 oTimes (bn 2) (bn 4)))) (consA (up (q2 oPlus (q2 oTimes (bn 1) (bn 4)) (q2 oTimes (bn 2) (bn 3)))) nilA)))) (consA (tupE (consA (e2 (oBinC 0 m_Pair___mul__) (fz 6) (fz 5)) (consA (up (q2 oSub (q2 oTimes (bn 1) (bn 3)) (q2 oTimes (bn 2) (bn 4)))) (consA (up (q2 oPlus (q2 oTimes (bn 1) (bn 4)) (q2 oTimes (bn 2) (bn 3)))) nilA)))) nilA))))))
noncomputable def s6 : Ev → Fl := (setoF 8 (f2 oCat (fz 8) (asL (lenOk (consA (tupE (consA (e1 (oNegC 0 m_Pair___neg__) (fz 5)) (consA (up (q1 oNeg (bn 1))) (consA (up (q1 oNeg (bn 2))) nilA)))) (consA (tupE (consA (meth0E 0 m_Pair_flipped (fz 5)) (consA (fz 1) (consA (up (q1 oNeg (bn 2))) nilA)))) (consA (tupE (consA (meth0E 0 m_Pair_flipped (fz 6)) (consA (fz 3) (consA (up (q1 oNeg (bn 4))) nilA)))) nilA)))))))
noncomputable def s7B : Ev → Fl := (sq (setF 11 (callE m__law_turned (consA (fz 1) (consA (fz 2) (consA (fz 10) nilA)))))
  (dropF (appE 8 (tupE (consA (fz 9) (consA (up (q2 oIx (bn 11) (ct (.int 0)))) (consA (up (q2 oIx (bn 11) (ct (.int 1)))) nilA)))))))
noncomputable def s7 : Ev → Fl := (forF (ttup 2 (tcons (tnm 9) (tcons (tnm 10) tnil))) (seqE (tupE (consA (tupE (consA (methE 0 m_Pair_times_i (fz 5) (consA (fz 7) nilA)) (consA (fz 7) nilA))) (consA (tupE (consA (methXE 0 [0, 1] m_Pair_times_i (fz 5) (consA (up (q2 oPlus (bn 7) (ct (.int 1)))) nilA)) (consA (up (q2 oPlus (bn 7) (ct (.int 1)))) nilA))) (consA (tupE (consA (methE 0 m_Pair_times_i (fz 5) (consA (up (ct (.int 0))) nilA)) (consA (up (ct (.int 0))) nilA))) (consA (tupE (consA (methE 0 m_Pair_times_i (fz 5) (consA (up (q1 oNeg (ct (.int 1)))) nilA)) (consA (up (q1 oNeg (ct (.int 1)))) nilA))) nilA)))))) s7B)
noncomputable def s8 : Ev → Fl := (ifF (asB (e2 (eqD true) (asL (compF [12] (tnm 12) (seqE (fz 8)) (notT (asB (callE m__law_is (consA (up (q2 oIx (bn 12) (ct (.int 0)))) (consA (up (q2 oIx (bn 12) (ct (.int 1)))) (consA (up (q2 oIx (bn 12) (ct (.int 2)))) nilA)))))) (fz 12))) (asL (lenOk nilA))))
  (retF (up (ct (.bl false))))
  Fl.nx)
noncomputable def s9 : Ev → Fl := (ifF (asB (e2 (eqD true) (e1 (attr nC fnTab "norm") (e2 (oBinC 0 m_Pair___mul__) (fz 5) (fz 6))) (up (q2 oTimes (q2 oPlus (q2 oTimes (bn 1) (bn 1)) (q2 oTimes (bn 2) (bn 2))) (q2 oPlus (q2 oTimes (bn 3) (bn 3)) (q2 oTimes (bn 4) (bn 4)))))))
  (retF (up (ct (.bl false))))
  Fl.nx)
noncomputable def s10 : Ev → Fl := (setoF 9 (lenOk (consA (up (q2 (eqO false nC eqTab) (bn 5) (bn 6))) (consA (up (q2 (eqO true nC eqTab) (bn 5) (bn 6))) (consA (e2 (eqO false nC eqTab) (fz 5) (makeE 0 ["one", "other", "norm"] m_Pair_init (consA (fz 1) (consA (fz 2) nilA)))) (consA (e2 (eqO false nC eqTab) (fz 5) (makeE 0 ["one", "other", "norm"] m_Pair_init (consA (fz 1) (consA (up (q2 oPlus (bn 2) (ct (.int 1)))) nilA)))) (consA (e2 (eqO false nC eqTab) (fz 5) (makeE 0 ["one", "other", "norm"] m_Pair_init (consA (up (q2 oSub (bn 1) (ct (.int 1)))) (consA (fz 2) nilA)))) nilA)))))))
noncomputable def s11 : Ev → Fl := (ifF (asB (e2 (eqD true) (up (q1 oRepr (bn 9))) (e1 oRepr (asL (lenOk (consA (up (q2 (eqD false) (q2 oPair (bn 1) (bn 2)) (q2 oPair (bn 3) (bn 4)))) (consA (up (q2 (eqD true) (q2 oPair (bn 1) (bn 2)) (q2 oPair (bn 3) (bn 4)))) (consA (up (ct (.bl true))) (consA (up (ct (.bl false))) (consA (up (ct (.bl false))) nilA))))))))))
  (retF (up (ct (.bl false))))
  Fl.nx)
noncomputable def s12 : Ev → Fl := (ifF (asB (e2 (eqD true) (asL (compF [13] (tnm 13) (seqE (asL (lenOk (consA (tupE (consA (fz 1) (consA (fz 2) nilA))) (consA (asL (lenOk (consA (fz 1) (consA (fz 2) nilA)))) (consA (fz 1) (consA (up (ct .non)) (consA (e1 (oStrC 0 m_Pair___str__) (fz 5)) nilA)))))))) (asB (e2 (eqM false nC eqTab) (fz 5) (fz 13))) (fz 13))) (asL (lenOk nilA))))
  (retF (up (ct (.bl false))))
  Fl.nx)
noncomputable def s13 : Ev → Fl := (retF (andE (asB (callE m__law_is (consA (fz 5) (consA (fz 1) (consA (fz 2) nilA))))) (callE m__law_is (consA (fz 6) (consA (fz 3) (consA (fz 4) nilA))))))
theorem s_eq : b__law_sums_right = (sq s1 (sq s2 (sq s3 (sq s4 (sq s5 (sq s6 (sq s7 (sq s8 (sq s9 (sq s10 (sq s11 (sq s12 s13)))))))))))) := rfl
section
variable {xs x1 x2 x3 x4 : List D} {a b c d p t u v : Int} {r1 r2 r3 r4 r5 r6 r7 r8 r9 r10 r11 r12 r13 : Sl} {rs : List D}
theorem s1_ev (q1 : m__law_part xs [] = .ok (.int a) x1) (q2 : m__law_part x1 [] = .ok (.int b) x2) (q3 : m__law_part x2 [] = .ok (.int c) x3) (q4 : m__law_part x3 [] = .ok (.int d) x4) :
    s1 [.own xs, .no, .no, .no, .no, r5, r6, r7, r8, r9, r10, r11, r12, r13] = .nx [.own x4, .val (.int a), .val (.int b), .val (.int c), .val (.int d), r5, r6, r7, r8, r9, r10, r11, r12, r13] := by
  unfold s1
  simp [q1, q2, q3, q4, le4]
abbrev d6 (a b c d : Int) : List D := [.tup [.int a, .int b], .tup [.int a, .int (-b)], .tup [.int b, .int a], .tup [.int (-a), .int b], .tup [.int a, .int d], .tup [.int c, .int b]]
theorem z6s : (6 : Nat) ≤ sizeLine := by decide
theorem s2_n (q : m__law_sip xs [.int 4] = .ok (.int t) x1) (h : ¬ t = 0) : s2 [.own xs, .val (.int a), .val (.int b), .val (.int c), .val (.int d), r5, r6, r7, r8, r9, r10, r11, r12, r13] = .nx [.own x1, .val (.int a), .val (.int b), .val (.int c), .val (.int d), r5, r6, r7, r8, r9, r10, r11, r12, r13] := by
  unfold s2
  simp [q, h]
theorem s2_y (q : m__law_sip xs [.int 4] = .ok (.int 0) x1) (q2 : m__law_choose x1 [.lst (d6 a b c d)] = .ok (.tup [.int u, .int v]) x2) : s2 [.own xs, .val (.int a), .val (.int b), .val (.int c), .val (.int d), r5, r6, r7, r8, r9, r10, r11, r12, r13] = .nx [.own x2, .val (.int a), .val (.int b), .val (.int u), .val (.int v), r5, r6, r7, r8, r9, r10, r11, r12, r13] := by
  unfold s2
  simp [q, z2s, z6s, q2]
theorem s2_all {N : Nat} (hc : Cup N xs) (hN : N + 10 ≤ 1000000) (ha : P28 a) (hb : P28 b) (h3 : P28 c) (h4 : P28 d) : ∃ u v x1, (∀ r5 r6 r7 r8 r9 r10 r11 r12 r13 : Sl, s2 [.own xs, .val (.int a), .val (.int b), .val (.int c), .val (.int d), r5, r6, r7, r8, r9, r10, r11, r12, r13] = .nx [.own x1, .val (.int a), .val (.int b), .val (.int u), .val (.int v), r5, r6, r7, r8, r9, r10, r11, r12, r13]) ∧ P28 u ∧ P28 v ∧ Cup (N + 2) x1 := by
  obtain ⟨w, x1, e1, w0, w1, c1⟩ := sc_.h (m := 4) hc (by omega) (by decide) (by decide)
  by_cases h : w = 0
  · subst h
    obtain ⟨o, ho, x2, e2, c2⟩ := pick_ (ds := d6 a b c d) c1 (by omega) (by simp) (by simp)
    obtain ⟨u, v, rfl, hu, hv⟩ : ∃ u v, o = .tup [.int u, .int v] ∧ P28 u ∧ P28 v := by
      simp only [d6, List.mem_cons, List.not_mem_nil, or_false] at ho
      unfold P28 at *
      rcases ho with rfl | rfl | rfl | rfl | rfl | rfl <;> exact ⟨_, _, rfl, by omega, by omega⟩
    exact ⟨u, v, x2, fun _ _ _ _ _ _ _ _ _ => s2_y e1 e2, hu, hv, c2⟩
  · exact ⟨c, d, x1, fun _ _ _ _ _ _ _ _ _ => s2_n e1 h, h3, h4, c1.mono (by omega)⟩
theorem permF_ap {ix : List Nat} {l : Ev → Rs (List D)} {ρ : Ev} : permF ix l ρ = (l ρ).bind fun ds ρ1 => .ok (reo ix ds) ρ1 := rfl
theorem reo10 {x y : D} : reo [1, 0] [x, y] = [y, x] := rfl
theorem s3_ev (m1 : ∀ ρ, mkR 0 ["one", "other", "norm"] m_Pair_init [.int a, .int b] ρ = .ok (pairD a b) ρ) (m2 : ∀ ρ, mkR 0 ["one", "other", "norm"] m_Pair_init [.int c, .int d] ρ = .ok (pairD c d) ρ) :
    s3 [.own xs, .val (.int a), .val (.int b), .val (.int c), .val (.int d), .no, .no, r7, r8, r9, r10, r11, r12, r13] = .nx [.own xs, .val (.int a), .val (.int b), .val (.int c), .val (.int d), .val (pairD a b), .val (pairD c d), r7, r8, r9, r10, r11, r12, r13] := by
  unfold s3
  simp [m1, m2, permF_ap, reo10, z2s]
theorem s4_ev (q1 : m__law_sip xs [.int 9] = .ok (.int t) x1) (q2 : m__law_sip x1 [.int 4] = .ok (.int u) x2) (q3 : m__law_sip x2 [.int 4] = .ok (.int v) x3) (q4 : m__law_choose x3 [.lst [.int (t - 4), .int (100000000000000000000 + u), .int (-100000000000000000000 - v)]] = .ok (.int p) x4) :
    s4 [.own xs, r1, r2, r3, r4, r5, r6, .no, r8, r9, r10, r11, r12, r13] = .nx [.own x4, r1, r2, r3, r4, r5, r6, .val (.int p), r8, r9, r10, r11, r12, r13] := by
  unfold s4
  simp [q1, q2, q3, pow20, le3, q4]
theorem s4_all {N : Nat} (hc : Cup N xs) (hN : N + 10 ≤ 1000000) : ∃ p x1, (∀ r1 r2 r3 r4 r5 r6 r8 r9 r10 r11 r12 r13 : Sl, s4 [.own xs, r1, r2, r3, r4, r5, r6, .no, r8, r9, r10, r11, r12, r13] = .nx [.own x1, r1, r2, r3, r4, r5, r6, .val (.int p), r8, r9, r10, r11, r12, r13]) ∧ Cup (N + 4) x1 := by
  obtain ⟨t, x1, e1, _, _, c1⟩ := sc_.h (m := 9) hc (by omega) (by decide) (by decide)
  obtain ⟨u, x2, e2, _, _, c2⟩ := sc_.h (m := 4) c1 (by omega) (by decide) (by decide)
  obtain ⟨v, x3, e3, _, _, c3⟩ := sc_.h (m := 4) c2 (by omega) (by decide) (by decide)
  obtain ⟨o, ho, x4, e4, c4⟩ := pick_ (ds := [.int (t - 4), .int (100000000000000000000 + u), .int (-100000000000000000000 - v)]) c3 (by omega) (by simp) (by simp)
  obtain ⟨p, rfl⟩ : ∃ p, o = .int p := by
    simp only [List.mem_cons, List.not_mem_nil, or_false] at ho
    rcases ho with rfl | rfl | rfl <;> exact ⟨_, rfl⟩
  exact ⟨p, x4, fun _ _ _ _ _ _ _ _ _ _ _ _ => s4_ev e1 e2 e3 e4, c4⟩
abbrev E14 (xs : List D) (a b c d p : Int) (r8 r9 r10 r11 r12 r13 : Sl) : Ev := [.own xs, .val (.int a), .val (.int b), .val (.int c), .val (.int d), .val (pairD a b), .val (pairD c d), .val (.int p), r8, r9, r10, r11, r12, r13]
structure SX (a b c d : Int) : Prop where
  ad : oBinC 0 m_Pair___add__ (pairD a b) (pairD c d) = some (pairD (a + c) (b + d))
  sb : oBinC 0 m_Pair___sub__ (pairD a b) (pairD c d) = some (pairD (a - c) (b - d))
  ml : oBinC 0 m_Pair___mul__ (pairD a b) (pairD c d) = some (pairD (a * c - b * d) (a * d + b * c))
  mr : oBinC 0 m_Pair___mul__ (pairD c d) (pairD a b) = some (pairD (a * c - b * d) (a * d + b * c))
  ng : oNegC 0 m_Pair___neg__ (pairD a b) = some (pairD (-a) (-b))
  f1 : m_Pair_flipped [pairD a b] = .ok (pairD a (-b))
  f2 : m_Pair_flipped [pairD c d] = .ok (pairD c (-d))
  ti : ∀ p, m_Pair_times_i [pairD a b, .int p] = .ok (pairD (rx p a b) (ry p a b))
  t1 : oTimes (.int a) (.int c) = some (.int (a * c))
  t2 : oTimes (.int b) (.int d) = some (.int (b * d))
  t3 : oTimes (.int a) (.int d) = some (.int (a * d))
  t4 : oTimes (.int b) (.int c) = some (.int (b * c))
  t5 : oTimes (.int a) (.int a) = some (.int (a * a))
  t6 : oTimes (.int b) (.int b) = some (.int (b * b))
  t7 : oTimes (.int c) (.int c) = some (.int (c * c))
  t8 : oTimes (.int d) (.int d) = some (.int (d * d))
  t9 : oTimes (.int (a * a + b * b)) (.int (c * c + d * d)) = some (.int ((a * a + b * b) * (c * c + d * d)))
abbrev rows4 (a b c d : Int) : List D := [rowD (a + c) (b + d), rowD (a - c) (b - d), rowD (a * c - b * d) (a * d + b * c), rowD (a * c - b * d) (a * d + b * c)]
abbrev rows7 (a b c d : Int) : List D := [rowD (a + c) (b + d), rowD (a - c) (b - d), rowD (a * c - b * d) (a * d + b * c), rowD (a * c - b * d) (a * d + b * c), rowD (-a) (-b), rowD a (-b), rowD c (-d)]
theorem s5_ev (X : SX a b c d) : s5 (E14 xs a b c d p .no r9 r10 r11 r12 r13) = .nx (E14 xs a b c d p (.own (rows4 a b c d)) r9 r10 r11 r12 r13) := by
  unfold s5
  simp [X.ad, X.sb, X.ml, X.mr, X.t1, X.t2, X.t3, X.t4, le3, le4]
theorem f2_ap {o : D → D → Option (List D)} {k l : Ev → Rs D} {ρ : Ev} : f2 o k l ρ = (k ρ).bind fun a ρ1 => (l ρ1).bind fun b ρ2 => Rs.opt (o a b) ρ2 := rfl
theorem cat43 {x1 x2 x3 x4 y1 y2 y3 : D} : oCat (.lst [x1, x2, x3, x4]) (.lst [y1, y2, y3]) = some [x1, x2, x3, x4, y1, y2, y3] := by
  show (if [x1, x2, x3, x4].length + [y1, y2, y3].length ≤ sizeLine then some ([x1, x2, x3, x4] ++ [y1, y2, y3]) else none) = _
  rw [if_pos (by show 4 + 3 ≤ sizeLine; decide)]
  rfl
theorem s6_ev (X : SX a b c d) : s6 (E14 xs a b c d p (.own (rows4 a b c d)) r9 r10 r11 r12 r13) = .nx (E14 xs a b c d p (.own (rows7 a b c d)) r9 r10 r11 r12 r13) := by
  unfold s6
  simp [f2_ap, cat43, X.ng, X.f1, X.f2, le3]
theorem s7B_ev (hl : rs.length < 100) : s7B (E14 xs a b c d p (.own rs) (.val (pairD (rx t a b) (ry t a b))) (.val (.int t)) r11 r12 r13) = .nx (E14 xs a b c d p (.own (rs ++ [rowD (rx t a b) (ry t a b)])) (.val (pairD (rx t a b) (ry t a b))) (.val (.int t)) (.val (.tup [.int (rx t a b), .int (ry t a b)])) r12 r13) := by
  have tt := t_turned (a := a) (b := b) (t := t)
  have l : rs.length < sizeLine := Nat.lt_of_lt_of_le hl (by decide)
  unfold s7B
  simp [tt, l, le3]
theorem s7_it (X : SX a b c d) : (seqE (tupE (consA (tupE (consA (methE 0 m_Pair_times_i (fz 5) (consA (fz 7) nilA)) (consA (fz 7) nilA))) (consA (tupE (consA (methXE 0 [0, 1] m_Pair_times_i (fz 5) (consA (up (q2 oPlus (bn 7) (ct (.int 1)))) nilA)) (consA (up (q2 oPlus (bn 7) (ct (.int 1)))) nilA))) (consA (tupE (consA (methE 0 m_Pair_times_i (fz 5) (consA (up (ct (.int 0))) nilA)) (consA (up (ct (.int 0))) nilA))) (consA (tupE (consA (methE 0 m_Pair_times_i (fz 5) (consA (up (q1 oNeg (ct (.int 1)))) nilA)) (consA (up (q1 oNeg (ct (.int 1)))) nilA))) nilA)))))) (E14 xs a b c d p (.own rs) r9 r10 r11 r12 r13) = .ok [.tup [pairD (rx p a b) (ry p a b), .int p], .tup [pairD (rx (p + 1) a b) (ry (p + 1) a b), .int (p + 1)], .tup [pairD (rx 0 a b) (ry 0 a b), .int 0], .tup [pairD (rx (-1) a b) (ry (-1) a b), .int (-1)]] (E14 xs a b c d p (.own rs) r9 r10 r11 r12 r13) := by
  simp [methXE_ap, mtXP, reo2, X.ti, z2s, le4]
theorem s7_ev (X : SX a b c d) (hl : rs.length < 50) : ∃ q9 q10 q11, s7 (E14 xs a b c d p (.own rs) .no .no .no r12 r13) = .nx (E14 xs a b c d p (.own (rs ++ [rowD (rx p a b) (ry p a b), rowD (rx (p + 1) a b) (ry (p + 1) a b), rowD (rx 0 a b) (ry 0 a b), rowD (rx (-1) a b) (ry (-1) a b)])) (.val q9) (.val q10) (.val q11) r12 r13) := by
  have tg : ∀ {rs : List D} {x : D} {t : Int} {r9 r10 r11 : Sl}, (ttup 2 (tcons (tnm 9) (tcons (tnm 10) tnil))) (.tup [x, .int t]) (E14 xs a b c d p (.own rs) r9 r10 r11 r12 r13) = some (E14 xs a b c d p (.own rs) (.val x) (.val (.int t)) r11 r12 r13) := fun {rs x t r9 r10 r11} => by simp
  refine ⟨pairD (rx (-1) a b) (ry (-1) a b), .int (-1), .tup [.int (rx (-1) a b), .int (ry (-1) a b)], ?_⟩
  unfold s7
  rw [forF_ap, s7_it X, fl_ok, forL_cons, tg]
  dsimp only
  rw [s7B_ev (by omega), loopK_nx, forL_cons, tg]
  dsimp only
  rw [s7B_ev (by simp; omega), loopK_nx, forL_cons, tg]
  dsimp only
  rw [s7B_ev (by simp; omega), loopK_nx, forL_cons, tg]
  dsimp only
  rw [s7B_ev (by simp; omega), loopK_nx, forL_nil]
  simp only [List.append_assoc, List.cons_append, List.nil_append]
theorem s8_ev (h : ∀ o ∈ rs, ∃ x y, o = rowD x y ∧ x.natAbs < 2 ^ 290 ∧ y.natAbs < 2 ^ 290) : s8 (E14 xs a b c d p (.own rs) r9 r10 r11 .no r13) = .nx (E14 xs a b c d p (.val (.lst rs)) r9 r10 r11 .no r13) := by
  have cm := compL_map (vs := [12]) (tg := tnm 12) (c := notT (asB (callE m__law_is (consA (up (q2 oIx (bn 12) (ct (.int 0)))) (consA (up (q2 oIx (bn 12) (ct (.int 1)))) (consA (up (q2 oIx (bn 12) (ct (.int 2)))) nilA)))))) (e := fz 12) (ρ := E14 xs a b c d p (.val (.lst rs)) r9 r10 r11 .no r13) (fun _ => false) id rs (fun o ho => by
    obtain ⟨x, y, rfl, hx, hy⟩ := h o ho
    have i := t_is hx hy
    have a0 : ∀ x y z : D, atI [x, y, z] 0 = some x := fun _ _ _ => rfl
    have a1 : ∀ x y z : D, atI [x, y, z] 1 = some y := fun _ _ _ => rfl
    have a2 : ∀ x y z : D, atI [x, y, z] 2 = some z := fun _ _ _ => rfl
    exact ⟨E14 xs a b c d p (.val (.lst rs)) r9 r10 r11 (.val (rowD x y)) r13, by simp, E14 xs a b c d p (.val (.lst rs)) r9 r10 r11 (.val (rowD x y)) r13, by simp [a0, a1, a2, i], by simp, fun z => by cases z⟩)
  have fl : rs.filter (fun _ => false) = [] := List.filter_eq_nil_iff.mpr (by simp)
  rw [fl, List.map_nil] at cm
  unfold s8
  simp [cm, en]
theorem s9_ev (X : SX a b c d) : s9 (E14 xs a b c d p r8 r9 r10 r11 r12 r13) = .nx (E14 xs a b c d p r8 r9 r10 r11 r12 r13) := by
  have e : (a * c - b * d) * (a * c - b * d) + (a * d + b * c) * (a * d + b * c) = (a * a + b * b) * (c * c + d * d) := by grind
  unfold s9
  simp [X.ml, X.t5, X.t6, X.t7, X.t8, X.t9, e]
abbrev told (a b c d : Int) : List D := [.bl (decide (a = c) && decide (b = d)), .bl (!(decide (a = c) && decide (b = d))), .bl true, .bl false, .bl false]
theorem z5s : (5 : Nat) ≤ sizeLine := by decide
theorem s10_ev (m : ∀ u v : Int, (u = a ∨ u = a - 1) → (v = b ∨ v = b + 1) → ∀ ρ, mkR 0 ["one", "other", "norm"] m_Pair_init [.int u, .int v] ρ = .ok (pairD u v) ρ) : s10 (E14 xs a b c d p r8 (.val r) r10 r11 r12 r13) = .nx (E14 xs a b c d p r8 (.own (told a b c d)) r10 r11 r12 r13) := by
  have m1 := m a b (.inl rfl) (.inl rfl)
  have m2 := m a (b + 1) (.inl rfl) (.inr rfl)
  have m3 := m (a - 1) b (.inr rfl) (.inl rfl)
  have e1 := eqO_pp (neg := false) (a := a) (b := b) (c := a) (d := b)
  have e2 := eqO_pp (neg := false) (a := a) (b := b) (c := a) (d := b + 1)
  have e3 := eqO_pp (neg := false) (a := a) (b := b) (c := a - 1) (d := b)
  have n2 : decide (b = b + 1) = false := decide_eq_false (by omega)
  have n3 : decide (a = a - 1) = false := decide_eq_false (by omega)
  rw [n2] at e2
  rw [n3] at e3
  have e4 := eqO_pp (neg := false) (a := a) (b := b) (c := c) (d := d)
  have e5 := eqO_pp (neg := true) (a := a) (b := b) (c := c) (d := d)
  unfold s10 told
  simp only [Bool.false_eq_true, if_false, if_true] at e1 e2 e3 e4 e5
  generalize (decide (a = c) && decide (b = d)) = k at *
  simp [m1, m2, m3, e1, e2, e3, e4, e5, z5s]
theorem s11_ev : s11 (E14 xs a b c d p r8 (.own (told a b c d)) r10 r11 r12 r13) = .nx (E14 xs a b c d p r8 (.own (told a b c d)) r10 r11 r12 r13) := by
  obtain ⟨s, r, ok⟩ := repr_of (d := .lst (told a b c d)) (by simp [dOk, dOks]) (by simp only [dSz, dSzs]; decide) (by simp [dDp, dDps])
  have q := eqD_str (neg := true) ok
  have o1 : oPair (.int a) (.int b) = some (.tup [.int a, .int b]) := rfl
  have o2 : oPair (.int c) (.int d) = some (.tup [.int c, .int d]) := rfl
  have e1 := eqD_t2 (neg := false) (a := a) (b := b) (c := c) (d := d)
  have e2 := eqD_t2 (neg := true) (a := a) (b := b) (c := c) (d := d)
  rw [Bool.decide_and] at e1 e2
  simp only [Bool.false_eq_true, if_false, if_true] at e1 e2
  unfold s11
  unfold told at *
  generalize (decide (a = c) && decide (b = d)) = k at *
  simp [r, o1, o2, e1, e2, z5s, q]
theorem s12_ev (hs : m_Pair___str__ [pairD a b] = .ok (.str z)) : s12 (E14 xs a b c d p r8 r9 r10 r11 r12 .no) = .nx (E14 xs a b c d p r8 r9 r10 r11 r12 .no) := by
  have st : oStrC 0 m_Pair___str__ (pairD a b) = some (.str z) := by
    show (if 0 = 0 then (match m_Pair___str__ [pairD a b] with | .ok (.str z) => some (D.str z) | _ => none) else none) = _
    rw [if_pos rfl, hs]
  have m1 := eqM_px (a := a) (b := b) (o := .tup [.int a, .int b]) (t := "tuple") rfl rfl
  have m2 := eqM_px (a := a) (b := b) (o := .lst [.int a, .int b]) (t := "list") rfl rfl
  have m3 := eqM_px (a := a) (b := b) (o := .int a) (t := "int") rfl rfl
  have m4 := eqM_px (a := a) (b := b) (o := .non) (t := "NoneType") rfl rfl
  have m5 := eqM_px (a := a) (b := b) (o := .str z) (t := "str") rfl rfl
  unfold s12
  simp [st, z2s, z5s, compL_cons, m1, m2, m3, m4, m5, en]
theorem s13_ev (h1 : m__law_is [pairD a b, .int a, .int b] = .ok (.bl true)) (h2 : m__law_is [pairD c d, .int c, .int d] = .ok (.bl true)) : s13 (E14 xs a b c d p r8 r9 r10 r11 r12 r13) = .rt (.bl true) (E14 xs a b c d p r8 r9 r10 r11 r12 r13) := by
  unfold s13
  simp [h1, h2]
end
end PL
namespace PL
open PySem L2 TL
/-! ### sums, all -/
theorem chain {f g : Ev → Fl} {ρ ρ1 : Ev} (h : f ρ = .nx ρ1) : sq f g ρ = g ρ1 := by rw [sq_ap, h, seq_nx]
theorem P28.p {a : Int} (h : P28 a) : a.natAbs < 2 ^ 94 := Nat.lt_trans h (by decide)
theorem sm94 {a : Int} (h : a.natAbs < 2 ^ 94) : Sm a := sm_of h (by decide)
theorem nrm94 {a b : Int} (ha : a.natAbs < 2 ^ 94) (hb : b.natAbs < 2 ^ 94) : (a * a + b * b).natAbs < 2 ^ 190 := by
  have b1 := natAbs_mul_lt ha ha
  have b2 := natAbs_mul_lt hb hb
  generalize a * a = x at *
  generalize b * b = y at *
  omega
theorem mul94 {a b : Int} (ha : a.natAbs < 2 ^ 94) (hb : b.natAbs < 2 ^ 94) : (a * b).natAbs < 2 ^ 188 := natAbs_mul_lt ha hb
theorem sx_of {a b c d : Int} (ha : a.natAbs < 2 ^ 94) (hb : b.natAbs < 2 ^ 94) (hc : c.natAbs < 2 ^ 94) (hd : d.natAbs < 2 ^ 94) : SX a b c d := by
  have sa := sm94 ha
  have sb := sm94 hb
  have sc := sm94 hc
  have sd := sm94 hd
  have n1 := nrm94 ha hb
  have n2 := nrm94 hc hd
  have m := (t_mul (m := 94) hc hd ha hb (by decide)).1
  have e1 : c * a - d * b = a * c - b * d := by grind
  have e2 : c * b + d * a = a * d + b * c := by grind
  rw [e1, e2] at m
  exact ⟨t_add ha hb hc hd (by decide), t_sub ha hb hc hd (by decide), (t_mul ha hb hc hd (by decide)).1, m, t_neg sa sb, t_flip sa sb, t_flip sc sd, fun p => t_timesi sa sb, oTimes_sm sa sc, oTimes_sm sb sd, oTimes_sm sa sd, oTimes_sm sb sc, oTimes_sm sa sa, oTimes_sm sb sb, oTimes_sm sc sc, oTimes_sm sd sd, oTimes_sm (sm_of (k := 190) n1 (by decide)) (sm_of (k := 190) n2 (by decide))⟩
theorem row_ok {x y : Int} (hx : x.natAbs < 2 ^ 190) (hy : y.natAbs < 2 ^ 190) : ∃ u v, rowD x y = rowD u v ∧ u.natAbs < 2 ^ 290 ∧ v.natAbs < 2 ^ 290 :=
  ⟨x, y, rfl, Nat.lt_of_lt_of_le hx (by decide +kernel), Nat.lt_of_lt_of_le hy (by decide +kernel)⟩
theorem rx_bd2 {a b p : Int} (ha : a.natAbs < 2 ^ 94) (hb : b.natAbs < 2 ^ 94) : (rx p a b).natAbs < 2 ^ 190 ∧ (ry p a b).natAbs < 2 ^ 190 := by
  unfold rx ry
  constructor <;> (repeat' split) <;> omega
theorem bA {x y : Int} (hx : x.natAbs < 2 ^ 94) (hy : y.natAbs < 2 ^ 94) : (x + y).natAbs < 2 ^ 190 ∧ (x - y).natAbs < 2 ^ 190 := by omega
theorem bM {x y : Int} (hx : x.natAbs < 2 ^ 188) (hy : y.natAbs < 2 ^ 188) : (x + y).natAbs < 2 ^ 190 ∧ (x - y).natAbs < 2 ^ 190 := by omega
theorem bN {x : Int} (hx : x.natAbs < 2 ^ 94) : (-x).natAbs < 2 ^ 190 := by omega
theorem bW {x : Int} (hx : x.natAbs < 2 ^ 94) : x.natAbs < 2 ^ 190 := by omega
theorem rows_ok {a b c d p : Int} (ha : a.natAbs < 2 ^ 94) (hb : b.natAbs < 2 ^ 94) (hc : c.natAbs < 2 ^ 94) (hd : d.natAbs < 2 ^ 94) : ∀ o ∈ rows7 a b c d ++ [rowD (rx p a b) (ry p a b), rowD (rx (p + 1) a b) (ry (p + 1) a b), rowD (rx 0 a b) (ry 0 a b), rowD (rx (-1) a b) (ry (-1) a b)], ∃ x y, o = rowD x y ∧ x.natAbs < 2 ^ 290 ∧ y.natAbs < 2 ^ 290 := by
  have k1 := row_ok (bA ha hc).1 (bA hb hd).1
  have k2 := row_ok (bA ha hc).2 (bA hb hd).2
  have k3 := row_ok (bM (mul94 ha hc) (mul94 hb hd)).2 (bM (mul94 ha hd) (mul94 hb hc)).1
  have k4 := row_ok (bN ha) (bN hb)
  have k5 := row_ok (bW ha) (bN hb)
  have k6 := row_ok (bW hc) (bN hd)
  have r1 := rx_bd2 (p := p) ha hb
  have r2 := rx_bd2 (p := p + 1) ha hb
  have r3 := rx_bd2 (p := 0) ha hb
  have r4 := rx_bd2 (p := -1) ha hb
  have k7 := row_ok r1.1 r1.2
  have k8 := row_ok r2.1 r2.2
  have k9 := row_ok r3.1 r3.2
  have k0 := row_ok r4.1 r4.2
  intro o ho
  rcases List.mem_append.mp ho with ho | ho
  · rcases List.mem_cons.mp ho with h | ho
    · rw [h]; exact k1
    rcases List.mem_cons.mp ho with h | ho
    · rw [h]; exact k2
    rcases List.mem_cons.mp ho with h | ho
    · rw [h]; exact k3
    rcases List.mem_cons.mp ho with h | ho
    · rw [h]; exact k3
    rcases List.mem_cons.mp ho with h | ho
    · rw [h]; exact k4
    rcases List.mem_cons.mp ho with h | ho
    · rw [h]; exact k5
    rcases List.mem_cons.mp ho with h | ho
    · rw [h]; exact k6
    cases ho
  · rcases List.mem_cons.mp ho with h | ho
    · rw [h]; exact k7
    rcases List.mem_cons.mp ho with h | ho
    · rw [h]; exact k8
    rcases List.mem_cons.mp ho with h | ho
    · rw [h]; exact k9
    rcases List.mem_cons.mp ho with h | ho
    · rw [h]; exact k0
    cases ho
theorem t_sums {N : Nat} {xs : List D} (hc : Cup N xs) (hN : N + 100 ≤ 1000000) : ∃ xs', m__law_sums_right xs [] = .ok (.bl true) xs' ∧ Cup (N + 40) xs' := by
  obtain ⟨a, x1, e1, pa, c1⟩ := t_part hc (by omega)
  obtain ⟨b, x2, e2, pb, c2⟩ := t_part c1 (by omega)
  obtain ⟨c0, x3, e3, pc, c3⟩ := t_part c2 (by omega)
  obtain ⟨d0, x4, e4, pd, c4⟩ := t_part c3 (by omega)
  obtain ⟨c, d, x5, e5, pc, pd, c5⟩ := s2_all c4 (by omega) pa pb pc pd
  obtain ⟨p, x6, e6, c6⟩ := s4_all c5 (by omega)
  have ha := pa.p
  have hb := pb.p
  have hc := pc.p
  have hd := pd.p
  have X := sx_of ha hb hc hd
  obtain ⟨q9, q10, q11, e7⟩ := s7_ev (xs := x6) (p := p) (rs := rows7 a b c d) (r12 := .no) (r13 := .no) X (by simp)
  have sa := sm94 ha
  have sb := sm94 hb
  have mk : ∀ u v : Int, (u = a ∨ u = a - 1) → (v = b ∨ v = b + 1) → ∀ ρ, mkR 0 ["one", "other", "norm"] m_Pair_init [.int u, .int v] ρ = .ok (pairD u v) ρ := fun u v hu hv ρ => mkP (sm_of (k := 100) (by omega) (by decide)) (sm_of (k := 100) (by omega) (by decide))
  have w : ∀ {i : Int}, i.natAbs < 2 ^ 94 → i.natAbs < 2 ^ 290 := fun {i} h => Nat.lt_of_lt_of_le h (by decide +kernel)
  have st := t_str (a := a) (b := b) (Nat.lt_of_lt_of_le ha (by decide +kernel)) (Nat.lt_of_lt_of_le hb (by decide +kernel))
  have all : b__law_sums_right [.own xs, .no, .no, .no, .no, .no, .no, .no, .no, .no, .no, .no, .no, .no] = .rt (.bl true) (E14 x6 a b c d p (.val (.lst (rows7 a b c d ++ [rowD (rx p a b) (ry p a b), rowD (rx (p + 1) a b) (ry (p + 1) a b), rowD (rx 0 a b) (ry 0 a b), rowD (rx (-1) a b) (ry (-1) a b)]))) (.own (told a b c d)) (.val q10) (.val q11) .no .no) := by
    rw [s_eq, chain (s1_ev e1 e2 e3 e4), chain (e5 _ _ _ _ _ _ _ _ _), chain (s3_ev (fun ρ => mkP sa sb) (fun ρ => mkP (sm94 hc) (sm94 hd))), chain (e6 _ _ _ _ _ _ _ _ _ _ _ _), chain (s5_ev X), chain (s6_ev X), chain e7, chain (s8_ev (rows_ok ha hb hc hd)), chain (s9_ev X), chain (s10_ev mk), chain s11_ev, chain (s12_ev st)]
    exact s13_ev (t_is (w ha) (w hb)) (t_is (w hc) (w hd))
  refine ⟨x6, ?_, c6.mono (by omega)⟩
  unfold m__law_sums_right runM
  have e0 : (Sl.own xs :: env0 (14 - 1) []) = [.own xs, .no, .no, .no, .no, .no, .no, .no, .no, .no, .no, .no, .no, .no] := rfl
  rw [e0, all]
  rfl
/-! ### texts -/
abbrev Jn (xs : List Str) : Str := Str.join (Str.ofString " ") xs
structure Item (x : Str) : Prop where
  free : 32 ∉ tl x
  ok : PyData.strOk x = true
  len : x.length ≤ 700
theorem join_len : ∀ {xs : List Str} {n : Nat}, (∀ x ∈ xs, x.length ≤ n) → (Jn xs).length ≤ xs.length * (n + 1)
  | [], _, _ => by show Str.empty.length ≤ _; simp [Str.empty, Str.length]
  | [x], n, h => by
    have := h x (by simp)
    show x.length ≤ 1 * (n + 1)
    omega
  | x :: y :: r, n, h => by
    have ih := join_len (xs := y :: r) (n := n) fun z hz => h z (List.mem_cons_of_mem _ hz)
    have hx := h x (by simp)
    show (x ++ Str.ofString " " ++ Jn (y :: r)).length ≤ _
    rw [len_tl, tl_append, tl_append, sp_tl, List.length_append, List.length_append, ← len_tl, ← len_tl]
    have e : (x :: y :: r).length * (n + 1) = (y :: r).length * (n + 1) + (n + 1) := by rw [List.length_cons, Nat.succ_mul]
    rw [e]
    simp only [List.length_cons, List.length_nil] at *
    omega
theorem sum_len : ∀ {xs : List Str} {n : Nat}, (∀ x ∈ xs, x.length ≤ n) → (xs.map (·.length)).sum ≤ xs.length * n
  | [], _, _ => by simp
  | x :: xs, n, h => by
    have ih := sum_len (xs := xs) (n := n) fun z hz => h z (List.mem_cons_of_mem _ hz)
    have hx := h x (by simp)
    rw [List.map_cons, List.sum_cons, List.length_cons, Nat.succ_mul]
    omega
theorem strsOf_map : ∀ xs : List Str, strsOf (xs.map D.str) = some xs
  | [] => rfl
  | x :: xs => by show (strsOf (xs.map D.str)).map (x :: ·) = _; rw [strsOf_map xs]; rfl
theorem oJoin_ev {xs : List Str} (h : ∀ x ∈ xs, Item x) (hl : xs.length ≤ 10) : oJoin (.str (Str.ofString " ")) (.lst (xs.map D.str)) = some (.str (Jn xs)) := by
  show (strsOf (xs.map D.str)).bind _ = _
  rw [strsOf_map]
  show (if (xs.map (·.length)).sum + xs.length * (Str.ofString " ").length ≤ 16777216 then some (D.str (Jn xs)) else none) = _
  rw [if_pos]
  have := sum_len (n := 700) fun x hx => (h x hx).len
  rw [sp_len1]
  omega
theorem t_readJ {xs : List Str} {ls : List D} (hb : ∀ l ∈ ls, Bnd l) (hi : ∀ x ∈ xs, Item x) (hl : xs.length ≤ 10) (hne : xs ≠ []) : m_read_numbers [.str (Jn xs), .tup ls] = match fbad ls xs with
      | some j => .exc cTxt [.int 0, .int j]
      | none => .ok (.lst (xs.map fun y => .int (intOf y))) := by
  have sp := split_items hne fun p hp => (hi p hp).free
  have jl := join_len (n := 700) fun x hx => (hi x hx).len
  have sz : (100000 : Nat) ≤ sizeLine := by decide
  have q := t_readnums (x := Jn xs) hb (by omega) (fun y hy => by rw [sp] at hy; exact ⟨(hi y hy).ok, by have := (hi y hy).len; omega⟩) (by rw [sp]; omega)
  rw [sp] at q
  exact q
theorem t_readE {ls : List D} (hb : ∀ l ∈ ls, Bnd l) (h0 : 0 < ls.length) : m_read_numbers [.str (Jn []), .tup ls] = .exc cTxt [.int 0, .int 0] := by
  have sp := split_none
  have el : tl Str.empty = [] := rfl
  have sz : (100000 : Nat) ≤ sizeLine := by decide
  have q := t_readnums (x := Jn []) hb (by show Str.empty.length + 2 ≤ _; rw [len_tl, el]; show 0 + 2 ≤ sizeLine; omega) (fun y hy => by
    rw [sp, List.mem_singleton] at hy
    subst hy
    exact ⟨ok_tl (by rw [el]; simp), by rw [len_tl, el]; simp⟩) (by rw [sp]; show 1 ≤ sizeLine; omega)
  rw [sp] at q
  have e : fbad ls [Str.empty] = some 0 := by
    have n : numOk (ls.getD 0 .non) Str.empty = false := by
      unfold numOk
      rw [el]
      rfl
    unfold fbad lp
    rw [if_pos (.inr n)]
  rw [e] at q
  exact q
abbrev nn : List D := [.non, .non]
theorem nn_b : ∀ l ∈ nn, Bnd l := fun l hl => by
  simp only [List.mem_cons, List.not_mem_nil, or_false, or_self] at hl
  exact .inl hl
theorem rd_bad {o : D} {j : Int} (h : m_read_numbers [o, .tup nn] = .exc cTxt [.int 0, .int j]) : m_Pair_read [o] = .exc cTxt [.int 0, .int j] := by
  unfold m_Pair_read b_Pair_read
  simp [env0, z2s, h]
theorem rd_ok {o : D} {a b : Int} (h : m_read_numbers [o, .tup nn] = .ok (.lst [.int a, .int b])) (ha : Sm a) (hb : Sm b) : m_Pair_read [o] = .ok (pairD a b) := by
  have mk := fun ρ => mkP (ρ := ρ) ha hb
  unfold m_Pair_read b_Pair_read
  simp [env0, z2s, h, mk]
theorem nt_item {i : Int} (h : i.natAbs < 10 ^ 500) : Item (nt i) := ⟨nt_free, ok_of _, by have := intStr_len (k := 500) (by decide) h; show (Str.ofString (toString i)).length ≤ 700; omega⟩
def P60 (v : Int) : Prop := v.natAbs < 10 ^ 60
theorem P60.n {i : Int} (h : P60 i) : isNumL (tl (nt i)) = true := nt_num h
theorem P60.it {i : Int} (h : P60 i) : Item (nt i) := nt_item (Nat.lt_of_lt_of_le h (by decide +kernel))
theorem P60.v {i : Int} (h : P60 i) : intOf (nt i) = i := intOf_nt (Nat.lt_of_lt_of_le h (by decide +kernel))
theorem P60.s {i : Int} (h : P60 i) : Sm i := sm_of (k := 200) (Nat.lt_of_lt_of_le h (by decide +kernel)) (by decide)
theorem rd_two {a b : Int} (ha : P60 a) (hb : P60 b) : m_Pair_read [.str (Jn [nt a, nt b])] = .ok (pairD a b) := by
  have q := t_readJ (xs := [nt a, nt b]) nn_b (by simp only [List.mem_cons, List.not_mem_nil, or_false]; rintro x (rfl | rfl); exact ha.it; exact hb.it) (by simp) (by simp)
  have e : fbad nn [nt a, nt b] = none := by
    have n1 : numOk .non (nt a) = true := by unfold numOk; rw [ha.n]; rfl
    have n2 : numOk .non (nt b) = true := by unfold numOk; rw [hb.n]; rfl
    simp [fbad, lp, n1, n2]
  rw [e] at q
  simp only [List.map_cons, List.map_nil, ha.v, hb.v] at q
  exact rd_ok q ha.s hb.s
/-- what cannot stand -/
structure Odd (x : Str) : Prop where
  no : isNumL (tl x) = false
  it : Item x
def oddB (x : Str) : Bool := !isNumL (tl x) && (!(tl x).contains 32 && ((tl x).all (fun c => decide (c < 1114112)) && decide ((tl x).length ≤ 700)))
theorem odd_of {x : Str} (h : oddB x = true) : Odd x := by
  unfold oddB at h
  simp only [Bool.and_eq_true, Bool.not_eq_true', decide_eq_true_eq] at h
  obtain ⟨h1, h2, h3, h4⟩ := h
  exact ⟨h1, ⟨fun z => (by rw [List.contains_iff_mem.mpr z] at h2; cases h2), ok_tl fun c hc => of_decide_eq_true (List.all_eq_true.mp h3 c hc), by rw [len_tl]; exact h4⟩⟩
abbrev ones : Str := Txt.mul (Str.ofString "1") 61
abbrev twos : Str := Str.ofString "-" ++ Txt.mul (Str.ofString "2") 61
abbrev odds : List Str := ["", "+1", "01", "-0", "1.0", "a", "-", ones, "--1", "1_0", twos, "00", "-01"]
theorem odds_all : odds.all oddB = true := by decide +kernel
/-- the rows of what is read badly -/
abbrev itD (xs : List Str) (j : Int) : D := .tup [.lst (xs.map D.str), .int j]
theorem bad_of {xs : List Str} {j : Nat} (hi : ∀ x ∈ xs, Item x) (hl : xs.length ≤ 10) (hne : xs ≠ []) (h : fbad nn xs = some j) : m_Pair_read [.str (Jn xs)] = .exc cTxt [.int 0, .int j] := by
  have q := t_readJ nn_b hi hl hne
  rw [h] at q
  exact rd_bad q
theorem numOk_n {x : Str} : numOk .non x = isNumL (tl x) := by unfold numOk; simp
theorem bd_0 {x y : Str} (h1 : Odd x) (h2 : Item y) : m_Pair_read [.str (Jn [x, y])] = .exc cTxt [.int 0, .int 0] :=
  bad_of (xs := [x, y]) (j := 0) (by simp only [List.mem_cons, List.not_mem_nil, or_false]; rintro z (rfl | rfl); exact h1.it; exact h2) (by simp) (by simp) (by simp [fbad, lp, numOk_n, h1.no])
theorem bd_1 {x y : Str} (hx : isNumL (tl x) = true) (h1 : Item x) (h2 : Odd y) : m_Pair_read [.str (Jn [x, y])] = .exc cTxt [.int 0, .int 1] :=
  bad_of (xs := [x, y]) (j := 1) (by simp only [List.mem_cons, List.not_mem_nil, or_false]; rintro z (rfl | rfl); exact h1; exact h2.it) (by simp) (by simp) (by simp [fbad, lp, numOk_n, hx, h2.no])
theorem bd_s {x : Str} (hx : isNumL (tl x) = true) (h1 : Item x) : m_Pair_read [.str (Jn [x])] = .exc cTxt [.int 0, .int 1] :=
  bad_of (xs := [x]) (j := 1) (by simp only [List.mem_cons, List.not_mem_nil, or_false]; rintro z rfl; exact h1) (by simp) (by simp) (by simp [fbad, lp, numOk_n, hx])
theorem bd_3 {x y z : Str} (hx : isNumL (tl x) = true) (h1 : Item x) (hy : isNumL (tl y) = true) (h2 : Item y) (h3 : Item z) : m_Pair_read [.str (Jn [x, y, z])] = .exc cTxt [.int 0, .int 2] :=
  bad_of (xs := [x, y, z]) (j := 2) (by simp only [List.mem_cons, List.not_mem_nil, or_false]; rintro z (rfl | rfl | rfl); exact h1; exact h2; exact h3) (by simp) (by simp) (by simp [fbad, lp, numOk_n, hx, hy])
theorem bd_e : m_Pair_read [.str (Jn [])] = .exc cTxt [.int 0, .int 0] := rd_bad (t_readE nn_b (by decide))
noncomputable def tx1 : Ev → Fl := (parF 1 2 (consA (callM 0 m__law_part nilA) (consA (callM 0 m__law_part nilA) nilA)))
noncomputable def tx2 : Ev → Fl := (ifF (asB (e2 (eqD false) (callM 0 m__law_sip (consA (up (ct (.int 5))) nilA)) (up (ct (.int 0)))))
  (asgF (ttup 2 (tcons (tnm 1) (tcons (tnm 2) tnil))) (callM 0 m__law_choose (consA (asL (lenOk (consA (tupE (consA (up (q2 oSub (q2 oPow (ct (.int 10)) (ct (.int 60))) (ct (.int 1)))) (consA (fz 2) nilA))) (consA (tupE (consA (fz 1) (consA (up (q2 oSub (ct (.int 1)) (q2 oPow (ct (.int 10)) (ct (.int 60))))) nilA))) (consA (tupE (consA (up (q1 oNeg (q2 oPow (ct (.int 10)) (ct (.int 59))))) (consA (up (q2 oPow (ct (.int 10)) (ct (.int 59)))) nilA))) nilA))))) nilA)))
  Fl.nx)
noncomputable def tx3 : Ev → Fl := (setoF 3 (lenOk (consA (up (q1 oStr (bn 1))) (consA (up (q1 oStr (bn 2))) nilA))))
noncomputable def tx4 : Ev → Fl := (setF 4 (e2 oJoin (up (ct (.str " "))) (fz 3)))
noncomputable def tx5 : Ev → Fl := (ifF (orT (asB (e2 (eqD true) (e1 (oStrC 0 m_Pair___str__) (makeE 0 ["one", "other", "norm"] m_Pair_init (consA (fz 1) (consA (fz 2) nilA)))) (fz 4))) (orT (notT (asB (callE m__law_is (consA (callE m_Pair_read (consA (fz 4) nilA)) (consA (fz 1) (consA (fz 2) nilA)))))) (notT (asB (callE m__law_is (consA (callX [0] m_Pair_read nilA (consA (fz 4) nilA)) (consA (fz 1) (consA (fz 2) nilA))))))))
  (retF (up (ct (.bl false))))
  Fl.nx)
noncomputable def tx6 : Ev → Fl := (setF 5 (callM 0 m__law_choose (consA (asL (lenOk (consA (up (ct (.str ""))) (consA (up (ct (.str "+1"))) (consA (up (ct (.str "01"))) (consA (up (ct (.str "-0"))) (consA (up (ct (.str "1.0"))) (consA (up (ct (.str "a"))) (consA (up (ct (.str "-"))) (consA (up (q2 oMulS (ct (.str "1")) (ct (.int 61)))) (consA (up (ct (.str "--1"))) (consA (up (ct (.str "1_0"))) (consA (up (q2 oPlus (ct (.str "-")) (q2 oMulS (ct (.str "2")) (ct (.int 61))))) (consA (up (ct (.str "00"))) (consA (up (ct (.str "-01"))) nilA))))))))))))))) nilA)))
noncomputable def tx7 : Ev → Fl := (asgF (ttup 2 (tcons (tnm 6) (tcons (tnm 7) tnil))) (tupE (consA (callM 0 m__law_sip (consA (up (ct (.int 2))) nilA)) (consA (callM 0 m__law_choose (consA (asL (lenOk (consA (up (ct .non)) (consA (up (ct (.int 5))) (consA (fz 3) (consA (up (ct (.bl true))) (consA (tupE nilA) (consA (up (ct .dct)) nilA)))))))) nilA)) nilA))))
noncomputable def tx8 : Ev → Fl := (setoF 8 (lenOk (consA (tupE (consA (asL (f2 oCat (asL (f2 oCat (asL (slF (fz 3) noO (asO (fz 6)))) (asL (lenOk (consA (fz 5) nilA))))) (asL (slF (fz 3) (asO (up (q2 oPlus (bn 6) (ct (.int 1))))) noO)))) (consA (fz 6) nilA))) (consA (tupE (consA (asL (slF (fz 3) noO (asO (up (ct (.int 1)))))) (consA (up (ct (.int 1))) nilA))) (consA (tupE (consA (asL (f2 oCat (fz 3) (asL (lenOk (consA (fz 5) nilA))))) (consA (up (ct (.int 2))) nilA))) (consA (tupE (consA (asL (f2 oCat (fz 3) (asL (lenOk (consA (up (ct (.str "0"))) nilA))))) (consA (up (ct (.int 2))) nilA))) (consA (tupE (consA (asL (lenOk nilA)) (consA (up (ct (.int 0))) nilA))) (consA (tupE (consA (asL (lenOk (consA (fz 5) (consA (fz 5) nilA)))) (consA (up (ct (.int 0))) nilA))) nilA))))))))
noncomputable def txB : Ev → Fl := (ifF (asB (e2 (eqD true) (heardE h__law_heard (callE m_Pair_read (consA (e2 oJoin (up (ct (.str " "))) (fz 9)) nilA))) (tupE (consA (up (ct (.str "text"))) (consA (up (ct (.int 0))) (consA (fz 10) nilA))))))
  (retF (up (ct (.bl false))))
  Fl.nx)
noncomputable def tx9 : Ev → Fl := (forF (ttup 2 (tcons (tnm 9) (tcons (tnm 10) tnil))) (seqE (fz 8)) txB)
noncomputable def tx10 : Ev → Fl := (retF (e2 (eqD false) (heardE h__law_heard (callE m_Pair_read (consA (fz 7) nilA))) (tupE (consA (up (ct (.str "text"))) (consA (up (ct (.int 0))) (consA (up (ct (.int 0))) nilA))))))
theorem tx_eq : b__law_texts_right = (sq tx1 (sq tx2 (sq tx3 (sq tx4 (sq tx5 (sq tx6 (sq tx7 (sq tx8 (sq tx9 tx10))))))))) := rfl
theorem hd_t {j : Int} : h__law_heard (some (cTxt, [.int 0, .int j])) = some (.tup [.str "text", .int 0, .int j]) := rfl
theorem tq {neg : Bool} {j : Int} : eqD neg (.tup [.str "text", .int 0, .int j]) (.tup [.str "text", .int 0, .int j]) = some (.bl (!neg)) := eqD_refl (by simp [qOk, qOks, ok_of]) (by simp [dDp, dDps])
section
variable {xs x1 x2 x3 : List D} {a b u v : Int} {r0 r1 r2 r3 r4 r5 r6 r7 r8 r9 r10 : Sl} {it : List Str} {j : Int}
theorem txB_ev (hb : m_Pair_read [.str (Jn it)] = .exc cTxt [.int 0, .int j]) (hj : oJoin (.str (Str.ofString " ")) (.lst (it.map D.str)) = some (.str (Jn it))) :
    txB [r0, r1, r2, r3, r4, r5, r6, r7, r8, .val (.lst (it.map D.str)), .val (.int j)] = .nx [r0, r1, r2, r3, r4, r5, r6, r7, r8, .val (.lst (it.map D.str)), .val (.int j)] := by
  unfold txB
  generalize it.map D.str = L at *
  simp [hj, hb, hd_t, le3, tq]
theorem tx1_ev (q1 : m__law_part xs [] = .ok (.int a) x1) (q2 : m__law_part x1 [] = .ok (.int b) x2) : tx1 [.own xs, .no, .no, r3, r4, r5, r6, r7, r8, r9, r10] = .nx [.own x2, .val (.int a), .val (.int b), r3, r4, r5, r6, r7, r8, r9, r10] := by
  unfold tx1
  simp [q1, q2]
theorem pow60 : oPow (.int 10) (.int 60) = some (.int (10 ^ 60)) := by rw [oPow_ii (by decide) (by decide) (by decide)]; rfl
theorem pow59 : oPow (.int 10) (.int 59) = some (.int (10 ^ 59)) := by rw [oPow_ii (by decide) (by decide) (by decide)]; rfl
theorem tx2_n (q : m__law_sip xs [.int 5] = .ok (.int u) x1) (h : ¬ u = 0) : tx2 [.own xs, .val (.int a), .val (.int b), r3, r4, r5, r6, r7, r8, r9, r10] = .nx [.own x1, .val (.int a), .val (.int b), r3, r4, r5, r6, r7, r8, r9, r10] := by
  unfold tx2
  simp [q, h]
abbrev d3 (a b : Int) : List D := [.tup [.int (10 ^ 60 - 1), .int b], .tup [.int a, .int (1 - 10 ^ 60)], .tup [.int (-10 ^ 59), .int (10 ^ 59)]]
theorem tx2_y (q : m__law_sip xs [.int 5] = .ok (.int 0) x1) (q2 : m__law_choose x1 [.lst (d3 a b)] = .ok (.tup [.int u, .int v]) x2) : tx2 [.own xs, .val (.int a), .val (.int b), r3, r4, r5, r6, r7, r8, r9, r10] = .nx [.own x2, .val (.int u), .val (.int v), r3, r4, r5, r6, r7, r8, r9, r10] := by
  unfold tx2
  unfold d3 at q2
  have p6 := pow60
  have p5 := pow59
  generalize (10 : Int) ^ 60 = m at *
  generalize (10 : Int) ^ 59 = n at *
  simp [q, p6, p5, z2s, le3, q2]
theorem P28.up {a : Int} (h : P28 a) : P60 a := Nat.lt_of_lt_of_le h (by decide +kernel)
theorem tx2_all {N : Nat} (hc : Cup N xs) (hN : N + 10 ≤ 1000000) (ha : P28 a) (hb : P28 b) : ∃ u v x1, (∀ r3 r4 r5 r6 r7 r8 r9 r10 : Sl, tx2 [.own xs, .val (.int a), .val (.int b), r3, r4, r5, r6, r7, r8, r9, r10] = .nx [.own x1, .val (.int u), .val (.int v), r3, r4, r5, r6, r7, r8, r9, r10]) ∧ P60 u ∧ P60 v ∧ Cup (N + 2) x1 := by
  obtain ⟨w, x1, e1, w0, w1, c1⟩ := sc_.h (m := 5) hc (by omega) (by decide) (by decide)
  by_cases h : w = 0
  · subst h
    obtain ⟨o, ho, x2, e2, c2⟩ := pick_ (ds := d3 a b) c1 (by omega) (by simp) (by simp)
    obtain ⟨u, v, rfl, hu, hv⟩ : ∃ u v, o = .tup [.int u, .int v] ∧ P60 u ∧ P60 v := by
      simp only [d3, List.mem_cons, List.not_mem_nil, or_false] at ho
      rcases ho with rfl | rfl | rfl
      · exact ⟨_, _, rfl, by unfold P60; decide +kernel, hb.up⟩
      · exact ⟨_, _, rfl, ha.up, by unfold P60; decide +kernel⟩
      · exact ⟨_, _, rfl, by unfold P60; decide +kernel, by unfold P60; decide +kernel⟩
    exact ⟨u, v, x2, fun _ _ _ _ _ _ _ _ => tx2_y e1 e2, hu, hv, c2⟩
  · exact ⟨a, b, x1, fun _ _ _ _ _ _ _ _ => tx2_n e1 h, ha.up, hb.up, c1.mono (by omega)⟩
theorem oStr_ev {i : Int} (h : P60 i) : oStr (.int i) = some (.str (nt i)) := by
  have l : i.natAbs.log2 < 1920 := by
    by_cases z : i.natAbs = 0
    · rw [z]; decide
    · exact (Nat.log2_lt z).mpr (Nat.lt_of_lt_of_le h (by decide +kernel))
  unfold oStr
  exact if_pos l
theorem tx3_ev (ha : P60 a) (hb : P60 b) : tx3 [.own xs, .val (.int a), .val (.int b), .no, r4, r5, r6, r7, r8, r9, r10] = .nx [.own xs, .val (.int a), .val (.int b), .own [.str (nt a), .str (nt b)], r4, r5, r6, r7, r8, r9, r10] := by
  unfold tx3
  simp [oStr_ev ha, oStr_ev hb, z2s]
theorem tx4_ev (hj : oJoin (.str (Str.ofString " ")) (.lst [.str (nt a), .str (nt b)]) = some (.str (Jn [nt a, nt b]))) : tx4 [.own xs, .val (.int a), .val (.int b), .own [.str (nt a), .str (nt b)], .no, r5, r6, r7, r8, r9, r10] = .nx [.own xs, .val (.int a), .val (.int b), .val (.lst [.str (nt a), .str (nt b)]), .val (.str (Jn [nt a, nt b])), r5, r6, r7, r8, r9, r10] := by
  unfold tx4
  simp [hj]
theorem tx5_ev {T : Str} (mk : ∀ ρ, mkR 0 ["one", "other", "norm"] m_Pair_init [.int a, .int b] ρ = .ok (pairD a b) ρ) (st : m_Pair___str__ [pairD a b] = .ok (.str T)) (ok : PyData.strOk T = true) (rd : m_Pair_read [.str T] = .ok (pairD a b)) (i : m__law_is [pairD a b, .int a, .int b] = .ok (.bl true)) :
    tx5 [.own xs, .val (.int a), .val (.int b), r3, .val (.str T), r5, r6, r7, r8, r9, r10] = .nx [.own xs, .val (.int a), .val (.int b), r3, .val (.str T), r5, r6, r7, r8, r9, r10] := by
  have s2 : oStrC 0 m_Pair___str__ (pairD a b) = some (.str T) := by
    show (if 0 = 0 then (match m_Pair___str__ [pairD a b] with | .ok (.str z) => some (D.str z) | _ => none) else none) = _
    rw [if_pos rfl, st]
  have q := eqD_str (neg := true) ok
  have r0 : reo [0] [D.str T] = [D.str T] := rfl
  unfold tx5 callX
  simp [mk, s2, q, rd, i, r0]
theorem z13 : (13 : Nat) ≤ sizeLine := by decide
theorem mul1 : oMulS (.str (Str.ofString "1")) (.int 61) = some (.str ones) := by
  unfold oMulS
  exact if_pos (by decide +kernel)
theorem mul2 : oMulS (.str (Str.ofString "2")) (.int 61) = some (.str (Txt.mul (Str.ofString "2") 61)) := by
  unfold oMulS
  exact if_pos (by decide +kernel)
theorem add2 : oPlus (.str (Str.ofString "-")) (.str (Txt.mul (Str.ofString "2") 61)) = some (.str twos) := by
  have e : oAddS (.str (Str.ofString "-")) (.str (Txt.mul (Str.ofString "2") 61)) = some (.str twos) := by
    unfold oAddS
    exact if_pos (by decide +kernel)
  have f : ∀ x : Option D, oAddS (.str (Str.ofString "-")) (.str (Txt.mul (Str.ofString "2") 61)) = x → oPlus (.str (Str.ofString "-")) (.str (Txt.mul (Str.ofString "2") 61)) = (match x with | some d => some d | none => (oCat (.str (Str.ofString "-")) (.str (Txt.mul (Str.ofString "2") 61))).map .lst) := fun x h => by subst h; rfl
  exact f _ e
theorem tx6_ev {o : D} (q : m__law_choose xs [.lst (odds.map D.str)] = .ok o x1) : tx6 [.own xs, r1, r2, r3, r4, .no, r6, r7, r8, r9, r10] = .nx [.own x1, r1, r2, r3, r4, .val o, r6, r7, r8, r9, r10] := by
  unfold tx6
  unfold odds at q
  simp only [List.map_cons, List.map_nil] at q
  have m1 := mul1
  have m2 := mul2
  have a2 := add2
  generalize ones = z1 at *
  generalize Txt.mul (Str.ofString "2") 61 = z2 at *
  generalize twos = z3 at *
  simp [m1, m2, a2, z13, q]
abbrev nones (it : D) : List D := [.non, .int 5, it, .bl true, .tup [], .dct]
theorem tx7_ev {o it : D} (q1 : m__law_sip xs [.int 2] = .ok (.int u) x1) (q2 : m__law_choose x1 [.lst (nones it)] = .ok o x2) : tx7 [.own xs, r1, r2, .val it, r4, r5, .no, .no, r8, r9, r10] = .nx [.own x2, r1, r2, .val it, r4, r5, .val (.int u), .val o, r8, r9, r10] := by
  unfold tx7
  simp [q1, q2, z2s, z6s]
theorem cut_a {x y : D} : cutD [x, y] none (some 0) = [] ∧ cutD [x, y] (some 1) none = [y] ∧ cutD [x, y] none (some 1) = [x] ∧ cutD [x, y] (some 2) none = [] := ⟨rfl, rfl, rfl, rfl⟩
theorem cat2 {l m : List D} (h : l.length + m.length ≤ 100) : oCat (.lst l) (.lst m) = some (l ++ m) := if_pos (Nat.le_trans h (by decide))
theorem slF_ap {k : Ev → Rs D} {l u : Ev → Rs (Option Int)} {ρ : Ev} : slF k l u ρ = (k ρ).bind fun d ρ1 => (l ρ1).bind fun lo ρ2 => (u ρ2).bind fun hi ρ3 => match listOf d with
  | some xs => .ok (cutD xs lo hi) ρ3
  | none => .stuck := rfl
theorem noO_ap {ρ : Ev} : noO ρ = .ok none ρ := rfl
theorem asO_ap {k : Ev → Rs D} {ρ : Ev} : asO k ρ = (k ρ).bind fun d ρ1 => match d with
  | .int i => .ok (some i) ρ1
  | _ => .stuck := rfl
theorem lo_l {l : List D} : listOf (.lst l) = some l := rfl
abbrev rws (x y o : Str) (k : Int) : List D := [(if k = 0 then itD [o, y] 0 else itD [x, o] 1), itD [x] 1, itD [x, y, o] 2, itD [x, y, "0"] 2, itD [] 0, itD [o, o] 0]
theorem tx8_ev {x y o : Str} {k : Int} (h : k = 0 ∨ k = 1) : tx8 [.own xs, r1, r2, .val (.lst [.str x, .str y]), r4, .val (.str o), .val (.int k), r7, .no, r9, r10] = .nx [.own xs, r1, r2, .val (.lst [.str x, .str y]), r4, .val (.str o), .val (.int k), r7, .own (rws x y o k), r9, r10] := by
  obtain ⟨c1, c2, c3, c4⟩ := cut_a (x := D.str x) (y := D.str y)
  have k1 := cat2 (l := [D.str x, D.str y]) (m := [D.str o]) (by simp)
  have k2 := cat2 (l := [D.str x, D.str y]) (m := [D.str (Str.ofString "0")]) (by simp)
  have k3 := cat2 (l := []) (m := [D.str o]) (by simp)
  have k4 := cat2 (l := [D.str o]) (m := [D.str y]) (by simp)
  have k5 := cat2 (l := [D.str x]) (m := [D.str o]) (by simp)
  have k6 := cat2 (l := [D.str x, D.str o]) (m := []) (by simp)
  simp only [List.nil_append, List.cons_append, List.append_nil] at k1 k2 k3 k4 k5 k6
  unfold tx8 rws
  rcases h with rfl | rfl
  · simp [slF_ap, noO_ap, asO_ap, lo_l, c1, c2, c3, f2_ap, k1, k2, k3, k4, z1s, z2s, z6s]
  · simp [slF_ap, noO_ap, asO_ap, lo_l, c3, c4, f2_ap, k1, k2, k5, k6, z1s, z2s, z6s]
theorem tx10_ev {o : D} (h : m_Pair_read [o] = .exc cTxt [.int 0, .int 0]) : tx10 [r0, r1, r2, r3, r4, r5, r6, .val o, r8, r9, r10] = .rt (.bl true) [r0, r1, r2, r3, r4, r5, r6, .val o, r8, r9, r10] := by
  have t := tq (neg := false) (j := 0)
  unfold tx10
  simp [h, hd_t, le3, t]
/-- all rows -/
theorem tx9_all (rs : List (List Str × Int)) (hr : ∀ r ∈ rs, m_Pair_read [.str (Jn r.1)] = .exc cTxt [.int 0, .int r.2] ∧ ∀ x ∈ r.1, Item x) (hl : ∀ r ∈ rs, r.1.length ≤ 10) : ∃ q8 q9 q10, ∀ (r0 r1 r2 r3 r4 r5 r6 r7 : Sl), tx9 [r0, r1, r2, r3, r4, r5, r6, r7, .own (rs.map fun r => itD r.1 r.2), .no, .no] = .nx [r0, r1, r2, r3, r4, r5, r6, r7, q8, q9, q10] := by
  have lp : ∀ (rs : List (List Str × Int)) (q8 q9 q10 : Sl), (∀ r ∈ rs, m_Pair_read [.str (Jn r.1)] = .exc cTxt [.int 0, .int r.2] ∧ ∀ x ∈ r.1, Item x) → (∀ r ∈ rs, r.1.length ≤ 10) → ∃ p9 p10, ∀ (r0 r1 r2 r3 r4 r5 r6 r7 : Sl), forL (ttup 2 (tcons (tnm 9) (tcons (tnm 10) tnil))) txB (rs.map fun r => itD r.1 r.2) [r0, r1, r2, r3, r4, r5, r6, r7, q8, q9, q10] = .nx [r0, r1, r2, r3, r4, r5, r6, r7, q8, p9, p10] := by
    intro rs
    induction rs with
    | nil => exact fun q8 q9 q10 _ _ => ⟨q9, q10, fun _ _ _ _ _ _ _ _ => rfl⟩
    | cons r rs ih =>
      intro q8 q9 q10 h hl
      obtain ⟨hb, hi⟩ := h r (by simp)
      have hj := oJoin_ev hi (hl r (by simp))
      obtain ⟨p9, p10, e⟩ := ih q8 (.val (.lst (r.1.map D.str))) (.val (.int r.2)) (fun z hz => h z (List.mem_cons_of_mem _ hz)) fun z hz => hl z (List.mem_cons_of_mem _ hz)
      refine ⟨p9, p10, fun r0 r1 r2 r3 r4 r5 r6 r7 => ?_⟩
      have tg : (ttup 2 (tcons (tnm 9) (tcons (tnm 10) tnil))) (itD r.1 r.2) [r0, r1, r2, r3, r4, r5, r6, r7, q8, q9, q10] = some [r0, r1, r2, r3, r4, r5, r6, r7, q8, .val (.lst (r.1.map D.str)), .val (.int r.2)] := by
        unfold itD
        generalize r.1.map D.str = L
        simp
      rw [List.map_cons, forL_cons, tg]
      dsimp only
      rw [txB_ev hb hj, loopK_nx]
      exact e _ _ _ _ _ _ _ _
  obtain ⟨p9, p10, e⟩ := lp rs (.val (.lst (rs.map fun r => itD r.1 r.2))) .no .no hr hl
  refine ⟨.val (.lst (rs.map fun r => itD r.1 r.2)), p9, p10, fun r0 r1 r2 r3 r4 r5 r6 r7 => ?_⟩
  unfold tx9
  have sq : ∀ L : List D, seqE (fz 8) [r0, r1, r2, r3, r4, r5, r6, r7, .own L, .no, .no] = .ok L [r0, r1, r2, r3, r4, r5, r6, r7, .val (.lst L), .no, .no] := fun L => by simp
  rw [forF_ap, sq, fl_ok]
  exact e _ _ _ _ _ _ _ _
end
end PL
namespace PL
open PySem L2 TL
theorem t_texts {N : Nat} {xs : List D} (hc : Cup N xs) (hN : N + 100 ≤ 1000000) : ∃ xs', m__law_texts_right xs [] = .ok (.bl true) xs' ∧ Cup (N + 40) xs' := by
  obtain ⟨a0, x1, e1, pa, c1⟩ := t_part hc (by omega)
  obtain ⟨b0, x2, e2, pb, c2⟩ := t_part c1 (by omega)
  obtain ⟨a, b, x3, e3, pa, pb, c3⟩ := tx2_all c2 (by omega) pa pb
  obtain ⟨o, ho, x4, e4, c4⟩ := pick_ (ds := odds.map D.str) c3 (by omega) (by simp) (by simp)
  obtain ⟨k, x5, e5, k0, k1, c5⟩ := sc_.h (m := 2) c4 (by omega) (by decide) (by decide)
  obtain ⟨no, hno, x6, e6, c6⟩ := pick_ (ds := nones (.lst [.str (nt a), .str (nt b)])) c5 (by omega) (by simp) (by simp)
  obtain ⟨z, hz, rfl⟩ := List.mem_map.mp ho
  have od : Odd z := odd_of (List.all_eq_true.mp odds_all z hz)
  have hk : k = 0 ∨ k = 1 := by omega
  have it : ∀ x ∈ [nt a, nt b], Item x := by
    simp only [List.mem_cons, List.not_mem_nil, or_false]
    rintro x (rfl | rfl)
    · exact pa.it
    · exact pb.it
  have hj := oJoin_ev it (by simp)
  have rd := rd_two pa pb
  have sa := pa.s
  have sb := pb.s
  have st := t_str (a := a) (b := b) (Nat.lt_of_lt_of_le pa (by decide +kernel)) (Nat.lt_of_lt_of_le pb (by decide +kernel))
  have ok : PyData.strOk (Jn [nt a, nt b]) = true := ok_join (ok_of _) _ fun x hx => (it x hx).ok
  have w : ∀ {i : Int}, P60 i → i.natAbs < 2 ^ 290 := fun {i} h => Nat.lt_of_lt_of_le h (by decide +kernel)
  have is_ := t_is (w pa) (w pb)
  have zero : Item (Str.ofString "0") := ⟨by rw [zero_tl]; decide, ok_of _, by rw [len_tl, zero_tl]; decide⟩
  have nst : isaT nC "str" no = some false := by
    simp only [nones, List.mem_cons, List.not_mem_nil, or_false] at hno
    rcases hno with rfl | rfl | rfl | rfl | rfl | rfl <;> rfl
  have rdn := rd_bad (x_readnums (ls := nn) nst)
  have fin : ∀ {R : Ev}, tx10 R = .rt (.bl true) R → R[0]? = some (.own x6) → b__law_texts_right [.own xs, .no, .no, .no, .no, .no, .no, .no, .no, .no, .no] = tx10 R → m__law_texts_right xs [] = .ok (.bl true) x6 := fun {R} h1 h2 h3 => by
    unfold m__law_texts_right runM
    have e0 : (Sl.own xs :: env0 (11 - 1) []) = [.own xs, .no, .no, .no, .no, .no, .no, .no, .no, .no, .no] := rfl
    rw [e0, h3, h1]
    show outM (.bl true) R = _
    unfold outM
    rw [h2]
  refine ⟨x6, ?_, c6.mono (by omega)⟩
  have pre : b__law_texts_right [.own xs, .no, .no, .no, .no, .no, .no, .no, .no, .no, .no] = sq tx8 (sq tx9 tx10) [.own x6, .val (.int a), .val (.int b), .val (.lst [.str (nt a), .str (nt b)]), .val (.str (Jn [nt a, nt b])), .val (.str z), .val (.int k), .val no, .no, .no, .no] := by
    rw [tx_eq, chain (tx1_ev e1 e2), chain (e3 _ _ _ _ _ _ _ _), chain (tx3_ev pa pb), chain (tx4_ev hj), chain (tx5_ev (fun ρ => mkP sa sb) st ok rd is_), chain (tx6_ev e4), chain (tx7_ev e5 e6)]
  have r1 := bd_s pa.n pa.it
  have r2 := bd_3 pa.n pa.it pb.n pb.it od.it
  have r3 := bd_3 pa.n pa.it pb.n pb.it zero
  have r4 := bd_e
  have r5 := bd_0 od od.it
  have tail_ : ∀ r ∈ ([([nt a], 1), ([nt a, nt b, z], 2), ([nt a, nt b, "0"], 2), ([], 0), ([z, z], 0)] : List (List Str × Int)), (m_Pair_read [.str (Jn r.1)] = .exc cTxt [.int 0, .int r.2] ∧ ∀ x ∈ r.1, Item x) ∧ r.1.length ≤ 10 := by
    intro r hr
    simp only [List.mem_cons, List.not_mem_nil, or_false] at hr
    rcases hr with rfl | rfl | rfl | rfl | rfl
    · exact ⟨⟨r1, by simp only [List.mem_cons, List.not_mem_nil, or_false]; rintro x rfl; exact pa.it⟩, by simp⟩
    · exact ⟨⟨r2, by simp only [List.mem_cons, List.not_mem_nil, or_false]; rintro x (rfl | rfl | rfl); exact pa.it; exact pb.it; exact od.it⟩, by simp⟩
    · exact ⟨⟨r3, by simp only [List.mem_cons, List.not_mem_nil, or_false]; rintro x (rfl | rfl | rfl); exact pa.it; exact pb.it; exact zero⟩, by simp⟩
    · exact ⟨⟨r4, by simp⟩, by simp⟩
    · exact ⟨⟨r5, by simp only [List.mem_cons, List.not_mem_nil, or_false]; rintro x (rfl | rfl) <;> exact od.it⟩, by simp⟩
  have go : ∀ r0 : List Str × Int, (m_Pair_read [.str (Jn r0.1)] = .exc cTxt [.int 0, .int r0.2] ∧ ∀ x ∈ r0.1, Item x) → r0.1.length ≤ 10 → tx8 [.own x6, .val (.int a), .val (.int b), .val (.lst [.str (nt a), .str (nt b)]), .val (.str (Jn [nt a, nt b])), .val (.str z), .val (.int k), .val no, .no, .no, .no] = .nx [.own x6, .val (.int a), .val (.int b), .val (.lst [.str (nt a), .str (nt b)]), .val (.str (Jn [nt a, nt b])), .val (.str z), .val (.int k), .val no, .own ((r0 :: ([([nt a], 1), ([nt a, nt b, z], 2), ([nt a, nt b, "0"], 2), ([], 0), ([z, z], 0)] : List (List Str × Int))).map fun r => itD r.1 r.2), .no, .no] → m__law_texts_right xs [] = .ok (.bl true) x6 := fun r0 h1 h2 h8 => by
    obtain ⟨q8, q9, q10, e9⟩ := tx9_all (r0 :: ([([nt a], 1), ([nt a, nt b, z], 2), ([nt a, nt b, "0"], 2), ([], 0), ([z, z], 0)] : List (List Str × Int))) (fun r hr => by
      rcases List.mem_cons.mp hr with rfl | hr
      · exact h1
      · exact (tail_ r hr).1) (fun r hr => by
      rcases List.mem_cons.mp hr with rfl | hr
      · exact h2
      · exact (tail_ r hr).2)
    refine fin (R := [.own x6, .val (.int a), .val (.int b), .val (.lst [.str (nt a), .str (nt b)]), .val (.str (Jn [nt a, nt b])), .val (.str z), .val (.int k), .val no, q8, q9, q10]) (tx10_ev rdn) rfl ?_
    rw [pre, chain h8, chain (e9 _ _ _ _ _ _ _ _)]
  rcases hk with rfl | rfl
  · exact go ([z, nt b], 0) ⟨bd_0 od pb.it, by simp only [List.mem_cons, List.not_mem_nil, or_false]; rintro x (rfl | rfl); exact od.it; exact pb.it⟩ (by simp) (tx8_ev (.inl rfl))
  · exact go ([nt a, z], 1) ⟨bd_1 pa.n pa.it od, by simp only [List.mem_cons, List.not_mem_nil, or_false]; rintro x (rfl | rfl); exact pa.it; exact od.it⟩ (by simp) (tx8_ev (.inr rfl))
/-! ### what is no integer -/
theorem ni_x {o s : D} (h : m_is_integer [o] = .ok (.bl false)) : m_need_integer [o, s] = .exc 2 [s] := by
  unfold m_need_integer b_need_integer
  simp [env0, h, raiseF]
theorem in_x1 {o p : D} {ρ : Ev} (h : m_is_integer [o] = .ok (.bl false)) : mkR 0 ["one", "other", "norm"] m_Pair_init [o, p] ρ = .exc 2 [.str "one"] ρ := by
  have e : m_Pair_init [o, p] = .exc 2 [.str "one"] := by
    unfold m_Pair_init b_Pair_init runI
    simp [env0, ni_x h]
  unfold mkR
  rw [e]
theorem in_x2 {o : D} {i : Int} {ρ : Ev} (h : m_is_integer [o] = .ok (.bl false)) : mkR 0 ["one", "other", "norm"] m_Pair_init [.int i, o] ρ = .exc 2 [.str "other"] ρ := by
  have e : m_Pair_init [.int i, o] = .exc 2 [.str "other"] := by
    unfold m_Pair_init b_Pair_init runI
    simp [env0, ni_x h, t_needint]
  unfold mkR
  rw [e]
theorem ti_x {o p : D} (h : m_is_integer [o] = .ok (.bl false)) : m_Pair_times_i [p, o] = .exc 2 [.str "power"] := by
  unfold m_Pair_times_i b_Pair_times_i
  simp [env0, ni_x h]
theorem hd_1 : h__law_heard (some (2, [.str "one"])) = some (.tup [.str "number", .str "one"]) := rfl
theorem hd_2 : h__law_heard (some (2, [.str "other"])) = some (.tup [.str "number", .str "other"]) := rfl
theorem hd_3 : h__law_heard (some (2, [.str "power"])) = some (.tup [.str "number", .str "power"]) := rfl
theorem hd_n : h__law_heard none = some (.tup []) := rfl
abbrev due : D := .lst [.tup [.str "number", .str "one"], .tup [.str "number", .str "other"], .tup [.str "number", .str "one"], .tup [.str "number", .str "power"], .tup []]
theorem due_q : eqD false due due = some (.bl true) := eqD_refl (by simp [qOk, qOks, ok_of]) (by simp [dDp, dDps])
abbrev d7 : List D := [.non, .bl true, .bl false, .str "1", .tup [.int 1], .lst [.int 2], .dct]
theorem z7s : (7 : Nat) ≤ sizeLine := by decide
theorem rf_ev {xs x1 : List D} {o r : D} (q : m__law_choose xs [.lst d7] = .ok o x1) (h : m_is_integer [o] = .ok (.bl false)) (mk : ∀ ρ, mkR 0 ["one", "other", "norm"] m_Pair_init [.int 1, .int 2] ρ = .ok (pairD 1 2) ρ) (t : m_Pair_times_i [pairD 1 2, .int (-3)] = .ok r) : m__law_refused_right xs [] = .ok (.bl true) x1 := by
  have s0 : (0 : Nat) < sizeLine := by decide
  have s1 : (1 : Nat) < sizeLine := by decide
  have s2 : (2 : Nat) < sizeLine := by decide
  have s3 : (3 : Nat) < sizeLine := by decide
  have s4 : (4 : Nat) < sizeLine := by decide
  have m1 := fun p ρ => in_x1 (p := p) (ρ := ρ) h
  have m2 := fun i ρ => in_x2 (i := i) (ρ := ρ) h
  have m3 := ti_x (p := pairD 1 2) h
  have dq := due_q
  unfold due at dq
  unfold m__law_refused_right b__law_refused_right runM
  simp [env0, q, z1s, z2s, z7s, z5s, mk, m1, m2, m3, t, hd_1, hd_2, hd_3, hd_n, s0, s1, s2, s3, s4, outM, dq]
theorem t_refused {N : Nat} {xs : List D} (hc : Cup N xs) (hN : N + 60 ≤ 1000000) : ∃ xs', m__law_refused_right xs [] = .ok (.bl true) xs' := by
  obtain ⟨o, ho, x1, e1, c1⟩ := pick_ (ds := d7) hc (by omega) (by simp) (by simp)
  have h : m_is_integer [o] = .ok (.bl false) := by
    simp only [d7, List.mem_cons, List.not_mem_nil, or_false] at ho
    rcases ho with rfl | rfl | rfl | rfl | rfl | rfl | rfl <;> rfl
  have q1 : Sm 1 := sm_of (k := 10) (by decide) (by decide)
  have q2 : Sm 2 := sm_of (k := 10) (by decide) (by decide)
  exact ⟨x1, rf_ev e1 h (fun ρ => mkP q1 q2) (t_timesi q1 q2)⟩
/-! ### the law -/
noncomputable def lwB : Ev → Fl := (ifF (orT (notT (asB (callM 1 m__law_sums_right nilA))) (notT (asB (callM 1 m__law_texts_right nilA))))
  (retF (up (ct (.bl false))))
  Fl.nx)
noncomputable def lwT : Ev → Fl := (retF (callM 1 m__law_refused_right nilA))
theorem law_eq : b_law = (sq (setoF 1 (callL m__law_can (consA (fz 0) nilA))) (sq (forF (tnm 2) (rng1 (consA (up (ct (.int 5))) nilA)) lwB) lwT)) := rfl
theorem lwB_ev {s : D} {xs x1 x2 : List D} {r2 : Sl} (h1 : m__law_sums_right xs [] = .ok (.bl true) x1) (h2 : m__law_texts_right x1 [] = .ok (.bl true) x2) : lwB [.val s, .own xs, r2] = .nx [.val s, .own x2, r2] := by
  unfold lwB
  simp [h1, h2]
theorem t_laps {s : D} {xs : List D} (hc : Cup 0 xs) : ∃ xs' r2, forL (tnm 2) lwB (rangeL 0 5) [.val s, .own xs, .no] = .nx [.val s, .own xs', r2] ∧ Cup 500 xs' := by
  obtain ⟨ρ', e, xs', r2, h, c⟩ := forL_range (tg := tnm 2) (f := lwB) (lo := 0) (n := 5) (ρ := [.val s, .own xs, .no])
    (fun k ρ => ∃ (xs' : List D) (r2 : Sl), ρ = [.val s, .own xs', r2] ∧ Cup (100 * k) xs') ⟨xs, .no, rfl, hc⟩ (fun k ρ hk ⟨ys, r2, h, c⟩ => by
      subst h
      obtain ⟨x1, e1, c1⟩ := t_sums c (by omega)
      obtain ⟨x2, e2, c2⟩ := t_texts c1 (by omega)
      exact ⟨[.val s, .own ys, .val (.int (0 + (k : Nat)))], by simp, _, lwB_ev e1 e2, x2, _, rfl, c2.mono (by omega)⟩)
  exact ⟨xs', r2, by rw [e, h], c⟩
theorem law_ev {s : D} {xs x1 x2 : List D} {r2 : Sl} (e0 : m__law_can [s] = .ok xs) (e1 : forL (tnm 2) lwB (rangeL 0 5) [.val s, .own xs, .no] = .nx [.val s, .own x1, r2]) (e2 : m__law_refused_right x1 [] = .ok (.bl true) x2) : m_law [s] = .ok (.bl true) := by
  have r5 : ∀ ρ, rng1 (consA (up (ct (.int 5))) nilA) ρ = .ok (rangeL 0 5) ρ := fun ρ => rfl
  have c : ∀ ρ : Ev, ρ[0]? = some (.val s) → callL m__law_can (consA (fz 0) nilA) ρ = .ok xs ρ := fun ρ h => by
    unfold callL
    simp [h, e0]
  unfold m_law
  rw [law_eq, runF_ap, sq_ap, setoF_ap, c _ rfl, fl_ok]
  unfold lwT
  simp [env0, r5, e1, e2, -rng1_ap]
theorem law_true {ns : List Int} (hl : ns.length ≤ 63) : m_law [.scr ns] = .ok (.bl true) := by
  obtain ⟨xs, e, c⟩ := box_ (ns := ns) (by omega)
  obtain ⟨x1, r2, e1, c1⟩ := t_laps (s := .scr ns) c
  obtain ⟨x2, e2⟩ := t_refused c1 (by omega)
  exact law_ev e e1 e2
end PL
namespace Hd
open PySem PySem.Spec PyProof.Rows PL
open L2
theorem all_lt {n : Nat} {f : Nat → Bool} (h : (List.range n).all f = true) {c : Nat} (hc : c < n) : f c = true := List.all_eq_true.mp h c (List.mem_range.mpr hc)
section
variable {K : PySem.W.Frag}
theorem kinds_of (h1 : obB K = true) (h2 : ((List.range 1).all fun c => knB K c && naB K c) = true) (hc : ∀ c, c < 1 → Cls K (cAt K c)) : Kinds K (CC (cAt K)) nC subs := by
  have z : ∀ c, c < 1 → knB K c = true := fun c q => (He.ba (all_lt h2 q)).1
  obtain ⟨o1, o2⟩ := He.ba h1
  refine ⟨fun c q H a dx fs e => ?_, fun c q T hT => ?_, fun c q T hT => ?_, fun c q j r => ?_⟩
  · obtain ⟨y1, y2⟩ := He.ba (He.ba (z c q)).1
    exact .base (.ins e (hc c q) (He.eqO_ok y1) (He.eqO_ok o1) (of_decide_eq_true o2) (of_decide_eq_true y2))
  · exact of_decide_eq_true (List.all_eq_true.mp (He.ba (He.ba (z c q)).2).1 T hT)
  · exact of_decide_eq_true (List.all_eq_true.mp (He.ba (He.ba (He.ba (z c q)).2).2).1 T hT)
  · exact of_decide_eq_true (all_lt (He.ba (He.ba (He.ba (z c q)).2).2).2 r)
theorem clsF_of (h2 : ((List.range 1).all fun c => knB K c && naB K c) = true) (hc : ∀ c, c < 1 → Cls K (cAt K c)) : ClsF K (CC (cAt K)) nC :=
  ⟨hc, fun c q y hy => He.eqO_ok (List.all_eq_true.mp (He.ba (all_lt h2 q)).2 y hy)⟩
end
section
variable {P : Program} {w : World} {K : PySem.W.Frag} {mg : Str → Option Value} {h : Heap}
/-- the law's def keeps its mirror's promise -/
theorem law_ok (X : K.In h) (Y : h.Ns mainGlobals mg) (c : He.SaysD fa fn K) (cS : He5.SaysA [] fnS K) (cx : ex K = true) : ∃ fd : FuncData, (∀ (s : Shared) (y : Value), BindsTo s fd ⟨[y], []⟩ [("_law_script", y)]) ∧ mg "law" = some (.ref (He.ga K "law")) ∧
    ∀ base : Heap, (∀ p ∈ TS K, LamX.TabB base mg p.1 p.2) → FnG P w K mg base 10 (He.ga K "law") fd ["_law_script"] (spT K (CC (cAt K)) (TL K) 1 m_law) := by
  obtain ⟨y1, cx⟩ := He.ba cx
  obtain ⟨x1, x2⟩ := He.ba cx
  obtain ⟨x2, x3⟩ := He.ba x2
  obtain ⟨x3, x4⟩ := He.ba x3
  obtain ⟨fd0, F0⟩ := c.def_ 0 (d := e0) rfl
  obtain ⟨fd1, F1⟩ := c.def_ 1 (d := e1) rfl
  obtain ⟨fd2, F2⟩ := c.def_ 2 (d := e2) rfl
  obtain ⟨fd3, F3⟩ := c.def_ 3 (d := e3) rfl
  obtain ⟨fd4, F4⟩ := c.def_ 4 (d := e4) rfl
  obtain ⟨fd5, F5⟩ := c.def_ 5 (d := e5) rfl
  obtain ⟨fd6, F6⟩ := c.def_ 6 (d := e6) rfl
  obtain ⟨fd7, F7⟩ := c.def_ 7 (d := e7) rfl
  obtain ⟨fd8, F8⟩ := c.def_ 8 (d := e8) rfl
  obtain ⟨fd9, F9⟩ := c.def_ 9 (d := e9) rfl
  obtain ⟨fd10, F10⟩ := c.def_ 10 (d := e10) rfl
  obtain ⟨fd11, F11⟩ := c.def_ 11 (d := e11) rfl
  obtain ⟨fd12, F12⟩ := c.def_ 12 (d := e12) rfl
  obtain ⟨fd13, F13⟩ := c.def_ 13 (d := e13) rfl
  obtain ⟨fd14, F14⟩ := c.def_ 14 (d := e14) rfl
  obtain ⟨fd15, F15⟩ := c.def_ 15 (d := e15) rfl
  obtain ⟨fd16, F16⟩ := c.def_ 16 (d := e16) rfl
  obtain ⟨fd17, F17⟩ := c.def_ 17 (d := e17) rfl
  obtain ⟨fd18, F18⟩ := c.def_ 18 (d := e18) rfl
  obtain ⟨fd19, F19⟩ := c.def_ 19 (d := e19) rfl
  obtain ⟨fd20, F20⟩ := c.def_ 20 (d := e20) rfl
  obtain ⟨fd21, F21⟩ := c.def_ 21 (d := e21) rfl
  obtain ⟨fd22, F22⟩ := c.def_ 22 (d := e22) rfl
  obtain ⟨fd23, F23⟩ := c.def_ 23 (d := e23) rfl
  obtain ⟨fd24, F24⟩ := c.def_ 24 (d := e24) rfl
  obtain ⟨fd25, F25⟩ := c.def_ 25 (d := e25) rfl
  obtain ⟨fd26, F26⟩ := c.def_ 26 (d := e26) rfl
  obtain ⟨fd27, F27⟩ := c.def_ 27 (d := e27) rfl
  obtain ⟨fd28, F28⟩ := c.def_ 28 (d := e28) rfl
  obtain ⟨fd29, F29⟩ := c.def_ 29 (d := e29) rfl
  obtain ⟨fdS0, FS0⟩ := cS.def_ 0 (d := s0) rfl
  have g__law_heard := He.glo_ok X Y (c.fact 0 (f := .glo "_law_heard") rfl)
  have g__law_can := He.glo_ok X Y (c.fact 1 (f := .glo "_law_can") rfl)
  have g__law_sip := He.glo_ok X Y (c.fact 2 (f := .glo "_law_sip") rfl)
  have g__law_choose := He.glo_ok X Y (c.fact 3 (f := .glo "_law_choose") rfl)
  have g_is_integer := He.glo_ok X Y (c.fact 4 (f := .glo "is_integer") rfl)
  have g_need_integer := He.glo_ok X Y (c.fact 5 (f := .glo "need_integer") rfl)
  have g__law_refused_right := He.glo_ok X Y (c.fact 6 (f := .glo "_law_refused_right") rfl)
  have g__law_part := He.glo_ok X Y (c.fact 7 (f := .glo "_law_part") rfl)
  have g__law_turned := He.glo_ok X Y (c.fact 8 (f := .glo "_law_turned") rfl)
  have g__law_is := He.glo_ok X Y (c.fact 9 (f := .glo "_law_is") rfl)
  have g__law_sums_right := He.glo_ok X Y (c.fact 10 (f := .glo "_law_sums_right") rfl)
  have g_items_of := He.glo_ok X Y (c.fact 11 (f := .glo "items_of") rfl)
  have g_need_many := He.glo_ok X Y (c.fact 12 (f := .glo "need_many") rfl)
  have g_is_number := He.glo_ok X Y (c.fact 13 (f := .glo "is_number") rfl)
  have g_is_within := He.glo_ok X Y (c.fact 14 (f := .glo "is_within") rfl)
  have g_is_number_from := He.glo_ok X Y (c.fact 15 (f := .glo "is_number_from") rfl)
  have g_read_numbers := He.glo_ok X Y (c.fact 16 (f := .glo "read_numbers") rfl)
  have g__law_texts_right := He.glo_ok X Y (c.fact 17 (f := .glo "_law_texts_right") rfl)
  have g_law := He.glo_ok X Y (c.fact 18 (f := .glo "law") rfl)
  have g_Pair := He.glo_ok X Y (c.fact 19 (f := .glo "Pair") rfl)
  have g_BadNumber := He.glo_ok X Y (c.fact 20 (f := .glo "BadNumber") rfl)
  have g_BadText := He.glo_ok X Y (c.fact 21 (f := .glo "BadText") rfl)
  have g_BendError := He.glo_ok X Y (c.fact 22 (f := .glo "BendError") rfl)
  have b_abs := He.free_ok X Y (c.fact 23 (f := .free "abs") rfl)
  have b_all := He.free_ok X Y (c.fact 24 (f := .free "all") rfl)
  have b_bool := He.free_ok X Y (c.fact 25 (f := .free "bool") rfl)
  have b_enumerate := He.free_ok X Y (c.fact 26 (f := .free "enumerate") rfl)
  have b_int := He.free_ok X Y (c.fact 27 (f := .free "int") rfl)
  have b_isinstance := He.free_ok X Y (c.fact 28 (f := .free "isinstance") rfl)
  have b_len := He.free_ok X Y (c.fact 29 (f := .free "len") rfl)
  have b_range := He.free_ok X Y (c.fact 30 (f := .free "range") rfl)
  have b_repr := He.free_ok X Y (c.fact 31 (f := .free "repr") rfl)
  have b_str := He.free_ok X Y (c.fact 32 (f := .free "str") rfl)
  obtain ⟨_, c_MOST_DIGITS⟩ := He.int_ok X Y (c.fact 33 (f := .int "MOST_DIGITS" 60) rfl)
  obtain ⟨_, c_DIGITS⟩ := He.str_ok X Y (c.fact 34 (f := .str "DIGITS" "0123456789") rfl)
  have cls_Pair := He.cls_ok (c.fact 35 (f := .cls "Pair") rfl)
  have k_Pair := He.mkr_ok (c.fact 36 (f := .mkr "Pair") rfl)
  have t_Pair_times_i := He.meth_ok (c.fact 37 (f := .meth "Pair" "times_i") rfl)
  have t_Pair___eq__ := He.meth_ok (c.fact 38 (f := .meth "Pair" "__eq__") rfl)
  have t_Pair___add__ := He.meth_ok (c.fact 39 (f := .meth "Pair" "__add__") rfl)
  have t_Pair___sub__ := He.meth_ok (c.fact 40 (f := .meth "Pair" "__sub__") rfl)
  have t_Pair___mul__ := He.meth_ok (c.fact 41 (f := .meth "Pair" "__mul__") rfl)
  have t_Pair___neg__ := He.meth_ok (c.fact 42 (f := .meth "Pair" "__neg__") rfl)
  have t_Pair_flipped := He.meth_ok (c.fact 43 (f := .meth "Pair" "flipped") rfl)
  have t_Pair___str__ := He.meth_ok (c.fact 44 (f := .meth "Pair" "__str__") rfl)
  have hc : ∀ c, c < 1 → Cls K (cAt K c) := fun c q => match c, q with
    | 0, _ => cls_Pair
    | n + 1, q => absurd q (by omega)
  have kd := kinds_of x2 x4 hc
  have cf := clsF_of x4 hc
  obtain ⟨y1, y2⟩ := He.ba y1
  obtain ⟨o1, o2⟩ := He.ba x2
  have kx : KindsE K (CC (cAt K)) nC nX subs := keK_ok (He.eqO_ok o1) (of_decide_eq_true o2) y1
  obtain ⟨y2, y3⟩ := He.ba y2
  obtain ⟨y3, y4⟩ := He.ba y3
  obtain ⟨yb, y4⟩ := He.ba y4
  obtain ⟨y4, y5⟩ := He.ba y4
  have z : Bi mg := ⟨b_abs, b_all, b_bool, b_enumerate, b_int, b_isinstance, b_len, b_range, b_repr, b_str⟩
  obtain ⟨ox_BadNumber, y2⟩ := He.ba y2
  have ox_BadNumber := xiK_ok ox_BadNumber
  obtain ⟨ox_BadText, y2⟩ := He.ba y2
  have ox_BadText := xiK_ok ox_BadText
  obtain ⟨y4, sf_Pair⟩ := He.ba y4
  obtain ⟨y4, yM⟩ := He.ba y4
  obtain ⟨y4, smb_Pair_read⟩ := He.ba y4
  have sm_Pair_read := smK_ok smb_Pair_read FS0.kp
  have bd := FunD.bindsA (ps := ["_law_script"]) F29 fun _ _ _ _ _ _ ys hy => match ys, hy with
    | [_], _ => rfl
  refine ⟨fd29, fun s y => bd s [y] rfl, g_law, fun base TB => ?_⟩
  have TB0 := TB _ (List.mem_of_getElem? (show (TS K)[0]? = some _ from rfl))
  have TB1 := TB _ (List.mem_of_getElem? (show (TS K)[1]? = some _ from rfl))
  have ndT : ((TS K).map (·.2)).Nodup := of_decide_eq_true (He.ba y5).2
  have DE_BadNumber := ok_BadNumber_init (P := P) (w := w) (base := base) (at_ := cAt K) F1 g_BadNumber ox_BadNumber.1 ox_BadNumber.2.1 ox_BadNumber.2.2.1 ox_BadNumber.2.2.2
  have DE_BadText := ok_BadText_init (P := P) (w := w) (base := base) (at_ := cAt K) F2 g_BadText ox_BadText.1 ox_BadText.2.1 ox_BadText.2.2.1 ox_BadText.2.2.2
  have D__law_can := ok__law_can (P := P) (w := w) (base := base) (at_ := cAt K) F3 g__law_can z kd cf
  have D__law_sip := ok__law_sip (P := P) (w := w) (base := base) (at_ := cAt K) F4 g__law_sip z kd cf
  have D__law_choose := ok__law_choose (P := P) (w := w) (base := base) (at_ := cAt K) F5 g__law_choose z kd cf D__law_sip
  have D_is_integer := ok_is_integer (P := P) (w := w) (base := base) (at_ := cAt K) F6 g_is_integer z kd cf
  have D_need_integer := ok_need_integer (P := P) (w := w) (base := base) (at_ := cAt K) F7 g_need_integer z kd cf D_is_integer DE_BadNumber
  have DI_Pair := ok_Pair_init (P := P) (w := w) (base := base) (at_ := cAt K) F8 g_Pair k_Pair z kd cf D_need_integer
  have DIN_Pair_init_other_one := okx_Pair_init_other_one (P := P) (w := w) (base := base) (at_ := cAt K) F8 g_Pair k_Pair z kd cf D_need_integer
  have DT_Pair_times_i := ok_Pair_times_i (P := P) (w := w) (base := base) (at_ := cAt K) F9 (cf.cls 0 (by decide)) t_Pair_times_i z kd cf D_need_integer DI_Pair
  have DTX_Pair_times_i_power := okx_Pair_times_i_power (P := P) (w := w) (base := base) (at_ := cAt K) F9 (cf.cls 0 (by decide)) t_Pair_times_i z kd cf D_need_integer DI_Pair
  have D__law_refused_right := ok__law_refused_right (P := P) (w := w) (base := base) (at_ := cAt K) F10 g__law_refused_right z kd cf D__law_choose DI_Pair DT_Pair_times_i g_BadText g_BadNumber g_BendError kx g__law_heard F0 (F0.bindsN (fun _ _ _ _ _ _ us hl => match us, hl with | [_], _ => rfl)) (codeAt (p := ("_law_refused_right", none)) F10) TB0 ndT
  have DT_Pair___eq__ := ok_Pair___eq__ (P := P) (w := w) (base := base) (at_ := cAt K) F11 (cf.cls 0 (by decide)) t_Pair___eq__ z kd cf g_Pair
  have EQ : EqT P w K mg base (CC (cAt K)) 1 nC eqTab := ⟨fun c g e => match c, e with
    | 0, e => by cases e; exact ⟨⟨_, DT_Pair___eq__⟩, eqK_ok (c := 0) y4 (by decide)⟩
    | n + 1, e => by cases e⟩
  have EM : EqM K (CC (cAt K)) eqTab := fun c g e => match c, e with
    | 0, e => emK_ok (c := 0) yM (by decide)
    | n + 1, e => by cases e
  have D__law_part := ok__law_part (P := P) (w := w) (base := base) (at_ := cAt K) F12 g__law_part z kd cf D__law_sip
  have D__law_turned := ok__law_turned (P := P) (w := w) (base := base) (at_ := cAt K) F13 g__law_turned z kd cf
  have D__law_is := ok__law_is (P := P) (w := w) (base := base) (at_ := cAt K) F14 g__law_is z kd cf g_Pair
  have DT_Pair___add__ := ok_Pair___add__ (P := P) (w := w) (base := base) (at_ := cAt K) F15 (cf.cls 0 (by decide)) t_Pair___add__ z kd cf DI_Pair g_Pair
  have DT_Pair___sub__ := ok_Pair___sub__ (P := P) (w := w) (base := base) (at_ := cAt K) F16 (cf.cls 0 (by decide)) t_Pair___sub__ z kd cf DI_Pair g_Pair
  have DT_Pair___mul__ := ok_Pair___mul__ (P := P) (w := w) (base := base) (at_ := cAt K) F17 (cf.cls 0 (by decide)) t_Pair___mul__ z kd cf DI_Pair g_Pair
  have DT_Pair___neg__ := ok_Pair___neg__ (P := P) (w := w) (base := base) (at_ := cAt K) F18 (cf.cls 0 (by decide)) t_Pair___neg__ z kd cf DI_Pair
  have DT_Pair_flipped := ok_Pair_flipped (P := P) (w := w) (base := base) (at_ := cAt K) F19 (cf.cls 0 (by decide)) t_Pair_flipped z kd cf DI_Pair
  have DT_Pair___str__ := ok_Pair___str__ (P := P) (w := w) (base := base) (at_ := cAt K) F20 (cf.cls 0 (by decide)) t_Pair___str__ z kd cf
  have D__law_sums_right := ok__law_sums_right (P := P) (w := w) (base := base) (at_ := cAt K) F21 g__law_sums_right z kd cf D__law_part D__law_sip D__law_choose D__law_turned D__law_is DI_Pair DT_Pair___mul__ DT_Pair___sub__ DT_Pair___add__ DT_Pair_flipped DT_Pair___neg__ DT_Pair_times_i DT_Pair___str__ DTX_Pair_times_i_power DIN_Pair_init_other_one sf_Pair EQ EM
  have D_items_of := ok_items_of (P := P) (w := w) (base := base) (at_ := cAt K) F22 g_items_of z kd cf DE_BadText
  have D_need_many := ok_need_many (P := P) (w := w) (base := base) (at_ := cAt K) F23 g_need_many z kd cf DE_BadText
  have D_is_number := ok_is_number (P := P) (w := w) (base := base) (at_ := cAt K) F24 g_is_number z kd cf c_MOST_DIGITS c_DIGITS
  have D_is_within := ok_is_within (P := P) (w := w) (base := base) (at_ := cAt K) F25 g_is_within z kd cf D_is_integer
  have D_is_number_from := ok_is_number_from (P := P) (w := w) (base := base) (at_ := cAt K) F26 g_is_number_from z kd cf D_is_within D_is_number
  have D_read_numbers := ok_read_numbers (P := P) (w := w) (base := base) (at_ := cAt K) F27 g_read_numbers z kd cf D_items_of D_is_number_from D_need_many DE_BadText
  have DS_Pair_read := ok_Pair_read (P := P) (w := w) (base := base) (at_ := cAt K) FS0 g_Pair sm_Pair_read z kd cf D_read_numbers DI_Pair
  have DSX_Pair_read_text := okx_Pair_read_text (P := P) (w := w) (base := base) (at_ := cAt K) FS0 g_Pair sm_Pair_read z kd cf D_read_numbers DI_Pair
  have D__law_texts_right := ok__law_texts_right (P := P) (w := w) (base := base) (at_ := cAt K) F28 g__law_texts_right z kd cf D__law_part D__law_sip D__law_choose D__law_is DI_Pair DT_Pair___str__ DS_Pair_read DSX_Pair_read_text g_BadText g_BadNumber g_BendError kx g__law_heard F0 (F0.bindsN (fun _ _ _ _ _ _ us hl => match us, hl with | [_], _ => rfl)) (codeAt (p := ("_law_texts_right", none)) F28) TB1 ndT
  exact fn_law (P := P) (w := w) (base := base) (at_ := cAt K) F29 z kd cf D__law_can D__law_texts_right D__law_sums_right D__law_refused_right
end
/-- the law's walk, from a promise that holds where no repr is under way, over its tables -/
theorem walkM {l : PySem.W.OpenLaw} {n k : Nat} {q : Program} {loose : List Str} {XP : (Str → Option Value) → Heap → Prop} {YP : World → Heap → Prop} {d : DefRec} {x : Str} (h1 : l.most = some n) (h2 : n ≤ sizeLine) (h3 : d.params.defaults = []) (room : Room k callerA)
    (F : ∀ (w : World) (mg : Str → Option Value) (b : Addr) (h : Heap), YP w h → h.Ns mainGlobals mg → mg d.name = some (.ref b) → ∃ (K : PySem.W.Frag) (fd : FuncData) (sp : Sp) (Ts : List (Addr × Addr)), K.In h ∧ (∀ p ∈ Ts, h.get? p.2 = some tab0) ∧ (∀ p ∈ Ts, K.lookup p.2 = none) ∧ (∀ p ∈ Ts, PySem.W.CodeHd h p.1 p.2) ∧ (∀ (s : Shared) (y : Value), BindsTo s fd ⟨[y], []⟩ [(x, y)]) ∧
      (∀ (H : Hp) (a : Addr) (ns : List Int), ns.length ≤ n → (∀ p ∈ Ts, H p.2 = some (.tbl #[])) → SqL K H a (ns.map V.int) → sp [.ref a] H (fun v _ => v = .bl true) fun _ _ _ => False) ∧ ∀ base : Heap, (∀ p ∈ Ts, LamX.TabB base mg p.1 p.2) → FnG l.prog w K mg base k b fd [x] sp) : PySem.W.WalkO q loose XP YP l.row.toRowW d [] (fun f us => PySem.call f us) := by
  refine Att.attach_call h1 h3 fun w _ t mg mb b _ _ _ _ a vs ns G Y _ _ _ e1 e2 e3 e4 e5 => ?_
  obtain ⟨K, fd, sp, Ts, kx, tp, np, ch, bd, hs, hf⟩ := F w mg b _ Y G.T.g e1
  exact endM kx G.T.g G.T.b G.T.builtins G.T.nolimit e5 e2 e3 (Nat.le_trans e4 h2) tp np ch G.T.bmain room hf bd fun H ht sq => hs H a ns e4 ht sq
theorem tbM_ok {K : PySem.W.Frag} {h : Heap} (X : K.In h) (q : tbM K = true) : (∀ p ∈ TS K, PySem.W.CodeHd h p.1 p.2) ∧ ∀ p ∈ TS K, K.lookup p.2 = none := by
  have q := (He.ba q).1
  have e : TS K = LDs.map fun d => (He.codeOf K d, He.tabOf K (He.codeOf K d)) := rfl
  refine ⟨fun p hp => ?_, fun p hp => ?_⟩
  · rw [e] at hp
    obtain ⟨d, hd, rfl⟩ := List.mem_map.mp hp
    exact (tbK_ok X (List.all_eq_true.mp q d hd)).1
  · rw [e] at hp
    obtain ⟨d, hd, rfl⟩ := List.mem_map.mp hp
    exact (tbK_ok X (List.all_eq_true.mp q d hd)).2
end Hd
open PySem PySem.W PySem.Calls PyProof.Rows
theorem PySem.Challenge.cw_bendsigns_k44_pairs_added_and_multiplied_holds : PySem.Challenge.rw_bendsigns_k44_pairs_added_and_multiplied.Holds := by
  w_on; o_law
  refine HandSHeadRun.head_imp (r := Hd.Rw) (q := Hd.Vw) (H := Hd.hk) (ob := Hd.ob) (M := 8000) (loose := Hd.nl) (d := HandSHeadRun.topDef Hd.Rw.prog 31) (kwd := []) Hd.ob_eq Hd.run
    (by kernel_rfl) (by kernel_rfl) (by kernel_rfl) (by rfl) (by first | assumption | decide +kernel)
    (by decide +kernel) ⟨rfl, rfl, rfl, rfl, rfl, by decide +kernel⟩ ?hw ?hc
  case hw => w_witness2
  case hc =>
    refine Hd.walkM (l := PySem.Challenge.rw_bendsigns_k44_pairs_added_and_multiplied) (n := 63) (k := 10) (x := "_law_script") rfl
      (by decide) (by kernel_rfl) ⟨rfl, by decide, by decide⟩ fun w mg b h Y N0 g0 => ?_
    obtain ⟨K, X, ⟨c, cS⟩, cx, ct⟩ := Y
    obtain ⟨t1, t2⟩ := Hd.tbM_ok X (He.ba (He.ba (He.ba (He.ba (He.ba (He.ba cx).1).2).2).2).2).2
    obtain ⟨fd, bd, g1, hf⟩ := Hd.law_ok (P := (PySem.Challenge.rw_bendsigns_k44_pairs_added_and_multiplied).prog) (w := w) X N0 c cS cx
    have e : (HandSHeadRun.topDef Hd.Rw.prog 31).name = ("law" : PySem.Str) := by kernel_rfl
    rw [e, g1] at g0
    cases g0
    refine ⟨K, fd, _, Hd.TS K, X, fun p hp => ?_, t2, t1, bd, fun H a ns hl ht sq => PL.says_ofM (fun p hp => ?_) sq (PL.law_true hl), hf⟩
    · rw [show Hd.TS K = Hd.LDs.map fun d => (He.codeOf K d, He.tabOf K (He.codeOf K d)) from rfl] at hp
      obtain ⟨d, hd, rfl⟩ := List.mem_map.mp hp
      exact ct d hd
    · have m : p.1 ∈ (Hd.TS K).map (·.2) := by
        rw [show (Hd.TS K).map (·.2) = (Hd.TL K).map (·.1) from rfl]
        exact List.mem_map.mpr ⟨p, hp, rfl⟩
      obtain ⟨q, hq, e⟩ := List.mem_map.mp m
      rw [← e]
      exact ht q hq
