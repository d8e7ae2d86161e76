import PyProof.Rows.All
import Wide.All
import OpenK.AllK
import Wide.FinOn
import HandS.ForMost
import KE.KExcInit
import KE.KExcIs
import HandS.ExcField
import HandS.Head0
import HandS.Head1
import HandS.Head2
import HandS.HeadEnd
import HandS.HeadHook1
import HandS.HeadHook2
import HandS.HeadHook3
import HandS.HeadHook4
import KE.KStateDown
import HandS.Base
import HandS.Call
import HandS.List
import HandS.Comp
import HandS.Ends
import HandS.Words
import HandS.Star
import PyProof.Rows.RegFStrParts
import HandS.Zip
import KE.GoesEnum
import KE.KTupSum
import HandS.Walk
import HandS.GenYield
import HandS.GenList
import PyProof.GenComp
import PyProof.ForAny
import HandS.ForExc
import HandS.Codes
import HandS.Style
import HandS.TupAny
import HandS.TupMul
import HandS.Conv
import HandS.Deep
import HandS.IsInst
import HandS.More
import HandS.ExcInit
import HandS.ExcIs
import KE.KCallOwn
import HandS.FStr
import HandS.Defaults
import HandS.MethStar
import KE.GoesEnumKw
import PyProof.AssignAttr
import HandS.MakeKwOnly
import HandS.Finally
import HandS.ExcOwn
import HandS.Exc
import HandS.TryMany
import PyProof.ExcBaseAll.LookupError
import KE.KUnpackStar
import HandS.NoneIn
import HandS.ExcValue
import HandS.Dict
import KE.KRevSl
import HandS.Flt
import HandS.OwnEq
import PyProof.P3Eq
import HandS.Text
import HandS.RaiseMore
import HandS.Iter
import PySem.Challenge.RW_darkdrawers_k49_whole_histories_and_new
set_option Elab.async false
set_option linter.all false
set_option maxRecDepth 100000
namespace DD
open PySem PySem.Spec PyProof.Rows L2
def topS (i : Nat) : Stmt := PySem.Challenge.pw_darkdrawers_k49_whole_histories_and_new.main.body.getD i (.Pass ⟨0, 0, 0, 0⟩)
abbrev sIsNum : Stmt := topS 8
abbrev sUpTo : Stmt := topS 9
abbrev sPos : Stmt := topS 10
abbrev sTupOf : Stmt := topS 11
abbrev sNums : Stmt := topS 12
abbrev sNumsUp : Stmt := topS 13
abbrev sErr : Stmt := topS 42
abbrev sTotals : Stmt := topS 43
abbrev sSizes : Stmt := topS 44
abbrev sMore : Stmt := topS 45
abbrev sItem : Stmt := topS 46
abbrev sAre : Stmt := topS 48
abbrev sIsCol : Stmt := topS 49
abbrev sFul : Stmt := topS 50
abbrev sCont : Stmt := topS 51
abbrev sSpoil : Stmt := topS 52
abbrev sCaps : Stmt := topS 53
abbrev sIsPlan : Stmt := topS 55
abbrev sRoomIn : Stmt := topS 56
abbrev sRoomOf : Stmt := topS 57
abbrev sFind : Stmt := topS 58
abbrev sLoads : Stmt := topS 59
abbrev sSetsOf : Stmt := topS 60
abbrev sOver : Stmt := topS 61
abbrev sWithin : Stmt := topS 62
abbrev sSpare : Stmt := topS 63
abbrev sTotal : Stmt := topS 64
abbrev cCab : Stmt := topS 74
abbrev sSame : Stmt := topS 76
abbrev sBatch : Stmt := topS 77
abbrev sIsEd : Stmt := topS 78
abbrev sDeck : Stmt := topS 80
abbrev sDraw : Stmt := topS 81
abbrev sStock : Stmt := topS 82
abbrev sColl : Stmt := topS 83
abbrev sWish : Stmt := topS 84
abbrev sAfter : Stmt := topS 85
abbrev sEdit : Stmt := topS 86
abbrev sDo : Stmt := topS 87
abbrev sLPlan : Stmt := topS 88
abbrev sShown : Stmt := topS 89
abbrev sLaw : Stmt := topS 90
abbrev cInit : Stmt := inClass cCab 1
abbrev cPut : Stmt := inClass cCab 3
abbrev cRem : Stmt := inClass cCab 4
abbrev cWish : Stmt := inClass cCab 5
abbrev cDrop : Stmt := inClass cCab 6
abbrev cUndo : Stmt := inClass cCab 7
abbrev cIdle : Stmt := inClass cCab 8
abbrev cEdit : Stmt := inClass cCab 9
abbrev cThings : Stmt := inClass cCab 10
abbrev cSure : Stmt := inClass cCab 11
abbrev cChange : Stmt := inClass cCab 12
abbrev cAtt : Stmt := inClass cCab 13
abbrev cDoB : Stmt := inClass cCab 14
abbrev cDoE : Stmt := inClass cCab 15
abbrev cState : Stmt := inClass cCab 17
abbrev cCert : Stmt := inClass cCab 18
abbrev cWalk : Stmt := inClass cCab 19
abbrev cEdits : Stmt := inClass cCab 20
abbrev cLen : Stmt := inClass cCab 21
abbrev cStr : Stmt := inClass cCab 22
abbrev cEq : Stmt := inClass cCab 23
abbrev cNV : Stmt := topS 34
abbrev sINV : Stmt := inClass cNV 0
abbrev cBP : Stmt := topS 27
abbrev sIBP : Stmt := inClass cBP 0
end DD
namespace HK
open PySem PySem.Spec PyProof.Rows L2
/-- what the written objects at the addresses as say: the facts fa, the defs fn, more by ex -/
def obsA (as : List Addr) (fa : List He.Fa) (fn : List He.DefD) (ex : PySem.W.Frag → Bool) (g : Addr → Option Obj) : He.AlD × Bool := (He.obsD fa fn (He.frG g as), ex (He.frG g as))
structure SaysA (fa : List He.Fa) (fn : List He.DefD) (ex : PySem.W.Frag → Bool) (K : PySem.W.Frag) : Prop where
  d : He.SaysD fa fn K
  more : ex K = true
def hookA (as : List Addr) (fa : List He.Fa) (fn : List He.DefD) (ex : PySem.W.Frag → Bool) : PySem.W.Hook where
  α := He.AlD × Bool
  obs := fun s => obsA as fa fn ex s.heap.get?
  val := fun _ => (He.valD fn, true)
  says := fun _ h => ∃ K : PySem.W.Frag, K.In h ∧ SaysA fa fn ex K
  of := fun _ _ e => ⟨_, He.frG_in, ⟨congrArg Prod.fst e, congrArg Prod.snd e⟩⟩
  keeps := fun _ _ _ ⟨K, hK, c⟩ k => ⟨K, PySem.W.Frag.In.keeps hK k, c⟩
theorem obsA_eq {as : List Addr} {fa : List He.Fa} {fn : List He.DefD} {ex : PySem.W.Frag → Bool} {g : Addr → Option Obj} {s : Shared} (h : ∀ a, g a = s.heap.get? a) : obsA as fa fn ex g = (hookA as fa fn ex).obs s := by
  have e : g = s.heap.get? := funext h
  rw [e] <;> rfl
/-- the same with tables of the top -/
def obsB (as : List Addr) (fa : List He.Fa) (fn : List He.DefD) (ex : PySem.W.Frag → Bool) (ts : List He.Tab) (g : Addr → Option Obj) : (He.AlD × Bool) × List (Option (List (Option (Str × Int)))) := ((He.obsD fa fn (He.frG g as), ex (He.frG g as)), ts.map fun t => He.dicW (He.frG g as) (t.1 (He.frG g as)))
structure SaysB (fa : List He.Fa) (fn : List He.DefD) (ex : PySem.W.Frag → Bool) (ts : List He.Tab) (w : World) (K : PySem.W.Frag) : Prop where
  d : He.SaysD fa fn K
  more : ex K = true
  tab : (ts.map fun t => He.dicW K (t.1 K)) = ts.map fun t => some (He.keysIn w.params t.2)
theorem SaysB.at_ {fa : List He.Fa} {fn : List He.DefD} {ex : PySem.W.Frag → Bool} {ts : List He.Tab} {w : World} {K : PySem.W.Frag} (c : SaysB fa fn ex ts w K) (i : Nat) {t : He.Tab} (h : ts[i]? = some t := by rfl) : He.dicW K (t.1 K) = some (He.keysIn w.params t.2) := by
  have e := congrArg (fun l => l[i]?) c.tab
  simp only [List.getElem?_map, h, Option.map_some] at e
  exact Option.some.inj e
def hookB (as : List Addr) (fa : List He.Fa) (fn : List He.DefD) (ex : PySem.W.Frag → Bool) (ts : List He.Tab) : PySem.W.Hook where
  α := (He.AlD × Bool) × List (Option (List (Option (Str × Int))))
  obs := fun s => obsB as fa fn ex ts s.heap.get?
  val := fun w => ((He.valD fn, true), ts.map fun t => some (He.keysIn w.params t.2))
  says := fun w h => ∃ K : PySem.W.Frag, K.In h ∧ SaysB fa fn ex ts w K
  of := fun w s e => by
    have e' : obsB as fa fn ex ts s.heap.get? = ((He.valD fn, true), ts.map fun t => some (He.keysIn w.params t.2)) := e
    have e1 := congrArg Prod.fst e'
    exact ⟨_, He.frG_in, ⟨congrArg Prod.fst e1, congrArg Prod.snd e1, congrArg Prod.snd e'⟩⟩
  keeps := fun _ _ _ ⟨K, hK, c⟩ k => ⟨K, PySem.W.Frag.In.keeps hK k, c⟩
theorem obsB_eq {as : List Addr} {fa : List He.Fa} {fn : List He.DefD} {ex : PySem.W.Frag → Bool} {ts : List He.Tab} {g : Addr → Option Obj} {s : Shared} (h : ∀ a, g a = s.heap.get? a) : obsB as fa fn ex ts g = (hookB as fa fn ex ts).obs s := by
  have e : g = s.heap.get? := funext h
  rw [e] <;> rfl
/-- one of many facts -/
theorem all_at {l : List Bool} (h : l.all id = true) (i : Nat) {b : Bool} (e : l[i]? = some b) : b = true := List.all_eq_true.mp h b (List.mem_of_getElem? e)
def oexlB (K : PySem.W.Frag) (C : Addr) : Bool := (PySem.W.excInitIn K C [.type "LookupError", .type "Exception", .type "BaseException", .type "object"] "LookupError.__new__" && PySem.W.excOver K C [.type "LookupError", .type "Exception", .type "BaseException", .type "object"]) &&
  ((PySem.W.hasDictIn K C && decide (PySem.W.findIn K (.ref C) "__setattr__" = some (some (.builtin "object.__setattr__")))) && ((decide (PySem.W.subIn K (.ref C) (.type "BaseException") = some true) && decide (PySem.W.typeIn K (.ref C) = some (.type "type"))) && PySem.W.keepIn K (.ref C)))
def oexvB (K : PySem.W.Frag) (C : Addr) : Bool := (PySem.W.excInitIn K C [.type "ValueError", .type "Exception", .type "BaseException", .type "object"] "ValueError.__new__" && PySem.W.excOver K C [.type "ValueError", .type "Exception", .type "BaseException", .type "object"]) &&
  ((PySem.W.hasDictIn K C && decide (PySem.W.findIn K (.ref C) "__setattr__" = some (some (.builtin "object.__setattr__")))) && ((decide (PySem.W.subIn K (.ref C) (.type "BaseException") = some true) && decide (PySem.W.typeIn K (.ref C) = some (.type "type"))) && PySem.W.keepIn K (.ref C)))
def istxB (K : PySem.W.Frag) (D : Addr) : Bool := ((PySem.W.clsIn K D).isSome && decide (PySem.W.findIn K (.ref D) "__getattribute__" = some (some (.builtin "BaseException.__getattribute__")))) && ((decide (PySem.W.findIn K (.ref D) "__getattr__" = some none) && decide (PySem.W.subIn K (.ref D) (.type "BaseException") = some true)) &&
  ((decide (PySem.W.findIn K (.ref D) "__class__" = some (some (.builtin "object.__class__"))) && decide (PySem.W.specialIn K (.builtin "object.__class__") "__get__" = some (some (.builtin "getset_descriptor.__get__")))) && (decide (PySem.W.takesIn K (.builtin "object.__class__") = some true) && decide (PySem.W.mroIn K D (.type "object") = some true))))
def initB (K : PySem.W.Frag) (C : Addr) (fld : Str) : Bool := decide (PySem.W.findIn K (.ref C) "__init__" = some (some (.ref (He.ma K C "__init__")))) && (decide (PySem.W.typeIn K (.ref (He.ma K C "__init__")) = some (.type "function")) && decide (PySem.W.findIn K (.ref C) fld = some none))
end HK
namespace DD
open PySem PySem.Spec PyProof.Rows L2
/-- what isinstance asks of a class of instances -/
def tycB (K : PySem.W.Frag) (C : Addr) : Bool := decide (PySem.W.findIn K (.ref C) "__class__" = some (some (.builtin "object.__class__"))) && (decide (PySem.W.specialIn K (.builtin "object.__class__") "__get__" = some (some (.builtin "getset_descriptor.__get__"))) &&
  (decide (PySem.W.takesIn K (.builtin "object.__class__") = some true) && decide (PySem.W.mroIn K C (.type "object") = some true)))
end DD
namespace HT
open PySem PySem.Spec PyProof.Rows L2 DD
def q0 : He.DefD := ⟨("is_number", none), "is_number", "is_number", defArgs sIsNum, defBody sIsNum, defScope sIsNum, [], []⟩
def q1 : He.DefD := ⟨("is_number_up_to", none), "is_number_up_to", "is_number_up_to", defArgs sUpTo, defBody sUpTo, defScope sUpTo, [], []⟩
def q2 : He.DefD := ⟨("is_positive_up_to", none), "is_positive_up_to", "is_positive_up_to", defArgs sPos, defBody sPos, defScope sPos, [], []⟩
def q3 : He.DefD := ⟨("is_tuple_of", none), "is_tuple_of", "is_tuple_of", defArgs sTupOf, defBody sTupOf, defScope sTupOf, [], []⟩
def q4 : He.DefD := ⟨("are_numbers", none), "are_numbers", "are_numbers", defArgs sNums, defBody sNums, defScope sNums, [], []⟩
def q5 : He.DefD := ⟨("stock_error", none), "stock_error", "stock_error", defArgs sErr, defBody sErr, defScope sErr, [], []⟩
def q6 : He.DefD := ⟨("totals_of", none), "totals_of", "totals_of", defArgs sTotals, defBody sTotals, defScope sTotals, [], []⟩
def q7 : He.DefD := ⟨("sizes_of", none), "sizes_of", "sizes_of", defArgs sSizes, defBody sSizes, defScope sSizes, [], []⟩
def q8 : He.DefD := ⟨("with_more", none), "with_more", "with_more", defArgs sMore, defBody sMore, defScope sMore, [], []⟩
def q9 : He.DefD := ⟨("with_item", none), "with_item", "with_item", defArgs sItem, defBody sItem, defScope sItem, [], []⟩
def q10 : He.DefD := ⟨("are_collections", none), "are_collections", "are_collections", defArgs sAre, defBody sAre, defScope sAre, [], []⟩
def q11 : He.DefD := ⟨("is_collection", none), "is_collection", "is_collection", defArgs sIsCol, defBody sIsCol, defScope sIsCol, [], []⟩
def q12 : He.DefD := ⟨("fulfilled_by", none), "fulfilled_by", "fulfilled_by", defArgs sFul, defBody sFul, defScope sFul, [], []⟩
def q13 : He.DefD := ⟨("contain", none), "contain", "contain", defArgs sCont, defBody sCont, defScope sCont, [], []⟩
def q14 : He.DefD := ⟨("spoilings_of", none), "spoilings_of", "spoilings_of", defArgs sSpoil, defBody sSpoil, defScope sSpoil, [], []⟩
def q15 : He.DefD := ⟨("caps_of", none), "caps_of", "caps_of", defArgs sCaps, defBody sCaps, defScope sCaps, [], []⟩
def q16 : He.DefD := ⟨("room_of", none), "room_of", "room_of", defArgs sRoomOf, defBody sRoomOf, defScope sRoomOf, [], []⟩
def q17 : He.DefD := ⟨("sure_total", none), "sure_total", "sure_total", defArgs sTotal, defBody sTotal, defScope sTotal, [], []⟩
def q18 : He.DefD := ⟨("are_numbers_up_to", none), "are_numbers_up_to", "are_numbers_up_to", defArgs sNumsUp, defBody sNumsUp, defScope sNumsUp, [], []⟩
def q19 : He.DefD := ⟨("is_plan", none), "is_plan", "is_plan", defArgs sIsPlan, defBody sIsPlan, defScope sIsPlan, [], []⟩
def q20 : He.DefD := ⟨("room_in", none), "room_in", "room_in", defArgs sRoomIn, defBody sRoomIn, defScope sRoomIn, [], []⟩
def q21 : He.DefD := ⟨("find_certificate", none), "find_certificate", "find_certificate", defArgs sFind, defBody sFind, defScope sFind, [], []⟩
def q22 : He.DefD := ⟨("loads_of", none), "loads_of", "loads_of", defArgs sLoads, defBody sLoads, defScope sLoads, [], []⟩
def q23 : He.DefD := ⟨("sets_of_drawers", none), "sets_of_drawers", "sets_of_drawers", defArgs sSetsOf, defBody sSetsOf, defScope sSetsOf, [], []⟩
def q24 : He.DefD := ⟨("overfull", none), "overfull", "overfull", defArgs sOver, defBody sOver, defScope sOver, [], []⟩
def q25 : He.DefD := ⟨("draw_within", none), "draw_within", "draw_within", defArgs sWithin, defBody sWithin, defScope sWithin, [], []⟩
def q26 : He.DefD := ⟨("spare_of", none), "spare_of", "spare_of", defArgs sSpare, defBody sSpare, defScope sSpare, [], []⟩
def q27 : He.DefD := ⟨("is_same_state", none), "is_same_state", "is_same_state", defArgs sSame, defBody sSame, defScope sSame, [], []⟩
def q28 : He.DefD := ⟨("_law_deck", none), "_law_deck", "_law_deck", defArgs sDeck, defBody sDeck, defScope sDeck, [], []⟩
def q29 : He.DefD := ⟨("_law_draw", none), "_law_draw", "_law_draw", defArgs sDraw, defBody sDraw, defScope sDraw, [], []⟩
def q30 : He.DefD := ⟨("_law_stock", none), "_law_stock", "_law_stock", defArgs sStock, defBody sStock, defScope sStock, [], []⟩
def q31 : He.DefD := ⟨("_law_collection", none), "_law_collection", "_law_collection", defArgs sColl, defBody sColl, defScope sColl, [], []⟩
def q32 : He.DefD := ⟨("_law_wish", none), "_law_wish", "_law_wish", defArgs sWish, defBody sWish, defScope sWish, [], []⟩
def q33 : He.DefD := ⟨("_law_after", none), "_law_after", "_law_after", defArgs sAfter, defBody sAfter, defScope sAfter, [], []⟩
def q34 : He.DefD := ⟨("_law_edit", none), "_law_edit", "_law_edit", defArgs sEdit, defBody sEdit, defScope sEdit, [], []⟩
def q35 : He.DefD := ⟨("_law_do", none), "_law_do", "_law_do", defArgs sDo, defBody sDo, defScope sDo, [], []⟩
def q36 : He.DefD := ⟨("_law_plan", none), "_law_plan", "_law_plan", defArgs sLPlan, defBody sLPlan, defScope sLPlan, [], []⟩
def q37 : He.DefD := ⟨("_law_shown", none), "_law_shown", "_law_shown", defArgs sShown, defBody sShown, defScope sShown, [], []⟩
def q38 : He.DefD := ⟨("batch_of", none), "batch_of", "batch_of", defArgs sBatch, defBody sBatch, defScope sBatch, [], []⟩
def q39 : He.DefD := ⟨("is_edit", none), "is_edit", "is_edit", defArgs sIsEd, defBody sIsEd, defScope sIsEd, [], []⟩
def q40 : He.DefD := ⟨("law", none), "law", "law", defArgs sLaw, defBody sLaw, defScope sLaw, [], []⟩
def q41 : He.DefD := ⟨("Cabinet", some "__init__"), "__init__", "Cabinet.__init__", defArgs cInit, defBody cInit, defScope cInit, [], []⟩
def q42 : He.DefD := ⟨("Cabinet", some "put"), "put", "Cabinet.put", defArgs cPut, defBody cPut, defScope cPut, [], []⟩
def q43 : He.DefD := ⟨("Cabinet", some "remove"), "remove", "Cabinet.remove", defArgs cRem, defBody cRem, defScope cRem, [], []⟩
def q44 : He.DefD := ⟨("Cabinet", some "wish"), "wish", "Cabinet.wish", defArgs cWish, defBody cWish, defScope cWish, [], []⟩
def q45 : He.DefD := ⟨("Cabinet", some "drop"), "drop", "Cabinet.drop", defArgs cDrop, defBody cDrop, defScope cDrop, [], []⟩
def q46 : He.DefD := ⟨("Cabinet", some "check_idle"), "check_idle", "Cabinet.check_idle", defArgs cIdle, defBody cIdle, defScope cIdle, [], []⟩
def q47 : He.DefD := ⟨("Cabinet", some "check_edit"), "check_edit", "Cabinet.check_edit", defArgs cEdit, defBody cEdit, defScope cEdit, [], []⟩
def q48 : He.DefD := ⟨("Cabinet", some "check_things"), "check_things", "Cabinet.check_things", defArgs cThings, defBody cThings, defScope cThings, [], []⟩
def q49 : He.DefD := ⟨("Cabinet", some "check_sure"), "check_sure", "Cabinet.check_sure", defArgs cSure, defBody cSure, defScope cSure, [], []⟩
def q50 : He.DefD := ⟨("Cabinet", some "change"), "change", "Cabinet.change", defArgs cChange, defBody cChange, defScope cChange, [], []⟩
def q51 : He.DefD := ⟨("Cabinet", some "state"), "state", "Cabinet.state", defArgs cState, defBody cState, defScope cState, [], [("version", .non)]⟩
def q52 : He.DefD := ⟨("Cabinet", some "edits"), "edits", "Cabinet.edits", defArgs cEdits, defBody cEdits, defScope cEdits, [], []⟩
def q53 : He.DefD := ⟨("Cabinet", some "__len__"), "__len__", "Cabinet.__len__", defArgs cLen, defBody cLen, defScope cLen, [], []⟩
def q54 : He.DefD := ⟨("Cabinet", some "__str__"), "__str__", "Cabinet.__str__", defArgs cStr, defBody cStr, defScope cStr, [], []⟩
def q55 : He.DefD := ⟨("Cabinet", some "undo"), "undo", "Cabinet.undo", defArgs cUndo, defBody cUndo, defScope cUndo, [], []⟩
def q56 : He.DefD := ⟨("Cabinet", some "attempt"), "attempt", "Cabinet.attempt", defArgs cAtt, defBody cAtt, defScope cAtt, [], [("watch", .non)]⟩
def q57 : He.DefD := ⟨("Cabinet", some "do_batch"), "do_batch", "Cabinet.do_batch", defArgs cDoB, defBody cDoB, defScope cDoB, [], []⟩
def q58 : He.DefD := ⟨("Cabinet", some "do_edit"), "do_edit", "Cabinet.do_edit", defArgs cDoE, defBody cDoE, defScope cDoE, [], []⟩
def q59 : He.DefD := ⟨("Cabinet", some "certificate"), "certificate", "Cabinet.certificate", defArgs cCert, defBody cCert, defScope cCert, [], [("version", .non)]⟩
def q60 : He.DefD := ⟨("Cabinet", some "walk"), "walk", "Cabinet.walk", defArgs cWalk, defBody cWalk, defScope cWalk, [], []⟩
def q61 : He.DefD := ⟨("Cabinet", some "__eq__"), "__eq__", "Cabinet.__eq__", defArgs cEq, defBody cEq, defScope cEq, [], []⟩
def fn0 : List He.DefD := [q0, q1, q2, q3, q4, q5, q6, q7, q8, q9, q10, q11, q12, q13, q14, q15, q16, q17, q18, q19]
def fn1 : List He.DefD := [q20, q21, q22, q23, q24, q25, q26, q27, q28, q29, q30, q31, q32, q33, q34, q35, q36, q37, q38, q39]
def fn2 : List He.DefD := [q40, q41, q42, q43, q44, q45, q46, q47, q48, q49, q50, q51, q52, q53, q54, q55, q56, q57, q58, q59]
def fn3 : List He.DefD := [q60, q61]
def fn : List He.DefD := fn0 ++ fn1 ++ fn2 ++ fn3
def fa0 : List He.Fa := [.glo "is_number", .glo "is_number_up_to", .glo "is_positive_up_to", .glo "is_tuple_of", .glo "are_numbers", .glo "stock_error", .glo "totals_of", .glo "sizes_of", .glo "with_more", .glo "with_item", .glo "are_collections", .glo "is_collection", .glo "fulfilled_by", .glo "contain", .glo "spoilings_of", .glo "caps_of", .glo "room_of", .glo "sure_total", .glo "are_numbers_up_to", .glo "is_plan"]
def fa1 : List He.Fa := [.glo "room_in", .glo "find_certificate", .glo "loads_of", .glo "sets_of_drawers", .glo "overfull", .glo "draw_within", .glo "spare_of", .glo "is_same_state", .glo "_law_deck", .glo "_law_draw", .glo "_law_stock", .glo "_law_collection", .glo "_law_wish", .glo "_law_after", .glo "_law_edit", .glo "_law_do", .glo "_law_plan", .glo "_law_shown", .glo "batch_of", .glo "is_edit"]
def fa2 : List He.Fa := [.glo "law", .free "len", .free "tuple", .free "isinstance", .free "int", .free "bool", .free "all", .free "zip", .free "enumerate", .free "sum", .free "min", .free "max", .free "range", .free "list", .free "abs", .free "repr", .free "str", .int "MAX_DRAWERS" 4, .int "MAX_KINDS" 4, .int "MAX_COUNT" 50]
def fa3 : List He.Fa := [.int "MAX_COLLECTIONS" 4, .int "BATCH" 20, .glo "Cabinet", .cls "Cabinet", .noat "Cabinet" "stock", .noat "Cabinet" "collections", .noat "Cabinet" "sure", .noat "Cabinet" "past", .noat "Cabinet" "watched", .meth "Cabinet" "put", .meth "Cabinet" "remove", .meth "Cabinet" "wish", .meth "Cabinet" "drop", .meth "Cabinet" "check_idle", .meth "Cabinet" "check_edit", .meth "Cabinet" "check_things", .meth "Cabinet" "check_sure", .meth "Cabinet" "change", .meth "Cabinet" "state", .meth "Cabinet" "edits"]
def fa4 : List He.Fa := [.meth "Cabinet" "__len__", .meth "Cabinet" "__str__", .meth "Cabinet" "undo", .meth "Cabinet" "attempt", .meth "Cabinet" "do_batch", .meth "Cabinet" "do_edit", .meth "Cabinet" "certificate", .meth "Cabinet" "walk", .meth "Cabinet" "__eq__", .mkr "Cabinet", .glo "VALUES_OF_EDITS", .glo "HandCabinet"]
def fa : List He.Fa := fa0 ++ fa1 ++ fa2 ++ fa3 ++ fa4
def exl (K : PySem.W.Frag) : List Bool := [He.conB K "Cabinet" "MOST_EDITS" (.int 60), He.valsB K (He.ga K "VALUES_OF_EDITS") [("put", .int 3), ("remove", .int 3), ("wish", .int 1), ("drop", .int 1)], decide (PySem.W.kitOne K (.ref (He.ga K "Cabinet")) (.ref (He.ga K "Cabinet")) = some true), decide (PySem.W.kitOne K (.ref (He.ga K "Cabinet")) (.ref (He.ga K "HandCabinet")) = some false), tycB K (He.ga K "Cabinet")]
def ex (K : PySem.W.Frag) : Bool := (exl K).all id
abbrev R : PySem.W.OpenRow := PySem.W.OpenLaw.row PySem.Challenge.rw_darkdrawers_k49_whole_histories_and_new
def asK0 : List Addr := [0, 3, 4, 6, 15, 16, 17, 18, 19, 20, 21, 22, 23, 24, 25, 26, 27, 28, 29, 30, 31, 32, 33, 34, 35, 36, 37, 38, 39, 40]
def asK1 : List Addr := [41, 42, 43, 44, 45, 46, 47, 48, 49, 50, 51, 52, 53, 54, 55, 56, 57, 58, 59, 67, 68, 69, 70, 85, 86, 87, 88, 89, 104, 105]
def asK2 : List Addr := [106, 107, 108, 123, 124, 125, 126, 127, 142, 143, 144, 145, 146, 156, 157, 158, 168, 169, 170, 185, 186, 187, 188, 189, 204, 205, 206, 207, 208, 218]
def asK3 : List Addr := [219, 220, 230, 231, 232, 242, 243, 244, 254, 255, 256, 271, 272, 273, 274, 275, 290, 291, 292, 293, 294, 309, 310, 311, 312, 313, 328, 329, 330, 331]
def asK4 : List Addr := [332, 347, 348, 349, 350, 351, 366, 367, 368, 369, 370, 385, 386, 387, 388, 389, 390, 405, 406, 407, 408, 409, 410, 425, 426, 427, 428, 429, 430, 445]
def asK5 : List Addr := [446, 447, 448, 449, 450, 465, 466, 472, 473, 474, 475, 476, 477, 478, 481, 482, 483, 484, 485, 486, 487, 488, 489, 490, 491, 492, 493, 494, 495, 496]
def asK6 : List Addr := [497, 498, 499, 500, 501, 502, 503, 504, 505, 506, 507, 508, 509, 510, 511, 512, 513, 514, 515, 516, 517, 518, 519, 520, 521, 522, 523, 524, 525, 526]
def asK7 : List Addr := [527, 528, 529, 530, 531, 532, 533, 534, 535, 536, 537, 538, 539, 540, 541, 542, 543, 544, 545, 546, 547, 548, 549, 550, 551, 552, 553, 554, 555, 556]
def asK8 : List Addr := [557, 558, 559, 560, 561, 562, 563, 564, 565, 566, 567, 568, 569, 570, 571, 572, 573, 574, 575, 576, 577, 578, 579, 580, 581, 582, 583, 584, 585, 586]
def asK9 : List Addr := [587, 588, 589, 590, 591, 592, 593, 594, 595, 596, 597, 598, 599, 600, 601, 602, 603, 604, 605, 606, 607, 608, 609, 610, 611, 612, 613, 614, 615, 616]
def asK10 : List Addr := [617, 618, 619, 620, 621, 622, 623, 624, 625, 626, 627, 628, 629, 630, 631, 632, 633, 634, 635, 636, 637, 638, 639, 640, 641, 642, 655, 656, 663, 664]
def asK11 : List Addr := [665, 672, 673, 679, 680, 686, 687, 693, 694, 700, 701, 707, 708, 714, 715, 721, 722, 728, 729, 735, 736, 737, 743, 744, 750, 751, 757, 758, 764, 765]
def asK12 : List Addr := [766, 772, 773, 774, 780, 781, 787, 788, 792, 793, 799, 800, 806, 807, 813, 814, 815, 816, 817, 818, 819, 834, 835, 841, 842, 848, 849, 850, 851, 852]
def asK13 : List Addr := [855, 856, 857, 858, 859, 860, 861, 862, 863, 864, 865, 866, 867, 868, 869, 870, 871, 872, 873, 874, 875, 876, 877, 878, 879, 880, 881, 882, 883, 884]
def asK14 : List Addr := [885, 886, 887, 888, 889, 890, 891, 892, 893, 894, 895, 896, 897, 898, 899, 900, 901, 902, 903, 904, 905, 906, 907, 908, 909, 910, 911, 912, 913, 914]
def asK15 : List Addr := [915, 916, 917, 918, 919, 920, 921, 922, 923, 924, 925, 926, 927, 928, 929, 930, 931, 932, 933, 934, 935, 936, 937, 938, 939, 940, 941, 942]
def asK : List Addr := asK0 ++ asK1 ++ asK2 ++ asK3 ++ asK4 ++ asK5 ++ asK6 ++ asK7 ++ asK8 ++ asK9 ++ asK10 ++ asK11 ++ asK12 ++ asK13 ++ asK14 ++ asK15
def tsK : List He.Tab := [(fun K => He.ga K "VALUES_OF_EDITS", ["put", "remove", "wish", "drop"])]
abbrev hk : PySem.W.Hook := HK.hookB asK fa fn ex tsK
def ob (s : PySem.W.SharedT) : (He.AlD × Bool) × List (Option (List (Option (Str × Int)))) := HK.obsB asK fa fn ex tsK (HandSHeadRun.getT s)
theorem ob_eq (s : PySem.W.SharedT) : ob s = hk.obs s.abs := HK.obsB_eq (HandSHeadRun.getT_eq s)
def names0 : List Str := ["_wall", "LIMIT", "MAX_DRAWERS", "MAX_KINDS", "MAX_COUNT", "MAX_COLLECTIONS", "BATCH", "is_number", "is_number_up_to", "is_positive_up_to", "is_tuple_of", "are_numbers", "are_numbers_up_to", "DrawerError", "TooMuch", "TooFew", "BadWish", "BadStock", "Busy", "TooManyEdits", "BadCount", "BadCollection", "TooManyCollections", "LastCollection", "NothingToUndo", "BadEdits", "BadEdit", "Rejected", "BadPlan", "BadMost"]
def names1 : List Str := ["TooFull", "BadText", "NoKind", "NoDrawer", "NoCollection", "NoVersion", "Hand", "is_stock", "stock_error", "totals_of", "sizes_of", "with_more", "with_item", "are_collections", "is_collection", "fulfilled_by", "contain", "spoilings_of", "caps_of", "is_plan", "room_in", "room_of", "find_certificate", "loads_of", "sets_of_drawers", "overfull", "draw_within", "spare_of", "sure_total", "MOST_DIGITS"]
def names2 : List Str := ["parse_cabinet", "parse_drawers", "parse_collections", "numbers_in", "number_in", "VALUES_OF_EDITS", "Cabinet", "HandCabinet", "is_same_state", "batch_of", "is_edit", "_law_deck", "_law_draw", "_law_stock", "_law_collection", "_law_wish", "_law_after", "_law_edit", "_law_do", "_law_plan", "_law_shown"]
def names : List Str := names0 ++ names1 ++ names2
set_option maxHeartbeats 0 in
theorem run0 (w : World) : HandSHeadRun.RunEq R (PySem.W.view R.prog [90]) hk ob 9000 names (w.withFollow "special-get-raises" false) := by
  intro os
  kernel_rfl
set_option maxHeartbeats 0 in
theorem run1 (w : World) : HandSHeadRun.RunEq R (PySem.W.view R.prog [90]) hk ob 9000 names (w.withFollow "special-get-raises" true) := by
  intro os
  kernel_rfl
theorem run (w : World) : HandSHeadRun.RunEq R (PySem.W.view R.prog [90]) hk ob 9000 names w := PySem.W.byRow2 "special-get-raises" run0 run1 w
end HT
namespace DD
open PySem PySem.Spec PyProof.Rows L2

/-! ### a def's promise where no repr is under way (A.guards = some []) -/
structure FnG (P : Program) (w : World) (K : PySem.W.Frag) (mg : Str → Option Value) (base : Heap) (k : Nat) (f : Addr)
    (fd : FuncData) (ps : List Str) (sp : Sp) : Prop where
  arity : ∀ vs H Q E, sp vs H Q E → vs.length = ps.length
  go : ∀ (A : Around), A.guards = some [] → Room k A → ∀ (outer : List Env) (s : Shared) (H : Hp) (args : Args) (us : List Value)
    (vs : List V) (Q : VK) (E : XK), Env0 P w K mg base A outer s H → BindsTo s fd args (ps.zip us) → Vals vs us → sp vs H Q E →
    codeAny (model P w) A (.call (.ref f) args) (CR CX0 outer P w H s Q E) s

section
variable {P : Program} {w : World} {K : PySem.W.Frag} {mg : Str → Option Value} {base : Heap} {k : Nat} {f : Addr} {fd : FuncData}
  {ps : List Str} {sp : Sp}
theorem FnG.up {j : Nat} (F : FnG P w K mg base j f fd ps sp) (h : j ≤ k) : FnG P w K mg base k f fd ps sp :=
  ⟨F.arity, fun A hg hr => F.go A hg (hr.mono h)⟩

theorem fnG_of {x qual : Str} {st : Stmt} {N : List Str} (F : Fun K x qual st f fd) (S : FnScope N ps (defScope st))
    (ar : ∀ vs H Q E, sp vs H Q E → vs.length = ps.length)
    (bd : ∀ (cdv : Value) (A : Around), A.guards = some [] → ∀ (outer : List Env) (s : Shared) (H : Hp) (vs : List V) (Q : VK) (E : XK),
      Room k (A.deeper (envOfC qual (defScope st) s.heap.objs.size f cdv)) → sp vs H Q E →
      ∃ t, PSs (cxOf CX0 P w K mg base N qual (defScope st) f cdv A outer s H E).nox (defBody st) t ∧
        t { nx := fun _ H' => Q .non H', rt := Q } (start N vs) H) : FnG P w K mg base (k + 1) f fd ps sp := by
  obtain ⟨oc, od, kV, doc, pm, an, cdv, ct, osl, rfl, lk, hcd⟩ := F.ex
  refine ⟨ar, fun A hgu hr outer s H args us vs Q E e0 hb rv hsp => ?_⟩
  have nl := ar _ _ _ _ hsp
  have kin : K.In s.heap := e0.mod.kin.keeps fun b o e => (e0.bs b o e).1
  have nolim : s.heap.NoLimit := e0.mod.nolimit.keeps fun b o e => (e0.bs b o e).1
  have kinds : ∀ y ∈ ps.zip us, (defScope st).names.lookup y.1 = some .local ∨ ((defScope st).names.lookup y.1 = some .cell ∧
      ((cellsFrom (s.heap.objs.size + 1) (defScope st).names []).lookup y.1).isSome = true) := by
    rintro ⟨n, v⟩ hy
    rcases S.par n (List.of_mem_zip hy).1 with q | q
    · exact .inl q
    · exact .inr ⟨q, PySem.W.cellsFrom_some _ _ _ (.inl q)⟩
  refine codeAny_call_function hr.depth (kin _ _ lk) rfl S.co S.gen rfl (PySem.W.codeRec_of kin hcd) (hb _ _ _ _ ?_)
  refine wpAny_newFunctionEnv_cells S.kind kinds fun env he s1 xx => ?_
  subst he
  refine ⟨nolim.keeps xx.toInCall.keep, codeAny_func ?_⟩
  obtain ⟨t, ht0, hq⟩ := bd cdv A hgu outer s H vs Q E (hr.deeper _) hsp
  have ht := ht0.nox
  have I0 := inv_start (CX := CX0) (E := E) S hr.hd e0 nl rv xx
  refine wpAny_mono (ht.run [] s1 (start N vs) H _ I0 hq) (fun fl s' hs => ?_) fun e s' hs => hs
  cases fl with
  | ret u =>
    obtain ⟨v, σ', H', J, r2, q⟩ := hs
    exact ⟨v, H', J.os, J.bare, J.base, J.hok, r2, q⟩
  | next =>
    obtain ⟨σ', H', J, q⟩ := hs
    exact ⟨V.non, H', J.os, J.bare, J.base, J.hok, rfl, q⟩
  | brk =>
    obtain ⟨_, _, _, q⟩ := hs
    exact q.elim
  | cont =>
    obtain ⟨_, _, _, q⟩ := hs
    exact q.elim
end

section
variable {X : Cx} {k : Nat} {f : Addr} {fd : FuncData} {ps : List Str} {sp : Sp} {x : Str} {p pos : Pos} {e : Expr} {es : List Expr} {t : TA}
theorem pe_callG (F : FnG X.prog X.w X.K X.mg X.base k f fd ps sp) (hgu : X.A.guards = some []) (hr : Room k X.A) (hg : Gl X x)
    (hm : X.mg x = some (.ref f)) (hk : PySem.W.keepIn X.K (.ref f) = true) (hb : Binds X.K fd ps [])
    (ha : PA X (e :: es) t) (hdb : (x == ("__debug__" : Str)) = false := by decide)
    (he : starEach (e :: es) X.env = (false, eval e X.env) :: starEach es X.env := by rfl)
    (hpl : (backTo pos (starEach es X.env)).any (·.1) = false := by rfl) :
    PE X (.Call (.Name x p) (e :: es) [] pos) (tCall sp [] E0 t) := by
  refine ⟨fun pins s σ H Q I h => wpAny_Call_Name_kw (ld_glob I hg hm ?_ hdb)⟩
  refine PySem.W.callWith_K (h₀ := X.base) I.ok.mod.kin hk
    (thn (ha.run pos pins s σ H _ I h) fun us s1 ⟨vs, H1, I1, r, q⟩ => ⟨I1.kIn, ?_⟩) he hpl
  have q : sp (vs ++ []) H1 Q E0 := q
  rw [List.append_nil] at q
  have hl : (us ++ []).length = ps.length := by rw [List.append_nil, ← r.length]; exact F.arity _ _ _ _ q
  have hbb := hb s1 us I1.kIn hl
  rw [List.append_nil] at hbb
  refine wpAny_call (codeAny_mono (F.go X.A hgu hr X.stack s1 H1 ⟨us, []⟩ us vs Q E0 I1.env0 hbb r q) fun r s' hq => ?_)
  cases r with
  | error e => exact hq.elim
  | ok fl =>
    cases fl with
    | ret u => exact I1.after hq
    | next => exact hq.elim
    | brk => exact hq.elim
    | cont => exact hq.elim
end

/-! ### repr of data -/
mutual
theorem dp_nodict {K : PySem.W.Frag} {H : Hp} : ∀ (d : PyData) (v : V), Dp K H v d → d.hasDict = false
  | .none, _, _ => rfl
  | .bool _, _, _ => rfl
  | .int _, _, _ => rfl
  | .str _, _, _ => rfl
  | .list ds, _, h => by
    cases h with
    | lst _ a => exact dps_nodict ds _ a
  | .tuple ds, _, h => by
    cases h with
    | tup _ a => exact dps_nodict ds _ a
  | .dict _, _, h => by cases h
theorem dps_nodict {K : PySem.W.Frag} {H : Hp} : ∀ (ds : List PyData) (vs : List V), DpAll K H vs ds → PyData.hasDictAll ds = false
  | [], _, _ => rfl
  | d :: ds, _, h => by
    cases h with
    | cons a b =>
      show (d.hasDict || PyData.hasDictAll ds) = false
      rw [dp_nodict d _ a, dps_nodict ds _ b]
      rfl
end

/-- data that is small: what repr and == ask of it -/
structure Sm (wt dp : Nat) (d : PyData) : Prop where
  lay : d.canLay0 = true
  short : d.intsShort 13 = true
  show_ : d.showable = true
  wt : d.weight ≤ wt
  dp : d.depth ≤ dp
structure SmA (n wt dp : Nat) (ds : List PyData) : Prop where
  len : ds.length ≤ n
  lay : PyData.canLayAll0 ds = true
  short : PyData.intsShortAll 13 ds = true
  show_ : PyData.showableAll ds = true
  wt : PyData.weightAll ds ≤ ds.length * (wt + 1)
  dp : PyData.depthAll ds ≤ dp
theorem SmA.nil {n wt dp : Nat} : SmA n wt dp [] := ⟨Nat.zero_le _, rfl, rfl, rfl, by simp [PyData.weightAll], Nat.zero_le _⟩
theorem SmA.cons {n wt dp : Nat} {d : PyData} {ds : List PyData} (a : Sm wt dp d) (b : SmA n wt dp ds) : SmA (n + 1) wt dp (d :: ds) where
  len := Nat.succ_le_succ b.len
  lay := by show (d.canLay0 && _) = true; rw [a.lay, b.lay]; rfl
  short := by show (d.intsShort 13 && _) = true; rw [a.short, b.short]; rfl
  show_ := by show (d.showable && _) = true; rw [a.show_, b.show_]; rfl
  wt := by
    have h1 := a.wt
    have h2 := b.wt
    show d.weight + 1 + PyData.weightAll ds ≤ (ds.length + 1) * (wt + 1)
    rw [Nat.succ_mul]
    omega
  dp := Nat.max_le.mpr ⟨a.dp, b.dp⟩
theorem SmA.all {wt dp : Nat} : ∀ {ds : List PyData}, (∀ d ∈ ds, Sm wt dp d) → SmA ds.length wt dp ds
  | [], _ => .nil
  | d :: ds, h => .cons (h d List.mem_cons_self) (SmA.all fun x hx => h x (List.mem_cons_of_mem _ hx))
theorem Sm.up {w1 w2 k1 k2 : Nat} {d : PyData} (a : Sm w1 k1 d) (h : w1 ≤ w2) (hk : k1 ≤ k2) : Sm w2 k2 d :=
  ⟨a.lay, a.short, a.show_, Nat.le_trans a.wt h, Nat.le_trans a.dp hk⟩
theorem SmA.len_le {n wt dp : Nat} {ds : List PyData} (b : SmA n wt dp ds) : PyData.weightAll ds ≤ n * (wt + 1) :=
  Nat.le_trans b.wt (Nat.mul_le_mul_right _ b.len)
theorem SmA.tup {n wt dp : Nat} {ds : List PyData} (b : SmA n wt dp ds) : Sm (n * (wt + 1)) (dp + 1) (.tuple ds) :=
  ⟨b.lay, b.short, b.show_, b.len_le, Nat.succ_le_succ b.dp⟩
theorem SmA.lst {n wt dp : Nat} {ds : List PyData} (b : SmA n wt dp ds) : Sm (n * (wt + 1)) (dp + 1) (.list ds) :=
  ⟨b.lay, b.short, b.show_, b.len_le, Nat.succ_le_succ b.dp⟩
theorem log2_lt_of {n : Nat} (h : n < 4096) : n.log2 ≤ 11 := by
  by_cases h0 : n = 0
  · subst h0; decide
  · have := (Nat.log2_lt h0 (k := 12)).mpr (by omega)
    omega
theorem Sm.int {i : Int} (h0 : 0 ≤ i) (h : i < 4096) : Sm 13 0 (.int i) where
  lay := rfl
  short := by
    refine decide_eq_true ?_
    have e := int_text_length_le (a := i) (k := 12) (by decide) (by have := log2_lt_of (n := i.natAbs) (by omega); omega)
    show (Str.ofString (toString i)).length ≤ 13
    rw [PySem.ofString_length]
    omega
  show_ := decide_eq_true (by have := log2_lt_of (n := i.natAbs) (by omega); omega)
  wt := by
    have := log2_lt_of (n := i.natAbs) (by omega)
    show (if i == 0 then 0 else i.natAbs.log2 + 1) ≤ 13
    split
    · omega
    · omega
  dp := Nat.le_refl _
theorem Sm.size {wt dp : Nat} {d : PyData} (a : Sm wt dp d) (h : wt ≤ 1048576) : d.shown.length ≤ sizeLine := by
  have h2 := PyData.shown_le 13 (by decide) d (PyData.leavesShort_of_canLay0 13 d a.lay a.short)
  have h3 := a.wt
  rw [sizeLine_eq]
  omega
theorem Sm.shaped {wt dp : Nat} {d : PyData} (a : Sm wt dp d) (h : dp ≤ 64) : SeqAt.shaped d = true := by
  show (d.canLay0 && decide (d.depth ≤ 64)) = true
  rw [a.lay, decide_eq_true (Nat.le_trans a.dp h)]
  rfl

/-- repr of a list or tuple of data: its text -/
theorem call_reprD {X : Cx} (hg : X.A.guards = some []) (hu : X.A.units + 66 < cLine) : CallR X (.builtin "repr") (fun xs H Q =>
    ∃ a d wt, xs = [.ref a] ∧ Dp X.K H (.ref a) d ∧ Sm wt 64 d ∧ wt ≤ 1048576 ∧ Q (.str d.shown) H) := by
  intro pins s σ H xs us Q I r h
  obtain ⟨a, d, wt, rfl, hd, sm, hw, q⟩ := h
  obtain ⟨u, rfl, ru⟩ := vals1 r
  cases ru
  obtain ⟨as, rd⟩ := Dp.reads I d _ _ hd rfl
  have hdp := sm.dp
  exact repr_of_reads' rd sm.show_ (PyData.noDict_hsm (dp_nodict d _ hd)) hg (by omega) (fun _ _ e => e)
    (fun h' u tk hk => ⟨.str d.shown, H, I.kept hk, ⟨_, rfl⟩, q⟩) (sm.size hw)
end DD
namespace DD
open PySem PySem.Spec PyProof.Rows L2

/-! ### the end of a law whose def keeps its promise where no repr is under way -/
section
variable {P : Program} {w : World} {K : PySem.W.Frag} {mg mb : Str → Option Value} {k : Nat} {fa a : Addr} {fd : FuncData} {x : Str} {sp : Sp}
  {s1 : Shared} {vs : List Value} {ns : List Int}
theorem law_goG (kin : K.In s1.heap) (nsG : s1.heap.Ns mainGlobals mg) (nsB : s1.heap.Ns builtinsNs mb)
    (blt : ∀ x : Str, x ≠ "__name__" → mb x = bootBuiltins x) (nolim : s1.heap.NoLimit) (ng : s1.gens = #[])
    (oa : s1.heap.get? a = some { cls := .type "list", data := .seq vs.toArray }) (ia : IntsAre vs ns) (len : ns.length ≤ sizeLine)
    (room : Room k callerA) (F : ∀ base : Heap, K.In base → base.Ns mainGlobals mg → FnG P w K mg base k fa fd [x] sp)
    (bind : ∀ (s : Shared) (u : Value), BindsTo s fd ⟨[u], []⟩ [(x, u)])
    (wish : ∀ H : Hp, Only H → SqL K H a (ns.map V.int) → sp [.ref a] H (fun v _ => v = .bl true) fun _ _ _ => False) :
    codeAny (model P w) callerA (.call (.ref fa) ⟨[.ref a], []⟩)
      (fun r s' => r = .ok (.ret (.bool true)) ∧ OldK s1.heap s'.heap ∧ s'.os = s1.os ∧ AllBare s'.gens) s1 := by
  have rv := vals_ints ia
  have lv := ia.length
  -- the run, from an abstract heap that tracks at most the script
  have main : ∀ H : Hp, Only H → SqL K H a (ns.map V.int) → HOk P w H s1.heap → (∀ b, H b ≠ none → b = a) → (H a ≠ none → K.lookup a = none) →
      codeAny (model P w) callerA (.call (.ref fa) ⟨[.ref a], []⟩)
        (fun r s' => r = .ok (.ret (.bool true)) ∧ OldK s1.heap s'.heap ∧ s'.os = s1.os ∧ AllBare s'.gens) s1 := by
    intro H onl hS ok only noK
    have free : ∀ {b : Addr} {o : Obj} {es : Array DictEntry} {ep : Nat}, s1.heap.get? b = some o → o.data = .dict es ep → H b = none := by
      intro b o es ep e d
      cases q : H b with
      | none => rfl
      | some u =>
        obtain rfl := only b (by rw [q]; simp)
        rw [oa] at e
        cases e
        exact nomatch (show Data.seq vs.toArray _ = Data.dict es ep from d)
    have nsOf : ∀ {b : Addr} {m : Str → Option Value}, s1.heap.Ns b m → (hidT s1.heap H).Ns b m := by
      rintro b m ⟨o, es, ep, e, d, r⟩
      exact ⟨o, es, ep, hidT_get e (free e d), d, r⟩
    have kin0 : K.In (hidT s1.heap H) := fun b o e => hidT_get (kin b o e) (by
      cases q : H b with
      | none => rfl
      | some u =>
        obtain rfl := only b (by rw [q]; simp)
        rw [noK (by rw [q]; simp)] at e
        cases e)
    obtain ⟨mc, c1, c2⟩ := nolim
    have md : Mod K mg (hidT s1.heap H) := ⟨kin0, nsOf nsG, ⟨mb, nsOf nsB, blt⟩, mc, nsOf c1, c2⟩
    have e0 : Env0 P w K mg (hidT s1.heap H) callerA [] s1 H :=
      ⟨rfl, md, fun b o e => of_hidT e, Nat.le_of_eq (hidT_size _ _), trivial, fun b z => (nomatch (show b ∈ ([] : List Addr) from z)), ok, .of_eq ng⟩
    have ran := (F _ kin0 (nsOf nsG)).go callerA rfl room [] s1 H ⟨[.ref a], []⟩ [.ref a] [.ref a] _ _ e0 (bind s1 (.ref a)) (.cons rfl .nil) (wish H onl hS)
    refine codeAny_mono ran fun r s' h => ?_
    match r, h with
    | .ok (.ret u), h =>
      obtain ⟨v, H', eos, br, un, ok', r', q⟩ := h
      obtain rfl : v = .bl true := q
      obtain rfl : u = Value.bool true := r'
      refine ⟨rfl, OldK.of_keep fun b o e => ?_, eos, br⟩
      cases q : H b with
      | none => exact un.keep b o e q (fun z => nomatch (show b ∈ ([] : List Addr) from z)) (by simp)
      | some u =>
        rcases onl b with z | ⟨ob, xs, z⟩
        · rw [q] at z
          cases z
        · have e1 := (ok b _ z).1
          rw [e] at e1
          cases e1
          exact (ok' b _ (un.frzs b _ _ z)).1
  cases hk : K.lookup a with
  | some o =>
    -- the script is one of the module's own objects
    have e := kin a o hk
    rw [oa] at e
    cases e
    have hsz : vs.toArray.size ≤ sizeLine := by
      rw [List.size_toArray, lv]
      exact len
    exact main (fun _ => none) (fun _ => .inl rfl) (.inr ⟨_, vs.toArray, _, hk, rfl, rfl, rfl, hsz, by simpa using rv⟩)
      (fun b u z => nomatch (show (none : Option HO) = some u from z)) (fun b z => absurd rfl z) fun z => absurd rfl z
  | none =>
    let fr : HO := .frz { cls := .type "list", data := .seq vs.toArray } (.lst (ns.map V.int))
    have at_ : (fun b => if b = a then some fr else none : Hp) a = some fr := if_pos rfl
    have else_ : ∀ b, b ≠ a → (fun b => if b = a then some fr else none : Hp) b = none := fun b hb => if_neg hb
    refine main (fun b => if b = a then some fr else none) (fun b => ?_) (.inl (.inr ⟨_, at_⟩)) (fun b u z => ?_) (fun b z => ?_) fun _ => hk
    · by_cases hb : b = a
      · exact .inr ⟨_, _, if_pos hb⟩
      · exact .inl (else_ b hb)
    · by_cases hb : b = a
      · subst hb
        cases at_.symm.trans z
        exact ⟨oa, by rw [List.length_map]; exact len, vs, _, rv, oa⟩
      · exact nomatch (else_ b hb).symm.trans z
    · by_cases hb : b = a
      · exact hb
      · exact absurd (else_ b hb) z
end

theorem walk_ofG {l : PySem.W.OpenLaw} {n k : Nat} {q : Program} {loose : List Str} {XP : (Str → Option Value) → Heap → Prop} {YP : World → Heap → Prop}
    {d : DefRec} {K : Params → PySem.W.Frag} {sp : World → Sp} {x : Str} (most : l.most = some n) (n_le : n ≤ sizeLine) (nodef : d.params.defaults = [])
    (room : Room k callerA) (kin : ∀ (w : World) (h : Heap), YP w h → (K w.params).In h)
    (F : ∀ (w : World) (mg : Str → Option Value) (fa : Addr) (h : Heap), (K w.params).In h → h.Ns mainGlobals mg → mg d.name = some (.ref fa) →
      ∃ fd : FuncData, (∀ (s : Shared) (u : Value), BindsTo s fd ⟨[u], []⟩ [(x, u)]) ∧
        ∀ base : Heap, (K w.params).In base → base.Ns mainGlobals mg → FnG l.prog w (K w.params) mg base k fa fd [x] (sp w))
    (wish : ∀ (w : World) (H : Hp) (a : Addr) (ns : List Int), ns.length ≤ n → Only H → SqL (K w.params) H a (ns.map V.int) →
      sp w [.ref a] H (fun v _ => v = .bl true) fun _ _ _ => False) :
    PySem.W.WalkO q loose XP YP l.row.toRowW d [] (fun f vs => PySem.call f vs) := by
  refine Att.attach_call most nodef fun w s0 s1 mg mb fa o pm cd doc a vs ns G Y ho hd hcd hmg hobj hints hlen hg => ?_
  obtain ⟨fd, hb, hF⟩ := F w mg fa _ (kin w _ Y) G.T.g hmg
  exact law_goG (kin w _ Y) G.T.g G.T.b G.T.builtins G.T.nolimit hg hobj hints (Nat.le_trans hlen n_le) room hF hb
    fun H hO hS => wish w H a ns hlen hO hS
end DD
namespace DD
open PySem PySem.Spec PyProof.Rows L2
section
variable {M : Model} {A : Around} {E : Value → Shared → Prop}
theorem wp_forIn {α β : Type} (f : α → β → Sem (ForInStep β)) : ∀ (l : List α) (J : Nat → β → Shared → Prop),
    (∀ j x b s, l[j]? = some x → J j b s → wpAny M A (f x b) (fun r s' => ∃ b', r = .yield b' ∧ J (j + 1) b' s') E s) →
    ∀ (b : β) (s : Shared), J 0 b s → wpAny M A (forIn l b f) (fun b' s' => J l.length b' s') E s
  | [], J, step, b, s, h => by
    rw [List.forIn_nil]
    exact wpAny_pure h
  | x :: l, J, step, b, s, h => by
    rw [List.forIn_cons]
    refine wpAny_bind (wpAny_mono (step 0 x b s rfl h) (fun r s' hr => ?_) (fun _ _ e => e))
    obtain ⟨b', rfl, hJ⟩ := hr
    exact wp_forIn f l (fun j => J (j + 1)) (fun j y c s'' e hj => step (j + 1) y c s'' e hj) b' s' hJ
end

abbrev zObj (f0 f1 : Value) (TI TO : Addr) : Obj :=
  { cls := .type "zip", dict := none, data := .fields #[f0, f1, .bool false, .ref TI, .ref TO], slots := #[] }
abbrev tObj (vs : Array Value) : Obj := { cls := .type "tuple", data := .seq vs }
structure ZApart (z TI TO : Addr) (ps : List (Addr × Addr)) : Prop where
  tz : TI ≠ z
  oz : TO ≠ z
  it : TI ≠ TO
  nd : (ps.map (·.1)).Nodup
  pz : ∀ p ∈ ps, p.1 ≠ z ∧ p.1 ≠ TI ∧ p.1 ≠ TO ∧ p.2 ≠ z ∧ p.2 ≠ TO
  px : ∀ p ∈ ps, ∀ q ∈ ps, p.2 ≠ q.1
structure ZSt (h : Heap) (z TI TO : Addr) (ps : List (Addr × Addr)) (k : Nat) : Prop where
  zz : ∃ f0 f1, h.get? z = some (zObj f0 f1 TI TO) ∧ (f0 = .none ∨ ∃ a t, f0 = .int a t)
  ti : h.get? TI = some (tObj (ps.map fun p => Value.ref p.1).toArray)
  to : ∃ arr : Array Value, arr.size = ps.length ∧ h.get? TO = some (tObj arr)
  its : ∀ p ∈ ps, h.IsTupleIter p.1 p.2 k


/-- the objects but z, TO and the iterators stand; the first j iterators have turned -/
structure ZMid (g h : Heap) (z TO : Addr) (ps : List (Addr × Addr)) (k j : Nat) : Prop where
  size : h.objs.size = g.objs.size
  keep : ∀ c o, c ≠ z → c ≠ TO → (∀ p ∈ ps, c ≠ p.1) → g.get? c = some o → h.get? c = some o
  its : ∀ (i : Nat) (p : Addr × Addr), ps[i]? = some p → h.IsTupleIter p.1 p.2 (if i < j then k + 1 else k)

section
variable {prog : Program} {w : World} {A : Around} {E : Value → Shared → Prop} {s : Shared} {z TI TO : Addr} {ps : List (Addr × Addr)} {k : Nat}
theorem wp_alive {M : Model} {a : Addr} {Q : Option Obj → Shared → Prop} (h : Q (s.heap.get? a) s) : wpAny M A (loadIfAlive a) Q E s := fun _ _ _ => h
theorem ptr_ne {ps : List (Addr × Addr)} (nd : (ps.map (·.1)).Nodup) {i j : Nat} {p q : Addr × Addr} (hp : ps[i]? = some p) (hq : ps[j]? = some q) (h : i ≠ j) : p.1 ≠ q.1 := by
  intro e
  have e1 : (ps.map (·.1))[i]? = some p.1 := by rw [List.getElem?_map, hp] <;> rfl
  have e2 : (ps.map (·.1))[j]? = some p.1 := by rw [List.getElem?_map, hq, e] <;> rfl
  obtain ⟨l1, g1⟩ := List.getElem?_eq_some_iff.mp e1
  obtain ⟨l2, g2⟩ := List.getElem?_eq_some_iff.mp e2
  exact h ((List.getElem_inj nd).mp (g1.trans g2.symm))
theorem free_or {f0 f1 : Value} (hz : s.heap.get? z = some (zObj f0 f1 TI TO)) (hf0 : f0 = .none ∨ ∃ a t, f0 = .int a t) :
    wpAny (model prog w) A (Builtin.SmallTypes.ownedTupleIsFree (.ref z)) (fun b s' => (b = true ∧ s' = s) ∨
      (b = false ∧ ∃ h' f2, s' = { s with heap := h' } ∧ h'.get? z = some (zObj f0 f2 TI TO) ∧ Heap.SameBut z s.heap h')) E s := by
  unfold Builtin.SmallTypes.ownedTupleIsFree
  refine wpAny_bind (wpAny_field hz rfl (x := f0) rfl ?_)
  rcases hf0 with rfl | ⟨a, t, rfl⟩
  · exact wpAny_pure (.inl ⟨rfl, rfl⟩)
  · refine wpAny_bind (wp_alive ?_)
    cases ha : s.heap.get? a.toNat with
    | none => exact wpAny_pure (.inl ⟨rfl, rfl⟩)
    | some o =>
      simp only [Option.isNone_some, Bool.false_eq_true, if_false]
      refine wpAny_bind (wpAny_field hz rfl (x := f1) rfl ?_)
      by_cases hb : (f1 != Value.bool true) = true
      · rw [if_pos hb]
        refine wpAny_bind (wpAny_setField_rec hz (by simp) fun h1 hz1 hs1 => wpAny_pure (.inr ⟨rfl, h1, .bool true, rfl, hz1, hs1⟩))
      · rw [if_neg hb]
        exact wpAny_pure (.inr ⟨rfl, s.heap, f1, rfl, hz, Heap.SameBut.refl _ _⟩)
/-- one iterator's turn -/
theorem draw_one {g h : Heap} {j : Nat} {p : Addr × Addr} {xs : Array Value} {v : Value} {Q : Value → Shared → Prop} (D : ZApart z TI TO ps) (m : ZMid g h z TO ps k j)
    (hp : ps[j]? = some p) (hl : g.IsTuple p.2 xs) (hx : xs[k]? = some v)
    (hQ : ∀ h', ZMid g h' z TO ps k (j + 1) → Heap.SameBut p.1 h h' → Q v { s with heap := h' }) :
    wpAny (model prog w) A (Builtin.SmallTypes.nextOf (.ref p.1)) Q E { s with heap := h } := by
  have hm : p ∈ ps := List.mem_of_getElem? hp
  have h1 : h.IsTupleIter p.1 p.2 k := by
    have := m.its j p hp
    rwa [if_neg (Nat.lt_irrefl j)] at this
  have h2 : h.IsTuple p.2 xs := by
    obtain ⟨o, e, c⟩ := hl
    exact ⟨o, m.keep _ _ (D.pz p hm).2.2.2.1 (D.pz p hm).2.2.2.2 (fun q hq => D.px p hm q hq) e, c⟩
  refine RZ.nextOf_tuple_item (s := { s with heap := h }) h1 h2 hx fun h' hi hs => hQ h' ⟨hs.1.trans m.size, fun c o c1 c2 c3 e => ?_, fun i q hq => ?_⟩ hs
  · rw [hs.2 c (c3 p hm)]
    exact m.keep c o c1 c2 c3 e
  · by_cases hij : i = j
    · subst hij
      rw [hp] at hq
      cases hq
      rw [if_pos (Nat.lt_succ_self _)]
      exact hi
    · have hqi := m.its i q hq
      have hne := ptr_ne D.nd hq hp hij
      rw [show (if i < j + 1 then k + 1 else k) = (if i < j then k + 1 else k) by
        by_cases hlt : i < j
        · rw [if_pos hlt, if_pos (by omega)]
        · rw [if_neg hlt, if_neg (by omega)]]
      obtain ⟨o, e, c⟩ := hqi
      exact ⟨o, (hs.2 _ hne).trans e, c⟩
theorem ZMid.full {g h : Heap} (m : ZMid g h z TO ps k ps.length) : ∀ p ∈ ps, h.IsTupleIter p.1 p.2 (k + 1) := fun p hp => by
  obtain ⟨i, hi⟩ := List.mem_iff_getElem?.mp hp
  obtain ⟨hl, _⟩ := List.getElem?_eq_some_iff.mp hi
  have := m.its i p hi
  rwa [if_pos hl] at this

theorem zn_item {vs : List Value} {Q : Value → Shared → Prop} (D : ZApart z TI TO ps) (hn : 1 ≤ ps.length) (hn2 : ps.length ≤ 1000) (S : ZSt s.heap z TI TO ps k)
    (hv : vs.length = ps.length) (hi : ∀ (j : Nat) (p : Addr × Addr), ps[j]? = some p → ∃ xs, s.heap.IsTuple p.2 xs ∧ xs[k]? = vs[j]?)
    (hQ : ∀ h', ZSt h' z TI TO ps (k + 1) → h'.get? s.heap.objs.size = some (tObj vs.toArray) → h'.objs.size = s.heap.objs.size + 1 →
      (∀ c o, c ≠ z → c ≠ TO → (∀ p ∈ ps, c ≠ p.1) → s.heap.get? c = some o → h'.get? c = some o) → Q (.ref s.heap.objs.size) { s with heap := h' }) :
    wpAny (model prog w) A (Builtin.«zip.__next__» ⟨[.ref z], []⟩) (fun fin s' => ∃ v, fin = .done (.ret v) ∧ Q v s') E s := by
  obtain ⟨⟨f0, f1, hz, hf0⟩, hTI, ⟨arr, ha, hTO⟩, hits⟩ := S
  show wpAny _ _ (field (.ref z) 2 >>= _) _ _ _
  refine wpAny_bind (wpAny_field hz rfl (x := .bool false) rfl ?_)
  show wpAny _ _ (field (.ref z) 3 >>= _) _ _ _
  refine wpAny_bind (wpAny_field hz rfl (x := .ref TI) rfl ?_)
  refine wpAny_bind (wpAny_seqItems hTI rfl ?_)
  have hne : (ps.map fun p => Value.ref p.1).toArray.isEmpty = false := by
    cases ps with
    | nil => simp at hn
    | cons p r => rfl
  simp only [hne, Bool.false_eq_true, if_false]
  have m0 : ∀ h, Heap.SameBut z s.heap h → ZMid s.heap h z TO ps k 0 := fun h hs =>
    ⟨hs.1, fun c o c1 _ _ e => (hs.2 c c1).trans e, fun i p hp => by
      rw [if_neg (Nat.not_lt_zero _)]
      have hm := List.mem_of_getElem? hp
      obtain ⟨o, e, c⟩ := hits p hm
      exact ⟨o, (hs.2 _ (D.pz p hm).1).trans e, c⟩⟩
  refine wpAny_bind (wpAny_mono (free_or hz hf0) (fun b s' hb => ?_) fun _ _ e => e)
  rcases hb with ⟨rfl, rfl⟩ | ⟨rfl, h1, f2, rfl, hz1, hs1⟩
  · simp only [if_true]
    refine wpAny_bind (wpAny_rule ?_)
    refine wpAny_bind (wpAny_field hz rfl (x := .ref TO) rfl ?_)
    refine wpAny_bind (wpAny_setField_rec hz (by simp) fun h1 hz1 hs1 => ?_)
    replace hz1 : h1.get? z = some (zObj .ellipsis f1 TI TO) := hz1
    have nTI : ∀ p ∈ ps, TI ≠ p.1 := fun p hp q => (D.pz p hp).2.1 q.symm
    refine wpAny_bind (thn (wp_forIn _ _ (fun j b s2 => b = (none, ()) ∧ ∃ (h : Heap) (a2 : Array Value), s2 = { s' with heap := h } ∧ ZMid s'.heap h z TO ps k j ∧
      h.get? z = some (zObj .ellipsis f1 TI TO) ∧ a2.size = ps.length ∧ (∀ i, i < j → a2[i]? = vs[i]?) ∧ h.get? TO = some (tObj a2)) ?step _ _ ?init) fun b s2 hb => ?last)
    case init => exact ⟨rfl, h1, arr, rfl, m0 h1 hs1, hz1, ha, fun i hi => absurd hi (Nat.not_lt_zero _), (hs1.2 _ D.oz).trans hTO⟩
    case step =>
      rintro j x b s2 hx ⟨rfl, h, a2, rfl, m, hz2, hs2, pre, hTO2⟩
      rw [List.getElem?_zipIdx, List.getElem?_map] at hx
      cases hp : ps[j]? with
      | none =>
        rw [hp] at hx
        cases hx
      | some p =>
        rw [hp] at hx
        obtain rfl : (Value.ref p.1, 0 + j) = x := Option.some.inj hx
        obtain ⟨xs, hl, hxk⟩ := hi j p hp
        have hm : p ∈ ps := List.mem_of_getElem? hp
        have hj : j < ps.length := (List.getElem?_eq_some_iff.mp hp).1
        have hjv : vs[j]? = some (vs[j]'(by omega)) := List.getElem?_eq_getElem (by omega)
        refine wpAny_bind (wpAny_onRaise ?_)
        show wpAny _ _ (Builtin.SmallTypes.nextOf (.ref p.1) >>= _) _ _ _
        refine wpAny_bind (draw_one D m hp hl (hxk.trans hjv) fun h' m' hs' => wpAny_pure ?_)
        have hTO' : h'.get? TO = some (tObj a2) := (hs'.2 _ (D.pz p hm).2.2.1.symm).trans hTO2
        refine wpAny_bind (wpAny_seqItems hTO' rfl ?_)
        have hb1 : a2.size ≤ sizeLine := by rw [hs2, sizeLine_eq]; omega
        refine wpAny_bind (wpAny_updateSeq hTO' rfl ?_ hb1 (by rw [Array.size_setIfInBounds, hs2, sizeLine_eq]; omega))
        have sb := Heap.SameBut.update h' TO (Obj.mapSeq fun x => x.setIfInBounds (0 + j) (vs[j]'(by omega)))
        refine wpAny_bind (wpAny_letGo (wpAny_pure ⟨_, rfl, rfl, _, a2.setIfInBounds j (vs[j]'(by omega)), rfl, ⟨sb.1.trans m'.size, fun c o c1 c2 c3 e => (sb.2 c c2).trans (m'.keep c o c1 c2 c3 e), fun i q hq => ?_⟩, ?_, ?_, fun i hij => ?_, ?_⟩))
        · obtain ⟨o, e, c⟩ := m'.its i q hq
          exact ⟨o, (sb.2 _ (D.pz q (List.mem_of_getElem? hq)).2.2.1).trans e, c⟩
        · rw [sb.2 z D.oz.symm, hs'.2 z (D.pz p hm).1.symm]
          exact hz2
        · rw [Array.size_setIfInBounds]
          exact hs2
        · rw [Array.getElem?_setIfInBounds]
          by_cases e : j = i
          · subst e
            rw [if_pos rfl, if_pos (by omega)]
            exact hjv.symm
          · rw [if_neg e]
            exact pre i (by omega)
        · rw [Heap.get?_update_self _ hTO' rfl, Nat.zero_add]
          simp [Obj.mapSeq]
    case last =>
      obtain ⟨rfl, h, a2, rfl, m, hz2, hs2, pre, hTO2⟩ := hb
      rw [List.length_zipIdx, List.length_map] at m pre
      have ea : a2 = vs.toArray := by
        refine Array.ext_getElem? fun i => ?_
        by_cases hlt : i < ps.length
        · rw [pre i hlt, List.getElem?_toArray]
        · rw [Array.getElem?_eq_none (by omega), List.getElem?_toArray, List.getElem?_eq_none (by omega)]
      subst ea
      show wpAny _ _ (seqItems? (.ref TO) >>= _) _ _ _
      refine wpAny_bind (wpAny_seqItems hTO2 rfl ?_)
      refine wpAny_bind (wpAny_newTuple ?_ (by show vs.length ≤ _; rw [sizeLine_eq]; omega))
      show wpAny _ _ (Builtin.SmallTypes.ownedTupleHandOut (.ref z) (.ref h.objs.size) >>= _) _ _ _
      refine wpAny_bind ?_
      unfold Builtin.SmallTypes.ownedTupleHandOut
      have hzp : (h.push (tObj vs.toArray)).get? z = some (zObj .ellipsis f1 TI TO) := Heap.get?_push_of_some _ hz2
      refine wpAny_bind (wpAny_setField_rec hzp (by simp) fun h3 hz3 hs3 => ?_)
      replace hz3 : h3.get? z = some (zObj (rawInt h.objs.size) f1 TI TO) := hz3
      refine wpAny_setField_rec hz3 (by simp) fun h4 hz4 hs4 => ?_
      replace hz4 : h4.get? z = some (zObj (rawInt h.objs.size) (.bool false) TI TO) := hz4
      have hzlt : z < h.objs.size := Heap.lt_size hz2
      have up : ∀ c o, c ≠ z → h.get? c = some o → h4.get? c = some o := fun c o c1 e =>
        (hs4.2 c c1).trans ((hs3.2 c c1).trans (Heap.get?_push_of_some _ e))
      refine wpAny_pure ⟨_, rfl, ?_⟩
      show Q (.ref h.objs.size) _
      have key := hQ h4 ⟨⟨_, _, hz4, .inr ⟨_, _, rfl⟩⟩, up _ _ D.tz (m.keep TI _ D.tz D.it nTI hTI), ⟨_, hs2, up _ _ D.oz hTO2⟩, fun p hp => ?_⟩ ?_ ?_ fun c o c1 c2 c3 e => up c o c1 (m.keep c o c1 c2 c3 e)
      · rw [m.size]
        exact key
      · obtain ⟨o, e, c⟩ := m.full p hp
        exact ⟨o, up _ _ (D.pz p hp).1 e, c⟩
      · rw [← m.size, hs4.2 _ (Nat.ne_of_gt hzlt), hs3.2 _ (Nat.ne_of_gt hzlt)]
        exact Heap.get?_push_size _ rfl
      · rw [hs4.1, hs3.1, Heap.size_push, m.size]
  · simp only [Bool.false_eq_true, if_false, List.forIn_toArray]
    have nTI : ∀ p ∈ ps, TI ≠ p.1 := fun p hp q => (D.pz p hp).2.1 q.symm
    refine wpAny_bind (thn (wp_forIn _ _ (fun j b s2 => b = (none, (vs.take j).toArray) ∧ ∃ (h : Heap), s2 = { s with heap := h } ∧ ZMid s.heap h z TO ps k j ∧
      h.get? z = some (zObj f0 f2 TI TO) ∧ h.get? TO = some (tObj arr)) ?step _ _ ?init) fun b s2 hb => ?last)
    case init => exact ⟨rfl, h1, rfl, m0 h1 hs1, hz1, (hs1.2 _ D.oz).trans hTO⟩
    case step =>
      rintro j x b s2 hx ⟨rfl, h, rfl, m, hz2, hTO2⟩
      rw [List.getElem?_map] at hx
      cases hp : ps[j]? with
      | none =>
        rw [hp] at hx
        cases hx
      | some p =>
        rw [hp] at hx
        obtain rfl : Value.ref p.1 = x := Option.some.inj hx
        obtain ⟨xs, hl, hxk⟩ := hi j p hp
        have hm : p ∈ ps := List.mem_of_getElem? hp
        have hj : j < ps.length := (List.getElem?_eq_some_iff.mp hp).1
        have hjv : vs[j]? = some (vs[j]'(by omega)) := List.getElem?_eq_getElem (by omega)
        refine wpAny_bind (wpAny_holding ?_)
        show wpAny _ _ (Builtin.SmallTypes.nextOf (.ref p.1) >>= _) _ _ _
        refine wpAny_bind (draw_one D m hp hl (hxk.trans hjv) fun h' m' hs' => wpAny_pure (wpAny_pure ⟨_, rfl, ?_, h', rfl, m', ?_, ?_⟩))
        · rw [List.take_add_one, hjv]
          simp
        · exact (hs'.2 z (D.pz p hm).1.symm).trans hz2
        · exact (hs'.2 _ (D.pz p hm).2.2.1.symm).trans hTO2
    case last =>
      obtain ⟨rfl, h, rfl, m, hz2, hTO2⟩ := hb
      rw [List.length_map] at m
      rw [List.length_map, List.take_of_length_le (by omega)]
      have hsz : vs.length ≤ sizeLine := by rw [sizeLine_eq]; omega
      show wpAny _ _ (newTuple vs.toArray.toList >>= _) _ _ _
      refine wpAny_bind (wpAny_newTuple ?_ (by simpa using hsz))
      refine wpAny_pure ⟨_, rfl, ?_⟩
      have up : ∀ c o, h.get? c = some o → (h.push (tObj vs.toArray)).get? c = some o := fun c o e => Heap.get?_push_of_some _ e
      have key := hQ (h.push (tObj vs.toArray)) ⟨⟨_, _, up _ _ hz2, hf0⟩, up _ _ (m.keep TI _ D.tz D.it nTI hTI), ⟨_, ha, up _ _ hTO2⟩, fun p hp => ?_⟩ ?_ ?_ fun c o c1 c2 c3 e => up c o (m.keep c o c1 c2 c3 e)
      · show Q (.ref h.objs.size) _
        rw [m.size]
        exact key
      · obtain ⟨o, e, c⟩ := m.full p hp
        exact ⟨o, up _ _ e, c⟩
      · rw [← m.size]
        exact Heap.get?_push_size _ rfl
      · rw [Heap.size_push, m.size]
end
end DD
namespace DD
open PySem PySem.Spec PyProof.Rows L2
section
variable {prog : Program} {w : World} {A : Around} {E : Value → Shared → Prop} {s : Shared} {z TI TO : Addr} {ps : List (Addr × Addr)} {k : Nat}
theorem zn_end {Q : Fin → Shared → Prop} (hh : A.handled = none) (D : ZApart z TI TO ps) (S : ZSt s.heap z TI TO ps k) {p : Addr × Addr} {r : List (Addr × Addr)} {xs : Array Value}
    (hps : ps = p :: r) (hl : s.heap.IsTuple p.2 xs) (hx : xs[k]? = none)
    (hE : ∀ h' e, (∀ c o, c ≠ z → c ≠ TO → (∀ p ∈ ps, c ≠ p.1) → s.heap.get? c = some o → h'.get? c = some o) →
      (∃ o, h'.get? e = some o ∧ o.cls = .type "StopIteration") → E (.ref e) { s with heap := h' }) :
    wpAny (model prog w) A (Builtin.«zip.__next__» ⟨[.ref z], []⟩) Q E s := by
  obtain ⟨⟨f0, f1, hz, hf0⟩, hTI, ⟨arr, ha, hTO⟩, hits⟩ := S
  have hm : p ∈ ps := by rw [hps]; exact List.mem_cons_self
  show wpAny _ _ (field (.ref z) 2 >>= _) _ _ _
  refine wpAny_bind (wpAny_field hz rfl (x := .bool false) rfl ?_)
  show wpAny _ _ (field (.ref z) 3 >>= _) _ _ _
  refine wpAny_bind (wpAny_field hz rfl (x := .ref TI) rfl ?_)
  refine wpAny_bind (wpAny_seqItems hTI rfl ?_)
  have hne : (ps.map fun p => Value.ref p.1).toArray.isEmpty = false := by
    rw [hps]
    rfl
  simp only [hne, Bool.false_eq_true, if_false]
  have it1 := hits p hm
  have kz : ∀ h1, Heap.SameBut z s.heap h1 → h1.IsTupleIter p.1 p.2 k ∧ h1.IsTuple p.2 xs := fun h1 hs1 =>
    ⟨by obtain ⟨o, e, c⟩ := it1; exact ⟨o, (hs1.2 _ (D.pz p hm).1).trans e, c⟩, by obtain ⟨o, e, c⟩ := hl; exact ⟨o, (hs1.2 _ (D.pz p hm).2.2.2.1).trans e, c⟩⟩
  refine wpAny_bind (wpAny_mono (free_or hz hf0) (fun b s' hb => ?_) fun _ _ e => e)
  rcases hb with ⟨rfl, rfl⟩ | ⟨rfl, h1, f2, rfl, hz1, hs1⟩
  · simp only [if_true]
    refine wpAny_bind (wpAny_rule ?_)
    refine wpAny_bind (wpAny_field hz rfl (x := .ref TO) rfl ?_)
    refine wpAny_bind (wpAny_setField_rec hz (by simp) fun h1 hz1 hs1 => ?_)
    replace hz1 : h1.get? z = some (zObj .ellipsis f1 TI TO) := hz1
    obtain ⟨q1, q2⟩ := kz h1 hs1
    refine wpAny_bind ?_
    simp only [hps, List.map_cons, List.zipIdx_cons, List.forIn_cons]
    refine wpAny_bind (wpAny_bind (wpAny_onRaise ?_))
    show wpAny _ _ (Builtin.SmallTypes.nextOf (.ref p.1) >>= _) _ _ _
    refine wpAny_bind (RZ.nextOf_tuple_end (s := { s' with heap := h1 }) hh q1 q2 hx fun h2 e hs2 he => ?_)
    obtain ⟨oe, hoe, hce⟩ := he
    have hz2 : h2.get? z = some (zObj .ellipsis f1 TI TO) := hs2 _ _ (D.pz p hm).1.symm hz1
    have hez : e ≠ z := fun x => by
      subst x
      rw [hz2] at hoe
      cases hoe
      simp at hce
    refine wpAny_setField_rec hz2 (by simp) fun h3 _ hs3 => hE h3 e (fun c o c1 _ c3 x => (hs3.2 _ c1).trans (hs2 _ _ (c3 p hm) ((hs1.2 _ c1).trans x))) ⟨oe, (hs3.2 _ hez).trans hoe, hce⟩
  · simp only [Bool.false_eq_true, if_false, List.forIn_toArray]
    obtain ⟨q1, q2⟩ := kz h1 hs1
    refine wpAny_bind ?_
    simp only [hps, List.map_cons, List.forIn_cons]
    refine wpAny_bind (wpAny_bind (wpAny_holding ?_))
    show wpAny _ _ (Builtin.SmallTypes.nextOf (.ref p.1) >>= _) _ _ _
    refine wpAny_bind (RZ.nextOf_tuple_end (s := { s with heap := h1 }) hh q1 q2 hx fun h2 e hs2 he => hE h2 e (fun c o c1 _ c3 x => hs2 _ _ (c3 p hm) ((hs1.2 _ c1).trans x)) he)

theorem pyNext_zn_item {vs : List Value} {Q : Option Value → Shared → Prop} (D : ZApart z TI TO ps) (hn : 1 ≤ ps.length) (hn2 : ps.length ≤ 1000) (S : ZSt s.heap z TI TO ps k)
    (hv : vs.length = ps.length) (hi : ∀ (j : Nat) (p : Addr × Addr), ps[j]? = some p → ∃ xs, s.heap.IsTuple p.2 xs ∧ xs[k]? = vs[j]?)
    (hQ : ∀ h', ZSt h' z TI TO ps (k + 1) → h'.get? s.heap.objs.size = some (tObj vs.toArray) → h'.objs.size = s.heap.objs.size + 1 →
      (∀ c o, c ≠ z → c ≠ TO → (∀ p ∈ ps, c ≠ p.1) → s.heap.get? c = some o → h'.get? c = some o) → Q (some (.ref s.heap.objs.size)) { s with heap := h' }) :
    wpAny (model prog w) A (pyNext (.ref z)) Q E s := by
  obtain ⟨f0, f1, hz, hf0⟩ := S.zz
  have hT : s.TypeIs (.ref z) "zip" := ⟨_, hz, rfl⟩
  unfold pyNext
  exact wpAny_bind (wpAny_attempt (wpAny_callSpecial?_slot (name := Str.ofString "__next__") hT F.slot_zip_next
    (wpAny_call_entry F.slot_zip_next hT F.entry_zip_next (zn_item D hn hn2 S hv hi fun h' a1 a2 a3 a4 => wpAny_pure (hQ h' a1 a2 a3 a4)) (F.args_zip_next_1 _))))
theorem pyNext_zn_end {Q : Option Value → Shared → Prop} (hh : A.handled = none) (D : ZApart z TI TO ps) (S : ZSt s.heap z TI TO ps k) {p : Addr × Addr} {r : List (Addr × Addr)} {xs : Array Value}
    (hps : ps = p :: r) (hl : s.heap.IsTuple p.2 xs) (hx : xs[k]? = none)
    (hQ : ∀ h', (∀ c o, c ≠ z → c ≠ TO → (∀ p ∈ ps, c ≠ p.1) → s.heap.get? c = some o → h'.get? c = some o) → Q none { s with heap := h' }) :
    wpAny (model prog w) A (pyNext (.ref z)) Q E s := by
  obtain ⟨f0, f1, hz, hf0⟩ := S.zz
  have hT : s.TypeIs (.ref z) "zip" := ⟨_, hz, rfl⟩
  unfold pyNext
  refine wpAny_bind (wpAny_attempt (wpAny_callSpecial?_slot (name := Str.ofString "__next__") hT F.slot_zip_next
    (wpAny_call_entry F.slot_zip_next hT F.entry_zip_next (zn_end hh D S hps hl hx fun h' e hk he => ?_) (F.args_zip_next_1 _))))
  obtain ⟨o, ho, hc⟩ := he
  exact wpAny_bind (wpAny_isInstance (T := "StopIteration") (b := true) ⟨o, ho, hc⟩ isSubtype_stop (wpAny_pure (hQ _ hk)))

/-! ### zip of one to four tuples made -/
theorem typeCall_zipN : ∀ vs : List Value, 1 ≤ vs.length → vs.length ≤ 4 → checkTypeCall "zip" ⟨vs, []⟩ = pure ()
  | [a], _, _ => by kernel_rfl
  | [a, b], _, _ => by kernel_rfl
  | [a, b, c], _, _ => by kernel_rfl
  | [a, b, c, d], _, _ => by kernel_rfl
  | [], h, _ => by simp at h
  | _ :: _ :: _ :: _ :: _ :: _, _, h => by simp at h
theorem newCall_zipN : ∀ vs : List Value, 1 ≤ vs.length → vs.length ≤ 4 → checkBuiltinCall "zip.__new__" ⟨.type "zip" :: vs, []⟩ = pure ()
  | [a], _, _ => by kernel_rfl
  | [a, b], _, _ => by kernel_rfl
  | [a, b, c], _, _ => by kernel_rfl
  | [a, b, c, d], _, _ => by kernel_rfl
  | [], h, _ => by simp at h
  | _ :: _ :: _ :: _ :: _ :: _, _, h => by simp at h
theorem args_object_initN (o : Value) : ∀ vs : List Value, 1 ≤ vs.length → vs.length ≤ 4 → argsOk "object.__init__" ⟨o :: vs, []⟩
  | [a], _, _ => by
    unfold argsOk
    rw [signature?_of (id := "object.__init__") (n := ['_', '_', 't', 'i', 'n', 'i', '_', '_']) (o := ['t', 'c', 'e', 'j', 'b', 'o']) (by kernel_rfl) F.owner_object]
    kernel_rfl
  | [a, b], _, _ => by
    unfold argsOk
    rw [signature?_of (id := "object.__init__") (n := ['_', '_', 't', 'i', 'n', 'i', '_', '_']) (o := ['t', 'c', 'e', 'j', 'b', 'o']) (by kernel_rfl) F.owner_object]
    kernel_rfl
  | [a, b, c], _, _ => by
    unfold argsOk
    rw [signature?_of (id := "object.__init__") (n := ['_', '_', 't', 'i', 'n', 'i', '_', '_']) (o := ['t', 'c', 'e', 'j', 'b', 'o']) (by kernel_rfl) F.owner_object]
    kernel_rfl
  | [a, b, c, d], _, _ => by
    unfold argsOk
    rw [signature?_of (id := "object.__init__") (n := ['_', '_', 't', 'i', 'n', 'i', '_', '_']) (o := ['t', 'c', 'e', 'j', 'b', 'o']) (by kernel_rfl) F.owner_object]
    kernel_rfl
  | [], h, _ => by simp at h
  | _ :: _ :: _ :: _ :: _ :: _, _, h => by simp at h

theorem iterAll_tups {ls : List Addr} {Q : List Value → Shared → Prop} (hl : ∀ l ∈ ls, ∃ xs, s.heap.IsTuple l xs)
    (hQ : ∀ h' its, its.length = ls.length → (∀ i, i < ls.length → its[i]? = some (.ref (s.heap.objs.size + i))) → h'.objs.size = s.heap.objs.size + ls.length →
      (∀ c o, s.heap.get? c = some o → h'.get? c = some o) → (∀ (i : Nat) (l : Addr), ls[i]? = some l → h'.IsTupleIter (s.heap.objs.size + i) l 0) → Q its { s with heap := h' }) :
    wpAny (model prog w) A (Builtin.SmallTypes.iterAll (ls.map Value.ref)) Q E s := by
  unfold Builtin.SmallTypes.iterAll
  refine wpAny_bind (thn (wp_forIn _ _ (fun j (b : Array Value) s2 => b.size = j ∧ (∀ i, i < j → b[i]? = some (.ref (s.heap.objs.size + i))) ∧ ∃ h, s2 = { s with heap := h } ∧ h.objs.size = s.heap.objs.size + j ∧
    (∀ c o, s.heap.get? c = some o → h.get? c = some o) ∧ ∀ (i : Nat) (l : Addr), i < j → ls[i]? = some l → h.IsTupleIter (s.heap.objs.size + i) l 0) ?step _ _ ?init) fun b s2 hb => ?last)
  case init => exact ⟨rfl, fun i hi => absurd hi (Nat.not_lt_zero _), s.heap, rfl, rfl, fun _ _ e => e, fun i _ hi => absurd hi (Nat.not_lt_zero _)⟩
  case step =>
    rintro j x b s2 hx ⟨hbs, hb, h, rfl, hsz, hk, hit⟩
    rw [List.getElem?_map] at hx
    cases hp : ls[j]? with
    | none =>
      rw [hp] at hx
      cases hx
    | some l =>
      rw [hp] at hx
      obtain rfl : Value.ref l = x := Option.some.inj hx
      obtain ⟨xs, ol, e, c⟩ := hl l (List.mem_of_getElem? hp)
      refine wpAny_bind (wpAny_holding (wpAny_pyIter_tuple (s := { s with heap := h }) ⟨ol, hk _ _ e, c⟩ ?_))
      refine wpAny_pure ⟨_, rfl, by rw [Array.size_push, hbs], fun i hij => ?_, _, rfl, by rw [Heap.size_push, hsz]; omega, fun c o e => Heap.get?_push_of_some _ (hk c o e), fun i l' hij hl' => ?_⟩
      · show (b.push (Value.ref h.objs.size))[i]? = _
        rw [Array.getElem?_push]
        by_cases e : i = b.size
        · rw [if_pos e, hsz, e, hbs]
        · rw [if_neg e]
          exact hb i (by omega)
      · by_cases e : i = j
        · subst e
          rw [hp] at hl'
          cases hl'
          refine ⟨{ cls := .type "tuple_iterator", data := .fields #[.ref l, .int 0 0] }, ?_, rfl, rfl⟩
          rw [← hsz]
          exact Heap.get?_push_size _ rfl
        · obtain ⟨o, e1, c⟩ := hit i l' (by omega) hl'
          exact ⟨o, Heap.get?_push_of_some _ e1, c⟩
  case last =>
    obtain ⟨hbs, hb, h, rfl, hsz, hk, hit⟩ := hb
    rw [List.length_map] at hbs hb hsz hit
    refine wpAny_pure (hQ h b.toList (by rw [Array.length_toList]; exact hbs) (fun i hi => by rw [Array.getElem?_toList]; exact hb i hi) hsz hk fun i l e => ?_)
    exact hit i l (List.getElem?_eq_some_iff.mp e).1 e

theorem zip_newN {ls : List Addr} {Q : Value → Shared → Prop} (h1 : 1 ≤ ls.length) (h2 : ls.length ≤ 4) (hl : ∀ l ∈ ls, ∃ xs, s.heap.IsTuple l xs)
    (hQ : ∀ h' n, n = s.heap.objs.size → ZSt h' (n + ls.length + 2) (n + ls.length) (n + ls.length + 1) (ls.zipIdx.map fun x => (n + x.2, x.1)) 0 → h'.objs.size = n + ls.length + 3 →
      (∀ c o, s.heap.get? c = some o → h'.get? c = some o) → Q (.ref (n + ls.length + 2)) { s with heap := h' }) :
    wpAny (model prog w) A (Builtin.«zip.__new__» ⟨.type "zip" :: ls.map Value.ref, []⟩) (fun fin s' => ∃ v, fin = .done (.ret v) ∧ Q v s') E s := by
  have hsub := sub_zip
  have hc : wpAny (model prog w) A (Builtin.SmallTypes.newClass "zip" ⟨.type "zip" :: ls.map Value.ref, []⟩) (fun r s' => r = (.type "zip", ls.map Value.ref) ∧ s' = s) E s := by
    unfold Builtin.SmallTypes.newClass
    wp_walk
    exact ⟨rfl, rfl⟩
  unfold Builtin.«zip.__new__»
  refine wpAny_bind (thn hc ?_)
  rintro _ _s ⟨rfl, rfl⟩
  show wpAny _ _ (Builtin.SmallTypes.iterAll (ls.map Value.ref) >>= _) _ _ _
  refine wpAny_bind (iterAll_tups hl fun h1' its hil hi hsz hk hit => ?_)
  have hsl : its.length ≤ sizeLine := by rw [hil, sizeLine_eq]; omega
  refine wpAny_bind (wpAny_newTuple ?_ hsl)
  refine wpAny_bind (wpAny_newTuple ?_ (by rw [List.length_map]; exact hsl))
  refine wpAny_bind ?_
  unfold Builtin.SmallTypes.newRecord
  refine wpAny_newObj_type ?_ (show (5 : Nat) ≤ sizeLine + 2 by rw [sizeLine_eq]; omega)
  refine wpAny_pure ⟨_, rfl, ?_⟩
  have z1 : (h1'.push (tObj its.toArray)).objs.size = h1'.objs.size + 1 := Heap.size_push ..
  have z2 : ((h1'.push (tObj its.toArray)).push (tObj (its.map fun _ => Value.none).toArray)).objs.size = h1'.objs.size + 2 := by rw [Heap.size_push, z1]
  have fin : Q (.ref ((h1'.push (tObj its.toArray)).push (tObj (its.map fun _ => Value.none).toArray)).objs.size)
      { _s with heap := ((h1'.push (tObj its.toArray)).push (tObj (its.map fun _ => Value.none).toArray)).push (zObj .none (.bool false) h1'.objs.size (h1'.push (tObj its.toArray)).objs.size) } := by
    rw [z2, z1, hsz]
    refine hQ _ _ rfl ⟨⟨.none, .bool false, ?_, .inl rfl⟩, ?_, ⟨(its.map fun _ => Value.none).toArray, ?_, ?_⟩, fun p hp => ?_⟩ ?_ fun c o e => Heap.get?_push_of_some _ (Heap.get?_push_of_some _ (Heap.get?_push_of_some _ (hk c o e)))
    · rw [← hsz, ← z2]
      exact Heap.get?_push_size _ rfl
    · have e : its = (ls.zipIdx.map fun x => (_s.heap.objs.size + x.2, x.1)).map fun p => Value.ref p.1 := by
        refine List.ext_getElem? fun i => ?_
        rw [List.map_map, List.getElem?_map, List.getElem?_zipIdx]
        by_cases hlt : i < ls.length
        · rw [hi i hlt, List.getElem?_eq_getElem hlt]
          simp
        · rw [List.getElem?_eq_none (by omega), List.getElem?_eq_none (by omega)]
          rfl
      rw [← e, ← hsz]
      exact Heap.get?_push_of_some _ (Heap.get?_push_of_some _ (Heap.get?_push_size _ rfl))
    · simp [hil]
    · rw [← hsz, ← z1]
      exact Heap.get?_push_of_some _ (Heap.get?_push_size _ rfl)
    · obtain ⟨x, hx, rfl⟩ := List.mem_map.mp hp
      obtain ⟨i, hxi⟩ := List.mem_iff_getElem?.mp hx
      rw [List.getElem?_zipIdx] at hxi
      cases hl' : ls[i]? with
      | none =>
        rw [hl'] at hxi
        cases hxi
      | some l =>
        rw [hl'] at hxi
        obtain rfl : (l, 0 + i) = x := Option.some.inj hxi
        obtain ⟨o, e, c⟩ := hit i l hl'
        refine ⟨o, ?_, c⟩
        show Heap.get? _ (_s.heap.objs.size + (0 + i)) = some o
        rw [Nat.zero_add]
        exact Heap.get?_push_of_some _ (Heap.get?_push_of_some _ (Heap.get?_push_of_some _ e))
    · rw [Heap.size_push, z2, hsz]
  exact fin
end
end DD
namespace DD
open PySem PySem.Spec PyProof.Rows L2

/-- the iterators that zip(*ls) makes at n -/
def zps (n : Nat) (ls : List Addr) : List (Addr × Addr) := ls.zipIdx.map fun x => (n + x.2, x.1)
theorem zps_length (n : Nat) (ls : List Addr) : (zps n ls).length = ls.length := by simp [zps]
theorem zps_get (n : Nat) (ls : List Addr) (j : Nat) : (zps n ls)[j]? = (ls[j]?).map fun a => (n + j, a) := by
  unfold zps
  rw [List.getElem?_map, List.getElem?_zipIdx]
  cases ls[j]? with
  | none => rfl
  | some a => simp
theorem zps_mem {n : Nat} {ls : List Addr} {p : Addr × Addr} (h : p ∈ zps n ls) : ∃ j, j < ls.length ∧ ls[j]? = some p.2 ∧ p.1 = n + j := by
  obtain ⟨j, hj⟩ := List.mem_iff_getElem?.mp h
  rw [zps_get] at hj
  cases e : ls[j]? with
  | none => rw [e] at hj; cases hj
  | some a =>
    rw [e] at hj
    obtain rfl : (n + j, a) = p := Option.some.inj hj
    exact ⟨j, (List.getElem?_eq_some_iff.mp e).1, e, rfl⟩
theorem nat5 {a b n j L : Nat} (h3 : b < n) (h4 : a = n + j) (hj : j < L) : a ≠ n + L + 2 ∧ a ≠ n + L ∧ a ≠ n + L + 1 ∧ b ≠ n + L + 2 ∧ b ≠ n + L + 1 := by omega
theorem nat6 {a b n i : Nat} (h3 : b < n) (h4 : a = n + i) : b ≠ a := by omega
theorem zapart {n : Nat} {ls : List Addr} (h : ∀ l ∈ ls, l < n) : ZApart (n + ls.length + 2) (n + ls.length) (n + ls.length + 1) (zps n ls) where
  tz := Nat.ne_of_lt (show (n : Nat) + ls.length < n + ls.length + 2 by omega)
  oz := Nat.ne_of_lt (show (n : Nat) + ls.length + 1 < n + ls.length + 2 by omega)
  it := Nat.ne_of_lt (show (n : Nat) + ls.length < n + ls.length + 1 by omega)
  nd := by
    have e : (zps n ls).map (·.1) = (List.range ls.length).map (n + ·) := by
      refine List.ext_getElem? fun i => ?_
      rw [List.getElem?_map, zps_get, List.getElem?_map]
      by_cases hi : i < ls.length
      · rw [List.getElem?_eq_getElem hi, List.getElem?_range hi]
        rfl
      · rw [List.getElem?_eq_none (by omega), List.getElem?_eq_none (by simp; omega)]
        rfl
    rw [e]
    exact List.Pairwise.map _ (fun a b h e => h (Nat.add_left_cancel e)) List.nodup_range
  pz := fun p hp => by
    obtain ⟨j, hj, e, ep⟩ := zps_mem hp
    exact nat5 (h p.2 (List.mem_of_getElem? e)) ep hj
  px := fun p hp q hq => by
    obtain ⟨j, hj, e, ep⟩ := zps_mem hp
    obtain ⟨i, hi, e2, ep2⟩ := zps_mem hq
    exact nat6 (h p.2 (List.mem_of_getElem? e)) ep2

section
variable {prog : Program} {w : World} {A : Around} {E : Value → Shared → Prop} {s : Shared}
theorem call_zipN {ls : List Addr} {Q : Value → Shared → Prop} (h1 : 1 ≤ ls.length) (h2 : ls.length ≤ 4) (hl : ∀ l ∈ ls, ∃ xs, s.heap.IsTuple l xs)
    (hQ : ∀ h' n, n = s.heap.objs.size → ZSt h' (n + ls.length + 2) (n + ls.length) (n + ls.length + 1) (zps n ls) 0 → h'.objs.size = n + ls.length + 3 →
      (∀ c o, s.heap.get? c = some o → h'.get? c = some o) → Q (.ref (n + ls.length + 2)) { s with heap := h' }) :
    wpAny (model prog w) A (call (.type "zip") (ls.map Value.ref)) Q E s := by
  have m : Meets (Builtin.«zip.__new__» ⟨.type "zip" :: ls.map Value.ref, []⟩) (fun _ R s => (∀ l ∈ ls, ∃ xs, s.heap.IsTuple l xs) ∧
      ∀ h' n, n = s.heap.objs.size → ZSt h' (n + ls.length + 2) (n + ls.length) (n + ls.length + 1) (zps n ls) 0 → h'.objs.size = n + ls.length + 3 →
        (∀ c o, s.heap.get? c = some o → h'.get? c = some o) → R (.ok (.ret (.ref (n + ls.length + 2)))) { s with heap := h' }) :=
    .of_wp fun prog w A R s h => zip_newN h1 h2 h.1 h.2
  refine callType_new F.called_zip (by decide) (typeCall_zipN _ (by simpa using h1) (by simpa using h2)) (newCall_zipN _ (by simpa using h1) (by simpa using h2))
    (fun obj => args_object_initN obj _ (by simpa using h1) (by simpa using h2)) F.entry_zip_new m ⟨hl, fun h' n e1 e2 e3 e4 => ?_⟩
  obtain ⟨f0, f1, hz, _⟩ := e2.zz
  exact ⟨⟨_, hz, rfl⟩, hQ h' n e1 e2 e3 e4⟩
theorem pyIter_zn {z TI TO : Addr} {ps : List (Addr × Addr)} {k : Nat} {Q : Value → Shared → Prop} (S : ZSt s.heap z TI TO ps k) (h : Q (.ref z) s) : wpAny (model prog w) A (pyIter (.ref z)) Q E s := by
  obtain ⟨f0, f1, hz, _⟩ := S.zz
  have hT : s.TypeIs (.ref z) "zip" := ⟨_, hz, rfl⟩
  refine wpAny_pyIter_slot hT F.slot_zip_iter (wpAny_call_entry F.slot_zip_iter hT F.entry_zip_iter ?_ (F.args_zip_iter_1 _))
  exact (show wpAny _ _ (ret (.ref z)) _ _ s from wpAny_pure ⟨_, rfl, "zip", _, hT, F.slot_zip_next.lookup, h⟩)
end

/-- the tuples at ls hold rows, all of length m -/
structure Rws (K : PySem.W.Frag) (H : Hp) (ls : List Addr) (rows : List (List V)) (m : Nat) : Prop where
  len : ls.length = rows.length
  at_ : ∀ (j : Nat) (a : Addr) (r : List V), ls[j]? = some a → rows[j]? = some r → SqT K H a r ∧ r.length = m
def colV (rows : List (List V)) (i : Nat) : List V := rows.map fun r => r.getD i .non
def ItzN (K : PySem.W.Frag) (ls : List Addr) (rows : List (List V)) (m : Nat) : It :=
  ⟨fun i H => i < m ∧ Rws K H ls rows m, fun i H v H' => ∃ T, v = .ref T ∧ H T = none ∧ H' = upd H T (.tup (colV rows i)), fun i H => i = m ∧ Rws K H ls rows m⟩

theorem Rws.vals {X : Cx} {pins : List (Addr × Obj)} {σ : L2.St} {H : Hp} {s : Shared} {m i : Nat} (I : Inv X pins σ H s) (hi : i < m) : ∀ {ls : List Addr} {rows : List (List V)}, Rws X.K H ls rows m →
    ∃ us : List Value, Vals (colV rows i) us ∧ ∀ (j : Nat) (a : Addr), ls[j]? = some a → ∃ xs, s.heap.IsTuple a xs ∧ xs[i]? = us[j]?
  | [], [], _ => ⟨[], .nil, fun j a e => by simp at e⟩
  | [], _ :: _, R => by have := R.len; simp at this
  | _ :: _, [], R => by have := R.len; simp at this
  | a :: ls, r :: rows, R => by
    obtain ⟨us, h1, h2⟩ := Rws.vals I hi (ls := ls) (rows := rows) ⟨by have := R.len; simpa using this, fun j a' r' e1 e2 => R.at_ (j + 1) a' r' e1 e2⟩
    obtain ⟨q, hl⟩ := R.at_ 0 a r rfl rfl
    obtain ⟨its, rv, p, _⟩ := I.tuple q
    have hr : r[i]? = some (r.getD i .non) := by
      rw [List.getD_eq_getElem?_getD, List.getElem?_eq_getElem (by omega)]
      rfl
    obtain ⟨u, hu, ru⟩ := rv.get hr
    obtain ⟨o, ho, hc, n, hd⟩ := p
    refine ⟨u :: us, .cons ru h1, fun j a' e => ?_⟩
    cases j with
    | zero =>
      obtain rfl : a = a' := Option.some.inj e
      exact ⟨its.toArray, ⟨o, ho, hc, n, hd⟩, by simpa using hu⟩
    | succ j => exact h2 j a' e

theorem turn_zn {P : Program} {w : World} {K : PySem.W.Frag} {x : Str} {xp : Pos} {n m : Nat} {ls : List Addr} {rows : List (List V)} (h1 : 1 ≤ ls.length) (h2 : ls.length ≤ 4) (hlt : ∀ l ∈ ls, l < n) :
    Turn P w K (.Name x xp) (ItzN K ls rows m) ((n + ls.length + 2) :: (n + ls.length) :: (n + ls.length + 1) :: (zps n ls).map (·.1)) (n + ls.length + 2)
      (fun i h => ZSt h (n + ls.length + 2) (n + ls.length) (n + ls.length + 1) (zps n ls) i) where
  mem := List.mem_cons_self
  obj := fun i h S b hb => by
    obtain ⟨⟨f0, f1, hz, _⟩, hTI, ⟨arr, _, hTO⟩, hits⟩ := S
    rcases List.mem_cons.mp hb with rfl | hb
    · exact ⟨_, hz, fun v q => nomatch q⟩
    rcases List.mem_cons.mp hb with rfl | hb
    · exact ⟨_, hTI, fun v q => nomatch q⟩
    rcases List.mem_cons.mp hb with rfl | hb
    · exact ⟨_, hTO, fun v q => nomatch q⟩
    obtain ⟨p, hp, rfl⟩ := List.mem_map.mp hb
    obtain ⟨o, e, _, d⟩ := hits p hp
    exact ⟨o, e, fun v q => by rw [d] at q; cases q⟩
  keep := fun i h h' S k => by
    obtain ⟨⟨f0, f1, hz, hf⟩, hTI, ⟨arr, ha, hTO⟩, hits⟩ := S
    refine ⟨⟨f0, f1, k _ (by simp) _ hz, hf⟩, k _ (by simp) _ hTI, ⟨arr, ha, k _ (by simp) _ hTO⟩, fun p hp => ?_⟩
    obtain ⟨o, e, c⟩ := hits p hp
    exact ⟨o, k _ (by
      refine List.mem_cons_of_mem _ (List.mem_cons_of_mem _ (List.mem_cons_of_mem _ ?_))
      exact List.mem_map_of_mem hp) _ e, c⟩
  item := by
    intro X hP hw hK hc i pins s σ H E I hf S hg
    subst hP hw hK
    obtain ⟨hi, R⟩ := hg
    obtain ⟨us, hv, hx⟩ := R.vals I hi
    have hul : us.length = ls.length := by rw [← hv.length, R.len]; simp [colV]
    have D := zapart hlt
    refine pyNext_zn_item D (by rw [zps_length]; exact h1) (by rw [zps_length]; omega) S (vs := us) (by rw [zps_length]; exact hul) (fun j p e => ?_) fun h' S' hT hsz hk => ?_
    · rw [zps_get] at e
      cases ea : ls[j]? with
      | none => rw [ea] at e; cases e
      | some a =>
        rw [ea] at e
        obtain rfl : (n + j, a) = p := Option.some.inj e
        exact hx j a ea
    · refine ⟨_, rfl, ?_⟩
      have hcl : (colV rows i).length ≤ sizeLine := by
        rw [hv.length, hul, sizeLine_eq]
        omega
      have new : ObjOk X.prog X.w (upd H s.heap.objs.size (.tup (colV rows i))) h' s.heap.objs.size (.tup (colV rows i)) := ⟨hcl, us, hv, ⟨_, hT, rfl, _, rfl⟩⟩
      have I1 : Inv X pins σ (upd H s.heap.objs.size (.tup (colV rows i))) { s with heap := h' } :=
        I.turnedNew (t' := s.toks) (fun c o hb q => hk c o (fun z => hb (by simp [z])) (fun z => hb (by simp [z])) (fun p hp z => hb (by
          refine List.mem_cons_of_mem _ (List.mem_cons_of_mem _ (List.mem_cons_of_mem _ ?_))
          rw [z]
          exact List.mem_map_of_mem hp)) q) hf (Nat.le_refl _) new
      show wpAny _ _ (pure ()) _ _ _
      refine wpAny_pure ⟨.ref s.heap.objs.size, _, I1, rfl, ⟨_, rfl, I.hok.fresh (Nat.le_refl _), rfl⟩, S', fun c hcm => ?_⟩
      obtain ⟨o, ho, _⟩ : ∃ o, s.heap.get? c = some o ∧ True := by
        obtain ⟨⟨f0, f1, hz, _⟩, hTI, ⟨arr, _, hTO⟩, hits⟩ := S
        rcases List.mem_cons.mp hcm with rfl | hcm
        · exact ⟨_, hz, trivial⟩
        rcases List.mem_cons.mp hcm with rfl | hcm
        · exact ⟨_, hTI, trivial⟩
        rcases List.mem_cons.mp hcm with rfl | hcm
        · exact ⟨_, hTO, trivial⟩
        obtain ⟨p, hp, rfl⟩ := List.mem_map.mp hcm
        obtain ⟨o, e, _⟩ := hits p hp
        exact ⟨o, e, trivial⟩
      rw [upd_ne (Nat.ne_of_lt (Heap.lt_size ho))]
      exact (hf c hcm).1
  done := by
    intro X hP hw hK hc i pins s σ H E I hf S hg
    subst hP hw hK
    obtain ⟨rfl, R⟩ := hg
    cases hls : ls with
    | nil => rw [hls] at h1; simp at h1
    | cons a r =>
      cases hrw : rows with
      | nil => have := R.len; rw [hls, hrw] at this; simp at this
      | cons q rr =>
        obtain ⟨hq, hl⟩ := R.at_ 0 a q (by rw [hls]; rfl) (by rw [hrw]; rfl)
        obtain ⟨its, rv, ⟨o, ho, hc', n', hd⟩, _⟩ := I.tuple hq
        have hps : zps n ls = (n, a) :: (zps n ls).tail := by
          rw [hls]
          simp [zps]
        rw [← hls]
        refine pyNext_zn_end (I.ok.hd hc) (zapart hlt) S hps (xs := its.toArray) ⟨o, ho, hc', n', hd⟩ ?_ fun h' hk => ⟨rfl, ?_⟩
        · have := rv.length
          rw [List.getElem?_toArray, List.getElem?_eq_none (by omega)]
        · exact I.turnedL (t' := s.toks) (fun c o hb q => hk c o (fun z => hb (by simp [z])) (fun z => hb (by simp [z])) (fun p hp z => hb (by
            refine List.mem_cons_of_mem _ (List.mem_cons_of_mem _ (List.mem_cons_of_mem _ ?_))
            rw [z]
            exact List.mem_map_of_mem hp)) q) hf
  self := fun A i s Q E S h => pyIter_zn S h

/-- for x in zip(*e), e a list or tuple of one to four tuples of one length -/
def iZipS (K : PySem.W.Frag) (te : TE) : TI := fun σ H R => te σ H fun y H1 => ∃ (a : Addr) (ls : List Addr) (rows : List (List V)) (m : Nat), y = .ref a ∧ (SqT K H1 a (ls.map V.ref) ∨ SqL K H1 a (ls.map V.ref)) ∧
  1 ≤ ls.length ∧ ls.length ≤ 4 ∧ Rws K H1 ls rows m ∧ R (ItzN K ls rows m) H1
theorem vals_refs : ∀ {ls : List Addr} {us : List Value}, Vals (ls.map V.ref) us → us = ls.map Value.ref
  | [], _, .nil => rfl
  | a :: ls, _, .cons r t => by
    cases r
    rw [vals_refs t]
    rfl
theorem pi_zipS {X : Cx} {e : Expr} {te : TE} {p pos spos xp : Pos} {x : Str} (hg : Gl X "zip") (hm : X.mg "zip" = none) (he : PE X e te)
    (hst : starEach [.Starred e spos] X.env = [(true, eval e X.env)] := by rfl) :
    PI X (.Name x xp) (.Call (.Name "zip" p) [.Starred e spos] [] pos) (iZipS X.K te) := by
  refine ⟨fun pins s σ H R I h => ?_⟩
  refine wpAny_Call_Name_kw (ld_blt I hg hm PyProof.Rows.boot_zip ?_)
  rw [hst]
  refine PySem.W.ks_call (P := fun _ => True) rfl (fun h _ => ⟨.machine, .inr (.inl rfl), fun A Q E s _ q => wpAny_pure q⟩) (PySem.W.ks_lone ?_)
  refine thn (he.run pins s σ H _ I h) fun v s1 ⟨y, H1, I1, ry, a, ls, rows, m, ey, hx, h1, h2, Rw, q⟩ => ?_
  subst ey
  obtain rfl : v = Value.ref a := ry
  refine StX.star_any I1 hx fun us s2 I2 rv => ⟨trivial, ?_⟩
  obtain rfl := vals_refs rv
  have tup : ∀ l ∈ ls, ∃ xs, s2.heap.IsTuple l xs := fun l hl => by
    obtain ⟨j, hj⟩ := List.mem_iff_getElem?.mp hl
    have hjl := (List.getElem?_eq_some_iff.mp hj).1
    have hjr : rows[j]? = some (rows[j]'(by have := Rw.len; omega)) := List.getElem?_eq_getElem (by have := Rw.len; omega)
    obtain ⟨its, _, ⟨o, ho, hc, n, hd⟩, _⟩ := I2.tuple (Rw.at_ j l _ hj hjr).1
    exact ⟨its.toArray, o, ho, hc, n, hd⟩
  refine call_zipN h1 h2 tup fun h' n en S hsz hk => ?_
  have I3 : Inv X pins σ H1 { s2 with heap := h' } := I2.kept (t' := s2.toks) hk
  have hlt : ∀ l ∈ ls, l < n := fun l hl => by
    obtain ⟨xs, o, ho, _⟩ := tup l hl
    rw [en]
    exact Heap.lt_size ho
  refine pyIter_zn (s := { s2 with heap := h' }) S ⟨n + ls.length + 2, _, _, _, H1, rfl, I3, turn_zn h1 h2 hlt, S, fun b hb => ?_, q⟩
  have hle : s2.heap.objs.size ≤ b := by
    rw [← en]
    rcases List.mem_cons.mp hb with rfl | hb
    · omega
    rcases List.mem_cons.mp hb with rfl | hb
    · omega
    rcases List.mem_cons.mp hb with rfl | hb
    · omega
    obtain ⟨p, hp, rfl⟩ := List.mem_map.mp hb
    obtain ⟨j, _, _, e⟩ := zps_mem hp
    exact Nat.le_trans (Nat.le_add_right n j) (Nat.le_of_eq e.symm)
  have F := I2.fpOk hle (I2.hok.fresh hle)
  exact F
end DD
namespace DD
open PySem PySem.Spec PyProof.Rows L2
theorem draws_tup {prog : Program} {w : World} {A : Around} (hh : A.handled = none) (it t : Addr) (items : Array Value) (hne : t ≠ it) :
    Draws prog w A it [it, t] items.size (fun i v => items[i]? = some v) (fun i h => h.IsTupleIter it t i ∧ h.IsTuple t items) where
  live := fun i h S => by
    obtain ⟨⟨o, e, _⟩, _⟩ := S
    exact ⟨o, e⟩
  frame := fun i h h' S k => by
    obtain ⟨⟨o, e, c⟩, ⟨o2, e2, c2⟩⟩ := S
    exact ⟨⟨o, k it (by simp) o e, c⟩, ⟨o2, k t (by simp) o2 e2, c2⟩⟩
  item := fun i s Q E hi S hQ => by
    obtain ⟨S1, S2⟩ := S
    refine RZ.nextOf_tuple_item S1 S2 (x := items[i]) (by simp [hi]) fun h' hit hs => hQ _ h' s.toks (by simp [hi]) ⟨hit, ?_⟩ hs
    obtain ⟨o, e, c⟩ := S2
    exact ⟨o, (hs.2 _ hne).trans e, c⟩
  done := fun s Q E S hE => by
    obtain ⟨S1, S2⟩ := S
    exact RZ.nextOf_tuple_end hh S1 S2 (by simp) hE
theorem meets_enum_newT (l : Addr) (items : Array Value) : Meets (Builtin.«enumerate.__new__» ⟨[.type "enumerate", .ref l], []⟩) (fun _ R s => s.heap.IsTuple l items ∧
      R (.ok (.ret (.ref (s.heap.push { cls := .type "tuple_iterator", data := .fields #[.ref l, .int 0 0] }).objs.size)))
        { s with heap := (s.heap.push { cls := .type "tuple_iterator", data := .fields #[.ref l, .int 0 0] }).push { cls := .type "enumerate", data := .fields #[.none, .bool false, .ref s.heap.objs.size, rawInt 0, .none, .none] } }) :=
  .of_wp fun prog w A R s h => by
    obtain ⟨hp, g, d, tk, os⟩ := s
    obtain ⟨hT, h⟩ := h
    obtain ⟨oL, hoL, hcL, nL, hdL⟩ := id hT
    have hsub := sub_enumerate
    have hT' : Heap.IsTuple (Shared.heap ⟨hp, g, d, tk, os⟩) l items := hT
    wp_walk
    refine wpAny_stack_any fun st => wpAny_pure ?_
    split
    · rename_i c _ _ _ _ _
      cases (c == Value.type "enumerate")
      · wp_walk using wpAny_pyIter_tuple hT'
        exact ⟨_, rfl, h⟩
      · wp_walk using wpAny_pyIter_tuple hT'
        exact ⟨_, rfl, h⟩
    · wp_walk using wpAny_pyIter_tuple hT'
      exact ⟨_, rfl, h⟩
section
variable {prog : Program} {w : World} {A : Around} {E : Value → Shared → Prop} {s : Shared}
theorem call_enumT {l : Addr} {items : Array Value} {Q : Value → Shared → Prop} (hT : s.heap.IsTuple l items)
    (h : ∀ h', IsEnum h' (s.heap.objs.size + 1) s.heap.objs.size 0 .none → h'.IsTupleIter s.heap.objs.size l 0 →
      (∀ b o, s.heap.get? b = some o → h'.get? b = some o) → Q (.ref (s.heap.objs.size + 1)) { s with heap := h' }) :
    wpAny (model prog w) A (call (.type "enumerate") [.ref l]) Q E s := by
  refine callType_new F.called_enumerate (by decide) (F.typeCall_enumerate_1 _) (F.newCall_enumerate_1 _) (fun obj => F.args_object_init_2 obj _) F.entry_enumerate_new
    (meets_enum_newT l items) ⟨hT, ?_⟩
  have hz : (s.heap.push { cls := .type "tuple_iterator", data := .fields #[.ref l, .int 0 0] }).objs.size = s.heap.objs.size + 1 := Heap.size_push ..
  have he : IsEnum ((s.heap.push { cls := .type "tuple_iterator", data := .fields #[.ref l, .int 0 0] }).push
      { cls := .type "enumerate", data := .fields #[.none, .bool false, .ref s.heap.objs.size, rawInt 0, .none, .none] }) (s.heap.objs.size + 1) s.heap.objs.size 0 .none := by
    have q := Heap.get?_push_size (s.heap.push { cls := .type "tuple_iterator", data := .fields #[.ref l, .int 0 0] })
      (o := { cls := .type "enumerate", data := .fields #[.none, .bool false, .ref s.heap.objs.size, rawInt 0, .none, .none] }) rfl
    rw [hz] at q
    exact q
  show _ ∧ _
  rw [hz]
  exact ⟨⟨_, he, rfl⟩, h _ he ⟨_, Heap.get?_push_of_some _ (Heap.get?_push_size _ rfl), rfl, rfl⟩ fun b o x => Heap.get?_push_of_some _ (Heap.get?_push_of_some _ x)⟩
end

/-- the tuple at a, its items in new pairs, counted from c -/
def ItEnT (K : PySem.W.Frag) (a : Addr) (c : Int) : It :=
  ⟨fun i H => ∃ (xs : List V) (x : V), SqT K H a xs ∧ xs[i]? = some x,
    fun i H v H' => ∃ T x, v = .ref T ∧ H T = none ∧ H' = upd H T (.tup [.int (c + (i : Nat)), x]) ∧ ∀ xs, SqT K H a xs → xs[i]? = some x,
    fun i H => ∃ xs : List V, SqT K H a xs ∧ xs.length ≤ i⟩
theorem turn_enT {P : Program} {w : World} {K : PySem.W.Frag} {elts : List Expr} {kk : Nat} {tpos : Pos} (a e it : Addr) (c : Int) :
    Turn P w K (.Tuple elts kk tpos) (ItEnT K a c) [e, it] e (fun i h => (∃ old, IsEnum h e it (c + ((i : Nat) : Int)) old) ∧ h.IsTupleIter it a i ∧ e ≠ it) where
  mem := by simp
  obj := fun i h S b hb => by
    obtain ⟨⟨old, he⟩, ⟨o, ho, hc, hd⟩, _⟩ := S
    rcases List.mem_cons.mp hb with rfl | hb
    · exact ⟨_, he, fun v q => nomatch q⟩
    · rw [List.mem_singleton.mp hb]
      exact ⟨o, ho, fun v q => by rw [hd] at q; cases q⟩
  keep := fun i h h' S k => by
    obtain ⟨⟨old, he⟩, ⟨o, ho, r⟩, hne⟩ := S
    exact ⟨⟨old, k e (by simp) _ he⟩, ⟨o, k it (by simp) _ ho, r⟩, hne⟩
  item := by
    intro X hP hw hK hcalm i pins s σ H E I hf S hg
    subst hP hw hK
    obtain ⟨⟨old, he⟩, hit, hne⟩ := S
    obtain ⟨xs, x, hq, hx⟩ := hg
    obtain ⟨its, rv, ⟨oa, hoa, hca, na, hda⟩, _⟩ := I.tuple hq
    obtain ⟨u, hu, ru⟩ := rv.get hx
    obtain ⟨oi, hoi, hci, hdi⟩ := id hit
    have hai : a ≠ it := fun z => by
      rw [z, hoi] at hoa
      cases hoa
      rw [hca] at hci
      simp at hci
    have hea : e ≠ a := fun z => by
      have he2 := he
      unfold IsEnum at he2
      rw [z, hoa] at he2
      cases he2
      simp at hca
    have hef : e ∉ [it, a] := fun z => by
      rcases List.mem_cons.mp z with z | z
      · exact hne z
      · exact hea (List.mem_singleton.mp z)
    have hel : e < s.heap.objs.size := Heap.lt_size he
    have hil : it < s.heap.objs.size := Heap.lt_size hoi
    have D := draws_tup (prog := X.prog) (w := X.w) (A := X.A.in1) (I.ok.hd hcalm) it a its.toArray hai
    have hlt : i < its.toArray.size := by
      have := (List.getElem?_eq_some_iff.mp hu).1
      simpa using this
    refine wpAny_pyNext_enum_itemC D he ⟨hit, ⟨oa, hoa, hca, na, hda⟩⟩ hlt hne hef fun y h' tk hy ho hit' hT hsz hk => ?_
    obtain rfl : u = y := by
      have : its.toArray[i]? = some u := by simpa using hu
      rw [this] at hy
      exact Option.some.inj hy
    refine ⟨_, rfl, wpAny_letOwnedTupleGo_enum (s := { s with heap := h', toks := tk + 1 }) ho fun h'' he' sb => ?_⟩
    have hT2 : h''.get? s.heap.objs.size = some { cls := .type "tuple", data := .seq #[.int (c + (i : Nat)) tk, u] } := (sb.2 _ (Nat.ne_of_gt hel)).trans hT
    have new : ObjOk X.prog X.w (upd H s.heap.objs.size (.tup [.int (c + (i : Nat)), x])) h'' s.heap.objs.size (.tup [.int (c + (i : Nat)), x]) :=
      ⟨by show 2 ≤ sizeLine; decide, [.int (c + (i : Nat)) tk, u], .cons ⟨_, rfl⟩ (.cons ru .nil), ⟨_, hT2, rfl, _, rfl⟩⟩
    have I1 : Inv X pins σ (upd H s.heap.objs.size (.tup [.int (c + (i : Nat)), x])) { s with heap := h'', toks := tk + 1 } :=
      I.turnedNew (ch := [e, it]) (fun b ob hb q => (sb.2 b (fun z => hb (by simp [z]))).trans (hk b ob (fun z => hb (by simp [z])) (fun z => hb (by simp [z])) q)) hf (Nat.le_refl _) new
    obtain ⟨oi', hoi', r'⟩ := hit'.1
    refine ⟨.ref s.heap.objs.size, _, I1, rfl, ⟨_, x, rfl, I.hok.fresh (Nat.le_refl _), rfl, fun ys hy => by rw [I.tuple_inj hy hq]; exact hx⟩, ⟨⟨u, ?_⟩, ⟨oi', (sb.2 it (Ne.symm hne)).trans hoi', r'⟩, hne⟩, fun b hb => ?_⟩
    · have e1 : c + ((i + 1 : Nat) : Int) = c + (i : Int) + 1 := by omega
      rw [e1]
      exact he'
    · have hb' : b < s.heap.objs.size := by
        rcases List.mem_cons.mp hb with z | hb
        · rw [z]
          exact hel
        · rw [List.mem_singleton.mp hb]
          exact hil
      rw [upd_ne (Nat.ne_of_lt hb')]
      exact (hf b hb).1
  done := by
    intro X hP hw hK hcalm i pins s σ H E I hf S hg
    subst hP hw hK
    obtain ⟨⟨old, he⟩, hit, hne⟩ := S
    obtain ⟨xs, hq, hx⟩ := hg
    obtain ⟨its, rv, ⟨oa, hoa, hca, na, hda⟩, _⟩ := I.tuple hq
    obtain ⟨oi, hoi, hci, hdi⟩ := id hit
    have hl := rv.length
    obtain ⟨f0, f1, f2, f3, f4, f5⟩ := hf it (by simp)
    have hT : s.TypeIs (.ref e) "enumerate" := ⟨_, he, rfl⟩
    unfold pyNext
    refine wpAny_bind (wpAny_attempt (wpAny_callSpecial?_slot (name := Str.ofString "__next__") hT F.slot_enumerate_next
      (wpAny_call_entry F.slot_enumerate_next hT F.entry_enumerate_next ?_ (F.args_enumerate_next_1 _))))
    show wpAny _ _ (field (.ref e) 2 >>= _) _ _ _
    refine wpAny_bind (wpAny_field he rfl (x := .ref it) rfl ?_)
    refine wpAny_bind (RZ.nextOf_tuple_end (I.ok.hd hcalm) hit (show s.heap.IsTuple a its.toArray from ⟨oa, hoa, hca, na, hda⟩) (by simp; omega) fun h' y hy1 hy2 => ?_)
    obtain ⟨o, ho, hc⟩ := hy2
    exact wpAny_bind (wpAny_isInstance (T := "StopIteration") (b := true) ⟨o, ho, hc⟩ isSubtype_stop (wpAny_pure ⟨rfl, I.turned (t' := s.toks) (fun b o hb q => hy1 b o hb q) f0 f1 f3 f4 f5⟩))
  self := fun A i s Q E S h => by
    obtain ⟨⟨_, he⟩, _⟩ := S
    exact wpAny_pyIter_enum he h
def iEnumT (K : PySem.W.Frag) (ta : TA) : TI := fun σ H R => ta σ H fun vs H1 => ∃ a xs, vs = [.ref a] ∧ SqT K H1 a xs ∧ R (ItEnT K a 0) H1
theorem pi_enumT {X : Cx} {e : Expr} {ta : TA} {p pos tpos : Pos} {elts : List Expr} {kk : Nat} (hg : Gl X "enumerate") (hm : X.mg "enumerate" = none) (ha : PA X [e] ta)
    (hs : starEach [e] X.env = [(false, eval e X.env)] := by rfl) : PI X (.Tuple elts kk tpos) (.Call (.Name "enumerate" p) [e] [] pos) (iEnumT X.K ta) := by
  refine ⟨fun pins s σ H R I h => Call_ (ld_blt I hg hm boot_enumerate (PyProof.Rows.callWith_type1 (thn (ha.run pos pins s σ H _ I h) fun us s1 ⟨vs, H1, I1, r1, q1⟩ => ?_) hs rfl))⟩
  obtain ⟨a, xs, ex, hq, q⟩ := q1
  subst ex
  obtain ⟨u, rfl, ru⟩ := vals1 r1
  cases ru
  obtain ⟨its, rv, ⟨oa, hoa, hca, na, hda⟩, _⟩ := I1.tuple hq
  refine call_enumT (items := its.toArray) ⟨oa, hoa, hca, na, hda⟩ fun h' he hit hk => wpAny_pyIter_enum he ?_
  have I2 : Inv X pins σ H1 { s1 with heap := h' } := I1.kept (t' := s1.toks) hk
  refine ⟨s1.heap.objs.size + 1, [s1.heap.objs.size + 1, s1.heap.objs.size], _, _, H1, rfl, I2, turn_enT a (s1.heap.objs.size + 1) s1.heap.objs.size 0, ⟨⟨.none, he⟩, hit, Nat.succ_ne_self _⟩, fun b hb => ?_, q⟩
  have hle : s1.heap.objs.size ≤ b := by
    rcases List.mem_cons.mp hb with z | hb
    · rw [z]
      exact Nat.le_succ _
    · exact Nat.le_of_eq (List.mem_singleton.mp hb).symm
  exact I1.fpOk hle (I1.hok.fresh hle)
/-- a loop over enumerate(t) -/
theorem for_enT {K : PySem.W.Frag} {a : Addr} {xs : List V} {c : Int} {g : TG} {tb : TS} {D : Ends} {σ : L2.St} {H : Hp} (Pv : Nat → L2.St → Hp → Prop) (h0 : Pv 0 σ H) (hq : ∀ i σ H, i ≤ xs.length → Pv i σ H → SqT K H a xs)
    (hs : ∀ (i : Nat) (x : V) (T : Addr) (σ : L2.St) (H : Hp), xs[i]? = some x → Pv i σ H → H T = none →
      g (.ref T) σ (upd H T (.tup [.int (c + (i : Nat)), x])) fun σ2 H2 => tb { D with nx := Pv (i + 1), ct := Pv (i + 1), bk := D.nx } σ2 H2) (hd : ∀ σ H, Pv xs.length σ H → D.nx σ H) :
    ∃ W : Nat → Nat → L2.St → Hp → Prop, (∃ m, W 0 m σ H) ∧ ∀ i m σ H, W i m σ H → ((ItEnT K a c).stop i H ∧ D.nx σ H) ∨ ((ItEnT K a c).go i H ∧
      ∃ N : L2.St → Hp → Prop, (∀ σ' H', N σ' H' → ∃ m', m' < m ∧ W (i + 1) m' σ' H') ∧ ∀ v H', (ItEnT K a c).yld i H v H' →
        g v σ H' fun σ2 H2 => tb { D with nx := N, ct := N, bk := D.nx } σ2 H2) := by
  refine ⟨fun i m σ H => m = xs.length - i ∧ i ≤ xs.length ∧ Pv i σ H, ⟨xs.length, rfl, Nat.zero_le _, h0⟩, ?_⟩
  rintro i _ σ H ⟨rfl, hi, p⟩
  have q := hq i σ H hi p
  by_cases hlt : i < xs.length
  · have hx : xs[i]? = some xs[i] := List.getElem?_eq_getElem hlt
    refine .inr ⟨⟨xs, _, q, hx⟩, Pv (i + 1), fun σ' H' p' => ⟨xs.length - (i + 1), by omega, rfl, hlt, p'⟩, fun v H' y => ?_⟩
    obtain ⟨T, x', rfl, nT, rfl, f1⟩ := y
    exact hs i x' T σ H (f1 xs q) p nT
  · obtain rfl : i = xs.length := by omega
    exact .inl ⟨⟨xs, q, Nat.le_refl _⟩, hd σ H p⟩
end DD
namespace DD
open PySem PySem.Spec PyProof.Rows L2

/-! ### max and min of a tuple of ints -/
section
variable {prog : Program} {w : World} {A : Around} {E : Value → Shared → Prop} {s : Shared} {l : Addr} {xs : Array (Int × Tok)}
theorem max_intTup {Q : Value → Shared → Prop} (hh : A.handled = none) (hl : s.heap.IsTuple l (intItems xs)) (hne : 0 < xs.size)
    (h : ∀ v h' tk, (intItems xs)[argBest (fun i j => decide (numAt xs i > numAt xs j)) (xs.size - 1)]? = some v → (∀ b o, s.heap.get? b = some o → h'.get? b = some o) → Q v { s with heap := h', toks := tk }) :
    wpAny (model prog w) A (call (.builtin "max") [.ref l]) Q E s := by
  have hlt : l < s.heap.objs.size := by obtain ⟨_, e, _⟩ := hl; exact Heap.lt_size e
  refine call_max_walk (wpAny_pyIter_tuple hl ?_)
  refine ⟨_, _, _, _, _, _, _, rfl, Walks.tuple (A := A.in1) hh _ l (Nat.ne_of_lt hlt) (intItems xs), ⟨⟨_, Heap.get?_push_size _ rfl, rfl, rfl⟩, hl.push _⟩, fun b hb => ?_, by simpa [intItems] using hne, CmpOf.ints_gt (numAt xs) (fun _ _ => intItems_at), fun v h' tk hP hk => ?_⟩
  · show b < (s.heap.push _).objs.size
    rw [Heap.size_push]
    rcases List.mem_cons.mp hb with rfl | hb
    · exact Nat.lt_succ_self _
    · rcases List.mem_cons.mp hb with rfl | hb
      · exact Nat.lt_succ_of_lt hlt
      · cases hb
  · refine h v h' tk (by simpa [intItems] using hP) fun b o e => hk b o (fun hm => ?_) (Heap.get?_push_of_some _ e)
    rcases List.mem_cons.mp hm with e1 | hm
    · exact absurd (e1 ▸ Heap.lt_size e) (Nat.lt_irrefl _)
    · cases hm
theorem min_intTup {Q : Value → Shared → Prop} (hh : A.handled = none) (hl : s.heap.IsTuple l (intItems xs)) (hne : 0 < xs.size)
    (h : ∀ v h' tk, (intItems xs)[argBest (fun i j => decide (numAt xs i < numAt xs j)) (xs.size - 1)]? = some v → (∀ b o, s.heap.get? b = some o → h'.get? b = some o) → Q v { s with heap := h', toks := tk }) :
    wpAny (model prog w) A (call (.builtin "min") [.ref l]) Q E s := by
  have hlt : l < s.heap.objs.size := by obtain ⟨_, e, _⟩ := hl; exact Heap.lt_size e
  refine call_min_walk (wpAny_pyIter_tuple hl ?_)
  refine ⟨_, _, _, _, _, _, _, rfl, Walks.tuple (A := A.in1) hh _ l (Nat.ne_of_lt hlt) (intItems xs), ⟨⟨_, Heap.get?_push_size _ rfl, rfl, rfl⟩, hl.push _⟩, fun b hb => ?_, by simpa [intItems] using hne, CmpOf.ints_lt (numAt xs) (fun _ _ => intItems_at), fun v h' tk hP hk => ?_⟩
  · show b < (s.heap.push _).objs.size
    rw [Heap.size_push]
    rcases List.mem_cons.mp hb with rfl | hb
    · exact Nat.lt_succ_self _
    · rcases List.mem_cons.mp hb with rfl | hb
      · exact Nat.lt_succ_of_lt hlt
      · cases hb
  · refine h v h' tk (by simpa [intItems] using hP) fun b o e => hk b o (fun hm => ?_) (Heap.get?_push_of_some _ e)
    rcases List.mem_cons.mp hm with e1 | hm
    · exact absurd (e1 ▸ Heap.lt_size e) (Nat.lt_irrefl _)
    · cases hm
end
theorem ints_of_valsT : ∀ {ns : List Int} {us : List Value}, Vals (ns.map V.int) us → PyProof.Rows.IntsAre us ns
  | [], _, h => by
    cases h
    exact .nil
  | n :: ns, _, h => by
    cases h with
    | cons r t =>
      obtain ⟨k, rfl⟩ := r
      exact .cons n k (ints_of_valsT t)
def rMaxT (K : PySem.W.Frag) : List V → Hp → VK → Prop := fun vs H Q => ∃ (a : Addr) (ns : List Int), vs = [V.ref a] ∧ SqT K H a (ns.map V.int) ∧ 0 < ns.length ∧ ∀ m, m ∈ ns → (∀ y, y ∈ ns → y ≤ m) → Q (.int m) H
def rMinT (K : PySem.W.Frag) : List V → Hp → VK → Prop := fun vs H Q => ∃ (a : Addr) (ns : List Int), vs = [V.ref a] ∧ SqT K H a (ns.map V.int) ∧ 0 < ns.length ∧ ∀ m, m ∈ ns → (∀ y, y ∈ ns → m ≤ y) → Q (.int m) H
theorem cr_maxT {X : Cx} (hc : X.calm = true) : CallR X (.builtin "max") (rMaxT X.K) := by
  intro pins s σ H vs us Q I r h
  obtain ⟨a, ns, rfl, hq, hne, q⟩ := h
  obtain ⟨u, rfl, ru⟩ := vals1 r
  cases ru
  obtain ⟨its, rv, ⟨o, ho, hcl, n, hd⟩, _⟩ := I.tuple hq
  have ia := ints_of_valsT rv
  obtain ⟨xs, e⟩ := ia.allInts.items
  have hn : numsOf (intItems xs).toList = ns := by rw [← e]; exact ia.numsOf
  rw [nums_intItems] at hn
  have ht : s.heap.IsTuple a (intItems xs) := by rw [← e]; exact ⟨o, ho, hcl, n, hd⟩
  subst hn
  have hsz : 0 < xs.size := by simpa using hne
  refine max_intTup (I.ok.hd hc) ht hsz fun v h' tk hv hk => ?_
  obtain ⟨t, rfl⟩ := intItems_at hv
  obtain ⟨h1, h2⟩ := argBest_gt (numAt xs) (xs.size - 1)
  refine ⟨.int _, H, I.kept hk, ⟨_, rfl⟩, q _ ?_ fun a ha => ?_⟩
  · rw [numAt_eq]; exact PySem.getD_mem (by rw [List.length_map, Array.length_toList]; omega)
  · obtain ⟨j, hj, rfl⟩ := mem_getD ha
    rw [List.length_map, Array.length_toList] at hj
    rw [← numAt_eq]; exact h2 j (by omega)
theorem cr_minT {X : Cx} (hc : X.calm = true) : CallR X (.builtin "min") (rMinT X.K) := by
  intro pins s σ H vs us Q I r h
  obtain ⟨a, ns, rfl, hq, hne, q⟩ := h
  obtain ⟨u, rfl, ru⟩ := vals1 r
  cases ru
  obtain ⟨its, rv, ⟨o, ho, hcl, n, hd⟩, _⟩ := I.tuple hq
  have ia := ints_of_valsT rv
  obtain ⟨xs, e⟩ := ia.allInts.items
  have hn : numsOf (intItems xs).toList = ns := by rw [← e]; exact ia.numsOf
  rw [nums_intItems] at hn
  have ht : s.heap.IsTuple a (intItems xs) := by rw [← e]; exact ⟨o, ho, hcl, n, hd⟩
  subst hn
  have hsz : 0 < xs.size := by simpa using hne
  refine min_intTup (I.ok.hd hc) ht hsz fun v h' tk hv hk => ?_
  obtain ⟨t, rfl⟩ := intItems_at hv
  obtain ⟨h1, h2⟩ := argBest_lt (numAt xs) (xs.size - 1)
  refine ⟨.int _, H, I.kept hk, ⟨_, rfl⟩, q _ ?_ fun a ha => ?_⟩
  · rw [numAt_eq]; exact PySem.getD_mem (by rw [List.length_map, Array.length_toList]; omega)
  · obtain ⟨j, hj, rfl⟩ := mem_getD ha
    rw [List.length_map, Array.length_toList] at hj
    rw [← numAt_eq]; exact h2 j (by omega)
end DD
namespace DD
open PySem PySem.Spec PyProof.Rows L2 RZ

/-! ### for x in zip(a, b), two tuples of one length, the pair taken whole -/
def iZipP (K : PySem.W.Frag) (ta : TA) : TI := fun σ H R => ta σ H fun vs H1 => ∃ (a b : Addr) (xs ys : List V), vs = [.ref a, .ref b] ∧ SqT K H1 a xs ∧ SqT K H1 b ys ∧ xs.length = ys.length ∧ R (ItzN K [a, b] [xs, ys] xs.length) H1
theorem pi_zipP {X : Cx} {e e2 : Expr} {ta : TA} {p pos xp : Pos} {x : Str} (hg : Gl X "zip") (hm : X.mg "zip" = none) (ha : PA X [e, e2] ta)
    (hs : starEach [e, e2] X.env = (false, eval e X.env) :: starEach [e2] X.env := by rfl) (hpl : (backTo pos (starEach [e2] X.env)).any (·.1) = false := by rfl) :
    PI X (.Name x xp) (.Call (.Name "zip" p) [e, e2] [] pos) (iZipP X.K ta) := by
  refine ⟨fun pins s σ H R I h => ?_⟩
  refine Call_ (ld_blt I hg hm PyProof.Rows.boot_zip (PyProof.Rows.callWith_type1 (thn (ha.run pos pins s σ H _ I h) fun us s2 ⟨vs, H1, I2, r1, q1⟩ => ?_) hs hpl))
  obtain ⟨a, b, xs, ys, ex, hx, hy, hl, q⟩ := q1
  subst ex
  obtain rfl := vals_refs (ls := [a, b]) r1
  have Rw : Rws X.K H1 [a, b] [xs, ys] xs.length := ⟨rfl, fun j l r e1 e2 => by
    match j, e1, e2 with
    | 0, e1, e2 => cases e1; cases e2; exact ⟨hx, rfl⟩
    | 1, e1, e2 => cases e1; cases e2; exact ⟨hy, hl.symm⟩⟩
  have h1 : 1 ≤ [a, b].length := by simp
  have h2 : [a, b].length ≤ 4 := by simp
  have tup : ∀ l ∈ [a, b], ∃ xs, s2.heap.IsTuple l xs := fun l hl => by
    obtain ⟨j, hj⟩ := List.mem_iff_getElem?.mp hl
    have hjl := (List.getElem?_eq_some_iff.mp hj).1
    have hjr : [xs, ys][j]? = some ([xs, ys][j]'(by have := Rw.len; omega)) := List.getElem?_eq_getElem (by have := Rw.len; omega)
    obtain ⟨its, _, ⟨o, ho, hc, n, hd⟩, _⟩ := I2.tuple (Rw.at_ j l _ hj hjr).1
    exact ⟨its.toArray, o, ho, hc, n, hd⟩
  refine call_zipN h1 h2 tup fun h' n en S hsz hk => ?_
  have I3 : Inv X pins σ H1 { s2 with heap := h' } := I2.kept (t' := s2.toks) hk
  have hlt : ∀ l ∈ [a, b], l < n := fun l hl => by
    obtain ⟨xs, o, ho, _⟩ := tup l hl
    rw [en]
    exact Heap.lt_size ho
  refine pyIter_zn (s := { s2 with heap := h' }) S ⟨n + [a, b].length + 2, _, _, _, H1, rfl, I3, turn_zn h1 h2 hlt, S, fun b' hb => ?_, q⟩
  have hle : s2.heap.objs.size ≤ b' := by
    rw [← en]
    rcases List.mem_cons.mp hb with rfl | hb
    · omega
    rcases List.mem_cons.mp hb with rfl | hb
    · omega
    rcases List.mem_cons.mp hb with rfl | hb
    · omega
    obtain ⟨p, hp, rfl⟩ := List.mem_map.mp hb
    obtain ⟨j, _, _, e⟩ := zps_mem hp
    exact Nat.le_trans (Nat.le_add_right n j) (Nat.le_of_eq e.symm)
  exact I2.fpOk hle (I2.hok.fresh hle)

/-- a comprehension over zip of two tuples of one length -/
theorem lc_zipT {K : PySem.W.Frag} {a b : Addr} {xs ys : List V} {g : TG} {tt : TT} {te : TE} {vs : List Nat} {σ : L2.St} {H1 : Hp} {D : Addr} {Qd : Hp → Prop} (hl : xs.length = ys.length)
    (Pv : Nat → Hp → Prop) (h0 : Pv 0 (upd H1 D (.lst []))) (hq : ∀ i H, i ≤ xs.length → Pv i H → SqT K H a xs ∧ SqT K H b ys)
    (hs : ∀ i x y T H, xs[i]? = some x → ys[i]? = some y → Pv i H → H T = none → g (.ref T) (wipe σ vs) (upd H T (.tup [x, y])) fun σ2 H2 => wipe σ2 vs = wipe σ vs ∧ tt σ2 H2 fun b H3 =>
      if b = true then (te σ2 H3 fun y H4 => ∃ acc, H4 D = some (.lst acc) ∧ acc.length < sizeLine ∧ Pv (i + 1) (upd H4 D (.lst (acc ++ [y])))) else Pv (i + 1) H3) (hd : ∀ H, Pv xs.length H → Qd H) :
    ∃ W : Nat → Nat → Hp → Prop, (∃ m, W 0 m (upd H1 D (.lst []))) ∧ ∀ i m0 H, W i m0 H → ((ItzT K a b).stop i H ∧ Qd H) ∨ ((ItzT K a b).go i H ∧
      ∃ Nx : Hp → Prop, (∀ H', Nx H' → ∃ m', m' < m0 ∧ W (i + 1) m' H') ∧ ∀ x H', (ItzT K a b).yld i H x H' → g x (wipe σ vs) H' fun σ2 H2 => wipe σ2 vs = wipe σ vs ∧
        tt σ2 H2 fun b H3 => if b = true then (te σ2 H3 fun y H4 => ∃ acc, H4 D = some (.lst acc) ∧ acc.length < sizeLine ∧ Nx (upd H4 D (.lst (acc ++ [y])))) else Nx H3) := by
  refine ⟨fun i m0 H => m0 = xs.length - i ∧ i ≤ xs.length ∧ Pv i H, ⟨xs.length, by simp, Nat.zero_le _, h0⟩, ?_⟩
  rintro i _ H ⟨rfl, hi, p⟩
  obtain ⟨qx, qy⟩ := hq i H hi p
  by_cases hlt : i < xs.length
  · have hx : xs[i]? = some xs[i] := List.getElem?_eq_getElem hlt
    have hlt2 : i < ys.length := by omega
    have hy : ys[i]? = some ys[i] := List.getElem?_eq_getElem hlt2
    refine .inr ⟨⟨xs, ys, _, _, qx, qy, hx, hy⟩, Pv (i + 1), fun H' p' => ⟨xs.length - (i + 1), by omega, rfl, hlt, p'⟩, fun v H' y => ?_⟩
    obtain ⟨T, x', y', rfl, hT, rfl, f1, f2⟩ := y
    exact hs i x' y' T H (f1 xs qx) (f2 ys qy) p hT
  · have e : i = xs.length := by omega
    subst e
    exact .inl ⟨⟨xs, ys, qx, qy, Or.inl (Nat.le_refl _)⟩, hd H p⟩
/-- a comprehension over zip(*..) of tuples of one length -/
theorem lc_zipN {K : PySem.W.Frag} {ls : List Addr} {rows : List (List V)} {m : Nat} {g : TG} {tt : TT} {te : TE} {vs : List Nat} {σ : L2.St} {H1 : Hp} {D : Addr} {Qd : Hp → Prop}
    (Pv : Nat → Hp → Prop) (h0 : Pv 0 (upd H1 D (.lst []))) (hl : ∀ i H, i ≤ m → Pv i H → Rws K H ls rows m)
    (hs : ∀ i T H, i < m → Pv i H → H T = none → g (.ref T) (wipe σ vs) (upd H T (.tup (colV rows i))) fun σ2 H2 => wipe σ2 vs = wipe σ vs ∧ tt σ2 H2 fun b H3 =>
      if b = true then (te σ2 H3 fun y H4 => ∃ acc, H4 D = some (.lst acc) ∧ acc.length < sizeLine ∧ Pv (i + 1) (upd H4 D (.lst (acc ++ [y])))) else Pv (i + 1) H3) (hd : ∀ H, Pv m H → Qd H) :
    ∃ W : Nat → Nat → Hp → Prop, (∃ m, W 0 m (upd H1 D (.lst []))) ∧ ∀ i m0 H, W i m0 H → ((ItzN K ls rows m).stop i H ∧ Qd H) ∨ ((ItzN K ls rows m).go i H ∧
      ∃ Nx : Hp → Prop, (∀ H', Nx H' → ∃ m', m' < m0 ∧ W (i + 1) m' H') ∧ ∀ x H', (ItzN K ls rows m).yld i H x H' → g x (wipe σ vs) H' fun σ2 H2 => wipe σ2 vs = wipe σ vs ∧
        tt σ2 H2 fun b H3 => if b = true then (te σ2 H3 fun y H4 => ∃ acc, H4 D = some (.lst acc) ∧ acc.length < sizeLine ∧ Nx (upd H4 D (.lst (acc ++ [y])))) else Nx H3) := by
  refine ⟨fun i m0 H => m0 = m - i ∧ i ≤ m ∧ Pv i H, ⟨m, by simp, Nat.zero_le _, h0⟩, ?_⟩
  rintro i _ H ⟨rfl, hi, p⟩
  have q := hl i H hi p
  by_cases hlt : i < m
  · refine .inr ⟨⟨hlt, q⟩, Pv (i + 1), fun H' p' => ⟨m - (i + 1), by omega, rfl, hlt, p'⟩, fun x H' y => ?_⟩
    obtain ⟨T, rfl, nT, rfl⟩ := y
    exact hs i T H hlt p nT
  · obtain rfl : i = m := by omega
    exact .inl ⟨⟨rfl, q⟩, hd H p⟩

end DD
namespace DD
open PySem PySem.Spec PyProof.Rows L2 RZ
theorem walk_enT {K : PySem.W.Frag} {a : Addr} {xs : List V} {c : Int} : Walk (ItEnT K a c) xs.length (fun H => SqT K H a xs) (YPair (fun i => some (.int (c + (i : Nat)))) (fun i => xs[i]?)) := by
  refine ⟨fun i _ hi q => ⟨xs, xs[i], q, by simp [hi]⟩, fun _ q => ⟨xs, q, Nat.le_refl _⟩, fun i H v H' _ q y => ?_⟩
  obtain ⟨T, x, h1, h2, h3, h4⟩ := y
  exact ⟨T, .int (c + (i : Nat)), x, h1, h2, h3, rfl, h4 xs q⟩

/-! ### two clauses in one comprehension -/
section
variable {J J1 : It} {n n1 : Nat} {G G1 : Hp → Prop} {Y Y1 : Nat → Hp → V → Hp → Prop}
theorem lc2_it (w : Walk J n G Y) {g g1 : TG} {tt tt1 : TT} {te : TE} {wi1 : TI} {vs vs1 : List Nat} {σ : L2.St} {H1 : Hp} {D : Addr} {Qd : Hp → Prop} (Pv : Nat → Hp → Prop) (h0 : Pv 0 (upd H1 D (.lst []))) (hG : ∀ i H, i ≤ n → Pv i H → G H)
    (hs : ∀ i x H H', i < n → Pv i H → Y i H x H' → g x (wipe σ vs) H' fun σ2 H2 => wipe σ2 vs = wipe σ vs ∧ tt σ2 H2 fun b H3 =>
      if b = true then wi1 σ2 H3 fun J1 H4 => ∃ W1 : Nat → Nat → Hp → Prop, (∃ m, W1 0 m H4) ∧ ∀ j k H, W1 j k H →
      (J1.stop j H ∧ Pv (i + 1) H) ∨ (J1.go j H ∧ ∃ Nx1 : Hp → Prop, (∀ H', Nx1 H' → ∃ k', k' < k ∧ W1 (j + 1) k' H') ∧ ∀ x H', J1.yld j H x H' → g1 x (wipe σ2 vs1) H' fun σ3 H5 => wipe σ3 vs1 = wipe σ2 vs1 ∧ tt1 σ3 H5 fun b H6 =>
        if b = true then te σ3 H6 fun y H7 => ∃ acc, H7 D = some (.lst acc) ∧ acc.length < sizeLine ∧ Nx1 (upd H7 D (.lst (acc ++ [y]))) else Nx1 H6)
      else Pv (i + 1) H3) (hd : ∀ H, Pv n H → Qd H) :
    ∃ W : Nat → Nat → Hp → Prop, (∃ m, W 0 m (upd H1 D (.lst []))) ∧ ∀ i m H, W i m H →
  (J.stop i H ∧ Qd H) ∨ (J.go i H ∧ ∃ Nx : Hp → Prop, (∀ H', Nx H' → ∃ m', m' < m ∧ W (i + 1) m' H') ∧ ∀ x H', J.yld i H x H' → g x (wipe σ vs) H' fun σ2 H2 => wipe σ2 vs = wipe σ vs ∧ tt σ2 H2 fun b H3 =>
    if b = true then wi1 σ2 H3 fun J1 H4 => ∃ W1 : Nat → Nat → Hp → Prop, (∃ m, W1 0 m H4) ∧ ∀ j k H, W1 j k H →
      (J1.stop j H ∧ Nx H) ∨ (J1.go j H ∧ ∃ Nx1 : Hp → Prop, (∀ H', Nx1 H' → ∃ k', k' < k ∧ W1 (j + 1) k' H') ∧ ∀ x H', J1.yld j H x H' → g1 x (wipe σ2 vs1) H' fun σ3 H5 => wipe σ3 vs1 = wipe σ2 vs1 ∧ tt1 σ3 H5 fun b H6 =>
        if b = true then te σ3 H6 fun y H7 => ∃ acc, H7 D = some (.lst acc) ∧ acc.length < sizeLine ∧ Nx1 (upd H7 D (.lst (acc ++ [y]))) else Nx1 H6)
    else Nx H3) := by
  refine ⟨fun i m H => m = n - i ∧ i ≤ n ∧ Pv i H, ⟨n, by simp, Nat.zero_le _, h0⟩, ?_⟩
  rintro i m H ⟨rfl, hi, p⟩
  have q := hG i H hi p
  by_cases hlt : i < n
  · refine .inr ⟨w.goes i H hlt q, Pv (i + 1), fun H' p' => ⟨n - (i + 1), by omega, rfl, hlt, p'⟩, fun x H' y => hs i x H H' hlt p (w.yields i H x H' hlt q y)⟩
  · have e : i = n := by omega
    subst e
    exact .inl ⟨w.stops H q, hd H p⟩
theorem lci_it (w : Walk J1 n1 G1 Y1) {g1 : TG} {tt1 : TT} {te : TE} {vs1 : List Nat} {σ2 : L2.St} {H4 : Hp} {D : Addr} {Nx : Hp → Prop} (Pv : Nat → Hp → Prop) (h0 : Pv 0 H4) (hG : ∀ i H, i ≤ n1 → Pv i H → G1 H)
    (hs : ∀ j x H H', j < n1 → Pv j H → Y1 j H x H' → g1 x (wipe σ2 vs1) H' fun σ3 H5 => wipe σ3 vs1 = wipe σ2 vs1 ∧ tt1 σ3 H5 fun b H6 =>
        if b = true then te σ3 H6 fun y H7 => ∃ acc, H7 D = some (.lst acc) ∧ acc.length < sizeLine ∧ Pv (j + 1) (upd H7 D (.lst (acc ++ [y]))) else Pv (j + 1) H6) (hd : ∀ H, Pv n1 H → Nx H) :
    ∃ W1 : Nat → Nat → Hp → Prop, (∃ m, W1 0 m H4) ∧ ∀ j k H, W1 j k H →
      (J1.stop j H ∧ Nx H) ∨ (J1.go j H ∧ ∃ Nx1 : Hp → Prop, (∀ H', Nx1 H' → ∃ k', k' < k ∧ W1 (j + 1) k' H') ∧ ∀ x H', J1.yld j H x H' → g1 x (wipe σ2 vs1) H' fun σ3 H5 => wipe σ3 vs1 = wipe σ2 vs1 ∧ tt1 σ3 H5 fun b H6 =>
        if b = true then te σ3 H6 fun y H7 => ∃ acc, H7 D = some (.lst acc) ∧ acc.length < sizeLine ∧ Nx1 (upd H7 D (.lst (acc ++ [y]))) else Nx1 H6) := by
  refine ⟨fun i m H => m = n1 - i ∧ i ≤ n1 ∧ Pv i H, ⟨n1, by simp, Nat.zero_le _, h0⟩, ?_⟩
  rintro i m H ⟨rfl, hi, p⟩
  have q := hG i H hi p
  by_cases hlt : i < n1
  · refine .inr ⟨w.goes i H hlt q, Pv (i + 1), fun H' p' => ⟨n1 - (i + 1), by omega, rfl, hlt, p'⟩, fun x H' y => hs i x H H' hlt p (w.yields i H x H' hlt q y)⟩
  · have e : i = n1 := by omega
    subst e
    exact .inl ⟨w.stops H q, hd H p⟩
end
end DD
namespace DD
open PySem PySem.Spec PyProof.Rows L2 RZ
/-! ### enumerate(zip(*rows)) -/
theorem nat7 {p n j L : Nat} (h1 : p = n + L + 3) (h2 : p = n + j) (h3 : j < L) : False := by omega
def zfp (z TI TO : Addr) (ps : List (Addr × Addr)) : List Addr := z :: TI :: TO :: ps.map (·.1)
theorem ZSt.keeps {h h' : Heap} {z TI TO : Addr} {ps : List (Addr × Addr)} {k : Nat} (S : ZSt h z TI TO ps k) (q : ∀ b ∈ zfp z TI TO ps, ∀ o, h.get? b = some o → h'.get? b = some o) : ZSt h' z TI TO ps k := by
  obtain ⟨⟨f0, f1, hz, hf⟩, hTI, ⟨arr, ha, hTO⟩, hits⟩ := S
  refine ⟨⟨f0, f1, q _ (by simp [zfp]) _ hz, hf⟩, q _ (by simp [zfp]) _ hTI, ⟨arr, ha, q _ (by simp [zfp]) _ hTO⟩, fun p hp => ?_⟩
  obtain ⟨o, e, c⟩ := hits p hp
  exact ⟨o, q _ (by
    refine List.mem_cons_of_mem _ (List.mem_cons_of_mem _ (List.mem_cons_of_mem _ ?_))
    exact List.mem_map_of_mem hp) _ e, c⟩
section
variable {prog : Program} {w : World} {A : Around} {E : Value → Shared → Prop} {s : Shared} {z TI TO : Addr} {ps : List (Addr × Addr)} {k : Nat}
theorem nextOf_zn_item {vs : List Value} {Q : Value → Shared → Prop} (D : ZApart z TI TO ps) (hn : 1 ≤ ps.length) (hn2 : ps.length ≤ 1000) (S : ZSt s.heap z TI TO ps k)
    (hv : vs.length = ps.length) (hi : ∀ (j : Nat) (p : Addr × Addr), ps[j]? = some p → ∃ xs, s.heap.IsTuple p.2 xs ∧ xs[k]? = vs[j]?)
    (hQ : ∀ h', ZSt h' z TI TO ps (k + 1) → h'.get? s.heap.objs.size = some (tObj vs.toArray) → h'.objs.size = s.heap.objs.size + 1 →
      (∀ c o, c ≠ z → c ≠ TO → (∀ p ∈ ps, c ≠ p.1) → s.heap.get? c = some o → h'.get? c = some o) → Q (.ref s.heap.objs.size) { s with heap := h' }) :
    wpAny (model prog w) A (Builtin.SmallTypes.nextOf (.ref z)) Q E s := by
  obtain ⟨f0, f1, hz, hf0⟩ := S.zz
  have hT : s.TypeIs (.ref z) "zip" := ⟨_, hz, rfl⟩
  unfold Builtin.SmallTypes.nextOf
  exact wpAny_bind (wpAny_callSpecial?_slot (name := Str.ofString "__next__") hT F.slot_zip_next
    (wpAny_call_entry F.slot_zip_next hT F.entry_zip_next (zn_item D hn hn2 S hv hi fun h' a1 a2 a3 a4 => wpAny_pure (hQ h' a1 a2 a3 a4)) (F.args_zip_next_1 _)))
theorem nextOf_zn_end {Q : Value → Shared → Prop} (hh : A.handled = none) (D : ZApart z TI TO ps) (S : ZSt s.heap z TI TO ps k) {p : Addr × Addr} {r : List (Addr × Addr)} {xs : Array Value}
    (hps : ps = p :: r) (hl : s.heap.IsTuple p.2 xs) (hx : xs[k]? = none)
    (hE : ∀ h' e, (∀ c o, c ≠ z → c ≠ TO → (∀ p ∈ ps, c ≠ p.1) → s.heap.get? c = some o → h'.get? c = some o) →
      (∃ o, h'.get? e = some o ∧ o.cls = .type "StopIteration") → E (.ref e) { s with heap := h' }) :
    wpAny (model prog w) A (Builtin.SmallTypes.nextOf (.ref z)) Q E s := by
  obtain ⟨f0, f1, hz, hf0⟩ := S.zz
  have hT : s.TypeIs (.ref z) "zip" := ⟨_, hz, rfl⟩
  unfold Builtin.SmallTypes.nextOf
  exact wpAny_bind (wpAny_callSpecial?_slot (name := Str.ofString "__next__") hT F.slot_zip_next
    (wpAny_call_entry F.slot_zip_next hT F.entry_zip_next (zn_end hh D S hps hl hx hE) (F.args_zip_next_1 _)))

theorem ez_next_item {e : Addr} {c : Int} {old : Value} {vs : List Value} {Q : Value → Shared → Prop} (D : ZApart z TI TO ps) (hn : 1 ≤ ps.length) (hn2 : ps.length ≤ 1000)
    (he : IsEnum s.heap e z c old) (S : ZSt s.heap z TI TO ps k) (hv : vs.length = ps.length) (hi : ∀ (j : Nat) (p : Addr × Addr), ps[j]? = some p → ∃ xs, s.heap.IsTuple p.2 xs ∧ xs[k]? = vs[j]?)
    (hef : e ∉ zfp z TI TO ps)
    (hQ : ∀ h' tk, IsEnumOut h' e z (c + 1) (.ref s.heap.objs.size) (s.heap.objs.size + 1) → ZSt h' z TI TO ps (k + 1) → h'.get? s.heap.objs.size = some (tObj vs.toArray) →
      h'.get? (s.heap.objs.size + 1) = some { cls := .type "tuple", data := .seq #[.int c tk, .ref s.heap.objs.size] } → h'.objs.size = s.heap.objs.size + 2 →
      (∀ b o, b ≠ e → b ≠ z → b ≠ TO → (∀ p ∈ ps, b ≠ p.1) → s.heap.get? b = some o → h'.get? b = some o) → Q (.ref (s.heap.objs.size + 1)) { s with heap := h', toks := tk + 1 }) :
    wpAny (model prog w) A (Builtin.«enumerate.__next__» ⟨[.ref e], []⟩) (fun fin s' => ∃ v, fin = .done (.ret v) ∧ Q v s') E s := by
  obtain ⟨hp, g, d, tk, os⟩ := s
  have e1 : e ≠ z := fun q => hef (by rw [q]; simp [zfp])
  have e2 : e ≠ TO := fun q => hef (by rw [q]; simp [zfp])
  have e3 : ∀ p ∈ ps, e ≠ p.1 := fun p hpp q => hef (by
    rw [q]
    refine List.mem_cons_of_mem _ (List.mem_cons_of_mem _ (List.mem_cons_of_mem _ ?_))
    exact List.mem_map_of_mem hpp)
  show wpAny _ _ (field (.ref e) 2 >>= _) _ _ _
  refine wpAny_bind (wpAny_field he rfl (x := .ref z) rfl ?_)
  refine wpAny_bind (nextOf_zn_item D hn hn2 S hv hi fun h₁ S₁ hT₁ hz₁ hk₁ => ?_)
  replace hT₁ : h₁.get? hp.objs.size = some (tObj vs.toArray) := hT₁
  replace hz₁ : h₁.objs.size = hp.objs.size + 1 := hz₁
  replace hk₁ : ∀ c o, c ≠ z → c ≠ TO → (∀ p ∈ ps, c ≠ p.1) → hp.get? c = some o → h₁.get? c = some o := hk₁
  have he₁ : IsEnum h₁ e z c old := hk₁ e _ e1 e2 e3 he
  have hel : e < hp.objs.size := Heap.lt_size he
  show wpAny _ _ (field (.ref e) 3 >>= _) _ _ ⟨h₁, g, d, tk, os⟩
  refine wpAny_bind (wpAny_field he₁ rfl (x := rawInt c) rfl ?_)
  show wpAny _ _ (field (.ref e) 4 >>= _) _ _ ⟨h₁, g, d, tk, os⟩
  refine wpAny_bind (wpAny_field he₁ rfl (x := .none) rfl ?_)
  show wpAny _ _ (mkInt c >>= _) _ _ ⟨h₁, g, d, tk, os⟩
  refine wpAny_bind (wpAny_mkInt ?_)
  show wpAny _ _ (setField (.ref e) 3 (rawInt (c + 1)) >>= _) _ _ ⟨h₁, g, d, tk + 1, os⟩
  refine wpAny_bind (wpAny_setField_rec he₁ (by simp) fun h₂ he₂ hs₂ => ?_)
  replace hs₂ : Heap.SameBut e h₁ h₂ := hs₂
  replace he₂ : IsEnum h₂ e z (c + 1) old := he₂
  show wpAny _ _ (setField (.ref e) 4 .none >>= _) _ _ ⟨h₂, g, d, tk + 1, os⟩
  refine wpAny_bind (wpAny_setField_rec he₂ (by simp) fun h₃ he₃ hs₃ => ?_)
  replace hs₃ : Heap.SameBut e h₂ h₃ := hs₃
  replace he₃ : IsEnum h₃ e z (c + 1) old := he₃
  show wpAny _ _ (newTuple [.int c tk, .ref hp.objs.size] >>= _) _ _ ⟨h₃, g, d, tk + 1, os⟩
  refine wpAny_bind (wpAny_newTuple ?_)
  have he₄ : IsEnum (h₃.push { cls := .type "tuple", data := .seq #[.int c tk, .ref hp.objs.size] }) e z (c + 1) old := Heap.get?_push_of_some _ he₃
  generalize hh₄ : h₃.push { cls := .type "tuple", data := .seq #[.int c tk, .ref hp.objs.size] } = h₄ at he₄
  have hsz : h₃.objs.size = hp.objs.size + 1 := by rw [hs₃.1, hs₂.1, hz₁]
  have ht₄ : h₄.get? (hp.objs.size + 1) = some { cls := .type "tuple", data := .seq #[.int c tk, .ref hp.objs.size] } := by rw [← hh₄, ← hsz]; exact Heap.get?_push_size _ rfl
  have hz₄ : h₄.objs.size = hp.objs.size + 2 := by rw [← hh₄, Heap.size_push, hsz]
  have hk₁₄ : ∀ b o, b ≠ e → h₁.get? b = some o → h₄.get? b = some o := fun b o hbe hb => by
    rw [← hh₄]; exact Heap.get?_push_of_some _ (hs₃.extBut b o hbe (hs₂.extBut b o hbe hb))
  have S₄ : ZSt h₄ z TI TO ps (k + 1) := S₁.keeps fun b hb o y => hk₁₄ b o (fun q => hef (q ▸ hb)) y
  have hT₄ := hk₁₄ hp.objs.size _ (Nat.ne_of_gt hel) hT₁
  have hk₄ : ∀ b o, b ≠ e → b ≠ z → b ≠ TO → (∀ p ∈ ps, b ≠ p.1) → hp.get? b = some o → h₄.get? b = some o := fun b o c1 c2 c3 c4 y => hk₁₄ b o c1 (hk₁ b o c2 c3 c4 y)
  show wpAny _ _ (Builtin.SmallTypes.ownedTupleIsFree (.ref e) >>= _) _ _ ⟨h₄, g, d, tk + 1, os⟩
  rw [hsz]
  clear hh₄ he₃ hs₃ he₂ hs₂ he₁ hsz hk₁₄ S₁ hT₁ hz₁ hk₁ h₃ h₂ h₁
  refine wpAny_bind ?_
  · unfold Builtin.SmallTypes.ownedTupleIsFree
    refine wpAny_bind (wpAny_field he₄ rfl (x := .none) rfl (wpAny_pure ?_))
    simp only [if_true]
    refine wpAny_bind (wpAny_rule ?_)
    refine wpAny_bind (wpAny_field he₄ rfl (x := old) rfl ?_)
    refine wpAny_bind (wpAny_setField_rec he₄ (by simp) fun h₅ he₅ hs₅ => ?_)
    replace hs₅ : Heap.SameBut e h₄ h₅ := hs₅
    replace he₅ : IsEnum h₅ e z (c + 1) (.ref hp.objs.size) := he₅
    show wpAny _ _ (Builtin.SmallTypes.ownedTupleHandOut (.ref e) (.ref (hp.objs.size + 1)) >>= _) _ _ ⟨h₅, g, d, tk + 1, os⟩
    refine wpAny_bind ?_
    · unfold Builtin.SmallTypes.ownedTupleHandOut
      refine wpAny_bind (wpAny_setField_rec he₅ (by simp) fun h₆ he₆ hs₆ => ?_)
      replace hs₆ : Heap.SameBut e h₅ h₆ := hs₆
      replace he₆ : IsEnumOut h₆ e z (c + 1) (.ref hp.objs.size) (hp.objs.size + 1) := he₆
      refine wpAny_setField_rec he₆ (by simp) fun h₇ he₇ hs₇ => ?_
      replace hs₇ : Heap.SameBut e h₆ h₇ := hs₇
      replace he₇ : IsEnumOut h₇ e z (c + 1) (.ref hp.objs.size) (hp.objs.size + 1) := he₇
      have hk₇ : ∀ b o, b ≠ e → h₄.get? b = some o → h₇.get? b = some o := fun b o hbe y => hs₇.extBut b o hbe (hs₆.extBut b o hbe (hs₅.extBut b o hbe y))
      refine wpAny_bind (wpAny_letGo (wpAny_pure ⟨_, rfl, hQ h₇ tk he₇ ?_ ?_ ?_ ?_ ?_⟩))
      · exact S₄.keeps fun b hb o y => hk₇ b o (fun q => hef (q ▸ hb)) y
      · exact hk₇ _ _ (Nat.ne_of_gt hel) hT₄
      · exact hk₇ _ _ (by have : e < hp.objs.size := hel; exact Nat.ne_of_gt (Nat.lt_succ_of_lt this)) ht₄
      · rw [hs₇.1, hs₆.1, hs₅.1, hz₄]
      · exact fun b o c1 c2 c3 c4 hb => hk₇ b o c1 (hk₄ b o c1 c2 c3 c4 hb)
end

theorem meets_enum_newZ (z TI TO : Addr) (ps : List (Addr × Addr)) (k : Nat) : Meets (Builtin.«enumerate.__new__» ⟨[.type "enumerate", .ref z], []⟩) (fun _ R s => ZSt s.heap z TI TO ps k ∧
      R (.ok (.ret (.ref s.heap.objs.size))) { s with heap := s.heap.push { cls := .type "enumerate", data := .fields #[.none, .bool false, .ref z, rawInt 0, .none, .none] } }) :=
  .of_wp fun prog w A R s h => by
    obtain ⟨hp, g, d, tk, os⟩ := s
    obtain ⟨hS, h⟩ := h
    have hsub := sub_enumerate
    have hS' : ZSt (Shared.heap ⟨hp, g, d, tk, os⟩) z TI TO ps k := hS
    wp_walk
    refine wpAny_stack_any fun st => wpAny_pure ?_
    split
    · rename_i c _ _ _ _ _
      cases (c == Value.type "enumerate")
      · wp_walk using pyIter_zn hS'
        exact ⟨_, rfl, h⟩
      · wp_walk using pyIter_zn hS'
        exact ⟨_, rfl, h⟩
    · wp_walk using pyIter_zn hS'
      exact ⟨_, rfl, h⟩
section
variable {prog : Program} {w : World} {A : Around} {E : Value → Shared → Prop} {s : Shared}
theorem call_enumZ {z TI TO : Addr} {ps : List (Addr × Addr)} {k : Nat} {Q : Value → Shared → Prop} (hS : ZSt s.heap z TI TO ps k)
    (h : ∀ h', IsEnum h' s.heap.objs.size z 0 .none → (∀ b o, s.heap.get? b = some o → h'.get? b = some o) → Q (.ref s.heap.objs.size) { s with heap := h' }) :
    wpAny (model prog w) A (call (.type "enumerate") [.ref z]) Q E s := by
  refine callType_new F.called_enumerate (by decide) (F.typeCall_enumerate_1 _) (F.newCall_enumerate_1 _) (fun obj => F.args_object_init_2 obj _) F.entry_enumerate_new
    (meets_enum_newZ z TI TO ps k) ⟨hS, ?_⟩
  have he : IsEnum (s.heap.push { cls := .type "enumerate", data := .fields #[.none, .bool false, .ref z, rawInt 0, .none, .none] }) s.heap.objs.size z 0 .none := Heap.get?_push_size _ rfl
  exact ⟨⟨_, he, rfl⟩, h _ he fun b o x => Heap.get?_push_of_some _ x⟩
end

def ItEz (K : PySem.W.Frag) (ls : List Addr) (rows : List (List V)) (m : Nat) : It :=
  ⟨fun i H => i < m ∧ Rws K H ls rows m, fun i H v H' => ∃ T U, v = .ref U ∧ H T = none ∧ T ≠ U ∧ H U = none ∧ H' = upd (upd H T (.tup (colV rows i))) U (.tup [.int ((0 : Int) + (i : Nat)), .ref T]), fun i H => i = m ∧ Rws K H ls rows m⟩
theorem turn_ez {P : Program} {w : World} {K : PySem.W.Frag} {elts : List Expr} {kk : Nat} {tpos : Pos} {n m : Nat} {ls : List Addr} {rows : List (List V)} (h1 : 1 ≤ ls.length) (h2 : ls.length ≤ 4) (hlt : ∀ l ∈ ls, l < n) {e : Addr}
    (hef : e ∉ zfp (n + ls.length + 2) (n + ls.length) (n + ls.length + 1) (zps n ls)) :
    Turn P w K (.Tuple elts kk tpos) (ItEz K ls rows m) (e :: zfp (n + ls.length + 2) (n + ls.length) (n + ls.length + 1) (zps n ls)) e
      (fun i h => (∃ old, IsEnum h e (n + ls.length + 2) ((0 : Int) + (i : Nat)) old) ∧ ZSt h (n + ls.length + 2) (n + ls.length) (n + ls.length + 1) (zps n ls) i) where
  mem := List.mem_cons_self
  obj := fun i h S b hb => by
    obtain ⟨⟨old, he⟩, ⟨⟨f0, f1, hz, _⟩, hTI, ⟨arr, _, hTO⟩, hits⟩⟩ := S
    rcases List.mem_cons.mp hb with rfl | hb
    · exact ⟨_, he, fun v q => nomatch q⟩
    rcases List.mem_cons.mp hb with rfl | hb
    · exact ⟨_, hz, fun v q => nomatch q⟩
    rcases List.mem_cons.mp hb with rfl | hb
    · exact ⟨_, hTI, fun v q => nomatch q⟩
    rcases List.mem_cons.mp hb with rfl | hb
    · exact ⟨_, hTO, fun v q => nomatch q⟩
    obtain ⟨p, hp, rfl⟩ := List.mem_map.mp hb
    obtain ⟨o, e, _, d⟩ := hits p hp
    exact ⟨o, e, fun v q => by rw [d] at q; cases q⟩
  keep := fun i h h' S k => by
    obtain ⟨⟨old, he⟩, S⟩ := S
    exact ⟨⟨old, k e (by simp) _ he⟩, S.keeps fun b hb o y => k b (List.mem_cons_of_mem _ hb) o y⟩
  item := by
    intro X hP hw hK hc i pins s σ H E I hf S hg
    subst hP hw hK
    obtain ⟨⟨old, he⟩, S⟩ := S
    obtain ⟨hi, R⟩ := hg
    obtain ⟨us, hv, hx⟩ := R.vals I hi
    have hul : us.length = ls.length := by rw [← hv.length, R.len]; simp [colV]
    have D := zapart hlt
    have hT : s.TypeIs (.ref e) "enumerate" := ⟨_, he, rfl⟩
    have hfz : ∀ b ∈ e :: zfp (n + ls.length + 2) (n + ls.length) (n + ls.length + 1) (zps n ls), b < s.heap.objs.size := fun b hb => by
      rcases List.mem_cons.mp hb with rfl | hb
      · exact Heap.lt_size he
      obtain ⟨⟨f0, f1, hz, _⟩, hTI, ⟨arr, _, hTO⟩, hits⟩ := S
      rcases List.mem_cons.mp hb with rfl | hb
      · exact Heap.lt_size hz
      rcases List.mem_cons.mp hb with rfl | hb
      · exact Heap.lt_size hTI
      rcases List.mem_cons.mp hb with rfl | hb
      · exact Heap.lt_size hTO
      obtain ⟨p, hp, rfl⟩ := List.mem_map.mp hb
      obtain ⟨o, e, _⟩ := hits p hp
      exact Heap.lt_size e
    unfold pyNext
    refine wpAny_bind (wpAny_attempt (wpAny_callSpecial?_slot (name := Str.ofString "__next__") hT F.slot_enumerate_next
      (wpAny_call_entry F.slot_enumerate_next hT F.entry_enumerate_next
        (ez_next_item D (by rw [zps_length]; exact h1) (by rw [zps_length]; omega) he S (vs := us) (by rw [zps_length]; exact hul) (fun j p e => ?_) hef fun h' tk ho S' hTu hU hsz hk => wpAny_pure ?_) (F.args_enumerate_next_1 _))))
    · rw [zps_get] at e
      cases ea : ls[j]? with
      | none => rw [ea] at e; cases e
      | some a =>
        rw [ea] at e
        obtain rfl : (n + j, a) = p := Option.some.inj e
        exact hx j a ea
    · refine ⟨_, rfl, wpAny_letOwnedTupleGo_enum (s := { s with heap := h', toks := tk + 1 }) ho fun h'' he' sb => ?_⟩
      have hcl : (colV rows i).length ≤ sizeLine := by
        rw [hv.length, hul, sizeLine_eq]
        omega
      have hel : e < s.heap.objs.size := hfz e List.mem_cons_self
      have hk2 : ∀ b o, b ∉ e :: zfp (n + ls.length + 2) (n + ls.length) (n + ls.length + 1) (zps n ls) → s.heap.get? b = some o → h''.get? b = some o := fun b o hb q =>
        (sb.2 b (fun z => hb (by simp [z]))).trans (hk b o (fun z => hb (by simp [z])) (fun z => hb (by simp [z, zfp])) (fun z => hb (by simp [z, zfp])) (fun p hp z => hb (by
          refine List.mem_cons_of_mem _ (List.mem_cons_of_mem _ (List.mem_cons_of_mem _ (List.mem_cons_of_mem _ ?_)))
          rw [z]
          exact List.mem_map_of_mem hp)) q)
      have hTu2 : h''.get? s.heap.objs.size = some (tObj us.toArray) := (sb.2 _ (Nat.ne_of_gt hel)).trans hTu
      have hU2 : h''.get? (s.heap.objs.size + 1) = some { cls := .type "tuple", data := .seq #[.int ((0 : Int) + (i : Nat)) tk, .ref s.heap.objs.size] } := (sb.2 _ (Nat.ne_of_gt (Nat.lt_succ_of_lt hel))).trans hU
      have new1 : ObjOk X.prog X.w (upd H s.heap.objs.size (.tup (colV rows i))) (s.heap.push (tObj us.toArray)) s.heap.objs.size (.tup (colV rows i)) := ⟨hcl, us, hv, ⟨_, Heap.get?_push_size _ rfl, rfl, _, rfl⟩⟩
      have I1 : Inv X pins σ (upd H s.heap.objs.size (.tup (colV rows i))) { s with heap := s.heap.push (tObj us.toArray), toks := s.toks } :=
        I.laid (fun b o q => Heap.get?_push_of_some _ q) (Nat.le_refl _) new1
      have hz1 : (s.heap.push (tObj us.toArray)).objs.size = s.heap.objs.size + 1 := Heap.size_push ..
      have new2 : ObjOk X.prog X.w (upd (upd H s.heap.objs.size (.tup (colV rows i))) (s.heap.objs.size + 1) (.tup [.int ((0 : Int) + (i : Nat)), .ref s.heap.objs.size])) h'' (s.heap.objs.size + 1) (.tup [.int ((0 : Int) + (i : Nat)), .ref s.heap.objs.size]) :=
        ⟨by show 2 ≤ sizeLine; decide, [.int ((0 : Int) + (i : Nat)) tk, .ref s.heap.objs.size], .cons ⟨_, rfl⟩ (.cons rfl .nil), ⟨_, hU2, rfl, _, rfl⟩⟩
      have hf1 : ∀ b ∈ e :: zfp (n + ls.length + 2) (n + ls.length) (n + ls.length + 1) (zps n ls), FpOk X pins (upd H s.heap.objs.size (.tup (colV rows i))) b := fun b hb => by
        refine ⟨?_, (hf b hb).2⟩
        rw [upd_ne (Nat.ne_of_lt (hfz b hb))]
        exact (hf b hb).1
      have I2 : Inv X pins σ (upd (upd H s.heap.objs.size (.tup (colV rows i))) (s.heap.objs.size + 1) (.tup [.int ((0 : Int) + (i : Nat)), .ref s.heap.objs.size])) { s with heap := h'', toks := tk + 1 } := by
        refine I1.turnedNew (t' := tk + 1) (fun b o hb q => ?_) hf1 (Nat.le_of_eq hz1) new2
        rcases Heap.get?_push_cases q with ⟨hbN, ho2⟩ | q3
        · rw [hbN, ho2]
          exact hTu2
        · exact hk2 b o hb q3
      have hT0 : H s.heap.objs.size = none := I.hok.fresh (Nat.le_refl _)
      have hU0 : H (s.heap.objs.size + 1) = none := I.hok.fresh (Nat.le_succ _)
      have S2 : ZSt h'' (n + ls.length + 2) (n + ls.length) (n + ls.length + 1) (zps n ls) (i + 1) := S'.keeps fun b hb o y => (sb.2 b (fun z => hef (z ▸ hb))).trans y
      refine ⟨.ref (s.heap.objs.size + 1), _, I2, rfl, ⟨_, _, rfl, hT0, Nat.ne_of_lt (Nat.lt_succ_self _), hU0, rfl⟩, ⟨⟨.ref s.heap.objs.size, ?_⟩, S2⟩, fun b hb => ?_⟩
      · have e1 : (0 : Int) + ((i + 1 : Nat) : Int) = (0 : Int) + (i : Int) + 1 := by omega
        rw [e1]
        exact he'
      · have hb' := hfz b hb
        rw [upd_ne (Nat.ne_of_lt (Nat.lt_succ_of_lt hb')), upd_ne (Nat.ne_of_lt hb')]
        exact (hf b hb).1
  done := by
    intro X hP hw hK hc i pins s σ H E I hf S hg
    subst hP hw hK
    obtain ⟨⟨old, he⟩, S⟩ := S
    obtain ⟨rfl, R⟩ := hg
    have hT : s.TypeIs (.ref e) "enumerate" := ⟨_, he, rfl⟩
    cases hls : ls with
    | nil => rw [hls] at h1; simp at h1
    | cons a r =>
      cases hrw : rows with
      | nil => have := R.len; rw [hls, hrw] at this; simp at this
      | cons q rr =>
        obtain ⟨hq, hl⟩ := R.at_ 0 a q (by rw [hls]; rfl) (by rw [hrw]; rfl)
        obtain ⟨its, rv, ⟨o, ho, hc', n', hd⟩, _⟩ := I.tuple hq
        have hps : zps n ls = (n, a) :: (zps n ls).tail := by
          rw [hls]
          simp [zps]
        unfold pyNext
        refine wpAny_bind (wpAny_attempt (wpAny_callSpecial?_slot (name := Str.ofString "__next__") hT F.slot_enumerate_next
          (wpAny_call_entry F.slot_enumerate_next hT F.entry_enumerate_next ?_ (F.args_enumerate_next_1 _))))
        show wpAny _ _ (field (.ref e) 2 >>= _) _ _ _
        refine wpAny_bind (wpAny_field he rfl (x := .ref (n + ls.length + 2)) rfl ?_)
        refine wpAny_bind (nextOf_zn_end (I.ok.hd hc) (zapart hlt) S hps (xs := its.toArray) ⟨o, ho, hc', n', hd⟩ ?_ fun h' e' hk he' => ?_)
        · have := rv.length
          rw [List.getElem?_toArray, List.getElem?_eq_none (by omega)]
        · obtain ⟨o2, ho2, hc2⟩ := he'
          refine wpAny_bind (wpAny_isInstance (T := "StopIteration") (b := true) ⟨o2, ho2, hc2⟩ isSubtype_stop (wpAny_pure ⟨rfl, ?_⟩))
          exact I.turnedL (t' := s.toks) (fun c o hb q => hk c o (fun z => hb (by simp [z, zfp])) (fun z => hb (by simp [z, zfp])) (fun p hp z => hb (by
            refine List.mem_cons_of_mem _ (List.mem_cons_of_mem _ (List.mem_cons_of_mem _ (List.mem_cons_of_mem _ ?_)))
            rw [z]
            exact List.mem_map_of_mem hp)) q) hf
  self := fun A i s Q E S h => by
    obtain ⟨⟨_, he⟩, _⟩ := S
    exact wpAny_pyIter_enum he h

/-- for i, x in enumerate(zip(*e)), e a list or tuple of one to four tuples of one length -/
def iEnumZ (K : PySem.W.Frag) (te : TE) : TI := fun σ H R => te σ H fun y H1 => ∃ (a : Addr) (ls : List Addr) (rows : List (List V)) (m : Nat), y = .ref a ∧ (SqT K H1 a (ls.map V.ref) ∨ SqL K H1 a (ls.map V.ref)) ∧
  1 ≤ ls.length ∧ ls.length ≤ 4 ∧ Rws K H1 ls rows m ∧ R (ItEz K ls rows m) H1
theorem pi_enumZ {X : Cx} {e : Expr} {te : TE} {p p2 pos pos2 spos tpos : Pos} {elts : List Expr} {kk : Nat} (hge : Gl X "enumerate") (hme : X.mg "enumerate" = none) (hg : Gl X "zip") (hm : X.mg "zip" = none) (he : PE X e te)
    (hst : starEach [.Starred e spos] X.env = [(true, eval e X.env)] := by rfl)
    (hs : starEach [.Call (.Name "zip" p) [.Starred e spos] [] pos] X.env = [(false, eval (.Call (.Name "zip" p) [.Starred e spos] [] pos) X.env)] := by rfl) :
    PI X (.Tuple elts kk tpos) (.Call (.Name "enumerate" p2) [.Call (.Name "zip" p) [.Starred e spos] [] pos] [] pos2) (iEnumZ X.K te) := by
  refine ⟨fun pins s σ H R I h => Call_ (ld_blt I hge hme boot_enumerate (PyProof.Rows.callWith_type1 ?_ hs rfl))⟩
  rw [hs]
  refine Calls.spliced_cons ?_
  refine wpAny_Call_Name_kw (ld_blt I hg hm PyProof.Rows.boot_zip ?_)
  rw [hst]
  refine PySem.W.ks_call (P := fun _ => True) rfl (fun h _ => ⟨.machine, .inr (.inl rfl), fun A Q E s _ q => wpAny_pure q⟩) (PySem.W.ks_lone ?_)
  refine thn (he.run pins s σ H _ I h) fun v s1 ⟨y, H1, I1, ry, a, ls, rows, m, ey, hx, h1, h2, Rw, q⟩ => ?_
  subst ey
  obtain rfl : v = Value.ref a := ry
  refine StX.star_any I1 hx fun us s2 I2 rv => ⟨trivial, ?_⟩
  obtain rfl := vals_refs rv
  have tup : ∀ l ∈ ls, ∃ xs, s2.heap.IsTuple l xs := fun l hl => by
    obtain ⟨j, hj⟩ := List.mem_iff_getElem?.mp hl
    have hjl := (List.getElem?_eq_some_iff.mp hj).1
    have hjr : rows[j]? = some (rows[j]'(by have := Rw.len; omega)) := List.getElem?_eq_getElem (by have := Rw.len; omega)
    obtain ⟨its, _, ⟨o, ho, hc, n, hd⟩, _⟩ := I2.tuple (Rw.at_ j l _ hj hjr).1
    exact ⟨its.toArray, o, ho, hc, n, hd⟩
  refine call_zipN h1 h2 tup fun h' n en S hsz hk => ?_
  have I3 : Inv X pins σ H1 { s2 with heap := h' } := I2.kept (t' := s2.toks) hk
  have hlt : ∀ l ∈ ls, l < n := fun l hl => by
    obtain ⟨xs, o, ho, _⟩ := tup l hl
    rw [en]
    exact Heap.lt_size ho
  refine Calls.spliced_nil ?_
  refine call_enumZ (s := { s2 with heap := h' }) S fun h3 hE3 hk3 => wpAny_pyIter_enum hE3 ?_
  have I4 : Inv X pins σ H1 { s2 with heap := h3 } := I3.kept (t' := s2.toks) hk3
  have hef : h'.objs.size ∉ zfp (n + ls.length + 2) (n + ls.length) (n + ls.length + 1) (zps n ls) := fun hb => by
    rw [hsz] at hb
    rcases List.mem_cons.mp hb with hb | hb
    · omega
    rcases List.mem_cons.mp hb with hb | hb
    · omega
    rcases List.mem_cons.mp hb with hb | hb
    · omega
    obtain ⟨p, hp, e⟩ := List.mem_map.mp hb
    obtain ⟨j, hj, _, ep⟩ := zps_mem hp
    exact nat7 e ep hj
  have S3 : ZSt h3 (n + ls.length + 2) (n + ls.length) (n + ls.length + 1) (zps n ls) 0 := S.keeps fun b _ o y => hk3 b o y
  refine ⟨h'.objs.size, _, _, _, H1, rfl, I4, turn_ez h1 h2 hlt hef, ⟨⟨_, hE3⟩, S3⟩, fun b hb => ?_, q⟩
  have hle : s2.heap.objs.size ≤ b := by
    rw [← en]
    rcases List.mem_cons.mp hb with rfl | hb
    · omega
    rcases List.mem_cons.mp hb with rfl | hb
    · omega
    rcases List.mem_cons.mp hb with rfl | hb
    · omega
    rcases List.mem_cons.mp hb with rfl | hb
    · omega
    obtain ⟨p, hp, rfl⟩ := List.mem_map.mp hb
    obtain ⟨j, _, _, e⟩ := zps_mem hp
    exact Nat.le_trans (Nat.le_add_right n j) (Nat.le_of_eq e.symm)
  exact I2.fpOk hle (I2.hok.fresh hle)
theorem walk_ez {K : PySem.W.Frag} {ls : List Addr} {rows : List (List V)} {m : Nat} : Walk (ItEz K ls rows m) m (fun H => Rws K H ls rows m)
    (fun i H v H' => ∃ T U, v = .ref U ∧ H T = none ∧ T ≠ U ∧ H U = none ∧ H' = upd (upd H T (.tup (colV rows i))) U (.tup [.int ((0 : Int) + (i : Nat)), .ref T])) :=
  ⟨fun _ _ hi q => ⟨hi, q⟩, fun _ q => ⟨rfl, q⟩, fun _ _ _ _ _ _ y => y⟩
end DD
namespace DD
open PySem PySem.Spec PyProof.Rows L2 RZ
/-! ### zip() of nothing -/
theorem typeCall_zipM : ∀ vs : List Value, vs.length ≤ 4 → checkTypeCall "zip" ⟨vs, []⟩ = pure ()
  | [], _ => by kernel_rfl
  | a :: vs, h => typeCall_zipN (a :: vs) (Nat.succ_pos _) h
theorem newCall_zipM : ∀ vs : List Value, vs.length ≤ 4 → checkBuiltinCall "zip.__new__" ⟨.type "zip" :: vs, []⟩ = pure ()
  | [], _ => by kernel_rfl
  | a :: vs, h => newCall_zipN (a :: vs) (Nat.succ_pos _) h
theorem args_object_initM (o : Value) : ∀ vs : List Value, vs.length ≤ 4 → argsOk "object.__init__" ⟨o :: vs, []⟩
  | [], _ => by
    unfold argsOk
    rw [signature?_of (id := "object.__init__") (n := ['_', '_', 't', 'i', 'n', 'i', '_', '_']) (o := ['t', 'c', 'e', 'j', 'b', 'o']) (by kernel_rfl) F.owner_object]
    kernel_rfl
  | a :: vs, h => args_object_initN o (a :: vs) (Nat.succ_pos _) h
section
variable {prog : Program} {w : World} {A : Around} {E : Value → Shared → Prop} {s : Shared}
theorem zip_newM {ls : List Addr} {Q : Value → Shared → Prop} (h2 : ls.length ≤ 4) (hl : ∀ l ∈ ls, ∃ xs, s.heap.IsTuple l xs)
    (hQ : ∀ h' n, n = s.heap.objs.size → ZSt h' (n + ls.length + 2) (n + ls.length) (n + ls.length + 1) (ls.zipIdx.map fun x => (n + x.2, x.1)) 0 → h'.objs.size = n + ls.length + 3 →
      (∀ c o, s.heap.get? c = some o → h'.get? c = some o) → Q (.ref (n + ls.length + 2)) { s with heap := h' }) :
    wpAny (model prog w) A (Builtin.«zip.__new__» ⟨.type "zip" :: ls.map Value.ref, []⟩) (fun fin s' => ∃ v, fin = .done (.ret v) ∧ Q v s') E s := by
  have hsub := sub_zip
  have hc : wpAny (model prog w) A (Builtin.SmallTypes.newClass "zip" ⟨.type "zip" :: ls.map Value.ref, []⟩) (fun r s' => r = (.type "zip", ls.map Value.ref) ∧ s' = s) E s := by
    unfold Builtin.SmallTypes.newClass
    wp_walk
    exact ⟨rfl, rfl⟩
  unfold Builtin.«zip.__new__»
  refine wpAny_bind (thn hc ?_)
  rintro _ _s ⟨rfl, rfl⟩
  show wpAny _ _ (Builtin.SmallTypes.iterAll (ls.map Value.ref) >>= _) _ _ _
  refine wpAny_bind (iterAll_tups hl fun h1' its hil hi hsz hk hit => ?_)
  have hsl : its.length ≤ sizeLine := by rw [hil, sizeLine_eq]; omega
  refine wpAny_bind (wpAny_newTuple ?_ hsl)
  refine wpAny_bind (wpAny_newTuple ?_ (by rw [List.length_map]; exact hsl))
  refine wpAny_bind ?_
  unfold Builtin.SmallTypes.newRecord
  refine wpAny_newObj_type ?_ (show (5 : Nat) ≤ sizeLine + 2 by rw [sizeLine_eq]; omega)
  refine wpAny_pure ⟨_, rfl, ?_⟩
  have z1 : (h1'.push (tObj its.toArray)).objs.size = h1'.objs.size + 1 := Heap.size_push ..
  have z2 : ((h1'.push (tObj its.toArray)).push (tObj (its.map fun _ => Value.none).toArray)).objs.size = h1'.objs.size + 2 := by rw [Heap.size_push, z1]
  have fin : Q (.ref ((h1'.push (tObj its.toArray)).push (tObj (its.map fun _ => Value.none).toArray)).objs.size)
      { _s with heap := ((h1'.push (tObj its.toArray)).push (tObj (its.map fun _ => Value.none).toArray)).push (zObj .none (.bool false) h1'.objs.size (h1'.push (tObj its.toArray)).objs.size) } := by
    rw [z2, z1, hsz]
    refine hQ _ _ rfl ⟨⟨.none, .bool false, ?_, .inl rfl⟩, ?_, ⟨(its.map fun _ => Value.none).toArray, ?_, ?_⟩, fun p hp => ?_⟩ ?_ fun c o e => Heap.get?_push_of_some _ (Heap.get?_push_of_some _ (Heap.get?_push_of_some _ (hk c o e)))
    · rw [← hsz, ← z2]
      exact Heap.get?_push_size _ rfl
    · have e : its = (ls.zipIdx.map fun x => (_s.heap.objs.size + x.2, x.1)).map fun p => Value.ref p.1 := by
        refine List.ext_getElem? fun i => ?_
        rw [List.map_map, List.getElem?_map, List.getElem?_zipIdx]
        by_cases hlt : i < ls.length
        · rw [hi i hlt, List.getElem?_eq_getElem hlt]
          simp
        · rw [List.getElem?_eq_none (by omega), List.getElem?_eq_none (by omega)]
          rfl
      rw [← e, ← hsz]
      exact Heap.get?_push_of_some _ (Heap.get?_push_of_some _ (Heap.get?_push_size _ rfl))
    · simp [hil]
    · rw [← hsz, ← z1]
      exact Heap.get?_push_of_some _ (Heap.get?_push_size _ rfl)
    · obtain ⟨x, hx, rfl⟩ := List.mem_map.mp hp
      obtain ⟨i, hxi⟩ := List.mem_iff_getElem?.mp hx
      rw [List.getElem?_zipIdx] at hxi
      cases hl' : ls[i]? with
      | none =>
        rw [hl'] at hxi
        cases hxi
      | some l =>
        rw [hl'] at hxi
        obtain rfl : (l, 0 + i) = x := Option.some.inj hxi
        obtain ⟨o, e, c⟩ := hit i l hl'
        refine ⟨o, ?_, c⟩
        show Heap.get? _ (_s.heap.objs.size + (0 + i)) = some o
        rw [Nat.zero_add]
        exact Heap.get?_push_of_some _ (Heap.get?_push_of_some _ (Heap.get?_push_of_some _ e))
    · rw [Heap.size_push, z2, hsz]
  exact fin
end
section
variable {prog : Program} {w : World} {A : Around} {E : Value → Shared → Prop} {s : Shared}
theorem call_zipM {ls : List Addr} {Q : Value → Shared → Prop} (h2 : ls.length ≤ 4) (hl : ∀ l ∈ ls, ∃ xs, s.heap.IsTuple l xs)
    (hQ : ∀ h' n, n = s.heap.objs.size → ZSt h' (n + ls.length + 2) (n + ls.length) (n + ls.length + 1) (zps n ls) 0 → h'.objs.size = n + ls.length + 3 →
      (∀ c o, s.heap.get? c = some o → h'.get? c = some o) → Q (.ref (n + ls.length + 2)) { s with heap := h' }) :
    wpAny (model prog w) A (call (.type "zip") (ls.map Value.ref)) Q E s := by
  have m : Meets (Builtin.«zip.__new__» ⟨.type "zip" :: ls.map Value.ref, []⟩) (fun _ R s => (∀ l ∈ ls, ∃ xs, s.heap.IsTuple l xs) ∧
      ∀ h' n, n = s.heap.objs.size → ZSt h' (n + ls.length + 2) (n + ls.length) (n + ls.length + 1) (zps n ls) 0 → h'.objs.size = n + ls.length + 3 →
        (∀ c o, s.heap.get? c = some o → h'.get? c = some o) → R (.ok (.ret (.ref (n + ls.length + 2)))) { s with heap := h' }) :=
    .of_wp fun prog w A R s h => zip_newM h2 h.1 h.2
  refine callType_new F.called_zip (by decide) (typeCall_zipM _ (by simpa using h2)) (newCall_zipM _ (by simpa using h2))
    (fun obj => args_object_initM obj _ (by simpa using h2)) F.entry_zip_new m ⟨hl, fun h' n e1 e2 e3 e4 => ?_⟩
  obtain ⟨f0, f1, hz, _⟩ := e2.zz
  exact ⟨⟨_, hz, rfl⟩, hQ h' n e1 e2 e3 e4⟩

theorem zn_end0 {z TI TO : Addr} {k : Nat} {Q : Fin → Shared → Prop} (hh : A.handled = none) (S : ZSt s.heap z TI TO [] k)
    (hE : ∀ h' e, (∀ c o, s.heap.get? c = some o → h'.get? c = some o) → (∃ o, h'.get? e = some o ∧ o.cls = .type "StopIteration") → E (.ref e) { s with heap := h' }) :
    wpAny (model prog w) A (Builtin.«zip.__next__» ⟨[.ref z], []⟩) Q E s := by
  obtain ⟨⟨f0, f1, hz, hf0⟩, hTI, ⟨arr, ha, hTO⟩, hits⟩ := S
  show wpAny _ _ (field (.ref z) 2 >>= _) _ _ _
  refine wpAny_bind (wpAny_field hz rfl (x := .bool false) rfl ?_)
  show wpAny _ _ (field (.ref z) 3 >>= _) _ _ _
  refine wpAny_bind (wpAny_field hz rfl (x := .ref TI) rfl ?_)
  refine wpAny_bind (wpAny_seqItems hTI rfl ?_)
  have hne : (([] : List (Addr × Addr)).map fun p => Value.ref p.1).toArray.isEmpty = true := rfl
  simp only [hne, if_true]
  refine wpAny_bind (wpAny_rule ?_)
  refine wpAny_bind ?_
  unfold Builtin.SmallTypes.stopIteration
  show wpAny _ _ (newExc (.type "StopIteration") [] >>= _) _ _ _
  refine wpAny_bind ?_
  simp only [newExc, newTuple]
  refine wpAny_bind (wpAny_newObj_type ?_ (by size_fits))
  refine wpAny_bind (m := firstArgMember _ _) (wpAny_of_eq (a := Value.none) (by first | rfl | (simp only [firstArgMember]; rfl)) ?_)
  refine wpAny_newObj_type ?_ (by size_fits)
  simp only [raiseNew]
  refine wpAny_bind (wpAny_handled ?_)
  first | rw [show A.in1.handled = none from hh] | rw [hh]
  refine wpAny_bind (wpAny_pure (wpAny_throw ?_))
  exact hE _ _ (fun c o e => Heap.get?_push_of_some _ (Heap.get?_push_of_some _ e)) ⟨_, Heap.get?_push_size _ rfl, rfl⟩
theorem pyNext_zn_end0 {z TI TO : Addr} {k : Nat} {Q : Option Value → Shared → Prop} (hh : A.handled = none) (S : ZSt s.heap z TI TO [] k)
    (hQ : ∀ h', (∀ c o, s.heap.get? c = some o → h'.get? c = some o) → Q none { s with heap := h' }) :
    wpAny (model prog w) A (pyNext (.ref z)) Q E s := by
  obtain ⟨f0, f1, hz, hf0⟩ := S.zz
  have hT : s.TypeIs (.ref z) "zip" := ⟨_, hz, rfl⟩
  unfold pyNext
  refine wpAny_bind (wpAny_attempt (wpAny_callSpecial?_slot (name := Str.ofString "__next__") hT F.slot_zip_next
    (wpAny_call_entry F.slot_zip_next hT F.entry_zip_next (zn_end0 hh S fun h' e hk he => ?_) (F.args_zip_next_1 _))))
  obtain ⟨o, ho, hc⟩ := he
  exact wpAny_bind (wpAny_isInstance (T := "StopIteration") (b := true) ⟨o, ho, hc⟩ isSubtype_stop (wpAny_pure (hQ _ hk)))
end
theorem turn_z0 {P : Program} {w : World} {K : PySem.W.Frag} {x : Str} {xp : Pos} {n : Nat} :
    Turn P w K (.Name x xp) (ItzN K [] [] 0) [n + 2, n, n + 1] (n + 2) (fun i h => ZSt h (n + 2) n (n + 1) [] i) where
  mem := List.mem_cons_self
  obj := fun i h S b hb => by
    obtain ⟨⟨f0, f1, hz, _⟩, hTI, ⟨arr, _, hTO⟩, hits⟩ := S
    rcases List.mem_cons.mp hb with rfl | hb
    · exact ⟨_, hz, fun v q => nomatch q⟩
    rcases List.mem_cons.mp hb with rfl | hb
    · exact ⟨_, hTI, fun v q => nomatch q⟩
    rcases List.mem_cons.mp hb with rfl | hb
    · exact ⟨_, hTO, fun v q => nomatch q⟩
    · cases hb
  keep := fun i h h' S k => S.keeps fun b hb o y => k b (by simpa [zfp] using hb) o y
  item := by
    intro X hP hw hK hc i pins s σ H E I hf S hg
    exact absurd hg.1 (Nat.not_lt_zero _)
  done := by
    intro X hP hw hK hc i pins s σ H E I hf S hg
    subst hP hw hK
    exact pyNext_zn_end0 (I.ok.hd hc) S fun h' hk => ⟨rfl, I.kept (t' := s.toks) hk⟩
  self := fun A i s Q E S h => pyIter_zn S h
/-- for x in zip(*e), e a list or tuple of at most four tuples of one length -/
def iZipO (K : PySem.W.Frag) (te : TE) : TI := fun σ H R => te σ H fun y H1 => ∃ (a : Addr) (ls : List Addr) (rows : List (List V)) (m : Nat), y = .ref a ∧ (SqT K H1 a (ls.map V.ref) ∨ SqL K H1 a (ls.map V.ref)) ∧
  ls.length ≤ 4 ∧ (ls = [] → m = 0) ∧ Rws K H1 ls rows m ∧ R (ItzN K ls rows m) H1
theorem pi_zipO {X : Cx} {e : Expr} {te : TE} {p pos spos xp : Pos} {x : Str} (hg : Gl X "zip") (hm : X.mg "zip" = none) (he : PE X e te)
    (hst : starEach [.Starred e spos] X.env = [(true, eval e X.env)] := by rfl) :
    PI X (.Name x xp) (.Call (.Name "zip" p) [.Starred e spos] [] pos) (iZipO X.K te) := by
  refine ⟨fun pins s σ H R I h => ?_⟩
  refine wpAny_Call_Name_kw (ld_blt I hg hm PyProof.Rows.boot_zip ?_)
  rw [hst]
  refine PySem.W.ks_call (P := fun _ => True) rfl (fun h _ => ⟨.machine, .inr (.inl rfl), fun A Q E s _ q => wpAny_pure q⟩) (PySem.W.ks_lone ?_)
  refine thn (he.run pins s σ H _ I h) fun v s1 ⟨y, H1, I1, ry, a, ls, rows, m, ey, hx, h2, hm0, Rw, q⟩ => ?_
  subst ey
  obtain rfl : v = Value.ref a := ry
  refine StX.star_any I1 hx fun us s2 I2 rv => ⟨trivial, ?_⟩
  obtain rfl := vals_refs rv
  have tup : ∀ l ∈ ls, ∃ xs, s2.heap.IsTuple l xs := fun l hl => by
    obtain ⟨j, hj⟩ := List.mem_iff_getElem?.mp hl
    have hjl := (List.getElem?_eq_some_iff.mp hj).1
    have hjr : rows[j]? = some (rows[j]'(by have := Rw.len; omega)) := List.getElem?_eq_getElem (by have := Rw.len; omega)
    obtain ⟨its, _, ⟨o, ho, hc, n, hd⟩, _⟩ := I2.tuple (Rw.at_ j l _ hj hjr).1
    exact ⟨its.toArray, o, ho, hc, n, hd⟩
  refine call_zipM h2 tup fun h' n en S hsz hk => ?_
  have I3 : Inv X pins σ H1 { s2 with heap := h' } := I2.kept (t' := s2.toks) hk
  have hlt : ∀ l ∈ ls, l < n := fun l hl => by
    obtain ⟨xs, o, ho, _⟩ := tup l hl
    rw [en]
    exact Heap.lt_size ho
  cases ls with
  | nil =>
    obtain rfl := hm0 rfl
    obtain rfl : rows = [] := List.eq_nil_of_length_eq_zero Rw.len.symm
    refine pyIter_zn (s := { s2 with heap := h' }) S ⟨n + 2, _, _, _, H1, rfl, I3, turn_z0, S, fun b hb => ?_, q⟩
    have hle : s2.heap.objs.size ≤ b := by
      rw [← en]
      rcases List.mem_cons.mp hb with rfl | hb
      · omega
      rcases List.mem_cons.mp hb with rfl | hb
      · omega
      rcases List.mem_cons.mp hb with rfl | hb
      · omega
      · cases hb
    exact I2.fpOk hle (I2.hok.fresh hle)
  | cons l0 ls =>
    refine pyIter_zn (s := { s2 with heap := h' }) S ⟨n + (l0 :: ls).length + 2, _, _, _, H1, rfl, I3, turn_zn (Nat.succ_pos _) h2 hlt, S, fun b hb => ?_, q⟩
    have hle : s2.heap.objs.size ≤ b := by
      rw [← en]
      rcases List.mem_cons.mp hb with rfl | hb
      · omega
      rcases List.mem_cons.mp hb with rfl | hb
      · omega
      rcases List.mem_cons.mp hb with rfl | hb
      · omega
      obtain ⟨p, hp, rfl⟩ := List.mem_map.mp hb
      obtain ⟨j, _, _, e⟩ := zps_mem hp
      exact Nat.le_trans (Nat.le_add_right n j) (Nat.le_of_eq e.symm)
    exact I2.fpOk hle (I2.hok.fresh hle)
theorem walk_zn {K : PySem.W.Frag} {ls : List Addr} {rows : List (List V)} {m : Nat} : Walk (ItzN K ls rows m) m (fun H => Rws K H ls rows m) (fun i H v H' => ∃ T, v = .ref T ∧ H T = none ∧ H' = upd H T (.tup (colV rows i))) :=
  ⟨fun _ _ hi q => ⟨hi, q⟩, fun _ q => ⟨rfl, q⟩, fun _ _ _ _ _ _ y => y⟩
/-- zip of two tuples, the first no longer than the second -/
theorem walk_zipT {K : PySem.W.Frag} {a b : Addr} {xs ys : List V} (hl : xs.length ≤ ys.length) : Walk (ItzT K a b) xs.length (fun H => SqT K H a xs ∧ SqT K H b ys) (YPair (fun i => xs[i]?) (fun i => ys[i]?)) := by
  refine ⟨fun i H hi q => ⟨xs, ys, xs[i], ys[i]'(by omega), q.1, q.2, by simp [hi], List.getElem?_eq_getElem (by omega)⟩, fun H q => ⟨xs, ys, q.1, q.2, .inl (Nat.le_refl _)⟩, fun i H v H' _ q y => ?_⟩
  obtain ⟨T, x', y', rfl, hT, rfl, f1, f2⟩ := y
  exact ⟨T, x', y', rfl, hT, rfl, f1 xs q.1, f2 ys q.2⟩
end DD
/-! zip of up to four tuples and lists -/
namespace DM
open PySem PySem.Spec PyProof.Rows L2 DD
/-- an iterator of a tuple (b) or of a list -/
def IsIt (b : Bool) (h : Heap) (i l : Addr) (k : Nat) : Prop := ∃ o, h.get? i = some o ∧ o.cls = .type (if b then "tuple_iterator" else "list_iterator") ∧ o.data = .fields #[.ref l, .int k 0]
def IsSq (b : Bool) (h : Heap) (l : Addr) (xs : Array Value) : Prop := ∃ o, h.get? l = some o ∧ o.cls = .type (if b then "tuple" else "list") ∧ ∃ n, o.data = .seq xs n
section
variable {prog : Program} {w : World} {A : Around} {E : Value → Shared → Prop} {s : Shared}
theorem nextOf_cur {b : Bool} {it l : Addr} {i : Nat} {items} {x : Value} {Q : Value → Shared → Prop} (hit : IsIt b s.heap it l i)
    (hl : IsSq b s.heap l items) (hx : items[i]? = some x)
    (hQ : ∀ h', IsIt b h' it l (i + 1) → Heap.SameBut it s.heap h' → Q x { s with heap := h' }) :
    wpAny (model prog w) A (Builtin.SmallTypes.nextOf (.ref it)) Q E s := by
  cases b with
  | true => exact RZ.nextOf_tuple_item hit hl hx hQ
  | false => exact wpAny_nextOf_list_item hit hl hx hQ
theorem nextOf_curE {b : Bool} {it l : Addr} {i : Nat} {items} {Q : Value → Shared → Prop} (hh : A.handled = none)
    (hit : IsIt b s.heap it l i) (hl : IsSq b s.heap l items) (hx : items[i]? = none)
    (hE : ∀ h' e, Heap.ExtBut it s.heap h' → (∃ o, h'.get? e = some o ∧ o.cls = .type "StopIteration") → E (.ref e) { s with heap := h' }) :
    wpAny (model prog w) A (Builtin.SmallTypes.nextOf (.ref it)) Q E s := by
  cases b with
  | true => exact RZ.nextOf_tuple_end hh hit hl hx hE
  | false => exact wpAny_nextOf_list_end hh hit hl hx hE
theorem pyIter_cur {b : Bool} {l : Addr} {items} {Q : Value → Shared → Prop} (hl : IsSq b s.heap l items)
    (hQ : Q (.ref s.heap.objs.size) { s with heap := s.heap.push { cls := .type (if b then "tuple_iterator" else "list_iterator"), data := .fields #[.ref l, .int 0 0] } }) :
    wpAny (model prog w) A (pyIter (.ref l)) Q E s := by
  cases b with
  | true => exact wpAny_pyIter_tuple hl hQ
  | false => exact wpAny_pyIter_list hl hQ
theorem letGo_any {elts : List Expr} {x1} {pos : Pos} {z TI TO T : Addr} {f0 f1 : Value} {Q : Unit → Shared → Prop} (hz : s.heap.get? z = some (zObj f0 f1 TI TO)) (hf : f0 = .none ∨ ∃ a t, f0 = .int a t)
    (hQ : ∀ h' g0, (g0 = .none ∨ ∃ a t, g0 = .int a t) → h'.get? z = some (zObj g0 f1 TI TO) → Heap.SameBut z s.heap h' → Q () { s with heap := h' }) :
    wpAny (model prog w) A (letOwnedTupleGo (.Tuple elts x1 pos) (.ref z) (.ref T)) Q E s := by
  unfold letOwnedTupleGo
  refine wpAny_bind (wpAny_load hz ?_)
  show wpAny _ _ (if (["enumerate", "zip", "dict_itemiterator", "dict_reverseitemiterator", "odict_iterator", "itertools.zip_longest", "itertools.pairwise"].contains "zip" &&
      (#[f0, f1, .bool false, .ref TI, .ref TO] : Array Value)[0]? == some (rawInt T)) = true then _ else _) Q E s
  split
  · refine wpAny_bind (wpAny_rule ?_)
    show wpAny _ _ (setField (.ref z) 0 .none) Q E s
    exact wpAny_setField_rec hz (by simp) fun h' hz' hs' => hQ h' .none (.inl rfl) hz' hs'
  · exact wpAny_pure (hQ s.heap f0 hf hz (Heap.SameBut.refl _ _))
end
structure ZSt (kd : Addr → Bool) (h : Heap) (z TI TO : Addr) (ps : List (Addr × Addr)) (k : Nat) : Prop where
  zz : ∃ f0 f1, h.get? z = some (zObj f0 f1 TI TO) ∧ (f0 = .none ∨ ∃ a t, f0 = .int a t)
  ti : h.get? TI = some (tObj (ps.map fun p => Value.ref p.1).toArray)
  to : ∃ arr : Array Value, arr.size = ps.length ∧ h.get? TO = some (tObj arr)
  its : ∀ p ∈ ps, IsIt (kd p.2) h p.1 p.2 k


/-- the objects but z, TO and the iterators stand; the first j iterators have turned -/
structure ZMid (kd : Addr → Bool) (g h : Heap) (z TO : Addr) (ps : List (Addr × Addr)) (k j : Nat) : Prop where
  size : h.objs.size = g.objs.size
  keep : ∀ c o, c ≠ z → c ≠ TO → (∀ p ∈ ps, c ≠ p.1) → g.get? c = some o → h.get? c = some o
  its : ∀ (i : Nat) (p : Addr × Addr), ps[i]? = some p → IsIt (kd p.2) h p.1 p.2 (if i < j then k + 1 else k)

section
variable {prog : Program} {w : World} {A : Around} {E : Value → Shared → Prop} {s : Shared} {z TI TO : Addr} {ps : List (Addr × Addr)} {k : Nat} {kd : Addr → Bool}
/-- one iterator's turn -/
theorem draw_one {g h : Heap} {j : Nat} {p : Addr × Addr} {xs : Array Value} {v : Value} {Q : Value → Shared → Prop} (D : ZApart z TI TO ps) (m : ZMid kd g h z TO ps k j)
    (hp : ps[j]? = some p) (hl : IsSq (kd p.2) g p.2 xs) (hx : xs[k]? = some v)
    (hQ : ∀ h', ZMid kd g h' z TO ps k (j + 1) → Heap.SameBut p.1 h h' → Q v { s with heap := h' }) :
    wpAny (model prog w) A (Builtin.SmallTypes.nextOf (.ref p.1)) Q E { s with heap := h } := by
  have hm : p ∈ ps := List.mem_of_getElem? hp
  have h1 : IsIt (kd p.2) h p.1 p.2 k := by
    have := m.its j p hp
    rwa [if_neg (Nat.lt_irrefl j)] at this
  have h2 : IsSq (kd p.2) h p.2 xs := by
    obtain ⟨o, e, c⟩ := hl
    exact ⟨o, m.keep _ _ (D.pz p hm).2.2.2.1 (D.pz p hm).2.2.2.2 (fun q hq => D.px p hm q hq) e, c⟩
  refine nextOf_cur (s := { s with heap := h }) h1 h2 hx fun h' hi hs => hQ h' ⟨hs.1.trans m.size, fun c o c1 c2 c3 e => ?_, fun i q hq => ?_⟩ hs
  · rw [hs.2 c (c3 p hm)]
    exact m.keep c o c1 c2 c3 e
  · by_cases hij : i = j
    · subst hij
      rw [hp] at hq
      cases hq
      rw [if_pos (Nat.lt_succ_self _)]
      exact hi
    · have hqi := m.its i q hq
      have hne := ptr_ne D.nd hq hp hij
      rw [show (if i < j + 1 then k + 1 else k) = (if i < j then k + 1 else k) by
        by_cases hlt : i < j
        · rw [if_pos hlt, if_pos (by omega)]
        · rw [if_neg hlt, if_neg (by omega)]]
      obtain ⟨o, e, c⟩ := hqi
      exact ⟨o, (hs.2 _ hne).trans e, c⟩
theorem ZMid.full {g h : Heap} (m : ZMid kd g h z TO ps k ps.length) : ∀ p ∈ ps, IsIt (kd p.2) h p.1 p.2 (k + 1) := fun p hp => by
  obtain ⟨i, hi⟩ := List.mem_iff_getElem?.mp hp
  obtain ⟨hl, _⟩ := List.getElem?_eq_some_iff.mp hi
  have := m.its i p hi
  rwa [if_pos hl] at this

theorem zn_item {vs : List Value} {Q : Value → Shared → Prop} (D : ZApart z TI TO ps) (hn : 1 ≤ ps.length) (hn2 : ps.length ≤ 1000) (S : ZSt kd s.heap z TI TO ps k)
    (hv : vs.length = ps.length) (hi : ∀ (j : Nat) (p : Addr × Addr), ps[j]? = some p → ∃ xs, IsSq (kd p.2) s.heap p.2 xs ∧ xs[k]? = vs[j]?)
    (hQ : ∀ h', ZSt kd h' z TI TO ps (k + 1) → h'.get? s.heap.objs.size = some (tObj vs.toArray) → h'.objs.size = s.heap.objs.size + 1 →
      (∀ c o, c ≠ z → c ≠ TO → (∀ p ∈ ps, c ≠ p.1) → s.heap.get? c = some o → h'.get? c = some o) → Q (.ref s.heap.objs.size) { s with heap := h' }) :
    wpAny (model prog w) A (Builtin.«zip.__next__» ⟨[.ref z], []⟩) (fun fin s' => ∃ v, fin = .done (.ret v) ∧ Q v s') E s := by
  obtain ⟨⟨f0, f1, hz, hf0⟩, hTI, ⟨arr, ha, hTO⟩, hits⟩ := S
  show wpAny _ _ (field (.ref z) 2 >>= _) _ _ _
  refine wpAny_bind (wpAny_field hz rfl (x := .bool false) rfl ?_)
  show wpAny _ _ (field (.ref z) 3 >>= _) _ _ _
  refine wpAny_bind (wpAny_field hz rfl (x := .ref TI) rfl ?_)
  refine wpAny_bind (wpAny_seqItems hTI rfl ?_)
  have hne : (ps.map fun p => Value.ref p.1).toArray.isEmpty = false := by
    cases ps with
    | nil => simp at hn
    | cons p r => rfl
  simp only [hne, Bool.false_eq_true, if_false]
  have m0 : ∀ h, Heap.SameBut z s.heap h → ZMid kd s.heap h z TO ps k 0 := fun h hs =>
    ⟨hs.1, fun c o c1 _ _ e => (hs.2 c c1).trans e, fun i p hp => by
      rw [if_neg (Nat.not_lt_zero _)]
      have hm := List.mem_of_getElem? hp
      obtain ⟨o, e, c⟩ := hits p hm
      exact ⟨o, (hs.2 _ (D.pz p hm).1).trans e, c⟩⟩
  refine wpAny_bind (wpAny_mono (free_or hz hf0) (fun b s' hb => ?_) fun _ _ e => e)
  rcases hb with ⟨rfl, rfl⟩ | ⟨rfl, h1, f2, rfl, hz1, hs1⟩
  · simp only [if_true]
    refine wpAny_bind (wpAny_rule ?_)
    refine wpAny_bind (wpAny_field hz rfl (x := .ref TO) rfl ?_)
    refine wpAny_bind (wpAny_setField_rec hz (by simp) fun h1 hz1 hs1 => ?_)
    replace hz1 : h1.get? z = some (zObj .ellipsis f1 TI TO) := hz1
    have nTI : ∀ p ∈ ps, TI ≠ p.1 := fun p hp q => (D.pz p hp).2.1 q.symm
    refine wpAny_bind (thn (wp_forIn _ _ (fun j b s2 => b = (none, ()) ∧ ∃ (h : Heap) (a2 : Array Value), s2 = { s' with heap := h } ∧ ZMid kd s'.heap h z TO ps k j ∧
      h.get? z = some (zObj .ellipsis f1 TI TO) ∧ a2.size = ps.length ∧ (∀ i, i < j → a2[i]? = vs[i]?) ∧ h.get? TO = some (tObj a2)) ?step _ _ ?init) fun b s2 hb => ?last)
    case init => exact ⟨rfl, h1, arr, rfl, m0 h1 hs1, hz1, ha, fun i hi => absurd hi (Nat.not_lt_zero _), (hs1.2 _ D.oz).trans hTO⟩
    case step =>
      rintro j x b s2 hx ⟨rfl, h, a2, rfl, m, hz2, hs2, pre, hTO2⟩
      rw [List.getElem?_zipIdx, List.getElem?_map] at hx
      cases hp : ps[j]? with
      | none =>
        rw [hp] at hx
        cases hx
      | some p =>
        rw [hp] at hx
        obtain rfl : (Value.ref p.1, 0 + j) = x := Option.some.inj hx
        obtain ⟨xs, hl, hxk⟩ := hi j p hp
        have hm : p ∈ ps := List.mem_of_getElem? hp
        have hj : j < ps.length := (List.getElem?_eq_some_iff.mp hp).1
        have hjv : vs[j]? = some (vs[j]'(by omega)) := List.getElem?_eq_getElem (by omega)
        refine wpAny_bind (wpAny_onRaise ?_)
        show wpAny _ _ (Builtin.SmallTypes.nextOf (.ref p.1) >>= _) _ _ _
        refine wpAny_bind (draw_one D m hp hl (hxk.trans hjv) fun h' m' hs' => wpAny_pure ?_)
        have hTO' : h'.get? TO = some (tObj a2) := (hs'.2 _ (D.pz p hm).2.2.1.symm).trans hTO2
        refine wpAny_bind (wpAny_seqItems hTO' rfl ?_)
        have hb1 : a2.size ≤ sizeLine := by rw [hs2, sizeLine_eq]; omega
        refine wpAny_bind (wpAny_updateSeq hTO' rfl ?_ hb1 (by rw [Array.size_setIfInBounds, hs2, sizeLine_eq]; omega))
        have sb := Heap.SameBut.update h' TO (Obj.mapSeq fun x => x.setIfInBounds (0 + j) (vs[j]'(by omega)))
        refine wpAny_bind (wpAny_letGo (wpAny_pure ⟨_, rfl, rfl, _, a2.setIfInBounds j (vs[j]'(by omega)), rfl, ⟨sb.1.trans m'.size, fun c o c1 c2 c3 e => (sb.2 c c2).trans (m'.keep c o c1 c2 c3 e), fun i q hq => ?_⟩, ?_, ?_, fun i hij => ?_, ?_⟩))
        · obtain ⟨o, e, c⟩ := m'.its i q hq
          exact ⟨o, (sb.2 _ (D.pz q (List.mem_of_getElem? hq)).2.2.1).trans e, c⟩
        · rw [sb.2 z D.oz.symm, hs'.2 z (D.pz p hm).1.symm]
          exact hz2
        · rw [Array.size_setIfInBounds]
          exact hs2
        · rw [Array.getElem?_setIfInBounds]
          by_cases e : j = i
          · subst e
            rw [if_pos rfl, if_pos (by omega)]
            exact hjv.symm
          · rw [if_neg e]
            exact pre i (by omega)
        · rw [Heap.get?_update_self _ hTO' rfl, Nat.zero_add]
          simp [Obj.mapSeq]
    case last =>
      obtain ⟨rfl, h, a2, rfl, m, hz2, hs2, pre, hTO2⟩ := hb
      rw [List.length_zipIdx, List.length_map] at m pre
      have ea : a2 = vs.toArray := by
        refine Array.ext_getElem? fun i => ?_
        by_cases hlt : i < ps.length
        · rw [pre i hlt, List.getElem?_toArray]
        · rw [Array.getElem?_eq_none (by omega), List.getElem?_toArray, List.getElem?_eq_none (by omega)]
      subst ea
      show wpAny _ _ (seqItems? (.ref TO) >>= _) _ _ _
      refine wpAny_bind (wpAny_seqItems hTO2 rfl ?_)
      refine wpAny_bind (wpAny_newTuple ?_ (by show vs.length ≤ _; rw [sizeLine_eq]; omega))
      show wpAny _ _ (Builtin.SmallTypes.ownedTupleHandOut (.ref z) (.ref h.objs.size) >>= _) _ _ _
      refine wpAny_bind ?_
      unfold Builtin.SmallTypes.ownedTupleHandOut
      have hzp : (h.push (tObj vs.toArray)).get? z = some (zObj .ellipsis f1 TI TO) := Heap.get?_push_of_some _ hz2
      refine wpAny_bind (wpAny_setField_rec hzp (by simp) fun h3 hz3 hs3 => ?_)
      replace hz3 : h3.get? z = some (zObj (rawInt h.objs.size) f1 TI TO) := hz3
      refine wpAny_setField_rec hz3 (by simp) fun h4 hz4 hs4 => ?_
      replace hz4 : h4.get? z = some (zObj (rawInt h.objs.size) (.bool false) TI TO) := hz4
      have hzlt : z < h.objs.size := Heap.lt_size hz2
      have up : ∀ c o, c ≠ z → h.get? c = some o → h4.get? c = some o := fun c o c1 e =>
        (hs4.2 c c1).trans ((hs3.2 c c1).trans (Heap.get?_push_of_some _ e))
      refine wpAny_pure ⟨_, rfl, ?_⟩
      show Q (.ref h.objs.size) _
      have key := hQ h4 ⟨⟨_, _, hz4, .inr ⟨_, _, rfl⟩⟩, up _ _ D.tz (m.keep TI _ D.tz D.it nTI hTI), ⟨_, hs2, up _ _ D.oz hTO2⟩, fun p hp => ?_⟩ ?_ ?_ fun c o c1 c2 c3 e => up c o c1 (m.keep c o c1 c2 c3 e)
      · rw [m.size]
        exact key
      · obtain ⟨o, e, c⟩ := m.full p hp
        exact ⟨o, up _ _ (D.pz p hp).1 e, c⟩
      · rw [← m.size, hs4.2 _ (Nat.ne_of_gt hzlt), hs3.2 _ (Nat.ne_of_gt hzlt)]
        exact Heap.get?_push_size _ rfl
      · rw [hs4.1, hs3.1, Heap.size_push, m.size]
  · simp only [Bool.false_eq_true, if_false, List.forIn_toArray]
    have nTI : ∀ p ∈ ps, TI ≠ p.1 := fun p hp q => (D.pz p hp).2.1 q.symm
    refine wpAny_bind (thn (wp_forIn _ _ (fun j b s2 => b = (none, (vs.take j).toArray) ∧ ∃ (h : Heap), s2 = { s with heap := h } ∧ ZMid kd s.heap h z TO ps k j ∧
      h.get? z = some (zObj f0 f2 TI TO) ∧ h.get? TO = some (tObj arr)) ?step _ _ ?init) fun b s2 hb => ?last)
    case init => exact ⟨rfl, h1, rfl, m0 h1 hs1, hz1, (hs1.2 _ D.oz).trans hTO⟩
    case step =>
      rintro j x b s2 hx ⟨rfl, h, rfl, m, hz2, hTO2⟩
      rw [List.getElem?_map] at hx
      cases hp : ps[j]? with
      | none =>
        rw [hp] at hx
        cases hx
      | some p =>
        rw [hp] at hx
        obtain rfl : Value.ref p.1 = x := Option.some.inj hx
        obtain ⟨xs, hl, hxk⟩ := hi j p hp
        have hm : p ∈ ps := List.mem_of_getElem? hp
        have hj : j < ps.length := (List.getElem?_eq_some_iff.mp hp).1
        have hjv : vs[j]? = some (vs[j]'(by omega)) := List.getElem?_eq_getElem (by omega)
        refine wpAny_bind (wpAny_holding ?_)
        show wpAny _ _ (Builtin.SmallTypes.nextOf (.ref p.1) >>= _) _ _ _
        refine wpAny_bind (draw_one D m hp hl (hxk.trans hjv) fun h' m' hs' => wpAny_pure (wpAny_pure ⟨_, rfl, ?_, h', rfl, m', ?_, ?_⟩))
        · rw [List.take_add_one, hjv]
          simp
        · exact (hs'.2 z (D.pz p hm).1.symm).trans hz2
        · exact (hs'.2 _ (D.pz p hm).2.2.1.symm).trans hTO2
    case last =>
      obtain ⟨rfl, h, rfl, m, hz2, hTO2⟩ := hb
      rw [List.length_map] at m
      rw [List.length_map, List.take_of_length_le (by omega)]
      have hsz : vs.length ≤ sizeLine := by rw [sizeLine_eq]; omega
      show wpAny _ _ (newTuple vs.toArray.toList >>= _) _ _ _
      refine wpAny_bind (wpAny_newTuple ?_ (by simpa using hsz))
      refine wpAny_pure ⟨_, rfl, ?_⟩
      have up : ∀ c o, h.get? c = some o → (h.push (tObj vs.toArray)).get? c = some o := fun c o e => Heap.get?_push_of_some _ e
      have key := hQ (h.push (tObj vs.toArray)) ⟨⟨_, _, up _ _ hz2, hf0⟩, up _ _ (m.keep TI _ D.tz D.it nTI hTI), ⟨_, ha, up _ _ hTO2⟩, fun p hp => ?_⟩ ?_ ?_ fun c o c1 c2 c3 e => up c o (m.keep c o c1 c2 c3 e)
      · show Q (.ref h.objs.size) _
        rw [m.size]
        exact key
      · obtain ⟨o, e, c⟩ := m.full p hp
        exact ⟨o, up _ _ e, c⟩
      · rw [← m.size]
        exact Heap.get?_push_size _ rfl
      · rw [Heap.size_push, m.size]
theorem zn_end {Q : Fin → Shared → Prop} (hh : A.handled = none) (D : ZApart z TI TO ps) (S : ZSt kd s.heap z TI TO ps k) {p : Addr × Addr} {r : List (Addr × Addr)} {xs : Array Value}
    (hps : ps = p :: r) (hl : IsSq (kd p.2) s.heap p.2 xs) (hx : xs[k]? = none)
    (hE : ∀ h' e, (∀ c o, c ≠ z → c ≠ TO → (∀ p ∈ ps, c ≠ p.1) → s.heap.get? c = some o → h'.get? c = some o) →
      (∃ o, h'.get? e = some o ∧ o.cls = .type "StopIteration") → E (.ref e) { s with heap := h' }) :
    wpAny (model prog w) A (Builtin.«zip.__next__» ⟨[.ref z], []⟩) Q E s := by
  obtain ⟨⟨f0, f1, hz, hf0⟩, hTI, ⟨arr, ha, hTO⟩, hits⟩ := S
  have hm : p ∈ ps := by rw [hps]; exact List.mem_cons_self
  show wpAny _ _ (field (.ref z) 2 >>= _) _ _ _
  refine wpAny_bind (wpAny_field hz rfl (x := .bool false) rfl ?_)
  show wpAny _ _ (field (.ref z) 3 >>= _) _ _ _
  refine wpAny_bind (wpAny_field hz rfl (x := .ref TI) rfl ?_)
  refine wpAny_bind (wpAny_seqItems hTI rfl ?_)
  have hne : (ps.map fun p => Value.ref p.1).toArray.isEmpty = false := by
    rw [hps]
    rfl
  simp only [hne, Bool.false_eq_true, if_false]
  have it1 := hits p hm
  have kz : ∀ h1, Heap.SameBut z s.heap h1 → IsIt (kd p.2) h1 p.1 p.2 k ∧ IsSq (kd p.2) h1 p.2 xs := fun h1 hs1 =>
    ⟨by obtain ⟨o, e, c⟩ := it1; exact ⟨o, (hs1.2 _ (D.pz p hm).1).trans e, c⟩, by obtain ⟨o, e, c⟩ := hl; exact ⟨o, (hs1.2 _ (D.pz p hm).2.2.2.1).trans e, c⟩⟩
  refine wpAny_bind (wpAny_mono (free_or hz hf0) (fun b s' hb => ?_) fun _ _ e => e)
  rcases hb with ⟨rfl, rfl⟩ | ⟨rfl, h1, f2, rfl, hz1, hs1⟩
  · simp only [if_true]
    refine wpAny_bind (wpAny_rule ?_)
    refine wpAny_bind (wpAny_field hz rfl (x := .ref TO) rfl ?_)
    refine wpAny_bind (wpAny_setField_rec hz (by simp) fun h1 hz1 hs1 => ?_)
    replace hz1 : h1.get? z = some (zObj .ellipsis f1 TI TO) := hz1
    obtain ⟨q1, q2⟩ := kz h1 hs1
    refine wpAny_bind ?_
    simp only [hps, List.map_cons, List.zipIdx_cons, List.forIn_cons]
    refine wpAny_bind (wpAny_bind (wpAny_onRaise ?_))
    show wpAny _ _ (Builtin.SmallTypes.nextOf (.ref p.1) >>= _) _ _ _
    refine wpAny_bind (nextOf_curE (s := { s' with heap := h1 }) hh q1 q2 hx fun h2 e hs2 he => ?_)
    obtain ⟨oe, hoe, hce⟩ := he
    have hz2 : h2.get? z = some (zObj .ellipsis f1 TI TO) := hs2 _ _ (D.pz p hm).1.symm hz1
    have hez : e ≠ z := fun x => by
      subst x
      rw [hz2] at hoe
      cases hoe
      simp at hce
    refine wpAny_setField_rec hz2 (by simp) fun h3 _ hs3 => hE h3 e (fun c o c1 _ c3 x => (hs3.2 _ c1).trans (hs2 _ _ (c3 p hm) ((hs1.2 _ c1).trans x))) ⟨oe, (hs3.2 _ hez).trans hoe, hce⟩
  · simp only [Bool.false_eq_true, if_false, List.forIn_toArray]
    obtain ⟨q1, q2⟩ := kz h1 hs1
    refine wpAny_bind ?_
    simp only [hps, List.map_cons, List.forIn_cons]
    refine wpAny_bind (wpAny_bind (wpAny_holding ?_))
    show wpAny _ _ (Builtin.SmallTypes.nextOf (.ref p.1) >>= _) _ _ _
    refine wpAny_bind (nextOf_curE (s := { s with heap := h1 }) hh q1 q2 hx fun h2 e hs2 he => hE h2 e (fun c o c1 _ c3 x => hs2 _ _ (c3 p hm) ((hs1.2 _ c1).trans x)) he)

theorem pyNext_zn_item {vs : List Value} {Q : Option Value → Shared → Prop} (D : ZApart z TI TO ps) (hn : 1 ≤ ps.length) (hn2 : ps.length ≤ 1000) (S : ZSt kd s.heap z TI TO ps k)
    (hv : vs.length = ps.length) (hi : ∀ (j : Nat) (p : Addr × Addr), ps[j]? = some p → ∃ xs, IsSq (kd p.2) s.heap p.2 xs ∧ xs[k]? = vs[j]?)
    (hQ : ∀ h', ZSt kd h' z TI TO ps (k + 1) → h'.get? s.heap.objs.size = some (tObj vs.toArray) → h'.objs.size = s.heap.objs.size + 1 →
      (∀ c o, c ≠ z → c ≠ TO → (∀ p ∈ ps, c ≠ p.1) → s.heap.get? c = some o → h'.get? c = some o) → Q (some (.ref s.heap.objs.size)) { s with heap := h' }) :
    wpAny (model prog w) A (pyNext (.ref z)) Q E s := by
  obtain ⟨f0, f1, hz, hf0⟩ := S.zz
  have hT : s.TypeIs (.ref z) "zip" := ⟨_, hz, rfl⟩
  unfold pyNext
  exact wpAny_bind (wpAny_attempt (wpAny_callSpecial?_slot (name := Str.ofString "__next__") hT F.slot_zip_next
    (wpAny_call_entry F.slot_zip_next hT F.entry_zip_next (zn_item D hn hn2 S hv hi fun h' a1 a2 a3 a4 => wpAny_pure (hQ h' a1 a2 a3 a4)) (F.args_zip_next_1 _))))
theorem pyNext_zn_end {Q : Option Value → Shared → Prop} (hh : A.handled = none) (D : ZApart z TI TO ps) (S : ZSt kd s.heap z TI TO ps k) {p : Addr × Addr} {r : List (Addr × Addr)} {xs : Array Value}
    (hps : ps = p :: r) (hl : IsSq (kd p.2) s.heap p.2 xs) (hx : xs[k]? = none)
    (hQ : ∀ h', (∀ c o, c ≠ z → c ≠ TO → (∀ p ∈ ps, c ≠ p.1) → s.heap.get? c = some o → h'.get? c = some o) → Q none { s with heap := h' }) :
    wpAny (model prog w) A (pyNext (.ref z)) Q E s := by
  obtain ⟨f0, f1, hz, hf0⟩ := S.zz
  have hT : s.TypeIs (.ref z) "zip" := ⟨_, hz, rfl⟩
  unfold pyNext
  refine wpAny_bind (wpAny_attempt (wpAny_callSpecial?_slot (name := Str.ofString "__next__") hT F.slot_zip_next
    (wpAny_call_entry F.slot_zip_next hT F.entry_zip_next (zn_end hh D S hps hl hx fun h' e hk he => ?_) (F.args_zip_next_1 _))))
  obtain ⟨o, ho, hc⟩ := he
  exact wpAny_bind (wpAny_isInstance (T := "StopIteration") (b := true) ⟨o, ho, hc⟩ isSubtype_stop (wpAny_pure (hQ _ hk)))

theorem iterAll_tups {ls : List Addr} {Q : List Value → Shared → Prop} (hl : ∀ l ∈ ls, ∃ xs, IsSq (kd l) s.heap l xs)
    (hQ : ∀ h' its, its.length = ls.length → (∀ i, i < ls.length → its[i]? = some (.ref (s.heap.objs.size + i))) → h'.objs.size = s.heap.objs.size + ls.length →
      (∀ c o, s.heap.get? c = some o → h'.get? c = some o) → (∀ (i : Nat) (l : Addr), ls[i]? = some l → IsIt (kd l) h' (s.heap.objs.size + i) l 0) → Q its { s with heap := h' }) :
    wpAny (model prog w) A (Builtin.SmallTypes.iterAll (ls.map Value.ref)) Q E s := by
  unfold Builtin.SmallTypes.iterAll
  refine wpAny_bind (thn (wp_forIn _ _ (fun j (b : Array Value) s2 => b.size = j ∧ (∀ i, i < j → b[i]? = some (.ref (s.heap.objs.size + i))) ∧ ∃ h, s2 = { s with heap := h } ∧ h.objs.size = s.heap.objs.size + j ∧
    (∀ c o, s.heap.get? c = some o → h.get? c = some o) ∧ ∀ (i : Nat) (l : Addr), i < j → ls[i]? = some l → IsIt (kd l) h (s.heap.objs.size + i) l 0) ?step _ _ ?init) fun b s2 hb => ?last)
  case init => exact ⟨rfl, fun i hi => absurd hi (Nat.not_lt_zero _), s.heap, rfl, rfl, fun _ _ e => e, fun i _ hi => absurd hi (Nat.not_lt_zero _)⟩
  case step =>
    rintro j x b s2 hx ⟨hbs, hb, h, rfl, hsz, hk, hit⟩
    rw [List.getElem?_map] at hx
    cases hp : ls[j]? with
    | none =>
      rw [hp] at hx
      cases hx
    | some l =>
      rw [hp] at hx
      obtain rfl : Value.ref l = x := Option.some.inj hx
      obtain ⟨xs, ol, e, c⟩ := hl l (List.mem_of_getElem? hp)
      refine wpAny_bind (wpAny_holding (pyIter_cur (b := kd l) (s := { s with heap := h }) ⟨ol, hk _ _ e, c⟩ ?_))
      refine wpAny_pure ⟨_, rfl, by rw [Array.size_push, hbs], fun i hij => ?_, _, rfl, by rw [Heap.size_push, hsz]; omega, fun c o e => Heap.get?_push_of_some _ (hk c o e), fun i l' hij hl' => ?_⟩
      · show (b.push (Value.ref h.objs.size))[i]? = _
        rw [Array.getElem?_push]
        by_cases e : i = b.size
        · rw [if_pos e, hsz, e, hbs]
        · rw [if_neg e]
          exact hb i (by omega)
      · by_cases e : i = j
        · subst e
          rw [hp] at hl'
          cases hl'
          refine ⟨{ cls := .type (if kd l then "tuple_iterator" else "list_iterator"), data := .fields #[.ref l, .int 0 0] }, ?_, rfl, rfl⟩
          rw [← hsz]
          exact Heap.get?_push_size _ rfl
        · obtain ⟨o, e1, c⟩ := hit i l' (by omega) hl'
          exact ⟨o, Heap.get?_push_of_some _ e1, c⟩
  case last =>
    obtain ⟨hbs, hb, h, rfl, hsz, hk, hit⟩ := hb
    rw [List.length_map] at hbs hb hsz hit
    refine wpAny_pure (hQ h b.toList (by rw [Array.length_toList]; exact hbs) (fun i hi => by rw [Array.getElem?_toList]; exact hb i hi) hsz hk fun i l e => ?_)
    exact hit i l (List.getElem?_eq_some_iff.mp e).1 e

theorem zip_newN {ls : List Addr} {Q : Value → Shared → Prop} (h1 : 1 ≤ ls.length) (h2 : ls.length ≤ 4) (hl : ∀ l ∈ ls, ∃ xs, IsSq (kd l) s.heap l xs)
    (hQ : ∀ h' n, n = s.heap.objs.size → ZSt kd h' (n + ls.length + 2) (n + ls.length) (n + ls.length + 1) (ls.zipIdx.map fun x => (n + x.2, x.1)) 0 → h'.objs.size = n + ls.length + 3 →
      (∀ c o, s.heap.get? c = some o → h'.get? c = some o) → Q (.ref (n + ls.length + 2)) { s with heap := h' }) :
    wpAny (model prog w) A (Builtin.«zip.__new__» ⟨.type "zip" :: ls.map Value.ref, []⟩) (fun fin s' => ∃ v, fin = .done (.ret v) ∧ Q v s') E s := by
  have hsub := sub_zip
  have hc : wpAny (model prog w) A (Builtin.SmallTypes.newClass "zip" ⟨.type "zip" :: ls.map Value.ref, []⟩) (fun r s' => r = (.type "zip", ls.map Value.ref) ∧ s' = s) E s := by
    unfold Builtin.SmallTypes.newClass
    wp_walk
    exact ⟨rfl, rfl⟩
  unfold Builtin.«zip.__new__»
  refine wpAny_bind (thn hc ?_)
  rintro _ _s ⟨rfl, rfl⟩
  show wpAny _ _ (Builtin.SmallTypes.iterAll (ls.map Value.ref) >>= _) _ _ _
  refine wpAny_bind (iterAll_tups hl fun h1' its hil hi hsz hk hit => ?_)
  have hsl : its.length ≤ sizeLine := by rw [hil, sizeLine_eq]; omega
  refine wpAny_bind (wpAny_newTuple ?_ hsl)
  refine wpAny_bind (wpAny_newTuple ?_ (by rw [List.length_map]; exact hsl))
  refine wpAny_bind ?_
  unfold Builtin.SmallTypes.newRecord
  refine wpAny_newObj_type ?_ (show (5 : Nat) ≤ sizeLine + 2 by rw [sizeLine_eq]; omega)
  refine wpAny_pure ⟨_, rfl, ?_⟩
  have z1 : (h1'.push (tObj its.toArray)).objs.size = h1'.objs.size + 1 := Heap.size_push ..
  have z2 : ((h1'.push (tObj its.toArray)).push (tObj (its.map fun _ => Value.none).toArray)).objs.size = h1'.objs.size + 2 := by rw [Heap.size_push, z1]
  have fin : Q (.ref ((h1'.push (tObj its.toArray)).push (tObj (its.map fun _ => Value.none).toArray)).objs.size)
      { _s with heap := ((h1'.push (tObj its.toArray)).push (tObj (its.map fun _ => Value.none).toArray)).push (zObj .none (.bool false) h1'.objs.size (h1'.push (tObj its.toArray)).objs.size) } := by
    rw [z2, z1, hsz]
    refine hQ _ _ rfl ⟨⟨.none, .bool false, ?_, .inl rfl⟩, ?_, ⟨(its.map fun _ => Value.none).toArray, ?_, ?_⟩, fun p hp => ?_⟩ ?_ fun c o e => Heap.get?_push_of_some _ (Heap.get?_push_of_some _ (Heap.get?_push_of_some _ (hk c o e)))
    · rw [← hsz, ← z2]
      exact Heap.get?_push_size _ rfl
    · have e : its = (ls.zipIdx.map fun x => (_s.heap.objs.size + x.2, x.1)).map fun p => Value.ref p.1 := by
        refine List.ext_getElem? fun i => ?_
        rw [List.map_map, List.getElem?_map, List.getElem?_zipIdx]
        by_cases hlt : i < ls.length
        · rw [hi i hlt, List.getElem?_eq_getElem hlt]
          simp
        · rw [List.getElem?_eq_none (by omega), List.getElem?_eq_none (by omega)]
          rfl
      rw [← e, ← hsz]
      exact Heap.get?_push_of_some _ (Heap.get?_push_of_some _ (Heap.get?_push_size _ rfl))
    · simp [hil]
    · rw [← hsz, ← z1]
      exact Heap.get?_push_of_some _ (Heap.get?_push_size _ rfl)
    · obtain ⟨x, hx, rfl⟩ := List.mem_map.mp hp
      obtain ⟨i, hxi⟩ := List.mem_iff_getElem?.mp hx
      rw [List.getElem?_zipIdx] at hxi
      cases hl' : ls[i]? with
      | none =>
        rw [hl'] at hxi
        cases hxi
      | some l =>
        rw [hl'] at hxi
        obtain rfl : (l, 0 + i) = x := Option.some.inj hxi
        obtain ⟨o, e, c⟩ := hit i l hl'
        refine ⟨o, ?_, c⟩
        show Heap.get? _ (_s.heap.objs.size + (0 + i)) = some o
        rw [Nat.zero_add]
        exact Heap.get?_push_of_some _ (Heap.get?_push_of_some _ (Heap.get?_push_of_some _ e))
    · rw [Heap.size_push, z2, hsz]
  exact fin
end
section
variable {prog : Program} {w : World} {A : Around} {E : Value → Shared → Prop} {s : Shared} {kd : Addr → Bool}
theorem call_zipN {ls : List Addr} {Q : Value → Shared → Prop} (h1 : 1 ≤ ls.length) (h2 : ls.length ≤ 4) (hl : ∀ l ∈ ls, ∃ xs, IsSq (kd l) s.heap l xs)
    (hQ : ∀ h' n, n = s.heap.objs.size → ZSt kd h' (n + ls.length + 2) (n + ls.length) (n + ls.length + 1) (zps n ls) 0 → h'.objs.size = n + ls.length + 3 →
      (∀ c o, s.heap.get? c = some o → h'.get? c = some o) → Q (.ref (n + ls.length + 2)) { s with heap := h' }) :
    wpAny (model prog w) A (call (.type "zip") (ls.map Value.ref)) Q E s := by
  have m : Meets (Builtin.«zip.__new__» ⟨.type "zip" :: ls.map Value.ref, []⟩) (fun _ R s => (∀ l ∈ ls, ∃ xs, IsSq (kd l) s.heap l xs) ∧
      ∀ h' n, n = s.heap.objs.size → ZSt kd h' (n + ls.length + 2) (n + ls.length) (n + ls.length + 1) (zps n ls) 0 → h'.objs.size = n + ls.length + 3 →
        (∀ c o, s.heap.get? c = some o → h'.get? c = some o) → R (.ok (.ret (.ref (n + ls.length + 2)))) { s with heap := h' }) :=
    .of_wp fun prog w A R s h => zip_newN h1 h2 h.1 h.2
  refine callType_new F.called_zip (by decide) (typeCall_zipN _ (by simpa using h1) (by simpa using h2)) (newCall_zipN _ (by simpa using h1) (by simpa using h2))
    (fun obj => args_object_initN obj _ (by simpa using h1) (by simpa using h2)) F.entry_zip_new m ⟨hl, fun h' n e1 e2 e3 e4 => ?_⟩
  obtain ⟨f0, f1, hz, _⟩ := e2.zz
  exact ⟨⟨_, hz, rfl⟩, hQ h' n e1 e2 e3 e4⟩
theorem pyIter_zn {z TI TO : Addr} {ps : List (Addr × Addr)} {k : Nat} {Q : Value → Shared → Prop} (S : ZSt kd s.heap z TI TO ps k) (h : Q (.ref z) s) : wpAny (model prog w) A (pyIter (.ref z)) Q E s := by
  obtain ⟨f0, f1, hz, _⟩ := S.zz
  have hT : s.TypeIs (.ref z) "zip" := ⟨_, hz, rfl⟩
  refine wpAny_pyIter_slot hT F.slot_zip_iter (wpAny_call_entry F.slot_zip_iter hT F.entry_zip_iter ?_ (F.args_zip_iter_1 _))
  exact (show wpAny _ _ (ret (.ref z)) _ _ s from wpAny_pure ⟨_, rfl, "zip", _, hT, F.slot_zip_next.lookup, h⟩)
end

end DM
namespace DM
open PySem PySem.Spec PyProof.Rows L2 DD
def SqX (K : PySem.W.Frag) (b : Bool) (H : Hp) (a : Addr) (xs : List V) : Prop := match b with | true => SqT K H a xs | false => SqL K H a xs
/-- the tuples and lists at ls hold rows, none shorter than m, the first of length m -/
structure Rwm (K : PySem.W.Frag) (kd : Addr → Bool) (H : Hp) (ls : List Addr) (rows : List (List V)) (m : Nat) : Prop where
  len : ls.length = rows.length
  at_ : ∀ (j : Nat) (a : Addr) (r : List V), ls[j]? = some a → rows[j]? = some r → SqX K (kd a) H a r ∧ m ≤ r.length
theorem sq_of {X : Cx} {pins : List (Addr × Obj)} {σ : L2.St} {H : Hp} {s : Shared} {b : Bool} {a : Addr} {xs : List V} (I : Inv X pins σ H s) (q : SqX X.K b H a xs) :
    ∃ its : List Value, Vals xs its ∧ IsSq b s.heap a its.toArray := by
  cases b with
  | true =>
    obtain ⟨its, rv, ⟨o, ho, hc, n, hd⟩, _⟩ := I.tuple q
    exact ⟨its, rv, o, ho, hc, n, hd⟩
  | false =>
    obtain ⟨its, rv, p, _⟩ := I.list q
    exact ⟨its, rv, p.isList⟩
theorem Rwm.vals {X : Cx} {pins : List (Addr × Obj)} {σ : L2.St} {H : Hp} {s : Shared} {kd : Addr → Bool} {m i : Nat} (I : Inv X pins σ H s) (hi : i < m) : ∀ {ls : List Addr} {rows : List (List V)}, Rwm X.K kd H ls rows m →
    ∃ us : List Value, Vals (colV rows i) us ∧ ∀ (j : Nat) (a : Addr), ls[j]? = some a → ∃ xs, IsSq (kd a) s.heap a xs ∧ xs[i]? = us[j]?
  | [], [], _ => ⟨[], .nil, fun j a e => by simp at e⟩
  | [], _ :: _, R => by have := R.len; simp at this
  | _ :: _, [], R => by have := R.len; simp at this
  | a :: ls, r :: rows, R => by
    obtain ⟨us, h1, h2⟩ := Rwm.vals I hi (ls := ls) (rows := rows) ⟨by have := R.len; simpa using this, fun j a' r' e1 e2 => R.at_ (j + 1) a' r' e1 e2⟩
    obtain ⟨q, hl⟩ := R.at_ 0 a r rfl rfl
    obtain ⟨its, rv, p⟩ := sq_of I q
    have hr : r[i]? = some (r.getD i .non) := by
      rw [List.getD_eq_getElem?_getD, List.getElem?_eq_getElem (by omega)]
      rfl
    obtain ⟨u, hu, ru⟩ := rv.get hr
    refine ⟨u :: us, .cons ru h1, fun j a' e => ?_⟩
    cases j with
    | zero =>
      obtain rfl : a = a' := Option.some.inj e
      exact ⟨its.toArray, p, by simpa using hu⟩
    | succ j => exact h2 j a' e
def ItzM (K : PySem.W.Frag) (kd : Addr → Bool) (ls : List Addr) (rows : List (List V)) (m : Nat) : It :=
  ⟨fun i H => i < m ∧ Rwm K kd H ls rows m, fun i H v H' => ∃ T, v = .ref T ∧ H T = none ∧ H' = upd H T (.tup (colV rows i)), fun i H => i = m ∧ Rwm K kd H ls rows m⟩
theorem turn_zm {P : Program} {w : World} {K : PySem.W.Frag} {elts : List Expr} {kk : Nat} {tpos : Pos} {n m : Nat} {kd : Addr → Bool} {ls : List Addr} {rows : List (List V)} (h1 : 1 ≤ ls.length) (h2 : ls.length ≤ 4) (hlt : ∀ l ∈ ls, l < n) (hm : ∀ r, rows[0]? = some r → r.length = m) :
    Turn P w K (.Tuple elts kk tpos) (ItzM K kd ls rows m) ((n + ls.length + 2) :: (n + ls.length) :: (n + ls.length + 1) :: (zps n ls).map (·.1)) (n + ls.length + 2)
      (fun i h => ZSt kd h (n + ls.length + 2) (n + ls.length) (n + ls.length + 1) (zps n ls) i) where
  mem := List.mem_cons_self
  obj := fun i h S b hb => by
    obtain ⟨⟨f0, f1, hz, _⟩, hTI, ⟨arr, _, hTO⟩, hits⟩ := S
    rcases List.mem_cons.mp hb with rfl | hb
    · exact ⟨_, hz, fun v q => nomatch q⟩
    rcases List.mem_cons.mp hb with rfl | hb
    · exact ⟨_, hTI, fun v q => nomatch q⟩
    rcases List.mem_cons.mp hb with rfl | hb
    · exact ⟨_, hTO, fun v q => nomatch q⟩
    obtain ⟨p, hp, rfl⟩ := List.mem_map.mp hb
    obtain ⟨o, e, _, d⟩ := hits p hp
    exact ⟨o, e, fun v q => by rw [d] at q; cases q⟩
  keep := fun i h h' S k => by
    obtain ⟨⟨f0, f1, hz, hf⟩, hTI, ⟨arr, ha, hTO⟩, hits⟩ := S
    refine ⟨⟨f0, f1, k _ (by simp) _ hz, hf⟩, k _ (by simp) _ hTI, ⟨arr, ha, k _ (by simp) _ hTO⟩, fun p hp => ?_⟩
    obtain ⟨o, e, c⟩ := hits p hp
    exact ⟨o, k _ (by
      refine List.mem_cons_of_mem _ (List.mem_cons_of_mem _ (List.mem_cons_of_mem _ ?_))
      exact List.mem_map_of_mem hp) _ e, c⟩
  item := by
    intro X hP hw hK hc i pins s σ H E I hf S hg
    subst hP hw hK
    obtain ⟨hi, R⟩ := hg
    obtain ⟨us, hv, hx⟩ := R.vals I hi
    have hul : us.length = ls.length := by rw [← hv.length, R.len]; simp [colV]
    have D := zapart hlt
    refine pyNext_zn_item D (by rw [zps_length]; exact h1) (by rw [zps_length]; omega) S (vs := us) (by rw [zps_length]; exact hul) (fun j p e => ?_) fun h' S' hT hsz hk => ?_
    · rw [zps_get] at e
      cases ea : ls[j]? with
      | none => rw [ea] at e; cases e
      | some a =>
        rw [ea] at e
        obtain rfl : (n + j, a) = p := Option.some.inj e
        exact hx j a ea
    · refine ⟨_, rfl, ?_⟩
      obtain ⟨⟨f0, f1, hz', hf'⟩, hTI', ⟨arr', ha', hTO'⟩, hits'⟩ := S'
      have hzlt : n + ls.length + 2 < s.heap.objs.size := by
        obtain ⟨⟨g0, g1, g, _⟩, _⟩ := S
        exact Heap.lt_size g
      refine letGo_any (s := { s with heap := h' }) hz' hf' fun h'' g0 hg0 z'' sb => ?_
      have S'' : ZSt kd h'' (n + ls.length + 2) (n + ls.length) (n + ls.length + 1) (zps n ls) (i + 1) :=
        ⟨⟨_, _, z'', hg0⟩, (sb.2 _ D.tz).trans hTI', ⟨arr', ha', (sb.2 _ D.oz).trans hTO'⟩, fun p hp => by
          obtain ⟨o, e, c⟩ := hits' p hp
          exact ⟨o, (sb.2 _ (D.pz p hp).1).trans e, c⟩⟩
      have hT2 := (sb.2 _ (Nat.ne_of_gt hzlt)).trans hT
      have hcl : (colV rows i).length ≤ sizeLine := by
        rw [hv.length, hul, sizeLine_eq]
        omega
      have new : ObjOk X.prog X.w (upd H s.heap.objs.size (.tup (colV rows i))) h'' s.heap.objs.size (.tup (colV rows i)) := ⟨hcl, us, hv, ⟨_, hT2, rfl, _, rfl⟩⟩
      have I1 : Inv X pins σ (upd H s.heap.objs.size (.tup (colV rows i))) { s with heap := h'' } :=
        I.turnedNew (t' := s.toks) (fun c o hb q => (sb.2 c (fun z => hb (by simp [z]))).trans (hk c o (fun z => hb (by simp [z])) (fun z => hb (by simp [z])) (fun p hp z => hb (by
          refine List.mem_cons_of_mem _ (List.mem_cons_of_mem _ (List.mem_cons_of_mem _ ?_))
          rw [z]
          exact List.mem_map_of_mem hp)) q)) hf (Nat.le_refl _) new
      refine ⟨.ref s.heap.objs.size, _, I1, rfl, ⟨_, rfl, I.hok.fresh (Nat.le_refl _), rfl⟩, S'', fun c hcm => ?_⟩
      obtain ⟨o, ho, _⟩ : ∃ o, s.heap.get? c = some o ∧ True := by
        obtain ⟨⟨f0, f1, hz, _⟩, hTI, ⟨arr, _, hTO⟩, hits⟩ := S
        rcases List.mem_cons.mp hcm with rfl | hcm
        · exact ⟨_, hz, trivial⟩
        rcases List.mem_cons.mp hcm with rfl | hcm
        · exact ⟨_, hTI, trivial⟩
        rcases List.mem_cons.mp hcm with rfl | hcm
        · exact ⟨_, hTO, trivial⟩
        obtain ⟨p, hp, rfl⟩ := List.mem_map.mp hcm
        obtain ⟨o, e, _⟩ := hits p hp
        exact ⟨o, e, trivial⟩
      rw [upd_ne (Nat.ne_of_lt (Heap.lt_size ho))]
      exact (hf c hcm).1
  done := by
    intro X hP hw hK hc i pins s σ H E I hf S hg
    subst hP hw hK
    obtain ⟨rfl, R⟩ := hg
    cases hls : ls with
    | nil => rw [hls] at h1; simp at h1
    | cons a r =>
      cases hrw : rows with
      | nil => have := R.len; rw [hls, hrw] at this; simp at this
      | cons q rr =>
        obtain ⟨hq, hl⟩ := R.at_ 0 a q (by rw [hls]; rfl) (by rw [hrw]; rfl)
        have hql := hm q (by rw [hrw]; rfl)
        obtain ⟨its, rv, p⟩ := sq_of I hq
        have hps : zps n ls = (n, a) :: (zps n ls).tail := by
          rw [hls]
          simp [zps]
        rw [← hls]
        refine pyNext_zn_end (I.ok.hd hc) (zapart hlt) S hps (xs := its.toArray) p ?_ fun h' hk => ⟨rfl, ?_⟩
        · have := rv.length
          rw [List.getElem?_toArray, List.getElem?_eq_none (by omega)]
        · exact I.turnedL (t' := s.toks) (fun c o hb q => hk c o (fun z => hb (by simp [z])) (fun z => hb (by simp [z])) (fun p hp z => hb (by
            refine List.mem_cons_of_mem _ (List.mem_cons_of_mem _ (List.mem_cons_of_mem _ ?_))
            rw [z]
            exact List.mem_map_of_mem hp)) q) hf
  self := fun A i s Q E S h => pyIter_zn S h

/-- for (..) in zip(e, ..), up to four tuples and lists, the first not longer than the others -/
def iZipM (K : PySem.W.Frag) (ta : TA) : TI := fun σ H R => ta σ H fun vs H1 => ∃ (kd : Addr → Bool) (ls : List Addr) (rows : List (List V)) (m : Nat), vs = ls.map V.ref ∧ 1 ≤ ls.length ∧ ls.length ≤ 4 ∧ (∀ r, rows[0]? = some r → r.length = m) ∧ Rwm K kd H1 ls rows m ∧ R (ItzM K kd ls rows m) H1
theorem pi_zipM {X : Cx} {e : Expr} {er : List Expr} {ta : TA} {p pos tpos : Pos} {elts : List Expr} {kk : Nat} (hg : Gl X "zip") (hm : X.mg "zip" = none) (ha : PA X (e :: er) ta)
    (hs : starEach (e :: er) X.env = (false, eval e X.env) :: starEach er X.env := by rfl) (hpl : (backTo pos (starEach er X.env)).any (·.1) = false := by rfl) :
    PI X (.Tuple elts kk tpos) (.Call (.Name "zip" p) (e :: er) [] pos) (iZipM X.K ta) := by
  refine ⟨fun pins s σ H R I h => ?_⟩
  refine Call_ (ld_blt I hg hm PyProof.Rows.boot_zip (PyProof.Rows.callWith_type1 (thn (ha.run pos pins s σ H _ I h) fun us s2 ⟨vs, H1, I2, r1, q1⟩ => ?_) hs hpl))
  obtain ⟨kd, ls, rows, m, ex, h1, h2, hm0, Rw, q⟩ := q1
  subst ex
  obtain rfl := vals_refs r1
  have tup : ∀ l ∈ ls, ∃ xs, IsSq (kd l) s2.heap l xs := fun l hl => by
    obtain ⟨j, hj⟩ := List.mem_iff_getElem?.mp hl
    have hjl := (List.getElem?_eq_some_iff.mp hj).1
    have hjr : rows[j]? = some (rows[j]'(by have := Rw.len; omega)) := List.getElem?_eq_getElem (by have := Rw.len; omega)
    obtain ⟨its, _, p⟩ := sq_of I2 (Rw.at_ j l _ hj hjr).1
    exact ⟨its.toArray, p⟩
  refine call_zipN (kd := kd) h1 h2 tup fun h' n en S hsz hk => ?_
  have I3 : Inv X pins σ H1 { s2 with heap := h' } := I2.kept (t' := s2.toks) hk
  have hlt : ∀ l ∈ ls, l < n := fun l hl => by
    obtain ⟨xs, o, ho, _⟩ := tup l hl
    rw [en]
    exact Heap.lt_size ho
  refine pyIter_zn (s := { s2 with heap := h' }) S ⟨n + ls.length + 2, _, _, _, H1, rfl, I3, turn_zm h1 h2 hlt hm0, S, fun b hb => ?_, q⟩
  have hle : s2.heap.objs.size ≤ b := by
    rw [← en]
    rcases List.mem_cons.mp hb with rfl | hb
    · omega
    rcases List.mem_cons.mp hb with rfl | hb
    · omega
    rcases List.mem_cons.mp hb with rfl | hb
    · omega
    obtain ⟨p, hp, rfl⟩ := List.mem_map.mp hb
    obtain ⟨j, _, _, e⟩ := zps_mem hp
    exact Nat.le_trans (Nat.le_add_right n j) (Nat.le_of_eq e.symm)
  exact I2.fpOk hle (I2.hok.fresh hle)
theorem walk_zm {K : PySem.W.Frag} {kd : Addr → Bool} {ls : List Addr} {rows : List (List V)} {m : Nat} : Walk (ItzM K kd ls rows m) m (fun H => Rwm K kd H ls rows m) (fun i H v H' => ∃ T, v = .ref T ∧ H T = none ∧ H' = upd H T (.tup (colV rows i))) :=
  ⟨fun _ _ hi q => ⟨hi, q⟩, fun _ q => ⟨rfl, q⟩, fun _ _ _ _ _ _ y => y⟩
/-- two of them, kinds b1 and b2 -/
def kd2 (a : Addr) (b1 b2 : Bool) : Addr → Bool := fun x => if x = a then b1 else b2
theorem rwm2 {K : PySem.W.Frag} {H : Hp} {a b : Addr} {b1 b2 : Bool} {xs ys : List V} (h1 : SqX K b1 H a xs) (h2 : SqX K b2 H b ys) (hl : xs.length ≤ ys.length) (hab : a = b → b1 = b2) : Rwm K (kd2 a b1 b2) H [a, b] [xs, ys] xs.length := by
  refine ⟨rfl, fun j c r e1 e2 => ?_⟩
  match j with
  | 0 =>
    obtain rfl : a = c := Option.some.inj e1
    obtain rfl : xs = r := Option.some.inj e2
    refine ⟨?_, Nat.le_refl _⟩
    unfold kd2
    rw [if_pos rfl]
    exact h1
  | 1 =>
    obtain rfl : b = c := Option.some.inj e1
    obtain rfl : ys = r := Option.some.inj e2
    refine ⟨?_, hl⟩
    unfold kd2
    by_cases e : b = a
    · rw [if_pos e, hab e.symm]
      exact h2
    · rw [if_neg e]
      exact h2
  | j + 2 => simp at e1
theorem col2 {xs ys : List V} {i : Nat} {x y : V} (h1 : xs[i]? = some x) (h2 : ys[i]? = some y) : colV [xs, ys] i = [x, y] := by
  unfold colV
  simp [h1, h2]
end DM
/-! a for statement in a generator's body -/
namespace PySem
open Sem (wp)
section
variable {M : Model} {A : Around} {R : GenEnd} {Y : Protocol} {n : Nat} {s₀ : Shared} {c : Code} {fs : List Frame} {s : Shared} {env : Env}
  {K : Flow → Sem Fin} {H : Value → Sem Fin} {gd : Bool → Bool} {lv : List Value → List Value}
theorem seg_ForG {target iter : Expr} {body orelse : List Stmt} {pos : Pos} (hs : ∀ x, foldedSetIterable iter env x = pure x)
    (h : wpAny M (A.over c fs) (eval iter env) (fun v s1 => wpAny M (A.over c fs) (pyIter v) (fun it s2 => ∀ p, Seg M A R Y n s₀ (.forLoop target it body orelse env) (M.den (.forLoop target it body orelse env))
      (.ret (fun r => ((match r with | .ok f => (.pure f : Sem Flow) | .error e => .raise e).onRaise fun (x : Value) => do
        if (← field x 1) == Value.none then unsupported "frame.own-activation:exception-without-traceback"
        setFlight x env.frame).wrap K H gd lv) none (gd false) (lv []) c p [] :: fs) s2) (fun x s' => Seg M A R Y n s₀ c (H x) fs s') s1) (fun x s' => Seg M A R Y n s₀ c (H x) fs s') s) :
    Seg M A R Y n s₀ c ((exec (.For target iter body orelse pos) env).wrap K H gd lv) fs s := by
  rw [exec_For]
  refine seg_bind_wrap (wpAny_standAt ?_)
  refine seg_bind_wrap (wpAny_mono h (fun v s1 h1 => ?_) fun _ _ x => x)
  rw [hs v]
  refine seg_bind_wrap (wpAny_pure ?_)
  refine seg_bind_wrap (wpAny_standAt ?_)
  refine seg_bind_wrap (wpAny_holding (wpAny_mono h1 (fun it s2 h2 => ?_) fun _ _ x => x))
  exact seg_call h2
end
section
variable {prog : Program} {w : World} {A : Around} {R : GenEnd} {Y : Protocol} {n : Nat} {s₀ : Shared} {fs : List Frame} {s : Shared} {env : Env}
/-- how a loop's call ends with an exception -/
abbrev outG (e : Value) (env : Env) : Sem Fin := (do noteFrame e env; theTreesLotGoes e : Sem Unit).wrap (fun _ => .raise e) .raise id id
theorem outG_eq (e : Value) : ((do noteFrame e env; theTreesLotGoes e : Sem Unit).bind fun _ => (.raise e : Sem Fin)) = outG e env := by rw [Sem.bind_eq_wrap]
theorem seg_forLoopG {target : Expr} {it : Value} {body : List Stmt}
    (h : wpAny (model prog w) (A.over (.forLoop target it body [] env) fs) (pyNext it) (fun r s1 => match r with
      | none => Seg (model prog w) A R Y n s₀ (.block [] env) (.pure (.done .next)) fs s1
      | some v => wpAny (model prog w) (A.over (.forLoop target it body [] env) fs) (letOwnedTupleGo target it v) (fun _ s2 =>
          wpAny (model prog w) (A.over (.forLoop target it body [] env) fs) (assign target env v) (fun _ s3 =>
            Seg (model prog w) A R Y n s₀ (.forLoop target it body [] env) ((execs body env).wrap (fun f => match f with
              | .next | .cont => .pure (.again (.forLoop target it body [] env))
              | .brk => .pure (.done .next)
              | .ret v => .pure (.done (.ret v))) (fun e => outG e env) id id) fs s3)
            (fun x s' => Seg (model prog w) A R Y n s₀ (.forLoop target it body [] env) (outG x env) fs s') s2)
          (fun x s' => Seg (model prog w) A R Y n s₀ (.forLoop target it body [] env) (outG x env) fs s') s1)
      (fun x s' => Seg (model prog w) A R Y n s₀ (.forLoop target it body [] env) (outG x env) fs s') s) :
    Seg (model prog w) A R Y n s₀ (.forLoop target it body [] env) ((model prog w).den (.forLoop target it body [] env)) fs s := by
  show Seg _ A R Y n s₀ _ ((forTurn target it body [] env).onRaise (fun x => do noteFrame x env; theTreesLotGoes x)) fs s
  rw [Sem.onRaise_eq_wrap]
  have ho : (fun e => (do noteFrame e env; theTreesLotGoes e : Sem Unit).bind fun _ => (.raise e : Sem Fin)) = fun e => outG e env := funext fun e => outG_eq e
  rw [ho]
  unfold forTurn
  refine seg_bind_wrap (wpAny_standAt ?_)
  refine seg_bind_wrap (wpAny_onRaise (wpAny_mono h (fun r s1 h1 => ?_) fun x s' hx => wpAny_standAt hx))
  cases r with
  | none =>
    refine seg_again rfl ?_
    exact h1
  | some v =>
    refine seg_bind_wrap (wpAny_mono h1 (fun _ s2 h2 => ?_) fun _ _ x => x)
    refine seg_bind_wrap (wpAny_mono h2 (fun _ s3 h3 => ?_) fun _ _ x => x)
    rw [Sem.bind_eq_wrap', Sem.wrap_wrap]
    refine cast (congrArg (fun t => Seg (model prog w) A R Y n s₀ (Code.forLoop target it body [] env) t fs s3) ?_) h3
    exact Sem.wrap_congr (execs body env) id id (fun f => by cases f <;> rfl) (fun e => rfl)
end
end PySem
namespace L2
open PySem PySem.Spec PyProof.Rows GenW
/-- W: the invariant by the turn and a measure; N: what the body is to reach -/
def tGFor (wi : TI) (g : TG) (tb : TGn) : TGn := fun D ys σ H => wi σ H fun J H1 => ∃ W : Nat → Nat → List V → St → Hp → Prop, (∃ m, W 0 m ys σ H1) ∧ ∀ i m ys σ H, W i m ys σ H →
  (J.stop i H ∧ D.nx ys σ H) ∨ (J.go i H ∧ ∃ N : List V → St → Hp → Prop, (∀ ys' σ' H', N ys' σ' H' → ∃ m', m' < m ∧ W (i + 1) m' ys' σ' H') ∧ ∀ x H', J.yld i H x H' → g x σ H' fun σ2 H2 => tb { D with nx := N, ct := N, bk := D.nx } ys σ2 H2)
section
variable {X : Cx}
theorem gc_more {S : Addr} {ip pl : List (Addr × Obj)} {A : Around} {c : Code} {fs : List Frame} {gd : Bool → Bool} (g : GC X S ip A c fs gd) (h : ∀ p ∈ pl, p.1 ≠ S) : GC X S (ip ++ pl) A c fs gd :=
  ⟨g.pn, fun p hp => (List.mem_append.mp hp).elim (g.ip p) (h p), g.apart, g.over, g.split, g.guard, g.gd⟩
theorem gi_less {S : Addr} {ip pl : List (Addr × Obj)} {ys : List V} {σ : St} {H : Hp} {s : Shared} (h : GI X S (ip ++ pl) ys σ H s) : GI X S ip ys σ H s := by
  obtain ⟨acc, c, r, I⟩ := h
  exact ⟨acc, c, r, I.pins_of fun p hp => I.pin p (List.mem_append_right _ (by
    rcases List.mem_cons.mp hp with h | h
    · exact h ▸ List.mem_cons_self
    · exact List.mem_cons_of_mem _ (List.mem_append_left _ h)))⟩
theorem gsp_less {S : Addr} {ip pl : List (Addr × Obj)} {D : GEnds} {ys : List V} {f : Flow} {s : Shared} (h : GSP X S (ip ++ pl) D ys f s) : GSP X S ip D ys f s := by
  cases f with
  | next => obtain ⟨σ, H, I, q⟩ := h; exact ⟨σ, H, gi_less I, q⟩
  | brk => obtain ⟨σ, H, I, q⟩ := h; exact ⟨σ, H, gi_less I, q⟩
  | cont => obtain ⟨σ, H, I, q⟩ := h; exact ⟨σ, H, gi_less I, q⟩
  | ret u => obtain ⟨v, σ, H, I, r, q⟩ := h; exact ⟨v, σ, H, gi_less I, r, q⟩
theorem gs_for {tg iter : Expr} {body : List Stmt} {wi : TI} {g : TG} {tb : TGn} {pos : Pos} (hp : PassesOwn (model X.prog X.w) X.A X.env X.xe) (hc : X.calm = true) (hi : PI X tg iter wi) (hg : PG X tg g) (hb : GSs X body tb)
    (hs : ∀ x, foldedSetIterable iter X.env x = pure x := by intro _; rfl) : GS X (.For tg iter body [] pos) (tGFor wi g tb) := by
  refine ⟨fun A S ip R n ys s₀ c fs K J gd lv s σ H D gc hn k hI ht => ?_⟩
  obtain ⟨acc, cc, r, I⟩ := hI
  refine seg_ForG hs ?_
  rw [gc.over]
  refine wpAny_mono (hi.run _ s σ H _ I ht) (fun v s1 h1 => wpAny_mono h1 (fun itv s2 h2 => ?_) fun x s' hx => k.exc n s₀ x s' hx) fun x s' hx => k.exc n s₀ x s' hx
  obtain ⟨it, fp, tn, J', H2, e, I2, T, st2, f2, W, ⟨m0, w0⟩, turn⟩ := h2
  subst e
  intro p
  have stat : ∀ {H' : Hp}, (∀ b ∈ fp, H' b = none) → ∀ b ∈ fp, FpOk X ((S, lstObj acc cc) :: ip) H' b := fun hn b hb => ⟨hn b hb, (f2 b hb).2⟩
  have fpS : ∀ b ∈ fp, b ≠ S := fun b hb z => (f2 b hb).2.2.2.2.2 (S, lstObj acc cc) (List.mem_append_right _ List.mem_cons_self) z.symm
  have gl := fun (kk : Result → Sem PySem.Fin) (cd : Code) (hw : cd.weight = 0) (hu : cd.cUnits = 0) => gc_loop (k := kk) (c' := cd) (l := lv []) (kp := []) (p := p) gc hw hu
  have loop : ∀ (m i n : Nat) (ys : List V) (s₀ s : Shared) (σ : St) (H : Hp), n + ys.length = sizeLine → W i m ys σ H → GI X S ip ys σ H s → tn i s.heap → (∀ b ∈ fp, H b = none) → (∀ b ∈ fp, ∀ q ∈ X.pn ++ ((S, lstObj acc cc) :: ip), q.1 ≠ b) →
      Seg (model X.prog X.w) A R (GY X S) n s₀ (.forLoop tg (.ref it) body [] X.env) ((model X.prog X.w).den (.forLoop tg (.ref it) body [] X.env))
        (.ret (fun r => ((match r with | .ok f => (.pure f : Sem Flow) | .error e => .raise e).onRaise (cameBack X.env)).wrap K J gd lv) none (gd false) (lv []) c p [] :: fs) s := by
    intro m
    induction m using Nat.strongRecOn with
    | ind m ih =>
      intro i n ys s₀ s σ H hn w hI st fr np
      have ee : ∀ (n : Nat) (s₀ : Shared) (x : Value) (s' : Shared), X.xe x s' → Seg (model X.prog X.w) A R (GY X S) n s₀ (.forLoop tg (.ref it) body [] X.env) (outG x X.env)
          (.ret (fun r => ((match r with | .ok f => (.pure f : Sem Flow) | .error e => .raise e).onRaise (cameBack X.env)).wrap K J gd lv) none (gd false) (lv []) c p [] :: fs) s' := fun n s₀ x s' hx => by
        refine seg_wrap ?_
        rw [(gl _ (.forLoop tg (.ref it) body [] X.env) rfl rfl).over]
        refine wpAny_bind (wpAny_mono (hp x s' hx) (fun _ s'' hcb => wpAny_theTreesLotGoes ?_) fun y s'' hcb => ?_)
        · exact seg_leaf (.error x) (seg_cameBack gc k hcb)
        · exact seg_leaf (.error y) (seg_cameBack gc k hcb)
      obtain ⟨acc', cc', r', I'⟩ := hI
      have stat' : ∀ {H' : Hp}, (∀ b ∈ fp, H' b = none) → ∀ b ∈ fp, FpOk X ((S, lstObj acc' cc') :: ip) H' b := fun hn b hb => ⟨hn b hb, (f2 b hb).2.1, (f2 b hb).2.2.1, (f2 b hb).2.2.2.1, (f2 b hb).2.2.2.2.1, fun q hq z => by
        rcases List.mem_append.mp hq with h | h
        · exact (f2 b hb).2.2.2.2.2 q (List.mem_append_left _ h) z
        · rcases List.mem_cons.mp h with h | h
          · rw [h] at z
            exact fpS b hb z.symm
          · exact (f2 b hb).2.2.2.2.2 q (List.mem_append_right _ (List.mem_cons_of_mem _ h)) z⟩
      refine seg_forLoopG ?_
      rw [(gl _ (.forLoop tg (.ref it) body [] X.env) rfl rfl).over]
      rcases turn i m ys σ H w with ⟨stop, qn⟩ | ⟨go, N, hN, step⟩
      · refine wpAny_mono (T.done X rfl rfl rfl hc i _ s σ H X.xe I' (stat' fr) st stop) (fun rr s4 hh => ?_) fun x s' hx => ee n s₀ x s' hx
        obtain ⟨hr, I4⟩ := hh
        subst hr
        exact seg_leaf (.ok .next) (k.ok n ys s₀ s4 .next hn ⟨σ, H, ⟨acc', cc', r', I4⟩, qn⟩)
      · refine wpAny_mono (T.item X rfl rfl rfl hc i _ s σ H X.xe I' (stat' fr) st go) (fun rr s4 hh => ?_) fun x s' hx => ee n s₀ x s' hx
        obtain ⟨u, hr, h4⟩ := hh
        subst hr
        refine wpAny_mono h4 (fun _ s5 hh => ?_) fun x s' hx => ee n s₀ x s' hx
        obtain ⟨x, H5, I5, r5, y5, st5, fr5⟩ := hh
        have I5' := I5.pinned (stat' fr5) (T.obj _ _ st5)
        refine wpAny_mono (hg.run _ s5 σ H5 x u _ I5' r5 (step x H5 y5)) (fun _ s6 hh => ?_) fun x s' hx => ee n s₀ x s' hx
        obtain ⟨σ6, H6, I6, q6⟩ := hh
        have hpl : ∀ q ∈ pinsAt fp s5.heap, q.1 ≠ S := fun q hq => fpS q.1 (of_pinsAt hq).1
        have G6 : GI X S (ip ++ pinsAt fp s5.heap) ys σ6 H6 s6 := ⟨acc', cc', r', I6⟩
        have again : ∀ {n' : Nat} {ys' : List V} {s₀' s7 : Shared} {σ7 : St} {H7 : Hp}, n' + ys'.length = sizeLine → GI X S (ip ++ pinsAt fp s5.heap) ys' σ7 H7 s7 → N ys' σ7 H7 →
            Seg (model X.prog X.w) A R (GY X S) n' s₀' (.forLoop tg (.ref it) body [] X.env) (.pure (.again (.forLoop tg (.ref it) body [] X.env)))
              (.ret (fun r => ((match r with | .ok f => (.pure f : Sem Flow) | .error e => .raise e).onRaise (cameBack X.env)).wrap K J gd lv) none (gd false) (lv []) c p [] :: fs) s7 := fun {n' ys' s₀' s7 σ7 H7} hn' G7 n7 => by
          obtain ⟨m', hm, w7⟩ := hN ys' σ7 H7 n7
          obtain ⟨a7, c7, r7, I7⟩ := id G7
          refine seg_again rfl (ih m' hm (i + 1) n' ys' s₀' s7 σ7 H7 hn' w7 (gi_less G7) (T.keep _ _ _ st5 fun b hb o e => ?_) (fun b hb => ?_) np)
          · exact (I7.pin (b, o) (List.mem_append_right _ (List.mem_cons_of_mem _ (List.mem_append_right _ (mem_pinsAt hb e))))).1
          · obtain ⟨o, e, d⟩ := T.obj _ _ st5 b hb
            exact (I7.pin (b, o) (List.mem_append_right _ (List.mem_cons_of_mem _ (List.mem_append_right _ (mem_pinsAt hb e))))).2.1
        refine hb.run A S (ip ++ pinsAt fp s5.heap) R n ys s₀ _ _ _ _ id id s6 σ6 H6 { D with nx := N, ct := N, bk := D.nx } (gc_more (gl _ (.forLoop tg (.ref it) body [] X.env) rfl rfl) hpl) hn ⟨fun n' ys' s₀' s7 f hn' hs => ?_, fun n' s₀' x s7 hx => ee n' s₀' x s7 hx⟩ G6 q6
        cases f with
        | next =>
          obtain ⟨σ7, H7, G7, n7⟩ := hs
          exact again hn' G7 n7
        | cont =>
          obtain ⟨σ7, H7, G7, n7⟩ := hs
          exact again hn' G7 n7
        | brk =>
          obtain ⟨σ7, H7, G7, q7⟩ := hs
          exact seg_leaf (.ok .next) (k.ok n' ys' s₀' s7 .next hn' ⟨σ7, H7, gi_less G7, q7⟩)
        | ret v =>
          obtain ⟨v7, σ7, H7, G7, rv, q7⟩ := hs
          exact seg_leaf (.ok (.ret v)) (k.ok n' ys' s₀' s7 (.ret v) hn' ⟨v7, σ7, H7, gi_less G7, rv, q7⟩)
  exact loop m0 0 n ys s₀ s2 σ H2 hn w0 ⟨acc, cc, r, I2⟩ st2 (fun b hb => (f2 b hb).1) (fun b hb => (f2 b hb).2.2.2.2.2)
end
end L2
namespace DD
open PySem PySem.Spec PyProof.Rows L2
/-! ### small words about heaps -/
def Kp2 (a b : Addr) (H H' : Hp) : Prop := ∀ c o, c ≠ a → c ≠ b → H c = some o → H' c = some o
theorem Kp2.refl {a b : Addr} {H : Hp} : Kp2 a b H H := fun _ _ _ _ e => e
theorem Kp2.trans {a b : Addr} {H H1 H2 : Hp} (x : Kp2 a b H H1) (y : Kp2 a b H1 H2) : Kp2 a b H H2 := fun c o h1 h2 e => y c o h1 h2 (x c o h1 h2 e)
theorem kps {a b : Addr} {H H' : Hp} (x : Same H H') : Kp2 a b H H' := fun c o _ _ e => x c o e
theorem same_new {H : Hp} {p : Addr} {o : HO} (h : H p = none) : Same H (upd H p o) := fun b x e => by
  rw [upd_ne (ne_of_none e h)]
  exact e
theorem kp2_upd1 {a b : Addr} {H : Hp} {o : HO} : Kp2 a b H (upd H a o) := fun c x h1 _ e => by rw [upd_ne h1]; exact e
theorem kp2_upd2 {a b : Addr} {H : Hp} {o : HO} : Kp2 a b H (upd H b o) := fun c x _ h2 e => by rw [upd_ne h2]; exact e

/-- the deck at dk: its cells at c, none below 0; at most B draws so far -/
structure Deck (H : Hp) (dk c : Addr) (B : Nat) : Prop where
  ex : ∃ (ns : List Int) (t : Int), H dk = some (.lst [.ref c, .int t]) ∧ H c = some (.lst (ns.map V.int)) ∧ (∀ n ∈ ns, 0 ≤ n) ∧ ns.length ≤ 63 ∧ 0 ≤ t ∧ t ≤ (B : Int)
  ne : dk ≠ c
theorem Deck.up {H : Hp} {dk c : Addr} {B B' : Nat} (d : Deck H dk c B) (h : B ≤ B') : Deck H dk c B' := by
  obtain ⟨⟨ns, t, h1, h2, h3, h4, h5, h6⟩, ne⟩ := d
  exact ⟨⟨ns, t, h1, h2, h3, h4, h5, by omega⟩, ne⟩
theorem Deck.keep {H H' : Hp} {dk c : Addr} {B : Nat} (d : Deck H dk c B) (k : Same H H') : Deck H' dk c B := by
  obtain ⟨⟨ns, t, h1, h2, h3⟩, ne⟩ := d
  exact ⟨⟨ns, t, k _ _ h1, k _ _ h2, h3⟩, ne⟩

theorem len_ltD {n : Nat} (h : n ≤ 1000) : n < sizeLine := small1000 h
theorem get_map {α β : Type} {f : α → β} {xs : List α} {i : Nat} {y : β} (h : (xs.map f)[i]? = some y) : ∃ x, xs[i]? = some x ∧ y = f x := by
  rw [List.getElem?_map] at h
  cases e : xs[i]? with
  | none => rw [e] at h; cases h
  | some x => rw [e] at h; exact ⟨x, rfl, (Option.some.inj h).symm⟩
theorem take_succ_map {α β : Type} {f : α → β} {xs : List α} {i : Nat} {x : α} (h : xs[i]? = some x) : (xs.take (i + 1)).map f = (xs.take i).map f ++ [f x] := by
  rw [List.take_add_one, h, List.map_append]
  rfl
theorem cutV_map {ns : List Int} {lo hi : Option Int} : ∃ ms : List Int, cutV (ns.map V.int) lo hi = ms.map V.int ∧ ms.length ≤ ns.length := by
  refine ⟨(ns.drop (HT.sIx ns.length 0 lo)).take (HT.sIx ns.length ns.length hi - HT.sIx ns.length 0 lo), ?_, ?_⟩
  · unfold cutV
    rw [List.length_map, List.map_take, List.map_drop]
  · rw [List.length_take, List.length_drop]
    omega
theorem len_lt {n : Nat} (h : n ≤ 1000) : n < sizeLine := small1000 h
def absI (i : Int) : Int := if i < 0 then -i else i
theorem absI_pos (i : Int) : 0 ≤ absI i := by
  unfold absI
  split <;> omega

theorem Deck.kp {H : Hp} {dk c l : Addr} {B : Nat} {o : HO} (d : Deck H dk c B) (n : H l = none) : Deck (upd H l o) dk c B := d.keep (same_new n)
theorem Deck.nedk {H : Hp} {dk c l : Addr} {B : Nat} (d : Deck H dk c B) (n : H l = none) : l ≠ dk ∧ l ≠ c := by
  obtain ⟨ns, t, h1, h2, _⟩ := d.ex
  exact ⟨(ne_of_none h1 n).symm, (ne_of_none h2 n).symm⟩
theorem two_at {r a b : Int} (h0 : 0 ≤ r) (h : r < 2) : ∃ z : Int, (z = a ∨ z = b) ∧ atI [V.int a, V.int b] r = some (.int z) := by
  have e : r = 0 ∨ r = 1 := by omega
  rcases e with rfl | rfl
  · exact ⟨a, .inl rfl, rfl⟩
  · exact ⟨b, .inr rfl, rfl⟩
theorem kp_free {dk c t : Addr} {H H' : Hp} {B : Nat} (kp : Kp2 dk c H H') (d : Deck H' dk c B) (nt : H' t = none) : H t = none := by
  have tne := d.nedk nt
  cases e : H t with
  | none => rfl
  | some o =>
    have := kp t o tne.1 tne.2 e
    rw [nt] at this
    cases this
theorem Deck.updD {H : Hp} {dk c D : Addr} {B : Nat} {o : HO} (d : Deck H dk c B) (h1 : D ≠ dk) (h2 : D ≠ c) : Deck (upd H D o) dk c B := by
  obtain ⟨⟨ns, t, a1, a2, a3⟩, a4⟩ := d
  refine ⟨⟨ns, t, ?_, ?_, a3⟩, a4⟩
  · rw [upd_ne h1.symm]
    exact a1
  · rw [upd_ne h2.symm]
    exact a2
/-- the tuple at t holds tuples of ints: the rows -/
structure StockAt (H : Hp) (t : Addr) (ls : List Addr) (rows : List (List Int)) : Prop where
  top : H t = some (.tup (ls.map V.ref))
  len : ls.length = rows.length
  row : ∀ (j : Nat) (l : Addr) (r : List Int), ls[j]? = some l → rows[j]? = some r → H l = some (.tup (r.map V.int))
theorem StockAt.kp {H H' : Hp} {dk c t : Addr} {ls : List Addr} {rows : List (List Int)} {B : Nat} (a : StockAt H t ls rows) (k : Kp2 dk c H H') (d : Deck H dk c B) : StockAt H' t ls rows := by
  obtain ⟨ns, t', h1, h2, _⟩ := d.ex
  have n1 : ∀ b xs, H b = some (.tup xs) → b ≠ dk ∧ b ≠ c := fun b xs e =>
    ⟨fun z => (by rw [z, h1] at e; cases e), fun z => (by rw [z, h2] at e; cases e)⟩
  refine ⟨k _ _ (n1 _ _ a.top).1 (n1 _ _ a.top).2 a.top, a.len, fun j l r e1 e2 => ?_⟩
  have h := a.row j l r e1 e2
  exact k _ _ (n1 _ _ h).1 (n1 _ _ h).2 h
theorem StockAt.same {H H' : Hp} {t : Addr} {ls : List Addr} {rows : List (List Int)} (a : StockAt H t ls rows) (k : Same H H') : StockAt H' t ls rows :=
  ⟨k _ _ a.top, a.len, fun j l r e1 e2 => k _ _ (a.row j l r e1 e2)⟩
/-! ### data of stocks and rows -/
def rowD (r : List Int) : PyData := .tuple (r.map PyData.int)
def stockD (rows : List (List Int)) : PyData := .tuple (rows.map rowD)
theorem dps_ints {K : PySem.W.Frag} {H : Hp} : ∀ r : List Int, DpAll K H (r.map V.int) (r.map PyData.int)
  | [] => .nil
  | x :: r => .cons (.int x) (dps_ints r)
theorem dp_row {K : PySem.W.Frag} {H : Hp} {p : Addr} {r : List Int} (h : H p = some (.tup (r.map V.int))) : Dp K H (.ref p) (rowD r) := .tup (SqT.of h) (dps_ints r)
theorem dps_rows {K : PySem.W.Frag} {H : Hp} : ∀ (ls : List Addr) (rows : List (List Int)), ls.length = rows.length →
    (∀ (j : Nat) (l : Addr) (r : List Int), ls[j]? = some l → rows[j]? = some r → H l = some (.tup (r.map V.int))) → DpAll K H (ls.map V.ref) (rows.map rowD)
  | [], [], _, _ => .nil
  | [], _ :: _, h, _ => by simp at h
  | _ :: _, [], h, _ => by simp at h
  | l :: ls, r :: rows, h, hat => .cons (dp_row (hat 0 l r rfl rfl)) (dps_rows ls rows (by simpa using h) fun j l' r' e1 e2 => hat (j + 1) l' r' e1 e2)
theorem StockAt.dp {K : PySem.W.Frag} {H : Hp} {t : Addr} {ls : List Addr} {rows : List (List Int)} (a : StockAt H t ls rows) : Dp K H (.ref t) (stockD rows) :=
  .tup (SqT.of a.top) (dps_rows ls rows a.len a.row)
theorem sm_row {r : List Int} (h : ∀ x ∈ r, 0 ≤ x ∧ x < 4096) (hl : r.length ≤ 4) : Sm 56 1 (rowD r) := by
  have a : SmA (r.map PyData.int).length 13 0 (r.map PyData.int) := SmA.all fun d hd => by
    obtain ⟨x, hx, rfl⟩ := List.mem_map.mp hd
    exact Sm.int (h x hx).1 (h x hx).2
  refine a.tup.up ?_ (Nat.le_refl _)
  rw [List.length_map]
  omega
theorem sm_stock {rows : List (List Int)} (h : ∀ r ∈ rows, r.length ≤ 4 ∧ ∀ x ∈ r, 0 ≤ x ∧ x < 4096) (hl : rows.length ≤ 4) : Sm 228 2 (stockD rows) := by
  have a : SmA (rows.map rowD).length 56 1 (rows.map rowD) := SmA.all fun d hd => by
    obtain ⟨r, hr, rfl⟩ := List.mem_map.mp hd
    exact sm_row (h r hr).2 (h r hr).1
  refine a.tup.up ?_ (Nat.le_refl _)
  rw [List.length_map]
  omega
theorem sm_pair {a b : List Int} (ha : ∀ x ∈ a, 0 ≤ x ∧ x < 4096) (hal : a.length ≤ 4) (hb : ∀ x ∈ b, 0 ≤ x ∧ x < 4096) (hbl : b.length ≤ 4) : Sm 114 2 (.list [rowD a, rowD b]) := by
  have q : SmA (0 + 1 + 1) 56 1 [rowD a, rowD b] := SmA.cons (sm_row ha hal) (SmA.cons (sm_row hb hbl) SmA.nil)
  exact q.lst.up (by omega) (by omega)
theorem sum_bd {b : Int} : ∀ {xs : List Int}, (∀ x ∈ xs, 0 ≤ x ∧ x ≤ b) → 0 ≤ xs.sum ∧ xs.sum ≤ (xs.length : Int) * b
  | [], _ => by simp
  | x :: xs, h => by
    have h1 := h x List.mem_cons_self
    have h2 := sum_bd (xs := xs) fun y hy => h y (List.mem_cons_of_mem _ hy)
    rw [List.sum_cons, List.length_cons, Int.natCast_add, Int.add_mul]
    omega
theorem getD_bd {r : List Int} {b : Int} (h : ∀ x ∈ r, 0 ≤ x ∧ x ≤ b) (hb : 0 ≤ b) (i : Nat) : 0 ≤ r.getD i 0 ∧ r.getD i 0 ≤ b := by
  rw [List.getD_eq_getElem?_getD]
  cases e : r[i]? with
  | none => exact ⟨Int.le_refl _, hb⟩
  | some x => exact h x (List.mem_of_getElem? e)
theorem cat_gen {K : PySem.W.Frag} {H : Hp} {a b : Addr} {xs ys : List V} {Q : VK} (ha : H a = some (.tup xs)) (hb : H b = some (.tup ys)) (hl : xs.length + ys.length ≤ 1000)
    (q : ∀ p H', Same H H' → H' p = some (.tup (xs ++ ys)) → Q (.ref p) H') : rCatA K (.ref a) (.ref b) H Q := by
  refine ⟨a, b, xs, ys, rfl, rfl, SqT.of ha, SqT.of hb, Nat.le_of_lt (len_lt hl), fun e => ?_, fun _ e => ?_, fun _ _ p np => ?_⟩
  · subst e
    exact q b H (fun _ _ e => e) hb
  · subst e
    exact q a H (fun _ _ e => e) (by rw [List.append_nil]; exact ha)
  · exact q p _ (same_new np) upd_same
theorem sl_gen {K : PySem.W.Frag} {H : Hp} {a : Addr} {xs : List V} {lo hi : Option Int} {Q : VK} (ha : H a = some (.tup xs))
    (q : ∀ p H', Same H H' → H' p = some (.tup (cutV xs lo hi)) → Q (.ref p) H') : rSlA K (.ref a) lo hi H Q := by
  refine ⟨a, xs, rfl, SqT.of ha, fun e => ?_, fun _ p np => ?_⟩
  · refine q a H (fun _ _ e => e) ?_
    unfold cutV
    rw [e.1, e.2, Nat.sub_zero, List.drop_zero, List.take_length]
    exact ha
  · exact q p _ (same_new np) upd_same
theorem cut_to {r : List Int} {s : Nat} : cutV (r.map V.int) none (some (s : Int)) = (r.take s).map V.int := by
  unfold cutV
  rw [HT.sIx_none, HT.sIx_nat, List.drop_zero, Nat.sub_zero, List.length_map, ← List.map_take]
  congr 1
  by_cases h : s ≤ r.length
  · rw [Nat.min_eq_left h]
  · rw [Nat.min_eq_right (by omega), List.take_length, List.take_of_length_le (by omega)]
theorem cut_from {r : List Int} {s : Nat} : cutV (r.map V.int) (some (s : Int)) none = (r.drop s).map V.int := by
  unfold cutV
  rw [HT.sIx_none, HT.sIx_nat, List.length_map, ← List.map_drop, ← List.map_take]
  congr 1
  by_cases h : s ≤ r.length
  · rw [Nat.min_eq_left h, List.take_of_length_le (by rw [List.length_drop]; omega)]
  · rw [Nat.min_eq_right (by omega), List.drop_of_length_le (Nat.le_refl _), List.drop_of_length_le (by omega), List.take_nil]

/-! ### facts that stay while the deck turns -/
theorem tup_kp {H H' : Hp} {dk c p : Addr} {B : Nat} {xs : List V} (h : H p = some (.tup xs)) (d : Deck H dk c B) (k : Kp2 dk c H H') : H' p = some (.tup xs) := by
  obtain ⟨ns, t', h1, h2, _⟩ := d.ex
  exact k _ _ (fun z => by rw [z, h1] at h; cases h) (fun z => by rw [z, h2] at h; cases h) h
/-- a collection: n numbers from 0 to hi, one of them above 0 -/
structure Good (n : Nat) (hi : Int) (r : List Int) : Prop where
  len : r.length = n
  bd : ∀ x ∈ r, 0 ≤ x ∧ x ≤ hi
  pos : ∃ x ∈ r, 0 < x
/-- addresses of tuples of ints, row by row -/
def RowsAt (H : Hp) (ls : List Addr) (rows : List (List Int)) : Prop := ∀ (j : Nat) (l : Addr) (r : List Int), ls[j]? = some l → rows[j]? = some r → H l = some (.tup (r.map V.int))
theorem RowsAt.kp {H H' : Hp} {dk c : Addr} {B : Nat} {ls : List Addr} {rows : List (List Int)} (a : RowsAt H ls rows) (d : Deck H dk c B) (k : Kp2 dk c H H') : RowsAt H' ls rows :=
  fun j l r e1 e2 => tup_kp (a j l r e1 e2) d k
theorem RowsAt.same {H H' : Hp} {ls : List Addr} {rows : List (List Int)} (a : RowsAt H ls rows) (k : Same H H') : RowsAt H' ls rows := fun j l r e1 e2 => k _ _ (a j l r e1 e2)
/-- a list that changes is none of the rows -/
theorem RowsAt.updL {H : Hp} {F : Addr} {xs : List V} {o : HO} {ls : List Addr} {rows : List (List Int)} (a : RowsAt H ls rows) (h : H F = some (.lst xs)) : RowsAt (upd H F o) ls rows := fun j l r e1 e2 => by
  have h2 := a j l r e1 e2
  rw [upd_ne (fun z => by rw [z, h] at h2; cases h2)]
  exact h2
theorem RowsAt.snoc {H : Hp} {ls : List Addr} {rows : List (List Int)} {l : Addr} {r : List Int} (a : RowsAt H ls rows) (hl : ls.length = rows.length) (h : H l = some (.tup (r.map V.int))) : RowsAt H (ls ++ [l]) (rows ++ [r]) := by
  intro j l' r' x1 x2
  by_cases hj : j < ls.length
  · rw [List.getElem?_append_left hj] at x1
    rw [List.getElem?_append_left (by omega)] at x2
    exact a j l' r' x1 x2
  · have hj2 : j = ls.length := by
      have := (List.getElem?_eq_some_iff.mp x1).1
      rw [List.length_append] at this
      simp at this
      omega
    subst hj2
    rw [List.getElem?_append_right (Nat.le_refl _), Nat.sub_self] at x1
    rw [hl, List.getElem?_append_right (Nat.le_refl _), Nat.sub_self] at x2
    obtain rfl : l = l' := Option.some.inj x1
    obtain rfl : r = r' := Option.some.inj x2
    exact h
theorem RowsAt.init {H : Hp} {ls : List Addr} {rows : List (List Int)} {l : Addr} {r : List Int} (a : RowsAt H (ls ++ [l]) (rows ++ [r])) : RowsAt H ls rows := fun j l' r' x1 x2 =>
  a j l' r' (by rw [List.getElem?_append_left (List.getElem?_eq_some_iff.mp x1).1]; exact x1) (by rw [List.getElem?_append_left (List.getElem?_eq_some_iff.mp x2).1]; exact x2)
theorem Kp2.updF {H H' : Hp} {dk c F : Addr} {o : HO} (k : Kp2 dk c H H') (n : H F = none) : Kp2 dk c H (upd H' F o) := fun b o' h1 h2 e => by
  rw [upd_ne (ne_of_none e n)]
  exact k b o' h1 h2 e

theorem cutV_all {xs : List V} {lo hi : Option Int} (h : HT.sIx xs.length 0 lo = 0 ∧ HT.sIx xs.length xs.length hi = xs.length) : cutV xs lo hi = xs := by
  unfold cutV
  rw [h.1, h.2, List.drop_zero, Nat.sub_zero, List.take_length]
def rSlQ : V → Option Int → Option Int → Hp → VK → Prop := fun x lo hi H Q => ∃ a xs, x = .ref a ∧ H a = some (.tup xs) ∧ ∀ p H', Same H H' → H' p = some (.tup (cutV xs lo hi)) → Q (.ref p) H'
theorem sl_tupQ {X : Cx} : SlR X rSlQ := by
  intro pins s σ H x v vl vu lo hi sl Q I rx h1 h2 h3 h
  obtain ⟨a, xs, rfl, ha, q⟩ := h
  refine sl_tupA pins s σ H _ v vl vu lo hi sl Q I rx h1 h2 h3 ⟨a, xs, rfl, SqT.of ha, fun e => q a H (Same.refl _) (by rw [cutV_all e]; exact ha), fun _ p np => q p _ (same_new np) upd_same⟩
def rCatQ : R2 := fun x y H Q => ∃ a b xs ys, x = .ref a ∧ y = .ref b ∧ H a = some (.tup xs) ∧ H b = some (.tup ys) ∧ xs.length + ys.length ≤ 1000 ∧ ∀ p H', Same H H' → H' p = some (.tup (xs ++ ys)) → Q (.ref p) H'
theorem op_catQ {X : Cx} : OpR X (binaryOp .Add) rCatQ := by
  intro pins s σ H x y v u Q I rx ry h
  obtain ⟨a, b, xs, ys, rfl, rfl, ha, hb, hl, q⟩ := h
  refine op_catA pins s σ H _ _ v u Q I rx ry ⟨a, b, xs, ys, rfl, rfl, SqT.of ha, SqT.of hb, Nat.le_of_lt (len_lt hl), fun e => q b H (Same.refl _) ?_, fun _ e => q a H (Same.refl _) ?_, fun _ _ p np => q p _ (same_new np) upd_same⟩
  · rw [e]
    exact hb
  · rw [e, List.append_nil]
    exact ha
theorem meets_mul1 (l : Addr) (items : Array Value) (n : Nat) (dd : Option Addr) (sl : Array (Option Value)) (u : Tok) (hi : items.isEmpty = false) : Meets (Builtin.«tuple.__mul__» { pos := [Value.ref l, Value.int 1 u] })
    (fun _ R s => s.heap.get? l = some { cls := Value.type "tuple", dict := dd, data := Data.seq items n, slots := sl } ∧ R (Except.ok (Flow.ret (Value.ref l))) s) :=
  .of_wp fun prog w A R s h => by
    obtain ⟨hp, g, d, tk, os⟩ := s
    obtain ⟨h1, h⟩ := h
    have h2 : hp.get? l = some { cls := Value.type "tuple", dict := dd, data := Data.seq items n, slots := sl } := h1
    wp_walk
    exact ⟨_, rfl, h⟩
def rRepQ : R2 := fun x y H Q => ∃ l k xs, x = .ref l ∧ y = .int k ∧ H l = some (.tup xs) ∧ xs ≠ [] ∧ 1 ≤ k ∧ k ≤ 1000 ∧ xs.length ≤ 1000 ∧ ∀ p H', Same H H' → H' p = some (.tup (List.replicate k.toNat xs).flatten) → Q (.ref p) H'
theorem op_repQ {X : Cx} : OpR X (binaryOp .Mult) rRepQ := by
  intro pins s σ H x y v u Q I rx ry h
  obtain ⟨l, k, xs, rfl, rfl, hl, hx, k1, k2, hn, q⟩ := h
  by_cases hk : 2 ≤ k
  · exact op_repT pins s σ H _ _ v u Q I rx ry ⟨l, k, xs, rfl, rfl, SqT.of hl, hx, hk, k2, hn, fun p np => q p _ (same_new np) upd_same⟩
  · obtain rfl : k = 1 := by omega
    cases rx
    obtain ⟨t, rfl⟩ := ry
    obtain ⟨its, rv, ⟨o, h1, h2, n, h3⟩, hz⟩ := I.tuple (SqT.of (K := X.K) hl)
    obtain ⟨oc, od, oda, osl⟩ := o
    simp only at h2 h3
    subst h2 h3
    have he : its.toArray.isEmpty = false := by
      cases rv with
      | nil => exact absurd rfl hx
      | cons _ _ => rfl
    refine wpAny_binaryOp_repeat_ref (T := "tuple") (U := "int") (by decide) ⟨_, h1, rfl⟩ (fun s' => typeIs_int s' _ _) noFill_tuple_mul F.fills_int_mul F.slot_int_rmul repeat_tuple (F.slot_int_index.lookup) ?_
    refine call_meets F.slot_int_rmul (typeIs_int _ _ _) F.entry_int_rmul (F.args_int_rmul_2 _ _) (int_rmul_tuple _ _ _ _ _ _ _) ⟨h1, rfl, ⟨_, h1, rfl⟩, ?_⟩
    refine call_meets F.slot_tuple_mul ⟨_, h1, rfl⟩ F.entry_tuple_mul (F.args_tuple_mul_2 _ _) (meets_mul1 l its.toArray n od osl t he) ⟨h1, ⟨.ref l, H, I, rfl, q l H (Same.refl _) ?_⟩⟩
    rw [hl]
    show _ = some (HO.tup (List.replicate 1 xs).flatten)
    rw [List.replicate_one, List.flatten_singleton]

theorem rep_one {z : Int} {n : Nat} : (List.replicate n [V.int z]).flatten = (List.replicate n z).map V.int := by
  induction n with
  | zero => rfl
  | succ n ih => rw [List.replicate_succ, List.flatten_cons, ih, List.replicate_succ]; rfl
theorem three_at {r a b c : Int} (h0 : 0 ≤ r) (h : r < 3) : ∃ z : Int, (z = a ∨ z = b ∨ z = c) ∧ atI [V.int a, V.int b, V.int c] r = some (.int z) := by
  have e : r = 0 ∨ r = 1 ∨ r = 2 := by omega
  rcases e with rfl | rfl | rfl
  · exact ⟨a, .inl rfl, rfl⟩
  · exact ⟨b, .inr (.inl rfl), rfl⟩
  · exact ⟨c, .inr (.inr rfl), rfl⟩
def TK (H H' : Hp) : Prop := ∀ b xs, H b = some (.tup xs) → H' b = some (.tup xs)
theorem TK.refl {H : Hp} : TK H H := fun _ _ e => e
theorem TK.trans {H H1 H2 : Hp} (a : TK H H1) (b : TK H1 H2) : TK H H2 := fun c xs e => b c xs (a c xs e)
theorem TK.same {H H' : Hp} (s : Same H H') : TK H H' := fun b xs e => s _ _ e
theorem TK.kp {H H' : Hp} {dk c : Addr} {B : Nat} (d : Deck H dk c B) (k : Kp2 dk c H H') : TK H H' := fun b xs e => tup_kp e d k
theorem TK.lst {H : Hp} {D : Addr} {xs : List V} {o : HO} (h : H D = some (.lst xs)) : TK H (upd H D o) := fun b ys e => by
  rw [upd_ne (fun z => by rw [z, h] at e; cases e)]
  exact e
theorem StockAt.tk {H H' : Hp} {t : Addr} {ls : List Addr} {rows : List (List Int)} (a : StockAt H t ls rows) (k : TK H H') : StockAt H' t ls rows :=
  ⟨k _ _ a.top, a.len, fun j l r e1 e2 => k _ _ (a.row j l r e1 e2)⟩

theorem log2_lt_20 {n : Nat} (h : n < 1048576) : n.log2 ≤ 19 := by
  by_cases h0 : n = 0
  · subst h0; decide
  · have := (Nat.log2_lt h0 (k := 20)).mpr (by omega)
    omega
theorem Sm.intM {i : Int} (h0 : 0 ≤ i) (h : i < 1048576) : Sm 21 0 (.int i) where
  lay := rfl
  short := by
    refine decide_eq_true ?_
    have e := PyProof.Rows.toString_length_le (v := i) (k := 7) h0 (by decide) (by omega)
    exact Nat.le_trans e (by decide)
  show_ := decide_eq_true (by have := log2_lt_20 (n := i.natAbs) (by omega); omega)
  wt := by
    have := log2_lt_20 (n := i.natAbs) (by omega)
    show (if i == 0 then 0 else i.natAbs.log2 + 1) ≤ 21
    split
    · omega
    · omega
  dp := Nat.le_refl _
theorem getD_of {α : Type} {xs : List α} {i : Nat} {d : α} (h : i < xs.length) : xs[i]? = some (xs.getD i d) := by
  rw [List.getD_eq_getElem?_getD, List.getElem?_eq_getElem h]
  rfl
theorem RowsAt.nil {H : Hp} : RowsAt H [] [] := fun j l r e => by simp at e
theorem RowsAt.tk {H H' : Hp} {ls : List Addr} {rows : List (List Int)} (a : RowsAt H ls rows) (k : TK H H') : RowsAt H' ls rows := fun j l r e1 e2 => k _ _ (a j l r e1 e2)
/-! ### data made of tuples -/
mutual
inductive Td (H : Hp) : V → PyData → Prop
  | non : Td H .non .none
  | bl (b : Bool) : Td H (.bl b) (.bool b)
  | int (i : Int) : Td H (.int i) (.int i)
  | str (x : Str) : Td H (.str x) (.str x)
  | tup {a : Addr} {xs : List V} {ds : List PyData} : H a = some (.tup xs) → TdAll H xs ds → Td H (.ref a) (.tuple ds)
inductive TdAll (H : Hp) : List V → List PyData → Prop
  | nil : TdAll H [] []
  | cons {v : V} {d : PyData} {vs : List V} {ds : List PyData} : Td H v d → TdAll H vs ds → TdAll H (v :: vs) (d :: ds)
end
mutual
theorem Td.tkD {H H' : Hp} (k : TK H H') : ∀ (d : PyData) (v : V), Td H v d → Td H' v d
  | .none, _, h => by cases h; exact .non
  | .bool b, _, h => by cases h; exact .bl b
  | .int i, _, h => by cases h; exact .int i
  | .str x, _, h => by cases h; exact .str x
  | .list ds, _, h => by cases h
  | .tuple ds, _, h => by
    cases h with
    | tup a b => exact .tup (k _ _ a) (TdAll.tkD k ds _ b)
  | .dict kvs, _, h => by cases h
theorem TdAll.tkD {H H' : Hp} (k : TK H H') : ∀ (ds : List PyData) (vs : List V), TdAll H vs ds → TdAll H' vs ds
  | [], _, h => by cases h; exact .nil
  | d :: ds, _, h => by
    cases h with
    | cons a b => exact .cons (Td.tkD k d _ a) (TdAll.tkD k ds _ b)
end
theorem Td.tk {H H' : Hp} {v : V} {d : PyData} (h : Td H v d) (k : TK H H') : Td H' v d := Td.tkD k d v h
theorem TdAll.tk {H H' : Hp} {vs : List V} {ds : List PyData} (h : TdAll H vs ds) (k : TK H H') : TdAll H' vs ds := TdAll.tkD k ds vs h
theorem Td.same {H H' : Hp} {v : V} {d : PyData} (h : Td H v d) (k : Same H H') : Td H' v d := h.tk (TK.same k)
theorem TdAll.same {H H' : Hp} {vs : List V} {ds : List PyData} (h : TdAll H vs ds) (k : Same H H') : TdAll H' vs ds := h.tk (TK.same k)
mutual
theorem Td.dpD {K : PySem.W.Frag} {H : Hp} : ∀ (d : PyData) (v : V), Td H v d → Dp K H v d
  | .none, _, h => by cases h; exact .non
  | .bool b, _, h => by cases h; exact .bl b
  | .int i, _, h => by cases h; exact .int i
  | .str x, _, h => by cases h; exact .str x
  | .list ds, _, h => by cases h
  | .tuple ds, _, h => by
    cases h with
    | tup a b => exact .tup (SqT.of a) (TdAll.dpD ds _ b)
  | .dict kvs, _, h => by cases h
theorem TdAll.dpD {K : PySem.W.Frag} {H : Hp} : ∀ (ds : List PyData) (vs : List V), TdAll H vs ds → DpAll K H vs ds
  | [], _, h => by cases h; exact .nil
  | d :: ds, _, h => by
    cases h with
    | cons a b => exact .cons (Td.dpD d _ a) (TdAll.dpD ds _ b)
end
theorem Td.dp {K : PySem.W.Frag} {H : Hp} {v : V} {d : PyData} (h : Td H v d) : Dp K H v d := Td.dpD d v h
theorem TdAll.dp {K : PySem.W.Frag} {H : Hp} {vs : List V} {ds : List PyData} (h : TdAll H vs ds) : DpAll K H vs ds := TdAll.dpD ds vs h
theorem TdAll.len {H : Hp} : ∀ {vs : List V} {ds : List PyData}, TdAll H vs ds → vs.length = ds.length
  | _, _, .nil => rfl
  | _, _, .cons _ b => congrArg (· + 1) b.len
theorem TdAll.app {H : Hp} : ∀ {vs : List V} {ds : List PyData} {ws : List V} {es : List PyData}, TdAll H vs ds → TdAll H ws es → TdAll H (vs ++ ws) (ds ++ es)
  | _, _, _, _, .nil, b => b
  | _, _, _, _, .cons a c, b => .cons a (c.app b)
theorem TdAll.get {H : Hp} : ∀ {vs : List V} {ds : List PyData}, TdAll H vs ds → ∀ {i : Nat} {v : V}, vs[i]? = some v → ∃ d, ds[i]? = some d ∧ Td H v d
  | _, _, .nil, _, _, e => by simp at e
  | _, _, .cons a _, 0, _, e => by
    obtain rfl := Option.some.inj e
    exact ⟨_, rfl, a⟩
  | _, _, .cons _ b, i + 1, _, e => b.get (i := i) e
theorem TdAll.getD {H : Hp} : ∀ {vs : List V} {ds : List PyData}, TdAll H vs ds → ∀ {i : Nat} {d : PyData}, ds[i]? = some d → ∃ v, vs[i]? = some v ∧ Td H v d
  | _, _, .nil, _, _, e => by simp at e
  | _, _, .cons a _, 0, _, e => by
    obtain rfl := Option.some.inj e
    exact ⟨_, rfl, a⟩
  | _, _, .cons _ b, i + 1, _, e => b.getD (i := i) e
theorem TdAll.take {H : Hp} : ∀ {vs : List V} {ds : List PyData} (n : Nat), TdAll H vs ds → TdAll H (vs.take n) (ds.take n)
  | _, _, 0, _ => .nil
  | _, _, n + 1, .nil => .nil
  | _, _, n + 1, .cons a b => .cons a (b.take n)
theorem TdAll.drop {H : Hp} : ∀ {vs : List V} {ds : List PyData} (n : Nat), TdAll H vs ds → TdAll H (vs.drop n) (ds.drop n)
  | _, _, 0, h => h
  | _, _, n + 1, .nil => .nil
  | _, _, n + 1, .cons a b => b.drop n
theorem TdAll.cut {H : Hp} {xs : List V} {ds : List PyData} (h : TdAll H xs ds) {lo hi : Option Int} : TdAll H (cutV xs lo hi) ((ds.drop (HT.sIx ds.length 0 lo)).take (HT.sIx ds.length ds.length hi - HT.sIx ds.length 0 lo)) := by
  unfold cutV
  rw [h.len]
  exact (h.drop _).take _
theorem TdAll.rep {H : Hp} {xs : List V} {ds : List PyData} (h : TdAll H xs ds) : ∀ n : Nat, TdAll H (List.replicate n xs).flatten (List.replicate n ds).flatten
  | 0 => .nil
  | n + 1 => by
    rw [List.replicate_succ, List.replicate_succ, List.flatten_cons, List.flatten_cons]
    exact h.app (h.rep n)
theorem td_ints {H : Hp} : ∀ r : List Int, TdAll H (r.map V.int) (r.map PyData.int)
  | [] => .nil
  | x :: r => .cons (.int x) (td_ints r)
theorem td_row {H : Hp} {p : Addr} {r : List Int} (h : H p = some (.tup (r.map V.int))) : Td H (.ref p) (rowD r) := .tup h (td_ints r)
theorem td_rows {H : Hp} : ∀ (ls : List Addr) (rows : List (List Int)), ls.length = rows.length → RowsAt H ls rows → TdAll H (ls.map V.ref) (rows.map rowD)
  | [], [], _, _ => .nil
  | [], _ :: _, h, _ => by simp at h
  | _ :: _, [], h, _ => by simp at h
  | l :: ls, r :: rows, h, hat => .cons (td_row (hat 0 l r rfl rfl)) (td_rows ls rows (by simpa using h) fun j l' r' e1 e2 => hat (j + 1) l' r' e1 e2)
theorem StockAt.td {H : Hp} {t : Addr} {ls : List Addr} {rows : List (List Int)} (a : StockAt H t ls rows) : Td H (.ref t) (stockD rows) := .tup a.top (td_rows ls rows a.len a.row)
theorem td_intsI {H : Hp} : ∀ {r : List Int} {xs : List V}, TdAll H xs (r.map PyData.int) → xs = r.map V.int
  | [], xs, h => by cases h; rfl
  | x :: r, xs, h => by
    cases h with
    | cons a b =>
      cases a
      rw [td_intsI b]
      rfl
theorem td_rowI {H : Hp} {v : V} {r : List Int} (h : Td H v (rowD r)) : ∃ p, v = .ref p ∧ H p = some (.tup (r.map V.int)) := by
  cases h with
  | tup a b =>
    rw [td_intsI b] at a
    exact ⟨_, rfl, a⟩
theorem td_rowsI {H : Hp} : ∀ {rows : List (List Int)} {xs : List V}, TdAll H xs (rows.map rowD) → ∃ ls : List Addr, xs = ls.map V.ref ∧ ls.length = rows.length ∧ RowsAt H ls rows
  | [], xs, h => by cases h; exact ⟨[], rfl, rfl, RowsAt.nil⟩
  | r :: rows, xs, h => by
    cases h with
    | cons a b =>
      obtain ⟨p, rfl, hp⟩ := td_rowI a
      obtain ⟨ls, rfl, hl, hr⟩ := td_rowsI b
      refine ⟨p :: ls, rfl, by simp [hl], fun j l r' e1 e2 => ?_⟩
      cases j with
      | zero =>
        obtain rfl := Option.some.inj e1
        obtain rfl := Option.some.inj e2
        exact hp
      | succ j => exact hr j l r' e1 e2
theorem td_stockI {H : Hp} {v : V} {rows : List (List Int)} (h : Td H v (stockD rows)) : ∃ t ls, v = .ref t ∧ StockAt H t ls rows := by
  cases h with
  | tup a b =>
    obtain ⟨ls, rfl, hl, hr⟩ := td_rowsI b
    exact ⟨_, ls, rfl, a, hl, hr⟩

/-! ### written data: what its reading gives -/
def Lt (σ : L2.St) (H0 : Hp) (te : TE) (d : PyData) : Prop := ∀ (H : Hp) (Q : VK), Same H0 H → (∀ v H', Same H H' → Td H' v d → Q v H') → te σ H Q
def LtA (σ : L2.St) (H0 : Hp) (ta : TA) (ds : List PyData) : Prop := ∀ (H : Hp) (Q : List V → Hp → Prop), Same H0 H → (∀ vs H', Same H H' → TdAll H' vs ds → Q vs H') → ta σ H Q
def LtO (σ : L2.St) (H0 : Hp) (to : TO) (i : Option Int) : Prop := ∀ (H : Hp) (Q : Option Int → Hp → Prop), Same H0 H → Q i H → to σ H Q
section
variable {σ : L2.St} {H0 : Hp}
theorem lt_c {v : V} {d : PyData} (h : ∀ H, Td H v d) : Lt σ H0 (tC v) d := fun H Q s k => k v H (Same.refl _) (h _)
theorem lt_i {n : Int} : Lt σ H0 (tC (.int n)) (.int n) := lt_c fun _ => .int _
theorem lt_s {x : Str} : Lt σ H0 (tC (.str x)) (.str x) := lt_c fun _ => .str _
theorem lt_b {b : Bool} : Lt σ H0 (tC (.bl b)) (.bool b) := lt_c fun _ => .bl _
theorem lt_n : Lt σ H0 (tC .non) .none := lt_c fun _ => .non
theorem lt_var {i : Nat} {v : V} {d : PyData} (h : σ[i]? = some (some v)) (hv : Td H0 v d) : Lt σ H0 (tVar i) d := fun H Q s k => ⟨v, h, k v H (Same.refl _) (hv.same s)⟩
theorem ltA_nil : LtA σ H0 tNil [] := fun H Q s k => k [] H (Same.refl _) .nil
theorem ltA_cons {te : TE} {ta : TA} {d : PyData} {ds : List PyData} (a : Lt σ H0 te d) (b : LtA σ H0 ta ds) : LtA σ H0 (tCons te ta) (d :: ds) :=
  fun H Q s k => a H _ s fun v H1 s1 q1 => b H1 _ (s.trans s1) fun vs H2 s2 q2 => k (v :: vs) H2 (s1.trans s2) (.cons (q1.same s2) q2)
theorem lt_tup {ta : TA} {ds : List PyData} (a : LtA σ H0 ta ds) (hl : ds.length ≤ 1000) : Lt σ H0 (tTup ta) (.tuple ds) :=
  fun H Q s k => a H _ s fun vs H1 s1 q1 => ⟨Nat.le_of_lt (len_lt (by rw [q1.len]; exact hl)), fun p np => k _ _ (s1.trans (same_new np)) (.tup upd_same (q1.same (same_new np)))⟩
theorem lt_neg {i : Int} {te : TE} (a : Lt σ H0 te (.int i)) : Lt σ H0 (tUn (rU fun i => V.int (-i)) te) (.int (-i)) :=
  fun H Q s k => a H _ s fun v H1 s1 q1 => by
    cases q1
    exact ⟨_, rfl, k _ _ s1 (.int _)⟩
theorem lt_add {i j : Int} {ta tb : TE} (a : Lt σ H0 ta (.int i)) (b : Lt σ H0 tb (.int j)) : Lt σ H0 (tOp (rI0 fun i j => V.int (i + j)) ta tb) (.int (i + j)) :=
  fun H Q s k => a H _ s fun v H1 s1 q1 => b H1 _ (s.trans s1) fun u H2 s2 q2 => by
    cases q1
    cases q2
    exact ⟨_, _, rfl, rfl, k _ _ (s1.trans s2) (.int _)⟩
theorem lto_none : LtO σ H0 tNoPart none := fun H Q s k => k
theorem lto_var {i : Nat} {n : Int} (h : σ[i]? = some (some (.int n))) : LtO σ H0 (tPart (tVar i)) (some n) := fun H Q s k => ⟨_, h, n, rfl, k⟩
theorem lto_c {n : Int} : LtO σ H0 (tPart (tC (.int n))) (some n) := fun H Q s k => ⟨n, rfl, k⟩
theorem lto_var1 {i : Nat} {n : Int} (h : σ[i]? = some (some (.int n))) : LtO σ H0 (tPart (tOp (rI0 fun i j => V.int (i + j)) (tVar i) (tC (.int 1)))) (some (n + 1)) := fun H Q s k => ⟨_, h, _, _, rfl, rfl, _, rfl, k⟩
theorem lt_sl {te : TE} {tl th : TO} {ds : List PyData} {lo hi : Option Int} (a : Lt σ H0 te (.tuple ds)) (l : LtO σ H0 tl lo) (h : LtO σ H0 th hi) :
    Lt σ H0 (tSl rSlQ te tl th) (.tuple ((ds.drop (HT.sIx ds.length 0 lo)).take (HT.sIx ds.length ds.length hi - HT.sIx ds.length 0 lo))) :=
  fun H Q s k => a H _ s fun v H1 s1 q1 => l H1 _ (s.trans s1) (h H1 _ (s.trans s1) (by
    cases q1 with
    | @tup p xs _ hp hs => exact ⟨p, xs, rfl, hp, fun p2 H2 s2 h2 => k _ _ (s1.trans s2) (.tup h2 (hs.same s2).cut)⟩))
theorem lt_cat {ta tb : TE} {ds es : List PyData} (a : Lt σ H0 ta (.tuple ds)) (b : Lt σ H0 tb (.tuple es)) (hl : ds.length + es.length ≤ 1000) :
    Lt σ H0 (tOp rCatQ ta tb) (.tuple (ds ++ es)) :=
  fun H Q s k => a H _ s fun v H1 s1 q1 => b H1 _ (s.trans s1) fun u H2 s2 q2 => by
    have q1 := q1.same s2
    cases q1 with
    | @tup p xs _ hp hs =>
      cases q2 with
      | @tup p2 ys _ hp2 hs2 =>
        exact ⟨p, p2, xs, ys, rfl, rfl, hp, hp2, by rw [hs.len, hs2.len]; exact hl, fun p3 H3 s3 h3 => k _ _ (s1.trans (s2.trans s3)) (.tup h3 ((hs.same s3).app (hs2.same s3)))⟩
theorem lt_rep {ta tb : TE} {ds : List PyData} {n : Int} (a : Lt σ H0 ta (.tuple ds)) (b : Lt σ H0 tb (.int n)) (h0 : ds ≠ []) (hl : ds.length ≤ 1000) (hn : 1 ≤ n) (hn2 : n ≤ 1000) :
    Lt σ H0 (tOp rRepQ ta tb) (.tuple (List.replicate n.toNat ds).flatten) :=
  fun H Q s k => a H _ s fun v H1 s1 q1 => b H1 _ (s.trans s1) fun u H2 s2 q2 => by
    have q1 := q1.same s2
    cases q1 with
    | @tup p xs _ hp hs =>
      cases q2
      refine ⟨p, n, xs, rfl, rfl, hp, ?_, hn, hn2, by rw [hs.len]; exact hl, fun p3 H3 s3 h3 => k _ _ (s1.trans (s2.trans s3)) (.tup h3 ((hs.same s3).rep _))⟩
      intro z
      subst z
      cases hs
      exact h0 rfl
end
/-! ### equal data -/
theorem eqv_ints : ∀ r s : List Int, PyData.eqvAll (r.map PyData.int) (s.map PyData.int) = decide (r = s)
  | [], [] => by simp [PyData.eqvAll]
  | [], _ :: _ => by simp [PyData.eqvAll]
  | _ :: _, [] => by simp [PyData.eqvAll]
  | x :: r, y :: s => by
    show (PyData.eqv (.int x) (.int y) && PyData.eqvAll (r.map PyData.int) (s.map PyData.int)) = _
    rw [eqv_ints r s]
    simp only [PyData.eqv]
    by_cases h1 : x = y
    · by_cases h2 : r = s <;> simp [h1, h2]
    · simp [h1]
theorem eqv_row (r s : List Int) : PyData.eqv (rowD r) (rowD s) = decide (r = s) := by
  show PyData.eqv (.tuple _) (.tuple _) = _
  simp only [PyData.eqv]
  exact eqv_ints r s
theorem eqv_rows : ∀ r s : List (List Int), PyData.eqvAll (r.map rowD) (s.map rowD) = decide (r = s)
  | [], [] => by simp [PyData.eqvAll]
  | [], _ :: _ => by simp [PyData.eqvAll]
  | _ :: _, [] => by simp [PyData.eqvAll]
  | x :: r, y :: s => by
    show (PyData.eqv (rowD x) (rowD y) && PyData.eqvAll (r.map rowD) (s.map rowD)) = _
    rw [eqv_rows r s, eqv_row]
    by_cases h1 : x = y
    · by_cases h2 : r = s <;> simp [h1, h2]
    · simp [h1]
theorem eqv_stock (r s : List (List Int)) : PyData.eqv (stockD r) (stockD s) = decide (r = s) := by
  show PyData.eqv (.tuple _) (.tuple _) = _
  simp only [PyData.eqv]
  exact eqv_rows r s
theorem eqv_bools : ∀ r : List Bool, PyData.eqvAll (r.map PyData.bool) (r.map PyData.bool) = true
  | [] => by simp [PyData.eqvAll]
  | x :: r => by
    show (PyData.eqv (.bool x) (.bool x) && PyData.eqvAll (r.map PyData.bool) (r.map PyData.bool)) = _
    rw [eqv_bools r]
    simp [PyData.eqv]
theorem dps_bools {K : PySem.W.Frag} {H : Hp} : ∀ r : List Bool, DpAll K H (r.map V.bl) (r.map PyData.bool)
  | [] => .nil
  | x :: r => .cons (.bl x) (dps_bools r)
end DD
namespace DD
open PySem PySem.Spec PyProof.Rows L2
/-! ### texts of numbers, rows and cabinets -/
def numT (x : Int) : Str := Str.ofString (toString x)
def rowT (r : List Int) : Str := Txt.join "," (r.map numT)
def cabW (S C : List (List Int)) : List Str := S.map rowT ++ ("for" : Str) :: C.map rowT
def cabT (S C : List (List Int)) : Str := Txt.join " " (cabW S C)
theorem tl_numT {x : Int} (h : 0 ≤ x) : TL.tl (numT x) = TL.numL x.toNat := by
  obtain ⟨n, rfl⟩ := Int.eq_ofNat_of_zero_le h
  exact TL.tl_num n
theorem numT_inj {x y : Int} (hx : 0 ≤ x) (hy : 0 ≤ y) (h : numT x = numT y) : x = y := by
  have e := congrArg TL.tl h
  rw [tl_numT hx, tl_numT hy] at e
  have := TL.numL_inj e
  omega
theorem numT_inj' : ∀ {r s : List Int}, (∀ x ∈ r, 0 ≤ x) → (∀ x ∈ s, 0 ≤ x) → r.map numT = s.map numT → r = s
  | [], [], _, _, _ => rfl
  | [], _ :: _, _, _, h => by simp at h
  | _ :: _, [], _, _, h => by simp at h
  | x :: r, y :: s, h1, h2, h => by
    rw [List.map_cons, List.map_cons] at h
    injection h with a b
    rw [numT_inj (h1 x List.mem_cons_self) (h2 y List.mem_cons_self) a, numT_inj' (fun z hz => h1 z (List.mem_cons_of_mem _ hz)) (fun z hz => h2 z (List.mem_cons_of_mem _ hz)) b]
theorem joinL_mem {S : List Nat} {c : Nat} : ∀ {ps : List (List Nat)}, c ∈ TL.joinL S ps → c ∈ S ∨ ∃ p ∈ ps, c ∈ p
  | [], h => by cases h
  | [p], h => .inr ⟨p, List.mem_singleton.mpr rfl, h⟩
  | p :: q :: r, h => by
    have h : c ∈ p ++ (S ++ TL.joinL S (q :: r)) := h
    rcases List.mem_append.mp h with h | h
    · exact .inr ⟨p, List.mem_cons_self, h⟩
    · rcases List.mem_append.mp h with h | h
      · exact .inl h
      · rcases joinL_mem h with h | ⟨p', hp, hc⟩
        · exact .inl h
        · exact .inr ⟨p', List.mem_cons_of_mem _ hp, hc⟩
theorem tl_comma : TL.tl ("," : Str) = [44] := by decide +kernel
theorem tl_blank : TL.tl (" " : Str) = [32] := by decide +kernel
theorem tl_for : TL.tl ("for" : Str) = [102, 111, 114] := by decide +kernel
theorem rowT_mem {r : List Int} (h : ∀ x ∈ r, 0 ≤ x) {c : Nat} (hc : c ∈ TL.tl (rowT r)) : c = 44 ∨ (48 ≤ c ∧ c ≤ 57) := by
  unfold rowT at hc
  rw [TL.join_eq, TL.tl_join, tl_comma] at hc
  rcases joinL_mem hc with hc | ⟨p, hp, hc⟩
  · exact .inl (List.mem_singleton.mp hc)
  · rw [List.map_map] at hp
    obtain ⟨x, hx, rfl⟩ := List.mem_map.mp hp
    rw [Function.comp_apply, tl_numT (h x hx)] at hc
    exact .inr (TL.numL_digits _ c hc)
theorem rowT_for {r : List Int} (h : ∀ x ∈ r, 0 ≤ x) : rowT r ≠ "for" := fun e => by
  have hc : (102 : Nat) ∈ TL.tl (rowT r) := by
    rw [e, tl_for]
    simp
  have := rowT_mem h hc
  omega
theorem rowT_inj {r s : List Int} (hr : ∀ x ∈ r, 0 ≤ x) (hs : ∀ x ∈ s, 0 ≤ x) (nr : r ≠ []) (ns : s ≠ []) (h : rowT r = rowT s) : r = s := by
  have k : ∀ {r : List Int}, (∀ x ∈ r, 0 ≤ x) → r ≠ [] → Txt.split (rowT r) "," = r.map numT := fun {r} hr nr =>
    TL.split_join tl_comma (by decide +kernel) (fun e => nr (List.map_eq_nil_iff.mp e)) fun p hp => by
      obtain ⟨x, hx, rfl⟩ := List.mem_map.mp hp
      rw [tl_numT (hr x hx)]
      exact TL.numL_free (by omega)
  refine numT_inj' hr hs ?_
  rw [← k hr nr, ← k hs ns, h]
/-- rows whose texts may be told apart -/
def Plain (S : List (List Int)) : Prop := ∀ r ∈ S, r ≠ [] ∧ ∀ x ∈ r, 0 ≤ x
theorem rows_inj : ∀ {S T : List (List Int)}, Plain S → Plain T → S.map rowT = T.map rowT → S = T
  | [], [], _, _, _ => rfl
  | [], _ :: _, _, _, h => by simp at h
  | _ :: _, [], _, _, h => by simp at h
  | x :: r, y :: s, h1, h2, h => by
    rw [List.map_cons, List.map_cons] at h
    injection h with a b
    rw [rowT_inj (h1 x List.mem_cons_self).2 (h2 y List.mem_cons_self).2 (h1 x List.mem_cons_self).1 (h2 y List.mem_cons_self).1 a, rows_inj (fun z hz => h1 z (List.mem_cons_of_mem _ hz)) (fun z hz => h2 z (List.mem_cons_of_mem _ hz)) b]
theorem cut_at {α : Type} {x : α} : ∀ {a a' b b' : List α}, x ∉ a → x ∉ a' → a ++ x :: b = a' ++ x :: b' → a = a' ∧ b = b'
  | [], [], b, b', _, _, h => by
    injection h with _ h
    exact ⟨rfl, h⟩
  | [], y :: a', b, b', _, h2, h => by
    injection h with e _
    exact absurd (by rw [e]; exact List.mem_cons_self) h2
  | y :: a, [], b, b', h1, _, h => by
    injection h with e _
    exact absurd (by rw [← e]; exact List.mem_cons_self) h1
  | y :: a, z :: a', b, b', h1, h2, h => by
    injection h with e h
    obtain ⟨rfl, rfl⟩ := cut_at (fun z => h1 (List.mem_cons_of_mem _ z)) (fun z => h2 (List.mem_cons_of_mem _ z)) h
    rw [e]
    exact ⟨rfl, rfl⟩
theorem for_notin {S : List (List Int)} (h : Plain S) : ("for" : Str) ∉ S.map rowT := fun e => by
  obtain ⟨r, hr, e⟩ := List.mem_map.mp e
  exact rowT_for (h r hr).2 e
theorem cabW_free {S C : List (List Int)} (hS : Plain S) (hC : Plain C) : ∀ p ∈ cabW S C, (32 : Nat) ∉ TL.tl p := fun p hp hc => by
  unfold cabW at hp
  have key : ∀ {T : List (List Int)}, Plain T → p ∈ T.map rowT → False := fun {T} hT h => by
    obtain ⟨r, hr, rfl⟩ := List.mem_map.mp h
    have := rowT_mem (hT r hr).2 hc
    omega
  rcases List.mem_append.mp hp with h | h
  · exact key hS h
  · rcases List.mem_cons.mp h with rfl | h
    · rw [tl_for] at hc
      simp at hc
    · exact key hC h
theorem cabT_inj {S C S' C' : List (List Int)} (hS : Plain S) (hC : Plain C) (hS' : Plain S') (hC' : Plain C') (h : cabT S C = cabT S' C') : S = S' ∧ C = C' := by
  have k : ∀ {S C : List (List Int)}, Plain S → Plain C → Txt.split (cabT S C) " " = cabW S C := fun {S C} hS hC =>
    TL.split_join tl_blank (by decide +kernel) (fun e => by unfold cabW at e; simp at e) (cabW_free hS hC)
  have e : cabW S C = cabW S' C' := by rw [← k hS hC, ← k hS' hC', h]
  obtain ⟨e1, e2⟩ := cut_at (for_notin hS) (for_notin hS') e
  exact ⟨rows_inj hS hS' e1, rows_inj hC hC' e2⟩
theorem numT_len {x : Int} (h0 : 0 ≤ x) (h : x < 4096) : (numT x).length ≤ 13 := by
  have e := int_text_length_le (a := x) (k := 12) (by decide) (by have := log2_lt_of (n := x.natAbs) (by omega); omega)
  unfold numT
  rw [PySem.ofString_length]
  omega
theorem num_log {x : Int} (h0 : 0 ≤ x) (h : x < 4096) : x.natAbs.log2 < 1920 := by
  have := log2_lt_of (n := x.natAbs) (by omega)
  omega
theorem sum_le_mul {m : Nat} : ∀ {xs : List Nat}, (∀ x ∈ xs, x ≤ m) → xs.sum ≤ xs.length * m
  | [], _ => by simp
  | x :: xs, h => by
    have h1 := h x List.mem_cons_self
    have h2 := sum_le_mul (xs := xs) fun y hy => h y (List.mem_cons_of_mem _ hy)
    rw [List.sum_cons, List.length_cons, Nat.succ_mul]
    omega
theorem join_len (y : Str) : ∀ ps : List Str, (Txt.join y ps).length ≤ (ps.map (·.length)).sum + ps.length * y.length := fun ps => by
  rw [TL.join_eq, TL.len_tl, TL.tl_join]
  induction ps with
  | nil => simp [TL.joinL]
  | cons p r ih =>
    cases r with
    | nil =>
      show (TL.tl p).length ≤ _
      rw [← TL.len_tl]
      simp
    | cons q r =>
      show (TL.tl p ++ (TL.tl y ++ TL.joinL (TL.tl y) ((q :: r).map TL.tl))).length ≤ _
      rw [List.length_append, List.length_append, ← TL.len_tl, ← TL.len_tl, List.map_cons (f := fun x : Str => x.length), List.sum_cons, List.length_cons, Nat.succ_mul]
      omega
theorem rowT_size {r : List Int} (h : ∀ x ∈ r, 0 ≤ x ∧ x < 4096) (hl : r.length ≤ 4) : ((r.map numT).map (·.length)).sum + (r.map numT).length * ("," : Str).length ≤ 60 := by
  have h1 : ((r.map numT).map (·.length)).sum ≤ ((r.map numT).map (·.length)).length * 13 := sum_le_mul fun x hx => by
    obtain ⟨y, hy, rfl⟩ := List.mem_map.mp hx
    obtain ⟨z, hz, rfl⟩ := List.mem_map.mp hy
    exact numT_len (h z hz).1 (h z hz).2
  have h2 : ("," : Str).length = 1 := by decide +kernel
  rw [h2]
  simp only [List.length_map] at h1 ⊢
  omega
theorem rowT_len {r : List Int} (h : ∀ x ∈ r, 0 ≤ x ∧ x < 4096) (hl : r.length ≤ 4) : (rowT r).length ≤ 60 := Nat.le_trans (join_len _ _) (rowT_size h hl)
/-- rows of a cabinet: one to four numbers each -/
def Rows4 (S : List (List Int)) : Prop := ∀ r ∈ S, (1 ≤ r.length ∧ r.length ≤ 4) ∧ ∀ x ∈ r, 0 ≤ x ∧ x < 4096
theorem Rows4.plain {S : List (List Int)} (h : Rows4 S) : Plain S := fun r hr => ⟨fun e => by have := (h r hr).1.1; rw [e] at this; simp at this, fun x hx => ((h r hr).2 x hx).1⟩
theorem cabW_size {S C : List (List Int)} (hS : Rows4 S) (hC : Rows4 C) (h1 : S.length ≤ 4) (h2 : C.length ≤ 4) : ((cabW S C).map (·.length)).sum + (cabW S C).length * (" " : Str).length ≤ 16777216 := by
  have h3 : ((cabW S C).map (·.length)).sum ≤ ((cabW S C).map (·.length)).length * 60 := sum_le_mul fun x hx => by
    obtain ⟨p, hp, rfl⟩ := List.mem_map.mp hx
    unfold cabW at hp
    have key : ∀ {T : List (List Int)}, Rows4 T → p ∈ T.map rowT → p.length ≤ 60 := fun {T} hT h => by
      obtain ⟨r, hr, rfl⟩ := List.mem_map.mp h
      exact rowT_len (hT r hr).2 (hT r hr).1.2
    rcases List.mem_append.mp hp with h | h
    · exact key hS h
    · rcases List.mem_cons.mp h with rfl | h
      · decide +kernel
      · exact key hC h
  have h4 : (" " : Str).length = 1 := by decide +kernel
  have h5 : (cabW S C).length ≤ 9 := by
    unfold cabW
    simp
    omega
  rw [h4]
  simp only [List.length_map] at h3 ⊢
  omega
end DD
namespace DD
open PySem PySem.Spec PyProof.Rows L2
theorem iteT2 {c : Bool} {A B : Prop} (e : c = true) (h : A) : if c = true then A else B := by rw [if_pos e]; exact h
theorem iteF2 {c : Bool} {A B : Prop} (e : c = false) (h : B) : if c = true then A else B := by rw [e, if_neg Bool.false_ne_true]; exact h
/-! ### one step of a reading, by name -/
section
variable {t u : TS} {D : Ends} {σ : L2.St} {H : Hp} {te tb : TE} {ta : TA} {g : TG} {i : Nat} {v : V} {r : R2}
theorem at_seq (h : t { D with nx := u D } σ H) : tSeq t u D σ H := h
theorem at_asg (h : te σ H fun x H1 => g x σ H1 D.nx) : tAsg te g D σ H := h
theorem at_name {Q : L2.St → Hp → Prop} (h : Q (σ.set i (some v)) H) : gName i v σ H Q := h
theorem at_ret (h : te σ H D.rt) : tRet te D σ H := h
theorem at_lst {Q : VK} (h : ta σ H fun vs H1 => vs.length ≤ sizeLine ∧ ∀ p, H1 p = none → Q (.ref p) (upd H1 p (.lst vs))) : tLst ta σ H Q := h
theorem at_tup {Q : VK} (h : ta σ H fun vs H1 => vs.length ≤ sizeLine ∧ ∀ p, H1 p = none → Q (.ref p) (upd H1 p (.tup vs))) : tTup ta σ H Q := h
theorem at_op {Q : VK} (h : te σ H fun x H1 => tb σ H1 fun y H2 => r x y H2 Q) : tOp r te tb σ H Q := h
theorem at_cons {Q : List V → Hp → Prop} (h : te σ H fun x H1 => ta σ H1 fun xs H2 => Q (x :: xs) H2) : tCons te ta σ H Q := h
theorem at_nil {Q : List V → Hp → Prop} (h : Q [] H) : tNil σ H Q := h
theorem at_var {Q : VK} (h1 : σ[i]? = some (some v)) (h : Q v H) : tVar i σ H Q := ⟨v, h1, h⟩
end
end DD
namespace DD
open PySem PySem.Spec PyProof.Rows L2

/-! ### data of any value of a law: also dicts, {} and {"a": 0} -/
mutual
inductive Dq (H : Hp) : V → PyData → Prop
  | non : Dq H .non .none
  | bl (b : Bool) : Dq H (.bl b) (.bool b)
  | int (i : Int) : Dq H (.int i) (.int i)
  | str (x : Str) : Dq H (.str x) (.str x)
  | lst {a : Addr} {xs : List V} {ds : List PyData} : H a = some (.lst xs) → DqAll H xs ds → Dq H (.ref a) (.list ds)
  | tup {a : Addr} {xs : List V} {ds : List PyData} : H a = some (.tup xs) → DqAll H xs ds → Dq H (.ref a) (.tuple ds)
  | d0 {a : Addr} : H a = some (.dK []) → Dq H (.ref a) (.dict [])
  | d1 {a : Addr} : H a = some (.dK [(.inr "a", .int 0)]) → Dq H (.ref a) (.dict [(.str "a", .int 0)])
inductive DqAll (H : Hp) : List V → List PyData → Prop
  | nil : DqAll H [] []
  | cons {v : V} {d : PyData} {vs : List V} {ds : List PyData} : Dq H v d → DqAll H vs ds → DqAll H (v :: vs) (d :: ds)
end
mutual
theorem Dq.same {H H' : Hp} (k : Same H H') : ∀ (d : PyData) (v : V), Dq H v d → Dq H' v d
  | .none, _, h => by cases h; exact .non
  | .bool b, _, h => by cases h; exact .bl b
  | .int i, _, h => by cases h; exact .int i
  | .str x, _, h => by cases h; exact .str x
  | .list ds, _, h => by
    cases h with
    | lst a b => exact .lst (k _ _ a) (DqAll.same k ds _ b)
  | .tuple ds, _, h => by
    cases h with
    | tup a b => exact .tup (k _ _ a) (DqAll.same k ds _ b)
  | .dict kvs, _, h => by
    cases h with
    | d0 a => exact .d0 (k _ _ a)
    | d1 a => exact .d1 (k _ _ a)
theorem DqAll.same {H H' : Hp} (k : Same H H') : ∀ (ds : List PyData) (vs : List V), DqAll H vs ds → DqAll H' vs ds
  | [], _, h => by cases h; exact .nil
  | d :: ds, _, h => by
    cases h with
    | cons a b => exact .cons (Dq.same k d _ a) (DqAll.same k ds _ b)
end
theorem DqAll.len {H : Hp} : ∀ {vs : List V} {ds : List PyData}, DqAll H vs ds → vs.length = ds.length
  | _, _, .nil => rfl
  | _, _, .cons _ b => congrArg (· + 1) b.len
theorem DqAll.app {H : Hp} : ∀ {vs : List V} {ds : List PyData} {ws : List V} {es : List PyData}, DqAll H vs ds → DqAll H ws es → DqAll H (vs ++ ws) (ds ++ es)
  | _, _, _, _, .nil, b => b
  | _, _, _, _, .cons a c, b => .cons a (c.app b)
theorem DqAll.get {H : Hp} : ∀ {vs : List V} {ds : List PyData}, DqAll H vs ds → ∀ {i : Nat} {v : V}, vs[i]? = some v → ∃ d, ds[i]? = some d ∧ Dq H v d
  | _, _, .nil, _, _, e => by simp at e
  | _, _, .cons a _, 0, _, e => by
    obtain rfl := Option.some.inj e
    exact ⟨_, rfl, a⟩
  | _, _, .cons _ b, i + 1, _, e => b.get (i := i) e
theorem DqAll.take {H : Hp} : ∀ {vs : List V} {ds : List PyData} (n : Nat), DqAll H vs ds → DqAll H (vs.take n) (ds.take n)
  | _, _, 0, _ => .nil
  | _, _, n + 1, .nil => .nil
  | _, _, n + 1, .cons a b => .cons a (b.take n)
theorem DqAll.drop {H : Hp} : ∀ {vs : List V} {ds : List PyData} (n : Nat), DqAll H vs ds → DqAll H (vs.drop n) (ds.drop n)
  | _, _, 0, h => h
  | _, _, n + 1, .nil => .nil
  | _, _, n + 1, .cons _ b => b.drop n
theorem dq_ints {H : Hp} : ∀ r : List Int, DqAll H (r.map V.int) (r.map PyData.int)
  | [] => .nil
  | x :: r => .cons (.int x) (dq_ints r)

/-! noL: no list in it -/
mutual
def noL : PyData → Bool
  | .list _ => false
  | .tuple ds => noLs ds
  | _ => true
def noLs : List PyData → Bool
  | [] => true
  | d :: ds => noL d && noLs ds
end
theorem reads_d0 {X : Cx} {pins : List (Addr × Obj)} {σ : L2.St} {H : Hp} {s : Shared} (I : Inv X pins σ H s) {a : Addr} (h : H a = some (.dK [])) : ∃ as, Reads s.heap (.ref a) (.dict []) as ∧ sysModules ∉ as := by
  have q : ObjOk X.prog X.w H s.heap a (.dK []) := I.hok a _ h
  unfold ObjOk at q
  obtain ⟨_, hs, vs, kv, o, es, ep, ho, hx, hd, hk, hp, _⟩ := q
  cases kv
  obtain ⟨l⟩ := es
  cases hp
  refine ⟨_, .dict ho hx.1 hd (.nil) (.nil), fun z => ?_⟩
  have : sysModules = a := by simpa using z
  rw [this] at hs
  simp at hs
theorem reads_d1 {X : Cx} {pins : List (Addr × Obj)} {σ : L2.St} {H : Hp} {s : Shared} (I : Inv X pins σ H s) {a : Addr} (h : H a = some (.dK [(.inr "a", .int 0)])) : ∃ as, Reads s.heap (.ref a) (.dict [(.str "a", .int 0)]) as ∧ sysModules ∉ as := by
  have q : ObjOk X.prog X.w H s.heap a (.dK [(.inr "a", .int 0)]) := I.hok a _ h
  unfold ObjOk at q
  obtain ⟨_, hs, vs, kv, o, es, ep, ho, hx, hd, hk, hp, _⟩ := q
  cases kv with
  | cons r n =>
    cases n
    obtain ⟨l⟩ := es
    cases hp with
    | cons hi hv hr =>
      cases hr
      obtain ⟨rk, tk, rv⟩ := r
      rename_i kv _ e
      rw [← rk] at hi
      rw [rv] at hv
      obtain ⟨tk2, hk2⟩ : ∃ t, e.key = .str "a" t := by
        have z : keyIs (.inr "a") e.key = true := hi
        cases q : e.key <;> rw [q] at z <;> first | (exact absurd z Bool.false_ne_true) | (obtain rfl : "a" = _ := of_decide_eq_true z; exact ⟨_, rfl⟩) | (have z2 := eq_of_beq z; subst z2; exact ⟨_, rfl⟩)
      refine ⟨_, .dict ho hx.1 hd (.cons (show Reads s.heap e.key (.str "a") _ by rw [hk2]; exact .str _ _) .nil) (.cons (show Reads s.heap e.val (.int 0) _ by rw [hv]; exact .int _ _) .nil), fun z => ?_⟩
      have : sysModules = a := by simpa using z
      rw [this] at hs
      simp at hs
mutual
theorem Dq.reads {X : Cx} {pins : List (Addr × Obj)} {σ : L2.St} {H : Hp} {s : Shared} (I : Inv X pins σ H s) : ∀ (d : PyData) (v : V) (u : Value), Dq H v d → RelV v u → ∃ as, Reads s.heap u d as ∧ (noL d = true → sysModules ∉ as)
  | .none, _, u, h, r => by
    cases h
    obtain rfl : u = .none := r
    exact ⟨_, .none, fun _ => by simp⟩
  | .bool b, _, u, h, r => by
    cases h
    obtain rfl : u = .bool b := r
    exact ⟨_, .bool b, fun _ => by simp⟩
  | .int i, _, u, h, r => by
    cases h
    obtain ⟨t, rfl⟩ := r
    exact ⟨_, .int i t, fun _ => by simp⟩
  | .str x, _, u, h, r => by
    cases h
    obtain ⟨t, rfl⟩ := r
    exact ⟨_, .str x t, fun _ => by simp⟩
  | .list ds, _, u, h, r => by
    cases h with
    | lst a b =>
      cases r
      obtain ⟨its, rv, ⟨o, n, h1, h2, _, h3⟩, _⟩ := I.list (SqL.of (K := X.K) a)
      obtain ⟨as, ra, _⟩ := DqAll.reads I ds _ _ b rv
      exact ⟨_, .list (vs := its.toArray) h1 h2 h3 ra, fun z => by cases z⟩
  | .tuple ds, _, u, h, r => by
    cases h with
    | tup a b =>
      cases r
      obtain ⟨its, rv, ⟨o, ho, hc, n, hd⟩, _⟩ := I.tuple (SqT.of (K := X.K) a)
      obtain ⟨as, ra, hn⟩ := DqAll.reads I ds _ _ b rv
      exact ⟨_, .tuple (vs := its.toArray) ho hc hd ra, fun z => hn z⟩
  | .dict kvs, _, u, h, r => by
    cases h with
    | d0 a =>
      cases r
      obtain ⟨as, q, n⟩ := reads_d0 I a
      exact ⟨as, q, fun _ => n⟩
    | d1 a =>
      cases r
      obtain ⟨as, q, n⟩ := reads_d1 I a
      exact ⟨as, q, fun _ => n⟩
theorem DqAll.reads {X : Cx} {pins : List (Addr × Obj)} {σ : L2.St} {H : Hp} {s : Shared} (I : Inv X pins σ H s) : ∀ (ds : List PyData) (vs : List V) (us : List Value), DqAll H vs ds → Vals vs us → ∃ as, ReadsAll s.heap us ds as ∧ (noLs ds = true → sysModules ∉ as)
  | [], _, _, h, r => by
    cases h
    cases r
    exact ⟨_, .nil, fun _ => by simp⟩
  | d :: ds, _, _, h, r => by
    cases h with
    | cons a b =>
      cases r with
      | cons r1 r2 =>
        obtain ⟨as, q1, n1⟩ := Dq.reads I d _ _ a r1
        obtain ⟨bs, q2, n2⟩ := DqAll.reads I ds _ _ b r2
        refine ⟨_, .cons q1 q2, fun z => ?_⟩
        have z' : (noL d && noLs ds) = true := z
        rw [Bool.and_eq_true] at z'
        intro m
        rcases List.mem_append.mp m with m | m
        · exact n1 z'.1 m
        · exact n2 z'.2 m
end

/-! ### repr of any such value -/
structure Gd (d : PyData) : Prop where
  show_ : d.showable = true
  dp : d.depth ≤ 64
  sz : d.shown.length ≤ sizeLine
  nl : d.hasDict = true → noL d = true
theorem call_reprQ {X : Cx} (hg : X.A.guards = some []) (hu : X.A.units + 66 < cLine) : CallR X (.builtin "repr") (fun xs H Q =>
    ∃ v d, xs = [v] ∧ Dq H v d ∧ Gd d ∧ Q (.str d.shown) H) := by
  intro pins s σ H xs us Q I r h
  obtain ⟨v, d, rfl, hd, g, q⟩ := h
  obtain ⟨u, rfl, ru⟩ := vals1 r
  obtain ⟨as, rd, nm⟩ := Dq.reads I d _ _ hd ru
  have hdp := g.dp
  have big : ∀ (a : Addr), u = .ref a → wpAny (model X.prog X.w) X.A (call (.builtin "repr") [u]) (fun u s1 => ∃ x H1, Inv X pins σ H1 s1 ∧ RelV x u ∧ Q x H1) X.xe s := fun a e => by
    subst e
    exact repr_of_reads' (Q := fun u s1 => ∃ x H1, Inv X pins σ H1 s1 ∧ RelV x u ∧ Q x H1) rd g.show_ (fun z => nm (g.nl z)) hg (by omega) (fun _ _ e => e)
      (fun h' u tk hk => ⟨.str d.shown, H, I.kept hk, ⟨_, rfl⟩, q⟩) g.sz
  cases hd with
  | non =>
    obtain rfl : u = .none := ru
    exact P.repr_of_none ⟨.str PyData.none.shown, H, I.tok _, ⟨_, rfl⟩, q⟩
  | bl b =>
    obtain rfl : u = .bool b := ru
    exact P.repr_of_bool ⟨.str (PyData.bool b).shown, H, I.tok _, ⟨_, rfl⟩, q⟩
  | int i =>
    obtain ⟨t, rfl⟩ := ru
    exact P.repr_of_int (of_decide_eq_true g.show_) ⟨.str (PyData.int i).shown, H, I.tok _, ⟨_, rfl⟩, q⟩
  | str x =>
    obtain ⟨t, rfl⟩ := ru
    exact P.repr_of_str ⟨.str (PyData.str x).shown, H, I.tok _, ⟨_, rfl⟩, q⟩ g.sz
  | lst _ _ => exact big _ ru
  | tup _ _ => exact big _ ru
  | d0 _ => exact big _ ru
  | d1 _ => exact big _ ru

/-! ### its kind -/
def isTup : PyData → Bool
  | .tuple _ => true
  | _ => false
def isI : PyData → Bool
  | .int _ => true
  | .bool _ => true
  | _ => false
def isB : PyData → Bool
  | .bool _ => true
  | _ => false
theorem dq_ty {K : PySem.W.Frag} {H : Hp} {v : V} {d : PyData} (h : Dq H v d) : ∃ T : String, TyX K H v (.type T) ∧ PySem.W.kitOne K (.type T) (.type "tuple") = some (isTup d) ∧ PySem.W.kitOne K (.type T) (.type "int") = some (isI d) ∧ PySem.W.kitOne K (.type T) (.type "bool") = some (isB d) := by
  cases h with
  | non => exact ⟨_, .base .non, kit_ty (by decide +kernel), kit_ty (by decide +kernel), kit_ty (by decide +kernel)⟩
  | bl b => exact ⟨_, .base (.bl b), kit_ty (a := "bool") (r := false) (by decide +kernel), kit_ty (a := "bool") (r := true) (by decide +kernel), kit_ty (a := "bool") (r := true) (by decide +kernel)⟩
  | int i => exact ⟨_, .base (.int i), kit_ty (a := "int") (r := false) (by decide +kernel), kit_ty (a := "int") (r := true) (by decide +kernel), kit_ty (a := "int") (r := false) (by decide +kernel)⟩
  | str x => exact ⟨_, .base (.str x), kit_ty (a := "str") (r := false) (by decide +kernel), kit_ty (a := "str") (r := false) (by decide +kernel), kit_ty (a := "str") (r := false) (by decide +kernel)⟩
  | lst a _ => exact ⟨_, .base (.lst a), kit_ty (a := "list") (r := false) (by decide +kernel), kit_ty (a := "list") (r := false) (by decide +kernel), kit_ty (a := "list") (r := false) (by decide +kernel)⟩
  | tup a _ => exact ⟨_, .base (.tup a), kit_ty (a := "tuple") (r := true) (by decide +kernel), kit_ty (a := "tuple") (r := false) (by decide +kernel), kit_ty (a := "tuple") (r := false) (by decide +kernel)⟩
  | d0 a => exact ⟨_, .base (.dK a), kit_ty (a := "dict") (r := false) (by decide +kernel), kit_ty (a := "dict") (r := false) (by decide +kernel), kit_ty (a := "dict") (r := false) (by decide +kernel)⟩
  | d1 a => exact ⟨_, .base (.dK a), kit_ty (a := "dict") (r := false) (by decide +kernel), kit_ty (a := "dict") (r := false) (by decide +kernel), kit_ty (a := "dict") (r := false) (by decide +kernel)⟩
/-- isinstance(v, tuple), isinstance(v, int), isinstance(v, bool) -/
theorem rIsi_tup {K : PySem.W.Frag} {H : Hp} {v : V} {d : PyData} (h : Dq H v d) {Q : VK} (q : Q (.bl (isTup d)) H) : rIsi K [v, .ty "tuple"] H Q := by
  obtain ⟨T, t, k, _, _⟩ := dq_ty (K := K) h
  exact ⟨_, _, _, _, _, rfl, .ty _, t, k, q⟩
theorem rIsi_int {K : PySem.W.Frag} {H : Hp} {v : V} {d : PyData} (h : Dq H v d) {Q : VK} (q : Q (.bl (isI d)) H) : rIsi K [v, .ty "int"] H Q := by
  obtain ⟨T, t, _, k, _⟩ := dq_ty (K := K) h
  exact ⟨_, _, _, _, _, rfl, .ty _, t, k, q⟩
theorem rIsi_bool {K : PySem.W.Frag} {H : Hp} {v : V} {d : PyData} (h : Dq H v d) {Q : VK} (q : Q (.bl (isB d)) H) : rIsi K [v, .ty "bool"] H Q := by
  obtain ⟨T, t, _, _, k⟩ := dq_ty (K := K) h
  exact ⟨_, _, _, _, _, rfl, .ty _, t, k, q⟩

/-! ### numbers, rows -/
/-- an int that is no bool, from 0 to m -/
def numOk (m : Int) : PyData → Bool
  | .int i => decide (0 ≤ i) && decide (i ≤ m)
  | _ => false
/-- a tuple of n numbers from 0 to 50 -/
def rowOk (n : Nat) : PyData → Bool
  | .tuple xs => decide (xs.length = n) && xs.all (numOk 50)
  | _ => false

/-! ### calls whose errors are wished for at the caller's slots -/
section
variable {X : Cx} {CX : CXT} {k : Nat} {f C : Addr} {sp : Sp} {E : L2.St → XK} {x m : Str} {p pos apos : Pos} {e o : Expr} {es : List Expr} {ta : TE} {t : TA}
theorem run_fnRS {pins : List (Addr × Obj)} {σ : L2.St} {H : Hp} {s : Shared} {Q : VK} {us : List Value} {vs : List V} (F : FnR X.prog X.w X.K X.mg X.base CX k f sp) (hr : Room k X.A) (hx : PassesAt CX X σ (E σ))
    (I : Inv X pins σ H s) (r : Vals vs us) (h : sp vs H Q (E σ)) : wpAny (model X.prog X.w) X.A (call (.ref f) us) (EP X pins σ Q) X.xe s := by
  refine wpAny_call (codeAny_mono (F X.A X.stack s H us vs Q (E σ) hr I.env0 r h) fun r s' hq => ?_)
  cases r with
  | error e => exact hx pins H s e s' I hq
  | ok fl =>
    cases fl with
    | ret u => exact I.after hq
    | next => exact hq.elim
    | brk => exact hq.elim
    | cont => exact hq.elim
def tMakeRS (C : Addr) (sp : Sp) (E : L2.St → XK) (t : TA) : TE := fun σ H Q => t σ H fun vs H1 => ∀ x dx, H1 x = Option.none → H1 dx = Option.none → dx ≠ x →
  sp (V.ref x :: vs) (upd (upd H1 dx (.own x)) x (.ins C dx [])) (fun v H2 => v = .non ∧ Q (.ref x) H2) (E σ)
theorem pe_makeRS (M : Mk X.K C f) (F : FnR X.prog X.w X.K X.mg X.base CX k f sp) (hr : Room (k + 1) X.A) (hg : Gl X x) (hm : X.mg x = some (.ref C)) (hx : ∀ σ, PassesAt CX X σ (E σ)) (ha : PA X (e :: es) t) (hdb : (x == ("__debug__" : Str)) = false := by decide)
    (he : starEach (e :: es) X.env = (false, eval e X.env) :: starEach es X.env := by rfl) (hpl : (backTo pos (starEach es X.env)).any (·.1) = false := by rfl) : PE X (.Call (.Name x p) (e :: es) [] pos) (tMakeRS C sp E t) := by
  refine ⟨fun pins s σ H Q I h => ?_⟩
  refine wpAny_Call_Name_kw (ld_glob I hg hm ?_ hdb)
  refine PySem.W.callWith_K (h₀ := X.base) I.ok.mod.kin M.kp (thn (ha.run pos pins s σ H _ I h) fun us s ⟨vs, H, I, r, h⟩ => ⟨I.kIn, ?_⟩) he hpl
  have hq := h (s.heap.objs.size + 1) s.heap.objs.size (I.hok.fresh (Nat.le_succ _)) (I.hok.fresh (Nat.le_refl _)) (Nat.ne_of_lt (Nat.lt_succ_self _))
  have I2 := Inv.made (C := C) I
  have r2 : Vals (V.ref (s.heap.objs.size + 1) :: vs) (Value.ref (s.heap.objs.size + 1) :: us) := .cons rfl r
  refine wpAny_call (make_map (f := f) I.kIn M.makes M.init (beq_iff_eq.mp M.fn) (codeAny_mono (F _ X.stack _ _ (Value.ref (s.heap.objs.size + 1) :: us) _ _ (E σ) (hr.make C us []) (I2.env0.make C us []) r2 hq) fun r s' hq' => ?_))
  cases r with
  | error e => exact hx σ pins _ _ e s' I2 hq'
  | ok fl =>
    cases fl with
    | ret u =>
      obtain ⟨v, H', I3, rv, ev, q3⟩ := I2.after hq'
      subst ev
      exact ⟨rv, ⟨V.ref (s.heap.objs.size + 1), H', I3, rfl, q3⟩⟩
    | next => exact False.elim hq'
    | brk => exact False.elim hq'
    | cont => exact False.elim hq'
def tMethRS (C : Addr) (m : Str) (sp : Sp) (E : L2.St → XK) (ta : TE) (t : TA) : TE := fun σ H Q => ta σ H fun x H1 => ∃ a dx fs, x = .ref a ∧ H1 a = some (.ins C dx fs) ∧ fs.lookup m = none ∧ t σ H1 fun vs H2 => sp (x :: vs) H2 Q (E σ)
theorem pe_methRS {pl : Sem Bool} (he : PE X o ta) (c : Cls X.K C) (hm : Meth X.K C m f)
    (F : FnR X.prog X.w X.K X.mg X.base CX k f sp) (hr : Room k X.A) (hx : ∀ σ, PassesAt CX X σ (E σ)) (ha : PA X (e :: es) t)
    (hst : starEach (e :: es) X.env = (false, eval e X.env) :: starEach es X.env := by rfl) (hpl : (backTo pos (starEach es X.env)).any (·.1) = false := by rfl)
    (ht : eval (.Call (.Attribute o m apos) (e :: es) [] pos) X.env = (do
      let ov ← eval o X.env
      standAt apos.atName
      let (f, first) ← holding [ov] (getMethod ov m pl)
      callWith pos f first (backTo pos (starEach (e :: es) X.env)) (backToKw pos (keywordEach [] X.env))) := by rfl) :
    PE X (.Call (.Attribute o m apos) (e :: es) [] pos) (tMethRS C m sp E ta t) := by
  refine ⟨fun pins s σ H Q I h => ?_⟩
  refine PySem.W.methodCall_KW (pl := pl) (thn (he.run pins s σ H _ I h) fun u s1 ⟨x, H1, I1, rx, a, dx, fs, ex, ea, l, q⟩ => ?_) ht
  subst ex
  obtain rfl : u = Value.ref a := rx
  refine getmeth_ok I1 ea c hm l ?_
  refine PySem.W.callWith_K (first := [.ref a]) (h₀ := X.base) I.ok.mod.kin hm.kp (thn (ha.run pos pins s1 σ H1 _ I1 q) fun us s2 ⟨vs, H2, I2, r, q2⟩ => ⟨I2.kIn, ?_⟩) hst hpl
  exact run_fnRS (us := .ref a :: us) (vs := .ref a :: vs) F hr (hx σ) I2 (.cons rfl r) q2
end
/-! ### how often a truth value stands in a list of them -/
def rCntB (K : PySem.W.Frag) : V → List V → Hp → VK → Prop := fun x xs H Q => ∃ (p : Addr) (bs : List Bool) (k : Bool), x = .ref p ∧ xs = [.bl k] ∧ SqL K H p (bs.map V.bl) ∧ Q (.int (bs.count k : Nat)) H
theorem countIn_bools (k : Bool) : ∀ bs : List Bool, countIn (.bool k) (bs.map PyData.bool) = (bs.count k : Nat)
  | [] => rfl
  | b :: bs => by
    rw [List.map_cons, countIn, countIn_bools k bs, List.count_cons]
    simp only [same]
    rcases Bool.eq_false_or_eq_true (b == k) with hb | hb <;> simp only [hb, Bool.false_eq_true, if_true, if_false] <;> push_cast <;> omega
theorem mt_countB {X : Cx} : MtR X "list.count" (rCntB X.K) := by
  intro pins s σ H x xs v us Q I rx rxs h
  obtain ⟨p, bs, k, rfl, rfl, hs, q⟩ := h
  cases rx
  obtain ⟨u, rfl, ru⟩ := rxs.one
  cases ru
  obtain ⟨its, rv, ⟨o, n, ho, hc, hdn, hd⟩, hlen⟩ := I.list hs
  obtain ⟨as, h4⟩ := Dp.readsAll I (bs.map PyData.bool) _ its (dps_bools bs) rv
  refine PyProof.Rows.count_list_bools (vs := its) ⟨o, ho, hc, n, hd⟩ h4 (by simp [Shape.has]) ?_
  rw [countIn_bools]
  exact ⟨.int (bs.count k : Nat), H, I.tok _, ⟨_, rfl⟩, q⟩
end DD
namespace DD
open PySem PySem.Spec PyProof.Rows L2
/-! ### statements that are never reached -/
theorem ps_never {X : Cx} {st : Stmt} : PS X st (fun _ _ _ => False) := ⟨fun _ _ _ _ _ _ h => h.elim⟩
/-! ### len(o), str(o) by an own __len__, __str__ -/
/-- a special method of a class -/
structure Spc (K : PySem.W.Frag) (C f : Addr) (nm : Str) : Prop where
  at_ : PySem.W.findIn K (.ref C) nm = some (some (.ref f))
  fn : PySem.W.isFn K (.ref f) = true
section
variable {X : Cx} {k : Nat} {f C : Addr} {sp : Sp}
def rLenO (C : Addr) (sp : Sp) : List V → Hp → VK → Prop := fun xs H Q => ∃ x dx fs, xs = [.ref x] ∧ H x = some (.ins C dx fs) ∧ sp [.ref x] H (fun v H' => ∃ n : Nat, v = .int n ∧ n ≤ 1000000 ∧ Q (.int n) H') E0
open PySem.W in
theorem call_lenO (Z : Spc X.K C f "__len__") (F : FnR X.prog X.w X.K X.mg X.base CX0 k f sp) (hr : Room (k + 1) X.A) : CallR X (.builtin "len") (rLenO C sp) := by
  intro pins s σ H xs us Q I r h
  obtain ⟨x, dx, fs, rfl, hx, h⟩ := h
  obtain ⟨u, rfl, ru⟩ := vals1 r
  cases ru
  obtain ⟨mA, O, _⟩ := ins_get I.hok hx
  obtain ⟨od, J, _⟩ := O.look
  refine Calls.call_function_entry kind_len plain_len entry_len (args_len1 _) ?_
  unfold Builtin.«len»
  refine wpAny_bind (m := oneArg "len" _) (wpAny_pure ?_)
  refine wpAny_bind (m := callSpecial? (.ref x) (Str.ofString "__len__")) (special_fn I.kIn J Z.at_ (beq_iff_eq.mp Z.fn) (wpAny_call (codeAny_mono (F X.A.in1 X.stack s H [.ref x] [.ref x] _ _ hr.in1 I.env0.in1 (.cons rfl .nil) h) fun r s' hq => ?_)))
  cases r with
  | error e => exact hq.elim
  | ok fl =>
    cases fl with
    | ret u =>
      obtain ⟨v, H', I3, rv, n, ev, hn, q3⟩ := I.after hq
      subst ev
      obtain ⟨t, rfl⟩ := rv
      refine wpAny_bind (wpAny_holding (wpAny_pure ?_))
      refine wpAny_bind (wpAny_letGo ?_)
      show wpAny _ _ (if (n : Int) < 0 then _ else _) _ _ _
      rw [if_neg (by omega)]
      show wpAny _ _ (if (n : Int) ≥ 2 ^ 63 then _ else _) _ _ _
      rw [if_neg (by omega)]
      exact wpAny_bind (wpAny_mkInt (wpAny_pure ⟨_, rfl, .int n, H', I3.tok _, ⟨_, rfl⟩, q3⟩))
    | next => exact hq.elim
    | brk => exact hq.elim
    | cont => exact hq.elim
def rStrO (C : Addr) (sp : Sp) : List V → Hp → VK → Prop := fun xs H Q => ∃ x dx fs, xs = [.ref x] ∧ H x = some (.ins C dx fs) ∧ sp [.ref x] H (fun v H' => ∃ a : Str, v = .str a ∧ Q (.str a) H') E0
open PySem.W in
theorem call_strO (Z : Spc X.K C f "__str__") (F : FnR X.prog X.w X.K X.mg X.base CX0 k f sp) (hr : Room (k + 2) X.A) (hu : X.A.in1.in1.units < cLine) : CallR X (.type "str") (rStrO C sp) := by
  intro pins s σ H xs us Q I r h
  obtain ⟨x, dx, fs, rfl, hx, h⟩ := h
  obtain ⟨u, rfl, ru⟩ := vals1 r
  cases ru
  obtain ⟨mA, O, _⟩ := ins_get I.hok hx
  obtain ⟨od, J, _⟩ := O.look
  refine kso_call hu I.kIn J Z.at_ Z.fn (wpAny_call (codeAny_mono (F X.A.in1.in1 X.stack s H [.ref x] [.ref x] _ _ hr.in1.in1 I.env0.in1.in1 (.cons rfl .nil) h) fun r s' hq => ?_))
  cases r with
  | error e => exact hq.elim
  | ok fl =>
    cases fl with
    | ret u =>
      obtain ⟨v, H', I3, rv, a, ev, q3⟩ := I.after hq
      subst ev
      obtain ⟨t, rfl⟩ := rv
      exact ⟨.str a, H', I3, ⟨_, rfl⟩, q3⟩
    | next => exact hq.elim
    | brk => exact hq.elim
    | cont => exact hq.elim
end
end DD
namespace DD
open PySem PySem.Spec PyProof.Rows L2

/-! ### a list that is not empty is not [] -/
def rNeE : R2 := fun x y H Q => ∃ a b xs, x = .ref a ∧ y = .ref b ∧ H a = some (.lst xs) ∧ H b = some (.lst []) ∧ Q (.bl (!xs.isEmpty)) H
theorem op_neE {X : Cx} (hu : X.A.units + 64 < cLine) : OpR X (compareOp .NotEq) rNeE := by
  intro pins s σ H x y v u Q I rx ry h
  obtain ⟨a, b, xs, rfl, rfl, ha, hb, q⟩ := h
  by_cases hx : xs = []
  · subst hx
    refine op_neD hu pins s σ H _ _ v u Q I rx ry ⟨.list [], .list [], .lst (SqL.of ha) .nil, .lst (SqL.of hb) .nil, by decide +kernel, by decide +kernel, ?_⟩
    rw [show PyData.eqv (.list []) (.list []) = true by decide +kernel]
    exact q
  · cases rx
    cases ry
    obtain ⟨its, rv, ⟨o, n, h1, h2, _, h3⟩, _⟩ := I.list (SqL.of (K := X.K) ha)
    obtain ⟨its2, rv2, ⟨o2, n2, k1, k2, _, k3⟩, _⟩ := I.list (SqL.of (K := X.K) hb)
    cases rv2
    have hs : (its.toArray.size != ([] : List Value).toArray.size) = true := by
      have := rv.length
      cases xs with
      | nil => exact absurd rfl hx
      | cons _ _ =>
        cases its with
        | nil => simp at this
        | cons _ _ => simp
    have e : (!xs.isEmpty) = true := by
      cases xs with
      | nil => exact absurd rfl hx
      | cons _ _ => rfl
    rw [e] at q
    exact SeqAt.RcNeAt.lists_lengths (A := X.A) (s := s) ⟨o, h1, h2, n, h3⟩ ⟨o2, k1, k2, n2, k3⟩ hs (by omega) _ _ _ _ ⟨.bl true, H, I, rfl, q⟩

/-! ### enumerate(t, start=1) -/
theorem callWith_typeKw {M : Model} {A : Around} {E : Value → Shared → Prop} {s : Shared} {pos : Pos}
    {T : String} {first : List Value} {args : List (Bool × Sem Value)} {kws : List (Option Str × Sem Value)} {Q : Value → Shared → Prop}
    (h1 : (args.any fun x => x.fst) = false) (h2 : (kws.any fun x => x.fst.isNone) = false)
    (h : wpAny M A (evalArgs (Value.type T) true args kws) (fun a s₁ => wpAny M A (call (Value.type T) (first ++ a.pos) a.kw) Q E s₁) E s) :
    wpAny M A (callWith pos (Value.type T) first args kws) Q E s := by
  unfold callWith
  refine wpAny_bind (wpAny_holding (wpAny_mono h (fun a s1 q => ?_) fun e s' q => q))
  rw [h1, h2]
  refine wpAny_bind (wpAny_standAt ?_)
  show wpAny M A (call (Value.type T) (first ++ a.pos) a.kw >>= fun r => holding [r] point >>= fun _ => pure r) Q E s1
  refine wpAny_bind (wpAny_mono q (fun r s2 q => ?_) fun e s' q => q)
  exact wpAny_bind (wpAny_holding (wpAny_point (wpAny_pure q)))
def iEnumS (K : PySem.W.Frag) (c : Int) (ta : TA) : TI := fun σ H R => ta σ H fun vs H1 => ∃ a xs, vs = [.ref a] ∧ SqT K H1 a xs ∧ R (ItEnT K a c) H1
theorem pi_enumS {X : Cx} {e : Expr} {ta : TA} {p pos tpos kpos cpos : Pos} {c : Int} {k0 : Nat} {elts : List Expr} {kk : Nat} (hg : Gl X "enumerate") (hm : X.mg "enumerate" = none) (ha : PA X [e] ta) (hc0 : -2 ^ 63 ≤ c) (hc1 : c < 2 ^ 63)
    (hs : starEach [e] X.env = [(false, eval e X.env)] := by rfl) : PI X (.Tuple elts kk tpos) (.Call (.Name "enumerate" p) [e] [{ arg := some "start", value := .Constant (.int c) k0 cpos, pos := kpos }] pos) (iEnumS X.K c ta) := by
  refine ⟨fun pins s σ H R I h => wpAny_Call_Name_kw (ld_blt I hg hm boot_enumerate (callWith_typeKw (by rw [hs] <;> rfl) rfl (evalArgs_kw2 rfl (thn (ha.run pos pins s σ H _ I h) fun us s1 ⟨vs, H1, I1, r1, q1⟩ => ?_) hs)))⟩
  obtain ⟨a, xs, ex, hq, q⟩ := q1
  subst ex
  obtain ⟨u, rfl, ru⟩ := vals1 r1
  cases ru
  obtain ⟨its, rv, ⟨oa, hoa, hca, na, hda⟩, _⟩ := I1.tuple hq
  refine wpAny_evalAll_cons (wpAny_bind (wpAny_mono (pe_int.run pins s1 σ H1 (fun v H2 => v = .int c ∧ H2 = H1) I1 ⟨rfl, rfl⟩) (fun u s2 q2 => ?_) fun e s' q => q))
  obtain ⟨x, H2, I2, rx, rfl, rfl⟩ := q2
  obtain ⟨tk, rfl⟩ := rx
  refine wpAny_bind (wpAny_standAt (wpAny_pure (wpAny_evalAll_nil ?_)))
  obtain ⟨its, rv, ⟨oa, hoa, hca, na, hda⟩, _⟩ := I2.tuple hq
  show wpAny _ _ (call (.type "enumerate") [.ref a] [(Str.ofString "start", .int c tk)]) _ _ _
  refine enum_begins_start (begins_tuple (t := a) (items := its.toArray)) ⟨oa, hoa, hca, na, hda⟩ hc0 hc1 fun h' he hit hsz hk => wpAny_pyIter_enum he ?_
  have I3 : Inv X pins σ H2 { s2 with heap := h' } := I2.kept (t' := s2.toks) hk
  refine ⟨s2.heap.objs.size + 1, [s2.heap.objs.size + 1, s2.heap.objs.size], _, _, H2, rfl, I3, turn_enT a (s2.heap.objs.size + 1) s2.heap.objs.size c, ⟨⟨.none, by rw [Int.natCast_zero, Int.add_zero]; exact he⟩, ⟨_, hit, rfl, rfl⟩, Nat.succ_ne_self _⟩, fun b hb => ?_, q⟩
  have hle : s2.heap.objs.size ≤ b := by
    rcases List.mem_cons.mp hb with z | hb
    · rw [z]
      exact Nat.le_succ _
    · exact Nat.le_of_eq (List.mem_singleton.mp hb).symm
  exact I2.fpOk hle (I2.hok.fresh hle)
end DD
namespace DD
open PySem PySem.Spec PyProof.Rows L2
/-! ### an attribute as a target behind others -/
def gFld (K : PySem.W.Frag) (ta : TE) (f : Str) : TG := fun v σ H Q => ta σ H fun x H2 => ∃ a C dx fs, x = .ref a ∧ H2 a = some (.ins C dx fs) ∧ Cls K C ∧ NoAttr K C f ∧ fs.length < 1000 ∧ Q σ (upd H2 a (.ins C dx (putF f v fs)))
theorem pg_fld {X : Cx} {o : Expr} {f : Str} {pos : Pos} {ta : TE} (ho : PE X o ta) : PG X (.Attribute o f pos) (gFld X.K ta f) := by
  refine ⟨fun pins s σ H v u Q I r h => ?_⟩
  rw [PySem.assign_Attribute]
  refine wpAny_bind (wpAny_holding (thn (ho.run pins s σ H _ I h) fun ov s1 ⟨x, H1, I1, rx, a, C, dx, fs, ex, ea, c, n, l, q⟩ => ?_))
  subst ex
  obtain rfl : ov = Value.ref a := rx
  refine wpAny_bind (wpAny_standAt (wpAny_bind (wpAny_holding ?_)))
  refine setattr_ok I1 ea c n l r fun s3 I3 => ?_
  exact wpAny_release ⟨σ, _, I3, q⟩
/-! ### o.m(k = v, ..): a method by keywords alone -/
def tMethK (C : Addr) (m : Str) (j : Nat) (sp : Sp) (gV : List V → List V → List V) (E : XK) (ta : TE) (tk : TA) : TE := fun σ H Q => ta σ H fun x H1 => ∃ a dx fs, x = .ref a ∧ H1 a = some (.ins C dx fs) ∧ fs.lookup m = none ∧
  tk σ H1 fun zs H2 => zs.length = j ∧ sp (gV [.ref a] zs) H2 Q E
theorem pe_methK0 {X : Cx} {CX : CXT} {k : Nat} {f C : Addr} {fd : FuncData} {ps ks : List Str} {sp : Sp} {E : XK} {m : Str} {pos apos : Pos} {o : Expr} {kws : List Keyword} {ta : TE} {tk : TA} {g : List Value → List Value → List Value} {gV : List V → List V → List V} {pl : Sem Bool}
    (he : PE X o ta) (c : Cls X.K C) (hm : Meth X.K C m f) (F : FnOk X.prog X.w X.K X.mg X.base CX k f fd ps sp) (hr : Room k X.A) (hb : KBn X.K fd ps 1 ks g gV) (hx : Passes CX X E) (hkw : PK X kws tk)
    (hall : (backToKw pos (keywordEach kws X.env)).all (·.1.isSome) = true := by rfl) (hks : (backToKw pos (keywordEach kws X.env)).filterMap (·.1) = ks := by rfl)
    (hpl : ((backTo pos (starEach [] X.env)).any (·.1) || (backToKw pos (keywordEach kws X.env)).any (·.1.isNone)) = false := by rfl)
    (ht : eval (.Call (.Attribute o m apos) [] kws pos) X.env = (do
      let ov ← eval o X.env
      standAt apos.atName
      let (f, first) ← holding [ov] (getMethod ov m pl)
      callWith pos f first (backTo pos (starEach [] X.env)) (backToKw pos (keywordEach kws X.env))) := by rfl) :
    PE X (.Call (.Attribute o m apos) [] kws pos) (tMethK C m ks.length sp gV E ta tk) := by
  refine ⟨fun pins s σ H Q I h => ?_⟩
  refine PySem.W.methodCall_KW (pl := pl) (thn (he.run pins s σ H _ I h) fun u s1 ⟨x, H1, I1, rx, a, dx, fs, ex, ea, l, q⟩ => ?_) ht
  subst ex
  obtain rfl : u = Value.ref a := rx
  refine getmeth_ok I1 ea c hm l ?_
  refine PySem.W.callWith_KW0 (first := [.ref a]) (h₀ := X.base) I.ok.mod.kin hm.kp hall ?_ hpl
  refine thn (hkw.run pos pins s1 σ H1 _ I1 q) fun ws s2 ⟨zs, H2, I2, rz, l2, q2⟩ => ⟨I2.kIn, ?_⟩
  rw [hks]
  exact run_fnN (us := [.ref a]) (vs := [.ref a]) F hr hb hx I2 (.cons rfl .nil) rz rfl l2 q2
/-! ### try: a suite that ends / finally: a suite; nothing raises -/
def tBodyFin (tb tf : TS) : TS := fun D σ H => tb { nx := fun σ1 H1 => tf D σ1 H1, rt := fun _ _ => False, bk := fun _ _ => False, ct := fun _ _ => False } σ H
theorem ps_bodyFin {X : Cx} {b : List Stmt} {f₀ : Stmt} {fs : List Stmt} {pos : Pos} {tb tf : TS} (hb : PSs X.nox b tb) (hf : PSs X.nox (f₀ :: fs) tf) : PS X (.Try b [] [] (f₀ :: fs) pos) (tBodyFin tb tf) := by
  refine ⟨fun pins s σ H D I h => ?_⟩
  refine wpAny_Try_finally (wpAny_mono (hb.run pins s σ H _ (I.wish _) h) (fun g s1 q => ?_) fun _ _ z => False.elim z)
  cases g with
  | next =>
    obtain ⟨σ1, H1, I1, q1⟩ := q
    refine wpAny_execs_nil ?_
    refine wpAny_mono (hf.run pins s1 σ1 H1 D I1 q1) (fun g s2 q2 => ?_) fun _ _ z => False.elim z
    have q' : SP X pins D g s2 := q2.unwish
    cases g <;> exact q'
  | ret u =>
    obtain ⟨_, _, _, _, _, z⟩ := q
    exact z.elim
  | brk =>
    obtain ⟨_, _, _, z⟩ := q
    exact z.elim
  | cont =>
    obtain ⟨_, _, _, z⟩ := q
    exact z.elim
end DD
namespace DD
open PySem PySem.Spec PyProof.Rows L2
/-! ### raise C() of an own class without own __init__ -/
theorem pmk_own0 {X : Cx} {C : Addr} {bmB : List Value} {B newId initId : String} {x : Str} {p pos : Pos} (F : ExcBaseFacts B newId initId bmB) (q : PySem.W.excIn X.K C bmB newId = true) (gC : X.mg x = some (.ref C)) (kC : PySem.W.keepIn X.K (.ref C) = true) (r : Raises X (.ref C)) (hg : Gl X x)
    (hdb : (x == ("__debug__" : Str)) = false := by decide) : PMk X (.Call (.Name x p) [] [] pos) (fun _ H Q => Q (.ref C) none H) := by
  intro pins s σ H Q I h
  refine wpAny_Call_Name_kw (ld_glob I hg gC ?_ hdb)
  refine PySem.W.callWith_K0 I.kIn kC ?_
  obtain ⟨bm, N, nm, qn, bs, hdct, sn, sub, ab, col, dd, k0, k1, k2, k3, k5, mN, hC, hN, hni, T⟩ := exc_obj I.kIn q
  exact wpAny_call_exc_subT F T hC hN hni (fun h' e hm => mk_of I hm r h (I.hok.gone hm.new)) (Nat.zero_le _)

/-! ### own classes over LookupError whose __init__ stores one field -/
abbrev leTail : List Value := [.type "LookupError", .type "Exception", .type "BaseException", .type "object"]
structure OexL (K : PySem.W.Frag) (C : Addr) : Prop where
  ini : PySem.W.excInitIn K C leTail "LookupError.__new__" = true
  ovr : PySem.W.excOver K C leTail = true
  hd : PySem.W.hasDictIn K C = true
  sa : PySem.W.findIn K (.ref C) "__setattr__" = some (some (.builtin "object.__setattr__"))
  exC : PySem.W.subIn K (.ref C) (.type "BaseException") = some true
  tyC : PySem.W.typeIn K (.ref C) = some (.type "type")
  kC : PySem.W.keepIn K (.ref C) = true
section
variable {X : Cx} {pins : List (Addr × Obj)} {σ : L2.St} {H : Hp} {s : Shared} {a C : Addr} {f : Str} {y : V} {u : Value} {Q : Unit → Shared → Prop} {E : Value → Shared → Prop} {A : Around}
/-- what the first store into an exception without a dict leaves -/
theorem inv_exo {hp h' : Heap} {g : Array GenState} {d : Drawn} {t t2 : Nat} {os : OsState} {dx : Addr} (I : Inv X pins σ H ⟨hp, g, d, t, os⟩) (e : H a = some (exo a C none)) (ry : RelV y u)
    (old : ∀ b o, b ≠ a → hp.get? b = some o → h'.get? b = some o) (fresh : hp.objs.size ≤ dx) {t1 : Addr} (hx : h'.get? a = some { cls := .ref C, dict := some dx, data := .fields #[.ref t1, .none, .none, .none, .bool false, .none] })
    (hn : h'.Ns1 dx (fun y => if y = f then some u else none)) : Inv X pins σ (upd (upd H dx (exd dx [(f, y)])) a (exo a C (some dx))) ⟨h', g, d, t2, os⟩ := by
  have nd0 : H dx = none := I.hok.fresh fresh
  have low : ∀ {b : Addr} {o : Obj}, hp.get? b = some o → b ≠ dx := fun {b o} q => Nat.ne_of_lt (Nat.lt_of_lt_of_le (Heap.lt_size q) fresh)
  have off : ∀ {b : Addr}, H b = none → b ≠ a := fun {b} n z => by
    rw [z, e] at n
    cases n
  have stays : ∀ {b : Addr} {o : HO}, H b = some o → exo a C none ≠ o → upd (upd H dx (exd dx [(f, y)])) a (exo a C (some dx)) b = some o := fun {b o} q z => by
    rw [upd_ne (at_ne e q z), upd_ne (ne_of_none q nd0)]
    exact q
  have U : Un X.fs [] H (upd (upd H dx (exd dx [(f, y)])) a (exo a C (some dx))) hp h' := {
    keep := fun b o q n _ _ => old b o (off n) q
    slot := fun b o q n _ _ => ⟨o.slots, old b o (off n) q⟩
    free := fun b o q n _ => by rw [upd_ne (off n), upd_ne (low q)]; exact n
    there := fun b o q _ => if hb : b = a then ⟨_, hb ▸ hx⟩ else ⟨o, old b o hb q⟩
    tups := fun b xs q => stays q exo_tup
    frzs := fun b o v q => stays q exo_frz
    tbls := fun b ps q => ⟨#[], by rw [stays q exo_tbl]; simp⟩ }
  refine I.un (t' := t2) U fun b o q => ?_
  by_cases hb : b = a
  · subst hb
    rw [upd_same] at q
    obtain rfl := Option.some.inj q
    exact exo_ok hx
  rw [upd_ne hb] at q
  by_cases hd : b = dx
  · subst hd
    rw [upd_same] at q
    obtain rfl := Option.some.inj q
    exact exd_ok hn (relO_put (fs := []) ry fun g => True.intro)
  rw [upd_ne hd] at q
  refine (I.hok b o q).stay (fun c v hc z => old c v ?_ z) (fun c hc => stays hc exo_own) (fun c xs hc => stays hc exo_tup)
  rcases hc with hc | hc
  · rw [hc]
    exact hb
  · exact at_ne e hc exo_own
theorem ost_newL (T : OexL X.K C) (I : Inv X pins σ H s) (e : H a = some (exo a C none)) (hno : PySem.W.findIn X.K (.ref C) f = some none) (ry : RelV y u)
    (h : ∀ dx s', H dx = none → dx ≠ a → Inv X pins σ (upd (upd H dx (exd dx [(f, y)])) a (exo a C (some dx))) s' → Q () s') : wpAny (model X.prog X.w) A (setAttr (.ref a) f u) Q E s := by
  obtain ⟨t1, ho⟩ := exo_at I.hok e
  obtain ⟨cd, hcd, hh⟩ := PySem.W.any_some T.hd
  obtain ⟨hp, g, d, t, os⟩ := s
  have J : PySem.W.InstAt hp a { cls := .ref C, dict := none, data := .fields #[.ref t1, .none, .none, .none, .bool false, .none] } C none := ⟨ho, rfl, rfl, trivial⟩
  have hcls : PySem.W.Looks (model X.prog X.w) hp (classData C) cd := PySem.W.looks_clsIn I.kIn hcd
  have hxs : a ≠ hp.objs.size := Nat.ne_of_lt (Heap.lt_size ho)
  refine PySem.W.set_plain I.kIn J T.sa ?_
  refine PySem.W.osa_openX (r := none) PySem.F.store_LookupError I.kIn J T.ovr (show (PySem.W.findIn X.K (.ref C) f).bind _ = some none by rw [hno]; rfl) fun b => ?_
  show wpAny _ _ (Builtin.ObjectAttr.storeInOwnDict (.ref a) (.ref C) (.str f t) f u b) _ _ _
  obtain ⟨nm, bs, mro, ns, qn, hd, sn, sb, ab, col, dl⟩ := cd
  dsimp only at hh
  subst hh
  unfold Builtin.ObjectAttr.storeInOwnDict Builtin.ObjectAttr.ownDictForStores
  repeat (first | with_reducible refine PySem.HandSPX.store_in_new ?_ ?_ | with_reducible refine wpAny_loadPart_at ho ?_ | with_reducible refine hcls.at ?_ | wp_step)
  · exact ⟨_, #[], _, (Heap.get?_update_ne _ _ _ _ hxs.symm).trans (Heap.get?_push_at rfl rfl), rfl, fun e he => absurd he (by simp), fun _ => rfl⟩
  · intro h' tk' hn' hs
    refine h hp.objs.size _ (I.hok.fresh (Nat.le_refl _)) hxs.symm (inv_exo (t2 := tk') I e ry (fun b o hb ho' => ?_) (Nat.le_refl _) (t1 := t1) ?_ hn')
    · exact (hs.2 b (Nat.ne_of_lt (Heap.lt_size ho'))).trans ((Heap.get?_update_ne _ _ _ _ hb).trans (Heap.get?_push_of_some _ ho'))
    · exact (hs.2 a hxs).trans (Heap.get?_update_self _ (Heap.get?_push_of_some _ ho) rfl)
end
/-- self.f = e, the first one -/
def tOstL (K : PySem.W.Frag) (f : Str) (to te : TE) : TS := fun D σ H => te σ H fun y H1 => to σ H1 fun x H2 => ∃ a C : Addr, x = .ref a ∧ OexL K C ∧ PySem.W.findIn K (.ref C) f = some none ∧
  H2 a = some (exo a C none) ∧ ∀ dx, H2 dx = none → dx ≠ a → D.nx σ (upd (upd H2 dx (exd dx [(f, y)])) a (exo a C (some dx)))
section
variable {X : Cx} {o e : Expr} {es : List Expr} {to te : TE} {ta : TA} {f : Str} {p p' pos : Pos}
theorem ps_ostL (ho : PE X o to) (he : PE X e te) (hs : swapsWith e (some (.Attribute o f p')) pos.line X.env = pure false := by rfl) : PS X (.Assign [.Attribute o f p'] e pos) (tOstL X.K f to te) := by
  refine ⟨fun pins s σ H D I h => ?_⟩
  refine plainObj_wpAny_Assign_Attribute (thn (he.run pins s σ H _ I h) fun v s1 ⟨y, H1, I1, r1, q1⟩ => thn (ho.run pins s1 σ H1 _ I1 q1) fun u s2 hh => ?_) hs
  obtain ⟨x, H2, I2, r2, a, C, ex, T, hno, ea, q⟩ := hh
  subst ex
  obtain rfl : u = Value.ref a := r2
  exact ost_newL T I2 ea hno r1 fun dx s' n ne J => ⟨σ, _, J, q dx n ne⟩
/-- C(e, ..) -/
theorem pmk_oexL {CX : CXT} {x : Str} {C fI : Addr} {k : Nat} {fd : FuncData} {ps : List Str} {sp : Sp} {ds : List Value} {dvs : List V} (T : OexL X.K C) (iC : PySem.W.findIn X.K (.ref C) "__init__" = some (some (.ref fI))) (tI : PySem.W.typeIn X.K (.ref fI) = some (.type "function"))
    (F1 : FnOk X.prog X.w X.K X.mg X.base CX k fI fd ps sp) (hr : Room (k + 1) X.A) (hb : Binds X.K fd ps ds) (hd : Vals dvs ds) (hx : Passes CX X (fun _ _ _ => False)) (hg : Gl X x) (hm : X.mg x = some (.ref C)) (ha : PA X (e :: es) ta)
    (hdb : (x == ("__debug__" : Str)) = false := by decide) (he : starEach (e :: es) X.env = (false, eval e X.env) :: starEach es X.env := by rfl) (hpl : (backTo pos (starEach es X.env)).any (·.1) = false := by rfl) :
    PMk X (.Call (.Name x p) (e :: es) [] pos) (tMkO C sp dvs ta) := by
  intro pins s σ H Q I h
  refine wpAny_Call_Name_kw (ld_glob I hg hm ?_ hdb)
  refine PySem.W.callWith_K (h₀ := X.base) I.ok.mod.kin T.kC (thn (ha.run pos pins s σ H _ I h) fun us s1 ⟨vs, H1, I1, r1, hz, q1⟩ => ⟨I1.kIn, ?_⟩) he hpl
  show wpAny _ _ (call (.ref C) us) _ _ _
  obtain ⟨nm, N', qn, bs, bm, hdct, sn, sub, ab, col, dd, k0, k1, k2, k3, k5, hC, hT⟩ := PySem.W.excInit_of I1.kIn T.ini
  obtain ⟨hp, g, dr, tk, os⟩ := s1
  have hsz : hp.objs.size ≤ hp.objs.size + 1 := Nat.le_succ _
  have hq := q1 (hp.objs.size + 1) (I1.hok.fresh hsz)
  have old : ∀ b o, hp.get? b = some o → ((hp.push (PySem.W.kdv_tup us)).push (PySem.HandSPX.excO C hp.objs.size)).get? b = some o := fun b o e => Heap.get?_push_of_some _ (Heap.get?_push_of_some _ e)
  have there : ((hp.push (PySem.W.kdv_tup us)).push (PySem.HandSPX.excO C hp.objs.size)).get? (hp.objs.size + 1) = some (PySem.HandSPX.excO C hp.objs.size) := by heap_get
  have I2 := I1.laid (t' := tk) (o := exo (hp.objs.size + 1) C none) old hsz (exo_ok there)
  have r2 : Vals (V.ref (hp.objs.size + 1) :: (vs ++ dvs)) (Value.ref (hp.objs.size + 1) :: (us ++ ds)) := .cons rfl (r1.append hd)
  have hl : (Value.ref (hp.objs.size + 1) :: us ++ ds).length = ps.length := r2.length.symm.trans (F1.len _ _ _ _ hq)
  have hus : us.length ≤ sizeLine := Nat.le_trans (Nat.le_of_eq (Paired.length r1).symm) (Nat.le_trans hz (by decide))
  refine wpAny_call (PySem.HandSPX.call_own F.excBase_LookupError hT hC (PySem.W.looks_findIn I1.kIn iC) (fun self => PySem.W.bind_fn I1.kIn self tI) hus
    (codeAny_mono (F1.run _ X.stack _ _ ⟨Value.ref (hp.objs.size + 1) :: us, []⟩ _ _ _ (fun _ _ _ => False) (hr.make C us []) (I2.env0.make C us []) (hb _ (Value.ref (hp.objs.size + 1) :: us) I2.kIn hl) r2 hq) fun r s' hq' => ?_))
  cases r with
  | error er => exact hx pins σ _ _ er s' I2 hq'
  | ok fl =>
    cases fl with
    | ret u =>
      obtain ⟨v, H2, os2, bare2, un2, hok2, rv, ev, d, fs, ea, ed, hd1, q2⟩ := hq'
      subst ev
      obtain ⟨h2, g2, d2, t2, os'⟩ := s'
      exact ⟨rv, mk_end (raises_own T.exC T.tyC) I1 hsz old un2 hok2 os2 bare2 ea ed hd1 q2⟩
    | next => exact hq'.elim
    | brk => exact hq'.elim
    | cont => exact hq'.elim
end
end DD
namespace DD
open PySem PySem.Spec PyProof.Rows L2
/-! ### isinstance of a caught error of an own class, whether it has a dict or none -/
structure IsTx (K : PySem.W.Frag) (D : Addr) : Prop where
  cl : (PySem.W.clsIn K D).isSome = true
  ga : PySem.W.findIn K (.ref D) "__getattribute__" = some (some (.builtin "BaseException.__getattribute__"))
  gt : PySem.W.findIn K (.ref D) "__getattr__" = some none
  sub : PySem.W.subIn K (.ref D) (.type "BaseException") = some true
  hc : PySem.W.findIn K (.ref D) "__class__" = some (some (.builtin "object.__class__"))
  gn : PySem.W.specialIn K (.builtin "object.__class__") "__get__" = some (some (.builtin "getset_descriptor.__get__"))
  tk : PySem.W.takesIn K (.builtin "object.__class__") = some true
  mo : PySem.W.mroIn K D (.type "object") = some true
/-- a class: an own one or a type of the language's -/
abbrev Kl := Addr ⊕ String
def Kl.v : Kl → V
  | .inl a => .ref a
  | .inr t => .ty t
def Kl.u : Kl → Value
  | .inl a => .ref a
  | .inr t => .type t
theorem Kl.rel {c : Kl} {u : Value} (h : RelV c.v u) : u = c.u := by
  cases c with
  | inl a => exact h
  | inr t => exact h
theorem kls_rel : ∀ {cs : List Kl} {us : List Value}, Vals (cs.map Kl.v) us → us = cs.map Kl.u
  | [], _, h => by cases h; rfl
  | c :: cs, _, h => by
    cases h with
    | cons a b => rw [Kl.rel a, kls_rel b]; rfl
/-- the asked class, or the tuple of asked classes -/
def rIsG (K : PySem.W.Frag) (cls : Value) (d : Option Addr) (a : Addr) : List V → Hp → VK → Prop := fun xs H Q => ∃ (c : V) (D : Addr) (b : Bool), xs = [.ref a, c] ∧ cls = .ref D ∧ (∀ dd, d = some dd → ∃ fs, H dd = some (.xd fs)) ∧ IsTx K D ∧
  ((∃ k : Kl, c = k.v ∧ PySem.W.kitOne K (.ref D) k.u = some b) ∨ ∃ (p : Addr) (cs : List Kl), c = .ref p ∧ SqT K H p (cs.map Kl.v) ∧ PySem.W.kitAny K (.ref D) (cs.map Kl.u) = some b) ∧ Q (.bl b) H
theorem call_isG {X : Cx} {a : Addr} {oe : Obj} {cls : Value} {d : Option Addr} {pn : List (Addr × Obj)} (hz : Zc cls d oe) (hf : ∃ vs, oe.data = .fields vs) :
    CallR (X.suite a ((a, oe) :: pn)) (.builtin "isinstance") (rIsG X.K cls d a) := by
  intro pins s σ H xs us Q I r h
  obtain ⟨c, D, b, rfl, rfl, hdd, T, how, q⟩ := h
  cases r with
  | cons rx rr =>
    cases rr with
    | cons rt rr =>
      cases rr
      cases rx
      obtain ⟨hget, _⟩ := I.pin (a, oe) (List.mem_append.mpr (.inl List.mem_cons_self))
      obtain ⟨vs, hv⟩ := hf
      obtain ⟨od, J⟩ : ∃ od, PySem.W.InstAt s.heap a oe D od := by
        cases d with
        | none => exact ⟨none, hget, hz.1, by unfold PySem.W.notCls; rw [hv] <;> rfl, by rw [hz.2]; trivial⟩
        | some dd =>
          obtain ⟨fs, e⟩ := hdd dd rfl
          obtain ⟨mA, hns, _⟩ : ObjOk X.prog X.w H s.heap dd (.xd fs) := I.hok dd _ e
          obtain ⟨od, ho, _⟩ := lookIn_ns hns
          exact ⟨some od, hget, hz.1, by unfold PySem.W.notCls; rw [hv] <;> rfl, by rw [hz.2]; exact ho⟩
      have Z := PySem.W.kitx_exc (x := a) (ox := oe) (od := od) T.cl T.ga T.gt T.sub T.hc T.gn T.tk T.mo
      rcases how with ⟨k, rfl, e⟩ | ⟨p, cs, rfl, hq, e⟩
      · obtain rfl := Kl.rel rt
        exact PySem.W.kia_one Z I.kIn J e (fun z => nomatch z) fun tk => ⟨.bl b, H, I.kept (t' := tk) fun _ _ z => z, rfl, q⟩
      · cases rt
        obtain ⟨its, rv, ⟨⟨oc, od2, oda, osl⟩, hp, hpc, n, hpd⟩, _⟩ := I.tuple hq
        obtain rfl := kls_rel rv
        simp only at hpc hpd
        subst hpc hpd
        exact PySem.W.kia_tup Z I.kIn J hp e (fun z => nomatch z) fun tk => ⟨.bl b, H, I.kept (t' := tk) fun _ _ z => z, rfl, q⟩
/-! ### classes of errors -/
/-- over ValueError, with a field of its own -/
structure ErrC (K : PySem.W.Frag) (mg : Str → Option Value) (nm fld : Str) (sI : Stmt) (C fI : Addr) (dI : FuncData) : Prop where
  o : OexC K C
  iC : PySem.W.findIn K (.ref C) "__init__" = some (some (.ref fI))
  tI : PySem.W.typeIn K (.ref fI) = some (.type "function")
  noT : PySem.W.findIn K (.ref C) fld = some none
  gC : mg nm = some (.ref C)
  FI : Fun K "__init__" (nm ++ ".__init__") sI fI dI
  bI : Binds K dI ["self", fld] []
/-- over LookupError, with a field of its own -/
structure ErrL (K : PySem.W.Frag) (mg : Str → Option Value) (nm fld : Str) (sI : Stmt) (C fI : Addr) (dI : FuncData) : Prop where
  o : OexL K C
  iC : PySem.W.findIn K (.ref C) "__init__" = some (some (.ref fI))
  tI : PySem.W.typeIn K (.ref fI) = some (.type "function")
  noT : PySem.W.findIn K (.ref C) fld = some none
  gC : mg nm = some (.ref C)
  FI : Fun K "__init__" (nm ++ ".__init__") sI fI dI
  bI : Binds K dI ["self", fld] []
/-- over ValueError, without a field -/
structure Err0 (X : PySem.W.Frag) (mg : Str → Option Value) (nm : Str) (C : Addr) : Prop where
  q : PySem.W.excIn X C [.type "ValueError", .type "Exception", .type "BaseException", .type "object"] "ValueError.__new__" = true
  kC : PySem.W.keepIn X (.ref C) = true
  exC : PySem.W.subIn X (.ref C) (.type "BaseException") = some true
  tyC : PySem.W.typeIn X (.ref C) = some (.type "type")
  gC : mg nm = some (.ref C)
theorem pmk_err0 {X : Cx} {C : Addr} {x : Str} {p pos : Pos} (T : Err0 X.K X.mg x C) (hg : Gl X x) (hdb : (x == ("__debug__" : Str)) = false := by decide) : PMk X (.Call (.Name x p) [] [] pos) (fun _ H Q => Q (.ref C) none H) :=
  pmk_own0 F.excBase_ValueError T.q T.gC T.kC (raises_own T.exC T.tyC) hg hdb
section
variable {P : Program} {w : World} {K : PySem.W.Frag} {mg : Str → Option Value} {base : Heap}
def spInitF (K : PySem.W.Frag) (C : Addr) (fld : Str) : Sp := fun vs H Q _ => ∃ (a : Addr) (y : V), vs = [.ref a, y] ∧ OexC K C ∧ PySem.W.findIn K (.ref C) fld = some none ∧ H a = some (exo a C none) ∧
  ∀ dx, H dx = none → dx ≠ a → Q .non (upd (upd H dx (exd dx [(fld, y)])) a (exo a C (some dx)))
def spInitL (K : PySem.W.Frag) (C : Addr) (fld : Str) : Sp := fun vs H Q _ => ∃ (a : Addr) (y : V), vs = [.ref a, y] ∧ OexL K C ∧ PySem.W.findIn K (.ref C) fld = some none ∧ H a = some (exo a C none) ∧
  ∀ dx, H dx = none → dx ≠ a → Q .non (upd (upd H dx (exd dx [(fld, y)])) a (exo a C (some dx)))
/-- what a raise of an own error gives -/
theorem raised {C : Addr} {fld : Str} {H : Hp} {v : V} {E : XK} (q : ∀ dd H', Same H H' → H' dd = some (.xd [(fld, v)]) → E (.ref C) (some dd) H') {a dx : Addr} (na : H a = none) (nx : (upd H a (exo a C none)) dx = none) (ne : dx ≠ a) :
    E (.ref C) (some dx) (upd (del (upd (upd (upd H a (exo a C none)) dx (exd dx [(fld, v)])) a (exo a C (some dx))) a) dx (.xd [(fld, v)])) := by
  have nx' := nx
  rw [upd_ne ne] at nx'
  refine q dx _ (fun b o e => ?_) upd_same
  have nb1 := ne_of_none e na
  have nb2 := ne_of_none e nx'
  rw [upd_ne nb2, del_ne nb1, upd_ne nb1, upd_ne nb2, upd_ne nb1]
  exact e
/-- all that raise C(e) asks behind its operand -/
theorem raisedF {C : Addr} {fld : Str} {H : Hp} {v : V} {E : XK} (o : OexC K C) (no : PySem.W.findIn K (.ref C) fld = some none) (q : ∀ dd H', Same H H' → H' dd = some (.xd [(fld, v)]) → E (.ref C) (some dd) H') :
    [v].length ≤ 1000 ∧ ∀ a, H a = none → spInitF K C fld (.ref a :: ([v] ++ [])) (upd H a (exo a C none))
      (fun u H2 => u = .non ∧ ∃ (d : Addr) (fs : List (Str × V)), H2 a = some (exo a C (some d)) ∧ H2 d = some (exd d fs) ∧ H d = none ∧ E (.ref C) (some d) (upd (del H2 a) d (.xd fs))) (fun _ _ _ => False) :=
  ⟨by show 1 ≤ 1000; decide, fun a na => ⟨a, v, rfl, o, no, upd_same, fun dx nx ne => ⟨rfl, dx, [(fld, v)], upd_same, by rw [upd_ne ne, upd_same], by rw [upd_ne ne] at nx; exact nx, raised q na nx ne⟩⟩⟩
theorem raisedL {C : Addr} {fld : Str} {H : Hp} {v : V} {E : XK} (o : OexL K C) (no : PySem.W.findIn K (.ref C) fld = some none) (q : ∀ dd H', Same H H' → H' dd = some (.xd [(fld, v)]) → E (.ref C) (some dd) H') :
    [v].length ≤ 1000 ∧ ∀ a, H a = none → spInitL K C fld (.ref a :: ([v] ++ [])) (upd H a (exo a C none))
      (fun u H2 => u = .non ∧ ∃ (d : Addr) (fs : List (Str × V)), H2 a = some (exo a C (some d)) ∧ H2 d = some (exd d fs) ∧ H d = none ∧ E (.ref C) (some d) (upd (del H2 a) d (.xd fs))) (fun _ _ _ => False) :=
  ⟨by show 1 ≤ 1000; decide, fun a na => ⟨a, v, rfl, o, no, upd_same, fun dx nx ne => ⟨rfl, dx, [(fld, v)], upd_same, by rw [upd_ne ne, upd_same], by rw [upd_ne ne] at nx; exact nx, raised q na nx ne⟩⟩⟩
end
/-! ### calls of methods whose errors are wished for at the caller's slots -/
section
variable {X : Cx} {CX : CXT} {k : Nat} {f C : Addr} {sp : Sp} {E : L2.St → XK} {m : Str} {pos apos : Pos} {o : Expr} {ta : TE} {tk : TA} {kws : List Keyword}
theorem pe_methRS0 {pl : Sem Bool} (he : PE X o ta) (c : Cls X.K C) (hm : Meth X.K C m f) (F : FnR X.prog X.w X.K X.mg X.base CX k f sp) (hr : Room k X.A) (hx : ∀ σ, PassesAt CX X σ (E σ))
    (ht : eval (.Call (.Attribute o m apos) [] [] pos) X.env = (do
      let ov ← eval o X.env
      standAt apos.atName
      let (f, first) ← holding [ov] (getMethod ov m pl)
      callWith pos f first (backTo pos (starEach [] X.env)) (backToKw pos (keywordEach [] X.env))) := by rfl) :
    PE X (.Call (.Attribute o m apos) [] [] pos) (tMethRS C m sp E ta tNil) := by
  refine ⟨fun pins s σ H Q I h => ?_⟩
  refine PySem.W.methodCall_KW (pl := pl) (thn (he.run pins s σ H _ I h) fun u s1 hh => ?_) ht
  obtain ⟨x, H1, I1, rx, a, dx, fs, ex, ea, l, q⟩ := hh
  subst ex
  obtain rfl : u = Value.ref a := rx
  exact getmeth_ok I1 ea c hm l (PySem.W.callWith_K0 (first := [.ref a]) I1.kIn hm.kp (run_fnRS (us := [.ref a]) (vs := [.ref a]) F hr (hx σ) I1 (.cons rfl .nil) q))
def tMethKS (C : Addr) (m : Str) (j : Nat) (sp : Sp) (gV : List V → List V → List V) (E : L2.St → XK) (ta : TE) (tk : TA) : TE := fun σ H Q => ta σ H fun x H1 => ∃ a dx fs, x = .ref a ∧ H1 a = some (.ins C dx fs) ∧ fs.lookup m = none ∧
  tk σ H1 fun zs H2 => zs.length = j ∧ sp (gV [.ref a] zs) H2 Q (E σ)
theorem pe_methKS {ps ks : List Str} {fd : FuncData} {g : List Value → List Value → List Value} {gV : List V → List V → List V} {pl : Sem Bool} (he : PE X o ta) (c : Cls X.K C) (hm : Meth X.K C m f) (F : FnOk X.prog X.w X.K X.mg X.base CX k f fd ps sp) (hr : Room k X.A)
    (hb : KBn X.K fd ps 1 ks g gV) (hx : ∀ σ, PassesAt CX X σ (E σ)) (hkw : PK X kws tk)
    (hall : (backToKw pos (keywordEach kws X.env)).all (·.1.isSome) = true := by rfl) (hks : (backToKw pos (keywordEach kws X.env)).filterMap (·.1) = ks := by rfl)
    (hpl : ((backTo pos (starEach [] X.env)).any (·.1) || (backToKw pos (keywordEach kws X.env)).any (·.1.isNone)) = false := by rfl)
    (ht : eval (.Call (.Attribute o m apos) [] kws pos) X.env = (do
      let ov ← eval o X.env
      standAt apos.atName
      let (f, first) ← holding [ov] (getMethod ov m pl)
      callWith pos f first (backTo pos (starEach [] X.env)) (backToKw pos (keywordEach kws X.env))) := by rfl) :
    PE X (.Call (.Attribute o m apos) [] kws pos) (tMethKS C m ks.length sp gV E ta tk) := by
  refine ⟨fun pins s σ H Q I h => ?_⟩
  refine PySem.W.methodCall_KW (pl := pl) (thn (he.run pins s σ H _ I h) fun u s1 hh => ?_) ht
  obtain ⟨x, H1, I1, rx, a, dx, fs, ex, ea, l, q⟩ := hh
  subst ex
  obtain rfl : u = Value.ref a := rx
  refine getmeth_ok I1 ea c hm l (PySem.W.callWith_KW0 (first := [.ref a]) (h₀ := X.base) I.ok.mod.kin hm.kp hall ?_ hpl)
  refine thn (hkw.run pos pins s1 σ H1 _ I1 q) fun ws s2 hh => ?_
  obtain ⟨zs, H2, I2, rz, l2, q2⟩ := hh
  refine ⟨I2.kIn, ?_⟩
  rw [hks]
  have r : Vals [V.ref a] [Value.ref a] := .cons rfl .nil
  have r2 := hb.rel r rz
  refine wpAny_call (codeAny_mono (F.run X.A X.stack s2 H2 ⟨[.ref a], ks.zip ws⟩ _ _ Q (E σ) hr I2.env0 (hb.to s2 [.ref a] ws I2.kIn rfl (rz.length.symm.trans l2)) r2 q2) fun r s' hq => ?_)
  cases r with
  | error e => exact hx σ pins H2 s2 e s' I2 hq
  | ok fl =>
    cases fl with
    | ret u => exact I2.after hq
    | next => exact hq.elim
    | brk => exact hq.elim
    | cont => exact hq.elim
end
end DD
namespace DD
open PySem PySem.Spec PyProof.Rows L2
/-! ### the facts of classes of errors from what the head looks at -/
theorem bAnd {a b : Bool} (h : (a && b) = true) : a = true ∧ b = true := Bool.and_eq_true_iff.mp h
theorem oexlB_ok {K : PySem.W.Frag} {C : Addr} (h : HK.oexlB K C = true) : OexL K C := by
  obtain ⟨h1, h2⟩ := bAnd h
  obtain ⟨a1, a2⟩ := bAnd h1
  obtain ⟨h3, h4⟩ := bAnd h2
  obtain ⟨a3, a4⟩ := bAnd h3
  obtain ⟨h5, a7⟩ := bAnd h4
  obtain ⟨a5, a6⟩ := bAnd h5
  exact ⟨a1, a2, a3, of_decide_eq_true a4, of_decide_eq_true a5, of_decide_eq_true a6, a7⟩
theorem istxB_ok {K : PySem.W.Frag} {D : Addr} (h : HK.istxB K D = true) : IsTx K D := by
  obtain ⟨h1, h2⟩ := bAnd h
  obtain ⟨a1, a2⟩ := bAnd h1
  obtain ⟨h3, h4⟩ := bAnd h2
  obtain ⟨a3, a4⟩ := bAnd h3
  obtain ⟨h5, h6⟩ := bAnd h4
  obtain ⟨a5, a6⟩ := bAnd h5
  obtain ⟨a7, a8⟩ := bAnd h6
  exact ⟨a1, of_decide_eq_true a2, of_decide_eq_true a3, of_decide_eq_true a4, of_decide_eq_true a5, of_decide_eq_true a6, of_decide_eq_true a7, of_decide_eq_true a8⟩
theorem initB_ok {K : PySem.W.Frag} {C : Addr} {fld : Str} (h : HK.initB K C fld = true) : PySem.W.findIn K (.ref C) "__init__" = some (some (.ref (He.ma K C "__init__"))) ∧ PySem.W.typeIn K (.ref (He.ma K C "__init__")) = some (.type "function") ∧ PySem.W.findIn K (.ref C) fld = some none := by
  obtain ⟨h1, h2⟩ := bAnd h
  obtain ⟨a1, a2⟩ := bAnd h2
  exact ⟨of_decide_eq_true h1, of_decide_eq_true a1, of_decide_eq_true a2⟩
theorem err0_ok {K : PySem.W.Frag} {h : Heap} {mg : Str → Option Value} {x : Str} (X : K.In h) (G : h.Ns mainGlobals mg) (c1 : (He.Fa.exc x).ok K = true) (c2 : (He.Fa.glo x).ok K = true) : Err0 K mg x (He.ga K x) := by
  obtain ⟨a1, a2, a3, a4⟩ := He.exc_ok c1
  exact ⟨a1, a2, a3, a4, He.glo_ok X G c2⟩
theorem errL_ok {K : PySem.W.Frag} {h : Heap} {mg : Str → Option Value} {x fld q : Str} {sI : Stmt} {dI : FuncData} (X : K.In h) (G : h.Ns mainGlobals mg) (c1 : (He.Fa.glo x).ok K = true) (c2 : HK.oexlB K (He.ga K x) = true) (c3 : HK.initB K (He.ga K x) fld = true)
    (hq : x ++ ".__init__" = q) (FI : Fun K "__init__" q sI (He.ma K (He.ga K x) "__init__") dI) (bI : Binds K dI ["self", fld] []) : ErrL K mg x fld sI (He.ga K x) (He.ma K (He.ga K x) "__init__") dI := by
  obtain ⟨a1, a2, a3⟩ := initB_ok c3
  exact ⟨oexlB_ok c2, a1, a2, a3, He.glo_ok X G c1, by rw [hq]; exact FI, bI⟩
/-! ### the law over what the head told -/
theorem walk_ofGE {l : PySem.W.OpenLaw} {n k : Nat} {q : Program} {loose : List Str} {XP : (Str → Option Value) → Heap → Prop} {YP : World → Heap → Prop}
    {d : DefRec} {sp : PySem.W.Frag → Sp} {x : Str} (most : l.most = some n) (n_le : n ≤ sizeLine) (nodef : d.params.defaults = [])
    (room : Room k callerA)
    (F : ∀ (w : World) (mg : Str → Option Value) (fa : Addr) (h : Heap), YP w h → h.Ns mainGlobals mg → mg d.name = some (.ref fa) →
      ∃ (K : PySem.W.Frag) (fd : FuncData), K.In h ∧ (∀ (s : Shared) (u : Value), BindsTo s fd ⟨[u], []⟩ [(x, u)]) ∧
        ∀ base : Heap, K.In base → base.Ns mainGlobals mg → FnG l.prog w K mg base k fa fd [x] (sp K))
    (wish : ∀ (K : PySem.W.Frag) (H : Hp) (a : Addr) (ns : List Int), ns.length ≤ n → Only H → SqL K H a (ns.map V.int) →
      sp K [.ref a] H (fun v _ => v = .bl true) fun _ _ _ => False) :
    PySem.W.WalkO q loose XP YP l.row.toRowW d [] (fun f vs => PySem.call f vs) := by
  refine Att.attach_call most nodef fun w s0 s1 mg mb fa o pm cd doc a vs ns G Y ho hd hcd hmg hobj hints hlen hg => ?_
  obtain ⟨K, fd, KX, hb, hF⟩ := F w mg fa _ Y G.T.g hmg
  exact law_goG KX G.T.g G.T.b G.T.builtins G.T.nolimit hg hobj hints (Nat.le_trans hlen n_le) room hF hb
    fun H hO hS => wish K H a ns hlen hO hS
theorem fun_of_D {K : PySem.W.Frag} {x qual : Str} {st : Stmt} {kws : List (Str × V)} {f : Addr} {fd : FuncData} (F : FunD K x qual (defArgs st) (defBody st) (defScope st) [] kws f fd) : Fun K x qual st f fd := by
  obtain ⟨oc, od, dV, kV, doc, pm, an, cdv, ct, osl, e, lk, hcd, hD, hK⟩ := F.ex
  rcases hD with ⟨_, hd⟩ | ⟨z, _⟩
  · subst hd
    exact ⟨⟨oc, od, kV, doc, pm, an, cdv, ct, osl, e, lk, hcd⟩, F.kp⟩
  · exact absurd rfl z
end DD
namespace DD
open PySem PySem.Spec PyProof.Rows L2
/-! ### a, *b = a tuple -/
theorem star_items {prog : Program} {w : World} {A : Around} {E : Value → Shared → Prop} {s : Shared} {l : Addr} {items : Array Value} {Q : List Value → Shared → Prop} (hl : IsTup s.heap l items) (hh : A.handled = none) (h1 : 1 ≤ items.size) (hz : items.size ≤ 16384)
    (h : ∀ D h' tk, (∀ b o, s.heap.get? b = some o → h'.get? b = some o) → s.heap.get? D = none → h'.get? D = some { cls := .type "list", data := .seq (items.toList.drop 1).toArray } → Q (items.toList.take 1 ++ [.ref D]) { s with heap := h', toks := tk }) :
    wpAny (model prog w) A (unpackItems (.ref l) 2 (some 1)) Q E s := by
  have low : l < s.heap.objs.size := by
    obtain ⟨o, ho, _⟩ := hl
    exact Heap.lt_size ho
  have apart : l ≠ s.heap.objs.size := Nat.ne_of_lt low
  unfold unpackItems notIterableAtAll
  refine wpAny_bind (wpAny_bind (wpAny_specialOf hl.typeIs slot_tuple_iter.lookup (wpAny_pure ?_)))
  simp only [Bool.false_eq_true, if_false]
  refine wpAny_bind (wpAny_holding (iter_tuple hl ?_))
  refine wpAny_bind (wpAny_holding (draw_tuple apart 1 0 _ _ ⟨_, Heap.get?_push_size _ rfl, rfl, rfl⟩ (hl.push _) (by omega) fun g1 hit hs => ?_))
  have hl1 : IsTup g1 l items := (hl.push _).extBut hs.extBut apart
  rw [Nat.zero_add] at hit
  obtain ⟨oi, hoi, _⟩ := id hit
  obtain ⟨ol, hol, _⟩ := id hl1
  rw [List.drop_zero]
  have hf : (items.toList.take 1).length = 1 := by
    rw [List.length_take, Array.length_toList]
    omega
  rw [if_neg (show ¬ ((items.toList.take 1).length < 1) by omega)]
  refine wpAny_bind (wpAny_holding (PySem.W.kun_collect (s := { s with heap := g1 }) (T := "tuple_iterator") (.inr (.inr (.inr rfl))) (Walks.tuple (A := A.in1) hh s.heap.objs.size l apart items) (fun j u st => st.1.typeIs) (k := 1) h1 ⟨hit, hl1⟩
    (Heap.lt_size hoi) (Heap.lt_size hol) (fun g2 tk hk => ?_) (Nat.le_trans hz (by rw [sizeLine_eq]; decide))))
  have old : ∀ b o, s.heap.get? b = some o → g2.get? b = some o := fun b o e => by
    have nb : b ≠ s.heap.objs.size := Nat.ne_of_lt (Heap.lt_size e)
    exact hk b o nb (hs.extBut b o nb (Heap.get?_push_of_some _ e))
  have hsub : 2 - 1 - 1 = 0 := rfl
  simp only [hsub, Nat.not_lt_zero, if_false, Nat.sub_zero]
  rw [List.take_length, List.drop_length]
  refine wpAny_bind (wpAny_newList (wpAny_pure ?_) (by rw [List.length_drop, Array.length_toList, sizeLine_eq]; omega))
  rw [List.append_nil]
  refine h _ _ tk (fun b o e => Heap.get?_push_of_some _ (old b o e)) ?_ (Heap.get?_push_size _ rfl)
  cases e : s.heap.get? g2.objs.size with
  | none => rfl
  | some o => exact absurd (Heap.lt_size (old _ _ e)) (Nat.lt_irrefl _)
def gStar (K : PySem.W.Frag) (t1 t2 : TG) : TG := fun v σ H Q => ∃ (a : Addr) (x : V) (xs : List V), v = .ref a ∧ SqT K H a (x :: xs) ∧ xs.length ≤ 1000 ∧ ∀ p, H p = none → t1 x σ (upd H p (.lst xs)) fun σ1 H1 => t2 (.ref p) σ1 H1 Q
theorem pg_star {X : Cx} {e1 e2 : Expr} {sp pos : Pos} {k : Nat} {t1 t2 : TG} (hc : X.calm = true) (h1 : PG X e1 t1) (h2 : PG X e2 t2) (hn : (assignEach [e1, .Starred e2 sp] X.env).length = 2 := by rfl) (hst : (assignEach [e1, .Starred e2 sp] X.env).findIdx? (·.1) = some 1 := by rfl)
    (hm : (assignEach [e1, .Starred e2 sp] X.env).map (·.2) = [assign e1 X.env, assign e2 X.env] := by rfl) : PG X (.Tuple [e1, .Starred e2 sp] k pos) (gStar X.K t1 t2) := by
  refine ⟨fun pins s σ H v u Q I r hw => ?_⟩
  obtain ⟨a, x, xs, e, hq, hl, hw⟩ := hw
  subst e
  cases r
  obtain ⟨its, rv, ⟨o, ho, hcl, n, hd⟩, hz⟩ := I.tuple hq
  cases rv with
  | @cons _ u0 _ us rx rr =>
  rw [PyProof.Rows.assign_Tuple]
  refine wpAny_bind (wpAny_standAt ?_)
  unfold unpack
  rw [hn, hst, hm]
  have lr : us.length = xs.length := (rr.length).symm
  refine wpAny_bind (wpAny_holding (star_items (items := (u0 :: us).toArray) ⟨o, ho, hcl, n, hd⟩ (I.ok.hd hc) (by simp) (by simp; omega) fun D h' tk old nD atD => ?_))
  have hD : H D = none := I.hok.gone nD
  have I1 : Inv X pins σ (upd H D (.lst xs)) { s with heap := h', toks := tk } := I.laidN old nD hD ⟨Nat.le_trans hl (by rw [sizeLine_eq]; decide), us, 0, rr, atD⟩
  show wpAny _ _ (assignInOrder [assign e1 X.env, assign e2 X.env] [u0, .ref D]) _ _ _
  refine wpAny_bind (wpAny_holding (wpAny_mono (h1.run pins _ σ _ x u0 _ I1 rx (hw D hD)) (fun _ s2 z => ?_) fun _ _ z => z))
  obtain ⟨σ1, H1, I2, q⟩ := z
  refine wpAny_bind (wpAny_holding (wpAny_mono (h2.run pins _ σ1 H1 (.ref D) (.ref D) _ I2 rfl q) (fun _ s3 z => ?_) fun _ _ z => z))
  exact wpAny_pure z
end DD
namespace DD
open PySem PySem.Spec PyProof.Rows L2
/-! ### d.get(k) of a written dict -/
def tKGet (K : PySem.W.Frag) (w : World) (to te : TE) : TE := fun σ H Q => to σ H fun x H1 => ∃ (d : Addr) (es : Array DictEntry) (n : Nat), x = .ref d ∧ KDict K w d es n ∧ te σ H1 fun y H2 => ∃ (z : Str) (r : Option Value) (v : V), y = .str z ∧ PySem.W.nsIn K d z = some r ∧ RelV v (r.getD .none) ∧ Q v H2
theorem pe_kget {X : Cx} {o e : Expr} {apos cpos : Pos} {to te : TE} (ho : PE X o to) (he : PE X e te) (m : M1 X o "get" apos e cpos) : PE X (.Call (.Attribute o "get" apos) [e] [] cpos) (tKGet X.K X.w to te) := by
  refine ⟨fun pins s σ H Q I h => ?_⟩
  refine wpAny_Call_method m.base m.few m.line PySem.F.plainAttrs_dict PySem.F.slot_dict_get PySem.F.type_dict_get (thn (ho.run pins s σ H _ I h) fun u s1 hh => ?_)
  obtain ⟨x, H1, I1, rx, d, es, n, ex, D, q1⟩ := hh
  subst ex
  obtain rfl : u = Value.ref d := rx
  obtain ⟨o, es', ep, e1, e2, e3, e4⟩ := PySem.W.mapOf_K (prog := X.prog) (w := X.w) I1.kIn D.at_ D.lit
  refine ⟨⟨o, e1, e2.1⟩, fun a z => ?_, ?_⟩
  · cases z
    exact ⟨o, e1, e2.2.1⟩
  rw [m.trees]
  refine Calls.callWith_builtin rfl (Calls.evalArgs_plain (Calls.spliced_cons (thn (he.run pins s1 σ H1 _ I1 q1) fun iv s2 hh => Calls.spliced_nil ?_)))
  obtain ⟨y, H2, I2, ry, z, r, v, ey, hr, rv, q2⟩ := hh
  subst ey
  obtain ⟨t, rfl⟩ := ry
  have M2 := PySem.W.mapOf_K (prog := X.prog) (w := X.w) I2.kIn D.at_ D.lit
  refine call_meetsIn PySem.F.slot_dict_get M2.typeIs PySem.F.entry_dict_get (PySem.F.args_dict_get_2 _ _) (meets_dict_get (strKind X.prog X.w) d (strKind_is X.prog X.w z t) D.low) ⟨_, M2, ?_⟩
  rw [PySem.W.find_K D.at_ hr]
  exact ⟨v, H2, I2.tok _, rv, q2⟩
/-! ### the table of how many values each edit takes -/
/-- how many values an edit of this name takes -/
def valsV (z : Str) : V := if z = "put" ∨ z = "remove" then .int 3 else if z = "wish" ∨ z = "drop" then .int 1 else .non
structure VT (K : PySem.W.Frag) (w : World) (mg : Str → Option Value) (d : Addr) : Prop where
  gV : mg "VALUES_OF_EDITS" = some (.ref d)
  kd : ∃ es n, KDict K w d es n
  kv : ∀ z, ∃ r, PySem.W.nsIn K d z = some r ∧ RelV (valsV z) (r.getD .none)
theorem kd_miss {K : PySem.W.Frag} {P : Params} {d : Addr} {ks : List Str} (h : He.dicW K d = some (He.keysIn P ks)) {z : Str} (hz : z ∉ ks) : PySem.W.nsIn K d z = some none := by
  unfold He.dicW at h
  unfold PySem.W.nsIn
  cases q : K.lookup d with
  | none =>
    rw [q] at h
    cases h
  | some o =>
    obtain ⟨oc, od, dt, osl⟩ := o
    rw [q] at h
    cases oc with
    | type c =>
      cases od with
      | none =>
        cases dt with
        | dict es n =>
          have h1 : (match decide (c = "dict") && (osl.isEmpty && !(d == sysModules)) with
            | true => some (es.toList.map He.keyOf)
            | false => none) = some (He.keysIn P ks) := h
          cases y : decide (c = "dict") && (osl.isEmpty && !(d == sysModules)) with
          | false =>
            rw [y] at h1
            cases h1
          | true =>
            rw [y] at h1
            have h2 : es.toList.map He.keyOf = He.keysIn P ks := Option.some.inj h1
            have all : ∀ e ∈ es.toList, ∃ x t, e.key = .str x t ∧ x ∈ ks := fun e he => by
              have m : He.keyOf e ∈ He.keysIn P ks := by
                rw [← h2]
                exact List.mem_map_of_mem he
              obtain ⟨k, hk, e1⟩ := List.mem_map.mp m
              unfold He.keyOf at e1
              split at e1
              · rename_i x t q2
                obtain ⟨h5, _⟩ := Prod.mk.inj (Option.some.inj e1)
                exact ⟨x, t, q2, by rw [← h5]; exact hk⟩
              · cases e1
            have f1 : es.toList.find? (·.key.isStr z) = none := List.find?_eq_none.mpr fun e he => by
              obtain ⟨x, t, e1, e2⟩ := all e he
              rw [e1]
              intro y
              have : x = z := by
                simpa [Value.isStr] using y
              exact hz (this ▸ e2)
            have f2 : es.toList.any (·.refKey) = false := by
              rw [List.any_eq_false]
              intro e he
              obtain ⟨x, t, e1, _⟩ := all e he
              unfold DictEntry.refKey
              rw [e1]
              simp
            dsimp only
            rw [f1, f2]
            rfl
        | _ => cases h
      | some b => cases dt <;> cases h
    | _ => cases od <;> cases dt <;> cases h
theorem vt_of {K : PySem.W.Frag} {w : World} {h : Heap} {mg : Str → Option Value} (X : K.In h) (G : h.Ns mainGlobals mg) (c1 : (He.Fa.glo "VALUES_OF_EDITS").ok K = true) (c2 : He.dicW K (He.ga K "VALUES_OF_EDITS") = some (He.keysIn w.params ["put", "remove", "wish", "drop"]))
    (c3 : He.valsB K (He.ga K "VALUES_OF_EDITS") [("put", .int 3), ("remove", .int 3), ("wish", .int 1), ("drop", .int 1)] = true) : VT K w mg (He.ga K "VALUES_OF_EDITS") := by
  refine ⟨He.glo_ok X G c1, He.dicW_ok c2, fun z => ?_⟩
  have at_ : ∀ {q : Str × He.Dv}, q ∈ [(("put" : Str), He.Dv.int 3), ("remove", .int 3), ("wish", .int 1), ("drop", .int 1)] → ∃ r, PySem.W.nsIn K (He.ga K "VALUES_OF_EDITS") q.1 = some r ∧ RelV (q.2.v K) (r.getD .none) := fun hq => by
    obtain ⟨u, e, r⟩ := He.valsB_ok c3 hq
    exact ⟨some u, e, r⟩
  by_cases e1 : z = "put"
  · subst e1
    obtain ⟨r, e, rr⟩ := at_ (q := ("put", .int 3)) (by simp)
    exact ⟨r, e, rr⟩
  by_cases e2 : z = "remove"
  · subst e2
    obtain ⟨r, e, rr⟩ := at_ (q := ("remove", .int 3)) (by simp)
    exact ⟨r, e, by rw [show valsV "remove" = .int 3 from if_pos (.inr rfl)]; exact rr⟩
  by_cases e3 : z = "wish"
  · subst e3
    obtain ⟨r, e, rr⟩ := at_ (q := ("wish", .int 1)) (by simp)
    exact ⟨r, e, by rw [show valsV "wish" = .int 1 by decide +kernel]; exact rr⟩
  by_cases e4 : z = "drop"
  · subst e4
    obtain ⟨r, e, rr⟩ := at_ (q := ("drop", .int 1)) (by simp)
    exact ⟨r, e, by rw [show valsV "drop" = .int 1 by decide +kernel]; exact rr⟩
  refine ⟨none, kd_miss c2 (by simp [e1, e2, e3, e4]), ?_⟩
  have : valsV z = .non := by
    unfold valsV
    rw [if_neg (by simp [e1, e2]), if_neg (by simp [e3, e4])]
  rw [this]
  rfl
end DD
namespace DD
open PySem PySem.Spec PyProof.Rows L2
/-! ### t[::-1] of a tuple -/
theorem back_pick (xs : Array Value) : ((List.range xs.size).filterMap fun (k : Nat) => xs[(((xs.size : Int) - 1) + (k : Int) * (-1)).toNat]?) = xs.toList.reverse := by
  have e : (fun (k : Nat) => xs[(((xs.size : Int) - 1) + (k : Int) * (-1)).toNat]?) = fun k => if k < xs.size then xs[xs.size - 1 - k]? else xs[0]? := by
    funext k
    by_cases h : k < xs.size
    · rw [if_pos h]
      congr 1
      omega
    · rw [if_neg h]
      congr 1
      omega
  rw [e]
  have e2 : (List.range xs.size).filterMap (fun k => if k < xs.size then xs[xs.size - 1 - k]? else xs[0]?) = ((List.range xs.size).map fun k => xs.size - 1 - k).filterMap fun k => xs[k]? := by
    rw [List.filterMap_map]
    have cg : ∀ (l : List Nat) (f g : Nat → Option Value), (∀ k ∈ l, f k = g k) → l.filterMap f = l.filterMap g := fun l f g => by
      induction l with
      | nil => intro _; rfl
      | cons a l ih =>
        intro h
        rw [List.filterMap_cons, List.filterMap_cons, h a List.mem_cons_self, ih fun k hk => h k (List.mem_cons_of_mem _ hk)]
    refine cg _ _ _ fun k hk => ?_
    show (if k < xs.size then xs[xs.size - 1 - k]? else xs[0]?) = xs[xs.size - 1 - k]?
    rw [if_pos (List.mem_range.mp hk)]
  rw [e2, PySem.W.krv_range, List.filterMap_reverse, PySem.W.krv_all]
section
variable {prog : Program} {w : World} {A : Around} {E : Value → Shared → Prop} {s : Shared}
theorem sliceApplied_back {sl : Addr} {vl vu vs : Value} {n : Nat} {R : Int × Int × Nat → Shared → Prop} (hs : s.heap.IsSliceOf sl vl vu vs) (pl : IsPart vl none) (pu : IsPart vu none) (ps : IsPart vs (some (-1)))
    (hR : R ((n : Int) - 1, -1, n) s) : wpAny (model prog w) A (Builtin.Slice.sliceApplied (.ref sl) (pure (n : Int))) R E s := by
  obtain ⟨os, hos, hcs, hds⟩ := id hs
  unfold Builtin.Slice.sliceApplied Builtin.Slice.sliceFields
  refine wpAny_bind (wpAny_bind (wpAny_field hos hds (x := vl) rfl (wpAny_bind (wpAny_field hos hds (x := vu) rfl (wpAny_bind (wpAny_field hos hds (x := vs) rfl (wpAny_pure ?_)))))))
  refine wpAny_bind (HT.slicePart_ ps ?_)
  show wpAny _ _ (if ((-1 : Int) == 0) = true then _ else _) _ _ s
  rw [if_neg (by decide)]
  refine wpAny_bind (HT.slicePart_ pl (wpAny_bind (HT.slicePart_ pu (wpAny_bind (wpAny_pure (wpAny_pure ?_))))))
  have e : Builtin.Slice.slicePlaces ((n : Int) - 1) (-1) (-1) = n := by
    unfold Builtin.Slice.slicePlaces
    rw [if_neg (by decide)]
    by_cases h : (n : Int) - 1 > -1
    · rw [if_pos h, show ((n : Int) - 1 - -1 - 1) / (- -1) + 1 = (n : Int) by rw [show (- -1 : Int) = 1 by decide, Int.ediv_one]; omega]
      exact Int.toNat_natCast n
    · rw [if_neg h]
      omega
  show R ((n : Int) - 1, -1, Builtin.Slice.slicePlaces ((n : Int) - 1) (-1) (-1)) s
  rw [e]
  exact hR
theorem getItem_tuple_back {t sl : Addr} {items : Array Value} {vl vu vs : Value} {Q : Value → Shared → Prop} (ht : IsTup s.heap t items) (hs : s.heap.IsSliceOf sl vl vu vs)
    (pl : IsPart vl none) (pu : IsPart vu none) (ps : IsPart vs (some (-1))) (h : Q (.ref s.heap.objs.size) { s with heap := s.heap.push { cls := .type "tuple", data := .seq items.toList.reverse.toArray } }) (hsz : items.size ≤ sizeLine) :
    wpAny (model prog w) A (getItem (.ref t) (.ref sl)) Q E s := by
  obtain ⟨os, hos, hcs, hds⟩ := id hs
  have hTs : s.TypeIs (.ref sl) "slice" := ⟨os, hos, hcs⟩
  have room : sizeOk (.seq items.toList.reverse.toArray) := by
    show items.toList.reverse.toArray.size ≤ sizeLine
    rw [List.size_toArray, List.length_reverse, Array.length_toList]
    exact hsz
  unfold getItem
  try with_reducible refine wpAny_holding ?_
  first | refine wpAny_bind (wpAny_pure ?_) | skip
  refine wpAny_bind (wpAny_sequenceKey ht.typeIs (by decide) ?_)
  refine wpAny_bind (wpAny_callSpecial?_slot (name := Str.ofString "__getitem__") ht.typeIs PyProof.Rows.slot_tuple_getitem (wpAny_call_entry PyProof.Rows.slot_tuple_getitem ht.typeIs entry_tuple_getitem ?_ (args_tuple_getitem _ _)))
  show wpAny _ _ (Builtin.Tuple.tupleItemsOf (.ref t) >>= _) _ _ s
  refine wpAny_bind (tupleItemsOf_ ht (wpAny_bind (wpAny_typeOf hTs ?_)))
  rw [if_pos (by decide)]
  refine wpAny_bind (sliceApplied_back hs pl pu ps ?_)
  have one : ¬ (((((items.size : Int) - 1) == 0 && ((-1 : Int) == 1)) && (items.size == items.size)) = true) := by
    rw [show ((-1 : Int) == 1) = false by decide, Bool.and_false, Bool.false_and]
    exact Bool.false_ne_true
  show wpAny _ _ (if ((((items.size : Int) - 1) == 0 && ((-1 : Int) == 1)) && (items.size == items.size)) = true then _ else _) _ _ s
  rw [if_neg one, back_pick]
  first
    | exact wpAny_bind (m := Builtin.Tuple.tupleExact _) (wpAny_newObj_type (wpAny_pure ⟨_, rfl, wpAny_pure h⟩) room)
    | exact wpAny_bind (m := Builtin.Tuple.tupleExact _) (wpAny_newObj_type (wpAny_bind (wpAny_pure (wpAny_pure ⟨_, rfl, wpAny_pure h⟩))) room)
    | exact wpAny_bind (wpAny_bind (m := Builtin.Tuple.tupleExact _) (wpAny_newObj_type (wpAny_pure (wpAny_pure ⟨_, rfl, wpAny_pure h⟩)) room))
    | exact wpAny_bind (wpAny_bind (m := Builtin.Tuple.tupleExact _) (wpAny_newObj_type (wpAny_pure ⟨_, rfl, wpAny_pure h⟩) room))
end
def tRevT (K : PySem.W.Frag) (te : TE) : TE := fun σ H Q => te σ H fun x H1 => ∃ a xs, x = .ref a ∧ SqT K H1 a xs ∧ ∀ p, H1 p = none → Q (.ref p) (upd H1 p (.tup xs.reverse))
theorem pe_revT {X : Cx} {e : Expr} {te : TE} {k : Nat} {p1 p2 p3 pos : Pos} (he : PE X e te) : PE X (.Subscript e (.Slice none none (some (.UnaryOp .USub (.Constant (.int 1) k p1) p2)) p3) pos) (tRevT X.K te) := by
  refine ⟨fun pins s σ H Q I h => Subscript_ (thn (he.run pins s σ H _ I h) fun v s1 hh => ?_)⟩
  obtain ⟨x, H1, I1, r1, a, xs, ex, hx, q⟩ := hh
  subst ex
  cases r1
  have step : PO X (some (.UnaryOp .USub (.Constant (.int 1) k p1) p2)) (tPart (tUn (rU fun i => .int (-i)) (tC (.int 1)))) := po_some (pe_un un_neg pe_int)
  refine wpAny_Slice (thn (po_none.run pins s1 σ H1 (fun o H2 => o = none ∧ H2 = H1) I1 ⟨rfl, rfl⟩) fun vl s2 hh => ?_)
  obtain ⟨l, H2, I2, pl, el, e2⟩ := hh
  subst el e2
  refine thn (po_none.run pins s2 σ H2 (fun o H3 => o = none ∧ H3 = H2) I2 ⟨rfl, rfl⟩) fun vu s3 hh => ?_
  obtain ⟨u, H3, I3, pu, eu, e3⟩ := hh
  subst eu e3
  refine thn (step.run pins s3 σ H3 (fun o H4 => o = some (-1) ∧ H4 = H3) I3 ⟨1, rfl, -1, rfl, rfl, rfl⟩) fun vs s4 hh => ?_
  obtain ⟨o, H4, I4, ps, eo, e4⟩ := hh
  subst eo e4
  have I5 := I4.kept (h' := s4.heap.push { cls := .type "slice", data := .fields #[vl, vu, vs] }) (t' := s4.toks) fun b ob q => Heap.get?_push_of_some _ q
  obtain ⟨its, r, ht, hz⟩ := I5.tuple hx
  have hlen := r.length
  show wpAny (model X.prog X.w) X.A (subscriptTail e (.Slice none none (some (.UnaryOp .USub (.Constant (.int 1) k p1) p2)) p3) (.ref a) (.ref s4.heap.objs.size)) (EP X pins σ Q) X.xe { s4 with heap := s4.heap.push { cls := .type "slice", data := .fields #[vl, vu, vs] } }
  refine tail_any (ops := [.ref a, .ref s4.heap.objs.size]) ht.typeIs PyProof.Rows.slot_tuple_getitem.lookup ?_ (by with_unfolding_all rfl)
  refine getItem_tuple_back ht (Heap.IsSliceOf.new _ vl vu vs) pl pu ps ?_ (by rw [List.size_toArray, ← hlen]; exact hz)
  refine ⟨.ref _, _, I5.laid (t' := s4.toks) (o := .tup xs.reverse) (fun b ob q => Heap.get?_push_of_some _ q) (Nat.le_refl _) ?_, rfl, q _ (I5.hok.fresh (Nat.le_refl _))⟩
  exact ⟨by rw [List.length_reverse]; exact hz, _, r.reverse, IsTup.new _ _⟩
end DD
namespace DD
open PySem PySem.Spec PyProof.Rows L2
/-! ### o.m(e, .., k = v, ..): a method by places and keywords, nothing raised -/
def tMethKp (C : Addr) (m : Str) (i j : Nat) (sp : Sp) (gV : List V → List V → List V) (E : XK) (ta : TE) (t : TA) (tk : TA) : TE := fun σ H Q => ta σ H fun x H1 => ∃ a dx fs, x = .ref a ∧ H1 a = some (.ins C dx fs) ∧ fs.lookup m = none ∧
  t σ H1 fun vs H2 => tk σ H2 fun zs H3 => vs.length = i ∧ zs.length = j ∧ sp (gV (x :: vs) zs) H3 Q E
theorem pe_methKp {X : Cx} {CX : CXT} {k i : Nat} {f C : Addr} {fd : FuncData} {ps ks : List Str} {sp : Sp} {E : XK} {m : Str} {pos apos : Pos} {o e : Expr} {es : List Expr} {kws : List Keyword} {ta : TE} {t tk : TA} {g : List Value → List Value → List Value} {gV : List V → List V → List V} {pl : Sem Bool}
    (he : PE X o ta) (c : Cls X.K C) (hm : Meth X.K C m f) (F : FnOk X.prog X.w X.K X.mg X.base CX k f fd ps sp) (hr : Room k X.A) (hb : KBn X.K fd ps (i + 1) ks g gV) (hx : Passes CX X E) (ha : PA X (e :: es) t) (hkw : PK X kws tk)
    (hall : (backToKw pos (keywordEach kws X.env)).all (·.1.isSome) = true := by rfl) (hks : (backToKw pos (keywordEach kws X.env)).filterMap (·.1) = ks := by rfl)
    (hst : starEach (e :: es) X.env = (false, eval e X.env) :: starEach es X.env := by rfl)
    (hpl : ((backTo pos (starEach (e :: es) X.env)).any (·.1) || (backToKw pos (keywordEach kws X.env)).any (·.1.isNone)) = false := by rfl)
    (ht : eval (.Call (.Attribute o m apos) (e :: es) kws pos) X.env = (do
      let ov ← eval o X.env
      standAt apos.atName
      let (f, first) ← holding [ov] (getMethod ov m pl)
      callWith pos f first (backTo pos (starEach (e :: es) X.env)) (backToKw pos (keywordEach kws X.env))) := by rfl) :
    PE X (.Call (.Attribute o m apos) (e :: es) kws pos) (tMethKp C m i ks.length sp gV E ta t tk) := by
  refine ⟨fun pins s σ H Q I h => ?_⟩
  refine PySem.W.methodCall_KW (pl := pl) (thn (he.run pins s σ H _ I h) fun u s1 ⟨x, H1, I1, rx, a, dx, fs, ex, ea, l, q⟩ => ?_) ht
  subst ex
  obtain rfl : u = Value.ref a := rx
  refine getmeth_ok I1 ea c hm l ?_
  refine PySem.W.callWith_KW (first := [.ref a]) (h₀ := X.base) I.ok.mod.kin hm.kp hall (thn (ha.run pos pins s1 σ H1 _ I1 q) fun us s2 ⟨vs, H2, I2, r, q2⟩ => ?_) hpl hst
  refine thn (hkw.run pos pins s2 σ H2 _ I2 q2) fun ws s3 ⟨zs, H3, I3, rz, l1, l2, q3⟩ => ⟨I3.kIn, ?_⟩
  rw [hks]
  exact run_fnN (us := .ref a :: us) (vs := .ref a :: vs) F hr hb hx I3 (.cons rfl r) rz (by rw [List.length_cons, l1]) l2 q3
end DD
namespace DD
open PySem PySem.Spec PyProof.Rows L2
theorem scDraw : FnScope ["_law_deck_here", "_law_many", "_law_cell", "_law_place"] ["_law_deck_here", "_law_many"] (defScope sDraw) := ⟨rfl, rfl, rfl, by decide +kernel, rfl, by decide +kernel, by decide +kernel⟩

section
variable {P : Program} {w : World} {K : PySem.W.Frag} {mg : Str → Option Value} {base : Heap}
/-- a drawn number from 0 to L - 1: the deck turns, all else stands -/
def spDraw : Sp := fun vs H Q _ => ∃ (dk c : Addr) (B : Nat) (L : Int), vs = [.ref dk, .int L] ∧ Deck H dk c B ∧ B ≤ 1000000 ∧ 1 ≤ L ∧ L ≤ 10000000 ∧
  ∀ r H', 0 ≤ r → r < L → Kp2 dk c H H' → Deck H' dk c (B + 1) → Q (.int r) H'
theorem ok_draw {f : Addr} {fd : FuncData} {k : Nat} (F : Fun K "_law_draw" "_law_draw" sDraw f fd) (ml : mg "len" = none) : FnOk P w K mg base CX0 (k + 1) f fd ["_law_deck_here", "_law_many"] spDraw := by
  refine F.ok scDraw (fun vs H Q E h => ?_) (fun cdv A outer s H vs Q E hr h => ?_)
  · obtain ⟨dk, c, B, L, rfl, _⟩ := h
    rfl
  · obtain ⟨dk, c, B, L, rfl, ⟨⟨ns, t, hdk, hc, hpos, hlen, t0, tB⟩, dne⟩, hB, hL1, hL2, q⟩ := h
    refine ⟨_, pss_cons (ps_asg (pe_op op_add (pe_ix ix_list (pv 0) pe_int (fun _ _ => rfl)) pe_int) (pg_sub (pv 0) pe_int set_list))
      (pss_cons (ps_set (i := 2) scDraw.nd rfl (.inl rfl) pe_int)
      (pss_cons (ps_set (i := 3) scDraw.nd rfl (.inl rfl) (pe_un un_neg pe_int))
      (C8.pss_cut (ps_if (pt_cmpR op_gt (pe_callB call_len_seq (by rfl) ml PySem.boot_len (pa_cons (pe_ix ix_list (pv 0) pe_int (fun _ _ => rfl)) pa_nil)) pe_int (nomark _))
          (pss_cons (ps_set (i := 3) scDraw.nd rfl (.inl rfl) (pe_op op_modN (pe_ix ix_list (pv 0) pe_int (fun _ _ => rfl)) (pe_callB call_len_seq (by rfl) ml PySem.boot_len (pa_cons (pe_ix ix_list (pv 0) pe_int (fun _ _ => rfl)) pa_nil))))
          (pss_one (ps_set (i := 2) scDraw.nd rfl (.inl rfl) (pe_ix ix_list (pe_ix ix_list (pv 0) pe_int (fun _ _ => rfl)) (pv 3) (fun _ _ => rfl)))))
          pss_nil)
      (pss_cons (ps_if (pt_cmpR op_ge (pv 2) (pe_op op_pow pe_int pe_int) (nomark _))
          (pss_cons (ps_asg (pe_op op_fdivN (pv 2) (pv 1)) (pg_sub (pe_ix ix_list (pv 0) pe_int (fun _ _ => rfl)) (pv 3) set_list))
          (pss_one (ps_ret (pe_op op_modN (pv 2) (pv 1)))))
          pss_nil)
      (pss_one (ps_ret (pe_op op_modN (pe_op op_modN (pe_op op_pow (pe_op op_add (pe_op op_add (pe_op op_modN (pv 2) pe_int) (pe_op op_mul pe_int (pe_ix ix_list (pv 0) pe_int (fun _ _ => rfl)))) pe_int) pe_int) pe_int) (pv 1)))))))), ?_⟩
    -- _law_deck_here[1] = _law_deck_here[1] + 1
    refine ⟨.ref dk, rfl, dk, _, 1, .int t, rfl, rfl, SqL.of hdk, atI_nat (j := 1) rfl, t, 1, rfl, rfl, .ref dk, rfl, dk, _, 1, 1, rfl, rfl, hdk, rfl, ?_⟩
    have hdk1 : (upd H dk (.lst [.ref c, .int (t + 1)])) dk = some (.lst [.ref c, .int (t + 1)]) := upd_same
    have hc1 : (upd H dk (.lst [.ref c, .int (t + 1)])) c = some (.lst (ns.map V.int)) := by
      rw [upd_ne dne.symm]
      exact hc
    refine ⟨1, rfl, ?_⟩
    have hdk2 := hdk1
    have hc2 := hc1
    have k2 : Kp2 dk c H (upd H dk (.lst [.ref c, .int (t + 1)])) := kp2_upd1
    refine ⟨fun σ' H' => ∃ cell idx : Int, σ' = [some (.ref dk), some (.int L), some (.int cell), some (.int idx)] ∧ Kp2 dk c H H' ∧ H' dk = some (.lst [.ref c, .int (t + 1)]) ∧ H' c = some (.lst (ns.map V.int)) ∧ 0 ≤ cell ∧
      (10 ^ 18 ≤ cell → ∃ j : Nat, idx = j ∧ j < ns.length), ?_, ?_⟩
    · -- if len(_law_deck_here[0]) > 0
      refine ⟨.ref dk, rfl, dk, _, 0, .ref c, rfl, rfl, SqL.of hdk2, atI_nat (j := 0) rfl, c, _, rfl, .inl (SqL.of hc2), _, _, rfl, rfl, _, rfl, ite2 (fun e => ?_) (fun e => ?_)⟩
      · have e0 : (0 : Int) < ((ns.map V.int).length : Int) := of_decide_eq_true e
        rw [List.length_map] at e0
        have b1 := Int.fmod_nonneg_of_pos (t + 1) e0
        have b2 := Int.fmod_lt_of_pos (t + 1) e0
        obtain ⟨j, hj⟩ : ∃ j : Nat, (t + 1).fmod (ns.length : Int) = j := ⟨((t + 1).fmod (ns.length : Int)).toNat, by omega⟩
        have hjl : j < ns.length := by omega
        have gj : (ns.map V.int)[j]? = some (.int ns[j]) := by
          rw [List.getElem?_map, List.getElem?_eq_getElem hjl]
          rfl
        refine ⟨.ref dk, rfl, dk, _, 1, .int (t + 1), rfl, rfl, SqL.of hdk2, atI_nat (j := 1) rfl, .ref dk, rfl, dk, _, 0, .ref c, rfl, rfl, SqL.of hdk2, atI_nat (j := 0) rfl, c, _, rfl, .inl (SqL.of hc2), t + 1, _, rfl, rfl, ?_, ?_⟩
        · rw [List.length_map]
          omega
        · refine ⟨.ref dk, rfl, dk, _, 0, .ref c, rfl, rfl, SqL.of hdk2, atI_nat (j := 0) rfl, _, rfl, c, _, (j : Int), .int ns[j], rfl, ?_, SqL.of hc2, atI_nat gj, ?_⟩
          · show V.int ((t + 1).fmod _) = _
            rw [List.length_map, hj]
          · refine ⟨ns[j], j, ?_, k2, hdk2, hc2, hpos _ (List.getElem_mem hjl), fun _ => ⟨j, rfl, hjl⟩⟩
            show [some (V.ref dk), some (V.int L), some (V.int ns[j]), some (V.int ((t + 1).fmod _))] = _
            rw [List.length_map, hj]
      · exact ⟨0, -1, rfl, k2, hdk2, hc2, Int.le_refl _, fun z => absurd z (by decide)⟩
    · rintro σ' H' ⟨cell, idx, rfl, k2, hdk2, hc2, hcell, hidx⟩
      have hB1 : t + 1 ≤ ((B + 1 : Nat) : Int) := by omega
      -- if _law_cell >= 10 ** 18
      refine ⟨_, rfl, 10, 18, rfl, rfl, ⟨by decide, by decide, by decide⟩, _, _, rfl, rfl, _, rfl, ite2 (fun e => ?_) (fun e => ?_)⟩
      · have e0 : (10 : Int) ^ (18 : Int).toNat ≤ cell := of_decide_eq_true e
        obtain ⟨j, rfl, hjl⟩ := hidx e0
        have hix : ixN (ns.map V.int).length (j : Int) = some j := by
          unfold ixN
          rw [if_pos (by omega), if_pos (by rw [List.length_map]; omega)]
          simp
        refine ⟨_, rfl, _, rfl, cell, L, rfl, rfl, ⟨by omega, by omega⟩, .ref dk, rfl, dk, _, 0, .ref c, rfl, rfl, SqL.of hdk2, atI_nat (j := 0) rfl, _, rfl, c, _, (j : Int), j, rfl, rfl, hc2, hix, ?_⟩
        refine ⟨_, rfl, _, rfl, cell, L, rfl, rfl, by omega, ?_⟩
        refine q _ _ (Int.fmod_nonneg_of_pos _ (by omega)) (Int.fmod_lt_of_pos _ (by omega)) (k2.trans kp2_upd2) ⟨⟨ns.set j (cell.fdiv L), t + 1, ?_, ?_, ?_, ?_, by omega, hB1⟩, dne⟩
        · rw [upd_ne dne]
          exact hdk2
        · rw [upd_same, List.map_set]
        · intro n hn
          rcases List.mem_or_eq_of_mem_set hn with h | h
          · exact hpos n h
          · rw [h]
            exact Int.fdiv_nonneg hcell (by omega)
        · rw [List.length_set]
          exact hlen
      · have b1 := Int.fmod_nonneg_of_pos cell (show (0 : Int) < 2147483587 by decide)
        have b2 := Int.fmod_lt_of_pos cell (show (0 : Int) < 2147483587 by decide)
        refine ⟨_, rfl, cell, 2147483587, rfl, rfl, (by show (2147483587 : Int) ≠ 0; decide), .ref dk, rfl, dk, _, 1, .int (t + 1), rfl, rfl, SqL.of hdk2, atI_nat (j := 1) rfl, 7919, t + 1, rfl, rfl, .inl ⟨by decide, by decide⟩,
          _, _, rfl, rfl, _, _, rfl, rfl, _, 5, rfl, rfl, ⟨by decide, by decide, by omega⟩, _, 2147483647, rfl, rfl, (by show (2147483647 : Int) ≠ 0; decide), _, rfl, _, L, rfl, rfl, by omega, ?_⟩
        exact q _ _ (Int.fmod_nonneg_of_pos _ (by omega)) (Int.fmod_lt_of_pos _ (by omega)) k2 ⟨⟨ns, t + 1, hdk2, hc2, hpos, hlen, by omega, hB1⟩, dne⟩
end
end DD
namespace DD
open PySem PySem.Spec PyProof.Rows L2
theorem scDeck : FnScope ["_law_script", "_law_cell"] ["_law_script"] (defScope sDeck) := ⟨rfl, rfl, rfl, by decide +kernel, rfl, by decide +kernel, by decide +kernel⟩
section
variable {P : Program} {w : World} {K : PySem.W.Frag} {mg : Str → Option Value} {base : Heap}
def spDeck (K : PySem.W.Frag) : Sp := fun vs H Q _ => ∃ (a : Addr) (ns : List Int), vs = [.ref a] ∧ SqL K H a (ns.map V.int) ∧ ns.length ≤ 63 ∧
  ∀ dk c H', Same H H' → H dk = none → H c = none → Deck H' dk c 0 → Q (.ref dk) H'
theorem ok_deck {f : Addr} {fd : FuncData} {k : Nat} (F : Fun K "_law_deck" "_law_deck" sDeck f fd) (ma : mg "abs" = none) : FnOk P w K mg base CX0 (k + 1) f fd ["_law_script"] (spDeck K) := by
  refine F.ok scDeck (fun vs H Q E h => ?_) (fun cdv A outer s H vs Q E hr h => ?_)
  · obtain ⟨a, ns, rfl, _⟩ := h
    rfl
  · obtain ⟨a, ns, rfl, hS, hlen, q⟩ := h
    refine ⟨_, pss_one (ps_ret (pe_lst (pa_cons (pe_lc (own := [("_law_cell", 1)]) (g := gName 1) rfl scDeck.nd (pi_list (pe_slice sl_list (pv 0) po_none (po_some pe_int)))
      (blkOk_by (own := [("_law_cell", 1)]) (N := ["_law_script", "_law_cell"]) (sc := defScope sDeck) (by decide +kernel)) (fun _ _ _ _ _ => pg_name (i := 1) scDeck.nd rfl (Or.inl rfl)) (fun _ _ _ _ _ => pts_nil)
      (fun _ _ _ _ _ => pe_callB call_abs (by rfl) ma (by decide +kernel) (pa_cons (pv 1) pa_nil))) (pa_cons pe_int pa_nil)))), ?_⟩
    refine ⟨.ref a, rfl, 63, rfl, a, _, rfl, hS, fun p np => ?_⟩
    obtain ⟨ms, em, hml⟩ := cutV_map (ns := ns) (lo := none) (hi := some 63)
    rw [em]
    refine ⟨p, rfl, ⟨_, SqL.of upd_same⟩, fun D nD => ?_⟩
    have hp0 : Same H (upd H p (.lst (ms.map V.int))) := same_new np
    refine lc_list (xs := ms.map V.int) (fun i H' => H' D = some (.lst ((ms.take i).map fun n => V.int (absI n))) ∧ Same (upd H p (.lst (ms.map V.int))) H') ⟨upd_same, same_new nD⟩
      (fun i H' _ h => SqL.of (h.2 _ _ upd_same)) (fun i x H' hx h => ?_) (fun H' h => ?_)
    · obtain ⟨n, hn, rfl⟩ := get_map hx
      obtain ⟨hD, sm⟩ := h
      refine ⟨rfl, _, rfl, n, rfl, _, hD, ?_, ?_, fun b o e => ?_⟩
      · rw [List.length_map, List.length_take]
        exact len_lt (by omega)
      · rw [upd_same, take_succ_map hn]
        rfl
      · have hne : b ≠ D := ne_of_none e nD
        rw [upd_ne hne]
        exact sm b o e
    · obtain ⟨hD, sm⟩ := h
      rw [List.length_map, List.take_length] at hD
      refine ⟨by show 2 ≤ sizeLine; decide, fun dk nk => ?_⟩
      have ndk : D ≠ dk := ne_of_none hD nk
      refine q dk D _ (hp0.trans (sm.trans (same_new nk))) ?_ ?_ ⟨⟨ms.map absI, 0, upd_same, ?_, ?_, ?_, Int.le_refl _, Int.le_refl _⟩, ndk.symm⟩
      · exact hp0.free (sm.free nk)
      · exact hp0.free nD
      · rw [upd_ne ndk, hD, List.map_map]
        rfl
      · intro n hn
        obtain ⟨m, _, rfl⟩ := List.mem_map.mp hn
        exact absI_pos m
      · rw [List.length_map]
        omega
end
end DD
namespace DD
open PySem PySem.Spec PyProof.Rows L2
structure Tx (K : PySem.W.Frag) (mg : Str → Option Value) (fN fU fV fTu fA fEr fO fSz fWm fWi fCs fCn fFu fCo fSp fCa fR fSt fAu fIp fI fFc fLo fSo fOv fDw fSv fSm : Addr) (dN dU dV dTu dA dEr dO dSz dWm dWi dCs dCn dFu dCo dSp dCa dR dSt dAu dIp dI dFc dLo dSo dOv dDw dSv dSm : FuncData) : Prop where
  N : Fun K "is_number" "is_number" sIsNum fN dN
  bN : Binds K dN ["value"] []
  gN : mg "is_number" = some (.ref fN)
  U : Fun K "is_number_up_to" "is_number_up_to" sUpTo fU dU
  bU : Binds K dU ["value", "most"] []
  gU : mg "is_number_up_to" = some (.ref fU)
  V : Fun K "is_positive_up_to" "is_positive_up_to" sPos fV dV
  bV : Binds K dV ["value", "most"] []
  gV : mg "is_positive_up_to" = some (.ref fV)
  Tu : Fun K "is_tuple_of" "is_tuple_of" sTupOf fTu dTu
  bTu : Binds K dTu ["value", "fewest", "most"] []
  gTu : mg "is_tuple_of" = some (.ref fTu)
  A : Fun K "are_numbers" "are_numbers" sNums fA dA
  bA : Binds K dA ["value", "fewest", "most", "limit"] []
  gA : mg "are_numbers" = some (.ref fA)
  Er : Fun K "stock_error" "stock_error" sErr fEr dEr
  bEr : Binds K dEr ["value"] []
  gEr : mg "stock_error" = some (.ref fEr)
  O : Fun K "totals_of" "totals_of" sTotals fO dO
  bO : Binds K dO ["stock"] []
  gO : mg "totals_of" = some (.ref fO)
  Sz : Fun K "sizes_of" "sizes_of" sSizes fSz dSz
  bSz : Binds K dSz ["stock"] []
  gSz : mg "sizes_of" = some (.ref fSz)
  Wm : Fun K "with_more" "with_more" sMore fWm dWm
  bWm : Binds K dWm ["stock", "drawer", "kind", "count"] []
  gWm : mg "with_more" = some (.ref fWm)
  Wi : Fun K "with_item" "with_item" sItem fWi dWi
  bWi : Binds K dWi ["row", "at", "item"] []
  gWi : mg "with_item" = some (.ref fWi)
  Cs : Fun K "are_collections" "are_collections" sAre fCs dCs
  bCs : Binds K dCs ["kinds", "value"] []
  gCs : mg "are_collections" = some (.ref fCs)
  Cn : Fun K "is_collection" "is_collection" sIsCol fCn dCn
  bCn : Binds K dCn ["kinds", "value"] []
  gCn : mg "is_collection" = some (.ref fCn)
  Fu : Fun K "fulfilled_by" "fulfilled_by" sFul fFu dFu
  bFu : Binds K dFu ["collections", "counts"] []
  gFu : mg "fulfilled_by" = some (.ref fFu)
  Co : Fun K "contain" "contain" sCont fCo dCo
  bCo : Binds K dCo ["counts", "collection"] []
  gCo : mg "contain" = some (.ref fCo)
  Sp : Fun K "spoilings_of" "spoilings_of" sSpoil fSp dSp
  bSp : Binds K dSp ["collections"] []
  gSp : mg "spoilings_of" = some (.ref fSp)
  Ca : Fun K "caps_of" "caps_of" sCaps fCa dCa
  bCa : Binds K dCa ["collections", "spoiling"] []
  gCa : mg "caps_of" = some (.ref fCa)
  R : Fun K "room_of" "room_of" sRoomOf fR dR
  bR : Binds K dR ["totals", "caps"] []
  gR : mg "room_of" = some (.ref fR)
  St : Fun K "sure_total" "sure_total" sTotal fSt dSt
  bSt : Binds K dSt ["stock", "collections"] []
  gSt : mg "sure_total" = some (.ref fSt)
  Au : Fun K "are_numbers_up_to" "are_numbers_up_to" sNumsUp fAu dAu
  bAu : Binds K dAu ["value", "limits"] []
  gAu : mg "are_numbers_up_to" = some (.ref fAu)
  Ip : Fun K "is_plan" "is_plan" sIsPlan fIp dIp
  bIp : Binds K dIp ["stock", "value"] []
  gIp : mg "is_plan" = some (.ref fIp)
  I : Fun K "room_in" "room_in" sRoomIn fI dI
  bI : Binds K dI ["stock", "caps", "drawers"] []
  gI : mg "room_in" = some (.ref fI)
  Fc : Fun K "find_certificate" "find_certificate" sFind fFc dFc
  bFc : Binds K dFc ["stock", "collections", "plan"] []
  gFc : mg "find_certificate" = some (.ref fFc)
  Lo : Fun K "loads_of" "loads_of" sLoads fLo dLo
  bLo : Binds K dLo ["stock", "plan"] []
  gLo : mg "loads_of" = some (.ref fLo)
  So : Fun K "sets_of_drawers" "sets_of_drawers" sSetsOf fSo dSo
  bSo : Binds K dSo ["stock"] []
  gSo : mg "sets_of_drawers" = some (.ref fSo)
  Ov : Fun K "overfull" "overfull" sOver fOv dOv
  bOv : Binds K dOv ["loads", "caps"] []
  gOv : mg "overfull" = some (.ref fOv)
  Dw : Fun K "draw_within" "draw_within" sWithin fDw dDw
  bDw : Binds K dDw ["stock", "caps", "plan"] []
  gDw : mg "draw_within" = some (.ref fDw)
  Sv : Fun K "spare_of" "spare_of" sSpare fSv dSv
  bSv : Binds K dSv ["loads", "caps", "kind"] []
  gSv : mg "spare_of" = some (.ref fSv)
  Sm : Fun K "is_same_state" "is_same_state" sSame fSm dSm
  bSm : Binds K dSm ["one", "other"] []
  gSm : mg "is_same_state" = some (.ref fSm)
  m_len : mg "len" = none
  m_tuple : mg "tuple" = none
  m_isinstance : mg "isinstance" = none
  m_int : mg "int" = none
  m_bool : mg "bool" = none
  m_all : mg "all" = none
  m_zip : mg "zip" = none
  m_enumerate : mg "enumerate" = none
  m_sum : mg "sum" = none
  m_min : mg "min" = none
  m_max : mg "max" = none
  m_range : mg "range" = none
  m_list : mg "list" = none
  mD : ∃ tk, mg "MAX_DRAWERS" = some (.int 4 tk)
  mK : ∃ tk, mg "MAX_KINDS" = some (.int 4 tk)
  mC : ∃ tk, mg "MAX_COUNT" = some (.int 50 tk)
  mX : ∃ tk, mg "MAX_COLLECTIONS" = some (.int 4 tk)
theorem scIsNum : FnScope ["value"] ["value"] (defScope sIsNum) := ⟨rfl, rfl, rfl, by decide +kernel, rfl, by decide +kernel, by decide +kernel⟩
theorem scUpTo : FnScope ["value", "most"] ["value", "most"] (defScope sUpTo) := ⟨rfl, rfl, rfl, by decide +kernel, rfl, by decide +kernel, by decide +kernel⟩
theorem scTupOf : FnScope ["value", "fewest", "most"] ["value", "fewest", "most"] (defScope sTupOf) := ⟨rfl, rfl, rfl, by decide +kernel, rfl, by decide +kernel, by decide +kernel⟩
section
variable {P : Program} {w : World} {K : PySem.W.Frag} {mg : Str → Option Value} {base : Heap}
def spIsNum : Sp := fun vs H Q _ => ∃ v d, vs = [v] ∧ Dq H v d ∧ Q (.bl (isI d && !isB d)) H
theorem ok_isnum {f : Addr} {fd : FuncData} {k : Nat} (F : Fun K "is_number" "is_number" sIsNum f fd) (mI : mg "isinstance" = none) (mi : mg "int" = none) (mb : mg "bool" = none) : FnOk P w K mg base CX0 (k + 1) f fd ["value"] spIsNum := by
  refine F.ok scIsNum (fun vs H Q E h => ?_) (fun cdv A outer s H vs Q E hr h => ?_)
  · obtain ⟨v, d, rfl, _⟩ := h
    rfl
  · obtain ⟨v, d, rfl, hd, q⟩ := h
    refine ⟨_, pss_one (ps_ret (pe_and (pe_callB (show CallR _ _ (rIsi K) from call_isi) (by rfl) mI (by decide +kernel) (pa_cons (pv 0) (pa_cons (pe_bltn (v := .ty "int") (by rfl) mi (by decide +kernel) rfl) pa_nil)))
      (pe_one (pe_not (pe_callB (show CallR _ _ (rIsi K) from call_isi) (by rfl) mI (by decide +kernel) (pa_cons (pv 0) (pa_cons (pe_bltn (v := .ty "bool") (by rfl) mb (by decide +kernel) rfl) pa_nil))))))), ?_⟩
    obtain ⟨T, t, kT, kI, kB⟩ := dq_ty (K := K) hd
    refine ⟨v, rfl, _, _, _, _, _, rfl, .ty _, t, kI, _, rfl, ?_⟩
    by_cases c : isI d = true
    · rw [if_pos c]
      refine ⟨v, rfl, _, _, _, _, _, rfl, .ty _, t, kB, _, rfl, ?_⟩
      rw [c, Bool.true_and] at q
      exact q
    · rw [if_neg c]
      rw [Bool.eq_false_iff.mpr c, Bool.false_and] at q
      exact q
def spUpTo : Sp := fun vs H Q _ => ∃ v d m, vs = [v, .int m] ∧ Dq H v d ∧ Q (.bl (numOk m d)) H
theorem ok_upto {f fN : Addr} {fd fdN : FuncData} {k : Nat} (F : Fun K "is_number_up_to" "is_number_up_to" sUpTo f fd) (FN : Fun K "is_number" "is_number" sIsNum fN fdN) (bN : Binds K fdN ["value"] []) (gN : mg "is_number" = some (.ref fN))
    (mI : mg "isinstance" = none) (mi : mg "int" = none) (mb : mg "bool" = none) : FnOk P w K mg base CX0 (k + 2) f fd ["value", "most"] spUpTo := by
  have GN : FnOk P w K mg base CX0 (k + 1) fN fdN ["value"] spIsNum := ok_isnum FN mI mi mb
  refine F.ok scUpTo (fun vs H Q E h => ?_) (fun cdv A outer s H vs Q E hr h => ?_)
  · obtain ⟨v, d, m, rfl, _⟩ := h
    rfl
  · obtain ⟨v, d, m, rfl, hd, q⟩ := h
    refine ⟨_, pss_one (ps_ret (pe_and (pe_call GN hr (by rfl) gN FN.kp bN .nil pass0 (pa_cons (pv 0) pa_nil)) (pe_one (pe_chain op_le op_le pe_int (pv 0) (pv 1))))), ?_⟩
    refine ⟨v, rfl, v, d, rfl, hd, _, rfl, ?_⟩
    cases hd with
    | int i =>
      refine iteT ⟨_, rfl, _, _, rfl, rfl, _, rfl, ?_⟩
      have q : Q (.bl (decide (0 ≤ i) && decide (i ≤ m))) H := q
      by_cases c : (0 : Int) ≤ i
      · rw [decide_eq_true c, Bool.true_and] at q
        refine iteT2 (decide_eq_true c) ⟨_, rfl, _, _, rfl, rfl, q⟩
      · rw [decide_eq_false c, Bool.false_and] at q
        exact iteF2 (decide_eq_false c) q
    | bl b => exact iteF q
    | non => exact iteF q
    | str _ => exact iteF q
    | lst _ _ => exact iteF q
    | tup _ _ => exact iteF q
    | d0 _ => exact iteF q
    | d1 _ => exact iteF q
def lenD : PyData → Nat
  | .tuple xs => xs.length
  | _ => 0
def spTupOf (K : PySem.W.Frag) : Sp := fun vs H Q _ => ∃ v d a b, vs = [v, .int a, .int b] ∧ Dq H v d ∧ Q (.bl (isTup d && (decide (a ≤ (lenD d : Int)) && decide ((lenD d : Int) ≤ b)))) H
theorem ok_tupof {f : Addr} {fd : FuncData} {k : Nat} (F : Fun K "is_tuple_of" "is_tuple_of" sTupOf f fd) (mI : mg "isinstance" = none) (mt : mg "tuple" = none) (ml : mg "len" = none) : FnOk P w K mg base CX0 (k + 1) f fd ["value", "fewest", "most"] (spTupOf K) := by
  refine F.ok scTupOf (fun vs H Q E h => ?_) (fun cdv A outer s H vs Q E hr h => ?_)
  · obtain ⟨v, d, a, b, rfl, _⟩ := h
    rfl
  · obtain ⟨v, d, a, b, rfl, hd, q⟩ := h
    refine ⟨_, pss_one (ps_ret (pe_and (pe_callB (show CallR _ _ (rIsi K) from call_isi) (by rfl) mI (by decide +kernel) (pa_cons (pv 0) (pa_cons (pe_bltn (v := .ty "tuple") (by rfl) mt (by decide +kernel) rfl) pa_nil)))
      (pe_one (pe_chain op_le op_le (pv 1) (pe_callB call_len_seq (by rfl) ml PySem.boot_len (pa_cons (pv 0) pa_nil)) (pv 2))))), ?_⟩
    obtain ⟨T, t, kT, kI, kB⟩ := dq_ty (K := K) hd
    refine ⟨v, rfl, _, _, _, _, _, rfl, .ty _, t, kT, _, rfl, ?_⟩
    cases hd with
    | @tup p xs ds hp hs =>
      have e := hs.len
      refine iteT ⟨_, rfl, _, rfl, p, xs, rfl, .inr (SqT.of hp), _, _, rfl, rfl, _, rfl, ?_⟩
      have q : Q (.bl (decide (a ≤ (ds.length : Int)) && decide ((ds.length : Int) ≤ b))) H := q
      rw [← e] at q
      by_cases c : a ≤ (xs.length : Int)
      · rw [decide_eq_true c, Bool.true_and] at q
        exact iteT2 (decide_eq_true c) ⟨_, rfl, _, _, rfl, rfl, q⟩
      · rw [decide_eq_false c, Bool.false_and] at q
        exact iteF2 (decide_eq_false c) q
    | bl b => exact iteF q
    | non => exact iteF q
    | str _ => exact iteF q
    | lst _ _ => exact iteF q
    | int _ => exact iteF q
    | d0 _ => exact iteF q
    | d1 _ => exact iteF q
end
end DD
namespace DD
open PySem PySem.Spec PyProof.Rows L2

/-! ### what a fault is: a row, the first bad row, the error -/
def allOk (m : Int) : PyData → Bool
  | .tuple xs => xs.all (numOk m)
  | _ => false
def rowGood (n : Nat) (d : PyData) : Bool := isTup d && (decide (1 ≤ lenD d) && (decide (lenD d ≤ 4) && (decide (lenD d = n) && allOk 50 d)))
def errFrom (n : Nat) : Nat → List PyData → Option Nat
  | _, [] => none
  | k, d :: ds => if rowGood n d then errFrom n (k + 1) ds else some k
def kindsOfD : List PyData → Nat
  | d :: _ => lenD d
  | [] => 0
def badD (k : Nat) : PyData := .tuple [.int k, .str "drawer"]
def errD : PyData → PyData
  | .tuple ds => if 1 ≤ ds.length ∧ ds.length ≤ 4 then (match errFrom (kindsOfD ds) 0 ds with | none => .none | some k => badD k) else .tuple [.none, .str "stock"]
  | _ => .tuple [.none, .str "stock"]
theorem errFrom_at {n : Nat} : ∀ (ds : List PyData) (k i : Nat) (d : PyData), (∀ x ∈ ds.take i, rowGood n x = true) → ds[i]? = some d → rowGood n d = false → errFrom n k ds = some (k + i)
  | [], _, _, _, _, e, _ => by simp at e
  | x :: ds, k, 0, d, _, e, b => by
    obtain rfl := Option.some.inj e
    show (if rowGood n x = true then _ else some k) = some (k + 0)
    rw [b, if_neg Bool.false_ne_true]
    rfl
  | x :: ds, k, i + 1, d, h, e, b => by
    show (if rowGood n x = true then errFrom n (k + 1) ds else some k) = some (k + (i + 1))
    rw [if_pos (h x List.mem_cons_self), errFrom_at ds (k + 1) i d (fun y hy => h y (List.mem_cons_of_mem _ hy)) e b]
    congr 1
    omega
theorem errFrom_none {n : Nat} : ∀ (ds : List PyData) (k : Nat), (∀ x ∈ ds, rowGood n x = true) → errFrom n k ds = none
  | [], _, _ => rfl
  | x :: ds, k, h => by
    show (if rowGood n x = true then errFrom n (k + 1) ds else some k) = none
    rw [if_pos (h x List.mem_cons_self)]
    exact errFrom_none ds (k + 1) fun y hy => h y (List.mem_cons_of_mem _ hy)

abbrev NN : List Str := ["value", "fewest", "most", "limit", "number"]
theorem scNums : FnScope NN ["value", "fewest", "most", "limit"] (defScope sNums) := ⟨rfl, rfl, rfl, by decide +kernel, rfl, by decide +kernel, by decide +kernel⟩
section
variable {P : Program} {w : World} {K : PySem.W.Frag} {mg : Str → Option Value} {base : Heap}
def spNums : Sp := fun vs H Q _ => ∃ v d a b m, vs = [v, .int a, .int b, .int m] ∧ Dq H v d ∧ lenD d ≤ 1000 ∧
  ∀ H', Same H H' → Q (.bl (isTup d && (decide (a ≤ (lenD d : Int)) && decide ((lenD d : Int) ≤ b)) && allOk m d)) H'
theorem ok_nums {f fT fU fN : Addr} {fd fdT fdU fdN : FuncData} {k : Nat} (F : Fun K "are_numbers" "are_numbers" sNums f fd) (FT : Fun K "is_tuple_of" "is_tuple_of" sTupOf fT fdT) (bT : Binds K fdT ["value", "fewest", "most"] []) (gT : mg "is_tuple_of" = some (.ref fT))
    (FU : Fun K "is_number_up_to" "is_number_up_to" sUpTo fU fdU) (bU : Binds K fdU ["value", "most"] []) (gU : mg "is_number_up_to" = some (.ref fU)) (FN : Fun K "is_number" "is_number" sIsNum fN fdN) (bN : Binds K fdN ["value"] []) (gN : mg "is_number" = some (.ref fN))
    (mI : mg "isinstance" = none) (mi : mg "int" = none) (mb : mg "bool" = none) (mt : mg "tuple" = none) (ml : mg "len" = none) (mA : mg "all" = none) :
    FnOk P w K mg base CX0 (k + 3) f fd ["value", "fewest", "most", "limit"] spNums := by
  have GT : FnOk P w K mg base CX0 (k + 1) fT fdT ["value", "fewest", "most"] (spTupOf K) := ok_tupof FT mI mt ml
  have GU : FnOk P w K mg base CX0 (k + 2) fU fdU ["value", "most"] spUpTo := ok_upto FU FN bN gN mI mi mb
  refine F.ok scNums (fun vs H Q E h => ?_) (fun cdv A outer s H vs Q E hr h => ?_)
  · obtain ⟨v, d, a, b, m, rfl, _⟩ := h
    rfl
  · obtain ⟨v, d, a, b, m, rfl, hd, hl, q⟩ := h
    refine ⟨_, pss_cons (ps_if (pt_not (pt_val (pe_call GT (hr.mono (by omega)) (by rfl) gT FT.kp bT .nil pass0 (pa_cons (pv 0) (pa_cons (pv 1) (pa_cons (pv 2) pa_nil)))))) (pss_one (ps_ret pe_bl)) pss_nil)
      (pss_one (ps_ret (pe_callB (cr_all rfl) (by rfl) mA (by decide +kernel) (pa_cons (pe_lc (own := [("number", 4)]) (g := gName 4) rfl scNums.nd (pi_tup (pv 0))
        (blkOk_by (own := [("number", 4)]) (N := NN) (sc := defScope sNums) (by decide +kernel)) (fun _ _ _ _ _ => pg_name (i := 4) scNums.nd rfl (Or.inl rfl)) (fun _ _ _ _ _ => pts_nil)
        (fun _ _ _ _ _ => pe_call GU hr (by rfl) gU FU.kp bU .nil pass0 (pa_cons (pv 4) (pa_cons (pv 3) pa_nil)))) pa_nil)))), ?_⟩
    refine ⟨v, rfl, _, rfl, _, rfl, v, d, a, b, rfl, hd, _, rfl, ?_⟩
    by_cases c : (isTup d && (decide (a ≤ (lenD d : Int)) && decide ((lenD d : Int) ≤ b))) = true
    · rw [c]
      rw [c, Bool.true_and] at q
      refine iteF ?_
      have ct : isTup d = true := by
        rw [Bool.and_eq_true] at c
        exact c.1
      cases hd with
      | @tup p xs ds hp hs =>
        refine ⟨.ref p, rfl, p, rfl, ⟨_, SqT.of hp⟩, fun D nD => ?_⟩
        refine lc_tup (xs := xs) (fun i H' => H' D = some (.lst ((ds.take i).map fun d => V.bl (numOk m d))) ∧ Same H H') ⟨upd_same, same_new nD⟩ (fun i H' _ h => SqT.of (h.2 _ _ hp)) (fun i x H' hx h => ?_) (fun H' h => ?_)
        · obtain ⟨hD, sm⟩ := h
          obtain ⟨e, he, hde⟩ := hs.get hx
          refine ⟨rfl, x, rfl, _, rfl, x, e, m, rfl, Dq.same sm e x hde, _, hD, ?_, ?_, fun b' o e' => ?_⟩
          · rw [List.length_map, List.length_take]
            have hl' : ds.length ≤ 1000 := hl
            exact len_lt (by omega)
          · rw [upd_same, take_succ_map he]
          · rw [upd_ne (ne_of_none e' nD)]
            exact sm b' o e'
        · obtain ⟨hD, sm⟩ := h
          rw [hs.len, List.take_length] at hD
          refine ⟨D, ds.map (numOk m), rfl, ?_, ?_⟩
          · rw [List.map_map]
            exact SqL.of hD
          · have e : (ds.map (numOk m)).all id = ds.all (numOk m) := by rw [List.all_map]; rfl
            rw [e]
            exact q H' sm
      | _ => exact Bool.noConfusion (show false = true from ct)
    · have c' := Bool.eq_false_iff.mpr c
      rw [c']
      rw [c', Bool.false_and] at q
      exact iteT (q H (Same.refl _))
end
theorem iteE {b : Bool} {A B : Prop} (h1 : b = true → A) (h2 : b = false → B) : if b = true then A else B := by
  cases b
  · exact iteF (h2 rfl)
  · exact iteT (h1 rfl)
/-- the error told, as a value at v -/
def ErrAt (K : PySem.W.Frag) (H : Hp) (v : V) (d : PyData) : Prop := Dp K H v (errD d)
theorem dp_bad {K : PySem.W.Frag} {H : Hp} {p : Addr} {k : Nat} (h : H p = some (.tup [.int k, .str "drawer"])) : Dp K H (.ref p) (badD k) := .tup (SqT.of h) (.cons (.int _) (.cons (.str _) .nil))
theorem dp_nostock {K : PySem.W.Frag} {H : Hp} {p : Addr} (h : H p = some (.tup [.non, .str "stock"])) : Dp K H (.ref p) (.tuple [.none, .str "stock"]) := .tup (SqT.of h) (.cons .non (.cons (.str _) .nil))
theorem errD_out {ds : List PyData} (h : ¬ (1 ≤ ds.length ∧ ds.length ≤ 4)) : errD (.tuple ds) = .tuple [.none, .str "stock"] := if_neg h
theorem errD_bad {ds : List PyData} {i : Nat} {d : PyData} (h : 1 ≤ ds.length ∧ ds.length ≤ 4) (h1 : ∀ x ∈ ds.take i, rowGood (kindsOfD ds) x = true) (h2 : ds[i]? = some d) (h3 : rowGood (kindsOfD ds) d = false) : errD (.tuple ds) = badD i := by
  show (if 1 ≤ ds.length ∧ ds.length ≤ 4 then (match errFrom (kindsOfD ds) 0 ds with | none => PyData.none | some k => badD k) else PyData.tuple [.none, .str "stock"]) = _
  rw [if_pos h, errFrom_at ds 0 i d h1 h2 h3, Nat.zero_add]
theorem errD_good {ds : List PyData} (h : 1 ≤ ds.length ∧ ds.length ≤ 4) (h1 : ∀ x ∈ ds, rowGood (kindsOfD ds) x = true) : errD (.tuple ds) = .none := by
  show (if 1 ≤ ds.length ∧ ds.length ≤ 4 then (match errFrom (kindsOfD ds) 0 ds with | none => PyData.none | some k => badD k) else PyData.tuple [.none, .str "stock"]) = _
  rw [if_pos h, errFrom_none ds 0 h1]
theorem errD_no {d : PyData} (h : isTup d = false) : errD d = .tuple [.none, .str "stock"] := by
  cases d with
  | tuple ds => exact Bool.noConfusion h
  | _ => rfl
/-- the lengths of a value and of its rows -/
def Slim (d : PyData) : Prop := lenD d ≤ 1000 ∧ ∀ ds, d = .tuple ds → ∀ x ∈ ds, lenD x ≤ 1000
end DD
namespace DD
open PySem PySem.Spec PyProof.Rows L2
theorem ints_of_vals : ∀ {ns : List Int} {us : List Value}, Vals (ns.map V.int) us → PyProof.Rows.IntsAre us ns
  | [], _, h => by
    cases h
    exact .nil
  | n :: ns, _, h => by
    cases h with
    | cons r t =>
      obtain ⟨k, rfl⟩ := r
      exact .cons n k (ints_of_vals t)
/-- sum of a tuple of ints -/
theorem cr_sumT {X : Cx} (hc : X.calm = true) : CallR X (.builtin "sum") (fun vs H Q => ∃ (a : Addr) (ns : List Int), vs = [V.ref a] ∧ SqT X.K H a (ns.map V.int) ∧ Q (.int ns.sum) H) := by
  intro pins s σ H xs us Q I r h
  obtain ⟨a, ns, rfl, hq, q⟩ := h
  obtain ⟨u, rfl, ru⟩ := vals1 r
  cases ru
  obtain ⟨its, rv, ⟨o, ho, hcl, n, hd⟩, _⟩ := I.tuple hq
  have ia := ints_of_vals rv
  obtain ⟨xs, e⟩ := ia.allInts.items
  have hn : numsOf (intItems xs).toList = ns := by rw [← e]; exact ia.numsOf
  rw [nums_intItems] at hn
  have ht : s.heap.IsTuple a (intItems xs) := by rw [← e]; exact ⟨o, ho, hcl, n, hd⟩
  refine PySem.W.ktm_sumG (I.ok.hd hc) ht fun h' tk t' hk => ?_
  rw [preSum_eq, List.take_of_length_le (by simp), hn]
  exact ⟨.int ns.sum, H, I.kept hk, ⟨t', rfl⟩, q⟩


/-! ### collections as data -/
def intOf : PyData → Int
  | .int i => i
  | _ => 0
def sumD : PyData → Int
  | .tuple ds => (ds.map intOf).sum
  | _ => 0
theorem sumD_ints (ns : List Int) : sumD (.tuple (ns.map PyData.int)) = ns.sum := by
  show ((ns.map PyData.int).map intOf).sum = ns.sum
  rw [List.map_map]
  congr 1
  exact (List.map_congr_left fun x _ => rfl).trans (List.map_id ns)
def colOk (k : Int) (d : PyData) : Bool := (isTup d && (decide (k ≤ (lenD d : Int)) && decide ((lenD d : Int) ≤ k)) && allOk 50 d) && decide (sumD d > 0)
def rowsAll (k : Int) : PyData → Bool
  | .tuple ds => ds.all (colOk k)
  | _ => false
def areOk (k : Int) (d : PyData) : Bool := (isTup d && (decide ((1 : Int) ≤ (lenD d : Int)) && decide ((lenD d : Int) ≤ 4))) && rowsAll k d
theorem ints_dq {H : Hp} {m : Int} : ∀ {xs : List V} {ds : List PyData}, DqAll H xs ds → ds.all (numOk m) = true → ∃ ns : List Int, xs = ns.map V.int ∧ ds = ns.map PyData.int ∧ ∀ x ∈ ns, 0 ≤ x ∧ x ≤ m
  | _, [], h, _ => by
    cases h
    exact ⟨[], rfl, rfl, fun x hx => by cases hx⟩
  | _, d :: ds, h, e => by
    rw [List.all_cons, Bool.and_eq_true] at e
    cases h with
    | cons a b =>
      obtain ⟨ns, rfl, rfl, hb⟩ := ints_dq b e.2
      cases a with
      | int i =>
        have e1 : (decide (0 ≤ i) && decide (i ≤ m)) = true := e.1
        rw [Bool.and_eq_true, decide_eq_true_eq, decide_eq_true_eq] at e1
        refine ⟨i :: ns, rfl, rfl, fun x hx => ?_⟩
        rcases List.mem_cons.mp hx with rfl | hx
        · exact e1
        · exact hb x hx
      | _ => exact nomatch (show false = true from e.1)
theorem sum_ge : ∀ {ns : List Int}, (∀ x ∈ ns, 0 ≤ x) → ∀ y ∈ ns, y ≤ ns.sum
  | [], _, y, h => by cases h
  | x :: xs, h, y, hy => by
    have h0 := h x List.mem_cons_self
    have hx : ∀ z ∈ xs, 0 ≤ z := fun z hz => h z (List.mem_cons_of_mem _ hz)
    rw [List.sum_cons]
    rcases List.mem_cons.mp hy with rfl | hy
    · have : 0 ≤ xs.sum := by
        have h2 : ∀ l : List Int, (∀ z ∈ l, 0 ≤ z) → 0 ≤ l.sum := fun l => by
          induction l with
          | nil => intro _; exact Int.le_refl _
          | cons a l ih =>
            intro hl
            rw [List.sum_cons]
            have := hl a List.mem_cons_self
            have := ih fun z hz => hl z (List.mem_cons_of_mem _ hz)
            omega
        exact h2 xs hx
      omega
    · have := sum_ge hx y hy
      omega
theorem max_sum {ns : List Int} {m : Int} (h : ∀ x ∈ ns, 0 ≤ x) (hm : m ∈ ns) (hl : ∀ y, y ∈ ns → y ≤ m) : decide (V.int m = V.int 0) = !decide (ns.sum > 0) := by
  have h0 := h m hm
  have h1 := sum_ge h m hm
  by_cases e : m = 0
  · have h2 := (sum_bd (b := 0) (xs := ns) fun x hx => ⟨h x hx, by have := hl x hx; omega⟩).2
    rw [decide_eq_true (by rw [e]), decide_eq_false (by rw [Int.mul_zero] at h2; omega)]
    rfl
  · rw [decide_eq_false (fun z => e (V.int.inj z)), decide_eq_true (by omega)]
    rfl
theorem colOk_of {k : Int} {ns : List Int} : colOk k (.tuple (ns.map PyData.int)) = ((decide (k ≤ (ns.length : Int)) && decide ((ns.length : Int) ≤ k)) && (ns.map PyData.int).all (numOk 50) && decide (ns.sum > 0)) := by
  unfold colOk
  rw [sumD_ints]
  show ((true && (decide (k ≤ ((ns.map PyData.int).length : Int)) && decide (((ns.map PyData.int).length : Int) ≤ k)) && (ns.map PyData.int).all (numOk 50)) && _) = _
  rw [Bool.true_and, List.length_map]
theorem scIsCol : FnScope ["kinds", "value"] ["kinds", "value"] (defScope sIsCol) := ⟨rfl, rfl, rfl, by decide +kernel, rfl, by decide +kernel, by decide +kernel⟩
abbrev NA : List Str := ["kinds", "value", "collection"]
theorem scAre : FnScope NA ["kinds", "value"] (defScope sAre) := ⟨rfl, rfl, rfl, by decide +kernel, rfl, by decide +kernel, by decide +kernel⟩
structure CoTx (K : PySem.W.Frag) (mg : Str → Option Value) (fT fU fN fA fI : Addr) (dT dU dN dA dI : FuncData) : Prop where
  A : Fun K "are_numbers" "are_numbers" sNums fA dA
  bA : Binds K dA ["value", "fewest", "most", "limit"] []
  gA : mg "are_numbers" = some (.ref fA)
  T : Fun K "is_tuple_of" "is_tuple_of" sTupOf fT dT
  bT : Binds K dT ["value", "fewest", "most"] []
  gT : mg "is_tuple_of" = some (.ref fT)
  U : Fun K "is_number_up_to" "is_number_up_to" sUpTo fU dU
  bU : Binds K dU ["value", "most"] []
  gU : mg "is_number_up_to" = some (.ref fU)
  N : Fun K "is_number" "is_number" sIsNum fN dN
  bN : Binds K dN ["value"] []
  gN : mg "is_number" = some (.ref fN)
  I : Fun K "is_collection" "is_collection" sIsCol fI dI
  bI : Binds K dI ["kinds", "value"] []
  gI : mg "is_collection" = some (.ref fI)
  mX : ∃ tk, mg "MAX_COLLECTIONS" = some (.int 4 tk)
  mC : ∃ tk, mg "MAX_COUNT" = some (.int 50 tk)
  m_isinstance : mg "isinstance" = none
  m_int : mg "int" = none
  m_bool : mg "bool" = none
  m_tuple : mg "tuple" = none
  m_len : mg "len" = none
  m_all : mg "all" = none
  m_sum : mg "sum" = none
section
variable {P : Program} {w : World} {K : PySem.W.Frag} {mg : Str → Option Value} {base : Heap}
abbrev rSumT (K : PySem.W.Frag) : List V → Hp → VK → Prop := fun vs H Q => ∃ (a : Addr) (ns : List Int), vs = [V.ref a] ∧ SqT K H a (ns.map V.int) ∧ Q (.int ns.sum) H
def spCol : Sp := fun vs H Q _ => ∃ (k : Int) (v : V) (d : PyData), vs = [.int k, v] ∧ Dq H v d ∧ lenD d ≤ 1000 ∧ ∀ H', Same H H' → Q (.bl (colOk k d)) H'
theorem ok_col {fT fU fN fA fI : Addr} {dT dU dN dA dI : FuncData} {k : Nat} (T : CoTx K mg fT fU fN fA fI dT dU dN dA dI) : FnOk P w K mg base CX0 (k + 4) fI dI ["kinds", "value"] spCol := by
  have GA : FnOk P w K mg base CX0 (k + 3) fA dA ["value", "fewest", "most", "limit"] spNums := ok_nums T.A T.T T.bT T.gT T.U T.bU T.gU T.N T.bN T.gN T.m_isinstance T.m_int T.m_bool T.m_tuple T.m_len T.m_all
  obtain ⟨tkC, hC⟩ := T.mC
  refine T.I.ok scIsCol (fun vs H Q E h => ?_) (fun cdv A outer s H vs Q E hr h => ?_)
  · obtain ⟨k, v, d, rfl, _⟩ := h
    rfl
  · obtain ⟨k, v, d, rfl, hd, hl, q⟩ := h
    refine ⟨_, pss_one (ps_ret (pe_and (pe_call GA (hr.mono (by omega)) (by rfl) T.gA T.A.kp T.bA .nil pass0 (pa_cons (pv 1) (pa_cons (pv 0) (pa_cons (pv 0) (pa_cons (pe_glob (v := .int 50) rfl hC ⟨_, rfl⟩) pa_nil))))) (pe_one (pe_cmpR op_gt (pe_callB (show CallR _ _ (rSumT K) from cr_sumT rfl) (by rfl) T.m_sum (by decide +kernel) (pa_cons (pv 1) pa_nil)) pe_int (nomark _))))), ?_⟩
    refine ⟨v, rfl, .int k, rfl, .int k, rfl, v, d, k, k, 50, rfl, hd, hl, fun H1 s1 => ⟨_, rfl, iteE (fun e => ?_) (fun e => ?_)⟩⟩
    · cases hd with
      | @tup p xs ds hp hs =>
        have e2 := e
        rw [Bool.and_eq_true] at e2
        obtain ⟨ns, rfl, rfl, hb⟩ := ints_dq hs e2.2
        refine ⟨.ref p, rfl, p, ns, rfl, SqT.of (s1 _ _ hp), ns.sum, 0, rfl, rfl, ?_⟩
        have := q H1 s1
        unfold colOk at this
        rw [e, Bool.true_and, sumD_ints] at this
        exact this
      | _ => exact nomatch (show false = true from e)
    · have := q H1 s1
      unfold colOk at this
      rw [e, Bool.false_and] at this
      exact this
def spAre : Sp := fun vs H Q _ => ∃ (k : Int) (v : V) (d : PyData), vs = [.int k, v] ∧ Dq H v d ∧ Slim d ∧ ∀ H', Same H H' → Q (.bl (areOk k d)) H'
theorem ok_are {f fT fU fN fA fI : Addr} {fd dT dU dN dA dI : FuncData} {k : Nat} (F : Fun K "are_collections" "are_collections" sAre f fd) (T : CoTx K mg fT fU fN fA fI dT dU dN dA dI) : FnOk P w K mg base CX0 (k + 5) f fd ["kinds", "value"] spAre := by
  have GT : FnOk P w K mg base CX0 (k + 1) fT dT ["value", "fewest", "most"] (spTupOf K) := ok_tupof T.T T.m_isinstance T.m_tuple T.m_len
  have GI : FnOk P w K mg base CX0 (k + 4) fI dI ["kinds", "value"] spCol := ok_col T
  obtain ⟨tkX, hX⟩ := T.mX
  refine F.ok scAre (fun vs H Q E h => ?_) (fun cdv A outer s H vs Q E hr h => ?_)
  · obtain ⟨k, v, d, rfl, _⟩ := h
    rfl
  · obtain ⟨k, v, d, rfl, hd, hl, q⟩ := h
    refine ⟨_, (pss_cons (ps_if (pt_not (pt_val (pe_call GT (hr.mono (by omega)) (by rfl) T.gT T.T.kp T.bT .nil pass0 (pa_cons (pv 1) (pa_cons pe_int (pa_cons (pe_glob (v := .int 4) rfl hX ⟨_, rfl⟩) pa_nil)))))) (pss_one (ps_ret pe_bl)) pss_nil)
      (pss_one (ps_ret (pe_callB (cr_all rfl) (by rfl) T.m_all (by decide +kernel) (pa_cons (pe_lc (own := [("collection", 2)]) (g := gName 2) rfl scAre.nd (pi_tup (pv 1)) (blkOk_by (own := [("collection", 2)]) (N := NA) (sc := defScope sAre) (by decide +kernel)) (fun _ _ _ _ _ => (pg_name (i := 2) scAre.nd rfl (Or.inl rfl))) (fun _ _ _ _ _ => pts_nil) (fun _ _ _ _ _ => (pe_call GI (hr.mono (by omega)) (by rfl) T.gI T.I.kp T.bI .nil pass0 (pa_cons (pv 0) (pa_cons (pv 2) pa_nil))))) pa_nil))))), ?_⟩
    refine ⟨v, rfl, v, d, 1, 4, rfl, hd, _, rfl, iteE (fun e => ?_) (fun e => ?_)⟩
    · have := q H (Same.refl _)
      have e' : (isTup d && (decide ((1 : Int) ≤ (lenD d : Int)) && decide ((lenD d : Int) ≤ 4))) = false := by rw [Bool.not_eq_true'] at e; exact e
      unfold areOk at this
      rw [e', Bool.false_and] at this
      exact this
    · have e' : (isTup d && (decide ((1 : Int) ≤ (lenD d : Int)) && decide ((lenD d : Int) ≤ 4))) = true := by rw [Bool.not_eq_false'] at e; exact e
      cases hd with
      | @tup p xs ds hp hs =>
        refine ⟨.ref p, rfl, p, rfl, ⟨_, SqT.of hp⟩, fun D nD => ?_⟩
        refine lc_tup (xs := xs) (fun i H' => H' D = some (.lst ((ds.take i).map fun d => V.bl (colOk k d))) ∧ Same H H') ⟨upd_same, same_new nD⟩ (fun i H' _ h => SqT.of (h.2 _ _ hp)) (fun i x H' hx h => ?_) (fun H' h => ?_)
        · obtain ⟨hD, sm⟩ := h
          obtain ⟨e1, he, hde⟩ := hs.get hx
          refine ⟨rfl, .int k, rfl, x, rfl, k, x, e1, rfl, Dq.same sm e1 x hde, hl.2 ds rfl e1 (List.mem_of_getElem? he), fun H2 s2 => ⟨_, s2 _ _ hD, ?_, ?_, fun b' o e' => ?_⟩⟩
          · rw [List.length_map, List.length_take]
            have hl' : ds.length ≤ 1000 := hl.1
            exact len_lt (by omega)
          · rw [upd_same, take_succ_map he]
          · rw [upd_ne (ne_of_none e' nD)]
            exact s2 _ _ (sm b' o e')
        · obtain ⟨hD, sm⟩ := h
          rw [hs.len, List.take_length] at hD
          refine ⟨D, ds.map (colOk k), rfl, ?_, ?_⟩
          · rw [List.map_map]
            exact SqL.of hD
          · have e2 : (ds.map (colOk k)).all id = ds.all (colOk k) := by rw [List.all_map]; rfl
            rw [e2]
            have := q H' sm
            unfold areOk at this
            rw [e', Bool.true_and] at this
            exact this
      | _ => exact nomatch (show false = true from e')
end
end DD
namespace DD
open PySem PySem.Spec PyProof.Rows L2
section
variable {P : Program} {w : World} {K : PySem.W.Frag} {mg : Str → Option Value} {base : Heap}
def spErr (K : PySem.W.Frag) : Sp := fun vs H Q _ => ∃ v d, vs = [v] ∧ Dq H v d ∧ Slim d ∧ ∀ u H', Same H H' → Dp K H' u (errD d) → Q u H'
end

theorem rowGood_iff {n : Nat} {d : PyData} : rowGood n d = true ↔ isTup d = true ∧ 1 ≤ lenD d ∧ lenD d ≤ 4 ∧ lenD d = n ∧ allOk 50 d = true := by
  unfold rowGood
  simp only [Bool.and_eq_true, decide_eq_true_eq]
def numsB (a b : Int) (d : PyData) : Bool := isTup d && (decide (a ≤ (lenD d : Int)) && decide ((lenD d : Int) ≤ b)) && allOk 50 d
theorem numsB_iff {a b : Int} {d : PyData} : numsB a b d = true ↔ (isTup d = true ∧ a ≤ (lenD d : Int) ∧ (lenD d : Int) ≤ b) ∧ allOk 50 d = true := by
  unfold numsB
  simp only [Bool.and_eq_true, decide_eq_true_eq]
theorem nums_row {n : Nat} {a b : Int} {d : PyData} (h : (1 ≤ lenD d ∧ lenD d ≤ 4 ∧ lenD d = n) ↔ (a ≤ (lenD d : Int) ∧ (lenD d : Int) ≤ b)) : numsB a b d = rowGood n d := by
  rw [Bool.eq_iff_iff, numsB_iff, rowGood_iff, ← h]
  exact ⟨fun ⟨⟨a, b, c, d⟩, e⟩ => ⟨a, b, c, d, e⟩, fun ⟨a, b, c, d, e⟩ => ⟨⟨a, b, c, d⟩, e⟩⟩
abbrev NSE : List Str := ["value", "kinds", "index", "drawer"]
theorem scErr : FnScope NSE ["value"] (defScope sErr) := ⟨rfl, rfl, rfl, by decide +kernel, rfl, by decide +kernel, by decide +kernel⟩
def isN : PyData → Bool
  | .none => true
  | _ => false
theorem dp_isN {K : PySem.W.Frag} {H : Hp} {u : V} {d : PyData} (h : Dp K H u d) : decide (u = V.non) = isN d := by
  cases h <;> first | rfl | (exact decide_eq_false (fun z => by cases z))
theorem cut1 {xs : List V} : cutV xs (some 1) none = xs.drop 1 := by
  unfold cutV
  rw [HT.sIx_none, show HT.sIx xs.length 0 (some 1) = min 1 xs.length from HT.sIx_nat ..]
  by_cases h : 1 ≤ xs.length
  · rw [Nat.min_eq_left h, List.take_of_length_le (by rw [List.length_drop]; omega)]
  · have : xs = [] := by
      cases xs with
      | nil => rfl
      | cons _ _ => simp at h
    subst this
    rfl
/-- what stock_error rests on -/
structure StTx (K : PySem.W.Frag) (mg : Str → Option Value) (fT fU fN fA : Addr) (dT dU dN dA : FuncData) : Prop where
  A : Fun K "are_numbers" "are_numbers" sNums fA dA
  bA : Binds K dA ["value", "fewest", "most", "limit"] []
  gA : mg "are_numbers" = some (.ref fA)
  T : Fun K "is_tuple_of" "is_tuple_of" sTupOf fT dT
  bT : Binds K dT ["value", "fewest", "most"] []
  gT : mg "is_tuple_of" = some (.ref fT)
  U : Fun K "is_number_up_to" "is_number_up_to" sUpTo fU dU
  bU : Binds K dU ["value", "most"] []
  gU : mg "is_number_up_to" = some (.ref fU)
  N : Fun K "is_number" "is_number" sIsNum fN dN
  bN : Binds K dN ["value"] []
  gN : mg "is_number" = some (.ref fN)
  mD : ∃ tk, mg "MAX_DRAWERS" = some (.int 4 tk)
  mK : ∃ tk, mg "MAX_KINDS" = some (.int 4 tk)
  mC : ∃ tk, mg "MAX_COUNT" = some (.int 50 tk)
  mI : mg "isinstance" = none
  mi : mg "int" = none
  mb : mg "bool" = none
  mt : mg "tuple" = none
  ml : mg "len" = none
  mA : mg "all" = none
  me : mg "enumerate" = none
section
variable {P : Program} {w : World} {K : PySem.W.Frag} {mg : Str → Option Value} {base : Heap}
theorem ok_err {f fT fU fN fA : Addr} {fd dT dU dN dA : FuncData} {k : Nat} (F : Fun K "stock_error" "stock_error" sErr f fd) (T : StTx K mg fT fU fN fA dT dU dN dA) : FnOk P w K mg base CX0 (k + 4) f fd ["value"] (spErr K) := by
  have GT : FnOk P w K mg base CX0 (k + 1) fT dT ["value", "fewest", "most"] (spTupOf K) := ok_tupof T.T T.mI T.mt T.ml
  have GA : FnOk P w K mg base CX0 (k + 3) fA dA ["value", "fewest", "most", "limit"] spNums := ok_nums T.A T.T T.bT T.gT T.U T.bU T.gU T.N T.bN T.gN T.mI T.mi T.mb T.mt T.ml T.mA
  obtain ⟨tkD, hD⟩ := T.mD
  obtain ⟨tkK, hK⟩ := T.mK
  obtain ⟨tkC, hC⟩ := T.mC
  refine F.ok scErr (fun vs H Q E h => ?_) (fun cdv A outer s H vs Q E hr h => ?_)
  · obtain ⟨v, d, rfl, _⟩ := h
    rfl
  · obtain ⟨v, d, rfl, hd, hl, q⟩ := h
    refine ⟨_, pss_cons (ps_if (pt_not (pt_val (pe_call GT (hr.mono (by omega)) (by rfl) T.gT T.T.kp T.bT .nil pass0 (pa_cons (pv 0) (pa_cons pe_int (pa_cons (pe_glob (v := .int 4) rfl hD ⟨_, rfl⟩) pa_nil))))))
        (pss_one (ps_ret (pe_tup (pa_cons pe_non (pa_cons pe_str pa_nil))))) pss_nil)
      (pss_cons (ps_if (pt_not (pt_val (pe_call GA hr (by rfl) T.gA T.A.kp T.bA .nil pass0 (pa_cons (pe_ix ix_tup (pv 0) pe_int (fun _ _ => rfl)) (pa_cons pe_int (pa_cons (pe_glob (v := .int 4) rfl hK ⟨_, rfl⟩) (pa_cons (pe_glob (v := .int 50) rfl hC ⟨_, rfl⟩) pa_nil)))))))
        (pss_one (ps_ret (pe_tup (pa_cons pe_int (pa_cons pe_str pa_nil))))) pss_nil)
      (pss_cons (ps_set (i := 1) scErr.nd rfl (.inl rfl) (pe_callB call_len_seq (by rfl) T.ml PySem.boot_len (pa_cons (pe_ix ix_tup (pv 0) pe_int (fun _ _ => rfl)) pa_nil)))
      (pss_cons (ps_for PassesOwn.never rfl (pi_enumS (c := 1) (by rfl) T.me (pa_cons (pe_slice sl_tupA (pv 0) (po_some pe_int) po_none) pa_nil) (by decide) (by decide)) (pg_tup rfl (pgs_cons (pg_name (i := 2) scErr.nd rfl (.inl rfl)) (pgs_cons (pg_name (i := 3) scErr.nd rfl (.inl rfl)) pgs_nil)))
        (pss_one (ps_if (pt_not (pt_val (pe_call GA hr (by rfl) T.gA T.A.kp T.bA .nil pass0 (pa_cons (pv 3) (pa_cons (pv 1) (pa_cons (pv 1) (pa_cons (pe_glob (v := .int 50) rfl hC ⟨_, rfl⟩) pa_nil)))))))
          (pss_one (ps_ret (pe_tup (pa_cons (pv 2) (pa_cons pe_str pa_nil))))) pss_nil)))
      (pss_one (ps_ret pe_non))))), ?_⟩
    refine ⟨v, rfl, v, d, 1, 4, rfl, hd, _, rfl, iteE (fun e0 => ?_) (fun e0 => ?_)⟩
    · refine ⟨by show 2 ≤ sizeLine; decide, fun p np => q _ _ (same_new np) ?_⟩
      have e1 : ¬ (isTup d = true ∧ (1 : Int) ≤ (lenD d : Int) ∧ (lenD d : Int) ≤ 4) := fun z => by
        obtain ⟨z1, z2, z3⟩ := z
        rw [z1, decide_eq_true z2, decide_eq_true z3] at e0
        simp at e0
      have e2 : errD d = .tuple [.none, .str "stock"] := by
        cases d with
        | tuple ds =>
          refine errD_out fun z => e1 ⟨rfl, ?_, ?_⟩
          · show (1 : Int) ≤ (ds.length : Nat)
            omega
          · show ((ds.length : Nat) : Int) ≤ 4
            omega
        | _ => rfl
      rw [e2]
      exact dp_nostock upd_same
    · have e1 : isTup d = true ∧ (1 : Int) ≤ (lenD d : Int) ∧ (lenD d : Int) ≤ 4 := by
        have e0 : (isTup d && (decide ((1 : Int) ≤ (lenD d : Int)) && decide ((lenD d : Int) ≤ 4))) = true := by simpa using e0
        simpa only [Bool.and_eq_true, decide_eq_true_eq] using e0
      cases hd with
      | @tup p xs ds hp hs =>
        have hlen := hs.len
        have hb : 1 ≤ ds.length ∧ ds.length ≤ 4 := by
          have h1 : (1 : Int) ≤ (ds.length : Nat) := e1.2.1
          have h2 : ((ds.length : Nat) : Int) ≤ 4 := e1.2.2
          omega
        obtain ⟨v0, d0, xs', ds', rfl, rfl⟩ : ∃ v0 d0 xs' ds', xs = v0 :: xs' ∧ ds = d0 :: ds' := by
          cases xs with
          | nil =>
            simp at hlen
            omega
          | cons a b =>
            cases ds with
            | nil => simp at hb
            | cons c d => exact ⟨_, _, _, _, rfl, rfl⟩
        obtain ⟨h0, hs'⟩ : Dq H v0 d0 ∧ DqAll H xs' ds' := by
          cases hs with
          | cons a b => exact ⟨a, b⟩
        have sl := hl.2 _ rfl
        have hkind : kindsOfD (d0 :: ds') = lenD d0 := rfl
        have n0 : numsB 1 4 d0 = rowGood (kindsOfD (d0 :: ds')) d0 := nums_row (by rw [hkind]; omega)
        refine ⟨.ref p, rfl, p, _, (0 : Nat), v0, rfl, rfl, SqT.of hp, atI_nat (j := 0) rfl, v0, d0, 1, 4, 50, rfl, h0, sl d0 List.mem_cons_self, fun H1 s1 => ⟨_, rfl, iteE (fun f0 => ?_) (fun f0 => ?_)⟩⟩
        · refine ⟨by show 2 ≤ sizeLine; decide, fun p2 np => q _ _ (s1.trans (same_new np)) ?_⟩
          have : rowGood (kindsOfD (d0 :: ds')) d0 = false := by
            rw [← n0]
            have f0 : (!numsB 1 4 d0) = true := f0
            simpa using f0
          rw [errD_bad hb (i := 0) (fun x hx => by simp at hx) rfl this]
          exact dp_bad upd_same
        · have g0 : rowGood (kindsOfD (d0 :: ds')) d0 = true := by
            rw [← n0]
            have f0 : (!numsB 1 4 d0) = false := f0
            simpa using f0
          obtain ⟨r1, r2, r3, _, _⟩ := rowGood_iff.mp g0
          have h0' := Dq.same s1 _ _ h0
          obtain ⟨p0, rs0, rfl, hp0, hk0⟩ : ∃ p0 rs0, v0 = .ref p0 ∧ H1 p0 = some (.tup rs0) ∧ rs0.length = lenD d0 := by
            cases h0' with
            | tup z1 z2 => exact ⟨_, _, rfl, z1, z2.len⟩
            | _ => exact Bool.noConfusion (show false = true from r1)
          refine ⟨.ref p, rfl, p, _, (0 : Nat), .ref p0, rfl, rfl, SqT.of (s1 _ _ hp), atI_nat (j := 0) rfl, p0, rs0, rfl, .inr (SqT.of hp0), ?_⟩
          have hxl : (V.ref p0 :: xs').length ≤ 4 := by omega
          refine ⟨.ref p, rfl, 1, rfl, p, _, rfl, SqT.of (s1 _ _ hp), fun z => ?_, fun _ ps nps => ?_⟩
          · exfalso
            have z1 := z.1
            rw [show HT.sIx (V.ref p0 :: xs').length 0 (some 1) = min 1 (V.ref p0 :: xs').length from HT.sIx_nat ..] at z1
            simp at z1
          · rw [cut1]
            have s2 := s1.trans (same_new (o := .tup ((V.ref p0 :: xs').drop 1)) nps)
            refine ⟨ps, xs', rfl, SqT.of upd_same, ?_⟩
            have hps : (upd H1 ps (.tup ((V.ref p0 :: xs').drop 1))) ps = some (.tup xs') := upd_same
            generalize upd H1 ps (.tup ((V.ref p0 :: xs').drop 1)) = H2 at s2 hps ⊢
            refine for_enT (xs := xs') (c := 1) (fun i σ H3 => ∃ y2 y3, σ = [some (.ref p), some (.int (rs0.length : Nat)), y2, y3] ∧ Same H2 H3 ∧ ∀ x ∈ (d0 :: ds').take (i + 1), rowGood (kindsOfD (d0 :: ds')) x = true)
              ⟨none, none, rfl, Same.refl _, fun x hx => by rw [List.take_succ_cons, List.take_zero] at hx; rw [List.mem_singleton.mp hx]; exact g0⟩
              (fun i σ H3 _ h => by obtain ⟨_, _, _, s3, _⟩ := h; exact SqT.of (s3 _ _ hps)) (fun i x T σ H3 hx h nT => ?_) (fun σ H3 h => ?_)
            · obtain ⟨y2, y3, rfl, s3, good⟩ := h
              obtain ⟨e, he, hde⟩ := hs'.get hx
              have he' : (d0 :: ds')[i + 1]? = some e := he
              have sT : Same H3 (upd H3 T (.tup [.int ((1 : Int) + (i : Nat)), x])) := same_new nT
              refine ⟨T, [.int ((1 : Int) + (i : Nat)), x], rfl, .inl (.inl upd_same), rfl, .int ((1 : Int) + (i : Nat)), [x], rfl, x, [], rfl, rfl, ?_⟩
              generalize upd H3 T (.tup [.int ((1 : Int) + (i : Nat)), x]) = H4 at sT ⊢
              have s4 := s2.trans (s3.trans sT)
              have n1 : numsB (rs0.length : Nat) (rs0.length : Nat) e = rowGood (kindsOfD (d0 :: ds')) e := nums_row (by rw [hkind]; omega)
              refine ⟨x, rfl, _, rfl, _, rfl, x, e, _, _, 50, rfl, Dq.same s4 e x hde, sl e (List.mem_of_getElem? he'), fun H5 s5 => ⟨_, rfl, iteE (fun f1 => ?_) (fun f1 => ?_)⟩⟩
              · refine ⟨_, rfl, by show 2 ≤ sizeLine; decide, fun p2 np => q _ _ (s4.trans (s5.trans (same_new np))) ?_⟩
                have : rowGood (kindsOfD (d0 :: ds')) e = false := by
                  rw [← n1]
                  have f1 : (!numsB (rs0.length : Nat) (rs0.length : Nat) e) = true := f1
                  simpa using f1
                rw [errD_bad hb (i := i + 1) good he' this]
                refine dp_bad ?_
                rw [upd_same, show (1 : Int) + (i : Nat) = ((i + 1 : Nat) : Int) by omega]
              · have : rowGood (kindsOfD (d0 :: ds')) e = true := by
                  rw [← n1]
                  have f1 : (!numsB (rs0.length : Nat) (rs0.length : Nat) e) = false := f1
                  simpa using f1
                refine ⟨_, _, rfl, s3.trans (sT.trans s5), fun y hy => ?_⟩
                rw [List.take_add_one, he'] at hy
                rcases List.mem_append.mp hy with h | h
                · exact good y h
                · rw [List.mem_singleton.mp h]
                  exact this
            · obtain ⟨y2, y3, rfl, s3, good⟩ := h
              have hl2 : xs'.length + 1 = (d0 :: ds').length := hlen
              rw [hl2, List.take_length] at good
              refine q _ _ (s2.trans s3) ?_
              rw [errD_good hb good]
              exact .non
      | _ => exact Bool.noConfusion (show false = true from e1.1)
def spIs : Sp := fun vs H Q _ => ∃ v d, vs = [v] ∧ Dq H v d ∧ Slim d ∧ ∀ H', Same H H' → Q (.bl (isN (errD d))) H'
end
end DD
namespace DD
open PySem PySem.Spec PyProof.Rows L2
/-! ### spoilings, two ways -/
def posAt (row : List Int) (j : Nat) : Bool := decide (row.getD j 0 > 0)
def kindsUp (row : List Int) (m : Nat) : List Int := ((List.range m).filter (posAt row)).map fun j => (0 : Int) + (j : Nat)
def kindsOf (row : List Int) : List Int := kindsUp row row.length
theorem kinds_succ (row : List Int) (m : Nat) : kindsUp row (m + 1) = kindsUp row m ++ (if posAt row m = true then [(0 : Int) + (m : Nat)] else []) := by
  unfold kindsUp
  rw [List.range_succ, List.filter_append, List.map_append]
  congr 1
  by_cases e : posAt row m = true
  · rw [if_pos e, List.filter_cons_of_pos e]
    rfl
  · rw [if_neg e, List.filter_cons_of_neg e]
    rfl
theorem kinds_len (row : List Int) (m : Nat) : (kindsUp row m).length ≤ m := by
  unfold kindsUp
  rw [List.length_map]
  exact Nat.le_trans (List.length_filter_le _ _) (by rw [List.length_range]; exact Nat.le_refl _)
theorem kinds_bd (row : List Int) (m : Nat) : ∀ x ∈ kindsUp row m, 0 ≤ x ∧ x < (m : Int) := by
  intro x hx
  obtain ⟨j, hj, rfl⟩ := List.mem_map.mp hx
  have := List.mem_range.mp (List.mem_filter.mp hj).1
  omega
def spStep (acc : List (List Int)) (row : List Int) : List (List Int) := acc.flatMap fun s => (kindsOf row).map fun k => s ++ [k]
def spOf (rows : List (List Int)) : List (List Int) := rows.foldl spStep [[]]
def spR : List (List Int) → List (List Int)
  | [] => [[]]
  | r :: rs => (kindsOf r).flatMap fun k => (spR rs).map fun s => k :: s
theorem fold_sp : ∀ (rows : List (List Int)) (acc : List (List Int)), rows.foldl spStep acc = acc.flatMap fun s => (spR rows).map fun x => s ++ x
  | [], acc => by
    show acc = acc.flatMap fun s => [s ++ []]
    induction acc with
    | nil => rfl
    | cons a acc ih => rw [List.flatMap_cons, ← ih, List.append_nil]; rfl
  | r :: rs, acc => by
    show rs.foldl spStep (spStep acc r) = _
    rw [fold_sp rs]
    unfold spStep
    rw [List.flatMap_assoc]
    congr 1
    funext s
    show ((kindsOf r).map fun k => s ++ [k]).flatMap _ = _
    rw [List.flatMap_map]
    show _ = ((kindsOf r).flatMap fun k => (spR rs).map fun s => k :: s).map fun x => s ++ x
    rw [List.map_flatMap]
    congr 1
    funext k
    rw [List.map_map]
    congr 1
    funext x
    simp
theorem spOf_eq (rows : List (List Int)) : spOf rows = spR rows := by
  unfold spOf
  rw [fold_sp]
  simp
theorem step_len (acc : List (List Int)) (row : List Int) : (spStep acc row).length = acc.length * (kindsOf row).length := by
  unfold spStep
  induction acc with
  | nil => simp
  | cons a acc ih =>
    rw [List.flatMap_cons, List.length_append, ih, List.length_map, List.length_cons, Nat.succ_mul]
    omega
theorem spOf_snoc {rows : List (List Int)} {i : Nat} {r : List Int} (h : rows[i]? = some r) : spOf (rows.take (i + 1)) = spStep (spOf (rows.take i)) r := by
  unfold spOf
  rw [List.take_add_one, h, List.foldl_append]
  rfl
theorem spOf_len {rows : List (List Int)} (h : ∀ r ∈ rows, r.length ≤ 4) : ∀ i, (spOf (rows.take i)).length ≤ 4 ^ i
  | 0 => Nat.le_refl _
  | i + 1 => by
    cases e : rows[i]? with
    | none =>
      have hn := List.getElem?_eq_none_iff.mp e
      have e1 : rows.take (i + 1) = rows.take i := by rw [List.take_of_length_le (by omega), List.take_of_length_le hn]
      rw [e1]
      exact Nat.le_trans (spOf_len h i) (Nat.pow_le_pow_right (by decide) (Nat.le_succ _))
    | some r =>
      rw [spOf_snoc e, step_len, Nat.pow_succ]
      exact Nat.mul_le_mul (spOf_len h i) (Nat.le_trans (kinds_len _ _) (h r (List.mem_of_getElem? e)))
theorem spR_bd : ∀ {rows : List (List Int)}, (∀ r ∈ rows, r.length ≤ 4) → ∀ s ∈ spR rows, s.length = rows.length ∧ ∀ x ∈ s, 0 ≤ x ∧ x < 4
  | [], _ => by
    intro s hs
    rw [List.mem_singleton.mp hs]
    exact ⟨rfl, fun x hx => by cases hx⟩
  | r :: rs, h => by
    intro s hs
    obtain ⟨k, hk, hs⟩ := List.mem_flatMap.mp hs
    obtain ⟨s', hs', rfl⟩ := List.mem_map.mp hs
    obtain ⟨h1, h2⟩ := spR_bd (fun r' hr' => h r' (List.mem_cons_of_mem _ hr')) s' hs'
    refine ⟨by rw [List.length_cons, List.length_cons, h1], fun x hx => ?_⟩
    rcases List.mem_cons.mp hx with e | e
    · have := kinds_bd r r.length k hk
      have := h r List.mem_cons_self
      rw [e]
      omega
    · exact h2 x e
theorem spR_len {rows : List (List Int)} (h : ∀ r ∈ rows, r.length ≤ 4) (hl : rows.length ≤ 4) : (spR rows).length ≤ 256 := by
  have a := spOf_len h 4
  rw [List.take_of_length_le hl, spOf_eq] at a
  exact a
theorem take_flat {acc : List (List Int)} {row : List Int} {i : Nat} {s : List Int} (h : acc[i]? = some s) : spStep (acc.take (i + 1)) row = spStep (acc.take i) row ++ (kindsOf row).map fun k => s ++ [k] := by
  unfold spStep
  rw [List.take_add_one, h, List.flatMap_append]
  simp
theorem cutV_from {xs : List V} {s : Nat} : cutV xs (some (s : Int)) none = xs.drop s := by
  unfold cutV
  rw [HT.sIx_none, HT.sIx_nat]
  by_cases h : s ≤ xs.length
  · rw [Nat.min_eq_left h, List.take_of_length_le (by rw [List.length_drop]; omega)]
  · rw [Nat.min_eq_right (by omega), List.drop_of_length_le (Nat.le_refl _), List.drop_of_length_le (by omega), List.take_nil]
theorem cutV_to {xs : List V} {s : Nat} : cutV xs none (some (s : Int)) = xs.take s := by
  unfold cutV
  rw [HT.sIx_none, HT.sIx_nat, List.drop_zero, Nat.sub_zero]
  by_cases h : s ≤ xs.length
  · rw [Nat.min_eq_left h]
  · rw [Nat.min_eq_right (by omega), List.take_length, List.take_of_length_le (by omega)]

end DD
namespace DD
open PySem PySem.Spec PyProof.Rows L2 RZ

/-! ### fulfilled_by -/
def contains (cs ns : List Int) : Bool := (List.zipWith (fun c n => decide (c ≥ n)) cs ns).all id
def optV : Option Nat → V
  | none => .non
  | some j => .int (j : Int)
def fulOf (rows : List (List Int)) (cs : List Int) : Option Nat := rows.findIdx? (contains cs)
theorem find_take {α : Type} {p : α → Bool} {xs : List α} {i : Nat} {x : α} (h : xs[i]? = some x) :
    (xs.take (i + 1)).findIdx? p = ((xs.take i).findIdx? p).or (if p x = true then some i else none) := by
  rw [List.take_add_one, h, List.findIdx?_append]
  have hl : (xs.take i).length = i := by
    rw [List.length_take]
    have := (List.getElem?_eq_some_iff.mp h).1
    omega
  rw [hl]
  by_cases e : p x = true
  · simp [List.findIdx?_cons, e]
  · simp [List.findIdx?_cons, e]
theorem find_some {α : Type} {p : α → Bool} {xs : List α} {i : Nat} {x : α} (h : xs[i]? = some x) (h0 : (xs.take i).findIdx? p = none) (e : p x = true) : xs.findIdx? p = some i := by
  have h1 := find_take (p := p) h
  rw [h0, if_pos e, Option.none_or] at h1
  have h2 : xs.findIdx? p = ((xs.take (i + 1)) ++ xs.drop (i + 1)).findIdx? p := by rw [List.take_append_drop]
  rw [h2, List.findIdx?_append, h1]
  rfl

abbrev NC : List Str := ["counts", "collection", "count", "needed"]
theorem scCont : FnScope NC ["counts", "collection"] (defScope sCont) := ⟨rfl, rfl, rfl, by decide +kernel, rfl, by decide +kernel, by decide +kernel⟩
theorem scFul : FnScope ["collections", "counts", "index", "collection"] ["collections", "counts"] (defScope sFul) := ⟨rfl, rfl, rfl, by decide +kernel, rfl, by decide +kernel, by decide +kernel⟩
section
variable {P : Program} {w : World} {K : PySem.W.Frag} {mg : Str → Option Value} {base : Heap}
def spCont : Sp := fun vs H Q _ => ∃ (a b : Addr) (cs ns : List Int), vs = [.ref a, .ref b] ∧ H a = some (.tup (cs.map V.int)) ∧ H b = some (.tup (ns.map V.int)) ∧ cs.length = ns.length ∧ cs.length ≤ 1000 ∧
  ∀ H', Same H H' → Q (.bl (contains cs ns)) H'
theorem ok_cont {f : Addr} {fd : FuncData} {k : Nat} (F : Fun K "contain" "contain" sCont f fd) (mA : mg "all" = none) (mz : mg "zip" = none) : FnOk P w K mg base CX0 (k + 1) f fd ["counts", "collection"] spCont := by
  refine F.ok scCont (fun vs H Q E h => ?_) (fun cdv A outer s H vs Q E hr h => ?_)
  · obtain ⟨a, b, cs, ns, rfl, _⟩ := h
    rfl
  · obtain ⟨a, b, cs, ns, rfl, ha, hb, hl, hl2, q⟩ := h
    refine ⟨_, pss_one (ps_ret (pe_callB (cr_all rfl) (by rfl) mA (by decide +kernel) (pa_cons (pe_lc (own := [("count", 2), ("needed", 3)]) (g := gTup K 2 (gCons (gName 2) (gCons (gName 3) gNil))) rfl scCont.nd (pi_zipA (by rfl) mz (pa_cons (pv 0) (pa_cons (pv 1) pa_nil)))
        (blkOk_by (own := [("count", 2), ("needed", 3)]) (N := NC) (sc := defScope sCont) (by decide +kernel)) (fun _ _ _ _ _ => pg_tup rfl (pgs_cons (pg_name (i := 2) scCont.nd rfl (Or.inl rfl)) (pgs_cons (pg_name (i := 3) scCont.nd rfl (Or.inl rfl)) pgs_nil))) (fun _ _ _ _ _ => pts_nil)
        (fun _ _ _ _ _ => pe_cmpR op_ge (pv 2) (pv 3) (nomark _))) pa_nil))), ?_⟩
    refine ⟨_, rfl, _, rfl, a, b, _, _, rfl, .inr ⟨SqT.of ha, SqT.of hb, fun D nD => ?_⟩⟩
    refine lc_zipT (xs := cs.map V.int) (ys := ns.map V.int) (by rw [List.length_map, List.length_map, hl]) (fun i H' => H' D = some (.lst (((List.zipWith (fun c n => decide (c ≥ n)) cs ns).take i).map V.bl)) ∧ Same H H') ⟨upd_same, same_new nD⟩
      (fun i H' _ h => ⟨SqT.of (h.2 _ _ ha), SqT.of (h.2 _ _ hb)⟩) (fun i x y T H' hx hy h nT => ?_) (fun H' h => ?_)
    · obtain ⟨hD, sm⟩ := h
      obtain ⟨c, hc, rfl⟩ := get_map hx
      obtain ⟨n, hn, rfl⟩ := get_map hy
      have hz : (List.zipWith (fun c n => decide (c ≥ n)) cs ns)[i]? = some (decide (c ≥ n)) := by
        rw [List.getElem?_zipWith, hc, hn]
      have sT : Same H' (upd H' T (.tup [.int c, .int n])) := same_new nT
      refine ⟨T, [.int c, .int n], rfl, .inl (.inl upd_same), rfl, .int c, [.int n], rfl, .int n, [], rfl, rfl, rfl, .int c, rfl, .int n, rfl, c, n, rfl, rfl, _, sT _ _ hD, ?_, ?_, fun b' o e => ?_⟩
      · rw [List.length_map, List.length_take]
        have : (List.zipWith (fun c n => decide (c ≥ n)) cs ns).length ≤ cs.length := by rw [List.length_zipWith]; omega
        exact len_lt (by omega)
      · rw [upd_same, take_succ_map hz]
      · rw [upd_ne (ne_of_none e nD)]
        exact sT _ _ (sm b' o e)
    · obtain ⟨hD, sm⟩ := h
      rw [List.length_map, List.take_of_length_le (by rw [List.length_zipWith]; omega)] at hD
      exact ⟨D, _, rfl, SqL.of hD, q H' sm⟩
def spFul : Sp := fun vs H Q _ => ∃ (t b : Addr) (ls : List Addr) (rows : List (List Int)) (cs : List Int), vs = [.ref t, .ref b] ∧ StockAt H t ls rows ∧ H b = some (.tup (cs.map V.int)) ∧ (∀ r ∈ rows, r.length = cs.length) ∧ cs.length ≤ 1000 ∧
  ∀ H', Same H H' → Q (optV (fulOf rows cs)) H'
theorem ok_ful {f fC : Addr} {fd fdC : FuncData} {k : Nat} (F : Fun K "fulfilled_by" "fulfilled_by" sFul f fd) (FC : Fun K "contain" "contain" sCont fC fdC) (bC : Binds K fdC ["counts", "collection"] []) (gC : mg "contain" = some (.ref fC))
    (mA : mg "all" = none) (mz : mg "zip" = none) (me : mg "enumerate" = none) : FnOk P w K mg base CX0 (k + 2) f fd ["collections", "counts"] spFul := by
  have GC : FnOk P w K mg base CX0 (k + 1) fC fdC ["counts", "collection"] spCont := ok_cont FC mA mz
  refine F.ok scFul (fun vs H Q E h => ?_) (fun cdv A outer s H vs Q E hr h => ?_)
  · obtain ⟨t, b, ls, rows, cs, rfl, _⟩ := h
    rfl
  · obtain ⟨t, b, ls, rows, cs, rfl, st, hb, hl, hl2, q⟩ := h
    refine ⟨_, pss_cons (ps_for PassesOwn.never rfl (pi_enumT (by rfl) me (pa_cons (pv 0) pa_nil)) (pg_tup rfl (pgs_cons (pg_name (i := 2) scFul.nd rfl (.inl rfl)) (pgs_cons (pg_name (i := 3) scFul.nd rfl (.inl rfl)) pgs_nil)))
        (pss_one (ps_if (pt_val (pe_call GC hr (by rfl) gC FC.kp bC .nil pass0 (pa_cons (pv 1) (pa_cons (pv 3) pa_nil)))) (pss_one (ps_ret (pv 2))) pss_nil)))
      (pss_one (ps_ret pe_non)), ?_⟩
    refine ⟨_, rfl, t, _, rfl, SqT.of st.top, ?_⟩
    refine for_enT (xs := ls.map V.ref) (c := 0) (fun i σ H' => ∃ y2 y3, σ = [some (.ref t), some (.ref b), y2, y3] ∧ Same H H' ∧ (rows.take i).findIdx? (contains cs) = none)
      ⟨none, none, rfl, Same.refl _, rfl⟩ (fun i σ H' _ h => by obtain ⟨_, _, _, sm, _⟩ := h; exact SqT.of (sm _ _ st.top)) (fun i x T σ H' hx h nT => ?_) (fun σ H' h => ?_)
    · obtain ⟨y2, y3, rfl, sm, hnone⟩ := h
      obtain ⟨l, hli, rfl⟩ := get_map hx
      have hil : i < rows.length := by
        have := (List.getElem?_eq_some_iff.mp hli).1
        have := st.len
        omega
      have hr' : rows[i]? = some rows[i] := List.getElem?_eq_getElem hil
      have sT : Same H (upd H' T (.tup [.int ((0 : Int) + (i : Nat)), .ref l])) := sm.trans (same_new nT)
      refine ⟨T, [.int ((0 : Int) + (i : Nat)), .ref l], rfl, .inl (.inl upd_same), rfl, .int ((0 : Int) + (i : Nat)), [.ref l], rfl, .ref l, [], rfl, rfl, ?_⟩
      refine ⟨_, rfl, _, rfl, b, l, cs, rows[i], rfl, sT _ _ hb, sT _ _ (st.row i l _ hli hr'), (hl _ (List.getElem_mem hil)).symm, hl2, fun H2 s2 => ⟨_, rfl, ?_⟩⟩
      by_cases e : contains cs rows[i] = true
      · rw [e]
        refine iteT ⟨_, rfl, ?_⟩
        have := q H2 (sT.trans s2)
        unfold fulOf at this
        rw [find_some hr' hnone e] at this
        rw [Int.zero_add]
        exact this
      · rw [Bool.eq_false_iff.mpr e]
        refine iteF ⟨_, _, rfl, sT.trans s2, ?_⟩
        rw [find_take hr', hnone, if_neg e]
        rfl
    · obtain ⟨y2, y3, rfl, sm, hnone⟩ := h
      rw [List.length_map, st.len, List.take_length] at hnone
      have := q H' sm
      unfold fulOf at this
      rw [hnone] at this
      exact this
end

/-! ### what the law reckons -/
def lackAt (cs row : List Int) (j : Nat) : Bool := decide (cs.getD j 0 < row.getD j 0)
def lackOf (cs row : List Int) (m : Nat) : List Int := ((List.range m).filter (lackAt cs row)).map fun j => (0 : Int) + (j : Nat)
theorem lack_succ (cs row : List Int) (m : Nat) : lackOf cs row (m + 1) = lackOf cs row m ++ (if lackAt cs row m = true then [(0 : Int) + (m : Nat)] else []) := by
  unfold lackOf
  rw [List.range_succ, List.filter_append, List.map_append]
  congr 1
  by_cases e : lackAt cs row m = true
  · rw [if_pos e, List.filter_cons_of_pos e]
    rfl
  · rw [if_neg e, List.filter_cons_of_neg e]
    rfl
theorem lack_len (cs row : List Int) (m : Nat) : (lackOf cs row m).length ≤ m := by
  unfold lackOf
  rw [List.length_map]
  exact Nat.le_trans (List.length_filter_le _ _) (by rw [List.length_range]; exact Nat.le_refl _)
theorem lack_bd (cs row : List Int) (m : Nat) : ∀ x ∈ lackOf cs row m, 0 ≤ x ∧ x < (m : Int) := by
  intro x hx
  obtain ⟨j, hj, rfl⟩ := List.mem_map.mp hx
  have := List.mem_range.mp (List.mem_filter.mp hj).1
  omega
theorem lack_nil {cs row : List Int} {m : Nat} (h1 : cs.length = m) (h2 : row.length = m) : lackOf cs row m = [] ↔ contains cs row = true := by
  unfold lackOf contains
  rw [List.map_eq_nil_iff, List.filter_eq_nil_iff, List.all_eq_true]
  constructor
  · intro h x hx
    obtain ⟨j, hj⟩ := List.mem_iff_getElem?.mp hx
    rw [List.getElem?_zipWith] at hj
    have hj1 : j < cs.length := by
      cases e : cs[j]? with
      | none => rw [e] at hj; cases hj
      | some v => exact (List.getElem?_eq_some_iff.mp e).1
    have hj2 : j < row.length := by omega
    rw [List.getElem?_eq_getElem hj1, List.getElem?_eq_getElem hj2] at hj
    obtain rfl := Option.some.inj hj
    have := h j (List.mem_range.mpr (by omega))
    unfold lackAt at this
    rw [List.getD_eq_getElem?_getD, List.getD_eq_getElem?_getD, List.getElem?_eq_getElem hj1, List.getElem?_eq_getElem hj2] at this
    simp at this
    simp
    omega
  · intro h j hj
    have hjm := List.mem_range.mp hj
    have hj1 : j < cs.length := by omega
    have hj2 : j < row.length := by omega
    have hz : (List.zipWith (fun c n => decide (c ≥ n)) cs row)[j]? = some (decide (cs[j] ≥ row[j])) := by
      rw [List.getElem?_zipWith, List.getElem?_eq_getElem hj1, List.getElem?_eq_getElem hj2]
    have := h _ (List.mem_of_getElem? hz)
    unfold lackAt
    rw [List.getD_eq_getElem?_getD, List.getD_eq_getElem?_getD, List.getElem?_eq_getElem hj1, List.getElem?_eq_getElem hj2]
    simp at this
    simp
    omega
def optD : Option Nat → PyData
  | none => .none
  | some j => .int (j : Int)
theorem dp_opt {K : PySem.W.Frag} {H : Hp} : ∀ o : Option Nat, Dp K H (optV o) (optD o)
  | none => .non
  | some j => .int _
theorem Sm.non : Sm 21 0 .none := ⟨rfl, rfl, rfl, Nat.zero_le _, Nat.le_refl _⟩
theorem sm_opt {o : Option Nat} (h : ∀ j, o = some j → j < 1000) : Sm 21 0 (optD o) := by
  cases o with
  | none => exact Sm.non
  | some j =>
    have := h j rfl
    exact Sm.intM (by omega) (by omega)
theorem ful_lt {rows : List (List Int)} {cs : List Int} {j : Nat} (h : fulOf rows cs = some j) : j < rows.length := by
  unfold fulOf at h
  exact (List.findIdx?_eq_some_iff_findIdx_eq.mp h).1
theorem eqv_nil_iff {r : List Int} : PyData.eqv (.list (r.map PyData.int)) (.list []) = true ↔ r = [] := by
  cases r with
  | nil => exact ⟨fun _ => rfl, fun _ => rfl⟩
  | cons x r => exact ⟨fun e => (nomatch (show false = true from e)), fun e => (nomatch e)⟩
theorem sm_lack {r : List Int} {m : Nat} (h : ∀ x ∈ r, 0 ≤ x ∧ x < (m : Int)) (hm : m ≤ 1000) : Sm (r.length * 22) 1 (.list (r.map PyData.int)) := by
  have a : SmA (r.map PyData.int).length 21 0 (r.map PyData.int) := SmA.all fun d hd => by
    obtain ⟨x, hx, rfl⟩ := List.mem_map.mp hd
    have := h x hx
    exact Sm.intM (by omega) (by omega)
  refine a.lst.up ?_ (Nat.le_refl _)
  rw [List.length_map]
  exact Nat.le_refl _
end DD
namespace DD
open PySem PySem.Spec PyProof.Rows L2 RZ

abbrev NP : List Str := ["collections", "spoilings", "collection", "kinds", "kind", "needed", "spoiling"]
theorem scSpoil : FnScope NP ["collections"] (defScope sSpoil) := ⟨rfl, rfl, rfl, by decide +kernel, rfl, by decide +kernel, by decide +kernel⟩
section
variable {P : Program} {w : World} {K : PySem.W.Frag} {mg : Str → Option Value} {base : Heap}
def spSpoil : Sp := fun vs H Q _ => ∃ (t : Addr) (ls : List Addr) (rows : List (List Int)), vs = [.ref t] ∧ StockAt H t ls rows ∧ rows.length ≤ 4 ∧ (∀ r ∈ rows, r.length ≤ 4) ∧
  ∀ p as H', Same H H' → StockAt H' p as (spOf rows) → Q (.ref p) H'
theorem ok_spoil {f : Addr} {fd : FuncData} {k : Nat} (F : Fun K "spoilings_of" "spoilings_of" sSpoil f fd) (me : mg "enumerate" = none) (mt : mg "tuple" = none) : FnOk P w K mg base CX0 (k + 1) f fd ["collections"] spSpoil := by
  refine F.ok scSpoil (fun vs H Q E h => ?_) (fun cdv A outer s H vs Q E hr h => ?_)
  · obtain ⟨t, ls, rows, rfl, _⟩ := h
    rfl
  · obtain ⟨t, ls, rows, rfl, st, hl4, hr4, q⟩ := h
    refine ⟨_, (pss_cons (ps_set (i := 1) scSpoil.nd rfl (.inl rfl) (pe_lst (pa_cons (pe_tup pa_nil) pa_nil)))
      (pss_cons (ps_for PassesOwn.never rfl (pi_tup (pv 0)) (pg_name (i := 2) scSpoil.nd rfl (Or.inl rfl)) (pss_cons (ps_set (i := 3) scSpoil.nd rfl (.inr rfl) (pe_lc (own := [("kind", 4), ("needed", 5)]) (g := gTup K 2 (gCons (gName 4) (gCons (gName 5) gNil))) rfl scSpoil.nd (pi_enumT (by rfl) me (pa_cons (pv 2) pa_nil)) (blkOk_by (own := [("kind", 4), ("needed", 5)]) (N := NP) (sc := defScope sSpoil) (by decide +kernel)) (fun _ _ _ _ _ => (pg_tup rfl (pgs_cons (pg_name (i := 4) scSpoil.nd rfl (Or.inl rfl)) (pgs_cons (pg_name (i := 5) scSpoil.nd rfl (Or.inl rfl)) pgs_nil)))) (fun _ _ _ _ _ => pts_one (pt_cmpR op_gt (pv 5) pe_int (nomark _))) (fun _ _ _ _ _ => (pv 4))))
      (pss_one (ps_setLc2 (i := 1) (own := [("spoiling", 6), ("kind", 4)]) (vs1 := [4]) (g := gName 6) (g1 := gName 4) (wi1 := iList K (tVar 3)) (te := tTup (StX.tStar K (tVar 6) (tCons (tVar 4) tNil))) rfl scSpoil.nd rfl rfl (sw_true rfl rfl rfl (by decide +kernel)) (pi_list (pv 1)) (blkOk_by (own := [("spoiling", 6), ("kind", 4)]) (N := NP) (sc := defScope sSpoil) (by decide +kernel)) (by decide) (fun _ _ _ _ _ => (pg_name (i := 6) scSpoil.nd rfl (Or.inl rfl))) (fun _ _ _ _ _ => pts_nil) (fun _ _ _ _ _ => pi_list (pv 3)) (fun _ _ _ _ _ => (pg_name (i := 4) scSpoil.nd rfl (Or.inl rfl))) (fun _ _ _ _ _ => pts_nil) (fun _ _ _ _ _ => pe_tup (StX.pa_star (pv 6) (pa_cons (pv 4) pa_nil)))))))
      (pss_one (ps_ret (pe_callTy call_tuple_of (by rfl) mt (by decide +kernel) (pa_cons (pv 1) pa_nil)))))), ?_⟩
    -- spoilings = [()]
    refine ⟨Nat.zero_le _, fun p0 np0 => ?_⟩
    refine ⟨by show 1 ≤ sizeLine; decide, fun S0 nS0 => ?_⟩
    have s0 : Same H (upd (upd H p0 (.tup [])) S0 (.lst [.ref p0])) := (same_new np0).trans (same_new nS0)
    have hp0 : (upd (upd H p0 (.tup [])) S0 (.lst [.ref p0])) p0 = some (.tup (([] : List Int).map V.int)) := same_new nS0 _ _ upd_same
    have hS0 : (upd (upd H p0 (.tup [])) S0 (.lst [.ref p0])) S0 = some (.lst ([p0].map V.ref)) := upd_same
    have hR0 : RowsAt (upd (upd H p0 (.tup [])) S0 (.lst [.ref p0])) [p0] [[]] := RowsAt.snoc (ls := []) (rows := []) RowsAt.nil rfl hp0
    generalize upd (upd H p0 (.tup [])) S0 (.lst [.ref p0]) = H0 at s0 hS0 hR0 ⊢
    clear hp0 nS0 np0
    refine ⟨.ref t, rfl, t, rfl, ⟨_, SqT.of (s0 _ _ st.top)⟩, ?_⟩
    refine for_it (walk_tup (xs := ls.map V.ref)) (fun i σ H' => ∃ (S : Addr) (as : List Addr) (y2 y3 y4 y5 y6 : Option V), σ = [some (.ref t), some (.ref S), y2, y3, y4, y5, y6] ∧ Same H H' ∧ H' S = some (.lst (as.map V.ref)) ∧ as.length = (spOf (rows.take i)).length ∧ RowsAt H' as (spOf (rows.take i)))
      ⟨S0, [p0], none, none, none, none, none, rfl, s0, hS0, rfl, hR0⟩ (fun i σ H' _ h => by obtain ⟨S, as, _, _, _, _, _, _, sm, _⟩ := h; exact SqT.of (sm _ _ st.top)) (fun i x σ H' H1 hi h y => ?_) (fun σ H' h => ?_)
    · obtain ⟨S, as, y2, y3, y4, y5, y6, rfl, sm, hS, hal, hR⟩ := h
      obtain ⟨rfl, hx⟩ := y
      obtain ⟨l, hl, rfl⟩ := get_map hx
      have hil : i < rows.length := by
        have := (List.getElem?_eq_some_iff.mp hl).1
        have := st.len
        omega
      have hr' : rows[i]? = some rows[i] := List.getElem?_eq_getElem hil
      have hrow := sm _ _ (st.row i l _ hl hr')
      have hrl4 : rows[i].length ≤ 4 := hr4 _ (List.getElem_mem hil)
      have hlen1 : (spOf (rows.take i)).length ≤ 64 := Nat.le_trans (spOf_len hr4 i) (Nat.pow_le_pow_right (n := 4) (by decide) (show i ≤ 3 by omega))
      -- kinds = [..]
      refine ⟨.ref l, rfl, l, _, rfl, SqT.of hrow, fun D nD => ?_⟩
      refine lc_it (walk_enT (xs := rows[i].map V.int)) (fun j H2 => H2 D = some (.lst ((kindsUp rows[i] j).map V.int)) ∧ Same H1 H2) ⟨upd_same, same_new nD⟩ (fun j H2 _ h => SqT.of (h.2 _ _ hrow)) (fun j x H2 H3 hj h y => ?_) (fun H2 h => ?_)
      · obtain ⟨hD, s2⟩ := h
        obtain ⟨T, x1, x2, rfl, nT, rfl, e1, e2⟩ := y
        obtain rfl : V.int ((0 : Int) + (j : Nat)) = x1 := Option.some.inj e1
        obtain ⟨v, hv, rfl⟩ := get_map e2
        have hvd : rows[i].getD j 0 = v := by rw [List.getD_eq_getElem?_getD, hv]; rfl
        have sT : Same H2 (upd H2 T (.tup [.int ((0 : Int) + (j : Nat)), .int v])) := same_new nT
        refine ⟨T, [.int ((0 : Int) + (j : Nat)), .int v], rfl, .inl (.inl upd_same), rfl, _, [.int v], rfl, .int v, [], rfl, rfl, rfl, .int v, rfl, v, 0, rfl, rfl, _, rfl, ite2 (fun e => ?_) (fun e => ?_)⟩
        · refine ⟨_, rfl, _, sT _ _ hD, ?_, ?_, fun b' o e' => ?_⟩
          · rw [List.length_map]
            have := kinds_len rows[i] j
            rw [List.length_map] at hj
            exact len_lt (by omega)
          · rw [upd_same, kinds_succ, if_pos (show posAt rows[i] j = true by unfold posAt; rw [hvd]; exact e), List.map_append]
            rfl
          · rw [upd_ne (ne_of_none e' nD)]
            exact sT _ _ (s2 b' o e')
        · refine ⟨?_, s2.trans sT⟩
          rw [kinds_succ, if_neg (show ¬ posAt rows[i] j = true by unfold posAt; rw [hvd]; exact e), List.append_nil]
          exact sT _ _ hD
      · obtain ⟨hD, s2⟩ := h
        rw [List.length_map] at hD
        have hS2 := s2 _ _ hS
        have hR2 := hR.same s2
        have sm2 := sm.trans s2
        -- spoilings = [(*spoiling, kind) for spoiling in spoilings for kind in kinds]
        refine ⟨.ref S, rfl, S, rfl, ⟨_, SqL.of hS2⟩, fun E1 nE => ?_⟩
        refine lc2_it (walk_list (xs := as.map V.ref)) (fun j H3 => ∃ as' : List Addr, H3 E1 = some (.lst (as'.map V.ref)) ∧ Same H2 H3 ∧ as'.length = (spStep ((spOf (rows.take i)).take j) rows[i]).length ∧ RowsAt H3 as' (spStep ((spOf (rows.take i)).take j) rows[i]))
          ⟨[], upd_same, same_new nE, rfl, RowsAt.nil⟩ (fun j H3 _ h => by obtain ⟨_, _, s3, _⟩ := h; exact SqL.of (s3 _ _ hS2)) (fun j x H3 H4 hj h y => ?_) (fun H3 h => ?_)
        · obtain ⟨as', hE, s3, hal', hR3⟩ := h
          obtain ⟨rfl, hx'⟩ := y
          obtain ⟨a1, ha1, rfl⟩ := get_map hx'
          rw [List.length_map] at hj
          have hjs : j < (spOf (rows.take i)).length := by omega
          have hsj : (spOf (rows.take i))[j]? = some (spOf (rows.take i))[j] := List.getElem?_eq_getElem hjs
          have hta := s3 _ _ (hR2 j a1 _ ha1 hsj)
          generalize hs : (spOf (rows.take i))[j] = s' at hsj hta
          refine ⟨rfl, .ref D, rfl, D, rfl, ⟨_, SqL.of (s3 _ _ hD)⟩, ?_⟩
          refine lci_it (walk_list (xs := (kindsOf rows[i]).map V.int)) (fun m H5 => ∃ as2 : List Addr, H5 E1 = some (.lst ((as' ++ as2).map V.ref)) ∧ Same H2 H5 ∧ as2.length = m ∧ RowsAt H5 (as' ++ as2) (spStep ((spOf (rows.take i)).take j) rows[i] ++ ((kindsOf rows[i]).take m).map fun k => s' ++ [k]) ∧ H5 a1 = some (.tup (s'.map V.int)))
            ⟨[], by rw [List.append_nil]; exact hE, s3, rfl, by rw [List.append_nil]; simpa using hR3, hta⟩ (fun m H5 _ h => by obtain ⟨_, _, s5, _⟩ := h; exact SqL.of (s5 _ _ hD)) (fun m x H5 H6 hm h y => ?_) (fun H5 h => ?_)
          · obtain ⟨as2, hE5, s5, hal2, hR5, hta5⟩ := h
            obtain ⟨rfl, hx2⟩ := y
            obtain ⟨kv, hkv, rfl⟩ := get_map hx2
            refine ⟨rfl, .ref a1, rfl, a1, _, rfl, .inl (SqT.of hta5), .int kv, rfl, ?_, fun T nT => ?_⟩
            · rw [List.length_append, List.length_map]
              have hm' := List.mem_of_getElem? hsj
              rw [spOf_eq] at hm'
              have h1 := (spR_bd (fun r hr => hr4 r (List.mem_of_mem_take hr)) s' hm').1
              rw [List.length_take] at h1
              exact Nat.le_of_lt (len_lt (by show s'.length + 1 ≤ 1000; omega))
            have sT : Same H6 (upd H6 T (.tup (s'.map V.int ++ [.int kv]))) := same_new nT
            have hT : (upd H6 T (.tup (s'.map V.int ++ [.int kv]))) T = some (.tup ((s' ++ [kv]).map V.int)) := by
              rw [upd_same, List.map_append]
              rfl
            have hE6 := sT _ _ hE5
            refine ⟨_, hE6, ?_, as2 ++ [T], ?_, fun b' o e' => ?_, ?_, ?_, ?_⟩
            · rw [List.length_map, List.length_append, hal', hal2, step_len, List.length_take]
              have h1 : min j (spOf (rows.take i)).length ≤ 64 := by omega
              have h2 : (kindsOf rows[i]).length ≤ 4 := Nat.le_trans (kinds_len _ _) hrl4
              have h3 := Nat.mul_le_mul h1 h2
              rw [List.length_map] at hm
              exact len_lt (by omega)
            · rw [upd_same, ← List.append_assoc, List.map_append (l₁ := as' ++ as2)]
              rfl
            · rw [upd_ne (ne_of_none e' nE)]
              exact sT _ _ (s5 b' o e')
            · rw [List.length_append, hal2]
              rfl
            · rw [take_succ_map hkv, ← List.append_assoc, ← List.append_assoc]
              refine RowsAt.updL (RowsAt.snoc (hR5.same sT) ?_ hT) hE6
              rw [List.length_append, List.length_append, List.length_map, hal', hal2, List.length_take]
              have := (List.getElem?_eq_some_iff.mp hkv).1
              omega
            · rw [upd_ne (fun z => by rw [z] at hta5; rw [hE5] at hta5; cases hta5)]
              exact sT _ _ hta5
          · obtain ⟨as2, hE5, s5, hal2, hR5, _⟩ := h
            rw [List.length_map] at hal2 hR5
            rw [List.take_length] at hR5
            refine ⟨as' ++ as2, hE5, s5, ?_, ?_⟩
            · rw [take_flat hsj, List.length_append, List.length_append, List.length_map, hal', hal2]
            · rw [take_flat hsj]
              exact hR5
        · obtain ⟨as', hE, s3, hal', hR3⟩ := h
          rw [List.length_map, hal, List.take_length] at hal' hR3
          refine ⟨E1, as', _, _, _, _, _, rfl, sm2.trans s3, hE, ?_, ?_⟩
          · rw [spOf_snoc hr']
            exact hal'
          · rw [spOf_snoc hr']
            exact hR3
    · obtain ⟨S, as, y2, y3, y4, y5, y6, rfl, sm, hS, hal, hR⟩ := h
      rw [List.length_map, st.len, List.take_length] at hal hR
      refine ⟨.ref S, rfl, S, _, rfl, .inl ⟨SqL.of hS, fun p np => ?_⟩⟩
      exact q p as _ (sm.trans (same_new np)) ⟨upd_same, hal, hR.same (same_new np)⟩
end
end DD
namespace DD
open PySem PySem.Spec PyProof.Rows L2 RZ

/-! ### caps -/
def minL : List Int → Int
  | [] => 0
  | x :: xs => if xs = [] then x else min x (minL xs)
theorem minL_mem : ∀ {l : List Int}, l ≠ [] → minL l ∈ l
  | [], h => absurd rfl h
  | x :: xs, _ => by
    unfold minL
    split
    · exact List.mem_cons_self
    · rename_i h
      by_cases c : x ≤ minL xs
      · rw [Int.min_eq_left c]
        exact List.mem_cons_self
      · rw [Int.min_eq_right (by omega)]
        exact List.mem_cons_of_mem _ (minL_mem h)
theorem minL_le : ∀ {l : List Int}, ∀ y ∈ l, minL l ≤ y
  | [], y, h => by cases h
  | x :: xs, y, h => by
    unfold minL
    split
    · rename_i e
      subst e
      rw [List.mem_singleton.mp h]
      exact Int.le_refl _
    · rcases List.mem_cons.mp h with rfl | h
      · exact Int.min_le_left _ _
      · exact Int.le_trans (Int.min_le_right _ _) (minL_le y h)
theorem minL_uniq {l : List Int} {m : Int} (hm : m ∈ l) (hl : ∀ y, y ∈ l → m ≤ y) : m = minL l :=
  Int.le_antisymm (hl _ (minL_mem (fun e => by rw [e] at hm; cases hm))) (minL_le m hm)
def pickUp (rows : List (List Int)) (named : List Int) (k : Nat) (i : Nat) : List Int := (((rows.zip named).take i).filter (fun p => decide (p.2 = (k : Int)))).map fun p => p.1.getD k 0
def pickAll (rows : List (List Int)) (named : List Int) (k : Nat) : List Int := pickUp rows named k rows.length
theorem pick_succ {rows : List (List Int)} {named : List Int} {k i : Nat} {r : List Int} {v : Int} (h1 : rows[i]? = some r) (h2 : named[i]? = some v) :
    pickUp rows named k (i + 1) = pickUp rows named k i ++ (if v = (k : Int) then [r.getD k 0] else []) := by
  unfold pickUp
  have hz : (rows.zip named)[i]? = some (r, v) := List.getElem?_zip_eq_some.mpr ⟨h1, h2⟩
  rw [List.take_add_one, hz, List.filter_append, List.map_append]
  congr 1
  by_cases e : v = (k : Int)
  · rw [if_pos e]
    simp [e]
  · rw [if_neg e]
    simp [e]
theorem pick_len (rows : List (List Int)) (named : List Int) (k i : Nat) : (pickUp rows named k i).length ≤ i := by
  unfold pickUp
  rw [List.length_map]
  refine Nat.le_trans (List.length_filter_le _ _) ?_
  rw [List.length_take]
  omega
theorem pick_bd {rows : List (List Int)} {named : List Int} {k i : Nat} {b : Int} (hb : 0 ≤ b) (h : ∀ r ∈ rows, ∀ x ∈ r, 0 ≤ x ∧ x ≤ b) : ∀ x ∈ pickUp rows named k i, 0 ≤ x ∧ x ≤ b := by
  intro x hx
  obtain ⟨p, hp, rfl⟩ := List.mem_map.mp hx
  have hp2 := List.mem_of_mem_take (List.mem_filter.mp hp).1
  exact getD_bd (h p.1 (List.of_mem_zip hp2).1) hb k
def capAt (rows : List (List Int)) (named : List Int) (k : Nat) : Option Int := if pickAll rows named k = [] then none else some (minL (pickAll rows named k) - 1)
def optI : Option Int → V
  | none => .non
  | some j => .int j
def optID : Option Int → PyData
  | none => .none
  | some j => .int j
def capsOf (rows : List (List Int)) (named : List Int) (m : Nat) : List (Option Int) := (List.range m).map (capAt rows named)
theorem caps_get {rows : List (List Int)} {named : List Int} {m i : Nat} (h : i < m) : (capsOf rows named m)[i]? = some (capAt rows named i) := by
  unfold capsOf
  rw [List.getElem?_map, List.getElem?_range h]
  rfl
theorem caps_len (rows : List (List Int)) (named : List Int) (m : Nat) : (capsOf rows named m).length = m := by simp [capsOf]
theorem col_int {rows : List (List Int)} {i m : Nat} (h : ∀ r ∈ rows, r.length = m) (hi : i < m) : colV (rows.map fun r => r.map V.int) i = (rows.map fun r => r.getD i 0).map V.int := by
  unfold colV
  rw [List.map_map, List.map_map]
  refine List.map_congr_left fun r hr => ?_
  show (r.map V.int).getD i .non = V.int (r.getD i 0)
  rw [List.getD_eq_getElem?_getD, List.getD_eq_getElem?_getD, List.getElem?_map, List.getElem?_eq_getElem (by rw [h r hr]; exact hi)]
  rfl
theorem rws_of {K : PySem.W.Frag} {H : Hp} {t : Addr} {ls : List Addr} {rows : List (List Int)} {m : Nat} (st : StockAt H t ls rows) (h : ∀ r ∈ rows, r.length = m) : Rws K H ls (rows.map fun r => r.map V.int) m := by
  refine ⟨by rw [List.length_map]; exact st.len, fun j a r x1 x2 => ?_⟩
  obtain ⟨r', hr', rfl⟩ := get_map x2
  exact ⟨SqT.of (st.row j a r' x1 hr'), by rw [List.length_map]; exact h r' (List.mem_of_getElem? hr')⟩

abbrev NQ : List Str := ["collections", "spoiling", "caps", "kind", "needs", "spoiled", "needed", "named"]
theorem scCaps : FnScope NQ ["collections", "spoiling"] (defScope sCaps) := ⟨rfl, rfl, rfl, by decide +kernel, rfl, by decide +kernel, by decide +kernel⟩
section
variable {P : Program} {w : World} {K : PySem.W.Frag} {mg : Str → Option Value} {base : Heap}
def spCaps : Sp := fun vs H Q _ => ∃ (t b : Addr) (ls : List Addr) (rows : List (List Int)) (named : List Int) (m : Nat), vs = [.ref t, .ref b] ∧ StockAt H t ls rows ∧ 1 ≤ rows.length ∧ rows.length ≤ 4 ∧ (∀ r ∈ rows, r.length = m) ∧ m ≤ 100 ∧
  H b = some (.tup (named.map V.int)) ∧ named.length = rows.length ∧ ∀ p H', Same H H' → H' p = some (.tup ((capsOf rows named m).map optI)) → Q (.ref p) H'
theorem ok_caps {f : Addr} {fd : FuncData} {k : Nat} (F : Fun K "caps_of" "caps_of" sCaps f fd) (me : mg "enumerate" = none) (mz : mg "zip" = none) (mn : mg "min" = none) (mt : mg "tuple" = none) : FnOk P w K mg base CX0 (k + 1) f fd ["collections", "spoiling"] spCaps := by
  refine F.ok scCaps (fun vs H Q E h => ?_) (fun cdv A outer s H vs Q E hr h => ?_)
  · obtain ⟨t, b, ls, rows, named, m, rfl, _⟩ := h
    rfl
  · obtain ⟨t, b, ls, rows, named, m, rfl, st, hl1, hl4, hrm, hm, hb, hnl, q⟩ := h
    refine ⟨_, (pss_cons (ps_set (i := 2) scCaps.nd rfl (.inl rfl) (pe_lst pa_nil))
      (pss_cons (ps_for PassesOwn.never rfl (pi_enumZ (by rfl) me (by rfl) mz (pv 0)) (pg_tup rfl (pgs_cons (pg_name (i := 3) scCaps.nd rfl (Or.inr rfl)) (pgs_cons (pg_name (i := 4) scCaps.nd rfl (Or.inl rfl)) pgs_nil))) (pss_cons (ps_setLc (i := 5) (own := [("needed", 6), ("named", 7)]) (g := gTup K 2 (gCons (gName 6) (gCons (gName 7) gNil))) rfl scCaps.nd rfl rfl (sw_true rfl rfl rfl (by decide +kernel)) (pi_zipA (by rfl) mz (pa_cons (pv 4) (pa_cons (pv 1) pa_nil))) (blkOk_by (own := [("needed", 6), ("named", 7)]) (N := NQ) (sc := defScope sCaps) (by decide +kernel)) (fun _ _ _ _ _ => (pg_tup rfl (pgs_cons (pg_name (i := 6) scCaps.nd rfl (Or.inl rfl)) (pgs_cons (pg_name (i := 7) scCaps.nd rfl (Or.inl rfl)) pgs_nil)))) (fun _ _ _ _ _ => pts_one (pt_cmpR op_eq (pv 7) (pv 3) (nomark _))) (fun _ _ _ _ _ => (pv 6)))
      (pss_one (ps_expr (pe_bm PySem.F.plainAttrs_list PySem.F.slot_list_append PySem.F.type_list_append mt_append (pv 2) (pa_cons (pe_ifExp (pt_truth (pv 5) (fun _ => rfl)) (pe_op op_sub (pe_callB (show CallR _ _ (rMin K) from cr_min rfl) (by rfl) mn (by decide +kernel) (pa_cons (pv 5) pa_nil)) pe_int) pe_non) pa_nil))))))
      (pss_one (ps_ret (pe_callTy call_tuple_of (by rfl) mt (by decide +kernel) (pa_cons (pv 2) pa_nil)))))), ?_⟩
    refine ⟨Nat.zero_le _, fun C nC => ?_⟩
    have s0 : Same H (upd H C (.lst [])) := same_new nC
    refine ⟨.ref t, rfl, t, ls, rows.map (fun r => r.map V.int), m, rfl, .inl (SqT.of (s0 _ _ st.top)), by rw [st.len]; exact hl1, by rw [st.len]; exact hl4, rws_of (st.same s0) hrm, ?_⟩
    refine for_it (walk_ez (m := m)) (fun i σ H' => ∃ y3 y4 y5 y6 y7 : Option V, σ = [some (.ref t), some (.ref b), some (.ref C), y3, y4, y5, y6, y7] ∧ Same H H' ∧ H' C = some (.lst (((capsOf rows named m).take i).map optI)))
      ⟨none, none, none, none, none, rfl, s0, upd_same⟩ (fun i σ H' _ h => by obtain ⟨_, _, _, _, _, _, sm, _⟩ := h; exact rws_of (st.same sm) hrm) (fun i x σ H1 H2 hi h y => ?_) (fun σ H' h => ?_)
    · obtain ⟨y3, y4, y5, y6, y7, rfl, sm, hC⟩ := h
      obtain ⟨T, U, rfl, nT, hTU, nU, rfl⟩ := y
      have nU' : (upd H1 T (.tup (colV (rows.map fun r => r.map V.int) i))) U = none := by rw [upd_ne hTU.symm]; exact nU
      have s2 : Same H1 (upd (upd H1 T (.tup (colV (rows.map fun r => r.map V.int) i))) U (.tup [.int ((0 : Int) + (i : Nat)), .ref T])) := (same_new nT).trans (same_new nU')
      have hT : (upd (upd H1 T (.tup (colV (rows.map fun r => r.map V.int) i))) U (.tup [.int ((0 : Int) + (i : Nat)), .ref T])) T = some (.tup ((rows.map fun r => r.getD i 0).map V.int)) := by
        rw [upd_ne hTU, upd_same, col_int hrm hi]
      refine ⟨U, [.int ((0 : Int) + (i : Nat)), .ref T], rfl, .inl (.inl upd_same), rfl, .int ((0 : Int) + (i : Nat)), [.ref T], rfl, .ref T, [], rfl, rfl, ?_⟩
      generalize upd (upd H1 T (.tup (colV (rows.map fun r => r.map V.int) i))) U (.tup [.int ((0 : Int) + (i : Nat)), .ref T]) = Ha at s2 hT ⊢
      have hba := s2 _ _ (sm _ _ hb)
      have hCa := s2 _ _ hC
      -- spoiled = [..]
      refine ⟨.ref T, rfl, .ref b, rfl, T, b, _, _, rfl, .inr ⟨SqT.of hT, SqT.of hba, fun D nD => ?_⟩⟩
      refine lc_zipT (xs := (rows.map fun r => r.getD i 0).map V.int) (ys := named.map V.int) (by rw [List.length_map, List.length_map, List.length_map, hnl]) (fun j H3 => H3 D = some (.lst ((pickUp rows named i j).map V.int)) ∧ Same Ha H3) ⟨upd_same, same_new nD⟩
        (fun j H3 _ h => ⟨SqT.of (h.2 _ _ hT), SqT.of (h.2 _ _ hba)⟩) (fun j x y T2 H3 hx hy h nT2 => ?_) (fun H3 h => ?_)
      · obtain ⟨hD, s3⟩ := h
        obtain ⟨v1, hv1, rfl⟩ := get_map hx
        obtain ⟨r, hr1, rfl⟩ := get_map hv1
        obtain ⟨ow, how, rfl⟩ := get_map hy
        have sT : Same H3 (upd H3 T2 (.tup [.int (r.getD i 0), .int ow])) := same_new nT2
        refine ⟨T2, [.int (r.getD i 0), .int ow], rfl, .inl (.inl upd_same), rfl, .int (r.getD i 0), [.int ow], rfl, .int ow, [], rfl, rfl, rfl, .int ow, rfl, .int ((0 : Int) + (i : Nat)), rfl, rfl, _, rfl, ite2 (fun e => ?_) (fun e => ?_)⟩
        · have e' : ow = (i : Int) := by
            have := of_decide_eq_true e
            injection this with this
            rw [Int.zero_add] at this
            exact this
          refine ⟨_, rfl, _, sT _ _ hD, ?_, ?_, fun b' o e2 => ?_⟩
          · rw [List.length_map]
            have := pick_len rows named i j
            have := (List.getElem?_eq_some_iff.mp hr1).1
            exact len_lt (by omega)
          · rw [upd_same, pick_succ hr1 how, if_pos e', List.map_append]
            rfl
          · rw [upd_ne (ne_of_none e2 nD)]
            exact sT _ _ (s3 b' o e2)
        · have e' : ¬ ow = (i : Int) := fun z => e (decide_eq_true (by rw [z, Int.zero_add]))
          refine ⟨?_, s3.trans sT⟩
          rw [pick_succ hr1 how, if_neg e', List.append_nil]
          exact sT _ _ hD
      · obtain ⟨hD, s3⟩ := h
        rw [List.length_map, List.length_map] at hD
        have hD' : H3 D = some (.lst ((pickAll rows named i).map V.int)) := hD
        have hC3 := s3 _ _ hCa
        have s13 : Same H H3 := sm.trans (s2.trans s3)
        have hget := caps_get (rows := rows) (named := named) hi
        have hlt : (((capsOf rows named m).take i).map optI).length < sizeLine := by
          rw [List.length_map, List.length_take]
          exact len_lt (by omega)
        refine ⟨.ref C, rfl, .inl ⟨rfl, _, SqL.of hC3⟩, .ref D, rfl, _, .inl ⟨_, SqL.of hD', rfl⟩, ?_⟩
        have fin : ∀ v : V, v = optI (capAt rows named i) → Same H (upd H3 C (.lst (((capsOf rows named m).take i).map optI ++ [v]))) ∧
            (upd H3 C (.lst (((capsOf rows named m).take i).map optI ++ [v]))) C = some (.lst (((capsOf rows named m).take (i + 1)).map optI)) := fun v hv => by
          refine ⟨fun b' o e => ?_, ?_⟩
          · rw [upd_ne (ne_of_none e nC)]
            exact s13 b' o e
          · rw [upd_same, take_succ_map hget, hv]
        cases hp : pickAll rows named i with
        | nil =>
          refine iteF ⟨C, _, .non, rfl, rfl, hC3, hlt, ?_⟩
          obtain ⟨h2, h3⟩ := fin .non (by unfold capAt; rw [if_pos hp]; rfl)
          exact ⟨_, _, _, _, _, rfl, h2, h3⟩
        | cons p0 pr =>
          refine iteT ⟨.ref D, rfl, D, pickAll rows named i, rfl, SqL.of hD', by rw [hp]; exact Nat.succ_pos _, fun mn hmn hle => ⟨mn, 1, rfl, rfl, ?_⟩⟩
          have hmn' := minL_uniq hmn hle
          refine ⟨C, _, .int (mn - 1), rfl, rfl, hC3, hlt, ?_⟩
          obtain ⟨h2, h3⟩ := fin (.int (mn - 1)) (by unfold capAt; rw [if_neg (by rw [hp]; exact fun e => nomatch e), hmn']; rfl)
          exact ⟨_, _, _, _, _, rfl, h2, h3⟩
    · obtain ⟨y3, y4, y5, y6, y7, rfl, sm, hC⟩ := h
      have hcl := caps_len rows named m
      rw [List.take_of_length_le (by omega)] at hC
      refine ⟨.ref C, rfl, C, _, rfl, .inl ⟨SqL.of hC, fun p np => ?_⟩⟩
      exact q p _ (sm.trans (same_new np)) upd_same
end
end DD
namespace DD
open PySem PySem.Spec PyProof.Rows L2 RZ

/-! ### spoilings, caps and counts -/
theorem mem_kinds {r : List Int} {k : Int} (h : k ∈ kindsOf r) : ∃ i : Nat, k = (i : Int) ∧ i < r.length ∧ 0 < r.getD i 0 := by
  obtain ⟨j, hj, rfl⟩ := List.mem_map.mp h
  obtain ⟨h1, h2⟩ := List.mem_filter.mp hj
  exact ⟨j, by omega, List.mem_range.mp h1, of_decide_eq_true h2⟩
theorem kinds_of {r : List Int} {i : Nat} (h : i < r.length) (h0 : 0 < r.getD i 0) : (i : Int) ∈ kindsOf r := by
  have : ((0 : Int) + (i : Nat)) ∈ kindsOf r := List.mem_map_of_mem (List.mem_filter.mpr ⟨List.mem_range.mpr h, decide_eq_true h0⟩)
  rwa [Int.zero_add] at this
theorem spR_fwd : ∀ {rows : List (List Int)} {s : List Int}, s ∈ spR rows → s.length = rows.length ∧ ∀ (j : Nat) (r : List Int) (k : Int), rows[j]? = some r → s[j]? = some k → k ∈ kindsOf r
  | [], s, h => by
    rw [List.mem_singleton.mp h]
    exact ⟨rfl, fun j r k e => by simp at e⟩
  | r :: rs, s, h => by
    obtain ⟨k, hk, hs⟩ := List.mem_flatMap.mp h
    obtain ⟨s', hs', rfl⟩ := List.mem_map.mp hs
    obtain ⟨h1, h2⟩ := spR_fwd hs'
    refine ⟨by rw [List.length_cons, List.length_cons, h1], fun j r' k' e1 e2 => ?_⟩
    cases j with
    | zero =>
      cases e1
      cases e2
      exact hk
    | succ j => exact h2 j r' k' e1 e2
theorem spR_bwd {f : List Int → Int} : ∀ {rows : List (List Int)}, (∀ r ∈ rows, f r ∈ kindsOf r) → rows.map f ∈ spR rows
  | [], _ => List.mem_singleton.mpr rfl
  | r :: rs, h => List.mem_flatMap.mpr ⟨f r, h r List.mem_cons_self, List.mem_map.mpr ⟨rs.map f, spR_bwd fun x hx => h x (List.mem_cons_of_mem _ hx), rfl⟩⟩
theorem pick_mem {rows : List (List Int)} {named : List Int} {k : Nat} {y : Int} : y ∈ pickAll rows named k → ∃ (j : Nat) (r : List Int), rows[j]? = some r ∧ named[j]? = some (k : Int) ∧ y = r.getD k 0 := by
  intro h
  obtain ⟨p, hp, rfl⟩ := List.mem_map.mp h
  obtain ⟨h1, h2⟩ := List.mem_filter.mp hp
  obtain ⟨j, hj⟩ := List.mem_iff_getElem?.mp (List.mem_of_mem_take h1)
  obtain ⟨e1, e2⟩ := List.getElem?_zip_eq_some.mp hj
  refine ⟨j, p.1, e1, ?_, rfl⟩
  rw [e2, of_decide_eq_true h2]
theorem mem_pick {rows : List (List Int)} {named : List Int} {k j : Nat} {r : List Int} (h1 : rows[j]? = some r) (h2 : named[j]? = some (k : Int)) : r.getD k 0 ∈ pickAll rows named k := by
  have hz : (rows.zip named)[j]? = some (r, (k : Int)) := List.getElem?_zip_eq_some.mpr ⟨h1, h2⟩
  have hj := (List.getElem?_eq_some_iff.mp h1).1
  refine List.mem_map.mpr ⟨(r, (k : Int)), List.mem_filter.mpr ⟨?_, decide_eq_true rfl⟩, rfl⟩
  refine List.mem_of_getElem? (i := j) ?_
  rw [List.getElem?_take_of_lt hj]
  exact hz
theorem cap_some {rows : List (List Int)} {named : List Int} {k : Nat} {v : Int} (e : capAt rows named k = some v) : v + 1 ∈ pickAll rows named k ∧ ∀ y ∈ pickAll rows named k, v + 1 ≤ y := by
  unfold capAt at e
  by_cases c : pickAll rows named k = []
  · rw [if_pos c] at e
    cases e
  · rw [if_neg c] at e
    have e := Option.some.inj e
    have h1 := minL_mem c
    refine ⟨by rw [← e]; rw [Int.sub_add_cancel]; exact h1, fun y hy => ?_⟩
    have := minL_le y hy
    omega
theorem cap_of {rows : List (List Int)} {named : List Int} {k : Nat} {y : Int} (h : y ∈ pickAll rows named k) : ∃ v, capAt rows named k = some v := by
  unfold capAt
  rw [if_neg (fun e => by rw [e] at h; cases h)]
  exact ⟨_, rfl⟩
def bad (p : Option Int × Int) : Bool := match p.1 with
  | none => false
  | some v => decide (p.2 > v)
def badUp (cps : List (Option Int)) (cs : List Int) (i : Nat) : List Int := (((cps.zip cs).take i).filter bad).map fun _ => 1
def keptB (cps : List (Option Int)) (cs : List Int) : Bool := ((cps.zip cs).filter bad).isEmpty
theorem bad_succ {cps : List (Option Int)} {cs : List Int} {i : Nat} {o : Option Int} {x : Int} (h1 : cps[i]? = some o) (h2 : cs[i]? = some x) : badUp cps cs (i + 1) = badUp cps cs i ++ (if bad (o, x) = true then [1] else []) := by
  unfold badUp
  have hz : (cps.zip cs)[i]? = some (o, x) := List.getElem?_zip_eq_some.mpr ⟨h1, h2⟩
  rw [List.take_add_one, hz, List.filter_append, List.map_append]
  congr 1
  by_cases e : bad (o, x) = true
  · rw [if_pos e]
    simp [e]
  · rw [if_neg e]
    simp [e]
theorem bad_len (cps : List (Option Int)) (cs : List Int) (i : Nat) : (badUp cps cs i).length ≤ i := by
  unfold badUp
  rw [List.length_map]
  refine Nat.le_trans (List.length_filter_le _ _) ?_
  rw [List.length_take]
  omega
theorem kept_nil {cps : List (Option Int)} {cs : List Int} (h : cps.length = cs.length) : (badUp cps cs cps.length = []) ↔ keptB cps cs = true := by
  unfold badUp keptB
  rw [List.take_of_length_le (by rw [List.length_zip]; omega), List.map_eq_nil_iff, List.isEmpty_iff]
theorem kept_iff {cps : List (Option Int)} {cs : List Int} : keptB cps cs = true ↔ ∀ (i : Nat) (v x : Int), cps[i]? = some (some v) → cs[i]? = some x → x ≤ v := by
  unfold keptB
  rw [List.isEmpty_iff, List.filter_eq_nil_iff]
  constructor
  · intro h i v x h1 h2
    have := h (some v, x) (List.mem_of_getElem? (List.getElem?_zip_eq_some.mpr ⟨h1, h2⟩ : (cps.zip cs)[i]? = some (some v, x)))
    have h3 : ¬ decide (x > v) = true := this
    rw [decide_eq_true_eq] at h3
    omega
  · intro h p hp
    obtain ⟨i, hi⟩ := List.mem_iff_getElem?.mp hp
    obtain ⟨e1, e2⟩ := List.getElem?_zip_eq_some.mp hi
    obtain ⟨o, x⟩ := p
    cases o with
    | none => exact Bool.false_ne_true
    | some v =>
      have := h i v x e1 e2
      show ¬ decide (x > v) = true
      rw [decide_eq_true_eq]
      omega
theorem cont_iff {cs row : List Int} : contains cs row = true ↔ ∀ (i : Nat) (x r : Int), cs[i]? = some x → row[i]? = some r → r ≤ x := by
  unfold contains
  rw [List.all_eq_true]
  constructor
  · intro h i x r h1 h2
    have hz : (List.zipWith (fun c n => decide (c ≥ n)) cs row)[i]? = some (decide (x ≥ r)) := by rw [List.getElem?_zipWith, h1, h2]
    exact of_decide_eq_true (h _ (List.mem_of_getElem? hz))
  · intro h b hb
    obtain ⟨i, hi⟩ := List.mem_iff_getElem?.mp hb
    rw [List.getElem?_zipWith] at hi
    cases e1 : cs[i]? with
    | none => rw [e1] at hi; cases hi
    | some x =>
      cases e2 : row[i]? with
      | none => rw [e1, e2] at hi; cases hi
      | some r =>
        rw [e1, e2] at hi
        obtain rfl := Option.some.inj hi
        exact decide_eq_true (h i x r e1 e2)
theorem ful_none {rows : List (List Int)} {cs : List Int} : fulOf rows cs = none ↔ ∀ r ∈ rows, contains cs r = false := by
  unfold fulOf
  rw [List.findIdx?_eq_none_iff]
theorem get_of_getD {r : List Int} {i : Nat} (h : i < r.length) : r[i]? = some (r.getD i 0) := by
  rw [List.getD_eq_getElem?_getD, List.getElem?_eq_getElem h]
  rfl
/-- counts fulfil nothing exactly if some spoiling keeps them -/
theorem ful_kept {rows : List (List Int)} {cs : List Int} {n : Nat} (hr : ∀ r ∈ rows, r.length = n) (hc : cs.length = n) (h0 : ∀ x ∈ cs, 0 ≤ x) : fulOf rows cs = none ↔ ∃ s ∈ spOf rows, keptB (capsOf rows s n) cs = true := by
  rw [ful_none, spOf_eq]
  constructor
  · intro h
    have ex : ∀ r ∈ rows, ∃ i : Nat, i < n ∧ cs.getD i 0 < r.getD i 0 := fun r hr' => by
      have h1 : ¬ lackOf cs r n = [] := fun e => by
        have := (lack_nil hc (hr r hr')).mp e
        rw [h r hr'] at this
        cases this
      obtain ⟨x, hx⟩ := List.exists_mem_of_ne_nil _ h1
      obtain ⟨j, hj, _⟩ := List.mem_map.mp hx
      obtain ⟨h2, h3⟩ := List.mem_filter.mp hj
      exact ⟨j, List.mem_range.mp h2, of_decide_eq_true h3⟩
    let f : List Int → Nat := fun r => ((List.range n).find? (lackAt cs r)).getD 0
    have hf : ∀ r ∈ rows, f r < n ∧ cs.getD (f r) 0 < r.getD (f r) 0 := fun r hr' => by
      obtain ⟨i, hi, hlt⟩ := ex r hr'
      have hs : ((List.range n).find? (lackAt cs r)).isSome = true := List.find?_isSome.mpr ⟨i, List.mem_range.mpr hi, decide_eq_true hlt⟩
      obtain ⟨j, hj⟩ := Option.isSome_iff_exists.mp hs
      have e : f r = j := by show ((List.range n).find? (lackAt cs r)).getD 0 = j; rw [hj]; rfl
      rw [e]
      have hl : lackAt cs r j = true := List.find?_some hj
      exact ⟨List.mem_range.mp (List.mem_of_find?_eq_some hj), of_decide_eq_true hl⟩
    refine ⟨rows.map fun r => (f r : Int), spR_bwd fun r hr' => ?_, kept_iff.mpr fun i v x e1 e2 => ?_⟩
    · obtain ⟨h1, h2⟩ := hf r hr'
      refine kinds_of (by rw [hr r hr']; exact h1) ?_
      have := h0 _ (List.mem_of_getElem? (get_of_getD (show f r < cs.length by omega)))
      omega
    · have hi : i < n := by
        have := (List.getElem?_eq_some_iff.mp e2).1
        omega
      rw [caps_get hi] at e1
      obtain ⟨h1, _⟩ := cap_some (Option.some.inj e1)
      obtain ⟨j, r, hj, hn, hv⟩ := pick_mem h1
      rw [List.getElem?_map, hj] at hn
      have hn : (f r : Int) = (i : Int) := Option.some.inj hn
      have hn' : f r = i := by omega
      obtain ⟨_, h4⟩ := hf r (List.mem_of_getElem? hj)
      rw [hn'] at h4
      have hx : cs.getD i 0 = x := by rw [List.getD_eq_getElem?_getD, e2]; rfl
      omega
  · rintro ⟨s, hs, hk⟩ r hr'
    obtain ⟨hl, hf⟩ := spR_fwd hs
    obtain ⟨j, hj⟩ := List.mem_iff_getElem?.mp hr'
    have hjl := (List.getElem?_eq_some_iff.mp hj).1
    have hsj : s[j]? = some (s[j]'(by omega)) := List.getElem?_eq_getElem (by omega)
    obtain ⟨i, hi, hil, hpos⟩ := mem_kinds (hf j r _ hj hsj)
    rw [hi] at hsj
    have hp := mem_pick hj hsj
    obtain ⟨v, hv⟩ := cap_of hp
    have hle := (cap_some hv).2 _ hp
    have hin : i < n := by rw [← hr r hr']; exact hil
    have h1 := kept_iff.mp hk i v (cs.getD i 0) (by rw [caps_get hin, hv]) (get_of_getD (by omega))
    cases hc' : contains cs r with
    | false => rfl
    | true =>
      have := cont_iff.mp hc' i _ _ (get_of_getD (by omega)) (get_of_getD hil)
      omega
theorem cap_nn {rows : List (List Int)} {s : List Int} {k : Nat} {v : Int} (hs : s ∈ spOf rows) (e : capAt rows s k = some v) : 0 ≤ v := by
  rw [spOf_eq] at hs
  obtain ⟨h1, _⟩ := cap_some e
  obtain ⟨j, r, hj, hn, hv⟩ := pick_mem h1
  obtain ⟨i, hi, _, hpos⟩ := mem_kinds ((spR_fwd hs).2 j r _ hj hn)
  have : i = k := by omega
  rw [this] at hpos
  omega
theorem ful_more {rows : List (List Int)} {cs : List Int} (h : fulOf rows cs ≠ none) : fulOf rows (cs.map fun x => x + 1) ≠ none := by
  intro e
  rw [ful_none] at e
  refine h (ful_none.mpr fun r hr => ?_)
  cases c : contains cs r with
  | false => rfl
  | true =>
    have : contains (cs.map fun x => x + 1) r = true := cont_iff.mpr fun i x y h1 h2 => by
      obtain ⟨x', hx', rfl⟩ := get_map h1
      have := cont_iff.mp c i x' y hx' h2
      omega
    rw [e r hr] at this
    cases this
/-- a collection that needs more -/
def bump (r : List Int) : List Int := r.map fun x => if x + 1 < 50 then x + 1 else 50
theorem ful_further {rs : List (List Int)} {r0 : List Int} {cs : List Int} (h0 : r0 ∈ rs) (hb : ∀ x ∈ r0, x ≤ 50) : (fulOf (rs ++ [bump r0]) cs = none) ↔ (fulOf rs cs = none) := by
  rw [ful_none, ful_none]
  constructor
  · intro h r hr
    exact h r (List.mem_append_left _ hr)
  · intro h r hr
    rcases List.mem_append.mp hr with hr | hr
    · exact h r hr
    · rw [List.mem_singleton.mp hr]
      cases c : contains cs (bump r0) with
      | false => rfl
      | true =>
        have : contains cs r0 = true := cont_iff.mpr fun i x y h1 h2 => by
          have h3 : (bump r0)[i]? = some (if y + 1 < 50 then y + 1 else 50) := by
            unfold bump
            rw [List.getElem?_map, h2]
            rfl
          have := cont_iff.mp c i x _ h1 h3
          have := hb y (List.mem_of_getElem? h2)
          split at * <;> omega
        rw [h r0 h0] at this
        cases this
/-- counts at the caps -/
def fullOf (cps : List (Option Int)) : List Int := cps.map fun o => o.getD 50
theorem full_kept (cps : List (Option Int)) : keptB cps (fullOf cps) = true := kept_iff.mpr fun i v x e1 e2 => by
  unfold fullOf at e2
  rw [List.getElem?_map, e1] at e2
  have : v = x := Option.some.inj e2
  omega
theorem named_ex {rows : List (List Int)} {s : List Int} {n : Nat} (hr : ∀ r ∈ rows, r.length = n) (h1 : 1 ≤ rows.length) (hs : s ∈ spOf rows) : ∃ k, k < n ∧ capAt rows s k ≠ none := by
  rw [spOf_eq] at hs
  obtain ⟨hl, hf⟩ := spR_fwd hs
  have hj : rows[0]? = some rows[0] := List.getElem?_eq_getElem (by omega)
  have hsj : s[0]? = some (s[0]'(by omega)) := List.getElem?_eq_getElem (by omega)
  obtain ⟨i, hi, hil, _⟩ := mem_kinds (hf 0 _ _ hj hsj)
  rw [hi] at hsj
  obtain ⟨v, hv⟩ := cap_of (mem_pick hj hsj)
  exact ⟨i, by have := hr _ (List.mem_of_getElem? hj); omega, by rw [hv]; exact fun e => nomatch e⟩
/-- one more of a kind with a cap -/
theorem many_ful {rows : List (List Int)} {s : List Int} {n k : Nat} {v : Int} {cs : List Int} (hr : ∀ r ∈ rows, r.length = n ∧ ∀ x ∈ r, x ≤ 1000000) (hv : capAt rows s k = some v) (hk : cs[k]? = some (v + 1)) (ho : ∀ i x, i ≠ k → cs[i]? = some x → x = 1000000) : fulOf rows cs ≠ none := by
  intro e
  obtain ⟨h1, _⟩ := cap_some hv
  obtain ⟨j, r, hj, hn, hrv⟩ := pick_mem h1
  have hrm := List.mem_of_getElem? hj
  have hf := ful_none.mp e r hrm
  have : contains cs r = true := cont_iff.mpr fun i x y g1 g2 => by
    by_cases hi : i = k
    · subst hi
      have g3 := Option.some.inj (hk.symm.trans g1)
      have h2' : r.getD i 0 = y := by rw [List.getD_eq_getElem?_getD, g2]; rfl
      omega
    · rw [ho i x hi g1]
      exact (hr r hrm).2 y (List.mem_of_getElem? g2)
  rw [hf] at this
  cases this
end DD
namespace DD
open PySem PySem.Spec PyProof.Rows L2
def sizesOf (rows : List (List Int)) : List Int := rows.map List.sum
/-- the sums of the columns 0 .. m - 1 -/
def totalsOf (rows : List (List Int)) (m : Nat) : List Int := (List.range m).map fun i => (rows.map fun r => r.getD i 0).sum

theorem scTotals : FnScope ["stock", "counts"] ["stock"] (defScope sTotals) := ⟨rfl, rfl, rfl, by decide +kernel, rfl, by decide +kernel, by decide +kernel⟩
section
variable {P : Program} {w : World} {K : PySem.W.Frag} {mg : Str → Option Value} {base : Heap}
/-- the rows, in a tuple or a list -/
def spTotals (K : PySem.W.Frag) : Sp := fun vs H Q _ => ∃ (t : Addr) (ls : List Addr) (rows : List (List Int)) (m : Nat), vs = [.ref t] ∧ (SqT K H t (ls.map V.ref) ∨ SqL K H t (ls.map V.ref)) ∧
  ls.length = rows.length ∧ (∀ (j : Nat) (l : Addr) (r : List Int), ls[j]? = some l → rows[j]? = some r → H l = some (.tup (r.map V.int)) ∧ r.length = m) ∧ (rows = [] → m = 0) ∧ rows.length ≤ 4 ∧ m ≤ 100 ∧
  ∀ p H', Same H H' → H p = none → H' p = some (.tup ((totalsOf rows m).map V.int)) → Q (.ref p) H'
theorem ok_totals {f : Addr} {fd : FuncData} {k : Nat} (F : Fun K "totals_of" "totals_of" sTotals f fd) (mt : mg "tuple" = none) (ms : mg "sum" = none) (mz : mg "zip" = none) :
    FnOk P w K mg base CX0 (k + 1) f fd ["stock"] (spTotals K) := by
  refine F.ok scTotals (fun vs H Q E h => ?_) (fun cdv A outer s H vs Q E hr h => ?_)
  · obtain ⟨t, ls, rows, m, rfl, _⟩ := h
    rfl
  · obtain ⟨t, ls, rows, m, rfl, top, hll, hat, h1, h4, hm, q⟩ := h
    refine ⟨_, pss_one (ps_ret (pe_callTy call_tuple_of (by rfl) mt (by decide +kernel) (pa_cons (pe_lc (own := [("counts", 1)]) (g := gName 1) rfl scTotals.nd (pi_zipO (by rfl) mz (pv 0))
      (blkOk_by (own := [("counts", 1)]) (N := ["stock", "counts"]) (sc := defScope sTotals) (by decide +kernel)) (fun _ _ _ _ _ => pg_name (i := 1) scTotals.nd rfl (Or.inl rfl)) (fun _ _ _ _ _ => pts_nil)
      (fun _ _ _ _ _ => pe_callB (show CallR _ _ (fun vs H Q => ∃ (a : Addr) (ns : List Int), vs = [V.ref a] ∧ SqT K H a (ns.map V.int) ∧ Q (.int ns.sum) H) from cr_sumT rfl) (by rfl) ms (by decide +kernel) (pa_cons (pv 1) pa_nil))) pa_nil))), ?_⟩
    have rws : ∀ H', Same H H' → Rws K H' ls (rows.map (List.map V.int)) m := fun H' sm => by
      refine ⟨by rw [List.length_map]; exact hll, fun j a r e1 e2 => ?_⟩
      obtain ⟨r0, hr0, rfl⟩ := get_map e2
      obtain ⟨x1, x2⟩ := hat j a r0 e1 hr0
      exact ⟨SqT.of (sm _ _ x1), by rw [List.length_map]; exact x2⟩
    refine ⟨.ref t, rfl, t, ls, rows.map (List.map V.int), m, rfl, top, by omega, (fun e => h1 (List.eq_nil_of_length_eq_zero (by rw [← hll, e]; rfl))), rws H (Same.refl H), fun D nD => ?_⟩
    refine lc_zipN (fun i H' => H' D = some (.lst (((totalsOf rows m).take i).map V.int)) ∧ Same H H') ⟨upd_same, same_new nD⟩ (fun i H' _ h => rws H' h.2) (fun i T H' hi h nT => ?_) (fun H' h => ?_)
    · obtain ⟨hD, sm⟩ := h
      have ec : colV (rows.map (List.map V.int)) i = (rows.map fun r => r.getD i 0).map V.int := by
        unfold colV
        rw [List.map_map, List.map_map]
        refine List.map_congr_left fun r hr => ?_
        obtain ⟨j, hj⟩ := List.mem_iff_getElem?.mp hr
        have hjl := (List.getElem?_eq_some_iff.mp hj).1
        have hlj : ls[j]? = some (ls[j]'(by omega)) := List.getElem?_eq_getElem (by omega)
        have hlen := (hat j _ r hlj hj).2
        show (r.map V.int).getD i .non = V.int (r.getD i 0)
        rw [List.getD_eq_getElem?_getD, List.getD_eq_getElem?_getD, List.getElem?_map, List.getElem?_eq_getElem (by omega)]
        rfl
      rw [ec]
      have hs : (totalsOf rows m)[i]? = some (rows.map fun r => r.getD i 0).sum := by
        unfold totalsOf
        rw [List.getElem?_map, List.getElem?_range hi]
        rfl
      have hDT : D ≠ T := ne_of_none hD nT
      have hD2 := hD
      rw [← upd_ne (H := H') (o := .tup ((rows.map fun r => r.getD i 0).map V.int)) hDT] at hD2
      refine ⟨rfl, .ref T, rfl, T, _, rfl, SqT.of upd_same, _, hD2, ?_, ?_, fun b o e => ?_⟩
      · rw [List.length_map, List.length_take]
        refine len_lt ?_
        have : (totalsOf rows m).length = m := by simp [totalsOf]
        omega
      · rw [upd_same, take_succ_map hs]
      · rw [upd_ne (ne_of_none e nD)]
        exact same_new nT _ _ (sm b o e)
    · obtain ⟨hD, sm⟩ := h
      rw [List.take_of_length_le (by simp [totalsOf])] at hD
      exact ⟨D, _, rfl, .inl ⟨SqL.of hD, fun p np => q p _ (sm.trans (same_new np)) (sm.free np) upd_same⟩⟩
end
end DD
namespace DD
open PySem PySem.Spec PyProof.Rows L2 RZ
theorem iteNx {b : Bool} {A B : Prop} (h : b = false) (hB : B) : if b = true then A else B := by
  rw [h]
  exact hB
/-- so many of them, or the cap -/
def capv (m : Int) : Option Int → Int
  | none => m
  | some c => if c < m then c else m
def pickR (rows : List (List Int)) (ds : List Nat) : List (List Int) := ds.map fun j => rows.getD j []
def roomL (rows : List (List Int)) (cs : List (Option Int)) (ds : List Nat) : Int := (List.zipWith capv (totalsOf (pickR rows ds) cs.length) cs).sum
theorem tot_len (rows : List (List Int)) (m : Nat) : (totalsOf rows m).length = m := by simp [totalsOf]
theorem zw_get {ts : List Int} {cs : List (Option Int)} {i : Nat} {t : Int} {c : Option Int} (h1 : ts[i]? = some t) (h2 : cs[i]? = some c) : (List.zipWith capv ts cs)[i]? = some (capv t c) := by
  rw [List.getElem?_zipWith, h1, h2]
theorem zero_sum : ∀ {cs : List (Option Int)} {ts : List Int}, (∀ c, some c ∈ cs → 0 ≤ c) → (∀ t ∈ ts, t = 0) → (List.zipWith capv ts cs).sum = 0
  | [], ts, _, _ => by cases ts <;> rfl
  | c :: cs, [], _, _ => rfl
  | c :: cs, t :: ts, h1, h2 => by
    have h := zero_sum (cs := cs) (ts := ts) (fun c' hc => h1 c' (List.mem_cons_of_mem _ hc)) fun t' ht => h2 t' (List.mem_cons_of_mem _ ht)
    rw [List.zipWith_cons_cons, List.sum_cons, h]
    obtain rfl := h2 t List.mem_cons_self
    cases c with
    | none => rfl
    | some c =>
      have := h1 c List.mem_cons_self
      show (if c < 0 then c else 0) + 0 = 0
      rw [if_neg (by omega)]
      rfl
theorem room_nil {rows : List (List Int)} {cs : List (Option Int)} (h : ∀ c, some c ∈ cs → 0 ≤ c) : roomL rows cs [] = 0 := by
  refine zero_sum h fun t ht => ?_
  obtain ⟨i, _, rfl⟩ := List.mem_map.mp ht
  rfl
theorem scRoomOf : FnScope ["totals", "caps", "total", "cap"] ["totals", "caps"] (defScope sRoomOf) := ⟨rfl, rfl, rfl, by decide +kernel, rfl, by decide +kernel, by decide +kernel⟩
-- : FnScope ["stock", "caps", "drawers", "drawer"] ["stock", "caps", "drawers"] (defScope sRoomIn) := ⟨rfl, rfl, rfl, by decide +kernel, rfl, by decide +kernel, by decide +kernel⟩
section
variable {P : Program} {w : World} {K : PySem.W.Frag} {mg : Str → Option Value} {base : Heap}
def spRoomOf : Sp := fun vs H Q _ => ∃ (a b : Addr) (ts : List Int) (cs : List (Option Int)), vs = [.ref a, .ref b] ∧ H a = some (.tup (ts.map V.int)) ∧ H b = some (.tup (cs.map optI)) ∧ ts.length ≤ cs.length ∧ ts.length ≤ 100 ∧
  ∀ H', Same H H' → Q (.int (List.zipWith capv ts cs).sum) H'
theorem ok_roomof {f fN fU fV fTu fA fEr fO fSz fWm fWi fCs fCn fFu fCo fSp fCa fR fSt fAu fIp fI fFc fLo fSo fOv fDw fSv fSm : Addr} {fd dN dU dV dTu dA dEr dO dSz dWm dWi dCs dCn dFu dCo dSp dCa dR dSt dAu dIp dI dFc dLo dSo dOv dDw dSv dSm : FuncData} {k : Nat} (F : Fun K "room_of" "room_of" sRoomOf f fd) (T : Tx K mg fN fU fV fTu fA fEr fO fSz fWm fWi fCs fCn fFu fCo fSp fCa fR fSt fAu fIp fI fFc fLo fSo fOv fDw fSv fSm dN dU dV dTu dA dEr dO dSz dWm dWi dCs dCn dFu dCo dSp dCa dR dSt dAu dIp dI dFc dLo dSo dOv dDw dSv dSm) :
    FnOk P w K mg base CX0 (k + 1) f fd ["totals", "caps"] spRoomOf := by
  refine F.ok scRoomOf (fun vs H Q E h => ?_) (fun cdv A outer s H vs Q E hr h => ?_)
  · obtain ⟨a, b, ts, cs, rfl, _⟩ := h
    rfl
  · obtain ⟨a, b, ts, cs, rfl, ha, hb, hl, h100, q⟩ := h
    refine ⟨_, (pss_one (ps_ret (pe_callB (show CallR _ _ (rSum K) from cr_sum rfl) (by rfl) T.m_sum (by decide +kernel) (pa_cons (pe_lc (own := [("total", 2), ("cap", 3)]) (g := gTup K 2 (gCons (gName 2) (gCons (gName 3) gNil))) rfl scRoomOf.nd (pi_zipA (by rfl) T.m_zip (pa_cons (pv 0) (pa_cons (pv 1) pa_nil))) (blkOk_by (own := [("total", 2), ("cap", 3)]) (N := ["totals", "caps", "total", "cap"]) (sc := defScope sRoomOf) (by decide +kernel)) (fun _ _ _ _ _ => (pg_tup rfl (pgs_cons (pg_name (i := 2) scRoomOf.nd rfl (Or.inl rfl)) (pgs_cons (pg_name (i := 3) scRoomOf.nd rfl (Or.inl rfl)) pgs_nil)))) (fun _ _ _ _ _ => pts_nil) (fun _ _ _ _ _ => (pe_ifExp (pt_cmpR op_isN (pv 3) pe_non (nomark _)) (pv 2) (pe_callB (call_min2 rfl) (by rfl) T.m_min (by decide +kernel) (pa_cons (pv 2) (pa_cons (pv 3) pa_nil)))))) pa_nil)))), ?_⟩
    refine ⟨.ref a, rfl, .ref b, rfl, a, b, _, _, rfl, .inr ⟨SqT.of ha, SqT.of hb, fun D nD => ?_⟩⟩
    refine lc_it (walk_zipT (xs := ts.map V.int) (ys := cs.map optI) (by rw [List.length_map, List.length_map]; exact hl)) (fun i H' => H' D = some (.lst (((List.zipWith capv ts cs).take i).map V.int)) ∧ Same H H') ⟨upd_same, same_new nD⟩
      (fun i H' _ h => ⟨SqT.of (h.2 _ _ ha), SqT.of (h.2 _ _ hb)⟩) (fun i x H' H1 hi h y => ?_) (fun H' h => ?_)
    · obtain ⟨hD, sm⟩ := h
      obtain ⟨T1, x1, x2, rfl, nT, rfl, e1, e2⟩ := y
      obtain ⟨t, ht, rfl⟩ := get_map e1
      obtain ⟨o, ho, rfl⟩ := get_map e2
      have sT : Same H' (upd H' T1 (.tup [.int t, optI o])) := same_new nT
      have hz := zw_get ht ho
      have fin : ∃ acc, (upd H' T1 (.tup [.int t, optI o])) D = some (.lst acc) ∧ acc.length < sizeLine ∧
          ((upd (upd H' T1 (.tup [.int t, optI o])) D (.lst (acc ++ [V.int (capv t o)]))) D = some (.lst (((List.zipWith capv ts cs).take (i + 1)).map V.int)) ∧ Same H (upd (upd H' T1 (.tup [.int t, optI o])) D (.lst (acc ++ [V.int (capv t o)])))) := by
        refine ⟨_, sT _ _ hD, ?_, ?_, fun b' o' e => ?_⟩
        · rw [List.length_map, List.length_take, List.length_zipWith]
          exact len_lt (by omega)
        · rw [upd_same, take_succ_map hz]
        · rw [upd_ne (ne_of_none e nD)]
          exact sT _ _ (sm b' o' e)
      refine ⟨T1, [.int t, optI o], rfl, .inl (.inl upd_same), rfl, .int t, [optI o], rfl, optI o, [], rfl, rfl, rfl, ?_⟩
      cases o with
      | none => exact ⟨_, rfl, rfl, _, rfl, iteT ⟨_, rfl, fin⟩⟩
      | some c => exact ⟨_, rfl, rfl, _, rfl, iteNx rfl ⟨_, rfl, _, rfl, t, c, rfl, fin⟩⟩
    · obtain ⟨hD, sm⟩ := h
      rw [List.length_map, List.take_of_length_le (by rw [List.length_zipWith]; omega)] at hD
      exact ⟨D, _, rfl, SqL.of hD, q _ sm⟩
end
end DD
namespace DD
open PySem PySem.Spec PyProof.Rows L2 RZ
def maxL (l : List Int) : Int := -(minL (l.map fun x => -x))
theorem maxL_uniq {l : List Int} {m : Int} (hm : m ∈ l) (hl : ∀ y, y ∈ l → y ≤ m) : m = maxL l := by
  have := minL_uniq (l := l.map fun x => -x) (m := -m) (List.mem_map_of_mem hm) fun y hy => by
    obtain ⟨x, hx, rfl⟩ := List.mem_map.mp hy
    have := hl x hx
    omega
  unfold maxL
  omega
theorem maxL_mem {l : List Int} (h : l ≠ []) : maxL l ∈ l := by
  have := minL_mem (l := l.map fun x => -x) (by simpa using h)
  obtain ⟨x, hx, e⟩ := List.mem_map.mp this
  unfold maxL
  rw [← e, Int.neg_neg]
  exact hx
theorem maxL_ge {l : List Int} {y : Int} (h : y ∈ l) : y ≤ maxL l := by
  have := minL_le (l := l.map fun x => -x) (-y) (List.mem_map_of_mem h)
  unfold maxL
  omega
/-- the rooms of so many things of each kind, spoiling by spoiling -/
def roomsOf (ts : List Int) (ws : List (List Int)) (n : Nat) : List Int := (spOf ws).map fun s => (List.zipWith capv ts (capsOf ws s n)).sum
def totalOf (ts : List Int) (ws : List (List Int)) (n : Nat) : Option Int := if fulOf ws ts = none then none else some (1 + maxL (roomsOf ts ws n))
theorem sp_ne {ws : List (List Int)} {n : Nat} {hi : Int} (h : ∀ r ∈ ws, Good n hi r) : spOf ws ≠ [] := by
  rw [spOf_eq]
  have := spR_bwd (f := fun r => (kindsOf r).headD 0) (rows := ws) fun r hr => by
    obtain ⟨x, hx, h0⟩ := (h r hr).pos
    obtain ⟨j, hj⟩ := List.mem_iff_getElem?.mp hx
    have hjl := (List.getElem?_eq_some_iff.mp hj).1
    have hk := kinds_of (r := r) (i := j) hjl (by rw [List.getD_eq_getElem?_getD, hj]; exact h0)
    cases e : kindsOf r with
    | nil => rw [e] at hk; cases hk
    | cons k ks => exact List.mem_cons_self
  exact fun e => by rw [e] at this; cases this
theorem sp_len {ws : List (List Int)} (h : ∀ r ∈ ws, r.length ≤ 4) (hl : ws.length ≤ 4) : (spOf ws).length ≤ 256 := by
  rw [spOf_eq]
  exact spR_len h hl
/-- a wish of one to four collections for n kinds -/
structure Wish (H : Hp) (t : Addr) (ls : List Addr) (ws : List (List Int)) (n : Nat) : Prop where
  st : StockAt H t ls ws
  l1 : 1 ≤ ws.length
  l4 : ws.length ≤ 4
  g : ∀ r ∈ ws, Good n 50 r
  n1 : 1 ≤ n
  n4 : n ≤ 4
theorem Wish.same {H H' : Hp} {t : Addr} {ls : List Addr} {ws : List (List Int)} {n : Nat} (a : Wish H t ls ws n) (k : Same H H') : Wish H' t ls ws n := ⟨a.st.same k, a.l1, a.l4, a.g, a.n1, a.n4⟩
theorem Wish.tk {H H' : Hp} {t : Addr} {ls : List Addr} {ws : List (List Int)} {n : Nat} (a : Wish H t ls ws n) (k : TK H H') : Wish H' t ls ws n := ⟨a.st.tk k, a.l1, a.l4, a.g, a.n1, a.n4⟩
abbrev NT : List Str := ["stock", "collections", "totals", "spoiling"]
theorem scTotal : FnScope NT ["stock", "collections"] (defScope sTotal) := ⟨rfl, rfl, rfl, by decide +kernel, rfl, by decide +kernel, by decide +kernel⟩
section
variable {P : Program} {w : World} {K : PySem.W.Frag} {mg : Str → Option Value} {base : Heap}
def spTotal : Sp := fun vs H Q _ => ∃ (t b : Addr) (ls wl : List Addr) (rows ws : List (List Int)) (n : Nat), vs = [.ref t, .ref b] ∧ StockAt H t ls rows ∧ 1 ≤ rows.length ∧ rows.length ≤ 4 ∧ (∀ r ∈ rows, r.length = n) ∧ Wish H b wl ws n ∧
  ∀ H', Same H H' → Q (optI (totalOf (totalsOf rows n) ws n)) H'
theorem ok_total {f fN fU fV fTu fA fEr fO fSz fWm fWi fCs fCn fFu fCo fSp fCa fR fSt fAu fIp fI fFc fLo fSo fOv fDw fSv fSm : Addr} {fd dN dU dV dTu dA dEr dO dSz dWm dWi dCs dCn dFu dCo dSp dCa dR dSt dAu dIp dI dFc dLo dSo dOv dDw dSv dSm : FuncData} {k : Nat} (F : Fun K "sure_total" "sure_total" sTotal f fd) (T : Tx K mg fN fU fV fTu fA fEr fO fSz fWm fWi fCs fCn fFu fCo fSp fCa fR fSt fAu fIp fI fFc fLo fSo fOv fDw fSv fSm dN dU dV dTu dA dEr dO dSz dWm dWi dCs dCn dFu dCo dSp dCa dR dSt dAu dIp dI dFc dLo dSo dOv dDw dSv dSm) :
    FnOk P w K mg base CX0 (k + 3) f fd ["stock", "collections"] spTotal := by
  have GO : FnOk P w K mg base CX0 (k + 1) fO dO ["stock"] (spTotals K) := ok_totals T.O T.m_tuple T.m_sum T.m_zip
  have GR : FnOk P w K mg base CX0 (k + 1) fR dR ["totals", "caps"] spRoomOf := ok_roomof T.R T
  have GFu : FnOk P w K mg base CX0 (k + 2) fFu dFu ["collections", "counts"] spFul := ok_ful T.Fu T.Co T.bCo T.gCo T.m_all T.m_zip T.m_enumerate
  have GSp : FnOk P w K mg base CX0 (k + 1) fSp dSp ["collections"] spSpoil := ok_spoil T.Sp T.m_enumerate T.m_tuple
  have GCa : FnOk P w K mg base CX0 (k + 1) fCa dCa ["collections", "spoiling"] spCaps := ok_caps T.Ca T.m_enumerate T.m_zip T.m_min T.m_tuple
  refine F.ok scTotal (fun vs H Q E h => ?_) (fun cdv A outer s H vs Q E hr h => ?_)
  · obtain ⟨t, b, ls, wl, rows, ws, n, rfl, _⟩ := h
    rfl
  · obtain ⟨t, b, ls, wl, rows, ws, n, rfl, st, h1, h4, hrn, wi, q⟩ := h
    refine ⟨_, (pss_cons (ps_set (i := 2) scTotal.nd rfl (.inr rfl) (pe_call GO (hr.mono (by omega)) (by rfl) T.gO T.O.kp T.bO .nil pass0 (pa_cons (pv 0) pa_nil)))
      (pss_cons (ps_if (pt_cmpR op_isN (pe_call GFu (hr.mono (by omega)) (by rfl) T.gFu T.Fu.kp T.bFu .nil pass0 (pa_cons (pv 1) (pa_cons (pv 2) pa_nil))) pe_non (nomark _)) (pss_one (ps_ret pe_non)) pss_nil)
      (pss_one (ps_ret (pe_op op_add pe_int (pe_callB (show CallR _ _ (rMax K) from cr_max rfl) (by rfl) T.m_max (by decide +kernel) (pa_cons (pe_lc (own := [("spoiling", 3)]) (g := gName 3) rfl scTotal.nd (pi_tup (pe_call GSp (hr.mono (by omega)) (by rfl) T.gSp T.Sp.kp T.bSp .nil pass0 (pa_cons (pv 1) pa_nil))) (blkOk_by (own := [("spoiling", 3)]) (N := NT) (sc := defScope sTotal) (by decide +kernel)) (fun _ _ _ _ _ => (pg_name (i := 3) scTotal.nd rfl (Or.inl rfl))) (fun _ _ _ _ _ => pts_nil) (fun _ _ _ _ _ => (pe_call GR (hr.mono (by omega)) (by rfl) T.gR T.R.kp T.bR .nil pass0 (pa_cons (pv 2) (pa_cons (pe_call GCa (hr.mono (by omega)) (by rfl) T.gCa T.Ca.kp T.bCa .nil pass0 (pa_cons (pv 1) (pa_cons (pv 3) pa_nil))) pa_nil))))) pa_nil))))))), ?_⟩
    have hg := wi.g
    have hn4 := wi.n4
    have hw4 : ∀ r ∈ ws, r.length ≤ 4 := fun r hr => by rw [(hg r hr).len]; exact hn4
    refine ⟨_, rfl, t, ls, rows, n, rfl, .inl (SqT.of st.top), st.len, fun j l r e1 e2 => ⟨st.row j l r e1 e2, hrn r (List.mem_of_getElem? e2)⟩, (fun e => by rw [e] at h1; cases h1), h4, by omega, fun p H1 s1 _ hp => ?_⟩
    have hce : (totalsOf rows n).length = n := tot_len _ _
    refine ⟨_, rfl, _, rfl, b, p, wl, ws, totalsOf rows n, rfl, wi.st.same s1, hp, fun r hr => by rw [hce, (hg r hr).len], by omega, fun H2 s2 => ?_⟩
    have s12 := s1.trans s2
    refine ⟨rfl, _, rfl, ?_⟩
    unfold totalOf at q
    by_cases hf : fulOf ws (totalsOf rows n) = none
    · rw [hf]
      rw [if_pos hf] at q
      exact iteT (q _ s12)
    · rw [if_neg hf] at q
      have hd : decide (optV (fulOf ws (totalsOf rows n)) = V.non) = false := by
        cases e : fulOf ws (totalsOf rows n) with
        | none => exact absurd e hf
        | some j => exact decide_eq_false (fun z => by cases z)
      refine iteNx hd ?_
      refine ⟨_, rfl, b, wl, ws, rfl, wi.st.same s12, wi.l4, hw4, fun m as H3 s3 sp3 => ?_⟩
      have s13 := s12.trans s3
      refine ⟨m, rfl, ⟨_, SqT.of sp3.top⟩, fun D nD => ?_⟩
      have hrl : (roomsOf (totalsOf rows n) ws n).length = (spOf ws).length := by simp [roomsOf]
      have h256 := sp_len hw4 wi.l4
      refine lc_tup (xs := as.map V.ref) (fun i H' => H' D = some (.lst (((roomsOf (totalsOf rows n) ws n).take i).map V.int)) ∧ Same H3 H') ⟨upd_same, same_new nD⟩ (fun i H' _ h => SqT.of (h.2 _ _ sp3.top)) (fun i x H' hx h => ?_) (fun H' h => ?_)
      · obtain ⟨hD, s4⟩ := h
        obtain ⟨a, ha, rfl⟩ := get_map hx
        have hil : i < (spOf ws).length := by
          have := (List.getElem?_eq_some_iff.mp ha).1
          have := sp3.len
          omega
        have hsi : (spOf ws)[i]? = some (spOf ws)[i] := List.getElem?_eq_getElem hil
        have hmem : (spOf ws)[i] ∈ spR ws := by rw [← spOf_eq]; exact List.getElem_mem hil
        obtain ⟨hsl, _⟩ := spR_bd hw4 _ hmem
        have hz : (roomsOf (totalsOf rows n) ws n)[i]? = some (List.zipWith capv (totalsOf rows n) (capsOf ws (spOf ws)[i] n)).sum := by
          unfold roomsOf
          rw [List.getElem?_map, hsi]
          rfl
        have s14 := s13.trans s4
        refine ⟨rfl, _, rfl, _, rfl, _, rfl, b, a, wl, ws, (spOf ws)[i], n, rfl, wi.st.same s14, wi.l1, wi.l4, fun r hr => (hg r hr).len, by omega, s4 _ _ (sp3.row i a _ ha hsi), hsl, fun c H5 s5 hc => ?_⟩
        refine ⟨p, c, totalsOf rows n, capsOf ws (spOf ws)[i] n, rfl, s5 _ _ (s4 _ _ (s3 _ _ (s2 _ _ hp))), hc, by rw [hce, caps_len]; exact Nat.le_refl _, by omega, fun H6 s6 => ?_⟩
        have hD6 := s6 _ _ (s5 _ _ hD)
        refine ⟨_, hD6, ?_, ?_, fun b' o e => ?_⟩
        · rw [List.length_map, List.length_take]
          exact len_lt (by omega)
        · rw [upd_same, take_succ_map hz]
        · rw [upd_ne (ne_of_none e nD)]
          exact s6 _ _ (s5 _ _ (s4 b' o e))
      · obtain ⟨hD, s4⟩ := h
        rw [List.length_map, List.take_of_length_le (by rw [hrl, sp3.len]; exact Nat.le_refl _)] at hD
        have hne : 0 < (roomsOf (totalsOf rows n) ws n).length := by
          rw [hrl]
          exact List.length_pos_iff.mpr (sp_ne hg)
        refine ⟨D, _, rfl, SqL.of hD, hne, fun m hm hle => ?_⟩
        rw [maxL_uniq hm hle]
        exact ⟨1, _, rfl, rfl, q _ (s13.trans s4)⟩
end
end DD
namespace DD
open PySem PySem.Spec PyProof.Rows L2 RZ
theorem set_cut {α : Type} {xs : List α} {j : Nat} {v : α} (h : j < xs.length) : xs.take j ++ [v] ++ xs.drop (j + 1) = xs.set j v := by
  rw [List.set_eq_take_append_cons_drop, if_pos h, List.append_assoc]
  rfl
theorem td_set {H : Hp} : ∀ {xs : List V} {ds : List PyData} {j : Nat} {v : V} {d : PyData}, TdAll H xs ds → Td H v d → TdAll H (xs.set j v) (ds.set j d)
  | [], [], _, _, _, h, _ => h
  | x :: xs, e :: ds, 0, v, d, h, hv => by
    cases h with
    | cons a b => exact .cons hv b
  | x :: xs, e :: ds, j + 1, v, d, h, hv => by
    cases h with
    | cons a b => exact .cons a (td_set b hv)
theorem map_set' {α β : Type} (f : α → β) : ∀ (xs : List α) (j : Nat) (v : α), (xs.map f).set j (f v) = (xs.set j v).map f
  | [], _, _ => rfl
  | x :: xs, 0, v => rfl
  | x :: xs, j + 1, v => by
    show f x :: (xs.map f).set j (f v) = f x :: (xs.set j v).map f
    rw [map_set' f xs j v]
theorem scItem : FnScope ["row", "at", "item"] ["row", "at", "item"] (defScope sItem) := ⟨rfl, rfl, rfl, by decide +kernel, rfl, by decide +kernel, by decide +kernel⟩
theorem scMore : FnScope ["stock", "drawer", "kind", "count"] ["stock", "drawer", "kind", "count"] (defScope sMore) := ⟨rfl, rfl, rfl, by decide +kernel, rfl, by decide +kernel, by decide +kernel⟩
theorem scPos : FnScope ["value", "most"] ["value", "most"] (defScope sPos) := ⟨rfl, rfl, rfl, by decide +kernel, rfl, by decide +kernel, by decide +kernel⟩
theorem scSizes : FnScope ["stock", "drawer"] ["stock"] (defScope sSizes) := ⟨rfl, rfl, rfl, by decide +kernel, rfl, by decide +kernel, by decide +kernel⟩
section
variable {P : Program} {w : World} {K : PySem.W.Frag} {mg : Str → Option Value} {base : Heap}
def spPos : Sp := fun vs H Q _ => ∃ i m : Int, vs = [.int i, .int m] ∧ Q (.bl (numOk m (.int i) && decide (0 < i))) H
theorem ok_pos {f fN fU fV fTu fA fEr fO fSz fWm fWi fCs fCn fFu fCo fSp fCa fR fSt fAu fIp fI fFc fLo fSo fOv fDw fSv fSm : Addr} {fd dN dU dV dTu dA dEr dO dSz dWm dWi dCs dCn dFu dCo dSp dCa dR dSt dAu dIp dI dFc dLo dSo dOv dDw dSv dSm : FuncData} {k : Nat} (F : Fun K "is_positive_up_to" "is_positive_up_to" sPos f fd) (T : Tx K mg fN fU fV fTu fA fEr fO fSz fWm fWi fCs fCn fFu fCo fSp fCa fR fSt fAu fIp fI fFc fLo fSo fOv fDw fSv fSm dN dU dV dTu dA dEr dO dSz dWm dWi dCs dCn dFu dCo dSp dCa dR dSt dAu dIp dI dFc dLo dSo dOv dDw dSv dSm) : FnOk P w K mg base CX0 (k + 3) f fd ["value", "most"] spPos := by
  have GU : FnOk P w K mg base CX0 (k + 2) fU dU ["value", "most"] spUpTo := ok_upto T.U T.N T.bN T.gN T.m_isinstance T.m_int T.m_bool
  refine F.ok scPos (fun vs H Q E h => ?_) (fun cdv A outer s H vs Q E hr h => ?_)
  · obtain ⟨i, m, rfl, _⟩ := h
    rfl
  · obtain ⟨i, m, rfl, q⟩ := h
    refine ⟨_, pss_one (ps_ret (pe_and (pe_call GU (hr.mono (by omega)) (by rfl) T.gU T.U.kp T.bU .nil pass0 (pa_cons (pv 0) (pa_cons (pv 1) pa_nil))) (pe_one (pe_cmpR op_gt (pv 0) pe_int (nomark _))))), ?_⟩
    refine ⟨_, rfl, _, rfl, _, .int i, m, rfl, .int i, _, rfl, iteE (fun e => ?_) (fun e => ?_)⟩
    · rw [e, Bool.true_and] at q
      exact ⟨_, rfl, i, 0, rfl, rfl, q⟩
    · rw [e, Bool.false_and] at q
      exact q
def spItem : Sp := fun vs H Q _ => ∃ (a : Addr) (xs : List V) (j : Nat) (v : V), vs = [.ref a, .int (j : Int), v] ∧ H a = some (.tup xs) ∧ j < xs.length ∧ xs.length ≤ 900 ∧ ∀ p H', Same H H' → H' p = some (.tup (xs.set j v)) → Q (.ref p) H'
theorem ok_item {f : Addr} {fd : FuncData} {k : Nat} (F : Fun K "with_item" "with_item" sItem f fd) : FnOk P w K mg base CX0 (k + 1) f fd ["row", "at", "item"] spItem := by
  refine F.ok scItem (fun vs H Q E h => ?_) (fun cdv A outer s H vs Q E hr h => ?_)
  · obtain ⟨a, xs, j, v, rfl, _⟩ := h
    rfl
  · obtain ⟨a, xs, j, v, rfl, ha, hj, hl, q⟩ := h
    refine ⟨_, pss_one (ps_ret (pe_op op_catQ (pe_op op_catQ (pe_slice sl_tupQ (pv 0) po_none (po_some (pv 1))) (pe_tup (pa_cons (pv 2) pa_nil))) (pe_slice sl_tupQ (pv 0) (po_some (pe_op op_add (pv 1) pe_int)) po_none))), ?_⟩
    refine at_ret (at_op (at_op ?_))
    refine ⟨_, rfl, ?_⟩
    dsimp only [tNoPart]
    refine ⟨_, rfl, (j : Int), rfl, a, xs, rfl, ha, fun p1 H1 s1 h1 => ?_⟩
    rw [cutV_to] at h1
    refine ⟨_, rfl, by show 1 ≤ sizeLine; decide, fun p2 n2 => ?_⟩
    have s2 := same_new (o := .tup [v]) n2
    refine ⟨p1, p2, _, _, rfl, rfl, s2 _ _ h1, upd_same, by rw [List.length_take]; simp only [List.length_cons, List.length_nil]; omega, fun p3 H3 s3 h3 => ?_⟩
    have s13 := s1.trans (s2.trans s3)
    refine ⟨_, rfl, ?_⟩
    refine ⟨_, rfl, (j : Int), 1, rfl, rfl, (j : Int) + 1, rfl, ?_⟩
    refine ⟨a, xs, rfl, s13 _ _ ha, fun p4 H4 s4 h4 => ?_⟩
    rw [show ((j : Int) + 1) = ((j + 1 : Nat) : Int) by omega, cutV_from] at h4
    refine ⟨p3, p4, _, _, rfl, rfl, s4 _ _ h3, h4, by simp only [List.length_append, List.length_take, List.length_drop, List.length_cons, List.length_nil]; omega, fun p5 H5 s5 h5 => ?_⟩
    rw [set_cut hj] at h5
    exact q p5 H5 (s13.trans (s4.trans s5)) h5
/-- the stock with so many more of a kind in a drawer -/
def moreR (rows : List (List Int)) (d k : Nat) (c : Int) : List (List Int) := rows.set d ((rows.getD d []).set k ((rows.getD d []).getD k 0 + c))
def spMore : Sp := fun vs H Q _ => ∃ (t : Addr) (rows : List (List Int)) (d k : Nat) (c : Int), vs = [.ref t, .int (d : Int), .int (k : Int), .int c] ∧ Td H (.ref t) (stockD rows) ∧ d < rows.length ∧ k < (rows.getD d []).length ∧ rows.length ≤ 900 ∧ (rows.getD d []).length ≤ 900 ∧
  ∀ p H', Same H H' → Td H' (.ref p) (stockD (moreR rows d k c)) → Q (.ref p) H'
theorem ok_more {f fN fU fV fTu fA fEr fO fSz fWm fWi fCs fCn fFu fCo fSp fCa fR fSt fAu fIp fI fFc fLo fSo fOv fDw fSv fSm : Addr} {fd dN dU dV dTu dA dEr dO dSz dWm dWi dCs dCn dFu dCo dSp dCa dR dSt dAu dIp dI dFc dLo dSo dOv dDw dSv dSm : FuncData} {k : Nat} (F : Fun K "with_more" "with_more" sMore f fd) (T : Tx K mg fN fU fV fTu fA fEr fO fSz fWm fWi fCs fCn fFu fCo fSp fCa fR fSt fAu fIp fI fFc fLo fSo fOv fDw fSv fSm dN dU dV dTu dA dEr dO dSz dWm dWi dCs dCn dFu dCo dSp dCa dR dSt dAu dIp dI dFc dLo dSo dOv dDw dSv dSm) : FnOk P w K mg base CX0 (k + 2) f fd ["stock", "drawer", "kind", "count"] spMore := by
  have GWi : FnOk P w K mg base CX0 (k + 1) fWi dWi ["row", "at", "item"] spItem := ok_item T.Wi
  refine F.ok scMore (fun vs H Q E h => ?_) (fun cdv A outer s H vs Q E hr h => ?_)
  · obtain ⟨t, rows, d, k, c, rfl, _⟩ := h
    rfl
  · obtain ⟨t, rows, d, k, c, rfl, ht, hd, hk, hl, hl2, q⟩ := h
    refine ⟨_, pss_one (ps_ret (pe_call GWi (hr.mono (by omega)) (by rfl) T.gWi T.Wi.kp T.bWi .nil pass0 (pa_cons (pv 0) (pa_cons (pv 1) (pa_cons (pe_call GWi (hr.mono (by omega)) (by rfl) T.gWi T.Wi.kp T.bWi .nil pass0 (pa_cons (pe_ix (show IxR _ (rIxT K) from ix_tup) (pv 0) (pv 1) (fun _ _ => rfl)) (pa_cons (pv 2) (pa_cons (pe_op op_add (pe_ix (show IxR _ (rIxT K) from ix_tup) (pe_ix (show IxR _ (rIxT K) from ix_tup) (pv 0) (pv 1) (fun _ _ => rfl)) (pv 2) (fun _ _ => rfl)) (pv 3)) pa_nil)))) pa_nil))))), ?_⟩
    obtain ⟨t', ls, e, st⟩ := td_stockI ht
    cases e
    have hr : rows[d]? = some (rows.getD d []) := by
      rw [List.getD_eq_getElem?_getD, List.getElem?_eq_getElem hd]
      rfl
    have hle := st.len
    obtain ⟨l, hlx⟩ : ∃ l, ls[d]? = some l := ⟨_, List.getElem?_eq_getElem (by omega)⟩
    have hrow := st.row d l _ hlx hr
    generalize hw : rows.getD d [] = r at hk hl2 hr hrow
    have hx : r[k]? = some (r.getD k 0) := by
      rw [List.getD_eq_getElem?_getD, List.getElem?_eq_getElem hk]
      rfl
    have hix : (ls.map V.ref)[d]? = some (.ref l) := by rw [List.getElem?_map, hlx]; rfl
    have hix2 : (r.map V.int)[k]? = some (.int (r.getD k 0)) := by rw [List.getElem?_map, hx]; rfl
    refine ⟨_, rfl, _, rfl, ?_⟩
    refine ⟨_, rfl, _, rfl, t, _, _, _, rfl, rfl, SqT.of st.top, atI_nat hix, ?_⟩
    refine ⟨_, rfl, ?_⟩
    refine ⟨_, rfl, _, rfl, t, _, _, _, rfl, rfl, SqT.of st.top, atI_nat hix, ?_⟩
    refine ⟨_, rfl, l, _, _, _, rfl, rfl, SqT.of hrow, atI_nat hix2, ?_⟩
    refine ⟨_, rfl, _, _, rfl, rfl, ?_⟩
    refine ⟨l, r.map V.int, k, _, rfl, hrow, by rw [List.length_map]; exact hk, by rw [List.length_map]; exact hl2, fun p1 H1 s1 h1 => ?_⟩
    rw [map_set' V.int] at h1
    refine ⟨t, ls.map V.ref, d, .ref p1, rfl, s1 _ _ st.top, by rw [List.length_map]; omega, by rw [List.length_map]; omega, fun p2 H2 s2 h2 => ?_⟩
    refine q p2 H2 (s1.trans s2) (.tup h2 ?_)
    unfold moreR
    rw [← map_set' rowD, hw]
    exact td_set (td_rows ls rows st.len (fun j l r e1 e2 => s2 _ _ (s1 _ _ (st.row j l r e1 e2)))) (td_row (s2 _ _ h1))
def spSizes : Sp := fun vs H Q _ => ∃ (t : Addr) (ls : List Addr) (rows : List (List Int)), vs = [.ref t] ∧ StockAt H t ls rows ∧ rows.length ≤ 100 ∧
  ∀ p H', Same H H' → H p = none → H' p = some (.tup ((sizesOf rows).map V.int)) → Q (.ref p) H'
theorem ok_sizes {f : Addr} {fd : FuncData} {k : Nat} (F : Fun K "sizes_of" "sizes_of" sSizes f fd) (mt : mg "tuple" = none) (ms : mg "sum" = none) : FnOk P w K mg base CX0 (k + 1) f fd ["stock"] spSizes := by
  refine F.ok scSizes (fun vs H Q E h => ?_) (fun cdv A outer s H vs Q E hr h => ?_)
  · obtain ⟨t, ls, rows, rfl, _⟩ := h
    rfl
  · obtain ⟨t, ls, rows, rfl, st, hlen, q⟩ := h
    refine ⟨_, pss_one (ps_ret (pe_callTy call_tuple_of (by rfl) mt (by decide +kernel) (pa_cons (pe_lc (own := [("drawer", 1)]) (g := gName 1) rfl scSizes.nd (pi_tup (pv 0))
      (blkOk_by (own := [("drawer", 1)]) (N := ["stock", "drawer"]) (sc := defScope sSizes) (by decide +kernel)) (fun _ _ _ _ _ => pg_name (i := 1) scSizes.nd rfl (Or.inl rfl)) (fun _ _ _ _ _ => pts_nil)
      (fun _ _ _ _ _ => pe_callB (show CallR _ _ (fun vs H Q => ∃ (a : Addr) (ns : List Int), vs = [V.ref a] ∧ SqT K H a (ns.map V.int) ∧ Q (.int ns.sum) H) from cr_sumT rfl) (by rfl) ms (by decide +kernel) (pa_cons (pv 1) pa_nil))) pa_nil))), ?_⟩
    refine ⟨.ref t, rfl, t, rfl, ⟨_, SqT.of st.top⟩, fun D nD => ?_⟩
    refine lc_tup (xs := ls.map V.ref) (fun i H' => H' D = some (.lst (((sizesOf rows).take i).map V.int)) ∧ Same H H') ⟨upd_same, same_new nD⟩ (fun i H' _ h => SqT.of (h.2 _ _ st.top)) (fun i x H' hx h => ?_) (fun H' h => ?_)
    · obtain ⟨hD, sm⟩ := h
      obtain ⟨l, hl, rfl⟩ := get_map hx
      have hil : i < rows.length := by
        have := (List.getElem?_eq_some_iff.mp hl).1
        have := st.len
        omega
      have hr : rows[i]? = some rows[i] := List.getElem?_eq_getElem hil
      have hs : (sizesOf rows)[i]? = some rows[i].sum := by
        unfold sizesOf
        rw [List.getElem?_map, hr]
        rfl
      refine ⟨rfl, .ref l, rfl, l, rows[i], rfl, SqT.of (sm _ _ (st.row i l _ hl hr)), _, hD, ?_, ?_, fun b o e => ?_⟩
      · rw [List.length_map, List.length_take]
        exact len_lt (by omega)
      · rw [upd_same, take_succ_map hs]
      · rw [upd_ne (ne_of_none e nD)]
        exact sm b o e
    · obtain ⟨hD, sm⟩ := h
      rw [List.length_map, st.len, List.take_of_length_le (by simp [sizesOf])] at hD
      exact ⟨D, _, rfl, .inl ⟨SqL.of hD, fun p np => q p _ (sm.trans (same_new np)) (sm.free np) upd_same⟩⟩

end
end DD
namespace DD
open PySem PySem.Spec PyProof.Rows L2 RZ
mutual
theorem td_dqD {H : Hp} : ∀ (d : PyData) (v : V), Td H v d → Dq H v d
  | .none, _, h => by cases h; exact .non
  | .bool b, _, h => by cases h; exact .bl b
  | .int i, _, h => by cases h; exact .int i
  | .str x, _, h => by cases h; exact .str x
  | .list ds, _, h => by cases h
  | .tuple ds, _, h => by
    cases h with
    | tup a b => exact .tup a (tds_dqD ds _ b)
  | .dict kvs, _, h => by cases h
theorem tds_dqD {H : Hp} : ∀ (ds : List PyData) (vs : List V), TdAll H vs ds → DqAll H vs ds
  | [], _, h => by cases h; exact .nil
  | d :: ds, _, h => by
    cases h with
    | cons a b => exact .cons (td_dqD d _ a) (tds_dqD ds _ b)
end
theorem Td.dq {H : Hp} {v : V} {d : PyData} (h : Td H v d) : Dq H v d := td_dqD d v h
theorem allOk_ints {r : List Int} (h : ∀ y ∈ r, 0 ≤ y ∧ y ≤ 50) : (r.map PyData.int).all (numOk 50) = true := by
  rw [List.all_eq_true]
  intro d hd
  obtain ⟨y, hy, rfl⟩ := List.mem_map.mp hd
  have := h y hy
  show (decide (0 ≤ y) && decide (y ≤ 50)) = true
  rw [decide_eq_true this.1, decide_eq_true this.2]
  rfl
/-- a stock and a wish for n kinds -/
structure Sg (rows ws : List (List Int)) (n : Nat) : Prop where
  r1 : 1 ≤ rows.length
  r4 : rows.length ≤ 4
  rg : ∀ r ∈ rows, r.length = n ∧ ∀ y ∈ r, 0 ≤ y ∧ y ≤ 50
  w1 : 1 ≤ ws.length
  w4 : ws.length ≤ 4
  wg : ∀ r ∈ ws, Good n 50 r
  n1 : 1 ≤ n
  n4 : n ≤ 4
theorem slim_rows {rows : List (List Int)} {n : Nat} (h : rows.length ≤ 4) (hr : ∀ r ∈ rows, r.length = n) (hn : n ≤ 4) : Slim (stockD rows) := by
  refine ⟨?_, fun ds e x hx => ?_⟩
  · show (rows.map rowD).length ≤ 1000
    rw [List.length_map]
    omega
  · cases e
    obtain ⟨r, hr2, rfl⟩ := List.mem_map.mp hx
    show (r.map PyData.int).length ≤ 1000
    rw [List.length_map, hr r hr2]
    omega
theorem Sg.err {rows ws : List (List Int)} {n : Nat} (g : Sg rows ws n) : errD (stockD rows) = .none := by
  refine errD_good (by rw [List.length_map]; exact ⟨g.r1, g.r4⟩) fun x hx => ?_
  have hk : kindsOfD (rows.map rowD) = n := by
    cases e : rows with
    | nil => have := g.r1; rw [e] at this; simp at this
    | cons r rs =>
      show (r.map PyData.int).length = n
      rw [List.length_map]
      exact (g.rg r (by rw [e]; exact List.mem_cons_self)).1
  obtain ⟨r, hr, rfl⟩ := List.mem_map.mp hx
  obtain ⟨h1, h2⟩ := g.rg r hr
  rw [hk]
  have hl : lenD (rowD r) = n := by
    show (r.map PyData.int).length = n
    rw [List.length_map, h1]
  exact rowGood_iff.mpr ⟨rfl, by rw [hl]; exact g.n1, by rw [hl]; exact g.n4, hl, allOk_ints h2⟩
theorem good_sum {n : Nat} {r : List Int} (h : Good n 50 r) : 0 < r.sum := by
  obtain ⟨x, hx, h0⟩ := h.pos
  have := sum_ge (fun y hy => (h.bd y hy).1) x hx
  omega
theorem good_col {n : Nat} {r : List Int} (h : Good n 50 r) : colOk (n : Int) (rowD r) = true := by
  unfold rowD
  rw [colOk_of, h.len, allOk_ints h.bd, decide_eq_true (good_sum h), decide_eq_true (Int.le_refl _)]
  rfl
theorem Sg.are {rows ws : List (List Int)} {n : Nat} (g : Sg rows ws n) : areOk (n : Int) (stockD ws) = true := by
  have h1 : (1 : Int) ≤ ((ws.map rowD).length : Int) := by rw [List.length_map]; have := g.w1; omega
  have h4 : ((ws.map rowD).length : Int) ≤ 4 := by rw [List.length_map]; have := g.w4; omega
  show ((true && (decide ((1 : Int) ≤ ((ws.map rowD).length : Int)) && decide (((ws.map rowD).length : Int) ≤ 4))) && (ws.map rowD).all (colOk (n : Int))) = true
  rw [decide_eq_true h1, decide_eq_true h4, Bool.true_and, Bool.true_and, Bool.true_and, List.all_eq_true]
  intro d hd
  obtain ⟨r, hr, rfl⟩ := List.mem_map.mp hd
  exact good_col (g.wg r hr)
theorem Sg.wish {rows ws : List (List Int)} {n : Nat} (g : Sg rows ws n) {H : Hp} {b : Addr} (h : Td H (.ref b) (stockD ws)) : ∃ wl, Wish H b wl ws n := by
  obtain ⟨b', wl, e, st⟩ := td_stockI h
  cases e
  exact ⟨wl, st, g.w1, g.w4, g.wg, g.n1, g.n4⟩
/-- the number that is enough in this state -/
def sureV (rows ws : List (List Int)) (n : Nat) : V := optI (totalOf (totalsOf rows n) ws n)
/-- an edit that stands, and the state before it -/
abbrev Hst := PyData × List (List Int) × List (List Int)
def histD (h : Hst) : PyData := .tuple [h.1, stockD h.2.1, stockD h.2.2]
abbrev Fs (a b c d e : V) : List (Str × V) := [("stock", a), ("collections", b), ("sure", c), ("past", d), ("watched", e)]
/-- a cabinet at x -/
structure CabAt (C : Addr) (H : Hp) (x : Addr) (rows ws : List (List Int)) (n : Nat) (hist : List Hst) : Prop where
  ex : ∃ dx t b tp, H x = some (.ins C dx (Fs (.ref t) (.ref b) (sureV rows ws n) (.ref tp) (.bl false))) ∧ Td H (.ref t) (stockD rows) ∧ Td H (.ref b) (stockD ws) ∧ Td H (.ref tp) (.tuple (hist.map histD))
  g : Sg rows ws n
theorem CabAt.tk {C : Addr} {H H' : Hp} {x : Addr} {rows ws : List (List Int)} {n : Nat} {hist : List Hst} (h : CabAt C H x rows ws n hist) (k : TK H H') (e : ∀ o, H x = some o → H' x = some o) : CabAt C H' x rows ws n hist := by
  obtain ⟨⟨dx, t, b, tp, h1, h2, h3, h4⟩, g⟩ := h
  exact ⟨⟨dx, t, b, tp, e _ h1, h2.tk k, h3.tk k, h4.tk k⟩, g⟩
theorem CabAt.same {C : Addr} {H H' : Hp} {x : Addr} {rows ws : List (List Int)} {n : Nat} {hist : List Hst} (h : CabAt C H x rows ws n hist) (k : Same H H') : CabAt C H' x rows ws n hist := h.tk (TK.same k) (k x)
theorem tk_ins {C dx x : Addr} {H H' : Hp} {fs : List (Str × V)} (h : H x = some (.ins C dx fs)) (k : Kp2 x x H H') : TK H H' := fun b xs e => k b _ (fun z => by rw [z, h] at e; cases e) (fun z => by rw [z, h] at e; cases e) e
theorem kp2x {x : Addr} {H : Hp} {o : HO} : Kp2 x x H (upd H x o) := kp2_upd1
theorem lk_stock {a b c d e : V} : List.lookup ("stock" : Str) (Fs a b c d e) = some a := rfl
theorem pf_stock {a b c d e z : V} : putF ("stock" : Str) z (Fs a b c d e) = Fs z b c d e := rfl
theorem lk_collections {a b c d e : V} : List.lookup ("collections" : Str) (Fs a b c d e) = some b := rfl
theorem pf_collections {a b c d e z : V} : putF ("collections" : Str) z (Fs a b c d e) = Fs a z c d e := rfl
theorem lk_sure {a b c d e : V} : List.lookup ("sure" : Str) (Fs a b c d e) = some c := rfl
theorem pf_sure {a b c d e z : V} : putF ("sure" : Str) z (Fs a b c d e) = Fs a b z d e := rfl
theorem lk_past {a b c d e : V} : List.lookup ("past" : Str) (Fs a b c d e) = some d := rfl
theorem pf_past {a b c d e z : V} : putF ("past" : Str) z (Fs a b c d e) = Fs a b c z e := rfl
theorem lk_watched {a b c d e : V} : List.lookup ("watched" : Str) (Fs a b c d e) = some e := rfl
theorem pf_watched {a b c d e z : V} : putF ("watched" : Str) z (Fs a b c d e) = Fs a b c d z := rfl
theorem lm_MOST_EDITS {a b c d e : V} : List.lookup ("MOST_EDITS" : Str) (Fs a b c d e) = none := rfl
theorem lm_check_idle {a b c d e : V} : List.lookup ("check_idle" : Str) (Fs a b c d e) = none := rfl
theorem lm_check_edit {a b c d e : V} : List.lookup ("check_edit" : Str) (Fs a b c d e) = none := rfl
theorem lm_check_things {a b c d e : V} : List.lookup ("check_things" : Str) (Fs a b c d e) = none := rfl
theorem lm_check_sure {a b c d e : V} : List.lookup ("check_sure" : Str) (Fs a b c d e) = none := rfl
theorem lm_change {a b c d e : V} : List.lookup ("change" : Str) (Fs a b c d e) = none := rfl
theorem lm_put {a b c d e : V} : List.lookup ("put" : Str) (Fs a b c d e) = none := rfl
theorem lm_remove {a b c d e : V} : List.lookup ("remove" : Str) (Fs a b c d e) = none := rfl
theorem lm_wish {a b c d e : V} : List.lookup ("wish" : Str) (Fs a b c d e) = none := rfl
theorem lm_drop {a b c d e : V} : List.lookup ("drop" : Str) (Fs a b c d e) = none := rfl
theorem lm_edits {a b c d e : V} : List.lookup ("edits" : Str) (Fs a b c d e) = none := rfl
theorem lm_state {a b c d e : V} : List.lookup ("state" : Str) (Fs a b c d e) = none := rfl
/-- the class -/
structure CT (K : PySem.W.Frag) (mg : Str → Option Value) (C hIn hPu hRe hWi hDr hId hEd hTh hSu hCh hSt hEs hLn hSr hUn hAt hDb hDe hCf : Addr) (eIn ePu eRe eWi eDr eId eEd eTh eSu eCh eSt eEs eLn eSr eUn eAt eDb eDe eCf : FuncData) : Prop where
  cl : Cls K C
  gC : mg "Cabinet" = some (.ref C)
  con : ∃ u, Con K C "MOST_EDITS" (.int 60) u
  mkC : Mk K C hIn
  aS : NoAttr K C "stock"
  aC : NoAttr K C "collections"
  aU : NoAttr K C "sure"
  aP : NoAttr K C "past"
  aW : NoAttr K C "watched"
  FIn : Fun K "__init__" "Cabinet.__init__" cInit hIn eIn
  BIn : Binds K eIn ["self", "stock", "collections"] []
  FPu : Fun K "put" "Cabinet.put" cPut hPu ePu
  MPu : Meth K C "put" hPu
  BPu : Binds K ePu ["self", "drawer", "kind", "count"] []
  FRe : Fun K "remove" "Cabinet.remove" cRem hRe eRe
  MRe : Meth K C "remove" hRe
  BRe : Binds K eRe ["self", "drawer", "kind", "count"] []
  FWi : Fun K "wish" "Cabinet.wish" cWish hWi eWi
  MWi : Meth K C "wish" hWi
  BWi : Binds K eWi ["self", "collection"] []
  FDr : Fun K "drop" "Cabinet.drop" cDrop hDr eDr
  MDr : Meth K C "drop" hDr
  BDr : Binds K eDr ["self", "index"] []
  FId : Fun K "check_idle" "Cabinet.check_idle" cIdle hId eId
  MId : Meth K C "check_idle" hId
  BId : Binds K eId ["self"] []
  FEd : Fun K "check_edit" "Cabinet.check_edit" cEdit hEd eEd
  MEd : Meth K C "check_edit" hEd
  BEd : Binds K eEd ["self"] []
  FTh : Fun K "check_things" "Cabinet.check_things" cThings hTh eTh
  MTh : Meth K C "check_things" hTh
  BTh : Binds K eTh ["self", "drawer", "kind", "count"] []
  FSu : Fun K "check_sure" "Cabinet.check_sure" cSure hSu eSu
  MSu : Meth K C "check_sure" hSu
  BSu : Binds K eSu ["self", "sure"] []
  FCh : Fun K "change" "Cabinet.change" cChange hCh eCh
  MCh : Meth K C "change" hCh
  BCh : Binds K eCh ["self", "edit", "stock", "collections"] []
  FSt : Fun K "state" "Cabinet.state" cState hSt eSt
  MSt : Meth K C "state" hSt
  BSt : ∃ ds, Vals [.non] ds ∧ Binds K eSt ["self", "version"] ds
  FEs : Fun K "edits" "Cabinet.edits" cEdits hEs eEs
  MEs : Meth K C "edits" hEs
  BEs : Binds K eEs ["self"] []
  FLn : Fun K "__len__" "Cabinet.__len__" cLen hLn eLn
  MLn : Meth K C "__len__" hLn
  BLn : Binds K eLn ["self"] []
  FSr : Fun K "__str__" "Cabinet.__str__" cStr hSr eSr
  MSr : Meth K C "__str__" hSr
  BSr : Binds K eSr ["self"] []
  FUn : Fun K "undo" "Cabinet.undo" cUndo hUn eUn
  MUn : Meth K C "undo" hUn
  BUn : Binds K eUn ["self"] []
  FAt : Fun K "attempt" "Cabinet.attempt" cAtt hAt eAt
  MAt : Meth K C "attempt" hAt
  BAt : ∃ ds, Vals [.non] ds ∧ Binds K eAt ["self", "edits", "watch"] ds
  FDb : Fun K "do_batch" "Cabinet.do_batch" cDoB hDb eDb
  MDb : Meth K C "do_batch" hDb
  BDb : Binds K eDb ["self", "batch", "watch"] []
  FDe : Fun K "do_edit" "Cabinet.do_edit" cDoE hDe eDe
  MDe : Meth K C "do_edit" hDe
  BDe : Binds K eDe ["self", "edit"] []
  FCf : Fun K "certificate" "Cabinet.certificate" cCert hCf eCf
  MCf : Meth K C "certificate" hCf
  BCf : ∃ ds, Vals [.non] ds ∧ Binds K eCf ["self", "plan", "version"] ds
theorem scIn : FnScope ["self", "stock", "collections", "error"] ["self", "stock", "collections"] (defScope cInit) := ⟨rfl, rfl, rfl, by decide +kernel, rfl, by decide +kernel, by decide +kernel⟩
theorem scPu : FnScope ["self", "drawer", "kind", "count", "total", "stock"] ["self", "drawer", "kind", "count"] (defScope cPut) := ⟨rfl, rfl, rfl, by decide +kernel, rfl, by decide +kernel, by decide +kernel⟩
theorem scRe : FnScope ["self", "drawer", "kind", "count", "stock"] ["self", "drawer", "kind", "count"] (defScope cRem) := ⟨rfl, rfl, rfl, by decide +kernel, rfl, by decide +kernel, by decide +kernel⟩
theorem scWi : FnScope ["self", "collection"] ["self", "collection"] (defScope cWish) := ⟨rfl, rfl, rfl, by decide +kernel, rfl, by decide +kernel, by decide +kernel⟩
theorem scDr : FnScope ["self", "index", "left"] ["self", "index"] (defScope cDrop) := ⟨rfl, rfl, rfl, by decide +kernel, rfl, by decide +kernel, by decide +kernel⟩
theorem scId : FnScope ["self"] ["self"] (defScope cIdle) := ⟨rfl, rfl, rfl, by decide +kernel, rfl, by decide +kernel, by decide +kernel⟩
theorem scEd : FnScope ["self"] ["self"] (defScope cEdit) := ⟨rfl, rfl, rfl, by decide +kernel, rfl, by decide +kernel, by decide +kernel⟩
theorem scTh : FnScope ["self", "drawer", "kind", "count"] ["self", "drawer", "kind", "count"] (defScope cThings) := ⟨rfl, rfl, rfl, by decide +kernel, rfl, by decide +kernel, by decide +kernel⟩
theorem scSu : FnScope ["self", "sure"] ["self", "sure"] (defScope cSure) := ⟨rfl, rfl, rfl, by decide +kernel, rfl, by decide +kernel, by decide +kernel⟩
theorem scCh : FnScope ["self", "edit", "stock", "collections", "sure"] ["self", "edit", "stock", "collections"] (defScope cChange) := ⟨rfl, rfl, rfl, by decide +kernel, rfl, by decide +kernel, by decide +kernel⟩
theorem scSt : FnScope ["self", "version", "_", "stock", "collections"] ["self", "version"] (defScope cState) := ⟨rfl, rfl, rfl, by decide +kernel, rfl, by decide +kernel, by decide +kernel⟩
theorem scEs : FnScope ["self", "step"] ["self"] (defScope cEdits) := ⟨rfl, rfl, rfl, by decide +kernel, rfl, by decide +kernel, by decide +kernel⟩
theorem scLn : FnScope ["self"] ["self"] (defScope cLen) := ⟨rfl, rfl, rfl, by decide +kernel, rfl, by decide +kernel, by decide +kernel⟩
theorem scSr : FnScope ["self"] ["self"] (defScope cStr) := ⟨rfl, rfl, rfl, by decide +kernel, rfl, by decide +kernel, by decide +kernel⟩
theorem scUn : FnScope ["self", "_"] ["self"] (defScope cUndo) := ⟨rfl, rfl, rfl, by decide +kernel, rfl, by decide +kernel, by decide +kernel⟩
theorem scDb : FnScope ["self", "batch", "watch", "index", "edit"] ["self", "batch", "watch"] (defScope cDoB) := ⟨rfl, rfl, rfl, by decide +kernel, rfl, by decide +kernel, by decide +kernel⟩
theorem scDe : FnScope ["self", "edit", "name", "values", "drawer", "kind", "count"] ["self", "edit"] (defScope cDoE) := ⟨rfl, rfl, rfl, by decide +kernel, rfl, by decide +kernel, by decide +kernel⟩
theorem scAt : FnScope ["self", "edits", "watch", "batch", "stock", "collections", "sure", "past", "done"] ["self", "edits", "watch"] (defScope cAtt) := ⟨rfl, rfl, rfl, by decide +kernel, rfl, by decide +kernel, by decide +kernel⟩
theorem scCf : FnScope ["self", "plan", "version", "stock", "collections"] ["self", "plan", "version"] (defScope cCert) := ⟨rfl, rfl, rfl, by decide +kernel, rfl, by decide +kernel, by decide +kernel⟩
section
variable {P : Program} {w : World} {K : PySem.W.Frag} {mg : Str → Option Value} {base : Heap}
def spIdle (C : Addr) : Sp := fun vs H Q _ => ∃ (x dx : Addr) (fs : List (Str × V)), vs = [.ref x] ∧ H x = some (.ins C dx fs) ∧ List.lookup ("watched" : Str) fs = some (.bl false) ∧ Q .non H
theorem ok_id {f fN fU fV fTu fA fEr fO fSz fWm fWi fCs fCn fFu fCo fSp fCa fR fSt fAu fIp fI fFc fLo fSo fOv fDw fSv fSm : Addr} {fd dN dU dV dTu dA dEr dO dSz dWm dWi dCs dCn dFu dCo dSp dCa dR dSt dAu dIp dI dFc dLo dSo dOv dDw dSv dSm : FuncData} {C hIn hPu hRe hWi hDr hId hEd hTh hSu hCh hSt hEs hLn hSr hUn hAt hDb hDe hCf : Addr} {eIn ePu eRe eWi eDr eId eEd eTh eSu eCh eSt eEs eLn eSr eUn eAt eDb eDe eCf : FuncData} {k : Nat} (F : Fun K "check_idle" "Cabinet.check_idle" cIdle f fd) (T : Tx K mg fN fU fV fTu fA fEr fO fSz fWm fWi fCs fCn fFu fCo fSp fCa fR fSt fAu fIp fI fFc fLo fSo fOv fDw fSv fSm dN dU dV dTu dA dEr dO dSz dWm dWi dCs dCn dFu dCo dSp dCa dR dSt dAu dIp dI dFc dLo dSo dOv dDw dSv dSm) (X : CT K mg C hIn hPu hRe hWi hDr hId hEd hTh hSu hCh hSt hEs hLn hSr hUn hAt hDb hDe hCf eIn ePu eRe eWi eDr eId eEd eTh eSu eCh eSt eEs eLn eSr eUn eAt eDb eDe eCf) : FnOk P w K mg base CX0 (k + 1) f fd ["self"] (spIdle C) := by
  refine F.ok scId (fun vs H Q E h => ?_) (fun cdv A outer s H vs Q E hr h => ?_)
  · obtain ⟨x, dx, fs, rfl, _⟩ := h
    rfl
  · obtain ⟨x, dx, fs, rfl, hx, hw, q⟩ := h
    refine ⟨_, pss_one (ps_if (pt_val (pe_fld (pv 0) rfl)) (pss_one ps_never) pss_nil), ?_⟩
    exact ⟨_, rfl, x, C, dx, fs, _, rfl, hx, X.cl, X.aW, hw, _, rfl, iteF q⟩
def spSure : Sp := fun vs H Q _ => ∃ (v u : V), vs = [v, u] ∧ Q .non H
theorem ok_su {f fN fU fV fTu fA fEr fO fSz fWm fWi fCs fCn fFu fCo fSp fCa fR fSt fAu fIp fI fFc fLo fSo fOv fDw fSv fSm : Addr} {fd dN dU dV dTu dA dEr dO dSz dWm dWi dCs dCn dFu dCo dSp dCa dR dSt dAu dIp dI dFc dLo dSo dOv dDw dSv dSm : FuncData} {C hIn hPu hRe hWi hDr hId hEd hTh hSu hCh hSt hEs hLn hSr hUn hAt hDb hDe hCf : Addr} {eIn ePu eRe eWi eDr eId eEd eTh eSu eCh eSt eEs eLn eSr eUn eAt eDb eDe eCf : FuncData} {k : Nat} (F : Fun K "check_sure" "Cabinet.check_sure" cSure f fd) (T : Tx K mg fN fU fV fTu fA fEr fO fSz fWm fWi fCs fCn fFu fCo fSp fCa fR fSt fAu fIp fI fFc fLo fSo fOv fDw fSv fSm dN dU dV dTu dA dEr dO dSz dWm dWi dCs dCn dFu dCo dSp dCa dR dSt dAu dIp dI dFc dLo dSo dOv dDw dSv dSm) (X : CT K mg C hIn hPu hRe hWi hDr hId hEd hTh hSu hCh hSt hEs hLn hSr hUn hAt hDb hDe hCf eIn ePu eRe eWi eDr eId eEd eTh eSu eCh eSt eEs eLn eSr eUn eAt eDb eDe eCf) : FnOk P w K mg base CX0 (k + 1) f fd ["self", "sure"] spSure := by
  refine F.ok scSu (fun vs H Q E h => ?_) (fun cdv A outer s H vs Q E hr h => ?_)
  · obtain ⟨v, u, rfl, _⟩ := h
    rfl
  · obtain ⟨v, u, rfl, q⟩ := h
    refine ⟨_, pss_one ps_pass, q⟩
def spEdC (C : Addr) : Sp := fun vs H Q _ => ∃ (x dx tp : Addr) (fs : List (Str × V)) (ps : List V), vs = [.ref x] ∧ H x = some (.ins C dx fs) ∧ List.lookup ("watched" : Str) fs = some (.bl false) ∧ List.lookup ("past" : Str) fs = some (.ref tp) ∧ List.lookup ("MOST_EDITS" : Str) fs = none ∧ List.lookup ("check_idle" : Str) fs = none ∧
  H tp = some (.tup ps) ∧ ps.length ≤ 59 ∧ Q .non H
theorem ok_ed {f fN fU fV fTu fA fEr fO fSz fWm fWi fCs fCn fFu fCo fSp fCa fR fSt fAu fIp fI fFc fLo fSo fOv fDw fSv fSm : Addr} {fd dN dU dV dTu dA dEr dO dSz dWm dWi dCs dCn dFu dCo dSp dCa dR dSt dAu dIp dI dFc dLo dSo dOv dDw dSv dSm : FuncData} {C hIn hPu hRe hWi hDr hId hEd hTh hSu hCh hSt hEs hLn hSr hUn hAt hDb hDe hCf : Addr} {eIn ePu eRe eWi eDr eId eEd eTh eSu eCh eSt eEs eLn eSr eUn eAt eDb eDe eCf : FuncData} {k : Nat} (F : Fun K "check_edit" "Cabinet.check_edit" cEdit f fd) (T : Tx K mg fN fU fV fTu fA fEr fO fSz fWm fWi fCs fCn fFu fCo fSp fCa fR fSt fAu fIp fI fFc fLo fSo fOv fDw fSv fSm dN dU dV dTu dA dEr dO dSz dWm dWi dCs dCn dFu dCo dSp dCa dR dSt dAu dIp dI dFc dLo dSo dOv dDw dSv dSm) (X : CT K mg C hIn hPu hRe hWi hDr hId hEd hTh hSu hCh hSt hEs hLn hSr hUn hAt hDb hDe hCf eIn ePu eRe eWi eDr eId eEd eTh eSu eCh eSt eEs eLn eSr eUn eAt eDb eDe eCf) : FnOk P w K mg base CX0 (k + 2) f fd ["self"] (spEdC C) := by
  have GId : FnOk P w K mg base CX0 (k + 1) hId eId ["self"] (spIdle C) := ok_id X.FId T X
  obtain ⟨u, hcon⟩ := X.con
  refine F.ok scEd (fun vs H Q E h => ?_) (fun cdv A outer s H vs Q E hr h => ?_)
  · obtain ⟨x, dx, tp, fs, ps, rfl, _⟩ := h
    rfl
  · obtain ⟨x, dx, tp, fs, ps, rfl, hx, hw, hp, hm, hi, htp, hl, q⟩ := h
    refine ⟨_, (pss_cons (ps_expr (pe_meth0 (pv 0) X.cl X.MId GId (hr.mono (by omega)) X.BId .nil pass0))
      (pss_one (ps_if (pt_cmpR op_eq (pe_callB call_len_seq (by rfl) T.m_len PySem.boot_len (pa_cons (pe_fld (pv 0) rfl) pa_nil)) (pe_con (pv 0) rfl) (nomark _)) (pss_one ps_never) pss_nil))), ?_⟩
    refine ⟨_, rfl, x, dx, fs, rfl, hx, hi, x, dx, fs, rfl, hx, hw, ?_⟩
    refine ⟨_, rfl, x, C, dx, fs, _, rfl, hx, X.cl, X.aP, hp, tp, ps, rfl, .inr (SqT.of htp), ?_⟩
    refine ⟨_, rfl, x, C, dx, fs, _, u, rfl, hx, X.cl, hcon, hm, ?_⟩
    refine ⟨rfl, _, rfl, ?_⟩
    exact iteF2 (decide_eq_false (fun z => by have := V.int.inj z; omega)) q
end
end DD
namespace DD
open PySem PySem.Spec PyProof.Rows L2 RZ
section
variable {P : Program} {w : World} {K : PySem.W.Frag} {mg : Str → Option Value} {base : Heap}
theorem CabAt.kp {C : Addr} {H H' : Hp} {x : Addr} {rows ws : List (List Int)} {n : Nat} {hist : List Hst} (h : CabAt C H x rows ws n hist) (k : Same H H') : CabAt C H' x rows ws n hist := h.same k
theorem td_tupI {H : Hp} {p : Addr} {ds : List PyData} (h : Td H (.ref p) (.tuple ds)) : ∃ xs, H p = some (.tup xs) ∧ TdAll H xs ds := by
  cases h with
  | tup a b => exact ⟨_, a, b⟩
theorem row0 {H : Hp} {t : Addr} {rows : List (List Int)} (h : Td H (.ref t) (stockD rows)) (h1 : 1 ≤ rows.length) : ∃ ls l, StockAt H t ls rows ∧ (ls.map V.ref)[0]? = some (.ref l) ∧ H l = some (.tup ((rows.getD 0 []).map V.int)) := by
  obtain ⟨t', ls, e, st⟩ := td_stockI h
  cases e
  have hl := st.len
  obtain ⟨l, hlx⟩ : ∃ l, ls[0]? = some l := ⟨_, List.getElem?_eq_getElem (by omega)⟩
  refine ⟨ls, l, st, by rw [List.getElem?_map, hlx]; rfl, st.row 0 l _ hlx ?_⟩
  rw [List.getD_eq_getElem?_getD, List.getElem?_eq_getElem (by omega)]
  rfl
theorem Sg.getD {rows ws : List (List Int)} {n : Nat} (g : Sg rows ws n) {d : Nat} (h : d < rows.length) : (rows.getD d []).length = n ∧ ∀ y ∈ rows.getD d [], 0 ≤ y ∧ y ≤ 50 := by
  refine g.rg _ ?_
  rw [List.getD_eq_getElem?_getD, List.getElem?_eq_getElem h]
  exact List.getElem_mem h
def spThings (C : Addr) : Sp := fun vs H Q _ => ∃ (x : Addr) (d k : Nat) (c : Int) (rows ws : List (List Int)) (n : Nat) (hist : List Hst), vs = [.ref x, .int (d : Int), .int (k : Int), .int c] ∧ CabAt C H x rows ws n hist ∧ d < rows.length ∧ k < n ∧ 1 ≤ c ∧ c ≤ 50 ∧ Q .non H
theorem ok_th {f fN fU fV fTu fA fEr fO fSz fWm fWi fCs fCn fFu fCo fSp fCa fR fSt fAu fIp fI fFc fLo fSo fOv fDw fSv fSm : Addr} {fd dN dU dV dTu dA dEr dO dSz dWm dWi dCs dCn dFu dCo dSp dCa dR dSt dAu dIp dI dFc dLo dSo dOv dDw dSv dSm : FuncData} {C hIn hPu hRe hWi hDr hId hEd hTh hSu hCh hSt hEs hLn hSr hUn hAt hDb hDe hCf : Addr} {eIn ePu eRe eWi eDr eId eEd eTh eSu eCh eSt eEs eLn eSr eUn eAt eDb eDe eCf : FuncData} {k : Nat} (F : Fun K "check_things" "Cabinet.check_things" cThings f fd) (T : Tx K mg fN fU fV fTu fA fEr fO fSz fWm fWi fCs fCn fFu fCo fSp fCa fR fSt fAu fIp fI fFc fLo fSo fOv fDw fSv fSm dN dU dV dTu dA dEr dO dSz dWm dWi dCs dCn dFu dCo dSp dCa dR dSt dAu dIp dI dFc dLo dSo dOv dDw dSv dSm) (X : CT K mg C hIn hPu hRe hWi hDr hId hEd hTh hSu hCh hSt hEs hLn hSr hUn hAt hDb hDe hCf eIn ePu eRe eWi eDr eId eEd eTh eSu eCh eSt eEs eLn eSr eUn eAt eDb eDe eCf) : FnOk P w K mg base CX0 (k + 4) f fd ["self", "drawer", "kind", "count"] (spThings C) := by
  have GU : FnOk P w K mg base CX0 (k + 2) fU dU ["value", "most"] spUpTo := ok_upto T.U T.N T.bN T.gN T.m_isinstance T.m_int T.m_bool
  have GV : FnOk P w K mg base CX0 (k + 3) fV dV ["value", "most"] spPos := ok_pos T.V T
  obtain ⟨tkM, hM⟩ := T.mC
  refine F.ok scTh (fun vs H Q E h => ?_) (fun cdv A outer s H vs Q E hr h => ?_)
  · obtain ⟨x, d, k', c, rows, ws, n, hist, rfl, _⟩ := h
    rfl
  · obtain ⟨x, d, k', c, rows, ws, n, hist, rfl, hc, hd, hk, h1, h50, q⟩ := h
    refine ⟨_, (pss_cons (ps_if (pt_not (pt_val (pe_call GU (hr.mono (by omega)) (by rfl) T.gU T.U.kp T.bU .nil pass0 (pa_cons (pv 1) (pa_cons (pe_op op_sub (pe_callB call_len_seq (by rfl) T.m_len PySem.boot_len (pa_cons (pe_fld (pv 0) rfl) pa_nil)) pe_int) pa_nil))))) (pss_one ps_never) pss_nil)
      (pss_cons (ps_if (pt_not (pt_val (pe_call GU (hr.mono (by omega)) (by rfl) T.gU T.U.kp T.bU .nil pass0 (pa_cons (pv 2) (pa_cons (pe_op op_sub (pe_callB call_len_seq (by rfl) T.m_len PySem.boot_len (pa_cons (pe_ix (show IxR _ (rIxT K) from ix_tup) (pe_fld (pv 0) rfl) pe_int (fun _ _ => rfl)) pa_nil)) pe_int) pa_nil))))) (pss_one ps_never) pss_nil)
      (pss_one (ps_if (pt_not (pt_val (pe_call GV (hr.mono (by omega)) (by rfl) T.gV T.V.kp T.bV .nil pass0 (pa_cons (pv 3) (pa_cons (pe_glob (v := .int 50) rfl hM ⟨_, rfl⟩) pa_nil))))) (pss_one ps_never) pss_nil)))), ?_⟩
    obtain ⟨⟨dx, t, b, tp, hx, ht, hb, htp⟩, g⟩ := hc
    obtain ⟨ls, l, st, hl0, hrow⟩ := row0 ht g.r1
    have hg := g.getD (d := 0) (by have := g.r1; omega)
    have hlen := st.len
    refine ⟨_, rfl, ?_⟩
    refine ⟨_, rfl, x, C, dx, _, _, rfl, hx, X.cl, X.aS, lk_stock, ?_⟩
    refine ⟨t, _, rfl, .inr (SqT.of st.top), ?_⟩
    refine ⟨_, _, rfl, rfl, ?_⟩
    refine ⟨_, .int d, _, rfl, .int _, _, rfl, ?_⟩
    refine iteF2 (by
      show (!(decide ((0 : Int) ≤ d) && decide ((d : Int) ≤ ((ls.map V.ref).length : Int) - 1))) = false
      rw [List.length_map, decide_eq_true (by omega), decide_eq_true (by omega)]
      rfl) ?_
    refine ⟨_, rfl, ?_⟩
    refine ⟨_, rfl, x, C, dx, _, _, rfl, hx, X.cl, X.aS, lk_stock, ?_⟩
    refine ⟨t, _, 0, _, rfl, rfl, SqT.of st.top, atI_nat (j := 0) hl0, ?_⟩
    refine ⟨l, _, rfl, .inr (SqT.of hrow), ?_⟩
    refine ⟨_, _, rfl, rfl, ?_⟩
    refine ⟨_, .int k', _, rfl, .int _, _, rfl, ?_⟩
    refine iteF2 (by
      show (!(decide ((0 : Int) ≤ k') && decide ((k' : Int) ≤ (((rows.getD 0 []).map V.int).length : Int) - 1))) = false
      rw [List.length_map, hg.1, decide_eq_true (by omega), decide_eq_true (by omega)]
      rfl) ?_
    refine ⟨_, rfl, ?_⟩
    refine ⟨c, 50, rfl, _, rfl, ?_⟩
    refine iteF2 (by
      show (!((decide (0 ≤ c) && decide (c ≤ 50)) && decide (0 < c))) = false
      rw [decide_eq_true (by omega), decide_eq_true (by omega), decide_eq_true (by omega)]
      rfl) q
theorem td_snoc {H : Hp} : ∀ {xs : List V} {ds : List PyData} {v : V} {d : PyData}, TdAll H xs ds → Td H v d → TdAll H (xs ++ [v]) (ds ++ [d])
  | [], [], _, _, _, h => .cons h .nil
  | x :: xs, e :: ds, v, d, a, h => by
    cases a with
    | cons a1 a2 => exact .cons a1 (td_snoc a2 h)
def spChange (C : Addr) : Sp := fun vs H Q _ => ∃ (x t' b' : Addr) (e : V) (ed : PyData) (rows ws rows' ws' : List (List Int)) (n : Nat) (hist : List Hst), vs = [.ref x, e, .ref t', .ref b'] ∧ CabAt C H x rows ws n hist ∧ Td H e ed ∧ Td H (.ref t') (stockD rows') ∧ Td H (.ref b') (stockD ws') ∧ Sg rows' ws' n ∧ hist.length ≤ 900 ∧
  ∀ H', Kp2 x x H H' → CabAt C H' x rows' ws' n (hist ++ [(ed, rows, ws)]) → Q (.int ((hist.length + 1 : Nat) : Int)) H'
theorem ok_ch {f fN fU fV fTu fA fEr fO fSz fWm fWi fCs fCn fFu fCo fSp fCa fR fSt fAu fIp fI fFc fLo fSo fOv fDw fSv fSm : Addr} {fd dN dU dV dTu dA dEr dO dSz dWm dWi dCs dCn dFu dCo dSp dCa dR dSt dAu dIp dI dFc dLo dSo dOv dDw dSv dSm : FuncData} {C hIn hPu hRe hWi hDr hId hEd hTh hSu hCh hSt hEs hLn hSr hUn hAt hDb hDe hCf : Addr} {eIn ePu eRe eWi eDr eId eEd eTh eSu eCh eSt eEs eLn eSr eUn eAt eDb eDe eCf : FuncData} {k : Nat} (F : Fun K "change" "Cabinet.change" cChange f fd) (T : Tx K mg fN fU fV fTu fA fEr fO fSz fWm fWi fCs fCn fFu fCo fSp fCa fR fSt fAu fIp fI fFc fLo fSo fOv fDw fSv fSm dN dU dV dTu dA dEr dO dSz dWm dWi dCs dCn dFu dCo dSp dCa dR dSt dAu dIp dI dFc dLo dSo dOv dDw dSv dSm) (X : CT K mg C hIn hPu hRe hWi hDr hId hEd hTh hSu hCh hSt hEs hLn hSr hUn hAt hDb hDe hCf eIn ePu eRe eWi eDr eId eEd eTh eSu eCh eSt eEs eLn eSr eUn eAt eDb eDe eCf) : FnOk P w K mg base CX0 (k + 4) f fd ["self", "edit", "stock", "collections"] (spChange C) := by
  have GSt : FnOk P w K mg base CX0 (k + 3) fSt dSt ["stock", "collections"] spTotal := ok_total T.St T
  have GSu : FnOk P w K mg base CX0 (k + 1) hSu eSu ["self", "sure"] spSure := ok_su X.FSu T X
  refine F.ok scCh (fun vs H Q E h => ?_) (fun cdv A outer s H vs Q E hr h => ?_)
  · obtain ⟨x, t', b', e, ed, rows, ws, rows', ws', n, hist, rfl, _⟩ := h
    rfl
  · obtain ⟨x, t', b', e, ed, rows, ws, rows', ws', n, hist, rfl, hc, he, ht', hb', g', hl, q⟩ := h
    refine ⟨_, (pss_cons (ps_set (i := 4) scCh.nd rfl (.inl rfl) (pe_call GSt (hr.mono (by omega)) (by rfl) T.gSt T.St.kp T.bSt .nil pass0 (pa_cons (pv 2) (pa_cons (pv 3) pa_nil))))
      (pss_cons (ps_expr (pe_meth (pv 0) X.cl X.MSu GSu (hr.mono (by omega)) X.BSu .nil pass0 (pa_cons (pv 4) pa_nil)))
      (pss_cons (ps_fld (pv 0) (pe_tup (StX.pa_star (pe_fld (pv 0) rfl) (pa_cons (pe_tup (pa_cons (pv 1) (pa_cons (pe_fld (pv 0) rfl) (pa_cons (pe_fld (pv 0) rfl) pa_nil)))) pa_nil))) rfl)
      (pss_cons (ps_fld (pv 0) (pv 2) rfl)
      (pss_cons (ps_fld (pv 0) (pv 3) rfl)
      (pss_cons (ps_fld (pv 0) (pv 4) rfl)
      (pss_one (ps_ret (pe_callB call_len_seq (by rfl) T.m_len PySem.boot_len (pa_cons (pe_fld (pv 0) rfl) pa_nil)))))))))), ?_⟩
    obtain ⟨⟨dx, t, b, tp, hx, ht, hb, htp⟩, g⟩ := hc
    obtain ⟨_, ls', e1, st'⟩ := td_stockI ht'
    cases e1
    obtain ⟨wl', wi'⟩ := g'.wish hb'
    refine ⟨_, rfl, _, rfl, ?_⟩
    refine ⟨t', b', ls', wl', rows', ws', n, rfl, st', g'.r1, g'.r4, fun r hr => (g'.rg r hr).1, wi', fun H1 s1 => ?_⟩
    have hx1 := s1 _ _ hx
    refine ⟨_, rfl, x, dx, _, rfl, hx1, lm_check_sure, _, rfl, _, _, rfl, ?_⟩
    have htp1 := htp.same s1
    obtain ⟨ps, hps, hal⟩ := td_tupI htp1
    have hpl : ps.length = hist.length := by rw [hal.len, List.length_map]
    refine ⟨_, rfl, x, C, dx, _, _, rfl, hx1, X.cl, X.aP, lk_past, ?_⟩
    refine ⟨tp, ps, rfl, .inl (SqT.of hps), ?_⟩
    refine ⟨_, rfl, ?_⟩
    refine ⟨_, rfl, x, C, dx, _, _, rfl, hx1, X.cl, X.aS, lk_stock, ?_⟩
    refine ⟨_, rfl, x, C, dx, _, _, rfl, hx1, X.cl, X.aC, lk_collections, ?_⟩
    refine ⟨by show 3 ≤ sizeLine; decide, fun pe ne => ?_⟩
    have s2 := same_new (o := .tup [e, .ref t, .ref b]) ne
    refine ⟨by rw [List.length_append]; show ps.length + 1 ≤ sizeLine; exact Nat.le_of_lt (len_lt (by omega)), fun pp np => ?_⟩
    have s3 := same_new (o := .tup (ps ++ [.ref pe])) np
    have hpe := s3 _ _ (upd_same (H := H1) (a := pe) (o := HO.tup [e, .ref t, .ref b]))
    have hpp : (upd (upd H1 pe (.tup [e, .ref t, .ref b])) pp (.tup (ps ++ [.ref pe]))) pp = some (.tup (ps ++ [.ref pe])) := upd_same
    have s23 := s2.trans s3
    generalize upd (upd H1 pe (.tup [e, .ref t, .ref b])) pp (.tup (ps ++ [.ref pe])) = H3 at s3 hpe hpp s23 ⊢
    have s13 := s1.trans s23
    have hx3 := s23 _ _ hx1
    refine ⟨_, rfl, x, C, dx, _, rfl, hx3, X.cl, X.aP, by show 5 < 1000; decide, ?_⟩
    rw [pf_past]
    refine ⟨_, rfl, _, rfl, x, C, dx, _, rfl, upd_same, X.cl, X.aS, by show 5 < 1000; decide, ?_⟩
    rw [pf_stock]
    refine ⟨_, rfl, _, rfl, x, C, dx, _, rfl, upd_same, X.cl, X.aC, by show 5 < 1000; decide, ?_⟩
    rw [pf_collections]
    refine ⟨_, rfl, _, rfl, x, C, dx, _, rfl, upd_same, X.cl, X.aU, by show 5 < 1000; decide, ?_⟩
    rw [pf_sure]
    refine ⟨_, rfl, x, C, dx, _, _, rfl, upd_same, X.cl, X.aP, lk_past, ?_⟩
    have k4 : ∀ o1 o2 o3 o4 : HO, Kp2 x x H3 (upd (upd (upd (upd H3 x o1) x o2) x o3) x o4) := fun o1 o2 o3 o4 c o h _ e => by
      rw [upd_ne h, upd_ne h, upd_ne h, upd_ne h]
      exact e
    have tk := fun o1 o2 o3 o4 => tk_ins hx3 (k4 o1 o2 o3 o4)
    refine ⟨pp, ps ++ [.ref pe], rfl, .inr (SqT.of (tk _ _ _ _ _ _ hpp)), ?_⟩
    have hll : (ps ++ [V.ref pe]).length = hist.length + 1 := by rw [List.length_append, hpl]; rfl
    rw [hll]
    refine q _ ((kps s13).trans (k4 _ _ _ _)) ⟨⟨dx, t', b', pp, upd_same, (ht'.same s13).tk (tk _ _ _ _), (hb'.same s13).tk (tk _ _ _ _), .tup (tk _ _ _ _ _ _ hpp) ?_⟩, g'⟩
    rw [List.map_append]
    refine td_snoc ((hal.same s23).tk (tk _ _ _ _)) (.tup (tk _ _ _ _ _ _ hpe) (.cons ((he.same s13).tk (tk _ _ _ _)) (.cons ((ht.same s13).tk (tk _ _ _ _)) (.cons ((hb.same s13).tk (tk _ _ _ _)) .nil))))
end
end DD
namespace DD
open PySem PySem.Spec PyProof.Rows L2 RZ
theorem mem_set' {α : Type} {xs : List α} {j : Nat} {v y : α} (h : y ∈ xs.set j v) : y = v ∨ y ∈ xs := by
  rcases List.mem_or_eq_of_mem_set h with h | h
  · exact .inr h
  · exact .inl h
theorem Sg.more {rows ws : List (List Int)} {n : Nat} (g : Sg rows ws n) {d k : Nat} {c : Int} (hd : d < rows.length) (hk : k < n) (h0 : 0 ≤ (rows.getD d []).getD k 0 + c) (h1 : (rows.getD d []).getD k 0 + c ≤ 50) : Sg (moreR rows d k c) ws n := by
  have hg := g.getD hd
  refine { g with r1 := by unfold moreR; rw [List.length_set]; exact g.r1, r4 := by unfold moreR; rw [List.length_set]; exact g.r4, rg := fun r hr => ?_ }
  rcases mem_set' hr with rfl | h
  · refine ⟨by rw [List.length_set]; exact hg.1, fun y hy => ?_⟩
    rcases mem_set' hy with rfl | h
    · exact ⟨h0, h1⟩
    · exact hg.2 y h
  · exact g.rg r h
theorem Sg.wishes {rows ws ws' : List (List Int)} {n : Nat} (g : Sg rows ws n) (h1 : 1 ≤ ws'.length) (h4 : ws'.length ≤ 4) (h : ∀ r ∈ ws', Good n 50 r) : Sg rows ws' n := { g with w1 := h1, w4 := h4, wg := h }
section
variable {P : Program} {w : World} {K : PySem.W.Frag} {mg : Str → Option Value} {base : Heap}
def spPu (C : Addr) : Sp := fun vs H Q _ => ∃ (x : Addr) (d k : Nat) (c : Int) (rows ws : List (List Int)) (n : Nat) (hist : List Hst), vs = [.ref x, .int (d : Int), .int (k : Int), .int c] ∧ CabAt C H x rows ws n hist ∧ hist.length ≤ 59 ∧ d < rows.length ∧ k < n ∧ 1 ≤ c ∧ c ≤ 50 ∧ (rows.getD d []).getD k 0 + c ≤ 50 ∧
  ∀ H', Kp2 x x H H' → CabAt C H' x (moreR rows d k (c)) ws n (hist ++ [(.tuple [.str "put", .int d, .int k, .int c], rows, ws)]) → Q (.int ((hist.length + 1 : Nat) : Int)) H'
theorem ok_pu {f fN fU fV fTu fA fEr fO fSz fWm fWi fCs fCn fFu fCo fSp fCa fR fSt fAu fIp fI fFc fLo fSo fOv fDw fSv fSm : Addr} {fd dN dU dV dTu dA dEr dO dSz dWm dWi dCs dCn dFu dCo dSp dCa dR dSt dAu dIp dI dFc dLo dSo dOv dDw dSv dSm : FuncData} {C hIn hPu hRe hWi hDr hId hEd hTh hSu hCh hSt hEs hLn hSr hUn hAt hDb hDe hCf : Addr} {eIn ePu eRe eWi eDr eId eEd eTh eSu eCh eSt eEs eLn eSr eUn eAt eDb eDe eCf : FuncData} {k : Nat} (F : Fun K "put" "Cabinet.put" cPut f fd) (T : Tx K mg fN fU fV fTu fA fEr fO fSz fWm fWi fCs fCn fFu fCo fSp fCa fR fSt fAu fIp fI fFc fLo fSo fOv fDw fSv fSm dN dU dV dTu dA dEr dO dSz dWm dWi dCs dCn dFu dCo dSp dCa dR dSt dAu dIp dI dFc dLo dSo dOv dDw dSv dSm) (X : CT K mg C hIn hPu hRe hWi hDr hId hEd hTh hSu hCh hSt hEs hLn hSr hUn hAt hDb hDe hCf eIn ePu eRe eWi eDr eId eEd eTh eSu eCh eSt eEs eLn eSr eUn eAt eDb eDe eCf) : FnOk P w K mg base CX0 (k + 5) f fd ["self", "drawer", "kind", "count"] (spPu C) := by
  have GEd : FnOk P w K mg base CX0 (k + 2) hEd eEd ["self"] (spEdC C) := ok_ed X.FEd T X
  have GTh : FnOk P w K mg base CX0 (k + 4) hTh eTh ["self", "drawer", "kind", "count"] (spThings C) := ok_th X.FTh T X
  have GCh : FnOk P w K mg base CX0 (k + 4) hCh eCh ["self", "edit", "stock", "collections"] (spChange C) := ok_ch X.FCh T X
  have GWm : FnOk P w K mg base CX0 (k + 2) fWm dWm ["stock", "drawer", "kind", "count"] spMore := ok_more T.Wm T
  have GU : FnOk P w K mg base CX0 (k + 2) fU dU ["value", "most"] spUpTo := ok_upto T.U T.N T.bN T.gN T.m_isinstance T.m_int T.m_bool
  obtain ⟨tkM, hM⟩ := T.mC
  refine F.ok scPu (fun vs H Q E h => ?_) (fun cdv A outer s H vs Q E hr h => ?_)
  · obtain ⟨x, d, k', c, rows, ws, n, hist, rfl, _⟩ := h
    rfl
  · obtain ⟨x, d, k', c, rows, ws, n, hist, rfl, hc, hl, hd, hk, h1, h50, hz, q⟩ := h
    refine ⟨_, (pss_cons (ps_expr (pe_meth0 (pv 0) X.cl X.MEd GEd (hr.mono (by omega)) X.BEd .nil pass0))
      (pss_cons (ps_expr (pe_meth (pv 0) X.cl X.MTh GTh (hr.mono (by omega)) X.BTh .nil pass0 (pa_cons (pv 1) (pa_cons (pv 2) (pa_cons (pv 3) pa_nil)))))
      (pss_cons (ps_set (i := 4) scPu.nd rfl (.inl rfl) (pe_op op_add (pe_ix (show IxR _ (rIxT K) from ix_tup) (pe_ix (show IxR _ (rIxT K) from ix_tup) (pe_fld (pv 0) rfl) (pv 1) (fun _ _ => rfl)) (pv 2) (fun _ _ => rfl)) (pv 3)))
      (pss_cons (ps_if (pt_cmpR op_gt (pv 4) (pe_glob (v := .int 50) rfl hM ⟨_, rfl⟩) (nomark _)) (pss_one ps_never) pss_nil)
      (pss_cons (ps_set (i := 5) scPu.nd rfl (.inl rfl) (pe_call GWm (hr.mono (by omega)) (by rfl) T.gWm T.Wm.kp T.bWm .nil pass0 (pa_cons (pe_fld (pv 0) rfl) (pa_cons (pv 1) (pa_cons (pv 2) (pa_cons (pv 3) pa_nil))))))
      (pss_one (ps_ret (pe_meth (pv 0) X.cl X.MCh GCh (hr.mono (by omega)) X.BCh .nil pass0 (pa_cons (pe_tup (pa_cons pe_str (pa_cons (pv 1) (pa_cons (pv 2) (pa_cons (pv 3) pa_nil))))) (pa_cons (pv 5) (pa_cons (pe_fld (pv 0) rfl) pa_nil))))))))))), ?_⟩
    obtain ⟨⟨dx, t, b, tp, hx, ht, hb, htp⟩, g⟩ := hc
    have hc : CabAt C H x rows ws n hist := ⟨⟨dx, t, b, tp, hx, ht, hb, htp⟩, g⟩
    obtain ⟨ps, hps, hal⟩ := td_tupI htp
    have hpl : ps.length = hist.length := by rw [hal.len, List.length_map]
    refine ⟨_, rfl, x, dx, _, rfl, hx, lm_check_edit, x, dx, tp, _, ps, rfl, hx, lk_watched, lk_past, lm_MOST_EDITS, lm_check_idle, hps, by omega, ?_⟩
    refine ⟨_, rfl, x, dx, _, rfl, hx, lm_check_things, _, rfl, _, rfl, _, rfl, x, d, k', c, rows, ws, n, hist, rfl, hc, hd, hk, h1, h50, ?_⟩
    obtain ⟨t', ls, e1, stk⟩ := td_stockI ht
    cases e1
    have hlen := stk.len
    obtain ⟨l, hlx⟩ : ∃ l, ls[d]? = some l := ⟨_, List.getElem?_eq_getElem (by omega)⟩
    have hg := g.getD hd
    have hrow := stk.row d l (rows.getD d []) hlx (by rw [List.getD_eq_getElem?_getD, List.getElem?_eq_getElem hd]; rfl)
    have hix : (ls.map V.ref)[d]? = some (.ref l) := by rw [List.getElem?_map, hlx]; rfl
    generalize hw : rows.getD d [] = rw0 at hg hrow hz
    have hxx : rw0[k']? = some (rw0.getD k' 0) := by
      rw [List.getD_eq_getElem?_getD, List.getElem?_eq_getElem (by rw [hg.1]; exact hk)]
      rfl
    have hcell := hg.2 _ (List.mem_of_getElem? hxx)
    have hix2 : (rw0.map V.int)[k']? = some (.int (rw0.getD k' 0)) := by rw [List.getElem?_map, hxx]; rfl
    refine ⟨_, rfl, x, C, dx, _, _, rfl, hx, X.cl, X.aS, lk_stock, ?_⟩
    refine ⟨_, rfl, t, _, _, _, rfl, rfl, SqT.of stk.top, atI_nat hix, ?_⟩
    refine ⟨_, rfl, l, _, _, _, rfl, rfl, SqT.of hrow, atI_nat hix2, ?_⟩
    refine ⟨_, rfl, _, _, rfl, rfl, ?_⟩
    refine ⟨_, rfl, _, _, rfl, rfl, _, rfl, ?_⟩
    refine iteF2 (decide_eq_false (by omega)) ?_
    refine ⟨_, rfl, x, C, dx, _, _, rfl, hx, X.cl, X.aS, lk_stock, ?_⟩
    refine ⟨_, rfl, _, rfl, _, rfl, t, rows, d, k', c, rfl, ht, hd, by rw [hw, hg.1]; exact hk, by have := g.r4; omega, by rw [hw, hg.1]; have := g.n4; omega, fun p H1 s1 hp => ?_⟩
    have hx1 := s1 _ _ hx
    have hb1 := hb.same s1
    refine ⟨_, rfl, x, dx, _, rfl, hx1, lm_change, ?_⟩
    refine ⟨_, rfl, _, rfl, _, rfl, by show 4 ≤ sizeLine; decide, fun pe ne => ?_⟩
    have s2 := same_new (o := .tup [.str "put", .int d, .int k', .int c]) ne
    refine ⟨_, rfl, _, rfl, x, C, dx, _, _, rfl, s2 _ _ hx1, X.cl, X.aC, lk_collections, ?_⟩
    refine ⟨x, p, b, .ref pe, _, rows, ws, moreR rows d k' c, ws, n, hist, rfl, hc.same (s1.trans s2), .tup upd_same (.cons (.str _) (.cons (.int _) (.cons (.int _) (.cons (.int _) .nil)))), hp.same s2, hb1.same s2, g.more hd hk (by rw [hw]; omega) (by rw [hw]; exact hz), by omega, fun H2 k2 hc2 => q H2 ((kps (s1.trans s2)).trans k2) hc2⟩
end
end DD
namespace DD
open PySem PySem.Spec PyProof.Rows L2 RZ
theorem TdAll.takeT {H : Hp} : ∀ {xs : List V} {ds : List PyData}, TdAll H xs ds → ∀ j, TdAll H (xs.take j) (ds.take j)
  | [], [], _, j => by rw [List.take_nil, List.take_nil]; exact .nil
  | x :: xs, d :: ds, _, 0 => .nil
  | x :: xs, d :: ds, h, j + 1 => by
    cases h with
    | cons a b => exact .cons a (b.takeT j)
theorem TdAll.dropT {H : Hp} : ∀ {xs : List V} {ds : List PyData}, TdAll H xs ds → ∀ j, TdAll H (xs.drop j) (ds.drop j)
  | [], [], _, j => by rw [List.drop_nil, List.drop_nil]; exact .nil
  | x :: xs, d :: ds, h, 0 => h
  | x :: xs, d :: ds, h, j + 1 => by
    cases h with
    | cons a b => exact b.dropT j
theorem TdAll.appT {H : Hp} : ∀ {xs : List V} {ds : List PyData} {ys : List V} {es : List PyData}, TdAll H xs ds → TdAll H ys es → TdAll H (xs ++ ys) (ds ++ es)
  | [], [], _, _, _, b => b
  | x :: xs, d :: ds, _, _, h, b => by
    cases h with
    | cons a c => exact .cons a (c.appT b)
section
variable {P : Program} {w : World} {K : PySem.W.Frag} {mg : Str → Option Value} {base : Heap}
def spRe (C : Addr) : Sp := fun vs H Q _ => ∃ (x : Addr) (d k : Nat) (c : Int) (rows ws : List (List Int)) (n : Nat) (hist : List Hst), vs = [.ref x, .int (d : Int), .int (k : Int), .int c] ∧ CabAt C H x rows ws n hist ∧ hist.length ≤ 59 ∧ d < rows.length ∧ k < n ∧ 1 ≤ c ∧ c ≤ 50 ∧ c ≤ (rows.getD d []).getD k 0 ∧
  ∀ H', Kp2 x x H H' → CabAt C H' x (moreR rows d k (-c)) ws n (hist ++ [(.tuple [.str "remove", .int d, .int k, .int c], rows, ws)]) → Q (.int ((hist.length + 1 : Nat) : Int)) H'
theorem ok_re {f fN fU fV fTu fA fEr fO fSz fWm fWi fCs fCn fFu fCo fSp fCa fR fSt fAu fIp fI fFc fLo fSo fOv fDw fSv fSm : Addr} {fd dN dU dV dTu dA dEr dO dSz dWm dWi dCs dCn dFu dCo dSp dCa dR dSt dAu dIp dI dFc dLo dSo dOv dDw dSv dSm : FuncData} {C hIn hPu hRe hWi hDr hId hEd hTh hSu hCh hSt hEs hLn hSr hUn hAt hDb hDe hCf : Addr} {eIn ePu eRe eWi eDr eId eEd eTh eSu eCh eSt eEs eLn eSr eUn eAt eDb eDe eCf : FuncData} {k : Nat} (F : Fun K "remove" "Cabinet.remove" cRem f fd) (T : Tx K mg fN fU fV fTu fA fEr fO fSz fWm fWi fCs fCn fFu fCo fSp fCa fR fSt fAu fIp fI fFc fLo fSo fOv fDw fSv fSm dN dU dV dTu dA dEr dO dSz dWm dWi dCs dCn dFu dCo dSp dCa dR dSt dAu dIp dI dFc dLo dSo dOv dDw dSv dSm) (X : CT K mg C hIn hPu hRe hWi hDr hId hEd hTh hSu hCh hSt hEs hLn hSr hUn hAt hDb hDe hCf eIn ePu eRe eWi eDr eId eEd eTh eSu eCh eSt eEs eLn eSr eUn eAt eDb eDe eCf) : FnOk P w K mg base CX0 (k + 5) f fd ["self", "drawer", "kind", "count"] (spRe C) := by
  have GEd : FnOk P w K mg base CX0 (k + 2) hEd eEd ["self"] (spEdC C) := ok_ed X.FEd T X
  have GTh : FnOk P w K mg base CX0 (k + 4) hTh eTh ["self", "drawer", "kind", "count"] (spThings C) := ok_th X.FTh T X
  have GCh : FnOk P w K mg base CX0 (k + 4) hCh eCh ["self", "edit", "stock", "collections"] (spChange C) := ok_ch X.FCh T X
  have GWm : FnOk P w K mg base CX0 (k + 2) fWm dWm ["stock", "drawer", "kind", "count"] spMore := ok_more T.Wm T
  have GU : FnOk P w K mg base CX0 (k + 2) fU dU ["value", "most"] spUpTo := ok_upto T.U T.N T.bN T.gN T.m_isinstance T.m_int T.m_bool
  refine F.ok scRe (fun vs H Q E h => ?_) (fun cdv A outer s H vs Q E hr h => ?_)
  · obtain ⟨x, d, k', c, rows, ws, n, hist, rfl, _⟩ := h
    rfl
  · obtain ⟨x, d, k', c, rows, ws, n, hist, rfl, hc, hl, hd, hk, h1, h50, hz, q⟩ := h
    refine ⟨_, (pss_cons (ps_expr (pe_meth0 (pv 0) X.cl X.MEd GEd (hr.mono (by omega)) X.BEd .nil pass0))
      (pss_cons (ps_expr (pe_meth (pv 0) X.cl X.MTh GTh (hr.mono (by omega)) X.BTh .nil pass0 (pa_cons (pv 1) (pa_cons (pv 2) (pa_cons (pv 3) pa_nil)))))
      (pss_cons (ps_if (pt_cmpR op_gt (pv 3) (pe_ix (show IxR _ (rIxT K) from ix_tup) (pe_ix (show IxR _ (rIxT K) from ix_tup) (pe_fld (pv 0) rfl) (pv 1) (fun _ _ => rfl)) (pv 2) (fun _ _ => rfl)) (nomark _)) (pss_one ps_never) pss_nil)
      (pss_cons (ps_set (i := 4) scRe.nd rfl (.inl rfl) (pe_call GWm (hr.mono (by omega)) (by rfl) T.gWm T.Wm.kp T.bWm .nil pass0 (pa_cons (pe_fld (pv 0) rfl) (pa_cons (pv 1) (pa_cons (pv 2) (pa_cons (pe_un un_neg (pv 3)) pa_nil))))))
      (pss_one (ps_ret (pe_meth (pv 0) X.cl X.MCh GCh (hr.mono (by omega)) X.BCh .nil pass0 (pa_cons (pe_tup (pa_cons pe_str (pa_cons (pv 1) (pa_cons (pv 2) (pa_cons (pv 3) pa_nil))))) (pa_cons (pv 4) (pa_cons (pe_fld (pv 0) rfl) pa_nil)))))))))), ?_⟩
    obtain ⟨⟨dx, t, b, tp, hx, ht, hb, htp⟩, g⟩ := hc
    have hc : CabAt C H x rows ws n hist := ⟨⟨dx, t, b, tp, hx, ht, hb, htp⟩, g⟩
    obtain ⟨ps, hps, hal⟩ := td_tupI htp
    have hpl : ps.length = hist.length := by rw [hal.len, List.length_map]
    refine ⟨_, rfl, x, dx, _, rfl, hx, lm_check_edit, x, dx, tp, _, ps, rfl, hx, lk_watched, lk_past, lm_MOST_EDITS, lm_check_idle, hps, by omega, ?_⟩
    refine ⟨_, rfl, x, dx, _, rfl, hx, lm_check_things, _, rfl, _, rfl, _, rfl, x, d, k', c, rows, ws, n, hist, rfl, hc, hd, hk, h1, h50, ?_⟩
    obtain ⟨t', ls, e1, stk⟩ := td_stockI ht
    cases e1
    have hlen := stk.len
    obtain ⟨l, hlx⟩ : ∃ l, ls[d]? = some l := ⟨_, List.getElem?_eq_getElem (by omega)⟩
    have hg := g.getD hd
    have hrow := stk.row d l (rows.getD d []) hlx (by rw [List.getD_eq_getElem?_getD, List.getElem?_eq_getElem hd]; rfl)
    have hix : (ls.map V.ref)[d]? = some (.ref l) := by rw [List.getElem?_map, hlx]; rfl
    generalize hw : rows.getD d [] = rw0 at hg hrow hz
    have hxx : rw0[k']? = some (rw0.getD k' 0) := by
      rw [List.getD_eq_getElem?_getD, List.getElem?_eq_getElem (by rw [hg.1]; exact hk)]
      rfl
    have hcell := hg.2 _ (List.mem_of_getElem? hxx)
    have hix2 : (rw0.map V.int)[k']? = some (.int (rw0.getD k' 0)) := by rw [List.getElem?_map, hxx]; rfl
    refine ⟨_, rfl, ?_⟩
    refine ⟨_, rfl, x, C, dx, _, _, rfl, hx, X.cl, X.aS, lk_stock, ?_⟩
    refine ⟨_, rfl, t, _, _, _, rfl, rfl, SqT.of stk.top, atI_nat hix, ?_⟩
    refine ⟨_, rfl, l, _, _, _, rfl, rfl, SqT.of hrow, atI_nat hix2, ?_⟩
    refine ⟨_, _, rfl, rfl, _, rfl, ?_⟩
    refine iteF2 (decide_eq_false (by omega)) ?_
    refine ⟨_, rfl, x, C, dx, _, _, rfl, hx, X.cl, X.aS, lk_stock, ?_⟩
    refine ⟨_, rfl, _, rfl, ⟨_, rfl, c, rfl, t, rows, d, k', -c, rfl, ht, hd, by rw [hw, hg.1]; exact hk, by have := g.r4; omega, by rw [hw, hg.1]; have := g.n4; omega, fun p H1 s1 hp => ?_⟩⟩
    have hx1 := s1 _ _ hx
    have hb1 := hb.same s1
    refine ⟨_, rfl, x, dx, _, rfl, hx1, lm_change, ?_⟩
    refine ⟨_, rfl, _, rfl, _, rfl, by show 4 ≤ sizeLine; decide, fun pe ne => ?_⟩
    have s2 := same_new (o := .tup [.str "remove", .int d, .int k', .int c]) ne
    refine ⟨_, rfl, _, rfl, x, C, dx, _, _, rfl, s2 _ _ hx1, X.cl, X.aC, lk_collections, ?_⟩
    refine ⟨x, p, b, .ref pe, _, rows, ws, moreR rows d k' (-c), ws, n, hist, rfl, hc.same (s1.trans s2), .tup upd_same (.cons (.str _) (.cons (.int _) (.cons (.int _) (.cons (.int _) .nil)))), hp.same s2, hb1.same s2, g.more hd hk (by rw [hw]; omega) (by rw [hw]; omega), by omega, fun H2 k2 hc2 => q H2 ((kps (s1.trans s2)).trans k2) hc2⟩
def spWi (C : Addr) : Sp := fun vs H Q _ => ∃ (x a : Addr) (r : List Int) (rows ws : List (List Int)) (n : Nat) (hist : List Hst), vs = [.ref x, .ref a] ∧ CabAt C H x rows ws n hist ∧ hist.length ≤ 59 ∧ H a = some (.tup (r.map V.int)) ∧ Good n 50 r ∧ ws.length ≤ 3 ∧
  ∀ H', Kp2 x x H H' → CabAt C H' x rows (ws ++ [r]) n (hist ++ [(.tuple [.str "wish", rowD r], rows, ws)]) → Q (.int ((hist.length + 1 : Nat) : Int)) H'
theorem ok_wi {f fN fU fV fTu fA fEr fO fSz fWm fWi fCs fCn fFu fCo fSp fCa fR fSt fAu fIp fI fFc fLo fSo fOv fDw fSv fSm : Addr} {fd dN dU dV dTu dA dEr dO dSz dWm dWi dCs dCn dFu dCo dSp dCa dR dSt dAu dIp dI dFc dLo dSo dOv dDw dSv dSm : FuncData} {C hIn hPu hRe hWi hDr hId hEd hTh hSu hCh hSt hEs hLn hSr hUn hAt hDb hDe hCf : Addr} {eIn ePu eRe eWi eDr eId eEd eTh eSu eCh eSt eEs eLn eSr eUn eAt eDb eDe eCf : FuncData} {k : Nat} (F : Fun K "wish" "Cabinet.wish" cWish f fd) (T : Tx K mg fN fU fV fTu fA fEr fO fSz fWm fWi fCs fCn fFu fCo fSp fCa fR fSt fAu fIp fI fFc fLo fSo fOv fDw fSv fSm dN dU dV dTu dA dEr dO dSz dWm dWi dCs dCn dFu dCo dSp dCa dR dSt dAu dIp dI dFc dLo dSo dOv dDw dSv dSm) (X : CT K mg C hIn hPu hRe hWi hDr hId hEd hTh hSu hCh hSt hEs hLn hSr hUn hAt hDb hDe hCf eIn ePu eRe eWi eDr eId eEd eTh eSu eCh eSt eEs eLn eSr eUn eAt eDb eDe eCf) : FnOk P w K mg base CX0 (k + 5) f fd ["self", "collection"] (spWi C) := by
  have GEd : FnOk P w K mg base CX0 (k + 2) hEd eEd ["self"] (spEdC C) := ok_ed X.FEd T X
  have GTh : FnOk P w K mg base CX0 (k + 4) hTh eTh ["self", "drawer", "kind", "count"] (spThings C) := ok_th X.FTh T X
  have GCh : FnOk P w K mg base CX0 (k + 4) hCh eCh ["self", "edit", "stock", "collections"] (spChange C) := ok_ch X.FCh T X
  have GWm : FnOk P w K mg base CX0 (k + 2) fWm dWm ["stock", "drawer", "kind", "count"] spMore := ok_more T.Wm T
  have GU : FnOk P w K mg base CX0 (k + 2) fU dU ["value", "most"] spUpTo := ok_upto T.U T.N T.bN T.gN T.m_isinstance T.m_int T.m_bool
  have GCn : FnOk P w K mg base CX0 (k + 4) fCn dCn ["kinds", "value"] spCol := ok_col (show CoTx K mg fTu fU fN fA fCn dTu dU dN dA dCn from ⟨T.A, T.bA, T.gA, T.Tu, T.bTu, T.gTu, T.U, T.bU, T.gU, T.N, T.bN, T.gN, T.Cn, T.bCn, T.gCn, T.mX, T.mC, T.m_isinstance, T.m_int, T.m_bool, T.m_tuple, T.m_len, T.m_all, T.m_sum⟩)
  obtain ⟨tkM, hM⟩ := T.mX
  refine F.ok scWi (fun vs H Q E h => ?_) (fun cdv A outer s H vs Q E hr h => ?_)
  · obtain ⟨x, a, r, rows, ws, n, hist, rfl, _⟩ := h
    rfl
  · obtain ⟨x, a, r, rows, ws, n, hist, rfl, hc, hl, ha, hgd, h3, q⟩ := h
    refine ⟨_, (pss_cons (ps_expr (pe_meth0 (pv 0) X.cl X.MEd GEd (hr.mono (by omega)) X.BEd .nil pass0))
      (pss_cons (ps_if (pt_not (pt_val (pe_call GCn (hr.mono (by omega)) (by rfl) T.gCn T.Cn.kp T.bCn .nil pass0 (pa_cons (pe_callB call_len_seq (by rfl) T.m_len PySem.boot_len (pa_cons (pe_ix (show IxR _ (rIxT K) from ix_tup) (pe_fld (pv 0) rfl) pe_int (fun _ _ => rfl)) pa_nil)) (pa_cons (pv 1) pa_nil))))) (pss_one ps_never) pss_nil)
      (pss_cons (ps_if (pt_cmpR op_eq (pe_callB call_len_seq (by rfl) T.m_len PySem.boot_len (pa_cons (pe_fld (pv 0) rfl) pa_nil)) (pe_glob (v := .int 4) rfl hM ⟨_, rfl⟩) (nomark _)) (pss_one ps_never) pss_nil)
      (pss_one (ps_ret (pe_meth (pv 0) X.cl X.MCh GCh (hr.mono (by omega)) X.BCh .nil pass0 (pa_cons (pe_tup (pa_cons pe_str (pa_cons (pv 1) pa_nil))) (pa_cons (pe_fld (pv 0) rfl) (pa_cons (pe_tup (StX.pa_star (pe_fld (pv 0) rfl) (pa_cons (pv 1) pa_nil))) pa_nil))))))))), ?_⟩
    obtain ⟨⟨dx, t, b, tp, hx, ht, hb, htp⟩, g⟩ := hc
    have hc : CabAt C H x rows ws n hist := ⟨⟨dx, t, b, tp, hx, ht, hb, htp⟩, g⟩
    obtain ⟨ps, hps, hal⟩ := td_tupI htp
    have hpl : ps.length = hist.length := by rw [hal.len, List.length_map]
    refine ⟨_, rfl, x, dx, _, rfl, hx, lm_check_edit, x, dx, tp, _, ps, rfl, hx, lk_watched, lk_past, lm_MOST_EDITS, lm_check_idle, hps, by omega, ?_⟩
    obtain ⟨ls, l, stk, hl0, hrow⟩ := row0 ht g.r1
    have hg := g.getD (d := 0) (by have := g.r1; omega)
    refine ⟨_, rfl, x, C, dx, _, _, rfl, hx, X.cl, X.aS, lk_stock, ?_⟩
    refine ⟨t, _, 0, _, rfl, rfl, SqT.of stk.top, atI_nat (j := 0) hl0, ?_⟩
    refine ⟨l, _, rfl, .inr (SqT.of hrow), ?_⟩
    refine ⟨_, rfl, ?_⟩
    rw [List.length_map, hg.1]
    refine ⟨(n : Int), .ref a, rowD r, rfl, (td_row ha).dq, by show (r.map PyData.int).length ≤ 1000; rw [List.length_map, hgd.len]; have := g.n4; omega, fun H1 s1 => ⟨_, rfl, ?_⟩⟩
    refine iteF2 (by rw [good_col hgd]; rfl) ?_
    have hx := s1 _ _ hx
    have ht := ht.same s1
    have hb := hb.same s1
    have ha := s1 _ _ ha
    have hc := hc.same s1
    obtain ⟨b', wl, e2, stb⟩ := td_stockI hb
    cases e2
    have hwl := stb.len
    refine ⟨_, rfl, x, C, dx, _, _, rfl, hx, X.cl, X.aC, lk_collections, b, _, rfl, .inr (SqT.of stb.top), ?_⟩
    refine ⟨rfl, _, rfl, ?_⟩
    refine iteF2 (decide_eq_false (fun z => by have := V.int.inj z; rw [List.length_map] at this; omega)) ?_
    refine ⟨_, rfl, x, dx, _, rfl, hx, lm_change, ?_⟩
    refine ⟨_, rfl, by show 2 ≤ sizeLine; decide, fun pe ne => ?_⟩
    have s2 := same_new (o := .tup [.str "wish", .ref a]) ne
    have hx2 := s2 _ _ hx
    refine ⟨_, rfl, x, C, dx, _, _, rfl, hx2, X.cl, X.aS, lk_stock, ?_⟩
    refine ⟨_, rfl, x, C, dx, _, _, rfl, hx2, X.cl, X.aC, lk_collections, ?_⟩
    refine ⟨b, _, rfl, .inl (SqT.of (s2 _ _ stb.top)), ?_⟩
    refine ⟨_, rfl, by rw [List.length_append, List.length_map]; show wl.length + 1 ≤ sizeLine; exact Nat.le_of_lt (len_lt (by omega)), fun pw nw => ?_⟩
    have s3 := same_new (o := .tup (wl.map V.ref ++ [.ref a])) nw
    have s23 := s2.trans s3
    have hpe := s3 _ _ (upd_same (H := H1) (a := pe) (o := HO.tup [.str "wish", .ref a]))
    have hw2 : Td (upd (upd H1 pe (.tup [.str "wish", .ref a])) pw (.tup (wl.map V.ref ++ [.ref a]))) (.ref pw) (stockD (ws ++ [r])) := by
      refine .tup upd_same ?_
      rw [List.map_append]
      exact td_snoc (td_rows wl ws stb.len fun j l r e1 e2 => s23 _ _ (stb.row j l r e1 e2)) (td_row (s23 _ _ ha))
    refine ⟨x, t, pw, .ref pe, _, rows, ws, rows, ws ++ [r], n, hist, rfl, hc.same s23, .tup hpe (.cons (.str _) (.cons (td_row (s23 _ _ ha)) .nil)), ht.same s23, hw2, g.wishes (by rw [List.length_append]; have := g.w1; omega) (by rw [List.length_append]; simp only [List.length_cons, List.length_nil]; omega) (fun y hy => ?_), by omega, fun H2 k2 hc2 => q H2 ((kps (s1.trans s23)).trans k2) hc2⟩
    rcases List.mem_append.mp hy with h | h
    · exact g.wg y h
    · rw [List.mem_singleton.mp h]
      exact hgd
def spDr (C : Addr) : Sp := fun vs H Q _ => ∃ (x : Addr) (j : Nat) (rows ws : List (List Int)) (n : Nat) (hist : List Hst), vs = [.ref x, .int (j : Int)] ∧ CabAt C H x rows ws n hist ∧ hist.length ≤ 59 ∧ j < ws.length ∧ 2 ≤ ws.length ∧
  ∀ H', Kp2 x x H H' → CabAt C H' x rows (ws.take j ++ ws.drop (j + 1)) n (hist ++ [(.tuple [.str "drop", .int j], rows, ws)]) → Q (.int ((hist.length + 1 : Nat) : Int)) H'
theorem ok_dr {f fN fU fV fTu fA fEr fO fSz fWm fWi fCs fCn fFu fCo fSp fCa fR fSt fAu fIp fI fFc fLo fSo fOv fDw fSv fSm : Addr} {fd dN dU dV dTu dA dEr dO dSz dWm dWi dCs dCn dFu dCo dSp dCa dR dSt dAu dIp dI dFc dLo dSo dOv dDw dSv dSm : FuncData} {C hIn hPu hRe hWi hDr hId hEd hTh hSu hCh hSt hEs hLn hSr hUn hAt hDb hDe hCf : Addr} {eIn ePu eRe eWi eDr eId eEd eTh eSu eCh eSt eEs eLn eSr eUn eAt eDb eDe eCf : FuncData} {k : Nat} (F : Fun K "drop" "Cabinet.drop" cDrop f fd) (T : Tx K mg fN fU fV fTu fA fEr fO fSz fWm fWi fCs fCn fFu fCo fSp fCa fR fSt fAu fIp fI fFc fLo fSo fOv fDw fSv fSm dN dU dV dTu dA dEr dO dSz dWm dWi dCs dCn dFu dCo dSp dCa dR dSt dAu dIp dI dFc dLo dSo dOv dDw dSv dSm) (X : CT K mg C hIn hPu hRe hWi hDr hId hEd hTh hSu hCh hSt hEs hLn hSr hUn hAt hDb hDe hCf eIn ePu eRe eWi eDr eId eEd eTh eSu eCh eSt eEs eLn eSr eUn eAt eDb eDe eCf) : FnOk P w K mg base CX0 (k + 5) f fd ["self", "index"] (spDr C) := by
  have GEd : FnOk P w K mg base CX0 (k + 2) hEd eEd ["self"] (spEdC C) := ok_ed X.FEd T X
  have GTh : FnOk P w K mg base CX0 (k + 4) hTh eTh ["self", "drawer", "kind", "count"] (spThings C) := ok_th X.FTh T X
  have GCh : FnOk P w K mg base CX0 (k + 4) hCh eCh ["self", "edit", "stock", "collections"] (spChange C) := ok_ch X.FCh T X
  have GWm : FnOk P w K mg base CX0 (k + 2) fWm dWm ["stock", "drawer", "kind", "count"] spMore := ok_more T.Wm T
  have GU : FnOk P w K mg base CX0 (k + 2) fU dU ["value", "most"] spUpTo := ok_upto T.U T.N T.bN T.gN T.m_isinstance T.m_int T.m_bool
  refine F.ok scDr (fun vs H Q E h => ?_) (fun cdv A outer s H vs Q E hr h => ?_)
  · obtain ⟨x, j, rows, ws, n, hist, rfl, _⟩ := h
    rfl
  · obtain ⟨x, j, rows, ws, n, hist, rfl, hc, hl, hj, h2, q⟩ := h
    refine ⟨_, (pss_cons (ps_expr (pe_meth0 (pv 0) X.cl X.MEd GEd (hr.mono (by omega)) X.BEd .nil pass0))
      (pss_cons (ps_if (pt_not (pt_val (pe_call GU (hr.mono (by omega)) (by rfl) T.gU T.U.kp T.bU .nil pass0 (pa_cons (pv 1) (pa_cons (pe_op op_sub (pe_callB call_len_seq (by rfl) T.m_len PySem.boot_len (pa_cons (pe_fld (pv 0) rfl) pa_nil)) pe_int) pa_nil))))) (pss_one ps_never) pss_nil)
      (pss_cons (ps_if (pt_cmpR op_eq (pe_callB call_len_seq (by rfl) T.m_len PySem.boot_len (pa_cons (pe_fld (pv 0) rfl) pa_nil)) pe_int (nomark _)) (pss_one ps_never) pss_nil)
      (pss_cons (ps_set (i := 2) scDr.nd rfl (.inl rfl) (pe_op op_catQ (pe_slice sl_tupQ (pe_fld (pv 0) rfl) po_none (po_some (pv 1))) (pe_slice sl_tupQ (pe_fld (pv 0) rfl) (po_some (pe_op op_add (pv 1) pe_int)) po_none)))
      (pss_one (ps_ret (pe_meth (pv 0) X.cl X.MCh GCh (hr.mono (by omega)) X.BCh .nil pass0 (pa_cons (pe_tup (pa_cons pe_str (pa_cons (pv 1) pa_nil))) (pa_cons (pe_fld (pv 0) rfl) (pa_cons (pv 2) pa_nil)))))))))), ?_⟩
    obtain ⟨⟨dx, t, b, tp, hx, ht, hb, htp⟩, g⟩ := hc
    have hc : CabAt C H x rows ws n hist := ⟨⟨dx, t, b, tp, hx, ht, hb, htp⟩, g⟩
    obtain ⟨ps, hps, hal⟩ := td_tupI htp
    have hpl : ps.length = hist.length := by rw [hal.len, List.length_map]
    refine ⟨_, rfl, x, dx, _, rfl, hx, lm_check_edit, x, dx, tp, _, ps, rfl, hx, lk_watched, lk_past, lm_MOST_EDITS, lm_check_idle, hps, by omega, ?_⟩
    obtain ⟨b', wl, e2, stb⟩ := td_stockI hb
    cases e2
    have hwl := stb.len
    have hw4 := g.w4
    refine ⟨_, rfl, ?_⟩
    refine ⟨_, rfl, x, C, dx, _, _, rfl, hx, X.cl, X.aC, lk_collections, ?_⟩
    refine ⟨b, _, rfl, .inr (SqT.of stb.top), ?_⟩
    refine ⟨_, _, rfl, rfl, ?_⟩
    refine ⟨_, .int j, _, rfl, .int _, _, rfl, ?_⟩
    refine iteF2 (by
      show (!(decide ((0 : Int) ≤ j) && decide ((j : Int) ≤ ((wl.map V.ref).length : Int) - 1))) = false
      rw [List.length_map, decide_eq_true (by omega), decide_eq_true (by omega)]
      rfl) ?_
    refine ⟨_, rfl, x, C, dx, _, _, rfl, hx, X.cl, X.aC, lk_collections, b, _, rfl, .inr (SqT.of stb.top), ?_⟩
    refine ⟨rfl, _, rfl, ?_⟩
    refine iteF2 (decide_eq_false (fun z => by have := V.int.inj z; rw [List.length_map] at this; omega)) ?_
    refine ⟨_, rfl, x, C, dx, _, _, rfl, hx, X.cl, X.aC, lk_collections, ?_⟩
    dsimp only [tNoPart]
    refine ⟨_, rfl, (j : Int), rfl, b, _, rfl, stb.top, fun p1 H1 s1 h1 => ?_⟩
    rw [cutV_to] at h1
    have hx1 := s1 _ _ hx
    refine ⟨_, rfl, x, C, dx, _, _, rfl, hx1, X.cl, X.aC, lk_collections, ?_⟩
    refine ⟨_, rfl, (j : Int), 1, rfl, rfl, (j : Int) + 1, rfl, ?_⟩
    refine ⟨b, _, rfl, s1 _ _ stb.top, fun p2 H2 s2 h2 => ?_⟩
    rw [show ((j : Int) + 1) = ((j + 1 : Nat) : Int) by omega, cutV_from] at h2
    refine ⟨p1, p2, _, _, rfl, rfl, s2 _ _ h1, h2, by rw [List.length_take, List.length_drop, List.length_map]; omega, fun p3 H3 s3 h3 => ?_⟩
    have s13 := s1.trans (s2.trans s3)
    have hx3 := s13 _ _ hx
    refine ⟨_, rfl, x, dx, _, rfl, hx3, lm_change, ?_⟩
    refine ⟨_, rfl, by show 2 ≤ sizeLine; decide, fun pe ne => ?_⟩
    have s4 := same_new (o := .tup [.str "drop", .int j]) ne
    refine ⟨_, rfl, x, C, dx, _, _, rfl, s4 _ _ hx3, X.cl, X.aS, lk_stock, ?_⟩
    have s14 := s13.trans s4
    have hw2 : Td (upd H3 pe (.tup [.str "drop", .int j])) (.ref p3) (stockD (ws.take j ++ ws.drop (j + 1))) := by
      refine .tup (s4 _ _ h3) ?_
      have ha := td_rows wl ws stb.len fun j l r e1 e2 => s14 _ _ (stb.row j l r e1 e2)
      rw [List.map_append, List.map_take, List.map_drop]
      exact (ha.takeT j).appT (ha.dropT (j + 1))
    refine ⟨_, rfl, x, t, p3, .ref pe, _, rows, ws, rows, ws.take j ++ ws.drop (j + 1), n, hist, rfl, hc.same s14, .tup upd_same (.cons (.str _) (.cons (.int _) .nil)), ht.same s14, hw2, g.wishes (by rw [List.length_append, List.length_take, List.length_drop]; omega) (by rw [List.length_append, List.length_take, List.length_drop]; omega) (fun y hy => ?_), by omega, fun H2 k2 hc2 => q H2 ((kps s14).trans k2) hc2⟩
    rcases List.mem_append.mp hy with h | h
    · exact g.wg y (List.mem_of_mem_take h)
    · exact g.wg y (List.mem_of_mem_drop h)
end
end DD
namespace DD
open PySem PySem.Spec PyProof.Rows L2 RZ
theorem td_hist {H : Hp} : ∀ {hist : List Hst} {ps : List V}, TdAll H ps (hist.map histD) → ∀ {i : Nat} {x : V}, ps[i]? = some x → ∃ p e v1 v2 h, x = .ref p ∧ hist[i]? = some h ∧ H p = some (.tup [e, v1, v2]) ∧ Td H e h.1
  | [], _, h, i, x, e => by
    cases h
    simp at e
  | h :: hist, _, q, 0, x, e => by
    cases q with
    | cons a b =>
      cases a with
      | @tup p xs ds hp hs =>
        cases hs with
        | cons a1 b1 =>
          cases b1 with
          | cons a2 b2 =>
            cases b2 with
            | cons a3 b3 =>
              cases b3
              simp at e
              exact ⟨_, _, _, _, h, e.symm, rfl, hp, a1⟩
  | h :: hist, _, q, i + 1, x, e => by
    cases q with
    | cons a b => exact td_hist b (by simpa using e)
section
variable {P : Program} {w : World} {K : PySem.W.Frag} {mg : Str → Option Value} {base : Heap}
def spEs (C : Addr) : Sp := fun vs H Q _ => ∃ (x : Addr) (rows ws : List (List Int)) (n : Nat) (hist : List Hst), vs = [.ref x] ∧ CabAt C H x rows ws n hist ∧ hist.length ≤ 900 ∧ ∀ v H', Same H H' → Td H' v (.tuple (hist.map (·.1))) → Q v H'
theorem ok_es {f fN fU fV fTu fA fEr fO fSz fWm fWi fCs fCn fFu fCo fSp fCa fR fSt fAu fIp fI fFc fLo fSo fOv fDw fSv fSm : Addr} {fd dN dU dV dTu dA dEr dO dSz dWm dWi dCs dCn dFu dCo dSp dCa dR dSt dAu dIp dI dFc dLo dSo dOv dDw dSv dSm : FuncData} {C hIn hPu hRe hWi hDr hId hEd hTh hSu hCh hSt hEs hLn hSr hUn hAt hDb hDe hCf : Addr} {eIn ePu eRe eWi eDr eId eEd eTh eSu eCh eSt eEs eLn eSr eUn eAt eDb eDe eCf : FuncData} {k : Nat} (F : Fun K "edits" "Cabinet.edits" cEdits f fd) (T : Tx K mg fN fU fV fTu fA fEr fO fSz fWm fWi fCs fCn fFu fCo fSp fCa fR fSt fAu fIp fI fFc fLo fSo fOv fDw fSv fSm dN dU dV dTu dA dEr dO dSz dWm dWi dCs dCn dFu dCo dSp dCa dR dSt dAu dIp dI dFc dLo dSo dOv dDw dSv dSm) (X : CT K mg C hIn hPu hRe hWi hDr hId hEd hTh hSu hCh hSt hEs hLn hSr hUn hAt hDb hDe hCf eIn ePu eRe eWi eDr eId eEd eTh eSu eCh eSt eEs eLn eSr eUn eAt eDb eDe eCf) : FnOk P w K mg base CX0 (k + 1) f fd ["self"] (spEs C) := by
  refine F.ok scEs (fun vs H Q E h => ?_) (fun cdv A outer s H vs Q E hr h => ?_)
  · obtain ⟨x, rows, ws, n, hist, rfl, _⟩ := h
    rfl
  · obtain ⟨x, rows, ws, n, hist, rfl, hc, hl, q⟩ := h
    refine ⟨_, pss_one (ps_ret (pe_callTy call_tuple_of (by rfl) T.m_tuple (by decide +kernel) (pa_cons (pe_lc (own := [("step", 1)]) (g := gName 1) rfl scEs.nd (pi_tup (pe_fld (pv 0) rfl)) (blkOk_by (own := [("step", 1)]) (N := ["self", "step"]) (sc := defScope cEdits) (by decide +kernel)) (fun _ _ _ _ _ => (pg_name (i := 1) scEs.nd rfl (Or.inl rfl))) (fun _ _ _ _ _ => pts_nil) (fun _ _ _ _ _ => (pe_ix (show IxR _ (rIxT K) from ix_tup) (pv 1) pe_int (fun _ _ => rfl)))) pa_nil))), ?_⟩
    obtain ⟨⟨dx, t, b, tp, hx, ht, hb, htp⟩, g⟩ := hc
    obtain ⟨ps, hps, hal⟩ := td_tupI htp
    have hpl : ps.length = hist.length := by rw [hal.len, List.length_map]
    refine ⟨_, rfl, x, C, dx, _, _, rfl, hx, X.cl, X.aP, lk_past, tp, rfl, ⟨_, SqT.of hps⟩, fun D nD => ?_⟩
    refine lc_tup (xs := ps) (fun i H' => (∃ ys, H' D = some (.lst ys) ∧ ys.length = i ∧ TdAll H ys ((hist.take i).map (·.1))) ∧ Same H H') ⟨⟨[], upd_same, rfl, .nil⟩, same_new nD⟩ (fun i H' _ h => SqT.of (h.2 _ _ hps)) (fun i z H' hz h => ?_) (fun H' h => ?_)
    · obtain ⟨⟨ys, hD, hyl, hy⟩, sm⟩ := h
      obtain ⟨p, e, v1, v2, h, rfl, eh, hp, he⟩ := td_hist hal hz
      have hil := (List.getElem?_eq_some_iff.mp hz).1
      refine ⟨rfl, .ref p, rfl, p, _, 0, e, rfl, rfl, SqT.of (sm _ _ hp), rfl, ys, hD, len_lt (by omega), ⟨⟨ys ++ [e], upd_same, by rw [List.length_append, hyl]; rfl, ?_⟩, fun b' o e' => ?_⟩⟩
      · rw [take_succ_map eh]
        exact td_snoc hy he
      · rw [upd_ne (ne_of_none e' nD)]
        exact sm b' o e'
    · obtain ⟨⟨ys, hD, hyl, hy⟩, sm⟩ := h
      rw [hpl, List.take_length] at hy
      exact ⟨D, ys, rfl, .inl ⟨SqL.of hD, fun p np => q _ _ (sm.trans (same_new np)) (.tup upd_same (hy.same (sm.trans (same_new np))))⟩⟩
def spSt (C : Addr) : Sp := fun vs H Q _ => ∃ (x : Addr) (rows ws : List (List Int)) (n : Nat) (hist : List Hst), vs = [.ref x, .non] ∧ CabAt C H x rows ws n hist ∧ ∀ v H', Same H H' → Td H' v (.tuple [stockD rows, stockD ws]) → Q v H'
theorem ok_st {f fN fU fV fTu fA fEr fO fSz fWm fWi fCs fCn fFu fCo fSp fCa fR fSt fAu fIp fI fFc fLo fSo fOv fDw fSv fSm : Addr} {fd dN dU dV dTu dA dEr dO dSz dWm dWi dCs dCn dFu dCo dSp dCa dR dSt dAu dIp dI dFc dLo dSo dOv dDw dSv dSm : FuncData} {C hIn hPu hRe hWi hDr hId hEd hTh hSu hCh hSt hEs hLn hSr hUn hAt hDb hDe hCf : Addr} {eIn ePu eRe eWi eDr eId eEd eTh eSu eCh eSt eEs eLn eSr eUn eAt eDb eDe eCf : FuncData} {k : Nat} (F : Fun K "state" "Cabinet.state" cState f fd) (T : Tx K mg fN fU fV fTu fA fEr fO fSz fWm fWi fCs fCn fFu fCo fSp fCa fR fSt fAu fIp fI fFc fLo fSo fOv fDw fSv fSm dN dU dV dTu dA dEr dO dSz dWm dWi dCs dCn dFu dCo dSp dCa dR dSt dAu dIp dI dFc dLo dSo dOv dDw dSv dSm) (X : CT K mg C hIn hPu hRe hWi hDr hId hEd hTh hSu hCh hSt hEs hLn hSr hUn hAt hDb hDe hCf eIn ePu eRe eWi eDr eId eEd eTh eSu eCh eSt eEs eLn eSr eUn eAt eDb eDe eCf) : FnOk P w K mg base CX0 (k + 1) f fd ["self", "version"] (spSt C) := by
  refine F.ok scSt (fun vs H Q E h => ?_) (fun cdv A outer s H vs Q E hr h => ?_)
  · obtain ⟨x, rows, ws, n, hist, rfl, _⟩ := h
    rfl
  · obtain ⟨x, rows, ws, n, hist, rfl, hc, q⟩ := h
    refine ⟨_, (pss_cons (ps_if (pt_cmpR op_isN (pv 1) pe_non (nomark _)) (pss_one (ps_ret (pe_tup (pa_cons (pe_fld (pv 0) rfl) (pa_cons (pe_fld (pv 0) rfl) pa_nil))))) pss_nil)
      (pss_cons ps_never
      (pss_cons ps_never
      (pss_cons ps_never
      (pss_one ps_never))))), ?_⟩
    obtain ⟨⟨dx, t, b, tp, hx, ht, hb, htp⟩, g⟩ := hc
    refine ⟨_, rfl, rfl, _, rfl, iteT ?_⟩
    refine ⟨_, rfl, x, C, dx, _, _, rfl, hx, X.cl, X.aS, lk_stock, ?_⟩
    refine ⟨_, rfl, x, C, dx, _, _, rfl, hx, X.cl, X.aC, lk_collections, by show 2 ≤ sizeLine; decide, fun p np => ?_⟩
    exact q _ _ (same_new np) (.tup upd_same (.cons (ht.same (same_new np)) (.cons (hb.same (same_new np)) .nil)))
def spLn (C : Addr) : Sp := fun vs H Q _ => ∃ (x : Addr) (rows ws : List (List Int)) (n : Nat) (hist : List Hst), vs = [.ref x] ∧ CabAt C H x rows ws n hist ∧ Q (.int (hist.length : Nat)) H
theorem ok_ln {f fN fU fV fTu fA fEr fO fSz fWm fWi fCs fCn fFu fCo fSp fCa fR fSt fAu fIp fI fFc fLo fSo fOv fDw fSv fSm : Addr} {fd dN dU dV dTu dA dEr dO dSz dWm dWi dCs dCn dFu dCo dSp dCa dR dSt dAu dIp dI dFc dLo dSo dOv dDw dSv dSm : FuncData} {C hIn hPu hRe hWi hDr hId hEd hTh hSu hCh hSt hEs hLn hSr hUn hAt hDb hDe hCf : Addr} {eIn ePu eRe eWi eDr eId eEd eTh eSu eCh eSt eEs eLn eSr eUn eAt eDb eDe eCf : FuncData} {k : Nat} (F : Fun K "__len__" "Cabinet.__len__" cLen f fd) (T : Tx K mg fN fU fV fTu fA fEr fO fSz fWm fWi fCs fCn fFu fCo fSp fCa fR fSt fAu fIp fI fFc fLo fSo fOv fDw fSv fSm dN dU dV dTu dA dEr dO dSz dWm dWi dCs dCn dFu dCo dSp dCa dR dSt dAu dIp dI dFc dLo dSo dOv dDw dSv dSm) (X : CT K mg C hIn hPu hRe hWi hDr hId hEd hTh hSu hCh hSt hEs hLn hSr hUn hAt hDb hDe hCf eIn ePu eRe eWi eDr eId eEd eTh eSu eCh eSt eEs eLn eSr eUn eAt eDb eDe eCf) : FnOk P w K mg base CX0 (k + 1) f fd ["self"] (spLn C) := by
  refine F.ok scLn (fun vs H Q E h => ?_) (fun cdv A outer s H vs Q E hr h => ?_)
  · obtain ⟨x, rows, ws, n, hist, rfl, _⟩ := h
    rfl
  · obtain ⟨x, rows, ws, n, hist, rfl, hc, q⟩ := h
    refine ⟨_, pss_one (ps_ret (pe_callB call_len_seq (by rfl) T.m_len PySem.boot_len (pa_cons (pe_fld (pv 0) rfl) pa_nil))), ?_⟩
    obtain ⟨⟨dx, t, b, tp, hx, ht, hb, htp⟩, g⟩ := hc
    obtain ⟨ps, hps, hal⟩ := td_tupI htp
    have hpl : ps.length = hist.length := by rw [hal.len, List.length_map]
    refine ⟨_, rfl, x, C, dx, _, _, rfl, hx, X.cl, X.aP, lk_past, tp, ps, rfl, .inr (SqT.of hps), ?_⟩
    rw [hpl]
    exact q
def cabS (a b c d e : Int) : Str := Txt.join " " [numT a, "drawers,", numT b, "kinds,", numT c, "things,", numT d, "collections,", numT e, "edits"]
def partS (a : Int) (x : Str) : Str := (Str.empty ++ numT a) ++ x
theorem cabS_eq {a b c d e : Int} : Txt.join ", " [partS a " drawers", partS b " kinds", partS c " things", partS d " collections", partS e " edits"] = cabS a b c d e := by
  unfold cabS partS
  refine TL.ext_tl ?_
  rw [TL.join_eq, TL.join_eq, TL.tl_join, TL.tl_join]
  have h0 : TL.tl Str.empty = [] := rfl
  have c1 : TL.tl (", " : Str) = [44, 32] := by decide +kernel
  have c2 : TL.tl (" " : Str) = [32] := by decide +kernel
  have d1 : TL.tl (" drawers" : Str) = 32 :: TL.tl ("drawers" : Str) := by decide +kernel
  have d2 : TL.tl ("drawers," : Str) = TL.tl ("drawers" : Str) ++ [44] := by decide +kernel
  have k1 : TL.tl (" kinds" : Str) = 32 :: TL.tl ("kinds" : Str) := by decide +kernel
  have k2 : TL.tl ("kinds," : Str) = TL.tl ("kinds" : Str) ++ [44] := by decide +kernel
  have t1 : TL.tl (" things" : Str) = 32 :: TL.tl ("things" : Str) := by decide +kernel
  have t2 : TL.tl ("things," : Str) = TL.tl ("things" : Str) ++ [44] := by decide +kernel
  have l1 : TL.tl (" collections" : Str) = 32 :: TL.tl ("collections" : Str) := by decide +kernel
  have l2 : TL.tl ("collections," : Str) = TL.tl ("collections" : Str) ++ [44] := by decide +kernel
  have e1 : TL.tl (" edits" : Str) = 32 :: TL.tl ("edits" : Str) := by decide +kernel
  simp only [List.map_cons, List.map_nil, TL.joinL, TL.tl_append, h0, c1, c2, d1, d2, k1, k2, t1, t2, l1, l2, e1, List.nil_append, List.append_assoc, List.cons_append]
/-- the things in a stock -/
def thingsOf (rows : List (List Int)) : Int := (sizesOf rows).sum
theorem Sg.things {rows ws : List (List Int)} {n : Nat} (g : Sg rows ws n) : 0 ≤ thingsOf rows ∧ thingsOf rows ≤ 800 := by
  have h : ∀ y ∈ sizesOf rows, 0 ≤ y ∧ y ≤ 200 := fun y hy => by
    obtain ⟨r, hr, rfl⟩ := List.mem_map.mp hy
    obtain ⟨h1, h2⟩ := g.rg r hr
    have := sum_bd h2
    have := g.n4
    omega
  have h2 := sum_bd h
  have h3 : (sizesOf rows).length = rows.length := by simp [sizesOf]
  have := g.r4
  unfold thingsOf
  omega
theorem part_len {a : Int} (h0 : 0 ≤ a) (h : a < 4096) {x : Str} (hx : x.length ≤ 20) : (Str.empty ++ numT a).length ≤ 13 ∧ (partS a x).length ≤ 33 := by
  have e1 := numT_len h0 h
  have e0 : TL.tl Str.empty = [] := rfl
  have l1 : (Str.empty ++ numT a).length = (numT a).length := by rw [TL.len_tl, TL.tl_append, e0, List.nil_append, ← TL.len_tl]
  have l2 : (partS a x).length = (Str.empty ++ numT a).length + x.length := by
    unfold partS
    rw [TL.len_tl, TL.tl_append, List.length_append, ← TL.len_tl, ← TL.len_tl]
  omega
theorem part_at {a : Int} {x : Str} (h0 : 0 ≤ a) (h : a < 4096) (hx : x.length ≤ 20) {σ : L2.St} {H : Hp} {Q : Str → Hp → Prop} (q : Q (partS a x) H) :
    ∃ y : Str, V.str (toString a) = .str y ∧ (Str.empty ++ y).length ≤ sizeLine ∧ tJs [tC (V.str x)] (Str.empty ++ y) σ H Q := by
  have e := part_len h0 h hx
  have s13 : (33 : Nat) ≤ sizeLine := by decide
  exact ⟨_, rfl, by show (Str.empty ++ numT a).length ≤ sizeLine; omega, x, rfl, by show (partS a x).length ≤ sizeLine; omega, q⟩
def spSr (C : Addr) : Sp := fun vs H Q _ => ∃ (x : Addr) (rows ws : List (List Int)) (n : Nat) (hist : List Hst), vs = [.ref x] ∧ CabAt C H x rows ws n hist ∧ hist.length ≤ 900 ∧ ∀ H', Same H H' → Q (.str (cabS (rows.length : Nat) (n : Nat) (thingsOf rows) (ws.length : Nat) (hist.length : Nat))) H'
theorem ok_sr {f fN fU fV fTu fA fEr fO fSz fWm fWi fCs fCn fFu fCo fSp fCa fR fSt fAu fIp fI fFc fLo fSo fOv fDw fSv fSm : Addr} {fd dN dU dV dTu dA dEr dO dSz dWm dWi dCs dCn dFu dCo dSp dCa dR dSt dAu dIp dI dFc dLo dSo dOv dDw dSv dSm : FuncData} {C hIn hPu hRe hWi hDr hId hEd hTh hSu hCh hSt hEs hLn hSr hUn hAt hDb hDe hCf : Addr} {eIn ePu eRe eWi eDr eId eEd eTh eSu eCh eSt eEs eLn eSr eUn eAt eDb eDe eCf : FuncData} {k : Nat} (F : Fun K "__str__" "Cabinet.__str__" cStr f fd) (T : Tx K mg fN fU fV fTu fA fEr fO fSz fWm fWi fCs fCn fFu fCo fSp fCa fR fSt fAu fIp fI fFc fLo fSo fOv fDw fSv fSm dN dU dV dTu dA dEr dO dSz dWm dWi dCs dCn dFu dCo dSp dCa dR dSt dAu dIp dI dFc dLo dSo dOv dDw dSv dSm) (X : CT K mg C hIn hPu hRe hWi hDr hId hEd hTh hSu hCh hSt hEs hLn hSr hUn hAt hDb hDe hCf eIn ePu eRe eWi eDr eId eEd eTh eSu eCh eSt eEs eLn eSr eUn eAt eDb eDe eCf) : FnOk P w K mg base CX0 (k + 2) f fd ["self"] (spSr C) := by
  have GSz : FnOk P w K mg base CX0 (k + 1) fSz dSz ["stock"] spSizes := ok_sizes T.Sz T.m_tuple T.m_sum
  refine F.ok scSr (fun vs H Q E h => ?_) (fun cdv A outer s H vs Q E hr h => ?_)
  · obtain ⟨x, rows, ws, n, hist, rfl, _⟩ := h
    rfl
  · obtain ⟨x, rows, ws, n, hist, rfl, hc, hl, q⟩ := h
    refine ⟨_, pss_one (ps_ret (pe_join pe_str (pe_lst (pa_cons (pe_joined (.cons (pe_fmt (pe_callB call_len_seq (by rfl) T.m_len PySem.boot_len (pa_cons (pe_fld (pv 0) rfl) pa_nil))) (.cons pe_str .nil))) (pa_cons (pe_joined (.cons (pe_fmt (pe_callB call_len_seq (by rfl) T.m_len PySem.boot_len (pa_cons (pe_ix (show IxR _ (rIxT K) from ix_tup) (pe_fld (pv 0) rfl) pe_int (fun _ _ => rfl)) pa_nil))) (.cons pe_str .nil))) (pa_cons (pe_joined (.cons (pe_fmt (pe_callB (show CallR _ _ (rSumT K) from cr_sumT rfl) (by rfl) T.m_sum (by decide +kernel) (pa_cons (pe_call GSz (hr.mono (by omega)) (by rfl) T.gSz T.Sz.kp T.bSz .nil pass0 (pa_cons (pe_fld (pv 0) rfl) pa_nil)) pa_nil))) (.cons pe_str .nil))) (pa_cons (pe_joined (.cons (pe_fmt (pe_callB call_len_seq (by rfl) T.m_len PySem.boot_len (pa_cons (pe_fld (pv 0) rfl) pa_nil))) (.cons pe_str .nil))) (pa_cons (pe_joined (.cons (pe_fmt (pe_callB call_len_seq (by rfl) T.m_len PySem.boot_len (pa_cons (pe_fld (pv 0) rfl) pa_nil))) (.cons pe_str .nil))) pa_nil)))))))), ?_⟩
    obtain ⟨⟨dx, t, b, tp, hx, ht, hb, htp⟩, g⟩ := hc
    obtain ⟨ps, hps, hal⟩ := td_tupI htp
    have hpl : ps.length = hist.length := by rw [hal.len, List.length_map]
    obtain ⟨ls, l, stk, hl0, hrow⟩ := row0 ht g.r1
    have hg := g.getD (d := 0) (by have := g.r1; omega)
    obtain ⟨b', wl, e2, stb⟩ := td_stockI hb
    cases e2
    have hth := g.things
    have hlen := stk.len
    have hwl := stb.len
    have r4 := g.r4
    have w4 := g.w4
    have n4 := g.n4
    refine ⟨⟨_, rfl⟩, ?_⟩
    refine ⟨_, rfl, x, C, dx, _, _, rfl, hx, X.cl, X.aS, lk_stock, t, _, rfl, .inr (SqT.of stk.top), .inr ⟨_, rfl, num_log (by omega) (by rw [List.length_map]; omega), ?_⟩⟩
    rw [List.length_map, hlen]
    refine part_at (a := ((rows.length : Nat) : Int)) (x := " drawers") (by omega) (by omega) (by decide +kernel) ?_
    refine ⟨_, rfl, x, C, dx, _, _, rfl, hx, X.cl, X.aS, lk_stock, t, _, 0, _, rfl, rfl, SqT.of stk.top, atI_nat (j := 0) hl0, l, _, rfl, .inr (SqT.of hrow), .inr ⟨_, rfl, num_log (by omega) (by rw [List.length_map, hg.1]; omega), ?_⟩⟩
    rw [List.length_map, hg.1]
    refine part_at (a := ((n : Nat) : Int)) (x := " kinds") (by omega) (by omega) (by decide +kernel) ?_
    refine ⟨_, rfl, x, C, dx, _, _, rfl, hx, X.cl, X.aS, lk_stock, t, ls, rows, rfl, stk, by omega, fun p H1 s1 _ hp => ?_⟩
    refine ⟨p, _, rfl, SqT.of hp, .inr ⟨_, rfl, num_log hth.1 (by have := hth.2; unfold thingsOf at this; omega), ?_⟩⟩
    refine part_at (a := thingsOf rows) (x := " things") hth.1 (by omega) (by decide +kernel) ?_
    have hx := s1 _ _ hx
    refine ⟨_, rfl, x, C, dx, _, _, rfl, hx, X.cl, X.aC, lk_collections, b, _, rfl, .inr (SqT.of (s1 _ _ stb.top)), .inr ⟨_, rfl, num_log (by omega) (by rw [List.length_map]; omega), ?_⟩⟩
    rw [List.length_map, hwl]
    refine part_at (a := ((ws.length : Nat) : Int)) (x := " collections") (by omega) (by omega) (by decide +kernel) ?_
    refine ⟨_, rfl, x, C, dx, _, _, rfl, hx, X.cl, X.aP, lk_past, tp, ps, rfl, .inr (SqT.of (s1 _ _ hps)), .inr ⟨_, rfl, num_log (by omega) (by omega), ?_⟩⟩
    rw [hpl]
    refine part_at (a := ((hist.length : Nat) : Int)) (x := " edits") (by omega) (by omega) (by decide +kernel) ?_
    refine ⟨by show 5 ≤ sizeLine; decide, fun pl np => ?_⟩
    refine ⟨_, pl, [partS (rows.length : Nat) " drawers", partS (n : Nat) " kinds", partS (thingsOf rows) " things", partS (ws.length : Nat) " collections", partS (hist.length : Nat) " edits"], rfl, rfl, .inl (SqL.of upd_same), ?_, ?_⟩
    · have a1 := (part_len (a := (rows.length : Nat)) (x := " drawers") (by omega) (by omega) (by decide +kernel)).2
      have a2 := (part_len (a := (n : Nat)) (x := " kinds") (by omega) (by omega) (by decide +kernel)).2
      have a3 := (part_len (a := thingsOf rows) (x := " things") (by omega) (by omega) (by decide +kernel)).2
      have a4 := (part_len (a := (ws.length : Nat)) (x := " collections") (by omega) (by omega) (by decide +kernel)).2
      have a5 := (part_len (a := (hist.length : Nat)) (x := " edits") (by omega) (by omega) (by decide +kernel)).2
      have hc : (", " : Str).length = 2 := by decide +kernel
      simp only [List.map_cons, List.map_nil, List.sum_cons, List.sum_nil, List.length_cons, List.length_nil]
      omega
    · rw [cabS_eq]
      exact q _ (s1.trans (same_new np))
def spIn (C : Addr) : Sp := fun vs H Q _ => ∃ (x t b dx : Addr) (rows ws : List (List Int)) (n : Nat), vs = [.ref x, .ref t, .ref b] ∧ H x = some (.ins C dx []) ∧ Td H (.ref t) (stockD rows) ∧ Td H (.ref b) (stockD ws) ∧ Sg rows ws n ∧
  ∀ H', Kp2 x x H H' → CabAt C H' x rows ws n [] → Q .non H'
theorem ok_in {f fN fU fV fTu fA fEr fO fSz fWm fWi fCs fCn fFu fCo fSp fCa fR fSt fAu fIp fI fFc fLo fSo fOv fDw fSv fSm : Addr} {fd dN dU dV dTu dA dEr dO dSz dWm dWi dCs dCn dFu dCo dSp dCa dR dSt dAu dIp dI dFc dLo dSo dOv dDw dSv dSm : FuncData} {C hIn hPu hRe hWi hDr hId hEd hTh hSu hCh hSt hEs hLn hSr hUn hAt hDb hDe hCf : Addr} {eIn ePu eRe eWi eDr eId eEd eTh eSu eCh eSt eEs eLn eSr eUn eAt eDb eDe eCf : FuncData} {k : Nat} (F : Fun K "__init__" "Cabinet.__init__" cInit f fd) (T : Tx K mg fN fU fV fTu fA fEr fO fSz fWm fWi fCs fCn fFu fCo fSp fCa fR fSt fAu fIp fI fFc fLo fSo fOv fDw fSv fSm dN dU dV dTu dA dEr dO dSz dWm dWi dCs dCn dFu dCo dSp dCa dR dSt dAu dIp dI dFc dLo dSo dOv dDw dSv dSm) (X : CT K mg C hIn hPu hRe hWi hDr hId hEd hTh hSu hCh hSt hEs hLn hSr hUn hAt hDb hDe hCf eIn ePu eRe eWi eDr eId eEd eTh eSu eCh eSt eEs eLn eSr eUn eAt eDb eDe eCf) : FnOk P w K mg base CX0 (k + 6) f fd ["self", "stock", "collections"] (spIn C) := by
  have GCs : FnOk P w K mg base CX0 (k + 5) fCs dCs ["kinds", "value"] spAre := ok_are T.Cs (show CoTx K mg fTu fU fN fA fCn dTu dU dN dA dCn from ⟨T.A, T.bA, T.gA, T.Tu, T.bTu, T.gTu, T.U, T.bU, T.gU, T.N, T.bN, T.gN, T.Cn, T.bCn, T.gCn, T.mX, T.mC, T.m_isinstance, T.m_int, T.m_bool, T.m_tuple, T.m_len, T.m_all, T.m_sum⟩)
  have GEr : FnOk P w K mg base CX0 (k + 4) fEr dEr ["value"] (spErr K) := ok_err T.Er ⟨T.A, T.bA, T.gA, T.Tu, T.bTu, T.gTu, T.U, T.bU, T.gU, T.N, T.bN, T.gN, T.mD, T.mK, T.mC, T.m_isinstance, T.m_int, T.m_bool, T.m_tuple, T.m_len, T.m_all, T.m_enumerate⟩
  have GSt : FnOk P w K mg base CX0 (k + 3) fSt dSt ["stock", "collections"] spTotal := ok_total T.St T
  refine F.ok scIn (fun vs H Q E h => ?_) (fun cdv A outer s H vs Q E hr h => ?_)
  · obtain ⟨x, t, b, dx, rows, ws, n, rfl, _⟩ := h
    rfl
  · obtain ⟨x, t, b, dx, rows, ws, n, rfl, hx, ht, hb, g, q⟩ := h
    refine ⟨_, (pss_cons (ps_set (i := 3) scIn.nd rfl (.inl rfl) (pe_call GEr (hr.mono (by omega)) (by rfl) T.gEr T.Er.kp T.bEr .nil pass0 (pa_cons (pv 1) pa_nil)))
      (pss_cons (ps_if (pt_cmpR op_notN (pv 3) pe_non (nomark _)) (pss_one ps_never) pss_nil)
      (pss_cons (ps_if (pt_not (pt_val (pe_call GCs (hr.mono (by omega)) (by rfl) T.gCs T.Cs.kp T.bCs .nil pass0 (pa_cons (pe_callB call_len_seq (by rfl) T.m_len PySem.boot_len (pa_cons (pe_ix (show IxR _ (rIxT K) from ix_tup) (pv 1) pe_int (fun _ _ => rfl)) pa_nil)) (pa_cons (pv 2) pa_nil))))) (pss_one ps_never) pss_nil)
      (pss_cons (ps_fld (pv 0) (pv 1) rfl)
      (pss_cons (ps_fld (pv 0) (pv 2) rfl)
      (pss_cons (ps_fld (pv 0) (pe_call GSt (hr.mono (by omega)) (by rfl) T.gSt T.St.kp T.bSt .nil pass0 (pa_cons (pv 1) (pa_cons (pv 2) pa_nil))) rfl)
      (pss_cons (ps_fld (pv 0) (pe_tup pa_nil) rfl)
      (pss_one (ps_fld (pv 0) pe_bl rfl))))))))), ?_⟩
    obtain ⟨ls, l, stk, hl0, hrow⟩ := row0 ht g.r1
    have hg := g.getD (d := 0) (by have := g.r1; omega)
    refine ⟨_, rfl, _, _, rfl, ht.dq, slim_rows g.r4 (fun r hr => (g.rg r hr).1) g.n4, fun u H1 s1 hu => ?_⟩
    rw [g.err] at hu
    cases hu
    refine ⟨_, rfl, rfl, _, rfl, ?_⟩
    refine iteF2 (by rfl) ?_
    refine ⟨_, rfl, t, _, 0, _, rfl, rfl, SqT.of (s1 _ _ stk.top), atI_nat (j := 0) hl0, ?_⟩
    refine ⟨l, _, rfl, .inr (SqT.of (s1 _ _ hrow)), ?_⟩
    refine ⟨_, rfl, ?_⟩
    rw [List.length_map, hg.1]
    refine ⟨(n : Int), _, _, rfl, (hb.same s1).dq, slim_rows g.w4 (fun r hr => (g.wg r hr).len) g.n4, fun H2 s2 => ⟨_, rfl, ?_⟩⟩
    refine iteF2 (by rw [g.are]; rfl) ?_
    have s12 := s1.trans s2
    have hx2 := s12 _ _ hx
    refine ⟨_, rfl, _, rfl, x, C, dx, _, rfl, hx2, X.cl, X.aS, by decide, ?_⟩
    refine ⟨_, rfl, _, rfl, x, C, dx, _, rfl, upd_same, X.cl, X.aC, by show 1 < 1000; decide, ?_⟩
    refine ⟨_, rfl, _, rfl, ?_⟩
    have k2 : ∀ o1 o2 : HO, Kp2 x x H2 (upd (upd H2 x o1) x o2) := fun o1 o2 c o h _ e => by
      rw [upd_ne h, upd_ne h]
      exact e
    have tk2 := fun o1 o2 => tk_ins hx2 (k2 o1 o2)
    obtain ⟨wl, wi⟩ := g.wish (hb.same s12)
    refine ⟨t, b, ls, wl, rows, ws, n, rfl, (stk.same s12).tk (tk2 _ _), g.r1, g.r4, fun r hr => (g.rg r hr).1, wi.tk (tk2 _ _), fun H3 s3 => ?_⟩
    refine ⟨_, rfl, x, C, dx, _, rfl, s3 _ _ upd_same, X.cl, X.aU, by show 2 < 1000; decide, ?_⟩
    refine ⟨by show 0 ≤ sizeLine; decide, fun pp np => ?_⟩
    refine ⟨_, rfl, x, C, dx, _, rfl, same_new np _ _ upd_same, X.cl, X.aP, by show 3 < 1000; decide, ?_⟩
    refine ⟨_, rfl, x, C, dx, _, rfl, upd_same, X.cl, X.aW, by show 4 < 1000; decide, ?_⟩
    have nx := (ne_of_none (upd_same (H := H3) (a := x)) np).symm
    have kf := fun o1 o2 => ((kps s12).trans (k2 _ _)).trans ((kps s3).trans ((kp2x (x := x)).trans ((kps (same_new (o := .tup []) np)).trans ((kp2x (x := x) (o := o1)).trans (kp2x (x := x) (o := o2))))))
    refine q _ (kf _ _) ⟨⟨dx, t, b, pp, upd_same, ht.tk (tk_ins hx (kf _ _)), hb.tk (tk_ins hx (kf _ _)), .tup (by rw [upd_ne nx, upd_ne nx]; exact upd_same) .nil⟩, g⟩
end
end DD
namespace DD
open PySem PySem.Spec PyProof.Rows L2 RZ
structure LX (K : PySem.W.Frag) (mg : Str → Option Value) (lDk lD lS lC lW lAf lEd lO lPl lSh : Addr) (jDk jD jS jC jW jAf jEd jO jPl jSh : FuncData) : Prop where
  Dk : Fun K "_law_deck" "_law_deck" sDeck lDk jDk
  bDk : Binds K jDk ["_law_script"] []
  gDk : mg "_law_deck" = some (.ref lDk)
  D : Fun K "_law_draw" "_law_draw" sDraw lD jD
  bD : Binds K jD ["_law_deck_here", "_law_many"] []
  gD : mg "_law_draw" = some (.ref lD)
  S : Fun K "_law_stock" "_law_stock" sStock lS jS
  bS : Binds K jS ["_law_deck_here", "_law_drawers", "_law_most"] []
  gS : mg "_law_stock" = some (.ref lS)
  C : Fun K "_law_collection" "_law_collection" sColl lC jC
  bC : Binds K jC ["_law_deck_here", "_law_kinds", "_law_most"] []
  gC : mg "_law_collection" = some (.ref lC)
  W : Fun K "_law_wish" "_law_wish" sWish lW jW
  bW : Binds K jW ["_law_deck_here", "_law_kinds", "_law_most"] []
  gW : mg "_law_wish" = some (.ref lW)
  Af : Fun K "_law_after" "_law_after" sAfter lAf jAf
  bAf : Binds K jAf ["_law_state", "_law_edit_here"] []
  gAf : mg "_law_after" = some (.ref lAf)
  Ed : Fun K "_law_edit" "_law_edit" sEdit lEd jEd
  bEd : Binds K jEd ["_law_deck_here", "_law_state"] []
  gEd : mg "_law_edit" = some (.ref lEd)
  O : Fun K "_law_do" "_law_do" sDo lO jO
  bO : Binds K jO ["_law_table", "_law_edit_here"] []
  gO : mg "_law_do" = some (.ref lO)
  Pl : Fun K "_law_plan" "_law_plan" sLPlan lPl jPl
  bPl : Binds K jPl ["_law_deck_here", "_law_stock_here"] []
  gPl : mg "_law_plan" = some (.ref lPl)
  Sh : Fun K "_law_shown" "_law_shown" sShown lSh jSh
  bSh : Binds K jSh ["_law_table", "_law_plan_here"] []
  gSh : mg "_law_shown" = some (.ref lSh)
  m_abs : mg "abs" = none
  m_len : mg "len" = none
  m_min : mg "min" = none
  m_max : mg "max" = none
  m_range : mg "range" = none
  m_tuple : mg "tuple" = none
  m_sum : mg "sum" = none
  m_zip : mg "zip" = none
  m_repr : mg "repr" = none
  m_str : mg "str" = none
  m_int : mg "int" = none
/-- rows under way in a list, while the deck turns -/
structure UW (H0 H : Hp) (dk c FD : Addr) (ls : List Addr) (ws : List (List Int)) (B : Nat) : Prop where
  fd : H FD = some (.lst (ls.map V.ref))
  ll : ls.length = ws.length
  ra : RowsAt H ls ws
  kp : Kp2 dk c H0 H
  d : Deck H dk c B
  nfd : H0 FD = none
  ne : FD ≠ dk ∧ FD ≠ c
theorem UW.step {H0 H H' : Hp} {dk c FD : Addr} {ls : List Addr} {ws : List (List Int)} {B B' : Nat} (a : UW H0 H dk c FD ls ws B) (k : Kp2 dk c H H') (d : Deck H' dk c B') : UW H0 H' dk c FD ls ws B' :=
  ⟨k _ _ a.ne.1 a.ne.2 a.fd, a.ll, a.ra.kp a.d k, a.kp.trans k, d, a.nfd, a.ne⟩
theorem UW.same {H0 H H' : Hp} {dk c FD : Addr} {ls : List Addr} {ws : List (List Int)} {B : Nat} (a : UW H0 H dk c FD ls ws B) (s : Same H H') : UW H0 H' dk c FD ls ws B := a.step (kps s) (a.d.keep s)
theorem UW.up {H0 H : Hp} {dk c FD : Addr} {ls : List Addr} {ws : List (List Int)} {B B' : Nat} (a : UW H0 H dk c FD ls ws B) (h : B ≤ B') : UW H0 H dk c FD ls ws B' := ⟨a.fd, a.ll, a.ra, a.kp, a.d.up h, a.nfd, a.ne⟩
theorem UW.updC {H0 H : Hp} {dk c FD C : Addr} {ls : List Addr} {ws : List (List Int)} {B : Nat} {xs : List V} {o : HO} (a : UW H0 H dk c FD ls ws B) (h : H C = some (.lst xs)) (n0 : H0 C = none) (ne : C ≠ dk ∧ C ≠ c) (nf : C ≠ FD) : UW H0 (upd H C o) dk c FD ls ws B :=
  ⟨by rw [upd_ne nf.symm]; exact a.fd, a.ll, a.ra.updL h, a.kp.updF n0, a.d.updD ne.1 ne.2, a.nfd, a.ne⟩
theorem UW.free {H0 H : Hp} {dk c FD C : Addr} {ls : List Addr} {ws : List (List Int)} {B : Nat} (a : UW H0 H dk c FD ls ws B) (n : H C = none) : H0 C = none ∧ (C ≠ dk ∧ C ≠ c) ∧ C ≠ FD := by
  have ne := a.d.nedk n
  exact ⟨kp_free a.kp a.d n, ne, fun z => by rw [z, a.fd] at n; cases n⟩
theorem UW.push {H0 H : Hp} {dk c FD : Addr} {ls : List Addr} {ws : List (List Int)} {B : Nat} (a : UW H0 H dk c FD ls ws B) {l : Addr} {r : List Int} (h : H l = some (.tup (r.map V.int))) : UW H0 (upd H FD (.lst (ls.map V.ref ++ [.ref l]))) dk c FD (ls ++ [l]) (ws ++ [r]) B :=
  ⟨by rw [upd_same, List.map_append]; rfl, by rw [List.length_append, List.length_append, a.ll]; rfl, (a.ra.snoc a.ll h).updL a.fd, a.kp.updF a.nfd, a.d.updD a.ne.1 a.ne.2, a.nfd, a.ne⟩
theorem UW.start {H FD dk c} {B : Nat} (d : Deck H dk c B) (n : H FD = none) : UW H (upd H FD (.lst [])) dk c FD [] [] B := ⟨upd_same, rfl, fun j l r e => by simp at e, kps (same_new n), d.kp n, n, d.nedk n⟩
/-- a list of numbers from lo to hi at C -/
structure NL_ (H : Hp) (C : Addr) (row : List Int) (lo hi : Int) : Prop where
  at_ : H C = some (.lst (row.map V.int))
  bd : ∀ x ∈ row, lo ≤ x ∧ x ≤ hi
theorem bd_snoc {row : List Int} {x lo hi : Int} (h : ∀ y ∈ row, lo ≤ y ∧ y ≤ hi) (h1 : lo ≤ x) (h2 : x ≤ hi) : ∀ y ∈ row ++ [x], lo ≤ y ∧ y ≤ hi := fun y hy => by
  rcases List.mem_append.mp hy with q | q
  · exact h y q
  · rw [List.mem_singleton.mp q]
    exact ⟨h1, h2⟩
abbrev NSt : List Str := ["_law_deck_here", "_law_drawers", "_law_most", "_law_kinds", "_law_way", "_law_found", "_law_k", "_law_row", "_law_kind", "_law_number"]
theorem scLStock : FnScope NSt ["_law_deck_here", "_law_drawers", "_law_most"] (defScope sStock) := ⟨rfl, rfl, rfl, by decide +kernel, rfl, by decide +kernel, by decide +kernel⟩
section
variable {P : Program} {w : World} {K : PySem.W.Frag} {mg : Str → Option Value} {base : Heap}
/-- a stock of one to M drawers and one to four kinds, of numbers from 0 to hi -/
def spLStock : Sp := fun vs H Q _ => ∃ (dk c : Addr) (B M : Nat) (hi : Int), vs = [.ref dk, .int M, .int hi] ∧ Deck H dk c B ∧ 1 ≤ M ∧ M ≤ 4 ∧ B + 60 ≤ 1000000 ∧ 1 ≤ hi ∧ hi ≤ 900 ∧
  ∀ t (ls : List Addr) (rows : List (List Int)) (n : Nat) H', 1 ≤ rows.length → rows.length ≤ M → 1 ≤ n → n ≤ 4 → (∀ row ∈ rows, row.length = n ∧ ∀ x ∈ row, 0 ≤ x ∧ x ≤ hi) → StockAt H' t ls rows → Kp2 dk c H H' → Deck H' dk c (B + 60) → Q (.ref t) H'
set_option maxHeartbeats 800000 in
theorem ok_ls {f lDk lD lS lC lW lAf lEd lO lPl lSh : Addr} {fd jDk jD jS jC jW jAf jEd jO jPl jSh : FuncData} {k : Nat} (F : Fun K "_law_stock" "_law_stock" sStock f fd) (T : LX K mg lDk lD lS lC lW lAf lEd lO lPl lSh jDk jD jS jC jW jAf jEd jO jPl jSh) : FnOk P w K mg base CX0 (k + 2) f fd ["_law_deck_here", "_law_drawers", "_law_most"] spLStock := by
  have GD : FnOk P w K mg base CX0 (k + 1) lD jD ["_law_deck_here", "_law_many"] spDraw := ok_draw T.D T.m_len
  refine F.ok scLStock (fun vs H Q E h => ?_) (fun cdv A outer s H vs Q E hr h => ?_)
  · obtain ⟨dk, c, B, M, hi, rfl, _⟩ := h
    rfl
  · obtain ⟨dk, c, B, M, hi, rfl, dek, hM1, hM4, hB, h0, h9, q⟩ := h
    refine ⟨_, (pss_cons (ps_par (i := 3) (j := 4) (by rfl) scLStock.nd rfl rfl (by decide) rfl rfl (pa_cons (pe_op op_add pe_int (pe_call GD (hr.mono (by omega)) (by rfl) T.gD T.D.kp T.bD .nil pass0 (pa_cons (pv 0) (pa_cons pe_int pa_nil)))) (pa_cons (pe_call GD (hr.mono (by omega)) (by rfl) T.gD T.D.kp T.bD .nil pass0 (pa_cons (pv 0) (pa_cons pe_int pa_nil))) pa_nil)) (by rfl))
      (pss_cons (ps_set (i := 5) scLStock.nd rfl (.inl rfl) (pe_lst pa_nil))
      (pss_cons (ps_for PassesOwn.never rfl (pi_range1 (by rfl) T.m_range (pa_cons (pe_op op_add pe_int (pe_call GD (hr.mono (by omega)) (by rfl) T.gD T.D.kp T.bD .nil pass0 (pa_cons (pv 0) (pa_cons (pv 1) pa_nil)))) pa_nil)) (pg_name (i := 6) scLStock.nd rfl (Or.inl rfl)) (pss_cons (ps_setLc (i := 7) (own := [("_law_kind", 8)]) (g := gName 8) rfl scLStock.nd rfl rfl (sw_true rfl rfl rfl (by decide +kernel)) (pi_range1 (by rfl) T.m_range (pa_cons (pv 3) pa_nil)) (blkOk_by (own := [("_law_kind", 8)]) (N := NSt) (sc := defScope sStock) (by decide +kernel)) (fun _ _ _ _ _ => (pg_name (i := 8) scLStock.nd rfl (Or.inl rfl))) (fun _ _ _ _ _ => pts_nil) (fun _ _ _ _ _ => (pe_call GD (hr.mono (by omega)) (by rfl) T.gD T.D.kp T.bD .nil pass0 (pa_cons (pv 0) (pa_cons (pe_op op_add (pv 2) pe_int) pa_nil)))))
      (C8.pss_cut (ps_if (pt_cmpR op_eq (pv 4) pe_int (nomark _)) (pss_one (ps_setLc (i := 7) (own := [("_law_number", 9)]) (g := gName 9) rfl scLStock.nd rfl rfl (sw_true rfl rfl rfl (by decide +kernel)) (pi_list (pv 7)) (blkOk_by (own := [("_law_number", 9)]) (N := NSt) (sc := defScope sStock) (by decide +kernel)) (fun _ _ _ _ _ => (pg_name (i := 9) scLStock.nd rfl (Or.inl rfl))) (fun _ _ _ _ _ => pts_nil) (fun _ _ _ _ _ => (pe_op op_mul (pe_call GD (hr.mono (by omega)) (by rfl) T.gD T.D.kp T.bD .nil pass0 (pa_cons (pv 0) (pa_cons pe_int pa_nil))) (pv 9))))) pss_nil)
      (C8.pss_cut (ps_if (pt_cmpR op_eq (pv 4) pe_int (nomark _)) (pss_one (ps_setLc (i := 7) (own := [("_law_number", 9)]) (g := gName 9) rfl scLStock.nd rfl rfl (sw_true rfl rfl rfl (by decide +kernel)) (pi_list (pv 7)) (blkOk_by (own := [("_law_number", 9)]) (N := NSt) (sc := defScope sStock) (by decide +kernel)) (fun _ _ _ _ _ => (pg_name (i := 9) scLStock.nd rfl (Or.inl rfl))) (fun _ _ _ _ _ => pts_nil) (fun _ _ _ _ _ => (pe_callB (call_min2 rfl) (by rfl) T.m_min (by decide +kernel) (pa_cons (pv 9) (pa_cons pe_int pa_nil)))))) pss_nil)
      (pss_one (ps_expr (pe_bm PySem.F.plainAttrs_list PySem.F.slot_list_append PySem.F.type_list_append mt_append (pv 5) (pa_cons (pe_callTy call_tuple_of (by rfl) T.m_tuple (by decide +kernel) (pa_cons (pv 7) pa_nil)) pa_nil))))))))
      (pss_one (ps_ret (pe_callTy call_tuple_of (by rfl) T.m_tuple (by decide +kernel) (pa_cons (pv 5) pa_nil))))))), ?_⟩
    refine ⟨_, rfl, dk, c, B, 4, rfl, dek, by omega, by decide, by decide, fun r1 H1 a0 a1 k1 d1 => ?_⟩
    refine ⟨1, r1, rfl, rfl, ?_⟩
    refine ⟨_, rfl, dk, c, B + 1, 4, rfl, d1, by omega, by decide, by decide, fun r2 H2 b0 b1 k2 d2 => ?_⟩
    refine ⟨_, _, rfl, ?_⟩
    refine ⟨Nat.zero_le _, fun FD nF => ?_⟩
    have w2 := UW.start d2 nF
    refine ⟨_, rfl, _, rfl, dk, c, B + 2, M, rfl, w2.d, by omega, by omega, by omega, fun r3 H3 c0 c1 k3 d3 => ?_⟩
    have w3 := w2.step k3 d3
    obtain ⟨cnt, hcnt, hc1, hc4⟩ : ∃ cnt : Nat, 1 + r3 = (cnt : Int) ∧ 1 ≤ cnt ∧ cnt ≤ M := ⟨(1 + r3).toNat, by omega, by omega, by omega⟩
    obtain ⟨n, hn, hn1, hn4⟩ : ∃ n : Nat, 1 + r1 = (n : Int) ∧ 1 ≤ n ∧ n ≤ 4 := ⟨(1 + r1).toNat, by omega, by omega, by omega⟩
    refine ⟨1, r3, rfl, rfl, (cnt : Int), congrArg (fun x => [V.int x]) hcnt, by omega, by omega, ?_⟩
    refine for_range (lo := 0) (n := cnt) (fun i σ H' => ∃ (ls : List Addr) (rows : List (List Int)) (y6 y7 y8 y9 : Option V), σ = [some (.ref dk), some (.int M), some (.int hi), some (.int (1 + r1)), some (.int r2), some (.ref FD), y6, y7, y8, y9] ∧ rows.length = i ∧ (∀ row ∈ rows, row.length = n ∧ ∀ x ∈ row, 0 ≤ x ∧ x ≤ hi) ∧ UW H2 H' dk c FD ls rows (B + 3 + 8 * i))
      ⟨[], [], _, _, _, _, rfl, rfl, (fun x h => by cases h), w3.up (by omega)⟩ (fun i σ H' hi' h => ?_) (fun σ H' h => ?_)
    · obtain ⟨ls, rows, y6, y7, y8, y9, rfl, hl, hrow, w4⟩ := h
      refine ⟨_, rfl, (n : Int), congrArg (fun x => [V.int x]) hn, by omega, by omega, fun C nC => ?_⟩
      obtain ⟨nC0, neC, nCF⟩ := w4.free nC
      refine lc_range (lo := 0) (n := n) (fun j H4 => ∃ row : List Int, row.length = j ∧ NL_ H4 C row 0 hi ∧ UW H2 H4 dk c FD ls rows (B + 3 + 8 * i + j))
        ⟨[], rfl, ⟨upd_same, fun x h => by cases h⟩, w4.same (same_new nC)⟩ (fun j H4 hj h => ?_) (fun H4 h => ?_)
      · obtain ⟨row, hrl, hC, w5⟩ := h
        refine ⟨rfl, _, rfl, _, rfl, hi, 1, rfl, rfl, dk, c, _, hi + 1, rfl, w5.d, by omega, by omega, by omega, fun q1 H5 e0 e1 k5 d5 => ?_⟩
        have w6 := w5.step k5 d5
        have hC5 := k5 _ _ neC.1 neC.2 hC.at_
        refine ⟨_, hC5, by rw [List.length_map]; exact len_lt (by omega), row ++ [q1], by rw [List.length_append, hrl]; rfl, ⟨by rw [upd_same, List.map_append]; rfl, bd_snoc hC.bd e0 (by omega)⟩, (w6.updC hC5 nC0 neC nCF).up (by omega)⟩
      · obtain ⟨row, hrl, hC, w5⟩ := h
        refine ⟨fun σ' H' => ∃ (C' : Addr) (row' : List Int) (y8 y9 : Option V), σ' = [some (.ref dk), some (.int M), some (.int hi), some (.int (1 + r1)), some (.int r2), some (.ref FD), some (.int ((0 : Int) + i)), some (.ref C'), y8, y9] ∧ row'.length = n ∧ NL_ H' C' row' 0 hi ∧ UW H2 H' dk c FD ls rows (B + 3 + 8 * i + 8), ?_, ?_⟩
        · refine ⟨_, rfl, rfl, _, rfl, ite2 (fun e => ?_) (fun e => ⟨C, row, _, _, rfl, hrl, hC, w5.up (by omega)⟩)⟩
          refine ⟨.ref C, rfl, C, rfl, ⟨_, SqL.of hC.at_⟩, fun C2 n2 => ?_⟩
          obtain ⟨n20, ne2, n2F⟩ := w5.free n2
          have hCC : C ≠ C2 := ne_of_none hC.at_ n2
          refine lc_list (xs := row.map V.int) (fun j H5 => ∃ r2 : List Int, r2.length = j ∧ NL_ H5 C2 r2 0 hi ∧ H5 C = some (.lst (row.map V.int)) ∧ UW H2 H5 dk c FD ls rows (B + 3 + 8 * i + 4 + j))
            ⟨[], rfl, ⟨upd_same, fun x h => by cases h⟩, same_new n2 _ _ hC.at_, (w5.same (same_new n2)).up (by omega)⟩ (fun j H5 _ h => by obtain ⟨_, _, _, h, _⟩ := h; exact SqL.of h) (fun j x H5 hx h => ?_) (fun H5 h => ?_)
          · obtain ⟨rr, hrr, hC2, hCk, w6⟩ := h
            obtain ⟨z, hz, rfl⟩ := get_map hx
            have hzb := hC.bd z (List.mem_of_getElem? hz)
            have hjl : j < row.length := (List.getElem?_eq_some_iff.mp hz).1
            refine ⟨rfl, _, rfl, dk, c, _, 2, rfl, w6.d, by omega, by decide, by decide, fun q1 H6 e0 e1 k6 d6 => ?_⟩
            have w7 := w6.step k6 d6
            have hC26 := k6 _ _ ne2.1 ne2.2 hC2.at_
            have hCk6 := k6 _ _ neC.1 neC.2 hCk
            have hp : 0 ≤ q1 * z ∧ q1 * z ≤ hi := by
              have : q1 = 0 ∨ q1 = 1 := by omega
              rcases this with rfl | rfl
              · rw [Int.zero_mul]; omega
              · rw [Int.one_mul]; exact hzb
            refine ⟨_, rfl, q1, z, rfl, rfl, .inr ⟨by omega, by omega⟩, _, hC26, by rw [List.length_map]; exact len_lt (by omega), rr ++ [q1 * z], by rw [List.length_append, hrr]; rfl, ⟨by rw [upd_same, List.map_append]; rfl, bd_snoc hC2.bd hp.1 hp.2⟩, by rw [upd_ne hCC]; exact hCk6, (w7.updC hC26 n20 ne2 n2F).up (by omega)⟩
          · obtain ⟨rr, hrr, hC2, hCk, w6⟩ := h
            rw [List.length_map, hrl] at hrr w6
            exact ⟨C2, rr, _, _, rfl, hrr, hC2, w6.up (by omega)⟩
        · rintro σ5 H5 ⟨C1, row1, y8, y9, rfl, hrl1, hC1, w6⟩
          refine ⟨fun σ' H' => ∃ (C' : Addr) (row' : List Int) (y8 y9 : Option V), σ' = [some (.ref dk), some (.int M), some (.int hi), some (.int (1 + r1)), some (.int r2), some (.ref FD), some (.int ((0 : Int) + i)), some (.ref C'), y8, y9] ∧ row'.length = n ∧ NL_ H' C' row' 0 hi ∧ UW H2 H' dk c FD ls rows (B + 3 + 8 * i + 8), ?_, ?_⟩
          · refine ⟨_, rfl, rfl, _, rfl, ite2 (fun e => ?_) (fun e => ⟨C1, row1, _, _, rfl, hrl1, hC1, w6⟩)⟩
            refine ⟨.ref C1, rfl, C1, rfl, ⟨_, SqL.of hC1.at_⟩, fun C2 n2 => ?_⟩
            obtain ⟨n20, ne2, n2F⟩ := w6.free n2
            have hCC : C1 ≠ C2 := ne_of_none hC1.at_ n2
            refine lc_list (xs := row1.map V.int) (fun j H6 => ∃ r2 : List Int, r2.length = j ∧ NL_ H6 C2 r2 0 hi ∧ H6 C1 = some (.lst (row1.map V.int)) ∧ UW H2 H6 dk c FD ls rows (B + 3 + 8 * i + 8))
              ⟨[], rfl, ⟨upd_same, fun x h => by cases h⟩, same_new n2 _ _ hC1.at_, w6.same (same_new n2)⟩ (fun j H5 _ h => by obtain ⟨_, _, _, h, _⟩ := h; exact SqL.of h) (fun j x H6 hx h => ?_) (fun H6 h => ?_)
            · obtain ⟨rr, hrr, hC2, hCk, w7⟩ := h
              obtain ⟨z, hz, rfl⟩ := get_map hx
              have hzb := hC1.bd z (List.mem_of_getElem? hz)
              have hjl : j < row1.length := (List.getElem?_eq_some_iff.mp hz).1
              have hp : 0 ≤ (if 2 < z then 2 else z) ∧ (if 2 < z then 2 else z) ≤ hi := by split <;> omega
              refine ⟨rfl, _, rfl, z, 2, rfl, _, hC2.at_, by rw [List.length_map]; exact len_lt (by omega), rr ++ [if 2 < z then 2 else z], by rw [List.length_append, hrr]; rfl, ⟨by rw [upd_same, List.map_append]; rfl, bd_snoc hC2.bd hp.1 hp.2⟩, by rw [upd_ne hCC]; exact hCk, w7.updC hC2.at_ n20 ne2 n2F⟩
            · obtain ⟨rr, hrr, hC2, hCk, w7⟩ := h
              rw [List.length_map, hrl1] at hrr
              exact ⟨C2, rr, _, _, rfl, hrr, hC2, w7⟩
          · rintro σ6 H6 ⟨C2, row2, y8, y9, rfl, hrl2, hC2, w7⟩
            refine ⟨.ref FD, rfl, .inl ⟨rfl, _, SqL.of w7.fd⟩, _, rfl, C2, _, rfl, .inl ⟨SqL.of hC2.at_, fun t nt => ?_⟩⟩
            have w8 := w7.same (same_new (o := .tup (row2.map V.int)) nt)
            refine ⟨FD, _, .ref t, rfl, rfl, w8.fd, by rw [List.length_map, w8.ll, hl]; exact len_lt (by omega), ls ++ [t], rows ++ [row2], _, _, _, _, rfl, by rw [List.length_append, hl]; rfl, fun r hr => ?_, (w8.push upd_same).up (by omega)⟩
            rcases List.mem_append.mp hr with h | h
            · exact hrow r h
            · rw [List.mem_singleton.mp h]
              exact ⟨hrl2, hC2.bd⟩
    · obtain ⟨ls, rows, y6, y7, y8, y9, rfl, hl, hrow, w4⟩ := h
      refine ⟨_, rfl, FD, _, rfl, .inl ⟨SqL.of w4.fd, fun t nt => ?_⟩⟩
      have w5 := w4.same (same_new (o := .tup (ls.map V.ref)) nt)
      exact q t ls rows n _ (by omega) (by omega) hn1 hn4 hrow ⟨upd_same, w5.ll, w5.ra⟩ (k1.trans (k2.trans w5.kp)) (w5.d.up (by omega))
end
end DD
namespace DD
open PySem PySem.Spec PyProof.Rows L2 RZ
theorem ix_set {r : List Int} {j : Nat} (h : j < r.length) : ixN (r.map V.int).length (j : Int) = some j := by
  unfold ixN
  rw [if_pos (by omega), if_pos (by rw [List.length_map]; omega)]
  simp
abbrev NCo : List Str := ["_law_deck_here", "_law_kinds", "_law_most", "_law_found", "_law_at", "_law_kind"]
theorem scLColl : FnScope NCo ["_law_deck_here", "_law_kinds", "_law_most"] (defScope sColl) := ⟨rfl, rfl, rfl, by decide +kernel, rfl, by decide +kernel, by decide +kernel⟩
abbrev NWi : List Str := ["_law_deck_here", "_law_kinds", "_law_most", "_law_k"]
theorem scLWish : FnScope NWi ["_law_deck_here", "_law_kinds", "_law_most"] (defScope sWish) := ⟨rfl, rfl, rfl, by decide +kernel, rfl, by decide +kernel, by decide +kernel⟩
section
variable {P : Program} {w : World} {K : PySem.W.Frag} {mg : Str → Option Value} {base : Heap}
def spLColl : Sp := fun vs H Q _ => ∃ (dk c : Addr) (B n : Nat) (hi : Int), vs = [.ref dk, .int n, .int hi] ∧ Deck H dk c B ∧ 1 ≤ n ∧ n ≤ 4 ∧ B + 10 ≤ 1000000 ∧ 1 ≤ hi ∧ hi ≤ 900 ∧
  ∀ t r H', H' t = some (.tup (r.map V.int)) → Good n hi r → Kp2 dk c H H' → Deck H' dk c (B + 10) → Q (.ref t) H'
theorem ok_lcoll {f lDk lD lS lC lW lAf lEd lO lPl lSh : Addr} {fd jDk jD jS jC jW jAf jEd jO jPl jSh : FuncData} {k : Nat} (F : Fun K "_law_collection" "_law_collection" sColl f fd) (T : LX K mg lDk lD lS lC lW lAf lEd lO lPl lSh jDk jD jS jC jW jAf jEd jO jPl jSh) : FnOk P w K mg base CX0 (k + 2) f fd ["_law_deck_here", "_law_kinds", "_law_most"] spLColl := by
  have GD : FnOk P w K mg base CX0 (k + 1) lD jD ["_law_deck_here", "_law_many"] spDraw := ok_draw T.D T.m_len
  refine F.ok scLColl (fun vs H Q E h => ?_) (fun cdv A outer s H vs Q E hr h => ?_)
  · obtain ⟨dk, c, B, n, hi, rfl, _⟩ := h
    rfl
  · obtain ⟨dk, c, B, n, hi, rfl, dek, hn1, hn4, hB, h0, h9, q⟩ := h
    refine ⟨_, (pss_cons (ps_setLc (i := 3) (own := [("_law_kind", 5)]) (g := gName 5) rfl scLColl.nd rfl rfl (sw_true rfl rfl rfl (by decide +kernel)) (pi_range1 (by rfl) T.m_range (pa_cons (pv 1) pa_nil)) (blkOk_by (own := [("_law_kind", 5)]) (N := NCo) (sc := defScope sColl) (by decide +kernel)) (fun _ _ _ _ _ => (pg_name (i := 5) scLColl.nd rfl (Or.inl rfl))) (fun _ _ _ _ _ => pts_nil) (fun _ _ _ _ _ => (pe_op op_mul (pe_call GD (hr.mono (by omega)) (by rfl) T.gD T.D.kp T.bD .nil pass0 (pa_cons (pv 0) (pa_cons (pe_op op_add (pv 2) pe_int) pa_nil))) (pe_call GD (hr.mono (by omega)) (by rfl) T.gD T.D.kp T.bD .nil pass0 (pa_cons (pv 0) (pa_cons pe_int pa_nil))))))
      (pss_cons (ps_set (i := 4) scLColl.nd rfl (.inl rfl) (pe_call GD (hr.mono (by omega)) (by rfl) T.gD T.D.kp T.bD .nil pass0 (pa_cons (pv 0) (pa_cons (pv 1) pa_nil))))
      (pss_cons (ps_asg (pe_callB (call_max2 rfl) (by rfl) T.m_max (by decide +kernel) (pa_cons pe_int (pa_cons (pe_ix (show IxR _ (rIxL K) from ix_list) (pv 3) (pv 4) (fun _ _ => rfl)) pa_nil))) (pg_sub (pv 3) (pv 4) set_list))
      (pss_one (ps_ret (pe_callTy call_tuple_of (by rfl) T.m_tuple (by decide +kernel) (pa_cons (pv 3) pa_nil))))))), ?_⟩
    refine ⟨_, rfl, (n : Int), rfl, by omega, by omega, fun C nC => ?_⟩
    have neC := dek.nedk nC
    refine lc_range (lo := 0) (n := n) (fun j H4 => ∃ row : List Int, row.length = j ∧ NL_ H4 C row 0 hi ∧ Kp2 dk c H H4 ∧ Deck H4 dk c (B + 2 * j))
      ⟨[], rfl, ⟨upd_same, fun x h => by cases h⟩, kps (same_new nC), dek.kp nC⟩ (fun j H4 hj h => ?_) (fun H4 h => ?_)
    · obtain ⟨row, hrl, hC, kp, d4⟩ := h
      refine ⟨rfl, _, rfl, _, rfl, hi, 1, rfl, rfl, dk, c, _, hi + 1, rfl, d4, by omega, by omega, by omega, fun q1 H5 e0 e1 k5 d5 => ?_⟩
      refine ⟨_, rfl, dk, c, _, 2, rfl, d5, by omega, by decide, by decide, fun q2 H6 f0 f1 k6 d6 => ?_⟩
      have hC6 := k6 _ _ neC.1 neC.2 (k5 _ _ neC.1 neC.2 hC.at_)
      have hp : 0 ≤ q1 * q2 ∧ q1 * q2 ≤ hi := by
        have : q2 = 0 ∨ q2 = 1 := by omega
        rcases this with rfl | rfl
        · rw [Int.mul_zero]; omega
        · rw [Int.mul_one]; omega
      refine ⟨q1, q2, rfl, rfl, .inr ⟨by omega, by omega⟩, _, hC6, by rw [List.length_map]; exact len_lt (by omega), row ++ [q1 * q2], by rw [List.length_append, hrl]; rfl, ⟨by rw [upd_same, List.map_append]; rfl, bd_snoc hC.bd hp.1 hp.2⟩, (kp.trans (k5.trans k6)).updF nC, (d6.updD neC.1 neC.2).up (by omega)⟩
    · obtain ⟨row, hrl, hC, kp, d4⟩ := h
      refine ⟨_, rfl, _, rfl, dk, c, _, n, rfl, d4, by omega, by omega, by omega, fun q1 H5 e0 e1 k5 d5 => ?_⟩
      have hC5 := k5 _ _ neC.1 neC.2 hC.at_
      obtain ⟨j, rfl⟩ : ∃ j : Nat, q1 = (j : Int) := ⟨q1.toNat, by omega⟩
      have hjl : j < row.length := by omega
      have hj : row[j]? = some row[j] := List.getElem?_eq_getElem hjl
      have hb := hC.bd _ (List.getElem_mem hjl)
      refine ⟨_, rfl, _, rfl, C, _, (j : Int), .int row[j], rfl, rfl, SqL.of hC5, atI_nat (by rw [List.getElem?_map, hj]; rfl), 1, row[j], rfl, ?_⟩
      have hv : 1 ≤ (if row[j] > 1 then row[j] else 1) ∧ (if row[j] > 1 then row[j] else 1) ≤ hi := by split <;> omega
      generalize (if row[j] > 1 then row[j] else 1) = z at hv ⊢
      refine ⟨_, rfl, _, rfl, C, _, (j : Int), j, rfl, rfl, hC5, ix_set hjl, ?_⟩
      rw [map_set' V.int]
      refine ⟨_, rfl, C, _, rfl, .inl ⟨SqL.of upd_same, fun t nt => ?_⟩⟩
      refine q t (row.set j z) _ upd_same ⟨by rw [List.length_set]; exact hrl, fun x hx => ?_, z, ?_, by omega⟩ (((kp.trans k5).updF nC).trans (kps (same_new nt))) (((d5.updD neC.1 neC.2).kp nt).up (by omega))
      · rcases mem_set' hx with rfl | h
        · omega
        · exact hC.bd x h
      · exact List.mem_iff_getElem?.mpr ⟨j, by rw [List.getElem?_set_self (by exact hjl)]⟩
theorem Good.up {n : Nat} {a b : Int} {r : List Int} (g : Good n a r) (h : a ≤ b) : Good n b r := ⟨g.len, fun x hx => by have := g.bd x hx; omega, g.pos⟩
def spLWish : Sp := fun vs H Q _ => ∃ (dk c : Addr) (B n : Nat) (hi : Int), vs = [.ref dk, .int n, .int hi] ∧ Deck H dk c B ∧ 1 ≤ n ∧ n ≤ 4 ∧ B + 60 ≤ 1000000 ∧ 1 ≤ hi ∧ hi ≤ 50 ∧
  ∀ t ls ws H', Wish H' t ls ws n → Kp2 dk c H H' → Deck H' dk c (B + 60) → Q (.ref t) H'
theorem ok_lwish {f lDk lD lS lC lW lAf lEd lO lPl lSh : Addr} {fd jDk jD jS jC jW jAf jEd jO jPl jSh : FuncData} {k : Nat} (F : Fun K "_law_wish" "_law_wish" sWish f fd) (T : LX K mg lDk lD lS lC lW lAf lEd lO lPl lSh jDk jD jS jC jW jAf jEd jO jPl jSh) : FnOk P w K mg base CX0 (k + 3) f fd ["_law_deck_here", "_law_kinds", "_law_most"] spLWish := by
  have GD : FnOk P w K mg base CX0 (k + 1) lD jD ["_law_deck_here", "_law_many"] spDraw := ok_draw T.D T.m_len
  have GC : FnOk P w K mg base CX0 (k + 2) lC jC ["_law_deck_here", "_law_kinds", "_law_most"] spLColl := ok_lcoll T.C T
  refine F.ok scLWish (fun vs H Q E h => ?_) (fun cdv A outer s H vs Q E hr h => ?_)
  · obtain ⟨dk, c, B, n, hi, rfl, _⟩ := h
    rfl
  · obtain ⟨dk, c, B, n, hi, rfl, dek, hn1, hn4, hB, h0, h9, q⟩ := h
    refine ⟨_, pss_one (ps_ret (pe_callTy call_tuple_of (by rfl) T.m_tuple (by decide +kernel) (pa_cons (pe_lc (own := [("_law_k", 3)]) (g := gName 3) rfl scLWish.nd (pi_range1 (by rfl) T.m_range (pa_cons (pe_op op_add pe_int (pe_call GD (hr.mono (by omega)) (by rfl) T.gD T.D.kp T.bD .nil pass0 (pa_cons (pv 0) (pa_cons pe_int pa_nil)))) pa_nil)) (blkOk_by (own := [("_law_k", 3)]) (N := NWi) (sc := defScope sWish) (by decide +kernel)) (fun _ _ _ _ _ => (pg_name (i := 3) scLWish.nd rfl (Or.inl rfl))) (fun _ _ _ _ _ => pts_nil) (fun _ _ _ _ _ => (pe_call GC (hr.mono (by omega)) (by rfl) T.gC T.C.kp T.bC .nil pass0 (pa_cons (pv 0) (pa_cons (pv 1) (pa_cons (pv 2) pa_nil)))))) pa_nil))), ?_⟩
    refine ⟨_, rfl, dk, c, B, 4, rfl, dek, by omega, by decide, by decide, fun r1 H1 a0 a1 k1 d1 => ?_⟩
    obtain ⟨cnt, hcnt, hc1, hc4⟩ : ∃ cnt : Nat, 1 + r1 = (cnt : Int) ∧ 1 ≤ cnt ∧ cnt ≤ 4 := ⟨(1 + r1).toNat, by omega, by omega, by omega⟩
    refine ⟨1, r1, rfl, rfl, (cnt : Int), congrArg (fun x => [V.int x]) hcnt, by omega, by omega, fun FD nF => ?_⟩
    have w1 := UW.start d1 nF
    refine lc_range (lo := 0) (n := cnt) (fun j H4 => ∃ (ls : List Addr) (ws : List (List Int)), ws.length = j ∧ (∀ r ∈ ws, Good n 50 r) ∧ UW H1 H4 dk c FD ls ws (B + 1 + 10 * j))
      ⟨[], [], rfl, (fun r h => by cases h), w1⟩ (fun j H4 hj h => ?_) (fun H4 h => ?_)
    · obtain ⟨ls, ws, hl, hg, w4⟩ := h
      refine ⟨rfl, _, rfl, _, rfl, _, rfl, dk, c, _, n, hi, rfl, w4.d, hn1, hn4, by omega, h0, by omega, fun t r H5 ht gr k5 d5 => ?_⟩
      have w5 := w4.step k5 d5
      refine ⟨_, w5.fd, by rw [List.length_map, w5.ll]; exact len_lt (by omega), ls ++ [t], ws ++ [r], by rw [List.length_append, hl]; rfl, fun y hy => ?_, (w5.push ht).up (by omega)⟩
      rcases List.mem_append.mp hy with h | h
      · exact hg y h
      · rw [List.mem_singleton.mp h]
        exact gr.up h9
    · obtain ⟨ls, ws, hl, hg, w4⟩ := h
      refine ⟨FD, _, rfl, .inl ⟨SqL.of w4.fd, fun t nt => ?_⟩⟩
      have w5 := w4.same (same_new (o := .tup (ls.map V.ref)) nt)
      exact q t ls ws _ ⟨⟨upd_same, w5.ll, w5.ra⟩, by omega, by omega, hg, hn1, hn4⟩ (k1.trans w5.kp) (w5.d.up (by omega))
theorem Td.kpD {H H' : Hp} {dk c : Addr} {B : Nat} {v : V} {d : PyData} (h : Td H v d) (dek : Deck H dk c B) (k : Kp2 dk c H H') : Td H' v d := h.tk (TK.kp dek k)
/-- a state in a list -/
structure StateAt (H : Hp) (p : Addr) (rows ws : List (List Int)) (n : Nat) : Prop where
  ex : ∃ t b, H p = some (.lst [.ref t, .ref b]) ∧ Td H (.ref t) (stockD rows) ∧ Td H (.ref b) (stockD ws)
  g : Sg rows ws n
end
end DD
namespace DD
open PySem PySem.Spec PyProof.Rows L2 RZ
theorem getD_ofN {α : Type} {xs : List α} {i : Nat} {d : α} (h : i < xs.length) : xs[i]? = some (xs.getD i d) := by
  rw [List.getD_eq_getElem?_getD, List.getElem?_eq_getElem h]
  rfl
def capUp (rows : List (List Int)) (named : List Int) (i k : Nat) : Option Int := if pickUp rows named k i = [] then none else some (minL (pickUp rows named k i) - 1)
theorem minL_snoc {l : List Int} {x : Int} (h : l ≠ []) : minL (l ++ [x]) = if x < minL l then x else minL l := by
  symm
  refine minL_uniq ?_ fun y hy => ?_
  · split
    · exact List.mem_append_right _ (List.mem_singleton.mpr rfl)
    · exact List.mem_append_left _ (minL_mem h)
  · rcases List.mem_append.mp hy with h' | h'
    · have := minL_le y h'
      split <;> omega
    · rw [List.mem_singleton.mp h']
      split <;> omega
theorem minL_one {x : Int} : minL [x] = x := (minL_uniq (l := [x]) (m := x) (List.mem_singleton.mpr rfl) fun y hy => by rw [List.mem_singleton.mp hy]; exact Int.le_refl _).symm
theorem caps_set {n k : Nat} {f g : Nat → Option Int} {x : Option Int} (h : g k = x) (ho : ∀ j, j ≠ k → g j = f j) : ((List.range n).map fun j => optI (f j)).set k (optI x) = (List.range n).map fun j => optI (g j) := by
  refine List.ext_getElem? fun j => ?_
  rw [List.getElem?_set, List.getElem?_map]
  by_cases e : k = j
  · subst e
    by_cases hk : k < n
    · rw [if_pos rfl, if_pos (by simpa using hk), List.getElem?_map, List.getElem?_range hk]
      show _ = some (optI (g k))
      rw [h]
    · rw [if_pos rfl, if_neg (by simpa using hk), List.getElem?_map, List.getElem?_eq_none (by simpa using hk)]
      rfl
  · rw [if_neg e, List.getElem?_map]
    cases hr : (List.range n)[j]? with
    | none => rfl
    | some v =>
      have hv : j = v := by
        have := (List.getElem?_eq_some_iff.mp hr)
        simpa using this.2
      show some (optI (f v)) = some (optI (g v))
      rw [ho v (by omega)]
theorem zw_bd {b : Int} : ∀ {ts : List Int} {cs : List (Option Int)}, (∀ t ∈ ts, 0 ≤ t ∧ t ≤ b) → (∀ c, some c ∈ cs → 0 ≤ c) → ∀ x ∈ List.zipWith capv ts cs, 0 ≤ x ∧ x ≤ b
  | [], _, _, _, x, hx => by simp at hx
  | _ :: _, [], _, _, x, hx => by simp at hx
  | t :: ts, c :: cs, h1, h2, x, hx => by
    rw [List.zipWith_cons_cons] at hx
    rcases List.mem_cons.mp hx with rfl | hx
    · have := h1 t List.mem_cons_self
      cases c with
      | none => exact this
      | some c =>
        have := h2 c List.mem_cons_self
        show 0 ≤ (if c < t then c else t) ∧ (if c < t then c else t) ≤ b
        split <;> omega
    · exact zw_bd (fun t ht => h1 t (List.mem_cons_of_mem _ ht)) (fun c hc => h2 c (List.mem_cons_of_mem _ hc)) x hx
theorem tot_one {row : List Int} {n : Nat} (h : row.length = n) : totalsOf [row] n = row := by
  refine List.ext_getElem? fun i => ?_
  unfold totalsOf
  rw [List.getElem?_map]
  by_cases hi : i < n
  · rw [List.getElem?_range hi, getD_ofN (d := 0) (by rw [h]; exact hi)]
    simp
  · rw [List.getElem?_eq_none (by simpa using hi), List.getElem?_eq_none (by omega)]
    rfl
theorem capv_le (t : Int) (c : Option Int) : capv t c ≤ t := by
  cases c with
  | none => exact Int.le_refl _
  | some c =>
    show (if c < t then c else t) ≤ t
    split <;> omega
theorem zw_le : ∀ {ts : List Int} {cs : List (Option Int)}, ts.length = cs.length → (List.zipWith capv ts cs).sum ≤ ts.sum
  | [], _, _ => by simp
  | _ :: _, [], h => by simp at h
  | t :: ts, c :: cs, h => by
    rw [List.zipWith_cons_cons, List.sum_cons, List.sum_cons]
    have := zw_le (ts := ts) (cs := cs) (by simpa using h)
    have := capv_le t c
    omega
theorem zw_full : ∀ {ts : List Int} {cs : List (Option Int)}, ts.length = cs.length → ts.sum ≤ (List.zipWith capv ts cs).sum → ∀ (i : Nat) (v x : Int), cs[i]? = some (some v) → ts[i]? = some x → x ≤ v
  | [], _, _, _, i, v, x, _, e => by simp at e
  | _ :: _, [], h, _, _, _, _, _, _ => by simp at h
  | t :: ts, c :: cs, h, hs, i, v, x, e1, e2 => by
    rw [List.zipWith_cons_cons, List.sum_cons, List.sum_cons] at hs
    have hl : ts.length = cs.length := by simpa using h
    have h1 := zw_le hl
    have h2 := capv_le t c
    cases i with
    | zero =>
      obtain rfl : c = some v := Option.some.inj e1
      obtain rfl : t = x := Option.some.inj e2
      have h3 : (if v < t then v else t) = capv t (some v) := rfl
      by_cases hv : v < t
      · rw [if_pos hv] at h3
        omega
      · omega
    | succ i => exact zw_full hl (by omega) i v x e1 e2
theorem zw_kept : ∀ {ts : List Int} {cs : List (Option Int)}, ts.length = cs.length → (∀ (i : Nat) (v x : Int), cs[i]? = some (some v) → ts[i]? = some x → x ≤ v) → (List.zipWith capv ts cs).sum = ts.sum
  | [], _, _, _ => by simp
  | _ :: _, [], h, _ => by simp at h
  | t :: ts, c :: cs, h, hk => by
    rw [List.zipWith_cons_cons, List.sum_cons, List.sum_cons, zw_kept (by simpa using h) fun i v x e1 e2 => hk (i + 1) v x e1 e2]
    cases c with
    | none => rfl
    | some c =>
      have := hk 0 c t rfl rfl
      show (if c < t then c else t) + _ = _
      rw [if_neg (by omega)]
theorem rooms_mem {ts : List Int} {ws : List (List Int)} {n : Nat} {y : Int} : y ∈ roomsOf ts ws n ↔ ∃ s ∈ spOf ws, (List.zipWith capv ts (capsOf ws s n)).sum = y := List.mem_map
theorem rooms_ne {ts : List Int} {ws : List (List Int)} {n : Nat} {hi : Int} (h : ∀ r ∈ ws, Good n hi r) : roomsOf ts ws n ≠ [] := fun e => sp_ne h (List.map_eq_nil_iff.mp e)
theorem ful_room {row : List Int} {ws : List (List Int)} {n : Nat} {hi : Int} (hg : ∀ r ∈ ws, Good n hi r) (hl : row.length = n) (h0 : ∀ x ∈ row, 0 ≤ x) : fulOf ws row = none ↔ row.sum ≤ maxL (roomsOf row ws n) := by
  rw [ful_kept (n := n) (fun r hr => (hg r hr).len) hl h0]
  have hcl : ∀ s, row.length = (capsOf ws s n).length := fun s => by rw [caps_len, hl]
  constructor
  · rintro ⟨s, hs, hk⟩
    have h := zw_kept (hcl s) (kept_iff.mp hk)
    exact maxL_ge (rooms_mem.mpr ⟨s, hs, h⟩)
  · intro h
    obtain ⟨s, hs, e⟩ := rooms_mem.mp (maxL_mem (rooms_ne (ts := row) (n := n) hg))
    exact ⟨s, hs, kept_iff.mpr (zw_full (hcl s) (by rw [e]; exact h))⟩
theorem sum_add' : ∀ (l : List Nat) (f g : Nat → Int), (l.map fun i => f i + g i).sum = (l.map f).sum + (l.map g).sum
  | [], _, _ => rfl
  | x :: l, f, g => by
    rw [List.map_cons, List.map_cons, List.map_cons, List.sum_cons, List.sum_cons, List.sum_cons, sum_add' l f g]
    omega
theorem row_sum {r : List Int} {n : Nat} (h : r.length = n) : ((List.range n).map fun i => r.getD i 0).sum = r.sum := by
  congr 1
  refine List.ext_getElem? fun i => ?_
  rw [List.getElem?_map]
  by_cases hi : i < n
  · rw [List.getElem?_range hi, getD_ofN (d := 0) (show i < r.length by omega)]
    rfl
  · rw [List.getElem?_eq_none (by simpa using hi), List.getElem?_eq_none (by omega)]
    rfl
theorem tot_sum {n : Nat} : ∀ {rows : List (List Int)}, (∀ r ∈ rows, r.length = n) → (totalsOf rows n).sum = (sizesOf rows).sum
  | [], _ => by
    show ((List.range n).map fun _ => (0 : Int)).sum = 0
    generalize List.range n = l
    induction l with
    | nil => rfl
    | cons x l ih => rw [List.map_cons, List.sum_cons, ih]; rfl
  | r :: rows, h => by
    have ih := tot_sum (rows := rows) fun x hx => h x (List.mem_cons_of_mem _ hx)
    have e : totalsOf (r :: rows) n = (List.range n).map fun i => r.getD i 0 + (rows.map fun x => x.getD i 0).sum := by
      unfold totalsOf
      refine List.map_congr_left fun i _ => ?_
      rw [List.map_cons, List.sum_cons]
    rw [e, sum_add', row_sum (h r List.mem_cons_self)]
    show r.sum + (totalsOf rows n).sum = (r.sum :: sizesOf rows).sum
    rw [ih, List.sum_cons]
end DD
namespace DD
open PySem PySem.Spec PyProof.Rows L2 RZ
/-! ### edits -/
inductive Ed where
  | put (d k : Nat) (c : Int)
  | rem (d k : Nat) (c : Int)
  | wish (r : List Int)
  | drop (j : Nat)
def Ed.dat : Ed → PyData
  | .put d k c => .tuple [.str "put", .int d, .int k, .int c]
  | .rem d k c => .tuple [.str "remove", .int d, .int k, .int c]
  | .wish r => .tuple [.str "wish", rowD r]
  | .drop j => .tuple [.str "drop", .int j]
def Ed.ok (rows ws : List (List Int)) (n : Nat) : Ed → Prop
  | .put d k c => d < rows.length ∧ k < n ∧ 1 ≤ c ∧ c ≤ 50 ∧ (rows.getD d []).getD k 0 + c ≤ 50
  | .rem d k c => d < rows.length ∧ k < n ∧ 1 ≤ c ∧ c ≤ 50 ∧ c ≤ (rows.getD d []).getD k 0
  | .wish r => Good n 50 r ∧ ws.length ≤ 3
  | .drop j => j < ws.length ∧ 2 ≤ ws.length
def Ed.rows (rows : List (List Int)) : Ed → List (List Int)
  | .put d k c => moreR rows d k c
  | .rem d k c => moreR rows d k (-c)
  | _ => rows
def Ed.ws (ws : List (List Int)) : Ed → List (List Int)
  | .wish r => ws ++ [r]
  | .drop j => ws.take j ++ ws.drop (j + 1)
  | _ => ws
theorem sg_ed {rows ws : List (List Int)} {n : Nat} (g : Sg rows ws n) : ∀ (e : Ed), e.ok rows ws n → Sg (e.rows rows) (e.ws ws) n
  | .put d k c, h => by
    obtain ⟨h1, h2, h3, h4, h5⟩ := h
    have hg := g.getD h1
    have := hg.2 _ (List.mem_of_getElem? (getD_ofN (d := 0) (show k < (rows.getD d []).length by rw [hg.1]; exact h2)))
    exact g.more h1 h2 (by omega) h5
  | .rem d k c, h => by
    obtain ⟨h1, h2, h3, h4, h5⟩ := h
    have hg := g.getD h1
    have := hg.2 _ (List.mem_of_getElem? (getD_ofN (d := 0) (show k < (rows.getD d []).length by rw [hg.1]; exact h2)))
    exact g.more h1 h2 (by omega) (by omega)
  | .wish r, h => by
    refine g.wishes (by have := g.w1; show 1 ≤ (ws ++ [r]).length; rw [List.length_append]; omega) (by show (ws ++ [r]).length ≤ 4; rw [List.length_append]; have := h.2; simp only [List.length_cons, List.length_nil]; omega) fun y hy => ?_
    rcases List.mem_append.mp hy with q | q
    · exact g.wg y q
    · rw [List.mem_singleton.mp q]
      exact h.1
  | .drop j, h => by
    have h1 := h.1
    have h2 := h.2
    have h4 := g.w4
    refine g.wishes (by show 1 ≤ (ws.take j ++ ws.drop (j + 1)).length; rw [List.length_append, List.length_take, List.length_drop]; omega) (by show (ws.take j ++ ws.drop (j + 1)).length ≤ 4; rw [List.length_append, List.length_take, List.length_drop]; omega) fun y hy => ?_
    rcases List.mem_append.mp hy with q | q
    · exact g.wg y (List.mem_of_mem_take q)
    · exact g.wg y (List.mem_of_mem_drop q)
theorem ed_at4 {H : Hp} {v : V} {x : Str} {a b c : Int} (h : Td H v (.tuple [.str x, .int a, .int b, .int c])) : ∃ p, v = .ref p ∧ H p = some (.tup [.str x, .int a, .int b, .int c]) := by
  cases h with
  | tup hp hs =>
    cases hs with
    | cons a1 s =>
      cases a1
      cases s with
      | cons a1 s =>
        cases a1
        cases s with
        | cons a1 s =>
          cases a1
          cases s with
          | cons a1 s =>
            cases a1
            cases s
            exact ⟨_, rfl, hp⟩
theorem ed_at2 {H : Hp} {v : V} {x : Str} {d : PyData} (h : Td H v (.tuple [.str x, d])) : ∃ p u, v = .ref p ∧ H p = some (.tup [.str x, u]) ∧ Td H u d := by
  cases h with
  | tup hp hs =>
    cases hs with
    | cons a1 s =>
      cases a1
      cases s with
      | cons a1 s =>
        cases s
        exact ⟨_, _, rfl, hp, a1⟩
theorem s_rp : ("remove" : Str) ≠ "put" := by decide +kernel
theorem s_wp : ("wish" : Str) ≠ "put" := by decide +kernel
theorem s_wr : ("wish" : Str) ≠ "remove" := by decide +kernel
theorem s_dp : ("drop" : Str) ≠ "put" := by decide +kernel
theorem s_dr : ("drop" : Str) ≠ "remove" := by decide +kernel
theorem s_dw : ("drop" : Str) ≠ "wish" := by decide +kernel
theorem s_pw : ("put" : Str) ≠ "wish" := by decide +kernel
theorem s_pd : ("put" : Str) ≠ "drop" := by decide +kernel
theorem s_rw : ("remove" : Str) ≠ "wish" := by decide +kernel
theorem s_rd : ("remove" : Str) ≠ "drop" := by decide +kernel
theorem s_wd : ("wish" : Str) ≠ "drop" := by decide +kernel
theorem sne {a b : Str} (h : a ≠ b) : decide (V.str a = V.str b) = false := decide_eq_false fun z => h (V.str.inj z)
theorem seq_ {a : Str} : decide (V.str a = V.str a) = true := decide_eq_true rfl
theorem scLDo : FnScope ["_law_table", "_law_edit_here"] ["_law_table", "_law_edit_here"] (defScope sDo) := ⟨rfl, rfl, rfl, by decide +kernel, rfl, by decide +kernel, by decide +kernel⟩
section
variable {P : Program} {w : World} {K : PySem.W.Frag} {mg : Str → Option Value} {base : Heap}
def spLDo (C : Addr) : Sp := fun vs H Q _ => ∃ (x : Addr) (v : V) (e : Ed) (rows ws : List (List Int)) (n : Nat) (hist : List Hst), vs = [.ref x, v] ∧ Td H v e.dat ∧ CabAt C H x rows ws n hist ∧ hist.length ≤ 59 ∧ e.ok rows ws n ∧
  ∀ H', Kp2 x x H H' → CabAt C H' x (e.rows rows) (e.ws ws) n (hist ++ [(e.dat, rows, ws)]) → Q (.int ((hist.length + 1 : Nat) : Int)) H'
set_option maxHeartbeats 800000 in
theorem ok_ldo {f lDk lD lS lC lW lAf lEd lO lPl lSh : Addr} {fd jDk jD jS jC jW jAf jEd jO jPl jSh : FuncData} {C hIn hPu hRe hWi hDr hId hEd hTh hSu hCh hSt hEs hLn hSr hUn hAt hDb hDe hCf : Addr} {eIn ePu eRe eWi eDr eId eEd eTh eSu eCh eSt eEs eLn eSr eUn eAt eDb eDe eCf : FuncData} {fN fU fV fTu fA fEr fO fSz fWm fWi fCs fCn fFu fCo fSp fCa fR fSt fAu fIp fI fFc fLo fSo fOv fDw fSv fSm : Addr} {dN dU dV dTu dA dEr dO dSz dWm dWi dCs dCn dFu dCo dSp dCa dR dSt dAu dIp dI dFc dLo dSo dOv dDw dSv dSm : FuncData} {k : Nat} (F : Fun K "_law_do" "_law_do" sDo f fd) (T : LX K mg lDk lD lS lC lW lAf lEd lO lPl lSh jDk jD jS jC jW jAf jEd jO jPl jSh) (X : CT K mg C hIn hPu hRe hWi hDr hId hEd hTh hSu hCh hSt hEs hLn hSr hUn hAt hDb hDe hCf eIn ePu eRe eWi eDr eId eEd eTh eSu eCh eSt eEs eLn eSr eUn eAt eDb eDe eCf) (TP : Tx K mg fN fU fV fTu fA fEr fO fSz fWm fWi fCs fCn fFu fCo fSp fCa fR fSt fAu fIp fI fFc fLo fSo fOv fDw fSv fSm dN dU dV dTu dA dEr dO dSz dWm dWi dCs dCn dFu dCo dSp dCa dR dSt dAu dIp dI dFc dLo dSo dOv dDw dSv dSm) : FnOk P w K mg base CX0 (k + 6) f fd ["_law_table", "_law_edit_here"] (spLDo C) := by
  have GPu : FnOk P w K mg base CX0 (k + 5) hPu ePu ["self", "drawer", "kind", "count"] (spPu C) := ok_pu X.FPu TP X
  have GRe : FnOk P w K mg base CX0 (k + 5) hRe eRe ["self", "drawer", "kind", "count"] (spRe C) := ok_re X.FRe TP X
  have GWi : FnOk P w K mg base CX0 (k + 5) hWi eWi ["self", "collection"] (spWi C) := ok_wi X.FWi TP X
  have GDr : FnOk P w K mg base CX0 (k + 5) hDr eDr ["self", "index"] (spDr C) := ok_dr X.FDr TP X
  refine F.ok scLDo (fun vs H Q E h => ?_) (fun cdv A outer s H vs Q E hr h => ?_)
  · obtain ⟨x, v, e, rows, ws, n, hist, rfl, _⟩ := h
    rfl
  · obtain ⟨x, v, e, rows, ws, n, hist, rfl, hv, hc, hl, hok, q⟩ := h
    refine ⟨_, (pss_cons (ps_if (pt_cmpR op_eq (pe_ix (show IxR _ (rIxT K) from ix_tup) (pv 1) pe_int (fun _ _ => rfl)) pe_str (nomark _)) (pss_one (ps_ret (pe_meth (pv 0) X.cl X.MPu GPu (hr.mono (by omega)) X.BPu .nil pass0 (pa_cons (pe_ix (show IxR _ (rIxT K) from ix_tup) (pv 1) pe_int (fun _ _ => rfl)) (pa_cons (pe_ix (show IxR _ (rIxT K) from ix_tup) (pv 1) pe_int (fun _ _ => rfl)) (pa_cons (pe_ix (show IxR _ (rIxT K) from ix_tup) (pv 1) pe_int (fun _ _ => rfl)) pa_nil)))))) pss_nil)
      (pss_cons (ps_if (pt_cmpR op_eq (pe_ix (show IxR _ (rIxT K) from ix_tup) (pv 1) pe_int (fun _ _ => rfl)) pe_str (nomark _)) (pss_one (ps_ret (pe_meth (pv 0) X.cl X.MRe GRe (hr.mono (by omega)) X.BRe .nil pass0 (pa_cons (pe_ix (show IxR _ (rIxT K) from ix_tup) (pv 1) pe_int (fun _ _ => rfl)) (pa_cons (pe_ix (show IxR _ (rIxT K) from ix_tup) (pv 1) pe_int (fun _ _ => rfl)) (pa_cons (pe_ix (show IxR _ (rIxT K) from ix_tup) (pv 1) pe_int (fun _ _ => rfl)) pa_nil)))))) pss_nil)
      (pss_cons (ps_if (pt_cmpR op_eq (pe_ix (show IxR _ (rIxT K) from ix_tup) (pv 1) pe_int (fun _ _ => rfl)) pe_str (nomark _)) (pss_one (ps_ret (pe_meth (pv 0) X.cl X.MWi GWi (hr.mono (by omega)) X.BWi .nil pass0 (pa_cons (pe_ix (show IxR _ (rIxT K) from ix_tup) (pv 1) pe_int (fun _ _ => rfl)) pa_nil)))) pss_nil)
      (pss_one (ps_ret (pe_meth (pv 0) X.cl X.MDr GDr (hr.mono (by omega)) X.BDr .nil pass0 (pa_cons (pe_ix (show IxR _ (rIxT K) from ix_tup) (pv 1) pe_int (fun _ _ => rfl)) pa_nil))))))), ?_⟩
    obtain ⟨dx, t, b, tp, hx, _⟩ := hc.ex
    cases e with
    | put d k' c =>
      obtain ⟨p, rfl, hp⟩ := ed_at4 hv
      obtain ⟨h1, h2, h3, h4, h5⟩ := hok
      refine ⟨_, rfl, p, _, 0, _, rfl, rfl, SqT.of hp, rfl, rfl, _, rfl, iteT2 seq_ ?_⟩
      refine ⟨_, rfl, x, dx, _, rfl, hx, lm_put, ?_⟩
      refine ⟨_, rfl, p, _, 1, _, rfl, rfl, SqT.of hp, rfl, ?_⟩
      refine ⟨_, rfl, p, _, 2, _, rfl, rfl, SqT.of hp, rfl, ?_⟩
      refine ⟨_, rfl, p, _, 3, _, rfl, rfl, SqT.of hp, rfl, ?_⟩
      exact ⟨x, d, k', c, rows, ws, n, hist, rfl, hc, hl, h1, h2, h3, h4, h5, q⟩
    | rem d k' c =>
      obtain ⟨p, rfl, hp⟩ := ed_at4 hv
      obtain ⟨h1, h2, h3, h4, h5⟩ := hok
      refine ⟨_, rfl, p, _, 0, _, rfl, rfl, SqT.of hp, rfl, rfl, _, rfl, iteF2 (sne s_rp) ?_⟩
      refine ⟨_, rfl, p, _, 0, _, rfl, rfl, SqT.of hp, rfl, rfl, _, rfl, iteT2 seq_ ?_⟩
      refine ⟨_, rfl, x, dx, _, rfl, hx, lm_remove, ?_⟩
      refine ⟨_, rfl, p, _, 1, _, rfl, rfl, SqT.of hp, rfl, ?_⟩
      refine ⟨_, rfl, p, _, 2, _, rfl, rfl, SqT.of hp, rfl, ?_⟩
      refine ⟨_, rfl, p, _, 3, _, rfl, rfl, SqT.of hp, rfl, ?_⟩
      exact ⟨x, d, k', c, rows, ws, n, hist, rfl, hc, hl, h1, h2, h3, h4, h5, q⟩
    | wish r =>
      obtain ⟨p, u, rfl, hp, hu⟩ := ed_at2 hv
      obtain ⟨l, rfl, hl'⟩ := td_rowI hu
      refine ⟨_, rfl, p, _, 0, _, rfl, rfl, SqT.of hp, rfl, rfl, _, rfl, iteF2 (sne s_wp) ?_⟩
      refine ⟨_, rfl, p, _, 0, _, rfl, rfl, SqT.of hp, rfl, rfl, _, rfl, iteF2 (sne s_wr) ?_⟩
      refine ⟨_, rfl, p, _, 0, _, rfl, rfl, SqT.of hp, rfl, rfl, _, rfl, iteT2 seq_ ?_⟩
      refine ⟨_, rfl, x, dx, _, rfl, hx, lm_wish, ?_⟩
      refine ⟨_, rfl, p, _, 1, _, rfl, rfl, SqT.of hp, rfl, ?_⟩
      exact ⟨x, l, r, rows, ws, n, hist, rfl, hc, hl, hl', hok.1, hok.2, q⟩
    | drop j =>
      obtain ⟨p, u, rfl, hp, hu⟩ := ed_at2 hv
      cases hu
      refine ⟨_, rfl, p, _, 0, _, rfl, rfl, SqT.of hp, rfl, rfl, _, rfl, iteF2 (sne s_dp) ?_⟩
      refine ⟨_, rfl, p, _, 0, _, rfl, rfl, SqT.of hp, rfl, rfl, _, rfl, iteF2 (sne s_dr) ?_⟩
      refine ⟨_, rfl, p, _, 0, _, rfl, rfl, SqT.of hp, rfl, rfl, _, rfl, iteF2 (sne s_dw) ?_⟩
      refine ⟨_, rfl, x, dx, _, rfl, hx, lm_drop, ?_⟩
      refine ⟨_, rfl, p, _, 1, _, rfl, rfl, SqT.of hp, rfl, ?_⟩
      exact ⟨x, j, rows, ws, n, hist, rfl, hc, hl, hok.1, hok.2, q⟩
end
end DD
namespace DD
open PySem PySem.Spec PyProof.Rows L2 RZ
abbrev NAf : List Str := ["_law_state", "_law_edit_here", "_law_stock_here", "_law_collections", "_law_drawer", "_law_kind", "_law_count", "_law_row", "_law_number"]
theorem scLAfter : FnScope NAf ["_law_state", "_law_edit_here"] (defScope sAfter) := ⟨rfl, rfl, rfl, by decide +kernel, rfl, by decide +kernel, by decide +kernel⟩
abbrev NEd : List Str := ["_law_deck_here", "_law_state", "_law_stock_here", "_law_collections", "_law_way", "_law_drawer", "_law_kind", "_law_number"]
theorem scLEdit : FnScope NEd ["_law_deck_here", "_law_state"] (defScope sEdit) := ⟨rfl, rfl, rfl, by decide +kernel, rfl, by decide +kernel, by decide +kernel⟩
theorem ed_pr {rows ws : List (List Int)} {n : Nat} {nm : Str} {sg : Int} {d k : Nat} {c : Int} (e : Ed) (h : (e = .put d k c ∧ nm = "put" ∧ sg = 1) ∨ (e = .rem d k c ∧ nm = "remove" ∧ sg = -1)) (hok : e.ok rows ws n) :
    e.dat = .tuple [.str nm, .int d, .int k, .int c] ∧ nm ≠ "wish" ∧ nm ≠ "drop" ∧ valV (mergeK [] [((.inr "put" : Key), V.int 1), (.inr "remove", V.int (-1))]) (.inr nm) = some (.int sg) ∧ e.rows rows = moreR rows d k (c * sg) ∧ e.ws ws = ws ∧ d < rows.length ∧ k < n ∧ (sg = 1 ∨ sg = -1) ∧ 1 ≤ c ∧ c ≤ 50 := by
  rcases h with ⟨rfl, rfl, rfl⟩ | ⟨rfl, rfl, rfl⟩
  · obtain ⟨h1, h2, h3, h4, h5⟩ := hok
    exact ⟨rfl, s_pw, s_pd, by decide +kernel, by rw [Int.mul_one]; rfl, rfl, h1, h2, .inl rfl, h3, h4⟩
  · obtain ⟨h1, h2, h3, h4, h5⟩ := hok
    exact ⟨rfl, s_rw, s_rd, by decide +kernel, by rw [show c * -1 = -c by omega]; rfl, rfl, h1, h2, .inr rfl, h3, h4⟩
section
variable {P : Program} {w : World} {K : PySem.W.Frag} {mg : Str → Option Value} {base : Heap}
def spLAfter : Sp := fun vs H Q _ => ∃ (p : Addr) (v : V) (e : Ed) (rows ws : List (List Int)) (n : Nat), vs = [.ref p, v] ∧ StateAt H p rows ws n ∧ Td H v e.dat ∧ e.ok rows ws n ∧
  ∀ p' H', Same H H' → H p' = none → StateAt H' p' (e.rows rows) (e.ws ws) n → Q (.ref p') H'
set_option maxHeartbeats 800000 in
theorem ok_lafter {f lDk lD lS lC lW lAf lEd lO lPl lSh : Addr} {fd jDk jD jS jC jW jAf jEd jO jPl jSh : FuncData} {k : Nat} (F : Fun K "_law_after" "_law_after" sAfter f fd) (T : LX K mg lDk lD lS lC lW lAf lEd lO lPl lSh jDk jD jS jC jW jAf jEd jO jPl jSh) : FnOk P w K mg base CX0 (k + 1) f fd ["_law_state", "_law_edit_here"] spLAfter := by
  refine F.ok scLAfter (fun vs H Q E h => ?_) (fun cdv A outer s H vs Q E hr h => ?_)
  · obtain ⟨p, v, e, rows, ws, n, rfl, _⟩ := h
    rfl
  · obtain ⟨p, v, e, rows, ws, n, rfl, hst, hv, hok, q⟩ := h
    have hu1 : (A.deeper (envOfC "_law_after" (defScope sAfter) s.heap.objs.size f cdv)).units + 1 < cLine := by
      have := hr.un
      omega
    refine ⟨_, (pss_cons (ps_asg (pv 0) (pg_unl rfl (pgs_cons (pg_name (i := 2) scLAfter.nd rfl (Or.inl rfl)) (pgs_cons (pg_name (i := 3) scLAfter.nd rfl (Or.inl rfl)) pgs_nil))))
      (pss_cons (ps_if (pt_cmpR op_eq (pe_ix (show IxR _ (rIxT K) from ix_tup) (pv 1) pe_int (fun _ _ => rfl)) pe_str (nomark _)) (pss_one (ps_ret (pe_lst (pa_cons (pv 2) (pa_cons (pe_op op_catQ (pv 3) (pe_tup (pa_cons (pe_ix (show IxR _ (rIxT K) from ix_tup) (pv 1) pe_int (fun _ _ => rfl)) pa_nil))) pa_nil))))) pss_nil)
      (pss_cons (ps_if (pt_cmpR op_eq (pe_ix (show IxR _ (rIxT K) from ix_tup) (pv 1) pe_int (fun _ _ => rfl)) pe_str (nomark _)) (pss_one (ps_ret (pe_lst (pa_cons (pv 2) (pa_cons (pe_op op_catQ (pe_slice sl_tupQ (pv 3) po_none (po_some (pe_ix (show IxR _ (rIxT K) from ix_tup) (pv 1) pe_int (fun _ _ => rfl)))) (pe_slice sl_tupQ (pv 3) (po_some (pe_op op_add (pe_ix (show IxR _ (rIxT K) from ix_tup) (pv 1) pe_int (fun _ _ => rfl)) pe_int)) po_none)) pa_nil))))) pss_nil)
      (pss_cons (ps_asg (pe_slice sl_tupQ (pv 1) (po_some pe_int) po_none) (pg_tup rfl (pgs_cons (pg_name (i := 4) scLAfter.nd rfl (Or.inl rfl)) (pgs_cons (pg_name (i := 5) scLAfter.nd rfl (Or.inl rfl)) (pgs_cons (pg_name (i := 6) scLAfter.nd rfl (Or.inl rfl)) pgs_nil)))))
      (pss_cons (ps_set (i := 7) scLAfter.nd rfl (.inl rfl) (pe_ix (show IxR _ (rIxT K) from ix_tup) (pv 2) (pv 4) (fun _ _ => rfl)))
      (pss_cons (ps_set (i := 8) scLAfter.nd rfl (.inl rfl) (pe_op op_add (pe_ix (show IxR _ (rIxT K) from ix_tup) (pv 7) (pv 5) (fun _ _ => rfl)) (pe_op op_mul (pv 6) (pe_dget hu1 (pe_disp (pps_cons pe_str pe_int (pps_cons pe_str (pe_un un_neg pe_int) pps_nil)) (by rfl) (by rfl) (by decide) (by decide)) (pe_ix (show IxR _ (rIxT K) from ix_tup) (pv 1) pe_int (fun _ _ => rfl)) (fun _ _ => rfl)))))
      (pss_one (ps_ret (pe_lst (pa_cons (pe_op op_catQ (pe_op op_catQ (pe_slice sl_tupQ (pv 2) po_none (po_some (pv 4))) (pe_tup (pa_cons (pe_op op_catQ (pe_op op_catQ (pe_slice sl_tupQ (pv 7) po_none (po_some (pv 5))) (pe_tup (pa_cons (pv 8) pa_nil))) (pe_slice sl_tupQ (pv 7) (po_some (pe_op op_add (pv 5) pe_int)) po_none)) pa_nil))) (pe_slice sl_tupQ (pv 2) (po_some (pe_op op_add (pv 4) pe_int)) po_none)) (pa_cons (pv 3) pa_nil))))))))))), ?_⟩
    obtain ⟨⟨t, b, hp, ht, hb⟩, g⟩ := hst
    obtain ⟨_, ls, e0, stk⟩ := td_stockI ht
    cases e0
    obtain ⟨_, wl, e0, stb⟩ := td_stockI hb
    cases e0
    have hsl := stk.len
    have hwl := stb.len
    have r4 := g.r4
    have w4 := g.w4
    have g2 := sg_ed g e hok
    refine ⟨_, rfl, p, [.ref t, .ref b], rfl, SqL.of hp, rfl, .ref t, [.ref b], rfl, .ref b, [], rfl, rfl, ?_⟩
    have hcs : (∃ (nm : Str) (sg : Int) (d k' : Nat) (c : Int), (e = .put d k' c ∧ nm = "put" ∧ sg = 1) ∨ (e = .rem d k' c ∧ nm = "remove" ∧ sg = -1)) ∨ (∃ r, e = .wish r) ∨ ∃ j, e = .drop j := by
      cases e with
      | put d k' c => exact .inl ⟨_, _, d, k', c, .inl ⟨rfl, rfl, rfl⟩⟩
      | rem d k' c => exact .inl ⟨_, _, d, k', c, .inr ⟨rfl, rfl, rfl⟩⟩
      | wish r => exact .inr (.inl ⟨r, rfl⟩)
      | drop j => exact .inr (.inr ⟨j, rfl⟩)
    rcases hcs with ⟨nm, sg, d, k', c, he⟩ | ⟨r, rfl⟩ | ⟨j, rfl⟩
    · obtain ⟨hd0, nw, nd, hvl, hrw, hws, hd, hk, hsg, hc1, hc50⟩ := ed_pr e he hok
      rw [hd0] at hv
      obtain ⟨pe, rfl, hpe⟩ := ed_at4 hv
      refine ⟨_, rfl, pe, _, 0, _, rfl, rfl, SqT.of hpe, rfl, rfl, _, rfl, iteF2 (sne nw) ?_⟩
      refine ⟨_, rfl, pe, _, 0, _, rfl, rfl, SqT.of hpe, rfl, rfl, _, rfl, iteF2 (sne nd) ?_⟩
      refine ⟨_, rfl, 1, rfl, ?_⟩
      dsimp only [tNoPart]
      refine ⟨pe, _, rfl, hpe, fun p1 H1 s1 h1 => ?_⟩
      rw [cut1] at h1
      refine ⟨p1, [.int d, .int k', .int c], rfl, .inl (.inl h1), rfl, .int d, [.int k', .int c], rfl, .int k', [.int c], rfl, .int c, [], rfl, rfl, ?_⟩
      obtain ⟨l, hlx⟩ : ∃ l, ls[d]? = some l := ⟨_, List.getElem?_eq_getElem (by omega)⟩
      have hg := g.getD hd
      have hrow := s1 _ _ (stk.row d l (rows.getD d []) hlx (getD_ofN hd))
      have hix : (ls.map V.ref)[d]? = some (.ref l) := by rw [List.getElem?_map, hlx]; rfl
      have hpe1 := s1 _ _ hpe
      have htop := s1 _ _ stk.top
      refine ⟨_, rfl, _, rfl, t, _, _, _, rfl, rfl, SqT.of htop, atI_nat hix, ?_⟩
      have hix2 : ((rows.getD d []).map V.int)[k']? = some (.int ((rows.getD d []).getD k' 0)) := by
        rw [List.getElem?_map, getD_ofN (d := 0) (show k' < (rows.getD d []).length by rw [hg.1]; exact hk)]
        rfl
      refine ⟨_, rfl, _, rfl, l, _, _, _, rfl, rfl, SqT.of hrow, atI_nat hix2, ?_⟩
      refine ⟨_, rfl, fun pd nd' => ?_⟩
      refine ⟨1, rfl, upd_same, [((.inr "put" : Key), V.int 1), (.inr "remove", V.int (-1))], rfl, by decide, ?_⟩
      have sA : Same H1 (upd H1 pd (.dK [])) := same_new nd'
      have sB : Same H1 (upd (upd H1 pd (.dK [])) pd (.dK (mergeK [] [((.inr "put" : Key), V.int 1), (.inr "remove", V.int (-1))]))) := fun b' o' e' => by
        have := ne_of_none e' nd'
        rw [upd_ne this, upd_ne this]
        exact e'
      refine ⟨_, rfl, pe, _, 0, _, rfl, rfl, SqT.of (sB _ _ hpe1), rfl, ?_⟩
      refine ⟨pd, .int sg, rfl, .inl ⟨_, .inr nm, .inl upd_same, rfl, hvl.symm⟩, ?_⟩
      refine ⟨c, sg, rfl, rfl, .inr ⟨by omega, by omega⟩, _, _, rfl, rfl, ?_⟩
      generalize upd (upd H1 pd (.dK [])) pd (.dK (mergeK [] [((.inr "put" : Key), V.int 1), (.inr "remove", V.int (-1))])) = H2 at sB ⊢
      have hrow2 := sB _ _ hrow
      have htop2 := sB _ _ htop
      refine ⟨_, rfl, ?_⟩
      dsimp only [tNoPart]
      refine ⟨_, rfl, (d : Int), rfl, t, _, rfl, htop2, fun q1 H3 s3 h3 => ?_⟩
      rw [cutV_to] at h3
      refine ⟨_, rfl, ?_⟩
      dsimp only [tNoPart]
      refine ⟨_, rfl, (k' : Int), rfl, l, _, rfl, s3 _ _ hrow2, fun q2 H4 s4 h4 => ?_⟩
      rw [cutV_to] at h4
      refine ⟨_, rfl, by show 1 ≤ sizeLine; decide, fun q3 n3 => ?_⟩
      have s5 := same_new (o := .tup [.int ((rows.getD d []).getD k' 0 + c * sg)]) n3
      refine ⟨q2, q3, _, _, rfl, rfl, s5 _ _ h4, upd_same, by rw [List.length_take, List.length_map]; simp only [List.length_cons, List.length_nil]; have := hg.1; have := g.n4; omega, fun q4 H5 s6 h5 => ?_⟩
      have s36 := s3.trans (s4.trans (s5.trans s6))
      refine ⟨_, rfl, _, rfl, (k' : Int), 1, rfl, rfl, (k' : Int) + 1, rfl, ?_⟩
      refine ⟨l, _, rfl, s36 _ _ hrow2, fun q5 H6 s7 h6 => ?_⟩
      rw [show ((k' : Int) + 1) = ((k' + 1 : Nat) : Int) by omega, cutV_from] at h6
      have hrl : ((rows.getD d []).map V.int).length = n := by rw [List.length_map]; exact hg.1
      have hn4 := g.n4
      refine ⟨q4, q5, _, _, rfl, rfl, s7 _ _ h5, h6, by rw [List.length_append, List.length_take, List.length_drop, hrl]; simp only [List.length_cons, List.length_nil]; omega, fun q6 H7 s8 h7 => ?_⟩
      rw [set_cut (by rw [hrl]; exact hk), map_set' V.int] at h7
      refine ⟨by show 1 ≤ sizeLine; decide, fun q7 n7 => ?_⟩
      have s9 := same_new (o := .tup [.ref q6]) n7
      have s49 := s4.trans (s5.trans (s6.trans (s7.trans (s8.trans s9))))
      refine ⟨q1, q7, _, _, rfl, rfl, s49 _ _ h3, upd_same, by rw [List.length_take, List.length_map]; simp only [List.length_cons, List.length_nil]; omega, fun q8 H8 s10 h8 => ?_⟩
      have s310 := s3.trans (s49.trans s10)
      refine ⟨_, rfl, _, rfl, (d : Int), 1, rfl, rfl, (d : Int) + 1, rfl, ?_⟩
      refine ⟨t, _, rfl, s310 _ _ htop2, fun q9 H9 s11 h9 => ?_⟩
      rw [show ((d : Int) + 1) = ((d + 1 : Nat) : Int) by omega, cutV_from] at h9
      have hsl' : (ls.map V.ref).length = rows.length := by rw [List.length_map]; exact hsl
      refine ⟨q8, q9, _, _, rfl, rfl, s11 _ _ h8, h9, by rw [List.length_append, List.length_take, List.length_drop, hsl']; simp only [List.length_cons, List.length_nil]; omega, fun q10 H10 s12 h10 => ?_⟩
      rw [set_cut (by rw [hsl']; exact hd)] at h10
      refine ⟨_, rfl, by show 2 ≤ sizeLine; decide, fun pl np => ?_⟩
      have s13 := same_new (o := .lst [.ref q10, .ref b]) np
      have spre := s1.trans (sB.trans (s310.trans (s11.trans s12)))
      have sall := Same.trans spre s13
      refine q pl _ sall (Same.free spre np) ⟨⟨q10, b, upd_same, ?_, ?_⟩, g2⟩
      · rw [hrw]
        refine .tup (s13 _ _ h10) ?_
        unfold moreR
        rw [← map_set' rowD]
        exact td_set (td_rows ls rows stk.len (fun j l r e1 e2 => sall _ _ (stk.row j l r e1 e2))) (td_row ((s9.trans (s10.trans (s11.trans (s12.trans s13)))) _ _ h7))
      · rw [hws]
        exact hb.same sall
    · obtain ⟨pe, u, rfl, hpe, hu⟩ := ed_at2 hv
      obtain ⟨l, rfl, hl'⟩ := td_rowI hu
      refine ⟨_, rfl, pe, _, 0, _, rfl, rfl, SqT.of hpe, rfl, rfl, _, rfl, iteT2 seq_ ?_⟩
      refine ⟨_, rfl, _, rfl, _, rfl, pe, _, 1, _, rfl, rfl, SqT.of hpe, rfl, by show 1 ≤ sizeLine; decide, fun p1 n1 => ?_⟩
      have s1 := same_new (o := .tup [.ref l]) n1
      refine ⟨b, p1, _, _, rfl, rfl, s1 _ _ stb.top, upd_same, by rw [List.length_map]; simp only [List.length_cons, List.length_nil]; omega, fun p2 H2 s2 h2 => ?_⟩
      refine ⟨by show 2 ≤ sizeLine; decide, fun pl np => ?_⟩
      have s3 := same_new (o := .lst [.ref t, .ref p2]) np
      have spre := s1.trans s2
      have sall := Same.trans spre s3
      refine q pl _ sall (Same.free spre np) ⟨⟨t, p2, upd_same, ht.same sall, .tup (s3 _ _ h2) ?_⟩, g2⟩
      show TdAll _ _ ((ws ++ [r]).map rowD)
      rw [List.map_append]
      exact td_snoc (td_rows wl ws stb.len (fun j l r e1 e2 => sall _ _ (stb.row j l r e1 e2))) (td_row (sall _ _ hl'))
    · obtain ⟨pe, u, rfl, hpe, hu⟩ := ed_at2 hv
      cases hu
      refine ⟨_, rfl, pe, _, 0, _, rfl, rfl, SqT.of hpe, rfl, rfl, _, rfl, iteF2 (sne s_dw) ?_⟩
      refine ⟨_, rfl, pe, _, 0, _, rfl, rfl, SqT.of hpe, rfl, rfl, _, rfl, iteT2 seq_ ?_⟩
      refine ⟨_, rfl, _, rfl, ?_⟩
      dsimp only [tNoPart]
      refine ⟨_, rfl, pe, _, 1, _, rfl, rfl, SqT.of hpe, rfl, (j : Int), rfl, b, _, rfl, stb.top, fun p1 H1 s1 h1 => ?_⟩
      rw [cutV_to] at h1
      refine ⟨_, rfl, _, rfl, pe, _, 1, _, rfl, rfl, SqT.of (s1 _ _ hpe), rfl, (j : Int), 1, rfl, rfl, (j : Int) + 1, rfl, ?_⟩
      refine ⟨b, _, rfl, s1 _ _ stb.top, fun p2 H2 s2 h2 => ?_⟩
      rw [show ((j : Int) + 1) = ((j + 1 : Nat) : Int) by omega, cutV_from] at h2
      refine ⟨p1, p2, _, _, rfl, rfl, s2 _ _ h1, h2, by rw [List.length_take, List.length_drop, List.length_map]; omega, fun p3 H3 s3 h3 => ?_⟩
      refine ⟨by show 2 ≤ sizeLine; decide, fun pl np => ?_⟩
      have s4 := same_new (o := .lst [.ref t, .ref p3]) np
      have spre := s1.trans (s2.trans s3)
      have sall := Same.trans spre s4
      refine q pl _ sall (Same.free spre np) ⟨⟨t, p3, upd_same, ht.same sall, .tup (s4 _ _ h3) ?_⟩, g2⟩
      show TdAll _ _ ((ws.take j ++ ws.drop (j + 1)).map rowD)
      have ha := td_rows wl ws stb.len fun j l r e1 e2 => sall _ _ (stb.row j l r e1 e2)
      rw [List.map_append, List.map_take, List.map_drop]
      exact (ha.takeT j).appT (ha.dropT (j + 1))
end
end DD
namespace DD
open PySem PySem.Spec PyProof.Rows L2 RZ
section
variable {P : Program} {w : World} {K : PySem.W.Frag} {mg : Str → Option Value} {base : Heap}
def spLEdit : Sp := fun vs H Q _ => ∃ (dk c p : Addr) (B : Nat) (rows ws : List (List Int)) (n : Nat), vs = [.ref dk, .ref p] ∧ Deck H dk c B ∧ B + 20 ≤ 1000000 ∧ StateAt H p rows ws n ∧ p ≠ dk ∧ p ≠ c ∧
  ∀ v (e : Ed) H', Td H' v e.dat → e.ok rows ws n → Kp2 dk c H H' → Deck H' dk c (B + 20) → Q v H'
set_option maxHeartbeats 800000 in
theorem ok_ledit {f lDk lD lS lC lW lAf lEd lO lPl lSh : Addr} {fd jDk jD jS jC jW jAf jEd jO jPl jSh : FuncData} {k : Nat} (F : Fun K "_law_edit" "_law_edit" sEdit f fd) (T : LX K mg lDk lD lS lC lW lAf lEd lO lPl lSh jDk jD jS jC jW jAf jEd jO jPl jSh) : FnOk P w K mg base CX0 (k + 3) f fd ["_law_deck_here", "_law_state"] spLEdit := by
  have GD : FnOk P w K mg base CX0 (k + 1) lD jD ["_law_deck_here", "_law_many"] spDraw := ok_draw T.D T.m_len
  have GC : FnOk P w K mg base CX0 (k + 2) lC jC ["_law_deck_here", "_law_kinds", "_law_most"] spLColl := ok_lcoll T.C T
  refine F.ok scLEdit (fun vs H Q E h => ?_) (fun cdv A outer s H vs Q E hr h => ?_)
  · obtain ⟨dk, c, p, B, rows, ws, n, rfl, _⟩ := h
    rfl
  · obtain ⟨dk, c, p, B, rows, ws, n, rfl, dek, hB, hst, np1, np2, q⟩ := h
    refine ⟨_, (pss_cons (ps_asg (pv 1) (pg_unl rfl (pgs_cons (pg_name (i := 2) scLEdit.nd rfl (Or.inl rfl)) (pgs_cons (pg_name (i := 3) scLEdit.nd rfl (Or.inl rfl)) pgs_nil))))
      (pss_cons (ps_par3 (i := 4) (j := 5) (l := 6) (by rfl) scLEdit.nd rfl rfl rfl (by decide) (by decide) (by decide) rfl rfl rfl (pa_cons (pe_call GD (hr.mono (by omega)) (by rfl) T.gD T.D.kp T.bD .nil pass0 (pa_cons (pv 0) (pa_cons pe_int pa_nil))) (pa_cons (pe_call GD (hr.mono (by omega)) (by rfl) T.gD T.D.kp T.bD .nil pass0 (pa_cons (pv 0) (pa_cons (pe_callB call_len_seq (by rfl) T.m_len PySem.boot_len (pa_cons (pv 2) pa_nil)) pa_nil))) (pa_cons (pe_call GD (hr.mono (by omega)) (by rfl) T.gD T.D.kp T.bD .nil pass0 (pa_cons (pv 0) (pa_cons (pe_callB call_len_seq (by rfl) T.m_len PySem.boot_len (pa_cons (pe_ix (show IxR _ (rIxT K) from ix_tup) (pv 2) pe_int (fun _ _ => rfl)) pa_nil)) pa_nil))) pa_nil))) (by rfl))
      (pss_cons (ps_set (i := 7) scLEdit.nd rfl (.inl rfl) (pe_ix (show IxR _ (rIxT K) from ix_tup) (pe_ix (show IxR _ (rIxT K) from ix_tup) (pv 2) (pv 5) (fun _ _ => rfl)) (pv 6) (fun _ _ => rfl)))
      (C8.pss_cut (ps_if (PW.pt (pw_and (pt_cmpR op_eq (pv 4) pe_int (nomark _)) (pw_and1 (pt_cmpR op_gt (pe_callB call_len_seq (by rfl) T.m_len PySem.boot_len (pa_cons (pv 3) pa_nil)) pe_int (nomark _))))) (pss_one (ps_ret (pe_tup (pa_cons pe_str (pa_cons (pe_call GD (hr.mono (by omega)) (by rfl) T.gD T.D.kp T.bD .nil pass0 (pa_cons (pv 0) (pa_cons (pe_callB call_len_seq (by rfl) T.m_len PySem.boot_len (pa_cons (pv 3) pa_nil)) pa_nil))) pa_nil))))) pss_nil)
      (C8.pss_cut (ps_if (PW.pt (pw_and (pt_cmpR op_eq (pv 4) pe_int (nomark _)) (pw_and1 (pt_cmpR op_lt (pe_callB call_len_seq (by rfl) T.m_len PySem.boot_len (pa_cons (pv 3) pa_nil)) pe_int (nomark _))))) (pss_one (ps_ret (pe_tup (pa_cons pe_str (pa_cons (pe_call GC (hr.mono (by omega)) (by rfl) T.gC T.C.kp T.bC .nil pass0 (pa_cons (pv 0) (pa_cons (pe_callB call_len_seq (by rfl) T.m_len PySem.boot_len (pa_cons (pe_ix (show IxR _ (rIxT K) from ix_tup) (pv 2) pe_int (fun _ _ => rfl)) pa_nil)) (pa_cons pe_int pa_nil)))) pa_nil))))) pss_nil)
      (C8.pss_cut (ps_if (PW.pt (pw_or (PW.pt (pw_and (pt_cmpR op_lt (pv 4) pe_int (nomark _)) (pw_and1 (pt_cmpR op_gt (pv 7) pe_int (nomark _))))) (pw_or1 (pt_cmpR op_gt (pv 7) pe_int (nomark _))))) (pss_one (ps_ret (pe_tup (pa_cons pe_str (pa_cons (pv 5) (pa_cons (pv 6) (pa_cons (pe_op op_add pe_int (pe_call GD (hr.mono (by omega)) (by rfl) T.gD T.D.kp T.bD .nil pass0 (pa_cons (pv 0) (pa_cons (pe_callB (call_min2 rfl) (by rfl) T.m_min (by decide +kernel) (pa_cons (pv 7) (pa_cons pe_int pa_nil))) pa_nil)))) pa_nil))))))) pss_nil)
      (pss_one (ps_ret (pe_tup (pa_cons pe_str (pa_cons (pv 5) (pa_cons (pv 6) (pa_cons (pe_op op_add pe_int (pe_call GD (hr.mono (by omega)) (by rfl) T.gD T.D.kp T.bD .nil pass0 (pa_cons (pv 0) (pa_cons pe_int pa_nil)))) pa_nil))))))))))))), ?_⟩
    obtain ⟨⟨t, b, hp, ht, hb⟩, g⟩ := hst
    refine ⟨_, rfl, p, [.ref t, .ref b], rfl, SqL.of hp, rfl, .ref t, [.ref b], rfl, .ref b, [], rfl, rfl, ?_⟩
    have r1_ := g.r1
    have r4 := g.r4
    have w1 := g.w1
    have w4 := g.w4
    have n1 := g.n1
    have n4 := g.n4
    refine ⟨_, rfl, dk, c, B, 6, rfl, dek, by omega, by decide, by decide, fun way H1 a0 a1 k1 d1 => ?_⟩
    have ht1 := ht.kpD dek k1
    obtain ⟨_, ls, e0, stk⟩ := td_stockI ht1
    cases e0
    have hsl := stk.len
    refine ⟨_, rfl, _, rfl, t, _, rfl, .inr (SqT.of stk.top), dk, c, _, _, rfl, d1, by omega, by rw [List.length_map]; omega, by rw [List.length_map]; omega, fun rd H2 b0 b1 k2 d2 => ?_⟩
    rw [List.length_map] at b1
    obtain ⟨d, rfl⟩ : ∃ d : Nat, rd = (d : Int) := ⟨rd.toNat, by omega⟩
    have hd : d < rows.length := by omega
    have ht2 := ht1.kpD d1 k2
    obtain ⟨ls2, l0, stk2, hl0, hrow0⟩ := row0 ht2 g.r1
    have hg0 := g.getD (d := 0) (by omega)
    refine ⟨_, rfl, _, rfl, t, _, 0, _, rfl, rfl, SqT.of stk2.top, atI_nat (j := 0) hl0, l0, _, rfl, .inr (SqT.of hrow0), dk, c, _, _, rfl, d2, by omega, by rw [List.length_map, hg0.1]; omega, by rw [List.length_map, hg0.1]; omega, fun rk H3 c0 c1 k3 d3 => ?_⟩
    rw [List.length_map, hg0.1] at c1
    obtain ⟨k', rfl⟩ : ∃ k' : Nat, rk = (k' : Int) := ⟨rk.toNat, by omega⟩
    have hk : k' < n := by omega
    refine ⟨_, _, _, rfl, ?_⟩
    have ht3 := ht2.kpD d2 k3
    obtain ⟨_, ls3, e0, stk3⟩ := td_stockI ht3
    cases e0
    have hsl3 := stk3.len
    obtain ⟨l, hlx⟩ : ∃ l, ls3[d]? = some l := ⟨_, List.getElem?_eq_getElem (by omega)⟩
    have hg := g.getD hd
    have hrow := stk3.row d l (rows.getD d []) hlx (getD_ofN hd)
    have hix : (ls3.map V.ref)[d]? = some (.ref l) := by rw [List.getElem?_map, hlx]; rfl
    have hxx : (rows.getD d [])[k']? = some ((rows.getD d []).getD k' 0) := getD_ofN (by rw [hg.1]; exact hk)
    have hix2 : ((rows.getD d []).map V.int)[k']? = some (.int ((rows.getD d []).getD k' 0)) := by
      rw [List.getElem?_map, hxx]
      rfl
    have hxb := hg.2 _ (List.mem_of_getElem? hxx)
    refine ⟨_, rfl, _, rfl, t, _, _, _, rfl, rfl, SqT.of stk3.top, atI_nat hix, ?_⟩
    refine ⟨_, rfl, l, _, _, _, rfl, rfl, SqT.of hrow, atI_nat hix2, ?_⟩
    have k13 := k1.trans (k2.trans k3)
    have hb3 := hb.kpD dek k13
    obtain ⟨_, wl, e0, stb⟩ := td_stockI hb3
    cases e0
    have hwl := stb.len
    refine ⟨fun σ' H' => σ' = [some (.ref dk), some (.ref p), some (.ref t), some (.ref b), some (.int way), some (.int (d : Int)), some (.int (k' : Int)), some (.int ((rows.getD d []).getD k' 0))] ∧ H3 = H', ?_, ?_⟩
    · refine ⟨_, rfl, rfl, _, rfl, ite2 (fun e => ?_) (fun e => iteF ⟨rfl, rfl⟩)⟩
      refine ⟨_, rfl, b, _, rfl, .inr (SqT.of stb.top), _, _, rfl, rfl, _, rfl, ite2 (fun e2 => ?_) (fun e2 => ⟨rfl, rfl⟩)⟩
      have e2 := of_decide_eq_true e2
      rw [List.length_map] at e2
      refine ⟨_, rfl, _, rfl, b, _, rfl, .inr (SqT.of stb.top), dk, c, _, _, rfl, d3, by omega, by rw [List.length_map]; omega, by rw [List.length_map]; omega, fun rj H4 f0 f1 k4 d4 => ?_⟩
      rw [List.length_map] at f1
      obtain ⟨j, rfl⟩ : ∃ j : Nat, rj = (j : Int) := ⟨rj.toNat, by omega⟩
      refine ⟨by show 2 ≤ sizeLine; decide, fun pe ne => ?_⟩
      exact q _ (.drop j) _ (.tup upd_same (.cons (.str _) (.cons (.int _) .nil))) ⟨by omega, by omega⟩ (k13.trans (k4.trans (kps (same_new ne)))) ((d4.kp ne).up (by omega))
    · rintro _ _ ⟨rfl, rfl⟩
      refine ⟨fun σ' H' => σ' = [some (.ref dk), some (.ref p), some (.ref t), some (.ref b), some (.int way), some (.int (d : Int)), some (.int (k' : Int)), some (.int ((rows.getD d []).getD k' 0))] ∧ H3 = H', ?_, ?_⟩
      · refine ⟨_, rfl, rfl, _, rfl, ite2 (fun e => ?_) (fun e => iteF ⟨rfl, rfl⟩)⟩
        refine ⟨_, rfl, b, _, rfl, .inr (SqT.of stb.top), _, _, rfl, rfl, _, rfl, ite2 (fun e2 => ?_) (fun e2 => ⟨rfl, rfl⟩)⟩
        have e2 := of_decide_eq_true e2
        rw [List.length_map] at e2
        obtain ⟨ls4, l4, stk4, hl4, hrow4⟩ := row0 ht3 g.r1
        refine ⟨_, rfl, _, rfl, t, _, 0, _, rfl, rfl, SqT.of stk4.top, atI_nat (j := 0) hl4, l4, _, rfl, .inr (SqT.of hrow4), ?_⟩
        rw [List.length_map, hg0.1]
        refine ⟨dk, c, _, n, 6, rfl, d3, n1, n4, by omega, by decide, by decide, fun tw r H4 htw gr k4 d4 => ?_⟩
        refine ⟨by show 2 ≤ sizeLine; decide, fun pe ne => ?_⟩
        have s5 := same_new (o := .tup [.str "wish", .ref tw]) ne
        exact q _ (.wish r) _ (.tup upd_same (.cons (.str _) (.cons (td_row (s5 _ _ htw)) .nil))) ⟨gr.up (by decide), by omega⟩ (k13.trans (k4.trans (kps s5))) ((d4.kp ne).up (by omega))
      · rintro _ _ ⟨rfl, rfl⟩
        refine ⟨fun σ' H' => σ' = [some (.ref dk), some (.ref p), some (.ref t), some (.ref b), some (.int way), some (.int (d : Int)), some (.int (k' : Int)), some (.int ((rows.getD d []).getD k' 0))] ∧ H3 = H' ∧ (rows.getD d []).getD k' 0 ≤ 44, ?_, ?_⟩
        · refine ⟨_, rfl, _, _, rfl, rfl, _, rfl, ite2 (fun e => ?_) (fun e => iteF ?_)⟩
          · refine ⟨_, rfl, _, _, rfl, rfl, _, rfl, ite2 (fun e2 => iteT ?_) (fun e2 => ?_)⟩
            · have e2 := of_decide_eq_true e2
              have hm : 1 ≤ (if 6 < (rows.getD d []).getD k' 0 then 6 else (rows.getD d []).getD k' 0) ∧ (if 6 < (rows.getD d []).getD k' 0 then 6 else (rows.getD d []).getD k' 0) ≤ (rows.getD d []).getD k' 0 ∧ (if 6 < (rows.getD d []).getD k' 0 then 6 else (rows.getD d []).getD k' 0) ≤ 6 := by split <;> omega
              refine ⟨_, rfl, _, rfl, _, rfl, _, rfl, (rows.getD d []).getD k' 0, 6, rfl, dk, c, _, _, rfl, d3, by omega, hm.1, by omega, fun rc H4 f0 f1 k4 d4 => ?_⟩
              refine ⟨1, rc, rfl, rfl, by show 4 ≤ sizeLine; decide, fun pe ne => ?_⟩
              exact q _ (.rem d k' (1 + rc)) _ (.tup upd_same (.cons (.str _) (.cons (.int _) (.cons (.int _) (.cons (.int _) .nil))))) ⟨hd, hk, by omega, by omega, by omega⟩ (k13.trans (k4.trans (kps (same_new ne)))) ((d4.kp ne).up (by omega))
            · refine ⟨_, rfl, _, _, rfl, rfl, _, rfl, ite2 (fun e3 => ?_) (fun e3 => ⟨rfl, rfl, by have := of_decide_eq_false (Bool.eq_false_iff.mpr e3); omega⟩)⟩
              have e3 := of_decide_eq_true e3
              have hm : 1 ≤ (if 6 < (rows.getD d []).getD k' 0 then 6 else (rows.getD d []).getD k' 0) ∧ (if 6 < (rows.getD d []).getD k' 0 then 6 else (rows.getD d []).getD k' 0) ≤ (rows.getD d []).getD k' 0 ∧ (if 6 < (rows.getD d []).getD k' 0 then 6 else (rows.getD d []).getD k' 0) ≤ 6 := by split <;> omega
              refine ⟨_, rfl, _, rfl, _, rfl, _, rfl, (rows.getD d []).getD k' 0, 6, rfl, dk, c, _, _, rfl, d3, by omega, hm.1, by omega, fun rc H4 f0 f1 k4 d4 => ?_⟩
              refine ⟨1, rc, rfl, rfl, by show 4 ≤ sizeLine; decide, fun pe ne => ?_⟩
              exact q _ (.rem d k' (1 + rc)) _ (.tup upd_same (.cons (.str _) (.cons (.int _) (.cons (.int _) (.cons (.int _) .nil))))) ⟨hd, hk, by omega, by omega, by omega⟩ (k13.trans (k4.trans (kps (same_new ne)))) ((d4.kp ne).up (by omega))
          · refine ⟨_, rfl, _, _, rfl, rfl, _, rfl, ite2 (fun e3 => ?_) (fun e3 => ⟨rfl, rfl, by have := of_decide_eq_false (Bool.eq_false_iff.mpr e3); omega⟩)⟩
            have e3 := of_decide_eq_true e3
            have hm : 1 ≤ (if 6 < (rows.getD d []).getD k' 0 then 6 else (rows.getD d []).getD k' 0) ∧ (if 6 < (rows.getD d []).getD k' 0 then 6 else (rows.getD d []).getD k' 0) ≤ (rows.getD d []).getD k' 0 ∧ (if 6 < (rows.getD d []).getD k' 0 then 6 else (rows.getD d []).getD k' 0) ≤ 6 := by split <;> omega
            refine ⟨_, rfl, _, rfl, _, rfl, _, rfl, (rows.getD d []).getD k' 0, 6, rfl, dk, c, _, _, rfl, d3, by omega, hm.1, by omega, fun rc H4 f0 f1 k4 d4 => ?_⟩
            refine ⟨1, rc, rfl, rfl, by show 4 ≤ sizeLine; decide, fun pe ne => ?_⟩
            exact q _ (.rem d k' (1 + rc)) _ (.tup upd_same (.cons (.str _) (.cons (.int _) (.cons (.int _) (.cons (.int _) .nil))))) ⟨hd, hk, by omega, by omega, by omega⟩ (k13.trans (k4.trans (kps (same_new ne)))) ((d4.kp ne).up (by omega))
        · rintro _ _ ⟨rfl, rfl, h44⟩
          refine ⟨_, rfl, _, rfl, _, rfl, dk, c, _, 6, rfl, d3, by omega, by decide, by decide, fun rc H4 f0 f1 k4 d4 => ?_⟩
          refine ⟨1, rc, rfl, rfl, by show 4 ≤ sizeLine; decide, fun pe ne => ?_⟩
          exact q _ (.put d k' (1 + rc)) _ (.tup upd_same (.cons (.str _) (.cons (.int _) (.cons (.int _) (.cons (.int _) .nil))))) ⟨hd, hk, by omega, by omega, by omega⟩ (k13.trans (k4.trans (kps (same_new ne)))) ((d4.kp ne).up (by omega))
end
end DD
namespace DD
open PySem PySem.Spec PyProof.Rows L2 RZ
theorem dp_optI {K : PySem.W.Frag} {H : Hp} : ∀ o : Option Int, Dp K H (optI o) (optID o)
  | none => .non
  | some j => .int _
theorem sm_optI {o : Option Int} (h : ∀ v, o = some v → 0 ≤ v ∧ v < 4096) : Sm 13 0 (optID o) := by
  cases o with
  | none => exact ⟨rfl, rfl, rfl, Nat.zero_le _, Nat.le_refl _⟩
  | some v =>
    have := h v rfl
    exact Sm.int this.1 this.2
theorem caps_nn {ws : List (List Int)} {s : List Int} {n : Nat} (hs : s ∈ spOf ws) : ∀ c, some c ∈ capsOf ws s n → 0 ≤ c := fun c hc => by
  obtain ⟨k, _, e⟩ := List.mem_map.mp hc
  exact cap_nn hs e
abbrev NRt : List Str := ["_law_table", "_law_state", "_law_edits", "_law_stock_here", "_law_collections", "_law_found", "_law_due", "_law_words", "_law_row"]
theorem sm_lit {x : Str} (h1 : PyData.strOk x = true) (h2 : x.cps.size ≤ 13) : Sm 13 0 (.str x) := ⟨h1, rfl, rfl, h2, Nat.le_refl _⟩
theorem sm_ed {rows ws : List (List Int)} {n : Nat} (g : Sg rows ws n) : ∀ (e : Ed), e.ok rows ws n → Sm 114 2 e.dat
  | .put d k c, h => by
    obtain ⟨h1, h2, h3, h4, _⟩ := h
    have r4 := g.r4
    have n4 := g.n4
    have q : SmA (0 + 1 + 1 + 1 + 1) 13 0 [.str "put", .int d, .int k, .int c] := .cons (sm_lit (by decide +kernel) (by decide +kernel)) (.cons (Sm.int (by omega) (by omega)) (.cons (Sm.int (by omega) (by omega)) (.cons (Sm.int (by omega) (by omega)) .nil)))
    exact q.tup.up (by decide) (by decide)
  | .rem d k c, h => by
    obtain ⟨h1, h2, h3, h4, _⟩ := h
    have r4 := g.r4
    have n4 := g.n4
    have q : SmA (0 + 1 + 1 + 1 + 1) 13 0 [.str "remove", .int d, .int k, .int c] := .cons (sm_lit (by decide +kernel) (by decide +kernel)) (.cons (Sm.int (by omega) (by omega)) (.cons (Sm.int (by omega) (by omega)) (.cons (Sm.int (by omega) (by omega)) .nil)))
    exact q.tup.up (by decide) (by decide)
  | .wish r, h => by
    have n4 := g.n4
    have q : SmA (0 + 1 + 1) 56 1 [.str "wish", rowD r] := .cons ((sm_lit (by decide +kernel) (by decide +kernel)).up (by decide) (by decide)) (.cons (sm_row (fun x hx => by have := h.1.bd x hx; omega) (by rw [h.1.len]; exact n4)) .nil)
    exact q.tup.up (by decide) (by decide)
  | .drop j, h => by
    have h1 := h.1
    have w4 := g.w4
    have q : SmA (0 + 1 + 1) 13 0 [.str "drop", .int j] := .cons (sm_lit (by decide +kernel) (by decide +kernel)) (.cons (Sm.int (by omega) (by omega)) .nil)
    exact q.tup.up (by decide) (by decide)
theorem sure_bd {rows ws : List (List Int)} {n : Nat} (g : Sg rows ws n) : ∀ v, totalOf (totalsOf rows n) ws n = some v → 0 ≤ v ∧ v < 4096 := by
  intro v hv
  have hl : (totalsOf rows n).length = n := tot_len _ _
  have hs : (totalsOf rows n).sum = thingsOf rows := tot_sum fun r hr => (g.rg r hr).1
  have hb : ∀ x ∈ totalsOf rows n, 0 ≤ x ∧ x ≤ 200 := fun x hx => by
    obtain ⟨i, _, rfl⟩ := List.mem_map.mp hx
    have := sum_bd (b := 50) (xs := rows.map fun r => r.getD i 0) fun y hy => by
      obtain ⟨r, hr, rfl⟩ := List.mem_map.mp hy
      exact getD_bd (g.rg r hr).2 (by decide) i
    rw [List.length_map] at this
    have := g.r4
    omega
  obtain ⟨s, hsm, he⟩ := rooms_mem.mp (maxL_mem (rooms_ne (ts := totalsOf rows n) (n := n) g.wg))
  have hle := zw_le (ts := totalsOf rows n) (cs := capsOf ws s n) (by rw [hl, caps_len])
  have h0 := (sum_bd (zw_bd hb (caps_nn (n := n) hsm))).1
  rw [he] at hle h0
  have hth := g.things
  unfold totalOf at hv
  by_cases c : fulOf ws (totalsOf rows n) = none
  · rw [if_pos c] at hv
    cases hv
  · rw [if_neg c] at hv
    have := Option.some.inj hv
    omega
/-- what is compared -/
def rightD (rows ws : List (List Int)) (n : Nat) (hist : List Hst) : PyData := .list [stockD rows, stockD ws, optID (totalOf (totalsOf rows n) ws n), .tuple [stockD rows, stockD ws], .tuple (hist.map (·.1)), .int (hist.length : Nat)]
theorem Sg.smR {rows ws : List (List Int)} {n : Nat} (g : Sg rows ws n) : Sm 228 2 (stockD rows) := sm_stock (fun r hr => ⟨by rw [(g.rg r hr).1]; exact g.n4, fun x hx => by have := (g.rg r hr).2 x hx; omega⟩) g.r4
theorem Sg.smW {rows ws : List (List Int)} {n : Nat} (g : Sg rows ws n) : Sm 228 2 (stockD ws) := sm_stock (fun r hr => ⟨by rw [(g.wg r hr).len]; exact g.n4, fun x hx => by have := (g.wg r hr).bd x hx; omega⟩) g.w4
theorem sm_right {rows ws : List (List Int)} {n : Nat} {hist : List Hst} (g : Sg rows ws n) (hl : hist.length ≤ 60) (hs : ∀ h ∈ hist, Sm 114 2 h.1) : Sm 100000 64 (rightD rows ws n hist) := by
  have e : Sm 6900 3 (.tuple (hist.map (·.1))) := by
    have a : SmA (hist.map (·.1)).length 114 2 (hist.map (·.1)) := SmA.all fun d hd => by
      obtain ⟨h, hh, rfl⟩ := List.mem_map.mp hd
      exact hs h hh
    refine a.tup.up ?_ (Nat.le_refl _)
    rw [List.length_map]
    omega
  have p : Sm 458 3 (.tuple [stockD rows, stockD ws]) := by
    have q : SmA (0 + 1 + 1) 228 2 [stockD rows, stockD ws] := .cons g.smR (.cons g.smW .nil)
    exact q.tup
  have q : SmA (0 + 1 + 1 + 1 + 1 + 1 + 1) 6900 3 [stockD rows, stockD ws, optID (totalOf (totalsOf rows n) ws n), .tuple [stockD rows, stockD ws], .tuple (hist.map (·.1)), .int (hist.length : Nat)] :=
    .cons (g.smR.up (by decide) (by decide)) (.cons (g.smW.up (by decide) (by decide)) (.cons ((sm_optI (sure_bd g)).up (by decide) (by decide)) (.cons (p.up (by decide) (by decide)) (.cons e (.cons ((Sm.int (by omega) (by omega)).up (by decide) (by decide)) .nil)))))
  exact q.lst.up (by decide) (by decide)
end DD
namespace DD
open PySem PySem.Spec PyProof.Rows L2 RZ
theorem td_histJ {H : Hp} : ∀ {hist : List Hst} {ps : List V}, TdAll H ps (hist.map histD) → ∀ {i : Nat} {x : V}, ps[i]? = some x → ∃ h, hist[i]? = some h ∧ Td H x (histD h)
  | [], _, h, i, x, e => by
    cases h
    simp at e
  | h :: hist, _, q, 0, x, e => by
    cases q with
    | cons a b =>
      simp at e
      subst e
      exact ⟨h, rfl, a⟩
  | h :: hist, _, q, i + 1, x, e => by
    cases q with
    | cons a b => exact td_histJ b (by simpa using e)
end DD
namespace DD
open PySem PySem.Spec PyProof.Rows L2 RZ
theorem for_enL {K : PySem.W.Frag} {a : Addr} {xs : List V} {g : TG} {tb : TS} {D : Ends} {σ : L2.St} {H : Hp} (Pv : Nat → L2.St → Hp → Prop) (h0 : Pv 0 σ H) (hq : ∀ i σ H, i ≤ xs.length → Pv i σ H → SqL K H a xs)
    (hs : ∀ (i : Nat) (x : V) (T : Addr) (σ : L2.St) (H : Hp), xs[i]? = some x → Pv i σ H → H T = none →
      g (.ref T) σ (upd H T (.tup [.int (i : Nat), x])) fun σ2 H2 => tb { D with nx := Pv (i + 1), ct := Pv (i + 1), bk := D.nx } σ2 H2) (hd : ∀ σ H, Pv xs.length σ H → D.nx σ H) :
    ∃ W : Nat → Nat → L2.St → Hp → Prop, (∃ m, W 0 m σ H) ∧ ∀ i m σ H, W i m σ H → ((Ite K a).stop i H ∧ D.nx σ H) ∨ ((Ite K a).go i H ∧
      ∃ N : L2.St → Hp → Prop, (∀ σ' H', N σ' H' → ∃ m', m' < m ∧ W (i + 1) m' σ' H') ∧ ∀ v H', (Ite K a).yld i H v H' →
        g v σ H' fun σ2 H2 => tb { D with nx := N, ct := N, bk := D.nx } σ2 H2) := by
  refine ⟨fun i m σ H => m = xs.length - i ∧ i ≤ xs.length ∧ Pv i σ H, ⟨xs.length, rfl, Nat.zero_le _, h0⟩, ?_⟩
  rintro i _ σ H ⟨rfl, hi, p⟩
  have q := hq i σ H hi p
  by_cases hlt : i < xs.length
  · have hx : xs[i]? = some xs[i] := List.getElem?_eq_getElem hlt
    refine .inr ⟨⟨xs, _, q, hx⟩, Pv (i + 1), fun σ' H' p' => ⟨xs.length - (i + 1), by omega, rfl, hlt, p'⟩, fun v H' y => ?_⟩
    obtain ⟨T, x', rfl, nT, rfl, f1⟩ := y
    exact hs i x' T σ H (f1 xs q) p nT
  · obtain rfl : i = xs.length := by omega
    exact .inl ⟨⟨xs, q, Nat.le_refl _⟩, hd σ H p⟩
/-- what batches need -/
structure AX (K : PySem.W.Frag) (w : World) (mg : Str → Option Value) (lIs lBa dv : Addr) (jIs jBa : FuncData) : Prop where
  Is : Fun K "is_edit" "is_edit" sIsEd lIs jIs
  bIs : Binds K jIs ["value"] []
  gIs : mg "is_edit" = some (.ref lIs)
  Ba : Fun K "batch_of" "batch_of" sBatch lBa jBa
  bBa : Binds K jBa ["edits"] []
  gBa : mg "batch_of" = some (.ref lBa)
  vt : VT K w mg dv
  mB : ∃ tk, mg "BATCH" = some (.int 20 tk)
  m_isinstance : mg "isinstance" = none
  m_tuple : mg "tuple" = none
  m_list : mg "list" = none
  m_str : mg "str" = none
  m_len : mg "len" = none
  m_enumerate : mg "enumerate" = none
theorem ed_any {H : Hp} {v : V} : ∀ {e : Ed}, Td H v e.dat → ∃ p x xs, v = .ref p ∧ H p = some (.tup (.str x :: xs)) ∧ valsV x = .int (xs.length : Nat) ∧ xs.length ≤ 3
  | .put d k c, h => by
    obtain ⟨p, rfl, hp⟩ := ed_at4 h
    exact ⟨p, _, _, rfl, hp, (show valsV "put" = .int 3 by decide +kernel), (show 3 ≤ 3 by decide)⟩
  | .rem d k c, h => by
    obtain ⟨p, rfl, hp⟩ := ed_at4 h
    exact ⟨p, _, _, rfl, hp, (show valsV "remove" = .int 3 by decide +kernel), (show 3 ≤ 3 by decide)⟩
  | .wish r, h => by
    obtain ⟨p, u, rfl, hp, _⟩ := ed_at2 h
    exact ⟨p, _, _, rfl, hp, (show valsV "wish" = .int 1 by decide +kernel), (show 1 ≤ 3 by decide)⟩
  | .drop j, h => by
    obtain ⟨p, u, rfl, hp, _⟩ := ed_at2 h
    exact ⟨p, _, _, rfl, hp, (show valsV "drop" = .int 1 by decide +kernel), (show 1 ≤ 3 by decide)⟩
theorem td_get {H : Hp} : ∀ {es : List V} {eds : List Ed}, TdAll H es (eds.map Ed.dat) → ∀ {i : Nat} {x : V}, es[i]? = some x → ∃ e, eds[i]? = some e ∧ Td H x e.dat
  | _, [], h, i, x, e => by
    cases h
    simp at e
  | _, d :: eds, h, i, x, e => by
    cases h with
    | cons a b =>
      cases i with
      | zero =>
        obtain rfl := Option.some.inj e
        exact ⟨d, rfl, a⟩
      | succ i => exact td_get b (by simpa using e)
theorem scIsEd : FnScope ["value", "name"] ["value"] (defScope sIsEd) := ⟨rfl, rfl, rfl, by decide +kernel, rfl, by decide +kernel, by decide +kernel⟩
theorem scBatch : FnScope ["edits", "index", "edit"] ["edits"] (defScope sBatch) := ⟨rfl, rfl, rfl, by decide +kernel, rfl, by decide +kernel, by decide +kernel⟩
section
variable {P : Program} {w : World} {K : PySem.W.Frag} {mg : Str → Option Value} {base : Heap}
def spIsEd : Sp := fun vs H Q _ => ∃ (v : V) (e : Ed), vs = [v] ∧ Td H v e.dat ∧ Q (.bl true) H
theorem ok_ised {f : Addr} {fd : FuncData} {k : Nat} (F : Fun K "is_edit" "is_edit" sIsEd f fd) {lIs lBa dv : Addr} {jIs jBa : FuncData} (Y : AX K w mg lIs lBa dv jIs jBa) : FnOk P w K mg base CX0 (k + 1) f fd ["value"] spIsEd := by
  obtain ⟨es, n, KD⟩ := Y.vt.kd
  refine F.ok scIsEd (fun vs H Q E h => ?_) (fun cdv A outer s H vs Q E hr h => ?_)
  · obtain ⟨v, e, rfl, _⟩ := h
    rfl
  · obtain ⟨v, e, rfl, hv, q⟩ := h
    refine ⟨_, (pss_cons (ps_if (PW.pt (pw_or (pt_not (pt_val (pe_callB (show CallR _ _ (rIsi K) from call_isi) (by rfl) Y.m_isinstance (by decide +kernel) (pa_cons (pv 0) (pa_cons (pe_bltn (v := .ty "tuple") (by rfl) Y.m_tuple (by decide +kernel) rfl) pa_nil))))) (pw_or1 (pt_not (pt_truth (pv 0) (fun _ => rfl)))))) (pss_one (ps_ret pe_bl)) pss_nil)
      (pss_cons (ps_set (i := 1) scIsEd.nd rfl (.inl rfl) (pe_ix (show IxR _ (rIxT K) from ix_tup) (pv 0) pe_int (fun _ _ => rfl)))
      (pss_one (ps_ret (pe_and (pe_callB (show CallR _ _ (rIsi K) from call_isi) (by rfl) Y.m_isinstance (by decide +kernel) (pa_cons (pv 1) (pa_cons (pe_bltn (v := .ty "str") (by rfl) Y.m_str (by decide +kernel) rfl) pa_nil))) (pe_one (pe_cmpR op_eq (pe_op op_sub (pe_callB call_len_seq (by rfl) Y.m_len PySem.boot_len (pa_cons (pv 0) pa_nil)) pe_int) (pe_kget (pe_glob (v := .ref dv) rfl Y.vt.gV rfl) (pv 1) ⟨rfl, rfl, rfl, rfl⟩) (nomark _)))))))), ?_⟩
    obtain ⟨p, x, xs, rfl, hp, hx, hl⟩ := ed_any hv
    refine ⟨_, rfl, _, _, _, _, _, rfl, .ty _, .base (.tup hp), kit_ty (a := "tuple") (b := "tuple") (r := true) (by decide +kernel), _, rfl, iteF2 rfl ?_⟩
    refine ⟨_, rfl, true, .inr (.inl ⟨_, SqT.of hp, rfl⟩), iteF2 rfl ?_⟩
    refine ⟨_, rfl, p, _, 0, .str x, rfl, rfl, SqT.of hp, atI_nat (j := 0) rfl, ?_⟩
    refine ⟨_, rfl, _, _, _, _, _, rfl, .ty _, .base (.str x), kit_ty (a := "str") (b := "str") (r := true) (by decide +kernel), _, rfl, iteT ?_⟩
    refine ⟨_, rfl, p, _, rfl, .inr (SqT.of hp), _, _, rfl, rfl, dv, es, n, rfl, KD, _, rfl, ?_⟩
    obtain ⟨r, er, rr⟩ := Y.vt.kv x
    refine ⟨x, r, _, rfl, er, rr, by rw [hx]; rfl, ?_⟩
    rw [hx, show decide (V.int ((((V.str x :: xs).length : Nat) : Int) - 1) = V.int (xs.length : Nat)) = true from decide_eq_true (congrArg V.int (by rw [List.length_cons]; omega))]
    exact q
def spBatch : Sp := fun vs H Q _ => ∃ (a : Addr) (es : List V) (eds : List Ed), vs = [.ref a] ∧ H a = some (.lst es) ∧ TdAll H es (eds.map Ed.dat) ∧ eds.length ≤ 20 ∧ ∀ p H', Same H H' → H p = none → H' p = some (.lst es) → Q (.ref p) H'
theorem ok_batch {f : Addr} {fd : FuncData} {k : Nat} (F : Fun K "batch_of" "batch_of" sBatch f fd) {lIs lBa dv : Addr} {jIs jBa : FuncData} (Y : AX K w mg lIs lBa dv jIs jBa) : FnOk P w K mg base CX0 (k + 2) f fd ["edits"] spBatch := by
  have GIs : FnOk P w K mg base CX0 (k + 1) lIs jIs ["value"] spIsEd := ok_ised Y.Is Y
  obtain ⟨tb, hB⟩ := Y.mB
  refine F.ok scBatch (fun vs H Q E h => ?_) (fun cdv A outer s H vs Q E hr h => ?_)
  · obtain ⟨a, es, eds, rfl, _⟩ := h
    rfl
  · obtain ⟨a, es, eds, rfl, ha, hes, hl, q⟩ := h
    have hel : es.length = eds.length := by rw [hes.len, List.length_map]
    refine ⟨_, (pss_cons (ps_if (PW.pt (pw_or (pt_not (pt_val (pe_callB (show CallR _ _ (rIsiT K) from call_isiT) (by rfl) Y.m_isinstance (by decide +kernel) (pa_cons (pv 0) (pa_cons (pe_tup (pa_cons (pe_bltn (v := .ty "list") (by rfl) Y.m_list (by decide +kernel) rfl) (pa_cons (pe_bltn (v := .ty "tuple") (by rfl) Y.m_tuple (by decide +kernel) rfl) pa_nil))) pa_nil))))) (pw_or1 (pt_cmpR op_gt (pe_callB call_len_seq (by rfl) Y.m_len PySem.boot_len (pa_cons (pv 0) pa_nil)) (pe_glob (v := .int 20) rfl hB ⟨_, rfl⟩) (nomark _))))) (pss_one ps_never) pss_nil)
      (pss_cons (ps_for PassesOwn.never rfl (pi_enum (by rfl) Y.m_enumerate (pa_cons (pv 0) pa_nil)) (pg_tup rfl (pgs_cons (pg_name (i := 1) scBatch.nd rfl (Or.inl rfl)) (pgs_cons (pg_name (i := 2) scBatch.nd rfl (Or.inl rfl)) pgs_nil))) (pss_one (ps_if (pt_not (pt_val (pe_call GIs (hr.mono (by omega)) (by rfl) Y.gIs Y.Is.kp Y.bIs .nil pass0 (pa_cons (pv 2) pa_nil)))) (pss_one ps_never) pss_nil)))
      (pss_one (ps_ret (pe_callTy call_list_of (by rfl) Y.m_list (by decide +kernel) (pa_cons (pv 0) pa_nil)))))), ?_⟩
    refine ⟨_, rfl, by show 2 ≤ sizeLine; decide, fun tp ntp => ?_⟩
    have s1 := same_new (o := .tup [.ty "list", .ty "tuple"]) ntp
    refine ⟨.ref a, tp, [.ty "list", .ty "tuple"], .type "list", [.type "list", .type "tuple"], true, rfl, upd_same, .cons (.ty _) (.cons (.ty _) .nil), .base (.lst (s1 _ _ ha)), kitAny_cons (b := true) (kit_ty (a := "list") (b := "list") (r := true) (by decide +kernel)) (fun z => nomatch z) (fun _ => rfl), true, rfl, iteF2 rfl ?_⟩
    have ha1 := s1 _ _ ha
    have hes1 := hes.same s1
    generalize upd H tp (.tup [.ty "list", .ty "tuple"]) = H1 at s1 ha1 hes1 ⊢
    refine ⟨_, rfl, a, es, rfl, .inl (SqL.of ha1), (es.length : Nat), 20, rfl, rfl, _, rfl, iteF2 (decide_eq_false (by omega)) ?_⟩
    refine ⟨_, rfl, a, es, rfl, SqL.of ha1, ?_⟩
    refine for_enL (xs := es) (fun i σ H' => ∃ y1 y2, σ = [some (.ref a), y1, y2] ∧ Same H1 H') ⟨_, _, rfl, Same.refl _⟩ (fun i σ H' hi h => ?_) (fun i x T σ H' hx h nT => ?_) (fun σ H' h => ?_)
    · obtain ⟨y1, y2, rfl, s2⟩ := h
      exact SqL.of (s2 _ _ ha1)
    · obtain ⟨y1, y2, rfl, s2⟩ := h
      have s3 := same_new (o := .tup [.int (i : Nat), x]) nT
      refine ⟨T, [.int (i : Nat), x], rfl, .inl (.inl upd_same), rfl, .int (i : Nat), [x], rfl, x, [], rfl, rfl, ?_⟩
      obtain ⟨e, _, he⟩ := td_get hes1 hx
      refine ⟨_, rfl, x, e, rfl, he.same (s2.trans s3), _, rfl, iteF2 rfl ?_⟩
      exact ⟨_, _, rfl, s2.trans s3⟩
    · obtain ⟨y1, y2, rfl, s2⟩ := h
      refine ⟨_, rfl, a, es, rfl, .inl (SqL.of (s2 _ _ ha1)), fun p np => ?_⟩
      exact q p _ ((s1.trans s2).trans (same_new np)) (by
        cases z : H p with
        | none => rfl
        | some o => exact absurd ((s1.trans s2) _ _ z) (by rw [np]; simp)) upd_same
end
end DD
namespace DD
open PySem PySem.Spec PyProof.Rows L2 RZ
theorem pe_never {X : Cx} {e : Expr} : PE X e (fun _ _ _ => False) := ⟨fun _ _ _ _ _ _ h => h.elim⟩
/-- rows, wishes, past -/
abbrev S3 := List (List Int) × List (List Int) × List Hst
def stepE (s : S3) (e : Ed) : S3 := (e.rows s.1, e.ws s.2.1, s.2.2 ++ [(e.dat, s.1, s.2.1)])
def runE (s : S3) (eds : List Ed) : S3 := eds.foldl stepE s
def okE (n : Nat) : S3 → List Ed → Prop
  | _, [] => True
  | s, e :: es => e.ok s.1 s.2.1 n ∧ okE n (stepE s e) es
theorem okE_at {n : Nat} : ∀ {eds : List Ed} {s : S3}, okE n s eds → ∀ {i : Nat} {e : Ed}, eds[i]? = some e → e.ok (runE s (eds.take i)).1 (runE s (eds.take i)).2.1 n
  | [], _, _, i, e, h => by simp at h
  | d :: eds, s, ⟨h1, h2⟩, 0, e, h => by
    obtain rfl := Option.some.inj h
    exact h1
  | d :: eds, s, ⟨h1, h2⟩, i + 1, e, h => okE_at (eds := eds) h2 (by simpa using h)
theorem run_succ {s : S3} {eds : List Ed} {i : Nat} {e : Ed} (h : eds[i]? = some e) : runE s (eds.take (i + 1)) = stepE (runE s (eds.take i)) e := by
  unfold runE
  rw [List.take_add_one, h, List.foldl_append]
  rfl
theorem run_len {s : S3} : ∀ {eds : List Ed}, (runE s eds).2.2.length = s.2.2.length + eds.length := by
  intro eds
  induction eds generalizing s with
  | nil => rfl
  | cons e es ih =>
    show (runE (stepE s e) es).2.2.length = _
    rw [ih]
    show (s.2.2 ++ [_]).length + es.length = s.2.2.length + (es.length + 1)
    rw [List.length_append]
    show s.2.2.length + 1 + es.length = _
    omega
section
variable {P : Program} {w : World} {K : PySem.W.Frag} {mg : Str → Option Value} {base : Heap}
def spDe (C : Addr) : Sp := fun vs H Q _ => ∃ (x : Addr) (v : V) (e : Ed) (rows ws : List (List Int)) (n : Nat) (hist : List Hst), vs = [.ref x, v] ∧ Td H v e.dat ∧ CabAt C H x rows ws n hist ∧ hist.length ≤ 59 ∧ e.ok rows ws n ∧
  ∀ H', Kp2 x x H H' → CabAt C H' x (e.rows rows) (e.ws ws) n (hist ++ [(e.dat, rows, ws)]) → Q (.int ((hist.length + 1 : Nat) : Int)) H'
set_option maxHeartbeats 800000 in
theorem ok_de {f fN fU fV fTu fA fEr fO fSz fWm fWi fCs fCn fFu fCo fSp fCa fR fSt fAu fIp fI fFc fLo fSo fOv fDw fSv fSm : Addr} {fd dN dU dV dTu dA dEr dO dSz dWm dWi dCs dCn dFu dCo dSp dCa dR dSt dAu dIp dI dFc dLo dSo dOv dDw dSv dSm : FuncData} {C hIn hPu hRe hWi hDr hId hEd hTh hSu hCh hSt hEs hLn hSr hUn hAt hDb hDe hCf : Addr} {eIn ePu eRe eWi eDr eId eEd eTh eSu eCh eSt eEs eLn eSr eUn eAt eDb eDe eCf : FuncData} {k : Nat} (F : Fun K "do_edit" "Cabinet.do_edit" cDoE f fd) (T : Tx K mg fN fU fV fTu fA fEr fO fSz fWm fWi fCs fCn fFu fCo fSp fCa fR fSt fAu fIp fI fFc fLo fSo fOv fDw fSv fSm dN dU dV dTu dA dEr dO dSz dWm dWi dCs dCn dFu dCo dSp dCa dR dSt dAu dIp dI dFc dLo dSo dOv dDw dSv dSm) (X : CT K mg C hIn hPu hRe hWi hDr hId hEd hTh hSu hCh hSt hEs hLn hSr hUn hAt hDb hDe hCf eIn ePu eRe eWi eDr eId eEd eTh eSu eCh eSt eEs eLn eSr eUn eAt eDb eDe eCf) : FnOk P w K mg base CX0 (k + 6) f fd ["self", "edit"] (spDe C) := by
  have GPu : FnOk P w K mg base CX0 (k + 5) hPu ePu ["self", "drawer", "kind", "count"] (spPu C) := ok_pu X.FPu T X
  have GRe : FnOk P w K mg base CX0 (k + 5) hRe eRe ["self", "drawer", "kind", "count"] (spRe C) := ok_re X.FRe T X
  have GWi : FnOk P w K mg base CX0 (k + 5) hWi eWi ["self", "collection"] (spWi C) := ok_wi X.FWi T X
  have GDr : FnOk P w K mg base CX0 (k + 5) hDr eDr ["self", "index"] (spDr C) := ok_dr X.FDr T X
  refine F.ok scDe (fun vs H Q E h => ?_) (fun cdv A outer s H vs Q E hr h => ?_)
  · obtain ⟨x, v, e, rows, ws, n, hist, rfl, _⟩ := h
    rfl
  · obtain ⟨x, v, e, rows, ws, n, hist, rfl, hv, hc, hl, hok, q⟩ := h
    refine ⟨_, (pss_cons (ps_asg (pv 1) (pg_star rfl (pg_name (i := 2) scDe.nd rfl (Or.inl rfl)) (pg_name (i := 3) scDe.nd rfl (Or.inl rfl))))
      (pss_cons (ps_if (pt_cmpR op_eq (pv 2) pe_str (nomark _)) (pss_one (ps_ret (pe_meth (pv 0) X.cl X.MWi GWi (hr.mono (by omega)) X.BWi .nil pass0 (pa_cons (pe_ix (show IxR _ (rIxL K) from ix_list) (pv 3) pe_int (fun _ _ => rfl)) pa_nil)))) pss_nil)
      (pss_cons (ps_if (pt_cmpR op_eq (pv 2) pe_str (nomark _)) (pss_one (ps_ret (pe_meth (pv 0) X.cl X.MDr GDr (hr.mono (by omega)) X.BDr .nil pass0 (pa_cons (pe_ix (show IxR _ (rIxL K) from ix_list) (pv 3) pe_int (fun _ _ => rfl)) pa_nil)))) pss_nil)
      (pss_cons (ps_asg (pv 3) (pg_unl rfl (pgs_cons (pg_name (i := 4) scDe.nd rfl (Or.inl rfl)) (pgs_cons (pg_name (i := 5) scDe.nd rfl (Or.inl rfl)) (pgs_cons (pg_name (i := 6) scDe.nd rfl (Or.inl rfl)) pgs_nil)))))
      (pss_cons (ps_if (pt_cmpR op_eq (pv 2) pe_str (nomark _)) (pss_one (ps_ret (pe_meth (pv 0) X.cl X.MPu GPu (hr.mono (by omega)) X.BPu .nil pass0 (pa_cons (pv 4) (pa_cons (pv 5) (pa_cons (pv 6) pa_nil)))))) pss_nil)
      (pss_one (ps_ret (pe_meth (pv 0) X.cl X.MRe GRe (hr.mono (by omega)) X.BRe .nil pass0 (pa_cons (pv 4) (pa_cons (pv 5) (pa_cons (pv 6) pa_nil))))))))))), ?_⟩
    have key : ∀ (l : Addr) (o : HO), H l = none → CabAt C (upd H l o) x rows ws n hist ∧ (∃ dx t b tp, (upd H l o) x = some (.ins C dx (Fs (.ref t) (.ref b) (sureV rows ws n) (.ref tp) (.bl false)))) ∧ ∀ H', Kp2 x x (upd H l o) H' → Kp2 x x H H' := fun l o nl => by
      have c2 := hc.same (same_new (o := o) nl)
      obtain ⟨dx, t, b, tp, hx, _⟩ := c2.ex
      exact ⟨c2, ⟨dx, t, b, tp, hx⟩, fun H' k => (kps (same_new nl)).trans k⟩
    cases e with
    | put d k' c =>
      obtain ⟨p, rfl, hp⟩ := ed_at4 hv
      obtain ⟨h1, h2, h3, h4, h5⟩ := hok
      refine ⟨_, rfl, p, _, _, rfl, SqT.of hp, by show 3 ≤ 1000; decide, fun l nl => ?_⟩
      obtain ⟨c2, ⟨dx, t, b, tp, hx⟩, kk⟩ := key l (.lst [.int d, .int k', .int c]) nl
      refine ⟨_, rfl, rfl, _, rfl, iteF2 (sne s_pw) ?_⟩
      refine ⟨_, rfl, rfl, _, rfl, iteF2 (sne s_pd) ?_⟩
      refine ⟨_, rfl, l, _, rfl, SqL.of upd_same, rfl, _, _, rfl, _, _, rfl, _, _, rfl, rfl, ?_⟩
      refine ⟨_, rfl, rfl, _, rfl, iteT2 seq_ ?_⟩
      refine ⟨_, rfl, x, dx, _, rfl, hx, lm_put, _, rfl, _, rfl, _, rfl, ?_⟩
      exact ⟨x, d, k', c, rows, ws, n, hist, rfl, c2, hl, h1, h2, h3, h4, h5, fun H' k c => q H' (kk H' k) c⟩
    | rem d k' c =>
      obtain ⟨p, rfl, hp⟩ := ed_at4 hv
      obtain ⟨h1, h2, h3, h4, h5⟩ := hok
      refine ⟨_, rfl, p, _, _, rfl, SqT.of hp, by show 3 ≤ 1000; decide, fun l nl => ?_⟩
      obtain ⟨c2, ⟨dx, t, b, tp, hx⟩, kk⟩ := key l (.lst [.int d, .int k', .int c]) nl
      refine ⟨_, rfl, rfl, _, rfl, iteF2 (sne s_rw) ?_⟩
      refine ⟨_, rfl, rfl, _, rfl, iteF2 (sne s_rd) ?_⟩
      refine ⟨_, rfl, l, _, rfl, SqL.of upd_same, rfl, _, _, rfl, _, _, rfl, _, _, rfl, rfl, ?_⟩
      refine ⟨_, rfl, rfl, _, rfl, iteF2 (sne s_rp) ?_⟩
      refine ⟨_, rfl, x, dx, _, rfl, hx, lm_remove, _, rfl, _, rfl, _, rfl, ?_⟩
      exact ⟨x, d, k', c, rows, ws, n, hist, rfl, c2, hl, h1, h2, h3, h4, h5, fun H' k c => q H' (kk H' k) c⟩
    | wish r =>
      obtain ⟨p, u, rfl, hp, hu⟩ := ed_at2 hv
      obtain ⟨a, rfl, ha⟩ := td_rowI hu
      refine ⟨_, rfl, p, _, _, rfl, SqT.of hp, by show 1 ≤ 1000; decide, fun l nl => ?_⟩
      obtain ⟨c2, ⟨dx, t, b, tp, hx⟩, kk⟩ := key l (.lst [.ref a]) nl
      refine ⟨_, rfl, rfl, _, rfl, iteT2 seq_ ?_⟩
      refine ⟨_, rfl, x, dx, _, rfl, hx, lm_wish, ?_⟩
      refine ⟨_, rfl, l, _, 0, _, rfl, rfl, SqL.of upd_same, rfl, ?_⟩
      exact ⟨x, a, r, rows, ws, n, hist, rfl, c2, hl, same_new nl _ _ ha, hok.1, hok.2, fun H' k c => q H' (kk H' k) c⟩
    | drop j =>
      obtain ⟨p, u, rfl, hp, hu⟩ := ed_at2 hv
      cases hu
      refine ⟨_, rfl, p, _, _, rfl, SqT.of hp, by show 1 ≤ 1000; decide, fun l nl => ?_⟩
      obtain ⟨c2, ⟨dx, t, b, tp, hx⟩, kk⟩ := key l (.lst [.int j]) nl
      refine ⟨_, rfl, rfl, _, rfl, iteF2 (sne s_dw) ?_⟩
      refine ⟨_, rfl, rfl, _, rfl, iteT2 seq_ ?_⟩
      refine ⟨_, rfl, x, dx, _, rfl, hx, lm_drop, ?_⟩
      refine ⟨_, rfl, l, _, 0, _, rfl, rfl, SqL.of upd_same, rfl, ?_⟩
      exact ⟨x, j, rows, ws, n, hist, rfl, c2, hl, hok.1, hok.2, fun H' k c => q H' (kk H' k) c⟩
end
end DD
namespace DD
open PySem PySem.Spec PyProof.Rows L2 RZ
theorem lm_do_edit {a b c d e : V} : List.lookup ("do_edit" : Str) (Fs a b c d e) = none := rfl
theorem lm_do_batch {a b c d e : V} : List.lookup ("do_batch" : Str) (Fs a b c d e) = none := rfl
theorem lm_attempt {a b c d e : V} : List.lookup ("attempt" : Str) (Fs a b c d e) = none := rfl
theorem lm_undo {a b c d e : V} : List.lookup ("undo" : Str) (Fs a b c d e) = none := rfl
section
variable {P : Program} {w : World} {K : PySem.W.Frag} {mg : Str → Option Value} {base : Heap}
def spDb (C : Addr) : Sp := fun vs H Q _ => ∃ (x l : Addr) (es : List V) (eds : List Ed) (rows ws : List (List Int)) (n : Nat) (hist : List Hst), vs = [.ref x, .ref l, .non] ∧ H l = some (.lst es) ∧ TdAll H es (eds.map Ed.dat) ∧ CabAt C H x rows ws n hist ∧ hist.length + eds.length ≤ 60 ∧ okE n (rows, ws, hist) eds ∧
  ∀ H', Kp2 x x H H' → CabAt C H' x (runE (rows, ws, hist) eds).1 (runE (rows, ws, hist) eds).2.1 n (runE (rows, ws, hist) eds).2.2 → Q (.int (eds.length : Nat)) H'
theorem ok_db {f fN fU fV fTu fA fEr fO fSz fWm fWi fCs fCn fFu fCo fSp fCa fR fSt fAu fIp fI fFc fLo fSo fOv fDw fSv fSm : Addr} {fd dN dU dV dTu dA dEr dO dSz dWm dWi dCs dCn dFu dCo dSp dCa dR dSt dAu dIp dI dFc dLo dSo dOv dDw dSv dSm : FuncData} {C hIn hPu hRe hWi hDr hId hEd hTh hSu hCh hSt hEs hLn hSr hUn hAt hDb hDe hCf : Addr} {eIn ePu eRe eWi eDr eId eEd eTh eSu eCh eSt eEs eLn eSr eUn eAt eDb eDe eCf : FuncData} {k : Nat} (F : Fun K "do_batch" "Cabinet.do_batch" cDoB f fd) (T : Tx K mg fN fU fV fTu fA fEr fO fSz fWm fWi fCs fCn fFu fCo fSp fCa fR fSt fAu fIp fI fFc fLo fSo fOv fDw fSv fSm dN dU dV dTu dA dEr dO dSz dWm dWi dCs dCn dFu dCo dSp dCa dR dSt dAu dIp dI dFc dLo dSo dOv dDw dSv dSm) (X : CT K mg C hIn hPu hRe hWi hDr hId hEd hTh hSu hCh hSt hEs hLn hSr hUn hAt hDb hDe hCf eIn ePu eRe eWi eDr eId eEd eTh eSu eCh eSt eEs eLn eSr eUn eAt eDb eDe eCf) {lIs lBa dv : Addr} {jIs jBa : FuncData} (Y : AX K w mg lIs lBa dv jIs jBa) : FnOk P w K mg base CX0 (k + 7) f fd ["self", "batch", "watch"] (spDb C) := by
  have GDe : FnOk P w K mg base CX0 (k + 6) hDe eDe ["self", "edit"] (spDe C) := ok_de X.FDe T X
  refine F.ok scDb (fun vs H Q E h => ?_) (fun cdv A outer s H vs Q E hr h => ?_)
  · obtain ⟨x, l, es, eds, rows, ws, n, hist, rfl, _⟩ := h
    rfl
  · obtain ⟨x, l, es, eds, rows, ws, n, hist, rfl, hl, hes, hc, hh, hok, q⟩ := h
    refine ⟨_, (pss_cons (ps_for PassesOwn.never rfl (pi_enum (by rfl) Y.m_enumerate (pa_cons (pv 1) pa_nil)) (pg_tup rfl (pgs_cons (pg_name (i := 3) scDb.nd rfl (Or.inl rfl)) (pgs_cons (pg_name (i := 4) scDb.nd rfl (Or.inl rfl)) pgs_nil))) (pss_cons (ps_try_thru0 (pss_one (ps_expr (pe_meth (pv 0) X.cl X.MDe GDe (hr.mono (by omega)) X.BDe .nil pass0 (pa_cons (pv 4) pa_nil)))))
      (pss_one (ps_if (PW.pt (pw_and (pt_cmpR op_notN (pv 2) pe_non (nomark _)) (pw_and1 (pt_val pe_never)))) (pss_one ps_never) pss_nil))))
      (pss_one (ps_ret (pe_callB call_len_seq (by rfl) Y.m_len PySem.boot_len (pa_cons (pv 1) pa_nil))))), ?_⟩
    have hel : es.length = eds.length := by rw [hes.len, List.length_map]
    obtain ⟨dx, t, b, tp, hx, _⟩ := hc.ex
    have lx : l ≠ x := fun z => by
      rw [z, hx] at hl
      cases hl
    refine ⟨_, rfl, l, es, rfl, SqL.of hl, ?_⟩
    refine for_enL (xs := es) (fun i σ H' => ∃ y3 y4, σ = [some (.ref x), some (.ref l), some .non, y3, y4] ∧ Kp2 x x H H' ∧ CabAt C H' x (runE (rows, ws, hist) (eds.take i)).1 (runE (rows, ws, hist) (eds.take i)).2.1 n (runE (rows, ws, hist) (eds.take i)).2.2)
      ⟨_, _, rfl, Kp2.refl, hc⟩ (fun i σ H' hi h => ?_) (fun i v T' σ H' hv h nT => ?_) (fun σ H' h => ?_)
    · obtain ⟨y3, y4, rfl, k1, c1⟩ := h
      exact SqL.of (k1 _ _ lx lx hl)
    · obtain ⟨y3, y4, rfl, k1, c1⟩ := h
      have s3 := same_new (o := .tup [.int (i : Nat), v]) nT
      refine ⟨T', [.int (i : Nat), v], rfl, .inl (.inl upd_same), rfl, .int (i : Nat), [v], rfl, v, [], rfl, rfl, ?_⟩
      obtain ⟨e, ee, he⟩ := td_get hes hv
      have il : i < eds.length := (List.getElem?_eq_some_iff.mp ee).1
      have c2 := c1.same s3
      obtain ⟨dx2, t2, b2, tp2, hx2, _⟩ := c2.ex
      have k2 : Kp2 x x H (upd H' T' (.tup [.int (i : Nat), v])) := k1.trans (kps s3)
      have rl := run_len (s := (rows, ws, hist)) (eds := eds.take i)
      have rl2 : (runE (rows, ws, hist) (eds.take i)).2.2.length = hist.length + i := by
        rw [rl, List.length_take, Nat.min_eq_left (Nat.le_of_lt il)]
      refine ⟨_, rfl, x, dx2, _, rfl, hx2, lm_do_edit, _, rfl, ?_⟩
      refine ⟨x, v, e, _, _, n, _, rfl, he.tk (tk_ins hx k2), c2, by rw [rl2]; omega, okE_at hok ee, fun H2 k3 c3 => ?_⟩
      refine ⟨_, rfl, rfl, _, rfl, iteF2 rfl ?_⟩
      refine ⟨_, _, rfl, k2.trans k3, ?_⟩
      rw [run_succ ee]
      exact c3
    · obtain ⟨y3, y4, rfl, k1, c1⟩ := h
      rw [hel, List.take_length] at c1
      refine ⟨_, rfl, l, es, rfl, .inl (SqL.of (k1 _ _ lx lx hl)), ?_⟩
      rw [hel]
      exact q _ k1 c1
def spAt (C : Addr) : Sp := fun vs H Q _ => ∃ (x l : Addr) (es : List V) (eds : List Ed) (rows ws : List (List Int)) (n : Nat) (hist : List Hst), vs = [.ref x, .ref l, .non] ∧ H l = some (.lst es) ∧ TdAll H es (eds.map Ed.dat) ∧ CabAt C H x rows ws n hist ∧ eds.length ≤ 20 ∧ hist.length + eds.length ≤ 60 ∧ okE n (rows, ws, hist) eds ∧
  ∀ H', Kp2 x x H H' → CabAt C H' x (runE (rows, ws, hist) eds).1 (runE (rows, ws, hist) eds).2.1 n (runE (rows, ws, hist) eds).2.2 → Q (.int (eds.length : Nat)) H'
theorem ok_at {f fN fU fV fTu fA fEr fO fSz fWm fWi fCs fCn fFu fCo fSp fCa fR fSt fAu fIp fI fFc fLo fSo fOv fDw fSv fSm : Addr} {fd dN dU dV dTu dA dEr dO dSz dWm dWi dCs dCn dFu dCo dSp dCa dR dSt dAu dIp dI dFc dLo dSo dOv dDw dSv dSm : FuncData} {C hIn hPu hRe hWi hDr hId hEd hTh hSu hCh hSt hEs hLn hSr hUn hAt hDb hDe hCf : Addr} {eIn ePu eRe eWi eDr eId eEd eTh eSu eCh eSt eEs eLn eSr eUn eAt eDb eDe eCf : FuncData} {k : Nat} (F : Fun K "attempt" "Cabinet.attempt" cAtt f fd) (T : Tx K mg fN fU fV fTu fA fEr fO fSz fWm fWi fCs fCn fFu fCo fSp fCa fR fSt fAu fIp fI fFc fLo fSo fOv fDw fSv fSm dN dU dV dTu dA dEr dO dSz dWm dWi dCs dCn dFu dCo dSp dCa dR dSt dAu dIp dI dFc dLo dSo dOv dDw dSv dSm) (X : CT K mg C hIn hPu hRe hWi hDr hId hEd hTh hSu hCh hSt hEs hLn hSr hUn hAt hDb hDe hCf eIn ePu eRe eWi eDr eId eEd eTh eSu eCh eSt eEs eLn eSr eUn eAt eDb eDe eCf) {lIs lBa dv : Addr} {jIs jBa : FuncData} (Y : AX K w mg lIs lBa dv jIs jBa) : FnOk P w K mg base CX0 (k + 8) f fd ["self", "edits", "watch"] (spAt C) := by
  have GId : FnOk P w K mg base CX0 (k + 1) hId eId ["self"] (spIdle C) := ok_id X.FId T X
  have GBa : FnOk P w K mg base CX0 (k + 2) lBa jBa ["edits"] spBatch := ok_batch Y.Ba Y
  have GDb : FnOk P w K mg base CX0 (k + 7) hDb eDb ["self", "batch", "watch"] (spDb C) := ok_db X.FDb T X Y
  refine F.ok scAt (fun vs H Q E h => ?_) (fun cdv A outer s H vs Q E hr h => ?_)
  · obtain ⟨x, l, es, eds, rows, ws, n, hist, rfl, _⟩ := h
    rfl
  · obtain ⟨x, l, es, eds, rows, ws, n, hist, rfl, hl, hes, hc, h20, hh, hok, q⟩ := h
    refine ⟨_, (pss_cons (ps_expr (pe_meth0 (pv 0) X.cl X.MId GId (hr.mono (by omega)) X.BId .nil pass0))
      (pss_cons (ps_set (i := 3) scAt.nd rfl (.inl rfl) (pe_call GBa (hr.mono (by omega)) (by rfl) Y.gBa Y.Ba.kp Y.bBa .nil pass0 (pa_cons (pv 1) pa_nil)))
      (pss_cons (ps_set (i := 4) scAt.nd rfl (.inl rfl) (pe_fld (pv 0) rfl))
      (pss_cons (ps_set (i := 5) scAt.nd rfl (.inl rfl) (pe_fld (pv 0) rfl))
      (pss_cons (ps_set (i := 6) scAt.nd rfl (.inl rfl) (pe_fld (pv 0) rfl))
      (pss_cons (ps_set (i := 7) scAt.nd rfl (.inl rfl) (pe_fld (pv 0) rfl))
      (pss_cons (ps_set (i := 8) scAt.nd rfl (.inl rfl) pe_non)
      (pss_cons (ps_bodyFin (pss_one (ps_set (i := 8) scAt.nd rfl (.inl rfl) (pe_meth (pv 0) X.cl X.MDb GDb (hr.mono (by omega)) X.BDb .nil pass0 (pa_cons (pv 3) (pa_cons (pv 2) pa_nil))))) (pss_one (ps_if (pt_cmpR op_isN (pv 8) pe_non (nomark _)) (pss_cons ps_never (pss_cons ps_never (pss_cons ps_never (pss_one ps_never)))) pss_nil)))
      (pss_one (ps_ret (pv 8))))))))))), ?_⟩
    obtain ⟨dx, t, b, tp, hx, _⟩ := id hc.ex
    refine ⟨_, rfl, x, dx, _, rfl, hx, lm_check_idle, x, dx, _, rfl, hx, lk_watched, ?_⟩
    refine ⟨_, rfl, l, es, eds, rfl, hl, hes, h20, fun p H1 s1 np hp => ?_⟩
    have hx1 := s1 _ _ hx
    refine ⟨_, rfl, x, C, dx, _, _, rfl, hx1, X.cl, X.aS, lk_stock, ?_⟩
    refine ⟨_, rfl, x, C, dx, _, _, rfl, hx1, X.cl, X.aC, lk_collections, ?_⟩
    refine ⟨_, rfl, x, C, dx, _, _, rfl, hx1, X.cl, X.aU, lk_sure, ?_⟩
    refine ⟨_, rfl, x, C, dx, _, _, rfl, hx1, X.cl, X.aP, lk_past, ?_⟩
    refine ⟨_, rfl, x, dx, _, rfl, hx1, lm_do_batch, _, rfl, _, rfl, ?_⟩
    refine ⟨x, p, es, eds, rows, ws, n, hist, rfl, hp, hes.same s1, hc.same s1, hh, hok, fun H2 k2 c2 => ?_⟩
    refine ⟨_, rfl, rfl, _, rfl, iteF2 rfl ?_⟩
    exact ⟨_, rfl, q H2 ((kps s1).trans k2) c2⟩
end
end DD
namespace DD
open PySem PySem.Spec PyProof.Rows L2 RZ
theorem cutV_init {xs : List V} {p : V} : cutV (xs ++ [p]) none (some (-1)) = xs := by
  unfold cutV
  rw [HT.sIx_none, List.length_append, List.drop_zero, Nat.sub_zero]
  have e : HT.sIx (xs.length + [p].length) (xs.length + [p].length) (some (-1)) = xs.length := by
    unfold HT.sIx
    simp only [List.length_cons, List.length_nil]
    first | omega | (simp; omega) | (split <;> omega)
  rw [e, List.take_left]
theorem td_hsnoc {H : Hp} : ∀ {hist : List Hst} {h : Hst} {ps : List V}, TdAll H ps ((hist ++ [h]).map histD) → ∃ qs p, ps = qs ++ [p] ∧ TdAll H qs (hist.map histD) ∧ Td H p (histD h)
  | [], h, _, q => by
    cases q with
    | cons a b =>
      cases b
      exact ⟨[], _, rfl, .nil, a⟩
  | g :: hist, h, _, q => by
    cases q with
    | cons a b =>
      obtain ⟨qs, p, rfl, c, d⟩ := td_hsnoc b
      exact ⟨_ :: qs, p, rfl, .cons a c, d⟩
theorem td_hist3 {H : Hp} {v : V} {h : Hst} (q : Td H v (histD h)) : ∃ p e t b, v = .ref p ∧ H p = some (.tup [e, .ref t, .ref b]) ∧ Td H (.ref t) (stockD h.2.1) ∧ Td H (.ref b) (stockD h.2.2) := by
  cases q with
  | tup hp hs =>
    cases hs with
    | cons a1 s =>
      cases s with
      | cons a2 s =>
        cases s with
        | cons a3 s =>
          cases s
          obtain ⟨t, _, e2, _⟩ := td_stockI a2
          obtain ⟨b, _, e3, _⟩ := td_stockI a3
          subst e2 e3
          exact ⟨_, _, t, b, rfl, hp, a2, a3⟩
section
variable {P : Program} {w : World} {K : PySem.W.Frag} {mg : Str → Option Value} {base : Heap}
def spUn (C : Addr) : Sp := fun vs H Q _ => ∃ (x : Addr) (rows ws : List (List Int)) (n : Nat) (hist : List Hst) (h : Hst), vs = [.ref x] ∧ CabAt C H x rows ws n (hist ++ [h]) ∧ hist.length ≤ 900 ∧ Sg h.2.1 h.2.2 n ∧
  ∀ H', Kp2 x x H H' → CabAt C H' x h.2.1 h.2.2 n hist → Q (.int (hist.length : Nat)) H'
theorem ok_un {f fN fU fV fTu fA fEr fO fSz fWm fWi fCs fCn fFu fCo fSp fCa fR fSt fAu fIp fI fFc fLo fSo fOv fDw fSv fSm : Addr} {fd dN dU dV dTu dA dEr dO dSz dWm dWi dCs dCn dFu dCo dSp dCa dR dSt dAu dIp dI dFc dLo dSo dOv dDw dSv dSm : FuncData} {C hIn hPu hRe hWi hDr hId hEd hTh hSu hCh hSt hEs hLn hSr hUn hAt hDb hDe hCf : Addr} {eIn ePu eRe eWi eDr eId eEd eTh eSu eCh eSt eEs eLn eSr eUn eAt eDb eDe eCf : FuncData} {k : Nat} (F : Fun K "undo" "Cabinet.undo" cUndo f fd) (T : Tx K mg fN fU fV fTu fA fEr fO fSz fWm fWi fCs fCn fFu fCo fSp fCa fR fSt fAu fIp fI fFc fLo fSo fOv fDw fSv fSm dN dU dV dTu dA dEr dO dSz dWm dWi dCs dCn dFu dCo dSp dCa dR dSt dAu dIp dI dFc dLo dSo dOv dDw dSv dSm) (X : CT K mg C hIn hPu hRe hWi hDr hId hEd hTh hSu hCh hSt hEs hLn hSr hUn hAt hDb hDe hCf eIn ePu eRe eWi eDr eId eEd eTh eSu eCh eSt eEs eLn eSr eUn eAt eDb eDe eCf) : FnOk P w K mg base CX0 (k + 4) f fd ["self"] (spUn C) := by
  have GSt : FnOk P w K mg base CX0 (k + 3) fSt dSt ["stock", "collections"] spTotal := ok_total T.St T
  have GId : FnOk P w K mg base CX0 (k + 1) hId eId ["self"] (spIdle C) := ok_id X.FId T X
  refine F.ok scUn (fun vs H Q E h => ?_) (fun cdv A outer s H vs Q E hr h => ?_)
  · obtain ⟨x, rows, ws, n, hist, h, rfl, _⟩ := h
    rfl
  · obtain ⟨x, rows, ws, n, hist, h, rfl, hc, hl, g', q⟩ := h
    refine ⟨_, (pss_cons (ps_expr (pe_meth0 (pv 0) X.cl X.MId GId (hr.mono (by omega)) X.BId .nil pass0))
      (pss_cons (ps_if (pt_not (pt_truth (pe_fld (pv 0) rfl) (fun _ => rfl))) (pss_one ps_never) pss_nil)
      (pss_cons (ps_asg (pe_ix (show IxR _ (rIxT K) from ix_tup) (pe_fld (pv 0) rfl) (pe_un un_neg pe_int) (fun _ _ => rfl)) (pg_tup rfl (pgs_cons (pg_name (i := 1) scUn.nd rfl (Or.inl rfl)) (pgs_cons (pg_fld (pv 0)) (pgs_cons (pg_fld (pv 0)) pgs_nil)))))
      (pss_cons (ps_fld (pv 0) (pe_call GSt (hr.mono (by omega)) (by rfl) T.gSt T.St.kp T.bSt .nil pass0 (pa_cons (pe_fld (pv 0) rfl) (pa_cons (pe_fld (pv 0) rfl) pa_nil))) rfl)
      (pss_cons (ps_fld (pv 0) (pe_slice sl_tupQ (pe_fld (pv 0) rfl) po_none (po_some (pe_un un_neg pe_int))) rfl)
      (pss_one (ps_ret (pe_callB call_len_seq (by rfl) T.m_len PySem.boot_len (pa_cons (pe_fld (pv 0) rfl) pa_nil))))))))), ?_⟩
    obtain ⟨⟨dx, t, b, tp, hx, ht, hb, htp⟩, g⟩ := hc
    obtain ⟨ps, hps, hal⟩ := td_tupI htp
    obtain ⟨qs, p, rfl, hqs, hp⟩ := td_hsnoc hal
    obtain ⟨pp, e, t', b', rfl, hpp, ht', hb'⟩ := td_hist3 hp
    have hql : qs.length = hist.length := by rw [hqs.len, List.length_map]
    refine ⟨_, rfl, x, dx, _, rfl, hx, lm_check_idle, x, dx, _, rfl, hx, lk_watched, ?_⟩
    refine ⟨_, rfl, x, C, dx, _, _, rfl, hx, X.cl, X.aP, lk_past, true, .inr (.inl ⟨_, SqT.of hps, by cases qs <;> rfl⟩), ?_⟩
    refine iteF2 rfl ?_
    refine ⟨_, rfl, x, C, dx, _, _, rfl, hx, X.cl, X.aP, lk_past, 1, rfl, tp, _, -1, .ref pp, rfl, rfl, SqT.of hps, atI_last qs (.ref pp), ?_⟩
    refine ⟨pp, [e, .ref t', .ref b'], rfl, .inl (.inl hpp), rfl, e, [.ref t', .ref b'], rfl, .ref t', [.ref b'], rfl, ?_⟩
    refine ⟨_, rfl, x, C, dx, _, rfl, hx, X.cl, X.aS, by show 5 < 1000; decide, ?_⟩
    rw [pf_stock]
    refine ⟨.ref b', [], rfl, ?_⟩
    refine ⟨_, rfl, x, C, dx, _, rfl, upd_same, X.cl, X.aC, by show 5 < 1000; decide, ?_⟩
    rw [pf_collections]
    refine ⟨rfl, ?_⟩
    have k2 : ∀ o1 o2 : HO, Kp2 x x H (upd (upd H x o1) x o2) := fun o1 o2 c o h _ e => by
      rw [upd_ne h, upd_ne h]
      exact e
    have tk2 := fun o1 o2 => tk_ins hx (k2 o1 o2)
    obtain ⟨_, ls, e0, stk⟩ := td_stockI ht'
    cases e0
    obtain ⟨wl, wi⟩ := g'.wish hb'
    refine ⟨_, rfl, x, C, dx, _, _, rfl, upd_same, X.cl, X.aS, lk_stock, ?_⟩
    refine ⟨_, rfl, x, C, dx, _, _, rfl, upd_same, X.cl, X.aC, lk_collections, ?_⟩
    refine ⟨t', b', ls, wl, h.2.1, h.2.2, n, rfl, stk.tk (tk2 _ _), g'.r1, g'.r4, fun r hr => (g'.rg r hr).1, wi.tk (tk2 _ _), fun H3 s3 => ?_⟩
    have hx3 := s3 _ _ upd_same
    refine ⟨_, rfl, x, C, dx, _, rfl, hx3, X.cl, X.aU, by show 5 < 1000; decide, ?_⟩
    rw [pf_sure]
    have tkA := fun o1 => ((tk2 _ _).trans (TK.same s3)).trans (tk_ins hx3 (kp2x (o := o1)))
    refine ⟨_, rfl, x, C, dx, _, _, rfl, upd_same, X.cl, X.aP, lk_past, ?_⟩
    dsimp only [tNoPart]
    refine ⟨1, rfl, -1, rfl, tp, _, rfl, tkA _ _ _ hps, fun p4 H4 s4 h4 => ?_⟩
    rw [cutV_init] at h4
    have hx4 := s4 _ _ upd_same
    refine ⟨_, rfl, x, C, dx, _, rfl, hx4, X.cl, X.aP, by show 5 < 1000; decide, ?_⟩
    rw [pf_past]
    have kA := fun o2 => (k2 _ _).trans ((kps s3).trans ((kp2x (x := x)).trans ((kps s4).trans (kp2x (x := x) (o := o2)))))
    refine ⟨_, rfl, x, C, dx, _, _, rfl, upd_same, X.cl, X.aP, lk_past, p4, qs, rfl, .inr (SqT.of (tk_ins hx4 kp2x _ _ h4)), ?_⟩
    rw [hql]
    refine q _ (kA _) ⟨⟨dx, t', b', p4, upd_same, ht'.tk (tk_ins hx (kA _)), hb'.tk (tk_ins hx (kA _)), .tup (tk_ins hx4 kp2x _ _ h4) (hqs.tk (tk_ins hx (kA _)))⟩, g'⟩
end
end DD
namespace DD
open PySem PySem.Spec PyProof.Rows L2 RZ
/-- a stock, caps and drawers of it -/
structure RA (H : Hp) (t b d : Addr) (ls : List Addr) (rows : List (List Int)) (cs : List (Option Int)) (ds : List Nat) : Prop where
  st : StockAt H t ls rows
  rl : ∀ r ∈ rows, r.length = cs.length
  hb : H b = some (.tup (cs.map optI))
  hd : H d = some (.tup (ds.map fun j : Nat => V.int (j : Int)))
  dl : ds.length ≤ 4
  db : ∀ j ∈ ds, j < rows.length
  cl : cs.length ≤ 4
  cp : ∀ c, some c ∈ cs → 0 ≤ c
theorem RA.same {H H' : Hp} {t b d : Addr} {ls : List Addr} {rows : List (List Int)} {cs : List (Option Int)} {ds : List Nat} (r : RA H t b d ls rows cs ds) (s : Same H H') : RA H' t b d ls rows cs ds :=
  ⟨r.st.same s, r.rl, s _ _ r.hb, s _ _ r.hd, r.dl, r.db, r.cl, r.cp⟩
def pickL (ls : List Addr) (ds : List Nat) : List Addr := ds.map fun j => ls.getD j 0
theorem sum_take_succ {xs : List Int} {i : Nat} {x : Int} (h : xs[i]? = some x) : (xs.take (i + 1)).sum = (xs.take i).sum + x := by
  rw [List.take_add_one, h, List.sum_append]
  simp
end DD
namespace DD
open PySem PySem.Spec PyProof.Rows L2 RZ
def natsV (ds : List Nat) : List V := ds.map fun j : Nat => V.int (j : Int)
/-- tuples of drawers -/
structure SetsAt (H : Hp) (as : List Addr) (dss : List (List Nat)) (n : Nat) : Prop where
  len : as.length = dss.length
  at_ : ∀ (j : Nat) (a : Addr) (ds : List Nat), as[j]? = some a → dss[j]? = some ds → H a = some (.tup (natsV ds))
  bd : ∀ ds ∈ dss, ds.length ≤ 4 ∧ ∀ j ∈ ds, j < n
theorem SetsAt.same {H H' : Hp} {as : List Addr} {dss : List (List Nat)} {n : Nat} (a : SetsAt H as dss n) (s : Same H H') : SetsAt H' as dss n :=
  ⟨a.len, fun j x ds e1 e2 => s _ _ (a.at_ j x ds e1 e2), a.bd⟩
theorem SetsAt.snoc {H : Hp} {as : List Addr} {dss : List (List Nat)} {n : Nat} {x : Addr} {ds : List Nat} (a : SetsAt H as dss n) (h : H x = some (.tup (natsV ds))) (hb : ds.length ≤ 4 ∧ ∀ j ∈ ds, j < n) : SetsAt H (as ++ [x]) (dss ++ [ds]) n := by
  refine ⟨by rw [List.length_append, List.length_append, a.len]; rfl, fun j l r x1 x2 => ?_, fun r hr => ?_⟩
  · by_cases hj : j < as.length
    · rw [List.getElem?_append_left hj] at x1
      rw [List.getElem?_append_left (by rw [← a.len]; exact hj)] at x2
      exact a.at_ j l r x1 x2
    · have hj2 : j = as.length := by
        have := (List.getElem?_eq_some_iff.mp x1).1
        rw [List.length_append] at this
        simp at this
        omega
      subst hj2
      rw [List.getElem?_append_right (Nat.le_refl _), Nat.sub_self] at x1
      rw [a.len, List.getElem?_append_right (Nat.le_refl _), Nat.sub_self] at x2
      obtain rfl : x = l := Option.some.inj x1
      obtain rfl : ds = r := Option.some.inj x2
      exact h
  · rcases List.mem_append.mp hr with h | h
    · exact a.bd r h
    · rw [List.mem_singleton.mp h]
      exact hb
theorem SetsAt.lst {H : Hp} {as : List Addr} {dss : List (List Nat)} {n : Nat} {D : Addr} {xs ys : List V} (a : SetsAt H as dss n) (h : H D = some (.lst xs)) : SetsAt (upd H D (.lst ys)) as dss n :=
  ⟨a.len, fun j x ds e1 e2 => by
    have := a.at_ j x ds e1 e2
    have ne : x ≠ D := fun z => by rw [z, h] at this; cases this
    rw [upd_ne ne]
    exact this, a.bd⟩
theorem SetsAt.append {H : Hp} {as bs : List Addr} {dss ess : List (List Nat)} {n : Nat} (a : SetsAt H as dss n) (b : SetsAt H bs ess n) : SetsAt H (as ++ bs) (dss ++ ess) n := by
  refine ⟨by rw [List.length_append, List.length_append, a.len, b.len], fun j x ds x1 x2 => ?_, fun ds hd => ?_⟩
  · by_cases hj : j < as.length
    · rw [List.getElem?_append_left hj] at x1
      rw [List.getElem?_append_left (by rw [← a.len]; exact hj)] at x2
      exact a.at_ j x ds x1 x2
    · rw [List.getElem?_append_right (by omega)] at x1
      rw [List.getElem?_append_right (by rw [← a.len]; omega), ← a.len] at x2
      exact b.at_ _ x ds x1 x2
  · rcases List.mem_append.mp hd with h | h
    · exact a.bd ds h
    · exact b.bd ds h
theorem SetsAt.up {H : Hp} {as : List Addr} {dss : List (List Nat)} {n m : Nat} (a : SetsAt H as dss n) (h : n ≤ m) : SetsAt H as dss m :=
  ⟨a.len, a.at_, fun ds hd => ⟨(a.bd ds hd).1, fun j hj => Nat.lt_of_lt_of_le ((a.bd ds hd).2 j hj) h⟩⟩
/-- all sets of m drawers in the program's order -/
def pSets : Nat → List (List Nat)
  | 0 => [[]]
  | m + 1 => pSets m ++ (pSets m).map fun s => s ++ [m]
theorem ps_len : ∀ m, (pSets m).length = 2 ^ m
  | 0 => rfl
  | m + 1 => by
    show (pSets m ++ (pSets m).map _).length = _
    rw [List.length_append, List.length_map, ps_len m, Nat.pow_succ]
    omega
theorem ps_bd : ∀ {m : Nat} {s : List Nat}, s ∈ pSets m → s.length ≤ m ∧ s.Nodup ∧ ∀ j ∈ s, j < m
  | 0, s, h => by
    rw [List.mem_singleton.mp h]
    exact ⟨Nat.le_refl _, List.nodup_nil, fun j hj => by cases hj⟩
  | m + 1, s, h => by
    rcases List.mem_append.mp h with h | h
    · obtain ⟨h1, h2, h3⟩ := ps_bd h
      exact ⟨by omega, h2, fun j hj => Nat.lt_succ_of_lt (h3 j hj)⟩
    · obtain ⟨s', hs', rfl⟩ := List.mem_map.mp h
      obtain ⟨h1, h2, h3⟩ := ps_bd hs'
      refine ⟨by rw [List.length_append]; show s'.length + 1 ≤ m + 1; omega, ?_, fun j hj => ?_⟩
      · rw [List.nodup_append]
        refine ⟨h2, by simp, fun a ha b hb e => ?_⟩
        have := h3 a ha
        rw [List.mem_singleton.mp hb] at e
        omega
      · rcases List.mem_append.mp hj with h | h
        · exact Nat.lt_succ_of_lt (h3 j h)
        · rw [List.mem_singleton.mp h]
          exact Nat.lt_succ_self m
abbrev NSo : List Str := ["stock", "sets", "drawer", "drawers"]
theorem scSetsOf : FnScope NSo ["stock"] (defScope sSetsOf) := ⟨rfl, rfl, rfl, by decide +kernel, rfl, by decide +kernel, by decide +kernel⟩
section
variable {P : Program} {w : World} {K : PySem.W.Frag} {mg : Str → Option Value} {base : Heap}
def spSetsOf : Sp := fun vs H Q _ => ∃ (t : Addr) (xs : List V), vs = [.ref t] ∧ H t = some (.tup xs) ∧ xs.length ≤ 4 ∧
  ∀ (D : Addr) (as : List Addr) H', Same H H' → H' D = some (.lst (as.map V.ref)) → SetsAt H' as (pSets xs.length) xs.length → Q (.ref D) H'
theorem ok_setsof {f fN fU fV fTu fA fEr fO fSz fWm fWi fCs fCn fFu fCo fSp fCa fR fSt fAu fIp fI fFc fLo fSo fOv fDw fSv fSm : Addr} {fd dN dU dV dTu dA dEr dO dSz dWm dWi dCs dCn dFu dCo dSp dCa dR dSt dAu dIp dI dFc dLo dSo dOv dDw dSv dSm : FuncData} {k : Nat} (F : Fun K "sets_of_drawers" "sets_of_drawers" sSetsOf f fd) (T : Tx K mg fN fU fV fTu fA fEr fO fSz fWm fWi fCs fCn fFu fCo fSp fCa fR fSt fAu fIp fI fFc fLo fSo fOv fDw fSv fSm dN dU dV dTu dA dEr dO dSz dWm dWi dCs dCn dFu dCo dSp dCa dR dSt dAu dIp dI dFc dLo dSo dOv dDw dSv dSm) :
    FnOk P w K mg base CX0 (k + 1) f fd ["stock"] spSetsOf := by
  refine F.ok scSetsOf (fun vs H Q E h => ?_) (fun cdv A outer s H vs Q E hr h => ?_)
  · obtain ⟨t, xs, rfl, _⟩ := h
    rfl
  · obtain ⟨t, xs, rfl, ht, h4, q⟩ := h
    refine ⟨_, (pss_cons (ps_set (i := 1) scSetsOf.nd rfl (.inl rfl) (pe_lst (pa_cons (pe_tup pa_nil) pa_nil)))
      (pss_cons (ps_for PassesOwn.never rfl (pi_range1 (by rfl) T.m_range (pa_cons (pe_callB call_len_seq (by rfl) T.m_len PySem.boot_len (pa_cons (pv 0) pa_nil)) pa_nil)) (pg_name (i := 2) scSetsOf.nd rfl (Or.inr rfl)) (pss_one (ps_set (i := 1) scSetsOf.nd rfl (.inl rfl) (pe_op op_cat (pv 1) (pe_lc (te := tTup (StX.tStar K (tVar 3) (tCons (tVar 2) tNil))) (own := [("drawers", 3)]) (g := gName 3) rfl scSetsOf.nd (pi_list (pv 1)) (blkOk_by (own := [("drawers", 3)]) (N := NSo) (sc := defScope sSetsOf) (by decide +kernel)) (fun _ _ _ _ _ => (pg_name (i := 3) scSetsOf.nd rfl (Or.inl rfl))) (fun _ _ _ _ _ => pts_nil) (fun _ _ _ _ _ => (pe_tup (StX.pa_star (pv 3) (pa_cons (pv 2) pa_nil)))))))))
      (pss_one (ps_ret (pv 1))))), ?_⟩
    refine ⟨Nat.zero_le _, fun p0 np0 => ?_⟩
    refine ⟨by show 1 ≤ sizeLine; decide, fun F0 nF0 => ?_⟩
    have s0 : Same H (upd (upd H p0 (.tup [])) F0 (.lst [.ref p0])) := (same_new np0).trans (same_new nF0)
    have hp0 : (upd (upd H p0 (.tup [])) F0 (.lst [.ref p0])) p0 = some (.tup (natsV [])) := same_new nF0 _ _ upd_same
    have hF0 : (upd (upd H p0 (.tup [])) F0 (.lst [.ref p0])) F0 = some (.lst ([p0].map V.ref)) := upd_same
    generalize upd (upd H p0 (.tup [])) F0 (.lst [.ref p0]) = H0 at s0 hF0 hp0 ⊢
    have a0 : SetsAt H0 [p0] (pSets 0) 0 := ⟨rfl, fun j x ds e1 e2 => by
      cases j with
      | zero =>
        obtain rfl : p0 = x := Option.some.inj e1
        obtain rfl : [] = ds := Option.some.inj e2
        exact hp0
      | succ j => simp at e1, fun ds hd => by rw [List.mem_singleton.mp hd]; exact ⟨Nat.zero_le _, fun j hj => by cases hj⟩⟩
    refine ⟨_, rfl, t, xs, rfl, .inr (SqT.of (s0 _ _ ht)), (xs.length : Int), rfl, by omega, by omega, ?_⟩
    refine for_range (lo := 0) (n := xs.length) (fun i σ H' => ∃ (S : Addr) (as : List Addr) (y2 y3 : Option V), σ = [some (.ref t), some (.ref S), y2, y3] ∧ Same H H' ∧ H' S = some (.lst (as.map V.ref)) ∧ SetsAt H' as (pSets i) i)
      ⟨F0, [p0], _, _, rfl, s0, hF0, a0⟩ (fun i σ H' hi h => ?_) (fun σ H' h => ?_)
    · obtain ⟨S, as, y2, y3, rfl, sm, hS, sa⟩ := h
      have hal : as.length ≤ 8 := by
        rw [sa.len, ps_len]
        exact Nat.pow_le_pow_right (n := 2) (by decide) (show i ≤ 3 by omega)
      refine ⟨_, rfl, _, rfl, S, rfl, ⟨_, SqL.of hS⟩, fun D nD => ?_⟩
      refine lc_list (xs := as.map V.ref) (fun m H2 => ∃ bs : List Addr, H2 D = some (.lst (bs.map V.ref)) ∧ Same H' H2 ∧ bs.length = m ∧ SetsAt H2 bs (((pSets i).take m).map fun s => s ++ [i]) (i + 1)) ⟨[], upd_same, same_new nD, rfl, ⟨rfl, fun j x ds e => by simp at e, fun ds h => by cases h⟩⟩
        (fun m H2 _ h => by obtain ⟨_, _, s2, _⟩ := h; exact SqL.of (s2 _ _ hS)) (fun m x H2 hx h => ?_) (fun H2 h => ?_)
      · obtain ⟨bs, hD, s2, hbl, sb⟩ := h
        obtain ⟨a1, ha1, rfl⟩ := get_map hx
        have hml : m < (pSets i).length := by rw [← sa.len]; exact (List.getElem?_eq_some_iff.mp ha1).1
        have hsm : (pSets i)[m]? = some (pSets i)[m] := List.getElem?_eq_getElem hml
        have hta := s2 _ _ (sa.at_ m a1 _ ha1 hsm)
        obtain ⟨hb1, _, hb2⟩ := ps_bd (List.getElem_mem hml)
        generalize hs : (pSets i)[m] = s' at hsm hta hb1 hb2
        refine ⟨rfl, .ref a1, rfl, a1, _, rfl, .inl (SqT.of hta), .int ((0 : Int) + (i : Nat)), rfl, ?_, fun T1 nT => ?_⟩
        · show (s'.map _ ++ [V.int ((0 : Int) + (i : Nat))]).length ≤ sizeLine
          rw [List.length_append, List.length_map]
          exact Nat.le_of_lt (len_lt (by show s'.length + 1 ≤ 1000; omega))
        have hn : natsV s' ++ [V.int ((0 : Int) + (i : Nat))] = natsV (s' ++ [i]) := by
          unfold natsV
          rw [List.map_append, Int.zero_add]
          rfl
        have sT : Same H2 (upd H2 T1 (.tup (natsV s' ++ [V.int ((0 : Int) + (i : Nat))]))) := same_new nT
        have hT : (upd H2 T1 (.tup (natsV s' ++ [V.int ((0 : Int) + (i : Nat))]))) T1 = some (.tup (natsV (s' ++ [i]))) := by rw [upd_same, hn]
        have hD2 := sT _ _ hD
        refine ⟨_, hD2, ?_, bs ++ [T1], ?_, fun b' o e' => ?_, ?_, ?_⟩
        · rw [List.length_map, hbl]
          have := (List.getElem?_eq_some_iff.mp ha1).1
          exact len_lt (by omega)
        · rw [upd_same, List.map_append]
          rfl
        · rw [upd_ne (ne_of_none e' nD)]
          exact sT _ _ (s2 b' o e')
        · rw [List.length_append, hbl]
          rfl
        · rw [take_succ_map hsm]
          refine ((sb.same sT).snoc hT ⟨by rw [List.length_append]; show s'.length + 1 ≤ 4; omega, fun j hj => ?_⟩).lst hD2
          rcases List.mem_append.mp hj with h | h
          · exact Nat.lt_succ_of_lt (hb2 j h)
          · rw [List.mem_singleton.mp h]
            exact Nat.lt_succ_self i
      · obtain ⟨bs, hD, s2, hbl, sb⟩ := h
        rw [List.length_map] at hbl sb
        rw [sa.len, List.take_length] at sb
        refine ⟨S, D, _, _, rfl, rfl, s2 _ _ hS, hD, ?_, fun p np => ?_⟩
        · rw [List.length_map, List.length_map, hbl]
          exact Nat.le_of_lt (len_lt (by omega))
        have sp := same_new (o := .lst (as.map V.ref ++ bs.map V.ref)) np
        refine ⟨p, as ++ bs, _, _, rfl, sm.trans (s2.trans sp), by rw [upd_same, List.map_append], ?_⟩
        exact SetsAt.append (((sa.same s2).same sp).up (Nat.le_succ i)) (sb.same sp)
    · obtain ⟨S, as, y2, y3, rfl, sm, hS, sa⟩ := h
      exact ⟨_, rfl, q S as _ sm hS sa⟩
end
end DD
namespace DD
open PySem PySem.Spec PyProof.Rows L2 RZ
def takenOf (ps : List Int) (ds : List Nat) : Int := (ds.map fun j => ps.getD j 0).sum
def totL (rows : List (List Int)) (n : Nat) (ds : List Nat) : List Int := totalsOf (pickR rows ds) (if ds = [] then 0 else n)
def LoadAt (H : Hp) (rows : List (List Int)) (ps : List Int) (n : Nat) (a : Addr) (ds : List Nat) : Prop := ∃ d tt : Addr, H a = some (.tup [.ref d, .int (takenOf ps ds), .ref tt]) ∧ H d = some (.tup (natsV ds)) ∧ H tt = some (.tup ((totL rows n ds).map V.int))
theorem LoadAt.tk {H H' : Hp} {rows : List (List Int)} {ps : List Int} {n : Nat} {a : Addr} {ds : List Nat} (l : LoadAt H rows ps n a ds) (k : ∀ b xs, H b = some (.tup xs) → H' b = some (.tup xs)) : LoadAt H' rows ps n a ds := by
  obtain ⟨d, tt, h1, h2, h3⟩ := l
  exact ⟨d, tt, k _ _ h1, k _ _ h2, k _ _ h3⟩
structure LoadsAt (H : Hp) (rows : List (List Int)) (ps : List Int) (n : Nat) (as : List Addr) (dss : List (List Nat)) : Prop where
  len : as.length = dss.length
  at_ : ∀ (j : Nat) (a : Addr) (ds : List Nat), as[j]? = some a → dss[j]? = some ds → LoadAt H rows ps n a ds
theorem LoadsAt.tk {H H' : Hp} {rows : List (List Int)} {ps : List Int} {n : Nat} {as : List Addr} {dss : List (List Nat)} (l : LoadsAt H rows ps n as dss) (k : ∀ b xs, H b = some (.tup xs) → H' b = some (.tup xs)) : LoadsAt H' rows ps n as dss :=
  ⟨l.len, fun j a ds e1 e2 => (l.at_ j a ds e1 e2).tk k⟩
theorem LoadsAt.snoc {H : Hp} {rows : List (List Int)} {ps : List Int} {n : Nat} {as : List Addr} {dss : List (List Nat)} {x : Addr} {ds : List Nat} (a : LoadsAt H rows ps n as dss) (h : LoadAt H rows ps n x ds) : LoadsAt H rows ps n (as ++ [x]) (dss ++ [ds]) := by
  refine ⟨by rw [List.length_append, List.length_append, a.len]; rfl, fun j l r x1 x2 => ?_⟩
  by_cases hj : j < as.length
  · rw [List.getElem?_append_left hj] at x1
    rw [List.getElem?_append_left (by rw [← a.len]; exact hj)] at x2
    exact a.at_ j l r x1 x2
  · have hj2 : j = as.length := by
      have := (List.getElem?_eq_some_iff.mp x1).1
      rw [List.length_append] at this
      simp at this
      omega
    subst hj2
    rw [List.getElem?_append_right (Nat.le_refl _), Nat.sub_self] at x1
    rw [a.len, List.getElem?_append_right (Nat.le_refl _), Nat.sub_self] at x2
    obtain rfl : x = l := Option.some.inj x1
    obtain rfl : ds = r := Option.some.inj x2
    exact h
abbrev NLo : List Str := ["stock", "plan", "loads", "drawers", "taken", "drawer"]
theorem scLoads : FnScope NLo ["stock", "plan"] (defScope sLoads) := ⟨rfl, rfl, rfl, by decide +kernel, rfl, by decide +kernel, by decide +kernel⟩
section
variable {P : Program} {w : World} {K : PySem.W.Frag} {mg : Str → Option Value} {base : Heap}
def spLoads : Sp := fun vs H Q _ => ∃ (t p : Addr) (ls : List Addr) (rows : List (List Int)) (ps : List Int) (n : Nat), vs = [.ref t, .ref p] ∧ StockAt H t ls rows ∧ rows.length ≤ 4 ∧ (∀ r ∈ rows, r.length = n) ∧ n ≤ 100 ∧ H p = some (.tup (ps.map V.int)) ∧ ps.length = rows.length ∧
  ∀ (D : Addr) (as : List Addr) H', Same H H' → H' D = some (.lst (as.map V.ref)) → LoadsAt H' rows ps n as (pSets rows.length) → Q (.ref D) H'
set_option maxHeartbeats 800000 in
theorem ok_loads {f fN fU fV fTu fA fEr fO fSz fWm fWi fCs fCn fFu fCo fSp fCa fR fSt fAu fIp fI fFc fLo fSo fOv fDw fSv fSm : Addr} {fd dN dU dV dTu dA dEr dO dSz dWm dWi dCs dCn dFu dCo dSp dCa dR dSt dAu dIp dI dFc dLo dSo dOv dDw dSv dSm : FuncData} {k : Nat} (F : Fun K "loads_of" "loads_of" sLoads f fd) (T : Tx K mg fN fU fV fTu fA fEr fO fSz fWm fWi fCs fCn fFu fCo fSp fCa fR fSt fAu fIp fI fFc fLo fSo fOv fDw fSv fSm dN dU dV dTu dA dEr dO dSz dWm dWi dCs dCn dFu dCo dSp dCa dR dSt dAu dIp dI dFc dLo dSo dOv dDw dSv dSm) :
    FnOk P w K mg base CX0 (k + 2) f fd ["stock", "plan"] spLoads := by
  have GO : FnOk P w K mg base CX0 (k + 1) fO dO ["stock"] (spTotals K) := ok_totals T.O T.m_tuple T.m_sum T.m_zip
  have GSo : FnOk P w K mg base CX0 (k + 1) fSo dSo ["stock"] spSetsOf := ok_setsof T.So T
  refine F.ok scLoads (fun vs H Q E h => ?_) (fun cdv A outer s H vs Q E hr h => ?_)
  · obtain ⟨t, p, ls, rows, ps, n, rfl, _⟩ := h
    rfl
  · obtain ⟨t, p, ls, rows, ps, n, rfl, st, h4, hrn, hn, hp, hpl, q⟩ := h
    refine ⟨_, (pss_cons (ps_set (i := 2) scLoads.nd rfl (.inl rfl) (pe_lst pa_nil))
      (pss_cons (ps_for PassesOwn.never rfl (pi_list (pe_call GSo (hr.mono (by omega)) (by rfl) T.gSo T.So.kp T.bSo .nil pass0 (pa_cons (pv 0) pa_nil))) (pg_name (i := 3) scLoads.nd rfl (Or.inl rfl)) (pss_cons (ps_set (i := 4) scLoads.nd rfl (.inl rfl) (pe_callB (show CallR _ _ (rSum K) from cr_sum rfl) (by rfl) T.m_sum (by decide +kernel) (pa_cons (pe_lc (own := [("drawer", 5)]) (g := gName 5) rfl scLoads.nd (pi_tup (pv 3)) (blkOk_by (own := [("drawer", 5)]) (N := NLo) (sc := defScope sLoads) (by decide +kernel)) (fun _ _ _ _ _ => (pg_name (i := 5) scLoads.nd rfl (Or.inl rfl))) (fun _ _ _ _ _ => pts_nil) (fun _ _ _ _ _ => (pe_ix (show IxR _ (rIxT K) from ix_tup) (pv 1) (pv 5) (fun _ _ => rfl)))) pa_nil)))
      (pss_one (ps_expr (pe_bm PySem.F.plainAttrs_list PySem.F.slot_list_append PySem.F.type_list_append mt_append (pv 2) (pa_cons (pe_tup (pa_cons (pv 3) (pa_cons (pv 4) (pa_cons (pe_call GO (hr.mono (by omega)) (by rfl) T.gO T.O.kp T.bO .nil pass0 (pa_cons (pe_lc (own := [("drawer", 5)]) (g := gName 5) rfl scLoads.nd (pi_tup (pv 3)) (blkOk_by (own := [("drawer", 5)]) (N := NLo) (sc := defScope sLoads) (by decide +kernel)) (fun _ _ _ _ _ => (pg_name (i := 5) scLoads.nd rfl (Or.inl rfl))) (fun _ _ _ _ _ => pts_nil) (fun _ _ _ _ _ => (pe_ix (show IxR _ (rIxT K) from ix_tup) (pv 0) (pv 5) (fun _ _ => rfl)))) pa_nil)) pa_nil)))) pa_nil))))))
      (pss_one (ps_ret (pv 2))))), ?_⟩
    refine ⟨Nat.zero_le _, fun F0 nF => ?_⟩
    have s0 : Same H (upd H F0 (.lst [])) := same_new nF
    have hF0 : (upd H F0 (.lst [])) F0 = some (.lst ([] : List V)) := upd_same
    generalize upd H F0 (.lst []) = H0 at s0 hF0 ⊢
    have hlen : (ls.map V.ref).length = rows.length := by rw [List.length_map, st.len]
    refine ⟨_, rfl, t, ls.map V.ref, rfl, s0 _ _ st.top, by omega, fun L as H1 s1 hL sa => ?_⟩
    rw [hlen] at sa
    have s01 := s0.trans s1
    have hF1 := s1 _ _ hF0
    have nLF : L ≠ F0 ∨ as = [] := by
      by_cases e : L = F0
      · right
        rw [e, hF1] at hL
        have := HO.lst.inj (Option.some.inj hL)
        exact List.map_eq_nil_iff.mp this.symm
      · exact .inl e
    have hal : as.length = 2 ^ rows.length := by rw [sa.len, ps_len]
    have nLF : L ≠ F0 := by
      rcases nLF with h | h
      · exact h
      · rw [h] at hal
        have : 0 < 2 ^ rows.length := Nat.pow_pos (by decide)
        simp at hal
        omega
    have h16 : as.length ≤ 16 := by
      rw [hal]
      exact Nat.pow_le_pow_right (n := 2) (by decide) h4
    refine ⟨L, rfl, ⟨_, SqL.of hL⟩, ?_⟩
    refine for_it (walk_list (xs := as.map V.ref)) (fun i σ H' => ∃ (as' : List Addr) (y3 y4 y5 : Option V), σ = [some (.ref t), some (.ref p), some (.ref F0), y3, y4, y5] ∧ Same H H' ∧ H' L = some (.lst (as.map V.ref)) ∧ SetsAt H' as (pSets rows.length) rows.length ∧ H' F0 = some (.lst (as'.map V.ref)) ∧ LoadsAt H' rows ps n as' ((pSets rows.length).take i))
      ⟨[], _, _, _, rfl, s01, hL, sa, hF1, ⟨rfl, fun j a ds e => by simp at e⟩⟩ (fun i σ H' _ h => by obtain ⟨_, _, _, _, _, _, hL', _⟩ := h; exact SqL.of hL') (fun i x σ H' H2 hi h y => ?_) (fun σ H' h => ?_)
    · obtain ⟨as', y3, y4, y5, rfl, sm, hL', sa', hF, la⟩ := h
      obtain ⟨rfl, hx⟩ := y
      obtain ⟨d, hd, rfl⟩ := get_map hx
      rw [List.length_map] at hi
      have hid : i < (pSets rows.length).length := by rw [← sa'.len]; exact hi
      have hdi : (pSets rows.length)[i]? = some (pSets rows.length)[i] := List.getElem?_eq_getElem hid
      have hds := sa'.at_ i d _ hd hdi
      obtain ⟨hd4, hdb⟩ := sa'.bd _ (List.getElem_mem hid)
      generalize he : (pSets rows.length)[i] = dd at hdi hds hd4 hdb
      refine ⟨.ref d, rfl, d, rfl, ⟨_, SqT.of hds⟩, fun D nD => ?_⟩
      refine lc_tup (xs := dd.map fun j : Nat => V.int (j : Int)) (fun m H3 => H3 D = some (.lst (((dd.map fun j => ps.getD j 0).take m).map V.int)) ∧ Same H2 H3) ⟨upd_same, same_new nD⟩ (fun m H3 _ h => SqT.of (h.2 _ _ hds)) (fun m x H3 hx h => ?_) (fun H3 h => ?_)
      · obtain ⟨hD, s3⟩ := h
        obtain ⟨j, hj, rfl⟩ := get_map hx
        have hjr := hdb j (List.mem_of_getElem? hj)
        have gp : (ps.map V.int)[j]? = some (.int (ps.getD j 0)) := by
          rw [List.getElem?_map, getD_of (d := 0) (by rw [hpl]; exact hjr)]
          rfl
        have hz : (dd.map fun j => ps.getD j 0)[m]? = some (ps.getD j 0) := by
          rw [List.getElem?_map, hj]
          rfl
        refine ⟨rfl, .ref p, rfl, .int (j : Int), rfl, p, _, (j : Int), .int (ps.getD j 0), rfl, rfl, SqT.of (s3 _ _ (sm _ _ hp)), atI_nat gp, _, hD, ?_, ?_, fun b' o' e => ?_⟩
        · rw [List.length_map, List.length_take, List.length_map]
          exact len_lt (by omega)
        · rw [upd_same, take_succ_map hz]
        · rw [upd_ne (ne_of_none e nD)]
          exact s3 b' o' e
      · obtain ⟨hD, s3⟩ := h
        rw [List.length_map, List.take_of_length_le (by rw [List.length_map]; exact Nat.le_refl _)] at hD
        refine ⟨D, _, rfl, SqL.of hD, ?_⟩
        have sm3 := sm.trans s3
        have hF3 := s3 _ _ hF
        have hds3 := s3 _ _ hds
        refine ⟨.ref F0, rfl, .inl ⟨rfl, _, SqL.of hF3⟩, _, rfl, _, rfl, .ref d, rfl, d, rfl, ⟨_, SqT.of hds3⟩, fun D2 nD2 => ?_⟩
        refine lc_tup (xs := dd.map fun j : Nat => V.int (j : Int)) (fun m H4 => H4 D2 = some (.lst (((pickL ls dd).take m).map V.ref)) ∧ Same H3 H4) ⟨upd_same, same_new nD2⟩ (fun m H4 _ h => SqT.of (h.2 _ _ hds3)) (fun m x H4 hx h => ?_) (fun H4 h => ?_)
        · obtain ⟨hD2, s4⟩ := h
          obtain ⟨j, hj, rfl⟩ := get_map hx
          have hjr := hdb j (List.mem_of_getElem? hj)
          have hjl : j < ls.length := by rw [st.len]; exact hjr
          have hpk : (pickL ls dd)[m]? = some (ls.getD j 0) := by
            unfold pickL
            rw [List.getElem?_map, hj]
            rfl
          have gr : (ls.map V.ref)[j]? = some (.ref (ls.getD j 0)) := by
            rw [List.getElem?_map, getD_of (d := 0) hjl]
            rfl
          refine ⟨rfl, .ref t, rfl, .int (j : Int), rfl, t, _, (j : Int), .ref (ls.getD j 0), rfl, rfl, SqT.of (s4 _ _ (sm3 _ _ st.top)), atI_nat gr, _, hD2, ?_, ?_, fun b' o e => ?_⟩
          · rw [List.length_map, List.length_take]
            have : (pickL ls dd).length = dd.length := by simp [pickL]
            exact len_lt (by omega)
          · rw [upd_same, take_succ_map hpk]
          · rw [upd_ne (ne_of_none e nD2)]
            exact s4 b' o e
        · obtain ⟨hD2, s4⟩ := h
          rw [List.length_map, List.take_of_length_le (by simp [pickL])] at hD2
          have hll : (pickL ls dd).length = (pickR rows dd).length := by simp [pickL, pickR]
          have hpl2 : (pickR rows dd).length = dd.length := by simp [pickR]
          have sm4 := sm3.trans s4
          have hat : ∀ (j : Nat) (l : Addr) (r : List Int), (pickL ls dd)[j]? = some l → (pickR rows dd)[j]? = some r → H4 l = some (.tup (r.map V.int)) ∧ r.length = (if dd = [] then 0 else n) := fun j l r e1 e2 => by
            unfold pickL at e1
            unfold pickR at e2
            obtain ⟨j1, h1, rfl⟩ := get_map e1
            obtain ⟨j2, h2, rfl⟩ := get_map e2
            obtain rfl : j1 = j2 := Option.some.inj (h1.symm.trans h2)
            have hjr := hdb j1 (List.mem_of_getElem? h1)
            have g := getD_of (d := []) hjr
            rw [if_neg (fun z => by rw [z] at h1; simp at h1)]
            exact ⟨sm4 _ _ (st.row j1 _ _ (getD_of (by rw [st.len]; exact hjr)) g), hrn _ (List.mem_of_getElem? g)⟩
          refine ⟨D2, pickL ls dd, pickR rows dd, if dd = [] then 0 else n, rfl, .inr (SqL.of hD2), hll, hat, (fun e => by rw [if_pos (List.eq_nil_of_length_eq_zero (by rw [← hpl2, e]; rfl))]), by omega, by split <;> omega, fun tt H5 s5 _ htt => ?_⟩
          refine ⟨by show 3 ≤ sizeLine; decide, fun p6 n6 => ?_⟩
          have s6 := same_new (o := .tup [.ref d, .int (takenOf ps dd), .ref tt]) n6
          have s36 := s4.trans (s5.trans s6)
          have hF6 := s36 _ _ hF3
          have hload : LoadAt (upd H5 p6 (.tup [.ref d, .int (takenOf ps dd), .ref tt])) rows ps n p6 dd := ⟨d, tt, upd_same, s36 _ _ hds3, s6 _ _ htt⟩
          have s26 := s3.trans s36
          have hlt : (as'.map V.ref).length < sizeLine := by
            rw [List.length_map, la.len, List.length_take]
            exact len_lt (by omega)
          refine ⟨F0, _, .ref p6, rfl, rfl, hF6, hlt, as' ++ [p6], _, _, _, rfl, ?_, ?_, (sa'.same s26).lst hF6, ?_, ?_⟩
          · intro b' o e2
            rw [upd_ne (ne_of_none e2 nF)]
            exact s26 _ _ (sm b' o e2)
          · rw [upd_ne nLF]
            exact s26 _ _ hL'
          · rw [upd_same, List.map_append]
            rfl
          · rw [List.take_add_one, hdi]
            refine LoadsAt.tk (LoadsAt.snoc (la.tk fun b xs e => s26 _ _ e) hload) fun b xs e => ?_
            have ne : b ≠ F0 := fun z => by rw [z, hF6] at e; cases e
            rw [upd_ne ne]
            exact e
    · obtain ⟨as', y3, y4, y5, rfl, sm, hL', sa', hF, la⟩ := h
      rw [List.length_map, sa'.len, List.take_length] at la
      exact ⟨_, rfl, q F0 as' _ sm hF la⟩
end
end DD
namespace DD
open PySem PySem.Spec PyProof.Rows L2 RZ
/-- whether a plan takes more from these drawers than their room -/
def ovB (rows : List (List Int)) (ps : List Int) (n : Nat) (cs : List (Option Int)) (ds : List Nat) : Bool := decide (takenOf ps ds > (List.zipWith capv (totL rows n ds) cs).sum)
theorem find_at {α : Type} {p : α → Bool} : ∀ {l : List α} {i : Nat} {x : α}, l[i]? = some x → (∀ y ∈ l.take i, p y = false) → p x = true → l.find? p = some x
  | [], _, _, h, _, _ => by simp at h
  | a :: l, 0, x, h, _, hp => by
    obtain rfl : a = x := Option.some.inj h
    rw [List.find?_cons, hp]
  | a :: l, i + 1, x, h, hn, hp => by
    rw [List.find?_cons, hn a (by simp)]
    exact find_at (l := l) (i := i) h (fun y hy => hn y (by rw [List.take_succ_cons]; exact List.mem_cons_of_mem _ hy)) hp
abbrev NOv : List Str := ["loads", "caps", "drawers", "taken", "totals"]
theorem scOver : FnScope NOv ["loads", "caps"] (defScope sOver) := ⟨rfl, rfl, rfl, by decide +kernel, rfl, by decide +kernel, by decide +kernel⟩
section
variable {P : Program} {w : World} {K : PySem.W.Frag} {mg : Str → Option Value} {base : Heap}
def spOver : Sp := fun vs H Q _ => ∃ (L b : Addr) (as : List Addr) (rows : List (List Int)) (ps : List Int) (n : Nat) (dss : List (List Nat)) (cs : List (Option Int)), vs = [.ref L, .ref b] ∧ H L = some (.lst (as.map V.ref)) ∧ LoadsAt H rows ps n as dss ∧
  H b = some (.tup (cs.map optI)) ∧ cs.length = n ∧ n ≤ 100 ∧
  (∀ H', Same H H' → (∀ ds ∈ dss, ovB rows ps n cs ds = false) → Q .non H') ∧ (∀ H' d ds, Same H H' → dss.find? (ovB rows ps n cs) = some ds → ds ∈ dss → ovB rows ps n cs ds = true → H' d = some (.tup (natsV ds)) → Q (.ref d) H')
theorem ok_over {f fN fU fV fTu fA fEr fO fSz fWm fWi fCs fCn fFu fCo fSp fCa fR fSt fAu fIp fI fFc fLo fSo fOv fDw fSv fSm : Addr} {fd dN dU dV dTu dA dEr dO dSz dWm dWi dCs dCn dFu dCo dSp dCa dR dSt dAu dIp dI dFc dLo dSo dOv dDw dSv dSm : FuncData} {k : Nat} (F : Fun K "overfull" "overfull" sOver f fd) (T : Tx K mg fN fU fV fTu fA fEr fO fSz fWm fWi fCs fCn fFu fCo fSp fCa fR fSt fAu fIp fI fFc fLo fSo fOv fDw fSv fSm dN dU dV dTu dA dEr dO dSz dWm dWi dCs dCn dFu dCo dSp dCa dR dSt dAu dIp dI dFc dLo dSo dOv dDw dSv dSm) :
    FnOk P w K mg base CX0 (k + 2) f fd ["loads", "caps"] spOver := by
  have GR : FnOk P w K mg base CX0 (k + 1) fR dR ["totals", "caps"] spRoomOf := ok_roomof T.R T
  refine F.ok scOver (fun vs H Q E h => ?_) (fun cdv A outer s H vs Q E hr h => ?_)
  · obtain ⟨L, b, as, rows, ps, n, dss, cs, rfl, _⟩ := h
    rfl
  · obtain ⟨L, b, as, rows, ps, n, dss, cs, rfl, hL, la, hb, hcl, hn, q1, q2⟩ := h
    refine ⟨_, (pss_cons (ps_for PassesOwn.never rfl (pi_list (pv 0)) (pg_tup rfl (pgs_cons (pg_name (i := 2) scOver.nd rfl (Or.inl rfl)) (pgs_cons (pg_name (i := 3) scOver.nd rfl (Or.inl rfl)) (pgs_cons (pg_name (i := 4) scOver.nd rfl (Or.inl rfl)) pgs_nil)))) (pss_one (ps_if (pt_cmpR op_gt (pv 3) (pe_call GR (hr.mono (by omega)) (by rfl) T.gR T.R.kp T.bR .nil pass0 (pa_cons (pv 4) (pa_cons (pv 1) pa_nil))) (nomark _)) (pss_one (ps_ret (pv 2))) pss_nil)))
      (pss_one (ps_ret pe_non))), ?_⟩
    refine ⟨.ref L, rfl, L, rfl, ⟨_, SqL.of hL⟩, ?_⟩
    refine for_it (walk_list (xs := as.map V.ref)) (fun i σ H' => ∃ y2 y3 y4 : Option V, σ = [some (.ref L), some (.ref b), y2, y3, y4] ∧ Same H H' ∧ ∀ ds ∈ dss.take i, ovB rows ps n cs ds = false)
      ⟨_, _, _, rfl, Same.refl _, fun ds h => by simp at h⟩ (fun i σ H' _ h => by obtain ⟨_, _, _, _, sm, _⟩ := h; exact SqL.of (sm _ _ hL)) (fun i x σ H' H2 hi h y => ?_) (fun σ H' h => ?_)
    · obtain ⟨y2, y3, y4, rfl, sm, hno⟩ := h
      obtain ⟨rfl, hx⟩ := y
      obtain ⟨a, ha, rfl⟩ := get_map hx
      rw [List.length_map] at hi
      have hid : i < dss.length := by rw [← la.len]; exact hi
      have hdi : dss[i]? = some dss[i] := List.getElem?_eq_getElem hid
      have hmem := List.getElem_mem hid
      generalize he : dss[i] = dd at hdi hmem
      obtain ⟨d, tt, h1, h2, h3⟩ := la.at_ i a dd ha hdi
      refine ⟨a, [.ref d, .int (takenOf ps dd), .ref tt], rfl, .inl (.inl (sm _ _ h1)), rfl, .ref d, [.int (takenOf ps dd), .ref tt], rfl, .int (takenOf ps dd), [.ref tt], rfl, .ref tt, [], rfl, rfl, ?_⟩
      have htl : (totL rows n dd).length ≤ n := by
        unfold totL
        rw [tot_len]
        split <;> omega
      refine ⟨_, rfl, _, rfl, _, rfl, tt, b, totL rows n dd, cs, rfl, sm _ _ h3, sm _ _ hb, by omega, by omega, fun H3 s3 => ?_⟩
      refine ⟨_, _, rfl, rfl, _, rfl, ite2 (fun e => ?_) (fun e => ?_)⟩
      · exact ⟨_, rfl, q2 _ d dd (sm.trans s3) (find_at hdi hno e) hmem e (s3 _ _ (sm _ _ h2))⟩
      · refine ⟨_, _, _, rfl, sm.trans s3, fun ds hds => ?_⟩
        rw [List.take_add_one, hdi] at hds
        rcases List.mem_append.mp hds with h | h
        · exact hno ds h
        · have : ds = dd := by simpa using h
          rw [this]
          exact Bool.eq_false_iff.mpr e
    · obtain ⟨y2, y3, y4, rfl, sm, hno⟩ := h
      rw [List.length_map, la.len, List.take_length] at hno
      exact q1 _ sm hno
end
end DD
namespace DD
open PySem PySem.Spec PyProof.Rows L2 RZ DM
section
variable {P : Program} {w : World} {K : PySem.W.Frag} {mg : Str → Option Value} {base : Heap}
def spRoomL : Sp := fun vs H Q _ => ∃ (a b : Addr) (ts : List Int) (cs : List (Option Int)), vs = [.ref a, .ref b] ∧ H a = some (.tup (ts.map V.int)) ∧ H b = some (.lst (cs.map optI)) ∧ ts.length ≤ cs.length ∧ ts.length ≤ 100 ∧
  ∀ H', Same H H' → Q (.int (List.zipWith capv ts cs).sum) H'
theorem ok_rooml {f fN fU fV fTu fA fEr fO fSz fWm fWi fCs fCn fFu fCo fSp fCa fR fSt fAu fIp fI fFc fLo fSo fOv fDw fSv fSm : Addr} {fd dN dU dV dTu dA dEr dO dSz dWm dWi dCs dCn dFu dCo dSp dCa dR dSt dAu dIp dI dFc dLo dSo dOv dDw dSv dSm : FuncData} {k : Nat} (F : Fun K "room_of" "room_of" sRoomOf f fd) (T : Tx K mg fN fU fV fTu fA fEr fO fSz fWm fWi fCs fCn fFu fCo fSp fCa fR fSt fAu fIp fI fFc fLo fSo fOv fDw fSv fSm dN dU dV dTu dA dEr dO dSz dWm dWi dCs dCn dFu dCo dSp dCa dR dSt dAu dIp dI dFc dLo dSo dOv dDw dSv dSm) :
    FnOk P w K mg base CX0 (k + 1) f fd ["totals", "caps"] spRoomL := by
  refine F.ok scRoomOf (fun vs H Q E h => ?_) (fun cdv A outer s H vs Q E hr h => ?_)
  · obtain ⟨a, b, ts, cs, rfl, _⟩ := h
    rfl
  · obtain ⟨a, b, ts, cs, rfl, ha, hb, hl, h100, q⟩ := h
    refine ⟨_, (pss_one (ps_ret (pe_callB (show CallR _ _ (rSum K) from cr_sum rfl) (by rfl) T.m_sum (by decide +kernel) (pa_cons (pe_lc (own := [("total", 2), ("cap", 3)]) (g := gTup K 2 (gCons (gName 2) (gCons (gName 3) gNil))) rfl scRoomOf.nd (pi_zipM (by rfl) T.m_zip (pa_cons (pv 0) (pa_cons (pv 1) pa_nil))) (blkOk_by (own := [("total", 2), ("cap", 3)]) (N := ["totals", "caps", "total", "cap"]) (sc := defScope sRoomOf) (by decide +kernel)) (fun _ _ _ _ _ => (pg_tup rfl (pgs_cons (pg_name (i := 2) scRoomOf.nd rfl (Or.inl rfl)) (pgs_cons (pg_name (i := 3) scRoomOf.nd rfl (Or.inl rfl)) pgs_nil)))) (fun _ _ _ _ _ => pts_nil) (fun _ _ _ _ _ => (pe_ifExp (pt_cmpR op_isN (pv 3) pe_non (nomark _)) (pv 2) (pe_callB (call_min2 rfl) (by rfl) T.m_min (by decide +kernel) (pa_cons (pv 2) (pa_cons (pv 3) pa_nil)))))) pa_nil)))), ?_⟩
    refine ⟨.ref a, rfl, .ref b, rfl, kd2 a true false, [a, b], [ts.map V.int, cs.map optI], (ts.map V.int).length, rfl, by simp, by simp, fun r e => by cases e; rfl, rwm2 (SqT.of ha) (SqL.of hb) (by rw [List.length_map, List.length_map]; exact hl) (fun e => by rw [e, hb] at ha; cases ha), fun D nD => ?_⟩
    refine lc_it walk_zm (fun i H' => H' D = some (.lst (((List.zipWith capv ts cs).take i).map V.int)) ∧ Same H H') ⟨upd_same, same_new nD⟩
      (fun i H' _ h => rwm2 (b1 := true) (b2 := false) (SqT.of (h.2 _ _ ha)) (SqL.of (h.2 _ _ hb)) (by rw [List.length_map, List.length_map]; exact hl) (fun e => by rw [e, hb] at ha; cases ha)) (fun i x H' H1 hi h y => ?_) (fun H' h => ?_)
    · obtain ⟨hD, sm⟩ := h
      obtain ⟨T1, rfl, nT, rfl⟩ := y
      rw [List.length_map] at hi
      have ht : ts[i]? = some ts[i] := List.getElem?_eq_getElem hi
      have ho : cs[i]? = some (cs[i]'(by omega)) := List.getElem?_eq_getElem (by omega)
      generalize ts[i] = t at ht
      generalize cs[i]'(by omega) = o at ho
      rw [col2 (x := V.int t) (y := optI o) (by rw [List.getElem?_map, ht]; rfl) (by rw [List.getElem?_map, ho]; rfl)]
      have sT : Same H' (upd H' T1 (.tup [.int t, optI o])) := same_new nT
      have hz := zw_get ht ho
      have fin : ∃ acc, (upd H' T1 (.tup [.int t, optI o])) D = some (.lst acc) ∧ acc.length < sizeLine ∧
          ((upd (upd H' T1 (.tup [.int t, optI o])) D (.lst (acc ++ [V.int (capv t o)]))) D = some (.lst (((List.zipWith capv ts cs).take (i + 1)).map V.int)) ∧ Same H (upd (upd H' T1 (.tup [.int t, optI o])) D (.lst (acc ++ [V.int (capv t o)])))) := by
        refine ⟨_, sT _ _ hD, ?_, ?_, fun b' o' e => ?_⟩
        · rw [List.length_map, List.length_take, List.length_zipWith]
          exact len_lt (by omega)
        · rw [upd_same, take_succ_map hz]
        · rw [upd_ne (ne_of_none e nD)]
          exact sT _ _ (sm b' o' e)
      refine ⟨T1, [.int t, optI o], rfl, .inl (.inl upd_same), rfl, .int t, [optI o], rfl, optI o, [], rfl, rfl, rfl, ?_⟩
      cases o with
      | none => exact ⟨_, rfl, rfl, _, rfl, iteT ⟨_, rfl, fin⟩⟩
      | some c => exact ⟨_, rfl, rfl, _, rfl, iteNx rfl ⟨_, rfl, _, rfl, t, c, rfl, fin⟩⟩
    · obtain ⟨hD, sm⟩ := h
      rw [List.length_map, List.take_of_length_le (by rw [List.length_zipWith]; omega)] at hD
      exact ⟨D, _, rfl, SqL.of hD, q _ sm⟩
/-- what a set of drawers leaves for a kind that is given elsewhere -/
def spareAt (rows : List (List Int)) (ps : List Int) (n : Nat) (left : List Int) (kind : Nat) (ds : List Nat) : Int := (List.zipWith capv (totL rows n ds) ((left.set kind 0).map some)).sum - takenOf ps ds
def IsSpare (rows : List (List Int)) (ps : List Int) (n : Nat) (left : List Int) (kind : Nat) (dss : List (List Nat)) (v : Int) : Prop :=
  ∃ m, m ∈ dss.map (spareAt rows ps n left kind) ∧ (∀ y ∈ dss.map (spareAt rows ps n left kind), m ≤ y) ∧ v = left.getD kind 0 + m
abbrev NSv : List Str := ["loads", "caps", "kind", "without", "_", "taken", "totals"]
theorem scSpare : FnScope NSv ["loads", "caps", "kind"] (defScope sSpare) := ⟨rfl, rfl, rfl, by decide +kernel, rfl, by decide +kernel, by decide +kernel⟩
def spSpare : Sp := fun vs H Q _ => ∃ (L c : Addr) (kind : Nat) (as : List Addr) (rows : List (List Int)) (ps : List Int) (n : Nat) (dss : List (List Nat)) (left : List Int), vs = [.ref L, .ref c, .int kind] ∧ H L = some (.lst (as.map V.ref)) ∧ LoadsAt H rows ps n as dss ∧
  H c = some (.lst (left.map V.int)) ∧ left.length = n ∧ kind < n ∧ n ≤ 100 ∧ dss ≠ [] ∧ dss.length ≤ 16 ∧
  ∀ H' v, Same H H' → IsSpare rows ps n left kind dss v → Q (.int v) H'
theorem optI_some (l : List Int) : (l.map some).map optI = l.map V.int := by
  rw [List.map_map]
  rfl
theorem ok_spare {f fN fU fV fTu fA fEr fO fSz fWm fWi fCs fCn fFu fCo fSp fCa fR fSt fAu fIp fI fFc fLo fSo fOv fDw fSv fSm : Addr} {fd dN dU dV dTu dA dEr dO dSz dWm dWi dCs dCn dFu dCo dSp dCa dR dSt dAu dIp dI dFc dLo dSo dOv dDw dSv dSm : FuncData} {k : Nat} (F : Fun K "spare_of" "spare_of" sSpare f fd) (T : Tx K mg fN fU fV fTu fA fEr fO fSz fWm fWi fCs fCn fFu fCo fSp fCa fR fSt fAu fIp fI fFc fLo fSo fOv fDw fSv fSm dN dU dV dTu dA dEr dO dSz dWm dWi dCs dCn dFu dCo dSp dCa dR dSt dAu dIp dI dFc dLo dSo dOv dDw dSv dSm) :
    FnOk P w K mg base CX0 (k + 2) f fd ["loads", "caps", "kind"] spSpare := by
  have GR : FnOk P w K mg base CX0 (k + 1) fR dR ["totals", "caps"] spRoomL := ok_rooml T.R T
  refine F.ok scSpare (fun vs H Q E h => ?_) (fun cdv A outer s H vs Q E hr h => ?_)
  · obtain ⟨L, c, kind, as, rows, ps, n, dss, left, rfl, _⟩ := h
    rfl
  · obtain ⟨L, c, kind, as, rows, ps, n, dss, left, rfl, hL, la, hc, hcl, hk, hn, hne, h16, q⟩ := h
    refine ⟨_, (pss_cons (ps_set (i := 3) scSpare.nd rfl (.inr rfl) (pe_callTy call_list_of (by rfl) T.m_list (by decide +kernel) (pa_cons (pv 1) pa_nil)))
      (pss_cons (ps_asg pe_int (pg_sub (pv 3) (pv 2) set_list))
      (pss_one (ps_ret (pe_op op_add (pe_ix (show IxR _ (rIxL K) from ix_list) (pv 1) (pv 2) (fun _ _ => rfl)) (pe_callB (show CallR _ _ (rMin K) from cr_min rfl) (by rfl) T.m_min (by decide +kernel) (pa_cons (pe_lc (own := [("_", 4), ("taken", 5), ("totals", 6)]) (g := gTup K 3 (gCons (gName 4) (gCons (gName 5) (gCons (gName 6) gNil)))) rfl scSpare.nd (pi_list (pv 0)) (blkOk_by (own := [("_", 4), ("taken", 5), ("totals", 6)]) (N := NSv) (sc := defScope sSpare) (by decide +kernel)) (fun _ _ _ _ _ => (pg_tup rfl (pgs_cons (pg_name (i := 4) scSpare.nd rfl (Or.inl rfl)) (pgs_cons (pg_name (i := 5) scSpare.nd rfl (Or.inl rfl)) (pgs_cons (pg_name (i := 6) scSpare.nd rfl (Or.inl rfl)) pgs_nil))))) (fun _ _ _ _ _ => pts_nil) (fun _ _ _ _ _ => (pe_op op_sub (pe_call GR (hr.mono (by omega)) (by rfl) T.gR T.R.kp T.bR .nil pass0 (pa_cons (pv 6) (pa_cons (pv 3) pa_nil))) (pv 5)))) pa_nil))))))), ?_⟩
    refine ⟨_, rfl, c, left.map V.int, rfl, .inl (SqL.of hc), fun W nW => ?_⟩
    have s0 : Same H (upd H W (.lst (left.map V.int))) := same_new nW
    have hcW : c ≠ W := fun z => by rw [z, nW] at hc; cases hc
    have hix : ixN (left.map V.int).length ((kind : Nat) : Int) = some kind := by
      unfold ixN
      rw [if_pos (by omega), if_pos (by rw [List.length_map]; omega)]
      simp
    refine ⟨_, rfl, _, rfl, W, _, (kind : Int), kind, rfl, rfl, upd_same, hix, ?_⟩
    have s1 : Same H (upd (upd H W (.lst (left.map V.int))) W (.lst ((left.map V.int).set kind (.int 0)))) := fun b o e => by
      rw [upd_ne (ne_of_none e nW), upd_ne (ne_of_none e nW)]
      exact e
    have hW : (upd (upd H W (.lst (left.map V.int))) W (.lst ((left.map V.int).set kind (.int 0)))) W = some (.lst (((left.set kind 0).map some).map optI)) := by
      rw [upd_same, optI_some, List.map_set]
    generalize upd (upd H W (.lst (left.map V.int))) W (.lst ((left.map V.int).set kind (.int 0))) = H1 at s1 hW ⊢
    have gk : (left.map V.int)[kind]? = some (.int (left.getD kind 0)) := by
      rw [List.getElem?_map, getD_of (d := 0) (by omega)]
      rfl
    refine ⟨.ref c, rfl, _, rfl, c, _, (kind : Int), .int (left.getD kind 0), rfl, rfl, SqL.of (s1 _ _ hc), atI_nat gk, ?_⟩
    refine ⟨.ref L, rfl, L, rfl, ⟨_, SqL.of (s1 _ _ hL)⟩, fun D nD => ?_⟩
    refine lc_it (walk_list (xs := as.map V.ref)) (fun i H' => H' D = some (.lst (((dss.map (spareAt rows ps n left kind)).take i).map V.int)) ∧ Same H1 H') ⟨upd_same, same_new nD⟩
      (fun i H' _ h => SqL.of (h.2 _ _ (s1 _ _ hL))) (fun i x H' H2 hi h y => ?_) (fun H' h => ?_)
    · obtain ⟨hD, sm⟩ := h
      obtain ⟨rfl, hx⟩ := y
      obtain ⟨a, ha, rfl⟩ := get_map hx
      rw [List.length_map] at hi
      have hid : i < dss.length := by rw [← la.len]; exact hi
      have hdi : dss[i]? = some dss[i] := List.getElem?_eq_getElem hid
      generalize dss[i] = dd at hdi
      obtain ⟨d, tt, h1, h2, h3⟩ := la.at_ i a dd ha hdi
      have s2 := s1.trans sm
      have htl : (totL rows n dd).length ≤ n := by
        unfold totL
        rw [tot_len]
        split <;> omega
      refine ⟨a, [.ref d, .int (takenOf ps dd), .ref tt], rfl, .inl (.inl (s2 _ _ h1)), rfl, .ref d, [.int (takenOf ps dd), .ref tt], rfl, .int (takenOf ps dd), [.ref tt], rfl, .ref tt, [], rfl, rfl, rfl, ?_⟩
      refine ⟨_, rfl, _, rfl, tt, W, totL rows n dd, (left.set kind 0).map some, rfl, s2 _ _ h3, sm _ _ hW, by rw [List.length_map, List.length_set]; omega, by omega, fun H3 s3 => ?_⟩
      refine ⟨_, rfl, _, _, rfl, rfl, _, s3 _ _ hD, ?_, ?_, fun b' o' e => ?_⟩
      · rw [List.length_map, List.length_take, List.length_map]
        exact len_lt (by omega)
      · rw [upd_same, take_succ_map (by rw [List.getElem?_map, hdi]; rfl)]
        rfl
      · rw [upd_ne (ne_of_none e nD)]
        exact s3 _ _ (sm b' o' e)
    · obtain ⟨hD, sm⟩ := h
      rw [List.length_map, la.len, List.take_of_length_le (by rw [List.length_map]; exact Nat.le_refl _)] at hD
      refine ⟨_, _, rfl, SqL.of hD, ?_, fun m hm hmin => ?_⟩
      · rw [List.length_map]
        exact List.length_pos_iff.mpr hne
      · exact ⟨_, _, rfl, rfl, q _ _ (s1.trans sm) ⟨m, hm, hmin, rfl⟩⟩
end
end DD
namespace DD
open PySem PySem.Spec PyProof.Rows L2 RZ DM
def spareV (rows : List (List Int)) (ps : List Int) (n : Nat) (left : List Int) (kind : Nat) (dss : List (List Nat)) : Int := left.getD kind 0 + ((dss.map (spareAt rows ps n left kind)).min?).getD 0
theorem IsSpare.eq {rows : List (List Int)} {ps : List Int} {n : Nat} {left : List Int} {kind : Nat} {dss : List (List Nat)} {v : Int} (h : IsSpare rows ps n left kind dss v) : v = spareV rows ps n left kind dss := by
  obtain ⟨m, hm, hle, rfl⟩ := h
  have : (dss.map (spareAt rows ps n left kind)).min? = some m := List.min?_eq_some_iff.mpr ⟨hm, hle⟩
  unfold spareV
  rw [this]
  rfl
/-- the state after j kinds of a drawer: counts, what is left of the caps, the number that is still wanted -/
def gSt (rows : List (List Int)) (ps : List Int) (n : Nat) (dss : List (List Nat)) (dr left0 : List Int) (num0 : Int) : Nat → List Int × List Int × Int
  | 0 => ([], left0, num0)
  | j + 1 =>
    let s := gSt rows ps n dss dr left0 num0 j
    let c := min (min s.2.2 (dr.getD j 0)) (spareV rows ps n s.2.1 j dss)
    (s.1 ++ [c], s.2.1.set j (s.2.1.getD j 0 - c), s.2.2 - c)
/-- the state after p drawers -/
def wSt (rows : List (List Int)) (ps : List Int) (n : Nat) (left0 : List Int) : Nat → List (List Int) × List Int
  | 0 => ([], left0)
  | p + 1 =>
    let s := wSt rows ps n left0 p
    let r := gSt (rows.drop (p + 1)) (ps.drop (p + 1)) n (pSets (rows.length - (p + 1))) (rows.getD p []) s.2 (ps.getD p 0) n
    (s.1 ++ [r.1], r.2.1)
def capl (t : Int) : Option Int → Int
  | none => t
  | some c => c
def left0 (rows : List (List Int)) (n : Nat) (cs : List (Option Int)) : List Int := List.zipWith capl (totalsOf rows n) cs
def drawOf (rows : List (List Int)) (ps : List Int) (n : Nat) (cs : List (Option Int)) : List (List Int) := (wSt rows ps n (left0 rows n cs) rows.length).1
theorem gSt_succ (rows : List (List Int)) (ps : List Int) (n : Nat) (dss : List (List Nat)) (dr l0 : List Int) (num0 : Int) (j : Nat) : gSt rows ps n dss dr l0 num0 (j + 1) =
    ((gSt rows ps n dss dr l0 num0 j).1 ++ [min (min (gSt rows ps n dss dr l0 num0 j).2.2 (dr.getD j 0)) (spareV rows ps n (gSt rows ps n dss dr l0 num0 j).2.1 j dss)], (gSt rows ps n dss dr l0 num0 j).2.1.set j ((gSt rows ps n dss dr l0 num0 j).2.1.getD j 0 - min (min (gSt rows ps n dss dr l0 num0 j).2.2 (dr.getD j 0)) (spareV rows ps n (gSt rows ps n dss dr l0 num0 j).2.1 j dss)), (gSt rows ps n dss dr l0 num0 j).2.2 - min (min (gSt rows ps n dss dr l0 num0 j).2.2 (dr.getD j 0)) (spareV rows ps n (gSt rows ps n dss dr l0 num0 j).2.1 j dss)) := rfl
theorem gSt_len (rows : List (List Int)) (ps : List Int) (n : Nat) (dss : List (List Nat)) (dr l0 : List Int) (num0 : Int) : ∀ j, (gSt rows ps n dss dr l0 num0 j).1.length = j ∧ (gSt rows ps n dss dr l0 num0 j).2.1.length = l0.length
  | 0 => ⟨rfl, rfl⟩
  | j + 1 => by
    obtain ⟨h1, h2⟩ := gSt_len rows ps n dss dr l0 num0 j
    constructor
    · show (_ ++ [_]).length = _
      rw [List.length_append, h1]
      rfl
    · show (List.set _ _ _).length = _
      rw [List.length_set, h2]
theorem wSt_len (rows : List (List Int)) (ps : List Int) (n : Nat) (l0 : List Int) : ∀ p, (wSt rows ps n l0 p).1.length = p ∧ (wSt rows ps n l0 p).2.length = l0.length
  | 0 => ⟨rfl, rfl⟩
  | p + 1 => by
    obtain ⟨h1, h2⟩ := wSt_len rows ps n l0 p
    constructor
    · show (_ ++ [_]).length = _
      rw [List.length_append, h1]
      rfl
    · show (gSt _ _ _ _ _ _ _ _).2.1.length = _
      rw [(gSt_len _ _ _ _ _ _ _ _).2, h2]
theorem min3_int (a b c : Int) : nuMin3 (.int a) (.int b) (.int c) = some (.int (min (min a b) c)) := by
  show (Option.map (fun c => if c = true then V.int b else V.int a) (some (decide (b < a)))).bind (fun m => nuMin2 m (.int c)) = _
  have e : (if decide (b < a) = true then V.int b else V.int a) = V.int (min a b) := by
    by_cases h : b < a
    · rw [if_pos (decide_eq_true h), Int.min_def, if_neg (by omega)]
    · rw [if_neg (by rw [decide_eq_true_eq]; exact h), Int.min_def, if_pos (by omega)]
  show nuMin2 (if decide (b < a) = true then V.int b else V.int a) (.int c) = _
  rw [e]
  show some (if decide (c < min a b) = true then V.int c else V.int (min a b)) = _
  congr 1
  by_cases h : c < min a b
  · rw [if_pos (decide_eq_true h), Int.min_def (min a b) c, if_neg (by omega)]
  · rw [if_neg (by rw [decide_eq_true_eq]; exact h), Int.min_def (min a b) c, if_pos (by omega)]
theorem zl_get {ts : List Int} {cs : List (Option Int)} {i : Nat} {t : Int} {o : Option Int} (h1 : ts[i]? = some t) (h2 : cs[i]? = some o) : (List.zipWith capl ts cs)[i]? = some (capl t o) := by
  rw [List.getElem?_zipWith, h1, h2]
theorem ixN_nat {m kd : Nat} (h : kd < m) : ixN m (kd : Int) = some kd := by
  unfold ixN
  rw [if_pos (by omega), if_pos (by omega)]
  simp
theorem ps_ne (m : Nat) : pSets m ≠ [] := fun h => by
  have := ps_len m
  rw [h] at this
  have : 0 < 2 ^ m := Nat.pow_pos (by decide)
  simp at *
  omega
abbrev NDw : List Str := ["stock", "caps", "plan", "left", "draw", "place", "drawer", "later", "number", "counts", "kind", "things", "count", "total", "cap"]
theorem scWithin : FnScope NDw ["stock", "caps", "plan"] (defScope sWithin) := ⟨rfl, rfl, rfl, by decide +kernel, rfl, by decide +kernel, by decide +kernel⟩
section
variable {P : Program} {w : World} {K : PySem.W.Frag} {mg : Str → Option Value} {base : Heap}
def spWithin : Sp := fun vs H Q _ => ∃ (t b p : Addr) (ls : List Addr) (rows : List (List Int)) (ps : List Int) (n : Nat) (cs : List (Option Int)), vs = [.ref t, .ref b, .ref p] ∧ StockAt H t ls rows ∧ 1 ≤ rows.length ∧ rows.length ≤ 4 ∧ (∀ r ∈ rows, r.length = n) ∧ n ≤ 100 ∧
  H b = some (.tup (cs.map optI)) ∧ cs.length = n ∧ H p = some (.tup (ps.map V.int)) ∧ ps.length = rows.length ∧
  ∀ D ds H', Same H H' → StockAt H' D ds (drawOf rows ps n cs) → Q (.ref D) H'
set_option maxHeartbeats 1600000 in
theorem ok_within {f fN fU fV fTu fA fEr fO fSz fWm fWi fCs fCn fFu fCo fSp fCa fR fSt fAu fIp fI fFc fLo fSo fOv fDw fSv fSm : Addr} {fd dN dU dV dTu dA dEr dO dSz dWm dWi dCs dCn dFu dCo dSp dCa dR dSt dAu dIp dI dFc dLo dSo dOv dDw dSv dSm : FuncData} {k : Nat} (F : Fun K "draw_within" "draw_within" sWithin f fd) (T : Tx K mg fN fU fV fTu fA fEr fO fSz fWm fWi fCs fCn fFu fCo fSp fCa fR fSt fAu fIp fI fFc fLo fSo fOv fDw fSv fSm dN dU dV dTu dA dEr dO dSz dWm dWi dCs dCn dFu dCo dSp dCa dR dSt dAu dIp dI dFc dLo dSo dOv dDw dSv dSm) :
    FnOk P w K mg base CX0 (k + 3) f fd ["stock", "caps", "plan"] spWithin := by
  have GO : FnOk P w K mg base CX0 (k + 1) fO dO ["stock"] (spTotals K) := ok_totals T.O T.m_tuple T.m_sum T.m_zip
  have GLo : FnOk P w K mg base CX0 (k + 2) fLo dLo ["stock", "plan"] spLoads := ok_loads T.Lo T
  have GSv : FnOk P w K mg base CX0 (k + 2) fSv dSv ["loads", "caps", "kind"] spSpare := ok_spare T.Sv T
  refine F.ok scWithin (fun vs H Q E h => ?_) (fun cdv A outer s H vs Q E hr h => ?_)
  · obtain ⟨t, b, p, ls, rows, ps, n, cs, rfl, _⟩ := h
    rfl
  · obtain ⟨t, b, p, ls, rows, ps, n, cs, rfl, st, hr1, hr4, hrn, hn, hb, hcl, hp, hpl, q⟩ := h
    refine ⟨_, (pss_cons (ps_setLc (i := 3) (own := [("total", 13), ("cap", 14)]) (g := gTup K 2 (gCons (gName 13) (gCons (gName 14) gNil))) rfl scWithin.nd rfl rfl (sw_true rfl rfl rfl (by decide +kernel)) (pi_zipA (by rfl) T.m_zip (pa_cons (pe_call GO (hr.mono (by omega)) (by rfl) T.gO T.O.kp T.bO .nil pass0 (pa_cons (pv 0) pa_nil)) (pa_cons (pv 1) pa_nil))) (blkOk_by (own := [("total", 13), ("cap", 14)]) (N := NDw) (sc := defScope sWithin) (by decide +kernel)) (fun _ _ _ _ _ => (pg_tup rfl (pgs_cons (pg_name (i := 13) scWithin.nd rfl (Or.inl rfl)) (pgs_cons (pg_name (i := 14) scWithin.nd rfl (Or.inl rfl)) pgs_nil)))) (fun _ _ _ _ _ => pts_nil) (fun _ _ _ _ _ => (pe_ifExp (pt_cmpR op_isN (pv 14) pe_non (nomark _)) (pv 13) (pv 14))))
      (pss_cons (ps_set (i := 4) scWithin.nd rfl (.inl rfl) (pe_lst pa_nil))
      (pss_cons (ps_for PassesOwn.never rfl (pi_enumT (by rfl) T.m_enumerate (pa_cons (pv 0) pa_nil)) (pg_tup rfl (pgs_cons (pg_name (i := 5) scWithin.nd rfl (Or.inl rfl)) (pgs_cons (pg_name (i := 6) scWithin.nd rfl (Or.inl rfl)) pgs_nil))) (pss_cons (ps_set (i := 7) scWithin.nd rfl (.inl rfl) (pe_call GLo (hr.mono (by omega)) (by rfl) T.gLo T.Lo.kp T.bLo .nil pass0 (pa_cons (pe_slice sl_tupQ (pv 0) (po_some (pe_op op_add (pv 5) pe_int)) po_none) (pa_cons (pe_slice sl_tupQ (pv 2) (po_some (pe_op op_add (pv 5) pe_int)) po_none) pa_nil))))
      (pss_cons (ps_set (i := 8) scWithin.nd rfl (.inl rfl) (pe_ix (show IxR _ (rIxT K) from ix_tup) (pv 2) (pv 5) (fun _ _ => rfl)))
      (pss_cons (ps_set (i := 9) scWithin.nd rfl (.inl rfl) (pe_lst pa_nil))
      (pss_cons (ps_for PassesOwn.never rfl (pi_enumT (by rfl) T.m_enumerate (pa_cons (pv 6) pa_nil)) (pg_tup rfl (pgs_cons (pg_name (i := 10) scWithin.nd rfl (Or.inl rfl)) (pgs_cons (pg_name (i := 11) scWithin.nd rfl (Or.inl rfl)) pgs_nil))) (pss_cons (ps_set (i := 12) scWithin.nd rfl (.inl rfl) (pe_callB (call_min3Nu rfl) (by rfl) T.m_min (by decide +kernel) (pa_cons (pv 8) (pa_cons (pv 11) (pa_cons (pe_call GSv (hr.mono (by omega)) (by rfl) T.gSv T.Sv.kp T.bSv .nil pass0 (pa_cons (pv 7) (pa_cons (pv 3) (pa_cons (pv 10) pa_nil)))) pa_nil)))))
      (pss_cons (ps_set (i := 8) scWithin.nd rfl (.inl rfl) (pe_op op_sub (pv 8) (pv 12)))
      (pss_cons (ps_asg (pe_op op_sub (pe_ix (show IxR _ (rIxL K) from ix_list) (pv 3) (pv 10) (fun _ _ => rfl)) (pv 12)) (pg_sub (pv 3) (pv 10) set_list))
      (pss_one (ps_expr (pe_bm PySem.F.plainAttrs_list PySem.F.slot_list_append PySem.F.type_list_append mt_append (pv 9) (pa_cons (pv 12) pa_nil))))))))
      (pss_one (ps_expr (pe_bm PySem.F.plainAttrs_list PySem.F.slot_list_append PySem.F.type_list_append mt_append (pv 4) (pa_cons (pe_callTy call_tuple_of (by rfl) T.m_tuple (by decide +kernel) (pa_cons (pv 9) pa_nil)) pa_nil)))))))))
      (pss_one (ps_ret (pe_callTy call_tuple_of (by rfl) T.m_tuple (by decide +kernel) (pa_cons (pv 4) pa_nil))))))), ?_⟩
    have hrne : rows ≠ [] := fun z => by rw [z] at hr1; simp at hr1
    refine ⟨_, rfl, t, ls, rows, n, rfl, .inl (SqT.of st.top), st.len, fun j l r e1 e2 => ⟨st.row j l r e1 e2, hrn r (List.mem_of_getElem? e2)⟩, fun z => absurd z hrne, hr4, hn, fun tt H1 s1 _ htt => ?_⟩
    have htl : (totalsOf rows n).length = n := by rw [tot_len]
    refine ⟨.ref b, rfl, tt, b, (totalsOf rows n).map V.int, cs.map optI, rfl, .inr ⟨SqT.of htt, SqT.of (s1 _ _ hb), fun L nL => ?_⟩⟩
    refine lc_it (walk_zipT (xs := (totalsOf rows n).map V.int) (ys := cs.map optI) (by rw [List.length_map, List.length_map]; omega)) (fun i H' => H' L = some (.lst (((left0 rows n cs).take i).map V.int)) ∧ Same H1 H') ⟨upd_same, same_new nL⟩
      (fun i H' _ h => ⟨SqT.of (h.2 _ _ htt), SqT.of (h.2 _ _ (s1 _ _ hb))⟩) (fun i x H' H2 hi h y => ?_) (fun H2 h => ?_)
    · obtain ⟨hD, sm⟩ := h
      obtain ⟨T1, x1, x2, rfl, nT, rfl, e1, e2⟩ := y
      obtain ⟨t', ht, rfl⟩ := get_map e1
      obtain ⟨o, ho, rfl⟩ := get_map e2
      have sT : Same H' (upd H' T1 (.tup [.int t', optI o])) := same_new nT
      have hz : (left0 rows n cs)[i]? = some (capl t' o) := zl_get ht ho
      have fin : ∃ acc, (upd H' T1 (.tup [.int t', optI o])) L = some (.lst acc) ∧ acc.length < sizeLine ∧
          ((upd (upd H' T1 (.tup [.int t', optI o])) L (.lst (acc ++ [V.int (capl t' o)]))) L = some (.lst (((left0 rows n cs).take (i + 1)).map V.int)) ∧ Same H1 (upd (upd H' T1 (.tup [.int t', optI o])) L (.lst (acc ++ [V.int (capl t' o)])))) := by
        refine ⟨_, sT _ _ hD, ?_, ?_, fun b' o' e => ?_⟩
        · rw [List.length_map, List.length_take]
          unfold left0
          rw [List.length_zipWith]
          exact len_lt (by omega)
        · rw [upd_same, take_succ_map hz]
        · rw [upd_ne (ne_of_none e nL)]
          exact sT _ _ (sm b' o' e)
      refine ⟨T1, [.int t', optI o], rfl, .inl (.inl upd_same), rfl, .int t', [optI o], rfl, optI o, [], rfl, rfl, rfl, ?_⟩
      cases o with
      | none => exact ⟨_, rfl, rfl, _, rfl, iteT ⟨_, rfl, fin⟩⟩
      | some c => exact ⟨_, rfl, rfl, _, rfl, iteNx rfl ⟨_, rfl, fin⟩⟩
    obtain ⟨hL, s12⟩ := h
    have hll : (left0 rows n cs).length = n := by
      unfold left0
      rw [List.length_zipWith]
      omega
    rw [List.length_map, htl, List.take_of_length_le (by omega)] at hL
    have s2 := s1.trans s12
    have nHL : H L = none := s1.free nL
    have hq : drawOf rows ps n cs = (wSt rows ps n (left0 rows n cs) rows.length).1 := rfl
    rw [hq] at q
    generalize left0 rows n cs = L0 at hL hll q
    refine ⟨Nat.zero_le _, fun D nD => ?_⟩
    have hLD : L ≠ D := fun z => by rw [z, nD] at hL; cases hL
    have s3 := s2.trans (same_new (o := .lst []) nD)
    have nHD : H D = none := s2.free nD
    have hL3 : (upd H2 D (.lst [])) L = some (.lst (L0.map V.int)) := by
      rw [upd_ne hLD]
      exact hL
    have hD3 : (upd H2 D (.lst [])) D = some (.lst (([] : List Addr).map V.ref)) := upd_same
    generalize upd H2 D (.lst []) = H3 at s3 hL3 hD3 ⊢
    refine ⟨_, rfl, t, ls.map V.ref, rfl, SqT.of (s3 _ _ st.top), ?_⟩
    refine for_enT (xs := ls.map V.ref) (c := 0) (fun i σ H' => ∃ (as : List Addr) (y5 y6 y7 y8 y9 y10 y11 y12 : Option V), σ = [some (.ref t), some (.ref b), some (.ref p), some (.ref L), some (.ref D), y5, y6, y7, y8, y9, y10, y11, y12, none, none] ∧ Same H H' ∧
        H' L = some (.lst ((wSt rows ps n L0 i).2.map V.int)) ∧ H' D = some (.lst (as.map V.ref)) ∧ as.length = i ∧ (∀ (j : Nat) (a : Addr) (r : List Int), as[j]? = some a → (wSt rows ps n L0 i).1[j]? = some r → H' a = some (.tup (r.map V.int))))
      ⟨[], _, _, _, _, _, _, _, _, rfl, s3, hL3, hD3, rfl, fun j a r e => by simp at e⟩
      (fun i σ H' _ h => by obtain ⟨_, _, _, _, _, _, _, _, _, _, sm, _⟩ := h; exact SqT.of (sm _ _ st.top)) (fun i x T4 σ H4 hx h nT => ?_) (fun σ H4 h => ?_)
    · obtain ⟨as, y5, y6, y7, y8, y9, y10, y11, y12, rfl, sm, hL4, hD4, hal, hat⟩ := h
      obtain ⟨l, hli, rfl⟩ := get_map hx
      have hil : i < rows.length := by
        have := (List.getElem?_eq_some_iff.mp hli).1
        have := st.len
        omega
      have hri : rows[i]? = some (rows.getD i []) := getD_of hil
      have hrl := st.row i l _ hli hri
      have hrln := hrn _ (List.mem_of_getElem? hri)
      have hps : (ps.map V.int)[i]? = some (.int (ps.getD i 0)) := by
        rw [List.getElem?_map, getD_of (d := 0) (by omega)]
        rfl
      have sT := same_new (o := .tup [.int ((0 : Int) + (i : Nat)), .ref l]) nT
      have sm5 := sm.trans sT
      have hTT : (upd H4 T4 (.tup [.int ((0 : Int) + (i : Nat)), .ref l])) T4 = some (.tup [.int ((0 : Int) + (i : Nat)), .ref l]) := upd_same
      have hL5 := sT _ _ hL4
      have hD5 := sT _ _ hD4
      have hat5 : ∀ (j : Nat) (a : Addr) (r : List Int), as[j]? = some a → (wSt rows ps n L0 i).1[j]? = some r → (upd H4 T4 (.tup [.int ((0 : Int) + (i : Nat)), .ref l])) a = some (.tup (r.map V.int)) := fun j a r e1 e2 => sT _ _ (hat j a r e1 e2)
      generalize upd H4 T4 (.tup [.int ((0 : Int) + (i : Nat)), .ref l]) = H5 at sT sm5 hTT hL5 hD5 hat5 ⊢
      refine ⟨T4, [.int ((0 : Int) + (i : Nat)), .ref l], rfl, .inl (.inl hTT), rfl, .int ((0 : Int) + (i : Nat)), [.ref l], rfl, .ref l, [], rfl, rfl, ?_⟩
      -- later
      have e1 : ((0 : Int) + (i : Nat)) + 1 = ((i + 1 : Nat) : Int) := by omega
      refine ⟨.ref t, rfl, _, rfl, _, _, rfl, rfl, _, rfl, t, ls.map V.ref, rfl, sm5 _ _ st.top, fun t2 H6 s6 ht2 => ?_⟩
      rw [e1, cutV_from, ← List.map_drop] at ht2
      refine ⟨.ref p, rfl, _, rfl, _, _, rfl, rfl, _, rfl, p, ps.map V.int, rfl, s6 _ _ (sm5 _ _ hp), fun p2 H7 s7 hp2 => ?_⟩
      rw [e1, cut_from] at hp2
      have s57 := s6.trans s7
      have sm7 := sm5.trans s57
      refine ⟨t2, p2, ls.drop (i + 1), rows.drop (i + 1), ps.drop (i + 1), n, rfl, ⟨s7 _ _ ht2, by rw [List.length_drop, List.length_drop, st.len], fun j l' r' x1 x2 => ?_⟩, by rw [List.length_drop]; omega, fun r' hr' => hrn r' (List.mem_of_mem_drop hr'), hn, hp2, by rw [List.length_drop, List.length_drop, hpl], fun Z zs H8 s8 hZ la => ?_⟩
      · rw [List.getElem?_drop] at x1 x2
        exact sm7 _ _ (st.row _ l' r' x1 x2)
      have s58 := s57.trans s8
      have sm8 := sm5.trans s58
      -- number, counts
      refine ⟨.ref p, rfl, _, rfl, p, _, ((0 : Int) + (i : Nat)), .int (ps.getD i 0), rfl, rfl, SqT.of (sm8 _ _ hp), by rw [Int.zero_add]; exact atI_nat hps, ?_⟩
      refine ⟨Nat.zero_le _, fun C nC => ?_⟩
      have s9 := same_new (o := .lst []) nC
      have hC9 : (upd H8 C (.lst [])) C = some (.lst (([] : List Int).map V.int)) := upd_same
      have hL9 := s9 _ _ (s58 _ _ hL5)
      have hZ9 := s9 _ _ hZ
      have la9 := la.tk fun b' xs e => s9 _ _ e
      have hLC : L ≠ C := fun z => by rw [z] at hL5; rw [s58 _ _ hL5] at nC; cases nC
      have hZC : Z ≠ C := fun z => by rw [z, nC] at hZ; cases hZ
      have zne : zs ≠ [] := fun z => by
        have := la.len
        rw [z] at this
        exact ps_ne _ (List.eq_nil_of_length_eq_zero this.symm)
      have hZL : Z ≠ L := fun z => by
        rw [z, s58 _ _ hL5] at hZ
        have e := HO.lst.inj (Option.some.inj hZ)
        cases zs with
        | nil => exact zne rfl
        | cons z1 zr =>
          have hlen : ((wSt rows ps n L0 i).2.map V.int).length = ((z1 :: zr).map V.ref).length := by rw [e]
          cases hd : (wSt rows ps n L0 i).2 with
          | nil => rw [hd] at hlen; simp at hlen
          | cons q1 q2 => rw [hd] at e; simp at e
      have sm9 := sm8.trans s9
      have hD9 := s9 _ _ (s58 _ _ hD5)
      have hDL : D ≠ L := fun z => hLD z.symm
      have hDC : D ≠ C := fun z => by rw [z] at hD5; rw [s58 _ _ hD5] at nC; cases nC
      have hat9 : ∀ (j : Nat) (a : Addr) (r : List Int), as[j]? = some a → (wSt rows ps n L0 i).1[j]? = some r → (upd H8 C (.lst [])) a = some (.tup (r.map V.int)) := fun j a r e1 e2 => s9 _ _ (s58 _ _ (hat5 j a r e1 e2))
      generalize upd H8 C (.lst []) = H9 at s9 hC9 hL9 hZ9 la9 sm9 hD9 hat9 ⊢
      have hdl : (pSets (rows.drop (i + 1)).length).length ≤ 16 := by
        rw [ps_len, List.length_drop]
        exact Nat.pow_le_pow_right (n := 2) (by decide) (show rows.length - (i + 1) ≤ 4 by omega)
      rw [List.length_drop] at la9 hdl
      have hl2 := (wSt_len rows ps n L0 i).2
      refine ⟨_, rfl, l, (rows.getD i []).map V.int, rfl, SqT.of (sm9 _ _ hrl), ?_⟩
      refine for_enT (xs := (rows.getD i []).map V.int) (c := 0) (fun j σ H' => ∃ y10 y11 y12 : Option V, σ = [some (.ref t), some (.ref b), some (.ref p), some (.ref L), some (.ref D), some (.int ((0 : Int) + (i : Nat))), some (.ref l), some (.ref Z), some (.int (gSt (rows.drop (i + 1)) (ps.drop (i + 1)) n (pSets (rows.length - (i + 1))) (rows.getD i []) (wSt rows ps n L0 i).2 (ps.getD i 0) j).2.2), some (.ref C), y10, y11, y12, none, none] ∧
          Kp2 L C H9 H' ∧ H' L = some (.lst ((gSt (rows.drop (i + 1)) (ps.drop (i + 1)) n (pSets (rows.length - (i + 1))) (rows.getD i []) (wSt rows ps n L0 i).2 (ps.getD i 0) j).2.1.map V.int)) ∧
          H' C = some (.lst ((gSt (rows.drop (i + 1)) (ps.drop (i + 1)) n (pSets (rows.length - (i + 1))) (rows.getD i []) (wSt rows ps n L0 i).2 (ps.getD i 0) j).1.map V.int)))
        ⟨_, _, _, rfl, Kp2.refl, hL9, hC9⟩ (fun j σ H' _ h => ?_) (fun j x T10 σ H10 hx h nT10 => ?_) (fun σ H10 h => ?_)
      · obtain ⟨_, _, _, _, kp, _⟩ := h
        have e := sm9 _ _ hrl
        exact SqT.of (kp _ _ (fun z => by rw [z, hL9] at e; cases e) (fun z => by rw [z, hC9] at e; cases e) e)
      · obtain ⟨y10, y11, y12, rfl, kp, hL10, hC10⟩ := h
        obtain ⟨v, hv, rfl⟩ := get_map hx
        have hjn : j < n := by
          have := (List.getElem?_eq_some_iff.mp hv).1
          omega
        have hvd : v = (rows.getD i []).getD j 0 := by
          rw [List.getD_eq_getElem?_getD, hv]
          rfl
        have gl := gSt_len (rows.drop (i + 1)) (ps.drop (i + 1)) n (pSets (rows.length - (i + 1))) (rows.getD i []) (wSt rows ps n L0 i).2 (ps.getD i 0) j
        rw [gSt_succ]
        generalize gSt (rows.drop (i + 1)) (ps.drop (i + 1)) n (pSets (rows.length - (i + 1))) (rows.getD i []) (wSt rows ps n L0 i).2 (ps.getD i 0) j = g at hL10 hC10 gl ⊢
        obtain ⟨cts, lf, num⟩ := g
        obtain ⟨g1, g2⟩ := gl
        have g2 : lf.length = n := by rw [← hll, ← hl2]; exact g2
        have g1 : cts.length = j := g1
        have sT10 := same_new (o := .tup [.int ((0 : Int) + (j : Nat)), .int v]) nT10
        have hT10 : (upd H10 T10 (.tup [.int ((0 : Int) + (j : Nat)), .int v])) T10 = some (.tup [.int ((0 : Int) + (j : Nat)), .int v]) := upd_same
        have kp11 : Kp2 L C H9 (upd H10 T10 (.tup [.int ((0 : Int) + (j : Nat)), .int v])) := kp.trans (kps sT10)
        have hL11 := sT10 _ _ hL10
        have hC11 := sT10 _ _ hC10
        generalize upd H10 T10 (.tup [.int ((0 : Int) + (j : Nat)), .int v]) = H11 at hT10 kp11 hL11 hC11 ⊢
        refine ⟨T10, [.int ((0 : Int) + (j : Nat)), .int v], rfl, .inl (.inl hT10), rfl, .int ((0 : Int) + (j : Nat)), [.int v], rfl, .int v, [], rfl, rfl, ?_⟩
        have tk : ∀ b' xs, H9 b' = some (.tup xs) → H11 b' = some (.tup xs) := fun b' xs e => kp11 _ _ (fun z => by rw [z, hL9] at e; cases e) (fun z => by rw [z, hC9] at e; cases e) e
        refine ⟨_, rfl, _, rfl, _, rfl, _, rfl, _, rfl, Z, L, j, zs, rows.drop (i + 1), ps.drop (i + 1), n, pSets (rows.length - (i + 1)), lf, (by show [V.ref Z, V.ref L, V.int (0 + (j : Int))] = _; rw [Int.zero_add]), kp11 _ _ hZL hZC hZ9, la9.tk tk, hL11, g2, hjn, hn, ps_ne _, hdl, fun H12 sv s12 hsv => ?_⟩
        obtain rfl := hsv.eq
        have hL12 := s12 _ _ hL11
        have hC12 := s12 _ _ hC11
        have glf : (lf.map V.int)[j]? = some (.int (lf.getD j 0)) := by
          rw [List.getElem?_map, getD_of (d := 0) (by omega)]
          rfl
        refine ⟨_, _, _, _, rfl, min3_int _ _ _, ?_⟩
        refine ⟨_, rfl, _, rfl, num, _, rfl, rfl, ?_⟩
        refine ⟨.ref L, rfl, _, rfl, L, _, (j : Int), .int (lf.getD j 0), rfl, congrArg V.int (Int.zero_add _), SqL.of hL12, atI_nat glf, _, rfl, lf.getD j 0, _, rfl, rfl, ?_⟩
        refine ⟨.ref L, rfl, _, rfl, L, _, (j : Int), j, rfl, congrArg V.int (Int.zero_add _), hL12, ixN_nat (by rw [List.length_map]; omega), ?_⟩
        have hC13 : ∀ o, (upd H12 L o) C = some (.lst (cts.map V.int)) := fun o => by
          rw [upd_ne hLC.symm]
          exact hC12
        refine ⟨.ref C, rfl, .inl ⟨rfl, _, SqL.of (hC13 _)⟩, _, rfl, C, cts.map V.int, _, rfl, rfl, hC13 _, ?_, ?_⟩
        · rw [List.length_map]
          exact len_lt (by omega)
        · rw [hvd]
          refine ⟨_, _, _, rfl, ((kp11.trans (kps s12)).trans kp2_upd1).trans kp2_upd2, ?_, ?_⟩
          · rw [upd_ne hLC, upd_same, List.map_set]
          · rw [upd_same, List.map_append]
            rfl
      · obtain ⟨y10, y11, y12, rfl, kp, hL10, hC10⟩ := h
        rw [List.length_map, hrln] at hL10 hC10
        have hDx := kp _ _ hDL hDC hD9
        refine ⟨.ref D, rfl, .inl ⟨rfl, _, SqL.of hDx⟩, _, rfl, C, _, rfl, .inl ⟨SqL.of hC10, fun tc nc => ?_⟩⟩
        have s11 := same_new (o := .tup ((gSt (rows.drop (i + 1)) (ps.drop (i + 1)) n (pSets (rows.length - (i + 1))) (rows.getD i []) (wSt rows ps n L0 i).2 (ps.getD i 0) n).1.map V.int)) nc
        have htc : (upd H10 tc (.tup ((gSt (rows.drop (i + 1)) (ps.drop (i + 1)) n (pSets (rows.length - (i + 1))) (rows.getD i []) (wSt rows ps n L0 i).2 (ps.getD i 0) n).1.map V.int))) tc = some (.tup ((gSt (rows.drop (i + 1)) (ps.drop (i + 1)) n (pSets (rows.length - (i + 1))) (rows.getD i []) (wSt rows ps n L0 i).2 (ps.getD i 0) n).1.map V.int)) := upd_same
        have hL11 := s11 _ _ hL10
        have hD11 := s11 _ _ hDx
        have kp11 := kp.trans (kps s11)
        generalize upd H10 tc (.tup ((gSt (rows.drop (i + 1)) (ps.drop (i + 1)) n (pSets (rows.length - (i + 1))) (rows.getD i []) (wSt rows ps n L0 i).2 (ps.getD i 0) n).1.map V.int)) = H11 at htc hL11 hD11 kp11 ⊢
        have tk : ∀ b' xs, H9 b' = some (.tup xs) → H11 b' = some (.tup xs) := fun b' xs e => kp11 _ _ (fun z => by rw [z, hL9] at e; cases e) (fun z => by rw [z, hC9] at e; cases e) e
        refine ⟨D, as.map V.ref, _, rfl, rfl, hD11, ?_, as ++ [tc], _, _, _, _, _, _, _, _, rfl, ?_, ?_, ?_, ?_, fun j a r x1 x2 => ?_⟩
        · rw [List.length_map]
          exact len_lt (by omega)
        · intro b' o e
          have ne1 : b' ≠ D := fun z => by rw [z, nHD] at e; cases e
          have ne2 : b' ≠ L := fun z => by rw [z, nHL] at e; cases e
          have e9 := sm8 _ _ e
          have ne3 : b' ≠ C := fun z => by rw [z, nC] at e9; cases e9
          rw [upd_ne ne1]
          exact kp11 _ _ ne2 ne3 (sm9 _ _ e)
        · rw [upd_ne hLD]
          exact hL11
        · rw [upd_same, List.map_append]
          rfl
        · rw [List.length_append, hal]
          rfl
        · have up : ∀ b' xs, H11 b' = some (.tup xs) → (upd H11 D (.lst (as.map V.ref ++ [V.ref tc]))) b' = some (.tup xs) := fun b' xs e => by
            rw [upd_ne (fun z => by rw [z, hD11] at e; cases e)]
            exact e
          have hwl := (wSt_len rows ps n L0 i).1
          have x2' : ((wSt rows ps n L0 i).1 ++ [(gSt (rows.drop (i + 1)) (ps.drop (i + 1)) n (pSets (rows.length - (i + 1))) (rows.getD i []) (wSt rows ps n L0 i).2 (ps.getD i 0) n).1])[j]? = some r := x2
          by_cases hj : j < as.length
          · rw [List.getElem?_append_left hj] at x1
            rw [List.getElem?_append_left (by omega)] at x2'
            exact up _ _ (tk _ _ (hat9 j a r x1 x2'))
          · have hj2 : j = as.length := by
              have := (List.getElem?_eq_some_iff.mp x1).1
              rw [List.length_append] at this
              simp at this
              omega
            subst hj2
            rw [List.getElem?_append_right (Nat.le_refl _), Nat.sub_self] at x1
            rw [List.getElem?_append_right (by omega), hal, hwl, Nat.sub_self] at x2'
            obtain rfl : tc = a := Option.some.inj x1
            obtain rfl := Option.some.inj x2'
            exact up _ _ htc
    · obtain ⟨as, y5, y6, y7, y8, y9, y10, y11, y12, rfl, sm, hL4, hD4, hal, hat⟩ := h
      rw [List.length_map, st.len] at hL4 hal hat
      refine ⟨.ref D, rfl, D, _, rfl, .inl ⟨SqL.of hD4, fun tD nD => q tD as _ (sm.trans (same_new nD)) ⟨upd_same, ?_, fun j a r e1 e2 => same_new nD _ _ (hat j a r e1 e2)⟩⟩⟩
      rw [(wSt_len _ _ _ _ _).1, hal]
end
end DD
namespace DD
open PySem PySem.Spec PyProof.Rows L2 RZ DM
abbrev NFc : List Str := ["stock", "collections", "plan", "loads", "table", "spoiling", "caps", "drawers"]
theorem scFind : FnScope NFc ["stock", "collections", "plan"] (defScope sFind) := ⟨rfl, rfl, rfl, by decide +kernel, rfl, by decide +kernel, by decide +kernel⟩
/-- a stock of one to four drawers, a wish and numbers for its drawers -/
structure Pb (H : Hp) (t b p : Addr) (ls wl : List Addr) (rows ws : List (List Int)) (ps : List Int) (n : Nat) : Prop where
  st : StockAt H t ls rows
  r1 : 1 ≤ rows.length
  r4 : rows.length ≤ 4
  rn : ∀ r ∈ rows, r.length = n
  wi : Wish H b wl ws n
  hp : H p = some (.tup (ps.map V.int))
  pl : ps.length = rows.length
/-- for each spoiling some drawers that are overfull -/
def tabB (rows ws : List (List Int)) (ps : List Int) (n : Nat) : Bool := (spOf ws).all fun sp => (pSets rows.length).any (ovB rows ps n (capsOf ws sp n))
/-- no drawers are overfull for the spoiling at i; there are some for each before it -/
def FreeAt (rows ws : List (List Int)) (ps : List Int) (n i : Nat) (sp : List Int) : Prop := (spOf ws)[i]? = some sp ∧ (∀ d ∈ pSets rows.length, ovB rows ps n (capsOf ws sp n) d = false) ∧ ∀ s' ∈ (spOf ws).take i, (pSets rows.length).any (ovB rows ps n (capsOf ws s' n)) = true
structure TabAt (H : Hp) (rows ws : List (List Int)) (ps : List Int) (n : Nat) (as : List Addr) (dss : List (List Nat)) (i : Nat) : Prop where
  l1 : as.length = i
  l2 : dss.length = i
  at_ : ∀ (j : Nat) (a : Addr) (d : List Nat) (sp : List Int), as[j]? = some a → dss[j]? = some d → (spOf ws)[j]? = some sp → H a = some (.tup (natsV d)) ∧ d ∈ pSets rows.length ∧ ovB rows ps n (capsOf ws sp n) d = true ∧ (pSets rows.length).find? (ovB rows ps n (capsOf ws sp n)) = some d
theorem TabAt.tk {H H' : Hp} {rows ws : List (List Int)} {ps : List Int} {n : Nat} {as : List Addr} {dss : List (List Nat)} {i : Nat} (a : TabAt H rows ws ps n as dss i) (k : ∀ b xs, H b = some (.tup xs) → H' b = some (.tup xs)) : TabAt H' rows ws ps n as dss i :=
  ⟨a.l1, a.l2, fun j x d sp e1 e2 e3 => ⟨k _ _ (a.at_ j x d sp e1 e2 e3).1, (a.at_ j x d sp e1 e2 e3).2⟩⟩
theorem TabAt.snoc {H : Hp} {rows ws : List (List Int)} {ps : List Int} {n : Nat} {as : List Addr} {dss : List (List Nat)} {i : Nat} {x : Addr} {d : List Nat} {sp : List Int} (a : TabAt H rows ws ps n as dss i) (hs : (spOf ws)[i]? = some sp)
    (h : H x = some (.tup (natsV d)) ∧ d ∈ pSets rows.length ∧ ovB rows ps n (capsOf ws sp n) d = true ∧ (pSets rows.length).find? (ovB rows ps n (capsOf ws sp n)) = some d) : TabAt H rows ws ps n (as ++ [x]) (dss ++ [d]) (i + 1) := by
  refine ⟨by rw [List.length_append, a.l1]; rfl, by rw [List.length_append, a.l2]; rfl, fun j y d' sp' x1 x2 x3 => ?_⟩
  by_cases hj : j < as.length
  · rw [List.getElem?_append_left hj] at x1
    rw [List.getElem?_append_left (by rw [a.l2, ← a.l1]; exact hj)] at x2
    exact a.at_ j y d' sp' x1 x2 x3
  · have hj2 : j = as.length := by
      have := (List.getElem?_eq_some_iff.mp x1).1
      rw [List.length_append] at this
      simp at this
      omega
    subst hj2
    rw [List.getElem?_append_right (Nat.le_refl _), Nat.sub_self] at x1
    rw [a.l1, ← a.l2, List.getElem?_append_right (Nat.le_refl _), Nat.sub_self] at x2
    rw [a.l1, hs] at x3
    obtain rfl : x = y := Option.some.inj x1
    obtain rfl : d = d' := Option.some.inj x2
    obtain rfl : sp = sp' := Option.some.inj x3
    exact h
theorem TabAt.all {H : Hp} {rows ws : List (List Int)} {ps : List Int} {n : Nat} {as : List Addr} {dss : List (List Nat)} {i : Nat} (a : TabAt H rows ws ps n as dss i) : ∀ s' ∈ (spOf ws).take i, (pSets rows.length).any (ovB rows ps n (capsOf ws s' n)) = true := fun s' hs => by
  obtain ⟨j, hj⟩ := List.mem_iff_getElem?.mp hs
  have hji : j < i := by
    have := (List.getElem?_eq_some_iff.mp hj).1
    rw [List.length_take] at this
    omega
  rw [List.getElem?_take_of_lt hji] at hj
  have h1 : as[j]? = some (as[j]'(by rw [a.l1]; exact hji)) := List.getElem?_eq_getElem _
  have h2 : dss[j]? = some (dss[j]'(by rw [a.l2]; exact hji)) := List.getElem?_eq_getElem _
  have := a.at_ j _ _ s' h1 h2 hj
  exact List.any_eq_true.mpr ⟨_, this.2.1, this.2.2.1⟩
section
variable {P : Program} {w : World} {K : PySem.W.Frag} {mg : Str → Option Value} {base : Heap}
/-- the certificate: ("draw", a draw within the caps of the first spoiling without overfull drawers) or ("table", overfull drawers for each spoiling) -/
def spFind : Sp := fun vs H Q _ => ∃ (t b p : Addr) (ls wl : List Addr) (rows ws : List (List Int)) (ps : List Int) (n : Nat), vs = [.ref t, .ref b, .ref p] ∧ Pb H t b p ls wl rows ws ps n ∧
  (∀ H' r D ds i sp, Same H H' → FreeAt rows ws ps n i sp → H' r = some (.tup [.str "draw", .ref D]) → StockAt H' D ds (drawOf rows ps n (capsOf ws sp n)) → Q (.ref r) H') ∧
  (∀ H' r D as dss, Same H H' → H' r = some (.tup [.str "table", .ref D]) → H' D = some (.tup (as.map V.ref)) → TabAt H' rows ws ps n as dss (spOf ws).length → Q (.ref r) H')
set_option maxHeartbeats 800000 in
theorem ok_find {f fN fU fV fTu fA fEr fO fSz fWm fWi fCs fCn fFu fCo fSp fCa fR fSt fAu fIp fI fFc fLo fSo fOv fDw fSv fSm : Addr} {fd dN dU dV dTu dA dEr dO dSz dWm dWi dCs dCn dFu dCo dSp dCa dR dSt dAu dIp dI dFc dLo dSo dOv dDw dSv dSm : FuncData} {k : Nat} (F : Fun K "find_certificate" "find_certificate" sFind f fd) (T : Tx K mg fN fU fV fTu fA fEr fO fSz fWm fWi fCs fCn fFu fCo fSp fCa fR fSt fAu fIp fI fFc fLo fSo fOv fDw fSv fSm dN dU dV dTu dA dEr dO dSz dWm dWi dCs dCn dFu dCo dSp dCa dR dSt dAu dIp dI dFc dLo dSo dOv dDw dSv dSm) :
    FnOk P w K mg base CX0 (k + 4) f fd ["stock", "collections", "plan"] spFind := by
  have GSp : FnOk P w K mg base CX0 (k + 1) fSp dSp ["collections"] spSpoil := ok_spoil T.Sp T.m_enumerate T.m_tuple
  have GCa : FnOk P w K mg base CX0 (k + 1) fCa dCa ["collections", "spoiling"] spCaps := ok_caps T.Ca T.m_enumerate T.m_zip T.m_min T.m_tuple
  have GLo : FnOk P w K mg base CX0 (k + 2) fLo dLo ["stock", "plan"] spLoads := ok_loads T.Lo T
  have GOv : FnOk P w K mg base CX0 (k + 2) fOv dOv ["loads", "caps"] spOver := ok_over T.Ov T
  have GDw : FnOk P w K mg base CX0 (k + 3) fDw dDw ["stock", "caps", "plan"] spWithin := ok_within T.Dw T
  refine F.ok scFind (fun vs H Q E h => ?_) (fun cdv A outer s H vs Q E hr h => ?_)
  · obtain ⟨t, b, p, ls, wl, rows, ws, ps, n, rfl, _⟩ := h
    rfl
  · obtain ⟨t, b, p, ls, wl, rows, ws, ps, n, rfl, ⟨st, hr1, hr4, hrn, wi, hp, hpl⟩, q1, q2⟩ := h
    refine ⟨_, (pss_cons (ps_set (i := 3) scFind.nd rfl (.inl rfl) (pe_call GLo (hr.mono (by omega)) (by rfl) T.gLo T.Lo.kp T.bLo .nil pass0 (pa_cons (pv 0) (pa_cons (pv 2) pa_nil))))
      (pss_cons (ps_set (i := 4) scFind.nd rfl (.inl rfl) (pe_lst pa_nil))
      (pss_cons (ps_for PassesOwn.never rfl (pi_tup (pe_call GSp (hr.mono (by omega)) (by rfl) T.gSp T.Sp.kp T.bSp .nil pass0 (pa_cons (pv 1) pa_nil))) (pg_name (i := 5) scFind.nd rfl (Or.inl rfl)) (pss_cons (ps_set (i := 6) scFind.nd rfl (.inl rfl) (pe_call GCa (hr.mono (by omega)) (by rfl) T.gCa T.Ca.kp T.bCa .nil pass0 (pa_cons (pv 1) (pa_cons (pv 5) pa_nil))))
      (pss_cons (ps_set (i := 7) scFind.nd rfl (.inl rfl) (pe_call GOv (hr.mono (by omega)) (by rfl) T.gOv T.Ov.kp T.bOv .nil pass0 (pa_cons (pv 3) (pa_cons (pv 6) pa_nil))))
      (pss_cons (ps_if (pt_cmpR op_isN (pv 7) pe_non (nomark _)) (pss_one (ps_ret (pe_tup (pa_cons pe_str (pa_cons (pe_call GDw (hr.mono (by omega)) (by rfl) T.gDw T.Dw.kp T.bDw .nil pass0 (pa_cons (pv 0) (pa_cons (pv 6) (pa_cons (pv 2) pa_nil)))) pa_nil))))) pss_nil)
      (pss_one (ps_expr (pe_bm PySem.F.plainAttrs_list PySem.F.slot_list_append PySem.F.type_list_append mt_append (pv 4) (pa_cons (pv 7) pa_nil))))))))
      (pss_one (ps_ret (pe_tup (pa_cons pe_str (pa_cons (pe_callTy call_tuple_of (by rfl) T.m_tuple (by decide +kernel) (pa_cons (pv 4) pa_nil)) pa_nil)))))))), ?_⟩
    have hg := wi.g
    have hn4 := wi.n4
    have hw4 : ∀ r ∈ ws, r.length ≤ 4 := fun r hr => by rw [(hg r hr).len]; exact hn4
    refine ⟨_, rfl, _, rfl, t, p, ls, rows, ps, n, rfl, st, hr4, hrn, by omega, hp, hpl, fun L as H1 s1 hL la => ?_⟩
    refine ⟨Nat.zero_le _, fun D nD => ?_⟩
    have s2 := s1.trans (same_new (o := .lst []) nD)
    have nHD : H D = none := s1.free nD
    have hLD : L ≠ D := fun z => by rw [z, nD] at hL; cases hL
    have hL2 : (upd H1 D (.lst [])) L = some (.lst (as.map V.ref)) := by
      rw [upd_ne hLD]
      exact hL
    have hD2 : (upd H1 D (.lst [])) D = some (.lst (([] : List Addr).map V.ref)) := upd_same
    have la2 := la.tk fun b' xs e => same_new (o := .lst []) nD _ _ e
    generalize upd H1 D (.lst []) = H2 at s2 hL2 hD2 la2 ⊢
    refine ⟨_, rfl, b, wl, ws, rfl, wi.st.same s2, wi.l4, hw4, fun m zs H3 s3 sp3 => ?_⟩
    have s03 := s2.trans s3
    refine ⟨m, rfl, ⟨_, SqT.of sp3.top⟩, ?_⟩
    have h256 := sp_len hw4 wi.l4
    refine for_it (walk_tup (xs := zs.map V.ref)) (fun i σ H' => ∃ (ts : List Addr) (dss : List (List Nat)) (y5 y6 y7 : Option V), σ = [some (.ref t), some (.ref b), some (.ref p), some (.ref L), some (.ref D), y5, y6, y7] ∧ Same H H' ∧
        H' L = some (.lst (as.map V.ref)) ∧ LoadsAt H' rows ps n as (pSets rows.length) ∧ StockAt H' m zs (spOf ws) ∧ H' D = some (.lst (ts.map V.ref)) ∧ TabAt H' rows ws ps n ts dss i)
      ⟨[], [], _, _, _, rfl, s03, s3 _ _ hL2, la2.tk fun b' xs e => s3 _ _ e, sp3, s3 _ _ hD2, ⟨rfl, rfl, fun j a d sp e => by simp at e⟩⟩
      (fun i σ H' _ h => by obtain ⟨_, _, _, _, _, _, _, _, _, sp', _⟩ := h; exact SqT.of sp'.top) (fun i x σ H' H4 hi h y => ?_) (fun σ H4 h => ?_)
    · obtain ⟨ts, dss, y5, y6, y7, rfl, sm, hL', la', sp', hD', ta⟩ := h
      obtain ⟨rfl, hx⟩ := y
      obtain ⟨a, ha, rfl⟩ := get_map hx
      have hil : i < (spOf ws).length := by
        have := (List.getElem?_eq_some_iff.mp ha).1
        have := sp3.len
        omega
      have hsi : (spOf ws)[i]? = some (spOf ws)[i] := List.getElem?_eq_getElem hil
      have hmem : (spOf ws)[i] ∈ spR ws := by rw [← spOf_eq]; exact List.getElem_mem hil
      obtain ⟨hsl, _⟩ := spR_bd hw4 _ hmem
      have hai := sp'.row i a _ ha hsi
      generalize (spOf ws)[i] = sp at hsi hsl hai
      refine ⟨_, rfl, _, rfl, b, a, wl, ws, sp, n, rfl, wi.st.same sm, wi.l1, wi.l4, fun r hr => (hg r hr).len, by omega, hai, hsl, fun c H5 s5 hc => ?_⟩
      refine ⟨_, rfl, _, rfl, L, c, as, rows, ps, n, pSets rows.length, capsOf ws sp n, rfl, s5 _ _ hL', la'.tk (fun b' xs e => s5 _ _ e), hc, caps_len _ _ _, by omega, fun H6 s6 hno => ?_, fun H6 d dd s6 hfd hdd hov hd => ?_⟩
      · have s06 := sm.trans (s5.trans s6)
        refine ⟨_, rfl, rfl, _, rfl, iteT ?_⟩
        refine ⟨_, rfl, _, rfl, _, rfl, t, c, p, ls, rows, ps, n, capsOf ws sp n, rfl, st.same s06, hr1, hr4, hrn, by omega, s6 _ _ hc, caps_len _ _ _, s06 _ _ hp, hpl, fun D2 ds2 H7 s7 st7 => ?_⟩
        refine ⟨by show 2 ≤ sizeLine; decide, fun r nr => ?_⟩
        exact q1 _ r D2 ds2 i sp (s06.trans (s7.trans (same_new nr))) ⟨hsi, hno, ta.all⟩ upd_same (st7.same (same_new nr))
      · have s06 := sm.trans (s5.trans s6)
        refine ⟨_, rfl, rfl, _, rfl, iteNx rfl ?_⟩
        have hD6 := s6 _ _ (s5 _ _ hD')
        have s56 := s5.trans s6
        refine ⟨.ref D, rfl, .inl ⟨rfl, _, SqL.of hD6⟩, _, rfl, D, ts.map V.ref, .ref d, rfl, rfl, hD6, ?_, ts ++ [d], dss ++ [dd], _, _, _, rfl, ?_, ?_, ?_, ?_, ?_, ?_⟩
        · rw [List.length_map, ta.l1]
          exact len_lt (by omega)
        · intro b' o e
          rw [upd_ne (fun z => by rw [z, nHD] at e; cases e)]
          exact s06 _ _ e
        · rw [upd_ne hLD]
          exact s56 _ _ hL'
        · exact la'.tk fun b' xs e => by
            rw [upd_ne (fun z => by rw [z, hD'] at e; cases e)]
            exact s56 _ _ e
        · refine ⟨?_, sp'.len, fun j l r e1 e2 => ?_⟩
          · have e := sp'.top
            rw [upd_ne (fun z => by rw [z, hD'] at e; cases e)]
            exact s56 _ _ e
          · have e := sp'.row j l r e1 e2
            rw [upd_ne (fun z => by rw [z, hD'] at e; cases e)]
            exact s56 _ _ e
        · rw [upd_same, List.map_append]
          rfl
        · refine TabAt.snoc (ta.tk fun b' xs e => ?_) hsi ⟨?_, hdd, hov, hfd⟩
          · rw [upd_ne (fun z => by rw [z, hD'] at e; cases e)]
            exact s56 _ _ e
          · rw [upd_ne (fun z => by rw [z, hD6] at hd; cases hd)]
            exact hd
    · obtain ⟨ts, dss, y5, y6, y7, rfl, sm, hL', la', sp', hD', ta⟩ := h
      rw [List.length_map, sp3.len] at ta
      refine ⟨.ref D, rfl, D, _, rfl, .inl ⟨SqL.of hD', fun tD nt => ?_⟩⟩
      have sD := same_new (o := .tup (ts.map V.ref)) nt
      refine ⟨by show 2 ≤ sizeLine; decide, fun r nr => ?_⟩
      have sr := same_new (o := .tup [.str "table", .ref tD]) nr
      exact q2 _ r tD ts dss (sm.trans (sD.trans sr)) upd_same (sr _ _ upd_same) (ta.tk fun b' xs e => sr _ _ (sD _ _ e))
theorem free_tab {rows ws : List (List Int)} {ps : List Int} {n i : Nat} {sp : List Int} (h : FreeAt rows ws ps n i sp) : tabB rows ws ps n = false := by
  refine Bool.eq_false_iff.mpr fun e => ?_
  have := List.all_eq_true.mp e sp (List.mem_of_getElem? h.1)
  obtain ⟨d, hd, ho⟩ := List.any_eq_true.mp this
  rw [h.2.1 d hd] at ho
  cases ho
theorem TabAt.tab {H : Hp} {rows ws : List (List Int)} {ps : List Int} {n : Nat} {as : List Addr} {dss : List (List Nat)} (a : TabAt H rows ws ps n as dss (spOf ws).length) : tabB rows ws ps n = true :=
  List.all_eq_true.mpr fun s' hs => a.all s' (by rw [List.take_length]; exact hs)
end
end DD
namespace DD
open PySem PySem.Spec PyProof.Rows L2 RZ DM
theorem taken_set {pl : List Int} {j : Nat} {v : Int} {ds : List Nat} (h : j ∉ ds) : takenOf (pl.set j v) ds = takenOf pl ds := by
  unfold takenOf
  refine congrArg List.sum (List.map_congr_left fun x hx => ?_)
  have : j ≠ x := fun z => h (z ▸ hx)
  rw [List.getD_eq_getElem?_getD, List.getElem?_set_ne this, List.getD_eq_getElem?_getD]
theorem taken_snoc (pl : List Int) (ds : List Nat) (j : Nat) : takenOf pl (ds ++ [j]) = takenOf pl ds + pl.getD j 0 := by
  unfold takenOf
  rw [List.map_append, List.sum_append]
  simp
theorem perm_sum {xs ys : List Int} (h : xs.Perm ys) : xs.sum = ys.sum := by
  induction h with
  | nil => rfl
  | cons x _ ih => rw [List.sum_cons, List.sum_cons, ih]
  | swap x y l => simp only [List.sum_cons]; omega
  | trans _ _ a b => exact a.trans b
theorem taken_range (pl : List Int) : takenOf pl (List.range pl.length) = pl.sum := by
  unfold takenOf
  congr 1
  refine List.ext_getElem? fun i => ?_
  rw [List.getElem?_map]
  by_cases h : i < pl.length
  · rw [List.getElem?_range h, getD_of (d := 0) h]
    rfl
  · rw [List.getElem?_eq_none (by rw [List.length_range]; omega), List.getElem?_eq_none (by omega)]
    rfl
theorem taken_perm {pl : List Int} {ds es : List Nat} (h : ds.Perm es) : takenOf pl ds = takenOf pl es := perm_sum (h.map _)
theorem taken_all {pl : List Int} {js : List Nat} {m : Nat} (h : js.Perm (List.range m)) (hl : pl.length = m) : takenOf pl js = pl.sum := by
  rw [taken_perm h, ← hl, taken_range]
theorem set_sum {pl : List Int} {v : Int} : ∀ {j : Nat}, j < pl.length → (pl.set j v).sum = pl.sum - pl.getD j 0 + v := by
  induction pl with
  | nil => intro j h; simp at h
  | cons x xs ih =>
    intro j h
    cases j with
    | zero =>
      show (v :: xs).sum = _
      rw [List.sum_cons, List.sum_cons]
      show v + xs.sum = x + xs.sum - x + v
      omega
    | succ j =>
      show (x :: xs.set j v).sum = (x :: xs).sum - xs.getD j 0 + v
      rw [List.sum_cons, List.sum_cons, ih (by simpa using h)]
      omega
theorem setD {pl : List Int} {j i : Nat} {v : Int} (h : j < pl.length) : (pl.set j v).getD i 0 = if j = i then v else pl.getD i 0 := by
  rw [List.getD_eq_getElem?_getD, List.getElem?_set, List.getD_eq_getElem?_getD]
  by_cases e : j = i
  · rw [if_pos e, if_pos e, if_pos h]
    rfl
  · rw [if_neg e, if_neg e]
def sizeAt (rows : List (List Int)) (j : Nat) : Int := (rows.getD j []).sum
structure Rb (rows : List (List Int)) (n : Nat) : Prop where
  r1 : 1 ≤ rows.length
  r4 : rows.length ≤ 4
  n1 : 1 ≤ n
  n4 : n ≤ 4
  rw : ∀ r ∈ rows, r.length = n ∧ ∀ x ∈ r, 0 ≤ x ∧ x ≤ 50
theorem Rb.size {rows : List (List Int)} {n : Nat} (b : Rb rows n) {r : List Int} (h : r ∈ rows) : 0 ≤ r.sum ∧ r.sum ≤ 200 := by
  obtain ⟨h1, h2⟩ := b.rw r h
  have := sum_bd h2
  have n4 := b.n4
  rw [h1] at this
  exact ⟨this.1, by omega⟩
theorem Rb.at_ {rows : List (List Int)} {n j : Nat} (b : Rb rows n) (h : j < rows.length) : 0 ≤ sizeAt rows j ∧ sizeAt rows j ≤ 200 := b.size (List.mem_of_getElem? (getD_of (d := []) h))
end DD
namespace DD
open PySem PySem.Spec PyProof.Rows L2 RZ DM
/-- the room of these drawers -/
def roomS (rows : List (List Int)) (n : Nat) (cs : List (Option Int)) (ds : List Nat) : Int := (List.zipWith capv (totL rows n ds) cs).sum
def colS (rows : List (List Int)) (ds : List Nat) (k : Nat) : Int := (ds.map fun j => (rows.getD j []).getD k 0).sum
theorem colS_snoc (rows : List (List Int)) (ds : List Nat) (j k : Nat) : colS rows (ds ++ [j]) k = colS rows ds k + (rows.getD j []).getD k 0 := by
  unfold colS
  rw [List.map_append, List.sum_append]
  simp
theorem colS_perm {rows : List (List Int)} {ds es : List Nat} {k : Nat} (h : ds.Perm es) : colS rows ds k = colS rows es k := perm_sum (h.map _)
theorem colS_le {rows : List (List Int)} (hn : ∀ r ∈ rows, ∀ x ∈ r, 0 ≤ x) {k : Nat} : ∀ {S A : List Nat}, S.Nodup → (∀ x ∈ S, x ∈ A) → colS rows S k ≤ colS rows A k := by
  have nn : ∀ j : Nat, 0 ≤ (rows.getD j []).getD k 0 := fun j => by
    rw [List.getD_eq_getElem?_getD (l := rows)]
    cases e : rows[j]? with
    | none => exact Int.le_refl _
    | some r =>
      show 0 ≤ r.getD k 0
      rw [List.getD_eq_getElem?_getD]
      cases e2 : r[k]? with
      | none => exact Int.le_refl _
      | some x => exact hn r (List.mem_of_getElem? e) x (List.mem_of_getElem? e2)
  intro S
  induction S with
  | nil =>
    intro A _ _
    show 0 ≤ colS rows A k
    induction A with
    | nil => exact Int.le_refl _
    | cons a A ih =>
      show 0 ≤ ((a :: A).map _).sum
      rw [List.map_cons, List.sum_cons]
      have := nn a
      have ih2 : 0 ≤ (A.map fun j => (rows.getD j []).getD k 0).sum := ih (fun _ h => nomatch h)
      omega
  | cons j S ih =>
    intro A hd hs
    have hjA := hs j List.mem_cons_self
    have hp := List.perm_cons_erase hjA
    rw [colS_perm hp]
    have h2 : colS rows S k ≤ colS rows (A.erase j) k := ih (List.nodup_cons.mp hd).2 fun x hx => by
      have hne : x ≠ j := fun z => (List.nodup_cons.mp hd).1 (z ▸ hx)
      exact (List.mem_erase_of_ne hne).mpr (hs x (List.mem_cons_of_mem _ hx))
    show ((j :: S).map _).sum ≤ ((j :: A.erase j).map _).sum
    rw [List.map_cons, List.map_cons, List.sum_cons, List.sum_cons]
    have : (S.map fun j => (rows.getD j []).getD k 0).sum ≤ ((A.erase j).map fun j => (rows.getD j []).getD k 0).sum := h2
    omega
def rk (rows : List (List Int)) (cs : List (Option Int)) (ds : List Nat) (k : Nat) : Int := capv (colS rows ds k) (cs.getD k none)
theorem roomS_eq {rows : List (List Int)} {n : Nat} {cs : List (Option Int)} (hc : cs.length = n) (h0 : ∀ c, some c ∈ cs → 0 ≤ c) (ds : List Nat) : roomS rows n cs ds = ((List.range n).map (rk rows cs ds)).sum := by
  by_cases e : ds = []
  · subst e
    have z1 : roomS rows n cs [] = 0 := rfl
    rw [z1]
    have : ∀ l : List Nat, (∀ k ∈ l, k < n) → (l.map (rk rows cs [])).sum = 0 := by
      intro l
      induction l with
      | nil => intro _; rfl
      | cons a l ih =>
        intro h
        rw [List.map_cons, List.sum_cons, ih fun k hk => h k (List.mem_cons_of_mem _ hk)]
        have ha := h a List.mem_cons_self
        show capv 0 (cs.getD a none) + 0 = 0
        have hg := getD_of (d := none) (show a < cs.length by omega)
        cases hv : cs.getD a none with
        | none => rfl
        | some c =>
          have := h0 c (by rw [hv] at hg; exact List.mem_of_getElem? hg)
          show (if c < 0 then c else 0) + 0 = 0
          rw [if_neg (by omega)]
          rfl
    exact (this _ fun k hk => List.mem_range.mp hk).symm
  · unfold roomS totL
    rw [if_neg e]
    congr 1
    refine List.ext_getElem? fun i => ?_
    by_cases hi : i < n
    · rw [List.getElem?_zipWith, List.getElem?_map, List.getElem?_range hi]
      unfold totalsOf
      rw [List.getElem?_map, List.getElem?_range hi, getD_of (d := none) (show i < cs.length by omega)]
      show some (capv _ _) = some (rk rows cs ds i)
      unfold rk colS pickR
      dsimp only
      rw [List.map_map]
      rfl
    · rw [List.getElem?_eq_none (by rw [List.length_zipWith]; omega), List.getElem?_eq_none (by rw [List.length_map, List.length_range]; omega)]
theorem roomS_perm {rows : List (List Int)} {n : Nat} {cs : List (Option Int)} (hc : cs.length = n) (h0 : ∀ c, some c ∈ cs → 0 ≤ c) {ds es : List Nat} (h : ds.Perm es) : roomS rows n cs ds = roomS rows n cs es := by
  rw [roomS_eq hc h0, roomS_eq hc h0]
  refine congrArg List.sum (List.map_congr_left fun k _ => ?_)
  unfold rk
  rw [colS_perm h]
theorem sum4 {f g h i : Nat → Int} : ∀ {l : List Nat}, (∀ k ∈ l, f k + g k ≤ h k + i k) → (l.map f).sum + (l.map g).sum ≤ (l.map h).sum + (l.map i).sum
  | [], _ => by simp
  | a :: l, hk => by
    have := sum4 (l := l) fun k hh => hk k (List.mem_cons_of_mem _ hh)
    have := hk a List.mem_cons_self
    simp only [List.map_cons, List.sum_cons]
    omega
theorem capv_sub {a s x : Int} (o : Option Int) (h : s ≤ a) (hx : 0 ≤ x) : capv (a + x) o + capv s o ≤ capv a o + capv (s + x) o := by
  cases o with
  | none =>
    show a + x + s ≤ a + (s + x)
    omega
  | some c =>
    show (if c < a + x then c else a + x) + (if c < s then c else s) ≤ (if c < a then c else a) + (if c < s + x then c else s + x)
    by_cases h1 : c < a + x <;> by_cases h2 : c < s <;> by_cases h3 : c < a <;> by_cases h4 : c < s + x <;> simp only [h1, h2, h3, h4, if_true, if_false] <;> omega
theorem cell_nn {rows : List (List Int)} (hn : ∀ r ∈ rows, ∀ x ∈ r, 0 ≤ x) (j k : Nat) : 0 ≤ (rows.getD j []).getD k 0 := by
  have := colS_le hn (k := k) (S := []) (A := [j]) List.nodup_nil (fun x h => by cases h)
  have e1 : colS rows [] k = 0 := rfl
  have e2 : colS rows [j] k = (rows.getD j []).getD k 0 + 0 := rfl
  omega
theorem range_ps : ∀ m, List.range m ∈ pSets m
  | 0 => List.mem_singleton.mpr rfl
  | m + 1 => by
    rw [List.range_succ]
    exact List.mem_append_right _ (List.mem_map.mpr ⟨_, range_ps m, rfl⟩)
theorem pick_all (rows : List (List Int)) : pickR rows (List.range rows.length) = rows := by
  unfold pickR
  refine List.ext_getElem? fun i => ?_
  rw [List.getElem?_map]
  by_cases h : i < rows.length
  · rw [List.getElem?_range h, getD_of (d := []) h]
    rfl
  · rw [List.getElem?_eq_none (by rw [List.length_range]; omega), List.getElem?_eq_none (by omega)]
    rfl
theorem tot_colS (rows : List (List Int)) (n : Nat) : totalsOf rows n = (List.range n).map (colS rows (List.range rows.length)) := by
  unfold totalsOf
  refine List.map_congr_left fun i _ => ?_
  show _ = ((List.range rows.length).map _).sum
  congr 1
  refine List.ext_getElem? fun j => ?_
  rw [List.getElem?_map, List.getElem?_map]
  by_cases hj : j < rows.length
  · rw [List.getElem?_range hj, getD_of (d := []) hj]
    rfl
  · rw [List.getElem?_eq_none (by omega), List.getElem?_eq_none (by rw [List.length_range]; omega)]
    rfl
end DD
namespace DD
/-! ### sums by functions -/
def sN : Nat → (Nat → Int) → Int
  | 0, _ => 0
  | n + 1, f => sN n f + f n
theorem sN_le {f g : Nat → Int} : ∀ {n : Nat}, (∀ k, k < n → f k ≤ g k) → sN n f ≤ sN n g
  | 0, _ => Int.le_refl _
  | n + 1, h => by
    have := sN_le (n := n) fun k hk => h k (by omega)
    have := h n (by omega)
    show sN n f + f n ≤ sN n g + g n
    omega
theorem sN_congr {f g : Nat → Int} : ∀ {n : Nat}, (∀ k, k < n → f k = g k) → sN n f = sN n g
  | 0, _ => rfl
  | n + 1, h => by
    have := sN_congr (n := n) fun k hk => h k (by omega)
    have := h n (by omega)
    show sN n f + f n = sN n g + g n
    omega
theorem sN_add {f g : Nat → Int} : ∀ {n : Nat}, sN n (fun k => f k + g k) = sN n f + sN n g
  | 0 => rfl
  | n + 1 => by
    have := sN_add (f := f) (g := g) (n := n)
    show sN n (fun k => f k + g k) + (f n + g n) = sN n f + f n + (sN n g + g n)
    omega
theorem sN_zero {n : Nat} : sN n (fun _ => 0) = 0 := by
  induction n with
  | zero => rfl
  | succ n ih => show sN n (fun _ => 0) + 0 = 0; omega
theorem sN_range (n : Nat) (f : Nat → Int) : ((List.range n).map f).sum = sN n f := by
  induction n with
  | zero => rfl
  | succ n ih =>
    rw [List.range_succ, List.map_append, List.sum_append, ih]
    simp [sN]
/-- one term changed -/
theorem sN_at {f g : Nat → Int} {k : Nat} : ∀ {n : Nat}, k < n → (∀ j, j ≠ k → f j = g j) → sN n f - f k = sN n g - g k
  | 0, h, _ => absurd h (Nat.not_lt_zero _)
  | n + 1, h, hj => by
    show sN n f + f n - f k = sN n g + g n - g k
    by_cases e : k = n
    · subst e
      have := sN_congr (f := f) (g := g) (n := k) fun j hjk => hj j (by omega)
      omega
    · have := sN_at (f := f) (g := g) (k := k) (n := n) (by omega) hj
      have := hj n (by omega)
      omega
/-- the sum over a set of drawers -/
def sI (m : Nat) (S : Nat → Bool) (f : Nat → Int) : Int := sN m fun j => if S j = true then f j else 0
theorem sI_nn {m : Nat} {S : Nat → Bool} {f : Nat → Int} (h : ∀ j, 0 ≤ f j) : 0 ≤ sI m S f := by
  have := sN_le (n := m) (f := fun _ => 0) (g := fun j => if S j = true then f j else 0) fun k _ => by
    show 0 ≤ if S k = true then f k else 0
    have := h k
    split <;> omega
  rw [sN_zero] at this
  exact this
theorem sI_sub {m : Nat} {S T : Nat → Bool} {f : Nat → Int} (h : ∀ j, 0 ≤ f j) (hs : ∀ j, S j = true → T j = true) : sI m S f ≤ sI m T f := by
  refine sN_le fun k _ => ?_
  show (if S k = true then f k else 0) ≤ if T k = true then f k else 0
  have h0 := h k
  by_cases e : S k = true
  · rw [if_pos e, if_pos (hs k e)]
    exact Int.le_refl _
  · rw [if_neg e]
    split <;> omega
theorem sI_union {m : Nat} {S T : Nat → Bool} {f : Nat → Int} : sI m (fun j => S j || T j) f + sI m (fun j => S j && T j) f = sI m S f + sI m T f := by
  unfold sI
  rw [← sN_add, ← sN_add]
  refine sN_congr fun k _ => ?_
  dsimp only
  by_cases hS : S k = true <;> by_cases hT : T k = true <;> simp [hS, hT]
theorem sI_none {m : Nat} {f : Nat → Int} : sI m (fun _ => false) f = 0 := by
  unfold sI
  exact sN_zero
section
variable (m n : Nat) (X : Nat → Nat → Int) (p : Nat → Int)
/-- the room of a set of drawers under caps -/
def Rm (lf : Nat → Int) (S : Nat → Bool) : Int := sN n fun k => min (sI m S fun j => X j k) (lf k)
def Feas (lf : Nat → Int) : Prop := ∀ S, sI m S p ≤ Rm m n X lf S
def Tight (lf : Nat → Int) (S : Nat → Bool) : Prop := sI m S p = Rm m n X lf S
end
section
variable {m n : Nat} {X : Nat → Nat → Int} {p : Nat → Int} (hX : ∀ j k, 0 ≤ X j k)
theorem rm_sub {lf : Nat → Int} {S T : Nat → Bool} (hX : ∀ j k, 0 ≤ X j k) : Rm m n X lf (fun j => S j || T j) + Rm m n X lf (fun j => S j && T j) ≤ Rm m n X lf S + Rm m n X lf T := by
  unfold Rm
  rw [← sN_add, ← sN_add]
  refine sN_le fun k _ => ?_
  have h1 := sI_union (m := m) (S := S) (T := T) (f := fun j => X j k)
  have h2 := sI_sub (m := m) (S := S) (T := fun j => S j || T j) (f := fun j => X j k) (fun j => hX j k) fun j h => by simp [h]
  have h3 := sI_sub (m := m) (S := T) (T := fun j => S j || T j) (f := fun j => X j k) (fun j => hX j k) fun j h => by simp [h]
  generalize sI m (fun j => S j || T j) (fun j => X j k) = a at *
  generalize sI m (fun j => S j && T j) (fun j => X j k) = b at *
  generalize sI m S (fun j => X j k) = c at *
  generalize sI m T (fun j => X j k) = d at *
  omega
theorem tight_union {lf : Nat → Int} {S T : Nat → Bool} (hX : ∀ j k, 0 ≤ X j k) (hf : Feas m n X p lf) (hS : Tight m n X p lf S) (hT : Tight m n X p lf T) : Tight m n X p lf fun j => S j || T j := by
  have h1 := hf fun j => S j || T j
  have h2 := hf fun j => S j && T j
  have h3 := rm_sub (m := m) (n := n) (lf := lf) (S := S) (T := T) hX
  have h4 := sI_union (m := m) (S := S) (T := T) (f := p)
  unfold Tight at *
  omega
theorem rm_none {lf : Nat → Int} (h : ∀ k, k < n → 0 ≤ lf k) : Rm m n X lf (fun _ => false) = 0 := by
  unfold Rm
  rw [← sN_zero (n := n)]
  refine sN_congr fun k hk => ?_
  rw [sI_none]
  have := h k hk
  omega
theorem rm_mono {lf lf' : Nat → Int} {S : Nat → Bool} (h : ∀ k, k < n → lf' k ≤ lf k) : Rm m n X lf' S ≤ Rm m n X lf S := sN_le fun k hk => by
  have := h k hk
  omega
/-- what a step of the way through the kinds keeps -/
structure Gr (m n : Nat) (X : Nat → Nat → Int) (p r : Nat → Int) (left : Nat → Int) (pd : Int) (j : Nat) (cts lf : Nat → Int) (num : Int) : Prop where
  lf1 : ∀ k, k < n → 0 ≤ lf k ∧ lf k = left k - cts k
  c0 : ∀ k, j ≤ k → cts k = 0
  cb : ∀ k, 0 ≤ cts k ∧ (k < n → cts k ≤ r k)
  nm : num = pd - sN n cts
  n0 : 0 ≤ num
  fe : Feas m n X p lf
  ti : num = 0 ∨ ∃ T, Tight m n X p lf T ∧ ∀ k, k < j → cts k = r k ∨ lf k ≤ sI m T fun i => X i k
theorem Gr.step {r left : Nat → Int} {pd : Int} {j : Nat} {cts lf : Nat → Int} {num v : Int} (hX : ∀ j k, 0 ≤ X j k) (hr : ∀ k, 0 ≤ r k) (hj : j < n) (g : Gr m n X p r left pd j cts lf num)
    (v1 : ∀ S, v ≤ lf j + (Rm m n X (fun k => if k = j then 0 else lf k) S - sI m S p)) (v2 : ∃ S, v = lf j + (Rm m n X (fun k => if k = j then 0 else lf k) S - sI m S p)) :
    Gr m n X p r left pd (j + 1) (fun k => if k = j then min (min num (r j)) v else cts k) (fun k => if k = j then lf j - min (min num (r j)) v else lf k) (num - min (min num (r j)) v) := by
  have hl := g.lf1 j hj
  have hn0 := g.n0
  have hrj := hr j
  have hcj := g.c0 j (Nat.le_refl _)
  -- the room with other caps of this kind
  have rj : ∀ (c : Int) (S : Nat → Bool), Rm m n X (fun k => if k = j then c else lf k) S = Rm m n X (fun k => if k = j then 0 else lf k) S - min (sI m S fun i => X i j) 0 + min (sI m S fun i => X i j) c := fun c S => by
    have := sN_at (n := n) (k := j) (f := fun k => min (sI m S fun i => X i k) (if k = j then c else lf k)) (g := fun k => min (sI m S fun i => X i k) (if k = j then 0 else lf k)) hj fun k hk => by
      simp only [if_neg hk]
    simp only [if_true] at this
    unfold Rm
    dsimp only
    omega
  have r0 : ∀ S, Rm m n X lf S = Rm m n X (fun k => if k = j then 0 else lf k) S - min (sI m S fun i => X i j) 0 + min (sI m S fun i => X i j) (lf j) := fun S => by
    rw [← rj (lf j) S]
    unfold Rm
    refine sN_congr fun k _ => ?_
    dsimp only
    by_cases e : k = j
    · rw [if_pos e, e]
    · rw [if_neg e]
  have cnn : ∀ S, 0 ≤ sI m S fun i => X i j := fun S => sI_nn fun i => hX i j
  -- 0 <= v <= lf j
  have hv0 : 0 ≤ v := by
    obtain ⟨S, e⟩ := v2
    have h1 := g.fe S
    have h2 := r0 S
    have h3 := cnn S
    omega
  have hvl : v ≤ lf j := by
    have h1 := v1 fun _ => false
    rw [rm_none fun k hk => by
      by_cases e : k = j
      · rw [if_pos e]
        exact Int.le_refl _
      · rw [if_neg e]
        exact (g.lf1 k hk).1, sI_none] at h1
    omega
  generalize hc : min (min num (r j)) v = c
  have hc0 : 0 ≤ c := by omega
  have fe : Feas m n X p (fun k => if k = j then lf j - c else lf k) := fun S => by
    have h1 := g.fe S
    have h2 := r0 S
    have h3 := rj (lf j - c) S
    have h4 := v1 S
    have h5 := cnn S
    omega
  refine ⟨fun k hk => ?_, fun k hk => ?_, fun k => ?_, ?_, by omega, fe, ?_⟩
  · by_cases e : k = j
    · subst e
      simp only [if_true]
      omega
    · simp only [if_neg e]
      exact g.lf1 k hk
  · rw [if_neg (by omega)]
    exact g.c0 k (by omega)
  · by_cases e : k = j
    · rw [if_pos e]
      exact ⟨hc0, fun _ => by rw [e]; omega⟩
    · rw [if_neg e]
      exact g.cb k
  · have := sN_at (n := n) (k := j) (f := fun k => if k = j then c else cts k) (g := cts) hj fun k hk => if_neg hk
    simp only [if_true] at this
    have := g.nm
    omega
  · by_cases hz : num - c = 0
    · exact .inl hz
    · refine .inr ?_
      have hnz : num ≠ 0 := fun e => by omega
      obtain ⟨T, hT, hk⟩ := g.ti.resolve_left hnz
      -- tight sets stay tight
      have keep : ∀ S, Tight m n X p lf S → Tight m n X p (fun k => if k = j then lf j - c else lf k) S := fun S hS => by
        have h1 := fe S
        have h2 := rm_mono (m := m) (n := n) (X := X) (lf := lf) (lf' := fun k => if k = j then lf j - c else lf k) (S := S) fun k _ => by
          by_cases e : k = j
          · subst e
            simp only [if_true]
            omega
          · simp only [if_neg e]
            exact Int.le_refl _
        unfold Tight at *
        omega
      by_cases hcr : c = r j
      · refine ⟨T, keep T hT, fun k hkj => ?_⟩
        by_cases e : k = j
        · subst e
          simp only [if_true]
          exact .inl hcr
        · simp only [if_neg e]
          exact hk k (by omega)
      · have hcv : c = v := by omega
        obtain ⟨S, eS⟩ := v2
        have h3 := rj (lf j - c) S
        have h5 := cnn S
        have h1 := fe S
        have tS : Tight m n X p (fun k => if k = j then lf j - c else lf k) S := by
          unfold Tight
          omega
        have lS : lf j - c ≤ sI m S fun i => X i j := by omega
        refine ⟨_, tight_union hX fe (keep T hT) tS, fun k hkj => ?_⟩
        have hTU := fun i => sI_sub (m := m) (S := T) (T := fun j => T j || S j) (f := fun j => X j i) (fun j => hX j i) fun j h => by simp [h]
        have hSU := fun i => sI_sub (m := m) (S := S) (T := fun j => T j || S j) (f := fun j => X j i) (fun j => hX j i) fun j h => by simp [h]
        by_cases e : k = j
        · subst e
          simp only [if_true]
          exact .inr (Int.le_trans lS (hSU k))
        · simp only [if_neg e]
          rcases hk k (by omega) with h | h
          · exact .inl h
          · exact .inr (Int.le_trans h (hTU k))
/-- at the end nothing is wanted any more -/
theorem Gr.done {r left : Nat → Int} {pd : Int} {cts lf : Nat → Int} {num : Int} (g : Gr m n X p r left pd n cts lf num)
    (h : ∀ S, sI m S p + pd ≤ sN n fun k => min ((sI m S fun j => X j k) + r k) (left k)) : num = 0 := by
  rcases g.ti with e | ⟨T, hT, hk⟩
  · exact e
  · have h1 := h T
    have h2 : (sN n fun k => min ((sI m T fun j => X j k) + r k) (left k)) ≤ sN n fun k => min (sI m T fun j => X j k) (lf k) + cts k := sN_le fun k hkn => by
      have h3 := g.lf1 k hkn
      have h4 := (g.cb k).2 hkn
      rcases hk k hkn with e | e <;> omega
    rw [sN_add] at h2
    have h5 := g.nm
    have h6 := g.n0
    unfold Tight Rm at hT
    omega
theorem Gr.start {r left : Nat → Int} {pd : Int} (hl : ∀ k, k < n → 0 ≤ left k) (hr : ∀ k, 0 ≤ r k) (hp : 0 ≤ pd) (hf : Feas m n X p left) : Gr m n X p r left pd 0 (fun _ => 0) left pd := by
  refine ⟨fun k hk => ⟨hl k hk, by omega⟩, fun _ _ => rfl, fun k => ⟨Int.le_refl _, fun _ => hr k⟩, ?_, hp, hf, .inr ⟨fun _ => false, ?_, fun k hk => absurd hk (Nat.not_lt_zero _)⟩⟩
  · rw [sN_zero]
    omega
  · unfold Tight
    rw [sI_none, rm_none hl]
end
end DD
namespace DD
open PySem PySem.Spec PyProof.Rows L2 RZ DM
theorem filt_mem (S : Nat → Bool) : ∀ m, (List.range m).filter S ∈ pSets m
  | 0 => List.mem_singleton.mpr rfl
  | m + 1 => by
    rw [List.range_succ, List.filter_append]
    have ih := filt_mem S m
    show _ ∈ pSets m ++ (pSets m).map fun s => s ++ [m]
    by_cases h : S m = true
    · have e : [m].filter S = [m] := by simp [h]
      rw [e]
      exact List.mem_append_right _ (List.mem_map.mpr ⟨_, ih, rfl⟩)
    · have e : [m].filter S = [] := by simp [h]
      rw [e, List.append_nil]
      exact List.mem_append_left _ ih
theorem pset_filt : ∀ {m : Nat} {d : List Nat}, d ∈ pSets m → d = (List.range m).filter fun j => d.contains j
  | 0, d, h => by
    rw [List.mem_singleton.mp h]
    rfl
  | m + 1, d, h => by
    rw [List.range_succ, List.filter_append]
    rcases List.mem_append.mp (show d ∈ pSets m ++ (pSets m).map fun s => s ++ [m] from h) with h | h
    · have ih := pset_filt h
      have hm : d.contains m = false := by
        rw [List.contains_eq_mem]
        exact decide_eq_false fun z => absurd ((ps_bd h).2.2 m z) (Nat.lt_irrefl _)
      have e : [m].filter (fun j => d.contains j) = [] := by simp [hm] at *; exact hm
      rw [e, List.append_nil]
      exact ih
    · obtain ⟨s, hs, rfl⟩ := List.mem_map.mp h
      have ih := pset_filt hs
      have e : [m].filter (fun j => (s ++ [m]).contains j) = [m] := by simp
      rw [e]
      congr 1
      conv => lhs; rw [ih]
      refine List.filter_congr fun j hj => ?_
      have hj := List.mem_range.mp hj
      have hne : j ≠ m := by omega
      simp [hne]
theorem filt_sum {m : Nat} {S : Nat → Bool} {f : Nat → Int} : (((List.range m).filter S).map f).sum = sI m S f := by
  induction m with
  | zero => rfl
  | succ m ih =>
    rw [List.range_succ, List.filter_append, List.map_append, List.sum_append, ih]
    show _ = sI m S f + if S m = true then f m else 0
    by_cases h : S m = true
    · have e : [m].filter S = [m] := by simp [h]
      rw [e, if_pos h]
      simp
    · have e : [m].filter S = [] := by simp [h]
      rw [e, if_neg h]
      rfl
theorem pset_sum {m : Nat} {d : List Nat} {f : Nat → Int} (h : d ∈ pSets m) : (d.map f).sum = sI m (fun j => d.contains j) f := by
  conv => lhs; rw [pset_filt h]
  exact filt_sum
def cel (rows : List (List Int)) (j k : Nat) : Int := (rows.getD j []).getD k 0
def plF (ps : List Int) (j : Nat) : Int := ps.getD j 0
def lfF (l : List Int) (k : Nat) : Int := l.getD k 0
theorem capv_min (t c : Int) : capv t (some c) = min t c := by
  show (if c < t then c else t) = _
  omega
/-- a set's spare, by functions -/
theorem spare_fun {rows : List (List Int)} {ps : List Int} {n : Nat} {left : List Int} {kd : Nat} (hl : left.length = n) (hk : kd < n) (h0 : ∀ k, 0 ≤ lfF left k) {d : List Nat} (hd : d ∈ pSets rows.length) :
    spareAt rows ps n left kd d = Rm rows.length n (cel rows) (fun k => if k = kd then 0 else lfF left k) (fun j => d.contains j) - sI rows.length (fun j => d.contains j) (plF ps) := by
  have hc : ((left.set kd 0).map some).length = n := by rw [List.length_map, List.length_set, hl]
  have gd : ∀ k, k < n → ((left.set kd 0).map some).getD k none = some (if k = kd then 0 else lfF left k) := fun k hkn => by
    have e := setD (pl := left) (j := kd) (i := k) (v := 0) (by omega)
    rw [List.getD_eq_getElem?_getD, List.getElem?_map, getD_of (d := 0) (show k < (left.set kd 0).length by rw [List.length_set]; omega), e]
    show some _ = some _
    by_cases z : k = kd
    · rw [if_pos z, if_pos z.symm]
    · rw [if_neg z, if_neg fun q => z q.symm]
      rfl
  have hn0 : ∀ c, some c ∈ (left.set kd 0).map some → 0 ≤ c := fun c hc2 => by
    obtain ⟨k, hkk⟩ := List.mem_iff_getElem?.mp hc2
    have hkn : k < n := by
      have := (List.getElem?_eq_some_iff.mp hkk).1
      omega
    have e := gd k hkn
    rw [List.getD_eq_getElem?_getD, hkk] at e
    have e : c = if k = kd then 0 else lfF left k := Option.some.inj e
    have := h0 k
    rw [e]
    split <;> omega
  show roomS rows n ((left.set kd 0).map some) d - takenOf ps d = _
  rw [roomS_eq hc hn0, sN_range]
  congr 1
  · unfold Rm
    refine sN_congr fun k hkn => ?_
    unfold rk
    rw [gd k hkn, capv_min]
    congr 1
    exact pset_sum hd
  · exact pset_sum hd
theorem spareV_ok {rows : List (List Int)} {ps : List Int} {n : Nat} {left : List Int} {kd : Nat} (hl : left.length = n) (hk : kd < n) (h0 : ∀ k, 0 ≤ lfF left k) :
    (∀ S, spareV rows ps n left kd (pSets rows.length) ≤ lfF left kd + (Rm rows.length n (cel rows) (fun k => if k = kd then 0 else lfF left k) S - sI rows.length S (plF ps))) ∧
    ∃ S, spareV rows ps n left kd (pSets rows.length) = lfF left kd + (Rm rows.length n (cel rows) (fun k => if k = kd then 0 else lfF left k) S - sI rows.length S (plF ps)) := by
  have hne : (pSets rows.length).map (spareAt rows ps n left kd) ≠ [] := fun e => ps_ne _ (List.map_eq_nil_iff.mp e)
  obtain ⟨m, hm⟩ : ∃ m, ((pSets rows.length).map (spareAt rows ps n left kd)).min? = some m := by
    cases e : ((pSets rows.length).map (spareAt rows ps n left kd)).min? with
    | none => exact absurd (List.min?_eq_none_iff.mp e) hne
    | some m => exact ⟨m, rfl⟩
  obtain ⟨h1, h2⟩ := List.min?_eq_some_iff.mp hm
  have hv : spareV rows ps n left kd (pSets rows.length) = lfF left kd + m := by
    unfold spareV
    rw [hm]
    rfl
  refine ⟨fun S => ?_, ?_⟩
  · have hS := filt_mem S rows.length
    have h3 := h2 _ (List.mem_map_of_mem (f := spareAt rows ps n left kd) hS)
    rw [spare_fun hl hk h0 hS] at h3
    have e : ∀ f : Nat → Int, sI rows.length (fun j => ((List.range rows.length).filter S).contains j) f = sI rows.length S f := fun f => by
      rw [← pset_sum hS, filt_sum]
    have e2 : Rm rows.length n (cel rows) (fun k => if k = kd then 0 else lfF left k) (fun j => ((List.range rows.length).filter S).contains j) = Rm rows.length n (cel rows) (fun k => if k = kd then 0 else lfF left k) S := by
      unfold Rm
      exact sN_congr fun k _ => by rw [e]
    rw [e, e2] at h3
    rw [hv]
    omega
  · obtain ⟨d, hd, e⟩ := List.mem_map.mp h1
    refine ⟨fun j => d.contains j, ?_⟩
    rw [hv, ← spare_fun hl hk h0 hd, e]
theorem snocD {l : List Int} {j : Nat} {c : Int} (h : l.length = j) : lfF (l ++ [c]) = fun k => if k = j then c else lfF l k := funext fun k => by
  unfold lfF
  rw [List.getD_eq_getElem?_getD]
  by_cases e : k = j
  · rw [if_pos e, e, ← h, List.getElem?_append_right (Nat.le_refl _), Nat.sub_self]
    rfl
  · rw [if_neg e, List.getD_eq_getElem?_getD]
    by_cases hk : k < l.length
    · rw [List.getElem?_append_left hk]
    · rw [List.getElem?_eq_none (by rw [List.length_append]; simp only [List.length_cons, List.length_nil]; omega), List.getElem?_eq_none (by omega)]
theorem setF {l : List Int} {j : Nat} {v : Int} (h : j < l.length) : lfF (l.set j v) = fun k => if k = j then v else lfF l k := funext fun k => by
  unfold lfF
  rw [setD h]
  by_cases e : k = j
  · rw [if_pos e, if_pos e.symm]
  · rw [if_neg e, if_neg fun z => e z.symm]
/-- one drawer: the way through the kinds -/
theorem gSt_gr {rows : List (List Int)} {ps : List Int} {n : Nat} {dr left : List Int} {pd : Int} (hX : ∀ r ∈ rows, ∀ x ∈ r, 0 ≤ x) (hr : ∀ k, 0 ≤ lfF dr k) (hll : left.length = n) (hl : ∀ k, k < n → 0 ≤ lfF left k) (hp : 0 ≤ pd)
    (hf : Feas rows.length n (cel rows) (plF ps) (lfF left)) : ∀ j, j ≤ n →
    Gr rows.length n (cel rows) (plF ps) (lfF dr) (lfF left) pd j (lfF (gSt rows ps n (pSets rows.length) dr left pd j).1) (lfF (gSt rows ps n (pSets rows.length) dr left pd j).2.1) (gSt rows ps n (pSets rows.length) dr left pd j).2.2
  | 0, _ => by
    have e : lfF (gSt rows ps n (pSets rows.length) dr left pd 0).1 = fun _ => 0 := funext fun k => rfl
    rw [e]
    exact Gr.start hl hr hp hf
  | j + 1, hj => by
    have g := gSt_gr hX hr hll hl hp hf j (by omega)
    obtain ⟨l1, l2⟩ := gSt_len rows ps n (pSets rows.length) dr left pd j
    rw [gSt_succ]
    generalize gSt rows ps n (pSets rows.length) dr left pd j = s at g l1 l2 ⊢
    obtain ⟨cts, lf, num⟩ := s
    have hlf : lf.length = n := l2.trans hll
    have h0 : ∀ k, 0 ≤ lfF lf k := fun k => by
      by_cases hk : k < n
      · exact (g.lf1 k hk).1
      · unfold lfF
        rw [List.getD_eq_getElem?_getD, List.getElem?_eq_none (by omega)]
        exact Int.le_refl _
    obtain ⟨v1, v2⟩ := spareV_ok (rows := rows) (ps := ps) (n := n) (left := lf) (kd := j) hlf (by omega) h0
    have := g.step (fun j k => cell_nn hX j k) hr (by omega) v1 v2
    show Gr _ _ _ _ _ _ _ _ (lfF (cts ++ [_])) (lfF (lf.set j _)) _
    rw [snocD l1, setF (by omega)]
    exact this
end DD
namespace DD
open PySem PySem.Spec PyProof.Rows L2 RZ DM
theorem sN_head {f : Nat → Int} : ∀ {m : Nat}, sN (m + 1) f = f 0 + sN m fun j => f (j + 1)
  | 0 => by show 0 + f 0 = f 0 + 0; omega
  | m + 1 => by
    have := sN_head (f := f) (m := m)
    show sN (m + 1) f + f (m + 1) = f 0 + (sN m (fun j => f (j + 1)) + f (m + 1))
    omega
theorem sI_head {S : Nat → Bool} {f : Nat → Int} {m : Nat} : sI (m + 1) S f = (if S 0 = true then f 0 else 0) + sI m (fun j => S (j + 1)) fun j => f (j + 1) := by
  unfold sI
  exact sN_head
/-- a drawer with one more set in front -/
def consS (b : Bool) (S : Nat → Bool) : Nat → Bool
  | 0 => b
  | j + 1 => S j
theorem feas_tail {m n : Nat} {X : Nat → Nat → Int} {p lf : Nat → Int} (h : Feas (m + 1) n X p lf) : Feas m n (fun j k => X (j + 1) k) (fun j => p (j + 1)) lf := fun S => by
  have := h (consS false S)
  unfold Rm at this
  rw [sI_head] at this
  have e : (sN n fun k => min (sI (m + 1) (consS false S) fun j => X j k) (lf k)) = sN n fun k => min (sI m S fun j => X (j + 1) k) (lf k) := sN_congr fun k _ => by
    rw [sI_head]
    show min ((if false = true then _ else 0) + sI m S fun j => X (j + 1) k) (lf k) = _
    rw [if_neg (by decide), Int.zero_add]
  rw [e] at this
  have e2 : (if consS false S 0 = true then p 0 else 0) = 0 := rfl
  rw [e2, Int.zero_add] at this
  exact this
theorem feas_head {m n : Nat} {X : Nat → Nat → Int} {p lf : Nat → Int} (h : Feas (m + 1) n X p lf) (S : Nat → Bool) : (sI m S fun j => p (j + 1)) + p 0 ≤ sN n fun k => min ((sI m S fun j => X (j + 1) k) + X 0 k) (lf k) := by
  have := h (consS true S)
  unfold Rm at this
  rw [sI_head] at this
  have e : (sN n fun k => min (sI (m + 1) (consS true S) fun j => X j k) (lf k)) = sN n fun k => min ((sI m S fun j => X (j + 1) k) + X 0 k) (lf k) := sN_congr fun k _ => by
    rw [sI_head]
    show min ((if true = true then X 0 k else 0) + sI m S fun j => X (j + 1) k) (lf k) = _
    rw [if_pos rfl, Int.add_comm]
  rw [e] at this
  have e2 : (if consS true S 0 = true then p 0 else 0) = p 0 := rfl
  rw [e2] at this
  show sI m S (fun j => p (j + 1)) + p 0 ≤ _
  have e3 : (sI m (fun j => consS true S (j + 1)) fun j => p (j + 1)) = sI m S fun j => p (j + 1) := rfl
  omega
theorem cel_drop (rows : List (List Int)) (q j k : Nat) : cel (rows.drop q) j k = cel rows (q + j) k := by
  unfold cel
  rw [List.getD_eq_getElem?_getD (l := rows.drop q), List.getElem?_drop, ← List.getD_eq_getElem?_getD]
theorem plF_drop (ps : List Int) (q j : Nat) : plF (ps.drop q) j = plF ps (q + j) := by
  unfold plF
  rw [List.getD_eq_getElem?_getD, List.getElem?_drop, ← List.getD_eq_getElem?_getD]
theorem feas_congr {m n : Nat} {X Y : Nat → Nat → Int} {p q lf : Nat → Int} (h : Feas m n X p lf) (e1 : ∀ j k, X j k = Y j k) (e2 : ∀ j, p j = q j) : Feas m n Y q lf := by
  have a : X = Y := funext fun j => funext fun k => e1 j k
  have b : p = q := funext e2
  rw [← a, ← b]
  exact h
/-- one drawer's counts within the caps -/
structure Dr (r : List Int) (n : Nat) (pd : Int) (cts : List Int) : Prop where
  len : cts.length = n
  bd : ∀ k, 0 ≤ lfF cts k ∧ (k < n → lfF cts k ≤ lfF r k)
  sum : cts.sum = pd
theorem sum_lfF {l : List Int} {n : Nat} (h : l.length = n) : l.sum = sN n (lfF l) := by
  rw [← sN_range]
  congr 1
  refine List.ext_getElem? fun i => ?_
  rw [List.getElem?_map]
  by_cases hi : i < n
  · rw [List.getElem?_range hi, getD_of (d := 0) (by omega)]
    rfl
  · rw [List.getElem?_eq_none (by omega), List.getElem?_eq_none (by rw [List.length_range]; omega)]
    rfl
/-- the state after q drawers -/
structure Wi (rows : List (List Int)) (ps : List Int) (n : Nat) (l0 : List Int) (q : Nat) (D : List (List Int)) (lf : List Int) : Prop where
  dl : D.length = q
  ll : lf.length = n
  dr : ∀ j, j < q → Dr (rows.getD j []) n (plF ps j) (D.getD j [])
  lf0 : ∀ k, k < n → 0 ≤ lfF lf k ∧ lfF lf k = lfF l0 k - sN q fun j => cel D j k
  fe : Feas (rows.length - q) n (fun j k => cel rows (q + j) k) (fun j => plF ps (q + j)) (lfF lf)
theorem wSt_ok {rows : List (List Int)} {ps : List Int} {n : Nat} {l0 : List Int} (hX : ∀ r ∈ rows, ∀ x ∈ r, 0 ≤ x) (hp : ∀ j, 0 ≤ plF ps j) (hll : l0.length = n) (hl : ∀ k, k < n → 0 ≤ lfF l0 k)
    (hf : Feas rows.length n (cel rows) (plF ps) (lfF l0)) : ∀ q, q ≤ rows.length → Wi rows ps n l0 q (wSt rows ps n l0 q).1 (wSt rows ps n l0 q).2
  | 0, _ => ⟨rfl, hll, fun j h => absurd h (Nat.not_lt_zero _), fun k hk => ⟨hl k hk, by show lfF l0 k = lfF l0 k - 0; omega⟩, feas_congr hf (fun j k => by rw [Nat.zero_add]) fun j => by rw [Nat.zero_add]⟩
  | q + 1, hq => by
    have w := wSt_ok hX hp hll hl hf q (by omega)
    generalize hs : wSt rows ps n l0 q = s at w
    obtain ⟨D, lf⟩ := s
    have e1 : wSt rows ps n l0 (q + 1) = (D ++ [(gSt (rows.drop (q + 1)) (ps.drop (q + 1)) n (pSets (rows.length - (q + 1))) (rows.getD q []) lf (ps.getD q 0) n).1], (gSt (rows.drop (q + 1)) (ps.drop (q + 1)) n (pSets (rows.length - (q + 1))) (rows.getD q []) lf (ps.getD q 0) n).2.1) := by
      show ((wSt rows ps n l0 q).1 ++ _, _) = _
      rw [hs]
    rw [e1]
    have hm : rows.length - q = (rows.length - (q + 1)) + 1 := by omega
    have fe := w.fe
    rw [hm] at fe
    have ft := feas_tail fe
    have hdl : (rows.drop (q + 1)).length = rows.length - (q + 1) := List.length_drop
    have ft2 : Feas (rows.drop (q + 1)).length n (cel (rows.drop (q + 1))) (plF (ps.drop (q + 1))) (lfF lf) := by
      rw [hdl]
      exact feas_congr ft (fun j k => by rw [cel_drop]; congr 1; omega) fun j => by rw [plF_drop]; congr 1; omega
    have hrq : ∀ k, 0 ≤ lfF (rows.getD q []) k := fun k => cell_nn hX q k
    have g := gSt_gr (rows := rows.drop (q + 1)) (ps := ps.drop (q + 1)) (n := n) (dr := rows.getD q []) (left := lf) (pd := ps.getD q 0) (fun r hr x hx => hX r (List.mem_of_mem_drop hr) x hx) hrq w.ll (fun k hk => (w.lf0 k hk).1) (hp q) ft2 n (Nat.le_refl _)
    obtain ⟨l1, l2⟩ := gSt_len (rows.drop (q + 1)) (ps.drop (q + 1)) n (pSets (rows.length - (q + 1))) (rows.getD q []) lf (ps.getD q 0) n
    rw [hdl] at g
    generalize gSt (rows.drop (q + 1)) (ps.drop (q + 1)) n (pSets (rows.length - (q + 1))) (rows.getD q []) lf (ps.getD q 0) n = s at g l1 l2 ⊢
    obtain ⟨cts, lf', num⟩ := s
    have l1 : cts.length = n := l1
    have hnum : num = 0 := g.done fun S => by
      have h := feas_head fe S
      have a1 : (sI (rows.length - (q + 1)) S (plF (ps.drop (q + 1)))) = sI (rows.length - (q + 1)) S fun j => plF ps (q + (j + 1)) := by
        congr 1
        exact funext fun j => by rw [plF_drop]; congr 1; omega
      have a2 : (sN n fun k => min ((sI (rows.length - (q + 1)) S fun j => cel (rows.drop (q + 1)) j k) + lfF (rows.getD q []) k) (lfF lf k)) = sN n fun k => min ((sI (rows.length - (q + 1)) S fun j => cel rows (q + (j + 1)) k) + cel rows (q + 0) k) (lfF lf k) := by
        refine sN_congr fun k _ => ?_
        have b1 : (sI (rows.length - (q + 1)) S fun j => cel (rows.drop (q + 1)) j k) = sI (rows.length - (q + 1)) S fun j => cel rows (q + (j + 1)) k := by
          congr 1
          exact funext fun j => by rw [cel_drop]; congr 1; omega
        rw [b1]
        rfl
      rw [a1, a2]
      exact h
    have hsum : cts.sum = ps.getD q 0 := by
      have := g.nm
      rw [sum_lfF l1]
      have h2 : num = ps.getD q 0 - sN n (lfF cts) := this
      omega
    have gD : ∀ j, (D ++ [cts]).getD j [] = if j = q then cts else D.getD j [] := fun j => by
      rw [List.getD_eq_getElem?_getD]
      by_cases e : j = q
      · rw [if_pos e, e, ← w.dl, List.getElem?_append_right (Nat.le_refl _), Nat.sub_self]
        rfl
      · rw [if_neg e, List.getD_eq_getElem?_getD]
        by_cases hj : j < D.length
        · rw [List.getElem?_append_left hj]
        · have wdl : D.length = q := w.dl
          rw [List.getElem?_eq_none (by rw [List.length_append]; simp only [List.length_cons, List.length_nil]; omega), List.getElem?_eq_none (by omega)]
    refine ⟨by rw [List.length_append, w.dl]; rfl, l2.trans w.ll, fun j hj => ?_, fun k hk => ?_, ?_⟩
    · rw [gD]
      by_cases e : j = q
      · rw [if_pos e, e]
        exact ⟨l1, fun k => g.cb k, hsum⟩
      · rw [if_neg e]
        exact w.dr j (by omega)
    · have h1 := g.lf1 k hk
      have h2 : 0 ≤ lfF lf k ∧ lfF lf k = lfF l0 k - sN q fun j => cel D j k := w.lf0 k hk
      refine ⟨h1.1, ?_⟩
      have e2 : (sN (q + 1) fun j => cel (D ++ [cts]) j k) = (sN q fun j => cel D j k) + lfF cts k := by
        show (sN q fun j => cel (D ++ [cts]) j k) + cel (D ++ [cts]) q k = _
        have c1 : cel (D ++ [cts]) q k = lfF cts k := by
          unfold cel
          rw [gD, if_pos rfl]
          rfl
        rw [c1]
        congr 1
        refine sN_congr fun j hj => ?_
        unfold cel
        rw [gD, if_neg (by omega)]
      rw [e2]
      have := h1.2
      show lfF lf' k = _
      have h3 : lfF lf' k = lfF lf k - lfF cts k := h1.2
      omega
    · have fe2 : Feas (rows.length - (q + 1)) n (cel (rows.drop (q + 1))) (plF (ps.drop (q + 1))) (lfF lf') := g.fe
      exact feas_congr fe2 (fun j k => by rw [cel_drop]) fun j => by rw [plF_drop]
end DD
namespace DD
open PySem PySem.Spec PyProof.Rows L2 RZ DM
/-- a draw of a plan -/
structure IsDr (rows : List (List Int)) (ps : List Int) (n : Nat) (D : List (List Int)) : Prop where
  len : D.length = rows.length
  dr : ∀ j, j < rows.length → Dr (rows.getD j []) n (plF ps j) (D.getD j [])
theorem tot_fun {D : List (List Int)} {n k : Nat} (h : k < n) : (totalsOf D n).getD k 0 = sN D.length fun j => cel D j k := by
  rw [tot_colS, List.getD_eq_getElem?_getD, List.getElem?_map, List.getElem?_range h]
  show ((List.range D.length).map fun j => (D.getD j []).getD k 0).sum = _
  rw [sN_range]
  rfl
theorem left0_get {rows : List (List Int)} {n k : Nat} {cs : List (Option Int)} (hc : cs.length = n) (h : k < n) : lfF (left0 rows n cs) k = capl ((totalsOf rows n).getD k 0) (cs.getD k none) := by
  unfold lfF left0
  rw [List.getD_eq_getElem?_getD, List.getElem?_zipWith, getD_of (d := 0) (show k < (totalsOf rows n).length by rw [tot_len]; exact h), getD_of (d := none) (show k < cs.length by omega)]
  rfl
theorem left0_len {rows : List (List Int)} {n : Nat} {cs : List (Option Int)} (hc : cs.length = n) : (left0 rows n cs).length = n := by
  unfold left0
  rw [List.length_zipWith, tot_len]
  omega
theorem sI_full {m : Nat} {f : Nat → Int} : sI m (fun _ => true) f = sN m f := by
  unfold sI
  exact sN_congr fun k _ => if_pos rfl
theorem drawOf_ok {rows : List (List Int)} {ps : List Int} {n : Nat} {cs : List (Option Int)} (hX : ∀ r ∈ rows, ∀ x ∈ r, 0 ≤ x) (hp : ∀ j, 0 ≤ plF ps j) (hc : cs.length = n) (h0 : ∀ c, some c ∈ cs → 0 ≤ c)
    (hov : ∀ d ∈ pSets rows.length, ovB rows ps n cs d = false) : IsDr rows ps n (drawOf rows ps n cs) ∧ ∀ k, k < n → (sN rows.length fun j => cel (drawOf rows ps n cs) j k) ≤ lfF (left0 rows n cs) k := by
  have capnn : ∀ k c, cs.getD k none = some c → 0 ≤ c := fun k c e => by
    rw [List.getD_eq_getElem?_getD] at e
    cases e2 : cs[k]? with
    | none => rw [e2] at e; cases e
    | some o =>
      rw [e2] at e
      have e : o = some c := e
      rw [e] at e2
      exact h0 c (List.mem_of_getElem? e2)
  have tnn : ∀ k, 0 ≤ sN rows.length fun j => cel rows j k := fun k => by
    rw [← sI_full]
    exact sI_nn fun j => cell_nn hX j k
  have hl0 : ∀ k, k < n → 0 ≤ lfF (left0 rows n cs) k := fun k hk => by
    rw [left0_get hc hk, tot_fun hk]
    cases e : cs.getD k none with
    | none => exact tnn k
    | some c => exact capnn k c e
  have hf : Feas rows.length n (cel rows) (plF ps) (lfF (left0 rows n cs)) := fun S => by
    have hS := filt_mem S rows.length
    have h1 : decide (takenOf ps ((List.range rows.length).filter S) > roomS rows n cs ((List.range rows.length).filter S)) = false := hov _ hS
    have h1 := of_decide_eq_false h1
    have e1 : takenOf ps ((List.range rows.length).filter S) = sI rows.length S (plF ps) := filt_sum
    rw [e1, roomS_eq hc h0, sN_range] at h1
    have h2 : sN n (rk rows cs ((List.range rows.length).filter S)) ≤ Rm rows.length n (cel rows) (lfF (left0 rows n cs)) S := sN_le fun k hk => by
      have e2 : colS rows ((List.range rows.length).filter S) k = sI rows.length S fun j => cel rows j k := filt_sum
      unfold rk
      rw [e2, left0_get hc hk, tot_fun hk]
      cases e : cs.getD k none with
      | none =>
        show sI rows.length S (fun j => cel rows j k) ≤ min _ (sN rows.length fun j => cel rows j k)
        have := sI_sub (m := rows.length) (S := S) (T := fun _ => true) (f := fun j => cel rows j k) (fun j => cell_nn hX j k) fun _ _ => rfl
        rw [sI_full] at this
        omega
      | some c =>
        rw [capv_min]
        exact Int.le_refl _
    omega
  have w := wSt_ok hX hp (left0_len hc) hl0 hf rows.length (Nat.le_refl _)
  refine ⟨⟨w.dl, w.dr⟩, fun k hk => ?_⟩
  have h3 := w.lf0 k hk
  show (sN rows.length fun j => cel (wSt rows ps n (left0 rows n cs) rows.length).1 j k) ≤ _
  omega
/-- a draw within the caps of a spoiling fulfils nothing -/
theorem kept_draw {rows ws : List (List Int)} {D : List (List Int)} {n : Nat} {s : List Int} (hD : D.length = rows.length) (h : ∀ k, k < n → (sN rows.length fun j => cel D j k) ≤ lfF (left0 rows n (capsOf ws s n)) k) : keptB (capsOf ws s n) (totalsOf D n) = true :=
  kept_iff.mpr fun i v x e1 e2 => by
    have hin : i < n := by
      have := (List.getElem?_eq_some_iff.mp e1).1
      rw [caps_len] at this
      exact this
    have h1 := h i hin
    rw [left0_get (caps_len _ _ _) hin] at h1
    have e3 : (capsOf ws s n).getD i none = some v := by
      rw [List.getD_eq_getElem?_getD, e1]
      rfl
    have e4 : (totalsOf D n).getD i 0 = x := by
      rw [List.getD_eq_getElem?_getD, e2]
      rfl
    rw [e3] at h1
    rw [tot_fun hin, hD] at e4
    have h1 : (sN rows.length fun j => cel D j i) ≤ v := h1
    omega
theorem sI_swap {m n : Nat} {S : Nat → Bool} {F : Nat → Nat → Int} : sI m S (fun j => sN n (F j)) = sN n fun k => sI m S fun j => F j k := by
  induction m with
  | zero => exact sN_zero.symm
  | succ m ih =>
    show sI m S (fun j => sN n (F j)) + (if S m = true then sN n (F m) else 0) = sN n fun k => (sI m S fun j => F j k) + if S m = true then F m k else 0
    rw [ih, sN_add]
    congr 1
    by_cases h : S m = true
    · rw [if_pos h]
      exact sN_congr fun k _ => (if_pos h).symm
    · rw [if_neg h]
      exact (sN_zero (n := n)).symm.trans (sN_congr fun k _ => (if_neg h).symm)
theorem dr_tot_nn {rows : List (List Int)} {ps : List Int} {n : Nat} {D : List (List Int)} (d : IsDr rows ps n D) : ∀ x ∈ totalsOf D n, 0 ≤ x := fun x hx => by
  obtain ⟨k, hk⟩ := List.mem_iff_getElem?.mp hx
  have hkn : k < n := by
    have := (List.getElem?_eq_some_iff.mp hk).1
    rw [tot_len] at this
    exact this
  have e : (totalsOf D n).getD k 0 = x := by
    rw [List.getD_eq_getElem?_getD, hk]
    rfl
  rw [← e, tot_fun hkn]
  have := sN_le (n := D.length) (f := fun _ => 0) (g := fun j => cel D j k) fun j hj => ((d.dr j (by rw [← d.len]; exact hj)).bd k).1
  rw [sN_zero] at this
  exact this
/-- a table excludes every draw -/
theorem tab_draw {rows ws : List (List Int)} {ps : List Int} {n : Nat} {D : List (List Int)} (hX : ∀ r ∈ rows, ∀ x ∈ r, 0 ≤ x) (hg : ∀ r ∈ ws, r.length = n) (ht : tabB rows ws ps n = true) (d : IsDr rows ps n D) : fulOf ws (totalsOf D n) ≠ none := fun hf => by
  obtain ⟨s, hs, hk⟩ := (ful_kept hg (tot_len _ _) (dr_tot_nn d)).mp hf
  have hk := kept_iff.mp hk
  obtain ⟨S, hS, ho⟩ := List.any_eq_true.mp (List.all_eq_true.mp ht s hs)
  have ho : decide (takenOf ps S > roomS rows n (capsOf ws s n) S) = true := ho
  have ho := of_decide_eq_true ho
  rw [roomS_eq (caps_len _ _ _) (caps_nn hs), sN_range] at ho
  have hSm := (ps_bd hS).2.2
  have e1 : takenOf ps S = sI rows.length (fun j => S.contains j) (plF ps) := pset_sum hS
  have e2 : sI rows.length (fun j => S.contains j) (plF ps) = sI rows.length (fun j => S.contains j) fun j => sN n (lfF (D.getD j [])) := by
    unfold sI
    refine sN_congr fun j hj => ?_
    have := d.dr j hj
    rw [← this.sum, sum_lfF this.len]
  rw [e1, e2, sI_swap] at ho
  have h1 : (sN n fun k => sI rows.length (fun j => S.contains j) fun j => lfF (D.getD j []) k) ≤ sN n (rk rows (capsOf ws s n) S) := sN_le fun k hkn => by
    have e3 : colS rows S k = sI rows.length (fun j => S.contains j) fun j => cel rows j k := pset_sum hS
    unfold rk
    rw [e3]
    have h2 : (sI rows.length (fun j => S.contains j) fun j => lfF (D.getD j []) k) ≤ sI rows.length (fun j => S.contains j) fun j => cel rows j k := sN_le fun j hj => by
      have := ((d.dr j hj).bd k).2 hkn
      have h3 : lfF (D.getD j []) k ≤ cel rows j k := this
      show (if _ then _ else _) ≤ if _ then _ else _
      split <;> omega
    cases e : (capsOf ws s n).getD k none with
    | none => exact h2
    | some c =>
      rw [capv_min]
      have h4 : (sI rows.length (fun j => S.contains j) fun j => lfF (D.getD j []) k) ≤ sN rows.length fun j => cel D j k := sN_le fun j hj => by
        have := ((d.dr j hj).bd k).1
        have h3 : 0 ≤ cel D j k := this
        have e5 : cel D j k = lfF (D.getD j []) k := rfl
        show (if S.contains j = true then lfF (D.getD j []) k else 0) ≤ cel D j k
        split <;> omega
      have e6 : (capsOf ws s n)[k]? = some (some c) := by
        rw [getD_of (d := none) (show k < (capsOf ws s n).length by rw [caps_len]; exact hkn), e]
      have h5 := hk k c _ e6 (getD_of (d := 0) (show k < (totalsOf D n).length by rw [tot_len]; exact hkn))
      rw [tot_fun hkn, d.len] at h5
      omega
  omega
/-- without a table the certificate shows a draw that fulfils nothing -/
theorem free_draw {rows ws : List (List Int)} {ps : List Int} {n i : Nat} {sp : List Int} (hX : ∀ r ∈ rows, ∀ x ∈ r, 0 ≤ x) (hp : ∀ j, 0 ≤ plF ps j) (hg : ∀ r ∈ ws, r.length = n) (h : FreeAt rows ws ps n i sp) :
    IsDr rows ps n (drawOf rows ps n (capsOf ws sp n)) ∧ fulOf ws (totalsOf (drawOf rows ps n (capsOf ws sp n)) n) = none := by
  have hs := List.mem_of_getElem? h.1
  obtain ⟨d, hk⟩ := drawOf_ok hX hp (caps_len ws sp n) (caps_nn hs) h.2.1
  exact ⟨d, (ful_kept hg (tot_len _ _) (dr_tot_nn d)).mpr ⟨sp, hs, kept_draw d.len hk⟩⟩
theorem find_first {α : Type} {p : α → Bool} : ∀ {l : List α}, l.all p = false → ∃ (i : Nat) (x : α), l[i]? = some x ∧ p x = false ∧ ∀ y ∈ l.take i, p y = true
  | [], h => by simp at h
  | x :: xs, h => by
    by_cases e : p x = true
    · have h2 : xs.all p = false := by
        rw [List.all_cons, e] at h
        simpa using h
      obtain ⟨i, y, h3, h4, h5⟩ := find_first h2
      exact ⟨i + 1, y, h3, h4, fun z hz => by
        rcases List.mem_cons.mp (show z ∈ x :: xs.take i from hz) with rfl | hz
        · exact e
        · exact h5 z hz⟩
    · exact ⟨0, x, rfl, Bool.eq_false_iff.mpr e, fun y hy => by simp at hy⟩
theorem tab_free {rows ws : List (List Int)} {ps : List Int} {n : Nat} (h : tabB rows ws ps n = false) : ∃ i sp, FreeAt rows ws ps n i sp := by
  obtain ⟨i, sp, h1, h2, h3⟩ := find_first h
  exact ⟨i, sp, h1, fun d hd => Bool.eq_false_iff.mpr fun e => Bool.eq_false_iff.mp h2 (List.any_eq_true.mpr ⟨d, hd, e⟩), h3⟩
/-- a plan is sure exactly if each of its draws fulfils the wish -/
theorem tab_iff {rows ws : List (List Int)} {ps : List Int} {n : Nat} (hX : ∀ r ∈ rows, ∀ x ∈ r, 0 ≤ x) (hp : ∀ j, 0 ≤ plF ps j) (hg : ∀ r ∈ ws, r.length = n) :
    tabB rows ws ps n = true ↔ ∀ D, IsDr rows ps n D → fulOf ws (totalsOf D n) ≠ none := by
  refine ⟨fun h D d => tab_draw hX hg h d, fun h => ?_⟩
  cases e : tabB rows ws ps n with
  | true => rfl
  | false =>
    obtain ⟨i, sp, f⟩ := tab_free e
    obtain ⟨d, hf⟩ := free_draw hX hp hg f
    exact absurd hf (h _ d)
end DD
namespace DD
open PySem PySem.Spec PyProof.Rows L2 RZ DM
def natsI (ds : List Nat) : List Int := ds.map fun j : Nat => (j : Int)
theorem natsV_eq (ds : List Nat) : natsV ds = (natsI ds).map V.int := by
  unfold natsV natsI
  rw [List.map_map]
  rfl
theorem sm_nats {ds : List Nat} (h : ∀ j ∈ ds, j < 4) (hl : ds.length ≤ 4) : Sm 56 1 (rowD (natsI ds)) := by
  refine sm_row (fun x hx => ?_) (by unfold natsI; rw [List.length_map]; exact hl)
  obtain ⟨j, hj, rfl⟩ := List.mem_map.mp hx
  have := h j hj
  omega
theorem SetsAt.dps {K : PySem.W.Frag} {H : Hp} {n : Nat} : ∀ {as : List Addr} {dss : List (List Nat)}, SetsAt H as dss n → DpAll K H (as.map V.ref) (dss.map fun ds => rowD (natsI ds))
  | [], [], _ => .nil
  | [], _ :: _, a => by have := a.len; simp at this
  | _ :: _, [], a => by have := a.len; simp at this
  | x :: as, ds :: dss, a => .cons (dp_row (by rw [← natsV_eq]; exact a.at_ 0 x ds rfl rfl)) (SetsAt.dps ⟨by have := a.len; simpa using this, fun j l r e1 e2 => a.at_ (j + 1) l r e1 e2, fun d hd => a.bd d (List.mem_cons_of_mem _ hd)⟩)
/-- the first overfull drawers -/
def fsF (rows ws : List (List Int)) (ps : List Int) (n : Nat) (sp : List Int) : List Nat := ((pSets rows.length).find? (ovB rows ps n (capsOf ws sp n))).getD []
/-- the first spoiling without overfull drawers -/
def freeSp (rows ws : List (List Int)) (ps : List Int) (n : Nat) : List Int := ((spOf ws).find? fun sp => !(pSets rows.length).any (ovB rows ps n (capsOf ws sp n))).getD []
/-- the certificate as data -/
def certD (rows ws : List (List Int)) (ps : List Int) (n : Nat) : PyData := if tabB rows ws ps n = true then .tuple [.str "table", .tuple ((spOf ws).map fun sp => rowD (natsI (fsF rows ws ps n sp)))] else .tuple [.str "draw", stockD (drawOf rows ps n (capsOf ws (freeSp rows ws ps n) n))]
def certW (b : Bool) : Str := if b = true then "table" else "draw"
theorem FreeAt.sp_eq {rows ws : List (List Int)} {ps : List Int} {n i : Nat} {sp : List Int} (h : FreeAt rows ws ps n i sp) : sp = freeSp rows ws ps n := by
  unfold freeSp
  rw [find_at (l := spOf ws) h.1 (fun y hy => by rw [h.2.2 y hy]; rfl) (by
    have : (pSets rows.length).any (ovB rows ps n (capsOf ws sp n)) = false := List.any_eq_false.mpr fun d hd => by rw [h.2.1 d hd]; decide
    rw [this]
    rfl)]
  rfl
theorem TabAt.sets {H : Hp} {rows ws : List (List Int)} {ps : List Int} {n : Nat} {as : List Addr} {dss : List (List Nat)} (a : TabAt H rows ws ps n as dss (spOf ws).length) (h4 : rows.length ≤ 4) : dss = (spOf ws).map (fsF rows ws ps n) ∧ SetsAt H as dss rows.length := by
  have l1 := a.l1
  have l2 := a.l2
  refine ⟨List.ext_getElem? fun j => ?_, by rw [l1, l2], fun j x ds e1 e2 => ?_, fun ds hds => ?_⟩
  · by_cases hj : j < (spOf ws).length
    · have e1 := getD_of (d := 0) (show j < as.length by omega)
      have e2 := getD_of (d := []) (show j < dss.length by omega)
      have e3 := getD_of (d := []) hj
      have h := (a.at_ j _ _ _ e1 e2 e3).2.2.2
      rw [List.getElem?_map, e2, e3]
      show some (dss.getD j []) = some (fsF rows ws ps n ((spOf ws).getD j []))
      unfold fsF
      rw [h]
      rfl
    · rw [List.getElem?_eq_none (by omega), List.getElem?_eq_none (by rw [List.length_map]; omega)]
  · have hj := (List.getElem?_eq_some_iff.mp e2).1
    exact (a.at_ j x ds _ e1 e2 (getD_of (d := []) (show j < (spOf ws).length by omega))).1
  · obtain ⟨j, hj⟩ := List.mem_iff_getElem?.mp hds
    have hjl := (List.getElem?_eq_some_iff.mp hj).1
    have h := (a.at_ j _ ds _ (getD_of (d := 0) (show j < as.length by omega)) hj (getD_of (d := []) (show j < (spOf ws).length by omega))).2.1
    have h2 := ps_bd h
    exact ⟨by omega, h2.2.2⟩
/-- what find_certificate returns, exactly -/
def CertX (H : Hp) (r : Addr) (rows ws : List (List Int)) (ps : List Int) (n : Nat) : Prop :=
  (∃ (D : Addr) (ds : List Addr) (i : Nat) (sp : List Int), H r = some (.tup [.str "draw", .ref D]) ∧ StockAt H D ds (drawOf rows ps n (capsOf ws sp n)) ∧ FreeAt rows ws ps n i sp) ∨
  (∃ (D : Addr) (as : List Addr) (dss : List (List Nat)), H r = some (.tup [.str "table", .ref D]) ∧ H D = some (.tup (as.map V.ref)) ∧ TabAt H rows ws ps n as dss (spOf ws).length)
section
variable {H H' : Hp} {r : Addr} {rows ws : List (List Int)} {ps : List Int} {n : Nat}
theorem CertX.same (h : CertX H r rows ws ps n) (s : Same H H') : CertX H' r rows ws ps n := by
  rcases h with ⟨D, ds, i, sp, h1, h2, h3⟩ | ⟨D, as, dss, h1, h2, h3⟩
  · exact .inl ⟨D, ds, i, sp, s _ _ h1, h2.same s, h3⟩
  · exact .inr ⟨D, as, dss, s _ _ h1, s _ _ h2, h3.tk fun b xs e => s _ _ e⟩
theorem CertX.word (h : CertX H r rows ws ps n) : ∃ D, H r = some (.tup [.str (certW (tabB rows ws ps n)), .ref D]) := by
  rcases h with ⟨D, ds, i, sp, h1, h2, h3⟩ | ⟨D, as, dss, h1, h2, h3⟩
  · rw [free_tab h3]
    exact ⟨D, h1⟩
  · rw [h3.tab]
    exact ⟨D, h1⟩
theorem CertX.dp {K : PySem.W.Frag} (h : CertX H r rows ws ps n) (h4 : rows.length ≤ 4) : Dp K H (.ref r) (certD rows ws ps n) := by
  unfold certD
  rcases h with ⟨D, ds, i, sp, h1, h2, h3⟩ | ⟨D, as, dss, h1, h2, h3⟩
  · rw [free_tab h3, if_neg (by decide), ← h3.sp_eq]
    exact .tup (SqT.of h1) (.cons (.str _) (.cons h2.dp .nil))
  · rw [h3.tab, if_pos rfl]
    obtain ⟨e, s⟩ := h3.sets h4
    refine .tup (SqT.of h1) (.cons (.str _) (.cons (.tup (SqT.of h2) ?_) .nil))
    have := s.dps (K := K)
    rw [e, List.map_map] at this
    exact this
theorem sm_cert (hX : ∀ r ∈ rows, ∀ x ∈ r, 0 ≤ x ∧ x ≤ 50) (hp : ∀ j, 0 ≤ plF ps j) (hg : ∀ r ∈ ws, r.length = n) (hn : n ≤ 4) (h4 : rows.length ≤ 4) (hl : ws.length ≤ 4) : Sm 40000 10 (certD rows ws ps n) := by
  unfold certD
  cases e : tabB rows ws ps n with
  | true =>
    rw [if_pos rfl]
    have h256 := sp_len (ws := ws) (fun r hr => by rw [hg r hr]; exact hn) hl
    have a : SmA ((spOf ws).map fun sp => rowD (natsI (fsF rows ws ps n sp))).length 56 1 ((spOf ws).map fun sp => rowD (natsI (fsF rows ws ps n sp))) := SmA.all fun d hd => by
      obtain ⟨sp, _, rfl⟩ := List.mem_map.mp hd
      unfold fsF
      cases e2 : (pSets rows.length).find? (ovB rows ps n (capsOf ws sp n)) with
      | none => exact sm_nats (fun j hj => by cases hj) (by decide)
      | some d =>
        have h2 := ps_bd (List.mem_of_find?_eq_some e2)
        exact sm_nats (fun j hj => by have := h2.2.2 j hj; omega) (by show d.length ≤ 4; omega)
    rw [List.length_map] at a
    have b : SmA (0 + 1 + 1) 14592 2 [.str "table", .tuple ((spOf ws).map fun sp => rowD (natsI (fsF rows ws ps n sp)))] := SmA.cons ((sm_lit (by decide +kernel) (by decide +kernel)).up (by decide) (by decide)) (SmA.cons (a.tup.up (by omega) (Nat.le_refl _)) SmA.nil)
    exact b.tup.up (by decide) (by decide)
  | false =>
    rw [if_neg (by decide)]
    obtain ⟨i, sp, f⟩ := tab_free e
    obtain ⟨d, _⟩ := free_draw (fun r hr x hx => (hX r hr x hx).1) hp hg f
    rw [← f.sp_eq]
    generalize drawOf rows ps n (capsOf ws sp n) = D at d ⊢
    have hdl := d.len
    have b : SmA (0 + 1 + 1) 228 2 [.str "draw", stockD D] := SmA.cons ((sm_lit (by decide +kernel) (by decide +kernel)).up (by decide) (by decide)) (SmA.cons (sm_stock (fun r hr => ?_) (by omega)) SmA.nil)
    · exact b.tup.up (by decide) (by decide)
    · obtain ⟨j, hj⟩ := List.mem_iff_getElem?.mp hr
      have hjl := (List.getElem?_eq_some_iff.mp hj).1
      have e1 : D.getD j [] = r := by rw [List.getD_eq_getElem?_getD, hj]; rfl
      have hd := d.dr j (by omega)
      rw [e1] at hd
      have hl := hd.len
      refine ⟨by omega, fun x hx => ?_⟩
      obtain ⟨k, hk⟩ := List.mem_iff_getElem?.mp hx
      have hkl := (List.getElem?_eq_some_iff.mp hk).1
      have e2 : r.getD k 0 = x := by rw [List.getD_eq_getElem?_getD, hk]; rfl
      have hb : 0 ≤ r.getD k 0 ∧ (k < n → r.getD k 0 ≤ (rows.getD j []).getD k 0) := hd.bd k
      have h50 := getD_bd (b := 50) (fun x hx => hX _ (List.mem_of_getElem? (getD_of (d := []) (show j < rows.length by omega))) x hx) (by decide) k
      have := hb.2 (by omega)
      omega
end
end DD
namespace DD
open PySem PySem.Spec PyProof.Rows L2 RZ DM
theorem ty_int {K : PySem.W.Frag} {H : Hp} (i : Int) : ∃ t : Value, TyX K H (.int i) t ∧ PySem.W.kitOne K t (.type "int") = some true ∧ PySem.W.kitOne K t (.type "bool") = some false := ⟨_, .base (.int i), kit_ty (a := "int") (r := true) (by decide +kernel), kit_ty (a := "int") (r := false) (by decide +kernel)⟩
theorem ty_tup {K : PySem.W.Frag} {H : Hp} {a : Addr} {xs : List V} (h : H a = some (.tup xs)) : ∃ t : Value, TyX K H (.ref a) t ∧ PySem.W.kitOne K t (.type "tuple") = some true := ⟨_, .base (.tup h), kit_ty (a := "tuple") (r := true) (by decide +kernel)⟩
def inB (m x : Int) : Bool := decide (0 ≤ x) && decide (x ≤ m)
theorem all_take {α : Type} {p : α → Bool} {xs : List α} : (xs.map p).all id = xs.all p := by
  rw [List.all_map]
  rfl
theorem sc_n : FnScope ["value"] ["value"] (defScope sIsNum) := ⟨rfl, rfl, rfl, by decide +kernel, rfl, by decide +kernel, by decide +kernel⟩
theorem sc_u : FnScope ["value", "most"] ["value", "most"] (defScope sUpTo) := ⟨rfl, rfl, rfl, by decide +kernel, rfl, by decide +kernel, by decide +kernel⟩
theorem sc_tu : FnScope ["value", "fewest", "most"] ["value", "fewest", "most"] (defScope sTupOf) := ⟨rfl, rfl, rfl, by decide +kernel, rfl, by decide +kernel, by decide +kernel⟩
theorem sc_a : FnScope ["value", "fewest", "most", "limit", "number"] ["value", "fewest", "most", "limit"] (defScope sNums) := ⟨rfl, rfl, rfl, by decide +kernel, rfl, by decide +kernel, by decide +kernel⟩
theorem sc_au : FnScope ["value", "limits", "number", "limit"] ["value", "limits"] (defScope sNumsUp) := ⟨rfl, rfl, rfl, by decide +kernel, rfl, by decide +kernel, by decide +kernel⟩
section
variable {P : Program} {w : World} {K : PySem.W.Frag} {mg : Str → Option Value} {base : Heap}
def spN : Sp := fun vs H Q _ => ∃ v : Int, vs = [.int v] ∧ Q (.bl true) H
def spU : Sp := fun vs H Q _ => ∃ v m : Int, vs = [.int v, .int m] ∧ Q (.bl (inB m v)) H
def spTu : Sp := fun vs H Q _ => ∃ (a : Addr) (xs : List V) (lo hi : Int), vs = [.ref a, .int lo, .int hi] ∧ H a = some (.tup xs) ∧ Q (.bl (decide (lo ≤ xs.length) && decide ((xs.length : Int) ≤ hi))) H
def spA : Sp := fun vs H Q _ => ∃ (a : Addr) (xs : List Int) (lo hi m : Int), vs = [.ref a, .int lo, .int hi, .int m] ∧ H a = some (.tup (xs.map V.int)) ∧ xs.length ≤ 1000 ∧ ∀ H', Same H H' → Q (.bl ((decide (lo ≤ xs.length) && decide ((xs.length : Int) ≤ hi)) && xs.all (inB m))) H'
def spAu : Sp := fun vs H Q _ => ∃ (a b : Addr) (xs ls : List Int), vs = [.ref a, .ref b] ∧ H a = some (.tup (xs.map V.int)) ∧ H b = some (.tup (ls.map V.int)) ∧ xs.length ≤ 1000 ∧ ∀ H', Same H H' → Q (.bl (decide (xs.length = ls.length) && (List.zipWith (fun x l => inB l x) xs ls).all id)) H'
theorem ok_n {f fN fU fV fTu fA fEr fO fSz fWm fWi fCs fCn fFu fCo fSp fCa fR fSt fAu fIp fI fFc fLo fSo fOv fDw fSv fSm : Addr} {fd dN dU dV dTu dA dEr dO dSz dWm dWi dCs dCn dFu dCo dSp dCa dR dSt dAu dIp dI dFc dLo dSo dOv dDw dSv dSm : FuncData} {k : Nat} (F : Fun K "is_number" "is_number" sIsNum f fd) (T : Tx K mg fN fU fV fTu fA fEr fO fSz fWm fWi fCs fCn fFu fCo fSp fCa fR fSt fAu fIp fI fFc fLo fSo fOv fDw fSv fSm dN dU dV dTu dA dEr dO dSz dWm dWi dCs dCn dFu dCo dSp dCa dR dSt dAu dIp dI dFc dLo dSo dOv dDw dSv dSm) :
    FnOk P w K mg base CX0 (k + 1) f fd ["value"] spN := by
  refine F.ok sc_n (fun vs H Q E h => ?_) (fun cdv A outer s H vs Q E hr h => ?_)
  · obtain ⟨v, rfl, _⟩ := h
    rfl
  · obtain ⟨v, rfl, q⟩ := h
    refine ⟨_, (pss_one (ps_ret (pe_and (pe_callB (show CallR _ _ (rIsi K) from call_isi) (by rfl) T.m_isinstance (by decide +kernel) (pa_cons (pv 0) (pa_cons (pe_bltn (v := .ty "int") (by rfl) T.m_int (by decide +kernel) rfl) pa_nil))) (pe_one (pe_not (pe_callB (show CallR _ _ (rIsi K) from call_isi) (by rfl) T.m_isinstance (by decide +kernel) (pa_cons (pv 0) (pa_cons (pe_bltn (v := .ty "bool") (by rfl) T.m_bool (by decide +kernel) rfl) pa_nil)))))))), ?_⟩
    obtain ⟨t, tt, kI, kB⟩ := ty_int (K := K) (H := H) v
    refine ⟨.int v, rfl, _, _, _, _, _, rfl, .ty _, tt, kI, _, rfl, iteT ?_⟩
    exact ⟨.int v, rfl, _, _, _, _, _, rfl, .ty _, tt, kB, _, rfl, q⟩
theorem ok_u {f fN fU fV fTu fA fEr fO fSz fWm fWi fCs fCn fFu fCo fSp fCa fR fSt fAu fIp fI fFc fLo fSo fOv fDw fSv fSm : Addr} {fd dN dU dV dTu dA dEr dO dSz dWm dWi dCs dCn dFu dCo dSp dCa dR dSt dAu dIp dI dFc dLo dSo dOv dDw dSv dSm : FuncData} {k : Nat} (F : Fun K "is_number_up_to" "is_number_up_to" sUpTo f fd) (T : Tx K mg fN fU fV fTu fA fEr fO fSz fWm fWi fCs fCn fFu fCo fSp fCa fR fSt fAu fIp fI fFc fLo fSo fOv fDw fSv fSm dN dU dV dTu dA dEr dO dSz dWm dWi dCs dCn dFu dCo dSp dCa dR dSt dAu dIp dI dFc dLo dSo dOv dDw dSv dSm) :
    FnOk P w K mg base CX0 (k + 2) f fd ["value", "most"] spU := by
  have GN : FnOk P w K mg base CX0 (k + 1) fN dN ["value"] spN := ok_n T.N T
  refine F.ok sc_u (fun vs H Q E h => ?_) (fun cdv A outer s H vs Q E hr h => ?_)
  · obtain ⟨v, m, rfl, _⟩ := h
    rfl
  · obtain ⟨v, m, rfl, q⟩ := h
    refine ⟨_, (pss_one (ps_ret (pe_and (pe_call GN (hr.mono (by omega)) (by rfl) T.gN T.N.kp T.bN .nil pass0 (pa_cons (pv 0) pa_nil)) (pe_one (pe_chain op_le op_le pe_int (pv 0) (pv 1)))))), ?_⟩
    refine ⟨_, rfl, v, rfl, _, rfl, iteT ?_⟩
    refine ⟨_, rfl, 0, v, rfl, rfl, _, rfl, ite2 (fun e => ?_) (fun e => ?_)⟩
    · unfold inB at q
      rw [e, Bool.true_and] at q
      exact ⟨_, rfl, v, m, rfl, rfl, q⟩
    · unfold inB at q
      rw [Bool.eq_false_iff.mpr e, Bool.false_and] at q
      exact q
theorem ok_tu {f fN fU fV fTu fA fEr fO fSz fWm fWi fCs fCn fFu fCo fSp fCa fR fSt fAu fIp fI fFc fLo fSo fOv fDw fSv fSm : Addr} {fd dN dU dV dTu dA dEr dO dSz dWm dWi dCs dCn dFu dCo dSp dCa dR dSt dAu dIp dI dFc dLo dSo dOv dDw dSv dSm : FuncData} {k : Nat} (F : Fun K "is_tuple_of" "is_tuple_of" sTupOf f fd) (T : Tx K mg fN fU fV fTu fA fEr fO fSz fWm fWi fCs fCn fFu fCo fSp fCa fR fSt fAu fIp fI fFc fLo fSo fOv fDw fSv fSm dN dU dV dTu dA dEr dO dSz dWm dWi dCs dCn dFu dCo dSp dCa dR dSt dAu dIp dI dFc dLo dSo dOv dDw dSv dSm) :
    FnOk P w K mg base CX0 (k + 1) f fd ["value", "fewest", "most"] spTu := by
  refine F.ok sc_tu (fun vs H Q E h => ?_) (fun cdv A outer s H vs Q E hr h => ?_)
  · obtain ⟨a, xs, lo, hi, rfl, _⟩ := h
    rfl
  · obtain ⟨a, xs, lo, hi, rfl, ha, q⟩ := h
    refine ⟨_, (pss_one (ps_ret (pe_and (pe_callB (show CallR _ _ (rIsi K) from call_isi) (by rfl) T.m_isinstance (by decide +kernel) (pa_cons (pv 0) (pa_cons (pe_bltn (v := .ty "tuple") (by rfl) T.m_tuple (by decide +kernel) rfl) pa_nil))) (pe_one (pe_chain op_le op_le (pv 1) (pe_callB call_len_seq (by rfl) T.m_len PySem.boot_len (pa_cons (pv 0) pa_nil)) (pv 2)))))), ?_⟩
    obtain ⟨t, tt, kT⟩ := ty_tup (K := K) ha
    refine ⟨.ref a, rfl, _, _, _, _, _, rfl, .ty _, tt, kT, _, rfl, iteT ?_⟩
    refine ⟨_, rfl, _, rfl, a, _, rfl, .inr (SqT.of ha), lo, _, rfl, rfl, _, rfl, ite2 (fun e => ?_) (fun e => ?_)⟩
    · rw [e, Bool.true_and] at q
      exact ⟨_, rfl, _, hi, rfl, rfl, q⟩
    · rw [Bool.eq_false_iff.mpr e, Bool.false_and] at q
      exact q
theorem ok_a {f fN fU fV fTu fA fEr fO fSz fWm fWi fCs fCn fFu fCo fSp fCa fR fSt fAu fIp fI fFc fLo fSo fOv fDw fSv fSm : Addr} {fd dN dU dV dTu dA dEr dO dSz dWm dWi dCs dCn dFu dCo dSp dCa dR dSt dAu dIp dI dFc dLo dSo dOv dDw dSv dSm : FuncData} {k : Nat} (F : Fun K "are_numbers" "are_numbers" sNums f fd) (T : Tx K mg fN fU fV fTu fA fEr fO fSz fWm fWi fCs fCn fFu fCo fSp fCa fR fSt fAu fIp fI fFc fLo fSo fOv fDw fSv fSm dN dU dV dTu dA dEr dO dSz dWm dWi dCs dCn dFu dCo dSp dCa dR dSt dAu dIp dI dFc dLo dSo dOv dDw dSv dSm) :
    FnOk P w K mg base CX0 (k + 3) f fd ["value", "fewest", "most", "limit"] spA := by
  have GU : FnOk P w K mg base CX0 (k + 2) fU dU ["value", "most"] spU := ok_u T.U T
  have GTu : FnOk P w K mg base CX0 (k + 1) fTu dTu ["value", "fewest", "most"] spTu := ok_tu T.Tu T
  refine F.ok sc_a (fun vs H Q E h => ?_) (fun cdv A outer s H vs Q E hr h => ?_)
  · obtain ⟨a, xs, lo, hi, m, rfl, _⟩ := h
    rfl
  · obtain ⟨a, xs, lo, hi, m, rfl, ha, hl, q⟩ := h
    refine ⟨_, (pss_cons (ps_if (pt_not (pt_val (pe_call GTu (hr.mono (by omega)) (by rfl) T.gTu T.Tu.kp T.bTu .nil pass0 (pa_cons (pv 0) (pa_cons (pv 1) (pa_cons (pv 2) pa_nil)))))) (pss_one (ps_ret pe_bl)) pss_nil)
      (pss_one (ps_ret (pe_callB (cr_all rfl) (by rfl) T.m_all (by decide +kernel) (pa_cons (pe_lc (own := [("number", 4)]) (g := gName 4) rfl sc_a.nd (pi_tup (pv 0)) (blkOk_by (own := [("number", 4)]) (N := ["value", "fewest", "most", "limit", "number"]) (sc := defScope sNums) (by decide +kernel)) (fun _ _ _ _ _ => (pg_name (i := 4) sc_a.nd rfl (Or.inl rfl))) (fun _ _ _ _ _ => pts_nil) (fun _ _ _ _ _ => (pe_call GU (hr.mono (by omega)) (by rfl) T.gU T.U.kp T.bU .nil pass0 (pa_cons (pv 4) (pa_cons (pv 3) pa_nil))))) pa_nil))))), ?_⟩
    refine ⟨_, rfl, _, rfl, _, rfl, a, _, lo, hi, rfl, ha, _, rfl, ?_⟩
    rw [List.length_map]
    cases e : (decide (lo ≤ (xs.length : Int)) && decide ((xs.length : Int) ≤ hi)) with
    | false =>
      rw [e, Bool.false_and] at q
      exact iteT (q _ (Same.refl _))
    | true =>
      rw [e, Bool.true_and] at q
      refine iteF (A := False) ?_
      refine ⟨.ref a, rfl, a, rfl, ⟨_, SqT.of ha⟩, fun D nD => ?_⟩
      refine lc_it (walk_tup (xs := xs.map V.int)) (fun i H' => H' D = some (.lst (((xs.map (inB m)).take i).map V.bl)) ∧ Same H H') ⟨upd_same, same_new nD⟩ (fun i H' _ h => SqT.of (h.2 _ _ ha)) (fun i x H' H2 hi h y => ?_) (fun H' h => ?_)
      · obtain ⟨hD, sm⟩ := h
        obtain ⟨rfl, hx⟩ := y
        obtain ⟨v, hv, rfl⟩ := get_map hx
        refine ⟨rfl, _, rfl, _, rfl, v, m, rfl, _, hD, ?_, ?_, fun b' o e' => ?_⟩
        · rw [List.length_map, List.length_take, List.length_map]
          exact len_lt (by omega)
        · rw [upd_same, take_succ_map (by rw [List.getElem?_map, hv]; rfl)]
        · rw [upd_ne (ne_of_none e' nD)]
          exact sm _ _ e'
      · obtain ⟨hD, sm⟩ := h
        rw [List.length_map, List.take_of_length_le (by rw [List.length_map]; exact Nat.le_refl _)] at hD
        refine ⟨D, _, rfl, SqL.of hD, ?_⟩
        rw [all_take]
        exact q _ sm
theorem ok_au {f fN fU fV fTu fA fEr fO fSz fWm fWi fCs fCn fFu fCo fSp fCa fR fSt fAu fIp fI fFc fLo fSo fOv fDw fSv fSm : Addr} {fd dN dU dV dTu dA dEr dO dSz dWm dWi dCs dCn dFu dCo dSp dCa dR dSt dAu dIp dI dFc dLo dSo dOv dDw dSv dSm : FuncData} {k : Nat} (F : Fun K "are_numbers_up_to" "are_numbers_up_to" sNumsUp f fd) (T : Tx K mg fN fU fV fTu fA fEr fO fSz fWm fWi fCs fCn fFu fCo fSp fCa fR fSt fAu fIp fI fFc fLo fSo fOv fDw fSv fSm dN dU dV dTu dA dEr dO dSz dWm dWi dCs dCn dFu dCo dSp dCa dR dSt dAu dIp dI dFc dLo dSo dOv dDw dSv dSm) :
    FnOk P w K mg base CX0 (k + 3) f fd ["value", "limits"] spAu := by
  have GU : FnOk P w K mg base CX0 (k + 2) fU dU ["value", "most"] spU := ok_u T.U T
  have GTu : FnOk P w K mg base CX0 (k + 1) fTu dTu ["value", "fewest", "most"] spTu := ok_tu T.Tu T
  refine F.ok sc_au (fun vs H Q E h => ?_) (fun cdv A outer s H vs Q E hr h => ?_)
  · obtain ⟨a, b, xs, ls, rfl, _⟩ := h
    rfl
  · obtain ⟨a, b, xs, ls, rfl, ha, hb, hl, q⟩ := h
    refine ⟨_, (pss_cons (ps_if (pt_not (pt_val (pe_call GTu (hr.mono (by omega)) (by rfl) T.gTu T.Tu.kp T.bTu .nil pass0 (pa_cons (pv 0) (pa_cons (pe_callB call_len_seq (by rfl) T.m_len PySem.boot_len (pa_cons (pv 1) pa_nil)) (pa_cons (pe_callB call_len_seq (by rfl) T.m_len PySem.boot_len (pa_cons (pv 1) pa_nil)) pa_nil)))))) (pss_one (ps_ret pe_bl)) pss_nil)
      (pss_one (ps_ret (pe_callB (cr_all rfl) (by rfl) T.m_all (by decide +kernel) (pa_cons (pe_lc (own := [("number", 2), ("limit", 3)]) (g := gTup K 2 (gCons (gName 2) (gCons (gName 3) gNil))) rfl sc_au.nd (pi_zipA (by rfl) T.m_zip (pa_cons (pv 0) (pa_cons (pv 1) pa_nil))) (blkOk_by (own := [("number", 2), ("limit", 3)]) (N := ["value", "limits", "number", "limit"]) (sc := defScope sNumsUp) (by decide +kernel)) (fun _ _ _ _ _ => (pg_tup rfl (pgs_cons (pg_name (i := 2) sc_au.nd rfl (Or.inl rfl)) (pgs_cons (pg_name (i := 3) sc_au.nd rfl (Or.inl rfl)) pgs_nil)))) (fun _ _ _ _ _ => pts_nil) (fun _ _ _ _ _ => (pe_call GU (hr.mono (by omega)) (by rfl) T.gU T.U.kp T.bU .nil pass0 (pa_cons (pv 2) (pa_cons (pv 3) pa_nil))))) pa_nil))))), ?_⟩
    refine ⟨_, rfl, _, rfl, b, _, rfl, .inr (SqT.of hb), _, rfl, b, _, rfl, .inr (SqT.of hb), a, _, _, _, rfl, ha, _, rfl, ?_⟩
    rw [List.length_map, List.length_map]
    by_cases e : xs.length = ls.length
    · rw [show (decide ((ls.length : Int) ≤ (xs.length : Int)) && decide ((xs.length : Int) ≤ (ls.length : Int))) = true by simp [e]]
      rw [decide_eq_true e, Bool.true_and] at q
      refine iteF (A := False) ?_
      refine ⟨_, rfl, _, rfl, a, b, _, _, rfl, .inr ⟨SqT.of ha, SqT.of hb, fun D nD => ?_⟩⟩
      refine lc_zipT (xs := xs.map V.int) (ys := ls.map V.int) (by rw [List.length_map, List.length_map, e]) (fun i H' => H' D = some (.lst (((List.zipWith (fun x l => inB l x) xs ls).take i).map V.bl)) ∧ Same H H') ⟨upd_same, same_new nD⟩
        (fun i H' _ h => ⟨SqT.of (h.2 _ _ ha), SqT.of (h.2 _ _ hb)⟩) (fun i x y T H' hx hy h nT => ?_) (fun H' h => ?_)
      · obtain ⟨hD, sm⟩ := h
        obtain ⟨c, hc, rfl⟩ := get_map hx
        obtain ⟨n, hn, rfl⟩ := get_map hy
        have hz : (List.zipWith (fun x l => inB l x) xs ls)[i]? = some (inB n c) := by
          rw [List.getElem?_zipWith, hc, hn]
        have sT : Same H' (upd H' T (.tup [.int c, .int n])) := same_new nT
        refine ⟨T, [.int c, .int n], rfl, .inl (.inl upd_same), rfl, .int c, [.int n], rfl, .int n, [], rfl, rfl, rfl, _, rfl, _, rfl, c, n, rfl, _, sT _ _ hD, ?_, ?_, fun b' o e => ?_⟩
        · rw [List.length_map, List.length_take]
          have : (List.zipWith (fun x l => inB l x) xs ls).length ≤ xs.length := by rw [List.length_zipWith]; omega
          exact len_lt (by omega)
        · rw [upd_same, take_succ_map hz]
        · rw [upd_ne (ne_of_none e nD)]
          exact sT _ _ (sm b' o e)
      · obtain ⟨hD, sm⟩ := h
        rw [List.length_map, List.take_of_length_le (by rw [List.length_zipWith]; omega)] at hD
        exact ⟨D, _, rfl, SqL.of hD, q _ sm⟩
    · rw [show (decide ((ls.length : Int) ≤ (xs.length : Int)) && decide ((xs.length : Int) ≤ (ls.length : Int))) = false by
        rw [Bool.and_eq_false_iff, decide_eq_false_iff_not, decide_eq_false_iff_not]
        omega]
      rw [decide_eq_false e, Bool.false_and] at q
      exact iteT (q _ (Same.refl _))
end
end DD
namespace DD
open PySem PySem.Spec PyProof.Rows L2 RZ
/-- the states: before each edit that stands, and now -/
def statesOf (rows ws : List (List Int)) (hist : List Hst) : List (List (List Int) × List (List Int)) := hist.map (·.2) ++ [(rows, ws)]
def vO : Option Nat → V
  | none => .non
  | some j => .int (j : Int)
def IsSt (rows ws : List (List Int)) (hist : List Hst) : Option Nat → List (List Int) → List (List Int) → Prop
  | none, r, w => r = rows ∧ w = ws
  | some j, r, w => j ≤ hist.length ∧ (statesOf rows ws hist)[j]? = some (r, w)
def planB (rows : List (List Int)) (ps : List Int) : Bool := decide (ps.length = rows.length) && (List.zipWith (fun x l => inB l x) ps (sizesOf rows)).all id
theorem planB_ok {rows : List (List Int)} {ps : List Int} (hl : ps.length = rows.length) (h : ∀ j, j < rows.length → 0 ≤ ps.getD j 0 ∧ ps.getD j 0 ≤ sizeAt rows j) : planB rows ps = true := by
  unfold planB
  rw [decide_eq_true hl, Bool.true_and]
  refine List.all_eq_true.mpr fun b hb => ?_
  obtain ⟨i, hi⟩ := List.mem_iff_getElem?.mp hb
  rw [List.getElem?_zipWith] at hi
  have es : (sizesOf rows).length = rows.length := by simp [sizesOf]
  have hil : i < rows.length := by
    cases e1 : ps[i]? with
    | none => rw [e1] at hi; cases hi
    | some x => have := (List.getElem?_eq_some_iff.mp e1).1; omega
  have hd := h i hil
  rw [getD_of (d := 0) (show i < ps.length by omega), getD_of (d := 0) (show i < (sizesOf rows).length by omega)] at hi
  have e3 : (sizesOf rows).getD i 0 = sizeAt rows i := by
    unfold sizesOf sizeAt
    rw [List.getD_eq_getElem?_getD, List.getElem?_map, getD_of (d := []) hil]
    rfl
  rw [e3] at hi
  have hi : inB (sizeAt rows i) (ps.getD i 0) = b := Option.some.inj hi
  rw [← hi]
  unfold inB
  rw [decide_eq_true hd.1, decide_eq_true hd.2]
  rfl
theorem lm_certificate {a b c d e : V} : List.lookup ("certificate" : Str) (Fs a b c d e) = none := rfl
/-- the methods with a keyword -/
structure KT (K : PySem.W.Frag) (eSt eCf : FuncData) : Prop where
  kSt : KBn K eSt ["self", "version"] 1 ["version"] (fun us ws => us ++ ws) (fun vs zs => vs ++ zs)
  kCf : KBn K eCf ["self", "plan", "version"] 2 ["version"] (fun us ws => us ++ ws) (fun vs zs => vs ++ zs)
theorem sc_ip : FnScope ["stock", "value"] ["stock", "value"] (defScope sIsPlan) := ⟨rfl, rfl, rfl, by decide +kernel, rfl, by decide +kernel, by decide +kernel⟩
section
variable {P : Program} {w : World} {K : PySem.W.Frag} {mg : Str → Option Value} {base : Heap}
def spIp : Sp := fun vs H Q _ => ∃ (t a : Addr) (ls : List Addr) (rows : List (List Int)) (ps : List Int), vs = [.ref t, .ref a] ∧ StockAt H t ls rows ∧ rows.length ≤ 4 ∧ H a = some (.tup (ps.map V.int)) ∧ ps.length ≤ 1000 ∧ ∀ H', Same H H' → Q (.bl (planB rows ps)) H'
theorem ok_ip {f fN fU fV fTu fA fEr fO fSz fWm fWi fCs fCn fFu fCo fSp fCa fR fSt fAu fIp fI fFc fLo fSo fOv fDw fSv fSm : Addr} {fd dN dU dV dTu dA dEr dO dSz dWm dWi dCs dCn dFu dCo dSp dCa dR dSt dAu dIp dI dFc dLo dSo dOv dDw dSv dSm : FuncData} {k : Nat} (F : Fun K "is_plan" "is_plan" sIsPlan f fd) (T : Tx K mg fN fU fV fTu fA fEr fO fSz fWm fWi fCs fCn fFu fCo fSp fCa fR fSt fAu fIp fI fFc fLo fSo fOv fDw fSv fSm dN dU dV dTu dA dEr dO dSz dWm dWi dCs dCn dFu dCo dSp dCa dR dSt dAu dIp dI dFc dLo dSo dOv dDw dSv dSm) : FnOk P w K mg base CX0 (k + 4) f fd ["stock", "value"] spIp := by
  have GSz : FnOk P w K mg base CX0 (k + 1) fSz dSz ["stock"] spSizes := ok_sizes T.Sz T.m_tuple T.m_sum
  have GAu : FnOk P w K mg base CX0 (k + 3) fAu dAu ["value", "limits"] spAu := ok_au T.Au T
  refine F.ok sc_ip (fun vs H Q E h => ?_) (fun cdv A outer s H vs Q E hr h => ?_)
  · obtain ⟨t, a, ls, rows, ps, rfl, _⟩ := h
    rfl
  · obtain ⟨t, a, ls, rows, ps, rfl, st, h4, ha, hl, q⟩ := h
    refine ⟨_, (pss_one (ps_ret (pe_call GAu (hr.mono (by omega)) (by rfl) T.gAu T.Au.kp T.bAu .nil pass0 (pa_cons (pv 1) (pa_cons (pe_call GSz (hr.mono (by omega)) (by rfl) T.gSz T.Sz.kp T.bSz .nil pass0 (pa_cons (pv 0) pa_nil)) pa_nil))))), ?_⟩
    refine ⟨_, rfl, _, rfl, t, ls, rows, rfl, st, by omega, fun p H1 s1 _ hp => ?_⟩
    refine ⟨a, p, ps, sizesOf rows, rfl, s1 _ _ ha, hp, hl, fun H2 s2 => ?_⟩
    have e : (sizesOf rows).length = rows.length := by simp [sizesOf]
    have q := q _ (s1.trans s2)
    unfold planB at q
    rw [e]
    exact q
def spStG (C : Addr) : Sp := fun vs H Q _ => ∃ (x : Addr) (j : Option Nat) (rows ws r u : List (List Int)) (n : Nat) (hist : List Hst), vs = [.ref x, vO j] ∧ CabAt C H x rows ws n hist ∧ hist.length ≤ 900 ∧ IsSt rows ws hist j r u ∧
  ∀ p t b H', Same H H' → H' p = some (.tup [.ref t, .ref b]) → Td H' (.ref t) (stockD r) → Td H' (.ref b) (stockD u) → Q (.ref p) H'
theorem ok_stg {f fN fU fV fTu fA fEr fO fSz fWm fWi fCs fCn fFu fCo fSp fCa fR fSt fAu fIp fI fFc fLo fSo fOv fDw fSv fSm : Addr} {fd dN dU dV dTu dA dEr dO dSz dWm dWi dCs dCn dFu dCo dSp dCa dR dSt dAu dIp dI dFc dLo dSo dOv dDw dSv dSm : FuncData} {C hIn hPu hRe hWi hDr hId hEd hTh hSu hCh hSt hEs hLn hSr hUn hAt hDb hDe hCf : Addr} {eIn ePu eRe eWi eDr eId eEd eTh eSu eCh eSt eEs eLn eSr eUn eAt eDb eDe eCf : FuncData} {k : Nat} (F : Fun K "state" "Cabinet.state" cState f fd) (T : Tx K mg fN fU fV fTu fA fEr fO fSz fWm fWi fCs fCn fFu fCo fSp fCa fR fSt fAu fIp fI fFc fLo fSo fOv fDw fSv fSm dN dU dV dTu dA dEr dO dSz dWm dWi dCs dCn dFu dCo dSp dCa dR dSt dAu dIp dI dFc dLo dSo dOv dDw dSv dSm) (X : CT K mg C hIn hPu hRe hWi hDr hId hEd hTh hSu hCh hSt hEs hLn hSr hUn hAt hDb hDe hCf eIn ePu eRe eWi eDr eId eEd eTh eSu eCh eSt eEs eLn eSr eUn eAt eDb eDe eCf) : FnOk P w K mg base CX0 (k + 3) f fd ["self", "version"] (spStG C) := by
  have GU : FnOk P w K mg base CX0 (k + 2) fU dU ["value", "most"] spUpTo := ok_upto T.U T.N T.bN T.gN T.m_isinstance T.m_int T.m_bool
  refine F.ok scSt (fun vs H Q E h => ?_) (fun cdv A outer s H vs Q E hr h => ?_)
  · obtain ⟨x, j, rows, ws, r, u, n, hist, rfl, _⟩ := h
    rfl
  · obtain ⟨x, j, rows, ws, r, u, n, hist, rfl, hc, hl, hI, q⟩ := h
    refine ⟨_, (pss_cons (ps_if (pt_cmpR op_isN (pv 1) pe_non (nomark _)) (pss_one (ps_ret (pe_tup (pa_cons (pe_fld (pv 0) rfl) (pa_cons (pe_fld (pv 0) rfl) pa_nil))))) pss_nil)
      (pss_cons (ps_if (pt_not (pt_val (pe_call GU (hr.mono (by omega)) (by rfl) T.gU T.U.kp T.bU .nil pass0 (pa_cons (pv 1) (pa_cons (pe_callB call_len_seq (by rfl) T.m_len PySem.boot_len (pa_cons (pe_fld (pv 0) rfl) pa_nil)) pa_nil))))) (pss_one ps_never) pss_nil)
      (pss_cons (ps_if (pt_cmpR op_eq (pv 1) (pe_callB call_len_seq (by rfl) T.m_len PySem.boot_len (pa_cons (pe_fld (pv 0) rfl) pa_nil)) (nomark _)) (pss_one (ps_ret (pe_tup (pa_cons (pe_fld (pv 0) rfl) (pa_cons (pe_fld (pv 0) rfl) pa_nil))))) pss_nil)
      (pss_cons (ps_asg (pe_ix (show IxR _ (rIxT K) from ix_tup) (pe_fld (pv 0) rfl) (pv 1) (fun _ _ => rfl)) (pg_tup rfl (pgs_cons (pg_name (i := 2) scSt.nd rfl (Or.inl rfl)) (pgs_cons (pg_name (i := 3) scSt.nd rfl (Or.inl rfl)) (pgs_cons (pg_name (i := 4) scSt.nd rfl (Or.inl rfl)) pgs_nil)))))
      (pss_one (ps_ret (pe_tup (pa_cons (pv 3) (pa_cons (pv 4) pa_nil))))))))), ?_⟩
    obtain ⟨⟨dx, t, b, tp, hx, ht, hb, htp⟩, g⟩ := hc
    obtain ⟨ps, hps, hal⟩ := td_tupI htp
    have hpl : ps.length = hist.length := by rw [hal.len, List.length_map]
    rcases j with _ | j
    · obtain ⟨rfl, rfl⟩ := hI
      refine ⟨_, rfl, rfl, _, rfl, iteT2 rfl ?_⟩
      refine ⟨_, rfl, x, C, dx, _, _, rfl, hx, X.cl, X.aS, lk_stock, ?_⟩
      refine ⟨_, rfl, x, C, dx, _, _, rfl, hx, X.cl, X.aC, lk_collections, by show 2 ≤ sizeLine; decide, fun p np => ?_⟩
      exact q _ t b _ (same_new np) upd_same (ht.same (same_new np)) (hb.same (same_new np))
    obtain ⟨hj, hI⟩ := hI
    refine ⟨_, rfl, rfl, _, rfl, iteF2 rfl ?_⟩
    refine ⟨_, rfl, ?_⟩
    refine ⟨_, rfl, x, C, dx, _, _, rfl, hx, X.cl, X.aP, lk_past, tp, ps, rfl, .inr (SqT.of hps), ?_⟩
    refine ⟨_, .int j, _, rfl, .int _, _, rfl, ?_⟩
    refine iteF2 (by
      show (!(decide ((0 : Int) ≤ j) && decide ((j : Int) ≤ (ps.length : Int)))) = false
      rw [decide_eq_true (by omega), decide_eq_true (by omega)]
      rfl) ?_
    refine ⟨_, rfl, ?_⟩
    refine ⟨_, rfl, x, C, dx, _, _, rfl, hx, X.cl, X.aP, lk_past, tp, ps, rfl, .inr (SqT.of hps), rfl, _, rfl, ?_⟩
    by_cases e : j = hist.length
    · refine iteT2 (decide_eq_true (by rw [hpl, e]; rfl)) ?_
      refine ⟨_, rfl, x, C, dx, _, _, rfl, hx, X.cl, X.aS, lk_stock, ?_⟩
      refine ⟨_, rfl, x, C, dx, _, _, rfl, hx, X.cl, X.aC, lk_collections, by show 2 ≤ sizeLine; decide, fun p np => ?_⟩
      unfold statesOf at hI
      rw [e, List.getElem?_append_right (by rw [List.length_map]; exact Nat.le_refl _), List.length_map, Nat.sub_self] at hI
      obtain ⟨rfl, rfl⟩ := Prod.mk.inj (Option.some.inj hI)
      exact q _ t b _ (same_new np) upd_same (ht.same (same_new np)) (hb.same (same_new np))
    · refine iteF2 (decide_eq_false (fun z => e (by have := V.int.inj (show V.int (j : Int) = V.int (ps.length : Int) from z); omega))) ?_
      have hjl : j < ps.length := by omega
      obtain ⟨h, eh, hh⟩ := td_histJ hal (List.getElem?_eq_getElem hjl)
      obtain ⟨pp, ev, t', b', ep, hpp, ht', hb'⟩ := td_hist3 hh
      unfold statesOf at hI
      rw [List.getElem?_append_left (by rw [List.length_map]; omega), List.getElem?_map, eh] at hI
      have hI : h.2 = (r, u) := Option.some.inj hI
      rw [show h.2.1 = r from congrArg Prod.fst hI] at ht'
      rw [show h.2.2 = u from congrArg Prod.snd hI] at hb'
      refine ⟨_, rfl, x, C, dx, _, _, rfl, hx, X.cl, X.aP, lk_past, _, rfl, tp, ps, (j : Int), .ref pp, rfl, rfl, SqT.of hps, atI_nat (by rw [List.getElem?_eq_getElem hjl, ep]), ?_⟩
      refine ⟨pp, [ev, .ref t', .ref b'], rfl, .inl (.inl hpp), rfl, ev, [.ref t', .ref b'], rfl, .ref t', [.ref b'], rfl, .ref b', [], rfl, rfl, ?_⟩
      refine ⟨_, rfl, _, rfl, by show 2 ≤ sizeLine; decide, fun p np => ?_⟩
      exact q _ t' b' _ (same_new np) upd_same (ht'.same (same_new np)) (hb'.same (same_new np))
def spCert : Sp := fun vs H Q _ => ∃ (t b p : Addr) (ls wl : List Addr) (rows ws : List (List Int)) (ps : List Int) (n : Nat), vs = [.ref t, .ref b, .ref p] ∧ Pb H t b p ls wl rows ws ps n ∧ ∀ H' r, Same H H' → CertX H' r rows ws ps n → Q (.ref r) H'
theorem cert_find {vs : List V} {H : Hp} {Q : VK} {E : XK} (h : spCert vs H Q E) : spFind vs H Q E := by
  obtain ⟨t, b, p, ls, wl, rows, ws, ps, n, rfl, pb, q⟩ := h
  exact ⟨t, b, p, ls, wl, rows, ws, ps, n, rfl, pb, fun H' r D ds i sp s f h1 h2 => q _ _ s (.inl ⟨D, ds, i, sp, h1, h2, f⟩), fun H' r D as dss s h1 h2 h3 => q _ _ s (.inr ⟨D, as, dss, h1, h2, h3⟩)⟩
def spCf (C : Addr) : Sp := fun vs H Q _ => ∃ (x p : Addr) (j : Option Nat) (rows ws r u : List (List Int)) (n : Nat) (hist : List Hst) (ps : List Int), vs = [.ref x, .ref p, vO j] ∧ CabAt C H x rows ws n hist ∧ hist.length ≤ 900 ∧ IsSt rows ws hist j r u ∧ Sg r u n ∧ H p = some (.tup (ps.map V.int)) ∧ ps.length = r.length ∧
  (∀ j, j < r.length → 0 ≤ ps.getD j 0 ∧ ps.getD j 0 ≤ sizeAt r j) ∧ ∀ c H', Same H H' → CertX H' c r u ps n → Q (.ref c) H'
theorem ok_cf {f fN fU fV fTu fA fEr fO fSz fWm fWi fCs fCn fFu fCo fSp fCa fR fSt fAu fIp fI fFc fLo fSo fOv fDw fSv fSm : Addr} {fd dN dU dV dTu dA dEr dO dSz dWm dWi dCs dCn dFu dCo dSp dCa dR dSt dAu dIp dI dFc dLo dSo dOv dDw dSv dSm : FuncData} {C hIn hPu hRe hWi hDr hId hEd hTh hSu hCh hSt hEs hLn hSr hUn hAt hDb hDe hCf : Addr} {eIn ePu eRe eWi eDr eId eEd eTh eSu eCh eSt eEs eLn eSr eUn eAt eDb eDe eCf : FuncData} {k : Nat} (F : Fun K "certificate" "Cabinet.certificate" cCert f fd) (T : Tx K mg fN fU fV fTu fA fEr fO fSz fWm fWi fCs fCn fFu fCo fSp fCa fR fSt fAu fIp fI fFc fLo fSo fOv fDw fSv fSm dN dU dV dTu dA dEr dO dSz dWm dWi dCs dCn dFu dCo dSp dCa dR dSt dAu dIp dI dFc dLo dSo dOv dDw dSv dSm) (X : CT K mg C hIn hPu hRe hWi hDr hId hEd hTh hSu hCh hSt hEs hLn hSr hUn hAt hDb hDe hCf eIn ePu eRe eWi eDr eId eEd eTh eSu eCh eSt eEs eLn eSr eUn eAt eDb eDe eCf) (Z : KT K eSt eCf) : FnOk P w K mg base CX0 (k + 5) f fd ["self", "plan", "version"] (spCf C) := by
  have GSt : FnOk P w K mg base CX0 (k + 3) hSt eSt ["self", "version"] (spStG C) := ok_stg X.FSt T X
  have GIp : FnOk P w K mg base CX0 (k + 4) fIp dIp ["stock", "value"] spIp := ok_ip T.Ip T
  have GFc : FnOk P w K mg base CX0 (k + 4) fFc dFc ["stock", "collections", "plan"] spCert := (ok_find T.Fc T).imp fun _ _ _ _ => cert_find
  refine F.ok scCf (fun vs H Q E h => ?_) (fun cdv A outer s H vs Q E hr h => ?_)
  · obtain ⟨x, p, j, rows, ws, r, u, n, hist, ps, rfl, _⟩ := h
    rfl
  · obtain ⟨x, p, j, rows, ws, r, u, n, hist, ps, rfl, hc, hl, hI, gr, hp, hpl, hbd, q⟩ := h
    refine ⟨_, (pss_cons (ps_asg (pe_methK0 (pv 0) X.cl X.MSt GSt (hr.mono (by omega)) Z.kSt pass0 (by exact (pk_cons (pv 2) pk_nil))) (pg_tup rfl (pgs_cons (pg_name (i := 3) scCf.nd rfl (Or.inl rfl)) (pgs_cons (pg_name (i := 4) scCf.nd rfl (Or.inl rfl)) pgs_nil))))
      (pss_cons (ps_if (pt_not (pt_val (pe_call GIp (hr.mono (by omega)) (by rfl) T.gIp T.Ip.kp T.bIp .nil pass0 (pa_cons (pv 3) (pa_cons (pv 1) pa_nil))))) (pss_one ps_never) pss_nil)
      (pss_one (ps_ret (pe_call GFc (hr.mono (by omega)) (by rfl) T.gFc T.Fc.kp T.bFc .nil pass0 (pa_cons (pv 3) (pa_cons (pv 4) (pa_cons (pv 1) pa_nil)))))))), ?_⟩
    obtain ⟨⟨dx, t0, b0, tp, hx, _⟩, g⟩ := id hc
    refine ⟨.ref x, rfl, x, dx, _, rfl, hx, lm_state, ?_⟩
    refine ⟨_, rfl, rfl, x, j, rows, ws, r, u, n, hist, rfl, hc, hl, hI, fun pp t b H1 s1 hpp ht hb => ?_⟩
    obtain ⟨_, ls, e1, st⟩ := td_stockI ht
    cases e1
    obtain ⟨wl, wi⟩ := gr.wish hb
    refine ⟨pp, [.ref t, .ref b], rfl, .inl (.inl hpp), rfl, .ref t, [.ref b], rfl, .ref b, [], rfl, rfl, ?_⟩
    have hp1 := s1 _ _ hp
    have hr4 := gr.r4
    refine ⟨_, rfl, _, rfl, t, p, ls, r, ps, rfl, st, gr.r4, hp1, by omega, fun H2 s2 => ?_⟩
    refine ⟨_, rfl, ?_⟩
    refine iteF2 (by rw [planB_ok hpl hbd]; rfl) ?_
    refine ⟨_, rfl, _, rfl, _, rfl, t, b, p, ls, wl, r, u, ps, n, rfl, ⟨st.same s2, gr.r1, gr.r4, fun y hy => (gr.rg y hy).1, wi.same s2, s2 _ _ hp1, hpl⟩, fun H3 c s3 cx => ?_⟩
    exact q c H3 (s1.trans (s2.trans s3)) cx
end
end DD
namespace DD
open PySem PySem.Spec PyProof.Rows L2 RZ
structure TyC (K : PySem.W.Frag) (C : Addr) : Prop where
  a : PySem.W.findIn K (.ref C) "__class__" = some (some (.builtin "object.__class__"))
  n : PySem.W.specialIn K (.builtin "object.__class__") "__get__" = some (some (.builtin "getset_descriptor.__get__"))
  t : PySem.W.takesIn K (.builtin "object.__class__") = some true
  m : PySem.W.mroIn K C (.type "object") = some true
theorem tycB_ok {K : PySem.W.Frag} {C : Addr} (h : tycB K C = true) : TyC K C := by
  unfold tycB at h
  simp only [Bool.and_eq_true, decide_eq_true_eq] at h
  exact ⟨h.1, h.2.1, h.2.2.1, h.2.2.2⟩
/-- how its arguments bind, its body: a generator def -/
theorem fun_gfn {P : Program} {w : World} {K : PySem.W.Frag} {mg : Str → Option Value} {base : Heap} {x qual : Str} {st : Stmt} {f : Addr} {fd : FuncData} {N ps : List Str} {k : Nat} {sp : SpG} (F : Fun K x qual st f fd) (S : GScope N ps (defScope st)) (len : ∀ vs H Q E, sp vs H Q E → vs.length = ps.length)
    (hbody : ∀ (cdv : Value) (A : Around) (outer : List Env) (s : Shared) (H : Hp) (vs : List V) (Q : List V → Hp → Prop) (E : XK) (pn : List (Addr × Obj)), Room k (A.deeper (envOfC qual (defScope st) s.heap.objs.size f cdv)) → sp vs H Q E →
      ∃ t, GSs (gcxOf P w K mg base N qual (defScope st) f cdv A outer s H E pn) (defBody st) t ∧ t { nx := fun ys _ H' => Q ys H', rt := fun ys v H' => v = .non ∧ Q ys H' } [] (start N vs) H) : GFn P w K mg base (k + 1) f fd ps sp := by
  obtain ⟨oc, od, kV, doc, pm, an, cdv, ct, osl, rfl, lk, hcd⟩ := F.ex
  exact gfn_of lk hcd S len fun A outer s H vs Q E pn hr hsp => hbody cdv A outer s H vs Q E pn hr hsp
theorem gfor_tup {K : PySem.W.Frag} {a : Addr} {xs : List V} {g : TG} {tb : TGn} {D : GEnds} {ys : List V} {σ : L2.St} {H : Hp} (Pv : Nat → List V → L2.St → Hp → Prop) (h0 : Pv 0 ys σ H) (hl : ∀ i ys σ H, i ≤ xs.length → Pv i ys σ H → SqT K H a xs)
    (hs : ∀ i x ys σ H, xs[i]? = some x → Pv i ys σ H → g x σ H fun σ2 H2 => tb { D with nx := Pv (i + 1), ct := Pv (i + 1), bk := D.nx } ys σ2 H2) (hd : ∀ ys σ H, Pv xs.length ys σ H → D.nx ys σ H) :
    ∃ W : Nat → Nat → List V → L2.St → Hp → Prop, (∃ m, W 0 m ys σ H) ∧ ∀ i m ys σ H, W i m ys σ H →
      ((Itt K a).stop i H ∧ D.nx ys σ H) ∨ ((Itt K a).go i H ∧ ∃ N : List V → L2.St → Hp → Prop, (∀ ys' σ' H', N ys' σ' H' → ∃ m', m' < m ∧ W (i + 1) m' ys' σ' H') ∧ ∀ x H', (Itt K a).yld i H x H' → g x σ H' fun σ2 H2 => tb { D with nx := N, ct := N, bk := D.nx } ys σ2 H2) := by
  refine ⟨fun i m ys σ H => m = xs.length - i ∧ i ≤ xs.length ∧ Pv i ys σ H, ⟨xs.length, by simp, Nat.zero_le _, h0⟩, ?_⟩
  rintro i m ys σ H ⟨rfl, hi, p⟩
  have q := hl i ys σ H hi p
  by_cases hlt : i < xs.length
  · refine .inr ⟨⟨xs, xs[i], q, by simp [hlt]⟩, Pv (i + 1), fun ys' σ' H' p' => ⟨xs.length - (i + 1), by omega, rfl, hlt, p'⟩, fun x H' y => ?_⟩
    obtain ⟨e, y⟩ := y
    subst e
    exact hs i x ys σ _ (y xs q) p
  · have e : i = xs.length := by omega
    subst e
    exact .inl ⟨⟨xs, q, Nat.le_refl _⟩, hd ys σ H p⟩
theorem natsV_len (ds : List Nat) : (natsV ds).length = ds.length := by unfold natsV; rw [List.length_map]
theorem rg_nats {m : Nat} : rgV 0 (m : Int) = natsV (List.range m) := by
  unfold rgV natsV
  rw [Int.sub_zero, Int.toNat_natCast]
  exact List.map_congr_left fun i _ => by rw [Int.zero_add]
theorem scRoomIn : FnScope ["stock", "caps", "drawers", "drawer"] ["stock", "caps", "drawers"] (defScope sRoomIn) := ⟨rfl, rfl, rfl, by decide +kernel, rfl, by decide +kernel, by decide +kernel⟩
theorem scSame : FnScope ["one", "other"] ["one", "other"] (defScope sSame) := ⟨rfl, rfl, rfl, by decide +kernel, rfl, by decide +kernel, by decide +kernel⟩
theorem scEq : FnScope ["self", "other"] ["self", "other"] (defScope cEq) := ⟨rfl, rfl, rfl, by decide +kernel, rfl, by decide +kernel, by decide +kernel⟩
theorem gscWk : GScope ["self", "drawers", "spoiling"] ["self"] (defScope cWalk) := ⟨rfl, rfl, rfl, by decide +kernel, rfl, by decide +kernel, by decide +kernel⟩
section
variable {P : Program} {w : World} {K : PySem.W.Frag} {mg : Str → Option Value} {base : Heap}
def spRoomIn : Sp := fun vs H Q _ => ∃ (t b d : Addr) (ls : List Addr) (rows : List (List Int)) (n : Nat) (cs : List (Option Int)) (ds : List Nat), vs = [.ref t, .ref b, .ref d] ∧ StockAt H t ls rows ∧ (∀ r ∈ rows, r.length = n) ∧ n ≤ 100 ∧
  H b = some (.tup (cs.map optI)) ∧ cs.length = n ∧ H d = some (.tup (natsV ds)) ∧ ds.length ≤ 4 ∧ (∀ j ∈ ds, j < rows.length) ∧ ∀ H', Same H H' → Q (.int (roomS rows n cs ds)) H'
theorem ok_roomin {f fN fU fV fTu fA fEr fO fSz fWm fWi fCs fCn fFu fCo fSp fCa fR fSt fAu fIp fI fFc fLo fSo fOv fDw fSv fSm : Addr} {fd dN dU dV dTu dA dEr dO dSz dWm dWi dCs dCn dFu dCo dSp dCa dR dSt dAu dIp dI dFc dLo dSo dOv dDw dSv dSm : FuncData} {k : Nat} (F : Fun K "room_in" "room_in" sRoomIn f fd) (T : Tx K mg fN fU fV fTu fA fEr fO fSz fWm fWi fCs fCn fFu fCo fSp fCa fR fSt fAu fIp fI fFc fLo fSo fOv fDw fSv fSm dN dU dV dTu dA dEr dO dSz dWm dWi dCs dCn dFu dCo dSp dCa dR dSt dAu dIp dI dFc dLo dSo dOv dDw dSv dSm) :
    FnOk P w K mg base CX0 (k + 2) f fd ["stock", "caps", "drawers"] spRoomIn := by
  have GO : FnOk P w K mg base CX0 (k + 1) fO dO ["stock"] (spTotals K) := ok_totals T.O T.m_tuple T.m_sum T.m_zip
  have GR : FnOk P w K mg base CX0 (k + 1) fR dR ["totals", "caps"] spRoomOf := ok_roomof T.R T
  refine F.ok scRoomIn (fun vs H Q E h => ?_) (fun cdv A outer s H vs Q E hr h => ?_)
  · obtain ⟨t, b, d, ls, rows, n, cs, ds, rfl, _⟩ := h
    rfl
  · obtain ⟨t, b, d, ls, rows, n, cs, ds, rfl, st, hrn, hn, hb, hcl, hd, hd4, hdb, q⟩ := h
    refine ⟨_, (pss_one (ps_ret (pe_call GR (hr.mono (by omega)) (by rfl) T.gR T.R.kp T.bR .nil pass0 (pa_cons (pe_call GO (hr.mono (by omega)) (by rfl) T.gO T.O.kp T.bO .nil pass0 (pa_cons (pe_lc (own := [("drawer", 3)]) (g := gName 3) rfl scRoomIn.nd (pi_tup (pv 2)) (blkOk_by (own := [("drawer", 3)]) (N := ["stock", "caps", "drawers", "drawer"]) (sc := defScope sRoomIn) (by decide +kernel)) (fun _ _ _ _ _ => (pg_name (i := 3) scRoomIn.nd rfl (Or.inl rfl))) (fun _ _ _ _ _ => pts_nil) (fun _ _ _ _ _ => (pe_ix (show IxR _ (rIxT K) from ix_tup) (pv 0) (pv 3) (fun _ _ => rfl)))) pa_nil)) (pa_cons (pv 1) pa_nil))))), ?_⟩
    refine ⟨.ref d, rfl, d, rfl, ⟨_, SqT.of hd⟩, fun D2 nD2 => ?_⟩
    refine lc_tup (xs := natsV ds) (fun m H4 => H4 D2 = some (.lst (((pickL ls ds).take m).map V.ref)) ∧ Same H H4) ⟨upd_same, same_new nD2⟩ (fun m H4 _ h => SqT.of (h.2 _ _ hd)) (fun m x H4 hx h => ?_) (fun H4 h => ?_)
    · obtain ⟨hD2, s4⟩ := h
      obtain ⟨j, hj, rfl⟩ := get_map hx
      have hjr := hdb j (List.mem_of_getElem? hj)
      have hjl : j < ls.length := by rw [st.len]; exact hjr
      have hpk : (pickL ls ds)[m]? = some (ls.getD j 0) := by
        unfold pickL
        rw [List.getElem?_map, hj]
        rfl
      have gr : (ls.map V.ref)[j]? = some (.ref (ls.getD j 0)) := by
        rw [List.getElem?_map, getD_of (d := 0) hjl]
        rfl
      refine ⟨rfl, .ref t, rfl, .int (j : Int), rfl, t, _, (j : Int), .ref (ls.getD j 0), rfl, rfl, SqT.of (s4 _ _ st.top), atI_nat gr, _, hD2, ?_, ?_, fun b' o e => ?_⟩
      · rw [List.length_map, List.length_take]
        have : (pickL ls ds).length = ds.length := by simp [pickL]
        exact len_lt (by omega)
      · rw [upd_same, take_succ_map hpk]
      · rw [upd_ne (ne_of_none e nD2)]
        exact s4 b' o e
    · obtain ⟨hD2, s4⟩ := h
      rw [natsV_len, List.take_of_length_le (by simp [pickL])] at hD2
      have hll : (pickL ls ds).length = (pickR rows ds).length := by simp [pickL, pickR]
      have hpl2 : (pickR rows ds).length = ds.length := by simp [pickR]
      have hat : ∀ (j : Nat) (l : Addr) (r : List Int), (pickL ls ds)[j]? = some l → (pickR rows ds)[j]? = some r → H4 l = some (.tup (r.map V.int)) ∧ r.length = (if ds = [] then 0 else n) := fun j l r e1 e2 => by
        unfold pickL at e1
        unfold pickR at e2
        obtain ⟨j1, h1, rfl⟩ := get_map e1
        obtain ⟨j2, h2, rfl⟩ := get_map e2
        obtain rfl : j1 = j2 := Option.some.inj (h1.symm.trans h2)
        have hjr := hdb j1 (List.mem_of_getElem? h1)
        have g := getD_of (d := []) hjr
        rw [if_neg (fun z => by rw [z] at h1; simp at h1)]
        exact ⟨s4 _ _ (st.row j1 _ _ (getD_of (by rw [st.len]; exact hjr)) g), hrn _ (List.mem_of_getElem? g)⟩
      have htl : (totL rows n ds).length ≤ n := by
        unfold totL
        rw [tot_len]
        split <;> omega
      refine ⟨D2, pickL ls ds, pickR rows ds, if ds = [] then 0 else n, rfl, .inr (SqL.of hD2), hll, hat, (fun e => by rw [if_pos (List.eq_nil_of_length_eq_zero (by rw [← hpl2, e]; rfl))]), by omega, by split <;> omega, fun tt H5 s5 _ htt => ?_⟩
      exact ⟨_, rfl, tt, b, totL rows n ds, cs, rfl, htt, s5 _ _ (s4 _ _ hb), by omega, by omega, fun H6 s6 => q H6 (s4.trans (s5.trans s6))⟩
/-- a spoiling with the room of all drawers -/
def walkD (rows ws : List (List Int)) (n : Nat) : List PyData := (spOf ws).map fun sp => .tuple [rowD sp, .int (roomS rows n (capsOf ws sp n) (List.range rows.length))]
def spWalk (C : Addr) : SpG := fun vs H cont _ => ∃ (x : Addr) (rows ws : List (List Int)) (n : Nat) (hist : List Hst), vs = [.ref x] ∧ CabAt C H x rows ws n hist ∧ ∀ out H', Same H H' → TdAll H' out (walkD rows ws n) → cont out H'
theorem ok_walk {f fN fU fV fTu fA fEr fO fSz fWm fWi fCs fCn fFu fCo fSp fCa fR fSt fAu fIp fI fFc fLo fSo fOv fDw fSv fSm : Addr} {fd dN dU dV dTu dA dEr dO dSz dWm dWi dCs dCn dFu dCo dSp dCa dR dSt dAu dIp dI dFc dLo dSo dOv dDw dSv dSm : FuncData} {C hIn hPu hRe hWi hDr hId hEd hTh hSu hCh hSt hEs hLn hSr hUn hAt hDb hDe hCf : Addr} {eIn ePu eRe eWi eDr eId eEd eTh eSu eCh eSt eEs eLn eSr eUn eAt eDb eDe eCf : FuncData} {k : Nat} (F : Fun K "walk" "Cabinet.walk" cWalk f fd) (T : Tx K mg fN fU fV fTu fA fEr fO fSz fWm fWi fCs fCn fFu fCo fSp fCa fR fSt fAu fIp fI fFc fLo fSo fOv fDw fSv fSm dN dU dV dTu dA dEr dO dSz dWm dWi dCs dCn dFu dCo dSp dCa dR dSt dAu dIp dI dFc dLo dSo dOv dDw dSv dSm) (X : CT K mg C hIn hPu hRe hWi hDr hId hEd hTh hSu hCh hSt hEs hLn hSr hUn hAt hDb hDe hCf eIn ePu eRe eWi eDr eId eEd eTh eSu eCh eSt eEs eLn eSr eUn eAt eDb eDe eCf) : GFn P w K mg base (k + 5) f fd ["self"] (spWalk C) := by
  have GSp : FnOk P w K mg base CX0 (k + 1) fSp dSp ["collections"] spSpoil := ok_spoil T.Sp T.m_enumerate T.m_tuple
  have GCa : FnOk P w K mg base CX0 (k + 1) fCa dCa ["collections", "spoiling"] spCaps := ok_caps T.Ca T.m_enumerate T.m_zip T.m_min T.m_tuple
  have GI : FnOk P w K mg base CX0 (k + 2) fI dI ["stock", "caps", "drawers"] spRoomIn := ok_roomin T.I T
  refine fun_gfn F gscWk (fun vs H Q E h => ?_) (fun cdv A outer s H vs Q E pn hr h => ?_)
  · obtain ⟨x, rows, ws, n, hist, rfl, _⟩ := h
    rfl
  · obtain ⟨x, rows, ws, n, hist, rfl, hc, q⟩ := h
    refine ⟨_, gss_cons (gs_ps (ps_set (i := 1) gscWk.nd rfl (.inl rfl) (pe_tupRg rfl (by rfl) T.m_tuple (prg_1 (by rfl) T.m_range (pe_callB call_len_seq (by rfl) T.m_len PySem.boot_len (pa_cons (pe_fld (pv 0) rfl) pa_nil)))))) (gss_cons (gs_for owns_gcx rfl (pi_tup (pe_call GSp (hr.mono (by omega)) (by rfl) T.gSp T.Sp.kp T.bSp .nil pass0 (pa_cons (pe_fld (pv 0) rfl) pa_nil))) (pg_name (i := 2) gscWk.nd rfl (Or.inl rfl)) (gss_cons (gs_yield (pe_tup (pa_cons (pv 2) (pa_cons (pe_call GI (hr.mono (by omega)) (by rfl) T.gI T.I.kp T.bI .nil pass0 (pa_cons (pe_fld (pv 0) rfl) (pa_cons (pe_call GCa (hr.mono (by omega)) (by rfl) T.gCa T.Ca.kp T.bCa .nil pass0 (pa_cons (pe_fld (pv 0) rfl) (pa_cons (pv 2) pa_nil))) (pa_cons (pv 1) pa_nil)))) pa_nil)))) gss_nil)) gss_nil), ?_⟩
    obtain ⟨⟨dx, t, b, tp, hx, ht, hb, htp⟩, g⟩ := hc
    obtain ⟨_, ls, e1, st⟩ := td_stockI ht
    cases e1
    obtain ⟨_, wl, e2, stb⟩ := td_stockI hb
    cases e2
    have hsl := st.len
    have hw4 : ∀ r ∈ ws, r.length ≤ 4 := fun r hr => by rw [(g.wg r hr).len]; exact g.n4
    refine ⟨_, rfl, x, C, dx, _, _, rfl, hx, X.cl, X.aS, lk_stock, t, _, rfl, .inr (SqT.of st.top), ?_⟩
    refine ⟨((ls.map V.ref).length : Nat), rfl, RgOk.of_le (Int.le_refl _) (by rw [List.length_map]; have := g.r4; omega) (by decide) (by omega), fun Dr nDr => ?_⟩
    have s1 := same_new (o := .tup (rgV 0 ((ls.map V.ref).length : Nat))) nDr
    have hDr : (upd H Dr (.tup (rgV 0 ((ls.map V.ref).length : Nat)))) Dr = some (.tup (natsV (List.range rows.length))) := by rw [upd_same, rg_nats, List.length_map, hsl]
    generalize upd H Dr (.tup (rgV 0 ((ls.map V.ref).length : Nat))) = H1 at s1 hDr ⊢
    refine ⟨_, rfl, x, C, dx, _, _, rfl, s1 _ _ hx, X.cl, X.aC, lk_collections, ?_⟩
    refine ⟨b, wl, ws, rfl, stb.same s1, g.w4, hw4, fun m zs H3 s3 sp3 => ?_⟩
    have s13 := s1.trans s3
    refine ⟨m, rfl, ⟨_, SqT.of sp3.top⟩, ?_⟩
    refine gfor_tup (xs := zs.map V.ref) (fun i ys σ H' => ∃ y2, σ = [some (.ref x), some (.ref Dr), y2] ∧ Same H3 H' ∧ TdAll H' ys ((walkD rows ws n).take i)) ⟨_, rfl, Same.refl _, .nil⟩ (fun i ys σ H' _ h => ?_) (fun i v ys σ H' hv h => ?_) (fun ys σ H' h => ?_)
    · obtain ⟨y2, _, s, _⟩ := h
      exact SqT.of (s _ _ sp3.top)
    · obtain ⟨y2, rfl, s, al⟩ := h
      obtain ⟨z1, hz1, rfl⟩ := get_map hv
      have hil : i < (spOf ws).length := by rw [← sp3.len]; exact (List.getElem?_eq_some_iff.mp hz1).1
      have hsi : (spOf ws)[i]? = some (spOf ws)[i] := List.getElem?_eq_getElem hil
      have hmem : (spOf ws)[i] ∈ spR ws := by rw [← spOf_eq]; exact List.getElem_mem hil
      obtain ⟨hsl2, _⟩ := spR_bd hw4 _ hmem
      have hzi := sp3.row i z1 _ hz1 hsi
      generalize (spOf ws)[i] = sp at hsi hsl2 hzi
      have sH := s13.trans s
      have yl : ys.length = i := by rw [al.len, List.length_take]; unfold walkD; rw [List.length_map]; omega
      have h256 := sp_len hw4 g.w4
      refine ⟨by rw [yl]; exact len_lt (by omega), ?_⟩
      refine ⟨_, rfl, _, rfl, x, C, dx, _, _, rfl, sH _ _ hx, X.cl, X.aS, lk_stock, ?_⟩
      refine ⟨_, rfl, x, C, dx, _, _, rfl, sH _ _ hx, X.cl, X.aC, lk_collections, _, rfl, ?_⟩
      refine ⟨b, z1, wl, ws, sp, n, rfl, stb.same sH, g.w1, g.w4, fun r hr => (g.wg r hr).len, by have := g.n4; omega, s _ _ hzi, hsl2, fun cp H6 s6 hcp => ?_⟩
      refine ⟨_, rfl, t, cp, Dr, ls, rows, n, capsOf ws sp n, List.range rows.length, rfl, st.same (sH.trans s6), fun r hr => (g.rg r hr).1, by have := g.n4; omega, hcp, caps_len _ _ _, (s3.trans (s.trans s6)) _ _ hDr, by rw [List.length_range]; exact g.r4, fun j hj => List.mem_range.mp hj, fun H7 s7 => ?_⟩
      refine ⟨by show 2 ≤ sizeLine; decide, fun T nT => ?_⟩
      have s8 := same_new (o := .tup [.ref z1, .int (roomS rows n (capsOf ws sp n) (List.range rows.length))]) nT
      have s68 := s6.trans (s7.trans s8)
      refine ⟨_, rfl, s.trans s68, ?_⟩
      have e : (walkD rows ws n).take (i + 1) = (walkD rows ws n).take i ++ [.tuple [rowD sp, .int (roomS rows n (capsOf ws sp n) (List.range rows.length))]] := by
        rw [List.take_add_one]
        congr 1
        unfold walkD
        rw [List.getElem?_map, hsi]
        rfl
      rw [e]
      exact td_snoc (al.same s68) (.tup upd_same (.cons (td_row ((s.trans s68) _ _ hzi)) (.cons (.int _) .nil)))
    · obtain ⟨y2, rfl, s, al⟩ := h
      rw [List.take_of_length_le (by unfold walkD; rw [List.length_map, List.length_map, sp3.len]; exact Nat.le_refl _)] at al
      exact q ys H' (s13.trans s) al
/-- two cabinets with the same stock and collections -/
def SameC (C a b : Addr) (H : Hp) : Prop := ∃ (rows ws : List (List Int)) (n : Nat) (h1 h2 : List Hst), CabAt C H a rows ws n h1 ∧ CabAt C H b rows ws n h2
def spSame (C : Addr) : Sp := fun vs H Q _ => ∃ a b, vs = [.ref a, .ref b] ∧ SameC C a b H ∧ Q (.bl true) H
theorem ok_same {f : Addr} {fd : FuncData} {C hIn hPu hRe hWi hDr hId hEd hTh hSu hCh hSt hEs hLn hSr hUn hAt hDb hDe hCf : Addr} {eIn ePu eRe eWi eDr eId eEd eTh eSu eCh eSt eEs eLn eSr eUn eAt eDb eDe eCf : FuncData} {k : Nat} (F : Fun K "is_same_state" "is_same_state" sSame f fd) (X : CT K mg C hIn hPu hRe hWi hDr hId hEd hTh hSu hCh hSt hEs hLn hSr hUn hAt hDb hDe hCf eIn ePu eRe eWi eDr eId eEd eTh eSu eCh eSt eEs eLn eSr eUn eAt eDb eDe eCf) : FnOk P w K mg base CX0 (k + 1) f fd ["one", "other"] (spSame C) := by
  refine F.ok scSame (fun vs H Q E h => ?_) (fun cdv A outer s H vs Q E hr h => ?_)
  · obtain ⟨a, b, rfl, _⟩ := h
    rfl
  · obtain ⟨a, b, rfl, ⟨rows, ws, n, h1, h2, c1, c2⟩, q⟩ := h
    refine ⟨_, (pss_one (ps_ret (pe_and (pe_cmpR (op_eqD hr.units) (pe_fld (pv 0) rfl) (pe_fld (pv 1) rfl) (nomark _)) (pe_one (pe_cmpR (op_eqD hr.units) (pe_fld (pv 0) rfl) (pe_fld (pv 1) rfl) (nomark _)))))), ?_⟩
    obtain ⟨⟨dx, t, b1, tp, hx, ht, hb, _⟩, g⟩ := c1
    obtain ⟨⟨dy, t2, b2, tp2, hy, ht2, hb2, _⟩, _⟩ := c2
    refine ⟨_, rfl, a, C, dx, _, _, rfl, hx, X.cl, X.aS, lk_stock, ?_⟩
    refine ⟨_, rfl, b, C, dy, _, _, rfl, hy, X.cl, X.aS, lk_stock, ?_⟩
    refine ⟨_, _, ht.dp, ht2.dp, g.smR.shaped (by decide), g.smR.shaped (by decide), _, rfl, ?_⟩
    rw [SeqAt.eqv_refl _ g.smR.lay]
    refine iteT ?_
    refine ⟨_, rfl, a, C, dx, _, _, rfl, hx, X.cl, X.aC, lk_collections, ?_⟩
    refine ⟨_, rfl, b, C, dy, _, _, rfl, hy, X.cl, X.aC, lk_collections, ?_⟩
    refine ⟨_, _, hb.dp, hb2.dp, g.smW.shaped (by decide), g.smW.shaped (by decide), ?_⟩
    rw [SeqAt.eqv_refl _ g.smW.lay]
    exact q
/-- what is told of walk and == -/
structure WE (K : PySem.W.Frag) (mg : Str → Option Value) (C CH hWk hEq : Addr) (eWk eEq : FuncData) : Prop where
  FWk : Fun K "walk" "Cabinet.walk" cWalk hWk eWk
  BWk : Binds K eWk ["self"] []
  MWk : Meth K C "walk" hWk
  FEq : Fun K "__eq__" "Cabinet.__eq__" cEq hEq eEq
  BEq : Binds K eEq ["self", "other"] []
  MEq : Meth K C "__eq__" hEq
  gH : mg "HandCabinet" = some (.ref CH)
  kC : PySem.W.kitOne K (.ref C) (.ref C) = some true
  kH : PySem.W.kitOne K (.ref C) (.ref CH) = some false
  isC : TyC K C
  m_isinstance : mg "isinstance" = none
theorem ok_eq {fN fU fV fTu fA fEr fO fSz fWm fWi fCs fCn fFu fCo fSp fCa fR fSt fAu fIp fI fFc fLo fSo fOv fDw fSv fSm : Addr} {dN dU dV dTu dA dEr dO dSz dWm dWi dCs dCn dFu dCo dSp dCa dR dSt dAu dIp dI dFc dLo dSo dOv dDw dSv dSm : FuncData} {C hIn hPu hRe hWi hDr hId hEd hTh hSu hCh hSt hEs hLn hSr hUn hAt hDb hDe hCf : Addr} {eIn ePu eRe eWi eDr eId eEd eTh eSu eCh eSt eEs eLn eSr eUn eAt eDb eDe eCf : FuncData} {k : Nat} {CH hWk hEq : Addr} {eWk eEq : FuncData} (X : CT K mg C hIn hPu hRe hWi hDr hId hEd hTh hSu hCh hSt hEs hLn hSr hUn hAt hDb hDe hCf eIn ePu eRe eWi eDr eId eEd eTh eSu eCh eSt eEs eLn eSr eUn eAt eDb eDe eCf) (T : Tx K mg fN fU fV fTu fA fEr fO fSz fWm fWi fCs fCn fFu fCo fSp fCa fR fSt fAu fIp fI fFc fLo fSo fOv fDw fSv fSm dN dU dV dTu dA dEr dO dSz dWm dWi dCs dCn dFu dCo dSp dCa dR dSt dAu dIp dI dFc dLo dSo dOv dDw dSv dSm) (Z : WE K mg C CH hWk hEq eWk eEq) : FnOk P w K mg base CX0 (k + 2) hEq eEq ["self", "other"] (L2.spEq (SameC C)) := by
  have GSm : FnOk P w K mg base CX0 (k + 1) fSm dSm ["one", "other"] (spSame C) := ok_same T.Sm X
  refine Z.FEq.ok scEq (fun vs H Q E h => ?_) (fun cdv A outer s H vs Q E hr h => ?_)
  · obtain ⟨a, b, rfl, _⟩ := h
    rfl
  · obtain ⟨a, b, rfl, hs, q⟩ := h
    refine ⟨_, (pss_one (ps_ret (pe_and (pe_callB (show CallR _ _ (rIsi K) from call_isi) (by rfl) Z.m_isinstance (by decide +kernel) (pa_cons (pv 1) (pa_cons (pe_glob (v := .ref C) rfl X.gC rfl) pa_nil))) (pe_and (pe_not (pe_callB (show CallR _ _ (rIsi K) from call_isi) (by rfl) Z.m_isinstance (by decide +kernel) (pa_cons (pv 1) (pa_cons (pe_glob (v := .ref CH) rfl Z.gH rfl) pa_nil)))) (pe_one (pe_call GSm (hr.mono (by omega)) (by rfl) T.gSm T.Sm.kp T.bSm .nil pass0 (pa_cons (pv 0) (pa_cons (pv 1) pa_nil)))))))), ?_⟩
    obtain ⟨rows, ws, n, h1, h2, c1, c2⟩ := id hs
    obtain ⟨dy, _, _, _, hy, _⟩ := c2.ex
    have ty : TyX K H (.ref b) (.ref C) := .base (.ins hy X.cl Z.isC.a Z.isC.n Z.isC.t Z.isC.m)
    refine ⟨_, rfl, .ref b, _, _, _, true, rfl, .own C, ty, Z.kC, true, rfl, iteT ?_⟩
    refine ⟨_, rfl, .ref b, _, _, _, false, rfl, .own CH, ty, Z.kH, false, rfl, true, rfl, iteT ?_⟩
    exact ⟨_, rfl, _, rfl, a, b, rfl, hs, q _ (fun _ _ h => h)⟩
end
end DD
namespace DD
open PySem PySem.Spec PyProof.Rows L2 RZ
abbrev NPl : List Str := ["_law_deck_here", "_law_stock_here", "_law_row"]
theorem scPl : FnScope NPl ["_law_deck_here", "_law_stock_here"] (defScope sLPlan) := ⟨rfl, rfl, rfl, by decide +kernel, rfl, by decide +kernel, by decide +kernel⟩
theorem scSh : FnScope ["_law_table", "_law_plan_here", "_law_found"] ["_law_table", "_law_plan_here"] (defScope sShown) := ⟨rfl, rfl, rfl, by decide +kernel, rfl, by decide +kernel, by decide +kernel⟩
/-- the first twenty signs of a cabinet's text -/
def headT (a b c d : Int) : Str := cutS (cabS a b c d 0) none (some 20)
theorem tl_cut {z : Str} : TL.tl (cutS z none (some 20)) = (TL.tl z).take 20 := by
  show (List.take (HT.sIx z.length z.length (some ((20 : Nat) : Int)) - 0) (List.drop 0 z.cps.toList)) = _
  rw [HT.sIx_nat, List.drop_zero, Nat.sub_zero]
  show List.take (min 20 z.length) (TL.tl z) = List.take 20 (TL.tl z)
  rw [TL.len_tl]
  by_cases h : 20 ≤ (TL.tl z).length
  · rw [Nat.min_eq_left h]
  · rw [Nat.min_eq_right (by omega), List.take_length, List.take_of_length_le (by omega)]
def tailC (c d e : Int) : List Nat := (List.intersperse [32] [TL.tl (numT c), TL.tl "things,", TL.tl (numT d), TL.tl "collections,", TL.tl (numT e), TL.tl "edits"]).flatten
theorem tl_cab' (a b c d e : Int) : TL.tl (cabS a b c d e) = ((((((TL.tl (numT a) ++ [32]) ++ TL.tl "drawers,") ++ [32]) ++ TL.tl (numT b)) ++ [32]) ++ (TL.tl "kinds," ++ [32])) ++ tailC c d e := by
  unfold cabS tailC
  rw [TL.join_eq, TL.tl_join]
  show (List.intersperse [32] [TL.tl (numT a), TL.tl "drawers,", TL.tl (numT b), TL.tl "kinds,", TL.tl (numT c), TL.tl "things,", TL.tl (numT d), TL.tl "collections,", TL.tl (numT e), TL.tl "edits"]).flatten = _
  simp only [List.intersperse, List.flatten_cons, List.flatten_nil, List.append_assoc, List.cons_append, List.nil_append, List.append_nil]
theorem tl_cab (a b c d e : Int) : ∃ R, TL.tl (cabS a b c d e) = ((((((TL.tl (numT a) ++ [32]) ++ TL.tl "drawers,") ++ [32]) ++ TL.tl (numT b)) ++ [32]) ++ (TL.tl "kinds," ++ [32])) ++ R := ⟨_, tl_cab' a b c d e⟩
theorem len_cab {a b c d e : Int} (a0 : 0 ≤ a) (a1 : a < 4096) (b0 : 0 ≤ b) (b1 : b < 4096) (c0 : 0 ≤ c) (c1 : c < 4096) (d0 : 0 ≤ d) (d1 : d < 4096) (e0 : 0 ≤ e) (e1 : e < 4096) : (cabS a b c d e).length ≤ 1000 := by
  rw [TL.len_tl, tl_cab']
  unfold tailC
  have ha := numT_len a0 a1
  have hb := numT_len b0 b1
  have hc := numT_len c0 c1
  have hd := numT_len d0 d1
  have he := numT_len e0 e1
  rw [TL.len_tl] at ha hb hc hd he
  simp only [List.intersperse, List.flatten_cons, List.flatten_nil, List.length_append, List.length_cons, List.length_nil, List.append_nil]
  rw [show (TL.tl "drawers,").length = 8 from rfl, show (TL.tl "kinds,").length = 6 from rfl, show (TL.tl "things,").length = 7 from rfl, show (TL.tl "collections,").length = 12 from rfl, show (TL.tl "edits").length = 5 from rfl]
  omega
theorem num_pos {x : Int} (h : 0 ≤ x) : 1 ≤ (TL.tl (numT x)).length ∧ ∀ y ∈ TL.tl (numT x), y < 128 := by
  rw [tl_numT h]
  refine ⟨?_, fun y hy => ?_⟩
  · have := TL.numL_ne x.toNat
    cases e : TL.numL x.toNat with
    | nil => exact absurd e this
    | cons y l => rw [List.length_cons]; omega
  · by_cases c : 57 < y
    · exact absurd hy (TL.numL_free (.inr c))
    · omega
theorem cut_head {a b c d e : Int} (ha : 0 ≤ a) (hb : 0 ≤ b) : cutS (cabS a b c d e) none (some 20) = headT a b c d := by
  refine TL.ext_tl ?_
  unfold headT
  rw [tl_cut, tl_cut]
  obtain ⟨R, h⟩ := tl_cab a b c d e
  obtain ⟨R', h'⟩ := tl_cab a b c d 0
  have n1 := (num_pos ha).1
  have n2 := (num_pos hb).1
  have l : 20 ≤ (((((((TL.tl (numT a) ++ [32]) ++ TL.tl "drawers,") ++ [32]) ++ TL.tl (numT b)) ++ [32]) ++ (TL.tl "kinds," ++ [32]))).length := by
    simp only [List.length_append, List.length_singleton]
    rw [show (TL.tl "drawers,").length = 8 from rfl, show (TL.tl "kinds,").length = 6 from rfl]
    omega
  rw [h, h', List.take_append_of_le_length l, List.take_append_of_le_length l]
theorem sm_head {a b c d : Int} (ha : 0 ≤ a) (hb : 0 ≤ b) : Sm 21 0 (.str (headT a b c d)) := by
  obtain ⟨R', h'⟩ := tl_cab a b c d 0
  have n1 := (num_pos ha).1
  have n2 := (num_pos hb).1
  have l : 20 ≤ (((((((TL.tl (numT a) ++ [32]) ++ TL.tl "drawers,") ++ [32]) ++ TL.tl (numT b)) ++ [32]) ++ (TL.tl "kinds," ++ [32]))).length := by
    simp only [List.length_append, List.length_singleton]
    rw [show (TL.tl "drawers,").length = 8 from rfl, show (TL.tl "kinds,").length = 6 from rfl]
    omega
  have e : TL.tl (headT a b c d) = _ := tl_cut.trans ((congrArg (List.take 20) h').trans (List.take_append_of_le_length l))
  refine ⟨?_, rfl, rfl, ?_, Nat.le_refl _⟩
  · show (headT a b c d).cps.all (· < 0x110000) = true
    rw [← Array.all_toList]
    refine List.all_eq_true.mpr fun y hy => decide_eq_true ?_
    have hy : y ∈ TL.tl (headT a b c d) := hy
    rw [e] at hy
    have hy := List.mem_of_mem_take hy
    simp only [List.mem_append, List.mem_singleton] at hy
    have lit : ∀ x ∈ TL.tl "drawers," ++ TL.tl "kinds,", x < 128 := by decide +kernel
    rcases hy with (((((h | h) | h) | h) | h) | h) | (h | h)
    · have := (num_pos ha).2 y h
      omega
    · omega
    · have := lit y (List.mem_append_left _ h)
      omega
    · omega
    · have := (num_pos hb).2 y h
      omega
    · omega
    · have := lit y (List.mem_append_right _ h)
      omega
    · omega
  · show (headT a b c d).cps.size ≤ 21
    have : (TL.tl (headT a b c d)).length ≤ 20 := by
      rw [e, List.length_take]
      omega
    have e2 : (headT a b c d).cps.size = (TL.tl (headT a b c d)).length := TL.len_tl _
    omega
end DD
namespace DD
open PySem PySem.Spec PyProof.Rows L2 RZ
def optP : Option Int → PyData
  | none => .none
  | some k => .int k
/-- what _law_shown shows -/
@[irreducible] def shL (r u : List (List Int)) (ps : List Int) (n : Nat) : PyData := .list [stockD r, stockD u, optP (totalOf (totalsOf r n) u n), .tuple [stockD r, stockD u], .list (walkD r u n), certD r u ps n, .str (headT (r.length : Nat) (n : Nat) (thingsOf r) (u.length : Nat))]
theorem sm_opt2 {o : Option Int} (h : ∀ k, o = some k → 0 ≤ k ∧ k < 4096) : Sm 21 0 (optP o) := by
  cases o with
  | none => exact Sm.non
  | some k =>
    have := h k rfl
    exact (Sm.int this.1 this.2).up (by decide) (Nat.le_refl _)
theorem room_wk {r u : List (List Int)} {n : Nat} (g : Sg r u n) {s : List Int} (hs : s ∈ spOf u) : 0 ≤ roomS r n (capsOf u s n) (List.range r.length) ∧ roomS r n (capsOf u s n) (List.range r.length) < 4096 := by
  have hb : ∀ x ∈ totL r n (List.range r.length), 0 ≤ x ∧ x ≤ 200 := fun x hx => by
    unfold totL at hx
    obtain ⟨i, _, rfl⟩ := List.mem_map.mp hx
    have := sum_bd (b := 50) (xs := (pickR r (List.range r.length)).map fun r => r.getD i 0) fun y hy => by
      obtain ⟨q, hq, rfl⟩ := List.mem_map.mp hy
      unfold pickR at hq
      obtain ⟨j, hj, rfl⟩ := List.mem_map.mp hq
      exact getD_bd (g.rg _ (List.mem_of_getElem? (getD_ofN (List.mem_range.mp hj)))).2 (by decide) i
    rw [List.length_map] at this
    have hl : (pickR r (List.range r.length)).length = r.length := by simp [pickR]
    have := g.r4
    omega
  have hz := sum_bd (zw_bd hb (caps_nn (n := n) hs))
  have hl : (List.zipWith capv (totL r n (List.range r.length)) (capsOf u s n)).length ≤ 4 := by
    rw [List.length_zipWith, caps_len]
    have := g.n4
    omega
  unfold roomS
  omega
theorem sm_walk {r u : List (List Int)} {n : Nat} (g : Sg r u n) : Sm 40000 4 (.list (walkD r u n)) := by
  have hw4 : ∀ x ∈ u, x.length ≤ 4 := fun x hx => by rw [(g.wg x hx).len]; exact g.n4
  have a : SmA (walkD r u n).length 114 2 (walkD r u n) := SmA.all fun d hd => by
    unfold walkD at hd
    obtain ⟨s, hs, rfl⟩ := List.mem_map.mp hd
    have hb := room_wk g hs
    have hsp := spR_bd hw4 s (by rw [← spOf_eq]; exact hs)
    have q : SmA (0 + 1 + 1) 56 1 [rowD s, .int (roomS r n (capsOf u s n) (List.range r.length))] := .cons (sm_row (fun x hx => by have := hsp.2 x hx; omega) (by rw [hsp.1]; exact g.w4)) (.cons ((Sm.int hb.1 hb.2).up (by decide) (by decide)) .nil)
    exact q.tup.up (by decide) (by decide)
  refine a.lst.up ?_ (by decide)
  have h256 := sp_len hw4 g.w4
  unfold walkD
  rw [List.length_map]
  omega
theorem sm_shL {r u : List (List Int)} {ps : List Int} {n : Nat} (g : Sg r u n) (hp : ∀ j, 0 ≤ plF ps j) : Sm 290000 64 (shL r u ps n) := by
  unfold shL
  have q2 : SmA (0 + 1 + 1) 228 2 [stockD r, stockD u] := .cons g.smR (.cons g.smW .nil)
  have hh : Sm 40000 10 (.str (headT (r.length : Nat) (n : Nat) (thingsOf r) (u.length : Nat))) := Sm.up (w1 := 21) (w2 := 40000) (k1 := 0) (k2 := 10) (sm_head (Int.natCast_nonneg _) (Int.natCast_nonneg _)) (by decide) (by decide)
  have ho := Sm.up (w1 := 21) (w2 := 40000) (k1 := 0) (k2 := 10) (sm_opt2 (sure_bd g)) (by decide) (by decide)
  have q : SmA (0 + 1 + 1 + 1 + 1 + 1 + 1 + 1) 40000 10 [stockD r, stockD u, optP (totalOf (totalsOf r n) u n), .tuple [stockD r, stockD u], .list (walkD r u n), certD r u ps n, .str (headT (r.length : Nat) (n : Nat) (thingsOf r) (u.length : Nat))] :=
    .cons (g.smR.up (by decide) (by decide)) (.cons (g.smW.up (by decide) (by decide)) (.cons ho (.cons (q2.tup.up (by decide) (by decide)) (.cons ((sm_walk g).up (by decide) (by decide))
      (.cons (sm_cert (fun y hy => (g.rg y hy).2) hp (fun y hy => (g.wg y hy).len) g.n4 g.r4 g.w4) (.cons hh .nil))))))
  exact q.lst.up (by decide) (by decide)
theorem lm_walk {a b c d e : V} : List.lookup ("walk" : Str) (Fs a b c d e) = none := rfl
section
variable {P : Program} {w : World} {K : PySem.W.Frag} {mg : Str → Option Value} {base : Heap}
def spLPl : Sp := fun vs H Q _ => ∃ (dk c t : Addr) (B n : Nat) (rows : List (List Int)), vs = [.ref dk, .ref t] ∧ Deck H dk c B ∧ B + 4 ≤ 1000000 ∧ Td H (.ref t) (stockD rows) ∧ rows.length ≤ 4 ∧ n ≤ 4 ∧ (∀ r ∈ rows, r.length = n ∧ ∀ y ∈ r, 0 ≤ y ∧ y ≤ 50) ∧
  ∀ p (ps : List Int) H', H' p = some (.tup (ps.map V.int)) → ps.length = rows.length → (∀ j, j < rows.length → 0 ≤ ps.getD j 0 ∧ ps.getD j 0 ≤ sizeAt rows j) → Kp2 dk c H H' → Deck H' dk c (B + 4) → Q (.ref p) H'
theorem ok_lpl {f lDk lD lS lC lW lAf lEd lO lPl lSh : Addr} {fd jDk jD jS jC jW jAf jEd jO jPl jSh : FuncData} {k : Nat} (F : Fun K "_law_plan" "_law_plan" sLPlan f fd) (T : LX K mg lDk lD lS lC lW lAf lEd lO lPl lSh jDk jD jS jC jW jAf jEd jO jPl jSh) : FnOk P w K mg base CX0 (k + 2) f fd ["_law_deck_here", "_law_stock_here"] spLPl := by
  have GD : FnOk P w K mg base CX0 (k + 1) lD jD ["_law_deck_here", "_law_many"] spDraw := ok_draw T.D T.m_len
  refine F.ok scPl (fun vs H Q E h => ?_) (fun cdv A outer s H vs Q E hr h => ?_)
  · obtain ⟨dk, c, t, B, n, rows, rfl, _⟩ := h
    rfl
  · obtain ⟨dk, c, t, B, n, rows, rfl, dek, hB, ht, hr4, hn4, hg, q⟩ := h
    refine ⟨_, (pss_one (ps_ret (pe_callTy call_tuple_of (by rfl) T.m_tuple (by decide +kernel) (pa_cons (pe_lc (own := [("_law_row", 2)]) (g := gName 2) rfl scPl.nd (pi_tup (pv 1)) (blkOk_by (own := [("_law_row", 2)]) (N := NPl) (sc := defScope sLPlan) (by decide +kernel)) (fun _ _ _ _ _ => (pg_name (i := 2) scPl.nd rfl (Or.inl rfl))) (fun _ _ _ _ _ => pts_nil) (fun _ _ _ _ _ => (pe_call GD (hr.mono (by omega)) (by rfl) T.gD T.D.kp T.bD .nil pass0 (pa_cons (pv 0) (pa_cons (pe_op op_add (pe_callB (show CallR _ _ (rSumT K) from cr_sumT rfl) (by rfl) T.m_sum (by decide +kernel) (pa_cons (pv 2) pa_nil)) pe_int) pa_nil))))) pa_nil)))), ?_⟩
    obtain ⟨_, ls, e1, st⟩ := td_stockI ht
    cases e1
    have hll := st.len
    refine ⟨_, rfl, t, rfl, ⟨_, SqT.of st.top⟩, fun D nD => ?_⟩
    have neD := dek.nedk nD
    refine lc_tup (xs := ls.map V.ref) (fun i H' => ∃ ps : List Int, H' D = some (.lst (ps.map V.int)) ∧ ps.length = i ∧ (∀ j, j < i → 0 ≤ ps.getD j 0 ∧ ps.getD j 0 ≤ sizeAt rows j) ∧ Kp2 dk c H H' ∧ Deck H' dk c (B + i)) ⟨[], upd_same, rfl, (fun j hj => absurd hj (Nat.not_lt_zero j)), kps (same_new nD), dek.kp nD⟩
      (fun i H' _ h => ?_) (fun i v H' hv h => ?_) (fun H' h => ?_)
    · obtain ⟨ps, _, _, _, kk, _⟩ := h
      exact SqT.of (st.kp kk dek).top
    · obtain ⟨ps, hD, hpl, hb, kk, d4⟩ := h
      obtain ⟨l, hl, rfl⟩ := get_map hv
      have hil : i < rows.length := by rw [← hll]; exact (List.getElem?_eq_some_iff.mp hl).1
      have hri : rows[i]? = some (rows.getD i []) := getD_ofN hil
      have hrow := (st.kp kk dek).row i l _ hl hri
      have hgi := hg _ (List.mem_of_getElem? hri)
      have hs := sum_bd hgi.2
      have hsz : sizeAt rows i = (rows.getD i []).sum := rfl
      refine ⟨rfl, _, rfl, _, rfl, l, _, rfl, SqT.of hrow, _, 1, rfl, rfl, dk, c, _, (rows.getD i []).sum + 1, rfl, d4, by omega, by omega, by have := hgi.1; omega, fun r H5 e0 e1 k5 d5 => ?_⟩
      refine ⟨_, k5 _ _ neD.1 neD.2 hD, by rw [List.length_map]; exact len_lt (by omega), ps ++ [r], by rw [upd_same, List.map_append]; rfl, by rw [List.length_append, hpl]; rfl, fun j hj => ?_, (kk.trans k5).updF nD, (d5.updD neD.1 neD.2).up (by omega)⟩
      by_cases e : j < i
      · rw [List.getD_eq_getElem?_getD, List.getElem?_append_left (by omega), ← List.getD_eq_getElem?_getD]
        exact hb j e
      · have e : j = i := by omega
        subst e
        rw [List.getD_eq_getElem?_getD, List.getElem?_append_right (by omega), hpl, Nat.sub_self]
        show 0 ≤ r ∧ r ≤ sizeAt rows j
        rw [hsz]
        omega
    · obtain ⟨ps, hD, hpl, hb, kk, d4⟩ := h
      rw [List.length_map] at hpl d4 hb
      refine ⟨D, _, rfl, .inl ⟨SqL.of hD, fun p np => ?_⟩⟩
      exact q p ps _ upd_same (by omega) (fun j hj => hb j (by omega)) (kk.trans (kps (same_new np))) ((d4.kp np).up (by omega))
def spSh (C : Addr) : Sp := fun vs H Q _ => ∃ (x p : Addr) (rows ws : List (List Int)) (n : Nat) (hist : List Hst) (ps : List Int), vs = [.ref x, .ref p] ∧ CabAt C H x rows ws n hist ∧ hist.length ≤ 900 ∧ H p = some (.tup (ps.map V.int)) ∧ ps.length = rows.length ∧
  (∀ j, j < rows.length → 0 ≤ ps.getD j 0 ∧ ps.getD j 0 ≤ sizeAt rows j) ∧ ∀ H', Same H H' → Q (.str (shL rows ws ps n).shown) H'
theorem ok_sh {f lDk lD lS lC lW lAf lEd lO lPl lSh : Addr} {fd jDk jD jS jC jW jAf jEd jO jPl jSh : FuncData} {C hIn hPu hRe hWi hDr hId hEd hTh hSu hCh hSt hEs hLn hSr hUn hAt hDb hDe hCf : Addr} {eIn ePu eRe eWi eDr eId eEd eTh eSu eCh eSt eEs eLn eSr eUn eAt eDb eDe eCf : FuncData} {fN fU fV fTu fA fEr fO fSz fWm fWi fCs fCn fFu fCo fSp fCa fR fSt fAu fIp fI fFc fLo fSo fOv fDw fSv fSm : Addr} {dN dU dV dTu dA dEr dO dSz dWm dWi dCs dCn dFu dCo dSp dCa dR dSt dAu dIp dI dFc dLo dSo dOv dDw dSv dSm : FuncData} (F : Fun K "_law_shown" "_law_shown" sShown f fd) (T : LX K mg lDk lD lS lC lW lAf lEd lO lPl lSh jDk jD jS jC jW jAf jEd jO jPl jSh) (X : CT K mg C hIn hPu hRe hWi hDr hId hEd hTh hSu hCh hSt hEs hLn hSr hUn hAt hDb hDe hCf eIn ePu eRe eWi eDr eId eEd eTh eSu eCh eSt eEs eLn eSr eUn eAt eDb eDe eCf) (TP : Tx K mg fN fU fV fTu fA fEr fO fSz fWm fWi fCs fCn fFu fCo fSp fCa fR fSt fAu fIp fI fFc fLo fSo fOv fDw fSv fSm dN dU dV dTu dA dEr dO dSz dWm dWi dCs dCn dFu dCo dSp dCa dR dSt dAu dIp dI dFc dLo dSo dOv dDw dSv dSm) (Z : KT K eSt eCf) {CH hWk hEq : Addr} {eWk eEq : FuncData} (W : WE K mg C CH hWk hEq eWk eEq) : FnG P w K mg base 9 f fd ["_law_table", "_law_plan_here"] (spSh C) := by
  have GSt : FnOk P w K mg base CX0 1 hSt eSt ["self", "version"] (spSt C) := ok_st (k := 0) X.FSt TP X
  have GCf : FnOk P w K mg base CX0 5 hCf eCf ["self", "plan", "version"] (spCf C) := ok_cf (k := 0) X.FCf TP X Z
  have GWk : GFn P w K mg base 5 hWk eWk ["self"] (spWalk C) := ok_walk (k := 0) W.FWk TP X
  have GSr : FnOk P w K mg base CX0 3 hSr eSr ["self"] (spSr C) := ok_sr X.FSr TP X
  have RSr : FnR P w K mg base CX0 3 hSr (fun vs H Q E => spSr C vs H Q E) := (GSr.raw X.BSr .nil).imp fun vs H Q E h => by
    rw [List.append_nil]
    exact h
  obtain ⟨dsS, vdS, bdS⟩ := X.BSt
  obtain ⟨dsC, vdC, bdC⟩ := X.BCf
  refine fnG_of F scSh (fun vs H Q E h => ?_) (fun cdv A hgu outer s H vs Q E hr h => ?_)
  · obtain ⟨x, p, rows, ws, n, hist, ps, rfl, _⟩ := h
    rfl
  · obtain ⟨x, p, rows, ws, n, hist, ps, rfl, hc, hl, hp, hpl, hbd, q⟩ := h
    have hu : (A.deeper (envOfC "_law_shown" (defScope sShown) s.heap.objs.size f cdv)).units + 66 < cLine := by
      have := hr.un
      omega
    have hu2 : (A.deeper (envOfC "_law_shown" (defScope sShown) s.heap.objs.size f cdv)).in1.in1.units < cLine := by
      have := hr.un
      show (A.deeper (envOfC "_law_shown" (defScope sShown) s.heap.objs.size f cdv)).units + 1 + 1 < cLine
      omega
    refine ⟨_, (pss_cons (ps_set (i := 2) scSh.nd rfl (.inl rfl) (pe_lst (pa_cons (pe_fld (pv 0) rfl) (pa_cons (pe_fld (pv 0) rfl) (pa_cons (pe_fld (pv 0) rfl) (pa_cons (pe_meth0 (pv 0) X.cl X.MSt GSt (hr.mono (by omega)) bdS vdS pass0) (pa_cons (pe_listG (pgen_meth0 (E := E0) (pv 0) X.cl W.MWk GWk (hr.mono (by omega)) W.BWk .nil) (fun pins σ H s e s' I c => (by obtain ⟨a, B, H', cls, d, _, _, _, _, _, _, _, z⟩ := c; exact z.elim)) (fun _ _ _ h => h.elim) (hr.mono (by omega)) (by rfl) TP.m_list (by decide +kernel)) pa_nil)))))))
      (pss_one (ps_ret (pe_callB (call_reprD hgu hu) (by rfl) T.m_repr (by decide +kernel) (pa_cons (pe_op op_cat (pv 2) (pe_lst (pa_cons (pe_meth (pv 0) X.cl X.MCf GCf (hr.mono (by omega)) bdC vdC pass0 (pa_cons (pv 1) pa_nil)) (pa_cons (pe_slice sl_str (pe_callTy (call_strO (show Spc K C hSr "__str__" from ⟨X.MSr.at_, X.MSr.fn⟩) RSr (hr.mono (by omega)) hu2) (by rfl) T.m_str (by decide +kernel) (pa_cons (pv 0) pa_nil)) po_none (po_some pe_int)) pa_nil)))) pa_nil))))), ?_⟩
    obtain ⟨⟨dx, t, b, tp, hx, ht, hb, htp⟩, g⟩ := id hc
    have pnn : ∀ j, 0 ≤ plF ps j := fun j => by
      unfold plF
      by_cases hj : j < rows.length
      · exact (hbd j hj).1
      · rw [List.getD_eq_getElem?_getD, List.getElem?_eq_none (by omega)]
        exact Int.le_refl _
    refine ⟨_, rfl, x, C, dx, _, _, rfl, hx, X.cl, X.aS, lk_stock, ?_⟩
    refine ⟨_, rfl, x, C, dx, _, _, rfl, hx, X.cl, X.aC, lk_collections, ?_⟩
    refine ⟨_, rfl, x, C, dx, _, _, rfl, hx, X.cl, X.aU, lk_sure, ?_⟩
    refine ⟨_, rfl, x, dx, _, rfl, hx, lm_state, x, rows, ws, n, hist, rfl, hc, fun v1 H1 s1 hv1 => ?_⟩
    refine ⟨_, rfl, x, dx, _, rfl, s1 _ _ hx, lm_walk, x, rows, ws, n, hist, rfl, hc.same s1, fun out H2 s2 hout pw nw => ?_⟩
    have s3 := same_new (o := .lst out) nw
    refine ⟨by show 5 ≤ sizeLine; decide, fun L nL => ?_⟩
    have s4 := same_new (o := .lst [.ref t, .ref b, sureV rows ws n, v1, .ref pw]) nL
    have s34 := s3.trans s4
    have s24 := s2.trans s34
    have s14 := s1.trans s24
    have hpw := s4 _ _ (upd_same (H := H2) (a := pw) (o := HO.lst out))
    have hL := upd_same (H := upd H2 pw (.lst out)) (a := L) (o := HO.lst [.ref t, .ref b, sureV rows ws n, v1, .ref pw])
    generalize upd (upd H2 pw (.lst out)) L (.lst [.ref t, .ref b, sureV rows ws n, v1, .ref pw]) = H4 at s34 s24 s14 hpw hL ⊢
    have c4 := hc.same s14
    have hx4 := s14 _ _ hx
    refine ⟨_, rfl, _, rfl, x, dx, _, rfl, hx4, lm_certificate, _, rfl, ?_⟩
    refine ⟨x, p, none, rows, ws, rows, ws, n, hist, ps, rfl, c4, hl, ⟨rfl, rfl⟩, g, s14 _ _ hp, hpl, hbd, fun cc H5 s5 cx => ?_⟩
    refine ⟨_, rfl, x, dx, _, rfl, s5 _ _ hx4, x, rows, ws, n, hist, rfl, c4.same s5, hl, fun H6 s6 => ⟨_, rfl, ?_⟩⟩
    have hth := g.things
    have r4 := g.r4
    have w4 := g.w4
    have n4 := g.n4
    refine ⟨20, rfl, _, rfl, Nat.le_of_lt (len_lt (len_cab (by omega) (by omega) (by omega) (by omega) hth.1 (by have := hth.2; omega) (by omega) (by omega) (by omega) (by omega))), ?_⟩
    rw [cut_head (by omega) (by omega)]
    refine ⟨by show 2 ≤ sizeLine; decide, fun L2 nL2 => ?_⟩
    have s7 := same_new (o := .lst [.ref cc, .str (headT (rows.length : Nat) (n : Nat) (thingsOf rows) (ws.length : Nat))]) nL2
    have s57 := s5.trans (s6.trans s7)
    refine ⟨L, L2, _, _, rfl, rfl, s57 _ _ hL, upd_same, by show 5 + 2 ≤ sizeLine; decide, fun L3 nL3 => ?_⟩
    have s8 := same_new (o := .lst ([.ref t, .ref b, sureV rows ws n, v1, .ref pw] ++ [.ref cc, .str (headT (rows.length : Nat) (n : Nat) (thingsOf rows) (ws.length : Nat))])) nL3
    have s58 := s57.trans s8
    have s18 := s14.trans s58
    have hsv : Dp K (upd (upd H6 L2 (.lst [.ref cc, .str (headT (rows.length : Nat) (n : Nat) (thingsOf rows) (ws.length : Nat))])) L3 (.lst ([.ref t, .ref b, sureV rows ws n, v1, .ref pw] ++ [.ref cc, .str (headT (rows.length : Nat) (n : Nat) (thingsOf rows) (ws.length : Nat))]))) (sureV rows ws n) (optP (totalOf (totalsOf rows n) ws n)) := by
      unfold sureV
      cases totalOf (totalsOf rows n) ws n with
      | none => exact .non
      | some k => exact .int k
    refine ⟨L3, shL rows ws ps n, 290000, rfl, by unfold shL; exact .lst (SqL.of upd_same) (.cons (ht.same s18).dp (.cons (hb.same s18).dp (.cons hsv (.cons (hv1.same (s24.trans s58)).dp (.cons (.lst (SqL.of (s58 _ _ hpw)) (TdAll.dp (hout.same (s34.trans s58)))) (.cons ((cx.same (s6.trans (s7.trans s8))).dp g.r4) (.cons (.str _) .nil))))))), sm_shL g pnn, by decide, ?_⟩
    exact q _ s18
end
end DD
namespace DD
open PySem PySem.Spec PyProof.Rows L2 RZ
section
variable {P : Program} {w : World} {K : PySem.W.Frag} {mg : Str → Option Value} {base : Heap}
def spBatchT : Sp := fun vs H Q _ => ∃ (a : Addr) (es : List V) (eds : List Ed), vs = [.ref a] ∧ H a = some (.tup es) ∧ TdAll H es (eds.map Ed.dat) ∧ eds.length ≤ 20 ∧ ∀ p H', Same H H' → H p = none → H' p = some (.lst es) → Q (.ref p) H'
theorem ok_batchT {f : Addr} {fd : FuncData} {k : Nat} (F : Fun K "batch_of" "batch_of" sBatch f fd) {lIs lBa dv : Addr} {jIs jBa : FuncData} (Y : AX K w mg lIs lBa dv jIs jBa) : FnOk P w K mg base CX0 (k + 2) f fd ["edits"] spBatchT := by
  have GIs : FnOk P w K mg base CX0 (k + 1) lIs jIs ["value"] spIsEd := ok_ised Y.Is Y
  obtain ⟨tb, hB⟩ := Y.mB
  refine F.ok scBatch (fun vs H Q E h => ?_) (fun cdv A outer s H vs Q E hr h => ?_)
  · obtain ⟨a, es, eds, rfl, _⟩ := h
    rfl
  · obtain ⟨a, es, eds, rfl, ha, hes, hl, q⟩ := h
    have hel : es.length = eds.length := by rw [hes.len, List.length_map]
    refine ⟨_, (pss_cons (ps_if (PW.pt (pw_or (pt_not (pt_val (pe_callB (show CallR _ _ (rIsiT K) from call_isiT) (by rfl) Y.m_isinstance (by decide +kernel) (pa_cons (pv 0) (pa_cons (pe_tup (pa_cons (pe_bltn (v := .ty "list") (by rfl) Y.m_list (by decide +kernel) rfl) (pa_cons (pe_bltn (v := .ty "tuple") (by rfl) Y.m_tuple (by decide +kernel) rfl) pa_nil))) pa_nil))))) (pw_or1 (pt_cmpR op_gt (pe_callB call_len_seq (by rfl) Y.m_len PySem.boot_len (pa_cons (pv 0) pa_nil)) (pe_glob (v := .int 20) rfl hB ⟨_, rfl⟩) (nomark _))))) (pss_one ps_never) pss_nil)
      (pss_cons (ps_for PassesOwn.never rfl (pi_enumT (by rfl) Y.m_enumerate (pa_cons (pv 0) pa_nil)) (pg_tup rfl (pgs_cons (pg_name (i := 1) scBatch.nd rfl (Or.inl rfl)) (pgs_cons (pg_name (i := 2) scBatch.nd rfl (Or.inl rfl)) pgs_nil))) (pss_one (ps_if (pt_not (pt_val (pe_call GIs (hr.mono (by omega)) (by rfl) Y.gIs Y.Is.kp Y.bIs .nil pass0 (pa_cons (pv 2) pa_nil)))) (pss_one ps_never) pss_nil)))
      (pss_one (ps_ret (pe_callTy call_list_of (by rfl) Y.m_list (by decide +kernel) (pa_cons (pv 0) pa_nil)))))), ?_⟩
    refine ⟨_, rfl, by show 2 ≤ sizeLine; decide, fun tp ntp => ?_⟩
    have s1 := same_new (o := .tup [.ty "list", .ty "tuple"]) ntp
    refine ⟨.ref a, tp, [.ty "list", .ty "tuple"], .type "tuple", [.type "list", .type "tuple"], true, rfl, upd_same, .cons (.ty _) (.cons (.ty _) .nil), .base (.tup (s1 _ _ ha)), kitAny_cons (b := false) (kit_ty (a := "tuple") (b := "list") (r := false) (by decide +kernel)) (fun _ => kitAny_cons (b := true) (kit_ty (a := "tuple") (b := "tuple") (r := true) (by decide +kernel)) (fun z => nomatch z) (fun _ => rfl)) (fun _ => rfl), true, rfl, iteF2 rfl ?_⟩
    have ha1 := s1 _ _ ha
    have hes1 := hes.same s1
    generalize upd H tp (.tup [.ty "list", .ty "tuple"]) = H1 at s1 ha1 hes1 ⊢
    refine ⟨_, rfl, a, es, rfl, .inr (SqT.of ha1), (es.length : Nat), 20, rfl, rfl, _, rfl, iteF2 (decide_eq_false (by omega)) ?_⟩
    refine ⟨_, rfl, a, es, rfl, SqT.of ha1, ?_⟩
    refine for_enT (c := 0) (xs := es) (fun i σ H' => ∃ y1 y2, σ = [some (.ref a), y1, y2] ∧ Same H1 H') ⟨_, _, rfl, Same.refl _⟩ (fun i σ H' hi h => ?_) (fun i x T σ H' hx h nT => ?_) (fun σ H' h => ?_)
    · obtain ⟨y1, y2, rfl, s2⟩ := h
      exact SqT.of (s2 _ _ ha1)
    · obtain ⟨y1, y2, rfl, s2⟩ := h
      have s3 := same_new (o := .tup [.int (0 + (i : Nat)), x]) nT
      refine ⟨T, [.int (0 + (i : Nat)), x], rfl, .inl (.inl upd_same), rfl, .int (0 + (i : Nat)), [x], rfl, x, [], rfl, rfl, ?_⟩
      obtain ⟨e, _, he⟩ := td_get hes1 hx
      refine ⟨_, rfl, x, e, rfl, he.same (s2.trans s3), _, rfl, iteF2 rfl ?_⟩
      exact ⟨_, _, rfl, s2.trans s3⟩
    · obtain ⟨y1, y2, rfl, s2⟩ := h
      refine ⟨_, rfl, a, es, rfl, .inr (SqT.of (s2 _ _ ha1)), fun p np => ?_⟩
      exact q p _ ((s1.trans s2).trans (same_new np)) (by
        cases z : H p with
        | none => rfl
        | some o => exact absurd ((s1.trans s2) _ _ z) (by rw [np]; simp)) upd_same
def spAtT (C : Addr) : Sp := fun vs H Q _ => ∃ (x l : Addr) (es : List V) (eds : List Ed) (rows ws : List (List Int)) (n : Nat) (hist : List Hst), vs = [.ref x, .ref l, .non] ∧ H l = some (.tup es) ∧ TdAll H es (eds.map Ed.dat) ∧ CabAt C H x rows ws n hist ∧ eds.length ≤ 20 ∧ hist.length + eds.length ≤ 60 ∧ okE n (rows, ws, hist) eds ∧
  ∀ H', Kp2 x x H H' → CabAt C H' x (runE (rows, ws, hist) eds).1 (runE (rows, ws, hist) eds).2.1 n (runE (rows, ws, hist) eds).2.2 → Q (.int (eds.length : Nat)) H'
theorem ok_atT {f fN fU fV fTu fA fEr fO fSz fWm fWi fCs fCn fFu fCo fSp fCa fR fSt fAu fIp fI fFc fLo fSo fOv fDw fSv fSm : Addr} {fd dN dU dV dTu dA dEr dO dSz dWm dWi dCs dCn dFu dCo dSp dCa dR dSt dAu dIp dI dFc dLo dSo dOv dDw dSv dSm : FuncData} {C hIn hPu hRe hWi hDr hId hEd hTh hSu hCh hSt hEs hLn hSr hUn hAt hDb hDe hCf : Addr} {eIn ePu eRe eWi eDr eId eEd eTh eSu eCh eSt eEs eLn eSr eUn eAt eDb eDe eCf : FuncData} {k : Nat} (F : Fun K "attempt" "Cabinet.attempt" cAtt f fd) (T : Tx K mg fN fU fV fTu fA fEr fO fSz fWm fWi fCs fCn fFu fCo fSp fCa fR fSt fAu fIp fI fFc fLo fSo fOv fDw fSv fSm dN dU dV dTu dA dEr dO dSz dWm dWi dCs dCn dFu dCo dSp dCa dR dSt dAu dIp dI dFc dLo dSo dOv dDw dSv dSm) (X : CT K mg C hIn hPu hRe hWi hDr hId hEd hTh hSu hCh hSt hEs hLn hSr hUn hAt hDb hDe hCf eIn ePu eRe eWi eDr eId eEd eTh eSu eCh eSt eEs eLn eSr eUn eAt eDb eDe eCf) {lIs lBa dv : Addr} {jIs jBa : FuncData} (Y : AX K w mg lIs lBa dv jIs jBa) : FnOk P w K mg base CX0 (k + 8) f fd ["self", "edits", "watch"] (spAtT C) := by
  have GId : FnOk P w K mg base CX0 (k + 1) hId eId ["self"] (spIdle C) := ok_id X.FId T X
  have GBa : FnOk P w K mg base CX0 (k + 2) lBa jBa ["edits"] spBatchT := ok_batchT Y.Ba Y
  have GDb : FnOk P w K mg base CX0 (k + 7) hDb eDb ["self", "batch", "watch"] (spDb C) := ok_db X.FDb T X Y
  refine F.ok scAt (fun vs H Q E h => ?_) (fun cdv A outer s H vs Q E hr h => ?_)
  · obtain ⟨x, l, es, eds, rows, ws, n, hist, rfl, _⟩ := h
    rfl
  · obtain ⟨x, l, es, eds, rows, ws, n, hist, rfl, hl, hes, hc, h20, hh, hok, q⟩ := h
    refine ⟨_, (pss_cons (ps_expr (pe_meth0 (pv 0) X.cl X.MId GId (hr.mono (by omega)) X.BId .nil pass0))
      (pss_cons (ps_set (i := 3) scAt.nd rfl (.inl rfl) (pe_call GBa (hr.mono (by omega)) (by rfl) Y.gBa Y.Ba.kp Y.bBa .nil pass0 (pa_cons (pv 1) pa_nil)))
      (pss_cons (ps_set (i := 4) scAt.nd rfl (.inl rfl) (pe_fld (pv 0) rfl))
      (pss_cons (ps_set (i := 5) scAt.nd rfl (.inl rfl) (pe_fld (pv 0) rfl))
      (pss_cons (ps_set (i := 6) scAt.nd rfl (.inl rfl) (pe_fld (pv 0) rfl))
      (pss_cons (ps_set (i := 7) scAt.nd rfl (.inl rfl) (pe_fld (pv 0) rfl))
      (pss_cons (ps_set (i := 8) scAt.nd rfl (.inl rfl) pe_non)
      (pss_cons (ps_bodyFin (pss_one (ps_set (i := 8) scAt.nd rfl (.inl rfl) (pe_meth (pv 0) X.cl X.MDb GDb (hr.mono (by omega)) X.BDb .nil pass0 (pa_cons (pv 3) (pa_cons (pv 2) pa_nil))))) (pss_one (ps_if (pt_cmpR op_isN (pv 8) pe_non (nomark _)) (pss_cons ps_never (pss_cons ps_never (pss_cons ps_never (pss_one ps_never)))) pss_nil)))
      (pss_one (ps_ret (pv 8))))))))))), ?_⟩
    obtain ⟨dx, t, b, tp, hx, _⟩ := id hc.ex
    refine ⟨_, rfl, x, dx, _, rfl, hx, lm_check_idle, x, dx, _, rfl, hx, lk_watched, ?_⟩
    refine ⟨_, rfl, l, es, eds, rfl, hl, hes, h20, fun p H1 s1 np hp => ?_⟩
    have hx1 := s1 _ _ hx
    refine ⟨_, rfl, x, C, dx, _, _, rfl, hx1, X.cl, X.aS, lk_stock, ?_⟩
    refine ⟨_, rfl, x, C, dx, _, _, rfl, hx1, X.cl, X.aC, lk_collections, ?_⟩
    refine ⟨_, rfl, x, C, dx, _, _, rfl, hx1, X.cl, X.aU, lk_sure, ?_⟩
    refine ⟨_, rfl, x, C, dx, _, _, rfl, hx1, X.cl, X.aP, lk_past, ?_⟩
    refine ⟨_, rfl, x, dx, _, rfl, hx1, lm_do_batch, _, rfl, _, rfl, ?_⟩
    refine ⟨x, p, es, eds, rows, ws, n, hist, rfl, hp, hes.same s1, hc.same s1, hh, hok, fun H2 k2 c2 => ?_⟩
    refine ⟨_, rfl, rfl, _, rfl, iteF2 rfl ?_⟩
    exact ⟨_, rfl, q H2 ((kps s1).trans k2) c2⟩
end
end DD
namespace DD
open PySem PySem.Spec PyProof.Rows L2 RZ
abbrev NLw : List Str := ["_law_script", "_law_deck_here", "_law_stock_here", "_law_state", "_law_table", "_law_states", "_law_turn", "_law_edit_here", "_law_now", "_law_past", "_law_fresh", "_law_plan_here", "_law_old", "_law_other", "_law_found", "_law_again"]
theorem scLaw : FnScope NLw ["_law_script"] (defScope sLaw) := ⟨rfl, rfl, rfl, by decide +kernel, rfl, by decide +kernel, by decide +kernel⟩
structure SS (H : Hp) (sl : Addr) (ps : List Addr) (rows ws : List (List Int)) (n : Nat) (hist : List Hst) : Prop where
  sl_ : H sl = some (.lst (ps.map V.ref))
  pl : ps.length = hist.length + 1
  sv : ∀ (i : Nat) (p : Addr) (r u : List (List Int)), ps[i]? = some p → (statesOf rows ws hist)[i]? = some (r, u) → StateAt H p r u n
theorem SS.same {H H' : Hp} {sl : Addr} {ps : List Addr} {rows ws : List (List Int)} {n : Nat} {hist : List Hst} (a : SS H sl ps rows ws n hist) (s : Same H H') : SS H' sl ps rows ws n hist :=
  ⟨s _ _ a.sl_, a.pl, fun i p r u e1 e2 => by
    obtain ⟨⟨t, b, hp, ht, hb⟩, g⟩ := a.sv i p r u e1 e2
    exact ⟨⟨t, b, s _ _ hp, ht.same s, hb.same s⟩, g⟩⟩
/-- the state of a version -/
theorem SS.get {H : Hp} {sl : Addr} {ps : List Addr} {rows ws : List (List Int)} {n : Nat} {hist : List Hst} (a : SS H sl ps rows ws n hist) (j : Option Nat) (hj : ∀ i, j = some i → i ≤ hist.length) :
    ∃ p r u, atI (ps.map V.ref) (match j with | none => -1 | some i => (i : Int)) = some (.ref p) ∧ IsSt rows ws hist j r u ∧ StateAt H p r u n := by
  cases j with
  | none =>
    obtain ⟨ps', p, e⟩ : ∃ ps' p, ps = ps' ++ [p] := by
      rcases List.eq_nil_or_concat ps with e | ⟨ps', p, e⟩
      · have := a.pl
        rw [e] at this
        simp at this
      · exact ⟨ps', p, by rw [e, List.concat_eq_append]⟩
    have l := a.pl
    rw [e, List.length_append] at l
    have l' : ps'.length = hist.length := by simp at l; exact l
    refine ⟨p, rows, ws, ?_, ⟨rfl, rfl⟩, a.sv ps'.length p rows ws (by rw [e, List.getElem?_append_right (Nat.le_refl _), Nat.sub_self]; rfl) ?_⟩
    · rw [e, List.map_append]
      exact atI_last _ _
    · rw [l']
      unfold statesOf
      rw [List.getElem?_append_right (by rw [List.length_map]; exact Nat.le_refl _), List.length_map, Nat.sub_self]
      rfl
  | some i =>
    have hi := hj i rfl
    obtain ⟨p, h1⟩ : ∃ p, ps[i]? = some p := ⟨_, List.getElem?_eq_getElem (by rw [a.pl]; omega)⟩
    obtain ⟨s, h2⟩ : ∃ s, (statesOf rows ws hist)[i]? = some s := ⟨_, List.getElem?_eq_getElem (by unfold statesOf; rw [List.length_append, List.length_map]; exact Nat.lt_succ_of_le hi)⟩
    exact ⟨p, s.1, s.2, atI_nat (by rw [List.getElem?_map, h1]; rfl), ⟨hi, h2⟩, a.sv i _ _ _ h1 h2⟩
theorem Deck.nex {H : Hp} {dk c : Addr} {B : Nat} (d : Deck H dk c B) {x dx C : Addr} {fs : List (Str × V)} (h : H x = some (.ins C dx fs)) : x ≠ dk ∧ x ≠ c := by
  obtain ⟨ns, t, h1, h2, _⟩ := d.ex
  exact ⟨fun z => (by rw [z, h1] at h; cases h), fun z => (by rw [z, h2] at h; cases h)⟩
theorem states_len {rows ws : List (List Int)} {hist : List Hst} : (statesOf rows ws hist).length = hist.length + 1 := by
  unfold statesOf
  rw [List.length_append, List.length_map]
  rfl
theorem states_snoc {rows ws r u : List (List Int)} {e : PyData} {hist : List Hst} : statesOf r u (hist ++ [(e, rows, ws)]) = statesOf rows ws hist ++ [(r, u)] := by
  unfold statesOf
  rw [List.map_append]
  rfl
theorem states_pop {rows ws : List (List Int)} {h : Hst} {hist : List Hst} : statesOf rows ws (hist ++ [h]) = statesOf h.2.1 h.2.2 hist ++ [(rows, ws)] := by
  unfold statesOf
  rw [List.map_append]
  rfl
theorem states_last {rows ws : List (List Int)} {hist : List Hst} : (statesOf rows ws hist)[hist.length]? = some (rows, ws) := by
  unfold statesOf
  rw [List.getElem?_append_right (by rw [List.length_map]; exact Nat.le_refl _), List.length_map, Nat.sub_self]
  rfl
theorem StateAt.mv {H H' : Hp} {p : Addr} {rows ws : List (List Int)} {n : Nat} (a : StateAt H p rows ws n) (k : TK H H') (e : ∀ xs, H p = some (.lst xs) → H' p = some (.lst xs)) : StateAt H' p rows ws n := by
  obtain ⟨⟨t, b, hp, ht, hb⟩, g⟩ := a
  exact ⟨⟨t, b, e _ hp, ht.tk k, hb.tk k⟩, g⟩
theorem ed_len {rows : List (List Int)} : ∀ e : Ed, (e.rows rows).length = rows.length
  | .put d k c => by show (moreR rows d k c).length = _; unfold moreR; rw [List.length_set]
  | .rem d k c => by show (moreR rows d k (-c)).length = _; unfold moreR; rw [List.length_set]
  | .wish r => rfl
  | .drop j => rfl
theorem eqv_sm {d : PyData} {wt dp : Nat} (a : Sm wt dp d) : (!PyData.eqv d d) = false := by rw [SeqAt.eqv_refl d a.lay]; rfl
theorem deck_x {H H' : Hp} {dk c x : Addr} {B : Nat} (d : Deck H dk c B) (n1 : x ≠ dk) (n2 : x ≠ c) (k : Kp2 x x H H') : Deck H' dk c B := by
  obtain ⟨⟨ns', t', h1, h2, h3⟩, h4⟩ := d
  exact ⟨⟨ns', t', k _ _ n1.symm n1.symm h1, k _ _ n2.symm n2.symm h2, h3⟩, h4⟩
/-- the deck, the cabinet, the states -/
structure US (C : Addr) (H : Hp) (dk c sl x : Addr) (ps : List Addr) (rows ws : List (List Int)) (n : Nat) (hist : List Hst) (B : Nat) : Prop where
  d : Deck H dk c B
  cab : CabAt C H x rows ws n hist
  ss : SS H sl ps rows ws n hist
  gs : ∀ h ∈ hist, Sg h.2.1 h.2.2 n
  ns : sl ≠ dk ∧ sl ≠ c
  np : ∀ p ∈ ps, p ≠ dk ∧ p ≠ c ∧ p ≠ sl
theorem SS.mv {H H' : Hp} {sl : Addr} {ps : List Addr} {rows ws : List (List Int)} {n : Nat} {hist : List Hst} (a : SS H sl ps rows ws n hist) (k : TK H H') (e : ∀ p xs, (p = sl ∨ p ∈ ps) → H p = some (.lst xs) → H' p = some (.lst xs)) : SS H' sl ps rows ws n hist :=
  ⟨e _ _ (.inl rfl) a.sl_, a.pl, fun i p r u e1 e2 => (a.sv i p r u e1 e2).mv k fun xs h => e _ _ (.inr (List.mem_of_getElem? e1)) h⟩
section
variable {C : Addr} {H H' : Hp} {dk c sl x : Addr} {ps : List Addr} {rows ws : List (List Int)} {n : Nat} {hist : List Hst} {B B' : Nat}
theorem US.nx (a : US C H dk c sl x ps rows ws n hist B) : x ≠ dk ∧ x ≠ c ∧ ∀ (p : Addr) (xs : List V), H p = some (.lst xs) → p ≠ x := by
  obtain ⟨dx, _, _, _, hx, _⟩ := a.cab.ex
  have nx := a.d.nex hx
  exact ⟨nx.1, nx.2, fun p xs e z => by
    rw [z, hx] at e
    cases e⟩
theorem US.kd (a : US C H dk c sl x ps rows ws n hist B) (k : Kp2 dk c H H') (d : Deck H' dk c B') : US C H' dk c sl x ps rows ws n hist B' := by
  have nx := a.nx
  have tk := TK.kp a.d k
  refine ⟨d, a.cab.tk tk (fun o e => k _ _ nx.1 nx.2.1 e), a.ss.mv tk (fun p xs h e => ?_), a.gs, a.ns, a.np⟩
  rcases h with rfl | h
  · exact k _ _ a.ns.1 a.ns.2 e
  · exact k _ _ (a.np p h).1 (a.np p h).2.1 e
theorem US.same (a : US C H dk c sl x ps rows ws n hist B) (s : Same H H') : US C H' dk c sl x ps rows ws n hist B := a.kd (kps s) (a.d.keep s)
theorem US.up (a : US C H dk c sl x ps rows ws n hist B) (h : B ≤ B') : US C H dk c sl x ps rows ws n hist B' := a.kd Kp2.refl (a.d.up h)
theorem US.deckX (a : US C H dk c sl x ps rows ws n hist B) (k : Kp2 x x H H') : Deck H' dk c B := by
  have nx := a.nx
  obtain ⟨⟨ns', t', h1, h2, h3⟩, h4⟩ := a.d
  exact ⟨⟨ns', t', k _ _ nx.1.symm nx.1.symm h1, k _ _ nx.2.1.symm nx.2.1.symm h2, h3⟩, h4⟩
theorem US.tkx (a : US C H dk c sl x ps rows ws n hist B) (k : Kp2 x x H H') : TK H H' := by
  obtain ⟨dx, _, _, _, hx, _⟩ := a.cab.ex
  exact tk_ins hx k
theorem US.last (a : US C H dk c sl x ps rows ws n hist B) : ∃ ps' p, ps = ps' ++ [p] ∧ StateAt H p rows ws n := by
  obtain ⟨p, r, u, hat, hI, St⟩ := a.ss.get none (fun i z => by cases z)
  obtain ⟨rfl, rfl⟩ := hI
  rcases List.eq_nil_or_concat ps with e | ⟨ps', p', e⟩
  · have := a.ss.pl
    rw [e] at this
    simp at this
  · rw [List.concat_eq_append] at e
    subst e
    rw [List.map_append] at hat
    have h := (atI_last (ps'.map V.ref) (V.ref p')).symm.trans hat
    cases h
    exact ⟨ps', p, rfl, St⟩
/-- a state more at the end of the list -/
theorem SS.push {H H' : Hp} {sl p : Addr} {ps : List Addr} {rows ws r u : List (List Int)} {n : Nat} {hist : List Hst} {e : PyData} (a : SS H sl ps rows ws n hist) (h : H' sl = some (.lst ((ps ++ [p]).map V.ref))) (k : TK H H') (kp : ∀ q xs, q ∈ ps → H q = some (.lst xs) → H' q = some (.lst xs)) (st : StateAt H' p r u n) :
    SS H' sl (ps ++ [p]) r u n (hist ++ [(e, rows, ws)]) := by
  refine ⟨h, by rw [List.length_append, List.length_append, a.pl]; rfl, fun i q r' u' e1 e2 => ?_⟩
  rw [states_snoc] at e2
  by_cases hi : i < ps.length
  · rw [List.getElem?_append_left hi] at e1
    rw [List.getElem?_append_left (by rw [states_len, ← a.pl]; exact hi)] at e2
    exact (a.sv i q r' u' e1 e2).mv k fun xs z => kp _ _ (List.mem_of_getElem? e1) z
  · have hi' : i < (ps ++ [p]).length := (List.getElem?_eq_some_iff.mp e1).1
    rw [List.length_append] at hi'
    have hi2 : i = ps.length := by simp at hi'; omega
    subst hi2
    rw [List.getElem?_append_right (Nat.le_refl _), Nat.sub_self] at e1
    obtain rfl := Option.some.inj e1
    rw [a.pl, ← states_len (rows := rows) (ws := ws) (hist := hist), List.getElem?_append_right (Nat.le_refl _), Nat.sub_self] at e2
    obtain ⟨rfl, rfl⟩ := Prod.mk.inj (Option.some.inj e2)
    exact st
end
theorem run_eds {s : S3} : ∀ {eds : List Ed}, (runE s eds).2.2.map (fun h : Hst => h.1) = s.2.2.map (fun h : Hst => h.1) ++ eds.map Ed.dat := by
  intro eds
  induction eds generalizing s with
  | nil => exact (List.append_nil _).symm
  | cons e es ih =>
    show (runE (stepE s e) es).2.2.map (fun h : Hst => h.1) = _
    rw [ih]
    show (s.2.2 ++ [(e.dat, s.1, s.2.1)]).map (fun h : Hst => h.1) ++ _ = _
    rw [List.map_append, List.append_assoc]
    rfl
theorem run_snoc {s : S3} {eds : List Ed} {e : Ed} : runE s (eds ++ [e]) = stepE (runE s eds) e := by
  unfold runE
  rw [List.foldl_append]
  rfl
theorem ok_snoc {n : Nat} : ∀ {eds : List Ed} {s : S3} {e : Ed}, okE n s eds → e.ok (runE s eds).1 (runE s eds).2.1 n → okE n s (eds ++ [e])
  | [], s, e, _, h => ⟨h, True.intro⟩
  | d :: eds, s, e, ⟨h1, h2⟩, h => ⟨h1, ok_snoc (eds := eds) h2 h⟩
theorem ok_init {n : Nat} : ∀ {eds : List Ed} {s : S3} {e : Ed}, okE n s (eds ++ [e]) → okE n s eds
  | [], s, e, _ => True.intro
  | d :: eds, s, e, ⟨h1, h2⟩ => ⟨h1, ok_init (eds := eds) h2⟩
/-- the edits that stand lead from the beginning to the present -/
def Rn (n : Nat) (rows ws r u : List (List Int)) (hist : List Hst) : Prop := ∃ eds : List Ed, okE n (rows, ws, []) eds ∧ runE (rows, ws, []) eds = (r, u, hist)
theorem Rn.push {n : Nat} {rows ws r u : List (List Int)} {hist : List Hst} {e : Ed} (a : Rn n rows ws r u hist) (h : e.ok r u n) : Rn n rows ws (e.rows r) (e.ws u) (hist ++ [(e.dat, r, u)]) := by
  obtain ⟨eds, h1, h2⟩ := a
  refine ⟨eds ++ [e], ok_snoc h1 (by rw [h2]; exact h), ?_⟩
  rw [run_snoc, h2]
  rfl
theorem Rn.pop {n : Nat} {rows ws r u : List (List Int)} {hist : List Hst} {h : Hst} (a : Rn n rows ws r u (hist ++ [h])) : Rn n rows ws h.2.1 h.2.2 hist := by
  obtain ⟨eds, h1, h2⟩ := a
  rcases List.eq_nil_or_concat eds with e | ⟨eds', d, e⟩
  · rw [e] at h2
    have := congrArg (fun s : S3 => s.2.2.length) h2
    simp [runE] at this
  · rw [List.concat_eq_append] at e
    subst e
    refine ⟨eds', ok_init h1, ?_⟩
    rw [run_snoc] at h2
    generalize runE (rows, ws, []) eds' = s at h2
    obtain ⟨r1, u1, h3⟩ := s
    have e3 : h3 ++ [(d.dat, r1, u1)] = hist ++ [h] := congrArg (fun s : S3 => s.2.2) h2
    obtain ⟨rfl, e4⟩ := List.append_inj' e3 rfl
    obtain rfl := (List.cons.inj e4).1
    rfl
@[irreducible] def fdD (r u : List (List Int)) (ps : List Int) (n : Nat) (o : Option Int) : PyData := .list [.tuple [stockD r, stockD u], certD r u ps n, optP o]
theorem ne_self {v : V} : (!decide (v = v)) = false := by simp
theorem sm_fd {r u : List (List Int)} {ps : List Int} {n : Nat} {o : Option Int} (g : Sg r u n) (hp : ∀ j, 0 ≤ plF ps j) (ho : ∀ k, o = some k → 0 ≤ k ∧ k < 4096) : Sm 150000 64 (fdD r u ps n o) := by
  unfold fdD
  have q2 : SmA (0 + 1 + 1) 228 2 [stockD r, stockD u] := .cons g.smR (.cons g.smW .nil)
  have hq := Sm.up (w1 := 21) (w2 := 40000) (k1 := 0) (k2 := 10) (sm_opt2 ho) (by decide) (by decide)
  have q : SmA (0 + 1 + 1 + 1) 40000 10 [.tuple [stockD r, stockD u], certD r u ps n, optP o] := .cons (q2.tup.up (by decide) (by decide)) (.cons (sm_cert (fun y hy => (g.rg y hy).2) hp (fun y hy => (g.wg y hy).len) g.n4 g.r4 g.w4) (.cons hq .nil))
  exact q.lst.up (by decide) (by decide)
theorem pl_nn {r : List (List Int)} {ps : List Int} (hpl : ps.length = r.length) (hbd : ∀ j, j < r.length → 0 ≤ ps.getD j 0 ∧ ps.getD j 0 ≤ sizeAt r j) : ∀ j, 0 ≤ plF ps j := fun j => by
  unfold plF
  by_cases hj : j < r.length
  · exact (hbd j hj).1
  · rw [List.getD_eq_getElem?_getD, List.getElem?_eq_none (by omega)]
    exact Int.le_refl _
theorem dp_optP {K : PySem.W.Frag} {H : Hp} {o : Option Int} : Dp K H (optI o) (optP o) := by
  cases o with
  | none => exact .non
  | some k => exact .int k
theorem sm_edH {hist : List Hst} (hs : ∀ h ∈ hist, Sm 114 2 h.1) (hl : hist.length ≤ 60) : Sm 6900 3 (.tuple (hist.map (·.1))) := by
  have a : SmA (hist.map (·.1)).length 114 2 (hist.map (·.1)) := SmA.all fun d hd => by
    obtain ⟨h, hh, rfl⟩ := List.mem_map.mp hd
    exact hs h hh
  refine a.tup.up ?_ (Nat.le_refl _)
  rw [List.length_map]
  omega
section
variable {P : Program} {w : World} {K : PySem.W.Frag} {mg : Str → Option Value} {base : Heap}
def spLaw (K : PySem.W.Frag) : Sp := fun vs H Q _ => ∃ (a : Addr) (ns : List Int), vs = [.ref a] ∧ SqL K H a (ns.map V.int) ∧ ns.length ≤ 63 ∧ ∀ H', Q (.bl true) H'
set_option maxHeartbeats 6400000 in
theorem ok_law {f lDk lD lS lC lW lAf lEd lO lPl lSh : Addr} {fd jDk jD jS jC jW jAf jEd jO jPl jSh : FuncData} {C hIn hPu hRe hWi hDr hId hEd hTh hSu hCh hSt hEs hLn hSr hUn hAt hDb hDe hCf : Addr} {eIn ePu eRe eWi eDr eId eEd eTh eSu eCh eSt eEs eLn eSr eUn eAt eDb eDe eCf : FuncData} {fN fU fV fTu fA fEr fO fSz fWm fWi fCs fCn fFu fCo fSp fCa fR fSt fAu fIp fI fFc fLo fSo fOv fDw fSv fSm : Addr} {dN dU dV dTu dA dEr dO dSz dWm dWi dCs dCn dFu dCo dSp dCa dR dSt dAu dIp dI dFc dLo dSo dOv dDw dSv dSm : FuncData} (F : Fun K "law" "law" sLaw f fd) (T : LX K mg lDk lD lS lC lW lAf lEd lO lPl lSh jDk jD jS jC jW jAf jEd jO jPl jSh) (X : CT K mg C hIn hPu hRe hWi hDr hId hEd hTh hSu hCh hSt hEs hLn hSr hUn hAt hDb hDe hCf eIn ePu eRe eWi eDr eId eEd eTh eSu eCh eSt eEs eLn eSr eUn eAt eDb eDe eCf) (TP : Tx K mg fN fU fV fTu fA fEr fO fSz fWm fWi fCs fCn fFu fCo fSp fCa fR fSt fAu fIp fI fFc fLo fSo fOv fDw fSv fSm dN dU dV dTu dA dEr dO dSz dWm dWi dCs dCn dFu dCo dSp dCa dR dSt dAu dIp dI dFc dLo dSo dOv dDw dSv dSm) {lIs lBa dv : Addr} {jIs jBa : FuncData} (Y : AX K w mg lIs lBa dv jIs jBa) (Z : KT K eSt eCf) {CH hWk hEq : Addr} {eWk eEq : FuncData} (W : WE K mg C CH hWk hEq eWk eEq) : FnG P w K mg base 11 f fd ["_law_script"] (spLaw K) := by
  have GDk : FnOk P w K mg base CX0 1 lDk jDk ["_law_script"] (spDeck K) := ok_deck T.Dk T.m_abs
  have GD : FnOk P w K mg base CX0 1 lD jD ["_law_deck_here", "_law_many"] spDraw := ok_draw T.D T.m_len
  have GS : FnOk P w K mg base CX0 2 lS jS ["_law_deck_here", "_law_drawers", "_law_most"] spLStock := ok_ls (k := 0) T.S T
  have GW : FnOk P w K mg base CX0 3 lW jW ["_law_deck_here", "_law_kinds", "_law_most"] spLWish := ok_lwish (k := 0) T.W T
  have GIn : FnOk P w K mg base CX0 6 hIn eIn ["self", "stock", "collections"] (spIn C) := ok_in X.FIn TP X
  have GE : FnOk P w K mg base CX0 3 lEd jEd ["_law_deck_here", "_law_state"] spLEdit := ok_ledit (k := 0) T.Ed T
  have GA : FnOk P w K mg base CX0 1 lAf jAf ["_law_state", "_law_edit_here"] spLAfter := ok_lafter (k := 0) T.Af T
  have GO : FnOk P w K mg base CX0 6 lO jO ["_law_table", "_law_edit_here"] (spLDo C) := ok_ldo (k := 0) T.O T X TP
  have GPl : FnOk P w K mg base CX0 2 lPl jPl ["_law_deck_here", "_law_stock_here"] spLPl := ok_lpl (k := 0) T.Pl T
  have GSh : FnG P w K mg base 9 lSh jSh ["_law_table", "_law_plan_here"] (spSh C) := ok_sh T.Sh T X TP Z W
  have GSt : FnOk P w K mg base CX0 3 hSt eSt ["self", "version"] (spStG C) := ok_stg (k := 0) X.FSt TP X
  have GCf : FnOk P w K mg base CX0 5 hCf eCf ["self", "plan", "version"] (spCf C) := ok_cf (k := 0) X.FCf TP X Z
  have GSt0 : FnOk P w K mg base CX0 1 hSt eSt ["self", "version"] (spSt C) := ok_st (k := 0) X.FSt TP X
  have GTo : FnOk P w K mg base CX0 3 fSt dSt ["stock", "collections"] spTotal := ok_total (k := 0) TP.St TP
  have GEs : FnOk P w K mg base CX0 1 hEs eEs ["self"] (spEs C) := ok_es (k := 0) X.FEs TP X
  have GUn : FnOk P w K mg base CX0 4 hUn eUn ["self"] (spUn C) := ok_un (k := 0) X.FUn TP X
  have GAt : FnOk P w K mg base CX0 8 hAt eAt ["self", "edits", "watch"] (spAtT C) := ok_atT (k := 0) X.FAt TP X Y
  have GEq : FnOk P w K mg base CX0 2 hEq eEq ["self", "other"] (L2.spEq (SameC C)) := ok_eq (k := 0) X TP W
  have GLn : FnOk P w K mg base CX0 1 hLn eLn ["self"] (spLn C) := ok_ln X.FLn TP X
  have RLn : FnR P w K mg base CX0 1 hLn (spLn C) := (GLn.raw X.BLn .nil).imp fun vs H Q E h => by
    rw [List.append_nil]
    exact h
  obtain ⟨ads, rads, bads⟩ := X.BAt
  obtain ⟨dsS, vdS, bdS⟩ := X.BSt
  obtain ⟨dsC, vdC, bdC⟩ := X.BCf
  refine fnG_of F scLaw (fun vs H Q E h => ?_) (fun cdv A hgu outer s H vs Q E hr h => ?_)
  · obtain ⟨a, ns, rfl, _⟩ := h
    rfl
  · obtain ⟨a, ns, rfl, hS, hlen, q⟩ := h
    have hu : (A.deeper (envOfC "law" (defScope sLaw) s.heap.objs.size f cdv)).units + 66 < cLine := by
      have := hr.un
      omega
    refine ⟨_, (pss_cons (ps_set (i := 1) scLaw.nd rfl (.inl rfl) (pe_call GDk (hr.mono (by omega)) (by rfl) T.gDk T.Dk.kp T.bDk .nil pass0 (pa_cons (pv 0) pa_nil)))
      (pss_cons (ps_set (i := 2) scLaw.nd rfl (.inl rfl) (pe_call GS (hr.mono (by omega)) (by rfl) T.gS T.S.kp T.bS .nil pass0 (pa_cons (pv 1) (pa_cons pe_int (pa_cons pe_int pa_nil)))))
      (pss_cons (ps_set (i := 3) scLaw.nd rfl (.inl rfl) (pe_lst (pa_cons (pv 2) (pa_cons (pe_call GW (hr.mono (by omega)) (by rfl) T.gW T.W.kp T.bW .nil pass0 (pa_cons (pv 1) (pa_cons (pe_callB call_len_seq (by rfl) T.m_len PySem.boot_len (pa_cons (pe_ix (show IxR _ (rIxT K) from ix_tup) (pv 2) pe_int (fun _ _ => rfl)) pa_nil)) (pa_cons pe_int pa_nil)))) pa_nil))))
      (pss_cons (ps_par (i := 4) (j := 5) (by rfl) scLaw.nd rfl rfl (by decide) rfl rfl (pa_cons (pe_make X.mkC GIn (hr.mono (by omega)) (by rfl) X.gC X.BIn .nil pass0 (pa_cons (pv 2) (pa_cons (pe_ix (show IxR _ (rIxL K) from ix_list) (pv 3) pe_int (fun _ _ => rfl)) pa_nil))) (pa_cons (pe_lst (pa_cons (pv 3) pa_nil)) pa_nil)) (by rfl))
      (pss_cons (ps_for PassesOwn.never rfl (pi_range1 (by rfl) T.m_range (pa_cons (pe_op op_add pe_int (pe_call GD (hr.mono (by omega)) (by rfl) T.gD T.D.kp T.bD .nil pass0 (pa_cons (pv 1) (pa_cons pe_int pa_nil)))) pa_nil)) (pg_name (i := 6) scLaw.nd rfl (Or.inl rfl)) (pss_cons (ps_set (i := 7) scLaw.nd rfl (.inl rfl) (pe_call GE (hr.mono (by omega)) (by rfl) T.gEd T.Ed.kp T.bEd .nil pass0 (pa_cons (pv 1) (pa_cons (pe_ix (show IxR _ (rIxL K) from ix_list) (pv 5) (pe_un un_neg pe_int) (fun _ _ => rfl)) pa_nil))))
      (pss_cons (ps_expr (pe_bm PySem.F.plainAttrs_list PySem.F.slot_list_append PySem.F.type_list_append mt_append (pv 5) (pa_cons (pe_call GA (hr.mono (by omega)) (by rfl) T.gAf T.Af.kp T.bAf .nil pass0 (pa_cons (pe_ix (show IxR _ (rIxL K) from ix_list) (pv 5) (pe_un un_neg pe_int) (fun _ _ => rfl)) (pa_cons (pv 7) pa_nil))) pa_nil)))
      (pss_cons (ps_if (pt_cmpR op_ne (pe_call GO (hr.mono (by omega)) (by rfl) T.gO T.O.kp T.bO .nil pass0 (pa_cons (pv 4) (pa_cons (pv 7) pa_nil))) (pe_op op_sub (pe_callB call_len_seq (by rfl) T.m_len PySem.boot_len (pa_cons (pv 5) pa_nil)) pe_int) (nomark _)) (pss_one (ps_ret pe_bl)) pss_nil)
      (C8.pss_cut (ps_if (pt_cmpR op_eq (pe_call GD (hr.mono (by omega)) (by rfl) T.gD T.D.kp T.bD .nil pass0 (pa_cons (pv 1) (pa_cons pe_int pa_nil))) pe_int (nomark _)) (pss_cons (ps_expr (pe_bm0 PySem.F.plainAttrs_list PySem.F.slot_list_pop PySem.F.type_list_pop mt_pop (pv 5))) (pss_one (ps_if (pt_cmpR op_ne (pe_meth0 (pv 4) X.cl X.MUn GUn (hr.mono (by omega)) X.BUn .nil pass0) (pe_op op_sub (pe_callB call_len_seq (by rfl) T.m_len PySem.boot_len (pa_cons (pv 5) pa_nil)) pe_int) (nomark _)) (pss_one (ps_ret pe_bl)) pss_nil))) pss_nil)
      (pss_cons (ps_par (i := 8) (j := 9) (by rfl) scLaw.nd rfl rfl (by decide) rfl rfl (pa_cons (pe_ix (show IxR _ (rIxL K) from ix_list) (pv 5) (pe_un un_neg pe_int) (fun _ _ => rfl)) (pa_cons (pe_call GD (hr.mono (by omega)) (by rfl) T.gD T.D.kp T.bD .nil pass0 (pa_cons (pv 1) (pa_cons (pe_callB call_len_seq (by rfl) T.m_len PySem.boot_len (pa_cons (pv 5) pa_nil)) pa_nil))) pa_nil)) (by rfl))
      (pss_cons (ps_par (i := 10) (j := 11) (by rfl) scLaw.nd rfl rfl (by decide) rfl rfl (pa_cons (pe_make X.mkC GIn (hr.mono (by omega)) (by rfl) X.gC X.BIn .nil pass0 (pa_cons (pe_ix (show IxR _ (rIxL K) from ix_list) (pv 8) pe_int (fun _ _ => rfl)) (pa_cons (pe_ix (show IxR _ (rIxL K) from ix_list) (pv 8) pe_int (fun _ _ => rfl)) pa_nil))) (pa_cons (pe_call GPl (hr.mono (by omega)) (by rfl) T.gPl T.Pl.kp T.bPl .nil pass0 (pa_cons (pv 1) (pa_cons (pe_ix (show IxR _ (rIxL K) from ix_list) (pv 8) pe_int (fun _ _ => rfl)) pa_nil))) pa_nil)) (by rfl))
      (pss_cons (ps_if (PW.pt (pw_or (pt_cmpR op_ne (pe_callG GSh hgu (hr.mono (by omega)) (by rfl) T.gSh T.Sh.kp T.bSh (pa_cons (pv 4) (pa_cons (pv 11) pa_nil))) (pe_callG GSh hgu (hr.mono (by omega)) (by rfl) T.gSh T.Sh.kp T.bSh (pa_cons (pv 10) (pa_cons (pv 11) pa_nil))) (nomark _)) (pw_or (pt_not (pt_cmpR (op_eqG (rcG_ins GEq W.MEq.at_ W.MEq.fn W.BEq pass0) (hr.mono (by omega))) (pv 4) (pv 10) (nomark _))) (pw_or1 (pt_not (pt_cmpR (op_eqG (rcG_ins GEq W.MEq.at_ W.MEq.fn W.BEq pass0) (hr.mono (by omega))) (pv 10) (pv 4) (nomark _))))))) (pss_one (ps_ret pe_bl)) pss_nil)
      (pss_cons (ps_set (i := 12) scLaw.nd rfl (.inl rfl) (pe_ix (show IxR _ (rIxL K) from ix_list) (pv 5) (pv 9) (fun _ _ => rfl)))
      (pss_cons (ps_par (i := 13) (j := 11) (by rfl) scLaw.nd rfl rfl (by decide) rfl rfl (pa_cons (pe_make X.mkC GIn (hr.mono (by omega)) (by rfl) X.gC X.BIn .nil pass0 (pa_cons (pe_ix (show IxR _ (rIxL K) from ix_list) (pv 12) pe_int (fun _ _ => rfl)) (pa_cons (pe_ix (show IxR _ (rIxL K) from ix_list) (pv 12) pe_int (fun _ _ => rfl)) pa_nil))) (pa_cons (pe_call GPl (hr.mono (by omega)) (by rfl) T.gPl T.Pl.kp T.bPl .nil pass0 (pa_cons (pv 1) (pa_cons (pe_ix (show IxR _ (rIxL K) from ix_list) (pv 12) pe_int (fun _ _ => rfl)) pa_nil))) pa_nil)) (by rfl))
      (pss_cons (ps_set (i := 14) scLaw.nd rfl (.inl rfl) (pe_lst (pa_cons (pe_methK0 (ks := ["version"]) (pv 4) X.cl X.MSt GSt (hr.mono (by omega)) Z.kSt pass0 (by exact (pk_cons (pv 9) pk_nil))) (pa_cons (pe_methKp (i := 1) (ks := ["version"]) (pv 4) X.cl X.MCf GCf (hr.mono (by omega)) Z.kCf pass0 (by exact (pa_cons (pv 11) pa_nil)) (by exact (pk_cons (pv 9) pk_nil))) (pa_cons (pe_fld (pv 4) rfl) pa_nil)))))
      (pss_one (ps_if (pt_cmpR op_ne (pe_callB (call_reprD hgu hu) (by rfl) T.m_repr (by decide +kernel) (pa_cons (pv 14) pa_nil)) (pe_callB (call_reprD hgu hu) (by rfl) T.m_repr (by decide +kernel) (pa_cons (pe_lst (pa_cons (pe_meth0 (pv 13) X.cl X.MSt GSt0 (hr.mono (by omega)) bdS vdS pass0) (pa_cons (pe_meth (pv 13) X.cl X.MCf GCf (hr.mono (by omega)) bdC vdC pass0 (pa_cons (pv 11) pa_nil)) (pa_cons (pe_call GTo (hr.mono (by omega)) (by rfl) TP.gSt TP.St.kp TP.bSt .nil pass0 (pa_cons (pe_ix (show IxR _ (rIxL K) from ix_list) (pv 8) pe_int (fun _ _ => rfl)) (pa_cons (pe_ix (show IxR _ (rIxL K) from ix_list) (pv 8) pe_int (fun _ _ => rfl)) pa_nil))) pa_nil)))) pa_nil)) (nomark _)) (pss_one (ps_ret pe_bl)) pss_nil)))))))))))))
      (pss_cons (ps_set (i := 15) scLaw.nd rfl (.inl rfl) (pe_make X.mkC GIn (hr.mono (by omega)) (by rfl) X.gC X.BIn .nil pass0 (pa_cons (pe_ix (show IxR _ (rIxL K) from ix_list) (pv 3) pe_int (fun _ _ => rfl)) (pa_cons (pe_ix (show IxR _ (rIxL K) from ix_list) (pv 3) pe_int (fun _ _ => rfl)) pa_nil))))
      (pss_one (ps_ret (pe_and (pe_cmpR op_eq (pe_meth (pv 15) X.cl X.MAt GAt (hr.mono (by omega)) bads rads pass0 (pa_cons (pe_meth0 (pv 4) X.cl X.MEs GEs (hr.mono (by omega)) X.BEs .nil pass0) pa_nil)) (pe_callB (call_lenO (show Spc K C hLn "__len__" from ⟨X.MLn.at_, X.MLn.fn⟩) RLn (hr.mono (by omega))) (by rfl) T.m_len PySem.boot_len (pa_cons (pv 4) pa_nil)) (nomark _)) (pe_and (pe_cmpR (op_eqG (rcG_ins GEq W.MEq.at_ W.MEq.fn W.BEq pass0) (hr.mono (by omega))) (pv 15) (pv 4) (nomark _)) (pe_one (pe_cmpR (op_eqD hr.units) (pe_meth0 (pv 15) X.cl X.MEs GEs (hr.mono (by omega)) X.BEs .nil pass0) (pe_meth0 (pv 4) X.cl X.MEs GEs (hr.mono (by omega)) X.BEs .nil pass0) (nomark _))))))))))))), ?_⟩
    refine ⟨_, rfl, a, ns, rfl, hS, hlen, fun dk c H1 s1 nd nc dek => ?_⟩
    refine ⟨_, rfl, dk, c, 0, 3, 9, rfl, dek, by decide, by decide, by decide, by decide, by decide, fun t ls rows n H2 r1 r3 n1 n4 hrow st k2 d2 => ?_⟩
    have hg : (rows.getD 0 []).length = n := (hrow _ (by
      rw [List.getD_eq_getElem?_getD, List.getElem?_eq_getElem (by omega)]
      exact List.getElem_mem _)).1
    obtain ⟨ls2, l, stk, hl0, hr0⟩ := row0 st.td r1
    refine ⟨_, rfl, _, rfl, _, rfl, t, _, 0, _, rfl, rfl, SqT.of stk.top, atI_nat (j := 0) hl0, ?_⟩
    refine ⟨l, _, rfl, .inr (SqT.of hr0), ?_⟩
    rw [List.length_map, hg]
    refine ⟨dk, c, _, n, 4, rfl, d2, n1, n4, by decide, by decide, by decide, fun b bl ws H3 wi k3 d3 => ?_⟩
    refine ⟨by show 2 ≤ sizeLine; decide, fun p0 np0 => ?_⟩
    have ne0 := d3.nedk np0
    have s4 := same_new (o := .lst [.ref t, .ref b]) np0
    have d4 := d3.keep s4
    have ht4 := (st.td.kpD d2 k3).same s4
    have hb4 := wi.st.td.same s4
    have g0 : Sg rows ws n := ⟨r1, by omega, fun r hr => ⟨(hrow r hr).1, fun y hy => by have := (hrow r hr).2 y hy; omega⟩, wi.l1, wi.l4, wi.g, n1, n4⟩
    have hp4 : (upd H3 p0 (.lst [.ref t, .ref b])) p0 = some (.lst [.ref t, .ref b]) := upd_same
    generalize upd H3 p0 (.lst [.ref t, .ref b]) = H4 at d4 ht4 hb4 hp4 ⊢
    clear s4 np0 wi k3 d3 k2 d2 hr0 hl0 stk st hg
    refine ⟨_, rfl, _, rfl, p0, _, 1, .ref b, rfl, rfl, SqL.of hp4, rfl, fun x dx nx ndx dne => ?_⟩
    have sA : Same H4 (upd (upd H4 dx (.own x)) x (.ins C dx [])) := fun b' o' e' => by
      rw [upd_ne (ne_of_none e' nx), upd_ne (ne_of_none e' ndx)]
      exact e'
    refine ⟨x, t, b, dx, rows, ws, n, rfl, upd_same, ht4.same sA, hb4.same sA, g0, fun H5 k5 hc5 => ⟨rfl, ?_⟩⟩
    have s5 : Same H4 H5 := fun b' o' e' => k5 _ _ (ne_of_none e' nx) (ne_of_none e' nx) (sA _ _ e')
    have d5 := d4.keep s5
    have hp5 := s5 _ _ hp4
    have ht5 := ht4.same s5
    have hb5 := hb4.same s5
    clear k5 sA s5 d4 ht4 hb4 hp4
    refine ⟨_, rfl, by show 1 ≤ sizeLine; decide, fun sl nsl => ⟨_, _, rfl, ?_⟩⟩
    have nes := d5.nedk nsl
    have hpsl : p0 ≠ sl := ne_of_none hp5 nsl
    have s6 := same_new (o := .lst [.ref p0]) nsl
    have U6 : US C (upd H5 sl (.lst [.ref p0])) dk c sl x [p0] rows ws n [] 120 := ⟨d5.keep s6, hc5.same s6, ⟨upd_same, rfl, fun i q r w e1 e2 => by
      cases i with
      | zero =>
        obtain rfl := Option.some.inj e1
        obtain ⟨rfl, rfl⟩ := Prod.mk.inj (Option.some.inj e2)
        exact ⟨⟨t, b, s6 _ _ hp5, ht5.same s6, hb5.same s6⟩, g0⟩
      | succ i => cases e1⟩, (fun h hh => by cases hh), nes, fun p hp => by
        rw [List.mem_singleton.mp hp]
        exact ⟨ne0.1, ne0.2, hpsl⟩⟩
    have T6 : StateAt (upd H5 sl (.lst [.ref p0])) p0 rows ws n := ⟨⟨t, b, s6 _ _ hp5, ht5.same s6, hb5.same s6⟩, g0⟩
    generalize upd H5 sl (.lst [.ref p0]) = H6 at U6 T6 ⊢
    clear s6 d5 ht5 hb5 hp5 hc5 nsl
    refine ⟨_, rfl, dk, c, _, 12, rfl, U6.d, by omega, by decide, by decide, fun q1 H7 a0 a1 k7 d7 => ?_⟩
    have T7 := T6.mv (TK.kp U6.d k7) fun xs e => k7 _ _ ne0.1 ne0.2 e
    have U7 := U6.kd k7 d7
    clear U6 T6 k7 d7
    obtain ⟨cnt, hcnt, hc1, hc12⟩ : ∃ cnt : Nat, 1 + q1 = (cnt : Int) ∧ 1 ≤ cnt ∧ cnt ≤ 12 := ⟨(1 + q1).toNat, by omega, by omega, by omega⟩
    refine ⟨1, q1, rfl, rfl, (cnt : Int), congrArg (fun x => [V.int x]) hcnt, by omega, by omega, ?_⟩
    refine for_range (lo := 0) (n := cnt) (fun i σ H' => ∃ (ps : List Addr) (r u : List (List Int)) (hist : List Hst) (y6 y7 y8 y9 y10 y11 y12 y13 y14 : Option V), σ = [some (.ref a), some (.ref dk), some (.ref t), some (.ref p0), some (.ref x), some (.ref sl), y6, y7, y8, y9, y10, y11, y12, y13, y14, none] ∧ hist.length ≤ i ∧
        US C H' dk c sl x ps r u n hist (121 + 40 * i) ∧ StateAt H' p0 rows ws n ∧ Rn n rows ws r u hist ∧ ∀ h ∈ hist, Sm 114 2 h.1)
      ⟨[p0], rows, ws, [], _, _, _, _, _, _, _, _, _, rfl, Nat.le_refl _, U7, T7, ⟨[], True.intro, rfl⟩, fun h hh => by cases hh⟩ (fun i σ H8 hi h => ?_) (fun σ H8 h => ?_)
    · obtain ⟨ps, r, u, hist, y6, y7, y8, y9, y10, y11, y12, y13, y14, rfl, hl, U, T0, R0, sm0⟩ := h
      clear U7 T7
      obtain ⟨ps', p, rfl, S⟩ := U.last
      have hs := U.ss.sl_
      rw [List.map_append] at hs
      have hp_ := U.np p (List.mem_append_right _ (List.mem_singleton_self _))
      refine ⟨_, rfl, _, rfl, 1, rfl, sl, _, -1, .ref p, rfl, rfl, SqL.of hs, atI_last _ _, ?_⟩
      refine ⟨dk, c, p, _, r, u, n, rfl, U.d, by omega, S, hp_.1, hp_.2.1, fun v e H9 hv hok k9 d9 => ?_⟩
      have T9 := T0.mv (TK.kp U.d k9) fun xs z => k9 _ _ ne0.1 ne0.2 z
      have S9 := S.mv (TK.kp U.d k9) fun xs z => k9 _ _ hp_.1 hp_.2.1 z
      have U9 := U.kd k9 d9
      clear U T0 S k9 d9 hs
      have hs9 := U9.ss.sl_
      rw [List.map_append] at hs9
      refine ⟨.ref sl, rfl, .inl ⟨rfl, _, SqL.of hs9⟩, _, rfl, 1, rfl, sl, _, -1, .ref p, rfl, rfl, SqL.of hs9, atI_last _ _, _, rfl, ?_⟩
      refine ⟨p, v, e, r, u, n, rfl, S9, hv, hok, fun p' H10 s10 fr S10 => ?_⟩
      have U10 := U9.same s10
      have T10 := T9.mv (TK.same s10) fun xs z => s10 _ _ z
      have hv10 := hv.same s10
      have hs10 := s10 _ _ hs9
      have nep' := U9.d.nedk fr
      have npsl : p' ≠ sl := (ne_of_none hs9 fr).symm
      obtain ⟨dx1, _, _, _, hx9, _⟩ := id U9.cab.ex
      have npx : p' ≠ x := (ne_of_none hx9 fr).symm
      have pl := U9.ss.pl
      rw [List.length_append] at pl
      have pl' : ps'.length = hist.length := by simpa using pl
      refine ⟨sl, _, _, rfl, rfl, hs10, by rw [List.length_append, List.length_map, pl']; exact len_lt (by show hist.length + 1 ≤ _; omega), ?_⟩
      have t1 : TK H10 (upd H10 sl (.lst (List.map V.ref ps' ++ [.ref p] ++ [.ref p']))) := TK.lst hs10
      have nx10 := U10.nx
      have slx := nx10.2.2 _ _ hs10
      have p0x : p0 ≠ x := by
        obtain ⟨⟨_, _, h, _⟩, _⟩ := T10
        exact nx10.2.2 _ _ h
      have c10 := U10.cab.tk t1 (fun o z => by rw [upd_ne slx.symm]; exact z)
      refine ⟨_, rfl, _, rfl, x, v, e, r, u, n, hist, rfl, hv10.tk t1, c10, by omega, hok, fun H11 k11 c11 => ?_⟩
      have hs11 : H11 sl = some (.lst ((ps' ++ [p] ++ [p']).map V.ref)) := k11 _ _ slx slx (by rw [upd_same, List.map_append, List.map_append]; rfl)
      have tk11 : TK (upd H10 sl (.lst (List.map V.ref ps' ++ [.ref p] ++ [.ref p']))) H11 := by
        obtain ⟨dx2, _, _, _, hx2, _⟩ := c10.ex
        exact tk_ins hx2 k11
      have keep : ∀ q xs, q ∈ ps' ++ [p] → H10 q = some (.lst xs) → H11 q = some (.lst xs) := fun q xs hq z => k11 _ _ (nx10.2.2 _ _ z) (nx10.2.2 _ _ z) (by rw [upd_ne (U10.np q hq).2.2]; exact z)
      have T11 := T10.mv (t1.trans tk11) fun xs z => k11 _ _ p0x p0x (by rw [upd_ne hpsl]; exact z)
      have S11 : StateAt H11 p' (e.rows r) (e.ws u) n := S10.mv (t1.trans tk11) fun xs z => k11 _ _ npx npx (by rw [upd_ne npsl]; exact z)
      have d11 := deck_x (U10.d.updD (o := .lst (List.map V.ref ps' ++ [.ref p] ++ [.ref p'])) U10.ns.1 U10.ns.2) nx10.1 nx10.2.1 k11
      have sm1 : ∀ h ∈ hist ++ [(e.dat, r, u)], Sm 114 2 h.1 := fun h hh => by
        rcases List.mem_append.mp hh with h' | h'
        · exact sm0 h h'
        · rw [List.mem_singleton.mp h']
          exact sm_ed U10.cab.g e hok
      have U11 : US C H11 dk c sl x (ps' ++ [p] ++ [p']) (e.rows r) (e.ws u) n (hist ++ [(e.dat, r, u)]) (121 + 40 * i + 20) := by
        refine ⟨d11, c11, U10.ss.push hs11 (t1.trans tk11) keep S11, fun h hh => ?_, U10.ns, fun q hq => ?_⟩
        · rcases List.mem_append.mp hh with h' | h'
          · exact U10.gs h h'
          · rw [List.mem_singleton.mp h']
            exact U10.cab.g
        · rcases List.mem_append.mp hq with h' | h'
          · exact U10.np q h'
          · rw [List.mem_singleton.mp h']
            exact ⟨nep'.1, nep'.2, npsl⟩
      refine ⟨_, rfl, sl, _, rfl, .inl (SqL.of hs11), ?_⟩
      refine ⟨((List.map V.ref (ps' ++ [p] ++ [p'])).length : Nat), 1, rfl, rfl, rfl, _, rfl, iteF2 (by rw [decide_eq_true (congrArg V.int (by rw [List.length_map, List.length_append, List.length_append, pl']; show ((hist.length + 1 : Nat) : Int) = ((hist.length + 1 + 1 : Nat) : Int) - 1; omega))]; rfl) ?_⟩
      have R1 := R0.push hok
      refine ⟨fun σ' H' => ∃ (ps : List Addr) (r u : List (List Int)) (hist : List Hst) (y7 : Option V), σ' = [some (.ref a), some (.ref dk), some (.ref t), some (.ref p0), some (.ref x), some (.ref sl), some (.int ((0 : Int) + i)), y7, y8, y9, y10, y11, y12, y13, y14, none] ∧ hist.length ≤ i + 1 ∧
        US C H' dk c sl x ps r u n hist (121 + 40 * i + 21) ∧ StateAt H' p0 rows ws n ∧ Rn n rows ws r u hist ∧ ∀ h ∈ hist, Sm 114 2 h.1, ?_, ?_⟩
      · refine ⟨_, rfl, dk, c, _, 4, rfl, U11.d, by omega, by decide, by decide, fun q2 H12 b0 b1 k12 d12 => ?_⟩
        have T12 := T11.mv (TK.kp U11.d k12) fun xs z => k12 _ _ ne0.1 ne0.2 z
        have U12 := U11.kd k12 d12
        refine ⟨rfl, _, rfl, ite2 (fun _ => ?_) (fun _ => ?_)⟩
        · have hs12 : H12 sl = some (.lst (ps'.map V.ref ++ [.ref p] ++ [.ref p'])) := by
            have h := U12.ss.sl_
            rw [List.map_append, List.map_append] at h
            exact h
          have i2 : (ps'.map V.ref ++ [V.ref p] ++ [V.ref p'])[(ps'.map V.ref ++ [V.ref p] ++ [V.ref p']).length - 1]? = some (.ref p') := by
            rw [List.length_append (as := ps'.map V.ref ++ [V.ref p]), List.getElem?_append_right (by show _ ≤ _ + 1 - 1; omega)]
            show [V.ref p'][(ps'.map V.ref ++ [V.ref p]).length + 1 - 1 - (ps'.map V.ref ++ [V.ref p]).length]? = some (V.ref p')
            rw [Nat.add_sub_cancel, Nat.sub_self]
            rfl
          refine ⟨.ref sl, rfl, .inl ⟨rfl, _, SqL.of hs12⟩, sl, _, .ref p', rfl, rfl, hs12, i2, ?_⟩
          rw [List.dropLast_concat]
          have nx12 := U12.nx
          have t2 : TK H12 (upd H12 sl (.lst (ps'.map V.ref ++ [.ref p]))) := TK.lst hs12
          have c12 := U12.cab.tk t2 (fun o z => by rw [upd_ne slx.symm]; exact z)
          obtain ⟨dx3, _, _, _, hx3, _⟩ := id c12.ex
          refine ⟨.ref x, rfl, x, dx3, _, rfl, hx3, lm_undo, x, e.rows r, e.ws u, n, hist, (e.dat, r, u), rfl, c12, by omega, U10.cab.g, fun H13 k13 c13 => ?_⟩
          have hs13 : H13 sl = some (.lst ((ps' ++ [p]).map V.ref)) := k13 _ _ slx slx (by rw [upd_same, List.map_append]; rfl)
          refine ⟨_, rfl, sl, _, rfl, .inl (SqL.of hs13), ?_⟩
          refine ⟨((List.map V.ref (ps' ++ [p])).length : Nat), 1, rfl, rfl, rfl, _, rfl, iteF2 (by rw [decide_eq_true (congrArg V.int (by rw [List.length_map, List.length_append, pl']; show ((hist.length : Nat) : Int) = ((hist.length + 1 : Nat) : Int) - 1; omega))]; rfl) ?_⟩
          have tk13 := t2.trans (tk_ins hx3 k13)
          have tkA := (t1.trans tk11).trans ((TK.kp U11.d k12).trans tk13)
          refine ⟨ps' ++ [p], r, u, hist, _, rfl, Nat.le_succ_of_le hl, US.up ⟨deck_x (U12.d.updD (o := .lst (ps'.map V.ref ++ [.ref p])) U12.ns.1 U12.ns.2) nx12.1 nx12.2.1 k13, c13, ⟨hs13, U10.ss.pl, fun j q r' u' e1 e2 => (U10.ss.sv j q r' u' e1 e2).mv tkA fun xs z => ?_⟩, U10.gs, U10.ns, U10.np⟩ (by omega), T12.mv tk13 (fun xs z => k13 _ _ p0x p0x (by rw [upd_ne hpsl]; exact z)), R0, sm0⟩
          have hq := List.mem_of_getElem? e1
          have hqx := nx10.2.2 _ _ z
          have hqn := U10.np q hq
          exact k13 _ _ hqx hqx (by rw [upd_ne hqn.2.2]; exact k12 _ _ hqn.1 hqn.2.1 (keep q xs hq z))
        · exact ⟨ps' ++ [p] ++ [p'], e.rows r, e.ws u, hist ++ [(e.dat, r, u)], _, rfl, by rw [List.length_append]; exact Nat.succ_le_succ hl, U12.up (by omega), T12, R1, sm1⟩
      clear U11 T11 S11 R1 R0 sm1 sm0 U10 T10 S10 hs10 hs11 t1 tk11 keep c10 c11 k11 d11 hl U9 T9 S9 pl pl' hs9
      rintro _ H12 ⟨ps, r, u, hist, y7, rfl, hl, U, T0, R0, sm0⟩
      obtain ⟨ps', p, rfl, S⟩ := U.last
      have hs := U.ss.sl_
      have hpl1 : ((ps' ++ [p]).map V.ref).length = hist.length + 1 := by rw [List.length_map, U.ss.pl]
      have hsA := hs
      rw [List.map_append] at hsA
      have hp_ := U.np p (List.mem_append_right _ (List.mem_singleton_self _))
      refine ⟨_, rfl, 1, rfl, sl, _, -1, .ref p, rfl, rfl, SqL.of hsA, atI_last _ _, ?_⟩
      refine ⟨_, rfl, _, rfl, sl, _, rfl, .inl (SqL.of hs), ?_⟩
      rw [hpl1]
      refine ⟨dk, c, _, ((hist.length + 1 : Nat) : Int), rfl, U.d, by omega, by omega, by omega, fun q3 H13 e0 e1 k13 d13 => ⟨_, _, rfl, ?_⟩⟩
      have T13 := T0.mv (TK.kp U.d k13) fun xs z => k13 _ _ ne0.1 ne0.2 z
      have S13 := S.mv (TK.kp U.d k13) fun xs z => k13 _ _ hp_.1 hp_.2.1 z
      have U13 := U.kd k13 d13
      clear U T0 S k13 d13 hs hsA hpl1
      obtain ⟨j, rfl, hj⟩ : ∃ j : Nat, q3 = (j : Int) ∧ j ≤ hist.length := ⟨q3.toNat, by omega, by omega⟩
      obtain ⟨⟨t1, b1, hp1, ht1, hb1⟩, g1⟩ := id S13
      refine ⟨_, rfl, p, _, 0, .ref t1, rfl, rfl, SqL.of hp1, rfl, _, rfl, p, _, 1, .ref b1, rfl, rfl, SqL.of hp1, rfl, fun x2 dx2 nx2 ndx2 dne2 => ?_⟩
      have sB : Same H13 (upd (upd H13 dx2 (.own x2)) x2 (.ins C dx2 [])) := fun b' o' e' => by
        rw [upd_ne (ne_of_none e' nx2), upd_ne (ne_of_none e' ndx2)]
        exact e'
      refine ⟨x2, t1, b1, dx2, r, u, n, rfl, upd_same, ht1.same sB, hb1.same sB, g1, fun H14 k14 c2 => ⟨rfl, ?_⟩⟩
      have s14 : Same H13 H14 := fun b' o' e' => k14 _ _ (ne_of_none e' nx2) (ne_of_none e' nx2) (sB _ _ e')
      have nd2 := U13.d.nedk nx2
      have U14 := U13.same s14
      have T14 := T13.mv (TK.same s14) fun xs z => s14 _ _ z
      have S14 := S13.mv (TK.same s14) fun xs z => s14 _ _ z
      have hp14 := s14 _ _ hp1
      have ht14 := ht1.same s14
      have hb14 := hb1.same s14
      clear U13 T13 S13 hp1 ht1 hb1 k14 sB s14 nx2 ndx2 dne2
      refine ⟨_, rfl, _, rfl, p, _, 0, .ref t1, rfl, rfl, SqL.of hp14, rfl, dk, c, t1, _, n, r, rfl, U14.d, by omega, ht14, g1.r4, g1.n4, g1.rg, fun pp pls H15 hpp hppl hppb k15 d15 => ⟨_, _, rfl, ?_⟩⟩
      have tk15 := TK.kp U14.d k15
      have T15 := T14.mv tk15 fun xs z => k15 _ _ ne0.1 ne0.2 z
      have S15 := S14.mv tk15 fun xs z => k15 _ _ hp_.1 hp_.2.1 z
      have hp15 := k15 _ _ hp_.1 hp_.2.1 hp14
      have ht15 := ht14.tk tk15
      have hb15 := hb14.tk tk15
      have c15 := c2.tk tk15 fun o e' => k15 _ _ nd2.1 nd2.2 e'
      have U15 := U14.kd k15 d15
      clear U14 T14 S14 hp14 ht14 hb14 c2 k15 d15 tk15
      refine ⟨_, rfl, _, rfl, x, pp, r, u, n, hist, pls, rfl, U15.cab, by omega, hpp, hppl, hppb, fun H16 s16 => ?_⟩
      refine ⟨_, rfl, _, rfl, x2, pp, r, u, n, [], pls, rfl, c15.same s16, by decide, s16 _ _ hpp, hppl, hppb, fun H17 s17 => ?_⟩
      have sC := s16.trans s17
      have U17 := U15.same sC
      have c17 := c15.same sC
      obtain ⟨dxa, _, _, _, hxa, _⟩ := id U17.cab.ex
      obtain ⟨dxb, _, _, _, hxb, _⟩ := id c17.ex
      refine ⟨rfl, _, rfl, iteF2 ne_self ?_⟩
      refine ⟨_, rfl, _, rfl, ⟨x, x2, dxa, dxb, _, _, rfl, rfl, hxa, hxb, r, u, n, hist, [], U17.cab, c17⟩, fun H18 s18 => ⟨_, rfl, ?_⟩⟩
      refine iteF2 rfl ?_
      refine ⟨_, rfl, _, rfl, ⟨x2, x, dxb, dxa, _, _, rfl, rfl, s18 _ _ hxb, s18 _ _ hxa, r, u, n, [], hist, c17.same s18, U17.cab.same s18⟩, fun H19 s19 => ⟨_, rfl, ?_⟩⟩
      refine iteF2 rfl ?_
      have sD := (sC.trans s18).trans s19
      have U19 := U15.same sD
      have T19 := T15.mv (TK.same sD) fun xs z => sD _ _ z
      have hp19 := sD _ _ hp15
      have ht19 := ht15.same sD
      have hb19 := hb15.same sD
      clear U15 T15 S15 hp15 ht15 hb15 c15 U17 c17 sC s16 s17 s18 s19 sD hpp hppl hppb hxa hxb
      obtain ⟨pj, hpj⟩ : ∃ pj, (ps' ++ [p])[j]? = some pj := ⟨_, List.getElem?_eq_getElem (by rw [U19.ss.pl]; omega)⟩
      obtain ⟨sj, hsj⟩ : ∃ s, (statesOf r u hist)[j]? = some s := ⟨_, List.getElem?_eq_getElem (by rw [states_len]; omega)⟩
      obtain ⟨rj, uj⟩ := sj
      have Sj := U19.ss.sv j pj rj uj hpj hsj
      have npj := U19.np pj (List.mem_of_getElem? hpj)
      refine ⟨_, rfl, _, rfl, sl, _, (j : Int), .ref pj, rfl, rfl, SqL.of U19.ss.sl_, atI_nat (by rw [List.getElem?_map, hpj]; rfl), ?_⟩
      obtain ⟨⟨tj, bj, hq1, hq2, hq3⟩, gj⟩ := id Sj
      refine ⟨_, rfl, pj, _, 0, .ref tj, rfl, rfl, SqL.of hq1, rfl, _, rfl, pj, _, 1, .ref bj, rfl, rfl, SqL.of hq1, rfl, fun x3 dx3 nx3 ndx3 dne3 => ?_⟩
      have sE : Same H19 (upd (upd H19 dx3 (.own x3)) x3 (.ins C dx3 [])) := fun b' o' e' => by
        rw [upd_ne (ne_of_none e' nx3), upd_ne (ne_of_none e' ndx3)]
        exact e'
      refine ⟨x3, tj, bj, dx3, rj, uj, n, rfl, upd_same, hq2.same sE, hq3.same sE, gj, fun H20 k20 c3 => ⟨rfl, ?_⟩⟩
      have s20 : Same H19 H20 := fun b' o' e' => k20 _ _ (ne_of_none e' nx3) (ne_of_none e' nx3) (sE _ _ e')
      have nd3 := U19.d.nedk nx3
      have U20 := U19.same s20
      have T20 := T19.mv (TK.same s20) fun xs z => s20 _ _ z
      have hp20 := s20 _ _ hp19
      have ht20 := ht19.same s20
      have hb20 := hb19.same s20
      have hq20 := s20 _ _ hq1
      have hq220 := hq2.same s20
      clear U19 T19 Sj hp19 ht19 hb19 hq1 hq2 hq3 k20 sE s20 nx3 ndx3 dne3
      refine ⟨_, rfl, _, rfl, pj, _, 0, .ref tj, rfl, rfl, SqL.of hq20, rfl, dk, c, tj, _, n, rj, rfl, U20.d, by omega, hq220, gj.r4, gj.n4, gj.rg, fun pp pls H21 hpp hppl hppb k21 d21 => ⟨_, _, rfl, ?_⟩⟩
      have tk21 := TK.kp U20.d k21
      have T21 := T20.mv tk21 fun xs z => k21 _ _ ne0.1 ne0.2 z
      have hp21 := k21 _ _ hp_.1 hp_.2.1 hp20
      have ht21 := ht20.tk tk21
      have hb21 := hb20.tk tk21
      have c21 := c3.tk tk21 fun o e' => k21 _ _ nd3.1 nd3.2 e'
      have U21 := U20.kd k21 d21
      clear U20 T20 hp20 ht20 hb20 hq20 hq220 c3 k21 d21 tk21
      have pnn := pl_nn hppl hppb
      obtain ⟨dxa, _, _, _, hxa, _⟩ := id U21.cab.ex
      refine ⟨.ref x, rfl, x, dxa, _, rfl, hxa, lm_state, _, rfl, rfl, ?_⟩
      refine ⟨x, some j, r, u, rj, uj, n, hist, rfl, U21.cab, by omega, ⟨hj, hsj⟩, fun pa ta ba H22 s22 hpa hta hba => ?_⟩
      refine ⟨.ref x, rfl, x, dxa, _, rfl, s22 _ _ hxa, lm_certificate, ?_⟩
      refine ⟨_, rfl, _, rfl, rfl, rfl, x, pp, some j, r, u, rj, uj, n, hist, pls, rfl, U21.cab.same s22, by omega, ⟨hj, hsj⟩, gj, s22 _ _ hpp, hppl, hppb, fun cc H23 s23 cx => ?_⟩
      obtain ⟨dxa2, _, _, _, hxa2, _⟩ := id (U21.cab.same (s22.trans s23)).ex
      refine ⟨_, rfl, x, C, dxa2, _, _, rfl, hxa2, X.cl, X.aU, lk_sure, by show 3 ≤ sizeLine; decide, fun L nL => ?_⟩
      have s24 := same_new (o := .lst [.ref pa, .ref cc, sureV r u n]) nL
      have s2324 := s23.trans s24
      refine ⟨_, rfl, L, fdD rj uj pls n (totalOf (totalsOf r n) u n), 150000, rfl, by unfold fdD; exact .lst (SqL.of upd_same) (.cons (Td.dp (.tup (s2324 _ _ hpa) (.cons (hta.same s2324) (.cons (hba.same s2324) .nil)))) (.cons ((cx.same s24).dp gj.r4) (.cons dp_optP .nil))), sm_fd gj pnn (sure_bd g1), by decide, ?_⟩
      have sF := s22.trans s2324
      have c24 := c21.same sF
      obtain ⟨dxc, _, _, _, hxc, _⟩ := id c24.ex
      refine ⟨_, rfl, x3, dxc, _, rfl, hxc, lm_state, x3, rj, uj, n, [], rfl, c24, fun v2 H25 s25 hv2 => ?_⟩
      refine ⟨_, rfl, x3, dxc, _, rfl, s25 _ _ hxc, lm_certificate, _, rfl, ?_⟩
      refine ⟨x3, pp, none, rj, uj, rj, uj, n, [], pls, rfl, c24.same s25, by decide, ⟨rfl, rfl⟩, gj, s25 _ _ (sF _ _ hpp), hppl, hppb, fun cc2 H26 s26 cx2 => ?_⟩
      have sG := sF.trans (s25.trans s26)
      obtain ⟨_, lsr, e7, str⟩ := td_stockI (ht21.same sG)
      cases e7
      obtain ⟨wlr, wir⟩ := g1.wish (hb21.same sG)
      refine ⟨_, rfl, p, _, 0, .ref t1, rfl, rfl, SqL.of (sG _ _ hp21), rfl, _, rfl, p, _, 1, .ref b1, rfl, rfl, SqL.of (sG _ _ hp21), rfl, ?_⟩
      refine ⟨t1, b1, lsr, wlr, r, u, n, rfl, str, g1.r1, g1.r4, fun y hy => (g1.rg y hy).1, wir, fun H27 s27 => ?_⟩
      refine ⟨by show 3 ≤ sizeLine; decide, fun L2 nL2 => ?_⟩
      have s28 := same_new (o := .lst [v2, .ref cc2, optI (totalOf (totalsOf r n) u n)]) nL2
      have s2728 := s27.trans s28
      refine ⟨L2, fdD rj uj pls n (totalOf (totalsOf r n) u n), 150000, rfl, by unfold fdD; exact .lst (SqL.of upd_same) (.cons (hv2.same (s26.trans s2728)).dp (.cons ((cx2.same s2728).dp gj.r4) (.cons dp_optP .nil))), sm_fd gj pnn (sure_bd g1), by decide, ?_⟩
      refine ⟨rfl, _, rfl, iteF2 ne_self ?_⟩
      have sH := sG.trans s2728
      exact ⟨ps' ++ [p], r, u, hist, _, _, _, _, _, _, _, _, _, rfl, hl, (U21.same sH).up (by omega), T21.mv (TK.same sH) (fun xs z => sH _ _ z), R0, sm0⟩
    clear U7 T7
    obtain ⟨ps, r, u, hist, y6, y7, y8, y9, y10, y11, y12, y13, y14, rfl, hl, U, T0, R0, sm0⟩ := h
    have hl12 : hist.length ≤ 12 := by omega
    obtain ⟨⟨t1, b1, hp1, ht1, hb1⟩, g1⟩ := id T0
    refine ⟨_, rfl, p0, _, 0, .ref t1, rfl, rfl, SqL.of hp1, rfl, _, rfl, p0, _, 1, .ref b1, rfl, rfl, SqL.of hp1, rfl, fun x2 dx2 nx2 ndx2 dne2 => ?_⟩
    have sB : Same H8 (upd (upd H8 dx2 (.own x2)) x2 (.ins C dx2 [])) := fun b' o' e' => by
      rw [upd_ne (ne_of_none e' nx2), upd_ne (ne_of_none e' ndx2)]
      exact e'
    refine ⟨x2, t1, b1, dx2, rows, ws, n, rfl, upd_same, ht1.same sB, hb1.same sB, g1, fun H14 k14 c2 => ⟨rfl, ?_⟩⟩
    have s14 : Same H8 H14 := fun b' o' e' => k14 _ _ (ne_of_none e' nx2) (ne_of_none e' nx2) (sB _ _ e')
    have cA := U.cab.same s14
    have xx2 : x ≠ x2 := by
      obtain ⟨_, _, _, _, h, _⟩ := U.cab.ex
      exact ne_of_none h nx2
    clear U T0 hp1 ht1 hb1 k14 sB
    obtain ⟨dxa, _, _, _, hxa, _⟩ := id cA.ex
    obtain ⟨dxb, _, _, _, hxb, _⟩ := id c2.ex
    obtain ⟨eds, ok, run⟩ := R0
    have hel : eds.length = hist.length := by
      have := run_len (s := (rows, ws, [])) (eds := eds)
      rw [run] at this
      simpa using this.symm
    have hed : hist.map (·.1) = eds.map Ed.dat := by
      have := run_eds (s := (rows, ws, [])) (eds := eds)
      rw [run] at this
      exact this
    refine ⟨_, rfl, x2, dxb, _, rfl, hxb, lm_attempt, _, rfl, x, dxa, _, rfl, hxa, lm_edits, x, r, u, n, hist, rfl, cA, by omega, fun ev H15 s15 tev => ?_⟩
    obtain ⟨ed, rfl⟩ : ∃ ed, ev = .ref ed := by
      cases tev
      exact ⟨_, rfl⟩
    obtain ⟨es, hes, tes⟩ := td_tupI tev
    rw [hed] at tes
    refine ⟨x2, ed, es, eds, rows, ws, n, [], rfl, hes, tes, c2.same s15, by omega, by show 0 + eds.length ≤ 60; omega, ok, fun H16 k16 c16 => ?_⟩
    rw [run] at c16
    have tk16 := tk_ins (s15 _ _ hxb) k16
    have cB := (cA.same s15).tk tk16 fun o e' => k16 _ _ xx2 xx2 e'
    clear k16 tk16 hes tes tev s15 cA c2 hxa hxb
    obtain ⟨dxa, _, _, _, hxa, _⟩ := id cB.ex
    obtain ⟨dxb, _, _, _, hxb, _⟩ := id c16.ex
    refine ⟨_, rfl, x, dxa, _, rfl, hxa, x, r, u, n, hist, rfl, cB, hist.length, rfl, by omega, ?_⟩
    refine ⟨rfl, _, rfl, ?_⟩
    rw [if_pos (by rw [hel]; exact decide_eq_true rfl)]
    refine ⟨_, rfl, _, rfl, ⟨x2, x, dxb, dxa, _, _, rfl, rfl, hxb, hxa, r, u, n, hist, hist, c16, cB⟩, fun H17 s17 => ⟨true, rfl, ?_⟩⟩
    refine ⟨_, rfl, x2, dxb, _, rfl, s17 _ _ hxb, lm_edits, x2, r, u, n, hist, rfl, c16.same s17, by omega, fun e1 H18 s18 te1 => ?_⟩
    refine ⟨_, rfl, x, dxa, _, rfl, s18 _ _ (s17 _ _ hxa), lm_edits, x, r, u, n, hist, rfl, (cB.same s17).same s18, by omega, fun e2 H19 s19 te2 => ?_⟩
    have sm := sm_edH sm0 (by omega)
    refine ⟨_, _, (te1.same s19).dp, te2.dp, sm.shaped (by decide), sm.shaped (by decide), ?_⟩
    rw [SeqAt.eqv_refl _ sm.lay]
    exact q _
end
end DD
namespace HT
open PySem PySem.Spec PyProof.Rows L2 DD
set_option maxHeartbeats 0 in
theorem facts {P : Program} {w : World} {K : PySem.W.Frag} {h : Heap} {mg : Str → Option Value} {f : Addr} (X : K.In h) (G : h.Ns mainGlobals mg) (hfa : mg ("law" : Str) = some (.ref f)) (c : HK.SaysB fa fn ex tsK w K) :
    ∃ fd : FuncData, (∀ (s : Shared) (v : Value), BindsTo s fd ⟨[v], []⟩ [("_law_script", v)]) ∧ ∀ base : Heap, K.In base → base.Ns mainGlobals mg → FnG P w K mg base 11 f fd ["_law_script"] (spLaw K) := by
  obtain ⟨e0, D0⟩ := c.d.def_ 0 (d := q0) rfl
  obtain ⟨e1, D1⟩ := c.d.def_ 1 (d := q1) rfl
  obtain ⟨e2, D2⟩ := c.d.def_ 2 (d := q2) rfl
  obtain ⟨e3, D3⟩ := c.d.def_ 3 (d := q3) rfl
  obtain ⟨e4, D4⟩ := c.d.def_ 4 (d := q4) rfl
  obtain ⟨e5, D5⟩ := c.d.def_ 5 (d := q5) rfl
  obtain ⟨e6, D6⟩ := c.d.def_ 6 (d := q6) rfl
  obtain ⟨e7, D7⟩ := c.d.def_ 7 (d := q7) rfl
  obtain ⟨e8, D8⟩ := c.d.def_ 8 (d := q8) rfl
  obtain ⟨e9, D9⟩ := c.d.def_ 9 (d := q9) rfl
  obtain ⟨e10, D10⟩ := c.d.def_ 10 (d := q10) rfl
  obtain ⟨e11, D11⟩ := c.d.def_ 11 (d := q11) rfl
  obtain ⟨e12, D12⟩ := c.d.def_ 12 (d := q12) rfl
  obtain ⟨e13, D13⟩ := c.d.def_ 13 (d := q13) rfl
  obtain ⟨e14, D14⟩ := c.d.def_ 14 (d := q14) rfl
  obtain ⟨e15, D15⟩ := c.d.def_ 15 (d := q15) rfl
  obtain ⟨e16, D16⟩ := c.d.def_ 16 (d := q16) rfl
  obtain ⟨e17, D17⟩ := c.d.def_ 17 (d := q17) rfl
  obtain ⟨e18, D18⟩ := c.d.def_ 18 (d := q18) rfl
  obtain ⟨e19, D19⟩ := c.d.def_ 19 (d := q19) rfl
  obtain ⟨e20, D20⟩ := c.d.def_ 20 (d := q20) rfl
  obtain ⟨e21, D21⟩ := c.d.def_ 21 (d := q21) rfl
  obtain ⟨e22, D22⟩ := c.d.def_ 22 (d := q22) rfl
  obtain ⟨e23, D23⟩ := c.d.def_ 23 (d := q23) rfl
  obtain ⟨e24, D24⟩ := c.d.def_ 24 (d := q24) rfl
  obtain ⟨e25, D25⟩ := c.d.def_ 25 (d := q25) rfl
  obtain ⟨e26, D26⟩ := c.d.def_ 26 (d := q26) rfl
  obtain ⟨e27, D27⟩ := c.d.def_ 27 (d := q27) rfl
  obtain ⟨e28, D28⟩ := c.d.def_ 28 (d := q28) rfl
  obtain ⟨e29, D29⟩ := c.d.def_ 29 (d := q29) rfl
  obtain ⟨e30, D30⟩ := c.d.def_ 30 (d := q30) rfl
  obtain ⟨e31, D31⟩ := c.d.def_ 31 (d := q31) rfl
  obtain ⟨e32, D32⟩ := c.d.def_ 32 (d := q32) rfl
  obtain ⟨e33, D33⟩ := c.d.def_ 33 (d := q33) rfl
  obtain ⟨e34, D34⟩ := c.d.def_ 34 (d := q34) rfl
  obtain ⟨e35, D35⟩ := c.d.def_ 35 (d := q35) rfl
  obtain ⟨e36, D36⟩ := c.d.def_ 36 (d := q36) rfl
  obtain ⟨e37, D37⟩ := c.d.def_ 37 (d := q37) rfl
  obtain ⟨e38, D38⟩ := c.d.def_ 38 (d := q38) rfl
  obtain ⟨e39, D39⟩ := c.d.def_ 39 (d := q39) rfl
  obtain ⟨e40, D40⟩ := c.d.def_ 40 (d := q40) rfl
  obtain ⟨e41, D41⟩ := c.d.def_ 41 (d := q41) rfl
  obtain ⟨e42, D42⟩ := c.d.def_ 42 (d := q42) rfl
  obtain ⟨e43, D43⟩ := c.d.def_ 43 (d := q43) rfl
  obtain ⟨e44, D44⟩ := c.d.def_ 44 (d := q44) rfl
  obtain ⟨e45, D45⟩ := c.d.def_ 45 (d := q45) rfl
  obtain ⟨e46, D46⟩ := c.d.def_ 46 (d := q46) rfl
  obtain ⟨e47, D47⟩ := c.d.def_ 47 (d := q47) rfl
  obtain ⟨e48, D48⟩ := c.d.def_ 48 (d := q48) rfl
  obtain ⟨e49, D49⟩ := c.d.def_ 49 (d := q49) rfl
  obtain ⟨e50, D50⟩ := c.d.def_ 50 (d := q50) rfl
  obtain ⟨e51, D51⟩ := c.d.def_ 51 (d := q51) rfl
  obtain ⟨e52, D52⟩ := c.d.def_ 52 (d := q52) rfl
  obtain ⟨e53, D53⟩ := c.d.def_ 53 (d := q53) rfl
  obtain ⟨e54, D54⟩ := c.d.def_ 54 (d := q54) rfl
  obtain ⟨e55, D55⟩ := c.d.def_ 55 (d := q55) rfl
  obtain ⟨e56, D56⟩ := c.d.def_ 56 (d := q56) rfl
  obtain ⟨e57, D57⟩ := c.d.def_ 57 (d := q57) rfl
  obtain ⟨e58, D58⟩ := c.d.def_ 58 (d := q58) rfl
  obtain ⟨e59, D59⟩ := c.d.def_ 59 (d := q59) rfl
  obtain ⟨e60, D60⟩ := c.d.def_ 60 (d := q60) rfl
  obtain ⟨e61, D61⟩ := c.d.def_ 61 (d := q61) rfl
  have F0 : Fun K "is_number" "is_number" sIsNum (He.fAd K ("is_number", none)) e0 := fun_of_D D0
  have b0 := F0.binds (ps := ["value"]) fun _ _ _ _ _ _ us hl => match us, hl with | [_], _ => rfl
  have F1 : Fun K "is_number_up_to" "is_number_up_to" sUpTo (He.fAd K ("is_number_up_to", none)) e1 := fun_of_D D1
  have b1 := F1.binds (ps := ["value", "most"]) fun _ _ _ _ _ _ us hl => match us, hl with | [_, _], _ => rfl
  have F2 : Fun K "is_positive_up_to" "is_positive_up_to" sPos (He.fAd K ("is_positive_up_to", none)) e2 := fun_of_D D2
  have b2 := F2.binds (ps := ["value", "most"]) fun _ _ _ _ _ _ us hl => match us, hl with | [_, _], _ => rfl
  have F3 : Fun K "is_tuple_of" "is_tuple_of" sTupOf (He.fAd K ("is_tuple_of", none)) e3 := fun_of_D D3
  have b3 := F3.binds (ps := ["value", "fewest", "most"]) fun _ _ _ _ _ _ us hl => match us, hl with | [_, _, _], _ => rfl
  have F4 : Fun K "are_numbers" "are_numbers" sNums (He.fAd K ("are_numbers", none)) e4 := fun_of_D D4
  have b4 := F4.binds (ps := ["value", "fewest", "most", "limit"]) fun _ _ _ _ _ _ us hl => match us, hl with | [_, _, _, _], _ => rfl
  have F5 : Fun K "stock_error" "stock_error" sErr (He.fAd K ("stock_error", none)) e5 := fun_of_D D5
  have b5 := F5.binds (ps := ["value"]) fun _ _ _ _ _ _ us hl => match us, hl with | [_], _ => rfl
  have F6 : Fun K "totals_of" "totals_of" sTotals (He.fAd K ("totals_of", none)) e6 := fun_of_D D6
  have b6 := F6.binds (ps := ["stock"]) fun _ _ _ _ _ _ us hl => match us, hl with | [_], _ => rfl
  have F7 : Fun K "sizes_of" "sizes_of" sSizes (He.fAd K ("sizes_of", none)) e7 := fun_of_D D7
  have b7 := F7.binds (ps := ["stock"]) fun _ _ _ _ _ _ us hl => match us, hl with | [_], _ => rfl
  have F8 : Fun K "with_more" "with_more" sMore (He.fAd K ("with_more", none)) e8 := fun_of_D D8
  have b8 := F8.binds (ps := ["stock", "drawer", "kind", "count"]) fun _ _ _ _ _ _ us hl => match us, hl with | [_, _, _, _], _ => rfl
  have F9 : Fun K "with_item" "with_item" sItem (He.fAd K ("with_item", none)) e9 := fun_of_D D9
  have b9 := F9.binds (ps := ["row", "at", "item"]) fun _ _ _ _ _ _ us hl => match us, hl with | [_, _, _], _ => rfl
  have F10 : Fun K "are_collections" "are_collections" sAre (He.fAd K ("are_collections", none)) e10 := fun_of_D D10
  have b10 := F10.binds (ps := ["kinds", "value"]) fun _ _ _ _ _ _ us hl => match us, hl with | [_, _], _ => rfl
  have F11 : Fun K "is_collection" "is_collection" sIsCol (He.fAd K ("is_collection", none)) e11 := fun_of_D D11
  have b11 := F11.binds (ps := ["kinds", "value"]) fun _ _ _ _ _ _ us hl => match us, hl with | [_, _], _ => rfl
  have F12 : Fun K "fulfilled_by" "fulfilled_by" sFul (He.fAd K ("fulfilled_by", none)) e12 := fun_of_D D12
  have b12 := F12.binds (ps := ["collections", "counts"]) fun _ _ _ _ _ _ us hl => match us, hl with | [_, _], _ => rfl
  have F13 : Fun K "contain" "contain" sCont (He.fAd K ("contain", none)) e13 := fun_of_D D13
  have b13 := F13.binds (ps := ["counts", "collection"]) fun _ _ _ _ _ _ us hl => match us, hl with | [_, _], _ => rfl
  have F14 : Fun K "spoilings_of" "spoilings_of" sSpoil (He.fAd K ("spoilings_of", none)) e14 := fun_of_D D14
  have b14 := F14.binds (ps := ["collections"]) fun _ _ _ _ _ _ us hl => match us, hl with | [_], _ => rfl
  have F15 : Fun K "caps_of" "caps_of" sCaps (He.fAd K ("caps_of", none)) e15 := fun_of_D D15
  have b15 := F15.binds (ps := ["collections", "spoiling"]) fun _ _ _ _ _ _ us hl => match us, hl with | [_, _], _ => rfl
  have F16 : Fun K "room_of" "room_of" sRoomOf (He.fAd K ("room_of", none)) e16 := fun_of_D D16
  have b16 := F16.binds (ps := ["totals", "caps"]) fun _ _ _ _ _ _ us hl => match us, hl with | [_, _], _ => rfl
  have F17 : Fun K "sure_total" "sure_total" sTotal (He.fAd K ("sure_total", none)) e17 := fun_of_D D17
  have b17 := F17.binds (ps := ["stock", "collections"]) fun _ _ _ _ _ _ us hl => match us, hl with | [_, _], _ => rfl
  have F18 : Fun K "are_numbers_up_to" "are_numbers_up_to" sNumsUp (He.fAd K ("are_numbers_up_to", none)) e18 := fun_of_D D18
  have b18 := F18.binds (ps := ["value", "limits"]) fun _ _ _ _ _ _ us hl => match us, hl with | [_, _], _ => rfl
  have F19 : Fun K "is_plan" "is_plan" sIsPlan (He.fAd K ("is_plan", none)) e19 := fun_of_D D19
  have b19 := F19.binds (ps := ["stock", "value"]) fun _ _ _ _ _ _ us hl => match us, hl with | [_, _], _ => rfl
  have F20 : Fun K "room_in" "room_in" sRoomIn (He.fAd K ("room_in", none)) e20 := fun_of_D D20
  have b20 := F20.binds (ps := ["stock", "caps", "drawers"]) fun _ _ _ _ _ _ us hl => match us, hl with | [_, _, _], _ => rfl
  have F21 : Fun K "find_certificate" "find_certificate" sFind (He.fAd K ("find_certificate", none)) e21 := fun_of_D D21
  have b21 := F21.binds (ps := ["stock", "collections", "plan"]) fun _ _ _ _ _ _ us hl => match us, hl with | [_, _, _], _ => rfl
  have F22 : Fun K "loads_of" "loads_of" sLoads (He.fAd K ("loads_of", none)) e22 := fun_of_D D22
  have b22 := F22.binds (ps := ["stock", "plan"]) fun _ _ _ _ _ _ us hl => match us, hl with | [_, _], _ => rfl
  have F23 : Fun K "sets_of_drawers" "sets_of_drawers" sSetsOf (He.fAd K ("sets_of_drawers", none)) e23 := fun_of_D D23
  have b23 := F23.binds (ps := ["stock"]) fun _ _ _ _ _ _ us hl => match us, hl with | [_], _ => rfl
  have F24 : Fun K "overfull" "overfull" sOver (He.fAd K ("overfull", none)) e24 := fun_of_D D24
  have b24 := F24.binds (ps := ["loads", "caps"]) fun _ _ _ _ _ _ us hl => match us, hl with | [_, _], _ => rfl
  have F25 : Fun K "draw_within" "draw_within" sWithin (He.fAd K ("draw_within", none)) e25 := fun_of_D D25
  have b25 := F25.binds (ps := ["stock", "caps", "plan"]) fun _ _ _ _ _ _ us hl => match us, hl with | [_, _, _], _ => rfl
  have F26 : Fun K "spare_of" "spare_of" sSpare (He.fAd K ("spare_of", none)) e26 := fun_of_D D26
  have b26 := F26.binds (ps := ["loads", "caps", "kind"]) fun _ _ _ _ _ _ us hl => match us, hl with | [_, _, _], _ => rfl
  have F27 : Fun K "is_same_state" "is_same_state" sSame (He.fAd K ("is_same_state", none)) e27 := fun_of_D D27
  have b27 := F27.binds (ps := ["one", "other"]) fun _ _ _ _ _ _ us hl => match us, hl with | [_, _], _ => rfl
  have F28 : Fun K "_law_deck" "_law_deck" sDeck (He.fAd K ("_law_deck", none)) e28 := fun_of_D D28
  have b28 := F28.binds (ps := ["_law_script"]) fun _ _ _ _ _ _ us hl => match us, hl with | [_], _ => rfl
  have F29 : Fun K "_law_draw" "_law_draw" sDraw (He.fAd K ("_law_draw", none)) e29 := fun_of_D D29
  have b29 := F29.binds (ps := ["_law_deck_here", "_law_many"]) fun _ _ _ _ _ _ us hl => match us, hl with | [_, _], _ => rfl
  have F30 : Fun K "_law_stock" "_law_stock" sStock (He.fAd K ("_law_stock", none)) e30 := fun_of_D D30
  have b30 := F30.binds (ps := ["_law_deck_here", "_law_drawers", "_law_most"]) fun _ _ _ _ _ _ us hl => match us, hl with | [_, _, _], _ => rfl
  have F31 : Fun K "_law_collection" "_law_collection" sColl (He.fAd K ("_law_collection", none)) e31 := fun_of_D D31
  have b31 := F31.binds (ps := ["_law_deck_here", "_law_kinds", "_law_most"]) fun _ _ _ _ _ _ us hl => match us, hl with | [_, _, _], _ => rfl
  have F32 : Fun K "_law_wish" "_law_wish" sWish (He.fAd K ("_law_wish", none)) e32 := fun_of_D D32
  have b32 := F32.binds (ps := ["_law_deck_here", "_law_kinds", "_law_most"]) fun _ _ _ _ _ _ us hl => match us, hl with | [_, _, _], _ => rfl
  have F33 : Fun K "_law_after" "_law_after" sAfter (He.fAd K ("_law_after", none)) e33 := fun_of_D D33
  have b33 := F33.binds (ps := ["_law_state", "_law_edit_here"]) fun _ _ _ _ _ _ us hl => match us, hl with | [_, _], _ => rfl
  have F34 : Fun K "_law_edit" "_law_edit" sEdit (He.fAd K ("_law_edit", none)) e34 := fun_of_D D34
  have b34 := F34.binds (ps := ["_law_deck_here", "_law_state"]) fun _ _ _ _ _ _ us hl => match us, hl with | [_, _], _ => rfl
  have F35 : Fun K "_law_do" "_law_do" sDo (He.fAd K ("_law_do", none)) e35 := fun_of_D D35
  have b35 := F35.binds (ps := ["_law_table", "_law_edit_here"]) fun _ _ _ _ _ _ us hl => match us, hl with | [_, _], _ => rfl
  have F36 : Fun K "_law_plan" "_law_plan" sLPlan (He.fAd K ("_law_plan", none)) e36 := fun_of_D D36
  have b36 := F36.binds (ps := ["_law_deck_here", "_law_stock_here"]) fun _ _ _ _ _ _ us hl => match us, hl with | [_, _], _ => rfl
  have F37 : Fun K "_law_shown" "_law_shown" sShown (He.fAd K ("_law_shown", none)) e37 := fun_of_D D37
  have b37 := F37.binds (ps := ["_law_table", "_law_plan_here"]) fun _ _ _ _ _ _ us hl => match us, hl with | [_, _], _ => rfl
  have F38 : Fun K "batch_of" "batch_of" sBatch (He.fAd K ("batch_of", none)) e38 := fun_of_D D38
  have b38 := F38.binds (ps := ["edits"]) fun _ _ _ _ _ _ us hl => match us, hl with | [_], _ => rfl
  have F39 : Fun K "is_edit" "is_edit" sIsEd (He.fAd K ("is_edit", none)) e39 := fun_of_D D39
  have b39 := F39.binds (ps := ["value"]) fun _ _ _ _ _ _ us hl => match us, hl with | [_], _ => rfl
  have F40 : Fun K "law" "law" sLaw (He.fAd K ("law", none)) e40 := fun_of_D D40
  have F41 : Fun K "__init__" "Cabinet.__init__" cInit (He.fAd K ("Cabinet", some "__init__")) e41 := fun_of_D D41
  have b41 := F41.binds (ps := ["self", "stock", "collections"]) fun _ _ _ _ _ _ us hl => match us, hl with | [_, _, _], _ => rfl
  have F42 : Fun K "put" "Cabinet.put" cPut (He.fAd K ("Cabinet", some "put")) e42 := fun_of_D D42
  have b42 := F42.binds (ps := ["self", "drawer", "kind", "count"]) fun _ _ _ _ _ _ us hl => match us, hl with | [_, _, _, _], _ => rfl
  have F43 : Fun K "remove" "Cabinet.remove" cRem (He.fAd K ("Cabinet", some "remove")) e43 := fun_of_D D43
  have b43 := F43.binds (ps := ["self", "drawer", "kind", "count"]) fun _ _ _ _ _ _ us hl => match us, hl with | [_, _, _, _], _ => rfl
  have F44 : Fun K "wish" "Cabinet.wish" cWish (He.fAd K ("Cabinet", some "wish")) e44 := fun_of_D D44
  have b44 := F44.binds (ps := ["self", "collection"]) fun _ _ _ _ _ _ us hl => match us, hl with | [_, _], _ => rfl
  have F45 : Fun K "drop" "Cabinet.drop" cDrop (He.fAd K ("Cabinet", some "drop")) e45 := fun_of_D D45
  have b45 := F45.binds (ps := ["self", "index"]) fun _ _ _ _ _ _ us hl => match us, hl with | [_, _], _ => rfl
  have F46 : Fun K "check_idle" "Cabinet.check_idle" cIdle (He.fAd K ("Cabinet", some "check_idle")) e46 := fun_of_D D46
  have b46 := F46.binds (ps := ["self"]) fun _ _ _ _ _ _ us hl => match us, hl with | [_], _ => rfl
  have F47 : Fun K "check_edit" "Cabinet.check_edit" cEdit (He.fAd K ("Cabinet", some "check_edit")) e47 := fun_of_D D47
  have b47 := F47.binds (ps := ["self"]) fun _ _ _ _ _ _ us hl => match us, hl with | [_], _ => rfl
  have F48 : Fun K "check_things" "Cabinet.check_things" cThings (He.fAd K ("Cabinet", some "check_things")) e48 := fun_of_D D48
  have b48 := F48.binds (ps := ["self", "drawer", "kind", "count"]) fun _ _ _ _ _ _ us hl => match us, hl with | [_, _, _, _], _ => rfl
  have F49 : Fun K "check_sure" "Cabinet.check_sure" cSure (He.fAd K ("Cabinet", some "check_sure")) e49 := fun_of_D D49
  have b49 := F49.binds (ps := ["self", "sure"]) fun _ _ _ _ _ _ us hl => match us, hl with | [_, _], _ => rfl
  have F50 : Fun K "change" "Cabinet.change" cChange (He.fAd K ("Cabinet", some "change")) e50 := fun_of_D D50
  have b50 := F50.binds (ps := ["self", "edit", "stock", "collections"]) fun _ _ _ _ _ _ us hl => match us, hl with | [_, _, _, _], _ => rfl
  have F51 : Fun K "state" "Cabinet.state" cState (He.fAd K ("Cabinet", some "state")) e51 := fun_of_D D51
  have b51 : ∃ ds, Vals [.non] ds ∧ Binds K e51 ["self", "version"] ds := FunD.binds0 D51 1 (by intro z; cases z) rfl fun D doc pm an cdv ct us ks h1 h2 => by
    match us, ks, h1, h2 with
    | [u0], [k0], _, _ => exact ⟨_, _, _, _, _, _, rfl, rfl, rfl⟩
  have F52 : Fun K "edits" "Cabinet.edits" cEdits (He.fAd K ("Cabinet", some "edits")) e52 := fun_of_D D52
  have b52 := F52.binds (ps := ["self"]) fun _ _ _ _ _ _ us hl => match us, hl with | [_], _ => rfl
  have F53 : Fun K "__len__" "Cabinet.__len__" cLen (He.fAd K ("Cabinet", some "__len__")) e53 := fun_of_D D53
  have b53 := F53.binds (ps := ["self"]) fun _ _ _ _ _ _ us hl => match us, hl with | [_], _ => rfl
  have F54 : Fun K "__str__" "Cabinet.__str__" cStr (He.fAd K ("Cabinet", some "__str__")) e54 := fun_of_D D54
  have b54 := F54.binds (ps := ["self"]) fun _ _ _ _ _ _ us hl => match us, hl with | [_], _ => rfl
  have F55 : Fun K "undo" "Cabinet.undo" cUndo (He.fAd K ("Cabinet", some "undo")) e55 := fun_of_D D55
  have b55 := F55.binds (ps := ["self"]) fun _ _ _ _ _ _ us hl => match us, hl with | [_], _ => rfl
  have F56 : Fun K "attempt" "Cabinet.attempt" cAtt (He.fAd K ("Cabinet", some "attempt")) e56 := fun_of_D D56
  have b56 : ∃ ds, Vals [.non] ds ∧ Binds K e56 ["self", "edits", "watch"] ds := FunD.binds0 D56 2 (by intro z; cases z) rfl fun D doc pm an cdv ct us ks h1 h2 => by
    match us, ks, h1, h2 with
    | [u0, u1], [k0], _, _ => exact ⟨_, _, _, _, _, _, rfl, rfl, rfl⟩
  have F57 : Fun K "do_batch" "Cabinet.do_batch" cDoB (He.fAd K ("Cabinet", some "do_batch")) e57 := fun_of_D D57
  have b57 := F57.binds (ps := ["self", "batch", "watch"]) fun _ _ _ _ _ _ us hl => match us, hl with | [_, _, _], _ => rfl
  have F58 : Fun K "do_edit" "Cabinet.do_edit" cDoE (He.fAd K ("Cabinet", some "do_edit")) e58 := fun_of_D D58
  have b58 := F58.binds (ps := ["self", "edit"]) fun _ _ _ _ _ _ us hl => match us, hl with | [_, _], _ => rfl
  have F59 : Fun K "certificate" "Cabinet.certificate" cCert (He.fAd K ("Cabinet", some "certificate")) e59 := fun_of_D D59
  have b59 : ∃ ds, Vals [.non] ds ∧ Binds K e59 ["self", "plan", "version"] ds := FunD.binds0 D59 2 (by intro z; cases z) rfl fun D doc pm an cdv ct us ks h1 h2 => by
    match us, ks, h1, h2 with
    | [u0, u1], [k0], _, _ => exact ⟨_, _, _, _, _, _, rfl, rfl, rfl⟩
  have F60 : Fun K "walk" "Cabinet.walk" cWalk (He.fAd K ("Cabinet", some "walk")) e60 := fun_of_D D60
  have b60 := F60.binds (ps := ["self"]) fun _ _ _ _ _ _ us hl => match us, hl with | [_], _ => rfl
  have F61 : Fun K "__eq__" "Cabinet.__eq__" cEq (He.fAd K ("Cabinet", some "__eq__")) e61 := fun_of_D D61
  have b61 := F61.binds (ps := ["self", "other"]) fun _ _ _ _ _ _ us hl => match us, hl with | [_, _], _ => rfl
  have hT : Tx K mg _ _ _ _ _ _ _ _ _ _ _ _ _ _ _ _ _ _ _ _ _ _ _ _ _ _ _ _ _ _ _ _ _ _ _ _ _ _ _ _ _ _ _ _ _ _ _ _ _ _ _ _ _ _ _ _ := { N := F0, bN := b0, gN := (He.glo_ok X G (c.d.fact 0 (f := .glo "is_number") rfl)), U := F1, bU := b1, gU := (He.glo_ok X G (c.d.fact 1 (f := .glo "is_number_up_to") rfl)), V := F2, bV := b2, gV := (He.glo_ok X G (c.d.fact 2 (f := .glo "is_positive_up_to") rfl)), Tu := F3, bTu := b3, gTu := (He.glo_ok X G (c.d.fact 3 (f := .glo "is_tuple_of") rfl)), A := F4, bA := b4, gA := (He.glo_ok X G (c.d.fact 4 (f := .glo "are_numbers") rfl)), Er := F5, bEr := b5, gEr := (He.glo_ok X G (c.d.fact 5 (f := .glo "stock_error") rfl)), O := F6, bO := b6, gO := (He.glo_ok X G (c.d.fact 6 (f := .glo "totals_of") rfl)), Sz := F7, bSz := b7, gSz := (He.glo_ok X G (c.d.fact 7 (f := .glo "sizes_of") rfl)), Wm := F8, bWm := b8, gWm := (He.glo_ok X G (c.d.fact 8 (f := .glo "with_more") rfl)), Wi := F9, bWi := b9, gWi := (He.glo_ok X G (c.d.fact 9 (f := .glo "with_item") rfl)), Cs := F10, bCs := b10, gCs := (He.glo_ok X G (c.d.fact 10 (f := .glo "are_collections") rfl)), Cn := F11, bCn := b11, gCn := (He.glo_ok X G (c.d.fact 11 (f := .glo "is_collection") rfl)), Fu := F12, bFu := b12, gFu := (He.glo_ok X G (c.d.fact 12 (f := .glo "fulfilled_by") rfl)), Co := F13, bCo := b13, gCo := (He.glo_ok X G (c.d.fact 13 (f := .glo "contain") rfl)), Sp := F14, bSp := b14, gSp := (He.glo_ok X G (c.d.fact 14 (f := .glo "spoilings_of") rfl)), Ca := F15, bCa := b15, gCa := (He.glo_ok X G (c.d.fact 15 (f := .glo "caps_of") rfl)), R := F16, bR := b16, gR := (He.glo_ok X G (c.d.fact 16 (f := .glo "room_of") rfl)), St := F17, bSt := b17, gSt := (He.glo_ok X G (c.d.fact 17 (f := .glo "sure_total") rfl)), Au := F18, bAu := b18, gAu := (He.glo_ok X G (c.d.fact 18 (f := .glo "are_numbers_up_to") rfl)), Ip := F19, bIp := b19, gIp := (He.glo_ok X G (c.d.fact 19 (f := .glo "is_plan") rfl)), I := F20, bI := b20, gI := (He.glo_ok X G (c.d.fact 20 (f := .glo "room_in") rfl)), Fc := F21, bFc := b21, gFc := (He.glo_ok X G (c.d.fact 21 (f := .glo "find_certificate") rfl)), Lo := F22, bLo := b22, gLo := (He.glo_ok X G (c.d.fact 22 (f := .glo "loads_of") rfl)), So := F23, bSo := b23, gSo := (He.glo_ok X G (c.d.fact 23 (f := .glo "sets_of_drawers") rfl)), Ov := F24, bOv := b24, gOv := (He.glo_ok X G (c.d.fact 24 (f := .glo "overfull") rfl)), Dw := F25, bDw := b25, gDw := (He.glo_ok X G (c.d.fact 25 (f := .glo "draw_within") rfl)), Sv := F26, bSv := b26, gSv := (He.glo_ok X G (c.d.fact 26 (f := .glo "spare_of") rfl)), Sm := F27, bSm := b27, gSm := (He.glo_ok X G (c.d.fact 27 (f := .glo "is_same_state") rfl)), m_len := He.free_ok X G (c.d.fact 41 (f := .free "len") rfl), m_tuple := He.free_ok X G (c.d.fact 42 (f := .free "tuple") rfl), m_isinstance := He.free_ok X G (c.d.fact 43 (f := .free "isinstance") rfl), m_int := He.free_ok X G (c.d.fact 44 (f := .free "int") rfl), m_bool := He.free_ok X G (c.d.fact 45 (f := .free "bool") rfl), m_all := He.free_ok X G (c.d.fact 46 (f := .free "all") rfl), m_zip := He.free_ok X G (c.d.fact 47 (f := .free "zip") rfl), m_enumerate := He.free_ok X G (c.d.fact 48 (f := .free "enumerate") rfl), m_sum := He.free_ok X G (c.d.fact 49 (f := .free "sum") rfl), m_min := He.free_ok X G (c.d.fact 50 (f := .free "min") rfl), m_max := He.free_ok X G (c.d.fact 51 (f := .free "max") rfl), m_range := He.free_ok X G (c.d.fact 52 (f := .free "range") rfl), m_list := He.free_ok X G (c.d.fact 53 (f := .free "list") rfl), mD := He.int_ok X G (c.d.fact 57 (f := .int "MAX_DRAWERS" 4) rfl), mK := He.int_ok X G (c.d.fact 58 (f := .int "MAX_KINDS" 4) rfl), mC := He.int_ok X G (c.d.fact 59 (f := .int "MAX_COUNT" 50) rfl), mX := He.int_ok X G (c.d.fact 60 (f := .int "MAX_COLLECTIONS" 4) rfl) }
  have hL : LX K mg _ _ _ _ _ _ _ _ _ _ _ _ _ _ _ _ _ _ _ _ := { Dk := F28, bDk := b28, gDk := (He.glo_ok X G (c.d.fact 28 (f := .glo "_law_deck") rfl)), D := F29, bD := b29, gD := (He.glo_ok X G (c.d.fact 29 (f := .glo "_law_draw") rfl)), S := F30, bS := b30, gS := (He.glo_ok X G (c.d.fact 30 (f := .glo "_law_stock") rfl)), C := F31, bC := b31, gC := (He.glo_ok X G (c.d.fact 31 (f := .glo "_law_collection") rfl)), W := F32, bW := b32, gW := (He.glo_ok X G (c.d.fact 32 (f := .glo "_law_wish") rfl)), Af := F33, bAf := b33, gAf := (He.glo_ok X G (c.d.fact 33 (f := .glo "_law_after") rfl)), Ed := F34, bEd := b34, gEd := (He.glo_ok X G (c.d.fact 34 (f := .glo "_law_edit") rfl)), O := F35, bO := b35, gO := (He.glo_ok X G (c.d.fact 35 (f := .glo "_law_do") rfl)), Pl := F36, bPl := b36, gPl := (He.glo_ok X G (c.d.fact 36 (f := .glo "_law_plan") rfl)), Sh := F37, bSh := b37, gSh := (He.glo_ok X G (c.d.fact 37 (f := .glo "_law_shown") rfl)), m_abs := He.free_ok X G (c.d.fact 54 (f := .free "abs") rfl), m_len := He.free_ok X G (c.d.fact 41 (f := .free "len") rfl), m_min := He.free_ok X G (c.d.fact 50 (f := .free "min") rfl), m_max := He.free_ok X G (c.d.fact 51 (f := .free "max") rfl), m_range := He.free_ok X G (c.d.fact 52 (f := .free "range") rfl), m_tuple := He.free_ok X G (c.d.fact 42 (f := .free "tuple") rfl), m_sum := He.free_ok X G (c.d.fact 49 (f := .free "sum") rfl), m_zip := He.free_ok X G (c.d.fact 47 (f := .free "zip") rfl), m_repr := He.free_ok X G (c.d.fact 55 (f := .free "repr") rfl), m_str := He.free_ok X G (c.d.fact 56 (f := .free "str") rfl), m_int := He.free_ok X G (c.d.fact 44 (f := .free "int") rfl) }
  have hX : CT K mg _ _ _ _ _ _ _ _ _ _ _ _ _ _ _ _ _ _ _ _ _ _ _ _ _ _ _ _ _ _ _ _ _ _ _ _ _ _ _ := { cl := He.cls_ok (c.d.fact 63 (f := .cls "Cabinet") rfl), gC := (He.glo_ok X G (c.d.fact 62 (f := .glo "Cabinet") rfl)), con := He.conB_ok (v := .int 60) (HK.all_at (l := HT.exl K) c.more 0 rfl), mkC := He.mkr_ok (c.d.fact 89 (f := .mkr "Cabinet") rfl), aS := He.noat_ok (c.d.fact 64 (f := .noat "Cabinet" "stock") rfl), aC := He.noat_ok (c.d.fact 65 (f := .noat "Cabinet" "collections") rfl), aU := He.noat_ok (c.d.fact 66 (f := .noat "Cabinet" "sure") rfl), aP := He.noat_ok (c.d.fact 67 (f := .noat "Cabinet" "past") rfl), aW := He.noat_ok (c.d.fact 68 (f := .noat "Cabinet" "watched") rfl), FIn := F41, BIn := b41, FPu := F42, BPu := b42, MPu := He.meth_ok (c.d.fact 69 (f := .meth "Cabinet" "put") rfl), FRe := F43, BRe := b43, MRe := He.meth_ok (c.d.fact 70 (f := .meth "Cabinet" "remove") rfl), FWi := F44, BWi := b44, MWi := He.meth_ok (c.d.fact 71 (f := .meth "Cabinet" "wish") rfl), FDr := F45, BDr := b45, MDr := He.meth_ok (c.d.fact 72 (f := .meth "Cabinet" "drop") rfl), FId := F46, BId := b46, MId := He.meth_ok (c.d.fact 73 (f := .meth "Cabinet" "check_idle") rfl), FEd := F47, BEd := b47, MEd := He.meth_ok (c.d.fact 74 (f := .meth "Cabinet" "check_edit") rfl), FTh := F48, BTh := b48, MTh := He.meth_ok (c.d.fact 75 (f := .meth "Cabinet" "check_things") rfl), FSu := F49, BSu := b49, MSu := He.meth_ok (c.d.fact 76 (f := .meth "Cabinet" "check_sure") rfl), FCh := F50, BCh := b50, MCh := He.meth_ok (c.d.fact 77 (f := .meth "Cabinet" "change") rfl), FSt := F51, BSt := b51, MSt := He.meth_ok (c.d.fact 78 (f := .meth "Cabinet" "state") rfl), FEs := F52, BEs := b52, MEs := He.meth_ok (c.d.fact 79 (f := .meth "Cabinet" "edits") rfl), FLn := F53, BLn := b53, MLn := He.meth_ok (c.d.fact 80 (f := .meth "Cabinet" "__len__") rfl), FSr := F54, BSr := b54, MSr := He.meth_ok (c.d.fact 81 (f := .meth "Cabinet" "__str__") rfl), FUn := F55, BUn := b55, MUn := He.meth_ok (c.d.fact 82 (f := .meth "Cabinet" "undo") rfl), FAt := F56, BAt := b56, MAt := He.meth_ok (c.d.fact 83 (f := .meth "Cabinet" "attempt") rfl), FDb := F57, BDb := b57, MDb := He.meth_ok (c.d.fact 84 (f := .meth "Cabinet" "do_batch") rfl), FDe := F58, BDe := b58, MDe := He.meth_ok (c.d.fact 85 (f := .meth "Cabinet" "do_edit") rfl), FCf := F59, BCf := b59, MCf := He.meth_ok (c.d.fact 86 (f := .meth "Cabinet" "certificate") rfl) }
  have hY : AX K w mg _ _ _ _ _ := { Ba := F38, bBa := b38, gBa := (He.glo_ok X G (c.d.fact 38 (f := .glo "batch_of") rfl)), Is := F39, bIs := b39, gIs := (He.glo_ok X G (c.d.fact 39 (f := .glo "is_edit") rfl)), vt := vt_of X G (c.d.fact 90 (f := .glo "VALUES_OF_EDITS") rfl) (c.at_ 0) (HK.all_at (l := HT.exl K) c.more 1 rfl), mB := He.int_ok X G (c.d.fact 61 (f := .int "BATCH" 20) rfl), m_isinstance := He.free_ok X G (c.d.fact 43 (f := .free "isinstance") rfl), m_tuple := He.free_ok X G (c.d.fact 42 (f := .free "tuple") rfl), m_list := He.free_ok X G (c.d.fact 53 (f := .free "list") rfl), m_str := He.free_ok X G (c.d.fact 56 (f := .free "str") rfl), m_len := He.free_ok X G (c.d.fact 41 (f := .free "len") rfl), m_enumerate := He.free_ok X G (c.d.fact 48 (f := .free "enumerate") rfl) }
  obtain ⟨_, kb51⟩ := FunD.kbinds0 (ps := ["self", "version"]) D51 1 ["version"] [] (fun us _ ws => us ++ ws) (by intro z; cases z) (by intro q hq; cases hq) (fun r1 _ r2 => r1.append r2) fun D doc pm an cdv ct us mv ws h1 h2 h3 => by
    match us, mv, ws, h1, h2, h3 with
    | [u], [], [k], _, _, _ => exact rfl
  obtain ⟨_, kb59⟩ := FunD.kbinds0 (ps := ["self", "plan", "version"]) D59 2 ["version"] [] (fun us _ ws => us ++ ws) (by intro z; cases z) (by intro q hq; cases hq) (fun r1 _ r2 => r1.append r2) fun D doc pm an cdv ct us mv ws h1 h2 h3 => by
    match us, mv, ws, h1, h2, h3 with
    | [u, v], [], [k], _, _, _ => exact rfl
  have hZ : KT K _ _ := { kSt := kb51, kCf := kb59 }
  have hW : WE K mg _ _ _ _ _ _ := { FWk := F60, BWk := b60, MWk := He.meth_ok (c.d.fact 87 (f := .meth "Cabinet" "walk") rfl), FEq := F61, BEq := b61, MEq := He.meth_ok (c.d.fact 88 (f := .meth "Cabinet" "__eq__") rfl), gH := (He.glo_ok X G (c.d.fact 91 (f := .glo "HandCabinet") rfl)), kC := of_decide_eq_true (HK.all_at (l := HT.exl K) c.more 2 rfl), kH := of_decide_eq_true (HK.all_at (l := HT.exl K) c.more 3 rfl), isC := tycB_ok (HK.all_at (l := HT.exl K) c.more 4 rfl), m_isinstance := He.free_ok X G (c.d.fact 43 (f := .free "isinstance") rfl) }
  have e := hfa.symm.trans (He.glo_ok X G (c.d.fact 40 (f := .glo "law") rfl))
  cases e
  have bl := FunD.bindsA (ps := ["_law_script"]) D40 fun _ _ _ _ _ _ us hl => match us, hl with | [_], _ => rfl
  exact ⟨e40, fun s v => bl s [v] rfl, fun base _ _ => ok_law F40 hL hX hT hY hZ hW⟩
end HT
open PySem PySem.W PySem.Calls PyProof.Rows
set_option maxHeartbeats 0 in
theorem PySem.Challenge.cw_darkdrawers_k49_whole_histories_and_new_holds : PySem.Challenge.rw_darkdrawers_k49_whole_histories_and_new.Holds := by
  w_on; o_law
  refine HandSHeadRun.head_any (r := OpenLaw.row PySem.Challenge.rw_darkdrawers_k49_whole_histories_and_new) (q := view (OpenLaw.row PySem.Challenge.rw_darkdrawers_k49_whole_histories_and_new).prog [90]) (H := HT.hk) (ob := HT.ob) (M := 9000) (loose := HT.names) (d := HandSHeadRun.topDef (OpenLaw.row PySem.Challenge.rw_darkdrawers_k49_whole_histories_and_new).prog 90) (kwd := []) HT.ob_eq
    (by kernel_rfl) (fun s => by kernel_rfl) HT.run (by kernel_rfl) (by kernel_rfl) (by kernel_rfl) (by rfl) (by first | assumption | decide +kernel) (by decide +kernel) ⟨rfl, rfl, rfl, rfl, rfl, by decide +kernel⟩ ?hw ?hc
  case hw => w_witness2
  case hc =>
    refine DD.walk_ofGE (l := PySem.Challenge.rw_darkdrawers_k49_whole_histories_and_new) (n := 63) (k := 11) (x := "_law_script") (sp := fun K => DD.spLaw K) rfl (by decide) (by kernel_rfl) ⟨rfl, by decide, by decide⟩ ?F (fun _ _ a ns hl _ hS => ⟨a, ns, rfl, hS, hl, fun _ => rfl⟩)
    intro w mg fa h Y G hmg0
    obtain ⟨K, KX, c⟩ := Y
    have hmg : mg ("law" : PySem.Str) = some (.ref fa) := by
      have e : (HandSHeadRun.topDef (OpenLaw.row PySem.Challenge.rw_darkdrawers_k49_whole_histories_and_new).prog 90).name = ("law" : PySem.Str) := by kernel_rfl
      rw [← e]
      exact hmg0
    obtain ⟨fd, hb, hF⟩ := HT.facts (P := (PySem.Challenge.rw_darkdrawers_k49_whole_histories_and_new).prog) (w := w) KX G hmg c
    exact ⟨K, fd, KX, hb, hF⟩
