import PyProof.Rows.All
import Wide.All
import OpenK.AllK
import Wide.FinOn
import HandS.ForMost
import KE.KExcInit
import KE.KExcIs
import HandS.ExcField
import HandS.Head0
import HandS.Head1
import HandS.Head2
import HandS.HeadEnd
import HandS.HeadHook1
import HandS.HeadHook2
import HandS.HeadHook3
import HandS.HeadHook4
import KE.KTryMore
import KE.KStateDown
import HandS.Base
import HandS.Call
import HandS.List
import HandS.Comp
import HandS.Ends
import HandS.Words
import HandS.Star
import PyProof.Rows.RegFStrParts
import HandS.Zip
import KE.GoesEnum
import KE.KTupSum
import HandS.Walk
import HandS.TryMany
import HandS.ForExc
import HandS.Codes
import HandS.Style
import HandS.TupAny
import HandS.TupMul
import HandS.Conv
import HandS.Deep
import HandS.IsInst
import HandS.More
import HandS.ExcInit
import HandS.ExcIs
import KE.KCallOwn
import HandS.FStr
import HandS.Defaults
import HandS.MethStar
import KE.GoesEnumKw
import PyProof.AssignAttr
import HandS.MakeKwOnly
import HandS.Finally
import HandS.ExcOwn
import HandS.Exc
import PyProof.ExcBaseAll.LookupError
import PyProof.ExcBaseAll.ValueError
import HandS.NoneIn
import HandS.OwnEq
import HandS.TupLen
import HandS.WrittenGet
import OpenK.KEqL
import PySem.Challenge.RW_darkdrawers_k29_heaps_made
set_option Elab.async false
set_option linter.all false
set_option maxRecDepth 100000
namespace DD
open PySem PySem.Spec PyProof.Rows L2
def topS (i : Nat) : Stmt := PySem.Challenge.pw_darkdrawers_k29_heaps_made.main.body.getD i (.Pass ⟨0, 0, 0, 0⟩)
abbrev sIsNum : Stmt := topS 3
abbrev sUpTo : Stmt := topS 4
abbrev sTupOf : Stmt := topS 5
abbrev sNums : Stmt := topS 6
abbrev sDraws : Stmt := topS 25
abbrev sNext : Stmt := topS 26
abbrev sCounts : Stmt := topS 27
abbrev sOdd : Stmt := topS 28
abbrev sIsC : Stmt := topS 29
abbrev sMade : Stmt := topS 30
abbrev sLNum : Stmt := topS 31
abbrev sBent : Stmt := topS 32
abbrev sLaw : Stmt := topS 33
abbrev cBC : Stmt := topS 9
abbrev cNK : Stmt := topS 15
abbrev cHeap : Stmt := topS 22
abbrev sIBC : Stmt := inClass cBC 0
abbrev sINK : Stmt := inClass cNK 0
abbrev hInit : Stmt := inClass cHeap 0
abbrev hGet : Stmt := inClass cHeap 1
abbrev hLen : Stmt := inClass cHeap 7
end DD
namespace HK
open PySem PySem.Spec PyProof.Rows L2
/-- what the written objects at the addresses as say: the facts fa, the defs fn, more by ex -/
def obsA (as : List Addr) (fa : List He.Fa) (fn : List He.DefD) (ex : PySem.W.Frag → Bool) (g : Addr → Option Obj) : He.AlD × Bool := (He.obsD fa fn (He.frG g as), ex (He.frG g as))
structure SaysA (fa : List He.Fa) (fn : List He.DefD) (ex : PySem.W.Frag → Bool) (K : PySem.W.Frag) : Prop where
  d : He.SaysD fa fn K
  more : ex K = true
def hookA (as : List Addr) (fa : List He.Fa) (fn : List He.DefD) (ex : PySem.W.Frag → Bool) : PySem.W.Hook where
  α := He.AlD × Bool
  obs := fun s => obsA as fa fn ex s.heap.get?
  val := fun _ => (He.valD fn, true)
  says := fun _ h => ∃ K : PySem.W.Frag, K.In h ∧ SaysA fa fn ex K
  of := fun _ _ e => ⟨_, He.frG_in, ⟨congrArg Prod.fst e, congrArg Prod.snd e⟩⟩
  keeps := fun _ _ _ ⟨K, hK, c⟩ k => ⟨K, PySem.W.Frag.In.keeps hK k, c⟩
theorem obsA_eq {as : List Addr} {fa : List He.Fa} {fn : List He.DefD} {ex : PySem.W.Frag → Bool} {g : Addr → Option Obj} {s : Shared} (h : ∀ a, g a = s.heap.get? a) : obsA as fa fn ex g = (hookA as fa fn ex).obs s := by
  have e : g = s.heap.get? := funext h
  rw [e] <;> rfl
/-- the same with tables of the top -/
def obsB (as : List Addr) (fa : List He.Fa) (fn : List He.DefD) (ex : PySem.W.Frag → Bool) (ts : List He.Tab) (g : Addr → Option Obj) : (He.AlD × Bool) × List (Option (List (Option (Str × Int)))) := ((He.obsD fa fn (He.frG g as), ex (He.frG g as)), ts.map fun t => He.dicW (He.frG g as) (t.1 (He.frG g as)))
structure SaysB (fa : List He.Fa) (fn : List He.DefD) (ex : PySem.W.Frag → Bool) (ts : List He.Tab) (w : World) (K : PySem.W.Frag) : Prop where
  d : He.SaysD fa fn K
  more : ex K = true
  tab : (ts.map fun t => He.dicW K (t.1 K)) = ts.map fun t => some (He.keysIn w.params t.2)
theorem SaysB.at_ {fa : List He.Fa} {fn : List He.DefD} {ex : PySem.W.Frag → Bool} {ts : List He.Tab} {w : World} {K : PySem.W.Frag} (c : SaysB fa fn ex ts w K) (i : Nat) {t : He.Tab} (h : ts[i]? = some t := by rfl) : He.dicW K (t.1 K) = some (He.keysIn w.params t.2) := by
  have e := congrArg (fun l => l[i]?) c.tab
  simp only [List.getElem?_map, h, Option.map_some] at e
  exact Option.some.inj e
def hookB (as : List Addr) (fa : List He.Fa) (fn : List He.DefD) (ex : PySem.W.Frag → Bool) (ts : List He.Tab) : PySem.W.Hook where
  α := (He.AlD × Bool) × List (Option (List (Option (Str × Int))))
  obs := fun s => obsB as fa fn ex ts s.heap.get?
  val := fun w => ((He.valD fn, true), ts.map fun t => some (He.keysIn w.params t.2))
  says := fun w h => ∃ K : PySem.W.Frag, K.In h ∧ SaysB fa fn ex ts w K
  of := fun w s e => by
    have e' : obsB as fa fn ex ts s.heap.get? = ((He.valD fn, true), ts.map fun t => some (He.keysIn w.params t.2)) := e
    have e1 := congrArg Prod.fst e'
    exact ⟨_, He.frG_in, ⟨congrArg Prod.fst e1, congrArg Prod.snd e1, congrArg Prod.snd e'⟩⟩
  keeps := fun _ _ _ ⟨K, hK, c⟩ k => ⟨K, PySem.W.Frag.In.keeps hK k, c⟩
theorem obsB_eq {as : List Addr} {fa : List He.Fa} {fn : List He.DefD} {ex : PySem.W.Frag → Bool} {ts : List He.Tab} {g : Addr → Option Obj} {s : Shared} (h : ∀ a, g a = s.heap.get? a) : obsB as fa fn ex ts g = (hookB as fa fn ex ts).obs s := by
  have e : g = s.heap.get? := funext h
  rw [e] <;> rfl
/-- one of many facts -/
theorem all_at {l : List Bool} (h : l.all id = true) (i : Nat) {b : Bool} (e : l[i]? = some b) : b = true := List.all_eq_true.mp h b (List.mem_of_getElem? e)
def oexlB (K : PySem.W.Frag) (C : Addr) : Bool := (PySem.W.excInitIn K C [.type "LookupError", .type "Exception", .type "BaseException", .type "object"] "LookupError.__new__" && PySem.W.excOver K C [.type "LookupError", .type "Exception", .type "BaseException", .type "object"]) &&
  ((PySem.W.hasDictIn K C && decide (PySem.W.findIn K (.ref C) "__setattr__" = some (some (.builtin "object.__setattr__")))) && ((decide (PySem.W.subIn K (.ref C) (.type "BaseException") = some true) && decide (PySem.W.typeIn K (.ref C) = some (.type "type"))) && PySem.W.keepIn K (.ref C)))
def oexvB (K : PySem.W.Frag) (C : Addr) : Bool := (PySem.W.excInitIn K C [.type "ValueError", .type "Exception", .type "BaseException", .type "object"] "ValueError.__new__" && PySem.W.excOver K C [.type "ValueError", .type "Exception", .type "BaseException", .type "object"]) &&
  ((PySem.W.hasDictIn K C && decide (PySem.W.findIn K (.ref C) "__setattr__" = some (some (.builtin "object.__setattr__")))) && ((decide (PySem.W.subIn K (.ref C) (.type "BaseException") = some true) && decide (PySem.W.typeIn K (.ref C) = some (.type "type"))) && PySem.W.keepIn K (.ref C)))
def istxB (K : PySem.W.Frag) (D : Addr) : Bool := ((PySem.W.clsIn K D).isSome && decide (PySem.W.findIn K (.ref D) "__getattribute__" = some (some (.builtin "BaseException.__getattribute__")))) && ((decide (PySem.W.findIn K (.ref D) "__getattr__" = some none) && decide (PySem.W.subIn K (.ref D) (.type "BaseException") = some true)) &&
  ((decide (PySem.W.findIn K (.ref D) "__class__" = some (some (.builtin "object.__class__"))) && decide (PySem.W.specialIn K (.builtin "object.__class__") "__get__" = some (some (.builtin "getset_descriptor.__get__")))) && (decide (PySem.W.takesIn K (.builtin "object.__class__") = some true) && decide (PySem.W.mroIn K D (.type "object") = some true))))
def initB (K : PySem.W.Frag) (C : Addr) (fld : Str) : Bool := decide (PySem.W.findIn K (.ref C) "__init__" = some (some (.ref (He.ma K C "__init__")))) && (decide (PySem.W.typeIn K (.ref (He.ma K C "__init__")) = some (.type "function")) && decide (PySem.W.findIn K (.ref C) fld = some none))
end HK
namespace DD
open PySem PySem.Spec PyProof.Rows L2
/-- what k29 asks of its errors -/
def heapB (K : PySem.W.Frag) (CB CN CA C1 C2 C3 C4 C5 C6 C7 C8 : Addr) : Bool :=
  HK.istxB K CB && (HK.istxB K CN && (xfB K CB && (xfB K CN && (decide (PySem.W.exmOne K (.ref CB) (.ref CA) = some true) && (decide (PySem.W.exmOne K (.ref CN) (.ref CN) = some true) && (decide (PySem.W.kitAny K (.ref CB) [.ref C1, .ref C2, .ref C3, .ref C4, .ref C5, .type "LookupError"] = some false) &&
    (decide (PySem.W.kitOne K (.ref CB) (.ref CB) = some true) && (decide (PySem.W.kitAny K (.ref CN) [.ref CA, .ref C6, .ref C7, .ref C8] = some false) && decide (PySem.W.kitOne K (.ref CN) (.type "LookupError") = some true)))))))))
end DD
namespace HT
open PySem PySem.Spec PyProof.Rows L2 DD
def q0 : He.DefD := ⟨("is_number", none), "is_number", "is_number", defArgs sIsNum, defBody sIsNum, defScope sIsNum, [], []⟩
def q1 : He.DefD := ⟨("is_number_up_to", none), "is_number_up_to", "is_number_up_to", defArgs sUpTo, defBody sUpTo, defScope sUpTo, [], []⟩
def q2 : He.DefD := ⟨("is_tuple_of", none), "is_tuple_of", "is_tuple_of", defArgs sTupOf, defBody sTupOf, defScope sTupOf, [], []⟩
def q3 : He.DefD := ⟨("are_numbers", none), "are_numbers", "are_numbers", defArgs sNums, defBody sNums, defScope sNums, [], []⟩
def q4 : He.DefD := ⟨("_law_draws", none), "_law_draws", "_law_draws", defArgs sDraws, defBody sDraws, defScope sDraws, [], []⟩
def q5 : He.DefD := ⟨("_law_next", none), "_law_next", "_law_next", defArgs sNext, defBody sNext, defScope sNext, [], []⟩
def q6 : He.DefD := ⟨("_law_counts", none), "_law_counts", "_law_counts", defArgs sCounts, defBody sCounts, defScope sCounts, [], []⟩
def q7 : He.DefD := ⟨("_law_odd", none), "_law_odd", "_law_odd", defArgs sOdd, defBody sOdd, defScope sOdd, [], []⟩
def q8 : He.DefD := ⟨("_law_is_counts", none), "_law_is_counts", "_law_is_counts", defArgs sIsC, defBody sIsC, defScope sIsC, [], []⟩
def q9 : He.DefD := ⟨("_law_made", none), "_law_made", "_law_made", defArgs sMade, defBody sMade, defScope sMade, [], []⟩
def q10 : He.DefD := ⟨("_law_number", none), "_law_number", "_law_number", defArgs sLNum, defBody sLNum, defScope sLNum, [], []⟩
def q11 : He.DefD := ⟨("_law_bent", none), "_law_bent", "_law_bent", defArgs sBent, defBody sBent, defScope sBent, [], []⟩
def q12 : He.DefD := ⟨("law", none), "law", "law", defArgs sLaw, defBody sLaw, defScope sLaw, [], []⟩
def q13 : He.DefD := ⟨("Heap", some "__init__"), "__init__", "Heap.__init__", defArgs hInit, defBody hInit, defScope hInit, [], []⟩
def q14 : He.DefD := ⟨("Heap", some "__getitem__"), "__getitem__", "Heap.__getitem__", defArgs hGet, defBody hGet, defScope hGet, [], []⟩
def q15 : He.DefD := ⟨("Heap", some "__len__"), "__len__", "Heap.__len__", defArgs hLen, defBody hLen, defScope hLen, [], []⟩
def q16 : He.DefD := ⟨("BadCounts", some "__init__"), "__init__", "BadCounts.__init__", defArgs sIBC, defBody sIBC, defScope sIBC, [], []⟩
def q17 : He.DefD := ⟨("NoKind", some "__init__"), "__init__", "NoKind.__init__", defArgs sINK, defBody sINK, defScope sINK, [], []⟩
def fn0 : List He.DefD := [q0, q1, q2, q3, q4, q5, q6, q7, q8, q9, q10, q11, q12, q13, q14, q15, q16, q17]
def fn : List He.DefD := fn0
def fa0 : List He.Fa := [.glo "is_number", .glo "is_number_up_to", .glo "is_tuple_of", .glo "are_numbers", .glo "_law_draws", .glo "_law_next", .glo "_law_counts", .glo "_law_odd", .glo "_law_is_counts", .glo "_law_made", .glo "_law_number", .glo "_law_bent", .glo "law", .free "isinstance", .free "int", .free "bool", .free "tuple", .free "list", .free "len", .free "abs"]
def fa1 : List He.Fa := [.free "range", .free "repr", .free "all", .free "LookupError", .int "LIMIT" 1000000, .int "MAX_KINDS" 4, .glo "Heap", .cls "Heap", .noat "Heap" "counts", .meth "Heap" "__getitem__", .meth "Heap" "__len__", .mkr "Heap", .glo "BadCounts", .glo "NoKind", .glo "DrawerError", .glo "BadHeap", .glo "BadKinds", .glo "OtherKinds", .glo "TooFew", .glo "TooMuch"]
def fa2 : List He.Fa := [.glo "NoCollection", .glo "NoDrawer", .glo "NoVersion"]
def fa : List He.Fa := fa0 ++ fa1 ++ fa2
def exl (K : PySem.W.Frag) : List Bool := [HK.oexvB K (He.ga K "BadCounts"), HK.initB K (He.ga K "BadCounts") "value", HK.oexlB K (He.ga K "NoKind"), HK.initB K (He.ga K "NoKind") "value", heapB K (He.ga K "BadCounts") (He.ga K "NoKind") (He.ga K "DrawerError") (He.ga K "BadHeap") (He.ga K "BadKinds") (He.ga K "OtherKinds") (He.ga K "TooFew") (He.ga K "TooMuch") (He.ga K "NoCollection") (He.ga K "NoDrawer") (He.ga K "NoVersion"), PySem.W.fnIn K (He.fAd K ("Heap", some "__getitem__"))]
def ex (K : PySem.W.Frag) : Bool := (exl K).all id
abbrev R : PySem.W.OpenRow := PySem.W.OpenLaw.row PySem.Challenge.rw_darkdrawers_k29_heaps_made
def asK0 : List Addr := [0, 3, 4, 6, 15, 16, 17, 18, 19, 20, 21, 22, 23, 24, 25, 26, 27, 28, 29, 30, 31, 32, 33, 34, 35, 36, 37, 38, 39, 40]
def asK1 : List Addr := [48, 49, 50, 51, 66, 67, 68, 69, 70, 80, 81, 82, 97, 98, 99, 100, 101, 116, 117, 118, 119, 120, 135, 136, 137, 138, 139, 154, 155, 156]
def asK2 : List Addr := [157, 158, 173, 174, 175, 176, 177, 178, 193, 194, 195, 196, 197, 198, 213, 214, 215, 216, 217, 218, 233, 234, 235, 236, 237, 238, 241, 242, 243, 244]
def asK3 : List Addr := [245, 258, 259, 265, 266, 272, 273, 277, 278, 282, 283, 289, 290, 296, 297, 303, 304, 308, 309, 315, 316, 317, 318, 319, 320, 321, 324, 325, 326, 327]
def asK4 : List Addr := [328, 329, 330, 331, 332, 333, 334, 335, 336, 337, 338, 339, 340, 341, 342, 343, 344, 345, 346, 347, 348, 349, 350, 351, 352, 353, 354, 355, 356, 357]
def asK5 : List Addr := [358, 359, 360, 361, 362, 363, 364, 365, 366, 367, 368, 369, 370, 371, 372, 373, 374, 375, 376, 377, 378, 379, 380, 381, 382, 383, 384, 385, 386, 387]
def asK : List Addr := asK0 ++ asK1 ++ asK2 ++ asK3 ++ asK4 ++ asK5
abbrev hk : PySem.W.Hook := HK.hookA asK fa fn ex
def ob (s : PySem.W.SharedT) : He.AlD × Bool := HK.obsA asK fa fn ex (HandSHeadRun.getT s)
theorem ob_eq (s : PySem.W.SharedT) : ob s = hk.obs s.abs := HK.obsA_eq (HandSHeadRun.getT_eq s)
def names0 : List Str := ["LIMIT", "MAX_KINDS", "is_number", "is_number_up_to", "is_tuple_of", "are_numbers", "DrawerError", "BadCounts", "OtherKinds", "TooMuch", "TooFew", "BadKinds", "BadHeap", "NoKind", "NoDrawer", "NoCollection", "NoVersion", "contain", "Heap", "is_heap_of", "_law_draws", "_law_next", "_law_counts", "_law_odd", "_law_is_counts", "_law_made", "_law_number", "_law_bent"]
def names : List Str := names0
set_option maxHeartbeats 0 in
theorem run (w : World) : HandSHeadRun.RunEq R (PySem.W.view R.prog [33]) hk ob 9000 names w := by
  intro os
  kernel_rfl
end HT
namespace DD
open PySem PySem.Spec PyProof.Rows L2

/-! ### a def's promise where no repr is under way (A.guards = some []) -/
structure FnG (P : Program) (w : World) (K : PySem.W.Frag) (mg : Str → Option Value) (base : Heap) (k : Nat) (f : Addr)
    (fd : FuncData) (ps : List Str) (sp : Sp) : Prop where
  arity : ∀ vs H Q E, sp vs H Q E → vs.length = ps.length
  go : ∀ (A : Around), A.guards = some [] → Room k A → ∀ (outer : List Env) (s : Shared) (H : Hp) (args : Args) (us : List Value)
    (vs : List V) (Q : VK) (E : XK), Env0 P w K mg base A outer s H → BindsTo s fd args (ps.zip us) → Vals vs us → sp vs H Q E →
    codeAny (model P w) A (.call (.ref f) args) (CR CX0 outer P w H s Q E) s

section
variable {P : Program} {w : World} {K : PySem.W.Frag} {mg : Str → Option Value} {base : Heap} {k : Nat} {f : Addr} {fd : FuncData}
  {ps : List Str} {sp : Sp}
theorem FnG.up {j : Nat} (F : FnG P w K mg base j f fd ps sp) (h : j ≤ k) : FnG P w K mg base k f fd ps sp :=
  ⟨F.arity, fun A hg hr => F.go A hg (hr.mono h)⟩

theorem fnG_of {x qual : Str} {st : Stmt} {N : List Str} (F : Fun K x qual st f fd) (S : FnScope N ps (defScope st))
    (ar : ∀ vs H Q E, sp vs H Q E → vs.length = ps.length)
    (bd : ∀ (cdv : Value) (A : Around), A.guards = some [] → ∀ (outer : List Env) (s : Shared) (H : Hp) (vs : List V) (Q : VK) (E : XK),
      Room k (A.deeper (envOfC qual (defScope st) s.heap.objs.size f cdv)) → sp vs H Q E →
      ∃ t, PSs (cxOf CX0 P w K mg base N qual (defScope st) f cdv A outer s H E).nox (defBody st) t ∧
        t { nx := fun _ H' => Q .non H', rt := Q } (start N vs) H) : FnG P w K mg base (k + 1) f fd ps sp := by
  obtain ⟨oc, od, kV, doc, pm, an, cdv, ct, osl, rfl, lk, hcd⟩ := F.ex
  refine ⟨ar, fun A hgu hr outer s H args us vs Q E e0 hb rv hsp => ?_⟩
  have nl := ar _ _ _ _ hsp
  have kin : K.In s.heap := e0.mod.kin.keeps fun b o e => (e0.bs b o e).1
  have nolim : s.heap.NoLimit := e0.mod.nolimit.keeps fun b o e => (e0.bs b o e).1
  have kinds : ∀ y ∈ ps.zip us, (defScope st).names.lookup y.1 = some .local ∨ ((defScope st).names.lookup y.1 = some .cell ∧
      ((cellsFrom (s.heap.objs.size + 1) (defScope st).names []).lookup y.1).isSome = true) := by
    rintro ⟨n, v⟩ hy
    rcases S.par n (List.of_mem_zip hy).1 with q | q
    · exact .inl q
    · exact .inr ⟨q, PySem.W.cellsFrom_some _ _ _ (.inl q)⟩
  refine codeAny_call_function hr.depth (kin _ _ lk) rfl S.co S.gen rfl (PySem.W.codeRec_of kin hcd) (hb _ _ _ _ ?_)
  refine wpAny_newFunctionEnv_cells S.kind kinds fun env he s1 xx => ?_
  subst he
  refine ⟨nolim.keeps xx.toInCall.keep, codeAny_func ?_⟩
  obtain ⟨t, ht0, hq⟩ := bd cdv A hgu outer s H vs Q E (hr.deeper _) hsp
  have ht := ht0.nox
  have I0 := inv_start (CX := CX0) (E := E) S hr.hd e0 nl rv xx
  refine wpAny_mono (ht.run [] s1 (start N vs) H _ I0 hq) (fun fl s' hs => ?_) fun e s' hs => hs
  cases fl with
  | ret u =>
    obtain ⟨v, σ', H', J, r2, q⟩ := hs
    exact ⟨v, H', J.os, J.bare, J.base, J.hok, r2, q⟩
  | next =>
    obtain ⟨σ', H', J, q⟩ := hs
    exact ⟨V.non, H', J.os, J.bare, J.base, J.hok, rfl, q⟩
  | brk =>
    obtain ⟨_, _, _, q⟩ := hs
    exact q.elim
  | cont =>
    obtain ⟨_, _, _, q⟩ := hs
    exact q.elim
end

section
variable {X : Cx} {k : Nat} {f : Addr} {fd : FuncData} {ps : List Str} {sp : Sp} {x : Str} {p pos : Pos} {e : Expr} {es : List Expr} {t : TA}
theorem pe_callG (F : FnG X.prog X.w X.K X.mg X.base k f fd ps sp) (hgu : X.A.guards = some []) (hr : Room k X.A) (hg : Gl X x)
    (hm : X.mg x = some (.ref f)) (hk : PySem.W.keepIn X.K (.ref f) = true) (hb : Binds X.K fd ps [])
    (ha : PA X (e :: es) t) (hdb : (x == ("__debug__" : Str)) = false := by decide)
    (he : starEach (e :: es) X.env = (false, eval e X.env) :: starEach es X.env := by rfl)
    (hpl : (backTo pos (starEach es X.env)).any (·.1) = false := by rfl) :
    PE X (.Call (.Name x p) (e :: es) [] pos) (tCall sp [] E0 t) := by
  refine ⟨fun pins s σ H Q I h => wpAny_Call_Name_kw (ld_glob I hg hm ?_ hdb)⟩
  refine PySem.W.callWith_K (h₀ := X.base) I.ok.mod.kin hk
    (thn (ha.run pos pins s σ H _ I h) fun us s1 ⟨vs, H1, I1, r, q⟩ => ⟨I1.kIn, ?_⟩) he hpl
  have q : sp (vs ++ []) H1 Q E0 := q
  rw [List.append_nil] at q
  have hl : (us ++ []).length = ps.length := by rw [List.append_nil, ← r.length]; exact F.arity _ _ _ _ q
  have hbb := hb s1 us I1.kIn hl
  rw [List.append_nil] at hbb
  refine wpAny_call (codeAny_mono (F.go X.A hgu hr X.stack s1 H1 ⟨us, []⟩ us vs Q E0 I1.env0 hbb r q) fun r s' hq => ?_)
  cases r with
  | error e => exact hq.elim
  | ok fl =>
    cases fl with
    | ret u => exact I1.after hq
    | next => exact hq.elim
    | brk => exact hq.elim
    | cont => exact hq.elim
end

/-! ### repr of data -/
mutual
theorem dp_nodict {K : PySem.W.Frag} {H : Hp} : ∀ (d : PyData) (v : V), Dp K H v d → d.hasDict = false
  | .none, _, _ => rfl
  | .bool _, _, _ => rfl
  | .int _, _, _ => rfl
  | .str _, _, _ => rfl
  | .list ds, _, h => by
    cases h with
    | lst _ a => exact dps_nodict ds _ a
  | .tuple ds, _, h => by
    cases h with
    | tup _ a => exact dps_nodict ds _ a
  | .dict _, _, h => by cases h
theorem dps_nodict {K : PySem.W.Frag} {H : Hp} : ∀ (ds : List PyData) (vs : List V), DpAll K H vs ds → PyData.hasDictAll ds = false
  | [], _, _ => rfl
  | d :: ds, _, h => by
    cases h with
    | cons a b =>
      show (d.hasDict || PyData.hasDictAll ds) = false
      rw [dp_nodict d _ a, dps_nodict ds _ b]
      rfl
end

/-- data that is small: what repr and == ask of it -/
structure Sm (wt dp : Nat) (d : PyData) : Prop where
  lay : d.canLay0 = true
  short : d.intsShort 13 = true
  show_ : d.showable = true
  wt : d.weight ≤ wt
  dp : d.depth ≤ dp
structure SmA (n wt dp : Nat) (ds : List PyData) : Prop where
  len : ds.length ≤ n
  lay : PyData.canLayAll0 ds = true
  short : PyData.intsShortAll 13 ds = true
  show_ : PyData.showableAll ds = true
  wt : PyData.weightAll ds ≤ ds.length * (wt + 1)
  dp : PyData.depthAll ds ≤ dp
theorem SmA.nil {n wt dp : Nat} : SmA n wt dp [] := ⟨Nat.zero_le _, rfl, rfl, rfl, by simp [PyData.weightAll], Nat.zero_le _⟩
theorem SmA.cons {n wt dp : Nat} {d : PyData} {ds : List PyData} (a : Sm wt dp d) (b : SmA n wt dp ds) : SmA (n + 1) wt dp (d :: ds) where
  len := Nat.succ_le_succ b.len
  lay := by show (d.canLay0 && _) = true; rw [a.lay, b.lay]; rfl
  short := by show (d.intsShort 13 && _) = true; rw [a.short, b.short]; rfl
  show_ := by show (d.showable && _) = true; rw [a.show_, b.show_]; rfl
  wt := by
    have h1 := a.wt
    have h2 := b.wt
    show d.weight + 1 + PyData.weightAll ds ≤ (ds.length + 1) * (wt + 1)
    rw [Nat.succ_mul]
    omega
  dp := Nat.max_le.mpr ⟨a.dp, b.dp⟩
theorem SmA.all {wt dp : Nat} : ∀ {ds : List PyData}, (∀ d ∈ ds, Sm wt dp d) → SmA ds.length wt dp ds
  | [], _ => .nil
  | d :: ds, h => .cons (h d List.mem_cons_self) (SmA.all fun x hx => h x (List.mem_cons_of_mem _ hx))
theorem Sm.up {w1 w2 k1 k2 : Nat} {d : PyData} (a : Sm w1 k1 d) (h : w1 ≤ w2) (hk : k1 ≤ k2) : Sm w2 k2 d :=
  ⟨a.lay, a.short, a.show_, Nat.le_trans a.wt h, Nat.le_trans a.dp hk⟩
theorem SmA.len_le {n wt dp : Nat} {ds : List PyData} (b : SmA n wt dp ds) : PyData.weightAll ds ≤ n * (wt + 1) :=
  Nat.le_trans b.wt (Nat.mul_le_mul_right _ b.len)
theorem SmA.tup {n wt dp : Nat} {ds : List PyData} (b : SmA n wt dp ds) : Sm (n * (wt + 1)) (dp + 1) (.tuple ds) :=
  ⟨b.lay, b.short, b.show_, b.len_le, Nat.succ_le_succ b.dp⟩
theorem SmA.lst {n wt dp : Nat} {ds : List PyData} (b : SmA n wt dp ds) : Sm (n * (wt + 1)) (dp + 1) (.list ds) :=
  ⟨b.lay, b.short, b.show_, b.len_le, Nat.succ_le_succ b.dp⟩
theorem log2_lt_of {n : Nat} (h : n < 4096) : n.log2 ≤ 11 := by
  by_cases h0 : n = 0
  · subst h0; decide
  · have := (Nat.log2_lt h0 (k := 12)).mpr (by omega)
    omega
theorem Sm.int {i : Int} (h0 : 0 ≤ i) (h : i < 4096) : Sm 13 0 (.int i) where
  lay := rfl
  short := by
    refine decide_eq_true ?_
    have e := int_text_length_le (a := i) (k := 12) (by decide) (by have := log2_lt_of (n := i.natAbs) (by omega); omega)
    show (Str.ofString (toString i)).length ≤ 13
    rw [PySem.ofString_length]
    omega
  show_ := decide_eq_true (by have := log2_lt_of (n := i.natAbs) (by omega); omega)
  wt := by
    have := log2_lt_of (n := i.natAbs) (by omega)
    show (if i == 0 then 0 else i.natAbs.log2 + 1) ≤ 13
    split
    · omega
    · omega
  dp := Nat.le_refl _
theorem Sm.size {wt dp : Nat} {d : PyData} (a : Sm wt dp d) (h : wt ≤ 1048576) : d.shown.length ≤ sizeLine := by
  have h2 := PyData.shown_le 13 (by decide) d (PyData.leavesShort_of_canLay0 13 d a.lay a.short)
  have h3 := a.wt
  rw [sizeLine_eq]
  omega
theorem Sm.shaped {wt dp : Nat} {d : PyData} (a : Sm wt dp d) (h : dp ≤ 64) : SeqAt.shaped d = true := by
  show (d.canLay0 && decide (d.depth ≤ 64)) = true
  rw [a.lay, decide_eq_true (Nat.le_trans a.dp h)]
  rfl

/-- repr of a list or tuple of data: its text -/
theorem call_reprD {X : Cx} (hg : X.A.guards = some []) (hu : X.A.units + 66 < cLine) : CallR X (.builtin "repr") (fun xs H Q =>
    ∃ a d wt, xs = [.ref a] ∧ Dp X.K H (.ref a) d ∧ Sm wt 64 d ∧ wt ≤ 1048576 ∧ Q (.str d.shown) H) := by
  intro pins s σ H xs us Q I r h
  obtain ⟨a, d, wt, rfl, hd, sm, hw, q⟩ := h
  obtain ⟨u, rfl, ru⟩ := vals1 r
  cases ru
  obtain ⟨as, rd⟩ := Dp.reads I d _ _ hd rfl
  have hdp := sm.dp
  exact repr_of_reads' rd sm.show_ (PyData.noDict_hsm (dp_nodict d _ hd)) hg (by omega) (fun _ _ e => e)
    (fun h' u tk hk => ⟨.str d.shown, H, I.kept hk, ⟨_, rfl⟩, q⟩) (sm.size hw)
end DD
namespace DD
open PySem PySem.Spec PyProof.Rows L2

/-! ### the end of a law whose def keeps its promise where no repr is under way -/
section
variable {P : Program} {w : World} {K : PySem.W.Frag} {mg mb : Str → Option Value} {k : Nat} {fa a : Addr} {fd : FuncData} {x : Str} {sp : Sp}
  {s1 : Shared} {vs : List Value} {ns : List Int}
theorem law_goG (kin : K.In s1.heap) (nsG : s1.heap.Ns mainGlobals mg) (nsB : s1.heap.Ns builtinsNs mb)
    (blt : ∀ x : Str, x ≠ "__name__" → mb x = bootBuiltins x) (nolim : s1.heap.NoLimit) (ng : s1.gens = #[])
    (oa : s1.heap.get? a = some { cls := .type "list", data := .seq vs.toArray }) (ia : IntsAre vs ns) (len : ns.length ≤ sizeLine)
    (room : Room k callerA) (F : ∀ base : Heap, K.In base → base.Ns mainGlobals mg → FnG P w K mg base k fa fd [x] sp)
    (bind : ∀ (s : Shared) (u : Value), BindsTo s fd ⟨[u], []⟩ [(x, u)])
    (wish : ∀ H : Hp, Only H → SqL K H a (ns.map V.int) → sp [.ref a] H (fun v _ => v = .bl true) fun _ _ _ => False) :
    codeAny (model P w) callerA (.call (.ref fa) ⟨[.ref a], []⟩)
      (fun r s' => r = .ok (.ret (.bool true)) ∧ OldK s1.heap s'.heap ∧ s'.os = s1.os ∧ AllBare s'.gens) s1 := by
  have rv := vals_ints ia
  have lv := ia.length
  -- the run, from an abstract heap that tracks at most the script
  have main : ∀ H : Hp, Only H → SqL K H a (ns.map V.int) → HOk P w H s1.heap → (∀ b, H b ≠ none → b = a) → (H a ≠ none → K.lookup a = none) →
      codeAny (model P w) callerA (.call (.ref fa) ⟨[.ref a], []⟩)
        (fun r s' => r = .ok (.ret (.bool true)) ∧ OldK s1.heap s'.heap ∧ s'.os = s1.os ∧ AllBare s'.gens) s1 := by
    intro H onl hS ok only noK
    have free : ∀ {b : Addr} {o : Obj} {es : Array DictEntry} {ep : Nat}, s1.heap.get? b = some o → o.data = .dict es ep → H b = none := by
      intro b o es ep e d
      cases q : H b with
      | none => rfl
      | some u =>
        obtain rfl := only b (by rw [q]; simp)
        rw [oa] at e
        cases e
        exact nomatch (show Data.seq vs.toArray _ = Data.dict es ep from d)
    have nsOf : ∀ {b : Addr} {m : Str → Option Value}, s1.heap.Ns b m → (hidT s1.heap H).Ns b m := by
      rintro b m ⟨o, es, ep, e, d, r⟩
      exact ⟨o, es, ep, hidT_get e (free e d), d, r⟩
    have kin0 : K.In (hidT s1.heap H) := fun b o e => hidT_get (kin b o e) (by
      cases q : H b with
      | none => rfl
      | some u =>
        obtain rfl := only b (by rw [q]; simp)
        rw [noK (by rw [q]; simp)] at e
        cases e)
    obtain ⟨mc, c1, c2⟩ := nolim
    have md : Mod K mg (hidT s1.heap H) := ⟨kin0, nsOf nsG, ⟨mb, nsOf nsB, blt⟩, mc, nsOf c1, c2⟩
    have e0 : Env0 P w K mg (hidT s1.heap H) callerA [] s1 H :=
      ⟨rfl, md, fun b o e => of_hidT e, Nat.le_of_eq (hidT_size _ _), trivial, fun b z => (nomatch (show b ∈ ([] : List Addr) from z)), ok, .of_eq ng⟩
    have ran := (F _ kin0 (nsOf nsG)).go callerA rfl room [] s1 H ⟨[.ref a], []⟩ [.ref a] [.ref a] _ _ e0 (bind s1 (.ref a)) (.cons rfl .nil) (wish H onl hS)
    refine codeAny_mono ran fun r s' h => ?_
    match r, h with
    | .ok (.ret u), h =>
      obtain ⟨v, H', eos, br, un, ok', r', q⟩ := h
      obtain rfl : v = .bl true := q
      obtain rfl : u = Value.bool true := r'
      refine ⟨rfl, OldK.of_keep fun b o e => ?_, eos, br⟩
      cases q : H b with
      | none => exact un.keep b o e q (fun z => nomatch (show b ∈ ([] : List Addr) from z)) (by simp)
      | some u =>
        rcases onl b with z | ⟨ob, xs, z⟩
        · rw [q] at z
          cases z
        · have e1 := (ok b _ z).1
          rw [e] at e1
          cases e1
          exact (ok' b _ (un.frzs b _ _ z)).1
  cases hk : K.lookup a with
  | some o =>
    -- the script is one of the module's own objects
    have e := kin a o hk
    rw [oa] at e
    cases e
    have hsz : vs.toArray.size ≤ sizeLine := by
      rw [List.size_toArray, lv]
      exact len
    exact main (fun _ => none) (fun _ => .inl rfl) (.inr ⟨_, vs.toArray, _, hk, rfl, rfl, rfl, hsz, by simpa using rv⟩)
      (fun b u z => nomatch (show (none : Option HO) = some u from z)) (fun b z => absurd rfl z) fun z => absurd rfl z
  | none =>
    let fr : HO := .frz { cls := .type "list", data := .seq vs.toArray } (.lst (ns.map V.int))
    have at_ : (fun b => if b = a then some fr else none : Hp) a = some fr := if_pos rfl
    have else_ : ∀ b, b ≠ a → (fun b => if b = a then some fr else none : Hp) b = none := fun b hb => if_neg hb
    refine main (fun b => if b = a then some fr else none) (fun b => ?_) (.inl (.inr ⟨_, at_⟩)) (fun b u z => ?_) (fun b z => ?_) fun _ => hk
    · by_cases hb : b = a
      · exact .inr ⟨_, _, if_pos hb⟩
      · exact .inl (else_ b hb)
    · by_cases hb : b = a
      · subst hb
        cases at_.symm.trans z
        exact ⟨oa, by rw [List.length_map]; exact len, vs, _, rv, oa⟩
      · exact nomatch (else_ b hb).symm.trans z
    · by_cases hb : b = a
      · exact hb
      · exact absurd (else_ b hb) z
end

theorem walk_ofG {l : PySem.W.OpenLaw} {n k : Nat} {q : Program} {loose : List Str} {XP : (Str → Option Value) → Heap → Prop} {YP : World → Heap → Prop}
    {d : DefRec} {K : Params → PySem.W.Frag} {sp : World → Sp} {x : Str} (most : l.most = some n) (n_le : n ≤ sizeLine) (nodef : d.params.defaults = [])
    (room : Room k callerA) (kin : ∀ (w : World) (h : Heap), YP w h → (K w.params).In h)
    (F : ∀ (w : World) (mg : Str → Option Value) (fa : Addr) (h : Heap), (K w.params).In h → h.Ns mainGlobals mg → mg d.name = some (.ref fa) →
      ∃ fd : FuncData, (∀ (s : Shared) (u : Value), BindsTo s fd ⟨[u], []⟩ [(x, u)]) ∧
        ∀ base : Heap, (K w.params).In base → base.Ns mainGlobals mg → FnG l.prog w (K w.params) mg base k fa fd [x] (sp w))
    (wish : ∀ (w : World) (H : Hp) (a : Addr) (ns : List Int), ns.length ≤ n → Only H → SqL (K w.params) H a (ns.map V.int) →
      sp w [.ref a] H (fun v _ => v = .bl true) fun _ _ _ => False) :
    PySem.W.WalkO q loose XP YP l.row.toRowW d [] (fun f vs => PySem.call f vs) := by
  refine Att.attach_call most nodef fun w s0 s1 mg mb fa o pm cd doc a vs ns G Y ho hd hcd hmg hobj hints hlen hg => ?_
  obtain ⟨fd, hb, hF⟩ := F w mg fa _ (kin w _ Y) G.T.g hmg
  exact law_goG (kin w _ Y) G.T.g G.T.b G.T.builtins G.T.nolimit hg hobj hints (Nat.le_trans hlen n_le) room hF hb
    fun H hO hS => wish w H a ns hlen hO hS
end DD
namespace DD
open PySem PySem.Spec PyProof.Rows L2
section
variable {M : Model} {A : Around} {E : Value → Shared → Prop}
theorem wp_forIn {α β : Type} (f : α → β → Sem (ForInStep β)) : ∀ (l : List α) (J : Nat → β → Shared → Prop),
    (∀ j x b s, l[j]? = some x → J j b s → wpAny M A (f x b) (fun r s' => ∃ b', r = .yield b' ∧ J (j + 1) b' s') E s) →
    ∀ (b : β) (s : Shared), J 0 b s → wpAny M A (forIn l b f) (fun b' s' => J l.length b' s') E s
  | [], J, step, b, s, h => by
    rw [List.forIn_nil]
    exact wpAny_pure h
  | x :: l, J, step, b, s, h => by
    rw [List.forIn_cons]
    refine wpAny_bind (wpAny_mono (step 0 x b s rfl h) (fun r s' hr => ?_) (fun _ _ e => e))
    obtain ⟨b', rfl, hJ⟩ := hr
    exact wp_forIn f l (fun j => J (j + 1)) (fun j y c s'' e hj => step (j + 1) y c s'' e hj) b' s' hJ
end

abbrev zObj (f0 f1 : Value) (TI TO : Addr) : Obj :=
  { cls := .type "zip", dict := none, data := .fields #[f0, f1, .bool false, .ref TI, .ref TO], slots := #[] }
abbrev tObj (vs : Array Value) : Obj := { cls := .type "tuple", data := .seq vs }
structure ZApart (z TI TO : Addr) (ps : List (Addr × Addr)) : Prop where
  tz : TI ≠ z
  oz : TO ≠ z
  it : TI ≠ TO
  nd : (ps.map (·.1)).Nodup
  pz : ∀ p ∈ ps, p.1 ≠ z ∧ p.1 ≠ TI ∧ p.1 ≠ TO ∧ p.2 ≠ z ∧ p.2 ≠ TO
  px : ∀ p ∈ ps, ∀ q ∈ ps, p.2 ≠ q.1
structure ZSt (h : Heap) (z TI TO : Addr) (ps : List (Addr × Addr)) (k : Nat) : Prop where
  zz : ∃ f0 f1, h.get? z = some (zObj f0 f1 TI TO) ∧ (f0 = .none ∨ ∃ a t, f0 = .int a t)
  ti : h.get? TI = some (tObj (ps.map fun p => Value.ref p.1).toArray)
  to : ∃ arr : Array Value, arr.size = ps.length ∧ h.get? TO = some (tObj arr)
  its : ∀ p ∈ ps, h.IsTupleIter p.1 p.2 k


/-- the objects but z, TO and the iterators stand; the first j iterators have turned -/
structure ZMid (g h : Heap) (z TO : Addr) (ps : List (Addr × Addr)) (k j : Nat) : Prop where
  size : h.objs.size = g.objs.size
  keep : ∀ c o, c ≠ z → c ≠ TO → (∀ p ∈ ps, c ≠ p.1) → g.get? c = some o → h.get? c = some o
  its : ∀ (i : Nat) (p : Addr × Addr), ps[i]? = some p → h.IsTupleIter p.1 p.2 (if i < j then k + 1 else k)

section
variable {prog : Program} {w : World} {A : Around} {E : Value → Shared → Prop} {s : Shared} {z TI TO : Addr} {ps : List (Addr × Addr)} {k : Nat}
theorem wp_alive {M : Model} {a : Addr} {Q : Option Obj → Shared → Prop} (h : Q (s.heap.get? a) s) : wpAny M A (loadIfAlive a) Q E s := fun _ _ _ => h
theorem ptr_ne {ps : List (Addr × Addr)} (nd : (ps.map (·.1)).Nodup) {i j : Nat} {p q : Addr × Addr} (hp : ps[i]? = some p) (hq : ps[j]? = some q) (h : i ≠ j) : p.1 ≠ q.1 := by
  intro e
  have e1 : (ps.map (·.1))[i]? = some p.1 := by rw [List.getElem?_map, hp] <;> rfl
  have e2 : (ps.map (·.1))[j]? = some p.1 := by rw [List.getElem?_map, hq, e] <;> rfl
  obtain ⟨l1, g1⟩ := List.getElem?_eq_some_iff.mp e1
  obtain ⟨l2, g2⟩ := List.getElem?_eq_some_iff.mp e2
  exact h ((List.getElem_inj nd).mp (g1.trans g2.symm))
theorem free_or {f0 f1 : Value} (hz : s.heap.get? z = some (zObj f0 f1 TI TO)) (hf0 : f0 = .none ∨ ∃ a t, f0 = .int a t) :
    wpAny (model prog w) A (Builtin.SmallTypes.ownedTupleIsFree (.ref z)) (fun b s' => (b = true ∧ s' = s) ∨
      (b = false ∧ ∃ h' f2, s' = { s with heap := h' } ∧ h'.get? z = some (zObj f0 f2 TI TO) ∧ Heap.SameBut z s.heap h')) E s := by
  unfold Builtin.SmallTypes.ownedTupleIsFree
  refine wpAny_bind (wpAny_field hz rfl (x := f0) rfl ?_)
  rcases hf0 with rfl | ⟨a, t, rfl⟩
  · exact wpAny_pure (.inl ⟨rfl, rfl⟩)
  · refine wpAny_bind (wp_alive ?_)
    cases ha : s.heap.get? a.toNat with
    | none => exact wpAny_pure (.inl ⟨rfl, rfl⟩)
    | some o =>
      simp only [Option.isNone_some, Bool.false_eq_true, if_false]
      refine wpAny_bind (wpAny_field hz rfl (x := f1) rfl ?_)
      by_cases hb : (f1 != Value.bool true) = true
      · rw [if_pos hb]
        refine wpAny_bind (wpAny_setField_rec hz (by simp) fun h1 hz1 hs1 => wpAny_pure (.inr ⟨rfl, h1, .bool true, rfl, hz1, hs1⟩))
      · rw [if_neg hb]
        exact wpAny_pure (.inr ⟨rfl, s.heap, f1, rfl, hz, Heap.SameBut.refl _ _⟩)
/-- one iterator's turn -/
theorem draw_one {g h : Heap} {j : Nat} {p : Addr × Addr} {xs : Array Value} {v : Value} {Q : Value → Shared → Prop} (D : ZApart z TI TO ps) (m : ZMid g h z TO ps k j)
    (hp : ps[j]? = some p) (hl : g.IsTuple p.2 xs) (hx : xs[k]? = some v)
    (hQ : ∀ h', ZMid g h' z TO ps k (j + 1) → Heap.SameBut p.1 h h' → Q v { s with heap := h' }) :
    wpAny (model prog w) A (Builtin.SmallTypes.nextOf (.ref p.1)) Q E { s with heap := h } := by
  have hm : p ∈ ps := List.mem_of_getElem? hp
  have h1 : h.IsTupleIter p.1 p.2 k := by
    have := m.its j p hp
    rwa [if_neg (Nat.lt_irrefl j)] at this
  have h2 : h.IsTuple p.2 xs := by
    obtain ⟨o, e, c⟩ := hl
    exact ⟨o, m.keep _ _ (D.pz p hm).2.2.2.1 (D.pz p hm).2.2.2.2 (fun q hq => D.px p hm q hq) e, c⟩
  refine RZ.nextOf_tuple_item (s := { s with heap := h }) h1 h2 hx fun h' hi hs => hQ h' ⟨hs.1.trans m.size, fun c o c1 c2 c3 e => ?_, fun i q hq => ?_⟩ hs
  · rw [hs.2 c (c3 p hm)]
    exact m.keep c o c1 c2 c3 e
  · by_cases hij : i = j
    · subst hij
      rw [hp] at hq
      cases hq
      rw [if_pos (Nat.lt_succ_self _)]
      exact hi
    · have hqi := m.its i q hq
      have hne := ptr_ne D.nd hq hp hij
      rw [show (if i < j + 1 then k + 1 else k) = (if i < j then k + 1 else k) by
        by_cases hlt : i < j
        · rw [if_pos hlt, if_pos (by omega)]
        · rw [if_neg hlt, if_neg (by omega)]]
      obtain ⟨o, e, c⟩ := hqi
      exact ⟨o, (hs.2 _ hne).trans e, c⟩
theorem ZMid.full {g h : Heap} (m : ZMid g h z TO ps k ps.length) : ∀ p ∈ ps, h.IsTupleIter p.1 p.2 (k + 1) := fun p hp => by
  obtain ⟨i, hi⟩ := List.mem_iff_getElem?.mp hp
  obtain ⟨hl, _⟩ := List.getElem?_eq_some_iff.mp hi
  have := m.its i p hi
  rwa [if_pos hl] at this

theorem zn_item {vs : List Value} {Q : Value → Shared → Prop} (D : ZApart z TI TO ps) (hn : 1 ≤ ps.length) (hn2 : ps.length ≤ 1000) (S : ZSt s.heap z TI TO ps k)
    (hv : vs.length = ps.length) (hi : ∀ (j : Nat) (p : Addr × Addr), ps[j]? = some p → ∃ xs, s.heap.IsTuple p.2 xs ∧ xs[k]? = vs[j]?)
    (hQ : ∀ h', ZSt h' z TI TO ps (k + 1) → h'.get? s.heap.objs.size = some (tObj vs.toArray) → h'.objs.size = s.heap.objs.size + 1 →
      (∀ c o, c ≠ z → c ≠ TO → (∀ p ∈ ps, c ≠ p.1) → s.heap.get? c = some o → h'.get? c = some o) → Q (.ref s.heap.objs.size) { s with heap := h' }) :
    wpAny (model prog w) A (Builtin.«zip.__next__» ⟨[.ref z], []⟩) (fun fin s' => ∃ v, fin = .done (.ret v) ∧ Q v s') E s := by
  obtain ⟨⟨f0, f1, hz, hf0⟩, hTI, ⟨arr, ha, hTO⟩, hits⟩ := S
  show wpAny _ _ (field (.ref z) 2 >>= _) _ _ _
  refine wpAny_bind (wpAny_field hz rfl (x := .bool false) rfl ?_)
  show wpAny _ _ (field (.ref z) 3 >>= _) _ _ _
  refine wpAny_bind (wpAny_field hz rfl (x := .ref TI) rfl ?_)
  refine wpAny_bind (wpAny_seqItems hTI rfl ?_)
  have hne : (ps.map fun p => Value.ref p.1).toArray.isEmpty = false := by
    cases ps with
    | nil => simp at hn
    | cons p r => rfl
  simp only [hne, Bool.false_eq_true, if_false]
  have m0 : ∀ h, Heap.SameBut z s.heap h → ZMid s.heap h z TO ps k 0 := fun h hs =>
    ⟨hs.1, fun c o c1 _ _ e => (hs.2 c c1).trans e, fun i p hp => by
      rw [if_neg (Nat.not_lt_zero _)]
      have hm := List.mem_of_getElem? hp
      obtain ⟨o, e, c⟩ := hits p hm
      exact ⟨o, (hs.2 _ (D.pz p hm).1).trans e, c⟩⟩
  refine wpAny_bind (wpAny_mono (free_or hz hf0) (fun b s' hb => ?_) fun _ _ e => e)
  rcases hb with ⟨rfl, rfl⟩ | ⟨rfl, h1, f2, rfl, hz1, hs1⟩
  · simp only [if_true]
    refine wpAny_bind (wpAny_rule ?_)
    refine wpAny_bind (wpAny_field hz rfl (x := .ref TO) rfl ?_)
    refine wpAny_bind (wpAny_setField_rec hz (by simp) fun h1 hz1 hs1 => ?_)
    replace hz1 : h1.get? z = some (zObj .ellipsis f1 TI TO) := hz1
    have nTI : ∀ p ∈ ps, TI ≠ p.1 := fun p hp q => (D.pz p hp).2.1 q.symm
    refine wpAny_bind (thn (wp_forIn _ _ (fun j b s2 => b = (none, ()) ∧ ∃ (h : Heap) (a2 : Array Value), s2 = { s' with heap := h } ∧ ZMid s'.heap h z TO ps k j ∧
      h.get? z = some (zObj .ellipsis f1 TI TO) ∧ a2.size = ps.length ∧ (∀ i, i < j → a2[i]? = vs[i]?) ∧ h.get? TO = some (tObj a2)) ?step _ _ ?init) fun b s2 hb => ?last)
    case init => exact ⟨rfl, h1, arr, rfl, m0 h1 hs1, hz1, ha, fun i hi => absurd hi (Nat.not_lt_zero _), (hs1.2 _ D.oz).trans hTO⟩
    case step =>
      rintro j x b s2 hx ⟨rfl, h, a2, rfl, m, hz2, hs2, pre, hTO2⟩
      rw [List.getElem?_zipIdx, List.getElem?_map] at hx
      cases hp : ps[j]? with
      | none =>
        rw [hp] at hx
        cases hx
      | some p =>
        rw [hp] at hx
        obtain rfl : (Value.ref p.1, 0 + j) = x := Option.some.inj hx
        obtain ⟨xs, hl, hxk⟩ := hi j p hp
        have hm : p ∈ ps := List.mem_of_getElem? hp
        have hj : j < ps.length := (List.getElem?_eq_some_iff.mp hp).1
        have hjv : vs[j]? = some (vs[j]'(by omega)) := List.getElem?_eq_getElem (by omega)
        refine wpAny_bind (wpAny_onRaise ?_)
        show wpAny _ _ (Builtin.SmallTypes.nextOf (.ref p.1) >>= _) _ _ _
        refine wpAny_bind (draw_one D m hp hl (hxk.trans hjv) fun h' m' hs' => wpAny_pure ?_)
        have hTO' : h'.get? TO = some (tObj a2) := (hs'.2 _ (D.pz p hm).2.2.1.symm).trans hTO2
        refine wpAny_bind (wpAny_seqItems hTO' rfl ?_)
        have hb1 : a2.size ≤ sizeLine := by rw [hs2, sizeLine_eq]; omega
        refine wpAny_bind (wpAny_updateSeq hTO' rfl ?_ hb1 (by rw [Array.size_setIfInBounds, hs2, sizeLine_eq]; omega))
        have sb := Heap.SameBut.update h' TO (Obj.mapSeq fun x => x.setIfInBounds (0 + j) (vs[j]'(by omega)))
        refine wpAny_bind (wpAny_letGo (wpAny_pure ⟨_, rfl, rfl, _, a2.setIfInBounds j (vs[j]'(by omega)), rfl, ⟨sb.1.trans m'.size, fun c o c1 c2 c3 e => (sb.2 c c2).trans (m'.keep c o c1 c2 c3 e), fun i q hq => ?_⟩, ?_, ?_, fun i hij => ?_, ?_⟩))
        · obtain ⟨o, e, c⟩ := m'.its i q hq
          exact ⟨o, (sb.2 _ (D.pz q (List.mem_of_getElem? hq)).2.2.1).trans e, c⟩
        · rw [sb.2 z D.oz.symm, hs'.2 z (D.pz p hm).1.symm]
          exact hz2
        · rw [Array.size_setIfInBounds]
          exact hs2
        · rw [Array.getElem?_setIfInBounds]
          by_cases e : j = i
          · subst e
            rw [if_pos rfl, if_pos (by omega)]
            exact hjv.symm
          · rw [if_neg e]
            exact pre i (by omega)
        · rw [Heap.get?_update_self _ hTO' rfl, Nat.zero_add]
          simp [Obj.mapSeq]
    case last =>
      obtain ⟨rfl, h, a2, rfl, m, hz2, hs2, pre, hTO2⟩ := hb
      rw [List.length_zipIdx, List.length_map] at m pre
      have ea : a2 = vs.toArray := by
        refine Array.ext_getElem? fun i => ?_
        by_cases hlt : i < ps.length
        · rw [pre i hlt, List.getElem?_toArray]
        · rw [Array.getElem?_eq_none (by omega), List.getElem?_toArray, List.getElem?_eq_none (by omega)]
      subst ea
      show wpAny _ _ (seqItems? (.ref TO) >>= _) _ _ _
      refine wpAny_bind (wpAny_seqItems hTO2 rfl ?_)
      refine wpAny_bind (wpAny_newTuple ?_ (by show vs.length ≤ _; rw [sizeLine_eq]; omega))
      show wpAny _ _ (Builtin.SmallTypes.ownedTupleHandOut (.ref z) (.ref h.objs.size) >>= _) _ _ _
      refine wpAny_bind ?_
      unfold Builtin.SmallTypes.ownedTupleHandOut
      have hzp : (h.push (tObj vs.toArray)).get? z = some (zObj .ellipsis f1 TI TO) := Heap.get?_push_of_some _ hz2
      refine wpAny_bind (wpAny_setField_rec hzp (by simp) fun h3 hz3 hs3 => ?_)
      replace hz3 : h3.get? z = some (zObj (rawInt h.objs.size) f1 TI TO) := hz3
      refine wpAny_setField_rec hz3 (by simp) fun h4 hz4 hs4 => ?_
      replace hz4 : h4.get? z = some (zObj (rawInt h.objs.size) (.bool false) TI TO) := hz4
      have hzlt : z < h.objs.size := Heap.lt_size hz2
      have up : ∀ c o, c ≠ z → h.get? c = some o → h4.get? c = some o := fun c o c1 e =>
        (hs4.2 c c1).trans ((hs3.2 c c1).trans (Heap.get?_push_of_some _ e))
      refine wpAny_pure ⟨_, rfl, ?_⟩
      show Q (.ref h.objs.size) _
      have key := hQ h4 ⟨⟨_, _, hz4, .inr ⟨_, _, rfl⟩⟩, up _ _ D.tz (m.keep TI _ D.tz D.it nTI hTI), ⟨_, hs2, up _ _ D.oz hTO2⟩, fun p hp => ?_⟩ ?_ ?_ fun c o c1 c2 c3 e => up c o c1 (m.keep c o c1 c2 c3 e)
      · rw [m.size]
        exact key
      · obtain ⟨o, e, c⟩ := m.full p hp
        exact ⟨o, up _ _ (D.pz p hp).1 e, c⟩
      · rw [← m.size, hs4.2 _ (Nat.ne_of_gt hzlt), hs3.2 _ (Nat.ne_of_gt hzlt)]
        exact Heap.get?_push_size _ rfl
      · rw [hs4.1, hs3.1, Heap.size_push, m.size]
  · simp only [Bool.false_eq_true, if_false, List.forIn_toArray]
    have nTI : ∀ p ∈ ps, TI ≠ p.1 := fun p hp q => (D.pz p hp).2.1 q.symm
    refine wpAny_bind (thn (wp_forIn _ _ (fun j b s2 => b = (none, (vs.take j).toArray) ∧ ∃ (h : Heap), s2 = { s with heap := h } ∧ ZMid s.heap h z TO ps k j ∧
      h.get? z = some (zObj f0 f2 TI TO) ∧ h.get? TO = some (tObj arr)) ?step _ _ ?init) fun b s2 hb => ?last)
    case init => exact ⟨rfl, h1, rfl, m0 h1 hs1, hz1, (hs1.2 _ D.oz).trans hTO⟩
    case step =>
      rintro j x b s2 hx ⟨rfl, h, rfl, m, hz2, hTO2⟩
      rw [List.getElem?_map] at hx
      cases hp : ps[j]? with
      | none =>
        rw [hp] at hx
        cases hx
      | some p =>
        rw [hp] at hx
        obtain rfl : Value.ref p.1 = x := Option.some.inj hx
        obtain ⟨xs, hl, hxk⟩ := hi j p hp
        have hm : p ∈ ps := List.mem_of_getElem? hp
        have hj : j < ps.length := (List.getElem?_eq_some_iff.mp hp).1
        have hjv : vs[j]? = some (vs[j]'(by omega)) := List.getElem?_eq_getElem (by omega)
        refine wpAny_bind (wpAny_holding ?_)
        show wpAny _ _ (Builtin.SmallTypes.nextOf (.ref p.1) >>= _) _ _ _
        refine wpAny_bind (draw_one D m hp hl (hxk.trans hjv) fun h' m' hs' => wpAny_pure (wpAny_pure ⟨_, rfl, ?_, h', rfl, m', ?_, ?_⟩))
        · rw [List.take_add_one, hjv]
          simp
        · exact (hs'.2 z (D.pz p hm).1.symm).trans hz2
        · exact (hs'.2 _ (D.pz p hm).2.2.1.symm).trans hTO2
    case last =>
      obtain ⟨rfl, h, rfl, m, hz2, hTO2⟩ := hb
      rw [List.length_map] at m
      rw [List.length_map, List.take_of_length_le (by omega)]
      have hsz : vs.length ≤ sizeLine := by rw [sizeLine_eq]; omega
      show wpAny _ _ (newTuple vs.toArray.toList >>= _) _ _ _
      refine wpAny_bind (wpAny_newTuple ?_ (by simpa using hsz))
      refine wpAny_pure ⟨_, rfl, ?_⟩
      have up : ∀ c o, h.get? c = some o → (h.push (tObj vs.toArray)).get? c = some o := fun c o e => Heap.get?_push_of_some _ e
      have key := hQ (h.push (tObj vs.toArray)) ⟨⟨_, _, up _ _ hz2, hf0⟩, up _ _ (m.keep TI _ D.tz D.it nTI hTI), ⟨_, ha, up _ _ hTO2⟩, fun p hp => ?_⟩ ?_ ?_ fun c o c1 c2 c3 e => up c o (m.keep c o c1 c2 c3 e)
      · show Q (.ref h.objs.size) _
        rw [m.size]
        exact key
      · obtain ⟨o, e, c⟩ := m.full p hp
        exact ⟨o, up _ _ e, c⟩
      · rw [← m.size]
        exact Heap.get?_push_size _ rfl
      · rw [Heap.size_push, m.size]
end
end DD
namespace DD
open PySem PySem.Spec PyProof.Rows L2
section
variable {prog : Program} {w : World} {A : Around} {E : Value → Shared → Prop} {s : Shared} {z TI TO : Addr} {ps : List (Addr × Addr)} {k : Nat}
theorem zn_end {Q : Fin → Shared → Prop} (hh : A.handled = none) (D : ZApart z TI TO ps) (S : ZSt s.heap z TI TO ps k) {p : Addr × Addr} {r : List (Addr × Addr)} {xs : Array Value}
    (hps : ps = p :: r) (hl : s.heap.IsTuple p.2 xs) (hx : xs[k]? = none)
    (hE : ∀ h' e, (∀ c o, c ≠ z → c ≠ TO → (∀ p ∈ ps, c ≠ p.1) → s.heap.get? c = some o → h'.get? c = some o) →
      (∃ o, h'.get? e = some o ∧ o.cls = .type "StopIteration") → E (.ref e) { s with heap := h' }) :
    wpAny (model prog w) A (Builtin.«zip.__next__» ⟨[.ref z], []⟩) Q E s := by
  obtain ⟨⟨f0, f1, hz, hf0⟩, hTI, ⟨arr, ha, hTO⟩, hits⟩ := S
  have hm : p ∈ ps := by rw [hps]; exact List.mem_cons_self
  show wpAny _ _ (field (.ref z) 2 >>= _) _ _ _
  refine wpAny_bind (wpAny_field hz rfl (x := .bool false) rfl ?_)
  show wpAny _ _ (field (.ref z) 3 >>= _) _ _ _
  refine wpAny_bind (wpAny_field hz rfl (x := .ref TI) rfl ?_)
  refine wpAny_bind (wpAny_seqItems hTI rfl ?_)
  have hne : (ps.map fun p => Value.ref p.1).toArray.isEmpty = false := by
    rw [hps]
    rfl
  simp only [hne, Bool.false_eq_true, if_false]
  have it1 := hits p hm
  have kz : ∀ h1, Heap.SameBut z s.heap h1 → h1.IsTupleIter p.1 p.2 k ∧ h1.IsTuple p.2 xs := fun h1 hs1 =>
    ⟨by obtain ⟨o, e, c⟩ := it1; exact ⟨o, (hs1.2 _ (D.pz p hm).1).trans e, c⟩, by obtain ⟨o, e, c⟩ := hl; exact ⟨o, (hs1.2 _ (D.pz p hm).2.2.2.1).trans e, c⟩⟩
  refine wpAny_bind (wpAny_mono (free_or hz hf0) (fun b s' hb => ?_) fun _ _ e => e)
  rcases hb with ⟨rfl, rfl⟩ | ⟨rfl, h1, f2, rfl, hz1, hs1⟩
  · simp only [if_true]
    refine wpAny_bind (wpAny_rule ?_)
    refine wpAny_bind (wpAny_field hz rfl (x := .ref TO) rfl ?_)
    refine wpAny_bind (wpAny_setField_rec hz (by simp) fun h1 hz1 hs1 => ?_)
    replace hz1 : h1.get? z = some (zObj .ellipsis f1 TI TO) := hz1
    obtain ⟨q1, q2⟩ := kz h1 hs1
    refine wpAny_bind ?_
    simp only [hps, List.map_cons, List.zipIdx_cons, List.forIn_cons]
    refine wpAny_bind (wpAny_bind (wpAny_onRaise ?_))
    show wpAny _ _ (Builtin.SmallTypes.nextOf (.ref p.1) >>= _) _ _ _
    refine wpAny_bind (RZ.nextOf_tuple_end (s := { s' with heap := h1 }) hh q1 q2 hx fun h2 e hs2 he => ?_)
    obtain ⟨oe, hoe, hce⟩ := he
    have hz2 : h2.get? z = some (zObj .ellipsis f1 TI TO) := hs2 _ _ (D.pz p hm).1.symm hz1
    have hez : e ≠ z := fun x => by
      subst x
      rw [hz2] at hoe
      cases hoe
      simp at hce
    refine wpAny_setField_rec hz2 (by simp) fun h3 _ hs3 => hE h3 e (fun c o c1 _ c3 x => (hs3.2 _ c1).trans (hs2 _ _ (c3 p hm) ((hs1.2 _ c1).trans x))) ⟨oe, (hs3.2 _ hez).trans hoe, hce⟩
  · simp only [Bool.false_eq_true, if_false, List.forIn_toArray]
    obtain ⟨q1, q2⟩ := kz h1 hs1
    refine wpAny_bind ?_
    simp only [hps, List.map_cons, List.forIn_cons]
    refine wpAny_bind (wpAny_bind (wpAny_holding ?_))
    show wpAny _ _ (Builtin.SmallTypes.nextOf (.ref p.1) >>= _) _ _ _
    refine wpAny_bind (RZ.nextOf_tuple_end (s := { s with heap := h1 }) hh q1 q2 hx fun h2 e hs2 he => hE h2 e (fun c o c1 _ c3 x => hs2 _ _ (c3 p hm) ((hs1.2 _ c1).trans x)) he)

theorem pyNext_zn_item {vs : List Value} {Q : Option Value → Shared → Prop} (D : ZApart z TI TO ps) (hn : 1 ≤ ps.length) (hn2 : ps.length ≤ 1000) (S : ZSt s.heap z TI TO ps k)
    (hv : vs.length = ps.length) (hi : ∀ (j : Nat) (p : Addr × Addr), ps[j]? = some p → ∃ xs, s.heap.IsTuple p.2 xs ∧ xs[k]? = vs[j]?)
    (hQ : ∀ h', ZSt h' z TI TO ps (k + 1) → h'.get? s.heap.objs.size = some (tObj vs.toArray) → h'.objs.size = s.heap.objs.size + 1 →
      (∀ c o, c ≠ z → c ≠ TO → (∀ p ∈ ps, c ≠ p.1) → s.heap.get? c = some o → h'.get? c = some o) → Q (some (.ref s.heap.objs.size)) { s with heap := h' }) :
    wpAny (model prog w) A (pyNext (.ref z)) Q E s := by
  obtain ⟨f0, f1, hz, hf0⟩ := S.zz
  have hT : s.TypeIs (.ref z) "zip" := ⟨_, hz, rfl⟩
  unfold pyNext
  exact wpAny_bind (wpAny_attempt (wpAny_callSpecial?_slot (name := Str.ofString "__next__") hT F.slot_zip_next
    (wpAny_call_entry F.slot_zip_next hT F.entry_zip_next (zn_item D hn hn2 S hv hi fun h' a1 a2 a3 a4 => wpAny_pure (hQ h' a1 a2 a3 a4)) (F.args_zip_next_1 _))))
theorem pyNext_zn_end {Q : Option Value → Shared → Prop} (hh : A.handled = none) (D : ZApart z TI TO ps) (S : ZSt s.heap z TI TO ps k) {p : Addr × Addr} {r : List (Addr × Addr)} {xs : Array Value}
    (hps : ps = p :: r) (hl : s.heap.IsTuple p.2 xs) (hx : xs[k]? = none)
    (hQ : ∀ h', (∀ c o, c ≠ z → c ≠ TO → (∀ p ∈ ps, c ≠ p.1) → s.heap.get? c = some o → h'.get? c = some o) → Q none { s with heap := h' }) :
    wpAny (model prog w) A (pyNext (.ref z)) Q E s := by
  obtain ⟨f0, f1, hz, hf0⟩ := S.zz
  have hT : s.TypeIs (.ref z) "zip" := ⟨_, hz, rfl⟩
  unfold pyNext
  refine wpAny_bind (wpAny_attempt (wpAny_callSpecial?_slot (name := Str.ofString "__next__") hT F.slot_zip_next
    (wpAny_call_entry F.slot_zip_next hT F.entry_zip_next (zn_end hh D S hps hl hx fun h' e hk he => ?_) (F.args_zip_next_1 _))))
  obtain ⟨o, ho, hc⟩ := he
  exact wpAny_bind (wpAny_isInstance (T := "StopIteration") (b := true) ⟨o, ho, hc⟩ isSubtype_stop (wpAny_pure (hQ _ hk)))

/-! ### zip of one to four tuples made -/
theorem typeCall_zipN : ∀ vs : List Value, 1 ≤ vs.length → vs.length ≤ 4 → checkTypeCall "zip" ⟨vs, []⟩ = pure ()
  | [a], _, _ => by kernel_rfl
  | [a, b], _, _ => by kernel_rfl
  | [a, b, c], _, _ => by kernel_rfl
  | [a, b, c, d], _, _ => by kernel_rfl
  | [], h, _ => by simp at h
  | _ :: _ :: _ :: _ :: _ :: _, _, h => by simp at h
theorem newCall_zipN : ∀ vs : List Value, 1 ≤ vs.length → vs.length ≤ 4 → checkBuiltinCall "zip.__new__" ⟨.type "zip" :: vs, []⟩ = pure ()
  | [a], _, _ => by kernel_rfl
  | [a, b], _, _ => by kernel_rfl
  | [a, b, c], _, _ => by kernel_rfl
  | [a, b, c, d], _, _ => by kernel_rfl
  | [], h, _ => by simp at h
  | _ :: _ :: _ :: _ :: _ :: _, _, h => by simp at h
theorem args_object_initN (o : Value) : ∀ vs : List Value, 1 ≤ vs.length → vs.length ≤ 4 → argsOk "object.__init__" ⟨o :: vs, []⟩
  | [a], _, _ => by
    unfold argsOk
    rw [signature?_of (id := "object.__init__") (n := ['_', '_', 't', 'i', 'n', 'i', '_', '_']) (o := ['t', 'c', 'e', 'j', 'b', 'o']) (by kernel_rfl) F.owner_object]
    kernel_rfl
  | [a, b], _, _ => by
    unfold argsOk
    rw [signature?_of (id := "object.__init__") (n := ['_', '_', 't', 'i', 'n', 'i', '_', '_']) (o := ['t', 'c', 'e', 'j', 'b', 'o']) (by kernel_rfl) F.owner_object]
    kernel_rfl
  | [a, b, c], _, _ => by
    unfold argsOk
    rw [signature?_of (id := "object.__init__") (n := ['_', '_', 't', 'i', 'n', 'i', '_', '_']) (o := ['t', 'c', 'e', 'j', 'b', 'o']) (by kernel_rfl) F.owner_object]
    kernel_rfl
  | [a, b, c, d], _, _ => by
    unfold argsOk
    rw [signature?_of (id := "object.__init__") (n := ['_', '_', 't', 'i', 'n', 'i', '_', '_']) (o := ['t', 'c', 'e', 'j', 'b', 'o']) (by kernel_rfl) F.owner_object]
    kernel_rfl
  | [], h, _ => by simp at h
  | _ :: _ :: _ :: _ :: _ :: _, _, h => by simp at h

theorem iterAll_tups {ls : List Addr} {Q : List Value → Shared → Prop} (hl : ∀ l ∈ ls, ∃ xs, s.heap.IsTuple l xs)
    (hQ : ∀ h' its, its.length = ls.length → (∀ i, i < ls.length → its[i]? = some (.ref (s.heap.objs.size + i))) → h'.objs.size = s.heap.objs.size + ls.length →
      (∀ c o, s.heap.get? c = some o → h'.get? c = some o) → (∀ (i : Nat) (l : Addr), ls[i]? = some l → h'.IsTupleIter (s.heap.objs.size + i) l 0) → Q its { s with heap := h' }) :
    wpAny (model prog w) A (Builtin.SmallTypes.iterAll (ls.map Value.ref)) Q E s := by
  unfold Builtin.SmallTypes.iterAll
  refine wpAny_bind (thn (wp_forIn _ _ (fun j (b : Array Value) s2 => b.size = j ∧ (∀ i, i < j → b[i]? = some (.ref (s.heap.objs.size + i))) ∧ ∃ h, s2 = { s with heap := h } ∧ h.objs.size = s.heap.objs.size + j ∧
    (∀ c o, s.heap.get? c = some o → h.get? c = some o) ∧ ∀ (i : Nat) (l : Addr), i < j → ls[i]? = some l → h.IsTupleIter (s.heap.objs.size + i) l 0) ?step _ _ ?init) fun b s2 hb => ?last)
  case init => exact ⟨rfl, fun i hi => absurd hi (Nat.not_lt_zero _), s.heap, rfl, rfl, fun _ _ e => e, fun i _ hi => absurd hi (Nat.not_lt_zero _)⟩
  case step =>
    rintro j x b s2 hx ⟨hbs, hb, h, rfl, hsz, hk, hit⟩
    rw [List.getElem?_map] at hx
    cases hp : ls[j]? with
    | none =>
      rw [hp] at hx
      cases hx
    | some l =>
      rw [hp] at hx
      obtain rfl : Value.ref l = x := Option.some.inj hx
      obtain ⟨xs, ol, e, c⟩ := hl l (List.mem_of_getElem? hp)
      refine wpAny_bind (wpAny_holding (wpAny_pyIter_tuple (s := { s with heap := h }) ⟨ol, hk _ _ e, c⟩ ?_))
      refine wpAny_pure ⟨_, rfl, by rw [Array.size_push, hbs], fun i hij => ?_, _, rfl, by rw [Heap.size_push, hsz]; omega, fun c o e => Heap.get?_push_of_some _ (hk c o e), fun i l' hij hl' => ?_⟩
      · show (b.push (Value.ref h.objs.size))[i]? = _
        rw [Array.getElem?_push]
        by_cases e : i = b.size
        · rw [if_pos e, hsz, e, hbs]
        · rw [if_neg e]
          exact hb i (by omega)
      · by_cases e : i = j
        · subst e
          rw [hp] at hl'
          cases hl'
          refine ⟨{ cls := .type "tuple_iterator", data := .fields #[.ref l, .int 0 0] }, ?_, rfl, rfl⟩
          rw [← hsz]
          exact Heap.get?_push_size _ rfl
        · obtain ⟨o, e1, c⟩ := hit i l' (by omega) hl'
          exact ⟨o, Heap.get?_push_of_some _ e1, c⟩
  case last =>
    obtain ⟨hbs, hb, h, rfl, hsz, hk, hit⟩ := hb
    rw [List.length_map] at hbs hb hsz hit
    refine wpAny_pure (hQ h b.toList (by rw [Array.length_toList]; exact hbs) (fun i hi => by rw [Array.getElem?_toList]; exact hb i hi) hsz hk fun i l e => ?_)
    exact hit i l (List.getElem?_eq_some_iff.mp e).1 e

theorem zip_newN {ls : List Addr} {Q : Value → Shared → Prop} (h1 : 1 ≤ ls.length) (h2 : ls.length ≤ 4) (hl : ∀ l ∈ ls, ∃ xs, s.heap.IsTuple l xs)
    (hQ : ∀ h' n, n = s.heap.objs.size → ZSt h' (n + ls.length + 2) (n + ls.length) (n + ls.length + 1) (ls.zipIdx.map fun x => (n + x.2, x.1)) 0 → h'.objs.size = n + ls.length + 3 →
      (∀ c o, s.heap.get? c = some o → h'.get? c = some o) → Q (.ref (n + ls.length + 2)) { s with heap := h' }) :
    wpAny (model prog w) A (Builtin.«zip.__new__» ⟨.type "zip" :: ls.map Value.ref, []⟩) (fun fin s' => ∃ v, fin = .done (.ret v) ∧ Q v s') E s := by
  have hsub := sub_zip
  have hc : wpAny (model prog w) A (Builtin.SmallTypes.newClass "zip" ⟨.type "zip" :: ls.map Value.ref, []⟩) (fun r s' => r = (.type "zip", ls.map Value.ref) ∧ s' = s) E s := by
    unfold Builtin.SmallTypes.newClass
    wp_walk
    exact ⟨rfl, rfl⟩
  unfold Builtin.«zip.__new__»
  refine wpAny_bind (thn hc ?_)
  rintro _ _s ⟨rfl, rfl⟩
  show wpAny _ _ (Builtin.SmallTypes.iterAll (ls.map Value.ref) >>= _) _ _ _
  refine wpAny_bind (iterAll_tups hl fun h1' its hil hi hsz hk hit => ?_)
  have hsl : its.length ≤ sizeLine := by rw [hil, sizeLine_eq]; omega
  refine wpAny_bind (wpAny_newTuple ?_ hsl)
  refine wpAny_bind (wpAny_newTuple ?_ (by rw [List.length_map]; exact hsl))
  refine wpAny_bind ?_
  unfold Builtin.SmallTypes.newRecord
  refine wpAny_newObj_type ?_ (show (5 : Nat) ≤ sizeLine + 2 by rw [sizeLine_eq]; omega)
  refine wpAny_pure ⟨_, rfl, ?_⟩
  have z1 : (h1'.push (tObj its.toArray)).objs.size = h1'.objs.size + 1 := Heap.size_push ..
  have z2 : ((h1'.push (tObj its.toArray)).push (tObj (its.map fun _ => Value.none).toArray)).objs.size = h1'.objs.size + 2 := by rw [Heap.size_push, z1]
  have fin : Q (.ref ((h1'.push (tObj its.toArray)).push (tObj (its.map fun _ => Value.none).toArray)).objs.size)
      { _s with heap := ((h1'.push (tObj its.toArray)).push (tObj (its.map fun _ => Value.none).toArray)).push (zObj .none (.bool false) h1'.objs.size (h1'.push (tObj its.toArray)).objs.size) } := by
    rw [z2, z1, hsz]
    refine hQ _ _ rfl ⟨⟨.none, .bool false, ?_, .inl rfl⟩, ?_, ⟨(its.map fun _ => Value.none).toArray, ?_, ?_⟩, fun p hp => ?_⟩ ?_ fun c o e => Heap.get?_push_of_some _ (Heap.get?_push_of_some _ (Heap.get?_push_of_some _ (hk c o e)))
    · rw [← hsz, ← z2]
      exact Heap.get?_push_size _ rfl
    · have e : its = (ls.zipIdx.map fun x => (_s.heap.objs.size + x.2, x.1)).map fun p => Value.ref p.1 := by
        refine List.ext_getElem? fun i => ?_
        rw [List.map_map, List.getElem?_map, List.getElem?_zipIdx]
        by_cases hlt : i < ls.length
        · rw [hi i hlt, List.getElem?_eq_getElem hlt]
          simp
        · rw [List.getElem?_eq_none (by omega), List.getElem?_eq_none (by omega)]
          rfl
      rw [← e, ← hsz]
      exact Heap.get?_push_of_some _ (Heap.get?_push_of_some _ (Heap.get?_push_size _ rfl))
    · simp [hil]
    · rw [← hsz, ← z1]
      exact Heap.get?_push_of_some _ (Heap.get?_push_size _ rfl)
    · obtain ⟨x, hx, rfl⟩ := List.mem_map.mp hp
      obtain ⟨i, hxi⟩ := List.mem_iff_getElem?.mp hx
      rw [List.getElem?_zipIdx] at hxi
      cases hl' : ls[i]? with
      | none =>
        rw [hl'] at hxi
        cases hxi
      | some l =>
        rw [hl'] at hxi
        obtain rfl : (l, 0 + i) = x := Option.some.inj hxi
        obtain ⟨o, e, c⟩ := hit i l hl'
        refine ⟨o, ?_, c⟩
        show Heap.get? _ (_s.heap.objs.size + (0 + i)) = some o
        rw [Nat.zero_add]
        exact Heap.get?_push_of_some _ (Heap.get?_push_of_some _ (Heap.get?_push_of_some _ e))
    · rw [Heap.size_push, z2, hsz]
  exact fin
end
end DD
namespace DD
open PySem PySem.Spec PyProof.Rows L2

/-- the iterators that zip(*ls) makes at n -/
def zps (n : Nat) (ls : List Addr) : List (Addr × Addr) := ls.zipIdx.map fun x => (n + x.2, x.1)
theorem zps_length (n : Nat) (ls : List Addr) : (zps n ls).length = ls.length := by simp [zps]
theorem zps_get (n : Nat) (ls : List Addr) (j : Nat) : (zps n ls)[j]? = (ls[j]?).map fun a => (n + j, a) := by
  unfold zps
  rw [List.getElem?_map, List.getElem?_zipIdx]
  cases ls[j]? with
  | none => rfl
  | some a => simp
theorem zps_mem {n : Nat} {ls : List Addr} {p : Addr × Addr} (h : p ∈ zps n ls) : ∃ j, j < ls.length ∧ ls[j]? = some p.2 ∧ p.1 = n + j := by
  obtain ⟨j, hj⟩ := List.mem_iff_getElem?.mp h
  rw [zps_get] at hj
  cases e : ls[j]? with
  | none => rw [e] at hj; cases hj
  | some a =>
    rw [e] at hj
    obtain rfl : (n + j, a) = p := Option.some.inj hj
    exact ⟨j, (List.getElem?_eq_some_iff.mp e).1, e, rfl⟩
theorem nat5 {a b n j L : Nat} (h3 : b < n) (h4 : a = n + j) (hj : j < L) : a ≠ n + L + 2 ∧ a ≠ n + L ∧ a ≠ n + L + 1 ∧ b ≠ n + L + 2 ∧ b ≠ n + L + 1 := by omega
theorem nat6 {a b n i : Nat} (h3 : b < n) (h4 : a = n + i) : b ≠ a := by omega
theorem zapart {n : Nat} {ls : List Addr} (h : ∀ l ∈ ls, l < n) : ZApart (n + ls.length + 2) (n + ls.length) (n + ls.length + 1) (zps n ls) where
  tz := Nat.ne_of_lt (show (n : Nat) + ls.length < n + ls.length + 2 by omega)
  oz := Nat.ne_of_lt (show (n : Nat) + ls.length + 1 < n + ls.length + 2 by omega)
  it := Nat.ne_of_lt (show (n : Nat) + ls.length < n + ls.length + 1 by omega)
  nd := by
    have e : (zps n ls).map (·.1) = (List.range ls.length).map (n + ·) := by
      refine List.ext_getElem? fun i => ?_
      rw [List.getElem?_map, zps_get, List.getElem?_map]
      by_cases hi : i < ls.length
      · rw [List.getElem?_eq_getElem hi, List.getElem?_range hi]
        rfl
      · rw [List.getElem?_eq_none (by omega), List.getElem?_eq_none (by simp; omega)]
        rfl
    rw [e]
    exact List.Pairwise.map _ (fun a b h e => h (Nat.add_left_cancel e)) List.nodup_range
  pz := fun p hp => by
    obtain ⟨j, hj, e, ep⟩ := zps_mem hp
    exact nat5 (h p.2 (List.mem_of_getElem? e)) ep hj
  px := fun p hp q hq => by
    obtain ⟨j, hj, e, ep⟩ := zps_mem hp
    obtain ⟨i, hi, e2, ep2⟩ := zps_mem hq
    exact nat6 (h p.2 (List.mem_of_getElem? e)) ep2

section
variable {prog : Program} {w : World} {A : Around} {E : Value → Shared → Prop} {s : Shared}
theorem call_zipN {ls : List Addr} {Q : Value → Shared → Prop} (h1 : 1 ≤ ls.length) (h2 : ls.length ≤ 4) (hl : ∀ l ∈ ls, ∃ xs, s.heap.IsTuple l xs)
    (hQ : ∀ h' n, n = s.heap.objs.size → ZSt h' (n + ls.length + 2) (n + ls.length) (n + ls.length + 1) (zps n ls) 0 → h'.objs.size = n + ls.length + 3 →
      (∀ c o, s.heap.get? c = some o → h'.get? c = some o) → Q (.ref (n + ls.length + 2)) { s with heap := h' }) :
    wpAny (model prog w) A (call (.type "zip") (ls.map Value.ref)) Q E s := by
  have m : Meets (Builtin.«zip.__new__» ⟨.type "zip" :: ls.map Value.ref, []⟩) (fun _ R s => (∀ l ∈ ls, ∃ xs, s.heap.IsTuple l xs) ∧
      ∀ h' n, n = s.heap.objs.size → ZSt h' (n + ls.length + 2) (n + ls.length) (n + ls.length + 1) (zps n ls) 0 → h'.objs.size = n + ls.length + 3 →
        (∀ c o, s.heap.get? c = some o → h'.get? c = some o) → R (.ok (.ret (.ref (n + ls.length + 2)))) { s with heap := h' }) :=
    .of_wp fun prog w A R s h => zip_newN h1 h2 h.1 h.2
  refine callType_new F.called_zip (by decide) (typeCall_zipN _ (by simpa using h1) (by simpa using h2)) (newCall_zipN _ (by simpa using h1) (by simpa using h2))
    (fun obj => args_object_initN obj _ (by simpa using h1) (by simpa using h2)) F.entry_zip_new m ⟨hl, fun h' n e1 e2 e3 e4 => ?_⟩
  obtain ⟨f0, f1, hz, _⟩ := e2.zz
  exact ⟨⟨_, hz, rfl⟩, hQ h' n e1 e2 e3 e4⟩
theorem pyIter_zn {z TI TO : Addr} {ps : List (Addr × Addr)} {k : Nat} {Q : Value → Shared → Prop} (S : ZSt s.heap z TI TO ps k) (h : Q (.ref z) s) : wpAny (model prog w) A (pyIter (.ref z)) Q E s := by
  obtain ⟨f0, f1, hz, _⟩ := S.zz
  have hT : s.TypeIs (.ref z) "zip" := ⟨_, hz, rfl⟩
  refine wpAny_pyIter_slot hT F.slot_zip_iter (wpAny_call_entry F.slot_zip_iter hT F.entry_zip_iter ?_ (F.args_zip_iter_1 _))
  exact (show wpAny _ _ (ret (.ref z)) _ _ s from wpAny_pure ⟨_, rfl, "zip", _, hT, F.slot_zip_next.lookup, h⟩)
end

/-- the tuples at ls hold rows, all of length m -/
structure Rws (K : PySem.W.Frag) (H : Hp) (ls : List Addr) (rows : List (List V)) (m : Nat) : Prop where
  len : ls.length = rows.length
  at_ : ∀ (j : Nat) (a : Addr) (r : List V), ls[j]? = some a → rows[j]? = some r → SqT K H a r ∧ r.length = m
def colV (rows : List (List V)) (i : Nat) : List V := rows.map fun r => r.getD i .non
def ItzN (K : PySem.W.Frag) (ls : List Addr) (rows : List (List V)) (m : Nat) : It :=
  ⟨fun i H => i < m ∧ Rws K H ls rows m, fun i H v H' => ∃ T, v = .ref T ∧ H T = none ∧ H' = upd H T (.tup (colV rows i)), fun i H => i = m ∧ Rws K H ls rows m⟩

theorem Rws.vals {X : Cx} {pins : List (Addr × Obj)} {σ : L2.St} {H : Hp} {s : Shared} {m i : Nat} (I : Inv X pins σ H s) (hi : i < m) : ∀ {ls : List Addr} {rows : List (List V)}, Rws X.K H ls rows m →
    ∃ us : List Value, Vals (colV rows i) us ∧ ∀ (j : Nat) (a : Addr), ls[j]? = some a → ∃ xs, s.heap.IsTuple a xs ∧ xs[i]? = us[j]?
  | [], [], _ => ⟨[], .nil, fun j a e => by simp at e⟩
  | [], _ :: _, R => by have := R.len; simp at this
  | _ :: _, [], R => by have := R.len; simp at this
  | a :: ls, r :: rows, R => by
    obtain ⟨us, h1, h2⟩ := Rws.vals I hi (ls := ls) (rows := rows) ⟨by have := R.len; simpa using this, fun j a' r' e1 e2 => R.at_ (j + 1) a' r' e1 e2⟩
    obtain ⟨q, hl⟩ := R.at_ 0 a r rfl rfl
    obtain ⟨its, rv, p, _⟩ := I.tuple q
    have hr : r[i]? = some (r.getD i .non) := by
      rw [List.getD_eq_getElem?_getD, List.getElem?_eq_getElem (by omega)]
      rfl
    obtain ⟨u, hu, ru⟩ := rv.get hr
    obtain ⟨o, ho, hc, n, hd⟩ := p
    refine ⟨u :: us, .cons ru h1, fun j a' e => ?_⟩
    cases j with
    | zero =>
      obtain rfl : a = a' := Option.some.inj e
      exact ⟨its.toArray, ⟨o, ho, hc, n, hd⟩, by simpa using hu⟩
    | succ j => exact h2 j a' e

theorem turn_zn {P : Program} {w : World} {K : PySem.W.Frag} {x : Str} {xp : Pos} {n m : Nat} {ls : List Addr} {rows : List (List V)} (h1 : 1 ≤ ls.length) (h2 : ls.length ≤ 4) (hlt : ∀ l ∈ ls, l < n) :
    Turn P w K (.Name x xp) (ItzN K ls rows m) ((n + ls.length + 2) :: (n + ls.length) :: (n + ls.length + 1) :: (zps n ls).map (·.1)) (n + ls.length + 2)
      (fun i h => ZSt h (n + ls.length + 2) (n + ls.length) (n + ls.length + 1) (zps n ls) i) where
  mem := List.mem_cons_self
  obj := fun i h S b hb => by
    obtain ⟨⟨f0, f1, hz, _⟩, hTI, ⟨arr, _, hTO⟩, hits⟩ := S
    rcases List.mem_cons.mp hb with rfl | hb
    · exact ⟨_, hz, fun v q => nomatch q⟩
    rcases List.mem_cons.mp hb with rfl | hb
    · exact ⟨_, hTI, fun v q => nomatch q⟩
    rcases List.mem_cons.mp hb with rfl | hb
    · exact ⟨_, hTO, fun v q => nomatch q⟩
    obtain ⟨p, hp, rfl⟩ := List.mem_map.mp hb
    obtain ⟨o, e, _, d⟩ := hits p hp
    exact ⟨o, e, fun v q => by rw [d] at q; cases q⟩
  keep := fun i h h' S k => by
    obtain ⟨⟨f0, f1, hz, hf⟩, hTI, ⟨arr, ha, hTO⟩, hits⟩ := S
    refine ⟨⟨f0, f1, k _ (by simp) _ hz, hf⟩, k _ (by simp) _ hTI, ⟨arr, ha, k _ (by simp) _ hTO⟩, fun p hp => ?_⟩
    obtain ⟨o, e, c⟩ := hits p hp
    exact ⟨o, k _ (by
      refine List.mem_cons_of_mem _ (List.mem_cons_of_mem _ (List.mem_cons_of_mem _ ?_))
      exact List.mem_map_of_mem hp) _ e, c⟩
  item := by
    intro X hP hw hK hc i pins s σ H E I hf S hg
    subst hP hw hK
    obtain ⟨hi, R⟩ := hg
    obtain ⟨us, hv, hx⟩ := R.vals I hi
    have hul : us.length = ls.length := by rw [← hv.length, R.len]; simp [colV]
    have D := zapart hlt
    refine pyNext_zn_item D (by rw [zps_length]; exact h1) (by rw [zps_length]; omega) S (vs := us) (by rw [zps_length]; exact hul) (fun j p e => ?_) fun h' S' hT hsz hk => ?_
    · rw [zps_get] at e
      cases ea : ls[j]? with
      | none => rw [ea] at e; cases e
      | some a =>
        rw [ea] at e
        obtain rfl : (n + j, a) = p := Option.some.inj e
        exact hx j a ea
    · refine ⟨_, rfl, ?_⟩
      have hcl : (colV rows i).length ≤ sizeLine := by
        rw [hv.length, hul, sizeLine_eq]
        omega
      have new : ObjOk X.prog X.w (upd H s.heap.objs.size (.tup (colV rows i))) h' s.heap.objs.size (.tup (colV rows i)) := ⟨hcl, us, hv, ⟨_, hT, rfl, _, rfl⟩⟩
      have I1 : Inv X pins σ (upd H s.heap.objs.size (.tup (colV rows i))) { s with heap := h' } :=
        I.turnedNew (t' := s.toks) (fun c o hb q => hk c o (fun z => hb (by simp [z])) (fun z => hb (by simp [z])) (fun p hp z => hb (by
          refine List.mem_cons_of_mem _ (List.mem_cons_of_mem _ (List.mem_cons_of_mem _ ?_))
          rw [z]
          exact List.mem_map_of_mem hp)) q) hf (Nat.le_refl _) new
      show wpAny _ _ (pure ()) _ _ _
      refine wpAny_pure ⟨.ref s.heap.objs.size, _, I1, rfl, ⟨_, rfl, I.hok.fresh (Nat.le_refl _), rfl⟩, S', fun c hcm => ?_⟩
      obtain ⟨o, ho, _⟩ : ∃ o, s.heap.get? c = some o ∧ True := by
        obtain ⟨⟨f0, f1, hz, _⟩, hTI, ⟨arr, _, hTO⟩, hits⟩ := S
        rcases List.mem_cons.mp hcm with rfl | hcm
        · exact ⟨_, hz, trivial⟩
        rcases List.mem_cons.mp hcm with rfl | hcm
        · exact ⟨_, hTI, trivial⟩
        rcases List.mem_cons.mp hcm with rfl | hcm
        · exact ⟨_, hTO, trivial⟩
        obtain ⟨p, hp, rfl⟩ := List.mem_map.mp hcm
        obtain ⟨o, e, _⟩ := hits p hp
        exact ⟨o, e, trivial⟩
      rw [upd_ne (Nat.ne_of_lt (Heap.lt_size ho))]
      exact (hf c hcm).1
  done := by
    intro X hP hw hK hc i pins s σ H E I hf S hg
    subst hP hw hK
    obtain ⟨rfl, R⟩ := hg
    cases hls : ls with
    | nil => rw [hls] at h1; simp at h1
    | cons a r =>
      cases hrw : rows with
      | nil => have := R.len; rw [hls, hrw] at this; simp at this
      | cons q rr =>
        obtain ⟨hq, hl⟩ := R.at_ 0 a q (by rw [hls]; rfl) (by rw [hrw]; rfl)
        obtain ⟨its, rv, ⟨o, ho, hc', n', hd⟩, _⟩ := I.tuple hq
        have hps : zps n ls = (n, a) :: (zps n ls).tail := by
          rw [hls]
          simp [zps]
        rw [← hls]
        refine pyNext_zn_end (I.ok.hd hc) (zapart hlt) S hps (xs := its.toArray) ⟨o, ho, hc', n', hd⟩ ?_ fun h' hk => ⟨rfl, ?_⟩
        · have := rv.length
          rw [List.getElem?_toArray, List.getElem?_eq_none (by omega)]
        · exact I.turnedL (t' := s.toks) (fun c o hb q => hk c o (fun z => hb (by simp [z])) (fun z => hb (by simp [z])) (fun p hp z => hb (by
            refine List.mem_cons_of_mem _ (List.mem_cons_of_mem _ (List.mem_cons_of_mem _ ?_))
            rw [z]
            exact List.mem_map_of_mem hp)) q) hf
  self := fun A i s Q E S h => pyIter_zn S h

/-- for x in zip(*e), e a list or tuple of one to four tuples of one length -/
def iZipS (K : PySem.W.Frag) (te : TE) : TI := fun σ H R => te σ H fun y H1 => ∃ (a : Addr) (ls : List Addr) (rows : List (List V)) (m : Nat), y = .ref a ∧ (SqT K H1 a (ls.map V.ref) ∨ SqL K H1 a (ls.map V.ref)) ∧
  1 ≤ ls.length ∧ ls.length ≤ 4 ∧ Rws K H1 ls rows m ∧ R (ItzN K ls rows m) H1
theorem vals_refs : ∀ {ls : List Addr} {us : List Value}, Vals (ls.map V.ref) us → us = ls.map Value.ref
  | [], _, .nil => rfl
  | a :: ls, _, .cons r t => by
    cases r
    rw [vals_refs t]
    rfl
theorem pi_zipS {X : Cx} {e : Expr} {te : TE} {p pos spos xp : Pos} {x : Str} (hg : Gl X "zip") (hm : X.mg "zip" = none) (he : PE X e te)
    (hst : starEach [.Starred e spos] X.env = [(true, eval e X.env)] := by rfl) :
    PI X (.Name x xp) (.Call (.Name "zip" p) [.Starred e spos] [] pos) (iZipS X.K te) := by
  refine ⟨fun pins s σ H R I h => ?_⟩
  refine wpAny_Call_Name_kw (ld_blt I hg hm PyProof.Rows.boot_zip ?_)
  rw [hst]
  refine PySem.W.ks_call (P := fun _ => True) rfl (fun h _ => ⟨.machine, .inr (.inl rfl), fun A Q E s _ q => wpAny_pure q⟩) (PySem.W.ks_lone ?_)
  refine thn (he.run pins s σ H _ I h) fun v s1 ⟨y, H1, I1, ry, a, ls, rows, m, ey, hx, h1, h2, Rw, q⟩ => ?_
  subst ey
  obtain rfl : v = Value.ref a := ry
  refine StX.star_any I1 hx fun us s2 I2 rv => ⟨trivial, ?_⟩
  obtain rfl := vals_refs rv
  have tup : ∀ l ∈ ls, ∃ xs, s2.heap.IsTuple l xs := fun l hl => by
    obtain ⟨j, hj⟩ := List.mem_iff_getElem?.mp hl
    have hjl := (List.getElem?_eq_some_iff.mp hj).1
    have hjr : rows[j]? = some (rows[j]'(by have := Rw.len; omega)) := List.getElem?_eq_getElem (by have := Rw.len; omega)
    obtain ⟨its, _, ⟨o, ho, hc, n, hd⟩, _⟩ := I2.tuple (Rw.at_ j l _ hj hjr).1
    exact ⟨its.toArray, o, ho, hc, n, hd⟩
  refine call_zipN h1 h2 tup fun h' n en S hsz hk => ?_
  have I3 : Inv X pins σ H1 { s2 with heap := h' } := I2.kept (t' := s2.toks) hk
  have hlt : ∀ l ∈ ls, l < n := fun l hl => by
    obtain ⟨xs, o, ho, _⟩ := tup l hl
    rw [en]
    exact Heap.lt_size ho
  refine pyIter_zn (s := { s2 with heap := h' }) S ⟨n + ls.length + 2, _, _, _, H1, rfl, I3, turn_zn h1 h2 hlt, S, fun b hb => ?_, q⟩
  have hle : s2.heap.objs.size ≤ b := by
    rw [← en]
    rcases List.mem_cons.mp hb with rfl | hb
    · omega
    rcases List.mem_cons.mp hb with rfl | hb
    · omega
    rcases List.mem_cons.mp hb with rfl | hb
    · omega
    obtain ⟨p, hp, rfl⟩ := List.mem_map.mp hb
    obtain ⟨j, _, _, e⟩ := zps_mem hp
    exact Nat.le_trans (Nat.le_add_right n j) (Nat.le_of_eq e.symm)
  have F := I2.fpOk hle (I2.hok.fresh hle)
  exact F
end DD
namespace DD
open PySem PySem.Spec PyProof.Rows L2
theorem draws_tup {prog : Program} {w : World} {A : Around} (hh : A.handled = none) (it t : Addr) (items : Array Value) (hne : t ≠ it) :
    Draws prog w A it [it, t] items.size (fun i v => items[i]? = some v) (fun i h => h.IsTupleIter it t i ∧ h.IsTuple t items) where
  live := fun i h S => by
    obtain ⟨⟨o, e, _⟩, _⟩ := S
    exact ⟨o, e⟩
  frame := fun i h h' S k => by
    obtain ⟨⟨o, e, c⟩, ⟨o2, e2, c2⟩⟩ := S
    exact ⟨⟨o, k it (by simp) o e, c⟩, ⟨o2, k t (by simp) o2 e2, c2⟩⟩
  item := fun i s Q E hi S hQ => by
    obtain ⟨S1, S2⟩ := S
    refine RZ.nextOf_tuple_item S1 S2 (x := items[i]) (by simp [hi]) fun h' hit hs => hQ _ h' s.toks (by simp [hi]) ⟨hit, ?_⟩ hs
    obtain ⟨o, e, c⟩ := S2
    exact ⟨o, (hs.2 _ hne).trans e, c⟩
  done := fun s Q E S hE => by
    obtain ⟨S1, S2⟩ := S
    exact RZ.nextOf_tuple_end hh S1 S2 (by simp) hE
theorem meets_enum_newT (l : Addr) (items : Array Value) : Meets (Builtin.«enumerate.__new__» ⟨[.type "enumerate", .ref l], []⟩) (fun _ R s => s.heap.IsTuple l items ∧
      R (.ok (.ret (.ref (s.heap.push { cls := .type "tuple_iterator", data := .fields #[.ref l, .int 0 0] }).objs.size)))
        { s with heap := (s.heap.push { cls := .type "tuple_iterator", data := .fields #[.ref l, .int 0 0] }).push { cls := .type "enumerate", data := .fields #[.none, .bool false, .ref s.heap.objs.size, rawInt 0, .none, .none] } }) :=
  .of_wp fun prog w A R s h => by
    obtain ⟨hp, g, d, tk, os⟩ := s
    obtain ⟨hT, h⟩ := h
    obtain ⟨oL, hoL, hcL, nL, hdL⟩ := id hT
    have hsub := sub_enumerate
    have hT' : Heap.IsTuple (Shared.heap ⟨hp, g, d, tk, os⟩) l items := hT
    wp_walk
    refine wpAny_stack_any fun st => wpAny_pure ?_
    split
    · rename_i c _ _ _ _ _
      cases (c == Value.type "enumerate")
      · wp_walk using wpAny_pyIter_tuple hT'
        exact ⟨_, rfl, h⟩
      · wp_walk using wpAny_pyIter_tuple hT'
        exact ⟨_, rfl, h⟩
    · wp_walk using wpAny_pyIter_tuple hT'
      exact ⟨_, rfl, h⟩
section
variable {prog : Program} {w : World} {A : Around} {E : Value → Shared → Prop} {s : Shared}
theorem call_enumT {l : Addr} {items : Array Value} {Q : Value → Shared → Prop} (hT : s.heap.IsTuple l items)
    (h : ∀ h', IsEnum h' (s.heap.objs.size + 1) s.heap.objs.size 0 .none → h'.IsTupleIter s.heap.objs.size l 0 →
      (∀ b o, s.heap.get? b = some o → h'.get? b = some o) → Q (.ref (s.heap.objs.size + 1)) { s with heap := h' }) :
    wpAny (model prog w) A (call (.type "enumerate") [.ref l]) Q E s := by
  refine callType_new F.called_enumerate (by decide) (F.typeCall_enumerate_1 _) (F.newCall_enumerate_1 _) (fun obj => F.args_object_init_2 obj _) F.entry_enumerate_new
    (meets_enum_newT l items) ⟨hT, ?_⟩
  have hz : (s.heap.push { cls := .type "tuple_iterator", data := .fields #[.ref l, .int 0 0] }).objs.size = s.heap.objs.size + 1 := Heap.size_push ..
  have he : IsEnum ((s.heap.push { cls := .type "tuple_iterator", data := .fields #[.ref l, .int 0 0] }).push
      { cls := .type "enumerate", data := .fields #[.none, .bool false, .ref s.heap.objs.size, rawInt 0, .none, .none] }) (s.heap.objs.size + 1) s.heap.objs.size 0 .none := by
    have q := Heap.get?_push_size (s.heap.push { cls := .type "tuple_iterator", data := .fields #[.ref l, .int 0 0] })
      (o := { cls := .type "enumerate", data := .fields #[.none, .bool false, .ref s.heap.objs.size, rawInt 0, .none, .none] }) rfl
    rw [hz] at q
    exact q
  show _ ∧ _
  rw [hz]
  exact ⟨⟨_, he, rfl⟩, h _ he ⟨_, Heap.get?_push_of_some _ (Heap.get?_push_size _ rfl), rfl, rfl⟩ fun b o x => Heap.get?_push_of_some _ (Heap.get?_push_of_some _ x)⟩
end

/-- the tuple at a, its items in new pairs, counted from c -/
def ItEnT (K : PySem.W.Frag) (a : Addr) (c : Int) : It :=
  ⟨fun i H => ∃ (xs : List V) (x : V), SqT K H a xs ∧ xs[i]? = some x,
    fun i H v H' => ∃ T x, v = .ref T ∧ H T = none ∧ H' = upd H T (.tup [.int (c + (i : Nat)), x]) ∧ ∀ xs, SqT K H a xs → xs[i]? = some x,
    fun i H => ∃ xs : List V, SqT K H a xs ∧ xs.length ≤ i⟩
theorem turn_enT {P : Program} {w : World} {K : PySem.W.Frag} {elts : List Expr} {kk : Nat} {tpos : Pos} (a e it : Addr) (c : Int) :
    Turn P w K (.Tuple elts kk tpos) (ItEnT K a c) [e, it] e (fun i h => (∃ old, IsEnum h e it (c + ((i : Nat) : Int)) old) ∧ h.IsTupleIter it a i ∧ e ≠ it) where
  mem := by simp
  obj := fun i h S b hb => by
    obtain ⟨⟨old, he⟩, ⟨o, ho, hc, hd⟩, _⟩ := S
    rcases List.mem_cons.mp hb with rfl | hb
    · exact ⟨_, he, fun v q => nomatch q⟩
    · rw [List.mem_singleton.mp hb]
      exact ⟨o, ho, fun v q => by rw [hd] at q; cases q⟩
  keep := fun i h h' S k => by
    obtain ⟨⟨old, he⟩, ⟨o, ho, r⟩, hne⟩ := S
    exact ⟨⟨old, k e (by simp) _ he⟩, ⟨o, k it (by simp) _ ho, r⟩, hne⟩
  item := by
    intro X hP hw hK hcalm i pins s σ H E I hf S hg
    subst hP hw hK
    obtain ⟨⟨old, he⟩, hit, hne⟩ := S
    obtain ⟨xs, x, hq, hx⟩ := hg
    obtain ⟨its, rv, ⟨oa, hoa, hca, na, hda⟩, _⟩ := I.tuple hq
    obtain ⟨u, hu, ru⟩ := rv.get hx
    obtain ⟨oi, hoi, hci, hdi⟩ := id hit
    have hai : a ≠ it := fun z => by
      rw [z, hoi] at hoa
      cases hoa
      rw [hca] at hci
      simp at hci
    have hea : e ≠ a := fun z => by
      have he2 := he
      unfold IsEnum at he2
      rw [z, hoa] at he2
      cases he2
      simp at hca
    have hef : e ∉ [it, a] := fun z => by
      rcases List.mem_cons.mp z with z | z
      · exact hne z
      · exact hea (List.mem_singleton.mp z)
    have hel : e < s.heap.objs.size := Heap.lt_size he
    have hil : it < s.heap.objs.size := Heap.lt_size hoi
    have D := draws_tup (prog := X.prog) (w := X.w) (A := X.A.in1) (I.ok.hd hcalm) it a its.toArray hai
    have hlt : i < its.toArray.size := by
      have := (List.getElem?_eq_some_iff.mp hu).1
      simpa using this
    refine wpAny_pyNext_enum_itemC D he ⟨hit, ⟨oa, hoa, hca, na, hda⟩⟩ hlt hne hef fun y h' tk hy ho hit' hT hsz hk => ?_
    obtain rfl : u = y := by
      have : its.toArray[i]? = some u := by simpa using hu
      rw [this] at hy
      exact Option.some.inj hy
    refine ⟨_, rfl, wpAny_letOwnedTupleGo_enum (s := { s with heap := h', toks := tk + 1 }) ho fun h'' he' sb => ?_⟩
    have hT2 : h''.get? s.heap.objs.size = some { cls := .type "tuple", data := .seq #[.int (c + (i : Nat)) tk, u] } := (sb.2 _ (Nat.ne_of_gt hel)).trans hT
    have new : ObjOk X.prog X.w (upd H s.heap.objs.size (.tup [.int (c + (i : Nat)), x])) h'' s.heap.objs.size (.tup [.int (c + (i : Nat)), x]) :=
      ⟨by show 2 ≤ sizeLine; decide, [.int (c + (i : Nat)) tk, u], .cons ⟨_, rfl⟩ (.cons ru .nil), ⟨_, hT2, rfl, _, rfl⟩⟩
    have I1 : Inv X pins σ (upd H s.heap.objs.size (.tup [.int (c + (i : Nat)), x])) { s with heap := h'', toks := tk + 1 } :=
      I.turnedNew (ch := [e, it]) (fun b ob hb q => (sb.2 b (fun z => hb (by simp [z]))).trans (hk b ob (fun z => hb (by simp [z])) (fun z => hb (by simp [z])) q)) hf (Nat.le_refl _) new
    obtain ⟨oi', hoi', r'⟩ := hit'.1
    refine ⟨.ref s.heap.objs.size, _, I1, rfl, ⟨_, x, rfl, I.hok.fresh (Nat.le_refl _), rfl, fun ys hy => by rw [I.tuple_inj hy hq]; exact hx⟩, ⟨⟨u, ?_⟩, ⟨oi', (sb.2 it (Ne.symm hne)).trans hoi', r'⟩, hne⟩, fun b hb => ?_⟩
    · have e1 : c + ((i + 1 : Nat) : Int) = c + (i : Int) + 1 := by omega
      rw [e1]
      exact he'
    · have hb' : b < s.heap.objs.size := by
        rcases List.mem_cons.mp hb with z | hb
        · rw [z]
          exact hel
        · rw [List.mem_singleton.mp hb]
          exact hil
      rw [upd_ne (Nat.ne_of_lt hb')]
      exact (hf b hb).1
  done := by
    intro X hP hw hK hcalm i pins s σ H E I hf S hg
    subst hP hw hK
    obtain ⟨⟨old, he⟩, hit, hne⟩ := S
    obtain ⟨xs, hq, hx⟩ := hg
    obtain ⟨its, rv, ⟨oa, hoa, hca, na, hda⟩, _⟩ := I.tuple hq
    obtain ⟨oi, hoi, hci, hdi⟩ := id hit
    have hl := rv.length
    obtain ⟨f0, f1, f2, f3, f4, f5⟩ := hf it (by simp)
    have hT : s.TypeIs (.ref e) "enumerate" := ⟨_, he, rfl⟩
    unfold pyNext
    refine wpAny_bind (wpAny_attempt (wpAny_callSpecial?_slot (name := Str.ofString "__next__") hT F.slot_enumerate_next
      (wpAny_call_entry F.slot_enumerate_next hT F.entry_enumerate_next ?_ (F.args_enumerate_next_1 _))))
    show wpAny _ _ (field (.ref e) 2 >>= _) _ _ _
    refine wpAny_bind (wpAny_field he rfl (x := .ref it) rfl ?_)
    refine wpAny_bind (RZ.nextOf_tuple_end (I.ok.hd hcalm) hit (show s.heap.IsTuple a its.toArray from ⟨oa, hoa, hca, na, hda⟩) (by simp; omega) fun h' y hy1 hy2 => ?_)
    obtain ⟨o, ho, hc⟩ := hy2
    exact wpAny_bind (wpAny_isInstance (T := "StopIteration") (b := true) ⟨o, ho, hc⟩ isSubtype_stop (wpAny_pure ⟨rfl, I.turned (t' := s.toks) (fun b o hb q => hy1 b o hb q) f0 f1 f3 f4 f5⟩))
  self := fun A i s Q E S h => by
    obtain ⟨⟨_, he⟩, _⟩ := S
    exact wpAny_pyIter_enum he h
def iEnumT (K : PySem.W.Frag) (ta : TA) : TI := fun σ H R => ta σ H fun vs H1 => ∃ a xs, vs = [.ref a] ∧ SqT K H1 a xs ∧ R (ItEnT K a 0) H1
theorem pi_enumT {X : Cx} {e : Expr} {ta : TA} {p pos tpos : Pos} {elts : List Expr} {kk : Nat} (hg : Gl X "enumerate") (hm : X.mg "enumerate" = none) (ha : PA X [e] ta)
    (hs : starEach [e] X.env = [(false, eval e X.env)] := by rfl) : PI X (.Tuple elts kk tpos) (.Call (.Name "enumerate" p) [e] [] pos) (iEnumT X.K ta) := by
  refine ⟨fun pins s σ H R I h => Call_ (ld_blt I hg hm boot_enumerate (PyProof.Rows.callWith_type1 (thn (ha.run pos pins s σ H _ I h) fun us s1 ⟨vs, H1, I1, r1, q1⟩ => ?_) hs rfl))⟩
  obtain ⟨a, xs, ex, hq, q⟩ := q1
  subst ex
  obtain ⟨u, rfl, ru⟩ := vals1 r1
  cases ru
  obtain ⟨its, rv, ⟨oa, hoa, hca, na, hda⟩, _⟩ := I1.tuple hq
  refine call_enumT (items := its.toArray) ⟨oa, hoa, hca, na, hda⟩ fun h' he hit hk => wpAny_pyIter_enum he ?_
  have I2 : Inv X pins σ H1 { s1 with heap := h' } := I1.kept (t' := s1.toks) hk
  refine ⟨s1.heap.objs.size + 1, [s1.heap.objs.size + 1, s1.heap.objs.size], _, _, H1, rfl, I2, turn_enT a (s1.heap.objs.size + 1) s1.heap.objs.size 0, ⟨⟨.none, he⟩, hit, Nat.succ_ne_self _⟩, fun b hb => ?_, q⟩
  have hle : s1.heap.objs.size ≤ b := by
    rcases List.mem_cons.mp hb with z | hb
    · rw [z]
      exact Nat.le_succ _
    · exact Nat.le_of_eq (List.mem_singleton.mp hb).symm
  exact I1.fpOk hle (I1.hok.fresh hle)
/-- a loop over enumerate(t) -/
theorem for_enT {K : PySem.W.Frag} {a : Addr} {xs : List V} {c : Int} {g : TG} {tb : TS} {D : Ends} {σ : L2.St} {H : Hp} (Pv : Nat → L2.St → Hp → Prop) (h0 : Pv 0 σ H) (hq : ∀ i σ H, i ≤ xs.length → Pv i σ H → SqT K H a xs)
    (hs : ∀ (i : Nat) (x : V) (T : Addr) (σ : L2.St) (H : Hp), xs[i]? = some x → Pv i σ H → H T = none →
      g (.ref T) σ (upd H T (.tup [.int (c + (i : Nat)), x])) fun σ2 H2 => tb { D with nx := Pv (i + 1), ct := Pv (i + 1), bk := D.nx } σ2 H2) (hd : ∀ σ H, Pv xs.length σ H → D.nx σ H) :
    ∃ W : Nat → Nat → L2.St → Hp → Prop, (∃ m, W 0 m σ H) ∧ ∀ i m σ H, W i m σ H → ((ItEnT K a c).stop i H ∧ D.nx σ H) ∨ ((ItEnT K a c).go i H ∧
      ∃ N : L2.St → Hp → Prop, (∀ σ' H', N σ' H' → ∃ m', m' < m ∧ W (i + 1) m' σ' H') ∧ ∀ v H', (ItEnT K a c).yld i H v H' →
        g v σ H' fun σ2 H2 => tb { D with nx := N, ct := N, bk := D.nx } σ2 H2) := by
  refine ⟨fun i m σ H => m = xs.length - i ∧ i ≤ xs.length ∧ Pv i σ H, ⟨xs.length, rfl, Nat.zero_le _, h0⟩, ?_⟩
  rintro i _ σ H ⟨rfl, hi, p⟩
  have q := hq i σ H hi p
  by_cases hlt : i < xs.length
  · have hx : xs[i]? = some xs[i] := List.getElem?_eq_getElem hlt
    refine .inr ⟨⟨xs, _, q, hx⟩, Pv (i + 1), fun σ' H' p' => ⟨xs.length - (i + 1), by omega, rfl, hlt, p'⟩, fun v H' y => ?_⟩
    obtain ⟨T, x', rfl, nT, rfl, f1⟩ := y
    exact hs i x' T σ H (f1 xs q) p nT
  · obtain rfl : i = xs.length := by omega
    exact .inl ⟨⟨xs, q, Nat.le_refl _⟩, hd σ H p⟩
end DD
namespace DD
open PySem PySem.Spec PyProof.Rows L2

/-! ### max and min of a tuple of ints -/
section
variable {prog : Program} {w : World} {A : Around} {E : Value → Shared → Prop} {s : Shared} {l : Addr} {xs : Array (Int × Tok)}
theorem max_intTup {Q : Value → Shared → Prop} (hh : A.handled = none) (hl : s.heap.IsTuple l (intItems xs)) (hne : 0 < xs.size)
    (h : ∀ v h' tk, (intItems xs)[argBest (fun i j => decide (numAt xs i > numAt xs j)) (xs.size - 1)]? = some v → (∀ b o, s.heap.get? b = some o → h'.get? b = some o) → Q v { s with heap := h', toks := tk }) :
    wpAny (model prog w) A (call (.builtin "max") [.ref l]) Q E s := by
  have hlt : l < s.heap.objs.size := by obtain ⟨_, e, _⟩ := hl; exact Heap.lt_size e
  refine call_max_walk (wpAny_pyIter_tuple hl ?_)
  refine ⟨_, _, _, _, _, _, _, rfl, Walks.tuple (A := A.in1) hh _ l (Nat.ne_of_lt hlt) (intItems xs), ⟨⟨_, Heap.get?_push_size _ rfl, rfl, rfl⟩, hl.push _⟩, fun b hb => ?_, by simpa [intItems] using hne, CmpOf.ints_gt (numAt xs) (fun _ _ => intItems_at), fun v h' tk hP hk => ?_⟩
  · show b < (s.heap.push _).objs.size
    rw [Heap.size_push]
    rcases List.mem_cons.mp hb with rfl | hb
    · exact Nat.lt_succ_self _
    · rcases List.mem_cons.mp hb with rfl | hb
      · exact Nat.lt_succ_of_lt hlt
      · cases hb
  · refine h v h' tk (by simpa [intItems] using hP) fun b o e => hk b o (fun hm => ?_) (Heap.get?_push_of_some _ e)
    rcases List.mem_cons.mp hm with e1 | hm
    · exact absurd (e1 ▸ Heap.lt_size e) (Nat.lt_irrefl _)
    · cases hm
theorem min_intTup {Q : Value → Shared → Prop} (hh : A.handled = none) (hl : s.heap.IsTuple l (intItems xs)) (hne : 0 < xs.size)
    (h : ∀ v h' tk, (intItems xs)[argBest (fun i j => decide (numAt xs i < numAt xs j)) (xs.size - 1)]? = some v → (∀ b o, s.heap.get? b = some o → h'.get? b = some o) → Q v { s with heap := h', toks := tk }) :
    wpAny (model prog w) A (call (.builtin "min") [.ref l]) Q E s := by
  have hlt : l < s.heap.objs.size := by obtain ⟨_, e, _⟩ := hl; exact Heap.lt_size e
  refine call_min_walk (wpAny_pyIter_tuple hl ?_)
  refine ⟨_, _, _, _, _, _, _, rfl, Walks.tuple (A := A.in1) hh _ l (Nat.ne_of_lt hlt) (intItems xs), ⟨⟨_, Heap.get?_push_size _ rfl, rfl, rfl⟩, hl.push _⟩, fun b hb => ?_, by simpa [intItems] using hne, CmpOf.ints_lt (numAt xs) (fun _ _ => intItems_at), fun v h' tk hP hk => ?_⟩
  · show b < (s.heap.push _).objs.size
    rw [Heap.size_push]
    rcases List.mem_cons.mp hb with rfl | hb
    · exact Nat.lt_succ_self _
    · rcases List.mem_cons.mp hb with rfl | hb
      · exact Nat.lt_succ_of_lt hlt
      · cases hb
  · refine h v h' tk (by simpa [intItems] using hP) fun b o e => hk b o (fun hm => ?_) (Heap.get?_push_of_some _ e)
    rcases List.mem_cons.mp hm with e1 | hm
    · exact absurd (e1 ▸ Heap.lt_size e) (Nat.lt_irrefl _)
    · cases hm
end
theorem ints_of_valsT : ∀ {ns : List Int} {us : List Value}, Vals (ns.map V.int) us → PyProof.Rows.IntsAre us ns
  | [], _, h => by
    cases h
    exact .nil
  | n :: ns, _, h => by
    cases h with
    | cons r t =>
      obtain ⟨k, rfl⟩ := r
      exact .cons n k (ints_of_valsT t)
def rMaxT (K : PySem.W.Frag) : List V → Hp → VK → Prop := fun vs H Q => ∃ (a : Addr) (ns : List Int), vs = [V.ref a] ∧ SqT K H a (ns.map V.int) ∧ 0 < ns.length ∧ ∀ m, m ∈ ns → (∀ y, y ∈ ns → y ≤ m) → Q (.int m) H
def rMinT (K : PySem.W.Frag) : List V → Hp → VK → Prop := fun vs H Q => ∃ (a : Addr) (ns : List Int), vs = [V.ref a] ∧ SqT K H a (ns.map V.int) ∧ 0 < ns.length ∧ ∀ m, m ∈ ns → (∀ y, y ∈ ns → m ≤ y) → Q (.int m) H
theorem cr_maxT {X : Cx} (hc : X.calm = true) : CallR X (.builtin "max") (rMaxT X.K) := by
  intro pins s σ H vs us Q I r h
  obtain ⟨a, ns, rfl, hq, hne, q⟩ := h
  obtain ⟨u, rfl, ru⟩ := vals1 r
  cases ru
  obtain ⟨its, rv, ⟨o, ho, hcl, n, hd⟩, _⟩ := I.tuple hq
  have ia := ints_of_valsT rv
  obtain ⟨xs, e⟩ := ia.allInts.items
  have hn : numsOf (intItems xs).toList = ns := by rw [← e]; exact ia.numsOf
  rw [nums_intItems] at hn
  have ht : s.heap.IsTuple a (intItems xs) := by rw [← e]; exact ⟨o, ho, hcl, n, hd⟩
  subst hn
  have hsz : 0 < xs.size := by simpa using hne
  refine max_intTup (I.ok.hd hc) ht hsz fun v h' tk hv hk => ?_
  obtain ⟨t, rfl⟩ := intItems_at hv
  obtain ⟨h1, h2⟩ := argBest_gt (numAt xs) (xs.size - 1)
  refine ⟨.int _, H, I.kept hk, ⟨_, rfl⟩, q _ ?_ fun a ha => ?_⟩
  · rw [numAt_eq]; exact PySem.getD_mem (by rw [List.length_map, Array.length_toList]; omega)
  · obtain ⟨j, hj, rfl⟩ := mem_getD ha
    rw [List.length_map, Array.length_toList] at hj
    rw [← numAt_eq]; exact h2 j (by omega)
theorem cr_minT {X : Cx} (hc : X.calm = true) : CallR X (.builtin "min") (rMinT X.K) := by
  intro pins s σ H vs us Q I r h
  obtain ⟨a, ns, rfl, hq, hne, q⟩ := h
  obtain ⟨u, rfl, ru⟩ := vals1 r
  cases ru
  obtain ⟨its, rv, ⟨o, ho, hcl, n, hd⟩, _⟩ := I.tuple hq
  have ia := ints_of_valsT rv
  obtain ⟨xs, e⟩ := ia.allInts.items
  have hn : numsOf (intItems xs).toList = ns := by rw [← e]; exact ia.numsOf
  rw [nums_intItems] at hn
  have ht : s.heap.IsTuple a (intItems xs) := by rw [← e]; exact ⟨o, ho, hcl, n, hd⟩
  subst hn
  have hsz : 0 < xs.size := by simpa using hne
  refine min_intTup (I.ok.hd hc) ht hsz fun v h' tk hv hk => ?_
  obtain ⟨t, rfl⟩ := intItems_at hv
  obtain ⟨h1, h2⟩ := argBest_lt (numAt xs) (xs.size - 1)
  refine ⟨.int _, H, I.kept hk, ⟨_, rfl⟩, q _ ?_ fun a ha => ?_⟩
  · rw [numAt_eq]; exact PySem.getD_mem (by rw [List.length_map, Array.length_toList]; omega)
  · obtain ⟨j, hj, rfl⟩ := mem_getD ha
    rw [List.length_map, Array.length_toList] at hj
    rw [← numAt_eq]; exact h2 j (by omega)
end DD
namespace DD
open PySem PySem.Spec PyProof.Rows L2 RZ

/-! ### for x in zip(a, b), two tuples of one length, the pair taken whole -/
def iZipP (K : PySem.W.Frag) (ta : TA) : TI := fun σ H R => ta σ H fun vs H1 => ∃ (a b : Addr) (xs ys : List V), vs = [.ref a, .ref b] ∧ SqT K H1 a xs ∧ SqT K H1 b ys ∧ xs.length = ys.length ∧ R (ItzN K [a, b] [xs, ys] xs.length) H1
theorem pi_zipP {X : Cx} {e e2 : Expr} {ta : TA} {p pos xp : Pos} {x : Str} (hg : Gl X "zip") (hm : X.mg "zip" = none) (ha : PA X [e, e2] ta)
    (hs : starEach [e, e2] X.env = (false, eval e X.env) :: starEach [e2] X.env := by rfl) (hpl : (backTo pos (starEach [e2] X.env)).any (·.1) = false := by rfl) :
    PI X (.Name x xp) (.Call (.Name "zip" p) [e, e2] [] pos) (iZipP X.K ta) := by
  refine ⟨fun pins s σ H R I h => ?_⟩
  refine Call_ (ld_blt I hg hm PyProof.Rows.boot_zip (PyProof.Rows.callWith_type1 (thn (ha.run pos pins s σ H _ I h) fun us s2 ⟨vs, H1, I2, r1, q1⟩ => ?_) hs hpl))
  obtain ⟨a, b, xs, ys, ex, hx, hy, hl, q⟩ := q1
  subst ex
  obtain rfl := vals_refs (ls := [a, b]) r1
  have Rw : Rws X.K H1 [a, b] [xs, ys] xs.length := ⟨rfl, fun j l r e1 e2 => by
    match j, e1, e2 with
    | 0, e1, e2 => cases e1; cases e2; exact ⟨hx, rfl⟩
    | 1, e1, e2 => cases e1; cases e2; exact ⟨hy, hl.symm⟩⟩
  have h1 : 1 ≤ [a, b].length := by simp
  have h2 : [a, b].length ≤ 4 := by simp
  have tup : ∀ l ∈ [a, b], ∃ xs, s2.heap.IsTuple l xs := fun l hl => by
    obtain ⟨j, hj⟩ := List.mem_iff_getElem?.mp hl
    have hjl := (List.getElem?_eq_some_iff.mp hj).1
    have hjr : [xs, ys][j]? = some ([xs, ys][j]'(by have := Rw.len; omega)) := List.getElem?_eq_getElem (by have := Rw.len; omega)
    obtain ⟨its, _, ⟨o, ho, hc, n, hd⟩, _⟩ := I2.tuple (Rw.at_ j l _ hj hjr).1
    exact ⟨its.toArray, o, ho, hc, n, hd⟩
  refine call_zipN h1 h2 tup fun h' n en S hsz hk => ?_
  have I3 : Inv X pins σ H1 { s2 with heap := h' } := I2.kept (t' := s2.toks) hk
  have hlt : ∀ l ∈ [a, b], l < n := fun l hl => by
    obtain ⟨xs, o, ho, _⟩ := tup l hl
    rw [en]
    exact Heap.lt_size ho
  refine pyIter_zn (s := { s2 with heap := h' }) S ⟨n + [a, b].length + 2, _, _, _, H1, rfl, I3, turn_zn h1 h2 hlt, S, fun b' hb => ?_, q⟩
  have hle : s2.heap.objs.size ≤ b' := by
    rw [← en]
    rcases List.mem_cons.mp hb with rfl | hb
    · omega
    rcases List.mem_cons.mp hb with rfl | hb
    · omega
    rcases List.mem_cons.mp hb with rfl | hb
    · omega
    obtain ⟨p, hp, rfl⟩ := List.mem_map.mp hb
    obtain ⟨j, _, _, e⟩ := zps_mem hp
    exact Nat.le_trans (Nat.le_add_right n j) (Nat.le_of_eq e.symm)
  exact I2.fpOk hle (I2.hok.fresh hle)

/-- a comprehension over zip of two tuples of one length -/
theorem lc_zipT {K : PySem.W.Frag} {a b : Addr} {xs ys : List V} {g : TG} {tt : TT} {te : TE} {vs : List Nat} {σ : L2.St} {H1 : Hp} {D : Addr} {Qd : Hp → Prop} (hl : xs.length = ys.length)
    (Pv : Nat → Hp → Prop) (h0 : Pv 0 (upd H1 D (.lst []))) (hq : ∀ i H, i ≤ xs.length → Pv i H → SqT K H a xs ∧ SqT K H b ys)
    (hs : ∀ i x y T H, xs[i]? = some x → ys[i]? = some y → Pv i H → H T = none → g (.ref T) (wipe σ vs) (upd H T (.tup [x, y])) fun σ2 H2 => wipe σ2 vs = wipe σ vs ∧ tt σ2 H2 fun b H3 =>
      if b = true then (te σ2 H3 fun y H4 => ∃ acc, H4 D = some (.lst acc) ∧ acc.length < sizeLine ∧ Pv (i + 1) (upd H4 D (.lst (acc ++ [y])))) else Pv (i + 1) H3) (hd : ∀ H, Pv xs.length H → Qd H) :
    ∃ W : Nat → Nat → Hp → Prop, (∃ m, W 0 m (upd H1 D (.lst []))) ∧ ∀ i m0 H, W i m0 H → ((ItzT K a b).stop i H ∧ Qd H) ∨ ((ItzT K a b).go i H ∧
      ∃ Nx : Hp → Prop, (∀ H', Nx H' → ∃ m', m' < m0 ∧ W (i + 1) m' H') ∧ ∀ x H', (ItzT K a b).yld i H x H' → g x (wipe σ vs) H' fun σ2 H2 => wipe σ2 vs = wipe σ vs ∧
        tt σ2 H2 fun b H3 => if b = true then (te σ2 H3 fun y H4 => ∃ acc, H4 D = some (.lst acc) ∧ acc.length < sizeLine ∧ Nx (upd H4 D (.lst (acc ++ [y])))) else Nx H3) := by
  refine ⟨fun i m0 H => m0 = xs.length - i ∧ i ≤ xs.length ∧ Pv i H, ⟨xs.length, by simp, Nat.zero_le _, h0⟩, ?_⟩
  rintro i _ H ⟨rfl, hi, p⟩
  obtain ⟨qx, qy⟩ := hq i H hi p
  by_cases hlt : i < xs.length
  · have hx : xs[i]? = some xs[i] := List.getElem?_eq_getElem hlt
    have hlt2 : i < ys.length := by omega
    have hy : ys[i]? = some ys[i] := List.getElem?_eq_getElem hlt2
    refine .inr ⟨⟨xs, ys, _, _, qx, qy, hx, hy⟩, Pv (i + 1), fun H' p' => ⟨xs.length - (i + 1), by omega, rfl, hlt, p'⟩, fun v H' y => ?_⟩
    obtain ⟨T, x', y', rfl, hT, rfl, f1, f2⟩ := y
    exact hs i x' y' T H (f1 xs qx) (f2 ys qy) p hT
  · have e : i = xs.length := by omega
    subst e
    exact .inl ⟨⟨xs, ys, qx, qy, Or.inl (Nat.le_refl _)⟩, hd H p⟩
/-- a comprehension over zip(*..) of tuples of one length -/
theorem lc_zipN {K : PySem.W.Frag} {ls : List Addr} {rows : List (List V)} {m : Nat} {g : TG} {tt : TT} {te : TE} {vs : List Nat} {σ : L2.St} {H1 : Hp} {D : Addr} {Qd : Hp → Prop}
    (Pv : Nat → Hp → Prop) (h0 : Pv 0 (upd H1 D (.lst []))) (hl : ∀ i H, i ≤ m → Pv i H → Rws K H ls rows m)
    (hs : ∀ i T H, i < m → Pv i H → H T = none → g (.ref T) (wipe σ vs) (upd H T (.tup (colV rows i))) fun σ2 H2 => wipe σ2 vs = wipe σ vs ∧ tt σ2 H2 fun b H3 =>
      if b = true then (te σ2 H3 fun y H4 => ∃ acc, H4 D = some (.lst acc) ∧ acc.length < sizeLine ∧ Pv (i + 1) (upd H4 D (.lst (acc ++ [y])))) else Pv (i + 1) H3) (hd : ∀ H, Pv m H → Qd H) :
    ∃ W : Nat → Nat → Hp → Prop, (∃ m, W 0 m (upd H1 D (.lst []))) ∧ ∀ i m0 H, W i m0 H → ((ItzN K ls rows m).stop i H ∧ Qd H) ∨ ((ItzN K ls rows m).go i H ∧
      ∃ Nx : Hp → Prop, (∀ H', Nx H' → ∃ m', m' < m0 ∧ W (i + 1) m' H') ∧ ∀ x H', (ItzN K ls rows m).yld i H x H' → g x (wipe σ vs) H' fun σ2 H2 => wipe σ2 vs = wipe σ vs ∧
        tt σ2 H2 fun b H3 => if b = true then (te σ2 H3 fun y H4 => ∃ acc, H4 D = some (.lst acc) ∧ acc.length < sizeLine ∧ Nx (upd H4 D (.lst (acc ++ [y])))) else Nx H3) := by
  refine ⟨fun i m0 H => m0 = m - i ∧ i ≤ m ∧ Pv i H, ⟨m, by simp, Nat.zero_le _, h0⟩, ?_⟩
  rintro i _ H ⟨rfl, hi, p⟩
  have q := hl i H hi p
  by_cases hlt : i < m
  · refine .inr ⟨⟨hlt, q⟩, Pv (i + 1), fun H' p' => ⟨m - (i + 1), by omega, rfl, hlt, p'⟩, fun x H' y => ?_⟩
    obtain ⟨T, rfl, nT, rfl⟩ := y
    exact hs i T H hlt p nT
  · obtain rfl : i = m := by omega
    exact .inl ⟨⟨rfl, q⟩, hd H p⟩

end DD
namespace DD
open PySem PySem.Spec PyProof.Rows L2 RZ
theorem walk_enT {K : PySem.W.Frag} {a : Addr} {xs : List V} {c : Int} : Walk (ItEnT K a c) xs.length (fun H => SqT K H a xs) (YPair (fun i => some (.int (c + (i : Nat)))) (fun i => xs[i]?)) := by
  refine ⟨fun i _ hi q => ⟨xs, xs[i], q, by simp [hi]⟩, fun _ q => ⟨xs, q, Nat.le_refl _⟩, fun i H v H' _ q y => ?_⟩
  obtain ⟨T, x, h1, h2, h3, h4⟩ := y
  exact ⟨T, .int (c + (i : Nat)), x, h1, h2, h3, rfl, h4 xs q⟩

/-! ### two clauses in one comprehension -/
section
variable {J J1 : It} {n n1 : Nat} {G G1 : Hp → Prop} {Y Y1 : Nat → Hp → V → Hp → Prop}
theorem lc2_it (w : Walk J n G Y) {g g1 : TG} {tt tt1 : TT} {te : TE} {wi1 : TI} {vs vs1 : List Nat} {σ : L2.St} {H1 : Hp} {D : Addr} {Qd : Hp → Prop} (Pv : Nat → Hp → Prop) (h0 : Pv 0 (upd H1 D (.lst []))) (hG : ∀ i H, i ≤ n → Pv i H → G H)
    (hs : ∀ i x H H', i < n → Pv i H → Y i H x H' → g x (wipe σ vs) H' fun σ2 H2 => wipe σ2 vs = wipe σ vs ∧ tt σ2 H2 fun b H3 =>
      if b = true then wi1 σ2 H3 fun J1 H4 => ∃ W1 : Nat → Nat → Hp → Prop, (∃ m, W1 0 m H4) ∧ ∀ j k H, W1 j k H →
      (J1.stop j H ∧ Pv (i + 1) H) ∨ (J1.go j H ∧ ∃ Nx1 : Hp → Prop, (∀ H', Nx1 H' → ∃ k', k' < k ∧ W1 (j + 1) k' H') ∧ ∀ x H', J1.yld j H x H' → g1 x (wipe σ2 vs1) H' fun σ3 H5 => wipe σ3 vs1 = wipe σ2 vs1 ∧ tt1 σ3 H5 fun b H6 =>
        if b = true then te σ3 H6 fun y H7 => ∃ acc, H7 D = some (.lst acc) ∧ acc.length < sizeLine ∧ Nx1 (upd H7 D (.lst (acc ++ [y]))) else Nx1 H6)
      else Pv (i + 1) H3) (hd : ∀ H, Pv n H → Qd H) :
    ∃ W : Nat → Nat → Hp → Prop, (∃ m, W 0 m (upd H1 D (.lst []))) ∧ ∀ i m H, W i m H →
  (J.stop i H ∧ Qd H) ∨ (J.go i H ∧ ∃ Nx : Hp → Prop, (∀ H', Nx H' → ∃ m', m' < m ∧ W (i + 1) m' H') ∧ ∀ x H', J.yld i H x H' → g x (wipe σ vs) H' fun σ2 H2 => wipe σ2 vs = wipe σ vs ∧ tt σ2 H2 fun b H3 =>
    if b = true then wi1 σ2 H3 fun J1 H4 => ∃ W1 : Nat → Nat → Hp → Prop, (∃ m, W1 0 m H4) ∧ ∀ j k H, W1 j k H →
      (J1.stop j H ∧ Nx H) ∨ (J1.go j H ∧ ∃ Nx1 : Hp → Prop, (∀ H', Nx1 H' → ∃ k', k' < k ∧ W1 (j + 1) k' H') ∧ ∀ x H', J1.yld j H x H' → g1 x (wipe σ2 vs1) H' fun σ3 H5 => wipe σ3 vs1 = wipe σ2 vs1 ∧ tt1 σ3 H5 fun b H6 =>
        if b = true then te σ3 H6 fun y H7 => ∃ acc, H7 D = some (.lst acc) ∧ acc.length < sizeLine ∧ Nx1 (upd H7 D (.lst (acc ++ [y]))) else Nx1 H6)
    else Nx H3) := by
  refine ⟨fun i m H => m = n - i ∧ i ≤ n ∧ Pv i H, ⟨n, by simp, Nat.zero_le _, h0⟩, ?_⟩
  rintro i m H ⟨rfl, hi, p⟩
  have q := hG i H hi p
  by_cases hlt : i < n
  · refine .inr ⟨w.goes i H hlt q, Pv (i + 1), fun H' p' => ⟨n - (i + 1), by omega, rfl, hlt, p'⟩, fun x H' y => hs i x H H' hlt p (w.yields i H x H' hlt q y)⟩
  · have e : i = n := by omega
    subst e
    exact .inl ⟨w.stops H q, hd H p⟩
theorem lci_it (w : Walk J1 n1 G1 Y1) {g1 : TG} {tt1 : TT} {te : TE} {vs1 : List Nat} {σ2 : L2.St} {H4 : Hp} {D : Addr} {Nx : Hp → Prop} (Pv : Nat → Hp → Prop) (h0 : Pv 0 H4) (hG : ∀ i H, i ≤ n1 → Pv i H → G1 H)
    (hs : ∀ j x H H', j < n1 → Pv j H → Y1 j H x H' → g1 x (wipe σ2 vs1) H' fun σ3 H5 => wipe σ3 vs1 = wipe σ2 vs1 ∧ tt1 σ3 H5 fun b H6 =>
        if b = true then te σ3 H6 fun y H7 => ∃ acc, H7 D = some (.lst acc) ∧ acc.length < sizeLine ∧ Pv (j + 1) (upd H7 D (.lst (acc ++ [y]))) else Pv (j + 1) H6) (hd : ∀ H, Pv n1 H → Nx H) :
    ∃ W1 : Nat → Nat → Hp → Prop, (∃ m, W1 0 m H4) ∧ ∀ j k H, W1 j k H →
      (J1.stop j H ∧ Nx H) ∨ (J1.go j H ∧ ∃ Nx1 : Hp → Prop, (∀ H', Nx1 H' → ∃ k', k' < k ∧ W1 (j + 1) k' H') ∧ ∀ x H', J1.yld j H x H' → g1 x (wipe σ2 vs1) H' fun σ3 H5 => wipe σ3 vs1 = wipe σ2 vs1 ∧ tt1 σ3 H5 fun b H6 =>
        if b = true then te σ3 H6 fun y H7 => ∃ acc, H7 D = some (.lst acc) ∧ acc.length < sizeLine ∧ Nx1 (upd H7 D (.lst (acc ++ [y]))) else Nx1 H6) := by
  refine ⟨fun i m H => m = n1 - i ∧ i ≤ n1 ∧ Pv i H, ⟨n1, by simp, Nat.zero_le _, h0⟩, ?_⟩
  rintro i m H ⟨rfl, hi, p⟩
  have q := hG i H hi p
  by_cases hlt : i < n1
  · refine .inr ⟨w.goes i H hlt q, Pv (i + 1), fun H' p' => ⟨n1 - (i + 1), by omega, rfl, hlt, p'⟩, fun x H' y => hs i x H H' hlt p (w.yields i H x H' hlt q y)⟩
  · have e : i = n1 := by omega
    subst e
    exact .inl ⟨w.stops H q, hd H p⟩
end
end DD
namespace DD
open PySem PySem.Spec PyProof.Rows L2 RZ
/-! ### enumerate(zip(*rows)) -/
theorem nat7 {p n j L : Nat} (h1 : p = n + L + 3) (h2 : p = n + j) (h3 : j < L) : False := by omega
def zfp (z TI TO : Addr) (ps : List (Addr × Addr)) : List Addr := z :: TI :: TO :: ps.map (·.1)
theorem ZSt.keeps {h h' : Heap} {z TI TO : Addr} {ps : List (Addr × Addr)} {k : Nat} (S : ZSt h z TI TO ps k) (q : ∀ b ∈ zfp z TI TO ps, ∀ o, h.get? b = some o → h'.get? b = some o) : ZSt h' z TI TO ps k := by
  obtain ⟨⟨f0, f1, hz, hf⟩, hTI, ⟨arr, ha, hTO⟩, hits⟩ := S
  refine ⟨⟨f0, f1, q _ (by simp [zfp]) _ hz, hf⟩, q _ (by simp [zfp]) _ hTI, ⟨arr, ha, q _ (by simp [zfp]) _ hTO⟩, fun p hp => ?_⟩
  obtain ⟨o, e, c⟩ := hits p hp
  exact ⟨o, q _ (by
    refine List.mem_cons_of_mem _ (List.mem_cons_of_mem _ (List.mem_cons_of_mem _ ?_))
    exact List.mem_map_of_mem hp) _ e, c⟩
section
variable {prog : Program} {w : World} {A : Around} {E : Value → Shared → Prop} {s : Shared} {z TI TO : Addr} {ps : List (Addr × Addr)} {k : Nat}
theorem nextOf_zn_item {vs : List Value} {Q : Value → Shared → Prop} (D : ZApart z TI TO ps) (hn : 1 ≤ ps.length) (hn2 : ps.length ≤ 1000) (S : ZSt s.heap z TI TO ps k)
    (hv : vs.length = ps.length) (hi : ∀ (j : Nat) (p : Addr × Addr), ps[j]? = some p → ∃ xs, s.heap.IsTuple p.2 xs ∧ xs[k]? = vs[j]?)
    (hQ : ∀ h', ZSt h' z TI TO ps (k + 1) → h'.get? s.heap.objs.size = some (tObj vs.toArray) → h'.objs.size = s.heap.objs.size + 1 →
      (∀ c o, c ≠ z → c ≠ TO → (∀ p ∈ ps, c ≠ p.1) → s.heap.get? c = some o → h'.get? c = some o) → Q (.ref s.heap.objs.size) { s with heap := h' }) :
    wpAny (model prog w) A (Builtin.SmallTypes.nextOf (.ref z)) Q E s := by
  obtain ⟨f0, f1, hz, hf0⟩ := S.zz
  have hT : s.TypeIs (.ref z) "zip" := ⟨_, hz, rfl⟩
  unfold Builtin.SmallTypes.nextOf
  exact wpAny_bind (wpAny_callSpecial?_slot (name := Str.ofString "__next__") hT F.slot_zip_next
    (wpAny_call_entry F.slot_zip_next hT F.entry_zip_next (zn_item D hn hn2 S hv hi fun h' a1 a2 a3 a4 => wpAny_pure (hQ h' a1 a2 a3 a4)) (F.args_zip_next_1 _)))
theorem nextOf_zn_end {Q : Value → Shared → Prop} (hh : A.handled = none) (D : ZApart z TI TO ps) (S : ZSt s.heap z TI TO ps k) {p : Addr × Addr} {r : List (Addr × Addr)} {xs : Array Value}
    (hps : ps = p :: r) (hl : s.heap.IsTuple p.2 xs) (hx : xs[k]? = none)
    (hE : ∀ h' e, (∀ c o, c ≠ z → c ≠ TO → (∀ p ∈ ps, c ≠ p.1) → s.heap.get? c = some o → h'.get? c = some o) →
      (∃ o, h'.get? e = some o ∧ o.cls = .type "StopIteration") → E (.ref e) { s with heap := h' }) :
    wpAny (model prog w) A (Builtin.SmallTypes.nextOf (.ref z)) Q E s := by
  obtain ⟨f0, f1, hz, hf0⟩ := S.zz
  have hT : s.TypeIs (.ref z) "zip" := ⟨_, hz, rfl⟩
  unfold Builtin.SmallTypes.nextOf
  exact wpAny_bind (wpAny_callSpecial?_slot (name := Str.ofString "__next__") hT F.slot_zip_next
    (wpAny_call_entry F.slot_zip_next hT F.entry_zip_next (zn_end hh D S hps hl hx hE) (F.args_zip_next_1 _)))

theorem ez_next_item {e : Addr} {c : Int} {old : Value} {vs : List Value} {Q : Value → Shared → Prop} (D : ZApart z TI TO ps) (hn : 1 ≤ ps.length) (hn2 : ps.length ≤ 1000)
    (he : IsEnum s.heap e z c old) (S : ZSt s.heap z TI TO ps k) (hv : vs.length = ps.length) (hi : ∀ (j : Nat) (p : Addr × Addr), ps[j]? = some p → ∃ xs, s.heap.IsTuple p.2 xs ∧ xs[k]? = vs[j]?)
    (hef : e ∉ zfp z TI TO ps)
    (hQ : ∀ h' tk, IsEnumOut h' e z (c + 1) (.ref s.heap.objs.size) (s.heap.objs.size + 1) → ZSt h' z TI TO ps (k + 1) → h'.get? s.heap.objs.size = some (tObj vs.toArray) →
      h'.get? (s.heap.objs.size + 1) = some { cls := .type "tuple", data := .seq #[.int c tk, .ref s.heap.objs.size] } → h'.objs.size = s.heap.objs.size + 2 →
      (∀ b o, b ≠ e → b ≠ z → b ≠ TO → (∀ p ∈ ps, b ≠ p.1) → s.heap.get? b = some o → h'.get? b = some o) → Q (.ref (s.heap.objs.size + 1)) { s with heap := h', toks := tk + 1 }) :
    wpAny (model prog w) A (Builtin.«enumerate.__next__» ⟨[.ref e], []⟩) (fun fin s' => ∃ v, fin = .done (.ret v) ∧ Q v s') E s := by
  obtain ⟨hp, g, d, tk, os⟩ := s
  have e1 : e ≠ z := fun q => hef (by rw [q]; simp [zfp])
  have e2 : e ≠ TO := fun q => hef (by rw [q]; simp [zfp])
  have e3 : ∀ p ∈ ps, e ≠ p.1 := fun p hpp q => hef (by
    rw [q]
    refine List.mem_cons_of_mem _ (List.mem_cons_of_mem _ (List.mem_cons_of_mem _ ?_))
    exact List.mem_map_of_mem hpp)
  show wpAny _ _ (field (.ref e) 2 >>= _) _ _ _
  refine wpAny_bind (wpAny_field he rfl (x := .ref z) rfl ?_)
  refine wpAny_bind (nextOf_zn_item D hn hn2 S hv hi fun h₁ S₁ hT₁ hz₁ hk₁ => ?_)
  replace hT₁ : h₁.get? hp.objs.size = some (tObj vs.toArray) := hT₁
  replace hz₁ : h₁.objs.size = hp.objs.size + 1 := hz₁
  replace hk₁ : ∀ c o, c ≠ z → c ≠ TO → (∀ p ∈ ps, c ≠ p.1) → hp.get? c = some o → h₁.get? c = some o := hk₁
  have he₁ : IsEnum h₁ e z c old := hk₁ e _ e1 e2 e3 he
  have hel : e < hp.objs.size := Heap.lt_size he
  show wpAny _ _ (field (.ref e) 3 >>= _) _ _ ⟨h₁, g, d, tk, os⟩
  refine wpAny_bind (wpAny_field he₁ rfl (x := rawInt c) rfl ?_)
  show wpAny _ _ (field (.ref e) 4 >>= _) _ _ ⟨h₁, g, d, tk, os⟩
  refine wpAny_bind (wpAny_field he₁ rfl (x := .none) rfl ?_)
  show wpAny _ _ (mkInt c >>= _) _ _ ⟨h₁, g, d, tk, os⟩
  refine wpAny_bind (wpAny_mkInt ?_)
  show wpAny _ _ (setField (.ref e) 3 (rawInt (c + 1)) >>= _) _ _ ⟨h₁, g, d, tk + 1, os⟩
  refine wpAny_bind (wpAny_setField_rec he₁ (by simp) fun h₂ he₂ hs₂ => ?_)
  replace hs₂ : Heap.SameBut e h₁ h₂ := hs₂
  replace he₂ : IsEnum h₂ e z (c + 1) old := he₂
  show wpAny _ _ (setField (.ref e) 4 .none >>= _) _ _ ⟨h₂, g, d, tk + 1, os⟩
  refine wpAny_bind (wpAny_setField_rec he₂ (by simp) fun h₃ he₃ hs₃ => ?_)
  replace hs₃ : Heap.SameBut e h₂ h₃ := hs₃
  replace he₃ : IsEnum h₃ e z (c + 1) old := he₃
  show wpAny _ _ (newTuple [.int c tk, .ref hp.objs.size] >>= _) _ _ ⟨h₃, g, d, tk + 1, os⟩
  refine wpAny_bind (wpAny_newTuple ?_)
  have he₄ : IsEnum (h₃.push { cls := .type "tuple", data := .seq #[.int c tk, .ref hp.objs.size] }) e z (c + 1) old := Heap.get?_push_of_some _ he₃
  generalize hh₄ : h₃.push { cls := .type "tuple", data := .seq #[.int c tk, .ref hp.objs.size] } = h₄ at he₄
  have hsz : h₃.objs.size = hp.objs.size + 1 := by rw [hs₃.1, hs₂.1, hz₁]
  have ht₄ : h₄.get? (hp.objs.size + 1) = some { cls := .type "tuple", data := .seq #[.int c tk, .ref hp.objs.size] } := by rw [← hh₄, ← hsz]; exact Heap.get?_push_size _ rfl
  have hz₄ : h₄.objs.size = hp.objs.size + 2 := by rw [← hh₄, Heap.size_push, hsz]
  have hk₁₄ : ∀ b o, b ≠ e → h₁.get? b = some o → h₄.get? b = some o := fun b o hbe hb => by
    rw [← hh₄]; exact Heap.get?_push_of_some _ (hs₃.extBut b o hbe (hs₂.extBut b o hbe hb))
  have S₄ : ZSt h₄ z TI TO ps (k + 1) := S₁.keeps fun b hb o y => hk₁₄ b o (fun q => hef (q ▸ hb)) y
  have hT₄ := hk₁₄ hp.objs.size _ (Nat.ne_of_gt hel) hT₁
  have hk₄ : ∀ b o, b ≠ e → b ≠ z → b ≠ TO → (∀ p ∈ ps, b ≠ p.1) → hp.get? b = some o → h₄.get? b = some o := fun b o c1 c2 c3 c4 y => hk₁₄ b o c1 (hk₁ b o c2 c3 c4 y)
  show wpAny _ _ (Builtin.SmallTypes.ownedTupleIsFree (.ref e) >>= _) _ _ ⟨h₄, g, d, tk + 1, os⟩
  rw [hsz]
  clear hh₄ he₃ hs₃ he₂ hs₂ he₁ hsz hk₁₄ S₁ hT₁ hz₁ hk₁ h₃ h₂ h₁
  refine wpAny_bind ?_
  · unfold Builtin.SmallTypes.ownedTupleIsFree
    refine wpAny_bind (wpAny_field he₄ rfl (x := .none) rfl (wpAny_pure ?_))
    simp only [if_true]
    refine wpAny_bind (wpAny_rule ?_)
    refine wpAny_bind (wpAny_field he₄ rfl (x := old) rfl ?_)
    refine wpAny_bind (wpAny_setField_rec he₄ (by simp) fun h₅ he₅ hs₅ => ?_)
    replace hs₅ : Heap.SameBut e h₄ h₅ := hs₅
    replace he₅ : IsEnum h₅ e z (c + 1) (.ref hp.objs.size) := he₅
    show wpAny _ _ (Builtin.SmallTypes.ownedTupleHandOut (.ref e) (.ref (hp.objs.size + 1)) >>= _) _ _ ⟨h₅, g, d, tk + 1, os⟩
    refine wpAny_bind ?_
    · unfold Builtin.SmallTypes.ownedTupleHandOut
      refine wpAny_bind (wpAny_setField_rec he₅ (by simp) fun h₆ he₆ hs₆ => ?_)
      replace hs₆ : Heap.SameBut e h₅ h₆ := hs₆
      replace he₆ : IsEnumOut h₆ e z (c + 1) (.ref hp.objs.size) (hp.objs.size + 1) := he₆
      refine wpAny_setField_rec he₆ (by simp) fun h₇ he₇ hs₇ => ?_
      replace hs₇ : Heap.SameBut e h₆ h₇ := hs₇
      replace he₇ : IsEnumOut h₇ e z (c + 1) (.ref hp.objs.size) (hp.objs.size + 1) := he₇
      have hk₇ : ∀ b o, b ≠ e → h₄.get? b = some o → h₇.get? b = some o := fun b o hbe y => hs₇.extBut b o hbe (hs₆.extBut b o hbe (hs₅.extBut b o hbe y))
      refine wpAny_bind (wpAny_letGo (wpAny_pure ⟨_, rfl, hQ h₇ tk he₇ ?_ ?_ ?_ ?_ ?_⟩))
      · exact S₄.keeps fun b hb o y => hk₇ b o (fun q => hef (q ▸ hb)) y
      · exact hk₇ _ _ (Nat.ne_of_gt hel) hT₄
      · exact hk₇ _ _ (by have : e < hp.objs.size := hel; exact Nat.ne_of_gt (Nat.lt_succ_of_lt this)) ht₄
      · rw [hs₇.1, hs₆.1, hs₅.1, hz₄]
      · exact fun b o c1 c2 c3 c4 hb => hk₇ b o c1 (hk₄ b o c1 c2 c3 c4 hb)
end

theorem meets_enum_newZ (z TI TO : Addr) (ps : List (Addr × Addr)) (k : Nat) : Meets (Builtin.«enumerate.__new__» ⟨[.type "enumerate", .ref z], []⟩) (fun _ R s => ZSt s.heap z TI TO ps k ∧
      R (.ok (.ret (.ref s.heap.objs.size))) { s with heap := s.heap.push { cls := .type "enumerate", data := .fields #[.none, .bool false, .ref z, rawInt 0, .none, .none] } }) :=
  .of_wp fun prog w A R s h => by
    obtain ⟨hp, g, d, tk, os⟩ := s
    obtain ⟨hS, h⟩ := h
    have hsub := sub_enumerate
    have hS' : ZSt (Shared.heap ⟨hp, g, d, tk, os⟩) z TI TO ps k := hS
    wp_walk
    refine wpAny_stack_any fun st => wpAny_pure ?_
    split
    · rename_i c _ _ _ _ _
      cases (c == Value.type "enumerate")
      · wp_walk using pyIter_zn hS'
        exact ⟨_, rfl, h⟩
      · wp_walk using pyIter_zn hS'
        exact ⟨_, rfl, h⟩
    · wp_walk using pyIter_zn hS'
      exact ⟨_, rfl, h⟩
section
variable {prog : Program} {w : World} {A : Around} {E : Value → Shared → Prop} {s : Shared}
theorem call_enumZ {z TI TO : Addr} {ps : List (Addr × Addr)} {k : Nat} {Q : Value → Shared → Prop} (hS : ZSt s.heap z TI TO ps k)
    (h : ∀ h', IsEnum h' s.heap.objs.size z 0 .none → (∀ b o, s.heap.get? b = some o → h'.get? b = some o) → Q (.ref s.heap.objs.size) { s with heap := h' }) :
    wpAny (model prog w) A (call (.type "enumerate") [.ref z]) Q E s := by
  refine callType_new F.called_enumerate (by decide) (F.typeCall_enumerate_1 _) (F.newCall_enumerate_1 _) (fun obj => F.args_object_init_2 obj _) F.entry_enumerate_new
    (meets_enum_newZ z TI TO ps k) ⟨hS, ?_⟩
  have he : IsEnum (s.heap.push { cls := .type "enumerate", data := .fields #[.none, .bool false, .ref z, rawInt 0, .none, .none] }) s.heap.objs.size z 0 .none := Heap.get?_push_size _ rfl
  exact ⟨⟨_, he, rfl⟩, h _ he fun b o x => Heap.get?_push_of_some _ x⟩
end

def ItEz (K : PySem.W.Frag) (ls : List Addr) (rows : List (List V)) (m : Nat) : It :=
  ⟨fun i H => i < m ∧ Rws K H ls rows m, fun i H v H' => ∃ T U, v = .ref U ∧ H T = none ∧ T ≠ U ∧ H U = none ∧ H' = upd (upd H T (.tup (colV rows i))) U (.tup [.int ((0 : Int) + (i : Nat)), .ref T]), fun i H => i = m ∧ Rws K H ls rows m⟩
theorem turn_ez {P : Program} {w : World} {K : PySem.W.Frag} {elts : List Expr} {kk : Nat} {tpos : Pos} {n m : Nat} {ls : List Addr} {rows : List (List V)} (h1 : 1 ≤ ls.length) (h2 : ls.length ≤ 4) (hlt : ∀ l ∈ ls, l < n) {e : Addr}
    (hef : e ∉ zfp (n + ls.length + 2) (n + ls.length) (n + ls.length + 1) (zps n ls)) :
    Turn P w K (.Tuple elts kk tpos) (ItEz K ls rows m) (e :: zfp (n + ls.length + 2) (n + ls.length) (n + ls.length + 1) (zps n ls)) e
      (fun i h => (∃ old, IsEnum h e (n + ls.length + 2) ((0 : Int) + (i : Nat)) old) ∧ ZSt h (n + ls.length + 2) (n + ls.length) (n + ls.length + 1) (zps n ls) i) where
  mem := List.mem_cons_self
  obj := fun i h S b hb => by
    obtain ⟨⟨old, he⟩, ⟨⟨f0, f1, hz, _⟩, hTI, ⟨arr, _, hTO⟩, hits⟩⟩ := S
    rcases List.mem_cons.mp hb with rfl | hb
    · exact ⟨_, he, fun v q => nomatch q⟩
    rcases List.mem_cons.mp hb with rfl | hb
    · exact ⟨_, hz, fun v q => nomatch q⟩
    rcases List.mem_cons.mp hb with rfl | hb
    · exact ⟨_, hTI, fun v q => nomatch q⟩
    rcases List.mem_cons.mp hb with rfl | hb
    · exact ⟨_, hTO, fun v q => nomatch q⟩
    obtain ⟨p, hp, rfl⟩ := List.mem_map.mp hb
    obtain ⟨o, e, _, d⟩ := hits p hp
    exact ⟨o, e, fun v q => by rw [d] at q; cases q⟩
  keep := fun i h h' S k => by
    obtain ⟨⟨old, he⟩, S⟩ := S
    exact ⟨⟨old, k e (by simp) _ he⟩, S.keeps fun b hb o y => k b (List.mem_cons_of_mem _ hb) o y⟩
  item := by
    intro X hP hw hK hc i pins s σ H E I hf S hg
    subst hP hw hK
    obtain ⟨⟨old, he⟩, S⟩ := S
    obtain ⟨hi, R⟩ := hg
    obtain ⟨us, hv, hx⟩ := R.vals I hi
    have hul : us.length = ls.length := by rw [← hv.length, R.len]; simp [colV]
    have D := zapart hlt
    have hT : s.TypeIs (.ref e) "enumerate" := ⟨_, he, rfl⟩
    have hfz : ∀ b ∈ e :: zfp (n + ls.length + 2) (n + ls.length) (n + ls.length + 1) (zps n ls), b < s.heap.objs.size := fun b hb => by
      rcases List.mem_cons.mp hb with rfl | hb
      · exact Heap.lt_size he
      obtain ⟨⟨f0, f1, hz, _⟩, hTI, ⟨arr, _, hTO⟩, hits⟩ := S
      rcases List.mem_cons.mp hb with rfl | hb
      · exact Heap.lt_size hz
      rcases List.mem_cons.mp hb with rfl | hb
      · exact Heap.lt_size hTI
      rcases List.mem_cons.mp hb with rfl | hb
      · exact Heap.lt_size hTO
      obtain ⟨p, hp, rfl⟩ := List.mem_map.mp hb
      obtain ⟨o, e, _⟩ := hits p hp
      exact Heap.lt_size e
    unfold pyNext
    refine wpAny_bind (wpAny_attempt (wpAny_callSpecial?_slot (name := Str.ofString "__next__") hT F.slot_enumerate_next
      (wpAny_call_entry F.slot_enumerate_next hT F.entry_enumerate_next
        (ez_next_item D (by rw [zps_length]; exact h1) (by rw [zps_length]; omega) he S (vs := us) (by rw [zps_length]; exact hul) (fun j p e => ?_) hef fun h' tk ho S' hTu hU hsz hk => wpAny_pure ?_) (F.args_enumerate_next_1 _))))
    · rw [zps_get] at e
      cases ea : ls[j]? with
      | none => rw [ea] at e; cases e
      | some a =>
        rw [ea] at e
        obtain rfl : (n + j, a) = p := Option.some.inj e
        exact hx j a ea
    · refine ⟨_, rfl, wpAny_letOwnedTupleGo_enum (s := { s with heap := h', toks := tk + 1 }) ho fun h'' he' sb => ?_⟩
      have hcl : (colV rows i).length ≤ sizeLine := by
        rw [hv.length, hul, sizeLine_eq]
        omega
      have hel : e < s.heap.objs.size := hfz e List.mem_cons_self
      have hk2 : ∀ b o, b ∉ e :: zfp (n + ls.length + 2) (n + ls.length) (n + ls.length + 1) (zps n ls) → s.heap.get? b = some o → h''.get? b = some o := fun b o hb q =>
        (sb.2 b (fun z => hb (by simp [z]))).trans (hk b o (fun z => hb (by simp [z])) (fun z => hb (by simp [z, zfp])) (fun z => hb (by simp [z, zfp])) (fun p hp z => hb (by
          refine List.mem_cons_of_mem _ (List.mem_cons_of_mem _ (List.mem_cons_of_mem _ (List.mem_cons_of_mem _ ?_)))
          rw [z]
          exact List.mem_map_of_mem hp)) q)
      have hTu2 : h''.get? s.heap.objs.size = some (tObj us.toArray) := (sb.2 _ (Nat.ne_of_gt hel)).trans hTu
      have hU2 : h''.get? (s.heap.objs.size + 1) = some { cls := .type "tuple", data := .seq #[.int ((0 : Int) + (i : Nat)) tk, .ref s.heap.objs.size] } := (sb.2 _ (Nat.ne_of_gt (Nat.lt_succ_of_lt hel))).trans hU
      have new1 : ObjOk X.prog X.w (upd H s.heap.objs.size (.tup (colV rows i))) (s.heap.push (tObj us.toArray)) s.heap.objs.size (.tup (colV rows i)) := ⟨hcl, us, hv, ⟨_, Heap.get?_push_size _ rfl, rfl, _, rfl⟩⟩
      have I1 : Inv X pins σ (upd H s.heap.objs.size (.tup (colV rows i))) { s with heap := s.heap.push (tObj us.toArray), toks := s.toks } :=
        I.laid (fun b o q => Heap.get?_push_of_some _ q) (Nat.le_refl _) new1
      have hz1 : (s.heap.push (tObj us.toArray)).objs.size = s.heap.objs.size + 1 := Heap.size_push ..
      have new2 : ObjOk X.prog X.w (upd (upd H s.heap.objs.size (.tup (colV rows i))) (s.heap.objs.size + 1) (.tup [.int ((0 : Int) + (i : Nat)), .ref s.heap.objs.size])) h'' (s.heap.objs.size + 1) (.tup [.int ((0 : Int) + (i : Nat)), .ref s.heap.objs.size]) :=
        ⟨by show 2 ≤ sizeLine; decide, [.int ((0 : Int) + (i : Nat)) tk, .ref s.heap.objs.size], .cons ⟨_, rfl⟩ (.cons rfl .nil), ⟨_, hU2, rfl, _, rfl⟩⟩
      have hf1 : ∀ b ∈ e :: zfp (n + ls.length + 2) (n + ls.length) (n + ls.length + 1) (zps n ls), FpOk X pins (upd H s.heap.objs.size (.tup (colV rows i))) b := fun b hb => by
        refine ⟨?_, (hf b hb).2⟩
        rw [upd_ne (Nat.ne_of_lt (hfz b hb))]
        exact (hf b hb).1
      have I2 : Inv X pins σ (upd (upd H s.heap.objs.size (.tup (colV rows i))) (s.heap.objs.size + 1) (.tup [.int ((0 : Int) + (i : Nat)), .ref s.heap.objs.size])) { s with heap := h'', toks := tk + 1 } := by
        refine I1.turnedNew (t' := tk + 1) (fun b o hb q => ?_) hf1 (Nat.le_of_eq hz1) new2
        rcases Heap.get?_push_cases q with ⟨hbN, ho2⟩ | q3
        · rw [hbN, ho2]
          exact hTu2
        · exact hk2 b o hb q3
      have hT0 : H s.heap.objs.size = none := I.hok.fresh (Nat.le_refl _)
      have hU0 : H (s.heap.objs.size + 1) = none := I.hok.fresh (Nat.le_succ _)
      have S2 : ZSt h'' (n + ls.length + 2) (n + ls.length) (n + ls.length + 1) (zps n ls) (i + 1) := S'.keeps fun b hb o y => (sb.2 b (fun z => hef (z ▸ hb))).trans y
      refine ⟨.ref (s.heap.objs.size + 1), _, I2, rfl, ⟨_, _, rfl, hT0, Nat.ne_of_lt (Nat.lt_succ_self _), hU0, rfl⟩, ⟨⟨.ref s.heap.objs.size, ?_⟩, S2⟩, fun b hb => ?_⟩
      · have e1 : (0 : Int) + ((i + 1 : Nat) : Int) = (0 : Int) + (i : Int) + 1 := by omega
        rw [e1]
        exact he'
      · have hb' := hfz b hb
        rw [upd_ne (Nat.ne_of_lt (Nat.lt_succ_of_lt hb')), upd_ne (Nat.ne_of_lt hb')]
        exact (hf b hb).1
  done := by
    intro X hP hw hK hc i pins s σ H E I hf S hg
    subst hP hw hK
    obtain ⟨⟨old, he⟩, S⟩ := S
    obtain ⟨rfl, R⟩ := hg
    have hT : s.TypeIs (.ref e) "enumerate" := ⟨_, he, rfl⟩
    cases hls : ls with
    | nil => rw [hls] at h1; simp at h1
    | cons a r =>
      cases hrw : rows with
      | nil => have := R.len; rw [hls, hrw] at this; simp at this
      | cons q rr =>
        obtain ⟨hq, hl⟩ := R.at_ 0 a q (by rw [hls]; rfl) (by rw [hrw]; rfl)
        obtain ⟨its, rv, ⟨o, ho, hc', n', hd⟩, _⟩ := I.tuple hq
        have hps : zps n ls = (n, a) :: (zps n ls).tail := by
          rw [hls]
          simp [zps]
        unfold pyNext
        refine wpAny_bind (wpAny_attempt (wpAny_callSpecial?_slot (name := Str.ofString "__next__") hT F.slot_enumerate_next
          (wpAny_call_entry F.slot_enumerate_next hT F.entry_enumerate_next ?_ (F.args_enumerate_next_1 _))))
        show wpAny _ _ (field (.ref e) 2 >>= _) _ _ _
        refine wpAny_bind (wpAny_field he rfl (x := .ref (n + ls.length + 2)) rfl ?_)
        refine wpAny_bind (nextOf_zn_end (I.ok.hd hc) (zapart hlt) S hps (xs := its.toArray) ⟨o, ho, hc', n', hd⟩ ?_ fun h' e' hk he' => ?_)
        · have := rv.length
          rw [List.getElem?_toArray, List.getElem?_eq_none (by omega)]
        · obtain ⟨o2, ho2, hc2⟩ := he'
          refine wpAny_bind (wpAny_isInstance (T := "StopIteration") (b := true) ⟨o2, ho2, hc2⟩ isSubtype_stop (wpAny_pure ⟨rfl, ?_⟩))
          exact I.turnedL (t' := s.toks) (fun c o hb q => hk c o (fun z => hb (by simp [z, zfp])) (fun z => hb (by simp [z, zfp])) (fun p hp z => hb (by
            refine List.mem_cons_of_mem _ (List.mem_cons_of_mem _ (List.mem_cons_of_mem _ (List.mem_cons_of_mem _ ?_)))
            rw [z]
            exact List.mem_map_of_mem hp)) q) hf
  self := fun A i s Q E S h => by
    obtain ⟨⟨_, he⟩, _⟩ := S
    exact wpAny_pyIter_enum he h

/-- for i, x in enumerate(zip(*e)), e a list or tuple of one to four tuples of one length -/
def iEnumZ (K : PySem.W.Frag) (te : TE) : TI := fun σ H R => te σ H fun y H1 => ∃ (a : Addr) (ls : List Addr) (rows : List (List V)) (m : Nat), y = .ref a ∧ (SqT K H1 a (ls.map V.ref) ∨ SqL K H1 a (ls.map V.ref)) ∧
  1 ≤ ls.length ∧ ls.length ≤ 4 ∧ Rws K H1 ls rows m ∧ R (ItEz K ls rows m) H1
theorem pi_enumZ {X : Cx} {e : Expr} {te : TE} {p p2 pos pos2 spos tpos : Pos} {elts : List Expr} {kk : Nat} (hge : Gl X "enumerate") (hme : X.mg "enumerate" = none) (hg : Gl X "zip") (hm : X.mg "zip" = none) (he : PE X e te)
    (hst : starEach [.Starred e spos] X.env = [(true, eval e X.env)] := by rfl)
    (hs : starEach [.Call (.Name "zip" p) [.Starred e spos] [] pos] X.env = [(false, eval (.Call (.Name "zip" p) [.Starred e spos] [] pos) X.env)] := by rfl) :
    PI X (.Tuple elts kk tpos) (.Call (.Name "enumerate" p2) [.Call (.Name "zip" p) [.Starred e spos] [] pos] [] pos2) (iEnumZ X.K te) := by
  refine ⟨fun pins s σ H R I h => Call_ (ld_blt I hge hme boot_enumerate (PyProof.Rows.callWith_type1 ?_ hs rfl))⟩
  rw [hs]
  refine Calls.spliced_cons ?_
  refine wpAny_Call_Name_kw (ld_blt I hg hm PyProof.Rows.boot_zip ?_)
  rw [hst]
  refine PySem.W.ks_call (P := fun _ => True) rfl (fun h _ => ⟨.machine, .inr (.inl rfl), fun A Q E s _ q => wpAny_pure q⟩) (PySem.W.ks_lone ?_)
  refine thn (he.run pins s σ H _ I h) fun v s1 ⟨y, H1, I1, ry, a, ls, rows, m, ey, hx, h1, h2, Rw, q⟩ => ?_
  subst ey
  obtain rfl : v = Value.ref a := ry
  refine StX.star_any I1 hx fun us s2 I2 rv => ⟨trivial, ?_⟩
  obtain rfl := vals_refs rv
  have tup : ∀ l ∈ ls, ∃ xs, s2.heap.IsTuple l xs := fun l hl => by
    obtain ⟨j, hj⟩ := List.mem_iff_getElem?.mp hl
    have hjl := (List.getElem?_eq_some_iff.mp hj).1
    have hjr : rows[j]? = some (rows[j]'(by have := Rw.len; omega)) := List.getElem?_eq_getElem (by have := Rw.len; omega)
    obtain ⟨its, _, ⟨o, ho, hc, n, hd⟩, _⟩ := I2.tuple (Rw.at_ j l _ hj hjr).1
    exact ⟨its.toArray, o, ho, hc, n, hd⟩
  refine call_zipN h1 h2 tup fun h' n en S hsz hk => ?_
  have I3 : Inv X pins σ H1 { s2 with heap := h' } := I2.kept (t' := s2.toks) hk
  have hlt : ∀ l ∈ ls, l < n := fun l hl => by
    obtain ⟨xs, o, ho, _⟩ := tup l hl
    rw [en]
    exact Heap.lt_size ho
  refine Calls.spliced_nil ?_
  refine call_enumZ (s := { s2 with heap := h' }) S fun h3 hE3 hk3 => wpAny_pyIter_enum hE3 ?_
  have I4 : Inv X pins σ H1 { s2 with heap := h3 } := I3.kept (t' := s2.toks) hk3
  have hef : h'.objs.size ∉ zfp (n + ls.length + 2) (n + ls.length) (n + ls.length + 1) (zps n ls) := fun hb => by
    rw [hsz] at hb
    rcases List.mem_cons.mp hb with hb | hb
    · omega
    rcases List.mem_cons.mp hb with hb | hb
    · omega
    rcases List.mem_cons.mp hb with hb | hb
    · omega
    obtain ⟨p, hp, e⟩ := List.mem_map.mp hb
    obtain ⟨j, hj, _, ep⟩ := zps_mem hp
    exact nat7 e ep hj
  have S3 : ZSt h3 (n + ls.length + 2) (n + ls.length) (n + ls.length + 1) (zps n ls) 0 := S.keeps fun b _ o y => hk3 b o y
  refine ⟨h'.objs.size, _, _, _, H1, rfl, I4, turn_ez h1 h2 hlt hef, ⟨⟨_, hE3⟩, S3⟩, fun b hb => ?_, q⟩
  have hle : s2.heap.objs.size ≤ b := by
    rw [← en]
    rcases List.mem_cons.mp hb with rfl | hb
    · omega
    rcases List.mem_cons.mp hb with rfl | hb
    · omega
    rcases List.mem_cons.mp hb with rfl | hb
    · omega
    rcases List.mem_cons.mp hb with rfl | hb
    · omega
    obtain ⟨p, hp, rfl⟩ := List.mem_map.mp hb
    obtain ⟨j, _, _, e⟩ := zps_mem hp
    exact Nat.le_trans (Nat.le_add_right n j) (Nat.le_of_eq e.symm)
  exact I2.fpOk hle (I2.hok.fresh hle)
theorem walk_ez {K : PySem.W.Frag} {ls : List Addr} {rows : List (List V)} {m : Nat} : Walk (ItEz K ls rows m) m (fun H => Rws K H ls rows m)
    (fun i H v H' => ∃ T U, v = .ref U ∧ H T = none ∧ T ≠ U ∧ H U = none ∧ H' = upd (upd H T (.tup (colV rows i))) U (.tup [.int ((0 : Int) + (i : Nat)), .ref T])) :=
  ⟨fun _ _ hi q => ⟨hi, q⟩, fun _ q => ⟨rfl, q⟩, fun _ _ _ _ _ _ y => y⟩
end DD
namespace DD
open PySem PySem.Spec PyProof.Rows L2 RZ
/-! ### zip() of nothing -/
theorem typeCall_zipM : ∀ vs : List Value, vs.length ≤ 4 → checkTypeCall "zip" ⟨vs, []⟩ = pure ()
  | [], _ => by kernel_rfl
  | a :: vs, h => typeCall_zipN (a :: vs) (Nat.succ_pos _) h
theorem newCall_zipM : ∀ vs : List Value, vs.length ≤ 4 → checkBuiltinCall "zip.__new__" ⟨.type "zip" :: vs, []⟩ = pure ()
  | [], _ => by kernel_rfl
  | a :: vs, h => newCall_zipN (a :: vs) (Nat.succ_pos _) h
theorem args_object_initM (o : Value) : ∀ vs : List Value, vs.length ≤ 4 → argsOk "object.__init__" ⟨o :: vs, []⟩
  | [], _ => by
    unfold argsOk
    rw [signature?_of (id := "object.__init__") (n := ['_', '_', 't', 'i', 'n', 'i', '_', '_']) (o := ['t', 'c', 'e', 'j', 'b', 'o']) (by kernel_rfl) F.owner_object]
    kernel_rfl
  | a :: vs, h => args_object_initN o (a :: vs) (Nat.succ_pos _) h
section
variable {prog : Program} {w : World} {A : Around} {E : Value → Shared → Prop} {s : Shared}
theorem zip_newM {ls : List Addr} {Q : Value → Shared → Prop} (h2 : ls.length ≤ 4) (hl : ∀ l ∈ ls, ∃ xs, s.heap.IsTuple l xs)
    (hQ : ∀ h' n, n = s.heap.objs.size → ZSt h' (n + ls.length + 2) (n + ls.length) (n + ls.length + 1) (ls.zipIdx.map fun x => (n + x.2, x.1)) 0 → h'.objs.size = n + ls.length + 3 →
      (∀ c o, s.heap.get? c = some o → h'.get? c = some o) → Q (.ref (n + ls.length + 2)) { s with heap := h' }) :
    wpAny (model prog w) A (Builtin.«zip.__new__» ⟨.type "zip" :: ls.map Value.ref, []⟩) (fun fin s' => ∃ v, fin = .done (.ret v) ∧ Q v s') E s := by
  have hsub := sub_zip
  have hc : wpAny (model prog w) A (Builtin.SmallTypes.newClass "zip" ⟨.type "zip" :: ls.map Value.ref, []⟩) (fun r s' => r = (.type "zip", ls.map Value.ref) ∧ s' = s) E s := by
    unfold Builtin.SmallTypes.newClass
    wp_walk
    exact ⟨rfl, rfl⟩
  unfold Builtin.«zip.__new__»
  refine wpAny_bind (thn hc ?_)
  rintro _ _s ⟨rfl, rfl⟩
  show wpAny _ _ (Builtin.SmallTypes.iterAll (ls.map Value.ref) >>= _) _ _ _
  refine wpAny_bind (iterAll_tups hl fun h1' its hil hi hsz hk hit => ?_)
  have hsl : its.length ≤ sizeLine := by rw [hil, sizeLine_eq]; omega
  refine wpAny_bind (wpAny_newTuple ?_ hsl)
  refine wpAny_bind (wpAny_newTuple ?_ (by rw [List.length_map]; exact hsl))
  refine wpAny_bind ?_
  unfold Builtin.SmallTypes.newRecord
  refine wpAny_newObj_type ?_ (show (5 : Nat) ≤ sizeLine + 2 by rw [sizeLine_eq]; omega)
  refine wpAny_pure ⟨_, rfl, ?_⟩
  have z1 : (h1'.push (tObj its.toArray)).objs.size = h1'.objs.size + 1 := Heap.size_push ..
  have z2 : ((h1'.push (tObj its.toArray)).push (tObj (its.map fun _ => Value.none).toArray)).objs.size = h1'.objs.size + 2 := by rw [Heap.size_push, z1]
  have fin : Q (.ref ((h1'.push (tObj its.toArray)).push (tObj (its.map fun _ => Value.none).toArray)).objs.size)
      { _s with heap := ((h1'.push (tObj its.toArray)).push (tObj (its.map fun _ => Value.none).toArray)).push (zObj .none (.bool false) h1'.objs.size (h1'.push (tObj its.toArray)).objs.size) } := by
    rw [z2, z1, hsz]
    refine hQ _ _ rfl ⟨⟨.none, .bool false, ?_, .inl rfl⟩, ?_, ⟨(its.map fun _ => Value.none).toArray, ?_, ?_⟩, fun p hp => ?_⟩ ?_ fun c o e => Heap.get?_push_of_some _ (Heap.get?_push_of_some _ (Heap.get?_push_of_some _ (hk c o e)))
    · rw [← hsz, ← z2]
      exact Heap.get?_push_size _ rfl
    · have e : its = (ls.zipIdx.map fun x => (_s.heap.objs.size + x.2, x.1)).map fun p => Value.ref p.1 := by
        refine List.ext_getElem? fun i => ?_
        rw [List.map_map, List.getElem?_map, List.getElem?_zipIdx]
        by_cases hlt : i < ls.length
        · rw [hi i hlt, List.getElem?_eq_getElem hlt]
          simp
        · rw [List.getElem?_eq_none (by omega), List.getElem?_eq_none (by omega)]
          rfl
      rw [← e, ← hsz]
      exact Heap.get?_push_of_some _ (Heap.get?_push_of_some _ (Heap.get?_push_size _ rfl))
    · simp [hil]
    · rw [← hsz, ← z1]
      exact Heap.get?_push_of_some _ (Heap.get?_push_size _ rfl)
    · obtain ⟨x, hx, rfl⟩ := List.mem_map.mp hp
      obtain ⟨i, hxi⟩ := List.mem_iff_getElem?.mp hx
      rw [List.getElem?_zipIdx] at hxi
      cases hl' : ls[i]? with
      | none =>
        rw [hl'] at hxi
        cases hxi
      | some l =>
        rw [hl'] at hxi
        obtain rfl : (l, 0 + i) = x := Option.some.inj hxi
        obtain ⟨o, e, c⟩ := hit i l hl'
        refine ⟨o, ?_, c⟩
        show Heap.get? _ (_s.heap.objs.size + (0 + i)) = some o
        rw [Nat.zero_add]
        exact Heap.get?_push_of_some _ (Heap.get?_push_of_some _ (Heap.get?_push_of_some _ e))
    · rw [Heap.size_push, z2, hsz]
  exact fin
end
section
variable {prog : Program} {w : World} {A : Around} {E : Value → Shared → Prop} {s : Shared}
theorem call_zipM {ls : List Addr} {Q : Value → Shared → Prop} (h2 : ls.length ≤ 4) (hl : ∀ l ∈ ls, ∃ xs, s.heap.IsTuple l xs)
    (hQ : ∀ h' n, n = s.heap.objs.size → ZSt h' (n + ls.length + 2) (n + ls.length) (n + ls.length + 1) (zps n ls) 0 → h'.objs.size = n + ls.length + 3 →
      (∀ c o, s.heap.get? c = some o → h'.get? c = some o) → Q (.ref (n + ls.length + 2)) { s with heap := h' }) :
    wpAny (model prog w) A (call (.type "zip") (ls.map Value.ref)) Q E s := by
  have m : Meets (Builtin.«zip.__new__» ⟨.type "zip" :: ls.map Value.ref, []⟩) (fun _ R s => (∀ l ∈ ls, ∃ xs, s.heap.IsTuple l xs) ∧
      ∀ h' n, n = s.heap.objs.size → ZSt h' (n + ls.length + 2) (n + ls.length) (n + ls.length + 1) (zps n ls) 0 → h'.objs.size = n + ls.length + 3 →
        (∀ c o, s.heap.get? c = some o → h'.get? c = some o) → R (.ok (.ret (.ref (n + ls.length + 2)))) { s with heap := h' }) :=
    .of_wp fun prog w A R s h => zip_newM h2 h.1 h.2
  refine callType_new F.called_zip (by decide) (typeCall_zipM _ (by simpa using h2)) (newCall_zipM _ (by simpa using h2))
    (fun obj => args_object_initM obj _ (by simpa using h2)) F.entry_zip_new m ⟨hl, fun h' n e1 e2 e3 e4 => ?_⟩
  obtain ⟨f0, f1, hz, _⟩ := e2.zz
  exact ⟨⟨_, hz, rfl⟩, hQ h' n e1 e2 e3 e4⟩

theorem zn_end0 {z TI TO : Addr} {k : Nat} {Q : Fin → Shared → Prop} (hh : A.handled = none) (S : ZSt s.heap z TI TO [] k)
    (hE : ∀ h' e, (∀ c o, s.heap.get? c = some o → h'.get? c = some o) → (∃ o, h'.get? e = some o ∧ o.cls = .type "StopIteration") → E (.ref e) { s with heap := h' }) :
    wpAny (model prog w) A (Builtin.«zip.__next__» ⟨[.ref z], []⟩) Q E s := by
  obtain ⟨⟨f0, f1, hz, hf0⟩, hTI, ⟨arr, ha, hTO⟩, hits⟩ := S
  show wpAny _ _ (field (.ref z) 2 >>= _) _ _ _
  refine wpAny_bind (wpAny_field hz rfl (x := .bool false) rfl ?_)
  show wpAny _ _ (field (.ref z) 3 >>= _) _ _ _
  refine wpAny_bind (wpAny_field hz rfl (x := .ref TI) rfl ?_)
  refine wpAny_bind (wpAny_seqItems hTI rfl ?_)
  have hne : (([] : List (Addr × Addr)).map fun p => Value.ref p.1).toArray.isEmpty = true := rfl
  simp only [hne, if_true]
  refine wpAny_bind (wpAny_rule ?_)
  refine wpAny_bind ?_
  unfold Builtin.SmallTypes.stopIteration
  show wpAny _ _ (newExc (.type "StopIteration") [] >>= _) _ _ _
  refine wpAny_bind ?_
  simp only [newExc, newTuple]
  refine wpAny_bind (wpAny_newObj_type ?_ (by size_fits))
  refine wpAny_bind (m := firstArgMember _ _) (wpAny_of_eq (a := Value.none) (by first | rfl | (simp only [firstArgMember]; rfl)) ?_)
  refine wpAny_newObj_type ?_ (by size_fits)
  simp only [raiseNew]
  refine wpAny_bind (wpAny_handled ?_)
  first | rw [show A.in1.handled = none from hh] | rw [hh]
  refine wpAny_bind (wpAny_pure (wpAny_throw ?_))
  exact hE _ _ (fun c o e => Heap.get?_push_of_some _ (Heap.get?_push_of_some _ e)) ⟨_, Heap.get?_push_size _ rfl, rfl⟩
theorem pyNext_zn_end0 {z TI TO : Addr} {k : Nat} {Q : Option Value → Shared → Prop} (hh : A.handled = none) (S : ZSt s.heap z TI TO [] k)
    (hQ : ∀ h', (∀ c o, s.heap.get? c = some o → h'.get? c = some o) → Q none { s with heap := h' }) :
    wpAny (model prog w) A (pyNext (.ref z)) Q E s := by
  obtain ⟨f0, f1, hz, hf0⟩ := S.zz
  have hT : s.TypeIs (.ref z) "zip" := ⟨_, hz, rfl⟩
  unfold pyNext
  refine wpAny_bind (wpAny_attempt (wpAny_callSpecial?_slot (name := Str.ofString "__next__") hT F.slot_zip_next
    (wpAny_call_entry F.slot_zip_next hT F.entry_zip_next (zn_end0 hh S fun h' e hk he => ?_) (F.args_zip_next_1 _))))
  obtain ⟨o, ho, hc⟩ := he
  exact wpAny_bind (wpAny_isInstance (T := "StopIteration") (b := true) ⟨o, ho, hc⟩ isSubtype_stop (wpAny_pure (hQ _ hk)))
end
theorem turn_z0 {P : Program} {w : World} {K : PySem.W.Frag} {x : Str} {xp : Pos} {n : Nat} :
    Turn P w K (.Name x xp) (ItzN K [] [] 0) [n + 2, n, n + 1] (n + 2) (fun i h => ZSt h (n + 2) n (n + 1) [] i) where
  mem := List.mem_cons_self
  obj := fun i h S b hb => by
    obtain ⟨⟨f0, f1, hz, _⟩, hTI, ⟨arr, _, hTO⟩, hits⟩ := S
    rcases List.mem_cons.mp hb with rfl | hb
    · exact ⟨_, hz, fun v q => nomatch q⟩
    rcases List.mem_cons.mp hb with rfl | hb
    · exact ⟨_, hTI, fun v q => nomatch q⟩
    rcases List.mem_cons.mp hb with rfl | hb
    · exact ⟨_, hTO, fun v q => nomatch q⟩
    · cases hb
  keep := fun i h h' S k => S.keeps fun b hb o y => k b (by simpa [zfp] using hb) o y
  item := by
    intro X hP hw hK hc i pins s σ H E I hf S hg
    exact absurd hg.1 (Nat.not_lt_zero _)
  done := by
    intro X hP hw hK hc i pins s σ H E I hf S hg
    subst hP hw hK
    exact pyNext_zn_end0 (I.ok.hd hc) S fun h' hk => ⟨rfl, I.kept (t' := s.toks) hk⟩
  self := fun A i s Q E S h => pyIter_zn S h
/-- for x in zip(*e), e a list or tuple of at most four tuples of one length -/
def iZipO (K : PySem.W.Frag) (te : TE) : TI := fun σ H R => te σ H fun y H1 => ∃ (a : Addr) (ls : List Addr) (rows : List (List V)) (m : Nat), y = .ref a ∧ (SqT K H1 a (ls.map V.ref) ∨ SqL K H1 a (ls.map V.ref)) ∧
  ls.length ≤ 4 ∧ (ls = [] → m = 0) ∧ Rws K H1 ls rows m ∧ R (ItzN K ls rows m) H1
theorem pi_zipO {X : Cx} {e : Expr} {te : TE} {p pos spos xp : Pos} {x : Str} (hg : Gl X "zip") (hm : X.mg "zip" = none) (he : PE X e te)
    (hst : starEach [.Starred e spos] X.env = [(true, eval e X.env)] := by rfl) :
    PI X (.Name x xp) (.Call (.Name "zip" p) [.Starred e spos] [] pos) (iZipO X.K te) := by
  refine ⟨fun pins s σ H R I h => ?_⟩
  refine wpAny_Call_Name_kw (ld_blt I hg hm PyProof.Rows.boot_zip ?_)
  rw [hst]
  refine PySem.W.ks_call (P := fun _ => True) rfl (fun h _ => ⟨.machine, .inr (.inl rfl), fun A Q E s _ q => wpAny_pure q⟩) (PySem.W.ks_lone ?_)
  refine thn (he.run pins s σ H _ I h) fun v s1 ⟨y, H1, I1, ry, a, ls, rows, m, ey, hx, h2, hm0, Rw, q⟩ => ?_
  subst ey
  obtain rfl : v = Value.ref a := ry
  refine StX.star_any I1 hx fun us s2 I2 rv => ⟨trivial, ?_⟩
  obtain rfl := vals_refs rv
  have tup : ∀ l ∈ ls, ∃ xs, s2.heap.IsTuple l xs := fun l hl => by
    obtain ⟨j, hj⟩ := List.mem_iff_getElem?.mp hl
    have hjl := (List.getElem?_eq_some_iff.mp hj).1
    have hjr : rows[j]? = some (rows[j]'(by have := Rw.len; omega)) := List.getElem?_eq_getElem (by have := Rw.len; omega)
    obtain ⟨its, _, ⟨o, ho, hc, n, hd⟩, _⟩ := I2.tuple (Rw.at_ j l _ hj hjr).1
    exact ⟨its.toArray, o, ho, hc, n, hd⟩
  refine call_zipM h2 tup fun h' n en S hsz hk => ?_
  have I3 : Inv X pins σ H1 { s2 with heap := h' } := I2.kept (t' := s2.toks) hk
  have hlt : ∀ l ∈ ls, l < n := fun l hl => by
    obtain ⟨xs, o, ho, _⟩ := tup l hl
    rw [en]
    exact Heap.lt_size ho
  cases ls with
  | nil =>
    obtain rfl := hm0 rfl
    obtain rfl : rows = [] := List.eq_nil_of_length_eq_zero Rw.len.symm
    refine pyIter_zn (s := { s2 with heap := h' }) S ⟨n + 2, _, _, _, H1, rfl, I3, turn_z0, S, fun b hb => ?_, q⟩
    have hle : s2.heap.objs.size ≤ b := by
      rw [← en]
      rcases List.mem_cons.mp hb with rfl | hb
      · omega
      rcases List.mem_cons.mp hb with rfl | hb
      · omega
      rcases List.mem_cons.mp hb with rfl | hb
      · omega
      · cases hb
    exact I2.fpOk hle (I2.hok.fresh hle)
  | cons l0 ls =>
    refine pyIter_zn (s := { s2 with heap := h' }) S ⟨n + (l0 :: ls).length + 2, _, _, _, H1, rfl, I3, turn_zn (Nat.succ_pos _) h2 hlt, S, fun b hb => ?_, q⟩
    have hle : s2.heap.objs.size ≤ b := by
      rw [← en]
      rcases List.mem_cons.mp hb with rfl | hb
      · omega
      rcases List.mem_cons.mp hb with rfl | hb
      · omega
      rcases List.mem_cons.mp hb with rfl | hb
      · omega
      obtain ⟨p, hp, rfl⟩ := List.mem_map.mp hb
      obtain ⟨j, _, _, e⟩ := zps_mem hp
      exact Nat.le_trans (Nat.le_add_right n j) (Nat.le_of_eq e.symm)
    exact I2.fpOk hle (I2.hok.fresh hle)
theorem walk_zn {K : PySem.W.Frag} {ls : List Addr} {rows : List (List V)} {m : Nat} : Walk (ItzN K ls rows m) m (fun H => Rws K H ls rows m) (fun i H v H' => ∃ T, v = .ref T ∧ H T = none ∧ H' = upd H T (.tup (colV rows i))) :=
  ⟨fun _ _ hi q => ⟨hi, q⟩, fun _ q => ⟨rfl, q⟩, fun _ _ _ _ _ _ y => y⟩
/-- zip of two tuples, the first no longer than the second -/
theorem walk_zipT {K : PySem.W.Frag} {a b : Addr} {xs ys : List V} (hl : xs.length ≤ ys.length) : Walk (ItzT K a b) xs.length (fun H => SqT K H a xs ∧ SqT K H b ys) (YPair (fun i => xs[i]?) (fun i => ys[i]?)) := by
  refine ⟨fun i H hi q => ⟨xs, ys, xs[i], ys[i]'(by omega), q.1, q.2, by simp [hi], List.getElem?_eq_getElem (by omega)⟩, fun H q => ⟨xs, ys, q.1, q.2, .inl (Nat.le_refl _)⟩, fun i H v H' _ q y => ?_⟩
  obtain ⟨T, x', y', rfl, hT, rfl, f1, f2⟩ := y
  exact ⟨T, x', y', rfl, hT, rfl, f1 xs q.1, f2 ys q.2⟩
end DD
/-! zip of up to four tuples and lists -/
namespace DM
open PySem PySem.Spec PyProof.Rows L2 DD
/-- an iterator of a tuple (b) or of a list -/
def IsIt (b : Bool) (h : Heap) (i l : Addr) (k : Nat) : Prop := ∃ o, h.get? i = some o ∧ o.cls = .type (if b then "tuple_iterator" else "list_iterator") ∧ o.data = .fields #[.ref l, .int k 0]
def IsSq (b : Bool) (h : Heap) (l : Addr) (xs : Array Value) : Prop := ∃ o, h.get? l = some o ∧ o.cls = .type (if b then "tuple" else "list") ∧ ∃ n, o.data = .seq xs n
section
variable {prog : Program} {w : World} {A : Around} {E : Value → Shared → Prop} {s : Shared}
theorem nextOf_cur {b : Bool} {it l : Addr} {i : Nat} {items} {x : Value} {Q : Value → Shared → Prop} (hit : IsIt b s.heap it l i)
    (hl : IsSq b s.heap l items) (hx : items[i]? = some x)
    (hQ : ∀ h', IsIt b h' it l (i + 1) → Heap.SameBut it s.heap h' → Q x { s with heap := h' }) :
    wpAny (model prog w) A (Builtin.SmallTypes.nextOf (.ref it)) Q E s := by
  cases b with
  | true => exact RZ.nextOf_tuple_item hit hl hx hQ
  | false => exact wpAny_nextOf_list_item hit hl hx hQ
theorem nextOf_curE {b : Bool} {it l : Addr} {i : Nat} {items} {Q : Value → Shared → Prop} (hh : A.handled = none)
    (hit : IsIt b s.heap it l i) (hl : IsSq b s.heap l items) (hx : items[i]? = none)
    (hE : ∀ h' e, Heap.ExtBut it s.heap h' → (∃ o, h'.get? e = some o ∧ o.cls = .type "StopIteration") → E (.ref e) { s with heap := h' }) :
    wpAny (model prog w) A (Builtin.SmallTypes.nextOf (.ref it)) Q E s := by
  cases b with
  | true => exact RZ.nextOf_tuple_end hh hit hl hx hE
  | false => exact wpAny_nextOf_list_end hh hit hl hx hE
theorem pyIter_cur {b : Bool} {l : Addr} {items} {Q : Value → Shared → Prop} (hl : IsSq b s.heap l items)
    (hQ : Q (.ref s.heap.objs.size) { s with heap := s.heap.push { cls := .type (if b then "tuple_iterator" else "list_iterator"), data := .fields #[.ref l, .int 0 0] } }) :
    wpAny (model prog w) A (pyIter (.ref l)) Q E s := by
  cases b with
  | true => exact wpAny_pyIter_tuple hl hQ
  | false => exact wpAny_pyIter_list hl hQ
theorem letGo_any {elts : List Expr} {x1} {pos : Pos} {z TI TO T : Addr} {f0 f1 : Value} {Q : Unit → Shared → Prop} (hz : s.heap.get? z = some (zObj f0 f1 TI TO)) (hf : f0 = .none ∨ ∃ a t, f0 = .int a t)
    (hQ : ∀ h' g0, (g0 = .none ∨ ∃ a t, g0 = .int a t) → h'.get? z = some (zObj g0 f1 TI TO) → Heap.SameBut z s.heap h' → Q () { s with heap := h' }) :
    wpAny (model prog w) A (letOwnedTupleGo (.Tuple elts x1 pos) (.ref z) (.ref T)) Q E s := by
  unfold letOwnedTupleGo
  refine wpAny_bind (wpAny_load hz ?_)
  show wpAny _ _ (if (["enumerate", "zip", "dict_itemiterator", "dict_reverseitemiterator", "odict_iterator", "itertools.zip_longest", "itertools.pairwise"].contains "zip" &&
      (#[f0, f1, .bool false, .ref TI, .ref TO] : Array Value)[0]? == some (rawInt T)) = true then _ else _) Q E s
  split
  · refine wpAny_bind (wpAny_rule ?_)
    show wpAny _ _ (setField (.ref z) 0 .none) Q E s
    exact wpAny_setField_rec hz (by simp) fun h' hz' hs' => hQ h' .none (.inl rfl) hz' hs'
  · exact wpAny_pure (hQ s.heap f0 hf hz (Heap.SameBut.refl _ _))
end
structure ZSt (kd : Addr → Bool) (h : Heap) (z TI TO : Addr) (ps : List (Addr × Addr)) (k : Nat) : Prop where
  zz : ∃ f0 f1, h.get? z = some (zObj f0 f1 TI TO) ∧ (f0 = .none ∨ ∃ a t, f0 = .int a t)
  ti : h.get? TI = some (tObj (ps.map fun p => Value.ref p.1).toArray)
  to : ∃ arr : Array Value, arr.size = ps.length ∧ h.get? TO = some (tObj arr)
  its : ∀ p ∈ ps, IsIt (kd p.2) h p.1 p.2 k


/-- the objects but z, TO and the iterators stand; the first j iterators have turned -/
structure ZMid (kd : Addr → Bool) (g h : Heap) (z TO : Addr) (ps : List (Addr × Addr)) (k j : Nat) : Prop where
  size : h.objs.size = g.objs.size
  keep : ∀ c o, c ≠ z → c ≠ TO → (∀ p ∈ ps, c ≠ p.1) → g.get? c = some o → h.get? c = some o
  its : ∀ (i : Nat) (p : Addr × Addr), ps[i]? = some p → IsIt (kd p.2) h p.1 p.2 (if i < j then k + 1 else k)

section
variable {prog : Program} {w : World} {A : Around} {E : Value → Shared → Prop} {s : Shared} {z TI TO : Addr} {ps : List (Addr × Addr)} {k : Nat} {kd : Addr → Bool}
/-- one iterator's turn -/
theorem draw_one {g h : Heap} {j : Nat} {p : Addr × Addr} {xs : Array Value} {v : Value} {Q : Value → Shared → Prop} (D : ZApart z TI TO ps) (m : ZMid kd g h z TO ps k j)
    (hp : ps[j]? = some p) (hl : IsSq (kd p.2) g p.2 xs) (hx : xs[k]? = some v)
    (hQ : ∀ h', ZMid kd g h' z TO ps k (j + 1) → Heap.SameBut p.1 h h' → Q v { s with heap := h' }) :
    wpAny (model prog w) A (Builtin.SmallTypes.nextOf (.ref p.1)) Q E { s with heap := h } := by
  have hm : p ∈ ps := List.mem_of_getElem? hp
  have h1 : IsIt (kd p.2) h p.1 p.2 k := by
    have := m.its j p hp
    rwa [if_neg (Nat.lt_irrefl j)] at this
  have h2 : IsSq (kd p.2) h p.2 xs := by
    obtain ⟨o, e, c⟩ := hl
    exact ⟨o, m.keep _ _ (D.pz p hm).2.2.2.1 (D.pz p hm).2.2.2.2 (fun q hq => D.px p hm q hq) e, c⟩
  refine nextOf_cur (s := { s with heap := h }) h1 h2 hx fun h' hi hs => hQ h' ⟨hs.1.trans m.size, fun c o c1 c2 c3 e => ?_, fun i q hq => ?_⟩ hs
  · rw [hs.2 c (c3 p hm)]
    exact m.keep c o c1 c2 c3 e
  · by_cases hij : i = j
    · subst hij
      rw [hp] at hq
      cases hq
      rw [if_pos (Nat.lt_succ_self _)]
      exact hi
    · have hqi := m.its i q hq
      have hne := ptr_ne D.nd hq hp hij
      rw [show (if i < j + 1 then k + 1 else k) = (if i < j then k + 1 else k) by
        by_cases hlt : i < j
        · rw [if_pos hlt, if_pos (by omega)]
        · rw [if_neg hlt, if_neg (by omega)]]
      obtain ⟨o, e, c⟩ := hqi
      exact ⟨o, (hs.2 _ hne).trans e, c⟩
theorem ZMid.full {g h : Heap} (m : ZMid kd g h z TO ps k ps.length) : ∀ p ∈ ps, IsIt (kd p.2) h p.1 p.2 (k + 1) := fun p hp => by
  obtain ⟨i, hi⟩ := List.mem_iff_getElem?.mp hp
  obtain ⟨hl, _⟩ := List.getElem?_eq_some_iff.mp hi
  have := m.its i p hi
  rwa [if_pos hl] at this

theorem zn_item {vs : List Value} {Q : Value → Shared → Prop} (D : ZApart z TI TO ps) (hn : 1 ≤ ps.length) (hn2 : ps.length ≤ 1000) (S : ZSt kd s.heap z TI TO ps k)
    (hv : vs.length = ps.length) (hi : ∀ (j : Nat) (p : Addr × Addr), ps[j]? = some p → ∃ xs, IsSq (kd p.2) s.heap p.2 xs ∧ xs[k]? = vs[j]?)
    (hQ : ∀ h', ZSt kd h' z TI TO ps (k + 1) → h'.get? s.heap.objs.size = some (tObj vs.toArray) → h'.objs.size = s.heap.objs.size + 1 →
      (∀ c o, c ≠ z → c ≠ TO → (∀ p ∈ ps, c ≠ p.1) → s.heap.get? c = some o → h'.get? c = some o) → Q (.ref s.heap.objs.size) { s with heap := h' }) :
    wpAny (model prog w) A (Builtin.«zip.__next__» ⟨[.ref z], []⟩) (fun fin s' => ∃ v, fin = .done (.ret v) ∧ Q v s') E s := by
  obtain ⟨⟨f0, f1, hz, hf0⟩, hTI, ⟨arr, ha, hTO⟩, hits⟩ := S
  show wpAny _ _ (field (.ref z) 2 >>= _) _ _ _
  refine wpAny_bind (wpAny_field hz rfl (x := .bool false) rfl ?_)
  show wpAny _ _ (field (.ref z) 3 >>= _) _ _ _
  refine wpAny_bind (wpAny_field hz rfl (x := .ref TI) rfl ?_)
  refine wpAny_bind (wpAny_seqItems hTI rfl ?_)
  have hne : (ps.map fun p => Value.ref p.1).toArray.isEmpty = false := by
    cases ps with
    | nil => simp at hn
    | cons p r => rfl
  simp only [hne, Bool.false_eq_true, if_false]
  have m0 : ∀ h, Heap.SameBut z s.heap h → ZMid kd s.heap h z TO ps k 0 := fun h hs =>
    ⟨hs.1, fun c o c1 _ _ e => (hs.2 c c1).trans e, fun i p hp => by
      rw [if_neg (Nat.not_lt_zero _)]
      have hm := List.mem_of_getElem? hp
      obtain ⟨o, e, c⟩ := hits p hm
      exact ⟨o, (hs.2 _ (D.pz p hm).1).trans e, c⟩⟩
  refine wpAny_bind (wpAny_mono (free_or hz hf0) (fun b s' hb => ?_) fun _ _ e => e)
  rcases hb with ⟨rfl, rfl⟩ | ⟨rfl, h1, f2, rfl, hz1, hs1⟩
  · simp only [if_true]
    refine wpAny_bind (wpAny_rule ?_)
    refine wpAny_bind (wpAny_field hz rfl (x := .ref TO) rfl ?_)
    refine wpAny_bind (wpAny_setField_rec hz (by simp) fun h1 hz1 hs1 => ?_)
    replace hz1 : h1.get? z = some (zObj .ellipsis f1 TI TO) := hz1
    have nTI : ∀ p ∈ ps, TI ≠ p.1 := fun p hp q => (D.pz p hp).2.1 q.symm
    refine wpAny_bind (thn (wp_forIn _ _ (fun j b s2 => b = (none, ()) ∧ ∃ (h : Heap) (a2 : Array Value), s2 = { s' with heap := h } ∧ ZMid kd s'.heap h z TO ps k j ∧
      h.get? z = some (zObj .ellipsis f1 TI TO) ∧ a2.size = ps.length ∧ (∀ i, i < j → a2[i]? = vs[i]?) ∧ h.get? TO = some (tObj a2)) ?step _ _ ?init) fun b s2 hb => ?last)
    case init => exact ⟨rfl, h1, arr, rfl, m0 h1 hs1, hz1, ha, fun i hi => absurd hi (Nat.not_lt_zero _), (hs1.2 _ D.oz).trans hTO⟩
    case step =>
      rintro j x b s2 hx ⟨rfl, h, a2, rfl, m, hz2, hs2, pre, hTO2⟩
      rw [List.getElem?_zipIdx, List.getElem?_map] at hx
      cases hp : ps[j]? with
      | none =>
        rw [hp] at hx
        cases hx
      | some p =>
        rw [hp] at hx
        obtain rfl : (Value.ref p.1, 0 + j) = x := Option.some.inj hx
        obtain ⟨xs, hl, hxk⟩ := hi j p hp
        have hm : p ∈ ps := List.mem_of_getElem? hp
        have hj : j < ps.length := (List.getElem?_eq_some_iff.mp hp).1
        have hjv : vs[j]? = some (vs[j]'(by omega)) := List.getElem?_eq_getElem (by omega)
        refine wpAny_bind (wpAny_onRaise ?_)
        show wpAny _ _ (Builtin.SmallTypes.nextOf (.ref p.1) >>= _) _ _ _
        refine wpAny_bind (draw_one D m hp hl (hxk.trans hjv) fun h' m' hs' => wpAny_pure ?_)
        have hTO' : h'.get? TO = some (tObj a2) := (hs'.2 _ (D.pz p hm).2.2.1.symm).trans hTO2
        refine wpAny_bind (wpAny_seqItems hTO' rfl ?_)
        have hb1 : a2.size ≤ sizeLine := by rw [hs2, sizeLine_eq]; omega
        refine wpAny_bind (wpAny_updateSeq hTO' rfl ?_ hb1 (by rw [Array.size_setIfInBounds, hs2, sizeLine_eq]; omega))
        have sb := Heap.SameBut.update h' TO (Obj.mapSeq fun x => x.setIfInBounds (0 + j) (vs[j]'(by omega)))
        refine wpAny_bind (wpAny_letGo (wpAny_pure ⟨_, rfl, rfl, _, a2.setIfInBounds j (vs[j]'(by omega)), rfl, ⟨sb.1.trans m'.size, fun c o c1 c2 c3 e => (sb.2 c c2).trans (m'.keep c o c1 c2 c3 e), fun i q hq => ?_⟩, ?_, ?_, fun i hij => ?_, ?_⟩))
        · obtain ⟨o, e, c⟩ := m'.its i q hq
          exact ⟨o, (sb.2 _ (D.pz q (List.mem_of_getElem? hq)).2.2.1).trans e, c⟩
        · rw [sb.2 z D.oz.symm, hs'.2 z (D.pz p hm).1.symm]
          exact hz2
        · rw [Array.size_setIfInBounds]
          exact hs2
        · rw [Array.getElem?_setIfInBounds]
          by_cases e : j = i
          · subst e
            rw [if_pos rfl, if_pos (by omega)]
            exact hjv.symm
          · rw [if_neg e]
            exact pre i (by omega)
        · rw [Heap.get?_update_self _ hTO' rfl, Nat.zero_add]
          simp [Obj.mapSeq]
    case last =>
      obtain ⟨rfl, h, a2, rfl, m, hz2, hs2, pre, hTO2⟩ := hb
      rw [List.length_zipIdx, List.length_map] at m pre
      have ea : a2 = vs.toArray := by
        refine Array.ext_getElem? fun i => ?_
        by_cases hlt : i < ps.length
        · rw [pre i hlt, List.getElem?_toArray]
        · rw [Array.getElem?_eq_none (by omega), List.getElem?_toArray, List.getElem?_eq_none (by omega)]
      subst ea
      show wpAny _ _ (seqItems? (.ref TO) >>= _) _ _ _
      refine wpAny_bind (wpAny_seqItems hTO2 rfl ?_)
      refine wpAny_bind (wpAny_newTuple ?_ (by show vs.length ≤ _; rw [sizeLine_eq]; omega))
      show wpAny _ _ (Builtin.SmallTypes.ownedTupleHandOut (.ref z) (.ref h.objs.size) >>= _) _ _ _
      refine wpAny_bind ?_
      unfold Builtin.SmallTypes.ownedTupleHandOut
      have hzp : (h.push (tObj vs.toArray)).get? z = some (zObj .ellipsis f1 TI TO) := Heap.get?_push_of_some _ hz2
      refine wpAny_bind (wpAny_setField_rec hzp (by simp) fun h3 hz3 hs3 => ?_)
      replace hz3 : h3.get? z = some (zObj (rawInt h.objs.size) f1 TI TO) := hz3
      refine wpAny_setField_rec hz3 (by simp) fun h4 hz4 hs4 => ?_
      replace hz4 : h4.get? z = some (zObj (rawInt h.objs.size) (.bool false) TI TO) := hz4
      have hzlt : z < h.objs.size := Heap.lt_size hz2
      have up : ∀ c o, c ≠ z → h.get? c = some o → h4.get? c = some o := fun c o c1 e =>
        (hs4.2 c c1).trans ((hs3.2 c c1).trans (Heap.get?_push_of_some _ e))
      refine wpAny_pure ⟨_, rfl, ?_⟩
      show Q (.ref h.objs.size) _
      have key := hQ h4 ⟨⟨_, _, hz4, .inr ⟨_, _, rfl⟩⟩, up _ _ D.tz (m.keep TI _ D.tz D.it nTI hTI), ⟨_, hs2, up _ _ D.oz hTO2⟩, fun p hp => ?_⟩ ?_ ?_ fun c o c1 c2 c3 e => up c o c1 (m.keep c o c1 c2 c3 e)
      · rw [m.size]
        exact key
      · obtain ⟨o, e, c⟩ := m.full p hp
        exact ⟨o, up _ _ (D.pz p hp).1 e, c⟩
      · rw [← m.size, hs4.2 _ (Nat.ne_of_gt hzlt), hs3.2 _ (Nat.ne_of_gt hzlt)]
        exact Heap.get?_push_size _ rfl
      · rw [hs4.1, hs3.1, Heap.size_push, m.size]
  · simp only [Bool.false_eq_true, if_false, List.forIn_toArray]
    have nTI : ∀ p ∈ ps, TI ≠ p.1 := fun p hp q => (D.pz p hp).2.1 q.symm
    refine wpAny_bind (thn (wp_forIn _ _ (fun j b s2 => b = (none, (vs.take j).toArray) ∧ ∃ (h : Heap), s2 = { s with heap := h } ∧ ZMid kd s.heap h z TO ps k j ∧
      h.get? z = some (zObj f0 f2 TI TO) ∧ h.get? TO = some (tObj arr)) ?step _ _ ?init) fun b s2 hb => ?last)
    case init => exact ⟨rfl, h1, rfl, m0 h1 hs1, hz1, (hs1.2 _ D.oz).trans hTO⟩
    case step =>
      rintro j x b s2 hx ⟨rfl, h, rfl, m, hz2, hTO2⟩
      rw [List.getElem?_map] at hx
      cases hp : ps[j]? with
      | none =>
        rw [hp] at hx
        cases hx
      | some p =>
        rw [hp] at hx
        obtain rfl : Value.ref p.1 = x := Option.some.inj hx
        obtain ⟨xs, hl, hxk⟩ := hi j p hp
        have hm : p ∈ ps := List.mem_of_getElem? hp
        have hj : j < ps.length := (List.getElem?_eq_some_iff.mp hp).1
        have hjv : vs[j]? = some (vs[j]'(by omega)) := List.getElem?_eq_getElem (by omega)
        refine wpAny_bind (wpAny_holding ?_)
        show wpAny _ _ (Builtin.SmallTypes.nextOf (.ref p.1) >>= _) _ _ _
        refine wpAny_bind (draw_one D m hp hl (hxk.trans hjv) fun h' m' hs' => wpAny_pure (wpAny_pure ⟨_, rfl, ?_, h', rfl, m', ?_, ?_⟩))
        · rw [List.take_add_one, hjv]
          simp
        · exact (hs'.2 z (D.pz p hm).1.symm).trans hz2
        · exact (hs'.2 _ (D.pz p hm).2.2.1.symm).trans hTO2
    case last =>
      obtain ⟨rfl, h, rfl, m, hz2, hTO2⟩ := hb
      rw [List.length_map] at m
      rw [List.length_map, List.take_of_length_le (by omega)]
      have hsz : vs.length ≤ sizeLine := by rw [sizeLine_eq]; omega
      show wpAny _ _ (newTuple vs.toArray.toList >>= _) _ _ _
      refine wpAny_bind (wpAny_newTuple ?_ (by simpa using hsz))
      refine wpAny_pure ⟨_, rfl, ?_⟩
      have up : ∀ c o, h.get? c = some o → (h.push (tObj vs.toArray)).get? c = some o := fun c o e => Heap.get?_push_of_some _ e
      have key := hQ (h.push (tObj vs.toArray)) ⟨⟨_, _, up _ _ hz2, hf0⟩, up _ _ (m.keep TI _ D.tz D.it nTI hTI), ⟨_, ha, up _ _ hTO2⟩, fun p hp => ?_⟩ ?_ ?_ fun c o c1 c2 c3 e => up c o (m.keep c o c1 c2 c3 e)
      · show Q (.ref h.objs.size) _
        rw [m.size]
        exact key
      · obtain ⟨o, e, c⟩ := m.full p hp
        exact ⟨o, up _ _ e, c⟩
      · rw [← m.size]
        exact Heap.get?_push_size _ rfl
      · rw [Heap.size_push, m.size]
theorem zn_end {Q : Fin → Shared → Prop} (hh : A.handled = none) (D : ZApart z TI TO ps) (S : ZSt kd s.heap z TI TO ps k) {p : Addr × Addr} {r : List (Addr × Addr)} {xs : Array Value}
    (hps : ps = p :: r) (hl : IsSq (kd p.2) s.heap p.2 xs) (hx : xs[k]? = none)
    (hE : ∀ h' e, (∀ c o, c ≠ z → c ≠ TO → (∀ p ∈ ps, c ≠ p.1) → s.heap.get? c = some o → h'.get? c = some o) →
      (∃ o, h'.get? e = some o ∧ o.cls = .type "StopIteration") → E (.ref e) { s with heap := h' }) :
    wpAny (model prog w) A (Builtin.«zip.__next__» ⟨[.ref z], []⟩) Q E s := by
  obtain ⟨⟨f0, f1, hz, hf0⟩, hTI, ⟨arr, ha, hTO⟩, hits⟩ := S
  have hm : p ∈ ps := by rw [hps]; exact List.mem_cons_self
  show wpAny _ _ (field (.ref z) 2 >>= _) _ _ _
  refine wpAny_bind (wpAny_field hz rfl (x := .bool false) rfl ?_)
  show wpAny _ _ (field (.ref z) 3 >>= _) _ _ _
  refine wpAny_bind (wpAny_field hz rfl (x := .ref TI) rfl ?_)
  refine wpAny_bind (wpAny_seqItems hTI rfl ?_)
  have hne : (ps.map fun p => Value.ref p.1).toArray.isEmpty = false := by
    rw [hps]
    rfl
  simp only [hne, Bool.false_eq_true, if_false]
  have it1 := hits p hm
  have kz : ∀ h1, Heap.SameBut z s.heap h1 → IsIt (kd p.2) h1 p.1 p.2 k ∧ IsSq (kd p.2) h1 p.2 xs := fun h1 hs1 =>
    ⟨by obtain ⟨o, e, c⟩ := it1; exact ⟨o, (hs1.2 _ (D.pz p hm).1).trans e, c⟩, by obtain ⟨o, e, c⟩ := hl; exact ⟨o, (hs1.2 _ (D.pz p hm).2.2.2.1).trans e, c⟩⟩
  refine wpAny_bind (wpAny_mono (free_or hz hf0) (fun b s' hb => ?_) fun _ _ e => e)
  rcases hb with ⟨rfl, rfl⟩ | ⟨rfl, h1, f2, rfl, hz1, hs1⟩
  · simp only [if_true]
    refine wpAny_bind (wpAny_rule ?_)
    refine wpAny_bind (wpAny_field hz rfl (x := .ref TO) rfl ?_)
    refine wpAny_bind (wpAny_setField_rec hz (by simp) fun h1 hz1 hs1 => ?_)
    replace hz1 : h1.get? z = some (zObj .ellipsis f1 TI TO) := hz1
    obtain ⟨q1, q2⟩ := kz h1 hs1
    refine wpAny_bind ?_
    simp only [hps, List.map_cons, List.zipIdx_cons, List.forIn_cons]
    refine wpAny_bind (wpAny_bind (wpAny_onRaise ?_))
    show wpAny _ _ (Builtin.SmallTypes.nextOf (.ref p.1) >>= _) _ _ _
    refine wpAny_bind (nextOf_curE (s := { s' with heap := h1 }) hh q1 q2 hx fun h2 e hs2 he => ?_)
    obtain ⟨oe, hoe, hce⟩ := he
    have hz2 : h2.get? z = some (zObj .ellipsis f1 TI TO) := hs2 _ _ (D.pz p hm).1.symm hz1
    have hez : e ≠ z := fun x => by
      subst x
      rw [hz2] at hoe
      cases hoe
      simp at hce
    refine wpAny_setField_rec hz2 (by simp) fun h3 _ hs3 => hE h3 e (fun c o c1 _ c3 x => (hs3.2 _ c1).trans (hs2 _ _ (c3 p hm) ((hs1.2 _ c1).trans x))) ⟨oe, (hs3.2 _ hez).trans hoe, hce⟩
  · simp only [Bool.false_eq_true, if_false, List.forIn_toArray]
    obtain ⟨q1, q2⟩ := kz h1 hs1
    refine wpAny_bind ?_
    simp only [hps, List.map_cons, List.forIn_cons]
    refine wpAny_bind (wpAny_bind (wpAny_holding ?_))
    show wpAny _ _ (Builtin.SmallTypes.nextOf (.ref p.1) >>= _) _ _ _
    refine wpAny_bind (nextOf_curE (s := { s with heap := h1 }) hh q1 q2 hx fun h2 e hs2 he => hE h2 e (fun c o c1 _ c3 x => hs2 _ _ (c3 p hm) ((hs1.2 _ c1).trans x)) he)

theorem pyNext_zn_item {vs : List Value} {Q : Option Value → Shared → Prop} (D : ZApart z TI TO ps) (hn : 1 ≤ ps.length) (hn2 : ps.length ≤ 1000) (S : ZSt kd s.heap z TI TO ps k)
    (hv : vs.length = ps.length) (hi : ∀ (j : Nat) (p : Addr × Addr), ps[j]? = some p → ∃ xs, IsSq (kd p.2) s.heap p.2 xs ∧ xs[k]? = vs[j]?)
    (hQ : ∀ h', ZSt kd h' z TI TO ps (k + 1) → h'.get? s.heap.objs.size = some (tObj vs.toArray) → h'.objs.size = s.heap.objs.size + 1 →
      (∀ c o, c ≠ z → c ≠ TO → (∀ p ∈ ps, c ≠ p.1) → s.heap.get? c = some o → h'.get? c = some o) → Q (some (.ref s.heap.objs.size)) { s with heap := h' }) :
    wpAny (model prog w) A (pyNext (.ref z)) Q E s := by
  obtain ⟨f0, f1, hz, hf0⟩ := S.zz
  have hT : s.TypeIs (.ref z) "zip" := ⟨_, hz, rfl⟩
  unfold pyNext
  exact wpAny_bind (wpAny_attempt (wpAny_callSpecial?_slot (name := Str.ofString "__next__") hT F.slot_zip_next
    (wpAny_call_entry F.slot_zip_next hT F.entry_zip_next (zn_item D hn hn2 S hv hi fun h' a1 a2 a3 a4 => wpAny_pure (hQ h' a1 a2 a3 a4)) (F.args_zip_next_1 _))))
theorem pyNext_zn_end {Q : Option Value → Shared → Prop} (hh : A.handled = none) (D : ZApart z TI TO ps) (S : ZSt kd s.heap z TI TO ps k) {p : Addr × Addr} {r : List (Addr × Addr)} {xs : Array Value}
    (hps : ps = p :: r) (hl : IsSq (kd p.2) s.heap p.2 xs) (hx : xs[k]? = none)
    (hQ : ∀ h', (∀ c o, c ≠ z → c ≠ TO → (∀ p ∈ ps, c ≠ p.1) → s.heap.get? c = some o → h'.get? c = some o) → Q none { s with heap := h' }) :
    wpAny (model prog w) A (pyNext (.ref z)) Q E s := by
  obtain ⟨f0, f1, hz, hf0⟩ := S.zz
  have hT : s.TypeIs (.ref z) "zip" := ⟨_, hz, rfl⟩
  unfold pyNext
  refine wpAny_bind (wpAny_attempt (wpAny_callSpecial?_slot (name := Str.ofString "__next__") hT F.slot_zip_next
    (wpAny_call_entry F.slot_zip_next hT F.entry_zip_next (zn_end hh D S hps hl hx fun h' e hk he => ?_) (F.args_zip_next_1 _))))
  obtain ⟨o, ho, hc⟩ := he
  exact wpAny_bind (wpAny_isInstance (T := "StopIteration") (b := true) ⟨o, ho, hc⟩ isSubtype_stop (wpAny_pure (hQ _ hk)))

theorem iterAll_tups {ls : List Addr} {Q : List Value → Shared → Prop} (hl : ∀ l ∈ ls, ∃ xs, IsSq (kd l) s.heap l xs)
    (hQ : ∀ h' its, its.length = ls.length → (∀ i, i < ls.length → its[i]? = some (.ref (s.heap.objs.size + i))) → h'.objs.size = s.heap.objs.size + ls.length →
      (∀ c o, s.heap.get? c = some o → h'.get? c = some o) → (∀ (i : Nat) (l : Addr), ls[i]? = some l → IsIt (kd l) h' (s.heap.objs.size + i) l 0) → Q its { s with heap := h' }) :
    wpAny (model prog w) A (Builtin.SmallTypes.iterAll (ls.map Value.ref)) Q E s := by
  unfold Builtin.SmallTypes.iterAll
  refine wpAny_bind (thn (wp_forIn _ _ (fun j (b : Array Value) s2 => b.size = j ∧ (∀ i, i < j → b[i]? = some (.ref (s.heap.objs.size + i))) ∧ ∃ h, s2 = { s with heap := h } ∧ h.objs.size = s.heap.objs.size + j ∧
    (∀ c o, s.heap.get? c = some o → h.get? c = some o) ∧ ∀ (i : Nat) (l : Addr), i < j → ls[i]? = some l → IsIt (kd l) h (s.heap.objs.size + i) l 0) ?step _ _ ?init) fun b s2 hb => ?last)
  case init => exact ⟨rfl, fun i hi => absurd hi (Nat.not_lt_zero _), s.heap, rfl, rfl, fun _ _ e => e, fun i _ hi => absurd hi (Nat.not_lt_zero _)⟩
  case step =>
    rintro j x b s2 hx ⟨hbs, hb, h, rfl, hsz, hk, hit⟩
    rw [List.getElem?_map] at hx
    cases hp : ls[j]? with
    | none =>
      rw [hp] at hx
      cases hx
    | some l =>
      rw [hp] at hx
      obtain rfl : Value.ref l = x := Option.some.inj hx
      obtain ⟨xs, ol, e, c⟩ := hl l (List.mem_of_getElem? hp)
      refine wpAny_bind (wpAny_holding (pyIter_cur (b := kd l) (s := { s with heap := h }) ⟨ol, hk _ _ e, c⟩ ?_))
      refine wpAny_pure ⟨_, rfl, by rw [Array.size_push, hbs], fun i hij => ?_, _, rfl, by rw [Heap.size_push, hsz]; omega, fun c o e => Heap.get?_push_of_some _ (hk c o e), fun i l' hij hl' => ?_⟩
      · show (b.push (Value.ref h.objs.size))[i]? = _
        rw [Array.getElem?_push]
        by_cases e : i = b.size
        · rw [if_pos e, hsz, e, hbs]
        · rw [if_neg e]
          exact hb i (by omega)
      · by_cases e : i = j
        · subst e
          rw [hp] at hl'
          cases hl'
          refine ⟨{ cls := .type (if kd l then "tuple_iterator" else "list_iterator"), data := .fields #[.ref l, .int 0 0] }, ?_, rfl, rfl⟩
          rw [← hsz]
          exact Heap.get?_push_size _ rfl
        · obtain ⟨o, e1, c⟩ := hit i l' (by omega) hl'
          exact ⟨o, Heap.get?_push_of_some _ e1, c⟩
  case last =>
    obtain ⟨hbs, hb, h, rfl, hsz, hk, hit⟩ := hb
    rw [List.length_map] at hbs hb hsz hit
    refine wpAny_pure (hQ h b.toList (by rw [Array.length_toList]; exact hbs) (fun i hi => by rw [Array.getElem?_toList]; exact hb i hi) hsz hk fun i l e => ?_)
    exact hit i l (List.getElem?_eq_some_iff.mp e).1 e

theorem zip_newN {ls : List Addr} {Q : Value → Shared → Prop} (h1 : 1 ≤ ls.length) (h2 : ls.length ≤ 4) (hl : ∀ l ∈ ls, ∃ xs, IsSq (kd l) s.heap l xs)
    (hQ : ∀ h' n, n = s.heap.objs.size → ZSt kd h' (n + ls.length + 2) (n + ls.length) (n + ls.length + 1) (ls.zipIdx.map fun x => (n + x.2, x.1)) 0 → h'.objs.size = n + ls.length + 3 →
      (∀ c o, s.heap.get? c = some o → h'.get? c = some o) → Q (.ref (n + ls.length + 2)) { s with heap := h' }) :
    wpAny (model prog w) A (Builtin.«zip.__new__» ⟨.type "zip" :: ls.map Value.ref, []⟩) (fun fin s' => ∃ v, fin = .done (.ret v) ∧ Q v s') E s := by
  have hsub := sub_zip
  have hc : wpAny (model prog w) A (Builtin.SmallTypes.newClass "zip" ⟨.type "zip" :: ls.map Value.ref, []⟩) (fun r s' => r = (.type "zip", ls.map Value.ref) ∧ s' = s) E s := by
    unfold Builtin.SmallTypes.newClass
    wp_walk
    exact ⟨rfl, rfl⟩
  unfold Builtin.«zip.__new__»
  refine wpAny_bind (thn hc ?_)
  rintro _ _s ⟨rfl, rfl⟩
  show wpAny _ _ (Builtin.SmallTypes.iterAll (ls.map Value.ref) >>= _) _ _ _
  refine wpAny_bind (iterAll_tups hl fun h1' its hil hi hsz hk hit => ?_)
  have hsl : its.length ≤ sizeLine := by rw [hil, sizeLine_eq]; omega
  refine wpAny_bind (wpAny_newTuple ?_ hsl)
  refine wpAny_bind (wpAny_newTuple ?_ (by rw [List.length_map]; exact hsl))
  refine wpAny_bind ?_
  unfold Builtin.SmallTypes.newRecord
  refine wpAny_newObj_type ?_ (show (5 : Nat) ≤ sizeLine + 2 by rw [sizeLine_eq]; omega)
  refine wpAny_pure ⟨_, rfl, ?_⟩
  have z1 : (h1'.push (tObj its.toArray)).objs.size = h1'.objs.size + 1 := Heap.size_push ..
  have z2 : ((h1'.push (tObj its.toArray)).push (tObj (its.map fun _ => Value.none).toArray)).objs.size = h1'.objs.size + 2 := by rw [Heap.size_push, z1]
  have fin : Q (.ref ((h1'.push (tObj its.toArray)).push (tObj (its.map fun _ => Value.none).toArray)).objs.size)
      { _s with heap := ((h1'.push (tObj its.toArray)).push (tObj (its.map fun _ => Value.none).toArray)).push (zObj .none (.bool false) h1'.objs.size (h1'.push (tObj its.toArray)).objs.size) } := by
    rw [z2, z1, hsz]
    refine hQ _ _ rfl ⟨⟨.none, .bool false, ?_, .inl rfl⟩, ?_, ⟨(its.map fun _ => Value.none).toArray, ?_, ?_⟩, fun p hp => ?_⟩ ?_ fun c o e => Heap.get?_push_of_some _ (Heap.get?_push_of_some _ (Heap.get?_push_of_some _ (hk c o e)))
    · rw [← hsz, ← z2]
      exact Heap.get?_push_size _ rfl
    · have e : its = (ls.zipIdx.map fun x => (_s.heap.objs.size + x.2, x.1)).map fun p => Value.ref p.1 := by
        refine List.ext_getElem? fun i => ?_
        rw [List.map_map, List.getElem?_map, List.getElem?_zipIdx]
        by_cases hlt : i < ls.length
        · rw [hi i hlt, List.getElem?_eq_getElem hlt]
          simp
        · rw [List.getElem?_eq_none (by omega), List.getElem?_eq_none (by omega)]
          rfl
      rw [← e, ← hsz]
      exact Heap.get?_push_of_some _ (Heap.get?_push_of_some _ (Heap.get?_push_size _ rfl))
    · simp [hil]
    · rw [← hsz, ← z1]
      exact Heap.get?_push_of_some _ (Heap.get?_push_size _ rfl)
    · obtain ⟨x, hx, rfl⟩ := List.mem_map.mp hp
      obtain ⟨i, hxi⟩ := List.mem_iff_getElem?.mp hx
      rw [List.getElem?_zipIdx] at hxi
      cases hl' : ls[i]? with
      | none =>
        rw [hl'] at hxi
        cases hxi
      | some l =>
        rw [hl'] at hxi
        obtain rfl : (l, 0 + i) = x := Option.some.inj hxi
        obtain ⟨o, e, c⟩ := hit i l hl'
        refine ⟨o, ?_, c⟩
        show Heap.get? _ (_s.heap.objs.size + (0 + i)) = some o
        rw [Nat.zero_add]
        exact Heap.get?_push_of_some _ (Heap.get?_push_of_some _ (Heap.get?_push_of_some _ e))
    · rw [Heap.size_push, z2, hsz]
  exact fin
end
section
variable {prog : Program} {w : World} {A : Around} {E : Value → Shared → Prop} {s : Shared} {kd : Addr → Bool}
theorem call_zipN {ls : List Addr} {Q : Value → Shared → Prop} (h1 : 1 ≤ ls.length) (h2 : ls.length ≤ 4) (hl : ∀ l ∈ ls, ∃ xs, IsSq (kd l) s.heap l xs)
    (hQ : ∀ h' n, n = s.heap.objs.size → ZSt kd h' (n + ls.length + 2) (n + ls.length) (n + ls.length + 1) (zps n ls) 0 → h'.objs.size = n + ls.length + 3 →
      (∀ c o, s.heap.get? c = some o → h'.get? c = some o) → Q (.ref (n + ls.length + 2)) { s with heap := h' }) :
    wpAny (model prog w) A (call (.type "zip") (ls.map Value.ref)) Q E s := by
  have m : Meets (Builtin.«zip.__new__» ⟨.type "zip" :: ls.map Value.ref, []⟩) (fun _ R s => (∀ l ∈ ls, ∃ xs, IsSq (kd l) s.heap l xs) ∧
      ∀ h' n, n = s.heap.objs.size → ZSt kd h' (n + ls.length + 2) (n + ls.length) (n + ls.length + 1) (zps n ls) 0 → h'.objs.size = n + ls.length + 3 →
        (∀ c o, s.heap.get? c = some o → h'.get? c = some o) → R (.ok (.ret (.ref (n + ls.length + 2)))) { s with heap := h' }) :=
    .of_wp fun prog w A R s h => zip_newN h1 h2 h.1 h.2
  refine callType_new F.called_zip (by decide) (typeCall_zipN _ (by simpa using h1) (by simpa using h2)) (newCall_zipN _ (by simpa using h1) (by simpa using h2))
    (fun obj => args_object_initN obj _ (by simpa using h1) (by simpa using h2)) F.entry_zip_new m ⟨hl, fun h' n e1 e2 e3 e4 => ?_⟩
  obtain ⟨f0, f1, hz, _⟩ := e2.zz
  exact ⟨⟨_, hz, rfl⟩, hQ h' n e1 e2 e3 e4⟩
theorem pyIter_zn {z TI TO : Addr} {ps : List (Addr × Addr)} {k : Nat} {Q : Value → Shared → Prop} (S : ZSt kd s.heap z TI TO ps k) (h : Q (.ref z) s) : wpAny (model prog w) A (pyIter (.ref z)) Q E s := by
  obtain ⟨f0, f1, hz, _⟩ := S.zz
  have hT : s.TypeIs (.ref z) "zip" := ⟨_, hz, rfl⟩
  refine wpAny_pyIter_slot hT F.slot_zip_iter (wpAny_call_entry F.slot_zip_iter hT F.entry_zip_iter ?_ (F.args_zip_iter_1 _))
  exact (show wpAny _ _ (ret (.ref z)) _ _ s from wpAny_pure ⟨_, rfl, "zip", _, hT, F.slot_zip_next.lookup, h⟩)
end

end DM
namespace DM
open PySem PySem.Spec PyProof.Rows L2 DD
def SqX (K : PySem.W.Frag) (b : Bool) (H : Hp) (a : Addr) (xs : List V) : Prop := match b with | true => SqT K H a xs | false => SqL K H a xs
/-- the tuples and lists at ls hold rows, none shorter than m, the first of length m -/
structure Rwm (K : PySem.W.Frag) (kd : Addr → Bool) (H : Hp) (ls : List Addr) (rows : List (List V)) (m : Nat) : Prop where
  len : ls.length = rows.length
  at_ : ∀ (j : Nat) (a : Addr) (r : List V), ls[j]? = some a → rows[j]? = some r → SqX K (kd a) H a r ∧ m ≤ r.length
theorem sq_of {X : Cx} {pins : List (Addr × Obj)} {σ : L2.St} {H : Hp} {s : Shared} {b : Bool} {a : Addr} {xs : List V} (I : Inv X pins σ H s) (q : SqX X.K b H a xs) :
    ∃ its : List Value, Vals xs its ∧ IsSq b s.heap a its.toArray := by
  cases b with
  | true =>
    obtain ⟨its, rv, ⟨o, ho, hc, n, hd⟩, _⟩ := I.tuple q
    exact ⟨its, rv, o, ho, hc, n, hd⟩
  | false =>
    obtain ⟨its, rv, p, _⟩ := I.list q
    exact ⟨its, rv, p.isList⟩
theorem Rwm.vals {X : Cx} {pins : List (Addr × Obj)} {σ : L2.St} {H : Hp} {s : Shared} {kd : Addr → Bool} {m i : Nat} (I : Inv X pins σ H s) (hi : i < m) : ∀ {ls : List Addr} {rows : List (List V)}, Rwm X.K kd H ls rows m →
    ∃ us : List Value, Vals (colV rows i) us ∧ ∀ (j : Nat) (a : Addr), ls[j]? = some a → ∃ xs, IsSq (kd a) s.heap a xs ∧ xs[i]? = us[j]?
  | [], [], _ => ⟨[], .nil, fun j a e => by simp at e⟩
  | [], _ :: _, R => by have := R.len; simp at this
  | _ :: _, [], R => by have := R.len; simp at this
  | a :: ls, r :: rows, R => by
    obtain ⟨us, h1, h2⟩ := Rwm.vals I hi (ls := ls) (rows := rows) ⟨by have := R.len; simpa using this, fun j a' r' e1 e2 => R.at_ (j + 1) a' r' e1 e2⟩
    obtain ⟨q, hl⟩ := R.at_ 0 a r rfl rfl
    obtain ⟨its, rv, p⟩ := sq_of I q
    have hr : r[i]? = some (r.getD i .non) := by
      rw [List.getD_eq_getElem?_getD, List.getElem?_eq_getElem (by omega)]
      rfl
    obtain ⟨u, hu, ru⟩ := rv.get hr
    refine ⟨u :: us, .cons ru h1, fun j a' e => ?_⟩
    cases j with
    | zero =>
      obtain rfl : a = a' := Option.some.inj e
      exact ⟨its.toArray, p, by simpa using hu⟩
    | succ j => exact h2 j a' e
def ItzM (K : PySem.W.Frag) (kd : Addr → Bool) (ls : List Addr) (rows : List (List V)) (m : Nat) : It :=
  ⟨fun i H => i < m ∧ Rwm K kd H ls rows m, fun i H v H' => ∃ T, v = .ref T ∧ H T = none ∧ H' = upd H T (.tup (colV rows i)), fun i H => i = m ∧ Rwm K kd H ls rows m⟩
theorem turn_zm {P : Program} {w : World} {K : PySem.W.Frag} {elts : List Expr} {kk : Nat} {tpos : Pos} {n m : Nat} {kd : Addr → Bool} {ls : List Addr} {rows : List (List V)} (h1 : 1 ≤ ls.length) (h2 : ls.length ≤ 4) (hlt : ∀ l ∈ ls, l < n) (hm : ∀ r, rows[0]? = some r → r.length = m) :
    Turn P w K (.Tuple elts kk tpos) (ItzM K kd ls rows m) ((n + ls.length + 2) :: (n + ls.length) :: (n + ls.length + 1) :: (zps n ls).map (·.1)) (n + ls.length + 2)
      (fun i h => ZSt kd h (n + ls.length + 2) (n + ls.length) (n + ls.length + 1) (zps n ls) i) where
  mem := List.mem_cons_self
  obj := fun i h S b hb => by
    obtain ⟨⟨f0, f1, hz, _⟩, hTI, ⟨arr, _, hTO⟩, hits⟩ := S
    rcases List.mem_cons.mp hb with rfl | hb
    · exact ⟨_, hz, fun v q => nomatch q⟩
    rcases List.mem_cons.mp hb with rfl | hb
    · exact ⟨_, hTI, fun v q => nomatch q⟩
    rcases List.mem_cons.mp hb with rfl | hb
    · exact ⟨_, hTO, fun v q => nomatch q⟩
    obtain ⟨p, hp, rfl⟩ := List.mem_map.mp hb
    obtain ⟨o, e, _, d⟩ := hits p hp
    exact ⟨o, e, fun v q => by rw [d] at q; cases q⟩
  keep := fun i h h' S k => by
    obtain ⟨⟨f0, f1, hz, hf⟩, hTI, ⟨arr, ha, hTO⟩, hits⟩ := S
    refine ⟨⟨f0, f1, k _ (by simp) _ hz, hf⟩, k _ (by simp) _ hTI, ⟨arr, ha, k _ (by simp) _ hTO⟩, fun p hp => ?_⟩
    obtain ⟨o, e, c⟩ := hits p hp
    exact ⟨o, k _ (by
      refine List.mem_cons_of_mem _ (List.mem_cons_of_mem _ (List.mem_cons_of_mem _ ?_))
      exact List.mem_map_of_mem hp) _ e, c⟩
  item := by
    intro X hP hw hK hc i pins s σ H E I hf S hg
    subst hP hw hK
    obtain ⟨hi, R⟩ := hg
    obtain ⟨us, hv, hx⟩ := R.vals I hi
    have hul : us.length = ls.length := by rw [← hv.length, R.len]; simp [colV]
    have D := zapart hlt
    refine pyNext_zn_item D (by rw [zps_length]; exact h1) (by rw [zps_length]; omega) S (vs := us) (by rw [zps_length]; exact hul) (fun j p e => ?_) fun h' S' hT hsz hk => ?_
    · rw [zps_get] at e
      cases ea : ls[j]? with
      | none => rw [ea] at e; cases e
      | some a =>
        rw [ea] at e
        obtain rfl : (n + j, a) = p := Option.some.inj e
        exact hx j a ea
    · refine ⟨_, rfl, ?_⟩
      obtain ⟨⟨f0, f1, hz', hf'⟩, hTI', ⟨arr', ha', hTO'⟩, hits'⟩ := S'
      have hzlt : n + ls.length + 2 < s.heap.objs.size := by
        obtain ⟨⟨g0, g1, g, _⟩, _⟩ := S
        exact Heap.lt_size g
      refine letGo_any (s := { s with heap := h' }) hz' hf' fun h'' g0 hg0 z'' sb => ?_
      have S'' : ZSt kd h'' (n + ls.length + 2) (n + ls.length) (n + ls.length + 1) (zps n ls) (i + 1) :=
        ⟨⟨_, _, z'', hg0⟩, (sb.2 _ D.tz).trans hTI', ⟨arr', ha', (sb.2 _ D.oz).trans hTO'⟩, fun p hp => by
          obtain ⟨o, e, c⟩ := hits' p hp
          exact ⟨o, (sb.2 _ (D.pz p hp).1).trans e, c⟩⟩
      have hT2 := (sb.2 _ (Nat.ne_of_gt hzlt)).trans hT
      have hcl : (colV rows i).length ≤ sizeLine := by
        rw [hv.length, hul, sizeLine_eq]
        omega
      have new : ObjOk X.prog X.w (upd H s.heap.objs.size (.tup (colV rows i))) h'' s.heap.objs.size (.tup (colV rows i)) := ⟨hcl, us, hv, ⟨_, hT2, rfl, _, rfl⟩⟩
      have I1 : Inv X pins σ (upd H s.heap.objs.size (.tup (colV rows i))) { s with heap := h'' } :=
        I.turnedNew (t' := s.toks) (fun c o hb q => (sb.2 c (fun z => hb (by simp [z]))).trans (hk c o (fun z => hb (by simp [z])) (fun z => hb (by simp [z])) (fun p hp z => hb (by
          refine List.mem_cons_of_mem _ (List.mem_cons_of_mem _ (List.mem_cons_of_mem _ ?_))
          rw [z]
          exact List.mem_map_of_mem hp)) q)) hf (Nat.le_refl _) new
      refine ⟨.ref s.heap.objs.size, _, I1, rfl, ⟨_, rfl, I.hok.fresh (Nat.le_refl _), rfl⟩, S'', fun c hcm => ?_⟩
      obtain ⟨o, ho, _⟩ : ∃ o, s.heap.get? c = some o ∧ True := by
        obtain ⟨⟨f0, f1, hz, _⟩, hTI, ⟨arr, _, hTO⟩, hits⟩ := S
        rcases List.mem_cons.mp hcm with rfl | hcm
        · exact ⟨_, hz, trivial⟩
        rcases List.mem_cons.mp hcm with rfl | hcm
        · exact ⟨_, hTI, trivial⟩
        rcases List.mem_cons.mp hcm with rfl | hcm
        · exact ⟨_, hTO, trivial⟩
        obtain ⟨p, hp, rfl⟩ := List.mem_map.mp hcm
        obtain ⟨o, e, _⟩ := hits p hp
        exact ⟨o, e, trivial⟩
      rw [upd_ne (Nat.ne_of_lt (Heap.lt_size ho))]
      exact (hf c hcm).1
  done := by
    intro X hP hw hK hc i pins s σ H E I hf S hg
    subst hP hw hK
    obtain ⟨rfl, R⟩ := hg
    cases hls : ls with
    | nil => rw [hls] at h1; simp at h1
    | cons a r =>
      cases hrw : rows with
      | nil => have := R.len; rw [hls, hrw] at this; simp at this
      | cons q rr =>
        obtain ⟨hq, hl⟩ := R.at_ 0 a q (by rw [hls]; rfl) (by rw [hrw]; rfl)
        have hql := hm q (by rw [hrw]; rfl)
        obtain ⟨its, rv, p⟩ := sq_of I hq
        have hps : zps n ls = (n, a) :: (zps n ls).tail := by
          rw [hls]
          simp [zps]
        rw [← hls]
        refine pyNext_zn_end (I.ok.hd hc) (zapart hlt) S hps (xs := its.toArray) p ?_ fun h' hk => ⟨rfl, ?_⟩
        · have := rv.length
          rw [List.getElem?_toArray, List.getElem?_eq_none (by omega)]
        · exact I.turnedL (t' := s.toks) (fun c o hb q => hk c o (fun z => hb (by simp [z])) (fun z => hb (by simp [z])) (fun p hp z => hb (by
            refine List.mem_cons_of_mem _ (List.mem_cons_of_mem _ (List.mem_cons_of_mem _ ?_))
            rw [z]
            exact List.mem_map_of_mem hp)) q) hf
  self := fun A i s Q E S h => pyIter_zn S h

/-- for (..) in zip(e, ..), up to four tuples and lists, the first not longer than the others -/
def iZipM (K : PySem.W.Frag) (ta : TA) : TI := fun σ H R => ta σ H fun vs H1 => ∃ (kd : Addr → Bool) (ls : List Addr) (rows : List (List V)) (m : Nat), vs = ls.map V.ref ∧ 1 ≤ ls.length ∧ ls.length ≤ 4 ∧ (∀ r, rows[0]? = some r → r.length = m) ∧ Rwm K kd H1 ls rows m ∧ R (ItzM K kd ls rows m) H1
theorem pi_zipM {X : Cx} {e : Expr} {er : List Expr} {ta : TA} {p pos tpos : Pos} {elts : List Expr} {kk : Nat} (hg : Gl X "zip") (hm : X.mg "zip" = none) (ha : PA X (e :: er) ta)
    (hs : starEach (e :: er) X.env = (false, eval e X.env) :: starEach er X.env := by rfl) (hpl : (backTo pos (starEach er X.env)).any (·.1) = false := by rfl) :
    PI X (.Tuple elts kk tpos) (.Call (.Name "zip" p) (e :: er) [] pos) (iZipM X.K ta) := by
  refine ⟨fun pins s σ H R I h => ?_⟩
  refine Call_ (ld_blt I hg hm PyProof.Rows.boot_zip (PyProof.Rows.callWith_type1 (thn (ha.run pos pins s σ H _ I h) fun us s2 ⟨vs, H1, I2, r1, q1⟩ => ?_) hs hpl))
  obtain ⟨kd, ls, rows, m, ex, h1, h2, hm0, Rw, q⟩ := q1
  subst ex
  obtain rfl := vals_refs r1
  have tup : ∀ l ∈ ls, ∃ xs, IsSq (kd l) s2.heap l xs := fun l hl => by
    obtain ⟨j, hj⟩ := List.mem_iff_getElem?.mp hl
    have hjl := (List.getElem?_eq_some_iff.mp hj).1
    have hjr : rows[j]? = some (rows[j]'(by have := Rw.len; omega)) := List.getElem?_eq_getElem (by have := Rw.len; omega)
    obtain ⟨its, _, p⟩ := sq_of I2 (Rw.at_ j l _ hj hjr).1
    exact ⟨its.toArray, p⟩
  refine call_zipN (kd := kd) h1 h2 tup fun h' n en S hsz hk => ?_
  have I3 : Inv X pins σ H1 { s2 with heap := h' } := I2.kept (t' := s2.toks) hk
  have hlt : ∀ l ∈ ls, l < n := fun l hl => by
    obtain ⟨xs, o, ho, _⟩ := tup l hl
    rw [en]
    exact Heap.lt_size ho
  refine pyIter_zn (s := { s2 with heap := h' }) S ⟨n + ls.length + 2, _, _, _, H1, rfl, I3, turn_zm h1 h2 hlt hm0, S, fun b hb => ?_, q⟩
  have hle : s2.heap.objs.size ≤ b := by
    rw [← en]
    rcases List.mem_cons.mp hb with rfl | hb
    · omega
    rcases List.mem_cons.mp hb with rfl | hb
    · omega
    rcases List.mem_cons.mp hb with rfl | hb
    · omega
    obtain ⟨p, hp, rfl⟩ := List.mem_map.mp hb
    obtain ⟨j, _, _, e⟩ := zps_mem hp
    exact Nat.le_trans (Nat.le_add_right n j) (Nat.le_of_eq e.symm)
  exact I2.fpOk hle (I2.hok.fresh hle)
theorem walk_zm {K : PySem.W.Frag} {kd : Addr → Bool} {ls : List Addr} {rows : List (List V)} {m : Nat} : Walk (ItzM K kd ls rows m) m (fun H => Rwm K kd H ls rows m) (fun i H v H' => ∃ T, v = .ref T ∧ H T = none ∧ H' = upd H T (.tup (colV rows i))) :=
  ⟨fun _ _ hi q => ⟨hi, q⟩, fun _ q => ⟨rfl, q⟩, fun _ _ _ _ _ _ y => y⟩
/-- two of them, kinds b1 and b2 -/
def kd2 (a : Addr) (b1 b2 : Bool) : Addr → Bool := fun x => if x = a then b1 else b2
theorem rwm2 {K : PySem.W.Frag} {H : Hp} {a b : Addr} {b1 b2 : Bool} {xs ys : List V} (h1 : SqX K b1 H a xs) (h2 : SqX K b2 H b ys) (hl : xs.length ≤ ys.length) (hab : a = b → b1 = b2) : Rwm K (kd2 a b1 b2) H [a, b] [xs, ys] xs.length := by
  refine ⟨rfl, fun j c r e1 e2 => ?_⟩
  match j with
  | 0 =>
    obtain rfl : a = c := Option.some.inj e1
    obtain rfl : xs = r := Option.some.inj e2
    refine ⟨?_, Nat.le_refl _⟩
    unfold kd2
    rw [if_pos rfl]
    exact h1
  | 1 =>
    obtain rfl : b = c := Option.some.inj e1
    obtain rfl : ys = r := Option.some.inj e2
    refine ⟨?_, hl⟩
    unfold kd2
    by_cases e : b = a
    · rw [if_pos e, hab e.symm]
      exact h2
    · rw [if_neg e]
      exact h2
  | j + 2 => simp at e1
theorem col2 {xs ys : List V} {i : Nat} {x y : V} (h1 : xs[i]? = some x) (h2 : ys[i]? = some y) : colV [xs, ys] i = [x, y] := by
  unfold colV
  simp [h1, h2]
end DM
/-! several clauses 'except c as n', all with one name -/
namespace L2
open PySem PySem.Spec PyProof.Rows
/-- the ends of a suite whose name goes when it ends -/
def Ends.less (D : Ends) (i : Nat) : Ends := { nx := fun σ H => D.nx (σ.set i none) H, rt := D.rt, bk := fun σ H => D.bk (σ.set i none) H, ct := fun σ H => D.ct (σ.set i none) H }
/-- the wish of an exception: the first clause that takes it, else what lies outside -/
def wAsL (K : PySem.W.Frag) (i : Nat) (Wout : WX) (D : Ends) : List (Value × (Addr → Value → Option Addr → TS)) → WX
  | [] => Wout
  | p :: r => fun cls d σ H => ∃ b, PySem.W.exmOne K cls p.1 = some b ∧ (b = true → ∀ a, H a = none → p.2 a cls d (D.less i) (σ.set i (some (.ref a))) H) ∧ (b = false → wAsL K i Wout D r cls d σ H)
/-- the clauses and their readings -/
inductive AsOk (X : Cx) (n : Str) : List ExceptHandler → List (Value × (Addr → Value → Option Addr → TS)) → Prop
  | nil : AsOk X n [] []
  | cons {x : Str} {c : Value} {ts : Addr → Value → Option Addr → TS} {b : Stmt} {st : List Stmt} {q1 q2 : Pos} {hs : List ExceptHandler} {l : List (Value × (Addr → Value → Option Addr → TS))} :
      Names X x c → (∀ (a : Addr) (oe : Obj) (cls : Value) (d : Option Addr) (pn : List (Addr × Obj)), Zc cls d oe → (∃ vs, oe.data = .fields vs) → PSs (X.suite a ((a, oe) :: pn)) (b :: st) (ts a cls d)) →
      AsOk X n hs l → AsOk X n (.ExceptHandler (some (.Name x q1)) (some n) (b :: st) q2 :: hs) ((c, ts) :: l)
section
variable {X : Cx} {n : Str} {i : Nat} {body : List Stmt} {h₀ : ExceptHandler} {hds : List ExceptHandler} {l : List (Value × (Addr → Value → Option Addr → TS))} {pos : Pos} {tb : WX → TS} {Wout : WX} {pins : List (Addr × Obj)}
theorem sp_out {D : Ends} {f : Flow} {s : Shared} {xe : Value → Shared → Prop} (ok : X.Ok) (h : SP (X.tr (X.pn ++ pins) xe) [] D f s) : SP X pins D f s := by
  cases f with
  | next => exact h.elim fun σ h => h.elim fun H h => ⟨σ, H, h.1.ofTry ok, h.2⟩
  | brk => exact h.elim fun σ h => h.elim fun H h => ⟨σ, H, h.1.ofTry ok, h.2⟩
  | cont => exact h.elim fun σ h => h.elim fun H h => ⟨σ, H, h.1.ofTry ok, h.2⟩
  | ret u => exact h.elim fun v h => h.elim fun σ h => h.elim fun H h => ⟨v, σ, H, h.1.ofTry ok, h.2⟩
theorem names_ev {x : Str} {c : Value} {q1 : Pos} (hc : Names X x c) {a : Addr} {oe : Obj} {σ : St} {H : Hp} {s : Shared} {Q E : Value → Shared → Prop} (S : Inv (X.suite a ((a, oe) :: (X.pn ++ pins))) [] σ H s) (q : Q c s) :
    wpAny (model X.prog X.w) (X.A.mark (some (.ref a))) (eval (.Name x q1) X.env) Q E s := by
  rcases hc with ⟨hg, hdbg, hm | ⟨hm, hv, hnn⟩⟩
  · exact ld_glob (X := X.suite a ((a, oe) :: (X.pn ++ pins))) S hg hm q hdbg
  · exact ld_blt (X := X.suite a ((a, oe) :: (X.pn ++ pins))) S hg hm hv q hnn hdbg
theorem ps_try_asL (hs : X.stack = X.env :: X.outer) (hf : X.env.frame = some X.env.locals) (hN : X.N.Nodup) (hi : X.N[i]? = some n) (hln : X.env.kindOf n = some .local) (tk : Takes X Wout)
    (hb : ∀ (W : WX) (pn : List (Addr × Obj)) (xe : Value → Shared → Prop), Takes (X.tr pn xe) W → PassesOwn (model X.prog X.w) X.A X.env xe → PSs (X.tr pn xe) body (tb W))
    (hh : AsOk X n (h₀ :: hds) l) : PS X (.Try body (h₀ :: hds) [] [] pos) (fun D σ H => tb (wAsL X.K i Wout D l) D σ H) := by
  refine ⟨fun pins s σ H D I h => ?_⟩
  have ok := I.ok
  refine wpAny_Try_except (wpAny_mono ((hb (wAsL X.K i Wout D l) (X.pn ++ pins) (fun e s₁ => wpAny (model X.prog X.w) X.A (noteFrame e X.env) (fun _ s₂ => wpAny (model X.prog X.w) X.A (setFlight e none) (fun _ s₃ =>
    wpAny (model X.prog X.w) X.A (handleBy e X.env (h₀ :: hds)) (SP X pins D) X.xe s₃) X.xe s₂) X.xe s₁) (fun u s' xx => ?_) PassesOwn.looking).run [] s σ H D (I.toTry _) h) (fun f s1 q => ?_) (fun e s1 he => he))
  case refine_2 =>
    have q := sp_out ok q
    cases f with
    | next => exact wpAny_execs_nil q
    | brk => exact q
    | cont => exact q
    | ret u => exact q
  obtain ⟨a, B, sI, pins', σ', H', cls, d, rfl, J', nb, up, sky, na, os, ag, w⟩ := xx
  have J : Inv X pins σ' H' sI := J'.ofTry ok
  rw [show (X.tr (X.pn ++ pins) _).stack = X.env :: X.outer from hs] at sky
  show wpAny (model X.prog X.w) X.A (noteFrame (.ref a) X.env) _ _ _
  refine Sky.land Zc.steady (by rw [ok.frames, hs]) hf sky fun h3 fl up3 => ?_
  have up3 := up.trans up3
  have J3 : Inv X pins σ' H' { s' with heap := h3 } := J.landed nb fl.1 up3 os ag
  obtain ⟨oe, vs, he, hz, hd⟩ := fl.there
  have out : a ∉ frs (X.env :: X.outer) := fun hm => by
    obtain ⟨_, o, e, no⟩ := fl.2.2.1.mem hm
    rw [he] at e
    cases e
    exact no _ hd
  have nL : a ≠ X.env.locals := fun z => out (List.mem_filterMap.mpr ⟨X.env, List.mem_cons_self, by rw [hf, z]⟩)
  have nF : a ∉ X.fs := fun hm => by
    obtain ⟨e, he, q⟩ := List.mem_filterMap.mp hm
    exact out (List.mem_filterMap.mpr ⟨e, List.mem_cons_of_mem _ he, q⟩)
  have S3 := J3.suite he hd na nL nF
  -- the clauses, one after the other
  suffices go : ∀ {hs' : List ExceptHandler} {l' : List (Value × (Addr → Value → Option Addr → TS))}, AsOk X n hs' l' → wAsL X.K i Wout D l' cls d σ' H' → wpAny (model X.prog X.w) X.A (handleBy (.ref a) X.env hs') (SP X pins D) X.xe { s' with heap := h3 } from go hh w
  intro hs' l' hk
  induction hk with
  | nil =>
    intro w
    refine wpAny_handleBy_nil ?_
    obtain ⟨_, _, _, o, vs', T, _, _, e, _, e2, e3, _⟩ := id fl
    unfold PySem.passOn
    refine wpAny_bind (wpAny_field e e2 e3 ?_)
    rw [if_neg (by simp)]
    have last : wpAny (model X.prog X.w) X.A (setFlight (.ref a) X.env.frame) (fun _ s4 => wpAny (model X.prog X.w) X.A (throw (.ref a) : Sem Flow) (SP X pins D) X.xe s4) X.xe { s' with heap := h3 } := by
      rw [hf]
      exact HandSPX.setFlight_upZ fl fun h4 hh4 up4 => wpAny_throw (tk _ _ ⟨a, B, sI, pins, σ', H', cls, d, rfl, J, nb, up3.trans up4, .inr (.inr (by rw [hs]; exact hh4)), na, os, ag, w⟩)
    first
      | exact wpAny_bind (wpAny_pure (wpAny_bind last))
      | exact wpAny_bind last
  | @cons x c ts b st q1 q2 hs2 l2 hc hsu r ih =>
    rintro ⟨v, e1, yes, no⟩
    have LT : PySem.W.Looks (model X.prog X.w) h3 (typeOf (.ref a)) cls := fun A Q E s k q => wpAny_typeOf_ref (k _ _ he) (by rw [hz.1]; exact q)
    refine wpAny_handleBy_cons (codeAny_handlers_test (names_ev hc S3 ((PySem.W.exm_one (M := model X.prog X.w) J3.kIn LT e1).here ?_))) (by intro q; cases q)
    cases v with
    | false => exact ih (no rfl)
    | true =>
      refine codeAny_handlers_suite_as (HandSPX.lands_againZ fl fun h4 fl4 up4 => ?_)
      obtain ⟨oe4, _, he4, hz4, hd4⟩ := fl4.there
      have S4 := (J.landed nb fl4.1 (up3.trans up4) os ag : Inv X pins σ' H' { s' with heap := h4 }).suite he4 hd4 na nL nF
      refine store_ok (X := X.suite a ((a, oe4) :: (X.pn ++ pins))) (v := .ref a) S4 hN hi (.inl hln) rfl (fun s5 S5 => ?_) (.inr hln)
      refine wpAny_mono ((hsu a oe4 cls d (X.pn ++ pins) hz4 ⟨_, hd4⟩).run [] s5 _ H' _ S5 (yes rfl a na)) (fun f s6 q => ?_) (fun _ _ z => False.elim z)
      cases f with
      | next => exact q.elim fun σ6 q => q.elim fun H6 q => gone_ok (q.1.unsuite ok) hN hi hln fun s7 J7 => ⟨_, _, J7, q.2⟩
      | brk => exact q.elim fun σ6 q => q.elim fun H6 q => gone_ok (q.1.unsuite ok) hN hi hln fun s7 J7 => ⟨_, _, J7, q.2⟩
      | cont => exact q.elim fun σ6 q => q.elim fun H6 q => gone_ok (q.1.unsuite ok) hN hi hln fun s7 J7 => ⟨_, _, J7, q.2⟩
      | ret u => exact q.elim fun v6 q => q.elim fun σ6 q => q.elim fun H6 q => gone_ok (q.1.unsuite ok) hN hi hln fun s7 J7 => ⟨_, _, _, J7, q.2⟩
end
end L2
/-! several clauses 'except c as n' and 'except (c1, c2, c3) as n', all with one name -/
namespace L2
open PySem PySem.Spec PyProof.Rows
/-- what a clause names -/
inductive Ck where
  | one (c : Value)
  | three (c1 c2 c3 : Value)
def Ck.ex (K : PySem.W.Frag) (cls : Value) : Ck → Option Bool
  | .one c => PySem.W.exmOne K cls c
  | .three c1 c2 c3 => PySem.W.exmAny K cls [c1, c2, c3]
abbrev CkS := Ck × (Addr → Value → Option Addr → TS)
def wCk (K : PySem.W.Frag) (i : Nat) (Wout : WX) (D : Ends) : List CkS → WX
  | [] => Wout
  | p :: r => fun cls d σ H => ∃ b, p.1.ex K cls = some b ∧ (b = true → ∀ a, H a = none → p.2 a cls d (D.less i) (σ.set i (some (.ref a))) H) ∧ (b = false → wCk K i Wout D r cls d σ H)
/-- the reading of a suite behind a clause -/
def SuOk (X : Cx) (ss : List Stmt) (ts : Addr → Value → Option Addr → TS) : Prop := ∀ (a : Addr) (oe : Obj) (cls : Value) (d : Option Addr) (pn : List (Addr × Obj)), Zc cls d oe → (∃ vs, oe.data = .fields vs) → PSs (X.suite a ((a, oe) :: pn)) ss (ts a cls d)
inductive CkOk (X : Cx) (n : Str) : List ExceptHandler → List CkS → Prop
  | nil : CkOk X n [] []
  | one {x : Str} {c : Value} {ts : Addr → Value → Option Addr → TS} {b : Stmt} {st : List Stmt} {q1 q2 : Pos} {hs : List ExceptHandler} {l : List CkS} :
      Names X x c → SuOk X (b :: st) ts → CkOk X n hs l → CkOk X n (.ExceptHandler (some (.Name x q1)) (some n) (b :: st) q2 :: hs) ((.one c, ts) :: l)
  | three {x1 x2 x3 : Str} {c1 c2 c3 : Value} {ts : Addr → Value → Option Addr → TS} {b : Stmt} {st : List Stmt} {q1 q2 q3 q4 q5 : Pos} {k : Nat} {hs : List ExceptHandler} {l : List CkS} :
      Names X x1 c1 → Names X x2 c2 → Names X x3 c3 → SuOk X (b :: st) ts → CkOk X n hs l → CkOk X n (.ExceptHandler (some (.Tuple [.Name x1 q1, .Name x2 q2, .Name x3 q3] k q4)) (some n) (b :: st) q5 :: hs) ((.three c1 c2 c3, ts) :: l)
theorem fly_kept {B : Heap} {l : List Env} {e : Addr} {Z : Obj → Prop} {h h' : Heap} (k : ∀ b o, h.get? b = some o → h'.get? b = some o) (f : HandSPX.FlyingZ B l e Z h) : HandSPX.FlyingZ B l e Z h' := by
  obtain ⟨f1, f2, f3, oe, vs, T, oT, ts, g1, g2, g3, g4, g5, g6, g7, g8, g9⟩ := f
  exact ⟨fun b o q => k _ _ (f1 b o q), f2, f3.of_keeps fun b o q _ => ⟨o, k _ _ q, rfl⟩, oe, vs, T, oT, ts, k _ _ g1, g2, g3, g4, g5, g6, k _ _ g7, g8, g9⟩
theorem upTo_kept {h h' : Heap} (k : ∀ b o, h.get? b = some o → h'.get? b = some o) : h.UpToSlots h' := fun b o q _ => ⟨o.slots, k _ _ q⟩
section
variable {X : Cx} {n : Str} {i : Nat} {body : List Stmt} {h₀ : ExceptHandler} {hds : List ExceptHandler} {l : List CkS} {pos : Pos} {tb : WX → TS} {Wout : WX} {pins : List (Addr × Obj)}
theorem ps_try_ck (hs : X.stack = X.env :: X.outer) (hf : X.env.frame = some X.env.locals) (hN : X.N.Nodup) (hi : X.N[i]? = some n) (hln : X.env.kindOf n = some .local) (tk : Takes X Wout)
    (hb : ∀ (W : WX) (pn : List (Addr × Obj)) (xe : Value → Shared → Prop), Takes (X.tr pn xe) W → PassesOwn (model X.prog X.w) X.A X.env xe → PSs (X.tr pn xe) body (tb W))
    (hh : CkOk X n (h₀ :: hds) l) : PS X (.Try body (h₀ :: hds) [] [] pos) (fun D σ H => tb (wCk X.K i Wout D l) D σ H) := by
  refine ⟨fun pins s σ H D I h => ?_⟩
  have ok := I.ok
  refine wpAny_Try_except (wpAny_mono ((hb (wCk X.K i Wout D l) (X.pn ++ pins) (fun e s₁ => wpAny (model X.prog X.w) X.A (noteFrame e X.env) (fun _ s₂ => wpAny (model X.prog X.w) X.A (setFlight e none) (fun _ s₃ =>
    wpAny (model X.prog X.w) X.A (handleBy e X.env (h₀ :: hds)) (SP X pins D) X.xe s₃) X.xe s₂) X.xe s₁) (fun u s' xx => ?_) PassesOwn.looking).run [] s σ H D (I.toTry _) h) (fun f s1 q => ?_) (fun e s1 he => he))
  case refine_2 =>
    have q := sp_out ok q
    cases f with
    | next => exact wpAny_execs_nil q
    | brk => exact q
    | cont => exact q
    | ret u => exact q
  obtain ⟨a, B, sI, pins', σ', H', cls, d, rfl, J', nb, up, sky, na, os, ag, w⟩ := xx
  have J : Inv X pins σ' H' sI := J'.ofTry ok
  rw [show (X.tr (X.pn ++ pins) _).stack = X.env :: X.outer from hs] at sky
  show wpAny (model X.prog X.w) X.A (noteFrame (.ref a) X.env) _ _ _
  refine Sky.land Zc.steady (by rw [ok.frames, hs]) hf sky fun h3 fl up3 => ?_
  -- the clauses, one after the other, over a heap that may have grown
  suffices go : ∀ {hs' : List ExceptHandler} {l' : List CkS}, CkOk X n hs' l' → ∀ (h3 : Heap), HandSPX.FlyingZ B (X.env :: X.outer) a (Zc cls d) h3 → sI.heap.UpToSlots h3 → wCk X.K i Wout D l' cls d σ' H' →
      wpAny (model X.prog X.w) X.A (handleBy (.ref a) X.env hs') (SP X pins D) X.xe { s' with heap := h3 } from go hh h3 fl (up.trans up3) w
  have base : ∀ {h3 : Heap}, HandSPX.FlyingZ B (X.env :: X.outer) a (Zc cls d) h3 → sI.heap.UpToSlots h3 → ∃ oe vs, h3.get? a = some oe ∧ Zc cls d oe ∧ oe.data = .fields vs ∧ Inv (X.suite a ((a, oe) :: (X.pn ++ pins))) [] σ' H' { s' with heap := h3 } ∧ Inv X pins σ' H' { s' with heap := h3 } := fun {h3} fl up3 => by
    have J3 : Inv X pins σ' H' { s' with heap := h3 } := J.landed nb fl.1 up3 os ag
    obtain ⟨oe, vs, he, hz, hd⟩ := fl.there
    have out : a ∉ frs (X.env :: X.outer) := fun hm => by
      obtain ⟨_, o, e, no⟩ := fl.2.2.1.mem hm
      rw [he] at e
      cases e
      exact no _ hd
    have nL : a ≠ X.env.locals := fun z => out (List.mem_filterMap.mpr ⟨X.env, List.mem_cons_self, by rw [hf, z]⟩)
    have nF : a ∉ X.fs := fun hm => by
      obtain ⟨e, he, q⟩ := List.mem_filterMap.mp hm
      exact out (List.mem_filterMap.mpr ⟨e, List.mem_cons_of_mem _ he, q⟩)
    exact ⟨oe, vs, he, hz, hd, J3.suite he hd na nL nF, J3⟩
  -- a clause that takes it
  have take : ∀ {b : Stmt} {st : List Stmt} {q2 : Pos} {ts : Addr → Value → Option Addr → TS} {h3 : Heap}, SuOk X (b :: st) ts → HandSPX.FlyingZ B (X.env :: X.outer) a (Zc cls d) h3 → sI.heap.UpToSlots h3 → ts a cls d (D.less i) (σ'.set i (some (.ref a))) H' →
      codeAny (model X.prog X.w) (X.A.mark (some (.ref a))) (.handlers (.ref a) [.ExceptHandler none (some n) (b :: st) q2] X.env) (fun r s₂ => match r with
          | .ok f => wpAny (model X.prog X.w) X.A (do bindName X.env n .none; unbindBehindTheSuite X.env n q2) (fun _ s₃ => SP X pins D f s₃) X.xe s₂
          | .error x => cameBackBy (model X.prog X.w) X.A X.env X.xe x s₂) { s' with heap := h3 } := by
    intro b st q2 ts h3 hsu fl up3 yes
    refine codeAny_handlers_suite_as (HandSPX.lands_againZ fl fun h4 fl4 up4 => ?_)
    obtain ⟨oe4, _, he4, hz4, hd4, S4, J4⟩ := base fl4 (up3.trans up4)
    refine store_ok (X := X.suite a ((a, oe4) :: (X.pn ++ pins))) (v := .ref a) S4 hN hi (.inl hln) rfl (fun s5 S5 => ?_) (.inr hln)
    refine wpAny_mono ((hsu a oe4 cls d (X.pn ++ pins) hz4 ⟨_, hd4⟩).run [] s5 _ H' _ S5 yes) (fun f s6 q => ?_) (fun _ _ z => False.elim z)
    cases f with
    | next => exact q.elim fun σ6 q => q.elim fun H6 q => gone_ok (q.1.unsuite ok) hN hi hln fun s7 J7 => ⟨_, _, J7, q.2⟩
    | brk => exact q.elim fun σ6 q => q.elim fun H6 q => gone_ok (q.1.unsuite ok) hN hi hln fun s7 J7 => ⟨_, _, J7, q.2⟩
    | cont => exact q.elim fun σ6 q => q.elim fun H6 q => gone_ok (q.1.unsuite ok) hN hi hln fun s7 J7 => ⟨_, _, J7, q.2⟩
    | ret u => exact q.elim fun v6 q => q.elim fun σ6 q => q.elim fun H6 q => gone_ok (q.1.unsuite ok) hN hi hln fun s7 J7 => ⟨_, _, _, J7, q.2⟩
  intro hs' l' hk
  induction hk with
  | nil =>
    intro h3 fl up3 w
    obtain ⟨_, _, _, _, _, _, J3⟩ := base fl up3
    refine wpAny_handleBy_nil ?_
    obtain ⟨_, _, _, o, vs', T, _, _, e, _, e2, e3, _⟩ := id fl
    unfold PySem.passOn
    refine wpAny_bind (wpAny_field e e2 e3 ?_)
    rw [if_neg (by simp)]
    have last : wpAny (model X.prog X.w) X.A (setFlight (.ref a) X.env.frame) (fun _ s4 => wpAny (model X.prog X.w) X.A (throw (.ref a) : Sem Flow) (SP X pins D) X.xe s4) X.xe { s' with heap := h3 } := by
      rw [hf]
      exact HandSPX.setFlight_upZ fl fun h4 hh4 up4 => wpAny_throw (tk _ _ ⟨a, B, sI, pins, σ', H', cls, d, rfl, J, nb, up3.trans up4, .inr (.inr (by rw [hs]; exact hh4)), na, os, ag, w⟩)
    first
      | exact wpAny_bind (wpAny_pure (wpAny_bind last))
      | exact wpAny_bind last
  | @one x c ts b st q1 q2 hs2 l2 hc hsu r ih =>
    intro h3 fl up3
    rintro ⟨v, e1, yes, no⟩
    obtain ⟨oe, vs, he, hz, hd, S3, J3⟩ := base fl up3
    have LT : PySem.W.Looks (model X.prog X.w) h3 (typeOf (.ref a)) cls := fun A Q E s k q => wpAny_typeOf_ref (k _ _ he) (by rw [hz.1]; exact q)
    refine wpAny_handleBy_cons (codeAny_handlers_test (names_ev hc S3 ((PySem.W.exm_one (M := model X.prog X.w) J3.kIn LT e1).here ?_))) (by intro q; cases q)
    cases v with
    | false => exact ih h3 fl up3 (no rfl)
    | true => exact take hsu fl up3 (yes rfl a na)
  | @three x1 x2 x3 c1 c2 c3 ts b st q1 q2 q3 q4 q5 k hs2 l2 n1 n2 n3 hsu r ih =>
    intro h3 fl up3
    rintro ⟨v, e1, yes, no⟩
    obtain ⟨oe, vs, he, hz, hd, S3, J3⟩ := base fl up3
    have kp : ∀ b o, h3.get? b = some o → (h3.push { cls := .type "tuple", data := .seq [c1, c2, c3].toArray }).get? b = some o := fun b o e => Heap.get?_push_of_some _ e
    have flp := fly_kept kp fl
    have upp := up3.trans (upTo_kept kp)
    have LT : PySem.W.Looks (model X.prog X.w) (h3.push { cls := .type "tuple", data := .seq [c1, c2, c3].toArray }) (typeOf (.ref a)) cls := fun A Q E s k q => wpAny_typeOf_ref (k _ _ (kp _ _ he)) (by rw [hz.1]; exact q)
    obtain ⟨_, _, _, _, _, _, Jp⟩ := base flp upp
    refine wpAny_handleBy_cons (codeAny_handlers_test (wpAny_Tuple (wpAny_items_cons (names_ev n1 S3 (wpAny_items_cons (names_ev n2 S3 (wpAny_items_cons (names_ev n3 S3 (wpAny_items_nil ⟨by show 3 ≤ sizeLine; decide, ?_⟩))))))))) (by intro q; cases q)
    refine (PySem.W.exm_tup3 (M := model X.prog X.w) Jp.kIn LT (Heap.get?_push_at rfl rfl) e1).here ?_
    cases v with
    | false => exact ih _ flp upp (no rfl)
    | true => exact take hsu flp upp (yes rfl a na)
end
end L2
namespace DD
open PySem PySem.Spec PyProof.Rows L2
/-! ### small words about heaps -/
def Kp2 (a b : Addr) (H H' : Hp) : Prop := ∀ c o, c ≠ a → c ≠ b → H c = some o → H' c = some o
theorem Kp2.refl {a b : Addr} {H : Hp} : Kp2 a b H H := fun _ _ _ _ e => e
theorem Kp2.trans {a b : Addr} {H H1 H2 : Hp} (x : Kp2 a b H H1) (y : Kp2 a b H1 H2) : Kp2 a b H H2 := fun c o h1 h2 e => y c o h1 h2 (x c o h1 h2 e)
theorem kps {a b : Addr} {H H' : Hp} (x : Same H H') : Kp2 a b H H' := fun c o _ _ e => x c o e
theorem same_new {H : Hp} {p : Addr} {o : HO} (h : H p = none) : Same H (upd H p o) := fun b x e => by
  rw [upd_ne (ne_of_none e h)]
  exact e
theorem kp2_upd1 {a b : Addr} {H : Hp} {o : HO} : Kp2 a b H (upd H a o) := fun c x h1 _ e => by rw [upd_ne h1]; exact e
theorem kp2_upd2 {a b : Addr} {H : Hp} {o : HO} : Kp2 a b H (upd H b o) := fun c x _ h2 e => by rw [upd_ne h2]; exact e

/-- the deck at dk: its cells at c, none below 0; at most B draws so far -/
structure Deck (H : Hp) (dk c : Addr) (B : Nat) : Prop where
  ex : ∃ (ns : List Int) (t : Int), H dk = some (.lst [.ref c, .int t]) ∧ H c = some (.lst (ns.map V.int)) ∧ (∀ n ∈ ns, 0 ≤ n) ∧ ns.length ≤ 63 ∧ 0 ≤ t ∧ t ≤ (B : Int)
  ne : dk ≠ c
theorem Deck.up {H : Hp} {dk c : Addr} {B B' : Nat} (d : Deck H dk c B) (h : B ≤ B') : Deck H dk c B' := by
  obtain ⟨⟨ns, t, h1, h2, h3, h4, h5, h6⟩, ne⟩ := d
  exact ⟨⟨ns, t, h1, h2, h3, h4, h5, by omega⟩, ne⟩
theorem Deck.keep {H H' : Hp} {dk c : Addr} {B : Nat} (d : Deck H dk c B) (k : Same H H') : Deck H' dk c B := by
  obtain ⟨⟨ns, t, h1, h2, h3⟩, ne⟩ := d
  exact ⟨⟨ns, t, k _ _ h1, k _ _ h2, h3⟩, ne⟩

theorem len_ltD {n : Nat} (h : n ≤ 1000) : n < sizeLine := small1000 h
theorem get_map {α β : Type} {f : α → β} {xs : List α} {i : Nat} {y : β} (h : (xs.map f)[i]? = some y) : ∃ x, xs[i]? = some x ∧ y = f x := by
  rw [List.getElem?_map] at h
  cases e : xs[i]? with
  | none => rw [e] at h; cases h
  | some x => rw [e] at h; exact ⟨x, rfl, (Option.some.inj h).symm⟩
theorem take_succ_map {α β : Type} {f : α → β} {xs : List α} {i : Nat} {x : α} (h : xs[i]? = some x) : (xs.take (i + 1)).map f = (xs.take i).map f ++ [f x] := by
  rw [List.take_add_one, h, List.map_append]
  rfl
theorem cutV_map {ns : List Int} {lo hi : Option Int} : ∃ ms : List Int, cutV (ns.map V.int) lo hi = ms.map V.int ∧ ms.length ≤ ns.length := by
  refine ⟨(ns.drop (HT.sIx ns.length 0 lo)).take (HT.sIx ns.length ns.length hi - HT.sIx ns.length 0 lo), ?_, ?_⟩
  · unfold cutV
    rw [List.length_map, List.map_take, List.map_drop]
  · rw [List.length_take, List.length_drop]
    omega
theorem len_lt {n : Nat} (h : n ≤ 1000) : n < sizeLine := small1000 h
def absI (i : Int) : Int := if i < 0 then -i else i
theorem absI_pos (i : Int) : 0 ≤ absI i := by
  unfold absI
  split <;> omega

theorem Deck.kp {H : Hp} {dk c l : Addr} {B : Nat} {o : HO} (d : Deck H dk c B) (n : H l = none) : Deck (upd H l o) dk c B := d.keep (same_new n)
theorem Deck.nedk {H : Hp} {dk c l : Addr} {B : Nat} (d : Deck H dk c B) (n : H l = none) : l ≠ dk ∧ l ≠ c := by
  obtain ⟨ns, t, h1, h2, _⟩ := d.ex
  exact ⟨(ne_of_none h1 n).symm, (ne_of_none h2 n).symm⟩
theorem two_at {r a b : Int} (h0 : 0 ≤ r) (h : r < 2) : ∃ z : Int, (z = a ∨ z = b) ∧ atI [V.int a, V.int b] r = some (.int z) := by
  have e : r = 0 ∨ r = 1 := by omega
  rcases e with rfl | rfl
  · exact ⟨a, .inl rfl, rfl⟩
  · exact ⟨b, .inr rfl, rfl⟩
theorem kp_free {dk c t : Addr} {H H' : Hp} {B : Nat} (kp : Kp2 dk c H H') (d : Deck H' dk c B) (nt : H' t = none) : H t = none := by
  have tne := d.nedk nt
  cases e : H t with
  | none => rfl
  | some o =>
    have := kp t o tne.1 tne.2 e
    rw [nt] at this
    cases this
theorem Deck.updD {H : Hp} {dk c D : Addr} {B : Nat} {o : HO} (d : Deck H dk c B) (h1 : D ≠ dk) (h2 : D ≠ c) : Deck (upd H D o) dk c B := by
  obtain ⟨⟨ns, t, a1, a2, a3⟩, a4⟩ := d
  refine ⟨⟨ns, t, ?_, ?_, a3⟩, a4⟩
  · rw [upd_ne h1.symm]
    exact a1
  · rw [upd_ne h2.symm]
    exact a2
/-- the tuple at t holds tuples of ints: the rows -/
structure StockAt (H : Hp) (t : Addr) (ls : List Addr) (rows : List (List Int)) : Prop where
  top : H t = some (.tup (ls.map V.ref))
  len : ls.length = rows.length
  row : ∀ (j : Nat) (l : Addr) (r : List Int), ls[j]? = some l → rows[j]? = some r → H l = some (.tup (r.map V.int))
theorem StockAt.kp {H H' : Hp} {dk c t : Addr} {ls : List Addr} {rows : List (List Int)} {B : Nat} (a : StockAt H t ls rows) (k : Kp2 dk c H H') (d : Deck H dk c B) : StockAt H' t ls rows := by
  obtain ⟨ns, t', h1, h2, _⟩ := d.ex
  have n1 : ∀ b xs, H b = some (.tup xs) → b ≠ dk ∧ b ≠ c := fun b xs e =>
    ⟨fun z => (by rw [z, h1] at e; cases e), fun z => (by rw [z, h2] at e; cases e)⟩
  refine ⟨k _ _ (n1 _ _ a.top).1 (n1 _ _ a.top).2 a.top, a.len, fun j l r e1 e2 => ?_⟩
  have h := a.row j l r e1 e2
  exact k _ _ (n1 _ _ h).1 (n1 _ _ h).2 h
theorem StockAt.same {H H' : Hp} {t : Addr} {ls : List Addr} {rows : List (List Int)} (a : StockAt H t ls rows) (k : Same H H') : StockAt H' t ls rows :=
  ⟨k _ _ a.top, a.len, fun j l r e1 e2 => k _ _ (a.row j l r e1 e2)⟩
/-! ### data of stocks and rows -/
def rowD (r : List Int) : PyData := .tuple (r.map PyData.int)
def stockD (rows : List (List Int)) : PyData := .tuple (rows.map rowD)
theorem dps_ints {K : PySem.W.Frag} {H : Hp} : ∀ r : List Int, DpAll K H (r.map V.int) (r.map PyData.int)
  | [] => .nil
  | x :: r => .cons (.int x) (dps_ints r)
theorem dp_row {K : PySem.W.Frag} {H : Hp} {p : Addr} {r : List Int} (h : H p = some (.tup (r.map V.int))) : Dp K H (.ref p) (rowD r) := .tup (SqT.of h) (dps_ints r)
theorem dps_rows {K : PySem.W.Frag} {H : Hp} : ∀ (ls : List Addr) (rows : List (List Int)), ls.length = rows.length →
    (∀ (j : Nat) (l : Addr) (r : List Int), ls[j]? = some l → rows[j]? = some r → H l = some (.tup (r.map V.int))) → DpAll K H (ls.map V.ref) (rows.map rowD)
  | [], [], _, _ => .nil
  | [], _ :: _, h, _ => by simp at h
  | _ :: _, [], h, _ => by simp at h
  | l :: ls, r :: rows, h, hat => .cons (dp_row (hat 0 l r rfl rfl)) (dps_rows ls rows (by simpa using h) fun j l' r' e1 e2 => hat (j + 1) l' r' e1 e2)
theorem StockAt.dp {K : PySem.W.Frag} {H : Hp} {t : Addr} {ls : List Addr} {rows : List (List Int)} (a : StockAt H t ls rows) : Dp K H (.ref t) (stockD rows) :=
  .tup (SqT.of a.top) (dps_rows ls rows a.len a.row)
theorem sm_row {r : List Int} (h : ∀ x ∈ r, 0 ≤ x ∧ x < 4096) (hl : r.length ≤ 4) : Sm 56 1 (rowD r) := by
  have a : SmA (r.map PyData.int).length 13 0 (r.map PyData.int) := SmA.all fun d hd => by
    obtain ⟨x, hx, rfl⟩ := List.mem_map.mp hd
    exact Sm.int (h x hx).1 (h x hx).2
  refine a.tup.up ?_ (Nat.le_refl _)
  rw [List.length_map]
  omega
theorem sm_stock {rows : List (List Int)} (h : ∀ r ∈ rows, r.length ≤ 4 ∧ ∀ x ∈ r, 0 ≤ x ∧ x < 4096) (hl : rows.length ≤ 4) : Sm 228 2 (stockD rows) := by
  have a : SmA (rows.map rowD).length 56 1 (rows.map rowD) := SmA.all fun d hd => by
    obtain ⟨r, hr, rfl⟩ := List.mem_map.mp hd
    exact sm_row (h r hr).2 (h r hr).1
  refine a.tup.up ?_ (Nat.le_refl _)
  rw [List.length_map]
  omega
theorem sm_pair {a b : List Int} (ha : ∀ x ∈ a, 0 ≤ x ∧ x < 4096) (hal : a.length ≤ 4) (hb : ∀ x ∈ b, 0 ≤ x ∧ x < 4096) (hbl : b.length ≤ 4) : Sm 114 2 (.list [rowD a, rowD b]) := by
  have q : SmA (0 + 1 + 1) 56 1 [rowD a, rowD b] := SmA.cons (sm_row ha hal) (SmA.cons (sm_row hb hbl) SmA.nil)
  exact q.lst.up (by omega) (by omega)
theorem sum_bd {b : Int} : ∀ {xs : List Int}, (∀ x ∈ xs, 0 ≤ x ∧ x ≤ b) → 0 ≤ xs.sum ∧ xs.sum ≤ (xs.length : Int) * b
  | [], _ => by simp
  | x :: xs, h => by
    have h1 := h x List.mem_cons_self
    have h2 := sum_bd (xs := xs) fun y hy => h y (List.mem_cons_of_mem _ hy)
    rw [List.sum_cons, List.length_cons, Int.natCast_add, Int.add_mul]
    omega
theorem getD_bd {r : List Int} {b : Int} (h : ∀ x ∈ r, 0 ≤ x ∧ x ≤ b) (hb : 0 ≤ b) (i : Nat) : 0 ≤ r.getD i 0 ∧ r.getD i 0 ≤ b := by
  rw [List.getD_eq_getElem?_getD]
  cases e : r[i]? with
  | none => exact ⟨Int.le_refl _, hb⟩
  | some x => exact h x (List.mem_of_getElem? e)
theorem cat_gen {K : PySem.W.Frag} {H : Hp} {a b : Addr} {xs ys : List V} {Q : VK} (ha : H a = some (.tup xs)) (hb : H b = some (.tup ys)) (hl : xs.length + ys.length ≤ 1000)
    (q : ∀ p H', Same H H' → H' p = some (.tup (xs ++ ys)) → Q (.ref p) H') : rCatA K (.ref a) (.ref b) H Q := by
  refine ⟨a, b, xs, ys, rfl, rfl, SqT.of ha, SqT.of hb, Nat.le_of_lt (len_lt hl), fun e => ?_, fun _ e => ?_, fun _ _ p np => ?_⟩
  · subst e
    exact q b H (fun _ _ e => e) hb
  · subst e
    exact q a H (fun _ _ e => e) (by rw [List.append_nil]; exact ha)
  · exact q p _ (same_new np) upd_same
theorem sl_gen {K : PySem.W.Frag} {H : Hp} {a : Addr} {xs : List V} {lo hi : Option Int} {Q : VK} (ha : H a = some (.tup xs))
    (q : ∀ p H', Same H H' → H' p = some (.tup (cutV xs lo hi)) → Q (.ref p) H') : rSlA K (.ref a) lo hi H Q := by
  refine ⟨a, xs, rfl, SqT.of ha, fun e => ?_, fun _ p np => ?_⟩
  · refine q a H (fun _ _ e => e) ?_
    unfold cutV
    rw [e.1, e.2, Nat.sub_zero, List.drop_zero, List.take_length]
    exact ha
  · exact q p _ (same_new np) upd_same
theorem cut_to {r : List Int} {s : Nat} : cutV (r.map V.int) none (some (s : Int)) = (r.take s).map V.int := by
  unfold cutV
  rw [HT.sIx_none, HT.sIx_nat, List.drop_zero, Nat.sub_zero, List.length_map, ← List.map_take]
  congr 1
  by_cases h : s ≤ r.length
  · rw [Nat.min_eq_left h]
  · rw [Nat.min_eq_right (by omega), List.take_length, List.take_of_length_le (by omega)]
theorem cut_from {r : List Int} {s : Nat} : cutV (r.map V.int) (some (s : Int)) none = (r.drop s).map V.int := by
  unfold cutV
  rw [HT.sIx_none, HT.sIx_nat, List.length_map, ← List.map_drop, ← List.map_take]
  congr 1
  by_cases h : s ≤ r.length
  · rw [Nat.min_eq_left h, List.take_of_length_le (by rw [List.length_drop]; omega)]
  · rw [Nat.min_eq_right (by omega), List.drop_of_length_le (Nat.le_refl _), List.drop_of_length_le (by omega), List.take_nil]

/-! ### facts that stay while the deck turns -/
theorem tup_kp {H H' : Hp} {dk c p : Addr} {B : Nat} {xs : List V} (h : H p = some (.tup xs)) (d : Deck H dk c B) (k : Kp2 dk c H H') : H' p = some (.tup xs) := by
  obtain ⟨ns, t', h1, h2, _⟩ := d.ex
  exact k _ _ (fun z => by rw [z, h1] at h; cases h) (fun z => by rw [z, h2] at h; cases h) h
/-- a collection: n numbers from 0 to hi, one of them above 0 -/
structure Good (n : Nat) (hi : Int) (r : List Int) : Prop where
  len : r.length = n
  bd : ∀ x ∈ r, 0 ≤ x ∧ x ≤ hi
  pos : ∃ x ∈ r, 0 < x
/-- addresses of tuples of ints, row by row -/
def RowsAt (H : Hp) (ls : List Addr) (rows : List (List Int)) : Prop := ∀ (j : Nat) (l : Addr) (r : List Int), ls[j]? = some l → rows[j]? = some r → H l = some (.tup (r.map V.int))
theorem RowsAt.kp {H H' : Hp} {dk c : Addr} {B : Nat} {ls : List Addr} {rows : List (List Int)} (a : RowsAt H ls rows) (d : Deck H dk c B) (k : Kp2 dk c H H') : RowsAt H' ls rows :=
  fun j l r e1 e2 => tup_kp (a j l r e1 e2) d k
theorem RowsAt.same {H H' : Hp} {ls : List Addr} {rows : List (List Int)} (a : RowsAt H ls rows) (k : Same H H') : RowsAt H' ls rows := fun j l r e1 e2 => k _ _ (a j l r e1 e2)
/-- a list that changes is none of the rows -/
theorem RowsAt.updL {H : Hp} {F : Addr} {xs : List V} {o : HO} {ls : List Addr} {rows : List (List Int)} (a : RowsAt H ls rows) (h : H F = some (.lst xs)) : RowsAt (upd H F o) ls rows := fun j l r e1 e2 => by
  have h2 := a j l r e1 e2
  rw [upd_ne (fun z => by rw [z, h] at h2; cases h2)]
  exact h2
theorem RowsAt.snoc {H : Hp} {ls : List Addr} {rows : List (List Int)} {l : Addr} {r : List Int} (a : RowsAt H ls rows) (hl : ls.length = rows.length) (h : H l = some (.tup (r.map V.int))) : RowsAt H (ls ++ [l]) (rows ++ [r]) := by
  intro j l' r' x1 x2
  by_cases hj : j < ls.length
  · rw [List.getElem?_append_left hj] at x1
    rw [List.getElem?_append_left (by omega)] at x2
    exact a j l' r' x1 x2
  · have hj2 : j = ls.length := by
      have := (List.getElem?_eq_some_iff.mp x1).1
      rw [List.length_append] at this
      simp at this
      omega
    subst hj2
    rw [List.getElem?_append_right (Nat.le_refl _), Nat.sub_self] at x1
    rw [hl, List.getElem?_append_right (Nat.le_refl _), Nat.sub_self] at x2
    obtain rfl : l = l' := Option.some.inj x1
    obtain rfl : r = r' := Option.some.inj x2
    exact h
theorem RowsAt.init {H : Hp} {ls : List Addr} {rows : List (List Int)} {l : Addr} {r : List Int} (a : RowsAt H (ls ++ [l]) (rows ++ [r])) : RowsAt H ls rows := fun j l' r' x1 x2 =>
  a j l' r' (by rw [List.getElem?_append_left (List.getElem?_eq_some_iff.mp x1).1]; exact x1) (by rw [List.getElem?_append_left (List.getElem?_eq_some_iff.mp x2).1]; exact x2)
theorem Kp2.updF {H H' : Hp} {dk c F : Addr} {o : HO} (k : Kp2 dk c H H') (n : H F = none) : Kp2 dk c H (upd H' F o) := fun b o' h1 h2 e => by
  rw [upd_ne (ne_of_none e n)]
  exact k b o' h1 h2 e

theorem cutV_all {xs : List V} {lo hi : Option Int} (h : HT.sIx xs.length 0 lo = 0 ∧ HT.sIx xs.length xs.length hi = xs.length) : cutV xs lo hi = xs := by
  unfold cutV
  rw [h.1, h.2, List.drop_zero, Nat.sub_zero, List.take_length]
def rSlQ : V → Option Int → Option Int → Hp → VK → Prop := fun x lo hi H Q => ∃ a xs, x = .ref a ∧ H a = some (.tup xs) ∧ ∀ p H', Same H H' → H' p = some (.tup (cutV xs lo hi)) → Q (.ref p) H'
theorem sl_tupQ {X : Cx} : SlR X rSlQ := by
  intro pins s σ H x v vl vu lo hi sl Q I rx h1 h2 h3 h
  obtain ⟨a, xs, rfl, ha, q⟩ := h
  refine sl_tupA pins s σ H _ v vl vu lo hi sl Q I rx h1 h2 h3 ⟨a, xs, rfl, SqT.of ha, fun e => q a H (Same.refl _) (by rw [cutV_all e]; exact ha), fun _ p np => q p _ (same_new np) upd_same⟩
def rCatQ : R2 := fun x y H Q => ∃ a b xs ys, x = .ref a ∧ y = .ref b ∧ H a = some (.tup xs) ∧ H b = some (.tup ys) ∧ xs.length + ys.length ≤ 1000 ∧ ∀ p H', Same H H' → H' p = some (.tup (xs ++ ys)) → Q (.ref p) H'
theorem op_catQ {X : Cx} : OpR X (binaryOp .Add) rCatQ := by
  intro pins s σ H x y v u Q I rx ry h
  obtain ⟨a, b, xs, ys, rfl, rfl, ha, hb, hl, q⟩ := h
  refine op_catA pins s σ H _ _ v u Q I rx ry ⟨a, b, xs, ys, rfl, rfl, SqT.of ha, SqT.of hb, Nat.le_of_lt (len_lt hl), fun e => q b H (Same.refl _) ?_, fun _ e => q a H (Same.refl _) ?_, fun _ _ p np => q p _ (same_new np) upd_same⟩
  · rw [e]
    exact hb
  · rw [e, List.append_nil]
    exact ha
theorem meets_mul1 (l : Addr) (items : Array Value) (n : Nat) (dd : Option Addr) (sl : Array (Option Value)) (u : Tok) (hi : items.isEmpty = false) : Meets (Builtin.«tuple.__mul__» { pos := [Value.ref l, Value.int 1 u] })
    (fun _ R s => s.heap.get? l = some { cls := Value.type "tuple", dict := dd, data := Data.seq items n, slots := sl } ∧ R (Except.ok (Flow.ret (Value.ref l))) s) :=
  .of_wp fun prog w A R s h => by
    obtain ⟨hp, g, d, tk, os⟩ := s
    obtain ⟨h1, h⟩ := h
    have h2 : hp.get? l = some { cls := Value.type "tuple", dict := dd, data := Data.seq items n, slots := sl } := h1
    wp_walk
    exact ⟨_, rfl, h⟩
def rRepQ : R2 := fun x y H Q => ∃ l k xs, x = .ref l ∧ y = .int k ∧ H l = some (.tup xs) ∧ xs ≠ [] ∧ 1 ≤ k ∧ k ≤ 1000 ∧ xs.length ≤ 1000 ∧ ∀ p H', Same H H' → H' p = some (.tup (List.replicate k.toNat xs).flatten) → Q (.ref p) H'
theorem op_repQ {X : Cx} : OpR X (binaryOp .Mult) rRepQ := by
  intro pins s σ H x y v u Q I rx ry h
  obtain ⟨l, k, xs, rfl, rfl, hl, hx, k1, k2, hn, q⟩ := h
  by_cases hk : 2 ≤ k
  · exact op_repT pins s σ H _ _ v u Q I rx ry ⟨l, k, xs, rfl, rfl, SqT.of hl, hx, hk, k2, hn, fun p np => q p _ (same_new np) upd_same⟩
  · obtain rfl : k = 1 := by omega
    cases rx
    obtain ⟨t, rfl⟩ := ry
    obtain ⟨its, rv, ⟨o, h1, h2, n, h3⟩, hz⟩ := I.tuple (SqT.of (K := X.K) hl)
    obtain ⟨oc, od, oda, osl⟩ := o
    simp only at h2 h3
    subst h2 h3
    have he : its.toArray.isEmpty = false := by
      cases rv with
      | nil => exact absurd rfl hx
      | cons _ _ => rfl
    refine wpAny_binaryOp_repeat_ref (T := "tuple") (U := "int") (by decide) ⟨_, h1, rfl⟩ (fun s' => typeIs_int s' _ _) noFill_tuple_mul F.fills_int_mul F.slot_int_rmul repeat_tuple (F.slot_int_index.lookup) ?_
    refine call_meets F.slot_int_rmul (typeIs_int _ _ _) F.entry_int_rmul (F.args_int_rmul_2 _ _) (int_rmul_tuple _ _ _ _ _ _ _) ⟨h1, rfl, ⟨_, h1, rfl⟩, ?_⟩
    refine call_meets F.slot_tuple_mul ⟨_, h1, rfl⟩ F.entry_tuple_mul (F.args_tuple_mul_2 _ _) (meets_mul1 l its.toArray n od osl t he) ⟨h1, ⟨.ref l, H, I, rfl, q l H (Same.refl _) ?_⟩⟩
    rw [hl]
    show _ = some (HO.tup (List.replicate 1 xs).flatten)
    rw [List.replicate_one, List.flatten_singleton]

theorem rep_one {z : Int} {n : Nat} : (List.replicate n [V.int z]).flatten = (List.replicate n z).map V.int := by
  induction n with
  | zero => rfl
  | succ n ih => rw [List.replicate_succ, List.flatten_cons, ih, List.replicate_succ]; rfl
theorem three_at {r a b c : Int} (h0 : 0 ≤ r) (h : r < 3) : ∃ z : Int, (z = a ∨ z = b ∨ z = c) ∧ atI [V.int a, V.int b, V.int c] r = some (.int z) := by
  have e : r = 0 ∨ r = 1 ∨ r = 2 := by omega
  rcases e with rfl | rfl | rfl
  · exact ⟨a, .inl rfl, rfl⟩
  · exact ⟨b, .inr (.inl rfl), rfl⟩
  · exact ⟨c, .inr (.inr rfl), rfl⟩
def TK (H H' : Hp) : Prop := ∀ b xs, H b = some (.tup xs) → H' b = some (.tup xs)
theorem TK.refl {H : Hp} : TK H H := fun _ _ e => e
theorem TK.trans {H H1 H2 : Hp} (a : TK H H1) (b : TK H1 H2) : TK H H2 := fun c xs e => b c xs (a c xs e)
theorem TK.same {H H' : Hp} (s : Same H H') : TK H H' := fun b xs e => s _ _ e
theorem TK.kp {H H' : Hp} {dk c : Addr} {B : Nat} (d : Deck H dk c B) (k : Kp2 dk c H H') : TK H H' := fun b xs e => tup_kp e d k
theorem TK.lst {H : Hp} {D : Addr} {xs : List V} {o : HO} (h : H D = some (.lst xs)) : TK H (upd H D o) := fun b ys e => by
  rw [upd_ne (fun z => by rw [z, h] at e; cases e)]
  exact e
theorem StockAt.tk {H H' : Hp} {t : Addr} {ls : List Addr} {rows : List (List Int)} (a : StockAt H t ls rows) (k : TK H H') : StockAt H' t ls rows :=
  ⟨k _ _ a.top, a.len, fun j l r e1 e2 => k _ _ (a.row j l r e1 e2)⟩

theorem log2_lt_20 {n : Nat} (h : n < 1048576) : n.log2 ≤ 19 := by
  by_cases h0 : n = 0
  · subst h0; decide
  · have := (Nat.log2_lt h0 (k := 20)).mpr (by omega)
    omega
theorem Sm.intM {i : Int} (h0 : 0 ≤ i) (h : i < 1048576) : Sm 21 0 (.int i) where
  lay := rfl
  short := by
    refine decide_eq_true ?_
    have e := PyProof.Rows.toString_length_le (v := i) (k := 7) h0 (by decide) (by omega)
    exact Nat.le_trans e (by decide)
  show_ := decide_eq_true (by have := log2_lt_20 (n := i.natAbs) (by omega); omega)
  wt := by
    have := log2_lt_20 (n := i.natAbs) (by omega)
    show (if i == 0 then 0 else i.natAbs.log2 + 1) ≤ 21
    split
    · omega
    · omega
  dp := Nat.le_refl _
theorem getD_of {α : Type} {xs : List α} {i : Nat} {d : α} (h : i < xs.length) : xs[i]? = some (xs.getD i d) := by
  rw [List.getD_eq_getElem?_getD, List.getElem?_eq_getElem h]
  rfl
theorem RowsAt.nil {H : Hp} : RowsAt H [] [] := fun j l r e => by simp at e
theorem RowsAt.tk {H H' : Hp} {ls : List Addr} {rows : List (List Int)} (a : RowsAt H ls rows) (k : TK H H') : RowsAt H' ls rows := fun j l r e1 e2 => k _ _ (a j l r e1 e2)
/-! ### data made of tuples -/
mutual
inductive Td (H : Hp) : V → PyData → Prop
  | non : Td H .non .none
  | bl (b : Bool) : Td H (.bl b) (.bool b)
  | int (i : Int) : Td H (.int i) (.int i)
  | str (x : Str) : Td H (.str x) (.str x)
  | tup {a : Addr} {xs : List V} {ds : List PyData} : H a = some (.tup xs) → TdAll H xs ds → Td H (.ref a) (.tuple ds)
inductive TdAll (H : Hp) : List V → List PyData → Prop
  | nil : TdAll H [] []
  | cons {v : V} {d : PyData} {vs : List V} {ds : List PyData} : Td H v d → TdAll H vs ds → TdAll H (v :: vs) (d :: ds)
end
mutual
theorem Td.tkD {H H' : Hp} (k : TK H H') : ∀ (d : PyData) (v : V), Td H v d → Td H' v d
  | .none, _, h => by cases h; exact .non
  | .bool b, _, h => by cases h; exact .bl b
  | .int i, _, h => by cases h; exact .int i
  | .str x, _, h => by cases h; exact .str x
  | .list ds, _, h => by cases h
  | .tuple ds, _, h => by
    cases h with
    | tup a b => exact .tup (k _ _ a) (TdAll.tkD k ds _ b)
  | .dict kvs, _, h => by cases h
theorem TdAll.tkD {H H' : Hp} (k : TK H H') : ∀ (ds : List PyData) (vs : List V), TdAll H vs ds → TdAll H' vs ds
  | [], _, h => by cases h; exact .nil
  | d :: ds, _, h => by
    cases h with
    | cons a b => exact .cons (Td.tkD k d _ a) (TdAll.tkD k ds _ b)
end
theorem Td.tk {H H' : Hp} {v : V} {d : PyData} (h : Td H v d) (k : TK H H') : Td H' v d := Td.tkD k d v h
theorem TdAll.tk {H H' : Hp} {vs : List V} {ds : List PyData} (h : TdAll H vs ds) (k : TK H H') : TdAll H' vs ds := TdAll.tkD k ds vs h
theorem Td.same {H H' : Hp} {v : V} {d : PyData} (h : Td H v d) (k : Same H H') : Td H' v d := h.tk (TK.same k)
theorem TdAll.same {H H' : Hp} {vs : List V} {ds : List PyData} (h : TdAll H vs ds) (k : Same H H') : TdAll H' vs ds := h.tk (TK.same k)
mutual
theorem Td.dpD {K : PySem.W.Frag} {H : Hp} : ∀ (d : PyData) (v : V), Td H v d → Dp K H v d
  | .none, _, h => by cases h; exact .non
  | .bool b, _, h => by cases h; exact .bl b
  | .int i, _, h => by cases h; exact .int i
  | .str x, _, h => by cases h; exact .str x
  | .list ds, _, h => by cases h
  | .tuple ds, _, h => by
    cases h with
    | tup a b => exact .tup (SqT.of a) (TdAll.dpD ds _ b)
  | .dict kvs, _, h => by cases h
theorem TdAll.dpD {K : PySem.W.Frag} {H : Hp} : ∀ (ds : List PyData) (vs : List V), TdAll H vs ds → DpAll K H vs ds
  | [], _, h => by cases h; exact .nil
  | d :: ds, _, h => by
    cases h with
    | cons a b => exact .cons (Td.dpD d _ a) (TdAll.dpD ds _ b)
end
theorem Td.dp {K : PySem.W.Frag} {H : Hp} {v : V} {d : PyData} (h : Td H v d) : Dp K H v d := Td.dpD d v h
theorem TdAll.dp {K : PySem.W.Frag} {H : Hp} {vs : List V} {ds : List PyData} (h : TdAll H vs ds) : DpAll K H vs ds := TdAll.dpD ds vs h
theorem TdAll.len {H : Hp} : ∀ {vs : List V} {ds : List PyData}, TdAll H vs ds → vs.length = ds.length
  | _, _, .nil => rfl
  | _, _, .cons _ b => congrArg (· + 1) b.len
theorem TdAll.app {H : Hp} : ∀ {vs : List V} {ds : List PyData} {ws : List V} {es : List PyData}, TdAll H vs ds → TdAll H ws es → TdAll H (vs ++ ws) (ds ++ es)
  | _, _, _, _, .nil, b => b
  | _, _, _, _, .cons a c, b => .cons a (c.app b)
theorem TdAll.get {H : Hp} : ∀ {vs : List V} {ds : List PyData}, TdAll H vs ds → ∀ {i : Nat} {v : V}, vs[i]? = some v → ∃ d, ds[i]? = some d ∧ Td H v d
  | _, _, .nil, _, _, e => by simp at e
  | _, _, .cons a _, 0, _, e => by
    obtain rfl := Option.some.inj e
    exact ⟨_, rfl, a⟩
  | _, _, .cons _ b, i + 1, _, e => b.get (i := i) e
theorem TdAll.getD {H : Hp} : ∀ {vs : List V} {ds : List PyData}, TdAll H vs ds → ∀ {i : Nat} {d : PyData}, ds[i]? = some d → ∃ v, vs[i]? = some v ∧ Td H v d
  | _, _, .nil, _, _, e => by simp at e
  | _, _, .cons a _, 0, _, e => by
    obtain rfl := Option.some.inj e
    exact ⟨_, rfl, a⟩
  | _, _, .cons _ b, i + 1, _, e => b.getD (i := i) e
theorem TdAll.take {H : Hp} : ∀ {vs : List V} {ds : List PyData} (n : Nat), TdAll H vs ds → TdAll H (vs.take n) (ds.take n)
  | _, _, 0, _ => .nil
  | _, _, n + 1, .nil => .nil
  | _, _, n + 1, .cons a b => .cons a (b.take n)
theorem TdAll.drop {H : Hp} : ∀ {vs : List V} {ds : List PyData} (n : Nat), TdAll H vs ds → TdAll H (vs.drop n) (ds.drop n)
  | _, _, 0, h => h
  | _, _, n + 1, .nil => .nil
  | _, _, n + 1, .cons a b => b.drop n
theorem TdAll.cut {H : Hp} {xs : List V} {ds : List PyData} (h : TdAll H xs ds) {lo hi : Option Int} : TdAll H (cutV xs lo hi) ((ds.drop (HT.sIx ds.length 0 lo)).take (HT.sIx ds.length ds.length hi - HT.sIx ds.length 0 lo)) := by
  unfold cutV
  rw [h.len]
  exact (h.drop _).take _
theorem TdAll.rep {H : Hp} {xs : List V} {ds : List PyData} (h : TdAll H xs ds) : ∀ n : Nat, TdAll H (List.replicate n xs).flatten (List.replicate n ds).flatten
  | 0 => .nil
  | n + 1 => by
    rw [List.replicate_succ, List.replicate_succ, List.flatten_cons, List.flatten_cons]
    exact h.app (h.rep n)
theorem td_ints {H : Hp} : ∀ r : List Int, TdAll H (r.map V.int) (r.map PyData.int)
  | [] => .nil
  | x :: r => .cons (.int x) (td_ints r)
theorem td_row {H : Hp} {p : Addr} {r : List Int} (h : H p = some (.tup (r.map V.int))) : Td H (.ref p) (rowD r) := .tup h (td_ints r)
theorem td_rows {H : Hp} : ∀ (ls : List Addr) (rows : List (List Int)), ls.length = rows.length → RowsAt H ls rows → TdAll H (ls.map V.ref) (rows.map rowD)
  | [], [], _, _ => .nil
  | [], _ :: _, h, _ => by simp at h
  | _ :: _, [], h, _ => by simp at h
  | l :: ls, r :: rows, h, hat => .cons (td_row (hat 0 l r rfl rfl)) (td_rows ls rows (by simpa using h) fun j l' r' e1 e2 => hat (j + 1) l' r' e1 e2)
theorem StockAt.td {H : Hp} {t : Addr} {ls : List Addr} {rows : List (List Int)} (a : StockAt H t ls rows) : Td H (.ref t) (stockD rows) := .tup a.top (td_rows ls rows a.len a.row)
theorem td_intsI {H : Hp} : ∀ {r : List Int} {xs : List V}, TdAll H xs (r.map PyData.int) → xs = r.map V.int
  | [], xs, h => by cases h; rfl
  | x :: r, xs, h => by
    cases h with
    | cons a b =>
      cases a
      rw [td_intsI b]
      rfl
theorem td_rowI {H : Hp} {v : V} {r : List Int} (h : Td H v (rowD r)) : ∃ p, v = .ref p ∧ H p = some (.tup (r.map V.int)) := by
  cases h with
  | tup a b =>
    rw [td_intsI b] at a
    exact ⟨_, rfl, a⟩
theorem td_rowsI {H : Hp} : ∀ {rows : List (List Int)} {xs : List V}, TdAll H xs (rows.map rowD) → ∃ ls : List Addr, xs = ls.map V.ref ∧ ls.length = rows.length ∧ RowsAt H ls rows
  | [], xs, h => by cases h; exact ⟨[], rfl, rfl, RowsAt.nil⟩
  | r :: rows, xs, h => by
    cases h with
    | cons a b =>
      obtain ⟨p, rfl, hp⟩ := td_rowI a
      obtain ⟨ls, rfl, hl, hr⟩ := td_rowsI b
      refine ⟨p :: ls, rfl, by simp [hl], fun j l r' e1 e2 => ?_⟩
      cases j with
      | zero =>
        obtain rfl := Option.some.inj e1
        obtain rfl := Option.some.inj e2
        exact hp
      | succ j => exact hr j l r' e1 e2
theorem td_stockI {H : Hp} {v : V} {rows : List (List Int)} (h : Td H v (stockD rows)) : ∃ t ls, v = .ref t ∧ StockAt H t ls rows := by
  cases h with
  | tup a b =>
    obtain ⟨ls, rfl, hl, hr⟩ := td_rowsI b
    exact ⟨_, ls, rfl, a, hl, hr⟩

/-! ### written data: what its reading gives -/
def Lt (σ : L2.St) (H0 : Hp) (te : TE) (d : PyData) : Prop := ∀ (H : Hp) (Q : VK), Same H0 H → (∀ v H', Same H H' → Td H' v d → Q v H') → te σ H Q
def LtA (σ : L2.St) (H0 : Hp) (ta : TA) (ds : List PyData) : Prop := ∀ (H : Hp) (Q : List V → Hp → Prop), Same H0 H → (∀ vs H', Same H H' → TdAll H' vs ds → Q vs H') → ta σ H Q
def LtO (σ : L2.St) (H0 : Hp) (to : TO) (i : Option Int) : Prop := ∀ (H : Hp) (Q : Option Int → Hp → Prop), Same H0 H → Q i H → to σ H Q
section
variable {σ : L2.St} {H0 : Hp}
theorem lt_c {v : V} {d : PyData} (h : ∀ H, Td H v d) : Lt σ H0 (tC v) d := fun H Q s k => k v H (Same.refl _) (h _)
theorem lt_i {n : Int} : Lt σ H0 (tC (.int n)) (.int n) := lt_c fun _ => .int _
theorem lt_s {x : Str} : Lt σ H0 (tC (.str x)) (.str x) := lt_c fun _ => .str _
theorem lt_b {b : Bool} : Lt σ H0 (tC (.bl b)) (.bool b) := lt_c fun _ => .bl _
theorem lt_n : Lt σ H0 (tC .non) .none := lt_c fun _ => .non
theorem lt_var {i : Nat} {v : V} {d : PyData} (h : σ[i]? = some (some v)) (hv : Td H0 v d) : Lt σ H0 (tVar i) d := fun H Q s k => ⟨v, h, k v H (Same.refl _) (hv.same s)⟩
theorem ltA_nil : LtA σ H0 tNil [] := fun H Q s k => k [] H (Same.refl _) .nil
theorem ltA_cons {te : TE} {ta : TA} {d : PyData} {ds : List PyData} (a : Lt σ H0 te d) (b : LtA σ H0 ta ds) : LtA σ H0 (tCons te ta) (d :: ds) :=
  fun H Q s k => a H _ s fun v H1 s1 q1 => b H1 _ (s.trans s1) fun vs H2 s2 q2 => k (v :: vs) H2 (s1.trans s2) (.cons (q1.same s2) q2)
theorem lt_tup {ta : TA} {ds : List PyData} (a : LtA σ H0 ta ds) (hl : ds.length ≤ 1000) : Lt σ H0 (tTup ta) (.tuple ds) :=
  fun H Q s k => a H _ s fun vs H1 s1 q1 => ⟨Nat.le_of_lt (len_lt (by rw [q1.len]; exact hl)), fun p np => k _ _ (s1.trans (same_new np)) (.tup upd_same (q1.same (same_new np)))⟩
theorem lt_neg {i : Int} {te : TE} (a : Lt σ H0 te (.int i)) : Lt σ H0 (tUn (rU fun i => V.int (-i)) te) (.int (-i)) :=
  fun H Q s k => a H _ s fun v H1 s1 q1 => by
    cases q1
    exact ⟨_, rfl, k _ _ s1 (.int _)⟩
theorem lt_add {i j : Int} {ta tb : TE} (a : Lt σ H0 ta (.int i)) (b : Lt σ H0 tb (.int j)) : Lt σ H0 (tOp (rI0 fun i j => V.int (i + j)) ta tb) (.int (i + j)) :=
  fun H Q s k => a H _ s fun v H1 s1 q1 => b H1 _ (s.trans s1) fun u H2 s2 q2 => by
    cases q1
    cases q2
    exact ⟨_, _, rfl, rfl, k _ _ (s1.trans s2) (.int _)⟩
theorem lto_none : LtO σ H0 tNoPart none := fun H Q s k => k
theorem lto_var {i : Nat} {n : Int} (h : σ[i]? = some (some (.int n))) : LtO σ H0 (tPart (tVar i)) (some n) := fun H Q s k => ⟨_, h, n, rfl, k⟩
theorem lto_c {n : Int} : LtO σ H0 (tPart (tC (.int n))) (some n) := fun H Q s k => ⟨n, rfl, k⟩
theorem lto_var1 {i : Nat} {n : Int} (h : σ[i]? = some (some (.int n))) : LtO σ H0 (tPart (tOp (rI0 fun i j => V.int (i + j)) (tVar i) (tC (.int 1)))) (some (n + 1)) := fun H Q s k => ⟨_, h, _, _, rfl, rfl, _, rfl, k⟩
theorem lt_sl {te : TE} {tl th : TO} {ds : List PyData} {lo hi : Option Int} (a : Lt σ H0 te (.tuple ds)) (l : LtO σ H0 tl lo) (h : LtO σ H0 th hi) :
    Lt σ H0 (tSl rSlQ te tl th) (.tuple ((ds.drop (HT.sIx ds.length 0 lo)).take (HT.sIx ds.length ds.length hi - HT.sIx ds.length 0 lo))) :=
  fun H Q s k => a H _ s fun v H1 s1 q1 => l H1 _ (s.trans s1) (h H1 _ (s.trans s1) (by
    cases q1 with
    | @tup p xs _ hp hs => exact ⟨p, xs, rfl, hp, fun p2 H2 s2 h2 => k _ _ (s1.trans s2) (.tup h2 (hs.same s2).cut)⟩))
theorem lt_cat {ta tb : TE} {ds es : List PyData} (a : Lt σ H0 ta (.tuple ds)) (b : Lt σ H0 tb (.tuple es)) (hl : ds.length + es.length ≤ 1000) :
    Lt σ H0 (tOp rCatQ ta tb) (.tuple (ds ++ es)) :=
  fun H Q s k => a H _ s fun v H1 s1 q1 => b H1 _ (s.trans s1) fun u H2 s2 q2 => by
    have q1 := q1.same s2
    cases q1 with
    | @tup p xs _ hp hs =>
      cases q2 with
      | @tup p2 ys _ hp2 hs2 =>
        exact ⟨p, p2, xs, ys, rfl, rfl, hp, hp2, by rw [hs.len, hs2.len]; exact hl, fun p3 H3 s3 h3 => k _ _ (s1.trans (s2.trans s3)) (.tup h3 ((hs.same s3).app (hs2.same s3)))⟩
theorem lt_rep {ta tb : TE} {ds : List PyData} {n : Int} (a : Lt σ H0 ta (.tuple ds)) (b : Lt σ H0 tb (.int n)) (h0 : ds ≠ []) (hl : ds.length ≤ 1000) (hn : 1 ≤ n) (hn2 : n ≤ 1000) :
    Lt σ H0 (tOp rRepQ ta tb) (.tuple (List.replicate n.toNat ds).flatten) :=
  fun H Q s k => a H _ s fun v H1 s1 q1 => b H1 _ (s.trans s1) fun u H2 s2 q2 => by
    have q1 := q1.same s2
    cases q1 with
    | @tup p xs _ hp hs =>
      cases q2
      refine ⟨p, n, xs, rfl, rfl, hp, ?_, hn, hn2, by rw [hs.len]; exact hl, fun p3 H3 s3 h3 => k _ _ (s1.trans (s2.trans s3)) (.tup h3 ((hs.same s3).rep _))⟩
      intro z
      subst z
      cases hs
      exact h0 rfl
end
/-! ### equal data -/
theorem eqv_ints : ∀ r s : List Int, PyData.eqvAll (r.map PyData.int) (s.map PyData.int) = decide (r = s)
  | [], [] => by simp [PyData.eqvAll]
  | [], _ :: _ => by simp [PyData.eqvAll]
  | _ :: _, [] => by simp [PyData.eqvAll]
  | x :: r, y :: s => by
    show (PyData.eqv (.int x) (.int y) && PyData.eqvAll (r.map PyData.int) (s.map PyData.int)) = _
    rw [eqv_ints r s]
    simp only [PyData.eqv]
    by_cases h1 : x = y
    · by_cases h2 : r = s <;> simp [h1, h2]
    · simp [h1]
theorem eqv_row (r s : List Int) : PyData.eqv (rowD r) (rowD s) = decide (r = s) := by
  show PyData.eqv (.tuple _) (.tuple _) = _
  simp only [PyData.eqv]
  exact eqv_ints r s
theorem eqv_rows : ∀ r s : List (List Int), PyData.eqvAll (r.map rowD) (s.map rowD) = decide (r = s)
  | [], [] => by simp [PyData.eqvAll]
  | [], _ :: _ => by simp [PyData.eqvAll]
  | _ :: _, [] => by simp [PyData.eqvAll]
  | x :: r, y :: s => by
    show (PyData.eqv (rowD x) (rowD y) && PyData.eqvAll (r.map rowD) (s.map rowD)) = _
    rw [eqv_rows r s, eqv_row]
    by_cases h1 : x = y
    · by_cases h2 : r = s <;> simp [h1, h2]
    · simp [h1]
theorem eqv_stock (r s : List (List Int)) : PyData.eqv (stockD r) (stockD s) = decide (r = s) := by
  show PyData.eqv (.tuple _) (.tuple _) = _
  simp only [PyData.eqv]
  exact eqv_rows r s
theorem eqv_bools : ∀ r : List Bool, PyData.eqvAll (r.map PyData.bool) (r.map PyData.bool) = true
  | [] => by simp [PyData.eqvAll]
  | x :: r => by
    show (PyData.eqv (.bool x) (.bool x) && PyData.eqvAll (r.map PyData.bool) (r.map PyData.bool)) = _
    rw [eqv_bools r]
    simp [PyData.eqv]
theorem dps_bools {K : PySem.W.Frag} {H : Hp} : ∀ r : List Bool, DpAll K H (r.map V.bl) (r.map PyData.bool)
  | [] => .nil
  | x :: r => .cons (.bl x) (dps_bools r)
end DD
namespace DD
open PySem PySem.Spec PyProof.Rows L2
/-! ### texts of numbers, rows and cabinets -/
def numT (x : Int) : Str := Str.ofString (toString x)
def rowT (r : List Int) : Str := Txt.join "," (r.map numT)
def cabW (S C : List (List Int)) : List Str := S.map rowT ++ ("for" : Str) :: C.map rowT
def cabT (S C : List (List Int)) : Str := Txt.join " " (cabW S C)
theorem tl_numT {x : Int} (h : 0 ≤ x) : TL.tl (numT x) = TL.numL x.toNat := by
  obtain ⟨n, rfl⟩ := Int.eq_ofNat_of_zero_le h
  exact TL.tl_num n
theorem numT_inj {x y : Int} (hx : 0 ≤ x) (hy : 0 ≤ y) (h : numT x = numT y) : x = y := by
  have e := congrArg TL.tl h
  rw [tl_numT hx, tl_numT hy] at e
  have := TL.numL_inj e
  omega
theorem numT_inj' : ∀ {r s : List Int}, (∀ x ∈ r, 0 ≤ x) → (∀ x ∈ s, 0 ≤ x) → r.map numT = s.map numT → r = s
  | [], [], _, _, _ => rfl
  | [], _ :: _, _, _, h => by simp at h
  | _ :: _, [], _, _, h => by simp at h
  | x :: r, y :: s, h1, h2, h => by
    rw [List.map_cons, List.map_cons] at h
    injection h with a b
    rw [numT_inj (h1 x List.mem_cons_self) (h2 y List.mem_cons_self) a, numT_inj' (fun z hz => h1 z (List.mem_cons_of_mem _ hz)) (fun z hz => h2 z (List.mem_cons_of_mem _ hz)) b]
theorem joinL_mem {S : List Nat} {c : Nat} : ∀ {ps : List (List Nat)}, c ∈ TL.joinL S ps → c ∈ S ∨ ∃ p ∈ ps, c ∈ p
  | [], h => by cases h
  | [p], h => .inr ⟨p, List.mem_singleton.mpr rfl, h⟩
  | p :: q :: r, h => by
    have h : c ∈ p ++ (S ++ TL.joinL S (q :: r)) := h
    rcases List.mem_append.mp h with h | h
    · exact .inr ⟨p, List.mem_cons_self, h⟩
    · rcases List.mem_append.mp h with h | h
      · exact .inl h
      · rcases joinL_mem h with h | ⟨p', hp, hc⟩
        · exact .inl h
        · exact .inr ⟨p', List.mem_cons_of_mem _ hp, hc⟩
theorem tl_comma : TL.tl ("," : Str) = [44] := by decide +kernel
theorem tl_blank : TL.tl (" " : Str) = [32] := by decide +kernel
theorem tl_for : TL.tl ("for" : Str) = [102, 111, 114] := by decide +kernel
theorem rowT_mem {r : List Int} (h : ∀ x ∈ r, 0 ≤ x) {c : Nat} (hc : c ∈ TL.tl (rowT r)) : c = 44 ∨ (48 ≤ c ∧ c ≤ 57) := by
  unfold rowT at hc
  rw [TL.join_eq, TL.tl_join, tl_comma] at hc
  rcases joinL_mem hc with hc | ⟨p, hp, hc⟩
  · exact .inl (List.mem_singleton.mp hc)
  · rw [List.map_map] at hp
    obtain ⟨x, hx, rfl⟩ := List.mem_map.mp hp
    rw [Function.comp_apply, tl_numT (h x hx)] at hc
    exact .inr (TL.numL_digits _ c hc)
theorem rowT_for {r : List Int} (h : ∀ x ∈ r, 0 ≤ x) : rowT r ≠ "for" := fun e => by
  have hc : (102 : Nat) ∈ TL.tl (rowT r) := by
    rw [e, tl_for]
    simp
  have := rowT_mem h hc
  omega
theorem rowT_inj {r s : List Int} (hr : ∀ x ∈ r, 0 ≤ x) (hs : ∀ x ∈ s, 0 ≤ x) (nr : r ≠ []) (ns : s ≠ []) (h : rowT r = rowT s) : r = s := by
  have k : ∀ {r : List Int}, (∀ x ∈ r, 0 ≤ x) → r ≠ [] → Txt.split (rowT r) "," = r.map numT := fun {r} hr nr =>
    TL.split_join tl_comma (by decide +kernel) (fun e => nr (List.map_eq_nil_iff.mp e)) fun p hp => by
      obtain ⟨x, hx, rfl⟩ := List.mem_map.mp hp
      rw [tl_numT (hr x hx)]
      exact TL.numL_free (by omega)
  refine numT_inj' hr hs ?_
  rw [← k hr nr, ← k hs ns, h]
/-- rows whose texts may be told apart -/
def Plain (S : List (List Int)) : Prop := ∀ r ∈ S, r ≠ [] ∧ ∀ x ∈ r, 0 ≤ x
theorem rows_inj : ∀ {S T : List (List Int)}, Plain S → Plain T → S.map rowT = T.map rowT → S = T
  | [], [], _, _, _ => rfl
  | [], _ :: _, _, _, h => by simp at h
  | _ :: _, [], _, _, h => by simp at h
  | x :: r, y :: s, h1, h2, h => by
    rw [List.map_cons, List.map_cons] at h
    injection h with a b
    rw [rowT_inj (h1 x List.mem_cons_self).2 (h2 y List.mem_cons_self).2 (h1 x List.mem_cons_self).1 (h2 y List.mem_cons_self).1 a, rows_inj (fun z hz => h1 z (List.mem_cons_of_mem _ hz)) (fun z hz => h2 z (List.mem_cons_of_mem _ hz)) b]
theorem cut_at {α : Type} {x : α} : ∀ {a a' b b' : List α}, x ∉ a → x ∉ a' → a ++ x :: b = a' ++ x :: b' → a = a' ∧ b = b'
  | [], [], b, b', _, _, h => by
    injection h with _ h
    exact ⟨rfl, h⟩
  | [], y :: a', b, b', _, h2, h => by
    injection h with e _
    exact absurd (by rw [e]; exact List.mem_cons_self) h2
  | y :: a, [], b, b', h1, _, h => by
    injection h with e _
    exact absurd (by rw [← e]; exact List.mem_cons_self) h1
  | y :: a, z :: a', b, b', h1, h2, h => by
    injection h with e h
    obtain ⟨rfl, rfl⟩ := cut_at (fun z => h1 (List.mem_cons_of_mem _ z)) (fun z => h2 (List.mem_cons_of_mem _ z)) h
    rw [e]
    exact ⟨rfl, rfl⟩
theorem for_notin {S : List (List Int)} (h : Plain S) : ("for" : Str) ∉ S.map rowT := fun e => by
  obtain ⟨r, hr, e⟩ := List.mem_map.mp e
  exact rowT_for (h r hr).2 e
theorem cabW_free {S C : List (List Int)} (hS : Plain S) (hC : Plain C) : ∀ p ∈ cabW S C, (32 : Nat) ∉ TL.tl p := fun p hp hc => by
  unfold cabW at hp
  have key : ∀ {T : List (List Int)}, Plain T → p ∈ T.map rowT → False := fun {T} hT h => by
    obtain ⟨r, hr, rfl⟩ := List.mem_map.mp h
    have := rowT_mem (hT r hr).2 hc
    omega
  rcases List.mem_append.mp hp with h | h
  · exact key hS h
  · rcases List.mem_cons.mp h with rfl | h
    · rw [tl_for] at hc
      simp at hc
    · exact key hC h
theorem cabT_inj {S C S' C' : List (List Int)} (hS : Plain S) (hC : Plain C) (hS' : Plain S') (hC' : Plain C') (h : cabT S C = cabT S' C') : S = S' ∧ C = C' := by
  have k : ∀ {S C : List (List Int)}, Plain S → Plain C → Txt.split (cabT S C) " " = cabW S C := fun {S C} hS hC =>
    TL.split_join tl_blank (by decide +kernel) (fun e => by unfold cabW at e; simp at e) (cabW_free hS hC)
  have e : cabW S C = cabW S' C' := by rw [← k hS hC, ← k hS' hC', h]
  obtain ⟨e1, e2⟩ := cut_at (for_notin hS) (for_notin hS') e
  exact ⟨rows_inj hS hS' e1, rows_inj hC hC' e2⟩
theorem numT_len {x : Int} (h0 : 0 ≤ x) (h : x < 4096) : (numT x).length ≤ 13 := by
  have e := int_text_length_le (a := x) (k := 12) (by decide) (by have := log2_lt_of (n := x.natAbs) (by omega); omega)
  unfold numT
  rw [PySem.ofString_length]
  omega
theorem num_log {x : Int} (h0 : 0 ≤ x) (h : x < 4096) : x.natAbs.log2 < 1920 := by
  have := log2_lt_of (n := x.natAbs) (by omega)
  omega
theorem sum_le_mul {m : Nat} : ∀ {xs : List Nat}, (∀ x ∈ xs, x ≤ m) → xs.sum ≤ xs.length * m
  | [], _ => by simp
  | x :: xs, h => by
    have h1 := h x List.mem_cons_self
    have h2 := sum_le_mul (xs := xs) fun y hy => h y (List.mem_cons_of_mem _ hy)
    rw [List.sum_cons, List.length_cons, Nat.succ_mul]
    omega
theorem join_len (y : Str) : ∀ ps : List Str, (Txt.join y ps).length ≤ (ps.map (·.length)).sum + ps.length * y.length := fun ps => by
  rw [TL.join_eq, TL.len_tl, TL.tl_join]
  induction ps with
  | nil => simp [TL.joinL]
  | cons p r ih =>
    cases r with
    | nil =>
      show (TL.tl p).length ≤ _
      rw [← TL.len_tl]
      simp
    | cons q r =>
      show (TL.tl p ++ (TL.tl y ++ TL.joinL (TL.tl y) ((q :: r).map TL.tl))).length ≤ _
      rw [List.length_append, List.length_append, ← TL.len_tl, ← TL.len_tl, List.map_cons (f := fun x : Str => x.length), List.sum_cons, List.length_cons, Nat.succ_mul]
      omega
theorem rowT_size {r : List Int} (h : ∀ x ∈ r, 0 ≤ x ∧ x < 4096) (hl : r.length ≤ 4) : ((r.map numT).map (·.length)).sum + (r.map numT).length * ("," : Str).length ≤ 60 := by
  have h1 : ((r.map numT).map (·.length)).sum ≤ ((r.map numT).map (·.length)).length * 13 := sum_le_mul fun x hx => by
    obtain ⟨y, hy, rfl⟩ := List.mem_map.mp hx
    obtain ⟨z, hz, rfl⟩ := List.mem_map.mp hy
    exact numT_len (h z hz).1 (h z hz).2
  have h2 : ("," : Str).length = 1 := by decide +kernel
  rw [h2]
  simp only [List.length_map] at h1 ⊢
  omega
theorem rowT_len {r : List Int} (h : ∀ x ∈ r, 0 ≤ x ∧ x < 4096) (hl : r.length ≤ 4) : (rowT r).length ≤ 60 := Nat.le_trans (join_len _ _) (rowT_size h hl)
/-- rows of a cabinet: one to four numbers each -/
def Rows4 (S : List (List Int)) : Prop := ∀ r ∈ S, (1 ≤ r.length ∧ r.length ≤ 4) ∧ ∀ x ∈ r, 0 ≤ x ∧ x < 4096
theorem Rows4.plain {S : List (List Int)} (h : Rows4 S) : Plain S := fun r hr => ⟨fun e => by have := (h r hr).1.1; rw [e] at this; simp at this, fun x hx => ((h r hr).2 x hx).1⟩
theorem cabW_size {S C : List (List Int)} (hS : Rows4 S) (hC : Rows4 C) (h1 : S.length ≤ 4) (h2 : C.length ≤ 4) : ((cabW S C).map (·.length)).sum + (cabW S C).length * (" " : Str).length ≤ 16777216 := by
  have h3 : ((cabW S C).map (·.length)).sum ≤ ((cabW S C).map (·.length)).length * 60 := sum_le_mul fun x hx => by
    obtain ⟨p, hp, rfl⟩ := List.mem_map.mp hx
    unfold cabW at hp
    have key : ∀ {T : List (List Int)}, Rows4 T → p ∈ T.map rowT → p.length ≤ 60 := fun {T} hT h => by
      obtain ⟨r, hr, rfl⟩ := List.mem_map.mp h
      exact rowT_len (hT r hr).2 (hT r hr).1.2
    rcases List.mem_append.mp hp with h | h
    · exact key hS h
    · rcases List.mem_cons.mp h with rfl | h
      · decide +kernel
      · exact key hC h
  have h4 : (" " : Str).length = 1 := by decide +kernel
  have h5 : (cabW S C).length ≤ 9 := by
    unfold cabW
    simp
    omega
  rw [h4]
  simp only [List.length_map] at h3 ⊢
  omega
end DD
namespace DD
open PySem PySem.Spec PyProof.Rows L2
theorem iteT2 {c : Bool} {A B : Prop} (e : c = true) (h : A) : if c = true then A else B := by rw [if_pos e]; exact h
theorem iteF2 {c : Bool} {A B : Prop} (e : c = false) (h : B) : if c = true then A else B := by rw [e, if_neg Bool.false_ne_true]; exact h
/-! ### one step of a reading, by name -/
section
variable {t u : TS} {D : Ends} {σ : L2.St} {H : Hp} {te tb : TE} {ta : TA} {g : TG} {i : Nat} {v : V} {r : R2}
theorem at_seq (h : t { D with nx := u D } σ H) : tSeq t u D σ H := h
theorem at_asg (h : te σ H fun x H1 => g x σ H1 D.nx) : tAsg te g D σ H := h
theorem at_name {Q : L2.St → Hp → Prop} (h : Q (σ.set i (some v)) H) : gName i v σ H Q := h
theorem at_ret (h : te σ H D.rt) : tRet te D σ H := h
theorem at_lst {Q : VK} (h : ta σ H fun vs H1 => vs.length ≤ sizeLine ∧ ∀ p, H1 p = none → Q (.ref p) (upd H1 p (.lst vs))) : tLst ta σ H Q := h
theorem at_tup {Q : VK} (h : ta σ H fun vs H1 => vs.length ≤ sizeLine ∧ ∀ p, H1 p = none → Q (.ref p) (upd H1 p (.tup vs))) : tTup ta σ H Q := h
theorem at_op {Q : VK} (h : te σ H fun x H1 => tb σ H1 fun y H2 => r x y H2 Q) : tOp r te tb σ H Q := h
theorem at_cons {Q : List V → Hp → Prop} (h : te σ H fun x H1 => ta σ H1 fun xs H2 => Q (x :: xs) H2) : tCons te ta σ H Q := h
theorem at_nil {Q : List V → Hp → Prop} (h : Q [] H) : tNil σ H Q := h
theorem at_var {Q : VK} (h1 : σ[i]? = some (some v)) (h : Q v H) : tVar i σ H Q := ⟨v, h1, h⟩
end
end DD
namespace DD
open PySem PySem.Spec PyProof.Rows L2

/-! ### data of any value of a law: also dicts, {} and {"a": 0} -/
mutual
inductive Dq (H : Hp) : V → PyData → Prop
  | non : Dq H .non .none
  | bl (b : Bool) : Dq H (.bl b) (.bool b)
  | int (i : Int) : Dq H (.int i) (.int i)
  | str (x : Str) : Dq H (.str x) (.str x)
  | lst {a : Addr} {xs : List V} {ds : List PyData} : H a = some (.lst xs) → DqAll H xs ds → Dq H (.ref a) (.list ds)
  | tup {a : Addr} {xs : List V} {ds : List PyData} : H a = some (.tup xs) → DqAll H xs ds → Dq H (.ref a) (.tuple ds)
  | d0 {a : Addr} : H a = some (.dK []) → Dq H (.ref a) (.dict [])
  | d1 {a : Addr} : H a = some (.dK [(.inr "a", .int 0)]) → Dq H (.ref a) (.dict [(.str "a", .int 0)])
inductive DqAll (H : Hp) : List V → List PyData → Prop
  | nil : DqAll H [] []
  | cons {v : V} {d : PyData} {vs : List V} {ds : List PyData} : Dq H v d → DqAll H vs ds → DqAll H (v :: vs) (d :: ds)
end
mutual
theorem Dq.same {H H' : Hp} (k : Same H H') : ∀ (d : PyData) (v : V), Dq H v d → Dq H' v d
  | .none, _, h => by cases h; exact .non
  | .bool b, _, h => by cases h; exact .bl b
  | .int i, _, h => by cases h; exact .int i
  | .str x, _, h => by cases h; exact .str x
  | .list ds, _, h => by
    cases h with
    | lst a b => exact .lst (k _ _ a) (DqAll.same k ds _ b)
  | .tuple ds, _, h => by
    cases h with
    | tup a b => exact .tup (k _ _ a) (DqAll.same k ds _ b)
  | .dict kvs, _, h => by
    cases h with
    | d0 a => exact .d0 (k _ _ a)
    | d1 a => exact .d1 (k _ _ a)
theorem DqAll.same {H H' : Hp} (k : Same H H') : ∀ (ds : List PyData) (vs : List V), DqAll H vs ds → DqAll H' vs ds
  | [], _, h => by cases h; exact .nil
  | d :: ds, _, h => by
    cases h with
    | cons a b => exact .cons (Dq.same k d _ a) (DqAll.same k ds _ b)
end
theorem DqAll.len {H : Hp} : ∀ {vs : List V} {ds : List PyData}, DqAll H vs ds → vs.length = ds.length
  | _, _, .nil => rfl
  | _, _, .cons _ b => congrArg (· + 1) b.len
theorem DqAll.app {H : Hp} : ∀ {vs : List V} {ds : List PyData} {ws : List V} {es : List PyData}, DqAll H vs ds → DqAll H ws es → DqAll H (vs ++ ws) (ds ++ es)
  | _, _, _, _, .nil, b => b
  | _, _, _, _, .cons a c, b => .cons a (c.app b)
theorem DqAll.get {H : Hp} : ∀ {vs : List V} {ds : List PyData}, DqAll H vs ds → ∀ {i : Nat} {v : V}, vs[i]? = some v → ∃ d, ds[i]? = some d ∧ Dq H v d
  | _, _, .nil, _, _, e => by simp at e
  | _, _, .cons a _, 0, _, e => by
    obtain rfl := Option.some.inj e
    exact ⟨_, rfl, a⟩
  | _, _, .cons _ b, i + 1, _, e => b.get (i := i) e
theorem DqAll.take {H : Hp} : ∀ {vs : List V} {ds : List PyData} (n : Nat), DqAll H vs ds → DqAll H (vs.take n) (ds.take n)
  | _, _, 0, _ => .nil
  | _, _, n + 1, .nil => .nil
  | _, _, n + 1, .cons a b => .cons a (b.take n)
theorem DqAll.drop {H : Hp} : ∀ {vs : List V} {ds : List PyData} (n : Nat), DqAll H vs ds → DqAll H (vs.drop n) (ds.drop n)
  | _, _, 0, h => h
  | _, _, n + 1, .nil => .nil
  | _, _, n + 1, .cons _ b => b.drop n
theorem dq_ints {H : Hp} : ∀ r : List Int, DqAll H (r.map V.int) (r.map PyData.int)
  | [] => .nil
  | x :: r => .cons (.int x) (dq_ints r)

/-! noL: no list in it -/
mutual
def noL : PyData → Bool
  | .list _ => false
  | .tuple ds => noLs ds
  | _ => true
def noLs : List PyData → Bool
  | [] => true
  | d :: ds => noL d && noLs ds
end
theorem reads_d0 {X : Cx} {pins : List (Addr × Obj)} {σ : L2.St} {H : Hp} {s : Shared} (I : Inv X pins σ H s) {a : Addr} (h : H a = some (.dK [])) : ∃ as, Reads s.heap (.ref a) (.dict []) as ∧ sysModules ∉ as := by
  have q : ObjOk X.prog X.w H s.heap a (.dK []) := I.hok a _ h
  unfold ObjOk at q
  obtain ⟨_, hs, vs, kv, o, es, ep, ho, hx, hd, hk, hp, _⟩ := q
  cases kv
  obtain ⟨l⟩ := es
  cases hp
  refine ⟨_, .dict ho hx.1 hd (.nil) (.nil), fun z => ?_⟩
  have : sysModules = a := by simpa using z
  rw [this] at hs
  simp at hs
theorem reads_d1 {X : Cx} {pins : List (Addr × Obj)} {σ : L2.St} {H : Hp} {s : Shared} (I : Inv X pins σ H s) {a : Addr} (h : H a = some (.dK [(.inr "a", .int 0)])) : ∃ as, Reads s.heap (.ref a) (.dict [(.str "a", .int 0)]) as ∧ sysModules ∉ as := by
  have q : ObjOk X.prog X.w H s.heap a (.dK [(.inr "a", .int 0)]) := I.hok a _ h
  unfold ObjOk at q
  obtain ⟨_, hs, vs, kv, o, es, ep, ho, hx, hd, hk, hp, _⟩ := q
  cases kv with
  | cons r n =>
    cases n
    obtain ⟨l⟩ := es
    cases hp with
    | cons hi hv hr =>
      cases hr
      obtain ⟨rk, tk, rv⟩ := r
      rename_i kv _ e
      rw [← rk] at hi
      rw [rv] at hv
      obtain ⟨tk2, hk2⟩ : ∃ t, e.key = .str "a" t := by
        have z : keyIs (.inr "a") e.key = true := hi
        cases q : e.key <;> rw [q] at z <;> first | (exact absurd z Bool.false_ne_true) | (obtain rfl : "a" = _ := of_decide_eq_true z; exact ⟨_, rfl⟩) | (have z2 := eq_of_beq z; subst z2; exact ⟨_, rfl⟩)
      refine ⟨_, .dict ho hx.1 hd (.cons (show Reads s.heap e.key (.str "a") _ by rw [hk2]; exact .str _ _) .nil) (.cons (show Reads s.heap e.val (.int 0) _ by rw [hv]; exact .int _ _) .nil), fun z => ?_⟩
      have : sysModules = a := by simpa using z
      rw [this] at hs
      simp at hs
mutual
theorem Dq.reads {X : Cx} {pins : List (Addr × Obj)} {σ : L2.St} {H : Hp} {s : Shared} (I : Inv X pins σ H s) : ∀ (d : PyData) (v : V) (u : Value), Dq H v d → RelV v u → ∃ as, Reads s.heap u d as ∧ (noL d = true → sysModules ∉ as)
  | .none, _, u, h, r => by
    cases h
    obtain rfl : u = .none := r
    exact ⟨_, .none, fun _ => by simp⟩
  | .bool b, _, u, h, r => by
    cases h
    obtain rfl : u = .bool b := r
    exact ⟨_, .bool b, fun _ => by simp⟩
  | .int i, _, u, h, r => by
    cases h
    obtain ⟨t, rfl⟩ := r
    exact ⟨_, .int i t, fun _ => by simp⟩
  | .str x, _, u, h, r => by
    cases h
    obtain ⟨t, rfl⟩ := r
    exact ⟨_, .str x t, fun _ => by simp⟩
  | .list ds, _, u, h, r => by
    cases h with
    | lst a b =>
      cases r
      obtain ⟨its, rv, ⟨o, n, h1, h2, _, h3⟩, _⟩ := I.list (SqL.of (K := X.K) a)
      obtain ⟨as, ra, _⟩ := DqAll.reads I ds _ _ b rv
      exact ⟨_, .list (vs := its.toArray) h1 h2 h3 ra, fun z => by cases z⟩
  | .tuple ds, _, u, h, r => by
    cases h with
    | tup a b =>
      cases r
      obtain ⟨its, rv, ⟨o, ho, hc, n, hd⟩, _⟩ := I.tuple (SqT.of (K := X.K) a)
      obtain ⟨as, ra, hn⟩ := DqAll.reads I ds _ _ b rv
      exact ⟨_, .tuple (vs := its.toArray) ho hc hd ra, fun z => hn z⟩
  | .dict kvs, _, u, h, r => by
    cases h with
    | d0 a =>
      cases r
      obtain ⟨as, q, n⟩ := reads_d0 I a
      exact ⟨as, q, fun _ => n⟩
    | d1 a =>
      cases r
      obtain ⟨as, q, n⟩ := reads_d1 I a
      exact ⟨as, q, fun _ => n⟩
theorem DqAll.reads {X : Cx} {pins : List (Addr × Obj)} {σ : L2.St} {H : Hp} {s : Shared} (I : Inv X pins σ H s) : ∀ (ds : List PyData) (vs : List V) (us : List Value), DqAll H vs ds → Vals vs us → ∃ as, ReadsAll s.heap us ds as ∧ (noLs ds = true → sysModules ∉ as)
  | [], _, _, h, r => by
    cases h
    cases r
    exact ⟨_, .nil, fun _ => by simp⟩
  | d :: ds, _, _, h, r => by
    cases h with
    | cons a b =>
      cases r with
      | cons r1 r2 =>
        obtain ⟨as, q1, n1⟩ := Dq.reads I d _ _ a r1
        obtain ⟨bs, q2, n2⟩ := DqAll.reads I ds _ _ b r2
        refine ⟨_, .cons q1 q2, fun z => ?_⟩
        have z' : (noL d && noLs ds) = true := z
        rw [Bool.and_eq_true] at z'
        intro m
        rcases List.mem_append.mp m with m | m
        · exact n1 z'.1 m
        · exact n2 z'.2 m
end

/-! ### repr of any such value -/
structure Gd (d : PyData) : Prop where
  show_ : d.showable = true
  dp : d.depth ≤ 64
  sz : d.shown.length ≤ sizeLine
  nl : d.hasDict = true → noL d = true
theorem call_reprQ {X : Cx} (hg : X.A.guards = some []) (hu : X.A.units + 66 < cLine) : CallR X (.builtin "repr") (fun xs H Q =>
    ∃ v d, xs = [v] ∧ Dq H v d ∧ Gd d ∧ Q (.str d.shown) H) := by
  intro pins s σ H xs us Q I r h
  obtain ⟨v, d, rfl, hd, g, q⟩ := h
  obtain ⟨u, rfl, ru⟩ := vals1 r
  obtain ⟨as, rd, nm⟩ := Dq.reads I d _ _ hd ru
  have hdp := g.dp
  have big : ∀ (a : Addr), u = .ref a → wpAny (model X.prog X.w) X.A (call (.builtin "repr") [u]) (fun u s1 => ∃ x H1, Inv X pins σ H1 s1 ∧ RelV x u ∧ Q x H1) X.xe s := fun a e => by
    subst e
    exact repr_of_reads' (Q := fun u s1 => ∃ x H1, Inv X pins σ H1 s1 ∧ RelV x u ∧ Q x H1) rd g.show_ (fun z => nm (g.nl z)) hg (by omega) (fun _ _ e => e)
      (fun h' u tk hk => ⟨.str d.shown, H, I.kept hk, ⟨_, rfl⟩, q⟩) g.sz
  cases hd with
  | non =>
    obtain rfl : u = .none := ru
    exact P.repr_of_none ⟨.str PyData.none.shown, H, I.tok _, ⟨_, rfl⟩, q⟩
  | bl b =>
    obtain rfl : u = .bool b := ru
    exact P.repr_of_bool ⟨.str (PyData.bool b).shown, H, I.tok _, ⟨_, rfl⟩, q⟩
  | int i =>
    obtain ⟨t, rfl⟩ := ru
    exact P.repr_of_int (of_decide_eq_true g.show_) ⟨.str (PyData.int i).shown, H, I.tok _, ⟨_, rfl⟩, q⟩
  | str x =>
    obtain ⟨t, rfl⟩ := ru
    exact P.repr_of_str ⟨.str (PyData.str x).shown, H, I.tok _, ⟨_, rfl⟩, q⟩ g.sz
  | lst _ _ => exact big _ ru
  | tup _ _ => exact big _ ru
  | d0 _ => exact big _ ru
  | d1 _ => exact big _ ru

/-! ### its kind -/
def isTup : PyData → Bool
  | .tuple _ => true
  | _ => false
def isI : PyData → Bool
  | .int _ => true
  | .bool _ => true
  | _ => false
def isB : PyData → Bool
  | .bool _ => true
  | _ => false
theorem dq_ty {K : PySem.W.Frag} {H : Hp} {v : V} {d : PyData} (h : Dq H v d) : ∃ T : String, TyX K H v (.type T) ∧ PySem.W.kitOne K (.type T) (.type "tuple") = some (isTup d) ∧ PySem.W.kitOne K (.type T) (.type "int") = some (isI d) ∧ PySem.W.kitOne K (.type T) (.type "bool") = some (isB d) := by
  cases h with
  | non => exact ⟨_, .base .non, kit_ty (by decide +kernel), kit_ty (by decide +kernel), kit_ty (by decide +kernel)⟩
  | bl b => exact ⟨_, .base (.bl b), kit_ty (a := "bool") (r := false) (by decide +kernel), kit_ty (a := "bool") (r := true) (by decide +kernel), kit_ty (a := "bool") (r := true) (by decide +kernel)⟩
  | int i => exact ⟨_, .base (.int i), kit_ty (a := "int") (r := false) (by decide +kernel), kit_ty (a := "int") (r := true) (by decide +kernel), kit_ty (a := "int") (r := false) (by decide +kernel)⟩
  | str x => exact ⟨_, .base (.str x), kit_ty (a := "str") (r := false) (by decide +kernel), kit_ty (a := "str") (r := false) (by decide +kernel), kit_ty (a := "str") (r := false) (by decide +kernel)⟩
  | lst a _ => exact ⟨_, .base (.lst a), kit_ty (a := "list") (r := false) (by decide +kernel), kit_ty (a := "list") (r := false) (by decide +kernel), kit_ty (a := "list") (r := false) (by decide +kernel)⟩
  | tup a _ => exact ⟨_, .base (.tup a), kit_ty (a := "tuple") (r := true) (by decide +kernel), kit_ty (a := "tuple") (r := false) (by decide +kernel), kit_ty (a := "tuple") (r := false) (by decide +kernel)⟩
  | d0 a => exact ⟨_, .base (.dK a), kit_ty (a := "dict") (r := false) (by decide +kernel), kit_ty (a := "dict") (r := false) (by decide +kernel), kit_ty (a := "dict") (r := false) (by decide +kernel)⟩
  | d1 a => exact ⟨_, .base (.dK a), kit_ty (a := "dict") (r := false) (by decide +kernel), kit_ty (a := "dict") (r := false) (by decide +kernel), kit_ty (a := "dict") (r := false) (by decide +kernel)⟩
/-- isinstance(v, tuple), isinstance(v, int), isinstance(v, bool) -/
theorem rIsi_tup {K : PySem.W.Frag} {H : Hp} {v : V} {d : PyData} (h : Dq H v d) {Q : VK} (q : Q (.bl (isTup d)) H) : rIsi K [v, .ty "tuple"] H Q := by
  obtain ⟨T, t, k, _, _⟩ := dq_ty (K := K) h
  exact ⟨_, _, _, _, _, rfl, .ty _, t, k, q⟩
theorem rIsi_int {K : PySem.W.Frag} {H : Hp} {v : V} {d : PyData} (h : Dq H v d) {Q : VK} (q : Q (.bl (isI d)) H) : rIsi K [v, .ty "int"] H Q := by
  obtain ⟨T, t, _, k, _⟩ := dq_ty (K := K) h
  exact ⟨_, _, _, _, _, rfl, .ty _, t, k, q⟩
theorem rIsi_bool {K : PySem.W.Frag} {H : Hp} {v : V} {d : PyData} (h : Dq H v d) {Q : VK} (q : Q (.bl (isB d)) H) : rIsi K [v, .ty "bool"] H Q := by
  obtain ⟨T, t, _, _, k⟩ := dq_ty (K := K) h
  exact ⟨_, _, _, _, _, rfl, .ty _, t, k, q⟩

/-! ### numbers, rows -/
/-- an int that is no bool, from 0 to m -/
def numOk (m : Int) : PyData → Bool
  | .int i => decide (0 ≤ i) && decide (i ≤ m)
  | _ => false
/-- a tuple of n numbers from 0 to 50 -/
def rowOk (n : Nat) : PyData → Bool
  | .tuple xs => decide (xs.length = n) && xs.all (numOk 50)
  | _ => false

/-! ### calls whose errors are wished for at the caller's slots -/
section
variable {X : Cx} {CX : CXT} {k : Nat} {f C : Addr} {sp : Sp} {E : L2.St → XK} {x m : Str} {p pos apos : Pos} {e o : Expr} {es : List Expr} {ta : TE} {t : TA}
theorem run_fnRS {pins : List (Addr × Obj)} {σ : L2.St} {H : Hp} {s : Shared} {Q : VK} {us : List Value} {vs : List V} (F : FnR X.prog X.w X.K X.mg X.base CX k f sp) (hr : Room k X.A) (hx : PassesAt CX X σ (E σ))
    (I : Inv X pins σ H s) (r : Vals vs us) (h : sp vs H Q (E σ)) : wpAny (model X.prog X.w) X.A (call (.ref f) us) (EP X pins σ Q) X.xe s := by
  refine wpAny_call (codeAny_mono (F X.A X.stack s H us vs Q (E σ) hr I.env0 r h) fun r s' hq => ?_)
  cases r with
  | error e => exact hx pins H s e s' I hq
  | ok fl =>
    cases fl with
    | ret u => exact I.after hq
    | next => exact hq.elim
    | brk => exact hq.elim
    | cont => exact hq.elim
def tMakeRS (C : Addr) (sp : Sp) (E : L2.St → XK) (t : TA) : TE := fun σ H Q => t σ H fun vs H1 => ∀ x dx, H1 x = Option.none → H1 dx = Option.none → dx ≠ x →
  sp (V.ref x :: vs) (upd (upd H1 dx (.own x)) x (.ins C dx [])) (fun v H2 => v = .non ∧ Q (.ref x) H2) (E σ)
theorem pe_makeRS (M : Mk X.K C f) (F : FnR X.prog X.w X.K X.mg X.base CX k f sp) (hr : Room (k + 1) X.A) (hg : Gl X x) (hm : X.mg x = some (.ref C)) (hx : ∀ σ, PassesAt CX X σ (E σ)) (ha : PA X (e :: es) t) (hdb : (x == ("__debug__" : Str)) = false := by decide)
    (he : starEach (e :: es) X.env = (false, eval e X.env) :: starEach es X.env := by rfl) (hpl : (backTo pos (starEach es X.env)).any (·.1) = false := by rfl) : PE X (.Call (.Name x p) (e :: es) [] pos) (tMakeRS C sp E t) := by
  refine ⟨fun pins s σ H Q I h => ?_⟩
  refine wpAny_Call_Name_kw (ld_glob I hg hm ?_ hdb)
  refine PySem.W.callWith_K (h₀ := X.base) I.ok.mod.kin M.kp (thn (ha.run pos pins s σ H _ I h) fun us s ⟨vs, H, I, r, h⟩ => ⟨I.kIn, ?_⟩) he hpl
  have hq := h (s.heap.objs.size + 1) s.heap.objs.size (I.hok.fresh (Nat.le_succ _)) (I.hok.fresh (Nat.le_refl _)) (Nat.ne_of_lt (Nat.lt_succ_self _))
  have I2 := Inv.made (C := C) I
  have r2 : Vals (V.ref (s.heap.objs.size + 1) :: vs) (Value.ref (s.heap.objs.size + 1) :: us) := .cons rfl r
  refine wpAny_call (make_map (f := f) I.kIn M.makes M.init (beq_iff_eq.mp M.fn) (codeAny_mono (F _ X.stack _ _ (Value.ref (s.heap.objs.size + 1) :: us) _ _ (E σ) (hr.make C us []) (I2.env0.make C us []) r2 hq) fun r s' hq' => ?_))
  cases r with
  | error e => exact hx σ pins _ _ e s' I2 hq'
  | ok fl =>
    cases fl with
    | ret u =>
      obtain ⟨v, H', I3, rv, ev, q3⟩ := I2.after hq'
      subst ev
      exact ⟨rv, ⟨V.ref (s.heap.objs.size + 1), H', I3, rfl, q3⟩⟩
    | next => exact False.elim hq'
    | brk => exact False.elim hq'
    | cont => exact False.elim hq'
def tMethRS (C : Addr) (m : Str) (sp : Sp) (E : L2.St → XK) (ta : TE) (t : TA) : TE := fun σ H Q => ta σ H fun x H1 => ∃ a dx fs, x = .ref a ∧ H1 a = some (.ins C dx fs) ∧ fs.lookup m = none ∧ t σ H1 fun vs H2 => sp (x :: vs) H2 Q (E σ)
theorem pe_methRS {pl : Sem Bool} (he : PE X o ta) (c : Cls X.K C) (hm : Meth X.K C m f)
    (F : FnR X.prog X.w X.K X.mg X.base CX k f sp) (hr : Room k X.A) (hx : ∀ σ, PassesAt CX X σ (E σ)) (ha : PA X (e :: es) t)
    (hst : starEach (e :: es) X.env = (false, eval e X.env) :: starEach es X.env := by rfl) (hpl : (backTo pos (starEach es X.env)).any (·.1) = false := by rfl)
    (ht : eval (.Call (.Attribute o m apos) (e :: es) [] pos) X.env = (do
      let ov ← eval o X.env
      standAt apos.atName
      let (f, first) ← holding [ov] (getMethod ov m pl)
      callWith pos f first (backTo pos (starEach (e :: es) X.env)) (backToKw pos (keywordEach [] X.env))) := by rfl) :
    PE X (.Call (.Attribute o m apos) (e :: es) [] pos) (tMethRS C m sp E ta t) := by
  refine ⟨fun pins s σ H Q I h => ?_⟩
  refine PySem.W.methodCall_KW (pl := pl) (thn (he.run pins s σ H _ I h) fun u s1 ⟨x, H1, I1, rx, a, dx, fs, ex, ea, l, q⟩ => ?_) ht
  subst ex
  obtain rfl : u = Value.ref a := rx
  refine getmeth_ok I1 ea c hm l ?_
  refine PySem.W.callWith_K (first := [.ref a]) (h₀ := X.base) I.ok.mod.kin hm.kp (thn (ha.run pos pins s1 σ H1 _ I1 q) fun us s2 ⟨vs, H2, I2, r, q2⟩ => ⟨I2.kIn, ?_⟩) hst hpl
  exact run_fnRS (us := .ref a :: us) (vs := .ref a :: vs) F hr (hx σ) I2 (.cons rfl r) q2
end
/-! ### how often a truth value stands in a list of them -/
def rCntB (K : PySem.W.Frag) : V → List V → Hp → VK → Prop := fun x xs H Q => ∃ (p : Addr) (bs : List Bool) (k : Bool), x = .ref p ∧ xs = [.bl k] ∧ SqL K H p (bs.map V.bl) ∧ Q (.int (bs.count k : Nat)) H
theorem countIn_bools (k : Bool) : ∀ bs : List Bool, countIn (.bool k) (bs.map PyData.bool) = (bs.count k : Nat)
  | [] => rfl
  | b :: bs => by
    rw [List.map_cons, countIn, countIn_bools k bs, List.count_cons]
    simp only [same]
    rcases Bool.eq_false_or_eq_true (b == k) with hb | hb <;> simp only [hb, Bool.false_eq_true, if_true, if_false] <;> push_cast <;> omega
theorem mt_countB {X : Cx} : MtR X "list.count" (rCntB X.K) := by
  intro pins s σ H x xs v us Q I rx rxs h
  obtain ⟨p, bs, k, rfl, rfl, hs, q⟩ := h
  cases rx
  obtain ⟨u, rfl, ru⟩ := rxs.one
  cases ru
  obtain ⟨its, rv, ⟨o, n, ho, hc, hdn, hd⟩, hlen⟩ := I.list hs
  obtain ⟨as, h4⟩ := Dp.readsAll I (bs.map PyData.bool) _ its (dps_bools bs) rv
  refine PyProof.Rows.count_list_bools (vs := its) ⟨o, ho, hc, n, hd⟩ h4 (by simp [Shape.has]) ?_
  rw [countIn_bools]
  exact ⟨.int (bs.count k : Nat), H, I.tok _, ⟨_, rfl⟩, q⟩
end DD
namespace DD
open PySem PySem.Spec PyProof.Rows L2
/-! ### statements that are never reached -/
theorem ps_never {X : Cx} {st : Stmt} : PS X st (fun _ _ _ => False) := ⟨fun _ _ _ _ _ _ h => h.elim⟩
/-! ### len(o), str(o) by an own __len__, __str__ -/
/-- a special method of a class -/
structure Spc (K : PySem.W.Frag) (C f : Addr) (nm : Str) : Prop where
  at_ : PySem.W.findIn K (.ref C) nm = some (some (.ref f))
  fn : PySem.W.isFn K (.ref f) = true
section
variable {X : Cx} {k : Nat} {f C : Addr} {sp : Sp}
def rLenO (C : Addr) (sp : Sp) : List V → Hp → VK → Prop := fun xs H Q => ∃ x dx fs, xs = [.ref x] ∧ H x = some (.ins C dx fs) ∧ sp [.ref x] H (fun v H' => ∃ n : Nat, v = .int n ∧ n ≤ 1000000 ∧ Q (.int n) H') E0
open PySem.W in
theorem call_lenO (Z : Spc X.K C f "__len__") (F : FnR X.prog X.w X.K X.mg X.base CX0 k f sp) (hr : Room (k + 1) X.A) : CallR X (.builtin "len") (rLenO C sp) := by
  intro pins s σ H xs us Q I r h
  obtain ⟨x, dx, fs, rfl, hx, h⟩ := h
  obtain ⟨u, rfl, ru⟩ := vals1 r
  cases ru
  obtain ⟨mA, O, _⟩ := ins_get I.hok hx
  obtain ⟨od, J, _⟩ := O.look
  refine Calls.call_function_entry kind_len plain_len entry_len (args_len1 _) ?_
  unfold Builtin.«len»
  refine wpAny_bind (m := oneArg "len" _) (wpAny_pure ?_)
  refine wpAny_bind (m := callSpecial? (.ref x) (Str.ofString "__len__")) (special_fn I.kIn J Z.at_ (beq_iff_eq.mp Z.fn) (wpAny_call (codeAny_mono (F X.A.in1 X.stack s H [.ref x] [.ref x] _ _ hr.in1 I.env0.in1 (.cons rfl .nil) h) fun r s' hq => ?_)))
  cases r with
  | error e => exact hq.elim
  | ok fl =>
    cases fl with
    | ret u =>
      obtain ⟨v, H', I3, rv, n, ev, hn, q3⟩ := I.after hq
      subst ev
      obtain ⟨t, rfl⟩ := rv
      refine wpAny_bind (wpAny_holding (wpAny_pure ?_))
      refine wpAny_bind (wpAny_letGo ?_)
      show wpAny _ _ (if (n : Int) < 0 then _ else _) _ _ _
      rw [if_neg (by omega)]
      show wpAny _ _ (if (n : Int) ≥ 2 ^ 63 then _ else _) _ _ _
      rw [if_neg (by omega)]
      exact wpAny_bind (wpAny_mkInt (wpAny_pure ⟨_, rfl, .int n, H', I3.tok _, ⟨_, rfl⟩, q3⟩))
    | next => exact hq.elim
    | brk => exact hq.elim
    | cont => exact hq.elim
def rStrO (C : Addr) (sp : Sp) : List V → Hp → VK → Prop := fun xs H Q => ∃ x dx fs, xs = [.ref x] ∧ H x = some (.ins C dx fs) ∧ sp [.ref x] H (fun v H' => ∃ a : Str, v = .str a ∧ Q (.str a) H') E0
open PySem.W in
theorem call_strO (Z : Spc X.K C f "__str__") (F : FnR X.prog X.w X.K X.mg X.base CX0 k f sp) (hr : Room (k + 2) X.A) (hu : X.A.in1.in1.units < cLine) : CallR X (.type "str") (rStrO C sp) := by
  intro pins s σ H xs us Q I r h
  obtain ⟨x, dx, fs, rfl, hx, h⟩ := h
  obtain ⟨u, rfl, ru⟩ := vals1 r
  cases ru
  obtain ⟨mA, O, _⟩ := ins_get I.hok hx
  obtain ⟨od, J, _⟩ := O.look
  refine kso_call hu I.kIn J Z.at_ Z.fn (wpAny_call (codeAny_mono (F X.A.in1.in1 X.stack s H [.ref x] [.ref x] _ _ hr.in1.in1 I.env0.in1.in1 (.cons rfl .nil) h) fun r s' hq => ?_))
  cases r with
  | error e => exact hq.elim
  | ok fl =>
    cases fl with
    | ret u =>
      obtain ⟨v, H', I3, rv, a, ev, q3⟩ := I.after hq
      subst ev
      obtain ⟨t, rfl⟩ := rv
      exact ⟨.str a, H', I3, ⟨_, rfl⟩, q3⟩
    | next => exact hq.elim
    | brk => exact hq.elim
    | cont => exact hq.elim
end
end DD
namespace DD
open PySem PySem.Spec PyProof.Rows L2

/-! ### a list that is not empty is not [] -/
def rNeE : R2 := fun x y H Q => ∃ a b xs, x = .ref a ∧ y = .ref b ∧ H a = some (.lst xs) ∧ H b = some (.lst []) ∧ Q (.bl (!xs.isEmpty)) H
theorem op_neE {X : Cx} (hu : X.A.units + 64 < cLine) : OpR X (compareOp .NotEq) rNeE := by
  intro pins s σ H x y v u Q I rx ry h
  obtain ⟨a, b, xs, rfl, rfl, ha, hb, q⟩ := h
  by_cases hx : xs = []
  · subst hx
    refine op_neD hu pins s σ H _ _ v u Q I rx ry ⟨.list [], .list [], .lst (SqL.of ha) .nil, .lst (SqL.of hb) .nil, by decide +kernel, by decide +kernel, ?_⟩
    rw [show PyData.eqv (.list []) (.list []) = true by decide +kernel]
    exact q
  · cases rx
    cases ry
    obtain ⟨its, rv, ⟨o, n, h1, h2, _, h3⟩, _⟩ := I.list (SqL.of (K := X.K) ha)
    obtain ⟨its2, rv2, ⟨o2, n2, k1, k2, _, k3⟩, _⟩ := I.list (SqL.of (K := X.K) hb)
    cases rv2
    have hs : (its.toArray.size != ([] : List Value).toArray.size) = true := by
      have := rv.length
      cases xs with
      | nil => exact absurd rfl hx
      | cons _ _ =>
        cases its with
        | nil => simp at this
        | cons _ _ => simp
    have e : (!xs.isEmpty) = true := by
      cases xs with
      | nil => exact absurd rfl hx
      | cons _ _ => rfl
    rw [e] at q
    exact SeqAt.RcNeAt.lists_lengths (A := X.A) (s := s) ⟨o, h1, h2, n, h3⟩ ⟨o2, k1, k2, n2, k3⟩ hs (by omega) _ _ _ _ ⟨.bl true, H, I, rfl, q⟩

/-! ### enumerate(t, start=1) -/
theorem callWith_typeKw {M : Model} {A : Around} {E : Value → Shared → Prop} {s : Shared} {pos : Pos}
    {T : String} {first : List Value} {args : List (Bool × Sem Value)} {kws : List (Option Str × Sem Value)} {Q : Value → Shared → Prop}
    (h1 : (args.any fun x => x.fst) = false) (h2 : (kws.any fun x => x.fst.isNone) = false)
    (h : wpAny M A (evalArgs (Value.type T) true args kws) (fun a s₁ => wpAny M A (call (Value.type T) (first ++ a.pos) a.kw) Q E s₁) E s) :
    wpAny M A (callWith pos (Value.type T) first args kws) Q E s := by
  unfold callWith
  refine wpAny_bind (wpAny_holding (wpAny_mono h (fun a s1 q => ?_) fun e s' q => q))
  rw [h1, h2]
  refine wpAny_bind (wpAny_standAt ?_)
  show wpAny M A (call (Value.type T) (first ++ a.pos) a.kw >>= fun r => holding [r] point >>= fun _ => pure r) Q E s1
  refine wpAny_bind (wpAny_mono q (fun r s2 q => ?_) fun e s' q => q)
  exact wpAny_bind (wpAny_holding (wpAny_point (wpAny_pure q)))
def iEnumS (K : PySem.W.Frag) (c : Int) (ta : TA) : TI := fun σ H R => ta σ H fun vs H1 => ∃ a xs, vs = [.ref a] ∧ SqT K H1 a xs ∧ R (ItEnT K a c) H1
theorem pi_enumS {X : Cx} {e : Expr} {ta : TA} {p pos tpos kpos cpos : Pos} {c : Int} {k0 : Nat} {elts : List Expr} {kk : Nat} (hg : Gl X "enumerate") (hm : X.mg "enumerate" = none) (ha : PA X [e] ta) (hc0 : -2 ^ 63 ≤ c) (hc1 : c < 2 ^ 63)
    (hs : starEach [e] X.env = [(false, eval e X.env)] := by rfl) : PI X (.Tuple elts kk tpos) (.Call (.Name "enumerate" p) [e] [{ arg := some "start", value := .Constant (.int c) k0 cpos, pos := kpos }] pos) (iEnumS X.K c ta) := by
  refine ⟨fun pins s σ H R I h => wpAny_Call_Name_kw (ld_blt I hg hm boot_enumerate (callWith_typeKw (by rw [hs] <;> rfl) rfl (evalArgs_kw2 rfl (thn (ha.run pos pins s σ H _ I h) fun us s1 ⟨vs, H1, I1, r1, q1⟩ => ?_) hs)))⟩
  obtain ⟨a, xs, ex, hq, q⟩ := q1
  subst ex
  obtain ⟨u, rfl, ru⟩ := vals1 r1
  cases ru
  obtain ⟨its, rv, ⟨oa, hoa, hca, na, hda⟩, _⟩ := I1.tuple hq
  refine wpAny_evalAll_cons (wpAny_bind (wpAny_mono (pe_int.run pins s1 σ H1 (fun v H2 => v = .int c ∧ H2 = H1) I1 ⟨rfl, rfl⟩) (fun u s2 q2 => ?_) fun e s' q => q))
  obtain ⟨x, H2, I2, rx, rfl, rfl⟩ := q2
  obtain ⟨tk, rfl⟩ := rx
  refine wpAny_bind (wpAny_standAt (wpAny_pure (wpAny_evalAll_nil ?_)))
  obtain ⟨its, rv, ⟨oa, hoa, hca, na, hda⟩, _⟩ := I2.tuple hq
  show wpAny _ _ (call (.type "enumerate") [.ref a] [(Str.ofString "start", .int c tk)]) _ _ _
  refine enum_begins_start (begins_tuple (t := a) (items := its.toArray)) ⟨oa, hoa, hca, na, hda⟩ hc0 hc1 fun h' he hit hsz hk => wpAny_pyIter_enum he ?_
  have I3 : Inv X pins σ H2 { s2 with heap := h' } := I2.kept (t' := s2.toks) hk
  refine ⟨s2.heap.objs.size + 1, [s2.heap.objs.size + 1, s2.heap.objs.size], _, _, H2, rfl, I3, turn_enT a (s2.heap.objs.size + 1) s2.heap.objs.size c, ⟨⟨.none, by rw [Int.natCast_zero, Int.add_zero]; exact he⟩, ⟨_, hit, rfl, rfl⟩, Nat.succ_ne_self _⟩, fun b hb => ?_, q⟩
  have hle : s2.heap.objs.size ≤ b := by
    rcases List.mem_cons.mp hb with z | hb
    · rw [z]
      exact Nat.le_succ _
    · exact Nat.le_of_eq (List.mem_singleton.mp hb).symm
  exact I2.fpOk hle (I2.hok.fresh hle)
end DD
namespace DD
open PySem PySem.Spec PyProof.Rows L2
/-! ### an attribute as a target behind others -/
def gFld (K : PySem.W.Frag) (ta : TE) (f : Str) : TG := fun v σ H Q => ta σ H fun x H2 => ∃ a C dx fs, x = .ref a ∧ H2 a = some (.ins C dx fs) ∧ Cls K C ∧ NoAttr K C f ∧ fs.length < 1000 ∧ Q σ (upd H2 a (.ins C dx (putF f v fs)))
theorem pg_fld {X : Cx} {o : Expr} {f : Str} {pos : Pos} {ta : TE} (ho : PE X o ta) : PG X (.Attribute o f pos) (gFld X.K ta f) := by
  refine ⟨fun pins s σ H v u Q I r h => ?_⟩
  rw [PySem.assign_Attribute]
  refine wpAny_bind (wpAny_holding (thn (ho.run pins s σ H _ I h) fun ov s1 ⟨x, H1, I1, rx, a, C, dx, fs, ex, ea, c, n, l, q⟩ => ?_))
  subst ex
  obtain rfl : ov = Value.ref a := rx
  refine wpAny_bind (wpAny_standAt (wpAny_bind (wpAny_holding ?_)))
  refine setattr_ok I1 ea c n l r fun s3 I3 => ?_
  exact wpAny_release ⟨σ, _, I3, q⟩
/-! ### o.m(k = v, ..): a method by keywords alone -/
def tMethK (C : Addr) (m : Str) (j : Nat) (sp : Sp) (gV : List V → List V → List V) (E : XK) (ta : TE) (tk : TA) : TE := fun σ H Q => ta σ H fun x H1 => ∃ a dx fs, x = .ref a ∧ H1 a = some (.ins C dx fs) ∧ fs.lookup m = none ∧
  tk σ H1 fun zs H2 => zs.length = j ∧ sp (gV [.ref a] zs) H2 Q E
theorem pe_methK0 {X : Cx} {CX : CXT} {k : Nat} {f C : Addr} {fd : FuncData} {ps ks : List Str} {sp : Sp} {E : XK} {m : Str} {pos apos : Pos} {o : Expr} {kws : List Keyword} {ta : TE} {tk : TA} {g : List Value → List Value → List Value} {gV : List V → List V → List V} {pl : Sem Bool}
    (he : PE X o ta) (c : Cls X.K C) (hm : Meth X.K C m f) (F : FnOk X.prog X.w X.K X.mg X.base CX k f fd ps sp) (hr : Room k X.A) (hb : KBn X.K fd ps 1 ks g gV) (hx : Passes CX X E) (hkw : PK X kws tk)
    (hall : (backToKw pos (keywordEach kws X.env)).all (·.1.isSome) = true := by rfl) (hks : (backToKw pos (keywordEach kws X.env)).filterMap (·.1) = ks := by rfl)
    (hpl : ((backTo pos (starEach [] X.env)).any (·.1) || (backToKw pos (keywordEach kws X.env)).any (·.1.isNone)) = false := by rfl)
    (ht : eval (.Call (.Attribute o m apos) [] kws pos) X.env = (do
      let ov ← eval o X.env
      standAt apos.atName
      let (f, first) ← holding [ov] (getMethod ov m pl)
      callWith pos f first (backTo pos (starEach [] X.env)) (backToKw pos (keywordEach kws X.env))) := by rfl) :
    PE X (.Call (.Attribute o m apos) [] kws pos) (tMethK C m ks.length sp gV E ta tk) := by
  refine ⟨fun pins s σ H Q I h => ?_⟩
  refine PySem.W.methodCall_KW (pl := pl) (thn (he.run pins s σ H _ I h) fun u s1 ⟨x, H1, I1, rx, a, dx, fs, ex, ea, l, q⟩ => ?_) ht
  subst ex
  obtain rfl : u = Value.ref a := rx
  refine getmeth_ok I1 ea c hm l ?_
  refine PySem.W.callWith_KW0 (first := [.ref a]) (h₀ := X.base) I.ok.mod.kin hm.kp hall ?_ hpl
  refine thn (hkw.run pos pins s1 σ H1 _ I1 q) fun ws s2 ⟨zs, H2, I2, rz, l2, q2⟩ => ⟨I2.kIn, ?_⟩
  rw [hks]
  exact run_fnN (us := [.ref a]) (vs := [.ref a]) F hr hb hx I2 (.cons rfl .nil) rz rfl l2 q2
/-! ### try: a suite that ends / finally: a suite; nothing raises -/
def tBodyFin (tb tf : TS) : TS := fun D σ H => tb { nx := fun σ1 H1 => tf D σ1 H1, rt := fun _ _ => False, bk := fun _ _ => False, ct := fun _ _ => False } σ H
theorem ps_bodyFin {X : Cx} {b : List Stmt} {f₀ : Stmt} {fs : List Stmt} {pos : Pos} {tb tf : TS} (hb : PSs X.nox b tb) (hf : PSs X.nox (f₀ :: fs) tf) : PS X (.Try b [] [] (f₀ :: fs) pos) (tBodyFin tb tf) := by
  refine ⟨fun pins s σ H D I h => ?_⟩
  refine wpAny_Try_finally (wpAny_mono (hb.run pins s σ H _ (I.wish _) h) (fun g s1 q => ?_) fun _ _ z => False.elim z)
  cases g with
  | next =>
    obtain ⟨σ1, H1, I1, q1⟩ := q
    refine wpAny_execs_nil ?_
    refine wpAny_mono (hf.run pins s1 σ1 H1 D I1 q1) (fun g s2 q2 => ?_) fun _ _ z => False.elim z
    have q' : SP X pins D g s2 := q2.unwish
    cases g <;> exact q'
  | ret u =>
    obtain ⟨_, _, _, _, _, z⟩ := q
    exact z.elim
  | brk =>
    obtain ⟨_, _, _, z⟩ := q
    exact z.elim
  | cont =>
    obtain ⟨_, _, _, z⟩ := q
    exact z.elim
end DD
namespace DD
open PySem PySem.Spec PyProof.Rows L2
/-! ### raise C() of an own class without own __init__ -/
theorem pmk_own0 {X : Cx} {C : Addr} {bmB : List Value} {B newId initId : String} {x : Str} {p pos : Pos} (F : ExcBaseFacts B newId initId bmB) (q : PySem.W.excIn X.K C bmB newId = true) (gC : X.mg x = some (.ref C)) (kC : PySem.W.keepIn X.K (.ref C) = true) (r : Raises X (.ref C)) (hg : Gl X x)
    (hdb : (x == ("__debug__" : Str)) = false := by decide) : PMk X (.Call (.Name x p) [] [] pos) (fun _ H Q => Q (.ref C) none H) := by
  intro pins s σ H Q I h
  refine wpAny_Call_Name_kw (ld_glob I hg gC ?_ hdb)
  refine PySem.W.callWith_K0 I.kIn kC ?_
  obtain ⟨bm, N, nm, qn, bs, hdct, sn, sub, ab, col, dd, k0, k1, k2, k3, k5, mN, hC, hN, hni, T⟩ := exc_obj I.kIn q
  exact wpAny_call_exc_subT F T hC hN hni (fun h' e hm => mk_of I hm r h (I.hok.gone hm.new)) (Nat.zero_le _)

/-! ### own classes over LookupError whose __init__ stores one field -/
abbrev leTail : List Value := [.type "LookupError", .type "Exception", .type "BaseException", .type "object"]
structure OexL (K : PySem.W.Frag) (C : Addr) : Prop where
  ini : PySem.W.excInitIn K C leTail "LookupError.__new__" = true
  ovr : PySem.W.excOver K C leTail = true
  hd : PySem.W.hasDictIn K C = true
  sa : PySem.W.findIn K (.ref C) "__setattr__" = some (some (.builtin "object.__setattr__"))
  exC : PySem.W.subIn K (.ref C) (.type "BaseException") = some true
  tyC : PySem.W.typeIn K (.ref C) = some (.type "type")
  kC : PySem.W.keepIn K (.ref C) = true
section
variable {X : Cx} {pins : List (Addr × Obj)} {σ : L2.St} {H : Hp} {s : Shared} {a C : Addr} {f : Str} {y : V} {u : Value} {Q : Unit → Shared → Prop} {E : Value → Shared → Prop} {A : Around}
/-- what the first store into an exception without a dict leaves -/
theorem inv_exo {hp h' : Heap} {g : Array GenState} {d : Drawn} {t t2 : Nat} {os : OsState} {dx : Addr} (I : Inv X pins σ H ⟨hp, g, d, t, os⟩) (e : H a = some (exo a C none)) (ry : RelV y u)
    (old : ∀ b o, b ≠ a → hp.get? b = some o → h'.get? b = some o) (fresh : hp.objs.size ≤ dx) {t1 : Addr} (hx : h'.get? a = some { cls := .ref C, dict := some dx, data := .fields #[.ref t1, .none, .none, .none, .bool false, .none] })
    (hn : h'.Ns1 dx (fun y => if y = f then some u else none)) : Inv X pins σ (upd (upd H dx (exd dx [(f, y)])) a (exo a C (some dx))) ⟨h', g, d, t2, os⟩ := by
  have nd0 : H dx = none := I.hok.fresh fresh
  have low : ∀ {b : Addr} {o : Obj}, hp.get? b = some o → b ≠ dx := fun {b o} q => Nat.ne_of_lt (Nat.lt_of_lt_of_le (Heap.lt_size q) fresh)
  have off : ∀ {b : Addr}, H b = none → b ≠ a := fun {b} n z => by
    rw [z, e] at n
    cases n
  have stays : ∀ {b : Addr} {o : HO}, H b = some o → exo a C none ≠ o → upd (upd H dx (exd dx [(f, y)])) a (exo a C (some dx)) b = some o := fun {b o} q z => by
    rw [upd_ne (at_ne e q z), upd_ne (ne_of_none q nd0)]
    exact q
  have U : Un X.fs [] H (upd (upd H dx (exd dx [(f, y)])) a (exo a C (some dx))) hp h' := {
    keep := fun b o q n _ _ => old b o (off n) q
    slot := fun b o q n _ _ => ⟨o.slots, old b o (off n) q⟩
    free := fun b o q n _ => by rw [upd_ne (off n), upd_ne (low q)]; exact n
    there := fun b o q _ => if hb : b = a then ⟨_, hb ▸ hx⟩ else ⟨o, old b o hb q⟩
    tups := fun b xs q => stays q exo_tup
    frzs := fun b o v q => stays q exo_frz
    tbls := fun b ps q => ⟨#[], by rw [stays q exo_tbl]; simp⟩ }
  refine I.un (t' := t2) U fun b o q => ?_
  by_cases hb : b = a
  · subst hb
    rw [upd_same] at q
    obtain rfl := Option.some.inj q
    exact exo_ok hx
  rw [upd_ne hb] at q
  by_cases hd : b = dx
  · subst hd
    rw [upd_same] at q
    obtain rfl := Option.some.inj q
    exact exd_ok hn (relO_put (fs := []) ry fun g => True.intro)
  rw [upd_ne hd] at q
  refine (I.hok b o q).stay (fun c v hc z => old c v ?_ z) (fun c hc => stays hc exo_own) (fun c xs hc => stays hc exo_tup)
  rcases hc with hc | hc
  · rw [hc]
    exact hb
  · exact at_ne e hc exo_own
theorem ost_newL (T : OexL X.K C) (I : Inv X pins σ H s) (e : H a = some (exo a C none)) (hno : PySem.W.findIn X.K (.ref C) f = some none) (ry : RelV y u)
    (h : ∀ dx s', H dx = none → dx ≠ a → Inv X pins σ (upd (upd H dx (exd dx [(f, y)])) a (exo a C (some dx))) s' → Q () s') : wpAny (model X.prog X.w) A (setAttr (.ref a) f u) Q E s := by
  obtain ⟨t1, ho⟩ := exo_at I.hok e
  obtain ⟨cd, hcd, hh⟩ := PySem.W.any_some T.hd
  obtain ⟨hp, g, d, t, os⟩ := s
  have J : PySem.W.InstAt hp a { cls := .ref C, dict := none, data := .fields #[.ref t1, .none, .none, .none, .bool false, .none] } C none := ⟨ho, rfl, rfl, trivial⟩
  have hcls : PySem.W.Looks (model X.prog X.w) hp (classData C) cd := PySem.W.looks_clsIn I.kIn hcd
  have hxs : a ≠ hp.objs.size := Nat.ne_of_lt (Heap.lt_size ho)
  refine PySem.W.set_plain I.kIn J T.sa ?_
  refine PySem.W.osa_openX (r := none) PySem.F.store_LookupError I.kIn J T.ovr (show (PySem.W.findIn X.K (.ref C) f).bind _ = some none by rw [hno]; rfl) fun b => ?_
  show wpAny _ _ (Builtin.ObjectAttr.storeInOwnDict (.ref a) (.ref C) (.str f t) f u b) _ _ _
  obtain ⟨nm, bs, mro, ns, qn, hd, sn, sb, ab, col, dl⟩ := cd
  dsimp only at hh
  subst hh
  unfold Builtin.ObjectAttr.storeInOwnDict Builtin.ObjectAttr.ownDictForStores
  repeat (first | with_reducible refine PySem.HandSPX.store_in_new ?_ ?_ | with_reducible refine wpAny_loadPart_at ho ?_ | with_reducible refine hcls.at ?_ | wp_step)
  · exact ⟨_, #[], _, (Heap.get?_update_ne _ _ _ _ hxs.symm).trans (Heap.get?_push_at rfl rfl), rfl, fun e he => absurd he (by simp), fun _ => rfl⟩
  · intro h' tk' hn' hs
    refine h hp.objs.size _ (I.hok.fresh (Nat.le_refl _)) hxs.symm (inv_exo (t2 := tk') I e ry (fun b o hb ho' => ?_) (Nat.le_refl _) (t1 := t1) ?_ hn')
    · exact (hs.2 b (Nat.ne_of_lt (Heap.lt_size ho'))).trans ((Heap.get?_update_ne _ _ _ _ hb).trans (Heap.get?_push_of_some _ ho'))
    · exact (hs.2 a hxs).trans (Heap.get?_update_self _ (Heap.get?_push_of_some _ ho) rfl)
end
/-- self.f = e, the first one -/
def tOstL (K : PySem.W.Frag) (f : Str) (to te : TE) : TS := fun D σ H => te σ H fun y H1 => to σ H1 fun x H2 => ∃ a C : Addr, x = .ref a ∧ OexL K C ∧ PySem.W.findIn K (.ref C) f = some none ∧
  H2 a = some (exo a C none) ∧ ∀ dx, H2 dx = none → dx ≠ a → D.nx σ (upd (upd H2 dx (exd dx [(f, y)])) a (exo a C (some dx)))
section
variable {X : Cx} {o e : Expr} {es : List Expr} {to te : TE} {ta : TA} {f : Str} {p p' pos : Pos}
theorem ps_ostL (ho : PE X o to) (he : PE X e te) (hs : swapsWith e (some (.Attribute o f p')) pos.line X.env = pure false := by rfl) : PS X (.Assign [.Attribute o f p'] e pos) (tOstL X.K f to te) := by
  refine ⟨fun pins s σ H D I h => ?_⟩
  refine plainObj_wpAny_Assign_Attribute (thn (he.run pins s σ H _ I h) fun v s1 ⟨y, H1, I1, r1, q1⟩ => thn (ho.run pins s1 σ H1 _ I1 q1) fun u s2 hh => ?_) hs
  obtain ⟨x, H2, I2, r2, a, C, ex, T, hno, ea, q⟩ := hh
  subst ex
  obtain rfl : u = Value.ref a := r2
  exact ost_newL T I2 ea hno r1 fun dx s' n ne J => ⟨σ, _, J, q dx n ne⟩
/-- C(e, ..) -/
theorem pmk_oexL {CX : CXT} {x : Str} {C fI : Addr} {k : Nat} {fd : FuncData} {ps : List Str} {sp : Sp} {ds : List Value} {dvs : List V} (T : OexL X.K C) (iC : PySem.W.findIn X.K (.ref C) "__init__" = some (some (.ref fI))) (tI : PySem.W.typeIn X.K (.ref fI) = some (.type "function"))
    (F1 : FnOk X.prog X.w X.K X.mg X.base CX k fI fd ps sp) (hr : Room (k + 1) X.A) (hb : Binds X.K fd ps ds) (hd : Vals dvs ds) (hx : Passes CX X (fun _ _ _ => False)) (hg : Gl X x) (hm : X.mg x = some (.ref C)) (ha : PA X (e :: es) ta)
    (hdb : (x == ("__debug__" : Str)) = false := by decide) (he : starEach (e :: es) X.env = (false, eval e X.env) :: starEach es X.env := by rfl) (hpl : (backTo pos (starEach es X.env)).any (·.1) = false := by rfl) :
    PMk X (.Call (.Name x p) (e :: es) [] pos) (tMkO C sp dvs ta) := by
  intro pins s σ H Q I h
  refine wpAny_Call_Name_kw (ld_glob I hg hm ?_ hdb)
  refine PySem.W.callWith_K (h₀ := X.base) I.ok.mod.kin T.kC (thn (ha.run pos pins s σ H _ I h) fun us s1 ⟨vs, H1, I1, r1, hz, q1⟩ => ⟨I1.kIn, ?_⟩) he hpl
  show wpAny _ _ (call (.ref C) us) _ _ _
  obtain ⟨nm, N', qn, bs, bm, hdct, sn, sub, ab, col, dd, k0, k1, k2, k3, k5, hC, hT⟩ := PySem.W.excInit_of I1.kIn T.ini
  obtain ⟨hp, g, dr, tk, os⟩ := s1
  have hsz : hp.objs.size ≤ hp.objs.size + 1 := Nat.le_succ _
  have hq := q1 (hp.objs.size + 1) (I1.hok.fresh hsz)
  have old : ∀ b o, hp.get? b = some o → ((hp.push (PySem.W.kdv_tup us)).push (PySem.HandSPX.excO C hp.objs.size)).get? b = some o := fun b o e => Heap.get?_push_of_some _ (Heap.get?_push_of_some _ e)
  have there : ((hp.push (PySem.W.kdv_tup us)).push (PySem.HandSPX.excO C hp.objs.size)).get? (hp.objs.size + 1) = some (PySem.HandSPX.excO C hp.objs.size) := by heap_get
  have I2 := I1.laid (t' := tk) (o := exo (hp.objs.size + 1) C none) old hsz (exo_ok there)
  have r2 : Vals (V.ref (hp.objs.size + 1) :: (vs ++ dvs)) (Value.ref (hp.objs.size + 1) :: (us ++ ds)) := .cons rfl (r1.append hd)
  have hl : (Value.ref (hp.objs.size + 1) :: us ++ ds).length = ps.length := r2.length.symm.trans (F1.len _ _ _ _ hq)
  have hus : us.length ≤ sizeLine := Nat.le_trans (Nat.le_of_eq (Paired.length r1).symm) (Nat.le_trans hz (by decide))
  refine wpAny_call (PySem.HandSPX.call_own F.excBase_LookupError hT hC (PySem.W.looks_findIn I1.kIn iC) (fun self => PySem.W.bind_fn I1.kIn self tI) hus
    (codeAny_mono (F1.run _ X.stack _ _ ⟨Value.ref (hp.objs.size + 1) :: us, []⟩ _ _ _ (fun _ _ _ => False) (hr.make C us []) (I2.env0.make C us []) (hb _ (Value.ref (hp.objs.size + 1) :: us) I2.kIn hl) r2 hq) fun r s' hq' => ?_))
  cases r with
  | error er => exact hx pins σ _ _ er s' I2 hq'
  | ok fl =>
    cases fl with
    | ret u =>
      obtain ⟨v, H2, os2, bare2, un2, hok2, rv, ev, d, fs, ea, ed, hd1, q2⟩ := hq'
      subst ev
      obtain ⟨h2, g2, d2, t2, os'⟩ := s'
      exact ⟨rv, mk_end (raises_own T.exC T.tyC) I1 hsz old un2 hok2 os2 bare2 ea ed hd1 q2⟩
    | next => exact hq'.elim
    | brk => exact hq'.elim
    | cont => exact hq'.elim
end
end DD
namespace DD
open PySem PySem.Spec PyProof.Rows L2
/-! ### isinstance of a caught error of an own class, whether it has a dict or none -/
structure IsTx (K : PySem.W.Frag) (D : Addr) : Prop where
  cl : (PySem.W.clsIn K D).isSome = true
  ga : PySem.W.findIn K (.ref D) "__getattribute__" = some (some (.builtin "BaseException.__getattribute__"))
  gt : PySem.W.findIn K (.ref D) "__getattr__" = some none
  sub : PySem.W.subIn K (.ref D) (.type "BaseException") = some true
  hc : PySem.W.findIn K (.ref D) "__class__" = some (some (.builtin "object.__class__"))
  gn : PySem.W.specialIn K (.builtin "object.__class__") "__get__" = some (some (.builtin "getset_descriptor.__get__"))
  tk : PySem.W.takesIn K (.builtin "object.__class__") = some true
  mo : PySem.W.mroIn K D (.type "object") = some true
/-- a class: an own one or a type of the language's -/
abbrev Kl := Addr ⊕ String
def Kl.v : Kl → V
  | .inl a => .ref a
  | .inr t => .ty t
def Kl.u : Kl → Value
  | .inl a => .ref a
  | .inr t => .type t
theorem Kl.rel {c : Kl} {u : Value} (h : RelV c.v u) : u = c.u := by
  cases c with
  | inl a => exact h
  | inr t => exact h
theorem kls_rel : ∀ {cs : List Kl} {us : List Value}, Vals (cs.map Kl.v) us → us = cs.map Kl.u
  | [], _, h => by cases h; rfl
  | c :: cs, _, h => by
    cases h with
    | cons a b => rw [Kl.rel a, kls_rel b]; rfl
/-- the asked class, or the tuple of asked classes -/
def rIsG (K : PySem.W.Frag) (cls : Value) (d : Option Addr) (a : Addr) : List V → Hp → VK → Prop := fun xs H Q => ∃ (c : V) (D : Addr) (b : Bool), xs = [.ref a, c] ∧ cls = .ref D ∧ (∀ dd, d = some dd → ∃ fs, H dd = some (.xd fs)) ∧ IsTx K D ∧
  ((∃ k : Kl, c = k.v ∧ PySem.W.kitOne K (.ref D) k.u = some b) ∨ ∃ (p : Addr) (cs : List Kl), c = .ref p ∧ SqT K H p (cs.map Kl.v) ∧ PySem.W.kitAny K (.ref D) (cs.map Kl.u) = some b) ∧ Q (.bl b) H
theorem call_isG {X : Cx} {a : Addr} {oe : Obj} {cls : Value} {d : Option Addr} {pn : List (Addr × Obj)} (hz : Zc cls d oe) (hf : ∃ vs, oe.data = .fields vs) :
    CallR (X.suite a ((a, oe) :: pn)) (.builtin "isinstance") (rIsG X.K cls d a) := by
  intro pins s σ H xs us Q I r h
  obtain ⟨c, D, b, rfl, rfl, hdd, T, how, q⟩ := h
  cases r with
  | cons rx rr =>
    cases rr with
    | cons rt rr =>
      cases rr
      cases rx
      obtain ⟨hget, _⟩ := I.pin (a, oe) (List.mem_append.mpr (.inl List.mem_cons_self))
      obtain ⟨vs, hv⟩ := hf
      obtain ⟨od, J⟩ : ∃ od, PySem.W.InstAt s.heap a oe D od := by
        cases d with
        | none => exact ⟨none, hget, hz.1, by unfold PySem.W.notCls; rw [hv] <;> rfl, by rw [hz.2]; trivial⟩
        | some dd =>
          obtain ⟨fs, e⟩ := hdd dd rfl
          obtain ⟨mA, hns, _⟩ : ObjOk X.prog X.w H s.heap dd (.xd fs) := I.hok dd _ e
          obtain ⟨od, ho, _⟩ := lookIn_ns hns
          exact ⟨some od, hget, hz.1, by unfold PySem.W.notCls; rw [hv] <;> rfl, by rw [hz.2]; exact ho⟩
      have Z := PySem.W.kitx_exc (x := a) (ox := oe) (od := od) T.cl T.ga T.gt T.sub T.hc T.gn T.tk T.mo
      rcases how with ⟨k, rfl, e⟩ | ⟨p, cs, rfl, hq, e⟩
      · obtain rfl := Kl.rel rt
        exact PySem.W.kia_one Z I.kIn J e (fun z => nomatch z) fun tk => ⟨.bl b, H, I.kept (t' := tk) fun _ _ z => z, rfl, q⟩
      · cases rt
        obtain ⟨its, rv, ⟨⟨oc, od2, oda, osl⟩, hp, hpc, n, hpd⟩, _⟩ := I.tuple hq
        obtain rfl := kls_rel rv
        simp only at hpc hpd
        subst hpc hpd
        exact PySem.W.kia_tup Z I.kIn J hp e (fun z => nomatch z) fun tk => ⟨.bl b, H, I.kept (t' := tk) fun _ _ z => z, rfl, q⟩
/-! ### classes of errors -/
/-- over ValueError, with a field of its own -/
structure ErrC (K : PySem.W.Frag) (mg : Str → Option Value) (nm fld : Str) (sI : Stmt) (C fI : Addr) (dI : FuncData) : Prop where
  o : OexC K C
  iC : PySem.W.findIn K (.ref C) "__init__" = some (some (.ref fI))
  tI : PySem.W.typeIn K (.ref fI) = some (.type "function")
  noT : PySem.W.findIn K (.ref C) fld = some none
  gC : mg nm = some (.ref C)
  FI : Fun K "__init__" (nm ++ ".__init__") sI fI dI
  bI : Binds K dI ["self", fld] []
/-- over LookupError, with a field of its own -/
structure ErrL (K : PySem.W.Frag) (mg : Str → Option Value) (nm fld : Str) (sI : Stmt) (C fI : Addr) (dI : FuncData) : Prop where
  o : OexL K C
  iC : PySem.W.findIn K (.ref C) "__init__" = some (some (.ref fI))
  tI : PySem.W.typeIn K (.ref fI) = some (.type "function")
  noT : PySem.W.findIn K (.ref C) fld = some none
  gC : mg nm = some (.ref C)
  FI : Fun K "__init__" (nm ++ ".__init__") sI fI dI
  bI : Binds K dI ["self", fld] []
/-- over ValueError, without a field -/
structure Err0 (X : PySem.W.Frag) (mg : Str → Option Value) (nm : Str) (C : Addr) : Prop where
  q : PySem.W.excIn X C [.type "ValueError", .type "Exception", .type "BaseException", .type "object"] "ValueError.__new__" = true
  kC : PySem.W.keepIn X (.ref C) = true
  exC : PySem.W.subIn X (.ref C) (.type "BaseException") = some true
  tyC : PySem.W.typeIn X (.ref C) = some (.type "type")
  gC : mg nm = some (.ref C)
theorem pmk_err0 {X : Cx} {C : Addr} {x : Str} {p pos : Pos} (T : Err0 X.K X.mg x C) (hg : Gl X x) (hdb : (x == ("__debug__" : Str)) = false := by decide) : PMk X (.Call (.Name x p) [] [] pos) (fun _ H Q => Q (.ref C) none H) :=
  pmk_own0 F.excBase_ValueError T.q T.gC T.kC (raises_own T.exC T.tyC) hg hdb
section
variable {P : Program} {w : World} {K : PySem.W.Frag} {mg : Str → Option Value} {base : Heap}
def spInitF (K : PySem.W.Frag) (C : Addr) (fld : Str) : Sp := fun vs H Q _ => ∃ (a : Addr) (y : V), vs = [.ref a, y] ∧ OexC K C ∧ PySem.W.findIn K (.ref C) fld = some none ∧ H a = some (exo a C none) ∧
  ∀ dx, H dx = none → dx ≠ a → Q .non (upd (upd H dx (exd dx [(fld, y)])) a (exo a C (some dx)))
def spInitL (K : PySem.W.Frag) (C : Addr) (fld : Str) : Sp := fun vs H Q _ => ∃ (a : Addr) (y : V), vs = [.ref a, y] ∧ OexL K C ∧ PySem.W.findIn K (.ref C) fld = some none ∧ H a = some (exo a C none) ∧
  ∀ dx, H dx = none → dx ≠ a → Q .non (upd (upd H dx (exd dx [(fld, y)])) a (exo a C (some dx)))
/-- what a raise of an own error gives -/
theorem raised {C : Addr} {fld : Str} {H : Hp} {v : V} {E : XK} (q : ∀ dd H', Same H H' → H' dd = some (.xd [(fld, v)]) → E (.ref C) (some dd) H') {a dx : Addr} (na : H a = none) (nx : (upd H a (exo a C none)) dx = none) (ne : dx ≠ a) :
    E (.ref C) (some dx) (upd (del (upd (upd (upd H a (exo a C none)) dx (exd dx [(fld, v)])) a (exo a C (some dx))) a) dx (.xd [(fld, v)])) := by
  have nx' := nx
  rw [upd_ne ne] at nx'
  refine q dx _ (fun b o e => ?_) upd_same
  have nb1 := ne_of_none e na
  have nb2 := ne_of_none e nx'
  rw [upd_ne nb2, del_ne nb1, upd_ne nb1, upd_ne nb2, upd_ne nb1]
  exact e
/-- all that raise C(e) asks behind its operand -/
theorem raisedF {C : Addr} {fld : Str} {H : Hp} {v : V} {E : XK} (o : OexC K C) (no : PySem.W.findIn K (.ref C) fld = some none) (q : ∀ dd H', Same H H' → H' dd = some (.xd [(fld, v)]) → E (.ref C) (some dd) H') :
    [v].length ≤ 1000 ∧ ∀ a, H a = none → spInitF K C fld (.ref a :: ([v] ++ [])) (upd H a (exo a C none))
      (fun u H2 => u = .non ∧ ∃ (d : Addr) (fs : List (Str × V)), H2 a = some (exo a C (some d)) ∧ H2 d = some (exd d fs) ∧ H d = none ∧ E (.ref C) (some d) (upd (del H2 a) d (.xd fs))) (fun _ _ _ => False) :=
  ⟨by show 1 ≤ 1000; decide, fun a na => ⟨a, v, rfl, o, no, upd_same, fun dx nx ne => ⟨rfl, dx, [(fld, v)], upd_same, by rw [upd_ne ne, upd_same], by rw [upd_ne ne] at nx; exact nx, raised q na nx ne⟩⟩⟩
theorem raisedL {C : Addr} {fld : Str} {H : Hp} {v : V} {E : XK} (o : OexL K C) (no : PySem.W.findIn K (.ref C) fld = some none) (q : ∀ dd H', Same H H' → H' dd = some (.xd [(fld, v)]) → E (.ref C) (some dd) H') :
    [v].length ≤ 1000 ∧ ∀ a, H a = none → spInitL K C fld (.ref a :: ([v] ++ [])) (upd H a (exo a C none))
      (fun u H2 => u = .non ∧ ∃ (d : Addr) (fs : List (Str × V)), H2 a = some (exo a C (some d)) ∧ H2 d = some (exd d fs) ∧ H d = none ∧ E (.ref C) (some d) (upd (del H2 a) d (.xd fs))) (fun _ _ _ => False) :=
  ⟨by show 1 ≤ 1000; decide, fun a na => ⟨a, v, rfl, o, no, upd_same, fun dx nx ne => ⟨rfl, dx, [(fld, v)], upd_same, by rw [upd_ne ne, upd_same], by rw [upd_ne ne] at nx; exact nx, raised q na nx ne⟩⟩⟩
end
/-! ### calls of methods whose errors are wished for at the caller's slots -/
section
variable {X : Cx} {CX : CXT} {k : Nat} {f C : Addr} {sp : Sp} {E : L2.St → XK} {m : Str} {pos apos : Pos} {o : Expr} {ta : TE} {tk : TA} {kws : List Keyword}
theorem pe_methRS0 {pl : Sem Bool} (he : PE X o ta) (c : Cls X.K C) (hm : Meth X.K C m f) (F : FnR X.prog X.w X.K X.mg X.base CX k f sp) (hr : Room k X.A) (hx : ∀ σ, PassesAt CX X σ (E σ))
    (ht : eval (.Call (.Attribute o m apos) [] [] pos) X.env = (do
      let ov ← eval o X.env
      standAt apos.atName
      let (f, first) ← holding [ov] (getMethod ov m pl)
      callWith pos f first (backTo pos (starEach [] X.env)) (backToKw pos (keywordEach [] X.env))) := by rfl) :
    PE X (.Call (.Attribute o m apos) [] [] pos) (tMethRS C m sp E ta tNil) := by
  refine ⟨fun pins s σ H Q I h => ?_⟩
  refine PySem.W.methodCall_KW (pl := pl) (thn (he.run pins s σ H _ I h) fun u s1 hh => ?_) ht
  obtain ⟨x, H1, I1, rx, a, dx, fs, ex, ea, l, q⟩ := hh
  subst ex
  obtain rfl : u = Value.ref a := rx
  exact getmeth_ok I1 ea c hm l (PySem.W.callWith_K0 (first := [.ref a]) I1.kIn hm.kp (run_fnRS (us := [.ref a]) (vs := [.ref a]) F hr (hx σ) I1 (.cons rfl .nil) q))
def tMethKS (C : Addr) (m : Str) (j : Nat) (sp : Sp) (gV : List V → List V → List V) (E : L2.St → XK) (ta : TE) (tk : TA) : TE := fun σ H Q => ta σ H fun x H1 => ∃ a dx fs, x = .ref a ∧ H1 a = some (.ins C dx fs) ∧ fs.lookup m = none ∧
  tk σ H1 fun zs H2 => zs.length = j ∧ sp (gV [.ref a] zs) H2 Q (E σ)
theorem pe_methKS {ps ks : List Str} {fd : FuncData} {g : List Value → List Value → List Value} {gV : List V → List V → List V} {pl : Sem Bool} (he : PE X o ta) (c : Cls X.K C) (hm : Meth X.K C m f) (F : FnOk X.prog X.w X.K X.mg X.base CX k f fd ps sp) (hr : Room k X.A)
    (hb : KBn X.K fd ps 1 ks g gV) (hx : ∀ σ, PassesAt CX X σ (E σ)) (hkw : PK X kws tk)
    (hall : (backToKw pos (keywordEach kws X.env)).all (·.1.isSome) = true := by rfl) (hks : (backToKw pos (keywordEach kws X.env)).filterMap (·.1) = ks := by rfl)
    (hpl : ((backTo pos (starEach [] X.env)).any (·.1) || (backToKw pos (keywordEach kws X.env)).any (·.1.isNone)) = false := by rfl)
    (ht : eval (.Call (.Attribute o m apos) [] kws pos) X.env = (do
      let ov ← eval o X.env
      standAt apos.atName
      let (f, first) ← holding [ov] (getMethod ov m pl)
      callWith pos f first (backTo pos (starEach [] X.env)) (backToKw pos (keywordEach kws X.env))) := by rfl) :
    PE X (.Call (.Attribute o m apos) [] kws pos) (tMethKS C m ks.length sp gV E ta tk) := by
  refine ⟨fun pins s σ H Q I h => ?_⟩
  refine PySem.W.methodCall_KW (pl := pl) (thn (he.run pins s σ H _ I h) fun u s1 hh => ?_) ht
  obtain ⟨x, H1, I1, rx, a, dx, fs, ex, ea, l, q⟩ := hh
  subst ex
  obtain rfl : u = Value.ref a := rx
  refine getmeth_ok I1 ea c hm l (PySem.W.callWith_KW0 (first := [.ref a]) (h₀ := X.base) I.ok.mod.kin hm.kp hall ?_ hpl)
  refine thn (hkw.run pos pins s1 σ H1 _ I1 q) fun ws s2 hh => ?_
  obtain ⟨zs, H2, I2, rz, l2, q2⟩ := hh
  refine ⟨I2.kIn, ?_⟩
  rw [hks]
  have r : Vals [V.ref a] [Value.ref a] := .cons rfl .nil
  have r2 := hb.rel r rz
  refine wpAny_call (codeAny_mono (F.run X.A X.stack s2 H2 ⟨[.ref a], ks.zip ws⟩ _ _ Q (E σ) hr I2.env0 (hb.to s2 [.ref a] ws I2.kIn rfl (rz.length.symm.trans l2)) r2 q2) fun r s' hq => ?_)
  cases r with
  | error e => exact hx σ pins H2 s2 e s' I2 hq
  | ok fl =>
    cases fl with
    | ret u => exact I2.after hq
    | next => exact hq.elim
    | brk => exact hq.elim
    | cont => exact hq.elim
end
end DD
namespace DD
open PySem PySem.Spec PyProof.Rows L2
/-! ### the facts of classes of errors from what the head looks at -/
theorem bAnd {a b : Bool} (h : (a && b) = true) : a = true ∧ b = true := Bool.and_eq_true_iff.mp h
theorem oexlB_ok {K : PySem.W.Frag} {C : Addr} (h : HK.oexlB K C = true) : OexL K C := by
  obtain ⟨h1, h2⟩ := bAnd h
  obtain ⟨a1, a2⟩ := bAnd h1
  obtain ⟨h3, h4⟩ := bAnd h2
  obtain ⟨a3, a4⟩ := bAnd h3
  obtain ⟨h5, a7⟩ := bAnd h4
  obtain ⟨a5, a6⟩ := bAnd h5
  exact ⟨a1, a2, a3, of_decide_eq_true a4, of_decide_eq_true a5, of_decide_eq_true a6, a7⟩
theorem istxB_ok {K : PySem.W.Frag} {D : Addr} (h : HK.istxB K D = true) : IsTx K D := by
  obtain ⟨h1, h2⟩ := bAnd h
  obtain ⟨a1, a2⟩ := bAnd h1
  obtain ⟨h3, h4⟩ := bAnd h2
  obtain ⟨a3, a4⟩ := bAnd h3
  obtain ⟨h5, h6⟩ := bAnd h4
  obtain ⟨a5, a6⟩ := bAnd h5
  obtain ⟨a7, a8⟩ := bAnd h6
  exact ⟨a1, of_decide_eq_true a2, of_decide_eq_true a3, of_decide_eq_true a4, of_decide_eq_true a5, of_decide_eq_true a6, of_decide_eq_true a7, of_decide_eq_true a8⟩
theorem initB_ok {K : PySem.W.Frag} {C : Addr} {fld : Str} (h : HK.initB K C fld = true) : PySem.W.findIn K (.ref C) "__init__" = some (some (.ref (He.ma K C "__init__"))) ∧ PySem.W.typeIn K (.ref (He.ma K C "__init__")) = some (.type "function") ∧ PySem.W.findIn K (.ref C) fld = some none := by
  obtain ⟨h1, h2⟩ := bAnd h
  obtain ⟨a1, a2⟩ := bAnd h2
  exact ⟨of_decide_eq_true h1, of_decide_eq_true a1, of_decide_eq_true a2⟩
theorem err0_ok {K : PySem.W.Frag} {h : Heap} {mg : Str → Option Value} {x : Str} (X : K.In h) (G : h.Ns mainGlobals mg) (c1 : (He.Fa.exc x).ok K = true) (c2 : (He.Fa.glo x).ok K = true) : Err0 K mg x (He.ga K x) := by
  obtain ⟨a1, a2, a3, a4⟩ := He.exc_ok c1
  exact ⟨a1, a2, a3, a4, He.glo_ok X G c2⟩
theorem errL_ok {K : PySem.W.Frag} {h : Heap} {mg : Str → Option Value} {x fld q : Str} {sI : Stmt} {dI : FuncData} (X : K.In h) (G : h.Ns mainGlobals mg) (c1 : (He.Fa.glo x).ok K = true) (c2 : HK.oexlB K (He.ga K x) = true) (c3 : HK.initB K (He.ga K x) fld = true)
    (hq : x ++ ".__init__" = q) (FI : Fun K "__init__" q sI (He.ma K (He.ga K x) "__init__") dI) (bI : Binds K dI ["self", fld] []) : ErrL K mg x fld sI (He.ga K x) (He.ma K (He.ga K x) "__init__") dI := by
  obtain ⟨a1, a2, a3⟩ := initB_ok c3
  exact ⟨oexlB_ok c2, a1, a2, a3, He.glo_ok X G c1, by rw [hq]; exact FI, bI⟩
/-! ### the law over what the head told -/
theorem walk_ofGE {l : PySem.W.OpenLaw} {n k : Nat} {q : Program} {loose : List Str} {XP : (Str → Option Value) → Heap → Prop} {YP : World → Heap → Prop}
    {d : DefRec} {sp : PySem.W.Frag → Sp} {x : Str} (most : l.most = some n) (n_le : n ≤ sizeLine) (nodef : d.params.defaults = [])
    (room : Room k callerA)
    (F : ∀ (w : World) (mg : Str → Option Value) (fa : Addr) (h : Heap), YP w h → h.Ns mainGlobals mg → mg d.name = some (.ref fa) →
      ∃ (K : PySem.W.Frag) (fd : FuncData), K.In h ∧ (∀ (s : Shared) (u : Value), BindsTo s fd ⟨[u], []⟩ [(x, u)]) ∧
        ∀ base : Heap, K.In base → base.Ns mainGlobals mg → FnG l.prog w K mg base k fa fd [x] (sp K))
    (wish : ∀ (K : PySem.W.Frag) (H : Hp) (a : Addr) (ns : List Int), ns.length ≤ n → Only H → SqL K H a (ns.map V.int) →
      sp K [.ref a] H (fun v _ => v = .bl true) fun _ _ _ => False) :
    PySem.W.WalkO q loose XP YP l.row.toRowW d [] (fun f vs => PySem.call f vs) := by
  refine Att.attach_call most nodef fun w s0 s1 mg mb fa o pm cd doc a vs ns G Y ho hd hcd hmg hobj hints hlen hg => ?_
  obtain ⟨K, fd, KX, hb, hF⟩ := F w mg fa _ Y G.T.g hmg
  exact law_goG KX G.T.g G.T.b G.T.builtins G.T.nolimit hg hobj hints (Nat.le_trans hlen n_le) room hF hb
    fun H hO hS => wish K H a ns hlen hO hS
theorem fun_of_D {K : PySem.W.Frag} {x qual : Str} {st : Stmt} {kws : List (Str × V)} {f : Addr} {fd : FuncData} (F : FunD K x qual (defArgs st) (defBody st) (defScope st) [] kws f fd) : Fun K x qual st f fd := by
  obtain ⟨oc, od, dV, kV, doc, pm, an, cdv, ct, osl, e, lk, hcd, hD, hK⟩ := F.ex
  rcases hD with ⟨_, hd⟩ | ⟨z, _⟩
  · subst hd
    exact ⟨⟨oc, od, kV, doc, pm, an, cdv, ct, osl, e, lk, hcd⟩, F.kp⟩
  · exact absurd rfl z
end DD
namespace DD
open PySem PySem.Spec PyProof.Rows L2
abbrev veTail : List Value := [.type "ValueError", .type "Exception", .type "BaseException", .type "object"]
structure OexV (K : PySem.W.Frag) (C : Addr) : Prop where
  ini : PySem.W.excInitIn K C veTail "ValueError.__new__" = true
  ovr : PySem.W.excOver K C veTail = true
  hd : PySem.W.hasDictIn K C = true
  sa : PySem.W.findIn K (.ref C) "__setattr__" = some (some (.builtin "object.__setattr__"))
  exC : PySem.W.subIn K (.ref C) (.type "BaseException") = some true
  tyC : PySem.W.typeIn K (.ref C) = some (.type "type")
  kC : PySem.W.keepIn K (.ref C) = true
section
variable {X : Cx} {pins : List (Addr × Obj)} {σ : L2.St} {H : Hp} {s : Shared} {a C : Addr} {f : Str} {y : V} {u : Value} {Q : Unit → Shared → Prop} {E : Value → Shared → Prop} {A : Around}
theorem ost_newV (T : OexV X.K C) (I : Inv X pins σ H s) (e : H a = some (exo a C none)) (hno : PySem.W.findIn X.K (.ref C) f = some none) (ry : RelV y u)
    (h : ∀ dx s', H dx = none → dx ≠ a → Inv X pins σ (upd (upd H dx (exd dx [(f, y)])) a (exo a C (some dx))) s' → Q () s') : wpAny (model X.prog X.w) A (setAttr (.ref a) f u) Q E s := by
  obtain ⟨t1, ho⟩ := exo_at I.hok e
  obtain ⟨cd, hcd, hh⟩ := PySem.W.any_some T.hd
  obtain ⟨hp, g, d, t, os⟩ := s
  have J : PySem.W.InstAt hp a { cls := .ref C, dict := none, data := .fields #[.ref t1, .none, .none, .none, .bool false, .none] } C none := ⟨ho, rfl, rfl, trivial⟩
  have hcls : PySem.W.Looks (model X.prog X.w) hp (classData C) cd := PySem.W.looks_clsIn I.kIn hcd
  have hxs : a ≠ hp.objs.size := Nat.ne_of_lt (Heap.lt_size ho)
  refine PySem.W.set_plain I.kIn J T.sa ?_
  refine PySem.W.osa_openX (r := none) PySem.F.store_ValueError I.kIn J T.ovr (show (PySem.W.findIn X.K (.ref C) f).bind _ = some none by rw [hno]; rfl) fun b => ?_
  show wpAny _ _ (Builtin.ObjectAttr.storeInOwnDict (.ref a) (.ref C) (.str f t) f u b) _ _ _
  obtain ⟨nm, bs, mro, ns, qn, hd, sn, sb, ab, col, dl⟩ := cd
  dsimp only at hh
  subst hh
  unfold Builtin.ObjectAttr.storeInOwnDict Builtin.ObjectAttr.ownDictForStores
  repeat (first | with_reducible refine PySem.HandSPX.store_in_new ?_ ?_ | with_reducible refine wpAny_loadPart_at ho ?_ | with_reducible refine hcls.at ?_ | wp_step)
  · exact ⟨_, #[], _, (Heap.get?_update_ne _ _ _ _ hxs.symm).trans (Heap.get?_push_at rfl rfl), rfl, fun e he => absurd he (by simp), fun _ => rfl⟩
  · intro h' tk' hn' hs
    refine h hp.objs.size _ (I.hok.fresh (Nat.le_refl _)) hxs.symm (inv_exo (t2 := tk') I e ry (fun b o hb ho' => ?_) (Nat.le_refl _) (t1 := t1) ?_ hn')
    · exact (hs.2 b (Nat.ne_of_lt (Heap.lt_size ho'))).trans ((Heap.get?_update_ne _ _ _ _ hb).trans (Heap.get?_push_of_some _ ho'))
    · exact (hs.2 a hxs).trans (Heap.get?_update_self _ (Heap.get?_push_of_some _ ho) rfl)
end
/-- self.f = e, the first one -/
def tOstV (K : PySem.W.Frag) (f : Str) (to te : TE) : TS := fun D σ H => te σ H fun y H1 => to σ H1 fun x H2 => ∃ a C : Addr, x = .ref a ∧ OexV K C ∧ PySem.W.findIn K (.ref C) f = some none ∧
  H2 a = some (exo a C none) ∧ ∀ dx, H2 dx = none → dx ≠ a → D.nx σ (upd (upd H2 dx (exd dx [(f, y)])) a (exo a C (some dx)))
section
variable {X : Cx} {o e : Expr} {es : List Expr} {to te : TE} {ta : TA} {f : Str} {p p' pos : Pos}
theorem ps_ostV (ho : PE X o to) (he : PE X e te) (hs : swapsWith e (some (.Attribute o f p')) pos.line X.env = pure false := by rfl) : PS X (.Assign [.Attribute o f p'] e pos) (tOstV X.K f to te) := by
  refine ⟨fun pins s σ H D I h => ?_⟩
  refine plainObj_wpAny_Assign_Attribute (thn (he.run pins s σ H _ I h) fun v s1 ⟨y, H1, I1, r1, q1⟩ => thn (ho.run pins s1 σ H1 _ I1 q1) fun u s2 hh => ?_) hs
  obtain ⟨x, H2, I2, r2, a, C, ex, T, hno, ea, q⟩ := hh
  subst ex
  obtain rfl : u = Value.ref a := r2
  exact ost_newV T I2 ea hno r1 fun dx s' n ne J => ⟨σ, _, J, q dx n ne⟩
/-- C(e, ..) -/
theorem pmk_oexV {CX : CXT} {x : Str} {C fI : Addr} {k : Nat} {fd : FuncData} {ps : List Str} {sp : Sp} {ds : List Value} {dvs : List V} (T : OexV X.K C) (iC : PySem.W.findIn X.K (.ref C) "__init__" = some (some (.ref fI))) (tI : PySem.W.typeIn X.K (.ref fI) = some (.type "function"))
    (F1 : FnOk X.prog X.w X.K X.mg X.base CX k fI fd ps sp) (hr : Room (k + 1) X.A) (hb : Binds X.K fd ps ds) (hd : Vals dvs ds) (hx : Passes CX X (fun _ _ _ => False)) (hg : Gl X x) (hm : X.mg x = some (.ref C)) (ha : PA X (e :: es) ta)
    (hdb : (x == ("__debug__" : Str)) = false := by decide) (he : starEach (e :: es) X.env = (false, eval e X.env) :: starEach es X.env := by rfl) (hpl : (backTo pos (starEach es X.env)).any (·.1) = false := by rfl) :
    PMk X (.Call (.Name x p) (e :: es) [] pos) (tMkO C sp dvs ta) := by
  intro pins s σ H Q I h
  refine wpAny_Call_Name_kw (ld_glob I hg hm ?_ hdb)
  refine PySem.W.callWith_K (h₀ := X.base) I.ok.mod.kin T.kC (thn (ha.run pos pins s σ H _ I h) fun us s1 ⟨vs, H1, I1, r1, hz, q1⟩ => ⟨I1.kIn, ?_⟩) he hpl
  show wpAny _ _ (call (.ref C) us) _ _ _
  obtain ⟨nm, N', qn, bs, bm, hdct, sn, sub, ab, col, dd, k0, k1, k2, k3, k5, hC, hT⟩ := PySem.W.excInit_of I1.kIn T.ini
  obtain ⟨hp, g, dr, tk, os⟩ := s1
  have hsz : hp.objs.size ≤ hp.objs.size + 1 := Nat.le_succ _
  have hq := q1 (hp.objs.size + 1) (I1.hok.fresh hsz)
  have old : ∀ b o, hp.get? b = some o → ((hp.push (PySem.W.kdv_tup us)).push (PySem.HandSPX.excO C hp.objs.size)).get? b = some o := fun b o e => Heap.get?_push_of_some _ (Heap.get?_push_of_some _ e)
  have there : ((hp.push (PySem.W.kdv_tup us)).push (PySem.HandSPX.excO C hp.objs.size)).get? (hp.objs.size + 1) = some (PySem.HandSPX.excO C hp.objs.size) := by heap_get
  have I2 := I1.laid (t' := tk) (o := exo (hp.objs.size + 1) C none) old hsz (exo_ok there)
  have r2 : Vals (V.ref (hp.objs.size + 1) :: (vs ++ dvs)) (Value.ref (hp.objs.size + 1) :: (us ++ ds)) := .cons rfl (r1.append hd)
  have hl : (Value.ref (hp.objs.size + 1) :: us ++ ds).length = ps.length := r2.length.symm.trans (F1.len _ _ _ _ hq)
  have hus : us.length ≤ sizeLine := Nat.le_trans (Nat.le_of_eq (Paired.length r1).symm) (Nat.le_trans hz (by decide))
  refine wpAny_call (PySem.HandSPX.call_own F.excBase_ValueError hT hC (PySem.W.looks_findIn I1.kIn iC) (fun self => PySem.W.bind_fn I1.kIn self tI) hus
    (codeAny_mono (F1.run _ X.stack _ _ ⟨Value.ref (hp.objs.size + 1) :: us, []⟩ _ _ _ (fun _ _ _ => False) (hr.make C us []) (I2.env0.make C us []) (hb _ (Value.ref (hp.objs.size + 1) :: us) I2.kIn hl) r2 hq) fun r s' hq' => ?_))
  cases r with
  | error er => exact hx pins σ _ _ er s' I2 hq'
  | ok fl =>
    cases fl with
    | ret u =>
      obtain ⟨v, H2, os2, bare2, un2, hok2, rv, ev, d, fs, ea, ed, hd1, q2⟩ := hq'
      subst ev
      obtain ⟨h2, g2, d2, t2, os'⟩ := s'
      exact ⟨rv, mk_end (raises_own T.exC T.tyC) I1 hsz old un2 hok2 os2 bare2 ea ed hd1 q2⟩
    | next => exact hq'.elim
    | brk => exact hq'.elim
    | cont => exact hq'.elim
end
structure ErrV (K : PySem.W.Frag) (mg : Str → Option Value) (nm fld : Str) (sI : Stmt) (C fI : Addr) (dI : FuncData) : Prop where
  o : OexV K C
  iC : PySem.W.findIn K (.ref C) "__init__" = some (some (.ref fI))
  tI : PySem.W.typeIn K (.ref fI) = some (.type "function")
  noT : PySem.W.findIn K (.ref C) fld = some none
  gC : mg nm = some (.ref C)
  FI : Fun K "__init__" (nm ++ ".__init__") sI fI dI
  bI : Binds K dI ["self", fld] []
section
variable {P : Program} {w : World} {K : PySem.W.Frag} {mg : Str → Option Value} {base : Heap}
def spInitV (K : PySem.W.Frag) (C : Addr) (fld : Str) : Sp := fun vs H Q _ => ∃ (a : Addr) (y : V), vs = [.ref a, y] ∧ OexV K C ∧ PySem.W.findIn K (.ref C) fld = some none ∧ H a = some (exo a C none) ∧
  ∀ dx, H dx = none → dx ≠ a → Q .non (upd (upd H dx (exd dx [(fld, y)])) a (exo a C (some dx)))
theorem raisedV {C : Addr} {fld : Str} {H : Hp} {v : V} {E : XK} (o : OexV K C) (no : PySem.W.findIn K (.ref C) fld = some none) (q : ∀ dd H', Same H H' → H' dd = some (.xd [(fld, v)]) → E (.ref C) (some dd) H') :
    [v].length ≤ 1000 ∧ ∀ a, H a = none → spInitV K C fld (.ref a :: ([v] ++ [])) (upd H a (exo a C none))
      (fun u H2 => u = .non ∧ ∃ (d : Addr) (fs : List (Str × V)), H2 a = some (exo a C (some d)) ∧ H2 d = some (exd d fs) ∧ H d = none ∧ E (.ref C) (some d) (upd (del H2 a) d (.xd fs))) (fun _ _ _ => False) :=
  ⟨by show 1 ≤ 1000; decide, fun a na => ⟨a, v, rfl, o, no, upd_same, fun dx nx ne => ⟨rfl, dx, [(fld, v)], upd_same, by rw [upd_ne ne, upd_same], by rw [upd_ne ne] at nx; exact nx, raised q na nx ne⟩⟩⟩
end
theorem oexvB_ok {K : PySem.W.Frag} {C : Addr} (h : HK.oexvB K C = true) : OexV K C := by
  obtain ⟨h1, h2⟩ := bAnd h
  obtain ⟨a1, a2⟩ := bAnd h1
  obtain ⟨h3, h4⟩ := bAnd h2
  obtain ⟨a3, a4⟩ := bAnd h3
  obtain ⟨h5, a7⟩ := bAnd h4
  obtain ⟨a5, a6⟩ := bAnd h5
  exact ⟨a1, a2, a3, of_decide_eq_true a4, of_decide_eq_true a5, of_decide_eq_true a6, a7⟩
theorem errV_ok {K : PySem.W.Frag} {h : Heap} {mg : Str → Option Value} {x fld q : Str} {sI : Stmt} {dI : FuncData} (X : K.In h) (G : h.Ns mainGlobals mg) (c1 : (He.Fa.glo x).ok K = true) (c2 : HK.oexvB K (He.ga K x) = true) (c3 : HK.initB K (He.ga K x) fld = true)
    (hq : x ++ ".__init__" = q) (FI : Fun K "__init__" q sI (He.ma K (He.ga K x) "__init__") dI) (bI : Binds K dI ["self", fld] []) : ErrV K mg x fld sI (He.ga K x) (He.ma K (He.ga K x) "__init__") dI := by
  obtain ⟨a1, a2, a3⟩ := initB_ok c3
  exact ⟨oexvB_ok c2, a1, a2, a3, He.glo_ok X G c1, by rw [hq]; exact FI, bI⟩
end DD
namespace DD
open PySem PySem.Spec PyProof.Rows L2
/-! ### a call that may raise of a def whose promise is by positional values -/
section
variable {X : Cx} {CX : CXT} {k : Nat} {f : Addr} {sp : Sp} {E : L2.St → XK} {x : Str} {p pos : Pos} {e : Expr} {es : List Expr} {t : TA}
theorem pe_callRS (F : FnR X.prog X.w X.K X.mg X.base CX k f sp) (hr : Room k X.A) (hg : Gl X x) (hm : X.mg x = some (.ref f)) (hk : PySem.W.keepIn X.K (.ref f) = true)
    (hx : ∀ σ, PassesAt CX X σ (E σ)) (ha : PA X (e :: es) t) (hdb : (x == ("__debug__" : Str)) = false := by decide)
    (he : starEach (e :: es) X.env = (false, eval e X.env) :: starEach es X.env := by rfl) (hpl : (backTo pos (starEach es X.env)).any (·.1) = false := by rfl) :
    PE X (.Call (.Name x p) (e :: es) [] pos) (tCallS sp E t) := by
  refine ⟨fun pins s σ H Q I h => wpAny_Call_Name_kw (ld_glob I hg hm ?_ hdb)⟩
  refine PySem.W.callWith_K (h₀ := X.base) I.ok.mod.kin hk
    (thn (ha.run pos pins s σ H _ I h) fun us s1 ⟨vs, H1, I1, r, q⟩ => ⟨I1.kIn, ?_⟩) he hpl
  refine wpAny_call (codeAny_mono (F X.A X.stack s1 H1 us vs Q (E σ) hr I1.env0 r q) fun r s' hq => ?_)
  cases r with
  | error e => exact hx σ pins H1 s1 e s' I1 hq
  | ok fl =>
    cases fl with
    | ret u => exact I1.after hq
    | next => exact hq.elim
    | brk => exact hq.elim
    | cont => exact hq.elim
end

end DD
namespace DD
open PySem PySem.Spec PyProof.Rows L2
/-- the state at dk: its cells at ce, how many were drawn, its rests at c -/
structure Dek (H : Hp) (dk c ce : Addr) (B : Nat) : Prop where
  ex : ∃ (ns rs : List Int) (t : Int), H dk = some (.lst [.ref ce, .int t, .ref c]) ∧ H ce = some (.lst (ns.map V.int)) ∧ H c = some (.lst (rs.map V.int)) ∧ (∀ n ∈ ns, 0 ≤ n) ∧ (∀ n ∈ rs, 0 ≤ n) ∧ rs.length = ns.length ∧ 1 ≤ ns.length ∧ ns.length ≤ 63 ∧ 0 ≤ t ∧ t ≤ (B : Int)
  ne : dk ≠ c
  n1 : ce ≠ dk
  n2 : ce ≠ c
theorem Dek.up {H : Hp} {dk c ce : Addr} {B B' : Nat} (d : Dek H dk c ce B) (h : B ≤ B') : Dek H dk c ce B' := by
  obtain ⟨⟨ns, rs, t, h1, h2, h3, h4, h5, h6, h7, h8, h9, h10⟩, a, b, e⟩ := d
  exact ⟨⟨ns, rs, t, h1, h2, h3, h4, h5, h6, h7, h8, h9, by omega⟩, a, b, e⟩
theorem Dek.keep {H H' : Hp} {dk c ce : Addr} {B : Nat} (d : Dek H dk c ce B) (k : Same H H') : Dek H' dk c ce B := by
  obtain ⟨⟨ns, rs, t, h1, h2, h3, h4⟩, a, b, e⟩ := d
  exact ⟨⟨ns, rs, t, k _ _ h1, k _ _ h2, k _ _ h3, h4⟩, a, b, e⟩
theorem Dek.nedk {H : Hp} {dk c ce l : Addr} {B : Nat} (d : Dek H dk c ce B) (n : H l = none) : l ≠ dk ∧ l ≠ c ∧ l ≠ ce := by
  obtain ⟨⟨ns, rs, t, h1, h2, h3, _⟩, _⟩ := d
  exact ⟨fun z => (by rw [z, h1] at n; cases n), fun z => (by rw [z, h3] at n; cases n), fun z => (by rw [z, h2] at n; cases n)⟩
theorem Dek.updD {H : Hp} {dk c ce D : Addr} {B : Nat} {o : HO} (d : Dek H dk c ce B) (h1 : D ≠ dk) (h2 : D ≠ c) (h3 : D ≠ ce) : Dek (upd H D o) dk c ce B := by
  obtain ⟨⟨ns, rs, t, e1, e2, e3, h4⟩, a, b, e⟩ := d
  exact ⟨⟨ns, rs, t, by rw [upd_ne h1.symm]; exact e1, by rw [upd_ne h3.symm]; exact e2, by rw [upd_ne h2.symm]; exact e3, h4⟩, a, b, e⟩
theorem kpx_free {dk c ce t : Addr} {H H' : Hp} {B : Nat} (kp : Kp2 dk c H H') (d : Dek H' dk c ce B) (nt : H' t = none) : H t = none := by
  obtain ⟨n1, n2, _⟩ := d.nedk nt
  cases e : H t with
  | none => rfl
  | some o =>
    have := kp t o n1 n2 e
    rw [nt] at this
    cases this
theorem TK.kpx {H H' : Hp} {dk c ce : Addr} {B : Nat} (d : Dek H dk c ce B) (k : Kp2 dk c H H') : TK H H' := fun b xs e => by
  obtain ⟨⟨ns, rs, t, h1, h2, h3, _⟩, _⟩ := d
  exact k b _ (fun z => by rw [z, h1] at e; cases e) (fun z => by rw [z, h3] at e; cases e) e
theorem scDraws : FnScope ["_law_script", "_law_cells", "_law_cell"] ["_law_script"] (defScope sDraws) := ⟨rfl, rfl, rfl, by decide +kernel, rfl, by decide +kernel, by decide +kernel⟩
theorem scNext : FnScope ["_law_state", "_law_many", "_law_cells", "_law_count", "_law_rests", "_law_index", "_law_digit", "_law_mixed"] ["_law_state", "_law_many"] (defScope sNext) := ⟨rfl, rfl, rfl, by decide +kernel, rfl, by decide +kernel, by decide +kernel⟩
section
variable {P : Program} {w : World} {K : PySem.W.Frag} {mg : Str → Option Value} {base : Heap}
/-- a drawn number from 0 to L - 1: the state goes on, all else stands -/
def spNext : Sp := fun vs H Q _ => ∃ (dk c ce : Addr) (B : Nat) (L : Int), vs = [.ref dk, .int L] ∧ Dek H dk c ce B ∧ B ≤ 10000 ∧ 1 ≤ L ∧ L ≤ 10000000 ∧
  ∀ r H', 0 ≤ r → r < L → Kp2 dk c H H' → Dek H' dk c ce (B + 1) → Q (.int r) H'
theorem ok_next {f : Addr} {fd : FuncData} {k : Nat} (F : Fun K "_law_next" "_law_next" sNext f fd) (ml : mg "len" = none) : FnOk P w K mg base CX0 (k + 1) f fd ["_law_state", "_law_many"] spNext := by
  refine F.ok scNext (fun vs H Q E h => ?_) (fun cdv A outer s H vs Q E hr h => ?_)
  · obtain ⟨dk, c, ce, B, L, rfl, _⟩ := h
    rfl
  · obtain ⟨dk, c, ce, B, L, rfl, ⟨⟨ns, rs, t, hdk, hce, hc, hpos, hrp, hrl, hl1, hl2, t0, tB⟩, dne, cne, cnc⟩, hB, hL1, hL2, q⟩ := h
    refine ⟨_, (pss_cons (ps_asg (pv 0) (pg_unl rfl (pgs_cons (pg_name (i := 2) scNext.nd rfl (Or.inl rfl)) (pgs_cons (pg_name (i := 3) scNext.nd rfl (Or.inl rfl)) (pgs_cons (pg_name (i := 4) scNext.nd rfl (Or.inl rfl)) pgs_nil)))))
      (pss_cons (ps_set (i := 5) scNext.nd rfl (.inl rfl) (pe_op op_modN (pv 3) (pe_callB call_len_seq (by rfl) ml PySem.boot_len (pa_cons (pv 2) pa_nil))))
      (pss_cons (ps_asg (pe_op op_add (pv 3) pe_int) (pg_sub (pv 0) pe_int set_list))
      (C8.pss_cut (ps_if (pt_cmpR op_gt (pe_ix (show IxR _ (rIxL K) from ix_list) (pv 4) (pv 5) (fun _ _ => rfl)) pe_int (nomark _)) (pss_cons (ps_set (i := 6) scNext.nd rfl (.inl rfl) (pe_op op_modN (pe_ix (show IxR _ (rIxL K) from ix_list) (pv 4) (pv 5) (fun _ _ => rfl)) (pv 1)))
      (pss_cons (ps_asg (pe_op op_fdivN (pe_ix (show IxR _ (rIxL K) from ix_list) (pv 4) (pv 5) (fun _ _ => rfl)) (pv 1)) (pg_sub (pv 4) (pv 5) set_list))
      (pss_one (ps_ret (pv 6))))) pss_nil)
      (pss_cons (ps_set (i := 7) scNext.nd rfl (.inl rfl) (pe_op op_modN (pe_op op_pow (pe_op op_add (pe_op op_add (pe_op op_modN (pe_ix (show IxR _ (rIxL K) from ix_list) (pv 2) (pv 5) (fun _ _ => rfl)) pe_int) (pe_op op_mul pe_int (pv 3))) pe_int) pe_int) pe_int))
      (pss_cons (ps_set (i := 7) scNext.nd rfl (.inl rfl) (pe_op op_modN (pe_op op_pow (pe_op op_add (pe_op op_add (pv 7) (pe_op op_mul (pe_op op_mul pe_int (pv 3)) (pv 3))) pe_int) pe_int) pe_int))
      (pss_one (ps_ret (pe_op op_modN (pe_op op_fdivN (pe_op op_modN (pe_op op_mul (pv 7) pe_int) pe_int) pe_int) (pv 1)))))))))), ?_⟩
    obtain ⟨ln, hln⟩ : ∃ ln : Nat, ns.length = ln := ⟨_, rfl⟩
    rw [hln] at hrl hl1 hl2
    refine ⟨.ref dk, rfl, dk, _, rfl, SqL.of hdk, rfl, _, _, rfl, _, _, rfl, _, _, rfl, rfl, ?_⟩
    refine ⟨_, rfl, _, rfl, ce, _, rfl, .inl (SqL.of hce), ?_⟩
    rw [List.length_map, hln]
    have b1 := Int.fmod_nonneg_of_pos t (show (0 : Int) < (ln : Int) by omega)
    have b2 := Int.fmod_lt_of_pos t (show (0 : Int) < (ln : Int) by omega)
    obtain ⟨j, hj⟩ : ∃ j : Nat, t.fmod (ln : Int) = j := ⟨(t.fmod (ln : Int)).toNat, by omega⟩
    refine ⟨t, _, rfl, rfl, by omega, ?_⟩
    have hjl : j < ln := by omega
    refine ⟨_, rfl, t, 1, rfl, rfl, .ref dk, rfl, dk, _, 1, 1, rfl, rfl, hdk, rfl, ?_⟩
    have hdk1 : (upd H dk (.lst [.ref ce, .int (t + 1), .ref c])) dk = some (.lst [.ref ce, .int (t + 1), .ref c]) := upd_same
    have hce1 : (upd H dk (.lst [.ref ce, .int (t + 1), .ref c])) ce = some (.lst (ns.map V.int)) := by
      rw [upd_ne cne]
      exact hce
    have hc1 : (upd H dk (.lst [.ref ce, .int (t + 1), .ref c])) c = some (.lst (rs.map V.int)) := by
      rw [upd_ne dne.symm]
      exact hc
    have k1 : Kp2 dk c H (upd H dk (.lst [.ref ce, .int (t + 1), .ref c])) := kp2_upd1
    have hB1 : t + 1 ≤ ((B + 1 : Nat) : Int) := by omega
    have hjr : j < rs.length := by omega
    have gr : (rs.map V.int)[j]? = some (.int rs[j]) := by rw [List.getElem?_map, List.getElem?_eq_getElem hjr]; rfl
    have hrj := hrp _ (List.getElem_mem hjr)
    have hjn : j < ns.length := by omega
    have gn : (ns.map V.int)[j]? = some (.int ns[j]) := by rw [List.getElem?_map, List.getElem?_eq_getElem hjn]; rfl
    have hnj := hpos _ (List.getElem_mem hjn)
    generalize rs[j] = rj at gr hrj
    generalize ns[j] = nj at gn hnj
    refine ⟨fun σ' H' => H' = upd H dk (.lst [.ref ce, .int (t + 1), .ref c]) ∧ σ' = [some (.ref dk), some (.int L), some (.ref ce), some (.int t), some (.ref c), some (.int (t.fmod (ln : Int))), none, none], ?_, ?_⟩
    · refine ⟨_, rfl, _, rfl, c, _, (j : Int), .int rj, rfl, congrArg V.int hj, SqL.of hc1, atI_nat gr, rj, 0, rfl, rfl, _, rfl, ite2 (fun e => ?_) (fun e => ⟨rfl, rfl⟩)⟩
      have hix : ixN (rs.map V.int).length (j : Int) = some j := by
        unfold ixN
        rw [if_pos (by omega), if_pos (by rw [List.length_map]; omega)]
        simp
      refine ⟨_, rfl, _, rfl, c, _, (j : Int), .int rj, rfl, congrArg V.int hj, SqL.of hc1, atI_nat gr, _, rfl, rj, L, rfl, rfl, by omega, ?_⟩
      refine ⟨_, rfl, _, rfl, c, _, (j : Int), .int rj, rfl, congrArg V.int hj, SqL.of hc1, atI_nat gr, _, rfl, rj, L, rfl, rfl, ⟨by omega, by omega⟩, _, rfl, _, rfl, c, _, (j : Int), j, rfl, congrArg V.int hj, hc1, hix, ?_⟩
      refine ⟨_, rfl, ?_⟩
      refine q _ _ (Int.fmod_nonneg_of_pos _ (by omega)) (Int.fmod_lt_of_pos _ (by omega)) (k1.trans kp2_upd2) ⟨⟨ns, rs.set j (rj.fdiv L), t + 1, ?_, ?_, ?_, hpos, ?_, by rw [List.length_set, hln]; exact hrl, by omega, by omega, by omega, hB1⟩, dne, cne, cnc⟩
      · rw [upd_ne dne]
        exact hdk1
      · rw [upd_ne cnc]
        exact hce1
      · rw [upd_same, List.map_set]
      · intro n hn
        rcases List.mem_or_eq_of_mem_set hn with h | h
        · exact hrp n h
        · rw [h]
          exact Int.fdiv_nonneg hrj (by omega)
    · rintro _ _ ⟨rfl, rfl⟩
      have b1 := Int.fmod_nonneg_of_pos nj (show (0 : Int) < 2147483629 by decide)
      have b2 := Int.fmod_lt_of_pos nj (show (0 : Int) < 2147483629 by decide)
      refine ⟨_, rfl, _, rfl, ce, _, (j : Int), .int nj, rfl, congrArg V.int hj, SqL.of hce1, atI_nat gn, nj, 2147483629, rfl, rfl, (by show (2147483629 : Int) ≠ 0; decide), _, rfl, 40037, t, rfl, rfl, .inl ⟨by decide, by decide⟩, _, _, rfl, rfl, _, 9203, rfl, rfl, _, 3, rfl, rfl, ⟨by decide, by decide, by omega⟩, _, 2147483587, rfl, rfl, (by show (2147483587 : Int) ≠ 0; decide), ?_⟩
      generalize hx : ((nj.fmod 2147483629 + 40037 * t + 9203) ^ (3 : Int).toNat).fmod 2147483587 = x
      have x1 : 0 ≤ x := by rw [← hx]; exact Int.fmod_nonneg_of_pos _ (by decide)
      have x2 : x < 2147483587 := by rw [← hx]; exact Int.fmod_lt_of_pos _ (by decide)
      have tt : 0 ≤ t * t ∧ t * t ≤ 100000000 := ⟨Int.mul_nonneg t0 t0, Int.le_trans (Int.mul_le_mul (show t ≤ 10000 by omega) (show t ≤ 10000 by omega) t0 (by decide)) (by decide)⟩
      have t5 : 5039 * t * t = 5039 * (t * t) := Int.mul_assoc _ _ _
      refine ⟨_, rfl, _, rfl, 5039, t, rfl, rfl, .inl ⟨by decide, by decide⟩, _, rfl, 5039 * t, t, rfl, rfl, .inl ⟨by omega, by omega⟩, x, 5039 * t * t, congrArg V.int hx, rfl, _, 43, rfl, rfl, _, 3, rfl, rfl, ⟨by decide, by decide, by omega⟩, _, 2147483563, rfl, rfl, (by show (2147483563 : Int) ≠ 0; decide), ?_⟩
      generalize hy : ((x + 5039 * t * t + 43) ^ (3 : Int).toNat).fmod 2147483563 = y
      have y1 : 0 ≤ y := by rw [← hy]; exact Int.fmod_nonneg_of_pos _ (by decide)
      have y2 : y < 2147483563 := by rw [← hy]; exact Int.fmod_lt_of_pos _ (by decide)
      refine ⟨_, rfl, y, 65537, congrArg V.int hy, rfl, .inl ⟨by omega, by omega⟩, _, 2305843009213693951, rfl, rfl, (by show (2305843009213693951 : Int) ≠ 0; decide), _, 8, rfl, rfl, ⟨by decide, by decide⟩, _, rfl, _, L, rfl, rfl, by omega, ?_⟩
      exact q _ _ (Int.fmod_nonneg_of_pos _ (by omega)) (Int.fmod_lt_of_pos _ (by omega)) k1 ⟨⟨ns, rs, t + 1, hdk1, hce1, hc1, hpos, hrp, by rw [hln]; exact hrl, by omega, by omega, by omega, hB1⟩, dne, cne, cnc⟩
end
end DD
namespace DD
open PySem PySem.Spec PyProof.Rows L2
structure Tx (K : PySem.W.Frag) (mg : Str → Option Value) (fN fU fTu fA fDs fX fCu fOo fIc fMa fNu fBe : Addr) (dN dU dTu dA dDs dX dCu dOo dIc dMa dNu dBe : FuncData) : Prop where
  N : Fun K "is_number" "is_number" sIsNum fN dN
  bN : Binds K dN ["value"] []
  gN : mg "is_number" = some (.ref fN)
  U : Fun K "is_number_up_to" "is_number_up_to" sUpTo fU dU
  bU : Binds K dU ["value", "most"] []
  gU : mg "is_number_up_to" = some (.ref fU)
  Tu : Fun K "is_tuple_of" "is_tuple_of" sTupOf fTu dTu
  bTu : Binds K dTu ["value", "fewest", "most"] []
  gTu : mg "is_tuple_of" = some (.ref fTu)
  A : Fun K "are_numbers" "are_numbers" sNums fA dA
  bA : Binds K dA ["value", "fewest", "most", "limit"] []
  gA : mg "are_numbers" = some (.ref fA)
  Ds : Fun K "_law_draws" "_law_draws" sDraws fDs dDs
  bDs : Binds K dDs ["_law_script"] []
  gDs : mg "_law_draws" = some (.ref fDs)
  X : Fun K "_law_next" "_law_next" sNext fX dX
  bX : Binds K dX ["_law_state", "_law_many"] []
  gX : mg "_law_next" = some (.ref fX)
  Cu : Fun K "_law_counts" "_law_counts" sCounts fCu dCu
  bCu : Binds K dCu ["_law_state", "_law_width"] []
  gCu : mg "_law_counts" = some (.ref fCu)
  Oo : Fun K "_law_odd" "_law_odd" sOdd fOo dOo
  bOo : Binds K dOo ["_law_state"] []
  gOo : mg "_law_odd" = some (.ref fOo)
  Ic : Fun K "_law_is_counts" "_law_is_counts" sIsC fIc dIc
  bIc : Binds K dIc ["_law_value"] []
  gIc : mg "_law_is_counts" = some (.ref fIc)
  Ma : Fun K "_law_made" "_law_made" sMade fMa dMa
  bMa : Binds K dMa ["_law_value"] []
  gMa : mg "_law_made" = some (.ref fMa)
  Nu : Fun K "_law_number" "_law_number" sLNum fNu dNu
  bNu : Binds K dNu ["_law_heap", "_law_value"] []
  gNu : mg "_law_number" = some (.ref fNu)
  Be : Fun K "_law_bent" "_law_bent" sBent fBe dBe
  bBe : Binds K dBe ["_law_state", "_law_counts_here"] []
  gBe : mg "_law_bent" = some (.ref fBe)
  m_isinstance : mg "isinstance" = none
  m_int : mg "int" = none
  m_bool : mg "bool" = none
  m_tuple : mg "tuple" = none
  m_list : mg "list" = none
  m_len : mg "len" = none
  m_abs : mg "abs" = none
  m_range : mg "range" = none
  m_repr : mg "repr" = none
  m_all : mg "all" = none
def restI (n : Int) : Int := n * (if decide (n ≥ (10 : Int) ^ (18 : Int).toNat) = true then 1 else 0)
theorem sqL_same {K : PySem.W.Frag} {H H' : Hp} {a : Addr} {xs : List V} (k : Same H H') (h : SqL K H a xs) : SqL K H' a xs := h.ext k
section
variable {P : Program} {w : World} {K : PySem.W.Frag} {mg : Str → Option Value} {base : Heap}
def spDraws (K : PySem.W.Frag) : Sp := fun vs H Q _ => ∃ (a : Addr) (ns : List Int), vs = [.ref a] ∧ SqL K H a (ns.map V.int) ∧ ns.length ≤ 63 ∧ ∀ dk c ce H', Same H H' → H dk = none → H c = none → H ce = none → Dek H' dk c ce 0 → Q (.ref dk) H'
theorem ok_draws {f fN fU fTu fA fDs fX fCu fOo fIc fMa fNu fBe : Addr} {fd dN dU dTu dA dDs dX dCu dOo dIc dMa dNu dBe : FuncData} {k : Nat} (F : Fun K "_law_draws" "_law_draws" sDraws f fd) (T : Tx K mg fN fU fTu fA fDs fX fCu fOo fIc fMa fNu fBe dN dU dTu dA dDs dX dCu dOo dIc dMa dNu dBe) : FnOk P w K mg base CX0 (k + 1) f fd ["_law_script"] (spDraws K) := by
  refine F.ok scDraws (fun vs H Q E h => ?_) (fun cdv A outer s H vs Q E hr h => ?_)
  · obtain ⟨a, ns, rfl, _⟩ := h
    rfl
  · obtain ⟨a, ns, rfl, hS, hlen, q⟩ := h
    refine ⟨_, (pss_cons (ps_set (i := 1) scDraws.nd rfl (.inl rfl) (pe_op op_cat (pe_lc (own := [("_law_cell", 2)]) (g := gName 2) rfl scDraws.nd (pi_list (pe_slice sl_list (pv 0) po_none (po_some pe_int))) (blkOk_by (own := [("_law_cell", 2)]) (N := ["_law_script", "_law_cells", "_law_cell"]) (sc := defScope sDraws) (by decide +kernel)) (fun _ _ _ _ _ => (pg_name (i := 2) scDraws.nd rfl (Or.inl rfl))) (fun _ _ _ _ _ => pts_nil) (fun _ _ _ _ _ => (pe_callB call_abs (by rfl) T.m_abs (by decide +kernel) (pa_cons (pv 2) pa_nil)))) (pe_op op_rep (pe_lst (pa_cons pe_int pa_nil)) (pe_callTy call_int1 (by rfl) T.m_int (by decide +kernel) (pa_cons (pe_cmpR op_eq (pe_callB call_len_seq (by rfl) T.m_len PySem.boot_len (pa_cons (pv 0) pa_nil)) pe_int (nomark _)) pa_nil)))))
      (pss_one (ps_ret (pe_lst (pa_cons (pv 1) (pa_cons pe_int (pa_cons (pe_lc (own := [("_law_cell", 2)]) (g := gName 2) rfl scDraws.nd (pi_list (pv 1)) (blkOk_by (own := [("_law_cell", 2)]) (N := ["_law_script", "_law_cells", "_law_cell"]) (sc := defScope sDraws) (by decide +kernel)) (fun _ _ _ _ _ => (pg_name (i := 2) scDraws.nd rfl (Or.inl rfl))) (fun _ _ _ _ _ => pts_nil) (fun _ _ _ _ _ => (pe_op op_mul (pv 2) (pe_callTy call_int1 (by rfl) T.m_int (by decide +kernel) (pa_cons (pe_cmpR op_ge (pv 2) (pe_op op_pow pe_int pe_int) (nomark _)) pa_nil))))) pa_nil))))))), ?_⟩
    refine ⟨.ref a, rfl, 63, rfl, a, _, rfl, hS, fun p np => ?_⟩
    obtain ⟨ms, em, hml⟩ := cutV_map (ns := ns) (lo := none) (hi := some 63)
    have hz : ns.length = 0 ∨ 1 ≤ ms.length := by
      by_cases h : ns.length = 0
      · exact .inl h
      · refine .inr ?_
        have e2 : (cutV (ns.map V.int) none (some 63)).length = ms.length := by rw [em, List.length_map]
        have e3 : cutV (ns.map V.int) none (some 63) = ns.map V.int := cutV_all ⟨rfl, by
          show HT.sIx (ns.map V.int).length (ns.map V.int).length (some 63) = _
          rw [List.length_map]
          exact (HT.sIx_nat _ _ 63).trans (by omega)⟩
        rw [e3, List.length_map] at e2
        omega
    rw [em]
    refine ⟨p, rfl, ⟨_, SqL.of upd_same⟩, fun D nD => ?_⟩
    have hp0 : Same H (upd H p (.lst (ms.map V.int))) := same_new np
    refine lc_list (xs := ms.map V.int) (fun i H' => H' D = some (.lst ((ms.take i).map fun n => V.int (absI n))) ∧ Same (upd H p (.lst (ms.map V.int))) H') ⟨upd_same, same_new nD⟩
      (fun i H' _ h => SqL.of (h.2 _ _ upd_same)) (fun i x H' hx h => ?_) (fun H' h => ?_)
    · obtain ⟨n, hn, rfl⟩ := get_map hx
      obtain ⟨hD, sm⟩ := h
      refine ⟨rfl, _, rfl, n, rfl, _, hD, ?_, ?_, fun b o e => ?_⟩
      · rw [List.length_map, List.length_take]
        exact len_lt (by omega)
      · rw [upd_same, take_succ_map hn]
        rfl
      · have hne : b ≠ D := ne_of_none e nD
        rw [upd_ne hne]
        exact sm b o e
    · obtain ⟨hD, sm⟩ := h
      rw [List.length_map, List.take_length] at hD
      have sA := hp0.trans sm
      refine ⟨by show 1 ≤ sizeLine; decide, fun p2 np2 => ?_⟩
      have s2 := same_new (o := .lst [V.int 0]) np2
      have hD2 := s2 _ _ hD
      have hp2 : (upd H' p2 (.lst [V.int 0])) p2 = some (.lst [V.int 0]) := upd_same
      refine ⟨_, rfl, a, _, rfl, .inl (sqL_same (sA.trans s2) hS), rfl, .inr ⟨_, rfl, ?_⟩⟩
      obtain ⟨kz, ek, hk0, hk1, hk2⟩ : ∃ kz : Int, (if decide (V.int (((ns.map V.int).length : Nat) : Int) = V.int 0) = true then (1 : Int) else 0) = kz ∧ (kz = 0 ∨ kz = 1) ∧ (ns.length = 0 → kz = 1) ∧ (1 ≤ ns.length → kz = 0) := by
        refine ⟨_, rfl, ?_, fun e => ?_, fun e => ?_⟩
        · split
          · exact .inr rfl
          · exact .inl rfl
        · rw [List.length_map, e]
          rfl
        · rw [if_neg]
          intro z
          have z := V.int.inj (of_decide_eq_true z)
          rw [List.length_map] at z
          omega
      refine ⟨p2, kz, _, rfl, congrArg V.int ek, hp2, by omega, by omega, Nat.le_trans (show 1 * kz.toNat ≤ 1 by omega) (by decide), fun p3 np3 => ?_⟩
      rw [rep_one]
      have s3 := same_new (o := .lst ((List.replicate kz.toNat (0 : Int)).map V.int)) np3
      refine ⟨D, p3, _, _, rfl, rfl, s3 _ _ hD2, upd_same, by rw [List.length_map, List.length_map, List.length_replicate]; exact Nat.le_of_lt (len_ltD (by omega)), fun p4 np4 => ?_⟩
      obtain ⟨cs, hcs, cpos, cl1, cl2⟩ : ∃ cs : List Int, (ms.map fun n => V.int (absI n)) ++ (List.replicate kz.toNat (0 : Int)).map V.int = cs.map V.int ∧ (∀ n ∈ cs, 0 ≤ n) ∧ 1 ≤ cs.length ∧ cs.length ≤ 63 := by
        refine ⟨ms.map absI ++ List.replicate kz.toNat 0, ?_, fun n hn => ?_, ?_, ?_⟩
        · rw [List.map_append, List.map_map]
          rfl
        · rcases List.mem_append.mp hn with h | h
          · obtain ⟨m, _, rfl⟩ := List.mem_map.mp h
            exact absI_pos m
          · rw [(List.mem_replicate.mp h).2]
            exact Int.le_refl _
        · rw [List.length_append, List.length_map, List.length_replicate]
          omega
        · rw [List.length_append, List.length_map, List.length_replicate]
          omega
      have hp4 := (upd_same (H := upd (upd H' p2 (.lst [V.int 0])) p3 (.lst ((List.replicate kz.toNat (0 : Int)).map V.int))) (a := p4) (o := HO.lst ((ms.map fun n => V.int (absI n)) ++ (List.replicate kz.toNat (0 : Int)).map V.int))).trans (congrArg (fun z => some (HO.lst z)) hcs)
      have s4 := ((sA.trans s2).trans s3).trans (same_new (o := HO.lst ((ms.map fun n => V.int (absI n)) ++ (List.replicate kz.toNat (0 : Int)).map V.int)) np4)
      refine ⟨_, rfl, _, rfl, p4, rfl, ⟨_, SqL.of hp4⟩, fun D2 nD2 => ?_⟩
      refine lc_list (xs := cs.map V.int) (fun i H5 => H5 D2 = some (.lst ((cs.take i).map fun n => V.int (restI n))) ∧ Same (upd (upd (upd H' p2 (.lst [V.int 0])) p3 (.lst ((List.replicate kz.toNat (0 : Int)).map V.int))) p4 (HO.lst ((ms.map fun n => V.int (absI n)) ++ (List.replicate kz.toNat (0 : Int)).map V.int))) H5) ⟨upd_same, same_new nD2⟩
        (fun i H5 _ h => SqL.of (h.2 _ _ hp4)) (fun i x H5 hx h => ?_) (fun H5 h => ?_)
      · obtain ⟨n, hn, rfl⟩ := get_map hx
        obtain ⟨hD5, sm5⟩ := h
        refine ⟨rfl, _, rfl, _, rfl, 10, 18, rfl, rfl, ⟨by decide, by decide, by decide⟩, n, _, rfl, rfl, .inr ⟨_, rfl, n, _, rfl, rfl, .inr ?_, _, hD5, ?_, ?_, fun b o e => ?_⟩⟩
        · split
          · exact ⟨by decide, by decide⟩
          · exact ⟨by decide, by decide⟩
        · rw [List.length_map, List.length_take]
          exact len_lt (by omega)
        · rw [upd_same, take_succ_map hn]
          rfl
        · rw [upd_ne (ne_of_none e nD2)]
          exact sm5 b o e
      · obtain ⟨hD5, sm5⟩ := h
        rw [List.length_map, List.take_length] at hD5
        have hp5 := sm5 _ _ hp4
        refine ⟨by show 3 ≤ sizeLine; decide, fun dk nk => ?_⟩
        have ndk : D2 ≠ dk := ne_of_none hD5 nk
        have ncd : p4 ≠ D2 := ne_of_none hp4 nD2
        have nck : p4 ≠ dk := ne_of_none hp5 nk
        have s5 := s4.trans sm5
        refine q dk D2 p4 _ (s5.trans (same_new nk)) (s5.free nk) (s4.free nD2) (((sA.trans s2).trans s3).free np4) ⟨⟨cs, cs.map restI, 0, upd_same, ?_, ?_, cpos, fun n hn => ?_, by rw [List.length_map], cl1, cl2, Int.le_refl _, Int.le_refl _⟩, ndk.symm, nck, ncd⟩
        · rw [upd_ne nck]
          exact hp5
        · rw [upd_ne ndk, hD5, List.map_map]
          rfl
        · obtain ⟨m, hm, rfl⟩ := List.mem_map.mp hn
          have hm := cpos m hm
          unfold restI
          split
          · omega
          · omega
end
end DD
namespace DD
open PySem PySem.Spec PyProof.Rows L2
theorem scIsNum : FnScope ["value"] ["value"] (defScope sIsNum) := ⟨rfl, rfl, rfl, by decide +kernel, rfl, by decide +kernel, by decide +kernel⟩
theorem scUpTo : FnScope ["value", "most"] ["value", "most"] (defScope sUpTo) := ⟨rfl, rfl, rfl, by decide +kernel, rfl, by decide +kernel, by decide +kernel⟩
theorem scTupOf : FnScope ["value", "fewest", "most"] ["value", "fewest", "most"] (defScope sTupOf) := ⟨rfl, rfl, rfl, by decide +kernel, rfl, by decide +kernel, by decide +kernel⟩
section
variable {P : Program} {w : World} {K : PySem.W.Frag} {mg : Str → Option Value} {base : Heap}
def spIsNum : Sp := fun vs H Q _ => ∃ v d, vs = [v] ∧ Dq H v d ∧ Q (.bl (isI d && !isB d)) H
theorem ok_isnum {f : Addr} {fd : FuncData} {k : Nat} (F : Fun K "is_number" "is_number" sIsNum f fd) (mI : mg "isinstance" = none) (mi : mg "int" = none) (mb : mg "bool" = none) : FnOk P w K mg base CX0 (k + 1) f fd ["value"] spIsNum := by
  refine F.ok scIsNum (fun vs H Q E h => ?_) (fun cdv A outer s H vs Q E hr h => ?_)
  · obtain ⟨v, d, rfl, _⟩ := h
    rfl
  · obtain ⟨v, d, rfl, hd, q⟩ := h
    refine ⟨_, pss_one (ps_ret (pe_and (pe_callB (show CallR _ _ (rIsi K) from call_isi) (by rfl) mI (by decide +kernel) (pa_cons (pv 0) (pa_cons (pe_bltn (v := .ty "int") (by rfl) mi (by decide +kernel) rfl) pa_nil)))
      (pe_one (pe_not (pe_callB (show CallR _ _ (rIsi K) from call_isi) (by rfl) mI (by decide +kernel) (pa_cons (pv 0) (pa_cons (pe_bltn (v := .ty "bool") (by rfl) mb (by decide +kernel) rfl) pa_nil))))))), ?_⟩
    obtain ⟨T, t, kT, kI, kB⟩ := dq_ty (K := K) hd
    refine ⟨v, rfl, _, _, _, _, _, rfl, .ty _, t, kI, _, rfl, ?_⟩
    by_cases c : isI d = true
    · rw [if_pos c]
      refine ⟨v, rfl, _, _, _, _, _, rfl, .ty _, t, kB, _, rfl, ?_⟩
      rw [c, Bool.true_and] at q
      exact q
    · rw [if_neg c]
      rw [Bool.eq_false_iff.mpr c, Bool.false_and] at q
      exact q
def spUpTo : Sp := fun vs H Q _ => ∃ v d m, vs = [v, .int m] ∧ Dq H v d ∧ Q (.bl (numOk m d)) H
theorem ok_upto {f fN : Addr} {fd fdN : FuncData} {k : Nat} (F : Fun K "is_number_up_to" "is_number_up_to" sUpTo f fd) (FN : Fun K "is_number" "is_number" sIsNum fN fdN) (bN : Binds K fdN ["value"] []) (gN : mg "is_number" = some (.ref fN))
    (mI : mg "isinstance" = none) (mi : mg "int" = none) (mb : mg "bool" = none) : FnOk P w K mg base CX0 (k + 2) f fd ["value", "most"] spUpTo := by
  have GN : FnOk P w K mg base CX0 (k + 1) fN fdN ["value"] spIsNum := ok_isnum FN mI mi mb
  refine F.ok scUpTo (fun vs H Q E h => ?_) (fun cdv A outer s H vs Q E hr h => ?_)
  · obtain ⟨v, d, m, rfl, _⟩ := h
    rfl
  · obtain ⟨v, d, m, rfl, hd, q⟩ := h
    refine ⟨_, pss_one (ps_ret (pe_and (pe_call GN hr (by rfl) gN FN.kp bN .nil pass0 (pa_cons (pv 0) pa_nil)) (pe_one (pe_chain op_le op_le pe_int (pv 0) (pv 1))))), ?_⟩
    refine ⟨v, rfl, v, d, rfl, hd, _, rfl, ?_⟩
    cases hd with
    | int i =>
      refine iteT ⟨_, rfl, _, _, rfl, rfl, _, rfl, ?_⟩
      have q : Q (.bl (decide (0 ≤ i) && decide (i ≤ m))) H := q
      by_cases c : (0 : Int) ≤ i
      · rw [decide_eq_true c, Bool.true_and] at q
        refine iteT2 (decide_eq_true c) ⟨_, rfl, _, _, rfl, rfl, q⟩
      · rw [decide_eq_false c, Bool.false_and] at q
        exact iteF2 (decide_eq_false c) q
    | bl b => exact iteF q
    | non => exact iteF q
    | str _ => exact iteF q
    | lst _ _ => exact iteF q
    | tup _ _ => exact iteF q
    | d0 _ => exact iteF q
    | d1 _ => exact iteF q
def lenD : PyData → Nat
  | .tuple xs => xs.length
  | _ => 0
def spTupOf (K : PySem.W.Frag) : Sp := fun vs H Q _ => ∃ v d a b, vs = [v, .int a, .int b] ∧ Dq H v d ∧ Q (.bl (isTup d && (decide (a ≤ (lenD d : Int)) && decide ((lenD d : Int) ≤ b)))) H
theorem ok_tupof {f : Addr} {fd : FuncData} {k : Nat} (F : Fun K "is_tuple_of" "is_tuple_of" sTupOf f fd) (mI : mg "isinstance" = none) (mt : mg "tuple" = none) (ml : mg "len" = none) : FnOk P w K mg base CX0 (k + 1) f fd ["value", "fewest", "most"] (spTupOf K) := by
  refine F.ok scTupOf (fun vs H Q E h => ?_) (fun cdv A outer s H vs Q E hr h => ?_)
  · obtain ⟨v, d, a, b, rfl, _⟩ := h
    rfl
  · obtain ⟨v, d, a, b, rfl, hd, q⟩ := h
    refine ⟨_, pss_one (ps_ret (pe_and (pe_callB (show CallR _ _ (rIsi K) from call_isi) (by rfl) mI (by decide +kernel) (pa_cons (pv 0) (pa_cons (pe_bltn (v := .ty "tuple") (by rfl) mt (by decide +kernel) rfl) pa_nil)))
      (pe_one (pe_chain op_le op_le (pv 1) (pe_callB call_len_seq (by rfl) ml PySem.boot_len (pa_cons (pv 0) pa_nil)) (pv 2))))), ?_⟩
    obtain ⟨T, t, kT, kI, kB⟩ := dq_ty (K := K) hd
    refine ⟨v, rfl, _, _, _, _, _, rfl, .ty _, t, kT, _, rfl, ?_⟩
    cases hd with
    | @tup p xs ds hp hs =>
      have e := hs.len
      refine iteT ⟨_, rfl, _, rfl, p, xs, rfl, .inr (SqT.of hp), _, _, rfl, rfl, _, rfl, ?_⟩
      have q : Q (.bl (decide (a ≤ (ds.length : Int)) && decide ((ds.length : Int) ≤ b))) H := q
      rw [← e] at q
      by_cases c : a ≤ (xs.length : Int)
      · rw [decide_eq_true c, Bool.true_and] at q
        exact iteT2 (decide_eq_true c) ⟨_, rfl, _, _, rfl, rfl, q⟩
      · rw [decide_eq_false c, Bool.false_and] at q
        exact iteF2 (decide_eq_false c) q
    | bl b => exact iteF q
    | non => exact iteF q
    | str _ => exact iteF q
    | lst _ _ => exact iteF q
    | int _ => exact iteF q
    | d0 _ => exact iteF q
    | d1 _ => exact iteF q
end
def allOk (m : Int) : PyData → Bool
  | .tuple xs => xs.all (numOk m)
  | _ => false
abbrev NN : List Str := ["value", "fewest", "most", "limit", "number"]
theorem scNums : FnScope NN ["value", "fewest", "most", "limit"] (defScope sNums) := ⟨rfl, rfl, rfl, by decide +kernel, rfl, by decide +kernel, by decide +kernel⟩
section
variable {P : Program} {w : World} {K : PySem.W.Frag} {mg : Str → Option Value} {base : Heap}
def spNums : Sp := fun vs H Q _ => ∃ v d a b m, vs = [v, .int a, .int b, .int m] ∧ Dq H v d ∧ lenD d ≤ 1000 ∧
  ∀ H', Same H H' → Q (.bl (isTup d && (decide (a ≤ (lenD d : Int)) && decide ((lenD d : Int) ≤ b)) && allOk m d)) H'
theorem ok_nums {f fT fU fN : Addr} {fd fdT fdU fdN : FuncData} {k : Nat} (F : Fun K "are_numbers" "are_numbers" sNums f fd) (FT : Fun K "is_tuple_of" "is_tuple_of" sTupOf fT fdT) (bT : Binds K fdT ["value", "fewest", "most"] []) (gT : mg "is_tuple_of" = some (.ref fT))
    (FU : Fun K "is_number_up_to" "is_number_up_to" sUpTo fU fdU) (bU : Binds K fdU ["value", "most"] []) (gU : mg "is_number_up_to" = some (.ref fU)) (FN : Fun K "is_number" "is_number" sIsNum fN fdN) (bN : Binds K fdN ["value"] []) (gN : mg "is_number" = some (.ref fN))
    (mI : mg "isinstance" = none) (mi : mg "int" = none) (mb : mg "bool" = none) (mt : mg "tuple" = none) (ml : mg "len" = none) (mA : mg "all" = none) :
    FnOk P w K mg base CX0 (k + 3) f fd ["value", "fewest", "most", "limit"] spNums := by
  have GT : FnOk P w K mg base CX0 (k + 1) fT fdT ["value", "fewest", "most"] (spTupOf K) := ok_tupof FT mI mt ml
  have GU : FnOk P w K mg base CX0 (k + 2) fU fdU ["value", "most"] spUpTo := ok_upto FU FN bN gN mI mi mb
  refine F.ok scNums (fun vs H Q E h => ?_) (fun cdv A outer s H vs Q E hr h => ?_)
  · obtain ⟨v, d, a, b, m, rfl, _⟩ := h
    rfl
  · obtain ⟨v, d, a, b, m, rfl, hd, hl, q⟩ := h
    refine ⟨_, pss_cons (ps_if (pt_not (pt_val (pe_call GT (hr.mono (by omega)) (by rfl) gT FT.kp bT .nil pass0 (pa_cons (pv 0) (pa_cons (pv 1) (pa_cons (pv 2) pa_nil)))))) (pss_one (ps_ret pe_bl)) pss_nil)
      (pss_one (ps_ret (pe_callB (cr_all rfl) (by rfl) mA (by decide +kernel) (pa_cons (pe_lc (own := [("number", 4)]) (g := gName 4) rfl scNums.nd (pi_tup (pv 0))
        (blkOk_by (own := [("number", 4)]) (N := NN) (sc := defScope sNums) (by decide +kernel)) (fun _ _ _ _ _ => pg_name (i := 4) scNums.nd rfl (Or.inl rfl)) (fun _ _ _ _ _ => pts_nil)
        (fun _ _ _ _ _ => pe_call GU hr (by rfl) gU FU.kp bU .nil pass0 (pa_cons (pv 4) (pa_cons (pv 3) pa_nil)))) pa_nil)))), ?_⟩
    refine ⟨v, rfl, _, rfl, _, rfl, v, d, a, b, rfl, hd, _, rfl, ?_⟩
    by_cases c : (isTup d && (decide (a ≤ (lenD d : Int)) && decide ((lenD d : Int) ≤ b))) = true
    · rw [c]
      rw [c, Bool.true_and] at q
      refine iteF ?_
      have ct : isTup d = true := by
        rw [Bool.and_eq_true] at c
        exact c.1
      cases hd with
      | @tup p xs ds hp hs =>
        refine ⟨.ref p, rfl, p, rfl, ⟨_, SqT.of hp⟩, fun D nD => ?_⟩
        refine lc_tup (xs := xs) (fun i H' => H' D = some (.lst ((ds.take i).map fun d => V.bl (numOk m d))) ∧ Same H H') ⟨upd_same, same_new nD⟩ (fun i H' _ h => SqT.of (h.2 _ _ hp)) (fun i x H' hx h => ?_) (fun H' h => ?_)
        · obtain ⟨hD, sm⟩ := h
          obtain ⟨e, he, hde⟩ := hs.get hx
          refine ⟨rfl, x, rfl, _, rfl, x, e, m, rfl, Dq.same sm e x hde, _, hD, ?_, ?_, fun b' o e' => ?_⟩
          · rw [List.length_map, List.length_take]
            have hl' : ds.length ≤ 1000 := hl
            exact len_lt (by omega)
          · rw [upd_same, take_succ_map he]
          · rw [upd_ne (ne_of_none e' nD)]
            exact sm b' o e'
        · obtain ⟨hD, sm⟩ := h
          rw [hs.len, List.take_length] at hD
          refine ⟨D, ds.map (numOk m), rfl, ?_, ?_⟩
          · rw [List.map_map]
            exact SqL.of hD
          · have e : (ds.map (numOk m)).all id = ds.all (numOk m) := by rw [List.all_map]; rfl
            rw [e]
            exact q H' sm
      | _ => exact Bool.noConfusion (show false = true from ct)
    · have c' := Bool.eq_false_iff.mpr c
      rw [c']
      rw [c', Bool.false_and] at q
      exact iteT (q H (Same.refl _))
end
theorem iteE {b : Bool} {A B : Prop} (h1 : b = true → A) (h2 : b = false → B) : if b = true then A else B := by
  cases b
  · exact iteF (h2 rfl)
  · exact iteT (h1 rfl)
/-- what counts are -/
def cOk (d : PyData) : Bool := isTup d && (decide ((1 : Int) ≤ (lenD d : Int)) && decide ((lenD d : Int) ≤ 4)) && allOk 1000000 d
theorem scIsC : FnScope ["_law_value", "_law_one"] ["_law_value"] (defScope sIsC) := ⟨rfl, rfl, rfl, by decide +kernel, rfl, by decide +kernel, by decide +kernel⟩
theorem scCounts : FnScope ["_law_state", "_law_width", "_law_most", "_law_kind"] ["_law_state", "_law_width"] (defScope sCounts) := ⟨rfl, rfl, rfl, by decide +kernel, rfl, by decide +kernel, by decide +kernel⟩
section
variable {P : Program} {w : World} {K : PySem.W.Frag} {mg : Str → Option Value} {base : Heap}
def spIsC : Sp := fun vs H Q _ => ∃ v d, vs = [v] ∧ Dq H v d ∧ Q (.bl (cOk d)) H
theorem ok_isc {f fN fU fTu fA fDs fX fCu fOo fIc fMa fNu fBe : Addr} {fd dN dU dTu dA dDs dX dCu dOo dIc dMa dNu dBe : FuncData} {k : Nat} (F : Fun K "_law_is_counts" "_law_is_counts" sIsC f fd) (T : Tx K mg fN fU fTu fA fDs fX fCu fOo fIc fMa fNu fBe dN dU dTu dA dDs dX dCu dOo dIc dMa dNu dBe) : FnOk P w K mg base CX0 (k + 1) f fd ["_law_value"] spIsC := by
  refine F.ok scIsC (fun vs H Q E h => ?_) (fun cdv A outer s H vs Q E hr h => ?_)
  · obtain ⟨v, d, rfl, _⟩ := h
    rfl
  · obtain ⟨v, d, rfl, hd, q⟩ := h
    refine ⟨_, (pss_cons (ps_if (PW.pt (pw_or (pt_not (pt_val (pe_callB (show CallR _ _ (rIsi K) from call_isi) (by rfl) T.m_isinstance (by decide +kernel) (pa_cons (pv 0) (pa_cons (pe_bltn (v := .ty "tuple") (by rfl) T.m_tuple (by decide +kernel) rfl) pa_nil))))) (pw_or1 (pt_not (pt_chain op_lt op_lt pe_int (pe_callB call_len_seq (by rfl) T.m_len PySem.boot_len (pa_cons (pv 0) pa_nil)) pe_int))))) (pss_one (ps_ret pe_bl)) pss_nil)
      (pss_cons (ps_for PassesOwn.never rfl (pi_tup (pv 0)) (pg_name (i := 1) scIsC.nd rfl (Or.inl rfl)) (pss_one (ps_if (PW.pt (pw_or (pt_val (pe_callB (show CallR _ _ (rIsi K) from call_isi) (by rfl) T.m_isinstance (by decide +kernel) (pa_cons (pv 1) (pa_cons (pe_bltn (v := .ty "bool") (by rfl) T.m_bool (by decide +kernel) rfl) pa_nil)))) (pw_or (pt_not (pt_val (pe_callB (show CallR _ _ (rIsi K) from call_isi) (by rfl) T.m_isinstance (by decide +kernel) (pa_cons (pv 1) (pa_cons (pe_bltn (v := .ty "int") (by rfl) T.m_int (by decide +kernel) rfl) pa_nil))))) (pw_or1 (pt_not (pt_chain op_le op_le pe_int (pv 1) (pe_op op_pow pe_int pe_int))))))) (pss_one (ps_ret pe_bl)) pss_nil)))
      (pss_one (ps_ret pe_bl)))), ?_⟩
    obtain ⟨T0, t, kT, kI, kB⟩ := dq_ty (K := K) hd
    refine ⟨_, rfl, _, _, _, _, _, rfl, .ty _, t, kT, _, rfl, ?_⟩
    cases hd with
    | @tup p xs ds hp hs =>
      have e := hs.len
      refine iteF ?_
      refine ⟨_, rfl, p, xs, rfl, .inr (SqT.of hp), _, _, rfl, rfl, _, rfl, ?_⟩
      have hq : cOk (.tuple ds) = ((decide ((1 : Int) ≤ (xs.length : Int)) && decide ((xs.length : Int) ≤ 4)) && ds.all (numOk 1000000)) := by
        rw [e]
        rfl
      rw [hq] at q
      by_cases c0 : (0 : Int) < (xs.length : Int)
      · refine iteT2 (decide_eq_true c0) ⟨_, _, rfl, rfl, _, rfl, ?_⟩
        by_cases c1 : (xs.length : Int) < 5
        · refine iteF2 (by rw [decide_eq_true c1]; rfl) ?_
          rw [decide_eq_true (show (1 : Int) ≤ (xs.length : Int) by omega), decide_eq_true (show (xs.length : Int) ≤ 4 by omega), Bool.true_and, Bool.true_and] at q
          refine ⟨_, rfl, p, rfl, ⟨_, SqT.of hp⟩, ?_⟩
          refine for_tup (xs := xs) (fun i σ H' => ∃ y, σ = [some (.ref p), y] ∧ H' = H ∧ (ds.take i).all (numOk 1000000) = true) ⟨_, rfl, rfl, rfl⟩ (fun i σ H' _ h => ?_) (fun i x σ H' hx h => ?_) (fun σ H' h => ?_)
          · obtain ⟨y, rfl, rfl, _⟩ := h
            exact SqT.of hp
          · obtain ⟨y, rfl, rfl, al⟩ := h
            obtain ⟨z, hz, hdz⟩ := hs.get hx
            have bad : numOk 1000000 z = false → Q (.bl false) H' := fun hb => by
              have : ds.all (numOk 1000000) = false := List.all_eq_false.mpr ⟨z, List.mem_of_getElem? hz, by rw [hb]; exact Bool.false_ne_true⟩
              rw [this] at q
              exact q
            obtain ⟨T1, t1, kT1, kI1, kB1⟩ := dq_ty (K := K) hdz
            refine ⟨_, rfl, _, _, _, _, _, rfl, .ty _, t1, kB1, _, rfl, ?_⟩
            have alS : numOk 1000000 z = true → (ds.take (i + 1)).all (numOk 1000000) = true := fun hb => by
              rw [List.take_add_one, hz, List.all_append, al]
              show (true && (numOk 1000000 z && true)) = true
              rw [hb]
              rfl
            cases hdz with
            | bl b => exact iteT (iteT (bad rfl))
            | int v =>
              refine iteF ⟨_, rfl, _, _, _, _, _, rfl, .ty _, t1, kI1, _, rfl, iteF ?_⟩
              have hn : numOk 1000000 (.int v) = (decide (0 ≤ v) && decide (v ≤ 1000000)) := rfl
              refine ⟨_, rfl, _, _, rfl, rfl, _, rfl, ?_⟩
              by_cases g0 : (0 : Int) ≤ v
              · refine iteT2 (decide_eq_true g0) ⟨10, 6, rfl, rfl, ⟨by decide, by decide, by decide⟩, _, _, rfl, rfl, _, rfl, ?_⟩
                by_cases g1 : v ≤ (10 : Int) ^ (6 : Int).toNat
                · refine iteF2 (by rw [decide_eq_true g1]; rfl) ⟨_, rfl, rfl, alS ?_⟩
                  rw [hn, decide_eq_true g0, decide_eq_true (show v ≤ 1000000 from g1)]
                  rfl
                · refine iteT2 (by rw [decide_eq_false g1]; rfl) (bad ?_)
                  rw [hn, decide_eq_true g0, decide_eq_false (show ¬ v ≤ 1000000 from g1)]
                  rfl
              · refine iteF2 (decide_eq_false g0) ⟨_, rfl, iteT (bad ?_)⟩
                rw [hn, decide_eq_false g0, Bool.false_and]
            | _ => exact iteF ⟨_, rfl, _, _, _, _, _, rfl, .ty _, t1, kI1, _, rfl, iteT (iteT (bad rfl))⟩
          · obtain ⟨y, rfl, rfl, al⟩ := h
            rw [e, List.take_length] at al
            rw [al] at q
            exact q
        · refine iteT2 (by rw [decide_eq_false c1]; rfl) ?_
          rw [decide_eq_false (show ¬ (xs.length : Int) ≤ 4 by omega), Bool.and_false, Bool.false_and] at q
          exact q
      · refine iteF2 (decide_eq_false c0) ⟨_, rfl, iteT ?_⟩
        rw [decide_eq_false (show ¬ (1 : Int) ≤ (xs.length : Int) by omega), Bool.false_and, Bool.false_and] at q
        exact q
    | _ => exact iteT q
/-- drawn counts -/
def spCounts : Sp := fun vs H Q _ => ∃ (dk c ce : Addr) (B n : Nat), vs = [.ref dk, .int n] ∧ Dek H dk c ce B ∧ B + 10 ≤ 10000 ∧ 1 ≤ n ∧ n ≤ 4 ∧
  ∀ p (r : List Int) H', r.length = n → (∀ x ∈ r, 0 ≤ x ∧ x ≤ 1000000) → H' p = some (.tup (r.map V.int)) → Kp2 dk c H H' → Dek H' dk c ce (B + 10) → Q (.ref p) H'
theorem ok_counts {f fN fU fTu fA fDs fX fCu fOo fIc fMa fNu fBe : Addr} {fd dN dU dTu dA dDs dX dCu dOo dIc dMa dNu dBe : FuncData} {k : Nat} (F : Fun K "_law_counts" "_law_counts" sCounts f fd) (T : Tx K mg fN fU fTu fA fDs fX fCu fOo fIc fMa fNu fBe dN dU dTu dA dDs dX dCu dOo dIc dMa dNu dBe) : FnOk P w K mg base CX0 (k + 2) f fd ["_law_state", "_law_width"] spCounts := by
  have GX : FnOk P w K mg base CX0 (k + 1) fX dX ["_law_state", "_law_many"] spNext := ok_next T.X T.m_len
  refine F.ok scCounts (fun vs H Q E h => ?_) (fun cdv A outer s H vs Q E hr h => ?_)
  · obtain ⟨dk, c, ce, B, n, rfl, _⟩ := h
    rfl
  · obtain ⟨dk, c, ce, B, n, rfl, dek, hB, n1, n4, q⟩ := h
    refine ⟨_, (pss_cons (ps_set (i := 2) scCounts.nd rfl (.inr rfl) (pe_ix (show IxR _ (rIxL K) from ix_list) (pe_lst (pa_cons pe_int (pa_cons pe_int (pa_cons pe_int (pa_cons (pe_op op_pow pe_int pe_int) pa_nil))))) (pe_call GX (hr.mono (by omega)) (by rfl) T.gX T.X.kp T.bX .nil pass0 (pa_cons (pv 0) (pa_cons pe_int pa_nil))) (fun _ _ => rfl)))
      (pss_one (ps_ret (pe_callTy call_tuple_of (by rfl) T.m_tuple (by decide +kernel) (pa_cons (pe_lc (own := [("_law_kind", 3)]) (g := gName 3) rfl scCounts.nd (pi_range1 (by rfl) T.m_range (pa_cons (pv 1) pa_nil)) (blkOk_by (own := [("_law_kind", 3)]) (N := ["_law_state", "_law_width", "_law_most", "_law_kind"]) (sc := defScope sCounts) (by decide +kernel)) (fun _ _ _ _ _ => (pg_name (i := 3) scCounts.nd rfl (Or.inl rfl))) (fun _ _ _ _ _ => pts_nil) (fun _ _ _ _ _ => (pe_ix (show IxR _ (rIxL K) from ix_list) (pe_lst (pa_cons (pe_call GX (hr.mono (by omega)) (by rfl) T.gX T.X.kp T.bX .nil pass0 (pa_cons (pv 0) (pa_cons (pe_op op_add (pv 2) pe_int) pa_nil))) (pa_cons pe_int (pa_cons (pv 2) pa_nil)))) (pe_op op_modN (pe_op op_modN (pe_call GX (hr.mono (by omega)) (by rfl) T.gX T.X.kp T.bX .nil pass0 (pa_cons (pv 0) (pa_cons pe_int pa_nil))) pe_int) pe_int) (fun _ _ => rfl)))) pa_nil))))), ?_⟩
    refine ⟨10, 6, rfl, rfl, ⟨by decide, by decide, by decide⟩, by show 4 ≤ sizeLine; decide, fun p np => ?_⟩
    have s1 := same_new (o := .lst [.int 4, .int 30, .int 2000, .int ((10 : Int) ^ (6 : Int).toNat)]) np
    have dek1 := dek.keep s1
    obtain ⟨np1, np2, np3⟩ := dek.nedk np
    refine ⟨_, rfl, dk, c, ce, B, 4, rfl, dek1, by omega, by decide, by decide, fun r H2 r0 r4 k2 d2 => ?_⟩
    have hp2 := k2 _ _ np1 np2 (upd_same (H := H) (a := p) (o := .lst [.int 4, .int 30, .int 2000, .int ((10 : Int) ^ (6 : Int).toNat)]))
    obtain ⟨m, hm0, hm1, hm⟩ : ∃ m : Int, 1 ≤ m ∧ m ≤ 1000000 ∧ atI [V.int 4, .int 30, .int 2000, .int ((10 : Int) ^ (6 : Int).toNat)] r = some (.int m) := by
      obtain rfl | rfl | rfl | rfl : r = 0 ∨ r = 1 ∨ r = 2 ∨ r = 3 := by omega
      · exact ⟨4, by decide, by decide, rfl⟩
      · exact ⟨30, by decide, by decide, rfl⟩
      · exact ⟨2000, by decide, by decide, rfl⟩
      · exact ⟨1000000, by decide, by decide, rfl⟩
    refine ⟨p, _, r, _, rfl, rfl, SqL.of hp2, hm, ?_⟩
    have kk : Kp2 dk c H H2 := (kps s1).trans k2
    clear hp2 k2 dek1 s1 hm
    refine ⟨_, rfl, (n : Int), rfl, by omega, by omega, fun D nD => ?_⟩
    have dD := d2.nedk nD
    refine lc_range (lo := 0) (n := n) (fun j H4 => ∃ row : List Int, row.length = j ∧ (∀ x ∈ row, 0 ≤ x ∧ x ≤ 1000000) ∧ H4 D = some (.lst (row.map V.int)) ∧ Kp2 dk c H H4 ∧ Dek H4 dk c ce (B + 1 + 2 * j))
      ⟨[], rfl, (fun x h => by cases h), upd_same, kk.trans (kps (same_new nD)), (d2.keep (same_new nD)).up (by omega)⟩ (fun j H4 hj h => ?_) (fun H4 h => ?_)
    · obtain ⟨row, hrl, hrb, hD4, kp4, dk4⟩ := h
      refine ⟨rfl, _, rfl, _, rfl, m, 1, rfl, rfl, dk, c, ce, _, m + 1, rfl, dk4, by omega, by omega, by omega, fun q1 H5 e0 e1 k5 d5 => ?_⟩
      refine ⟨_, rfl, by show 3 ≤ sizeLine; decide, fun pl npl => ?_⟩
      have s6 := same_new (o := .lst [.int q1, .int 0, .int m]) npl
      obtain ⟨nl1, nl2, nl3⟩ := d5.nedk npl
      refine ⟨_, rfl, dk, c, ce, _, 8, rfl, d5.keep s6, by omega, by decide, by decide, fun q2 H7 f0 f1 k7 d7 => ?_⟩
      have hpl := k7 _ _ nl1 nl2 (upd_same (H := H5) (a := pl) (o := .lst [.int q1, .int 0, .int m]))
      have g1 := Int.fmod_nonneg_of_pos (q2.fmod 5) (show (0 : Int) < 3 by decide)
      have g2 := Int.fmod_lt_of_pos (q2.fmod 5) (show (0 : Int) < 3 by decide)
      obtain ⟨z, hz, hat⟩ := three_at (a := q1) (b := 0) (c := m) g1 g2
      have hD7 := k7 _ _ dD.1 dD.2.1 (s6 _ _ (k5 _ _ dD.1 dD.2.1 hD4))
      refine ⟨q2, 5, rfl, rfl, (by show (5 : Int) ≠ 0; decide), _, 3, rfl, rfl, (by show (3 : Int) ≠ 0; decide), pl, _, _, .int z, rfl, rfl, SqL.of hpl, hat, _, hD7, ?_, row ++ [z], ?_, ?_, ?_, ?_, ?_⟩
      · rw [List.length_map]
        exact len_lt (by omega)
      · rw [List.length_append, hrl]
        rfl
      · intro x hx
        rcases List.mem_append.mp hx with h | h
        · exact hrb x h
        · rw [List.mem_singleton.mp h]
          omega
      · rw [upd_same, List.map_append]
        rfl
      · exact (((kp4.trans k5).trans (kps s6)).trans k7).updF (kpx_free kk d2 nD)
      · exact (d7.updD dD.1 dD.2.1 dD.2.2).up (by omega)
    · obtain ⟨row, hrl, hrb, hD4, kp4, dk4⟩ := h
      exact ⟨D, _, rfl, .inl ⟨SqL.of hD4, fun l nl => q l row _ hrl hrb upd_same (kp4.trans (kps (same_new nl))) ((dk4.keep (same_new nl)).up (by omega))⟩⟩
end
end DD
namespace DD
open PySem PySem.Spec PyProof.Rows L2 RZ
/-! ### the heap without the deck -/
open Classical in
noncomputable def Wo (X : Addr → Prop) (H : Hp) : Hp := fun b => if X b then none else H b
theorem wo_some {X : Addr → Prop} {b : Addr} {H : Hp} {o : HO} (h : Wo X H b = some o) : H b = some o ∧ ¬ X b := by
  unfold Wo at h
  by_cases e : X b
  · rw [if_pos e] at h
    cases h
  · rw [if_neg e] at h
    exact ⟨h, e⟩
theorem wo_of {X : Addr → Prop} {b : Addr} {H : Hp} {o : HO} (h : H b = some o) (h1 : ¬ X b) : Wo X H b = some o := by
  unfold Wo
  rw [if_neg h1]
  exact h
theorem wo_in {X : Addr → Prop} {H : Hp} : Same (Wo X H) H := fun b o e => (wo_some e).1
theorem wo_same {X : Addr → Prop} {H H' : Hp} (k : Same H H') : Same (Wo X H) (Wo X H') := fun b o e => by
  obtain ⟨h, h1⟩ := wo_some e
  exact wo_of (k b o h) h1
/-- what is left out: the deck's two lists, perhaps more lists -/
structure LX (X : Addr → Prop) (dk c : Addr) (H : Hp) : Prop where
  d : X dk
  c : X c
  all : ∀ a, X a → ∃ l, H a = some (.lst l)
theorem wo_kp {X : Addr → Prop} {dk c : Addr} {H H1 H' : Hp} (hX : LX X dk c H1) (k : Kp2 dk c H H') : Same (Wo X H) (Wo X H') := fun b o e => by
  obtain ⟨h, h1⟩ := wo_some e
  exact wo_of (k b o (fun z => h1 (by rw [z]; exact hX.d)) (fun z => h1 (by rw [z]; exact hX.c)) h) h1
theorem LX.same {X : Addr → Prop} {dk c : Addr} {H H' : Hp} (hX : LX X dk c H) (s : Same H H') : LX X dk c H' := ⟨hX.d, hX.c, fun a x => by
  obtain ⟨l, h⟩ := hX.all a x
  exact ⟨l, s _ _ h⟩⟩
theorem LX.kp {X : Addr → Prop} {dk c : Addr} {H H' : Hp} {ce : Addr} {B : Nat} (hX : LX X dk c H) (k : Kp2 dk c H H') (d : Dek H' dk c ce B) : LX X dk c H' := ⟨hX.d, hX.c, fun a x => by
  obtain ⟨ns, rs, t, h1, _, h2, _⟩ := d.ex
  obtain ⟨l, h⟩ := hX.all a x
  by_cases e1 : a = dk
  · rw [e1]
    exact ⟨_, h1⟩
  · by_cases e2 : a = c
    · rw [e2]
      exact ⟨_, h2⟩
    · exact ⟨l, k _ _ e1 e2 h⟩⟩
theorem LX.no {X : Addr → Prop} {dk c p : Addr} {H : Hp} (hX : LX X dk c H) (h : ¬ X p) : p ≠ dk ∧ p ≠ c := ⟨fun z => h (by rw [z]; exact hX.d), fun z => h (by rw [z]; exact hX.c)⟩

/-! ### written data: what its reading gives -/
def Lit (X : Addr → Prop) (σ : L2.St) (H0 : Hp) (te : TE) (d : PyData) : Prop := ∀ (H : Hp) (Q : VK), Same H0 H → (∀ v H', Same H H' → Dq (Wo X H') v d → Q v H') → te σ H Q
def LitA (X : Addr → Prop) (σ : L2.St) (H0 : Hp) (ta : TA) (ds : List PyData) : Prop := ∀ (H : Hp) (Q : List V → Hp → Prop), Same H0 H → (∀ vs H', Same H H' → DqAll (Wo X H') vs ds → Q vs H') → ta σ H Q
section
variable {X : Addr → Prop} {dk c : Addr} {σ : L2.St} {H0 : Hp}
theorem lit_c {v : V} {d : PyData} (h : ∀ H, Dq H v d) : Lit X σ H0 (tC v) d := fun H Q s k => k v H (Same.refl _) (h _)
theorem lit_var {i : Nat} {v : V} {d : PyData} (h : σ[i]? = some (some v)) (hv : Dq (Wo X H0) v d) : Lit X σ H0 (tVar i) d := fun H Q s k => ⟨v, h, k v H (Same.refl _) (Dq.same (wo_same s) _ _ hv)⟩
theorem litA_nil : LitA X σ H0 tNil [] := fun H Q s k => k [] H (Same.refl _) .nil
theorem litA_cons {te : TE} {ta : TA} {d : PyData} {ds : List PyData} (a : Lit X σ H0 te d) (b : LitA X σ H0 ta ds) : LitA X σ H0 (tCons te ta) (d :: ds) :=
  fun H Q s k => a H _ s fun v H1 s1 q1 => b H1 _ (s.trans s1) fun vs H2 s2 q2 => k (v :: vs) H2 (s1.trans s2) (.cons (Dq.same (wo_same s2) _ _ q1) q2)
theorem new_ne {H : Hp} {p : Addr} (hX : LX X dk c H0) (s : Same H0 H) (np : H p = none) : ¬ X p := fun x => by
  obtain ⟨l, h⟩ := hX.all p x
  rw [s _ _ h] at np
  cases np
theorem lit_tup {ta : TA} {ds : List PyData} (hX : LX X dk c H0) (a : LitA X σ H0 ta ds) (hl : ds.length ≤ 1000) : Lit X σ H0 (tTup ta) (.tuple ds) :=
  fun H Q s k => a H _ s fun vs H1 s1 q1 => ⟨Nat.le_of_lt (len_lt (by rw [q1.len]; exact hl)), fun p np => by
    have n1 := new_ne hX (s.trans s1) np
    exact k _ _ (s1.trans (same_new np)) (.tup (wo_of upd_same n1) (DqAll.same (wo_same (same_new np)) _ _ q1))⟩
theorem lit_lst {ta : TA} {ds : List PyData} (hX : LX X dk c H0) (a : LitA X σ H0 ta ds) (hl : ds.length ≤ 1000) : Lit X σ H0 (tLst ta) (.list ds) :=
  fun H Q s k => a H _ s fun vs H1 s1 q1 => ⟨Nat.le_of_lt (len_lt (by rw [q1.len]; exact hl)), fun p np => by
    have n1 := new_ne hX (s.trans s1) np
    exact k _ _ (s1.trans (same_new np)) (.lst (wo_of upd_same n1) (DqAll.same (wo_same (same_new np)) _ _ q1))⟩
theorem lit_neg {i : Int} {te : TE} (a : Lit X σ H0 te (.int i)) : Lit X σ H0 (tUn (rU fun i => V.int (-i)) te) (.int (-i)) :=
  fun H Q s k => a H _ s fun v H1 s1 q1 => by
    cases q1
    exact ⟨_, rfl, k _ _ s1 (.int _)⟩
theorem lit_pow {i j : Int} {ta tb : TE} (a : Lit X σ H0 ta (.int i)) (b : Lit X σ H0 tb (.int j)) (h : CPow i j) : Lit X σ H0 (tOp (rI CPow fun i j => V.int (i ^ j.toNat)) ta tb) (.int (i ^ j.toNat)) :=
  fun H Q s k => a H _ s fun v H1 s1 q1 => b H1 _ (s.trans s1) fun u H2 s2 q2 => by
    cases q1
    cases q2
    exact ⟨_, _, rfl, rfl, h, k _ _ (s1.trans s2) (.int _)⟩
theorem lit_add {i j : Int} {ta tb : TE} (a : Lit X σ H0 ta (.int i)) (b : Lit X σ H0 tb (.int j)) : Lit X σ H0 (tOp (rI0 fun i j => V.int (i + j)) ta tb) (.int (i + j)) :=
  fun H Q s k => a H _ s fun v H1 s1 q1 => b H1 _ (s.trans s1) fun u H2 s2 q2 => by
    cases q1
    cases q2
    exact ⟨_, _, rfl, rfl, k _ _ (s1.trans s2) (.int _)⟩
theorem lit_d0 (hX : LX X dk c H0) : Lit X σ H0 tDNewK (.dict []) := fun H Q s k p np => by
  have n1 := new_ne hX s np
  exact k _ _ (same_new np) (.d0 (wo_of upd_same n1))
theorem lit_d1 (hX : LX X dk c H0) : Lit X σ H0 (tDisp [(tC (.str "a"), tC (.int 0))]) (.dict [(.str "a", .int 0)]) := fun H Q s k p np => by
  have n1 := new_ne hX s np
  refine ⟨upd_same, [(.inr "a", .int 0)], rfl, by decide, k _ _ (fun b o e => ?_) (.d1 (wo_of upd_same n1))⟩
  rw [upd_ne (ne_of_none e np), upd_ne (ne_of_none e np)]
  exact e
/-- slices, sums, products of tuples -/
theorem DqAll.cut {H : Hp} {xs : List V} {ds : List PyData} (h : DqAll H xs ds) {lo hi : Option Int} : DqAll H (cutV xs lo hi) ((ds.drop (HT.sIx ds.length 0 lo)).take (HT.sIx ds.length ds.length hi - HT.sIx ds.length 0 lo)) := by
  unfold cutV
  rw [h.len]
  exact (h.drop _).take _
def LitO (σ : L2.St) (H0 : Hp) (to : TO) (i : Option Int) : Prop := ∀ (H : Hp) (Q : Option Int → Hp → Prop), Same H0 H → Q i H → to σ H Q
theorem lito_none : LitO σ H0 tNoPart none := fun H Q s k => k
theorem lito_var {i : Nat} {n : Int} (h : σ[i]? = some (some (.int n))) : LitO σ H0 (tPart (tVar i)) (some n) := fun H Q s k => ⟨_, h, n, rfl, k⟩
theorem lito_c {n : Int} : LitO σ H0 (tPart (tC (.int n))) (some n) := fun H Q s k => ⟨n, rfl, k⟩
theorem lito_var1 {i : Nat} {n : Int} (h : σ[i]? = some (some (.int n))) : LitO σ H0 (tPart (tOp (rI0 fun i j => V.int (i + j)) (tVar i) (tC (.int 1)))) (some (n + 1)) := fun H Q s k => ⟨_, h, _, _, rfl, rfl, _, rfl, k⟩
theorem tup_ne {H : Hp} {p : Addr} {xs : List V} (hX : LX X dk c H0) (s : Same H0 H) (h : H p = some (.tup xs)) : ¬ X p := fun x => by
  obtain ⟨l, h1⟩ := hX.all p x
  rw [s _ _ h1] at h
  cases h
theorem lit_sl {te : TE} {tl th : TO} {ds : List PyData} {lo hi : Option Int} (hX : LX X dk c H0) (a : Lit X σ H0 te (.tuple ds)) (l : LitO σ H0 tl lo) (h : LitO σ H0 th hi) :
    Lit X σ H0 (tSl rSlQ te tl th) (.tuple ((ds.drop (HT.sIx ds.length 0 lo)).take (HT.sIx ds.length ds.length hi - HT.sIx ds.length 0 lo))) :=
  fun H Q s k => a H _ s fun v H1 s1 q1 => l H1 _ (s.trans s1) (h H1 _ (s.trans s1) (by
    cases q1 with
    | @tup p xs _ hp hs =>
      obtain ⟨hp', n1⟩ := wo_some hp
      refine ⟨p, xs, rfl, hp', fun p2 H2 s2 h2 => ?_⟩
      have m1 := tup_ne hX (s.trans (s1.trans s2)) h2
      exact k _ _ (s1.trans s2) (.tup (wo_of h2 m1) (DqAll.same (wo_same s2) _ _ hs).cut)))
theorem lit_cat {ta tb : TE} {ds es : List PyData} (hX : LX X dk c H0) (a : Lit X σ H0 ta (.tuple ds)) (b : Lit X σ H0 tb (.tuple es)) (hl : ds.length + es.length ≤ 1000) :
    Lit X σ H0 (tOp rCatQ ta tb) (.tuple (ds ++ es)) :=
  fun H Q s k => a H _ s fun v H1 s1 q1 => b H1 _ (s.trans s1) fun u H2 s2 q2 => by
    have q1 := Dq.same (wo_same s2) _ _ q1
    cases q1 with
    | @tup p xs _ hp hs =>
      cases q2 with
      | @tup p2 ys _ hp2 hs2 =>
        refine ⟨p, p2, xs, ys, rfl, rfl, (wo_some hp).1, (wo_some hp2).1, by rw [hs.len, hs2.len]; exact hl, fun p3 H3 s3 h3 => ?_⟩
        have m1 := tup_ne hX (s.trans (s1.trans (s2.trans s3))) h3
        exact k _ _ (s1.trans (s2.trans s3)) (.tup (wo_of h3 m1) ((DqAll.same (wo_same s3) _ _ hs).app (DqAll.same (wo_same s3) _ _ hs2)))
theorem DqAll.rep {H : Hp} {xs : List V} {ds : List PyData} (h : DqAll H xs ds) : ∀ n : Nat, DqAll H (List.replicate n xs).flatten (List.replicate n ds).flatten
  | 0 => .nil
  | n + 1 => by
    rw [List.replicate_succ, List.replicate_succ, List.flatten_cons, List.flatten_cons]
    exact h.app (h.rep n)
theorem lit_rep {ta tb : TE} {ds : List PyData} {n : Int} (hX : LX X dk c H0) (a : Lit X σ H0 ta (.tuple ds)) (b : Lit X σ H0 tb (.int n)) (h0 : ds ≠ []) (hl : ds.length ≤ 1000) (hn : 1 ≤ n) (hn2 : n ≤ 1000) :
    Lit X σ H0 (tOp rRepQ ta tb) (.tuple (List.replicate n.toNat ds).flatten) :=
  fun H Q s k => a H _ s fun v H1 s1 q1 => b H1 _ (s.trans s1) fun u H2 s2 q2 => by
    have q1 := Dq.same (wo_same s2) _ _ q1
    cases q1 with
    | @tup p xs _ hp hs =>
      cases q2
      refine ⟨p, n, xs, rfl, rfl, (wo_some hp).1, ?_, hn, hn2, by rw [hs.len]; exact hl, fun p3 H3 s3 h3 => ?_⟩
      · intro z
        subst z
        cases hs
        exact h0 rfl
      · have m1 := tup_ne hX (s.trans (s1.trans (s2.trans s3))) h3
        exact k _ _ (s1.trans (s2.trans s3)) (.tup (wo_of h3 m1) ((DqAll.same (wo_same s3) _ _ hs).rep _))
/-- list(t), t a tuple -/
def rLstQ (K : PySem.W.Frag) : List V → Hp → VK → Prop := fun xs H Q => ∃ p ys, xs = [V.ref p] ∧ (SqL K H p ys ∨ SqT K H p ys) ∧ ∀ (l : Addr), H l = none → Q (V.ref l) (upd H l (HO.lst ys))
theorem lit_list {K : PySem.W.Frag} {ta : TE} {ds : List PyData} (hX : LX X dk c H0) (a : Lit X σ H0 ta (.tuple ds)) : Lit X σ H0 (tCB (rLstQ K) (tCons ta tNil)) (.list ds) :=
  fun H Q s k => a H _ s fun v H1 s1 q1 => by
    cases q1 with
    | @tup p xs _ hp hs =>
      refine ⟨p, xs, rfl, .inr (SqT.of (wo_some hp).1), fun l nl => ?_⟩
      have n1 := new_ne hX (s.trans s1) nl
      exact k _ _ (s1.trans (same_new nl)) (.lst (wo_of upd_same n1) (DqAll.same (wo_same (same_new nl)) _ _ hs))
/-- len(t) of a known tuple -/
def rLenQ (K : PySem.W.Frag) : List V → Hp → VK → Prop := fun xs H Q => ∃ p ys, xs = [V.ref p] ∧ (SqL K H p ys ∨ SqT K H p ys) ∧ Q (.int ys.length) H
theorem lit_len {K : PySem.W.Frag} {ta : TE} {ds : List PyData} (a : Lit X σ H0 ta (.tuple ds)) : Lit X σ H0 (tCB (rLenQ K) (tCons ta tNil)) (.int ds.length) :=
  fun H Q s k => a H _ s fun v H1 s1 q1 => by
    cases q1 with
    | @tup p xs _ hp hs =>
      refine ⟨p, xs, rfl, .inr (SqT.of (wo_some hp).1), k _ _ s1 ?_⟩
      rw [hs.len]
      exact .int _
/-- t[i] of a known tuple -/
theorem lit_ixT {K : PySem.W.Frag} {ta tb : TE} {ds : List PyData} {d : PyData} {j : Nat} (a : Lit X σ H0 ta (.tuple ds)) (b : Lit X σ H0 tb (.int j)) (h : ds[j]? = some d) : Lit X σ H0 (tOp (rIxT K) ta tb) d :=
  fun H Q s k => a H _ s fun v H1 s1 q1 => b H1 _ (s.trans s1) fun u H2 s2 q2 => by
    have q1 := Dq.same (wo_same s2) _ _ q1
    cases q1 with
    | @tup p xs _ hp hs =>
      cases q2
      have hj : j < xs.length := by
        rw [hs.len]
        exact (List.getElem?_eq_some_iff.mp h).1
      have hx : xs[j]? = some xs[j] := List.getElem?_eq_getElem hj
      obtain ⟨d', hd', hq⟩ := hs.get hx
      rw [h] at hd'
      cases hd'
      exact ⟨p, xs, (j : Int), xs[j], rfl, rfl, SqT.of (wo_some hp).1, atI_nat hx, k _ _ (s1.trans s2) hq⟩
end
/-! ### how great a value is, and whether lists and dicts meet in it -/
structure Bd (w k : Nat) (d : PyData) : Prop where
  short : d.leavesShort 48 = true
  show_ : d.showable = true
  wt : d.weight ≤ w
  dp : d.depth ≤ k
theorem Bd.up {w k w' k' : Nat} {d : PyData} (b : Bd w k d) (hw : w ≤ w') (hk : k ≤ k') : Bd w' k' d := ⟨b.short, b.show_, Nat.le_trans b.wt hw, Nat.le_trans b.dp hk⟩
def Nx (d : PyData) : Prop := d.hasDict = true → noL d = true
def Pl (d : PyData) : Prop := d.hasDict = false ∧ noL d = true
theorem hasDictAll_mem : ∀ {ds : List PyData}, PyData.hasDictAll ds = true → ∃ d ∈ ds, d.hasDict = true
  | [], h => Bool.noConfusion (show false = true from h)
  | d :: ds, h => by
    have h : (d.hasDict || PyData.hasDictAll ds) = true := h
    rw [Bool.or_eq_true] at h
    rcases h with h | h
    · exact ⟨d, List.mem_cons_self, h⟩
    · obtain ⟨e, he, q⟩ := hasDictAll_mem h
      exact ⟨e, List.mem_cons_of_mem _ he, q⟩
theorem noLs_of : ∀ {ds : List PyData}, (∀ d ∈ ds, noL d = true) → noLs ds = true
  | [], _ => rfl
  | d :: ds, h => by
    show (noL d && noLs ds) = true
    rw [h d List.mem_cons_self, noLs_of fun x hx => h x (List.mem_cons_of_mem _ hx)]
    rfl
theorem nx_mem {x : PyData} {ds : List PyData} (hx : Nx x) (h : ∀ y ∈ ds, y = x ∨ Pl y) : Nx (.tuple ds) := fun hd => by
  obtain ⟨e, he, q⟩ := hasDictAll_mem hd
  have ex : x.hasDict = true := by
    rcases h e he with rfl | z
    · exact q
    · rw [z.1] at q
      cases q
  refine noLs_of fun y hy => ?_
  rcases h y hy with rfl | z
  · exact hx ex
  · exact z.2
theorem nx_pl {ds : List PyData} (h : ∀ y ∈ ds, Pl y) : Pl (.tuple ds) := by
  refine ⟨?_, noLs_of fun y hy => (h y hy).2⟩
  cases e : (PyData.tuple ds).hasDict with
  | false => rfl
  | true =>
    obtain ⟨x, hx, q⟩ := hasDictAll_mem e
    rw [(h x hx).1] at q
    cases q
theorem nx_lst {ds : List PyData} (h : ∀ y ∈ ds, Pl y) : Nx (.list ds) := fun e => by
  obtain ⟨x, hx, q⟩ := hasDictAll_mem e
  rw [(h x hx).1] at q
  cases q
theorem Pl.nx {d : PyData} (h : Pl d) : Nx d := fun _ => h.2
theorem bd_all {w k : Nat} : ∀ {ds : List PyData}, (∀ d ∈ ds, Bd w k d) → PyData.leavesShortAll 48 ds = true ∧ PyData.showableAll ds = true ∧ PyData.weightAll ds ≤ ds.length * (w + 1) ∧ PyData.depthAll ds ≤ k
  | [], _ => ⟨rfl, rfl, by simp [PyData.weightAll], Nat.zero_le _⟩
  | d :: ds, h => by
    have a := h d List.mem_cons_self
    obtain ⟨h1, h2, h3, h4⟩ := bd_all fun x hx => h x (List.mem_cons_of_mem _ hx)
    refine ⟨?_, ?_, ?_, Nat.max_le.mpr ⟨a.dp, h4⟩⟩
    · show (d.leavesShort 48 && PyData.leavesShortAll 48 ds) = true
      rw [a.short, h1]
      rfl
    · show (d.showable && PyData.showableAll ds) = true
      rw [a.show_, h2]
      rfl
    · have := a.wt
      show d.weight + 1 + PyData.weightAll ds ≤ (ds.length + 1) * (w + 1)
      rw [Nat.succ_mul]
      omega
theorem Bd.tup {w k n : Nat} {ds : List PyData} (h : ∀ d ∈ ds, Bd w k d) (hn : ds.length ≤ n) : Bd (n * (w + 1)) (k + 1) (.tuple ds) := by
  obtain ⟨h1, h2, h3, h4⟩ := bd_all h
  exact ⟨h1, h2, Nat.le_trans h3 (Nat.mul_le_mul_right _ hn), Nat.succ_le_succ h4⟩
theorem Bd.lst {w k n : Nat} {ds : List PyData} (h : ∀ d ∈ ds, Bd w k d) (hn : ds.length ≤ n) : Bd (n * (w + 1)) (k + 1) (.list ds) := by
  obtain ⟨h1, h2, h3, h4⟩ := bd_all h
  exact ⟨h1, h2, Nat.le_trans h3 (Nat.mul_le_mul_right _ hn), Nat.succ_le_succ h4⟩
theorem Bd.of_sm {w k : Nat} {d : PyData} (a : Sm w k d) (h : PyData.intsShort 48 d = true) : Bd w k d := ⟨PyData.leavesShort_of_canLay0 48 d a.lay h, a.show_, a.wt, a.dp⟩
theorem bd_int {i : Int} (h0 : 0 ≤ i) (h : i < 4096) : Bd 13 0 (.int i) := by
  have s := Sm.int h0 h
  have e : (Str.ofString (toString i)).length ≤ 13 := of_decide_eq_true s.short
  exact ⟨decide_eq_true (Nat.le_trans e (by decide)), s.show_, s.wt, s.dp⟩
theorem bd_bool (b : Bool) : Bd 0 0 (.bool b) := by cases b <;> exact ⟨by decide +kernel, by decide +kernel, by decide +kernel, by decide +kernel⟩
def okB (w k : Nat) (d : PyData) : Bool := d.leavesShort 48 && (d.showable && (decide (d.weight ≤ w) && decide (d.depth ≤ k)))
theorem bd_of {w k : Nat} {d : PyData} (h : okB w k d = true) : Bd w k d := by
  unfold okB at h
  simp only [Bool.and_eq_true, decide_eq_true_eq] at h
  exact ⟨h.1, h.2.1, h.2.2.1, h.2.2.2⟩
/-! ### more written data: lists -/
section
variable {X : Addr → Prop} {dk c : Addr} {σ : L2.St} {H0 : Hp} {K : PySem.W.Frag}
theorem lit_catL {ta tb : TE} {ds es : List PyData} (hX : LX X dk c H0) (a : Lit X σ H0 ta (.list ds)) (b : Lit X σ H0 tb (.list es)) (hl : ds.length + es.length ≤ 1000) :
    Lit X σ H0 (tOp rCat ta tb) (.list (ds ++ es)) :=
  fun H Q s k => a H _ s fun v H1 s1 q1 => b H1 _ (s.trans s1) fun u H2 s2 q2 => by
    have q1 := Dq.same (wo_same s2) _ _ q1
    cases q1 with
    | @lst p xs _ hp hs =>
      cases q2 with
      | @lst p2 ys _ hp2 hs2 =>
        refine ⟨p, p2, xs, ys, rfl, rfl, (wo_some hp).1, (wo_some hp2).1, Nat.le_of_lt (len_lt (by rw [hs.len, hs2.len]; exact hl)), fun p3 np => ?_⟩
        have m1 := new_ne hX (s.trans (s1.trans s2)) np
        exact k _ _ (s1.trans (s2.trans (same_new np))) (.lst (wo_of upd_same m1) (DqAll.same (wo_same (same_new np)) _ _ (hs.app hs2)))
theorem lit_repL {ta tb : TE} {ds : List PyData} {n : Int} (hX : LX X dk c H0) (a : Lit X σ H0 ta (.list ds)) (b : Lit X σ H0 tb (.int n)) (hl : ds.length * n.toNat ≤ 1000) (hn : 1 ≤ n) (hn2 : n ≤ 1000) :
    Lit X σ H0 (tOp rRep ta tb) (.list (List.replicate n.toNat ds).flatten) :=
  fun H Q s k => a H _ s fun v H1 s1 q1 => b H1 _ (s.trans s1) fun u H2 s2 q2 => by
    have q1 := Dq.same (wo_same s2) _ _ q1
    cases q1 with
    | @lst p xs _ hp hs =>
      cases q2
      refine ⟨p, n, xs, rfl, rfl, (wo_some hp).1, by omega, by omega, Nat.le_of_lt (len_lt (by rw [hs.len]; exact hl)), fun p3 np => ?_⟩
      have m1 := new_ne hX (s.trans (s1.trans s2)) np
      exact k _ _ (s1.trans (s2.trans (same_new np))) (.lst (wo_of upd_same m1) (DqAll.same (wo_same (same_new np)) _ _ (hs.rep _)))
theorem lit_slL {te : TE} {tl th : TO} {ds : List PyData} {lo hi : Option Int} (hX : LX X dk c H0) (a : Lit X σ H0 te (.list ds)) (l : LitO σ H0 tl lo) (h : LitO σ H0 th hi) :
    Lit X σ H0 (tSl (rSlL K) te tl th) (.list ((ds.drop (HT.sIx ds.length 0 lo)).take (HT.sIx ds.length ds.length hi - HT.sIx ds.length 0 lo))) :=
  fun H Q s k => a H _ s fun v H1 s1 q1 => l H1 _ (s.trans s1) (h H1 _ (s.trans s1) (by
    cases q1 with
    | @lst p xs _ hp hs =>
      refine ⟨p, xs, rfl, SqL.of (wo_some hp).1, fun p2 np => ?_⟩
      have m1 := new_ne hX (s.trans s1) np
      exact k _ _ (s1.trans (same_new np)) (.lst (wo_of upd_same m1) (DqAll.same (wo_same (same_new np)) _ _ hs).cut)))
/-- a written list at a drawn index -/
theorem pick {te : TE} {ds : List PyData} {ce : Addr} {B : Nat} {n : Int} {Q : VK} (hX : LX X dk c H0) (a : Lit X σ H0 te (.list ds)) (dek : Dek H0 dk c ce B) (hB : B ≤ 10000) (h0 : σ[0]? = some (some (.ref dk))) (hn : n = ds.length) (h1 : 1 ≤ n) (h2 : n ≤ 1000)
    (q : ∀ v d H', d ∈ ds → Kp2 dk c H0 H' → Dek H' dk c ce (B + 1) → Dq (Wo X H') v d → Q v H') : tOp (rIxL K) te (tCall spNext [] E0 (tCons (tVar 0) (tCons (tC (.int n)) tNil))) σ H0 Q :=
  a H0 _ (Same.refl _) fun v H1 s1 q1 => by
    cases q1 with
    | @lst p xs _ hp hs =>
      refine ⟨.ref dk, h0, dk, c, ce, B, n, rfl, dek.keep s1, hB, h1, Int.le_trans h2 (by decide), fun r H3 r0 r1 k3 d3 => ?_⟩
      obtain ⟨hp', n0⟩ := wo_some hp
      obtain ⟨n1, n2⟩ := hX.no n0
      have hp3 : H3 p = some (.lst xs) := k3 _ _ n1 n2 hp'
      obtain ⟨j, rfl⟩ : ∃ j : Nat, r = (j : Int) := ⟨r.toNat, by omega⟩
      have hj : j < xs.length := by
        rw [hs.len]
        omega
      have hx : xs[j]? = some xs[j] := List.getElem?_eq_getElem hj
      obtain ⟨d, hd', hq⟩ := (DqAll.same (wo_kp hX k3) _ _ hs).get hx
      exact ⟨p, xs, (j : Int), xs[j], rfl, rfl, SqL.of hp3, atI_nat hx, q _ d H3 (List.mem_of_getElem? hd') ((kps s1).trans k3) d3 hq⟩
end

theorem cutV_from {xs : List V} {s : Nat} : cutV xs (some (s : Int)) none = xs.drop s := by
  unfold cutV
  rw [HT.sIx_none, HT.sIx_nat]
  by_cases h : s ≤ xs.length
  · rw [Nat.min_eq_left h, List.take_of_length_le (by rw [List.length_drop]; omega)]
  · rw [Nat.min_eq_right (by omega), List.drop_of_length_le (Nat.le_refl _), List.drop_of_length_le (by omega), List.take_nil]
theorem cutV_to {xs : List V} {s : Nat} : cutV xs none (some (s : Int)) = xs.take s := by
  unfold cutV
  rw [HT.sIx_none, HT.sIx_nat, List.drop_zero, Nat.sub_zero]
  by_cases h : s ≤ xs.length
  · rw [Nat.min_eq_left h]
  · rw [Nat.min_eq_right (by omega), List.take_length, List.take_of_length_le (by omega)]


/-! ### a written list is not sys.modules; repr of one -/
def tLstN (t : TA) : TE := fun σ H Q => t σ H fun xs H1 => xs.length ≤ sizeLine ∧ ∀ p, H1 p = none → p ≠ sysModules → Q (.ref p) (upd H1 p (.lst xs))
theorem pe_lstN {X : Cx} {es : List Expr} {t : TA} {pos : Pos} (h : PA X es t) : PE X (.List es pos) (tLstN t) := by
  refine ⟨fun pins s σ H Q I hq => ?_⟩
  refine wpAny_List_spliced (thn (h.run pos pins s σ H _ I hq) fun us s1 ⟨xs, H1, I1, r, z, q⟩ => ⟨by rw [← r.length]; exact z, ?_⟩)
  have hf : H1 s1.heap.objs.size = none := I1.hok.fresh (Nat.le_refl _)
  refine ⟨.ref s1.heap.objs.size, upd H1 s1.heap.objs.size (.lst xs), I1.laid (t' := s1.toks) (fun b u e => Heap.get?_push_of_some _ e) (Nat.le_refl _) ?_, rfl, q _ hf (Nat.ne_of_gt I1.big)⟩
  exact ⟨z, us, 0, r, Heap.get?_push_size _ rfl⟩
structure GdL (ds : List PyData) : Prop where
  show_ : (PyData.list ds).showable = true
  dp : (PyData.list ds).depth ≤ 64
  sz : (PyData.list ds).shown.length ≤ sizeLine
  nl : PyData.hasDictAll ds = true → noLs ds = true
theorem call_reprL {X : Cx} (hg : X.A.guards = some []) (hu : X.A.units + 66 < cLine) : CallR X (.builtin "repr") (fun xs H Q =>
    ∃ a ys ds, xs = [.ref a] ∧ a ≠ sysModules ∧ H a = some (.lst ys) ∧ DqAll H ys ds ∧ GdL ds ∧ Q (.str (PyData.list ds).shown) H) := by
  intro pins s σ H xs us Q I r h
  obtain ⟨a, ys, ds, rfl, hne, ha, hd, g, q⟩ := h
  obtain ⟨u, rfl, ru⟩ := vals1 r
  cases ru
  obtain ⟨its, rv, ⟨o, n, h1, h2, _, h3⟩, _⟩ := I.list (SqL.of (K := X.K) ha)
  obtain ⟨as, ra, hn⟩ := DqAll.reads I ds _ _ hd rv
  have rd : Reads s.heap (.ref a) (.list ds) _ := .list (vs := its.toArray) h1 h2 h3 ra
  have hdp := g.dp
  exact repr_of_reads' (Q := fun u s1 => ∃ x H1, Inv X pins σ H1 s1 ∧ RelV x u ∧ Q x H1) rd g.show_ (fun z m => by
      rcases List.mem_cons.mp m with m | m
      · exact hne m.symm
      · exact hn (g.nl z) m) hg (by omega) (fun _ _ e => e)
    (fun h' u tk hk => ⟨.str (PyData.list ds).shown, H, I.kept hk, ⟨_, rfl⟩, q⟩) g.sz
/-- repr([a, b, v]) where v is any value and the others are plain -/
theorem gdl_of {ds : List PyData} {x : PyData} (h : ∀ d ∈ ds, Bd 20000 30 d) (hl : ds.length ≤ 5) (hx : Nx x) (hp : ∀ y ∈ ds, y = x ∨ Pl y) : GdL ds := by
  have b := Bd.lst h hl
  refine ⟨b.show_, Nat.le_trans b.dp (by decide), ?_, fun hd => ?_⟩
  · have h := PyData.shown_le 48 (by decide) _ b.short
    have h2 := b.wt
    rw [sizeLine_eq]
    omega
  · exact nx_mem hx hp hd
theorem gd_bl (b : Bool) : Gd (.bool b) := by
  cases b <;> exact ⟨rfl, by decide, by rw [sizeLine_eq]; decide +kernel, fun z => by cases z⟩
def oddA : List PyData := [.none, .bool true, .bool false, .int (-1), .int 0, .int 1, .int (10 ^ (39 : Int).toNat), .str "", .str "0", .tuple [], .list [], .dict [], .tuple [.int 0], .list [.int 0], .tuple [.int 1, .bool true], .tuple [.tuple [.int 1]], .tuple [.int 2, .int (-1)]]
def valB (d : PyData) : Bool := okB 140 3 d && (!d.hasDict || noL d)
theorem val_odd {d : PyData} (h : d ∈ oddA) : Bd 140 3 d ∧ Nx d := by
  have all : oddA.all valB = true := by decide +kernel
  have h := List.all_eq_true.mp all d h
  unfold valB at h
  rw [Bool.and_eq_true] at h
  refine ⟨bd_of h.1, fun e => ?_⟩
  have := h.2
  rw [e] at this
  simpa using this
theorem scOdd : FnScope ["_law_state", "_law_some"] ["_law_state"] (defScope sOdd) := ⟨rfl, rfl, rfl, by decide +kernel, rfl, by decide +kernel, by decide +kernel⟩
section
variable {P : Program} {w : World} {K : PySem.W.Frag} {mg : Str → Option Value} {base : Heap}
def spOdd : Sp := fun vs H Q _ => ∃ (X : Addr → Prop) (dk c ce : Addr) (B : Nat), vs = [.ref dk] ∧ LX X dk c H ∧ Dek H dk c ce B ∧ B ≤ 10000 ∧
  ∀ v d H', d ∈ oddA → Kp2 dk c H H' → Dek H' dk c ce (B + 1) → Dq (Wo X H') v d → Q v H'
theorem ok_odd {f fN fU fTu fA fDs fX fCu fOo fIc fMa fNu fBe : Addr} {fd dN dU dTu dA dDs dX dCu dOo dIc dMa dNu dBe : FuncData} {k : Nat} (F : Fun K "_law_odd" "_law_odd" sOdd f fd) (T : Tx K mg fN fU fTu fA fDs fX fCu fOo fIc fMa fNu fBe dN dU dTu dA dDs dX dCu dOo dIc dMa dNu dBe) : FnOk P w K mg base CX0 (k + 2) f fd ["_law_state"] spOdd := by
  have GX : FnOk P w K mg base CX0 (k + 1) fX dX ["_law_state", "_law_many"] spNext := ok_next T.X T.m_len
  refine F.ok scOdd (fun vs H Q E h => ?_) (fun cdv A outer s H vs Q E hr h => ?_)
  · obtain ⟨X, dk, c, ce, B, rfl, _⟩ := h
    rfl
  · obtain ⟨X, dk, c, ce, B, rfl, hX, dek, hB, q⟩ := h
    refine ⟨_, (pss_cons (ps_set (i := 1) scOdd.nd rfl (.inl rfl) (pe_lst (pa_cons pe_non (pa_cons pe_bl (pa_cons pe_bl (pa_cons (pe_un un_neg pe_int) (pa_cons pe_int (pa_cons pe_int (pa_cons (pe_op op_pow pe_int pe_int) (pa_cons pe_str (pa_cons pe_str (pa_cons (pe_tup pa_nil) (pa_cons (pe_lst pa_nil) (pa_cons pe_dnewK (pa_cons (pe_tup (pa_cons pe_int pa_nil)) (pa_cons (pe_lst (pa_cons pe_int pa_nil)) (pa_cons (pe_tup (pa_cons pe_int (pa_cons pe_bl pa_nil))) (pa_cons (pe_tup (pa_cons (pe_tup (pa_cons pe_int pa_nil)) pa_nil)) (pa_cons (pe_tup (pa_cons pe_int (pa_cons (pe_un un_neg pe_int) pa_nil))) pa_nil)))))))))))))))))))
      (pss_one (ps_ret (pe_ix (show IxR _ (rIxL K) from ix_list) (pv 1) (pe_call GX (hr.mono (by omega)) (by rfl) T.gX T.X.kp T.bX .nil pass0 (pa_cons (pv 0) (pa_cons pe_int pa_nil))) (fun _ _ => rfl))))), ?_⟩
    have LA : ∀ σ, Lit X σ H (tLst _) (.list oddA) := fun σ => (lit_lst hX (litA_cons (lit_c fun _ => .non) (litA_cons (lit_c fun _ => .bl true) (litA_cons (lit_c fun _ => .bl false) (litA_cons (lit_neg (lit_c fun _ => .int 1)) (litA_cons (lit_c fun _ => .int 0) (litA_cons (lit_c fun _ => .int 1) (litA_cons (lit_pow (lit_c fun _ => .int 10) (lit_c fun _ => .int 39) ⟨by decide, by decide, by decide⟩) (litA_cons (lit_c fun _ => .str "") (litA_cons (lit_c fun _ => .str "0") (litA_cons (lit_tup hX litA_nil (by decide)) (litA_cons (lit_lst hX litA_nil (by decide)) (litA_cons (lit_d0 hX) (litA_cons (lit_tup hX (litA_cons (lit_c fun _ => .int 0) litA_nil) (by decide)) (litA_cons (lit_lst hX (litA_cons (lit_c fun _ => .int 0) litA_nil) (by decide)) (litA_cons (lit_tup hX (litA_cons (lit_c fun _ => .int 1) (litA_cons (lit_c fun _ => .bl true) litA_nil)) (by decide)) (litA_cons (lit_tup hX (litA_cons (lit_tup hX (litA_cons (lit_c fun _ => .int 1) litA_nil) (by decide)) litA_nil) (by decide)) (litA_cons (lit_tup hX (litA_cons (lit_c fun _ => .int 2) (litA_cons (lit_neg (lit_c fun _ => .int 1)) litA_nil)) (by decide)) litA_nil))))))))))))))))) (by decide))
    unfold tSeq tAsg
    refine LA _ H _ (Same.refl _) fun v H1 s1 q1 => ?_
    cases q1 with
    | @lst a xs _ ha hs =>
      have hlA : xs.length = 17 := hs.len
      refine ⟨.ref a, rfl, _, rfl, dk, c, ce, B, 17, rfl, dek.keep s1, hB, by decide, by decide, fun r H3 r0 r1 k3 d3 => ?_⟩
      obtain ⟨ha', hna⟩ := wo_some ha
      obtain ⟨n1, n2⟩ := hX.no hna
      have ha3 := k3 _ _ n1 n2 ha'
      obtain ⟨j, rfl⟩ : ∃ j : Nat, r = (j : Int) := ⟨r.toNat, by omega⟩
      have hj : j < xs.length := by omega
      have hx : xs[j]? = some xs[j] := List.getElem?_eq_getElem hj
      have all : DqAll (Wo X H3) xs oddA := DqAll.same (wo_kp hX k3) _ _ hs
      obtain ⟨d, hd', hq⟩ := all.get hx
      exact ⟨a, _, (j : Int), _, rfl, rfl, SqL.of ha3, atI_nat hx, q _ d H3 (List.mem_of_getElem? hd') ((kps s1).trans k3) d3 hq⟩
end
end DD
namespace DD
open PySem PySem.Spec PyProof.Rows L2
section
variable {X : Cx} {CX : CXT} {k : Nat} {f C : Addr} {sp : Sp} {E : L2.St → XK} {a b : Expr} {ta tb : TE} {pos : Pos}
/-- x[y] by an own __getitem__ that may raise -/
def tIxO (C : Addr) (sp : Sp) (E : L2.St → XK) (ta tb : TE) : TE := fun σ H Q => ta σ H fun x H1 => tb σ H1 fun y H2 => ∃ a dx fs, x = .ref a ∧ H2 a = some (.ins C dx fs) ∧ sp [.ref a, y] H2 Q (E σ)
theorem pe_ixO (hq : PySem.W.fnIn X.K f = true) (Z : Spc X.K C f "__getitem__") (F : FnR X.prog X.w X.K X.mg X.base CX k f sp) (hr : Room (k + 1) X.A) (hx : ∀ σ, PassesAt CX X σ (E σ))
    (ha : PE X a ta) (hb : PE X b tb) (hs : ∀ o i, subscripted b true o i = runValue (.builtin "lifetime.subscript" ⟨[o, i], []⟩) := by intro o i; with_unfolding_all rfl) : PE X (.Subscript a b pos) (tIxO C sp E ta tb) := by
  refine ⟨fun pins s σ H Q I h => ?_⟩
  refine Subscript_ (binT ha hb I (R := fun x y H2 => ∃ a dx fs, x = .ref a ∧ H2 a = some (.ins C dx fs) ∧ sp [.ref a, y] H2 Q (E σ)) h fun v u s2 x y H2 I2 rx ry q => ?_)
  obtain ⟨a, dx, fs, ex, ea, q⟩ := q
  subst ex
  obtain rfl : v = Value.ref a := rx
  obtain ⟨mA, O, _⟩ := ins_get I2.hok ea
  obtain ⟨od, J, _⟩ := O.look
  obtain ⟨m, fr⟩ := I2.fr
  refine PySem.W.sub_K fr I2.ok.mod.kin J Z.at_ hq Z.fn (wpAny_call (codeAny_mono (F X.A.in1 X.stack s2 H2 [.ref a, u] [.ref a, y] Q (E σ) hr.in1 I2.env0.in1 (.cons rfl (.cons ry .nil)) q) fun r s' hq' => ?_)) (hs _ _)
  cases r with
  | error e => exact hx σ pins H2 s2 e s' I2 hq'
  | ok fl =>
    cases fl with
    | ret u => exact I2.after hq'
    | next => exact hq'.elim
    | brk => exact hq'.elim
    | cont => exact hq'.elim
end
/-- an error with one field -/
def Rs (H : Hp) (E : XK) (C : Addr) (fld : Str) (v : V) : Prop := ∀ dd H', Same H H' → H' dd = some (.xd [(fld, v)]) → E (.ref C) (some dd) H'
structure HE (K : PySem.W.Frag) (mg : Str → Option Value) (CB CN CA C1 C2 C3 C4 C5 C6 C7 C8 CH gB gN gI gG gL : Addr) (xB xN xI xG xL : FuncData) : Prop where
  eB : ErrV K mg "BadCounts" "value" sIBC CB gB xB
  eN : ErrL K mg "NoKind" "value" sINK CN gN xN
  gA : mg "DrawerError" = some (.ref CA)
  g1 : mg "BadHeap" = some (.ref C1)
  g2 : mg "BadKinds" = some (.ref C2)
  g3 : mg "OtherKinds" = some (.ref C3)
  g4 : mg "TooFew" = some (.ref C4)
  g5 : mg "TooMuch" = some (.ref C5)
  g6 : mg "NoCollection" = some (.ref C6)
  g7 : mg "NoDrawer" = some (.ref C7)
  g8 : mg "NoVersion" = some (.ref C8)
  exB : PySem.W.exmOne K (.ref CB) (.ref CA) = some true
  exN : PySem.W.exmOne K (.ref CN) (.ref CN) = some true
  isB : IsTx K CB
  isN : IsTx K CN
  xfB : XfC K CB
  xfN : XfC K CN
  kB : PySem.W.kitAny K (.ref CB) [.ref C1, .ref C2, .ref C3, .ref C4, .ref C5, .type "LookupError"] = some false
  kBB : PySem.W.kitOne K (.ref CB) (.ref CB) = some true
  kN : PySem.W.kitAny K (.ref CN) [.ref CA, .ref C6, .ref C7, .ref C8] = some false
  kNL : PySem.W.kitOne K (.ref CN) (.type "LookupError") = some true
  gH : mg "Heap" = some (.ref CH)
  cl : Cls K CH
  nC : NoAttr K CH "counts"
  mkH : Mk K CH gI
  FI : Fun K "__init__" "Heap.__init__" hInit gI xI
  bI : Binds K xI ["self", "counts"] []
  FG : Fun K "__getitem__" "Heap.__getitem__" hGet gG xG
  bG : Binds K xG ["self", "at"] []
  sG : Spc K CH gG "__getitem__"
  nq : PySem.W.fnIn K gG = true
  FL : Fun K "__len__" "Heap.__len__" hLen gL xL
  bL : Binds K xL ["self"] []
  sL : Spc K CH gL "__len__"
  m1 : ∃ tk, mg "LIMIT" = some (.int 1000000 tk)
  m2 : ∃ tk, mg "MAX_KINDS" = some (.int 4 tk)
  m_LookupError : mg "LookupError" = none
theorem scIBadCounts : FnScope ["self", "value"] ["self", "value"] (defScope sIBC) := ⟨rfl, rfl, rfl, by decide +kernel, rfl, by decide +kernel, by decide +kernel⟩
theorem ok_iBadCounts {P : Program} {w : World} {K : PySem.W.Frag} {mg : Str → Option Value} {base : Heap} {C f : Addr} {fd : FuncData} {k : Nat} (F : Fun K "__init__" ("BadCounts" ++ ".__init__") sIBC f fd) : FnOk P w K mg base CX0 (k + 1) f fd ["self", "value"] (spInitV K C "value") := by
  refine F.ok scIBadCounts (fun vs H Q E h => ?_) (fun cdv A outer s H vs Q E hr h => ?_)
  · obtain ⟨a, y, rfl, _⟩ := h
    rfl
  · obtain ⟨a, y, rfl, o, no, ha, q⟩ := h
    exact ⟨_, pss_one (ps_ostV (pv 0) (pv 1)), y, rfl, .ref a, rfl, a, C, rfl, o, no, ha, fun dx n1 n2 => q dx n1 n2⟩
theorem scINoKind : FnScope ["self", "value"] ["self", "value"] (defScope sINK) := ⟨rfl, rfl, rfl, by decide +kernel, rfl, by decide +kernel, by decide +kernel⟩
theorem ok_iNoKind {P : Program} {w : World} {K : PySem.W.Frag} {mg : Str → Option Value} {base : Heap} {C f : Addr} {fd : FuncData} {k : Nat} (F : Fun K "__init__" ("NoKind" ++ ".__init__") sINK f fd) : FnOk P w K mg base CX0 (k + 1) f fd ["self", "value"] (spInitL K C "value") := by
  refine F.ok scINoKind (fun vs H Q E h => ?_) (fun cdv A outer s H vs Q E hr h => ?_)
  · obtain ⟨a, y, rfl, _⟩ := h
    rfl
  · obtain ⟨a, y, rfl, o, no, ha, q⟩ := h
    exact ⟨_, pss_one (ps_ostL (pv 0) (pv 1)), y, rfl, .ref a, rfl, a, C, rfl, o, no, ha, fun dx n1 n2 => q dx n1 n2⟩
theorem scHI : FnScope ["self", "counts"] ["self", "counts"] (defScope hInit) := ⟨rfl, rfl, rfl, by decide +kernel, rfl, by decide +kernel, by decide +kernel⟩
theorem scHG : FnScope ["self", "at"] ["self", "at"] (defScope hGet) := ⟨rfl, rfl, rfl, by decide +kernel, rfl, by decide +kernel, by decide +kernel⟩
theorem scHL : FnScope ["self"] ["self"] (defScope hLen) := ⟨rfl, rfl, rfl, by decide +kernel, rfl, by decide +kernel, by decide +kernel⟩
theorem numOk_int {m : Int} {d : PyData} (h : numOk m d = true) : ∃ n, d = .int n ∧ 0 ≤ n ∧ n ≤ m := by
  cases d with
  | int n =>
    have h : (decide (0 ≤ n) && decide (n ≤ m)) = true := h
    rw [Bool.and_eq_true, decide_eq_true_eq, decide_eq_true_eq] at h
    exact ⟨n, rfl, h⟩
  | _ => cases h
section
variable {P : Program} {w : World} {K : PySem.W.Frag} {mg : Str → Option Value} {base : Heap}
def spHI (CH CB : Addr) : Sp := fun vs H Q E => ∃ (x dx : Addr) (v : V) (d : PyData), vs = [.ref x, v] ∧ H x = some (.ins CH dx []) ∧ Dq H v d ∧ lenD d ≤ 1000 ∧
  (cOk d = true → ∀ H', Kp2 x x H H' → H' x = some (.ins CH dx [("counts", v)]) → Q .non H') ∧ (cOk d = false → Rs H E CB "value" v)
theorem ok_hi {f fN fU fTu fA fDs fX fCu fOo fIc fMa fNu fBe : Addr} {fd dN dU dTu dA dDs dX dCu dOo dIc dMa dNu dBe : FuncData} {k : Nat} (F : Fun K "__init__" "Heap.__init__" hInit f fd) (T : Tx K mg fN fU fTu fA fDs fX fCu fOo fIc fMa fNu fBe dN dU dTu dA dDs dX dCu dOo dIc dMa dNu dBe) {CB CN CA C1 C2 C3 C4 C5 C6 C7 C8 CH gB gN gI gG gL : Addr} {xB xN xI xG xL : FuncData} (X : HE K mg CB CN CA C1 C2 C3 C4 C5 C6 C7 C8 CH gB gN gI gG gL xB xN xI xG xL) : FnOk P w K mg base (L2.CX P w) (k + 4) f fd ["self", "counts"] (spHI CH CB) := by
  have GA : FnOk P w K mg base CX0 (k + 3) fA dA ["value", "fewest", "most", "limit"] spNums := ok_nums T.A T.Tu T.bTu T.gTu T.U T.bU T.gU T.N T.bN T.gN T.m_isinstance T.m_int T.m_bool T.m_tuple T.m_len T.m_all
  have GB : FnOk P w K mg base CX0 (k + 1) gB xB ["self", "value"] (spInitV K CB "value") := ok_iBadCounts X.eB.FI
  obtain ⟨tk1, h1⟩ := X.m1
  obtain ⟨tk2, h2⟩ := X.m2
  refine F.okX scHI (fun vs H Q E h => ?_) (fun cdv A outer s H vs Q E hr h => ?_)
  · obtain ⟨x, dx, v, d, rfl, _⟩ := h
    rfl
  · obtain ⟨x, dx, v, d, rfl, hx, hd, hl, q1, q2⟩ := h
    refine ⟨_, (pss_cons (ps_if (pt_not (pt_val (pe_call GA (hr.mono (by omega)) (by rfl) T.gA T.A.kp T.bA .nil pass0 (pa_cons (pv 1) (pa_cons pe_int (pa_cons (pe_glob (v := .int 4) rfl h2 ⟨_, rfl⟩) (pa_cons (pe_glob (v := .int 1000000) rfl h1 ⟨_, rfl⟩) pa_nil))))))) (pss_one (ps_raise rfl (takes_of rfl rfl rfl rfl) (pmk_oexV X.eB.o X.eB.iC X.eB.tI GB (hr.mono (by omega)) X.eB.bI .nil pass0 (by rfl) X.eB.gC (pa_cons (pv 1) pa_nil)))) pss_nil)
      (pss_one (ps_fld (pv 0) (pv 1) rfl))), ?_⟩
    refine ⟨_, rfl, v, d, 1, 4, 1000000, rfl, hd, hl, fun H1 s1 => ⟨_, rfl, ?_⟩⟩
    by_cases c : cOk d = true
    · refine iteF2 (by rw [show (isTup d && (decide ((1 : Int) ≤ (lenD d : Int)) && decide ((lenD d : Int) ≤ 4)) && allOk 1000000 d) = true from c]; rfl) ?_
      exact ⟨_, rfl, _, rfl, x, CH, dx, _, rfl, s1 _ _ hx, X.cl, X.nC, by decide, q1 c _ ((kps s1).trans kp2_upd1) upd_same⟩
    · have c := Bool.eq_false_iff.mpr c
      refine iteT2 (by rw [show (isTup d && (decide ((1 : Int) ≤ (lenD d : Int)) && decide ((lenD d : Int) ≤ 4)) && allOk 1000000 d) = false from c]; rfl) ?_
      exact ⟨_, rfl, raisedV X.eB.o X.eB.noT fun dd H' s2 hdd => q2 c dd H' (s1.trans s2) hdd⟩
/-- a heap of these counts -/
structure HpAt (CH : Addr) (H : Hp) (x p : Addr) (r : List Int) : Prop where
  ex : ∃ dx, H x = some (.ins CH dx [("counts", .ref p)])
  tp : H p = some (.tup (r.map V.int))
theorem HpAt.same {CH : Addr} {H H' : Hp} {x p : Addr} {r : List Int} (h : HpAt CH H x p r) (k : Same H H') : HpAt CH H' x p r := by
  obtain ⟨⟨dx, h1⟩, h2⟩ := h
  exact ⟨⟨dx, k _ _ h1⟩, k _ _ h2⟩
def spHL (CH : Addr) : Sp := fun vs H Q _ => ∃ (x p : Addr) (r : List Int), vs = [.ref x] ∧ HpAt CH H x p r ∧ r.length ≤ 1000 ∧ Q (.int (r.length : Nat)) H
theorem ok_hl {f fN fU fTu fA fDs fX fCu fOo fIc fMa fNu fBe : Addr} {fd dN dU dTu dA dDs dX dCu dOo dIc dMa dNu dBe : FuncData} {k : Nat} (F : Fun K "__len__" "Heap.__len__" hLen f fd) (T : Tx K mg fN fU fTu fA fDs fX fCu fOo fIc fMa fNu fBe dN dU dTu dA dDs dX dCu dOo dIc dMa dNu dBe) {CB CN CA C1 C2 C3 C4 C5 C6 C7 C8 CH gB gN gI gG gL : Addr} {xB xN xI xG xL : FuncData} (X : HE K mg CB CN CA C1 C2 C3 C4 C5 C6 C7 C8 CH gB gN gI gG gL xB xN xI xG xL) : FnOk P w K mg base CX0 (k + 1) f fd ["self"] (spHL CH) := by
  refine F.ok scHL (fun vs H Q E h => ?_) (fun cdv A outer s H vs Q E hr h => ?_)
  · obtain ⟨x, p, r, rfl, _⟩ := h
    rfl
  · obtain ⟨x, p, r, rfl, ⟨⟨dx, hx⟩, hp⟩, hl, q⟩ := h
    refine ⟨_, (pss_one (ps_ret (pe_callB call_len_seq (by rfl) T.m_len PySem.boot_len (pa_cons (pe_fld (pv 0) rfl) pa_nil)))), ?_⟩
    refine ⟨_, rfl, x, CH, dx, _, _, rfl, hx, X.cl, X.nC, rfl, p, _, rfl, .inr (SqT.of hp), ?_⟩
    rw [List.length_map]
    exact q
def spHG (CH CN : Addr) : Sp := fun vs H Q E => ∃ (x p : Addr) (r : List Int) (v : V) (d : PyData), vs = [.ref x, v] ∧ HpAt CH H x p r ∧ Dq H v d ∧
  (numOk ((r.length : Int) - 1) d = false → Rs H E CN "value" v) ∧ (∀ j : Nat, d = .int j → j < r.length → Q (.int (r.getD j 0)) H)
theorem ok_hg {f fN fU fTu fA fDs fX fCu fOo fIc fMa fNu fBe : Addr} {fd dN dU dTu dA dDs dX dCu dOo dIc dMa dNu dBe : FuncData} {k : Nat} (F : Fun K "__getitem__" "Heap.__getitem__" hGet f fd) (T : Tx K mg fN fU fTu fA fDs fX fCu fOo fIc fMa fNu fBe dN dU dTu dA dDs dX dCu dOo dIc dMa dNu dBe) {CB CN CA C1 C2 C3 C4 C5 C6 C7 C8 CH gB gN gI gG gL : Addr} {xB xN xI xG xL : FuncData} (X : HE K mg CB CN CA C1 C2 C3 C4 C5 C6 C7 C8 CH gB gN gI gG gL xB xN xI xG xL) : FnOk P w K mg base (L2.CX P w) (k + 3) f fd ["self", "at"] (spHG CH CN) := by
  have GU : FnOk P w K mg base CX0 (k + 2) fU dU ["value", "most"] spUpTo := ok_upto T.U T.N T.bN T.gN T.m_isinstance T.m_int T.m_bool
  have GN : FnOk P w K mg base CX0 (k + 1) gN xN ["self", "value"] (spInitL K CN "value") := ok_iNoKind X.eN.FI
  refine F.okX scHG (fun vs H Q E h => ?_) (fun cdv A outer s H vs Q E hr h => ?_)
  · obtain ⟨x, p, r, v, d, rfl, _⟩ := h
    rfl
  · obtain ⟨x, p, r, v, d, rfl, ⟨⟨dx, hx⟩, hp⟩, hd, q1, q2⟩ := h
    refine ⟨_, (pss_cons (ps_if (pt_not (pt_val (pe_call GU (hr.mono (by omega)) (by rfl) T.gU T.U.kp T.bU .nil pass0 (pa_cons (pv 1) (pa_cons (pe_op op_sub (pe_callB call_len_seq (by rfl) T.m_len PySem.boot_len (pa_cons (pe_fld (pv 0) rfl) pa_nil)) pe_int) pa_nil))))) (pss_one (ps_raise rfl (takes_of rfl rfl rfl rfl) (pmk_oexL X.eN.o X.eN.iC X.eN.tI GN (hr.mono (by omega)) X.eN.bI .nil pass0 (by rfl) X.eN.gC (pa_cons (pv 1) pa_nil)))) pss_nil)
      (pss_one (ps_ret (pe_ix (show IxR _ (rIxT K) from ix_tup) (pe_fld (pv 0) rfl) (pv 1) (fun _ _ => rfl))))), ?_⟩
    refine ⟨_, rfl, _, rfl, x, CH, dx, _, _, rfl, hx, X.cl, X.nC, rfl, p, _, rfl, .inr (SqT.of hp), _, 1, rfl, rfl, v, d, _, rfl, hd, ?_⟩
    rw [List.length_map]
    refine ⟨_, rfl, ?_⟩
    by_cases c : numOk ((r.length : Int) - 1) d = true
    · refine iteF2 (by rw [c]; rfl) ?_
      obtain ⟨n, rfl, h0, h1⟩ := numOk_int c
      cases hd
      obtain ⟨j, rfl⟩ : ∃ j : Nat, n = (j : Int) := ⟨n.toNat, by omega⟩
      have hj : j < r.length := by omega
      refine ⟨_, rfl, x, CH, dx, _, _, rfl, hx, X.cl, X.nC, rfl, _, rfl, p, _, (j : Int), .int (r.getD j 0), rfl, rfl, SqT.of hp, ?_, q2 j rfl hj⟩
      exact atI_nat (by rw [List.getElem?_map, List.getD_eq_getElem?_getD, List.getElem?_eq_getElem hj]; rfl)
    · have c := Bool.eq_false_iff.mpr c
      exact iteT2 (by rw [c]; rfl) ⟨_, rfl, raisedL X.eN.o X.eN.noT (q1 c)⟩
end
end DD
namespace DD
open PySem PySem.Spec PyProof.Rows L2
def spR (sp : Sp) : Sp := fun vs H Q E => sp (vs ++ []) H Q E
theorem scMade : FnScope ["_law_value", "_law_heap", "error", "_law_others"] ["_law_value"] (defScope sMade) := ⟨rfl, rfl, rfl, by decide +kernel, rfl, by decide +kernel, by decide +kernel⟩
theorem scLNum : FnScope ["_law_heap", "_law_value", "error", "_law_is_alone"] ["_law_heap", "_law_value"] (defScope sLNum) := ⟨rfl, rfl, rfl, by decide +kernel, rfl, by decide +kernel, by decide +kernel⟩
abbrev tIs (K : PySem.W.Frag) (cls : Value) (d : Option Addr) (a : Addr) (i : Nat) (te : TE) : TE := tCB (rIsG K cls d a) (tCons (tVar i) (tCons te tNil))
def tMadeSuite (K : PySem.W.Frag) (CB C1 C2 C3 C4 C5 : Addr) : Addr → Value → Option Addr → TS := fun a cls d =>
  tSeq (tAsg (tIs K cls d a 2 (tTup (tCons (tC (.ref C1)) (tCons (tC (.ref C2)) (tCons (tC (.ref C3)) (tCons (tC (.ref C4)) (tCons (tC (.ref C5)) (tCons (tC (.ty "LookupError")) tNil)))))))) (gName 3))
    (tRet (tIf (tAnd (tB (tIs K cls d a 2 (tC (.ref CB)))) (tNot (tB (tVar 3)))) (tLstN (tCons (tXf a cls d CB "value" (tVar 2)) tNil)) (tLst (tCons (tC (.str "other")) tNil))))
def tNumSuite (K : PySem.W.Frag) (CN CA C6 C7 C8 : Addr) : Addr → Value → Option Addr → TS := fun a cls d =>
  tSeq (tAsg (tNotV (tIs K cls d a 2 (tTup (tCons (tC (.ref CA)) (tCons (tC (.ref C6)) (tCons (tC (.ref C7)) (tCons (tC (.ref C8)) tNil))))))) (gName 3))
    (tRet (tLstN (tCons (tXf a cls d CN "value" (tVar 2)) (tCons (tAndV (tVar 3) (tIs K cls d a 2 (tC (.ty "LookupError")))) tNil))))
/-- what is due, at m -/
def DueAt (H : Hp) (m v : V) (d : PyData) : Prop := ∃ p, m = .ref p ∧ ((cOk d = true ∧ H p = some (.tup [v, .int (lenD d : Nat)])) ∨ (cOk d = false ∧ p ≠ sysModules ∧ H p = some (.lst [v])))
theorem DueAt.same {H H' : Hp} {m v : V} {d : PyData} (h : DueAt H m v d) (k : Same H H') : DueAt H' m v d := by
  obtain ⟨p, rfl, h | h⟩ := h
  · exact ⟨p, rfl, .inl ⟨h.1, k _ _ h.2⟩⟩
  · exact ⟨p, rfl, .inr ⟨h.1, h.2.1, k _ _ h.2.2⟩⟩
section
variable {P : Program} {w : World} {K : PySem.W.Frag} {mg : Str → Option Value} {base : Heap}
def spMade : Sp := fun vs H Q _ => ∃ (v : V) (d : PyData), vs = [v] ∧ Dq H v d ∧ lenD d ≤ 1000 ∧ ∀ m H', Same H H' → DueAt H' m v d → Q m H'
theorem all_ints {m : Int} : ∀ {ds : List PyData}, ds.all (numOk m) = true → ∃ r : List Int, ds = r.map PyData.int ∧ ∀ x ∈ r, 0 ≤ x ∧ x ≤ m
  | [], _ => ⟨[], rfl, fun x h => by cases h⟩
  | d :: ds, h => by
    rw [List.all_cons, Bool.and_eq_true] at h
    obtain ⟨n, rfl, h0, h1⟩ := numOk_int h.1
    obtain ⟨r, rfl, hr⟩ := all_ints h.2
    refine ⟨n :: r, rfl, fun x hx => ?_⟩
    rcases List.mem_cons.mp hx with rfl | hx
    · exact ⟨h0, h1⟩
    · exact hr x hx
theorem dq_intsI {H : Hp} : ∀ {r : List Int} {xs : List V}, DqAll H xs (r.map PyData.int) → xs = r.map V.int
  | [], _, h => by
    cases h
    rfl
  | n :: r, _, h => by
    cases h with
    | cons a b =>
      cases a
      rw [dq_intsI b]
      rfl
theorem cok_tup {H : Hp} {v : V} {d : PyData} (h : Dq H v d) (c : cOk d = true) : ∃ (p : Addr) (r : List Int), v = .ref p ∧ H p = some (.tup (r.map V.int)) ∧ d = rowD r ∧ r.length = lenD d ∧ (∀ x ∈ r, 0 ≤ x ∧ x ≤ 1000000) ∧ 1 ≤ r.length ∧ r.length ≤ 4 := by
  have c : (isTup d && (decide ((1 : Int) ≤ (lenD d : Int)) && decide ((lenD d : Int) ≤ 4)) && allOk 1000000 d) = true := c
  rw [Bool.and_eq_true, Bool.and_eq_true, Bool.and_eq_true, decide_eq_true_eq, decide_eq_true_eq] at c
  obtain ⟨⟨c0, c1, c2⟩, c3⟩ := c
  cases h with
  | @tup p xs ds hp hs =>
    obtain ⟨r, rfl, hr⟩ := all_ints (show ds.all (numOk 1000000) = true from c3)
    obtain rfl := dq_intsI hs
    have c1 : (1 : Int) ≤ ((r.map PyData.int).length : Int) := c1
    have c2 : ((r.map PyData.int).length : Int) ≤ 4 := c2
    rw [List.length_map] at c1 c2
    exact ⟨p, r, rfl, hp, rfl, (by show r.length = (r.map PyData.int).length; rw [List.length_map]), hr, by omega, by omega⟩
  | _ => cases c0
theorem ok_made {f fN fU fTu fA fDs fX fCu fOo fIc fMa fNu fBe : Addr} {fd dN dU dTu dA dDs dX dCu dOo dIc dMa dNu dBe : FuncData} {k : Nat} (F : Fun K "_law_made" "_law_made" sMade f fd) (T : Tx K mg fN fU fTu fA fDs fX fCu fOo fIc fMa fNu fBe dN dU dTu dA dDs dX dCu dOo dIc dMa dNu dBe) {CB CN CA C1 C2 C3 C4 C5 C6 C7 C8 CH gB gN gI gG gL : Addr} {xB xN xI xG xL : FuncData} (X : HE K mg CB CN CA C1 C2 C3 C4 C5 C6 C7 C8 CH gB gN gI gG gL xB xN xI xG xL) : FnOk P w K mg base CX0 (k + 7) f fd ["_law_value"] spMade := by
  have GH : FnR P w K mg base (L2.CX P w) 4 gI (spR (spHI CH CB)) := (ok_hi (k := 0) X.FI T X).raw X.bI .nil
  have GL : FnOk P w K mg base CX0 1 gL xL ["self"] (spHL CH) := ok_hl (k := 0) X.FL T X
  have RL : FnR P w K mg base CX0 1 gL (spHL CH) := (GL.raw X.bL .nil).imp fun vs H Q E h => by
    rw [List.append_nil]
    exact h
  refine F.ok scMade (fun vs H Q E h => ?_) (fun cdv A outer s H vs Q E hr h => ?_)
  · obtain ⟨v, d, rfl, _⟩ := h
    rfl
  · obtain ⟨v, d, rfl, hd, hl, q⟩ := h
    refine ⟨_, pss_one (ps_try_as (i := 2) (tb := fun W => tSeq (tAsg (tMakeRS CH (spR (spHI CH CB)) (WE W) (tCons (tVar 0) tNil)) (gName 1)) (tRet (tTup (tCons (tFld K (tVar 1) "counts") (tCons (tCB (rLenO CH (spHL CH)) (tCons (tVar 1) tNil)) tNil))))) (ts := tMadeSuite K CB C1 C2 C3 C4 C5) (Wout := fun _ _ _ _ => False) rfl rfl scMade.nd rfl rfl ⟨rfl, by decide, Or.inl X.gA⟩ takes0
        (fun W pn xe tk _ => pss_cons (ps_set (i := 1) scMade.nd rfl (.inl rfl) (by exact (pe_makeRS X.mkH GH (hr.mono (by omega)) rfl X.gH (fun σ => passAt tk σ) (by exact (pa_cons (pv 0) pa_nil))))) (pss_one (ps_ret (pe_tup (pa_cons (by exact (pe_fld (pv 1) rfl)) (pa_cons (by exact (pe_callB (call_lenO (show Spc K CH gL "__len__" from X.sL) RL (hr.mono (by omega))) (by rfl) T.m_len PySem.boot_len (pa_cons (pv 1) pa_nil))) pa_nil))))))
        (fun a oe cls d pn hz hf => (pss_cons (ps_set (i := 3) scMade.nd rfl (.inl rfl) (by exact (pe_callB (show CallR _ _ (rIsG K cls d a) from call_isG hz hf) (by rfl) T.m_isinstance (by decide +kernel) (pa_cons (pv 2) (pa_cons (pe_tup (pa_cons (pe_glob (v := .ref C1) rfl X.g1 rfl) (pa_cons (pe_glob (v := .ref C2) rfl X.g2 rfl) (pa_cons (pe_glob (v := .ref C3) rfl X.g3 rfl) (pa_cons (pe_glob (v := .ref C4) rfl X.g4 rfl) (pa_cons (pe_glob (v := .ref C5) rfl X.g5 rfl) (pa_cons (pe_bltn (v := .ty "LookupError") (by rfl) X.m_LookupError PyProof.Rows.Boot.«LookupError» rfl) pa_nil))))))) pa_nil))))) (pss_one (ps_ret (pe_ifExp (PW.pt (pw_and (pt_val (by exact (pe_callB (show CallR _ _ (rIsG K cls d a) from call_isG hz hf) (by rfl) T.m_isinstance (by decide +kernel) (pa_cons (pv 2) (pa_cons (pe_glob (v := .ref CB) rfl X.eB.gC rfl) pa_nil))))) (pw_and1 (pt_not (pt_val (pv 3)))))) (pe_lstN (pa_cons (pe_xf X.xfB X.eB.noT hz hf (pv 2)) pa_nil)) (pe_lst (pa_cons pe_str pa_nil)))))))), ?_⟩
    refine ⟨v, rfl, fun x dx nx ndx nex => ?_⟩
    have hx0 : (upd (upd H dx (.own x)) x (.ins CH dx [])) x = some (.ins CH dx []) := upd_same
    have s0 : Same H (upd (upd H dx (.own x)) x (.ins CH dx [])) := fun b o e => by
      rw [upd_ne (ne_of_none e nx), upd_ne (ne_of_none e ndx)]
      exact e
    refine ⟨x, dx, v, d, rfl, hx0, Dq.same s0 _ _ hd, hl, fun c H1 k1 hx1 => ⟨rfl, ?_⟩, fun c dd H' s1 hdd => ?_⟩
    · obtain ⟨p, r, rfl, hp, rfl, hrl, hrb, hr1, hr4⟩ := cok_tup hd c
      have s1 : Same H H1 := fun b o e => k1 _ _ (ne_of_none e nx) (ne_of_none e nx) (s0 _ _ e)
      refine ⟨_, rfl, x, CH, dx, _, _, rfl, hx1, X.cl, X.nC, rfl, _, rfl, x, dx, _, rfl, hx1, x, p, r, rfl, ⟨⟨dx, hx1⟩, s1 _ _ hp⟩, by omega, r.length, rfl, by omega, by show 2 ≤ sizeLine; decide, fun pt npt => ?_⟩
      rw [hrl]
      exact q _ _ (s1.trans (same_new npt)) ⟨pt, rfl, .inl ⟨c, upd_same⟩⟩
    · have s01 := s0.trans s1
      refine ⟨true, X.exB, fun _ a na => ?_, fun e => Bool.noConfusion e⟩
      refine ⟨.ref a, rfl, by show 6 ≤ sizeLine; decide, fun p np => ?_⟩
      have s2 := same_new (o := .tup [.ref C1, .ref C2, .ref C3, .ref C4, .ref C5, .ty "LookupError"]) np
      have hdd2 := s2 _ _ hdd
      refine ⟨.ref p, CB, false, rfl, rfl, fun dd' e => ⟨_, by cases e; exact hdd2⟩, X.isB, .inr ⟨p, [.inl C1, .inl C2, .inl C3, .inl C4, .inl C5, .inr "LookupError"], rfl, SqT.of upd_same, X.kB⟩, ?_⟩
      refine ⟨.ref a, rfl, .ref CB, CB, true, rfl, rfl, fun dd' e => ⟨_, by cases e; exact hdd2⟩, X.isB, .inl ⟨.inl CB, rfl, X.kBB⟩, true, rfl, iteT ?_⟩
      refine ⟨_, rfl, false, rfl, iteT ?_⟩
      refine ⟨.ref a, rfl, rfl, rfl, dd, _, v, rfl, hdd2, by simp [List.lookup], by show 1 ≤ sizeLine; decide, fun p2 n2 ns => ?_⟩
      exact q _ _ (s01.trans (s2.trans (same_new n2))) ⟨p2, rfl, .inr ⟨c, ns, upd_same⟩⟩
/-- the number of a kind of a heap, or what the error says -/
def spLNum (CH : Addr) : Sp := fun vs H Q _ => ∃ (x p : Addr) (r : List Int) (v : V) (d : PyData), vs = [.ref x, v] ∧ HpAt CH H x p r ∧ Dq H v d ∧
  (numOk ((r.length : Int) - 1) d = false → ∀ l H', l ≠ sysModules → Same H H' → H' l = some (.lst [v, .bl true]) → Q (.ref l) H') ∧ (∀ j : Nat, d = .int j → j < r.length → Q (.int (r.getD j 0)) H)
theorem ok_lnum {f fN fU fTu fA fDs fX fCu fOo fIc fMa fNu fBe : Addr} {fd dN dU dTu dA dDs dX dCu dOo dIc dMa dNu dBe : FuncData} {k : Nat} (F : Fun K "_law_number" "_law_number" sLNum f fd) (T : Tx K mg fN fU fTu fA fDs fX fCu fOo fIc fMa fNu fBe dN dU dTu dA dDs dX dCu dOo dIc dMa dNu dBe) {CB CN CA C1 C2 C3 C4 C5 C6 C7 C8 CH gB gN gI gG gL : Addr} {xB xN xI xG xL : FuncData} (X : HE K mg CB CN CA C1 C2 C3 C4 C5 C6 C7 C8 CH gB gN gI gG gL xB xN xI xG xL) : FnOk P w K mg base CX0 (k + 7) f fd ["_law_heap", "_law_value"] (spLNum CH) := by
  have GG : FnR P w K mg base (L2.CX P w) 3 gG (spR (spHG CH CN)) := (ok_hg (k := 0) X.FG T X).raw X.bG .nil
  refine F.ok scLNum (fun vs H Q E h => ?_) (fun cdv A outer s H vs Q E hr h => ?_)
  · obtain ⟨x, p, r, v, d, rfl, _⟩ := h
    rfl
  · obtain ⟨x, p, r, v, d, rfl, hh, hd, q1, q2⟩ := h
    refine ⟨_, pss_one (ps_try_as (i := 2) (tb := fun W => tRet (tIxO CH (spR (spHG CH CN)) (WE W) (tVar 0) (tVar 1))) (ts := tNumSuite K CN CA C6 C7 C8) (Wout := fun _ _ _ _ => False) rfl rfl scLNum.nd rfl rfl ⟨rfl, by decide, Or.inl X.eN.gC⟩ takes0
        (fun W pn xe tk _ => pss_one (ps_ret (by exact (pe_ixO X.nq X.sG GG (hr.mono (by omega)) (fun σ => passAt tk σ) (pv 0) (pv 1)))))
        (fun a oe cls d pn hz hf => (pss_cons (ps_set (i := 3) scLNum.nd rfl (.inl rfl) (pe_not (by exact (pe_callB (show CallR _ _ (rIsG K cls d a) from call_isG hz hf) (by rfl) T.m_isinstance (by decide +kernel) (pa_cons (pv 2) (pa_cons (pe_tup (pa_cons (pe_glob (v := .ref CA) rfl X.gA rfl) (pa_cons (pe_glob (v := .ref C6) rfl X.g6 rfl) (pa_cons (pe_glob (v := .ref C7) rfl X.g7 rfl) (pa_cons (pe_glob (v := .ref C8) rfl X.g8 rfl) pa_nil))))) pa_nil)))))) (pss_one (ps_ret (pe_lstN (pa_cons (pe_xf X.xfN X.eN.noT hz hf (pv 2)) (pa_cons (pe_and (pv 3) (pe_one (by exact (pe_callB (show CallR _ _ (rIsG K cls d a) from call_isG hz hf) (by rfl) T.m_isinstance (by decide +kernel) (pa_cons (pv 2) (pa_cons (pe_bltn (v := .ty "LookupError") (by rfl) X.m_LookupError PyProof.Rows.Boot.«LookupError» rfl) pa_nil)))))) pa_nil)))))))), ?_⟩
    obtain ⟨⟨dx, hx⟩, hp⟩ := id hh
    refine ⟨_, rfl, _, rfl, x, dx, _, rfl, hx, x, p, r, v, d, rfl, hh, hd, fun c dd H' s1 hdd => ?_, q2⟩
    refine ⟨true, X.exN, fun _ a na => ?_, fun e => Bool.noConfusion e⟩
    refine ⟨.ref a, rfl, by show 4 ≤ sizeLine; decide, fun p np => ?_⟩
    have s2 := same_new (o := .tup [.ref CA, .ref C6, .ref C7, .ref C8]) np
    have hdd2 := s2 _ _ hdd
    refine ⟨.ref p, CN, false, rfl, rfl, fun dd' e => ⟨_, by cases e; exact hdd2⟩, X.isN, .inr ⟨p, [.inl CA, .inl C6, .inl C7, .inl C8], rfl, SqT.of upd_same, X.kN⟩, false, rfl, ?_⟩
    refine ⟨.ref a, rfl, rfl, rfl, dd, _, v, rfl, hdd2, by simp [List.lookup], _, rfl, true, rfl, ?_⟩
    rw [if_pos rfl]
    refine ⟨.ref a, rfl, .ty "LookupError", CN, true, rfl, rfl, fun dd' e => ⟨_, by cases e; exact hdd2⟩, X.isN, .inl ⟨.inr "LookupError", rfl, X.kNL⟩, by show 2 ≤ sizeLine; decide, fun p2 n2 ns => ?_⟩
    exact q1 c p2 _ ns (s1.trans (s2.trans (same_new n2))) upd_same
end
end DD
namespace DD
open PySem PySem.Spec PyProof.Rows L2 RZ
/-- a value that can be read as data, never sys.modules where it holds a dict -/
def Rx (b : Bool) (H : Hp) (v : V) (d : PyData) : Prop := ∀ {X : Cx} {pins : List (Addr × Obj)} {σ : L2.St} {s : Shared} (_ : Inv X pins σ H s) (u : Value), RelV v u → ∃ as, Reads s.heap u d as ∧ (b = true → sysModules ∉ as)
theorem rx_dq {b : Bool} {H : Hp} {v : V} {d : PyData} (h : Dq H v d) (n : b = true → noL d = true) : Rx b H v d := fun I u r => by
  obtain ⟨as, q, m⟩ := Dq.reads I d v u h r
  exact ⟨as, q, fun z => m (n z)⟩
inductive RxAll (b : Bool) (H : Hp) : List V → List PyData → Prop
  | nil : RxAll b H [] []
  | cons {v : V} {d : PyData} {vs : List V} {ds : List PyData} : Rx b H v d → RxAll b H vs ds → RxAll b H (v :: vs) (d :: ds)
theorem RxAll.reads {b : Bool} {X : Cx} {pins : List (Addr × Obj)} {σ : L2.St} {H : Hp} {s : Shared} (I : Inv X pins σ H s) : ∀ {ds : List PyData} {vs : List V} {us : List Value}, RxAll b H vs ds → Vals vs us → ∃ as, ReadsAll s.heap us ds as ∧ (b = true → sysModules ∉ as)
  | [], _, _, h, r => by
    cases h
    cases r
    exact ⟨_, .nil, fun _ => by simp⟩
  | d :: ds, _, _, h, r => by
    cases h with
    | cons a b =>
      cases r with
      | cons r1 r2 =>
        obtain ⟨as, q1, n1⟩ := a I _ r1
        obtain ⟨bs, q2, n2⟩ := RxAll.reads I b r2
        refine ⟨_, .cons q1 q2, fun z m => ?_⟩
        rcases List.mem_append.mp m with m | m
        · exact n1 z m
        · exact n2 z m
theorem rx_lst {b : Bool} {H : Hp} {p : Addr} {vs : List V} {ds : List PyData} (hp : H p = some (.lst vs)) (ne : b = true → p ≠ sysModules) (h : RxAll b H vs ds) : Rx b H (.ref p) (.list ds) := fun I u r => by
  cases r
  obtain ⟨its, rv, ⟨o, n, h1, h2, _, h3⟩, _⟩ := I.list (SqL.of hp)
  obtain ⟨as, ra, m⟩ := RxAll.reads I h rv
  refine ⟨_, .list (vs := its.toArray) h1 h2 h3 ra, fun z k => ?_⟩
  rcases List.mem_cons.mp k with k | k
  · exact ne z k.symm
  · exact m z k
theorem rx_tup {b : Bool} {H : Hp} {p : Addr} {vs : List V} {ds : List PyData} (hp : H p = some (.tup vs)) (h : RxAll b H vs ds) : Rx b H (.ref p) (.tuple ds) := fun I u r => by
  cases r
  obtain ⟨its, rv, ⟨o, ho, hc, n, hd⟩, _⟩ := I.tuple (SqT.of hp)
  obtain ⟨as, ra, m⟩ := RxAll.reads I h rv
  exact ⟨_, .tuple (vs := its.toArray) ho hc hd ra, fun z => m z⟩
theorem call_reprX {X : Cx} (hg : X.A.guards = some []) (hu : X.A.units + 66 < cLine) : CallR X (.builtin "repr") (fun xs H Q =>
    ∃ b a d, xs = [.ref a] ∧ Rx b H (.ref a) d ∧ (d.hasDict = true → b = true) ∧ d.showable = true ∧ d.depth ≤ 64 ∧ d.shown.length ≤ sizeLine ∧ Q (.str d.shown) H) := by
  intro pins s σ H xs us Q I r h
  obtain ⟨b, a, d, rfl, hd, hb, h1, h2, h3, q⟩ := h
  obtain ⟨u, rfl, ru⟩ := vals1 r
  obtain ⟨as, rd, nm⟩ := hd I _ ru
  cases ru
  exact repr_of_reads' (Q := fun u s1 => ∃ x H1, Inv X pins σ H1 s1 ∧ RelV x u ∧ Q x H1) rd h1 (fun z => nm (hb z)) hg (by omega) (fun _ _ e => e)
      (fun h' u tk hk => ⟨.str d.shown, H, I.kept hk, ⟨_, rfl⟩, q⟩) h3
/-- a value of this law -/
structure Va (d : PyData) : Prop where
  bd : Bd 2000 5 d
  nx : Nx d
  ln : lenD d ≤ 10
theorem Va.gd {d : PyData} (h : Va d) : Gd d := by
  refine ⟨h.bd.show_, Nat.le_trans h.bd.dp (by decide), ?_, h.nx⟩
  have h1 := PyData.shown_le 48 (by decide) _ h.bd.short
  have h2 := h.bd.wt
  rw [sizeLine_eq]
  omega
theorem va_odd {d : PyData} (h : d ∈ oddA) : Va d := by
  obtain ⟨a, b⟩ := val_odd h
  refine ⟨a.up (by decide) (by decide), b, ?_⟩
  have all : oddA.all (fun d => decide (lenD d ≤ 10)) = true := by decide +kernel
  exact of_decide_eq_true (List.all_eq_true.mp all d h)
theorem bd_big {i : Int} (h0 : -1 ≤ i) (h : i ≤ 1000001) : Bd 140 3 (.int i) ∧ Pl (.int i) := by
  have h11 := log2_lt_20 (n := i.natAbs) (by omega)
  have hl : (toString i).length ≤ 48 := Nat.le_trans (int_text_length_le (a := i) (k := 20) (by decide) (by omega)) (by decide)
  refine ⟨⟨decide_eq_true ?_, decide_eq_true (by omega), ?_, Nat.zero_le _⟩, rfl, rfl⟩
  · show (Str.ofString (toString i)).length ≤ 48
    rw [PySem.ofString_length]
    exact hl
  · show (if i == 0 then 0 else i.natAbs.log2 + 1) ≤ 140
    split
    · omega
    · omega
theorem ints_part {r : List Int} (h : ∀ x ∈ r, 0 ≤ x ∧ x ≤ 1000000) {a b : Nat} : ∀ e ∈ ((r.map PyData.int).drop a).take b, ∃ n : Int, e = .int n ∧ 0 ≤ n ∧ n ≤ 1000000 := fun e he => by
  obtain ⟨n, hn, rfl⟩ := List.mem_map.mp (List.mem_of_mem_drop (List.mem_of_mem_take he))
  exact ⟨n, rfl, h n hn⟩
theorem va_tup {x : PyData} {es : List PyData} (hx : Bd 140 3 x) (nx : Nx x) (h : ∀ e ∈ es, e = x ∨ ∃ n : Int, e = .int n ∧ 0 ≤ n ∧ n ≤ 1000000) (hl : es.length ≤ 10) : Va (.tuple es) := by
  refine ⟨(Bd.tup (w := 140) (k := 3) (fun e he => ?_) hl).up (by decide) (by decide), nx_mem nx fun e he => ?_, hl⟩
  · rcases h e he with rfl | ⟨n, rfl, h0, h1⟩
    · exact hx
    · exact (bd_big (by omega) (by omega)).1
  · rcases h e he with rfl | ⟨n, rfl, h0, h1⟩
    · exact .inl rfl
    · exact .inr (bd_big (by omega) (by omega)).2
theorem va_lst {es : List PyData} (h : ∀ e ∈ es, ∃ n : Int, e = .int n ∧ 0 ≤ n ∧ n ≤ 1000000) (hl : es.length ≤ 10) : Va (.list es) := by
  refine ⟨(Bd.lst (w := 140) (k := 3) (fun e he => ?_) hl).up (by decide) (by decide), nx_lst fun e he => ?_, Nat.zero_le _⟩
  · obtain ⟨n, rfl, h0, h1⟩ := h e he
    exact (bd_big (by omega) (by omega)).1
  · obtain ⟨n, rfl, h0, h1⟩ := h e he
    exact (bd_big (by omega) (by omega)).2
theorem scBent : FnScope ["_law_state", "_law_counts_here", "_law_spot", "_law_item", "_law_some"] ["_law_state", "_law_counts_here"] (defScope sBent) := ⟨rfl, rfl, rfl, by decide +kernel, rfl, by decide +kernel, by decide +kernel⟩
section
variable {P : Program} {w : World} {K : PySem.W.Frag} {mg : Str → Option Value} {base : Heap}
def spBent : Sp := fun vs H Q _ => ∃ (X : Addr → Prop) (dk c ce p : Addr) (B : Nat) (r : List Int), vs = [.ref dk, .ref p] ∧ LX X dk c H ∧ Dek H dk c ce B ∧ B + 4 ≤ 10000 ∧ H p = some (.tup (r.map V.int)) ∧ 1 ≤ r.length ∧ r.length ≤ 4 ∧ (∀ x ∈ r, 0 ≤ x ∧ x ≤ 1000000) ∧
  ∀ v d H', Va d → Kp2 dk c H H' → Dek H' dk c ce (B + 4) → Dq (Wo X H') v d → Q v H'
set_option maxHeartbeats 800000 in
theorem ok_bent {f fN fU fTu fA fDs fX fCu fOo fIc fMa fNu fBe : Addr} {fd dN dU dTu dA dDs dX dCu dOo dIc dMa dNu dBe : FuncData} {k : Nat} (F : Fun K "_law_bent" "_law_bent" sBent f fd) (T : Tx K mg fN fU fTu fA fDs fX fCu fOo fIc fMa fNu fBe dN dU dTu dA dDs dX dCu dOo dIc dMa dNu dBe) : FnOk P w K mg base CX0 (k + 3) f fd ["_law_state", "_law_counts_here"] spBent := by
  have GX : FnOk P w K mg base CX0 (k + 1) fX dX ["_law_state", "_law_many"] spNext := ok_next T.X T.m_len
  have GO : FnOk P w K mg base CX0 (k + 2) fOo dOo ["_law_state"] spOdd := ok_odd T.Oo T
  refine F.ok scBent (fun vs H Q E h => ?_) (fun cdv A outer s H vs Q E hr h => ?_)
  · obtain ⟨X, dk, c, ce, p, B, r, rfl, _⟩ := h
    rfl
  · obtain ⟨X, dk, c, ce, p, B, r, rfl, hX, dek, hB, hp, r1, r4, hrb, q⟩ := h
    refine ⟨_, (pss_cons (ps_set (i := 2) scBent.nd rfl (.inl rfl) (pe_call GX (hr.mono (by omega)) (by rfl) T.gX T.X.kp T.bX .nil pass0 (pa_cons (pv 0) (pa_cons (pe_callB call_len_seq (by rfl) T.m_len PySem.boot_len (pa_cons (pv 1) pa_nil)) pa_nil))))
      (pss_cons (ps_set (i := 3) scBent.nd rfl (.inl rfl) (pe_ix (show IxR _ (rIxL K) from ix_list) (pe_lst (pa_cons (pe_op op_add (pe_op op_pow pe_int pe_int) pe_int) (pa_cons (pe_un un_neg pe_int) (pa_cons pe_bl (pa_cons pe_non (pa_cons (pe_op op_add (pe_ix (show IxR _ (rIxT K) from ix_tup) (pv 1) (pv 2) (fun _ _ => rfl)) pe_int) (pa_cons (pe_call GO (hr.mono (by omega)) (by rfl) T.gOo T.Oo.kp T.bOo .nil pass0 (pa_cons (pv 0) pa_nil)) pa_nil))))))) (pe_call GX (hr.mono (by omega)) (by rfl) T.gX T.X.kp T.bX .nil pass0 (pa_cons (pv 0) (pa_cons pe_int pa_nil))) (fun _ _ => rfl)))
      (pss_cons (ps_set (i := 4) scBent.nd rfl (.inl rfl) (pe_lst (pa_cons (pe_op op_catQ (pe_op op_catQ (pe_slice sl_tupQ (pv 1) po_none (po_some (pv 2))) (pe_tup (pa_cons (pv 3) pa_nil))) (pe_slice sl_tupQ (pv 1) (po_some (pe_op op_add (pv 2) pe_int)) po_none)) (pa_cons (pe_op op_catQ (pe_slice sl_tupQ (pv 1) po_none (po_some (pv 2))) (pe_slice sl_tupQ (pv 1) (po_some (pe_op op_add (pv 2) pe_int)) po_none)) (pa_cons (pe_op op_catQ (pv 1) (pe_tup (pa_cons (pv 3) pa_nil))) pa_nil)))))
      (pss_one (ps_ret (pe_ix (show IxR _ (rIxL K) from ix_list) (pe_op op_cat (pe_op op_cat (pv 4) (pe_slice sl_list (pv 4) po_none (po_some pe_int))) (pe_lst (pa_cons (pe_callTy (show CallR _ _ (rLstQ K) from call_list_of) (by rfl) T.m_list (by decide +kernel) (pa_cons (pv 1) pa_nil)) (pa_cons (pe_op op_repQ (pv 1) pe_int) pa_nil)))) (pe_call GX (hr.mono (by omega)) (by rfl) T.gX T.X.kp T.bX .nil pass0 (pa_cons (pv 0) (pa_cons pe_int pa_nil))) (fun _ _ => rfl))))))), ?_⟩
    have npX : ¬ X p := tup_ne hX (Same.refl _) hp
    obtain ⟨pn1, pn2⟩ := hX.no npX
    refine ⟨_, rfl, _, rfl, p, _, rfl, .inr (SqT.of hp), ?_⟩
    refine ⟨dk, c, ce, B, _, rfl, dek, by omega, by rw [List.length_map]; omega, by rw [List.length_map]; omega, fun j H1 j0 j1 k1 d1 => ?_⟩
    rw [List.length_map] at j1
    obtain ⟨j, rfl⟩ : ∃ j' : Nat, j = (j' : Int) := ⟨j.toNat, by omega⟩
    have hj : j < r.length := by omega
    have hp1 := k1 _ _ pn1 pn2 hp
    have hX1 := hX.kp k1 d1
    have hat : (r.map V.int)[j]? = some (.int r[j]) := by
      rw [List.getElem?_map, List.getElem?_eq_getElem hj]
      rfl
    have hrj := hrb _ (List.getElem_mem hj)
    refine ⟨10, 6, rfl, rfl, ⟨by decide, by decide, by decide⟩, _, 1, rfl, rfl, 1, rfl, _, rfl, _, rfl, p, _, (j : Int), .int r[j], rfl, rfl, SqT.of hp1, atI_nat hat, _, 1, rfl, rfl, _, rfl, X, dk, c, ce, B + 1, rfl, hX1, d1, by omega, fun v d H2 hd k2 d2 hq => ⟨by show 6 ≤ sizeLine; decide, fun l nl => ?_⟩⟩
    have s3 := same_new (o := .lst [.int ((10 : Int) ^ (6 : Int).toNat + 1), .int (-1), .bl true, .non, .int (r[j] + 1), v]) nl
    have hX2 := (hX1.kp k2 d2).same s3
    have hp2 := s3 _ _ (k2 _ _ pn1 pn2 hp1)
    have nlX := new_ne (hX1.kp k2 d2) (Same.refl _) nl
    obtain ⟨ln1, ln2⟩ := hX.no nlX
    refine ⟨_, rfl, dk, c, ce, B + 2, 6, rfl, d2.keep s3, by omega, by decide, by decide, fun i H3 i0 i1 k3 d3 => ?_⟩
    obtain ⟨i, rfl⟩ : ∃ i' : Nat, i = (i' : Int) := ⟨i.toNat, by omega⟩
    have hl3 := k3 _ _ ln1 ln2 (upd_same (H := H2) (a := l) (o := .lst [.int ((10 : Int) ^ (6 : Int).toNat + 1), .int (-1), .bl true, .non, .int (r[j] + 1), v]))
    have hX3 := hX2.kp k3 d3
    have hp3 := k3 _ _ pn1 pn2 hp2
    have all : DqAll (Wo X H3) [.int ((10 : Int) ^ (6 : Int).toNat + 1), .int (-1), .bl true, .non, .int (r[j] + 1), v] [.int ((10 : Int) ^ (6 : Int).toNat + 1), .int (-1), .bool true, .none, .int (r[j] + 1), d] :=
      .cons (.int _) (.cons (.int _) (.cons (.bl _) (.cons .non (.cons (.int _) (.cons (Dq.same ((wo_same s3).trans (wo_kp hX2 k3)) _ _ hq) .nil)))))
    obtain ⟨it, hit⟩ : ∃ it, [V.int ((10 : Int) ^ (6 : Int).toNat + 1), .int (-1), .bl true, .non, .int (r[j] + 1), v][i]? = some it := ⟨([V.int ((10 : Int) ^ (6 : Int).toNat + 1), .int (-1), .bl true, .non, .int (r[j] + 1), v])[i]'(by show i < 6; omega), List.getElem?_eq_getElem _⟩
    obtain ⟨z, hz, hqz⟩ := all.get hit
    have zp : Bd 140 3 z ∧ Nx z := by
      have hm := List.mem_of_getElem? hz
      simp only [List.mem_cons, List.not_mem_nil, or_false] at hm
      rcases hm with rfl | rfl | rfl | rfl | rfl | rfl
      · have := bd_big (i := (10 : Int) ^ (6 : Int).toNat + 1) (by decide) (by decide)
        exact ⟨this.1, this.2.nx⟩
      · have := bd_big (i := -1) (by decide) (by decide)
        exact ⟨this.1, this.2.nx⟩
      · exact ⟨(bd_bool true).up (by decide) (by decide), fun e => by cases e⟩
      · exact val_odd (d := .none) (by unfold oddA; exact List.mem_cons_self)
      · have := bd_big (i := r[j] + 1) (by omega) (by omega)
        exact ⟨this.1, this.2.nx⟩
      · exact val_odd hd
    refine ⟨l, _, (i : Int), it, rfl, rfl, SqL.of hl3, atI_nat hit, ?_⟩
    have kk : Kp2 dk c H H3 := ((k1.trans k2).trans (kps s3)).trans k3
    clear all hz hit hl3 hq k1 k2 k3 d1 d2 hX1 hX2 hp1 hp2 nl nlX ln1 ln2 s3 hat hp dek hX
    have qp : Dq (Wo X H3) (.ref p) (.tuple (r.map PyData.int)) := .tup (wo_of hp3 npX) (dq_ints r)
    have LS : ∀ σ : L2.St, σ[1]? = some (some (V.ref p)) → σ[2]? = some (some (V.int (j : Int))) → σ[3]? = some (some it) → Lit X σ H3 (tLst _) (.list _) := fun σ e1 e2 e3 => lit_lst hX3 (litA_cons (lit_cat hX3 (lit_cat hX3 (lit_sl hX3 (lit_var (i := 1) e1 qp) lito_none (lito_var (i := 2) e2)) (lit_tup hX3 (litA_cons (lit_var (i := 3) e3 hqz) litA_nil) (by show 1 ≤ 1000; decide)) (by
        simp only [List.length_append, List.length_take, List.length_drop, List.length_map, List.length_cons, List.length_nil]
        omega)) (lit_sl hX3 (lit_var (i := 1) e1 qp) (lito_var1 (i := 2) e2) lito_none) (by
        simp only [List.length_append, List.length_take, List.length_drop, List.length_map, List.length_cons, List.length_nil]
        omega)) (litA_cons (lit_cat hX3 (lit_sl hX3 (lit_var (i := 1) e1 qp) lito_none (lito_var (i := 2) e2)) (lit_sl hX3 (lit_var (i := 1) e1 qp) (lito_var1 (i := 2) e2) lito_none) (by
        simp only [List.length_append, List.length_take, List.length_drop, List.length_map, List.length_cons, List.length_nil]
        omega)) (litA_cons (lit_cat hX3 (lit_var (i := 1) e1 qp) (lit_tup hX3 (litA_cons (lit_var (i := 3) e3 hqz) litA_nil) (by show 1 ≤ 1000; decide)) (by
        simp only [List.length_append, List.length_take, List.length_drop, List.length_map, List.length_cons, List.length_nil]
        omega)) litA_nil))) (by show 3 ≤ 1000; decide)
    refine at_name ?_
    dsimp only
    refine at_seq (at_asg ?_)
    refine LS _ rfl rfl rfl H3 _ (Same.refl _) fun v4 H4 s4 q4 => ?_
    refine at_name ?_
    dsimp only
    refine at_ret ?_
    have hX4 := hX3.same s4
    have qp4 := Dq.same (wo_same s4) _ _ qp
    have d4 := d3.keep s4
    have LR : ∀ σ : L2.St, σ[1]? = some (some (V.ref p)) → σ[4]? = some (some v4) → Lit X σ H4 (tOp rCat (tOp rCat (tVar 4) (tSl (rSlL K) (tVar 4) tNoPart (tPart (tC (.int 1))))) (tLst (tCons (tCB (rLstQ K) (tCons (tVar 1) tNil)) (tCons (tOp rRepQ (tVar 1) (tC (.int 2))) tNil)))) (.list _) := fun σ e1 e4 =>
      lit_catL hX4 (lit_catL hX4 (lit_var e4 q4) (lit_slL hX4 (lit_var e4 q4) lito_none lito_c) (by
        simp only [List.length_append, List.length_take, List.length_drop, List.length_cons, List.length_nil]
        omega)) (lit_lst hX4 (litA_cons (lit_list hX4 (lit_var e1 qp4)) (litA_cons (lit_rep hX4 (lit_var e1 qp4) (lit_c fun _ => .int 2) (by
          intro z
          have := congrArg List.length z
          rw [List.length_map] at this
          have : r.length = 0 := this
          omega) (by rw [List.length_map]; omega) (by decide) (by decide)) litA_nil)) (by show 2 ≤ 1000; decide)) (by
        simp only [List.length_append, List.length_take, List.length_drop, List.length_cons, List.length_nil]
        omega)
    refine pick hX4 (LR _ rfl rfl) d4 (by omega) rfl rfl (by decide) (by decide) fun v d H' hm k5 d5 hq5 => q v d H' ?_ ((kk.trans (kps s4)).trans k5) d5 hq5
    have im : ∀ e ∈ r.map PyData.int, ∃ n : Int, e = .int n ∧ 0 ≤ n ∧ n ≤ 1000000 := fun e he => by
      obtain ⟨n, hn, rfl⟩ := List.mem_map.mp he
      exact ⟨n, rfl, hrb n hn⟩
    rcases List.mem_append.mp hm with hm | hm
    · have hS := Or.elim (List.mem_append.mp hm) id (fun h => List.mem_of_mem_drop (List.mem_of_mem_take h))
      rcases List.mem_cons.mp hS with rfl | hS
      · refine va_tup zp.1 zp.2 (fun e he => ?_) (by
          simp only [List.length_append, List.length_take, List.length_drop, List.length_map, List.length_cons, List.length_nil]
          omega)
        rcases List.mem_append.mp he with h | h
        · rcases List.mem_append.mp h with h | h
          · exact .inr (ints_part hrb e h)
          · exact .inl (List.mem_singleton.mp h)
        · exact .inr (ints_part hrb e h)
      · rcases List.mem_cons.mp hS with rfl | hS
        · refine va_tup zp.1 zp.2 (fun e he => ?_) (by
            simp only [List.length_append, List.length_take, List.length_drop, List.length_map, List.length_cons, List.length_nil]
            omega)
          rcases List.mem_append.mp he with h | h
          · exact .inr (ints_part hrb e h)
          · exact .inr (ints_part hrb e h)
        · rcases List.mem_cons.mp hS with rfl | hS
          · refine va_tup zp.1 zp.2 (fun e he => ?_) (by
              simp only [List.length_append, List.length_map, List.length_cons, List.length_nil]
              omega)
            rcases List.mem_append.mp he with h | h
            · exact .inr (im e h)
            · exact .inl (List.mem_singleton.mp h)
          · cases hS
    · rcases List.mem_cons.mp hm with rfl | hm
      · exact va_lst im (by rw [List.length_map]; omega)
      · rcases List.mem_cons.mp hm with rfl | hm
        · refine va_tup zp.1 zp.2 (fun e he => .inr ?_) ?_
          · obtain ⟨l', hl', he'⟩ := List.mem_flatten.mp he
            rw [(List.mem_replicate.mp hl').2] at he'
            exact im e he'
          · show (List.replicate 2 (r.map PyData.int)).flatten.length ≤ 10
            simp only [List.length_flatten, List.map_replicate, List.length_map, List.sum_replicate_nat]
            omega
        · cases hm
end
end DD
namespace DD
open PySem PySem.Spec PyProof.Rows L2 RZ
@[irreducible] def dueD (d : PyData) : PyData := if cOk d = true then .tuple [d, .int (lenD d : Nat)] else .list [d]
@[irreducible] def pairD (d : PyData) : PyData := .list [dueD d, dueD d]
@[irreducible] def numD (d : PyData) : PyData := .list [d, .bool true]
theorem rx_due {H : Hp} {m v : V} {d : PyData} (n : Nx d) (hd : Dq H v d) (h : DueAt H m v d) : Rx d.hasDict H m (dueD d) := by
  obtain ⟨p, rfl, ⟨c, hp⟩ | ⟨c, ne, hp⟩⟩ := h
  · unfold dueD
    rw [if_pos c]
    exact rx_tup hp (.cons (rx_dq hd n) (.cons (rx_dq (.int _) fun _ => rfl) .nil))
  · unfold dueD
    rw [if_neg (by rw [c]; exact Bool.false_ne_true)]
    exact rx_lst hp (fun _ => ne) (.cons (rx_dq hd n) .nil)
theorem rx_pair {H : Hp} {a : Addr} {m1 m2 v : V} {d : PyData} (n : Nx d) (hd : Dq H v d) (h1 : DueAt H m1 v d) (h2 : DueAt H m2 v d) (ha : H a = some (.lst [m1, m2])) (ne : a ≠ sysModules) : Rx d.hasDict H (.ref a) (pairD d) := by
  unfold pairD
  exact rx_lst ha (fun _ => ne) (.cons (rx_due n hd h1) (.cons (rx_due n hd h2) .nil))
theorem due_dict {d : PyData} (h : (dueD d).hasDict = true) : d.hasDict = true := by
  unfold dueD at h
  split at h
  · have h : (d.hasDict || (false || false)) = true := h
    simpa using h
  · have h : (d.hasDict || false) = true := h
    simpa using h
theorem pair_dict {d : PyData} (h : (pairD d).hasDict = true) : d.hasDict = true := by
  unfold pairD at h
  have h : ((dueD d).hasDict || ((dueD d).hasDict || false)) = true := h
  refine due_dict ?_
  simpa using h
theorem bd_due {d : PyData} (v : Va d) : Bd 4002 6 (dueD d) := by
  unfold dueD
  split
  · refine (Bd.tup (w := 2000) (k := 5) (n := 2) (fun e he => ?_) (Nat.le_refl _))
    rcases List.mem_cons.mp he with rfl | he
    · exact v.bd
    · rw [List.mem_singleton.mp he]
      have := v.ln
      exact (bd_big (by omega) (by omega)).1.up (by decide) (by decide)
  · refine (Bd.lst (w := 2000) (k := 5) (n := 1) (fun e he => ?_) (Nat.le_refl _)).up (by decide) (by decide)
    rw [List.mem_singleton.mp he]
    exact v.bd
theorem bd_pair {d : PyData} (v : Va d) : Bd 10000 8 (pairD d) := by
  unfold pairD
  refine (Bd.lst (w := 4002) (k := 6) (n := 2) (fun e he => ?_) (Nat.le_refl _)).up (by decide) (by decide)
  rcases List.mem_cons.mp he with rfl | he
  · exact bd_due v
  · rw [List.mem_singleton.mp he]
    exact bd_due v
theorem bd_num {d : PyData} (v : Va d) : Bd 10000 8 (numD d) := by
  unfold numD
  refine (Bd.lst (w := 2000) (k := 5) (n := 2) (fun e he => ?_) (Nat.le_refl _)).up (by decide) (by decide)
  rcases List.mem_cons.mp he with rfl | he
  · exact v.bd
  · rw [List.mem_singleton.mp he]
    exact (bd_bool true).up (by decide) (by decide)
theorem rx_num {H : Hp} {v : V} {d : PyData} {l : Addr} (hd : Dq H v d) (hl : H l = some (.lst [v, .bl true])) : Rx false H (.ref l) (numD d) := by
  unfold numD
  exact rx_lst hl (fun z => by cases z) (.cons (rx_dq hd fun z => by cases z) (.cons (rx_dq (.bl true) fun z => by cases z) .nil))
theorem num_dict {d : PyData} (n : d.hasDict = false) : (numD d).hasDict = true → false = true := fun h => by
  unfold numD at h
  have h : (d.hasDict || (false || false)) = true := h
  rw [n] at h
  exact h
theorem shaped_intsL (r : List Int) : SeqAt.shaped (.list (r.map PyData.int)) = true := PySem.W.shaped_ints r
theorem bd_sz {d : PyData} (b : Bd 10000 8 d) : d.depth ≤ 64 ∧ d.shown.length ≤ sizeLine := by
  refine ⟨Nat.le_trans b.dp (by decide), ?_⟩
  have h1 := PyData.shown_le 48 (by decide) _ b.short
  have h2 := b.wt
  rw [sizeLine_eq]
  omega
theorem ne_self {v : V} : (!decide (v = v)) = false := by simp
/-- the first items of a list of written data -/
def LitP (X : Addr → Prop) (σ : L2.St) (H0 : Hp) (f : TA → TA) (ds : List PyData) : Prop := ∀ (tl : TA) (H : Hp) (Q : List V → Hp → Prop), Same H0 H → (∀ vs H', Same H H' → DqAll (Wo X H') vs ds → tl σ H' fun xs H2 => Q (vs ++ xs) H2) → (f tl) σ H Q
theorem litP_nil {X : Addr → Prop} {σ : L2.St} {H0 : Hp} : LitP X σ H0 (fun t => t) [] := fun tl H Q s k => k [] H (Same.refl _) .nil
theorem litP_cons {X : Addr → Prop} {σ : L2.St} {H0 : Hp} {te : TE} {f : TA → TA} {d : PyData} {ds : List PyData} (a : Lit X σ H0 te d) (b : LitP X σ H0 f ds) : LitP X σ H0 (fun t => tCons te (f t)) (d :: ds) :=
  fun tl H Q s k => a H _ s fun v H1 s1 q1 => b tl H1 _ (s.trans s1) fun vs H2 s2 q2 => k (v :: vs) H2 (s1.trans s2) (.cons (Dq.same (wo_same s2) _ _ q1) q2)
theorem va_zeros {x : Int} {es : List PyData} (h : ∀ e ∈ es, e = .int x) (h0 : 0 ≤ x) (h1 : x ≤ 1000000) (hl : es.length ≤ 10) : Va (.tuple es) :=
  va_tup (x := .none) (val_odd (d := .none) (by unfold oddA; exact List.mem_cons_self)).1 (fun z => by cases z) (fun e he => .inr ⟨x, h e he, h0, h1⟩) hl
theorem rep_mem {x : PyData} {n : Nat} : ∀ e ∈ (List.replicate n [x]).flatten, e = x := fun e he => by
  obtain ⟨l, hl, he⟩ := List.mem_flatten.mp he
  rw [(List.mem_replicate.mp hl).2] at he
  exact List.mem_singleton.mp he
theorem rep_len {x : PyData} {n : Nat} : (List.replicate n [x]).flatten.length = n := by
  simp only [List.length_flatten, List.map_replicate, List.sum_replicate_nat, List.length_cons, List.length_nil]
  omega
theorem va_int {i : Int} (h0 : -1 ≤ i) (h : i ≤ 1000001) : Va (.int i) := ⟨(bd_big h0 h).1.up (by decide) (by decide), (bd_big h0 h).2.nx, Nat.zero_le _⟩
theorem Dek.lx {H : Hp} {dk c ce : Addr} {B : Nat} (d : Dek H dk c ce B) : LX (fun a => a = dk ∨ a = c) dk c H := by
  obtain ⟨⟨ns, rs, t, h1, _, h3, _⟩, _⟩ := d
  refine ⟨.inl rfl, .inr rfl, fun a ha => ?_⟩
  rcases ha with rfl | rfl
  · exact ⟨_, h1⟩
  · exact ⟨_, h3⟩
theorem LX.add {X : Addr → Prop} {dk c D : Addr} {H : Hp} {xs : List V} (h : LX X dk c H) (n : H D = none) : LX (fun a => X a ∨ a = D) dk c (upd H D (.lst xs)) := ⟨.inl h.d, .inl h.c, fun a ha => by
  rcases ha with ha | rfl
  · obtain ⟨l, e⟩ := h.all a ha
    exact ⟨l, by rw [upd_ne (ne_of_none e n)]; exact e⟩
  · exact ⟨xs, upd_same⟩⟩
theorem LX.upd {X : Addr → Prop} {dk c D : Addr} {H : Hp} {xs : List V} (h : LX X dk c H) : LX X dk c (upd H D (.lst xs)) := ⟨h.d, h.c, fun a ha => by
  by_cases e : a = D
  · subst e
    exact ⟨xs, upd_same⟩
  · obtain ⟨l, e'⟩ := h.all a ha
    exact ⟨l, by rw [upd_ne e]; exact e'⟩⟩
theorem wo_add {X : Addr → Prop} {D : Addr} {H : Hp} {o : HO} (n : H D = none) : Same (Wo X H) (Wo (fun a => X a ∨ a = D) (upd H D o)) := fun b o' e => by
  obtain ⟨h, h1⟩ := wo_some e
  have hb : b ≠ D := ne_of_none h n
  exact wo_of (by rw [upd_ne hb]; exact h) (fun z => z.elim h1 hb)
theorem wo_updX {X : Addr → Prop} {D : Addr} {H : Hp} {o : HO} (x : X D) : Same (Wo X H) (Wo X (upd H D o)) := fun b o' e => by
  obtain ⟨h, h1⟩ := wo_some e
  have hb : b ≠ D := fun z => h1 (by rw [z]; exact x)
  exact wo_of (by rw [upd_ne hb]; exact h) h1
theorem va_row {r : List Int} (h : ∀ x ∈ r, 0 ≤ x ∧ x ≤ 1000000) (hl : r.length ≤ 10) : Va (rowD r) := by
  refine va_tup (x := .none) (val_odd (d := .none) (by unfold oddA; exact List.mem_cons_self)).1 (fun z => by cases z) (fun e he => ?_) (by rw [List.length_map]; exact hl)
  obtain ⟨n, hn, rfl⟩ := List.mem_map.mp he
  exact .inr ⟨n, rfl, h n hn⟩
abbrev NLw : List Str := ["_law_script", "_law_state", "_law_turn", "_law_counts_here", "_law_values", "_law_value", "_law_k", "_law_shown", "_law_due", "_law_heap", "_law_kind"]
theorem scLaw : FnScope NLw ["_law_script"] (defScope sLaw) := ⟨rfl, rfl, rfl, by decide +kernel, rfl, by decide +kernel, by decide +kernel⟩
section
variable {P : Program} {w : World} {K : PySem.W.Frag} {mg : Str → Option Value} {base : Heap}
def spHI0 (CH : Addr) : Sp := fun vs H Q E => ∃ (x dx p : Addr) (r : List Int), vs = [.ref x, .ref p] ∧ H x = some (.ins CH dx []) ∧ H p = some (.tup (r.map V.int)) ∧ 1 ≤ r.length ∧ r.length ≤ 4 ∧ (∀ y ∈ r, 0 ≤ y ∧ y ≤ 1000000) ∧
  ∀ H', Kp2 x x H H' → H' x = some (.ins CH dx [("counts", .ref p)]) → Q .non H'
theorem all_num {m : Int} : ∀ {r : List Int}, (∀ y ∈ r, 0 ≤ y ∧ y ≤ m) → (r.map PyData.int).all (numOk m) = true
  | [], _ => rfl
  | y :: r, h => by
    have h0 := h y List.mem_cons_self
    rw [List.map_cons, List.all_cons, all_num fun z hz => h z (List.mem_cons_of_mem _ hz)]
    show ((decide (0 ≤ y) && decide (y ≤ m)) && true) = true
    rw [decide_eq_true h0.1, decide_eq_true h0.2]
    rfl
theorem cok_row {r : List Int} (h : ∀ y ∈ r, 0 ≤ y ∧ y ≤ 1000000) (h1 : 1 ≤ r.length) (h4 : r.length ≤ 4) : cOk (rowD r) = true := by
  show ((decide ((1 : Int) ≤ ((r.map PyData.int).length : Int)) && decide (((r.map PyData.int).length : Int) ≤ 4)) && (r.map PyData.int).all (numOk 1000000)) = true
  rw [all_num h, List.length_map, decide_eq_true (show (1 : Int) ≤ (r.length : Int) by omega), decide_eq_true (show (r.length : Int) ≤ 4 by omega)]
  rfl
theorem ok_hi0 {f fN fU fTu fA fDs fX fCu fOo fIc fMa fNu fBe : Addr} {fd dN dU dTu dA dDs dX dCu dOo dIc dMa dNu dBe : FuncData} {k : Nat} (F : Fun K "__init__" "Heap.__init__" hInit f fd) (T : Tx K mg fN fU fTu fA fDs fX fCu fOo fIc fMa fNu fBe dN dU dTu dA dDs dX dCu dOo dIc dMa dNu dBe) {CB CN CA C1 C2 C3 C4 C5 C6 C7 C8 CH gB gN gI gG gL : Addr} {xB xN xI xG xL : FuncData} (X : HE K mg CB CN CA C1 C2 C3 C4 C5 C6 C7 C8 CH gB gN gI gG gL xB xN xI xG xL) : FnOk P w K mg base CX0 (k + 4) f fd ["self", "counts"] (spHI0 CH) := by
  have GA : FnOk P w K mg base CX0 (k + 3) fA dA ["value", "fewest", "most", "limit"] spNums := ok_nums T.A T.Tu T.bTu T.gTu T.U T.bU T.gU T.N T.bN T.gN T.m_isinstance T.m_int T.m_bool T.m_tuple T.m_len T.m_all
  obtain ⟨tk1, h1⟩ := X.m1
  obtain ⟨tk2, h2⟩ := X.m2
  refine F.ok scHI (fun vs H Q E h => ?_) (fun cdv A outer s H vs Q E hr h => ?_)
  · obtain ⟨x, dx, p, r, rfl, _⟩ := h
    rfl
  · obtain ⟨x, dx, p, r, rfl, hx, hp, r1, r4, hrb, q⟩ := h
    refine ⟨_, (pss_cons (ps_if (pt_not (pt_val (pe_call GA (hr.mono (by omega)) (by rfl) T.gA T.A.kp T.bA .nil pass0 (pa_cons (pv 1) (pa_cons pe_int (pa_cons (pe_glob (v := .int 4) rfl h2 ⟨_, rfl⟩) (pa_cons (pe_glob (v := .int 1000000) rfl h1 ⟨_, rfl⟩) pa_nil))))))) (pss_one ps_never) pss_nil)
      (pss_one (ps_fld (pv 0) (pv 1) rfl))), ?_⟩
    refine ⟨_, rfl, .ref p, rowD r, 1, 4, 1000000, rfl, .tup hp (dq_ints r), by show (r.map PyData.int).length ≤ 1000; rw [List.length_map]; omega, fun H1 s1 => ⟨_, rfl, ?_⟩⟩
    refine iteF2 (by rw [show (isTup (rowD r) && (decide ((1 : Int) ≤ (lenD (rowD r) : Int)) && decide ((lenD (rowD r) : Int) ≤ 4)) && allOk 1000000 (rowD r)) = true from cok_row hrb r1 r4]; rfl) ?_
    exact ⟨_, rfl, _, rfl, x, CH, dx, _, rfl, s1 _ _ hx, X.cl, X.nC, by decide, q _ ((kps s1).trans kp2_upd1) upd_same⟩
def spLaw (K : PySem.W.Frag) : Sp := fun vs H Q _ => ∃ (a : Addr) (ns : List Int), vs = [.ref a] ∧ SqL K H a (ns.map V.int) ∧ ns.length ≤ 63 ∧ ∀ H', Q (.bl true) H'
set_option maxHeartbeats 6400000 in
theorem ok_law {f fN fU fTu fA fDs fX fCu fOo fIc fMa fNu fBe : Addr} {fd dN dU dTu dA dDs dX dCu dOo dIc dMa dNu dBe : FuncData} (F : Fun K "law" "law" sLaw f fd) (T : Tx K mg fN fU fTu fA fDs fX fCu fOo fIc fMa fNu fBe dN dU dTu dA dDs dX dCu dOo dIc dMa dNu dBe) {CB CN CA C1 C2 C3 C4 C5 C6 C7 C8 CH gB gN gI gG gL : Addr} {xB xN xI xG xL : FuncData} (X : HE K mg CB CN CA C1 C2 C3 C4 C5 C6 C7 C8 CH gB gN gI gG gL xB xN xI xG xL) : FnG P w K mg base 9 f fd ["_law_script"] (spLaw K) := by
  have GDs : FnOk P w K mg base CX0 1 fDs dDs ["_law_script"] (spDraws K) := ok_draws (k := 0) T.Ds T
  have GX : FnOk P w K mg base CX0 1 fX dX ["_law_state", "_law_many"] spNext := ok_next T.X T.m_len
  have GCu : FnOk P w K mg base CX0 2 fCu dCu ["_law_state", "_law_width"] spCounts := ok_counts (k := 0) T.Cu T
  have GOo : FnOk P w K mg base CX0 2 fOo dOo ["_law_state"] spOdd := ok_odd (k := 0) T.Oo T
  have GIc : FnOk P w K mg base CX0 1 fIc dIc ["_law_value"] spIsC := ok_isc (k := 0) T.Ic T
  have GMa : FnOk P w K mg base CX0 7 fMa dMa ["_law_value"] spMade := ok_made (k := 0) T.Ma T X
  have GNu : FnOk P w K mg base CX0 7 fNu dNu ["_law_heap", "_law_value"] (spLNum CH) := ok_lnum (k := 0) T.Nu T X
  have GBe : FnOk P w K mg base CX0 3 fBe dBe ["_law_state", "_law_counts_here"] spBent := ok_bent (k := 0) T.Be T
  have GHI : FnOk P w K mg base CX0 4 gI xI ["self", "counts"] (spHI0 CH) := ok_hi0 (k := 0) X.FI T X
  refine fnG_of F scLaw (fun vs H Q E h => ?_) (fun cdv A hgu outer s H vs Q E hr h => ?_)
  · obtain ⟨a, ns, rfl, _⟩ := h
    rfl
  · obtain ⟨a, ns, rfl, hS, hlen, q⟩ := h
    have hu : (A.deeper (envOfC "law" (defScope sLaw) s.heap.objs.size f cdv)).units + 66 < cLine := by
      have := hr.un
      omega
    refine ⟨_, (pss_cons (ps_set (i := 1) scLaw.nd rfl (.inr rfl) (pe_call GDs (hr.mono (by omega)) (by rfl) T.gDs T.Ds.kp T.bDs .nil pass0 (pa_cons (pv 0) pa_nil)))
      (pss_cons (ps_for PassesOwn.never rfl (pi_range1 (by rfl) T.m_range (pa_cons pe_int pa_nil)) (pg_name (i := 2) scLaw.nd rfl (Or.inl rfl)) (pss_cons (ps_set (i := 3) scLaw.nd rfl (.inr rfl) (pe_call GCu (hr.mono (by omega)) (by rfl) T.gCu T.Cu.kp T.bCu .nil pass0 (pa_cons (pv 1) (pa_cons (pe_op op_add pe_int (pe_call GX (hr.mono (by omega)) (by rfl) T.gX T.X.kp T.bX .nil pass0 (pa_cons (pv 1) (pa_cons pe_int pa_nil)))) pa_nil))))
      (pss_cons (ps_set (i := 4) scLaw.nd rfl (.inl rfl) (pe_lst (pa_cons (pv 3) (pa_cons (pe_op op_repQ (pe_tup (pa_cons pe_int pa_nil)) (pe_callB (show CallR _ _ (rLenQ K) from call_len_seq) (by rfl) T.m_len PySem.boot_len (pa_cons (pv 3) pa_nil))) (pa_cons (pe_tup pa_nil) (pa_cons (pe_op op_repQ (pe_tup (pa_cons pe_int pa_nil)) pe_int) (pa_cons (pe_op op_repQ (pe_tup (pa_cons (pe_op op_pow pe_int pe_int) pa_nil)) pe_int) (pa_cons (pe_callTy (show CallR _ _ (rLstQ K) from call_list_of) (by rfl) T.m_list (by decide +kernel) (pa_cons (pv 3) pa_nil)) (pa_cons (pe_ix (show IxR _ (rIxT K) from ix_tup) (pv 3) pe_int (fun _ _ => rfl)) (pa_cons (pe_call GOo (hr.mono (by omega)) (by rfl) T.gOo T.Oo.kp T.bOo .nil pass0 (pa_cons (pv 1) pa_nil)) pa_nil))))))))))
      (_root_.C8.pss_cut (ps_for PassesOwn.never rfl (pi_list (pe_op op_cat (pv 4) (pe_lc (own := [("_law_k", 6)]) (g := gName 6) rfl scLaw.nd (pi_range1 (by rfl) T.m_range (pa_cons pe_int pa_nil)) (blkOk_by (own := [("_law_k", 6)]) (N := NLw) (sc := defScope sLaw) (by decide +kernel)) (fun _ _ _ _ _ => (pg_name (i := 6) scLaw.nd rfl (Or.inl rfl))) (fun _ _ _ _ _ => pts_nil) (fun _ _ _ _ _ => (pe_call GBe (hr.mono (by omega)) (by rfl) T.gBe T.Be.kp T.bBe .nil pass0 (pa_cons (pv 1) (pa_cons (pv 3) pa_nil))))))) (pg_name (i := 5) scLaw.nd rfl (Or.inl rfl)) (pss_cons (ps_set (i := 7) scLaw.nd rfl (.inl rfl) (pe_callB (call_reprQ hgu hu) (by rfl) T.m_repr (by decide +kernel) (pa_cons (pv 5) pa_nil)))
      (_root_.C8.pss_cut (ps_set (i := 8) scLaw.nd rfl (.inl rfl) (pe_ifExp (pt_val (pe_call GIc (hr.mono (by omega)) (by rfl) T.gIc T.Ic.kp T.bIc .nil pass0 (pa_cons (pv 5) pa_nil))) (pe_tup (pa_cons (pv 5) (pa_cons (pe_callB call_len_seq (by rfl) T.m_len PySem.boot_len (pa_cons (pv 5) pa_nil)) pa_nil))) (pe_lstN (pa_cons (pv 5) pa_nil))))
      (pss_one (ps_if (PW.pt (pw_or (pt_cmpR op_ne (pe_callB (call_reprX hgu hu) (by rfl) T.m_repr (by decide +kernel) (pa_cons (pe_lstN (pa_cons (pe_call GMa (hr.mono (by omega)) (by rfl) T.gMa T.Ma.kp T.bMa .nil pass0 (pa_cons (pv 5) pa_nil)) (pa_cons (pe_call GMa (hr.mono (by omega)) (by rfl) T.gMa T.Ma.kp T.bMa .nil pass0 (pa_cons (pv 5) pa_nil)) pa_nil))) pa_nil)) (pe_callB (call_reprX hgu hu) (by rfl) T.m_repr (by decide +kernel) (pa_cons (pe_lstN (pa_cons (pv 8) (pa_cons (pv 8) pa_nil))) pa_nil)) (nomark _)) (pw_or1 (pt_cmpR op_ne (pe_callB (call_reprQ hgu hu) (by rfl) T.m_repr (by decide +kernel) (pa_cons (pv 5) pa_nil)) (pv 7) (nomark _))))) (pss_one (ps_ret pe_bl)) pss_nil)))))
      (pss_cons (ps_set (i := 9) scLaw.nd rfl (.inr rfl) (pe_make X.mkH GHI (hr.mono (by omega)) (by rfl) X.gH X.bI .nil pass0 (pa_cons (pv 3) pa_nil)))
      (pss_cons (ps_if (pt_cmpR (op_neD hr.units) (pe_lc (own := [("_law_kind", 10)]) (g := gName 10) rfl scLaw.nd (pi_range1 (by rfl) T.m_range (pa_cons (pe_callB call_len_seq (by rfl) T.m_len PySem.boot_len (pa_cons (pv 3) pa_nil)) pa_nil)) (blkOk_by (own := [("_law_kind", 10)]) (N := NLw) (sc := defScope sLaw) (by decide +kernel)) (fun _ _ _ _ _ => (pg_name (i := 10) scLaw.nd rfl (Or.inl rfl))) (fun _ _ _ _ _ => pts_nil) (fun _ _ _ _ _ => (pe_call GNu (hr.mono (by omega)) (by rfl) T.gNu T.Nu.kp T.bNu .nil pass0 (pa_cons (pv 9) (pa_cons (pv 10) pa_nil))))) (pe_callTy (show CallR _ _ (rLstQ K) from call_list_of) (by rfl) T.m_list (by decide +kernel) (pa_cons (pv 3) pa_nil)) (nomark _)) (pss_one (ps_ret pe_bl)) pss_nil)
      (_root_.C8.pss_cut (ps_for PassesOwn.never rfl (pi_list (pe_lst (pa_cons (pe_callB call_len_seq (by rfl) T.m_len PySem.boot_len (pa_cons (pv 3) pa_nil)) (pa_cons (pe_un un_neg pe_int) (pa_cons pe_bl (pa_cons pe_bl (pa_cons pe_non (pa_cons pe_str (pa_cons (pe_tup (pa_cons pe_int pa_nil)) (pa_cons (pe_lst (pa_cons pe_int pa_nil)) (pa_cons (pe_op op_pow pe_int pe_int) pa_nil))))))))))) (pg_name (i := 5) scLaw.nd rfl (Or.inl rfl)) (pss_one (ps_if (pt_cmpR op_ne (pe_callB (call_reprX hgu hu) (by rfl) T.m_repr (by decide +kernel) (pa_cons (pe_call GNu (hr.mono (by omega)) (by rfl) T.gNu T.Nu.kp T.bNu .nil pass0 (pa_cons (pv 9) (pa_cons (pv 5) pa_nil))) pa_nil)) (pe_callB (call_reprX hgu hu) (by rfl) T.m_repr (by decide +kernel) (pa_cons (pe_lst (pa_cons (pv 5) (pa_cons pe_bl pa_nil))) pa_nil)) (nomark _)) (pss_one (ps_ret pe_bl)) pss_nil)))
      (pss_one (ps_if (pt_cmpR op_ne (pe_callB (call_reprQ hgu hu) (by rfl) T.m_repr (by decide +kernel) (pa_cons (pe_fld (pv 9) rfl) pa_nil)) (pe_callB (call_reprQ hgu hu) (by rfl) T.m_repr (by decide +kernel) (pa_cons (pv 3) pa_nil)) (nomark _)) (pss_one (ps_ret pe_bl)) pss_nil)))))))))
      (pss_one (ps_ret pe_bl)))), ?_⟩
    refine ⟨_, rfl, a, ns, rfl, hS, hlen, fun dk c ce H1 s1 nd nc nce dek => ?_⟩
    refine ⟨8, rfl, by decide, by decide, ?_⟩
    refine for_range (lo := 0) (n := 8) (fun i σ H' => ∃ (y2 y3 y4 y5 y6 y7 y8 y9 y10 : Option V), σ = [some (.ref a), some (.ref dk), y2, y3, y4, y5, y6, y7, y8, y9, y10] ∧ Dek H' dk c ce (40 * i)) ⟨_, _, _, _, _, _, _, _, _, rfl, dek⟩ (fun i σ H8 hi h => ?_) (fun σ H8 h => ?_)
    · obtain ⟨y2, y3, y4, y5, y6, y7, y8, y9, y10, rfl, d0⟩ := h
      refine ⟨_, rfl, _, rfl, dk, c, ce, _, 4, rfl, d0, by omega, by decide, by decide, fun q1 H9 a0 a1 k9 d9 => ?_⟩
      obtain ⟨n, hn, n1, n4⟩ : ∃ n : Nat, 1 + q1 = (n : Int) ∧ 1 ≤ n ∧ n ≤ 4 := ⟨(1 + q1).toNat, by omega, by omega, by omega⟩
      refine ⟨1, q1, rfl, rfl, dk, c, ce, _, n, congrArg (fun x => [V.ref dk, V.int x]) hn, d9, by omega, n1, n4, fun p r H10 hrl hrb hp k10 d10 => ?_⟩
      have hX := d10.lx
      have npX := tup_ne hX (Same.refl _) hp
      have qp : Dq (Wo (fun a => a = dk ∨ a = c) H10) (.ref p) (.tuple (r.map PyData.int)) := .tup (wo_of hp npX) (dq_ints r)
      clear k9 k10 d9 d0
      have hr1 : 1 ≤ r.length := by omega
      have hr4 : r.length ≤ 4 := by omega
      have LP : ∀ σ : L2.St, σ[3]? = some (some (V.ref p)) → LitP (fun a => a = dk ∨ a = c) σ H10 _ _ := fun σ e3 => litP_cons (lit_var e3 qp) (litP_cons (lit_rep hX (lit_tup hX (litA_cons (lit_c fun _ => .int 0) litA_nil) (by show 1 ≤ 1000; decide)) (lit_len (K := K) (lit_var e3 qp)) (by intro z; cases z) (by show 1 ≤ 1000; decide) (by rw [List.length_map]; omega) (by rw [List.length_map]; omega)) (litP_cons (lit_tup hX litA_nil (by show 0 ≤ 1000; decide)) (litP_cons (lit_rep hX (lit_tup hX (litA_cons (lit_c fun _ => .int 0) litA_nil) (by show 1 ≤ 1000; decide)) (lit_c fun _ => .int 5) (by intro z; cases z) (by show 1 ≤ 1000; decide) (by decide) (by decide))
        (litP_cons (lit_rep hX (lit_tup hX (litA_cons (lit_pow (lit_c fun _ => .int 10) (lit_c fun _ => .int 6) ⟨by decide, by decide, by decide⟩) litA_nil) (by show 1 ≤ 1000; decide)) (lit_c fun _ => .int 4) (by intro z; cases z) (by show 1 ≤ 1000; decide) (by decide) (by decide)) (litP_cons (lit_list (K := K) hX (lit_var e3 qp)) (litP_cons (lit_ixT (K := K) (j := 0) (d := .int (r.getD 0 0)) (lit_var e3 qp) (lit_c fun _ => .int _) (by
          rw [List.getElem?_map, List.getD_eq_getElem?_getD, List.getElem?_eq_getElem (by omega)]
          rfl)) litP_nil))))))
      refine at_name ?_
      dsimp only
      refine at_seq (at_asg (at_lst ?_))
      refine LP _ rfl _ H10 _ (Same.refl _) fun vs7 H11 s11 q7 => ?_
      have hX11 := hX.same s11
      refine ⟨_, rfl, _, dk, c, ce, _, rfl, hX11, d10.keep s11, by omega, fun v8 e8 H12 he8 k12 d12 q8 => ⟨by
        rw [List.length_append, q7.len]
        show 8 ≤ sizeLine
        decide, fun lv nlv => ?_⟩⟩
      have s13 := same_new (o := .lst (vs7 ++ [v8])) nlv
      obtain ⟨ds8, all8, hva8⟩ : ∃ ds8, DqAll (Wo (fun a => a = dk ∨ a = c) (upd H12 lv (.lst (vs7 ++ [v8])))) (vs7 ++ [v8]) ds8 ∧ ∀ e ∈ ds8, Va e := by
        refine ⟨_, DqAll.same (wo_same s13) _ _ ((DqAll.same (wo_kp hX11 k12) _ _ q7).app (.cons q8 .nil)), fun e he => ?_⟩
        have im : ∀ e ∈ r.map PyData.int, ∃ n : Int, e = .int n ∧ 0 ≤ n ∧ n ≤ 1000000 := fun e he => by
          obtain ⟨n, hn, rfl⟩ := List.mem_map.mp he
          exact ⟨n, rfl, hrb n hn⟩
        rcases List.mem_append.mp he with h | h
        · simp only [List.mem_cons, List.not_mem_nil, or_false] at h
          rcases h with rfl | rfl | rfl | rfl | rfl | rfl | rfl
          · exact va_row hrb (by omega)
          · exact va_zeros rep_mem (by decide) (by decide) (by rw [rep_len, List.length_map]; omega)
          · exact va_zeros (x := 0) (fun e he => by cases he) (by decide) (by decide) (by decide)
          · exact va_zeros rep_mem (by decide) (by decide) (by rw [rep_len]; decide)
          · exact va_zeros rep_mem (by decide) (by decide) (by rw [rep_len]; decide)
          · exact va_lst im (by rw [List.length_map]; omega)
          · have := getD_bd hrb (by decide) 0
            exact va_int (by omega) (by omega)
        · rw [List.mem_singleton.mp h]
          exact va_odd he8
      have lvne := d12.nedk nlv
      have hlv : (upd H12 lv (.lst (vs7 ++ [v8]))) lv = some (.lst (vs7 ++ [v8])) := upd_same
      have hp13 := s13 _ _ (k12 _ _ (hX.no npX).1 (hX.no npX).2 (s11 _ _ hp))
      have hX13 := (hX11.kp k12 d12).same s13
      have d13 := d12.keep s13
      have hl8 : (vs7 ++ [v8]).length ≤ 8 := by
        rw [List.length_append, q7.len]
        exact Nat.le_refl _
      clear LP q7 q8 qp hX hX11 s11 k12 d12 d10 s13 he8
      generalize vs7 ++ [v8] = xs8 at all8 hlv hp13 hX13 d13 hl8 ⊢
      refine ⟨fun σ' H' => ∃ (y2 y4 y5 y6 y7 y8 y9 y10 : Option V), σ' = [some (.ref a), some (.ref dk), y2, some (.ref p), y4, y5, y6, y7, y8, y9, y10] ∧ Dek H' dk c ce (40 * (i + 1)) ∧ H' p = some (.tup (r.map V.int)), ?_, ?_⟩
      · refine ⟨_, rfl, 6, rfl, by decide, by decide, fun D nD => ?_⟩
        have dD := d13.nedk nD
        have hpD : p ≠ D := ne_of_none hp13 nD
        have hlD : lv ≠ D := ne_of_none hlv nD
        refine lc_range (lo := 0) (n := 6) (fun j H' => ∃ (vs : List V) (ds : List PyData), vs.length = j ∧ H' D = some (.lst vs) ∧ H' lv = some (.lst xs8) ∧ H' p = some (.tup (r.map V.int)) ∧ DqAll (Wo (fun a => (a = dk ∨ a = c) ∨ a = D) H') xs8 ds8 ∧ DqAll (Wo (fun a => (a = dk ∨ a = c) ∨ a = D) H') vs ds ∧ (∀ e ∈ ds, Va e) ∧ LX (fun a => (a = dk ∨ a = c) ∨ a = D) dk c H' ∧ Dek H' dk c ce (40 * i + 12 + 4 * j))
          ⟨[], [], rfl, upd_same, by rw [upd_ne hlD]; exact hlv, by rw [upd_ne hpD]; exact hp13, DqAll.same (wo_add nD) _ _ all8, .nil, (fun e he => by cases he), hX13.add nD, (d13.updD dD.1 dD.2.1 dD.2.2).up (by omega)⟩ (fun j H' hj h => ?_) (fun H' h => ?_)
        · obtain ⟨vs, ds, hvl, hD, hlv', hp', a8, av, hva, hX', d'⟩ := h
          refine ⟨rfl, _, rfl, _, rfl, _, dk, c, ce, p, _, r, rfl, hX', d', by omega, hp', hr1, hr4, hrb, fun v d H2 hv k2 d2 hq => ?_⟩
          have e1 : Same (Wo (fun a => (a = dk ∨ a = c) ∨ a = D) H') (Wo (fun a => (a = dk ∨ a = c) ∨ a = D) (upd H2 D (.lst (vs ++ [v])))) := (wo_kp hX' k2).trans (wo_updX (.inr rfl))
          refine ⟨_, k2 _ _ dD.1 dD.2.1 hD, by rw [hvl]; exact len_lt (by omega), vs ++ [v], ds ++ [d], by rw [List.length_append, hvl]; rfl, upd_same, ?_, ?_, DqAll.same e1 _ _ a8, (DqAll.same e1 _ _ av).app (.cons (Dq.same (wo_updX (.inr rfl)) _ _ hq) .nil), fun e he => ?_, (hX'.kp k2 d2).upd, (d2.updD dD.1 dD.2.1 dD.2.2).up (by omega)⟩
          · rw [upd_ne hlD]
            exact k2 _ _ lvne.1 lvne.2.1 hlv'
          · rw [upd_ne hpD]
            obtain ⟨m1, m2⟩ := hX'.no (tup_ne hX' (Same.refl _) hp')
            exact k2 _ _ m1 m2 hp'
          · rcases List.mem_append.mp he with h | h
            · exact hva e h
            · rw [List.mem_singleton.mp h]
              exact hv
        · obtain ⟨vs, ds, hvl, hD, hlv', hp', a8, av, hva, hX', d'⟩ := h
          refine ⟨lv, D, xs8, vs, rfl, rfl, hlv', hD, Nat.le_of_lt (len_lt (by omega)), fun p2 np2 => ?_⟩
          have s2 := same_new (o := .lst (xs8 ++ vs)) np2
          have allx : DqAll (upd H' p2 (.lst (xs8 ++ vs))) (xs8 ++ vs) (ds8 ++ ds) := DqAll.same (wo_in.trans s2) _ _ (a8.app av)
          have hvx : ∀ e ∈ ds8 ++ ds, Va e := fun e he => (List.mem_append.mp he).elim (hva8 e) (hva e)
          have d15 := d'.keep s2
          have hp15 := s2 _ _ hp'
          have hL : (upd H' p2 (.lst (xs8 ++ vs))) p2 = some (.lst (xs8 ++ vs)) := upd_same
          clear a8 av hva hX' hD hlv' hp' d' all8 hva8 hlv hp13 hX13 d13
          generalize xs8 ++ vs = xs at allx hL d15 hp15 ⊢
          generalize ds8 ++ ds = dsx at allx hvx
          generalize upd H' p2 (.lst xs) = H15 at allx hL d15 hp15 ⊢
          refine ⟨p2, rfl, ⟨_, SqL.of hL⟩, ?_⟩
          refine for_list (xs := xs) (fun i' σ H' => ∃ (y2 y4 y5 y6 y7 y8 y9 y10 : Option V), σ = [some (.ref a), some (.ref dk), y2, some (.ref p), y4, y5, y6, y7, y8, y9, y10] ∧ Same H15 H') ⟨_, _, _, _, _, _, _, _, rfl, Same.refl _⟩ (fun i' σ H' _ h => ?_) (fun i' x σ H' hx h => ?_) (fun σ H' h => ?_)
          · obtain ⟨y2, y4, y5, y6, y7, y8, y9, y10, rfl, sm⟩ := h
            exact SqL.of (sm _ _ hL)
          · obtain ⟨y2, y4, y5, y6, y7, y8, y9, y10, rfl, sm⟩ := h
            obtain ⟨d, hd, hq⟩ := allx.get hx
            have va := hvx d (List.mem_of_getElem? hd)
            have hq' := Dq.same sm _ _ hq
            refine ⟨_, rfl, x, d, rfl, hq', va.gd, ?_⟩
            refine ⟨fun σ' H'' => ∃ m, σ' = [some (.ref a), some (.ref dk), y2, some (.ref p), y4, some x, y6, some (.str d.shown), some m, y9, y10] ∧ Same H' H'' ∧ DueAt H'' m x d, ?_, ?_⟩
            · refine ⟨_, rfl, x, d, rfl, hq', _, rfl, ?_⟩
              by_cases c : cOk d = true
              · obtain ⟨pp, rr, rfl, hpp, rfl, hrl', _⟩ := cok_tup hq' c
                refine iteT2 c ⟨_, rfl, _, rfl, pp, _, rfl, .inr (SqT.of hpp), by show 2 ≤ sizeLine; decide, fun m1 nm1 => ?_⟩
                refine ⟨.ref m1, rfl, same_new nm1, m1, rfl, .inl ⟨c, ?_⟩⟩
                rw [upd_same, List.length_map, hrl']
              · have c := Bool.eq_false_iff.mpr c
                refine iteF2 c ⟨_, rfl, by show 1 ≤ sizeLine; decide, fun m1 nm1 ns1 => ?_⟩
                exact ⟨.ref m1, rfl, same_new nm1, m1, rfl, .inr ⟨c, ns1, upd_same⟩⟩
            · rintro _ H'' ⟨m, rfl, sm2, due⟩
              have hq2 := Dq.same sm2 _ _ hq'
              refine ⟨_, rfl, x, d, rfl, hq2, Nat.le_trans va.ln (by decide), fun m1 Ha sa D1 => ?_⟩
              refine ⟨_, rfl, x, d, rfl, Dq.same sa _ _ hq2, Nat.le_trans va.ln (by decide), fun m2 Hb sb D2 => ?_⟩
              refine ⟨by show 2 ≤ sizeLine; decide, fun l nl ns => ?_⟩
              have sc := same_new (o := .lst [m1, m2]) nl
              have sac := sa.trans (sb.trans sc)
              refine ⟨d.hasDict, l, pairD d, rfl, rx_pair va.nx (Dq.same sac _ _ hq2) (D1.same (sb.trans sc)) (D2.same sc) upd_same ns, pair_dict, (bd_pair va).show_, (bd_sz (bd_pair va)).1, (bd_sz (bd_pair va)).2, ?_⟩
              refine ⟨_, rfl, _, rfl, by show 2 ≤ sizeLine; decide, fun l2 nl2 ns2 => ?_⟩
              have sd := same_new (o := .lst [m, m]) nl2
              have sad := sac.trans sd
              refine ⟨d.hasDict, l2, pairD d, rfl, rx_pair va.nx (Dq.same sad _ _ hq2) (due.same sad) (due.same sad) upd_same ns2, pair_dict, (bd_pair va).show_, (bd_sz (bd_pair va)).1, (bd_sz (bd_pair va)).2, ?_⟩
              refine ⟨rfl, _, rfl, iteF2 ne_self ?_⟩
              refine ⟨_, rfl, x, d, rfl, Dq.same sad _ _ hq2, va.gd, ?_⟩
              refine ⟨_, rfl, rfl, _, rfl, iteF2 ne_self ?_⟩
              exact ⟨_, _, _, _, _, _, _, _, rfl, sm.trans (sm2.trans sad)⟩
          · obtain ⟨y2, y4, y5, y6, y7, y8, y9, y10, rfl, sm⟩ := h
            exact ⟨_, _, _, _, _, _, _, _, rfl, (d15.keep sm).up (by omega), sm _ _ hp15⟩
      · rintro _ H16 ⟨y2, y4, y5, y6, y7, y8, y9, y10, rfl, d16, hp16⟩
        refine ⟨_, rfl, fun x dx nx ndx nex => ?_⟩
        have s0 : Same H16 (upd (upd H16 dx (.own x)) x (.ins CH dx [])) := fun b o e => by
          rw [upd_ne (ne_of_none e nx), upd_ne (ne_of_none e ndx)]
          exact e
        refine ⟨x, dx, p, r, rfl, upd_same, s0 _ _ hp16, hr1, hr4, hrb, fun H17 k17 hx17 => ⟨rfl, ?_⟩⟩
        have s17 : Same H16 H17 := fun b o e => k17 _ _ (ne_of_none e nx) (ne_of_none e nx) (s0 _ _ e)
        have hp17 := s17 _ _ hp16
        have hh : HpAt CH H17 x p r := ⟨⟨dx, hx17⟩, hp17⟩
        have d17 := d16.keep s17
        clear s0 k17 nx ndx nex d16 hp16 s17
        refine ⟨_, rfl, p, _, rfl, .inr (SqT.of hp17), ?_⟩
        rw [List.length_map]
        refine ⟨_, rfl, by omega, by omega, fun D nD => ?_⟩
        refine lc_range (lo := 0) (n := r.length) (fun j H' => H' D = some (.lst ((r.take j).map V.int)) ∧ Same H17 H') ⟨upd_same, same_new nD⟩ (fun j H' hj h => ?_) (fun H' h => ?_)
        · obtain ⟨hD, sm⟩ := h
          refine ⟨rfl, _, rfl, _, rfl, x, p, r, _, _, rfl, hh.same sm, .int _, fun c => ?_, fun j' e _ => ?_⟩
          · have c : (decide ((0 : Int) ≤ 0 + (j : Int)) && decide ((0 : Int) + (j : Int) ≤ (r.length : Int) - 1)) = false := c
            rw [decide_eq_true (show (0 : Int) ≤ 0 + (j : Int) by omega), decide_eq_true (show (0 : Int) + (j : Int) ≤ (r.length : Int) - 1 by omega)] at c
            cases c
          · obtain rfl : j' = j := by
              have := PyData.int.inj e
              omega
            refine ⟨_, hD, by rw [List.length_map, List.length_take]; exact len_lt (by omega), ?_, fun b o e => ?_⟩
            · rw [upd_same, List.take_add_one, List.getElem?_eq_getElem hj, List.map_append, List.getD_eq_getElem?_getD, List.getElem?_eq_getElem hj]
              rfl
            · rw [upd_ne (ne_of_none e nD)]
              exact sm b o e
        · obtain ⟨hD, sm⟩ := h
          rw [List.take_length] at hD
          refine ⟨_, rfl, p, _, rfl, .inr (SqT.of (sm _ _ hp17)), fun l nl => ?_⟩
          have sl := same_new (o := .lst (r.map V.int)) nl
          refine ⟨.list (r.map PyData.int), .list (r.map PyData.int), .lst (SqL.of (sl _ _ hD)) (dps_ints r), .lst (SqL.of upd_same) (dps_ints r), shaped_intsL r, shaped_intsL r, _, rfl, iteF2 (by
            rw [PyData.eqv, eqv_ints, decide_eq_true rfl]
            rfl) ?_⟩
          have s18 := sm.trans sl
          have hh18 := hh.same s18
          have d18 := d17.keep s18
          clear hD sm sl hh hx17 hp17 d17 s18
          generalize upd H' l (.lst (r.map V.int)) = H18 at hh18 d18 ⊢
          refine ⟨fun σ' H' => ∃ (y2 y4 y5 y6 y7 y8 y10 : Option V), σ' = [some (.ref a), some (.ref dk), y2, some (.ref p), y4, y5, y6, y7, y8, some (.ref x), y10] ∧ Dek H' dk c ce (40 * (i + 1)) ∧ HpAt CH H' x p r, ?_, ?_⟩
          · refine ⟨_, rfl, p, _, rfl, .inr (SqT.of hh18.tp), 1, rfl, by show 1 ≤ sizeLine; decide, fun t1 nt1 => ⟨by show 1 ≤ sizeLine; decide, fun t2 nt2 => ⟨10, 39, rfl, rfl, ⟨by decide, by decide, by decide⟩, by show 9 ≤ sizeLine; decide, fun l2 nl2 => ?_⟩⟩⟩
            have sA := same_new (o := .tup [.int 0]) nt1
            have sB := same_new (o := .lst [.int 0]) nt2
            have sC := same_new (o := .lst [.int (((r.map V.int).length : Nat) : Int), .int (-1), .bl true, .bl false, .non, .str "0", .ref t1, .ref t2, .int ((10 : Int) ^ (39 : Int).toNat)]) nl2
            have sABC := sA.trans (sB.trans sC)
            have allx : DqAll _ [.int (((r.map V.int).length : Nat) : Int), .int (-1), .bl true, .bl false, .non, .str "0", .ref t1, .ref t2, .int ((10 : Int) ^ (39 : Int).toNat)] [.int (((r.map V.int).length : Nat) : Int), .int (-1), .bool true, .bool false, .none, .str "0", .tuple [.int 0], .list [.int 0], .int ((10 : Int) ^ (39 : Int).toNat)] :=
              .cons (.int _) (.cons (.int _) (.cons (.bl _) (.cons (.bl _) (.cons .non (.cons (.str _) (.cons (.tup ((sB.trans sC) _ _ upd_same) (.cons (.int 0) .nil)) (.cons (.lst (sC _ _ upd_same) (.cons (.int 0) .nil)) (.cons (.int _) .nil))))))))
            have hvx : ∀ d ∈ [PyData.int (((r.map V.int).length : Nat) : Int), .int (-1), .bool true, .bool false, .none, .str "0", .tuple [.int 0], .list [.int 0], .int ((10 : Int) ^ (39 : Int).toNat)], Va d ∧ numOk ((r.length : Int) - 1) d = false ∧ d.hasDict = false := fun d hd => by
              simp only [List.mem_cons, List.not_mem_nil, or_false] at hd
              rcases hd with rfl | rfl | rfl | rfl | rfl | rfl | rfl | rfl | rfl
              · refine ⟨va_int (by omega) (by rw [List.length_map]; omega), ?_, rfl⟩
                show (decide ((0 : Int) ≤ (((r.map V.int).length : Nat) : Int)) && decide ((((r.map V.int).length : Nat) : Int) ≤ (r.length : Int) - 1)) = false
                rw [List.length_map, decide_eq_false (show ¬ (r.length : Int) ≤ (r.length : Int) - 1 by omega), Bool.and_false]
              · exact ⟨va_int (by decide) (by decide), rfl, rfl⟩
              · exact ⟨va_odd (by unfold oddA; simp), rfl, rfl⟩
              · exact ⟨va_odd (by unfold oddA; simp), rfl, rfl⟩
              · exact ⟨va_odd (by unfold oddA; simp), rfl, rfl⟩
              · exact ⟨va_odd (by unfold oddA; simp), rfl, rfl⟩
              · exact ⟨va_odd (by unfold oddA; simp), rfl, rfl⟩
              · exact ⟨va_odd (by unfold oddA; simp), rfl, rfl⟩
              · refine ⟨va_odd (by unfold oddA; simp), ?_, rfl⟩
                show (decide ((0 : Int) ≤ (10 : Int) ^ (39 : Int).toNat) && decide ((10 : Int) ^ (39 : Int).toNat ≤ (r.length : Int) - 1)) = false
                rw [decide_eq_false (show ¬ (10 : Int) ^ (39 : Int).toNat ≤ (r.length : Int) - 1 from fun z => by
                  have : (4 : Int) ≤ (10 : Int) ^ (39 : Int).toNat := by decide
                  omega), Bool.and_false]
            refine ⟨l2, rfl, ⟨_, SqL.of upd_same⟩, ?_⟩
            have hhx := hh18.same sABC
            have dx8 := d18.keep sABC
            refine for_list (xs := [.int (((r.map V.int).length : Nat) : Int), .int (-1), .bl true, .bl false, .non, .str "0", .ref t1, .ref t2, .int ((10 : Int) ^ (39 : Int).toNat)]) (fun i' σ H' => ∃ (y2 y4 y5 y6 y7 y8 y10 : Option V), σ = [some (.ref a), some (.ref dk), y2, some (.ref p), y4, y5, y6, y7, y8, some (.ref x), y10] ∧ Same (upd (upd (upd H18 t1 (.tup [.int 0])) t2 (.lst [.int 0])) l2 (.lst [.int (((r.map V.int).length : Nat) : Int), .int (-1), .bl true, .bl false, .non, .str "0", .ref t1, .ref t2, .int ((10 : Int) ^ (39 : Int).toNat)])) H') ⟨_, _, _, _, _, _, _, rfl, Same.refl _⟩ (fun i' σ H' _ h => ?_) (fun i' z σ H' hx h => ?_) (fun σ H' h => ?_)
            · obtain ⟨y2, y4, y5, y6, y7, y8, y10, rfl, sm⟩ := h
              exact SqL.of (sm _ _ upd_same)
            · obtain ⟨y2, y4, y5, y6, y7, y8, y10, rfl, sm⟩ := h
              obtain ⟨d, hd, hq⟩ := allx.get hx
              obtain ⟨va, hnum, hdict⟩ := hvx d (List.mem_of_getElem? hd)
              have hq' := Dq.same sm _ _ hq
              clear allx hvx hd hq sA sB sC nt1 nt2 nl2
              refine ⟨_, rfl, _, rfl, x, p, r, z, d, rfl, hhx.same sm, hq', fun _ l Ha ns sa hl => ?_, fun j' e lt => ?_⟩
              · refine ⟨false, l, numD d, rfl, rx_num (Dq.same sa _ _ hq') hl, num_dict hdict, (bd_num va).show_, (bd_sz (bd_num va)).1, (bd_sz (bd_num va)).2, ?_⟩
                refine ⟨_, rfl, by show 2 ≤ sizeLine; decide, fun l3 nl3 => ?_⟩
                have sd := same_new (o := .lst [z, .bl true]) nl3
                refine ⟨false, l3, numD d, rfl, rx_num (Dq.same (sa.trans sd) _ _ hq') upd_same, num_dict hdict, (bd_num va).show_, (bd_sz (bd_num va)).1, (bd_sz (bd_num va)).2, ?_⟩
                refine ⟨rfl, _, rfl, iteF2 ne_self ?_⟩
                exact ⟨_, _, _, _, _, _, _, rfl, sm.trans (sa.trans sd)⟩
              · subst e
                have c : (decide ((0 : Int) ≤ (j' : Int)) && decide ((j' : Int) ≤ (r.length : Int) - 1)) = false := hnum
                rw [decide_eq_true (show (0 : Int) ≤ (j' : Int) by omega), decide_eq_true (show (j' : Int) ≤ (r.length : Int) - 1 by omega)] at c
                cases c
            · obtain ⟨y2, y4, y5, y6, y7, y8, y10, rfl, sm⟩ := h
              exact ⟨_, _, _, _, _, _, _, rfl, dx8.keep sm, hhx.same sm⟩
          · rintro _ H19 ⟨y2, y4, y5, y6, y7, y8, y10, rfl, d19, ⟨⟨dx', hx19⟩, hp19⟩⟩
            have vr := va_row hrb (by omega)
            refine ⟨_, rfl, x, CH, dx', _, _, rfl, hx19, X.cl, X.nC, rfl, .ref p, rowD r, rfl, .tup hp19 (dq_ints r), vr.gd, ?_⟩
            refine ⟨_, rfl, .ref p, rowD r, rfl, .tup hp19 (dq_ints r), vr.gd, ?_⟩
            refine ⟨rfl, _, rfl, iteF2 ne_self ?_⟩
            exact ⟨_, _, _, _, _, _, _, _, _, rfl, d19⟩
    · obtain ⟨y2, y3, y4, y5, y6, y7, y8, y9, y10, rfl, d0⟩ := h
      exact q _
end
end DD
namespace DD
open PySem PySem.Spec PyProof.Rows L2
structure HeB (K : PySem.W.Frag) (CB CN CA C1 C2 C3 C4 C5 C6 C7 C8 : Addr) : Prop where
  isB : IsTx K CB
  isN : IsTx K CN
  xfB : XfC K CB
  xfN : XfC K CN
  exB : PySem.W.exmOne K (.ref CB) (.ref CA) = some true
  exN : PySem.W.exmOne K (.ref CN) (.ref CN) = some true
  kB : PySem.W.kitAny K (.ref CB) [.ref C1, .ref C2, .ref C3, .ref C4, .ref C5, .type "LookupError"] = some false
  kBB : PySem.W.kitOne K (.ref CB) (.ref CB) = some true
  kN : PySem.W.kitAny K (.ref CN) [.ref CA, .ref C6, .ref C7, .ref C8] = some false
  kNL : PySem.W.kitOne K (.ref CN) (.type "LookupError") = some true
theorem heapB_ok {K : PySem.W.Frag} {CB CN CA C1 C2 C3 C4 C5 C6 C7 C8 : Addr} (h : heapB K CB CN CA C1 C2 C3 C4 C5 C6 C7 C8 = true) : HeB K CB CN CA C1 C2 C3 C4 C5 C6 C7 C8 := by
  unfold heapB at h
  simp only [Bool.and_eq_true, decide_eq_true_eq] at h
  exact ⟨istxB_ok h.1, istxB_ok h.2.1, xfB_ok h.2.2.1, xfB_ok h.2.2.2.1, h.2.2.2.2.1, h.2.2.2.2.2.1, h.2.2.2.2.2.2.1, h.2.2.2.2.2.2.2.1, h.2.2.2.2.2.2.2.2.1, h.2.2.2.2.2.2.2.2.2⟩
end DD
namespace HT
open PySem PySem.Spec PyProof.Rows L2 DD
set_option maxHeartbeats 0 in
theorem facts {P : Program} {w : World} {K : PySem.W.Frag} {h : Heap} {mg : Str → Option Value} {f : Addr} (X : K.In h) (G : h.Ns mainGlobals mg) (hfa : mg ("law" : Str) = some (.ref f)) (c : HK.SaysA fa fn ex K) :
    ∃ fd : FuncData, (∀ (s : Shared) (v : Value), BindsTo s fd ⟨[v], []⟩ [("_law_script", v)]) ∧ ∀ base : Heap, K.In base → base.Ns mainGlobals mg → FnG P w K mg base 9 f fd ["_law_script"] (spLaw K) := by
  obtain ⟨e0, D0⟩ := c.d.def_ 0 (d := q0) rfl
  obtain ⟨e1, D1⟩ := c.d.def_ 1 (d := q1) rfl
  obtain ⟨e2, D2⟩ := c.d.def_ 2 (d := q2) rfl
  obtain ⟨e3, D3⟩ := c.d.def_ 3 (d := q3) rfl
  obtain ⟨e4, D4⟩ := c.d.def_ 4 (d := q4) rfl
  obtain ⟨e5, D5⟩ := c.d.def_ 5 (d := q5) rfl
  obtain ⟨e6, D6⟩ := c.d.def_ 6 (d := q6) rfl
  obtain ⟨e7, D7⟩ := c.d.def_ 7 (d := q7) rfl
  obtain ⟨e8, D8⟩ := c.d.def_ 8 (d := q8) rfl
  obtain ⟨e9, D9⟩ := c.d.def_ 9 (d := q9) rfl
  obtain ⟨e10, D10⟩ := c.d.def_ 10 (d := q10) rfl
  obtain ⟨e11, D11⟩ := c.d.def_ 11 (d := q11) rfl
  obtain ⟨e12, D12⟩ := c.d.def_ 12 (d := q12) rfl
  obtain ⟨e13, D13⟩ := c.d.def_ 13 (d := q13) rfl
  obtain ⟨e14, D14⟩ := c.d.def_ 14 (d := q14) rfl
  obtain ⟨e15, D15⟩ := c.d.def_ 15 (d := q15) rfl
  obtain ⟨e16, D16⟩ := c.d.def_ 16 (d := q16) rfl
  obtain ⟨e17, D17⟩ := c.d.def_ 17 (d := q17) rfl
  have F0 : Fun K "is_number" "is_number" sIsNum (He.fAd K ("is_number", none)) e0 := fun_of_D D0
  have b0 := F0.binds (ps := ["value"]) fun _ _ _ _ _ _ us hl => match us, hl with | [_], _ => rfl
  have F1 : Fun K "is_number_up_to" "is_number_up_to" sUpTo (He.fAd K ("is_number_up_to", none)) e1 := fun_of_D D1
  have b1 := F1.binds (ps := ["value", "most"]) fun _ _ _ _ _ _ us hl => match us, hl with | [_, _], _ => rfl
  have F2 : Fun K "is_tuple_of" "is_tuple_of" sTupOf (He.fAd K ("is_tuple_of", none)) e2 := fun_of_D D2
  have b2 := F2.binds (ps := ["value", "fewest", "most"]) fun _ _ _ _ _ _ us hl => match us, hl with | [_, _, _], _ => rfl
  have F3 : Fun K "are_numbers" "are_numbers" sNums (He.fAd K ("are_numbers", none)) e3 := fun_of_D D3
  have b3 := F3.binds (ps := ["value", "fewest", "most", "limit"]) fun _ _ _ _ _ _ us hl => match us, hl with | [_, _, _, _], _ => rfl
  have F4 : Fun K "_law_draws" "_law_draws" sDraws (He.fAd K ("_law_draws", none)) e4 := fun_of_D D4
  have b4 := F4.binds (ps := ["_law_script"]) fun _ _ _ _ _ _ us hl => match us, hl with | [_], _ => rfl
  have F5 : Fun K "_law_next" "_law_next" sNext (He.fAd K ("_law_next", none)) e5 := fun_of_D D5
  have b5 := F5.binds (ps := ["_law_state", "_law_many"]) fun _ _ _ _ _ _ us hl => match us, hl with | [_, _], _ => rfl
  have F6 : Fun K "_law_counts" "_law_counts" sCounts (He.fAd K ("_law_counts", none)) e6 := fun_of_D D6
  have b6 := F6.binds (ps := ["_law_state", "_law_width"]) fun _ _ _ _ _ _ us hl => match us, hl with | [_, _], _ => rfl
  have F7 : Fun K "_law_odd" "_law_odd" sOdd (He.fAd K ("_law_odd", none)) e7 := fun_of_D D7
  have b7 := F7.binds (ps := ["_law_state"]) fun _ _ _ _ _ _ us hl => match us, hl with | [_], _ => rfl
  have F8 : Fun K "_law_is_counts" "_law_is_counts" sIsC (He.fAd K ("_law_is_counts", none)) e8 := fun_of_D D8
  have b8 := F8.binds (ps := ["_law_value"]) fun _ _ _ _ _ _ us hl => match us, hl with | [_], _ => rfl
  have F9 : Fun K "_law_made" "_law_made" sMade (He.fAd K ("_law_made", none)) e9 := fun_of_D D9
  have b9 := F9.binds (ps := ["_law_value"]) fun _ _ _ _ _ _ us hl => match us, hl with | [_], _ => rfl
  have F10 : Fun K "_law_number" "_law_number" sLNum (He.fAd K ("_law_number", none)) e10 := fun_of_D D10
  have b10 := F10.binds (ps := ["_law_heap", "_law_value"]) fun _ _ _ _ _ _ us hl => match us, hl with | [_, _], _ => rfl
  have F11 : Fun K "_law_bent" "_law_bent" sBent (He.fAd K ("_law_bent", none)) e11 := fun_of_D D11
  have b11 := F11.binds (ps := ["_law_state", "_law_counts_here"]) fun _ _ _ _ _ _ us hl => match us, hl with | [_, _], _ => rfl
  have F12 : Fun K "law" "law" sLaw (He.fAd K ("law", none)) e12 := fun_of_D D12
  have F13 : Fun K "__init__" "Heap.__init__" hInit (He.fAd K ("Heap", some "__init__")) e13 := fun_of_D D13
  have b13 := F13.binds (ps := ["self", "counts"]) fun _ _ _ _ _ _ us hl => match us, hl with | [_, _], _ => rfl
  have F14 : Fun K "__getitem__" "Heap.__getitem__" hGet (He.fAd K ("Heap", some "__getitem__")) e14 := fun_of_D D14
  have b14 := F14.binds (ps := ["self", "at"]) fun _ _ _ _ _ _ us hl => match us, hl with | [_, _], _ => rfl
  have F15 : Fun K "__len__" "Heap.__len__" hLen (He.fAd K ("Heap", some "__len__")) e15 := fun_of_D D15
  have b15 := F15.binds (ps := ["self"]) fun _ _ _ _ _ _ us hl => match us, hl with | [_], _ => rfl
  have F16 : Fun K "__init__" "BadCounts.__init__" sIBC (He.fAd K ("BadCounts", some "__init__")) e16 := fun_of_D D16
  have b16 := F16.binds (ps := ["self", "value"]) fun _ _ _ _ _ _ us hl => match us, hl with | [_, _], _ => rfl
  have F17 : Fun K "__init__" "NoKind.__init__" sINK (He.fAd K ("NoKind", some "__init__")) e17 := fun_of_D D17
  have b17 := F17.binds (ps := ["self", "value"]) fun _ _ _ _ _ _ us hl => match us, hl with | [_, _], _ => rfl
  have hT : Tx K mg _ _ _ _ _ _ _ _ _ _ _ _ _ _ _ _ _ _ _ _ _ _ _ _ := { N := F0, bN := b0, gN := (He.glo_ok X G (c.d.fact 0 (f := .glo "is_number") rfl)), U := F1, bU := b1, gU := (He.glo_ok X G (c.d.fact 1 (f := .glo "is_number_up_to") rfl)), Tu := F2, bTu := b2, gTu := (He.glo_ok X G (c.d.fact 2 (f := .glo "is_tuple_of") rfl)), A := F3, bA := b3, gA := (He.glo_ok X G (c.d.fact 3 (f := .glo "are_numbers") rfl)), Ds := F4, bDs := b4, gDs := (He.glo_ok X G (c.d.fact 4 (f := .glo "_law_draws") rfl)), X := F5, bX := b5, gX := (He.glo_ok X G (c.d.fact 5 (f := .glo "_law_next") rfl)), Cu := F6, bCu := b6, gCu := (He.glo_ok X G (c.d.fact 6 (f := .glo "_law_counts") rfl)), Oo := F7, bOo := b7, gOo := (He.glo_ok X G (c.d.fact 7 (f := .glo "_law_odd") rfl)), Ic := F8, bIc := b8, gIc := (He.glo_ok X G (c.d.fact 8 (f := .glo "_law_is_counts") rfl)), Ma := F9, bMa := b9, gMa := (He.glo_ok X G (c.d.fact 9 (f := .glo "_law_made") rfl)), Nu := F10, bNu := b10, gNu := (He.glo_ok X G (c.d.fact 10 (f := .glo "_law_number") rfl)), Be := F11, bBe := b11, gBe := (He.glo_ok X G (c.d.fact 11 (f := .glo "_law_bent") rfl)), m_isinstance := He.free_ok X G (c.d.fact 13 (f := .free "isinstance") rfl), m_int := He.free_ok X G (c.d.fact 14 (f := .free "int") rfl), m_bool := He.free_ok X G (c.d.fact 15 (f := .free "bool") rfl), m_tuple := He.free_ok X G (c.d.fact 16 (f := .free "tuple") rfl), m_list := He.free_ok X G (c.d.fact 17 (f := .free "list") rfl), m_len := He.free_ok X G (c.d.fact 18 (f := .free "len") rfl), m_abs := He.free_ok X G (c.d.fact 19 (f := .free "abs") rfl), m_range := He.free_ok X G (c.d.fact 20 (f := .free "range") rfl), m_repr := He.free_ok X G (c.d.fact 21 (f := .free "repr") rfl), m_all := He.free_ok X G (c.d.fact 22 (f := .free "all") rfl) }
  have h0 := heapB_ok (HK.all_at (l := HT.exl K) c.more 4 rfl)
  have hX : HE K mg _ _ _ _ _ _ _ _ _ _ _ _ _ _ _ _ _ _ _ _ _ _ := {
    eB := errV_ok X G (c.d.fact 32 (f := .glo "BadCounts") rfl) (HK.all_at (l := HT.exl K) c.more 0 rfl) (HK.all_at (l := HT.exl K) c.more 1 rfl) (by decide +kernel) F16 b16,
    eN := errL_ok X G (c.d.fact 33 (f := .glo "NoKind") rfl) (HK.all_at (l := HT.exl K) c.more 2 rfl) (HK.all_at (l := HT.exl K) c.more 3 rfl) (by decide +kernel) F17 b17,
    gA := (He.glo_ok X G (c.d.fact 34 (f := .glo "DrawerError") rfl)),
    g1 := (He.glo_ok X G (c.d.fact 35 (f := .glo "BadHeap") rfl)),
    g2 := (He.glo_ok X G (c.d.fact 36 (f := .glo "BadKinds") rfl)),
    g3 := (He.glo_ok X G (c.d.fact 37 (f := .glo "OtherKinds") rfl)),
    g4 := (He.glo_ok X G (c.d.fact 38 (f := .glo "TooFew") rfl)),
    g5 := (He.glo_ok X G (c.d.fact 39 (f := .glo "TooMuch") rfl)),
    g6 := (He.glo_ok X G (c.d.fact 40 (f := .glo "NoCollection") rfl)),
    g7 := (He.glo_ok X G (c.d.fact 41 (f := .glo "NoDrawer") rfl)),
    g8 := (He.glo_ok X G (c.d.fact 42 (f := .glo "NoVersion") rfl)),
    isB := h0.isB, isN := h0.isN, xfB := h0.xfB, xfN := h0.xfN, exB := h0.exB, exN := h0.exN, kB := h0.kB, kBB := h0.kBB, kN := h0.kN, kNL := h0.kNL,
    gH := (He.glo_ok X G (c.d.fact 26 (f := .glo "Heap") rfl)),
    cl := He.cls_ok (c.d.fact 27 (f := .cls "Heap") rfl),
    nC := He.noat_ok (c.d.fact 28 (f := .noat "Heap" "counts") rfl),
    mkH := He.mkr_ok (c.d.fact 31 (f := .mkr "Heap") rfl),
    FI := F13, bI := b13,
    FG := F14, bG := b14,
    sG := ⟨(He.meth_ok (c.d.fact 29 (f := .meth "Heap" "__getitem__") rfl)).at_, (He.meth_ok (c.d.fact 29 (f := .meth "Heap" "__getitem__") rfl)).fn⟩,
    nq := (HK.all_at (l := HT.exl K) c.more 5 rfl),
    FL := F15, bL := b15,
    sL := ⟨(He.meth_ok (c.d.fact 30 (f := .meth "Heap" "__len__") rfl)).at_, (He.meth_ok (c.d.fact 30 (f := .meth "Heap" "__len__") rfl)).fn⟩,
    m1 := He.int_ok X G (c.d.fact 24 (f := .int "LIMIT" 1000000) rfl),
    m2 := He.int_ok X G (c.d.fact 25 (f := .int "MAX_KINDS" 4) rfl),
    m_LookupError := He.free_ok X G (c.d.fact 23 (f := .free "LookupError") rfl) }
  have e := hfa.symm.trans (He.glo_ok X G (c.d.fact 12 (f := .glo "law") rfl))
  cases e
  have bl := FunD.bindsA (ps := ["_law_script"]) D12 fun _ _ _ _ _ _ us hl => match us, hl with | [_], _ => rfl
  exact ⟨e12, fun s v => bl s [v] rfl, fun base _ _ => ok_law F12 hT hX⟩
end HT
open PySem PySem.W PySem.Calls PyProof.Rows
set_option maxHeartbeats 0 in
theorem PySem.Challenge.cw_darkdrawers_k29_heaps_made_holds : PySem.Challenge.rw_darkdrawers_k29_heaps_made.Holds := by
  w_on; o_law
  refine HandSHeadRun.head_any (r := OpenLaw.row PySem.Challenge.rw_darkdrawers_k29_heaps_made) (q := view (OpenLaw.row PySem.Challenge.rw_darkdrawers_k29_heaps_made).prog [33]) (H := HT.hk) (ob := HT.ob) (M := 9000) (loose := HT.names) (d := HandSHeadRun.topDef (OpenLaw.row PySem.Challenge.rw_darkdrawers_k29_heaps_made).prog 33) (kwd := []) HT.ob_eq
    (by kernel_rfl) (fun s => by kernel_rfl) HT.run (by kernel_rfl) (by kernel_rfl) (by kernel_rfl) (by rfl) (by first | assumption | decide +kernel) (by decide +kernel) ⟨rfl, rfl, rfl, rfl, rfl, by decide +kernel⟩ ?hw ?hc
  case hw => w_witness2
  case hc =>
    refine DD.walk_ofGE (l := PySem.Challenge.rw_darkdrawers_k29_heaps_made) (n := 63) (k := 9) (x := "_law_script") (sp := fun K => DD.spLaw K) rfl (by decide) (by kernel_rfl) ⟨rfl, by decide, by decide⟩ ?F (fun _ _ a ns hl _ hS => ⟨a, ns, rfl, hS, hl, fun _ => rfl⟩)
    intro w mg fa h Y G hmg0
    obtain ⟨K, KX, c⟩ := Y
    have hmg : mg ("law" : PySem.Str) = some (.ref fa) := by
      have e : (HandSHeadRun.topDef (OpenLaw.row PySem.Challenge.rw_darkdrawers_k29_heaps_made).prog 33).name = ("law" : PySem.Str) := by kernel_rfl
      rw [← e]
      exact hmg0
    obtain ⟨fd, hb, hF⟩ := HT.facts (P := (PySem.Challenge.rw_darkdrawers_k29_heaps_made).prog) (w := w) KX G hmg c
    exact ⟨K, fd, KX, hb, hF⟩
