import PyProof.Rows.All
import Wide.All
import OpenK.AllK
import Wide.FinOn
import HandS.Base
import HandS.Call
import HandS.List
import HandS.Comp
import HandS.Ends
import HandS.Words
import HandS.Star
import PyProof.Rows.RegFStrParts
import HandS.Zip
import KE.GoesEnum
import KE.KTupSum
import HandS.Walk
import HandS.ForMost
import HandS.Codes
import HandS.Style
import HandS.TupAny
import HandS.TupMul
import HandS.Conv
import HandS.Deep
import HandS.Flt
import HandS.ExcOwn
import HandS.IsInst
import KE.GoesEnumKw
import HandS.SetFor
import HandS.Strs
import HandS.Flow
import PySem.Challenge.RW_darkdrawers_k08_whole_merged_drawers
set_option Elab.async false
set_option linter.all false
set_option maxRecDepth 100000
namespace DD
open PySem PySem.Spec PyProof.Rows L2

/-! ### a def's promise where no repr is under way (A.guards = some []) -/
structure FnG (P : Program) (w : World) (K : PySem.W.Frag) (mg : Str → Option Value) (base : Heap) (k : Nat) (f : Addr)
    (fd : FuncData) (ps : List Str) (sp : Sp) : Prop where
  arity : ∀ vs H Q E, sp vs H Q E → vs.length = ps.length
  go : ∀ (A : Around), A.guards = some [] → Room k A → ∀ (outer : List Env) (s : Shared) (H : Hp) (args : Args) (us : List Value)
    (vs : List V) (Q : VK) (E : XK), Env0 P w K mg base A outer s H → BindsTo s fd args (ps.zip us) → Vals vs us → sp vs H Q E →
    codeAny (model P w) A (.call (.ref f) args) (CR CX0 outer P w H s Q E) s

section
variable {P : Program} {w : World} {K : PySem.W.Frag} {mg : Str → Option Value} {base : Heap} {k : Nat} {f : Addr} {fd : FuncData}
  {ps : List Str} {sp : Sp}
theorem FnG.up {j : Nat} (F : FnG P w K mg base j f fd ps sp) (h : j ≤ k) : FnG P w K mg base k f fd ps sp :=
  ⟨F.arity, fun A hg hr => F.go A hg (hr.mono h)⟩

theorem fnG_of {x qual : Str} {st : Stmt} {N : List Str} (F : Fun K x qual st f fd) (S : FnScope N ps (defScope st))
    (ar : ∀ vs H Q E, sp vs H Q E → vs.length = ps.length)
    (bd : ∀ (cdv : Value) (A : Around), A.guards = some [] → ∀ (outer : List Env) (s : Shared) (H : Hp) (vs : List V) (Q : VK) (E : XK),
      Room k (A.deeper (envOfC qual (defScope st) s.heap.objs.size f cdv)) → sp vs H Q E →
      ∃ t, PSs (cxOf CX0 P w K mg base N qual (defScope st) f cdv A outer s H E).nox (defBody st) t ∧
        t { nx := fun _ H' => Q .non H', rt := Q } (start N vs) H) : FnG P w K mg base (k + 1) f fd ps sp := by
  obtain ⟨oc, od, kV, doc, pm, an, cdv, ct, osl, rfl, lk, hcd⟩ := F.ex
  refine ⟨ar, fun A hgu hr outer s H args us vs Q E e0 hb rv hsp => ?_⟩
  have nl := ar _ _ _ _ hsp
  have kin : K.In s.heap := e0.mod.kin.keeps fun b o e => (e0.bs b o e).1
  have nolim : s.heap.NoLimit := e0.mod.nolimit.keeps fun b o e => (e0.bs b o e).1
  have kinds : ∀ y ∈ ps.zip us, (defScope st).names.lookup y.1 = some .local ∨ ((defScope st).names.lookup y.1 = some .cell ∧
      ((cellsFrom (s.heap.objs.size + 1) (defScope st).names []).lookup y.1).isSome = true) := by
    rintro ⟨n, v⟩ hy
    rcases S.par n (List.of_mem_zip hy).1 with q | q
    · exact .inl q
    · exact .inr ⟨q, PySem.W.cellsFrom_some _ _ _ (.inl q)⟩
  refine codeAny_call_function hr.depth (kin _ _ lk) rfl S.co S.gen rfl (PySem.W.codeRec_of kin hcd) (hb _ _ _ _ ?_)
  refine wpAny_newFunctionEnv_cells S.kind kinds fun env he s1 xx => ?_
  subst he
  refine ⟨nolim.keeps xx.toInCall.keep, codeAny_func ?_⟩
  obtain ⟨t, ht0, hq⟩ := bd cdv A hgu outer s H vs Q E (hr.deeper _) hsp
  have ht := ht0.nox
  have I0 := inv_start (CX := CX0) (E := E) S hr.hd e0 nl rv xx
  refine wpAny_mono (ht.run [] s1 (start N vs) H _ I0 hq) (fun fl s' hs => ?_) fun e s' hs => hs
  cases fl with
  | ret u =>
    obtain ⟨v, σ', H', J, r2, q⟩ := hs
    exact ⟨v, H', J.os, J.bare, J.base, J.hok, r2, q⟩
  | next =>
    obtain ⟨σ', H', J, q⟩ := hs
    exact ⟨V.non, H', J.os, J.bare, J.base, J.hok, rfl, q⟩
  | brk =>
    obtain ⟨_, _, _, q⟩ := hs
    exact q.elim
  | cont =>
    obtain ⟨_, _, _, q⟩ := hs
    exact q.elim
end

section
variable {X : Cx} {k : Nat} {f : Addr} {fd : FuncData} {ps : List Str} {sp : Sp} {x : Str} {p pos : Pos} {e : Expr} {es : List Expr} {t : TA}
theorem pe_callG (F : FnG X.prog X.w X.K X.mg X.base k f fd ps sp) (hgu : X.A.guards = some []) (hr : Room k X.A) (hg : Gl X x)
    (hm : X.mg x = some (.ref f)) (hk : PySem.W.keepIn X.K (.ref f) = true) (hb : Binds X.K fd ps [])
    (ha : PA X (e :: es) t) (hdb : (x == ("__debug__" : Str)) = false := by decide)
    (he : starEach (e :: es) X.env = (false, eval e X.env) :: starEach es X.env := by rfl)
    (hpl : (backTo pos (starEach es X.env)).any (·.1) = false := by rfl) :
    PE X (.Call (.Name x p) (e :: es) [] pos) (tCall sp [] E0 t) := by
  refine ⟨fun pins s σ H Q I h => wpAny_Call_Name_kw (ld_glob I hg hm ?_ hdb)⟩
  refine PySem.W.callWith_K (h₀ := X.base) I.ok.mod.kin hk
    (thn (ha.run pos pins s σ H _ I h) fun us s1 ⟨vs, H1, I1, r, q⟩ => ⟨I1.kIn, ?_⟩) he hpl
  have q : sp (vs ++ []) H1 Q E0 := q
  rw [List.append_nil] at q
  have hl : (us ++ []).length = ps.length := by rw [List.append_nil, ← r.length]; exact F.arity _ _ _ _ q
  have hbb := hb s1 us I1.kIn hl
  rw [List.append_nil] at hbb
  refine wpAny_call (codeAny_mono (F.go X.A hgu hr X.stack s1 H1 ⟨us, []⟩ us vs Q E0 I1.env0 hbb r q) fun r s' hq => ?_)
  cases r with
  | error e => exact hq.elim
  | ok fl =>
    cases fl with
    | ret u => exact I1.after hq
    | next => exact hq.elim
    | brk => exact hq.elim
    | cont => exact hq.elim
end

/-! ### repr of data -/
mutual
theorem dp_nodict {K : PySem.W.Frag} {H : Hp} : ∀ (d : PyData) (v : V), Dp K H v d → d.hasDict = false
  | .none, _, _ => rfl
  | .bool _, _, _ => rfl
  | .int _, _, _ => rfl
  | .str _, _, _ => rfl
  | .list ds, _, h => by
    cases h with
    | lst _ a => exact dps_nodict ds _ a
  | .tuple ds, _, h => by
    cases h with
    | tup _ a => exact dps_nodict ds _ a
  | .dict _, _, h => by cases h
theorem dps_nodict {K : PySem.W.Frag} {H : Hp} : ∀ (ds : List PyData) (vs : List V), DpAll K H vs ds → PyData.hasDictAll ds = false
  | [], _, _ => rfl
  | d :: ds, _, h => by
    cases h with
    | cons a b =>
      show (d.hasDict || PyData.hasDictAll ds) = false
      rw [dp_nodict d _ a, dps_nodict ds _ b]
      rfl
end

/-- data that is small: what repr and == ask of it -/
structure Sm (wt dp : Nat) (d : PyData) : Prop where
  lay : d.canLay0 = true
  short : d.intsShort 13 = true
  show_ : d.showable = true
  wt : d.weight ≤ wt
  dp : d.depth ≤ dp
structure SmA (n wt dp : Nat) (ds : List PyData) : Prop where
  len : ds.length ≤ n
  lay : PyData.canLayAll0 ds = true
  short : PyData.intsShortAll 13 ds = true
  show_ : PyData.showableAll ds = true
  wt : PyData.weightAll ds ≤ ds.length * (wt + 1)
  dp : PyData.depthAll ds ≤ dp
theorem SmA.nil {n wt dp : Nat} : SmA n wt dp [] := ⟨Nat.zero_le _, rfl, rfl, rfl, by simp [PyData.weightAll], Nat.zero_le _⟩
theorem SmA.cons {n wt dp : Nat} {d : PyData} {ds : List PyData} (a : Sm wt dp d) (b : SmA n wt dp ds) : SmA (n + 1) wt dp (d :: ds) where
  len := Nat.succ_le_succ b.len
  lay := by show (d.canLay0 && _) = true; rw [a.lay, b.lay]; rfl
  short := by show (d.intsShort 13 && _) = true; rw [a.short, b.short]; rfl
  show_ := by show (d.showable && _) = true; rw [a.show_, b.show_]; rfl
  wt := by
    have h1 := a.wt
    have h2 := b.wt
    show d.weight + 1 + PyData.weightAll ds ≤ (ds.length + 1) * (wt + 1)
    rw [Nat.succ_mul]
    omega
  dp := Nat.max_le.mpr ⟨a.dp, b.dp⟩
theorem SmA.all {wt dp : Nat} : ∀ {ds : List PyData}, (∀ d ∈ ds, Sm wt dp d) → SmA ds.length wt dp ds
  | [], _ => .nil
  | d :: ds, h => .cons (h d List.mem_cons_self) (SmA.all fun x hx => h x (List.mem_cons_of_mem _ hx))
theorem Sm.up {w1 w2 k1 k2 : Nat} {d : PyData} (a : Sm w1 k1 d) (h : w1 ≤ w2) (hk : k1 ≤ k2) : Sm w2 k2 d :=
  ⟨a.lay, a.short, a.show_, Nat.le_trans a.wt h, Nat.le_trans a.dp hk⟩
theorem SmA.len_le {n wt dp : Nat} {ds : List PyData} (b : SmA n wt dp ds) : PyData.weightAll ds ≤ n * (wt + 1) :=
  Nat.le_trans b.wt (Nat.mul_le_mul_right _ b.len)
theorem SmA.tup {n wt dp : Nat} {ds : List PyData} (b : SmA n wt dp ds) : Sm (n * (wt + 1)) (dp + 1) (.tuple ds) :=
  ⟨b.lay, b.short, b.show_, b.len_le, Nat.succ_le_succ b.dp⟩
theorem SmA.lst {n wt dp : Nat} {ds : List PyData} (b : SmA n wt dp ds) : Sm (n * (wt + 1)) (dp + 1) (.list ds) :=
  ⟨b.lay, b.short, b.show_, b.len_le, Nat.succ_le_succ b.dp⟩
theorem log2_lt_of {n : Nat} (h : n < 4096) : n.log2 ≤ 11 := by
  by_cases h0 : n = 0
  · subst h0; decide
  · have := (Nat.log2_lt h0 (k := 12)).mpr (by omega)
    omega
theorem Sm.int {i : Int} (h0 : 0 ≤ i) (h : i < 4096) : Sm 13 0 (.int i) where
  lay := rfl
  short := by
    refine decide_eq_true ?_
    have e := int_text_length_le (a := i) (k := 12) (by decide) (by have := log2_lt_of (n := i.natAbs) (by omega); omega)
    show (Str.ofString (toString i)).length ≤ 13
    rw [PySem.ofString_length]
    omega
  show_ := decide_eq_true (by have := log2_lt_of (n := i.natAbs) (by omega); omega)
  wt := by
    have := log2_lt_of (n := i.natAbs) (by omega)
    show (if i == 0 then 0 else i.natAbs.log2 + 1) ≤ 13
    split
    · omega
    · omega
  dp := Nat.le_refl _
theorem Sm.size {wt dp : Nat} {d : PyData} (a : Sm wt dp d) (h : wt ≤ 1048576) : d.shown.length ≤ sizeLine := by
  have h2 := PyData.shown_le 13 (by decide) d (PyData.leavesShort_of_canLay0 13 d a.lay a.short)
  have h3 := a.wt
  rw [sizeLine_eq]
  omega
theorem Sm.shaped {wt dp : Nat} {d : PyData} (a : Sm wt dp d) (h : dp ≤ 64) : SeqAt.shaped d = true := by
  show (d.canLay0 && decide (d.depth ≤ 64)) = true
  rw [a.lay, decide_eq_true (Nat.le_trans a.dp h)]
  rfl

/-- repr of a list or tuple of data: its text -/
theorem call_reprD {X : Cx} (hg : X.A.guards = some []) (hu : X.A.units + 66 < cLine) : CallR X (.builtin "repr") (fun xs H Q =>
    ∃ a d wt, xs = [.ref a] ∧ Dp X.K H (.ref a) d ∧ Sm wt 64 d ∧ wt ≤ 1048576 ∧ Q (.str d.shown) H) := by
  intro pins s σ H xs us Q I r h
  obtain ⟨a, d, wt, rfl, hd, sm, hw, q⟩ := h
  obtain ⟨u, rfl, ru⟩ := vals1 r
  cases ru
  obtain ⟨as, rd⟩ := Dp.reads I d _ _ hd rfl
  have hdp := sm.dp
  exact repr_of_reads' rd sm.show_ (PyData.noDict_hsm (dp_nodict d _ hd)) hg (by omega) (fun _ _ e => e)
    (fun h' u tk hk => ⟨.str d.shown, H, I.kept hk, ⟨_, rfl⟩, q⟩) (sm.size hw)
end DD
namespace DD
open PySem PySem.Spec PyProof.Rows L2

/-! ### the end of a law whose def keeps its promise where no repr is under way -/
section
variable {P : Program} {w : World} {K : PySem.W.Frag} {mg mb : Str → Option Value} {k : Nat} {fa a : Addr} {fd : FuncData} {x : Str} {sp : Sp}
  {s1 : Shared} {vs : List Value} {ns : List Int}
theorem law_goG (kin : K.In s1.heap) (nsG : s1.heap.Ns mainGlobals mg) (nsB : s1.heap.Ns builtinsNs mb)
    (blt : ∀ x : Str, x ≠ "__name__" → mb x = bootBuiltins x) (nolim : s1.heap.NoLimit) (ng : s1.gens = #[])
    (oa : s1.heap.get? a = some { cls := .type "list", data := .seq vs.toArray }) (ia : IntsAre vs ns) (len : ns.length ≤ sizeLine)
    (room : Room k callerA) (F : ∀ base : Heap, K.In base → base.Ns mainGlobals mg → FnG P w K mg base k fa fd [x] sp)
    (bind : ∀ (s : Shared) (u : Value), BindsTo s fd ⟨[u], []⟩ [(x, u)])
    (wish : ∀ H : Hp, Only H → SqL K H a (ns.map V.int) → sp [.ref a] H (fun v _ => v = .bl true) fun _ _ _ => False) :
    codeAny (model P w) callerA (.call (.ref fa) ⟨[.ref a], []⟩)
      (fun r s' => r = .ok (.ret (.bool true)) ∧ OldK s1.heap s'.heap ∧ s'.os = s1.os ∧ AllBare s'.gens) s1 := by
  have rv := vals_ints ia
  have lv := ia.length
  -- the run, from an abstract heap that tracks at most the script
  have main : ∀ H : Hp, Only H → SqL K H a (ns.map V.int) → HOk P w H s1.heap → (∀ b, H b ≠ none → b = a) → (H a ≠ none → K.lookup a = none) →
      codeAny (model P w) callerA (.call (.ref fa) ⟨[.ref a], []⟩)
        (fun r s' => r = .ok (.ret (.bool true)) ∧ OldK s1.heap s'.heap ∧ s'.os = s1.os ∧ AllBare s'.gens) s1 := by
    intro H onl hS ok only noK
    have free : ∀ {b : Addr} {o : Obj} {es : Array DictEntry} {ep : Nat}, s1.heap.get? b = some o → o.data = .dict es ep → H b = none := by
      intro b o es ep e d
      cases q : H b with
      | none => rfl
      | some u =>
        obtain rfl := only b (by rw [q]; simp)
        rw [oa] at e
        cases e
        exact nomatch (show Data.seq vs.toArray _ = Data.dict es ep from d)
    have nsOf : ∀ {b : Addr} {m : Str → Option Value}, s1.heap.Ns b m → (hidT s1.heap H).Ns b m := by
      rintro b m ⟨o, es, ep, e, d, r⟩
      exact ⟨o, es, ep, hidT_get e (free e d), d, r⟩
    have kin0 : K.In (hidT s1.heap H) := fun b o e => hidT_get (kin b o e) (by
      cases q : H b with
      | none => rfl
      | some u =>
        obtain rfl := only b (by rw [q]; simp)
        rw [noK (by rw [q]; simp)] at e
        cases e)
    obtain ⟨mc, c1, c2⟩ := nolim
    have md : Mod K mg (hidT s1.heap H) := ⟨kin0, nsOf nsG, ⟨mb, nsOf nsB, blt⟩, mc, nsOf c1, c2⟩
    have e0 : Env0 P w K mg (hidT s1.heap H) callerA [] s1 H :=
      ⟨rfl, md, fun b o e => of_hidT e, Nat.le_of_eq (hidT_size _ _), trivial, fun b z => (nomatch (show b ∈ ([] : List Addr) from z)), ok, .of_eq ng⟩
    have ran := (F _ kin0 (nsOf nsG)).go callerA rfl room [] s1 H ⟨[.ref a], []⟩ [.ref a] [.ref a] _ _ e0 (bind s1 (.ref a)) (.cons rfl .nil) (wish H onl hS)
    refine codeAny_mono ran fun r s' h => ?_
    match r, h with
    | .ok (.ret u), h =>
      obtain ⟨v, H', eos, br, un, ok', r', q⟩ := h
      obtain rfl : v = .bl true := q
      obtain rfl : u = Value.bool true := r'
      refine ⟨rfl, OldK.of_keep fun b o e => ?_, eos, br⟩
      cases q : H b with
      | none => exact un.keep b o e q (fun z => nomatch (show b ∈ ([] : List Addr) from z)) (by simp)
      | some u =>
        rcases onl b with z | ⟨ob, xs, z⟩
        · rw [q] at z
          cases z
        · have e1 := (ok b _ z).1
          rw [e] at e1
          cases e1
          exact (ok' b _ (un.frzs b _ _ z)).1
  cases hk : K.lookup a with
  | some o =>
    -- the script is one of the module's own objects
    have e := kin a o hk
    rw [oa] at e
    cases e
    have hsz : vs.toArray.size ≤ sizeLine := by
      rw [List.size_toArray, lv]
      exact len
    exact main (fun _ => none) (fun _ => .inl rfl) (.inr ⟨_, vs.toArray, _, hk, rfl, rfl, rfl, hsz, by simpa using rv⟩)
      (fun b u z => nomatch (show (none : Option HO) = some u from z)) (fun b z => absurd rfl z) fun z => absurd rfl z
  | none =>
    let fr : HO := .frz { cls := .type "list", data := .seq vs.toArray } (.lst (ns.map V.int))
    have at_ : (fun b => if b = a then some fr else none : Hp) a = some fr := if_pos rfl
    have else_ : ∀ b, b ≠ a → (fun b => if b = a then some fr else none : Hp) b = none := fun b hb => if_neg hb
    refine main (fun b => if b = a then some fr else none) (fun b => ?_) (.inl (.inr ⟨_, at_⟩)) (fun b u z => ?_) (fun b z => ?_) fun _ => hk
    · by_cases hb : b = a
      · exact .inr ⟨_, _, if_pos hb⟩
      · exact .inl (else_ b hb)
    · by_cases hb : b = a
      · subst hb
        cases at_.symm.trans z
        exact ⟨oa, by rw [List.length_map]; exact len, vs, _, rv, oa⟩
      · exact nomatch (else_ b hb).symm.trans z
    · by_cases hb : b = a
      · exact hb
      · exact absurd (else_ b hb) z
end

theorem walk_ofG {l : PySem.W.OpenLaw} {n k : Nat} {q : Program} {loose : List Str} {XP : (Str → Option Value) → Heap → Prop} {YP : World → Heap → Prop}
    {d : DefRec} {K : Params → PySem.W.Frag} {sp : World → Sp} {x : Str} (most : l.most = some n) (n_le : n ≤ sizeLine) (nodef : d.params.defaults = [])
    (room : Room k callerA) (kin : ∀ (w : World) (h : Heap), YP w h → (K w.params).In h)
    (F : ∀ (w : World) (mg : Str → Option Value) (fa : Addr) (h : Heap), (K w.params).In h → h.Ns mainGlobals mg → mg d.name = some (.ref fa) →
      ∃ fd : FuncData, (∀ (s : Shared) (u : Value), BindsTo s fd ⟨[u], []⟩ [(x, u)]) ∧
        ∀ base : Heap, (K w.params).In base → base.Ns mainGlobals mg → FnG l.prog w (K w.params) mg base k fa fd [x] (sp w))
    (wish : ∀ (w : World) (H : Hp) (a : Addr) (ns : List Int), ns.length ≤ n → Only H → SqL (K w.params) H a (ns.map V.int) →
      sp w [.ref a] H (fun v _ => v = .bl true) fun _ _ _ => False) :
    PySem.W.WalkO q loose XP YP l.row.toRowW d [] (fun f vs => PySem.call f vs) := by
  refine Att.attach_call most nodef fun w s0 s1 mg mb fa o pm cd doc a vs ns G Y ho hd hcd hmg hobj hints hlen hg => ?_
  obtain ⟨fd, hb, hF⟩ := F w mg fa _ (kin w _ Y) G.T.g hmg
  exact law_goG (kin w _ Y) G.T.g G.T.b G.T.builtins G.T.nolimit hg hobj hints (Nat.le_trans hlen n_le) room hF hb
    fun H hO hS => wish w H a ns hlen hO hS
end DD
namespace DD
open PySem PySem.Spec PyProof.Rows L2
section
variable {M : Model} {A : Around} {E : Value → Shared → Prop}
theorem wp_forIn {α β : Type} (f : α → β → Sem (ForInStep β)) : ∀ (l : List α) (J : Nat → β → Shared → Prop),
    (∀ j x b s, l[j]? = some x → J j b s → wpAny M A (f x b) (fun r s' => ∃ b', r = .yield b' ∧ J (j + 1) b' s') E s) →
    ∀ (b : β) (s : Shared), J 0 b s → wpAny M A (forIn l b f) (fun b' s' => J l.length b' s') E s
  | [], J, step, b, s, h => by
    rw [List.forIn_nil]
    exact wpAny_pure h
  | x :: l, J, step, b, s, h => by
    rw [List.forIn_cons]
    refine wpAny_bind (wpAny_mono (step 0 x b s rfl h) (fun r s' hr => ?_) (fun _ _ e => e))
    obtain ⟨b', rfl, hJ⟩ := hr
    exact wp_forIn f l (fun j => J (j + 1)) (fun j y c s'' e hj => step (j + 1) y c s'' e hj) b' s' hJ
end

abbrev zObj (f0 f1 : Value) (TI TO : Addr) : Obj :=
  { cls := .type "zip", dict := none, data := .fields #[f0, f1, .bool false, .ref TI, .ref TO], slots := #[] }
abbrev tObj (vs : Array Value) : Obj := { cls := .type "tuple", data := .seq vs }
structure ZApart (z TI TO : Addr) (ps : List (Addr × Addr)) : Prop where
  tz : TI ≠ z
  oz : TO ≠ z
  it : TI ≠ TO
  nd : (ps.map (·.1)).Nodup
  pz : ∀ p ∈ ps, p.1 ≠ z ∧ p.1 ≠ TI ∧ p.1 ≠ TO ∧ p.2 ≠ z ∧ p.2 ≠ TO
  px : ∀ p ∈ ps, ∀ q ∈ ps, p.2 ≠ q.1
structure ZSt (h : Heap) (z TI TO : Addr) (ps : List (Addr × Addr)) (k : Nat) : Prop where
  zz : ∃ f0 f1, h.get? z = some (zObj f0 f1 TI TO) ∧ (f0 = .none ∨ ∃ a t, f0 = .int a t)
  ti : h.get? TI = some (tObj (ps.map fun p => Value.ref p.1).toArray)
  to : ∃ arr : Array Value, arr.size = ps.length ∧ h.get? TO = some (tObj arr)
  its : ∀ p ∈ ps, h.IsTupleIter p.1 p.2 k


/-- the objects but z, TO and the iterators stand; the first j iterators have turned -/
structure ZMid (g h : Heap) (z TO : Addr) (ps : List (Addr × Addr)) (k j : Nat) : Prop where
  size : h.objs.size = g.objs.size
  keep : ∀ c o, c ≠ z → c ≠ TO → (∀ p ∈ ps, c ≠ p.1) → g.get? c = some o → h.get? c = some o
  its : ∀ (i : Nat) (p : Addr × Addr), ps[i]? = some p → h.IsTupleIter p.1 p.2 (if i < j then k + 1 else k)

section
variable {prog : Program} {w : World} {A : Around} {E : Value → Shared → Prop} {s : Shared} {z TI TO : Addr} {ps : List (Addr × Addr)} {k : Nat}
theorem wp_alive {M : Model} {a : Addr} {Q : Option Obj → Shared → Prop} (h : Q (s.heap.get? a) s) : wpAny M A (loadIfAlive a) Q E s := fun _ _ _ => h
theorem ptr_ne {ps : List (Addr × Addr)} (nd : (ps.map (·.1)).Nodup) {i j : Nat} {p q : Addr × Addr} (hp : ps[i]? = some p) (hq : ps[j]? = some q) (h : i ≠ j) : p.1 ≠ q.1 := by
  intro e
  have e1 : (ps.map (·.1))[i]? = some p.1 := by rw [List.getElem?_map, hp] <;> rfl
  have e2 : (ps.map (·.1))[j]? = some p.1 := by rw [List.getElem?_map, hq, e] <;> rfl
  obtain ⟨l1, g1⟩ := List.getElem?_eq_some_iff.mp e1
  obtain ⟨l2, g2⟩ := List.getElem?_eq_some_iff.mp e2
  exact h ((List.getElem_inj nd).mp (g1.trans g2.symm))
theorem free_or {f0 f1 : Value} (hz : s.heap.get? z = some (zObj f0 f1 TI TO)) (hf0 : f0 = .none ∨ ∃ a t, f0 = .int a t) :
    wpAny (model prog w) A (Builtin.SmallTypes.ownedTupleIsFree (.ref z)) (fun b s' => (b = true ∧ s' = s) ∨
      (b = false ∧ ∃ h' f2, s' = { s with heap := h' } ∧ h'.get? z = some (zObj f0 f2 TI TO) ∧ Heap.SameBut z s.heap h')) E s := by
  unfold Builtin.SmallTypes.ownedTupleIsFree
  refine wpAny_bind (wpAny_field hz rfl (x := f0) rfl ?_)
  rcases hf0 with rfl | ⟨a, t, rfl⟩
  · exact wpAny_pure (.inl ⟨rfl, rfl⟩)
  · refine wpAny_bind (wp_alive ?_)
    cases ha : s.heap.get? a.toNat with
    | none => exact wpAny_pure (.inl ⟨rfl, rfl⟩)
    | some o =>
      simp only [Option.isNone_some, Bool.false_eq_true, if_false]
      refine wpAny_bind (wpAny_field hz rfl (x := f1) rfl ?_)
      by_cases hb : (f1 != Value.bool true) = true
      · rw [if_pos hb]
        refine wpAny_bind (wpAny_setField_rec hz (by simp) fun h1 hz1 hs1 => wpAny_pure (.inr ⟨rfl, h1, .bool true, rfl, hz1, hs1⟩))
      · rw [if_neg hb]
        exact wpAny_pure (.inr ⟨rfl, s.heap, f1, rfl, hz, Heap.SameBut.refl _ _⟩)
/-- one iterator's turn -/
theorem draw_one {g h : Heap} {j : Nat} {p : Addr × Addr} {xs : Array Value} {v : Value} {Q : Value → Shared → Prop} (D : ZApart z TI TO ps) (m : ZMid g h z TO ps k j)
    (hp : ps[j]? = some p) (hl : g.IsTuple p.2 xs) (hx : xs[k]? = some v)
    (hQ : ∀ h', ZMid g h' z TO ps k (j + 1) → Heap.SameBut p.1 h h' → Q v { s with heap := h' }) :
    wpAny (model prog w) A (Builtin.SmallTypes.nextOf (.ref p.1)) Q E { s with heap := h } := by
  have hm : p ∈ ps := List.mem_of_getElem? hp
  have h1 : h.IsTupleIter p.1 p.2 k := by
    have := m.its j p hp
    rwa [if_neg (Nat.lt_irrefl j)] at this
  have h2 : h.IsTuple p.2 xs := by
    obtain ⟨o, e, c⟩ := hl
    exact ⟨o, m.keep _ _ (D.pz p hm).2.2.2.1 (D.pz p hm).2.2.2.2 (fun q hq => D.px p hm q hq) e, c⟩
  refine RZ.nextOf_tuple_item (s := { s with heap := h }) h1 h2 hx fun h' hi hs => hQ h' ⟨hs.1.trans m.size, fun c o c1 c2 c3 e => ?_, fun i q hq => ?_⟩ hs
  · rw [hs.2 c (c3 p hm)]
    exact m.keep c o c1 c2 c3 e
  · by_cases hij : i = j
    · subst hij
      rw [hp] at hq
      cases hq
      rw [if_pos (Nat.lt_succ_self _)]
      exact hi
    · have hqi := m.its i q hq
      have hne := ptr_ne D.nd hq hp hij
      rw [show (if i < j + 1 then k + 1 else k) = (if i < j then k + 1 else k) by
        by_cases hlt : i < j
        · rw [if_pos hlt, if_pos (by omega)]
        · rw [if_neg hlt, if_neg (by omega)]]
      obtain ⟨o, e, c⟩ := hqi
      exact ⟨o, (hs.2 _ hne).trans e, c⟩
theorem ZMid.full {g h : Heap} (m : ZMid g h z TO ps k ps.length) : ∀ p ∈ ps, h.IsTupleIter p.1 p.2 (k + 1) := fun p hp => by
  obtain ⟨i, hi⟩ := List.mem_iff_getElem?.mp hp
  obtain ⟨hl, _⟩ := List.getElem?_eq_some_iff.mp hi
  have := m.its i p hi
  rwa [if_pos hl] at this

theorem zn_item {vs : List Value} {Q : Value → Shared → Prop} (D : ZApart z TI TO ps) (hn : 1 ≤ ps.length) (hn2 : ps.length ≤ 1000) (S : ZSt s.heap z TI TO ps k)
    (hv : vs.length = ps.length) (hi : ∀ (j : Nat) (p : Addr × Addr), ps[j]? = some p → ∃ xs, s.heap.IsTuple p.2 xs ∧ xs[k]? = vs[j]?)
    (hQ : ∀ h', ZSt h' z TI TO ps (k + 1) → h'.get? s.heap.objs.size = some (tObj vs.toArray) → h'.objs.size = s.heap.objs.size + 1 →
      (∀ c o, c ≠ z → c ≠ TO → (∀ p ∈ ps, c ≠ p.1) → s.heap.get? c = some o → h'.get? c = some o) → Q (.ref s.heap.objs.size) { s with heap := h' }) :
    wpAny (model prog w) A (Builtin.«zip.__next__» ⟨[.ref z], []⟩) (fun fin s' => ∃ v, fin = .done (.ret v) ∧ Q v s') E s := by
  obtain ⟨⟨f0, f1, hz, hf0⟩, hTI, ⟨arr, ha, hTO⟩, hits⟩ := S
  show wpAny _ _ (field (.ref z) 2 >>= _) _ _ _
  refine wpAny_bind (wpAny_field hz rfl (x := .bool false) rfl ?_)
  show wpAny _ _ (field (.ref z) 3 >>= _) _ _ _
  refine wpAny_bind (wpAny_field hz rfl (x := .ref TI) rfl ?_)
  refine wpAny_bind (wpAny_seqItems hTI rfl ?_)
  have hne : (ps.map fun p => Value.ref p.1).toArray.isEmpty = false := by
    cases ps with
    | nil => simp at hn
    | cons p r => rfl
  simp only [hne, Bool.false_eq_true, if_false]
  have m0 : ∀ h, Heap.SameBut z s.heap h → ZMid s.heap h z TO ps k 0 := fun h hs =>
    ⟨hs.1, fun c o c1 _ _ e => (hs.2 c c1).trans e, fun i p hp => by
      rw [if_neg (Nat.not_lt_zero _)]
      have hm := List.mem_of_getElem? hp
      obtain ⟨o, e, c⟩ := hits p hm
      exact ⟨o, (hs.2 _ (D.pz p hm).1).trans e, c⟩⟩
  refine wpAny_bind (wpAny_mono (free_or hz hf0) (fun b s' hb => ?_) fun _ _ e => e)
  rcases hb with ⟨rfl, rfl⟩ | ⟨rfl, h1, f2, rfl, hz1, hs1⟩
  · simp only [if_true]
    refine wpAny_bind (wpAny_rule ?_)
    refine wpAny_bind (wpAny_field hz rfl (x := .ref TO) rfl ?_)
    refine wpAny_bind (wpAny_setField_rec hz (by simp) fun h1 hz1 hs1 => ?_)
    replace hz1 : h1.get? z = some (zObj .ellipsis f1 TI TO) := hz1
    have nTI : ∀ p ∈ ps, TI ≠ p.1 := fun p hp q => (D.pz p hp).2.1 q.symm
    refine wpAny_bind (thn (wp_forIn _ _ (fun j b s2 => b = (none, ()) ∧ ∃ (h : Heap) (a2 : Array Value), s2 = { s' with heap := h } ∧ ZMid s'.heap h z TO ps k j ∧
      h.get? z = some (zObj .ellipsis f1 TI TO) ∧ a2.size = ps.length ∧ (∀ i, i < j → a2[i]? = vs[i]?) ∧ h.get? TO = some (tObj a2)) ?step _ _ ?init) fun b s2 hb => ?last)
    case init => exact ⟨rfl, h1, arr, rfl, m0 h1 hs1, hz1, ha, fun i hi => absurd hi (Nat.not_lt_zero _), (hs1.2 _ D.oz).trans hTO⟩
    case step =>
      rintro j x b s2 hx ⟨rfl, h, a2, rfl, m, hz2, hs2, pre, hTO2⟩
      rw [List.getElem?_zipIdx, List.getElem?_map] at hx
      cases hp : ps[j]? with
      | none =>
        rw [hp] at hx
        cases hx
      | some p =>
        rw [hp] at hx
        obtain rfl : (Value.ref p.1, 0 + j) = x := Option.some.inj hx
        obtain ⟨xs, hl, hxk⟩ := hi j p hp
        have hm : p ∈ ps := List.mem_of_getElem? hp
        have hj : j < ps.length := (List.getElem?_eq_some_iff.mp hp).1
        have hjv : vs[j]? = some (vs[j]'(by omega)) := List.getElem?_eq_getElem (by omega)
        refine wpAny_bind (wpAny_onRaise ?_)
        show wpAny _ _ (Builtin.SmallTypes.nextOf (.ref p.1) >>= _) _ _ _
        refine wpAny_bind (draw_one D m hp hl (hxk.trans hjv) fun h' m' hs' => wpAny_pure ?_)
        have hTO' : h'.get? TO = some (tObj a2) := (hs'.2 _ (D.pz p hm).2.2.1.symm).trans hTO2
        refine wpAny_bind (wpAny_seqItems hTO' rfl ?_)
        have hb1 : a2.size ≤ sizeLine := by rw [hs2, sizeLine_eq]; omega
        refine wpAny_bind (wpAny_updateSeq hTO' rfl ?_ hb1 (by rw [Array.size_setIfInBounds, hs2, sizeLine_eq]; omega))
        have sb := Heap.SameBut.update h' TO (Obj.mapSeq fun x => x.setIfInBounds (0 + j) (vs[j]'(by omega)))
        refine wpAny_bind (wpAny_letGo (wpAny_pure ⟨_, rfl, rfl, _, a2.setIfInBounds j (vs[j]'(by omega)), rfl, ⟨sb.1.trans m'.size, fun c o c1 c2 c3 e => (sb.2 c c2).trans (m'.keep c o c1 c2 c3 e), fun i q hq => ?_⟩, ?_, ?_, fun i hij => ?_, ?_⟩))
        · obtain ⟨o, e, c⟩ := m'.its i q hq
          exact ⟨o, (sb.2 _ (D.pz q (List.mem_of_getElem? hq)).2.2.1).trans e, c⟩
        · rw [sb.2 z D.oz.symm, hs'.2 z (D.pz p hm).1.symm]
          exact hz2
        · rw [Array.size_setIfInBounds]
          exact hs2
        · rw [Array.getElem?_setIfInBounds]
          by_cases e : j = i
          · subst e
            rw [if_pos rfl, if_pos (by omega)]
            exact hjv.symm
          · rw [if_neg e]
            exact pre i (by omega)
        · rw [Heap.get?_update_self _ hTO' rfl, Nat.zero_add]
          simp [Obj.mapSeq]
    case last =>
      obtain ⟨rfl, h, a2, rfl, m, hz2, hs2, pre, hTO2⟩ := hb
      rw [List.length_zipIdx, List.length_map] at m pre
      have ea : a2 = vs.toArray := by
        refine Array.ext_getElem? fun i => ?_
        by_cases hlt : i < ps.length
        · rw [pre i hlt, List.getElem?_toArray]
        · rw [Array.getElem?_eq_none (by omega), List.getElem?_toArray, List.getElem?_eq_none (by omega)]
      subst ea
      show wpAny _ _ (seqItems? (.ref TO) >>= _) _ _ _
      refine wpAny_bind (wpAny_seqItems hTO2 rfl ?_)
      refine wpAny_bind (wpAny_newTuple ?_ (by show vs.length ≤ _; rw [sizeLine_eq]; omega))
      show wpAny _ _ (Builtin.SmallTypes.ownedTupleHandOut (.ref z) (.ref h.objs.size) >>= _) _ _ _
      refine wpAny_bind ?_
      unfold Builtin.SmallTypes.ownedTupleHandOut
      have hzp : (h.push (tObj vs.toArray)).get? z = some (zObj .ellipsis f1 TI TO) := Heap.get?_push_of_some _ hz2
      refine wpAny_bind (wpAny_setField_rec hzp (by simp) fun h3 hz3 hs3 => ?_)
      replace hz3 : h3.get? z = some (zObj (rawInt h.objs.size) f1 TI TO) := hz3
      refine wpAny_setField_rec hz3 (by simp) fun h4 hz4 hs4 => ?_
      replace hz4 : h4.get? z = some (zObj (rawInt h.objs.size) (.bool false) TI TO) := hz4
      have hzlt : z < h.objs.size := Heap.lt_size hz2
      have up : ∀ c o, c ≠ z → h.get? c = some o → h4.get? c = some o := fun c o c1 e =>
        (hs4.2 c c1).trans ((hs3.2 c c1).trans (Heap.get?_push_of_some _ e))
      refine wpAny_pure ⟨_, rfl, ?_⟩
      show Q (.ref h.objs.size) _
      have key := hQ h4 ⟨⟨_, _, hz4, .inr ⟨_, _, rfl⟩⟩, up _ _ D.tz (m.keep TI _ D.tz D.it nTI hTI), ⟨_, hs2, up _ _ D.oz hTO2⟩, fun p hp => ?_⟩ ?_ ?_ fun c o c1 c2 c3 e => up c o c1 (m.keep c o c1 c2 c3 e)
      · rw [m.size]
        exact key
      · obtain ⟨o, e, c⟩ := m.full p hp
        exact ⟨o, up _ _ (D.pz p hp).1 e, c⟩
      · rw [← m.size, hs4.2 _ (Nat.ne_of_gt hzlt), hs3.2 _ (Nat.ne_of_gt hzlt)]
        exact Heap.get?_push_size _ rfl
      · rw [hs4.1, hs3.1, Heap.size_push, m.size]
  · simp only [Bool.false_eq_true, if_false, List.forIn_toArray]
    have nTI : ∀ p ∈ ps, TI ≠ p.1 := fun p hp q => (D.pz p hp).2.1 q.symm
    refine wpAny_bind (thn (wp_forIn _ _ (fun j b s2 => b = (none, (vs.take j).toArray) ∧ ∃ (h : Heap), s2 = { s with heap := h } ∧ ZMid s.heap h z TO ps k j ∧
      h.get? z = some (zObj f0 f2 TI TO) ∧ h.get? TO = some (tObj arr)) ?step _ _ ?init) fun b s2 hb => ?last)
    case init => exact ⟨rfl, h1, rfl, m0 h1 hs1, hz1, (hs1.2 _ D.oz).trans hTO⟩
    case step =>
      rintro j x b s2 hx ⟨rfl, h, rfl, m, hz2, hTO2⟩
      rw [List.getElem?_map] at hx
      cases hp : ps[j]? with
      | none =>
        rw [hp] at hx
        cases hx
      | some p =>
        rw [hp] at hx
        obtain rfl : Value.ref p.1 = x := Option.some.inj hx
        obtain ⟨xs, hl, hxk⟩ := hi j p hp
        have hm : p ∈ ps := List.mem_of_getElem? hp
        have hj : j < ps.length := (List.getElem?_eq_some_iff.mp hp).1
        have hjv : vs[j]? = some (vs[j]'(by omega)) := List.getElem?_eq_getElem (by omega)
        refine wpAny_bind (wpAny_holding ?_)
        show wpAny _ _ (Builtin.SmallTypes.nextOf (.ref p.1) >>= _) _ _ _
        refine wpAny_bind (draw_one D m hp hl (hxk.trans hjv) fun h' m' hs' => wpAny_pure (wpAny_pure ⟨_, rfl, ?_, h', rfl, m', ?_, ?_⟩))
        · rw [List.take_add_one, hjv]
          simp
        · exact (hs'.2 z (D.pz p hm).1.symm).trans hz2
        · exact (hs'.2 _ (D.pz p hm).2.2.1.symm).trans hTO2
    case last =>
      obtain ⟨rfl, h, rfl, m, hz2, hTO2⟩ := hb
      rw [List.length_map] at m
      rw [List.length_map, List.take_of_length_le (by omega)]
      have hsz : vs.length ≤ sizeLine := by rw [sizeLine_eq]; omega
      show wpAny _ _ (newTuple vs.toArray.toList >>= _) _ _ _
      refine wpAny_bind (wpAny_newTuple ?_ (by simpa using hsz))
      refine wpAny_pure ⟨_, rfl, ?_⟩
      have up : ∀ c o, h.get? c = some o → (h.push (tObj vs.toArray)).get? c = some o := fun c o e => Heap.get?_push_of_some _ e
      have key := hQ (h.push (tObj vs.toArray)) ⟨⟨_, _, up _ _ hz2, hf0⟩, up _ _ (m.keep TI _ D.tz D.it nTI hTI), ⟨_, ha, up _ _ hTO2⟩, fun p hp => ?_⟩ ?_ ?_ fun c o c1 c2 c3 e => up c o (m.keep c o c1 c2 c3 e)
      · show Q (.ref h.objs.size) _
        rw [m.size]
        exact key
      · obtain ⟨o, e, c⟩ := m.full p hp
        exact ⟨o, up _ _ e, c⟩
      · rw [← m.size]
        exact Heap.get?_push_size _ rfl
      · rw [Heap.size_push, m.size]
end
end DD
namespace DD
open PySem PySem.Spec PyProof.Rows L2
section
variable {prog : Program} {w : World} {A : Around} {E : Value → Shared → Prop} {s : Shared} {z TI TO : Addr} {ps : List (Addr × Addr)} {k : Nat}
theorem zn_end {Q : Fin → Shared → Prop} (hh : A.handled = none) (D : ZApart z TI TO ps) (S : ZSt s.heap z TI TO ps k) {p : Addr × Addr} {r : List (Addr × Addr)} {xs : Array Value}
    (hps : ps = p :: r) (hl : s.heap.IsTuple p.2 xs) (hx : xs[k]? = none)
    (hE : ∀ h' e, (∀ c o, c ≠ z → c ≠ TO → (∀ p ∈ ps, c ≠ p.1) → s.heap.get? c = some o → h'.get? c = some o) →
      (∃ o, h'.get? e = some o ∧ o.cls = .type "StopIteration") → E (.ref e) { s with heap := h' }) :
    wpAny (model prog w) A (Builtin.«zip.__next__» ⟨[.ref z], []⟩) Q E s := by
  obtain ⟨⟨f0, f1, hz, hf0⟩, hTI, ⟨arr, ha, hTO⟩, hits⟩ := S
  have hm : p ∈ ps := by rw [hps]; exact List.mem_cons_self
  show wpAny _ _ (field (.ref z) 2 >>= _) _ _ _
  refine wpAny_bind (wpAny_field hz rfl (x := .bool false) rfl ?_)
  show wpAny _ _ (field (.ref z) 3 >>= _) _ _ _
  refine wpAny_bind (wpAny_field hz rfl (x := .ref TI) rfl ?_)
  refine wpAny_bind (wpAny_seqItems hTI rfl ?_)
  have hne : (ps.map fun p => Value.ref p.1).toArray.isEmpty = false := by
    rw [hps]
    rfl
  simp only [hne, Bool.false_eq_true, if_false]
  have it1 := hits p hm
  have kz : ∀ h1, Heap.SameBut z s.heap h1 → h1.IsTupleIter p.1 p.2 k ∧ h1.IsTuple p.2 xs := fun h1 hs1 =>
    ⟨by obtain ⟨o, e, c⟩ := it1; exact ⟨o, (hs1.2 _ (D.pz p hm).1).trans e, c⟩, by obtain ⟨o, e, c⟩ := hl; exact ⟨o, (hs1.2 _ (D.pz p hm).2.2.2.1).trans e, c⟩⟩
  refine wpAny_bind (wpAny_mono (free_or hz hf0) (fun b s' hb => ?_) fun _ _ e => e)
  rcases hb with ⟨rfl, rfl⟩ | ⟨rfl, h1, f2, rfl, hz1, hs1⟩
  · simp only [if_true]
    refine wpAny_bind (wpAny_rule ?_)
    refine wpAny_bind (wpAny_field hz rfl (x := .ref TO) rfl ?_)
    refine wpAny_bind (wpAny_setField_rec hz (by simp) fun h1 hz1 hs1 => ?_)
    replace hz1 : h1.get? z = some (zObj .ellipsis f1 TI TO) := hz1
    obtain ⟨q1, q2⟩ := kz h1 hs1
    refine wpAny_bind ?_
    simp only [hps, List.map_cons, List.zipIdx_cons, List.forIn_cons]
    refine wpAny_bind (wpAny_bind (wpAny_onRaise ?_))
    show wpAny _ _ (Builtin.SmallTypes.nextOf (.ref p.1) >>= _) _ _ _
    refine wpAny_bind (RZ.nextOf_tuple_end (s := { s' with heap := h1 }) hh q1 q2 hx fun h2 e hs2 he => ?_)
    obtain ⟨oe, hoe, hce⟩ := he
    have hz2 : h2.get? z = some (zObj .ellipsis f1 TI TO) := hs2 _ _ (D.pz p hm).1.symm hz1
    have hez : e ≠ z := fun x => by
      subst x
      rw [hz2] at hoe
      cases hoe
      simp at hce
    refine wpAny_setField_rec hz2 (by simp) fun h3 _ hs3 => hE h3 e (fun c o c1 _ c3 x => (hs3.2 _ c1).trans (hs2 _ _ (c3 p hm) ((hs1.2 _ c1).trans x))) ⟨oe, (hs3.2 _ hez).trans hoe, hce⟩
  · simp only [Bool.false_eq_true, if_false, List.forIn_toArray]
    obtain ⟨q1, q2⟩ := kz h1 hs1
    refine wpAny_bind ?_
    simp only [hps, List.map_cons, List.forIn_cons]
    refine wpAny_bind (wpAny_bind (wpAny_holding ?_))
    show wpAny _ _ (Builtin.SmallTypes.nextOf (.ref p.1) >>= _) _ _ _
    refine wpAny_bind (RZ.nextOf_tuple_end (s := { s with heap := h1 }) hh q1 q2 hx fun h2 e hs2 he => hE h2 e (fun c o c1 _ c3 x => hs2 _ _ (c3 p hm) ((hs1.2 _ c1).trans x)) he)

theorem pyNext_zn_item {vs : List Value} {Q : Option Value → Shared → Prop} (D : ZApart z TI TO ps) (hn : 1 ≤ ps.length) (hn2 : ps.length ≤ 1000) (S : ZSt s.heap z TI TO ps k)
    (hv : vs.length = ps.length) (hi : ∀ (j : Nat) (p : Addr × Addr), ps[j]? = some p → ∃ xs, s.heap.IsTuple p.2 xs ∧ xs[k]? = vs[j]?)
    (hQ : ∀ h', ZSt h' z TI TO ps (k + 1) → h'.get? s.heap.objs.size = some (tObj vs.toArray) → h'.objs.size = s.heap.objs.size + 1 →
      (∀ c o, c ≠ z → c ≠ TO → (∀ p ∈ ps, c ≠ p.1) → s.heap.get? c = some o → h'.get? c = some o) → Q (some (.ref s.heap.objs.size)) { s with heap := h' }) :
    wpAny (model prog w) A (pyNext (.ref z)) Q E s := by
  obtain ⟨f0, f1, hz, hf0⟩ := S.zz
  have hT : s.TypeIs (.ref z) "zip" := ⟨_, hz, rfl⟩
  unfold pyNext
  exact wpAny_bind (wpAny_attempt (wpAny_callSpecial?_slot (name := Str.ofString "__next__") hT F.slot_zip_next
    (wpAny_call_entry F.slot_zip_next hT F.entry_zip_next (zn_item D hn hn2 S hv hi fun h' a1 a2 a3 a4 => wpAny_pure (hQ h' a1 a2 a3 a4)) (F.args_zip_next_1 _))))
theorem pyNext_zn_end {Q : Option Value → Shared → Prop} (hh : A.handled = none) (D : ZApart z TI TO ps) (S : ZSt s.heap z TI TO ps k) {p : Addr × Addr} {r : List (Addr × Addr)} {xs : Array Value}
    (hps : ps = p :: r) (hl : s.heap.IsTuple p.2 xs) (hx : xs[k]? = none)
    (hQ : ∀ h', (∀ c o, c ≠ z → c ≠ TO → (∀ p ∈ ps, c ≠ p.1) → s.heap.get? c = some o → h'.get? c = some o) → Q none { s with heap := h' }) :
    wpAny (model prog w) A (pyNext (.ref z)) Q E s := by
  obtain ⟨f0, f1, hz, hf0⟩ := S.zz
  have hT : s.TypeIs (.ref z) "zip" := ⟨_, hz, rfl⟩
  unfold pyNext
  refine wpAny_bind (wpAny_attempt (wpAny_callSpecial?_slot (name := Str.ofString "__next__") hT F.slot_zip_next
    (wpAny_call_entry F.slot_zip_next hT F.entry_zip_next (zn_end hh D S hps hl hx fun h' e hk he => ?_) (F.args_zip_next_1 _))))
  obtain ⟨o, ho, hc⟩ := he
  exact wpAny_bind (wpAny_isInstance (T := "StopIteration") (b := true) ⟨o, ho, hc⟩ isSubtype_stop (wpAny_pure (hQ _ hk)))

/-! ### zip of one to four tuples made -/
theorem typeCall_zipN : ∀ vs : List Value, 1 ≤ vs.length → vs.length ≤ 4 → checkTypeCall "zip" ⟨vs, []⟩ = pure ()
  | [a], _, _ => by kernel_rfl
  | [a, b], _, _ => by kernel_rfl
  | [a, b, c], _, _ => by kernel_rfl
  | [a, b, c, d], _, _ => by kernel_rfl
  | [], h, _ => by simp at h
  | _ :: _ :: _ :: _ :: _ :: _, _, h => by simp at h
theorem newCall_zipN : ∀ vs : List Value, 1 ≤ vs.length → vs.length ≤ 4 → checkBuiltinCall "zip.__new__" ⟨.type "zip" :: vs, []⟩ = pure ()
  | [a], _, _ => by kernel_rfl
  | [a, b], _, _ => by kernel_rfl
  | [a, b, c], _, _ => by kernel_rfl
  | [a, b, c, d], _, _ => by kernel_rfl
  | [], h, _ => by simp at h
  | _ :: _ :: _ :: _ :: _ :: _, _, h => by simp at h
theorem args_object_initN (o : Value) : ∀ vs : List Value, 1 ≤ vs.length → vs.length ≤ 4 → argsOk "object.__init__" ⟨o :: vs, []⟩
  | [a], _, _ => by
    unfold argsOk
    rw [signature?_of (id := "object.__init__") (n := ['_', '_', 't', 'i', 'n', 'i', '_', '_']) (o := ['t', 'c', 'e', 'j', 'b', 'o']) (by kernel_rfl) F.owner_object]
    kernel_rfl
  | [a, b], _, _ => by
    unfold argsOk
    rw [signature?_of (id := "object.__init__") (n := ['_', '_', 't', 'i', 'n', 'i', '_', '_']) (o := ['t', 'c', 'e', 'j', 'b', 'o']) (by kernel_rfl) F.owner_object]
    kernel_rfl
  | [a, b, c], _, _ => by
    unfold argsOk
    rw [signature?_of (id := "object.__init__") (n := ['_', '_', 't', 'i', 'n', 'i', '_', '_']) (o := ['t', 'c', 'e', 'j', 'b', 'o']) (by kernel_rfl) F.owner_object]
    kernel_rfl
  | [a, b, c, d], _, _ => by
    unfold argsOk
    rw [signature?_of (id := "object.__init__") (n := ['_', '_', 't', 'i', 'n', 'i', '_', '_']) (o := ['t', 'c', 'e', 'j', 'b', 'o']) (by kernel_rfl) F.owner_object]
    kernel_rfl
  | [], h, _ => by simp at h
  | _ :: _ :: _ :: _ :: _ :: _, _, h => by simp at h

theorem iterAll_tups {ls : List Addr} {Q : List Value → Shared → Prop} (hl : ∀ l ∈ ls, ∃ xs, s.heap.IsTuple l xs)
    (hQ : ∀ h' its, its.length = ls.length → (∀ i, i < ls.length → its[i]? = some (.ref (s.heap.objs.size + i))) → h'.objs.size = s.heap.objs.size + ls.length →
      (∀ c o, s.heap.get? c = some o → h'.get? c = some o) → (∀ (i : Nat) (l : Addr), ls[i]? = some l → h'.IsTupleIter (s.heap.objs.size + i) l 0) → Q its { s with heap := h' }) :
    wpAny (model prog w) A (Builtin.SmallTypes.iterAll (ls.map Value.ref)) Q E s := by
  unfold Builtin.SmallTypes.iterAll
  refine wpAny_bind (thn (wp_forIn _ _ (fun j (b : Array Value) s2 => b.size = j ∧ (∀ i, i < j → b[i]? = some (.ref (s.heap.objs.size + i))) ∧ ∃ h, s2 = { s with heap := h } ∧ h.objs.size = s.heap.objs.size + j ∧
    (∀ c o, s.heap.get? c = some o → h.get? c = some o) ∧ ∀ (i : Nat) (l : Addr), i < j → ls[i]? = some l → h.IsTupleIter (s.heap.objs.size + i) l 0) ?step _ _ ?init) fun b s2 hb => ?last)
  case init => exact ⟨rfl, fun i hi => absurd hi (Nat.not_lt_zero _), s.heap, rfl, rfl, fun _ _ e => e, fun i _ hi => absurd hi (Nat.not_lt_zero _)⟩
  case step =>
    rintro j x b s2 hx ⟨hbs, hb, h, rfl, hsz, hk, hit⟩
    rw [List.getElem?_map] at hx
    cases hp : ls[j]? with
    | none =>
      rw [hp] at hx
      cases hx
    | some l =>
      rw [hp] at hx
      obtain rfl : Value.ref l = x := Option.some.inj hx
      obtain ⟨xs, ol, e, c⟩ := hl l (List.mem_of_getElem? hp)
      refine wpAny_bind (wpAny_holding (wpAny_pyIter_tuple (s := { s with heap := h }) ⟨ol, hk _ _ e, c⟩ ?_))
      refine wpAny_pure ⟨_, rfl, by rw [Array.size_push, hbs], fun i hij => ?_, _, rfl, by rw [Heap.size_push, hsz]; omega, fun c o e => Heap.get?_push_of_some _ (hk c o e), fun i l' hij hl' => ?_⟩
      · show (b.push (Value.ref h.objs.size))[i]? = _
        rw [Array.getElem?_push]
        by_cases e : i = b.size
        · rw [if_pos e, hsz, e, hbs]
        · rw [if_neg e]
          exact hb i (by omega)
      · by_cases e : i = j
        · subst e
          rw [hp] at hl'
          cases hl'
          refine ⟨{ cls := .type "tuple_iterator", data := .fields #[.ref l, .int 0 0] }, ?_, rfl, rfl⟩
          rw [← hsz]
          exact Heap.get?_push_size _ rfl
        · obtain ⟨o, e1, c⟩ := hit i l' (by omega) hl'
          exact ⟨o, Heap.get?_push_of_some _ e1, c⟩
  case last =>
    obtain ⟨hbs, hb, h, rfl, hsz, hk, hit⟩ := hb
    rw [List.length_map] at hbs hb hsz hit
    refine wpAny_pure (hQ h b.toList (by rw [Array.length_toList]; exact hbs) (fun i hi => by rw [Array.getElem?_toList]; exact hb i hi) hsz hk fun i l e => ?_)
    exact hit i l (List.getElem?_eq_some_iff.mp e).1 e

theorem zip_newN {ls : List Addr} {Q : Value → Shared → Prop} (h1 : 1 ≤ ls.length) (h2 : ls.length ≤ 4) (hl : ∀ l ∈ ls, ∃ xs, s.heap.IsTuple l xs)
    (hQ : ∀ h' n, n = s.heap.objs.size → ZSt h' (n + ls.length + 2) (n + ls.length) (n + ls.length + 1) (ls.zipIdx.map fun x => (n + x.2, x.1)) 0 → h'.objs.size = n + ls.length + 3 →
      (∀ c o, s.heap.get? c = some o → h'.get? c = some o) → Q (.ref (n + ls.length + 2)) { s with heap := h' }) :
    wpAny (model prog w) A (Builtin.«zip.__new__» ⟨.type "zip" :: ls.map Value.ref, []⟩) (fun fin s' => ∃ v, fin = .done (.ret v) ∧ Q v s') E s := by
  have hsub := sub_zip
  have hc : wpAny (model prog w) A (Builtin.SmallTypes.newClass "zip" ⟨.type "zip" :: ls.map Value.ref, []⟩) (fun r s' => r = (.type "zip", ls.map Value.ref) ∧ s' = s) E s := by
    unfold Builtin.SmallTypes.newClass
    wp_walk
    exact ⟨rfl, rfl⟩
  unfold Builtin.«zip.__new__»
  refine wpAny_bind (thn hc ?_)
  rintro _ _s ⟨rfl, rfl⟩
  show wpAny _ _ (Builtin.SmallTypes.iterAll (ls.map Value.ref) >>= _) _ _ _
  refine wpAny_bind (iterAll_tups hl fun h1' its hil hi hsz hk hit => ?_)
  have hsl : its.length ≤ sizeLine := by rw [hil, sizeLine_eq]; omega
  refine wpAny_bind (wpAny_newTuple ?_ hsl)
  refine wpAny_bind (wpAny_newTuple ?_ (by rw [List.length_map]; exact hsl))
  refine wpAny_bind ?_
  unfold Builtin.SmallTypes.newRecord
  refine wpAny_newObj_type ?_ (show (5 : Nat) ≤ sizeLine + 2 by rw [sizeLine_eq]; omega)
  refine wpAny_pure ⟨_, rfl, ?_⟩
  have z1 : (h1'.push (tObj its.toArray)).objs.size = h1'.objs.size + 1 := Heap.size_push ..
  have z2 : ((h1'.push (tObj its.toArray)).push (tObj (its.map fun _ => Value.none).toArray)).objs.size = h1'.objs.size + 2 := by rw [Heap.size_push, z1]
  have fin : Q (.ref ((h1'.push (tObj its.toArray)).push (tObj (its.map fun _ => Value.none).toArray)).objs.size)
      { _s with heap := ((h1'.push (tObj its.toArray)).push (tObj (its.map fun _ => Value.none).toArray)).push (zObj .none (.bool false) h1'.objs.size (h1'.push (tObj its.toArray)).objs.size) } := by
    rw [z2, z1, hsz]
    refine hQ _ _ rfl ⟨⟨.none, .bool false, ?_, .inl rfl⟩, ?_, ⟨(its.map fun _ => Value.none).toArray, ?_, ?_⟩, fun p hp => ?_⟩ ?_ fun c o e => Heap.get?_push_of_some _ (Heap.get?_push_of_some _ (Heap.get?_push_of_some _ (hk c o e)))
    · rw [← hsz, ← z2]
      exact Heap.get?_push_size _ rfl
    · have e : its = (ls.zipIdx.map fun x => (_s.heap.objs.size + x.2, x.1)).map fun p => Value.ref p.1 := by
        refine List.ext_getElem? fun i => ?_
        rw [List.map_map, List.getElem?_map, List.getElem?_zipIdx]
        by_cases hlt : i < ls.length
        · rw [hi i hlt, List.getElem?_eq_getElem hlt]
          simp
        · rw [List.getElem?_eq_none (by omega), List.getElem?_eq_none (by omega)]
          rfl
      rw [← e, ← hsz]
      exact Heap.get?_push_of_some _ (Heap.get?_push_of_some _ (Heap.get?_push_size _ rfl))
    · simp [hil]
    · rw [← hsz, ← z1]
      exact Heap.get?_push_of_some _ (Heap.get?_push_size _ rfl)
    · obtain ⟨x, hx, rfl⟩ := List.mem_map.mp hp
      obtain ⟨i, hxi⟩ := List.mem_iff_getElem?.mp hx
      rw [List.getElem?_zipIdx] at hxi
      cases hl' : ls[i]? with
      | none =>
        rw [hl'] at hxi
        cases hxi
      | some l =>
        rw [hl'] at hxi
        obtain rfl : (l, 0 + i) = x := Option.some.inj hxi
        obtain ⟨o, e, c⟩ := hit i l hl'
        refine ⟨o, ?_, c⟩
        show Heap.get? _ (_s.heap.objs.size + (0 + i)) = some o
        rw [Nat.zero_add]
        exact Heap.get?_push_of_some _ (Heap.get?_push_of_some _ (Heap.get?_push_of_some _ e))
    · rw [Heap.size_push, z2, hsz]
  exact fin
end
end DD
namespace DD
open PySem PySem.Spec PyProof.Rows L2

/-- the iterators that zip(*ls) makes at n -/
def zps (n : Nat) (ls : List Addr) : List (Addr × Addr) := ls.zipIdx.map fun x => (n + x.2, x.1)
theorem zps_length (n : Nat) (ls : List Addr) : (zps n ls).length = ls.length := by simp [zps]
theorem zps_get (n : Nat) (ls : List Addr) (j : Nat) : (zps n ls)[j]? = (ls[j]?).map fun a => (n + j, a) := by
  unfold zps
  rw [List.getElem?_map, List.getElem?_zipIdx]
  cases ls[j]? with
  | none => rfl
  | some a => simp
theorem zps_mem {n : Nat} {ls : List Addr} {p : Addr × Addr} (h : p ∈ zps n ls) : ∃ j, j < ls.length ∧ ls[j]? = some p.2 ∧ p.1 = n + j := by
  obtain ⟨j, hj⟩ := List.mem_iff_getElem?.mp h
  rw [zps_get] at hj
  cases e : ls[j]? with
  | none => rw [e] at hj; cases hj
  | some a =>
    rw [e] at hj
    obtain rfl : (n + j, a) = p := Option.some.inj hj
    exact ⟨j, (List.getElem?_eq_some_iff.mp e).1, e, rfl⟩
theorem nat5 {a b n j L : Nat} (h3 : b < n) (h4 : a = n + j) (hj : j < L) : a ≠ n + L + 2 ∧ a ≠ n + L ∧ a ≠ n + L + 1 ∧ b ≠ n + L + 2 ∧ b ≠ n + L + 1 := by omega
theorem nat6 {a b n i : Nat} (h3 : b < n) (h4 : a = n + i) : b ≠ a := by omega
theorem zapart {n : Nat} {ls : List Addr} (h : ∀ l ∈ ls, l < n) : ZApart (n + ls.length + 2) (n + ls.length) (n + ls.length + 1) (zps n ls) where
  tz := Nat.ne_of_lt (show (n : Nat) + ls.length < n + ls.length + 2 by omega)
  oz := Nat.ne_of_lt (show (n : Nat) + ls.length + 1 < n + ls.length + 2 by omega)
  it := Nat.ne_of_lt (show (n : Nat) + ls.length < n + ls.length + 1 by omega)
  nd := by
    have e : (zps n ls).map (·.1) = (List.range ls.length).map (n + ·) := by
      refine List.ext_getElem? fun i => ?_
      rw [List.getElem?_map, zps_get, List.getElem?_map]
      by_cases hi : i < ls.length
      · rw [List.getElem?_eq_getElem hi, List.getElem?_range hi]
        rfl
      · rw [List.getElem?_eq_none (by omega), List.getElem?_eq_none (by simp; omega)]
        rfl
    rw [e]
    exact List.Pairwise.map _ (fun a b h e => h (Nat.add_left_cancel e)) List.nodup_range
  pz := fun p hp => by
    obtain ⟨j, hj, e, ep⟩ := zps_mem hp
    exact nat5 (h p.2 (List.mem_of_getElem? e)) ep hj
  px := fun p hp q hq => by
    obtain ⟨j, hj, e, ep⟩ := zps_mem hp
    obtain ⟨i, hi, e2, ep2⟩ := zps_mem hq
    exact nat6 (h p.2 (List.mem_of_getElem? e)) ep2

section
variable {prog : Program} {w : World} {A : Around} {E : Value → Shared → Prop} {s : Shared}
theorem call_zipN {ls : List Addr} {Q : Value → Shared → Prop} (h1 : 1 ≤ ls.length) (h2 : ls.length ≤ 4) (hl : ∀ l ∈ ls, ∃ xs, s.heap.IsTuple l xs)
    (hQ : ∀ h' n, n = s.heap.objs.size → ZSt h' (n + ls.length + 2) (n + ls.length) (n + ls.length + 1) (zps n ls) 0 → h'.objs.size = n + ls.length + 3 →
      (∀ c o, s.heap.get? c = some o → h'.get? c = some o) → Q (.ref (n + ls.length + 2)) { s with heap := h' }) :
    wpAny (model prog w) A (call (.type "zip") (ls.map Value.ref)) Q E s := by
  have m : Meets (Builtin.«zip.__new__» ⟨.type "zip" :: ls.map Value.ref, []⟩) (fun _ R s => (∀ l ∈ ls, ∃ xs, s.heap.IsTuple l xs) ∧
      ∀ h' n, n = s.heap.objs.size → ZSt h' (n + ls.length + 2) (n + ls.length) (n + ls.length + 1) (zps n ls) 0 → h'.objs.size = n + ls.length + 3 →
        (∀ c o, s.heap.get? c = some o → h'.get? c = some o) → R (.ok (.ret (.ref (n + ls.length + 2)))) { s with heap := h' }) :=
    .of_wp fun prog w A R s h => zip_newN h1 h2 h.1 h.2
  refine callType_new F.called_zip (by decide) (typeCall_zipN _ (by simpa using h1) (by simpa using h2)) (newCall_zipN _ (by simpa using h1) (by simpa using h2))
    (fun obj => args_object_initN obj _ (by simpa using h1) (by simpa using h2)) F.entry_zip_new m ⟨hl, fun h' n e1 e2 e3 e4 => ?_⟩
  obtain ⟨f0, f1, hz, _⟩ := e2.zz
  exact ⟨⟨_, hz, rfl⟩, hQ h' n e1 e2 e3 e4⟩
theorem pyIter_zn {z TI TO : Addr} {ps : List (Addr × Addr)} {k : Nat} {Q : Value → Shared → Prop} (S : ZSt s.heap z TI TO ps k) (h : Q (.ref z) s) : wpAny (model prog w) A (pyIter (.ref z)) Q E s := by
  obtain ⟨f0, f1, hz, _⟩ := S.zz
  have hT : s.TypeIs (.ref z) "zip" := ⟨_, hz, rfl⟩
  refine wpAny_pyIter_slot hT F.slot_zip_iter (wpAny_call_entry F.slot_zip_iter hT F.entry_zip_iter ?_ (F.args_zip_iter_1 _))
  exact (show wpAny _ _ (ret (.ref z)) _ _ s from wpAny_pure ⟨_, rfl, "zip", _, hT, F.slot_zip_next.lookup, h⟩)
end

/-- the tuples at ls hold rows, all of length m -/
structure Rws (K : PySem.W.Frag) (H : Hp) (ls : List Addr) (rows : List (List V)) (m : Nat) : Prop where
  len : ls.length = rows.length
  at_ : ∀ (j : Nat) (a : Addr) (r : List V), ls[j]? = some a → rows[j]? = some r → SqT K H a r ∧ r.length = m
def colV (rows : List (List V)) (i : Nat) : List V := rows.map fun r => r.getD i .non
def ItzN (K : PySem.W.Frag) (ls : List Addr) (rows : List (List V)) (m : Nat) : It :=
  ⟨fun i H => i < m ∧ Rws K H ls rows m, fun i H v H' => ∃ T, v = .ref T ∧ H T = none ∧ H' = upd H T (.tup (colV rows i)), fun i H => i = m ∧ Rws K H ls rows m⟩

theorem Rws.vals {X : Cx} {pins : List (Addr × Obj)} {σ : L2.St} {H : Hp} {s : Shared} {m i : Nat} (I : Inv X pins σ H s) (hi : i < m) : ∀ {ls : List Addr} {rows : List (List V)}, Rws X.K H ls rows m →
    ∃ us : List Value, Vals (colV rows i) us ∧ ∀ (j : Nat) (a : Addr), ls[j]? = some a → ∃ xs, s.heap.IsTuple a xs ∧ xs[i]? = us[j]?
  | [], [], _ => ⟨[], .nil, fun j a e => by simp at e⟩
  | [], _ :: _, R => by have := R.len; simp at this
  | _ :: _, [], R => by have := R.len; simp at this
  | a :: ls, r :: rows, R => by
    obtain ⟨us, h1, h2⟩ := Rws.vals I hi (ls := ls) (rows := rows) ⟨by have := R.len; simpa using this, fun j a' r' e1 e2 => R.at_ (j + 1) a' r' e1 e2⟩
    obtain ⟨q, hl⟩ := R.at_ 0 a r rfl rfl
    obtain ⟨its, rv, p, _⟩ := I.tuple q
    have hr : r[i]? = some (r.getD i .non) := by
      rw [List.getD_eq_getElem?_getD, List.getElem?_eq_getElem (by omega)]
      rfl
    obtain ⟨u, hu, ru⟩ := rv.get hr
    obtain ⟨o, ho, hc, n, hd⟩ := p
    refine ⟨u :: us, .cons ru h1, fun j a' e => ?_⟩
    cases j with
    | zero =>
      obtain rfl : a = a' := Option.some.inj e
      exact ⟨its.toArray, ⟨o, ho, hc, n, hd⟩, by simpa using hu⟩
    | succ j => exact h2 j a' e

theorem turn_zn {P : Program} {w : World} {K : PySem.W.Frag} {x : Str} {xp : Pos} {n m : Nat} {ls : List Addr} {rows : List (List V)} (h1 : 1 ≤ ls.length) (h2 : ls.length ≤ 4) (hlt : ∀ l ∈ ls, l < n) :
    Turn P w K (.Name x xp) (ItzN K ls rows m) ((n + ls.length + 2) :: (n + ls.length) :: (n + ls.length + 1) :: (zps n ls).map (·.1)) (n + ls.length + 2)
      (fun i h => ZSt h (n + ls.length + 2) (n + ls.length) (n + ls.length + 1) (zps n ls) i) where
  mem := List.mem_cons_self
  obj := fun i h S b hb => by
    obtain ⟨⟨f0, f1, hz, _⟩, hTI, ⟨arr, _, hTO⟩, hits⟩ := S
    rcases List.mem_cons.mp hb with rfl | hb
    · exact ⟨_, hz, fun v q => nomatch q⟩
    rcases List.mem_cons.mp hb with rfl | hb
    · exact ⟨_, hTI, fun v q => nomatch q⟩
    rcases List.mem_cons.mp hb with rfl | hb
    · exact ⟨_, hTO, fun v q => nomatch q⟩
    obtain ⟨p, hp, rfl⟩ := List.mem_map.mp hb
    obtain ⟨o, e, _, d⟩ := hits p hp
    exact ⟨o, e, fun v q => by rw [d] at q; cases q⟩
  keep := fun i h h' S k => by
    obtain ⟨⟨f0, f1, hz, hf⟩, hTI, ⟨arr, ha, hTO⟩, hits⟩ := S
    refine ⟨⟨f0, f1, k _ (by simp) _ hz, hf⟩, k _ (by simp) _ hTI, ⟨arr, ha, k _ (by simp) _ hTO⟩, fun p hp => ?_⟩
    obtain ⟨o, e, c⟩ := hits p hp
    exact ⟨o, k _ (by
      refine List.mem_cons_of_mem _ (List.mem_cons_of_mem _ (List.mem_cons_of_mem _ ?_))
      exact List.mem_map_of_mem hp) _ e, c⟩
  item := by
    intro X hP hw hK hc i pins s σ H E I hf S hg
    subst hP hw hK
    obtain ⟨hi, R⟩ := hg
    obtain ⟨us, hv, hx⟩ := R.vals I hi
    have hul : us.length = ls.length := by rw [← hv.length, R.len]; simp [colV]
    have D := zapart hlt
    refine pyNext_zn_item D (by rw [zps_length]; exact h1) (by rw [zps_length]; omega) S (vs := us) (by rw [zps_length]; exact hul) (fun j p e => ?_) fun h' S' hT hsz hk => ?_
    · rw [zps_get] at e
      cases ea : ls[j]? with
      | none => rw [ea] at e; cases e
      | some a =>
        rw [ea] at e
        obtain rfl : (n + j, a) = p := Option.some.inj e
        exact hx j a ea
    · refine ⟨_, rfl, ?_⟩
      have hcl : (colV rows i).length ≤ sizeLine := by
        rw [hv.length, hul, sizeLine_eq]
        omega
      have new : ObjOk X.prog X.w (upd H s.heap.objs.size (.tup (colV rows i))) h' s.heap.objs.size (.tup (colV rows i)) := ⟨hcl, us, hv, ⟨_, hT, rfl, _, rfl⟩⟩
      have I1 : Inv X pins σ (upd H s.heap.objs.size (.tup (colV rows i))) { s with heap := h' } :=
        I.turnedNew (t' := s.toks) (fun c o hb q => hk c o (fun z => hb (by simp [z])) (fun z => hb (by simp [z])) (fun p hp z => hb (by
          refine List.mem_cons_of_mem _ (List.mem_cons_of_mem _ (List.mem_cons_of_mem _ ?_))
          rw [z]
          exact List.mem_map_of_mem hp)) q) hf (Nat.le_refl _) new
      show wpAny _ _ (pure ()) _ _ _
      refine wpAny_pure ⟨.ref s.heap.objs.size, _, I1, rfl, ⟨_, rfl, I.hok.fresh (Nat.le_refl _), rfl⟩, S', fun c hcm => ?_⟩
      obtain ⟨o, ho, _⟩ : ∃ o, s.heap.get? c = some o ∧ True := by
        obtain ⟨⟨f0, f1, hz, _⟩, hTI, ⟨arr, _, hTO⟩, hits⟩ := S
        rcases List.mem_cons.mp hcm with rfl | hcm
        · exact ⟨_, hz, trivial⟩
        rcases List.mem_cons.mp hcm with rfl | hcm
        · exact ⟨_, hTI, trivial⟩
        rcases List.mem_cons.mp hcm with rfl | hcm
        · exact ⟨_, hTO, trivial⟩
        obtain ⟨p, hp, rfl⟩ := List.mem_map.mp hcm
        obtain ⟨o, e, _⟩ := hits p hp
        exact ⟨o, e, trivial⟩
      rw [upd_ne (Nat.ne_of_lt (Heap.lt_size ho))]
      exact (hf c hcm).1
  done := by
    intro X hP hw hK hc i pins s σ H E I hf S hg
    subst hP hw hK
    obtain ⟨rfl, R⟩ := hg
    cases hls : ls with
    | nil => rw [hls] at h1; simp at h1
    | cons a r =>
      cases hrw : rows with
      | nil => have := R.len; rw [hls, hrw] at this; simp at this
      | cons q rr =>
        obtain ⟨hq, hl⟩ := R.at_ 0 a q (by rw [hls]; rfl) (by rw [hrw]; rfl)
        obtain ⟨its, rv, ⟨o, ho, hc', n', hd⟩, _⟩ := I.tuple hq
        have hps : zps n ls = (n, a) :: (zps n ls).tail := by
          rw [hls]
          simp [zps]
        rw [← hls]
        refine pyNext_zn_end (I.ok.hd hc) (zapart hlt) S hps (xs := its.toArray) ⟨o, ho, hc', n', hd⟩ ?_ fun h' hk => ⟨rfl, ?_⟩
        · have := rv.length
          rw [List.getElem?_toArray, List.getElem?_eq_none (by omega)]
        · exact I.turnedL (t' := s.toks) (fun c o hb q => hk c o (fun z => hb (by simp [z])) (fun z => hb (by simp [z])) (fun p hp z => hb (by
            refine List.mem_cons_of_mem _ (List.mem_cons_of_mem _ (List.mem_cons_of_mem _ ?_))
            rw [z]
            exact List.mem_map_of_mem hp)) q) hf
  self := fun A i s Q E S h => pyIter_zn S h

/-- for x in zip(*e), e a list or tuple of one to four tuples of one length -/
def iZipS (K : PySem.W.Frag) (te : TE) : TI := fun σ H R => te σ H fun y H1 => ∃ (a : Addr) (ls : List Addr) (rows : List (List V)) (m : Nat), y = .ref a ∧ (SqT K H1 a (ls.map V.ref) ∨ SqL K H1 a (ls.map V.ref)) ∧
  1 ≤ ls.length ∧ ls.length ≤ 4 ∧ Rws K H1 ls rows m ∧ R (ItzN K ls rows m) H1
theorem vals_refs : ∀ {ls : List Addr} {us : List Value}, Vals (ls.map V.ref) us → us = ls.map Value.ref
  | [], _, .nil => rfl
  | a :: ls, _, .cons r t => by
    cases r
    rw [vals_refs t]
    rfl
theorem pi_zipS {X : Cx} {e : Expr} {te : TE} {p pos spos xp : Pos} {x : Str} (hg : Gl X "zip") (hm : X.mg "zip" = none) (he : PE X e te)
    (hst : starEach [.Starred e spos] X.env = [(true, eval e X.env)] := by rfl) :
    PI X (.Name x xp) (.Call (.Name "zip" p) [.Starred e spos] [] pos) (iZipS X.K te) := by
  refine ⟨fun pins s σ H R I h => ?_⟩
  refine wpAny_Call_Name_kw (ld_blt I hg hm PyProof.Rows.boot_zip ?_)
  rw [hst]
  refine PySem.W.ks_call (P := fun _ => True) rfl (fun h _ => ⟨.machine, .inr (.inl rfl), fun A Q E s _ q => wpAny_pure q⟩) (PySem.W.ks_lone ?_)
  refine thn (he.run pins s σ H _ I h) fun v s1 ⟨y, H1, I1, ry, a, ls, rows, m, ey, hx, h1, h2, Rw, q⟩ => ?_
  subst ey
  obtain rfl : v = Value.ref a := ry
  refine StX.star_any I1 hx fun us s2 I2 rv => ⟨trivial, ?_⟩
  obtain rfl := vals_refs rv
  have tup : ∀ l ∈ ls, ∃ xs, s2.heap.IsTuple l xs := fun l hl => by
    obtain ⟨j, hj⟩ := List.mem_iff_getElem?.mp hl
    have hjl := (List.getElem?_eq_some_iff.mp hj).1
    have hjr : rows[j]? = some (rows[j]'(by have := Rw.len; omega)) := List.getElem?_eq_getElem (by have := Rw.len; omega)
    obtain ⟨its, _, ⟨o, ho, hc, n, hd⟩, _⟩ := I2.tuple (Rw.at_ j l _ hj hjr).1
    exact ⟨its.toArray, o, ho, hc, n, hd⟩
  refine call_zipN h1 h2 tup fun h' n en S hsz hk => ?_
  have I3 : Inv X pins σ H1 { s2 with heap := h' } := I2.kept (t' := s2.toks) hk
  have hlt : ∀ l ∈ ls, l < n := fun l hl => by
    obtain ⟨xs, o, ho, _⟩ := tup l hl
    rw [en]
    exact Heap.lt_size ho
  refine pyIter_zn (s := { s2 with heap := h' }) S ⟨n + ls.length + 2, _, _, _, H1, rfl, I3, turn_zn h1 h2 hlt, S, fun b hb => ?_, q⟩
  have hle : s2.heap.objs.size ≤ b := by
    rw [← en]
    rcases List.mem_cons.mp hb with rfl | hb
    · omega
    rcases List.mem_cons.mp hb with rfl | hb
    · omega
    rcases List.mem_cons.mp hb with rfl | hb
    · omega
    obtain ⟨p, hp, rfl⟩ := List.mem_map.mp hb
    obtain ⟨j, _, _, e⟩ := zps_mem hp
    exact Nat.le_trans (Nat.le_add_right n j) (Nat.le_of_eq e.symm)
  have F := I2.fpOk hle (I2.hok.fresh hle)
  exact F
end DD
namespace DD
open PySem PySem.Spec PyProof.Rows L2
theorem draws_tup {prog : Program} {w : World} {A : Around} (hh : A.handled = none) (it t : Addr) (items : Array Value) (hne : t ≠ it) :
    Draws prog w A it [it, t] items.size (fun i v => items[i]? = some v) (fun i h => h.IsTupleIter it t i ∧ h.IsTuple t items) where
  live := fun i h S => by
    obtain ⟨⟨o, e, _⟩, _⟩ := S
    exact ⟨o, e⟩
  frame := fun i h h' S k => by
    obtain ⟨⟨o, e, c⟩, ⟨o2, e2, c2⟩⟩ := S
    exact ⟨⟨o, k it (by simp) o e, c⟩, ⟨o2, k t (by simp) o2 e2, c2⟩⟩
  item := fun i s Q E hi S hQ => by
    obtain ⟨S1, S2⟩ := S
    refine RZ.nextOf_tuple_item S1 S2 (x := items[i]) (by simp [hi]) fun h' hit hs => hQ _ h' s.toks (by simp [hi]) ⟨hit, ?_⟩ hs
    obtain ⟨o, e, c⟩ := S2
    exact ⟨o, (hs.2 _ hne).trans e, c⟩
  done := fun s Q E S hE => by
    obtain ⟨S1, S2⟩ := S
    exact RZ.nextOf_tuple_end hh S1 S2 (by simp) hE
theorem meets_enum_newT (l : Addr) (items : Array Value) : Meets (Builtin.«enumerate.__new__» ⟨[.type "enumerate", .ref l], []⟩) (fun _ R s => s.heap.IsTuple l items ∧
      R (.ok (.ret (.ref (s.heap.push { cls := .type "tuple_iterator", data := .fields #[.ref l, .int 0 0] }).objs.size)))
        { s with heap := (s.heap.push { cls := .type "tuple_iterator", data := .fields #[.ref l, .int 0 0] }).push { cls := .type "enumerate", data := .fields #[.none, .bool false, .ref s.heap.objs.size, rawInt 0, .none, .none] } }) :=
  .of_wp fun prog w A R s h => by
    obtain ⟨hp, g, d, tk, os⟩ := s
    obtain ⟨hT, h⟩ := h
    obtain ⟨oL, hoL, hcL, nL, hdL⟩ := id hT
    have hsub := sub_enumerate
    have hT' : Heap.IsTuple (Shared.heap ⟨hp, g, d, tk, os⟩) l items := hT
    wp_walk
    refine wpAny_stack_any fun st => wpAny_pure ?_
    split
    · rename_i c _ _ _ _ _
      cases (c == Value.type "enumerate")
      · wp_walk using wpAny_pyIter_tuple hT'
        exact ⟨_, rfl, h⟩
      · wp_walk using wpAny_pyIter_tuple hT'
        exact ⟨_, rfl, h⟩
    · wp_walk using wpAny_pyIter_tuple hT'
      exact ⟨_, rfl, h⟩
section
variable {prog : Program} {w : World} {A : Around} {E : Value → Shared → Prop} {s : Shared}
theorem call_enumT {l : Addr} {items : Array Value} {Q : Value → Shared → Prop} (hT : s.heap.IsTuple l items)
    (h : ∀ h', IsEnum h' (s.heap.objs.size + 1) s.heap.objs.size 0 .none → h'.IsTupleIter s.heap.objs.size l 0 →
      (∀ b o, s.heap.get? b = some o → h'.get? b = some o) → Q (.ref (s.heap.objs.size + 1)) { s with heap := h' }) :
    wpAny (model prog w) A (call (.type "enumerate") [.ref l]) Q E s := by
  refine callType_new F.called_enumerate (by decide) (F.typeCall_enumerate_1 _) (F.newCall_enumerate_1 _) (fun obj => F.args_object_init_2 obj _) F.entry_enumerate_new
    (meets_enum_newT l items) ⟨hT, ?_⟩
  have hz : (s.heap.push { cls := .type "tuple_iterator", data := .fields #[.ref l, .int 0 0] }).objs.size = s.heap.objs.size + 1 := Heap.size_push ..
  have he : IsEnum ((s.heap.push { cls := .type "tuple_iterator", data := .fields #[.ref l, .int 0 0] }).push
      { cls := .type "enumerate", data := .fields #[.none, .bool false, .ref s.heap.objs.size, rawInt 0, .none, .none] }) (s.heap.objs.size + 1) s.heap.objs.size 0 .none := by
    have q := Heap.get?_push_size (s.heap.push { cls := .type "tuple_iterator", data := .fields #[.ref l, .int 0 0] })
      (o := { cls := .type "enumerate", data := .fields #[.none, .bool false, .ref s.heap.objs.size, rawInt 0, .none, .none] }) rfl
    rw [hz] at q
    exact q
  show _ ∧ _
  rw [hz]
  exact ⟨⟨_, he, rfl⟩, h _ he ⟨_, Heap.get?_push_of_some _ (Heap.get?_push_size _ rfl), rfl, rfl⟩ fun b o x => Heap.get?_push_of_some _ (Heap.get?_push_of_some _ x)⟩
end

/-- the tuple at a, its items in new pairs, counted from c -/
def ItEnT (K : PySem.W.Frag) (a : Addr) (c : Int) : It :=
  ⟨fun i H => ∃ (xs : List V) (x : V), SqT K H a xs ∧ xs[i]? = some x,
    fun i H v H' => ∃ T x, v = .ref T ∧ H T = none ∧ H' = upd H T (.tup [.int (c + (i : Nat)), x]) ∧ ∀ xs, SqT K H a xs → xs[i]? = some x,
    fun i H => ∃ xs : List V, SqT K H a xs ∧ xs.length ≤ i⟩
theorem turn_enT {P : Program} {w : World} {K : PySem.W.Frag} {elts : List Expr} {kk : Nat} {tpos : Pos} (a e it : Addr) (c : Int) :
    Turn P w K (.Tuple elts kk tpos) (ItEnT K a c) [e, it] e (fun i h => (∃ old, IsEnum h e it (c + ((i : Nat) : Int)) old) ∧ h.IsTupleIter it a i ∧ e ≠ it) where
  mem := by simp
  obj := fun i h S b hb => by
    obtain ⟨⟨old, he⟩, ⟨o, ho, hc, hd⟩, _⟩ := S
    rcases List.mem_cons.mp hb with rfl | hb
    · exact ⟨_, he, fun v q => nomatch q⟩
    · rw [List.mem_singleton.mp hb]
      exact ⟨o, ho, fun v q => by rw [hd] at q; cases q⟩
  keep := fun i h h' S k => by
    obtain ⟨⟨old, he⟩, ⟨o, ho, r⟩, hne⟩ := S
    exact ⟨⟨old, k e (by simp) _ he⟩, ⟨o, k it (by simp) _ ho, r⟩, hne⟩
  item := by
    intro X hP hw hK hcalm i pins s σ H E I hf S hg
    subst hP hw hK
    obtain ⟨⟨old, he⟩, hit, hne⟩ := S
    obtain ⟨xs, x, hq, hx⟩ := hg
    obtain ⟨its, rv, ⟨oa, hoa, hca, na, hda⟩, _⟩ := I.tuple hq
    obtain ⟨u, hu, ru⟩ := rv.get hx
    obtain ⟨oi, hoi, hci, hdi⟩ := id hit
    have hai : a ≠ it := fun z => by
      rw [z, hoi] at hoa
      cases hoa
      rw [hca] at hci
      simp at hci
    have hea : e ≠ a := fun z => by
      have he2 := he
      unfold IsEnum at he2
      rw [z, hoa] at he2
      cases he2
      simp at hca
    have hef : e ∉ [it, a] := fun z => by
      rcases List.mem_cons.mp z with z | z
      · exact hne z
      · exact hea (List.mem_singleton.mp z)
    have hel : e < s.heap.objs.size := Heap.lt_size he
    have hil : it < s.heap.objs.size := Heap.lt_size hoi
    have D := draws_tup (prog := X.prog) (w := X.w) (A := X.A.in1) (I.ok.hd hcalm) it a its.toArray hai
    have hlt : i < its.toArray.size := by
      have := (List.getElem?_eq_some_iff.mp hu).1
      simpa using this
    refine wpAny_pyNext_enum_itemC D he ⟨hit, ⟨oa, hoa, hca, na, hda⟩⟩ hlt hne hef fun y h' tk hy ho hit' hT hsz hk => ?_
    obtain rfl : u = y := by
      have : its.toArray[i]? = some u := by simpa using hu
      rw [this] at hy
      exact Option.some.inj hy
    refine ⟨_, rfl, wpAny_letOwnedTupleGo_enum (s := { s with heap := h', toks := tk + 1 }) ho fun h'' he' sb => ?_⟩
    have hT2 : h''.get? s.heap.objs.size = some { cls := .type "tuple", data := .seq #[.int (c + (i : Nat)) tk, u] } := (sb.2 _ (Nat.ne_of_gt hel)).trans hT
    have new : ObjOk X.prog X.w (upd H s.heap.objs.size (.tup [.int (c + (i : Nat)), x])) h'' s.heap.objs.size (.tup [.int (c + (i : Nat)), x]) :=
      ⟨by show 2 ≤ sizeLine; decide, [.int (c + (i : Nat)) tk, u], .cons ⟨_, rfl⟩ (.cons ru .nil), ⟨_, hT2, rfl, _, rfl⟩⟩
    have I1 : Inv X pins σ (upd H s.heap.objs.size (.tup [.int (c + (i : Nat)), x])) { s with heap := h'', toks := tk + 1 } :=
      I.turnedNew (ch := [e, it]) (fun b ob hb q => (sb.2 b (fun z => hb (by simp [z]))).trans (hk b ob (fun z => hb (by simp [z])) (fun z => hb (by simp [z])) q)) hf (Nat.le_refl _) new
    obtain ⟨oi', hoi', r'⟩ := hit'.1
    refine ⟨.ref s.heap.objs.size, _, I1, rfl, ⟨_, x, rfl, I.hok.fresh (Nat.le_refl _), rfl, fun ys hy => by rw [I.tuple_inj hy hq]; exact hx⟩, ⟨⟨u, ?_⟩, ⟨oi', (sb.2 it (Ne.symm hne)).trans hoi', r'⟩, hne⟩, fun b hb => ?_⟩
    · have e1 : c + ((i + 1 : Nat) : Int) = c + (i : Int) + 1 := by omega
      rw [e1]
      exact he'
    · have hb' : b < s.heap.objs.size := by
        rcases List.mem_cons.mp hb with z | hb
        · rw [z]
          exact hel
        · rw [List.mem_singleton.mp hb]
          exact hil
      rw [upd_ne (Nat.ne_of_lt hb')]
      exact (hf b hb).1
  done := by
    intro X hP hw hK hcalm i pins s σ H E I hf S hg
    subst hP hw hK
    obtain ⟨⟨old, he⟩, hit, hne⟩ := S
    obtain ⟨xs, hq, hx⟩ := hg
    obtain ⟨its, rv, ⟨oa, hoa, hca, na, hda⟩, _⟩ := I.tuple hq
    obtain ⟨oi, hoi, hci, hdi⟩ := id hit
    have hl := rv.length
    obtain ⟨f0, f1, f2, f3, f4, f5⟩ := hf it (by simp)
    have hT : s.TypeIs (.ref e) "enumerate" := ⟨_, he, rfl⟩
    unfold pyNext
    refine wpAny_bind (wpAny_attempt (wpAny_callSpecial?_slot (name := Str.ofString "__next__") hT F.slot_enumerate_next
      (wpAny_call_entry F.slot_enumerate_next hT F.entry_enumerate_next ?_ (F.args_enumerate_next_1 _))))
    show wpAny _ _ (field (.ref e) 2 >>= _) _ _ _
    refine wpAny_bind (wpAny_field he rfl (x := .ref it) rfl ?_)
    refine wpAny_bind (RZ.nextOf_tuple_end (I.ok.hd hcalm) hit (show s.heap.IsTuple a its.toArray from ⟨oa, hoa, hca, na, hda⟩) (by simp; omega) fun h' y hy1 hy2 => ?_)
    obtain ⟨o, ho, hc⟩ := hy2
    exact wpAny_bind (wpAny_isInstance (T := "StopIteration") (b := true) ⟨o, ho, hc⟩ isSubtype_stop (wpAny_pure ⟨rfl, I.turned (t' := s.toks) (fun b o hb q => hy1 b o hb q) f0 f1 f3 f4 f5⟩))
  self := fun A i s Q E S h => by
    obtain ⟨⟨_, he⟩, _⟩ := S
    exact wpAny_pyIter_enum he h
def iEnumT (K : PySem.W.Frag) (ta : TA) : TI := fun σ H R => ta σ H fun vs H1 => ∃ a xs, vs = [.ref a] ∧ SqT K H1 a xs ∧ R (ItEnT K a 0) H1
theorem pi_enumT {X : Cx} {e : Expr} {ta : TA} {p pos tpos : Pos} {elts : List Expr} {kk : Nat} (hg : Gl X "enumerate") (hm : X.mg "enumerate" = none) (ha : PA X [e] ta)
    (hs : starEach [e] X.env = [(false, eval e X.env)] := by rfl) : PI X (.Tuple elts kk tpos) (.Call (.Name "enumerate" p) [e] [] pos) (iEnumT X.K ta) := by
  refine ⟨fun pins s σ H R I h => Call_ (ld_blt I hg hm boot_enumerate (PyProof.Rows.callWith_type1 (thn (ha.run pos pins s σ H _ I h) fun us s1 ⟨vs, H1, I1, r1, q1⟩ => ?_) hs rfl))⟩
  obtain ⟨a, xs, ex, hq, q⟩ := q1
  subst ex
  obtain ⟨u, rfl, ru⟩ := vals1 r1
  cases ru
  obtain ⟨its, rv, ⟨oa, hoa, hca, na, hda⟩, _⟩ := I1.tuple hq
  refine call_enumT (items := its.toArray) ⟨oa, hoa, hca, na, hda⟩ fun h' he hit hk => wpAny_pyIter_enum he ?_
  have I2 : Inv X pins σ H1 { s1 with heap := h' } := I1.kept (t' := s1.toks) hk
  refine ⟨s1.heap.objs.size + 1, [s1.heap.objs.size + 1, s1.heap.objs.size], _, _, H1, rfl, I2, turn_enT a (s1.heap.objs.size + 1) s1.heap.objs.size 0, ⟨⟨.none, he⟩, hit, Nat.succ_ne_self _⟩, fun b hb => ?_, q⟩
  have hle : s1.heap.objs.size ≤ b := by
    rcases List.mem_cons.mp hb with z | hb
    · rw [z]
      exact Nat.le_succ _
    · exact Nat.le_of_eq (List.mem_singleton.mp hb).symm
  exact I1.fpOk hle (I1.hok.fresh hle)
/-- a loop over enumerate(t) -/
theorem for_enT {K : PySem.W.Frag} {a : Addr} {xs : List V} {c : Int} {g : TG} {tb : TS} {D : Ends} {σ : L2.St} {H : Hp} (Pv : Nat → L2.St → Hp → Prop) (h0 : Pv 0 σ H) (hq : ∀ i σ H, i ≤ xs.length → Pv i σ H → SqT K H a xs)
    (hs : ∀ (i : Nat) (x : V) (T : Addr) (σ : L2.St) (H : Hp), xs[i]? = some x → Pv i σ H → H T = none →
      g (.ref T) σ (upd H T (.tup [.int (c + (i : Nat)), x])) fun σ2 H2 => tb { D with nx := Pv (i + 1), ct := Pv (i + 1), bk := D.nx } σ2 H2) (hd : ∀ σ H, Pv xs.length σ H → D.nx σ H) :
    ∃ W : Nat → Nat → L2.St → Hp → Prop, (∃ m, W 0 m σ H) ∧ ∀ i m σ H, W i m σ H → ((ItEnT K a c).stop i H ∧ D.nx σ H) ∨ ((ItEnT K a c).go i H ∧
      ∃ N : L2.St → Hp → Prop, (∀ σ' H', N σ' H' → ∃ m', m' < m ∧ W (i + 1) m' σ' H') ∧ ∀ v H', (ItEnT K a c).yld i H v H' →
        g v σ H' fun σ2 H2 => tb { D with nx := N, ct := N, bk := D.nx } σ2 H2) := by
  refine ⟨fun i m σ H => m = xs.length - i ∧ i ≤ xs.length ∧ Pv i σ H, ⟨xs.length, rfl, Nat.zero_le _, h0⟩, ?_⟩
  rintro i _ σ H ⟨rfl, hi, p⟩
  have q := hq i σ H hi p
  by_cases hlt : i < xs.length
  · have hx : xs[i]? = some xs[i] := List.getElem?_eq_getElem hlt
    refine .inr ⟨⟨xs, _, q, hx⟩, Pv (i + 1), fun σ' H' p' => ⟨xs.length - (i + 1), by omega, rfl, hlt, p'⟩, fun v H' y => ?_⟩
    obtain ⟨T, x', rfl, nT, rfl, f1⟩ := y
    exact hs i x' T σ H (f1 xs q) p nT
  · obtain rfl : i = xs.length := by omega
    exact .inl ⟨⟨xs, q, Nat.le_refl _⟩, hd σ H p⟩
end DD
namespace DD
open PySem PySem.Spec PyProof.Rows L2

/-! ### max and min of a tuple of ints -/
section
variable {prog : Program} {w : World} {A : Around} {E : Value → Shared → Prop} {s : Shared} {l : Addr} {xs : Array (Int × Tok)}
theorem max_intTup {Q : Value → Shared → Prop} (hh : A.handled = none) (hl : s.heap.IsTuple l (intItems xs)) (hne : 0 < xs.size)
    (h : ∀ v h' tk, (intItems xs)[argBest (fun i j => decide (numAt xs i > numAt xs j)) (xs.size - 1)]? = some v → (∀ b o, s.heap.get? b = some o → h'.get? b = some o) → Q v { s with heap := h', toks := tk }) :
    wpAny (model prog w) A (call (.builtin "max") [.ref l]) Q E s := by
  have hlt : l < s.heap.objs.size := by obtain ⟨_, e, _⟩ := hl; exact Heap.lt_size e
  refine call_max_walk (wpAny_pyIter_tuple hl ?_)
  refine ⟨_, _, _, _, _, _, _, rfl, Walks.tuple (A := A.in1) hh _ l (Nat.ne_of_lt hlt) (intItems xs), ⟨⟨_, Heap.get?_push_size _ rfl, rfl, rfl⟩, hl.push _⟩, fun b hb => ?_, by simpa [intItems] using hne, CmpOf.ints_gt (numAt xs) (fun _ _ => intItems_at), fun v h' tk hP hk => ?_⟩
  · show b < (s.heap.push _).objs.size
    rw [Heap.size_push]
    rcases List.mem_cons.mp hb with rfl | hb
    · exact Nat.lt_succ_self _
    · rcases List.mem_cons.mp hb with rfl | hb
      · exact Nat.lt_succ_of_lt hlt
      · cases hb
  · refine h v h' tk (by simpa [intItems] using hP) fun b o e => hk b o (fun hm => ?_) (Heap.get?_push_of_some _ e)
    rcases List.mem_cons.mp hm with e1 | hm
    · exact absurd (e1 ▸ Heap.lt_size e) (Nat.lt_irrefl _)
    · cases hm
theorem min_intTup {Q : Value → Shared → Prop} (hh : A.handled = none) (hl : s.heap.IsTuple l (intItems xs)) (hne : 0 < xs.size)
    (h : ∀ v h' tk, (intItems xs)[argBest (fun i j => decide (numAt xs i < numAt xs j)) (xs.size - 1)]? = some v → (∀ b o, s.heap.get? b = some o → h'.get? b = some o) → Q v { s with heap := h', toks := tk }) :
    wpAny (model prog w) A (call (.builtin "min") [.ref l]) Q E s := by
  have hlt : l < s.heap.objs.size := by obtain ⟨_, e, _⟩ := hl; exact Heap.lt_size e
  refine call_min_walk (wpAny_pyIter_tuple hl ?_)
  refine ⟨_, _, _, _, _, _, _, rfl, Walks.tuple (A := A.in1) hh _ l (Nat.ne_of_lt hlt) (intItems xs), ⟨⟨_, Heap.get?_push_size _ rfl, rfl, rfl⟩, hl.push _⟩, fun b hb => ?_, by simpa [intItems] using hne, CmpOf.ints_lt (numAt xs) (fun _ _ => intItems_at), fun v h' tk hP hk => ?_⟩
  · show b < (s.heap.push _).objs.size
    rw [Heap.size_push]
    rcases List.mem_cons.mp hb with rfl | hb
    · exact Nat.lt_succ_self _
    · rcases List.mem_cons.mp hb with rfl | hb
      · exact Nat.lt_succ_of_lt hlt
      · cases hb
  · refine h v h' tk (by simpa [intItems] using hP) fun b o e => hk b o (fun hm => ?_) (Heap.get?_push_of_some _ e)
    rcases List.mem_cons.mp hm with e1 | hm
    · exact absurd (e1 ▸ Heap.lt_size e) (Nat.lt_irrefl _)
    · cases hm
end
theorem ints_of_valsT : ∀ {ns : List Int} {us : List Value}, Vals (ns.map V.int) us → PyProof.Rows.IntsAre us ns
  | [], _, h => by
    cases h
    exact .nil
  | n :: ns, _, h => by
    cases h with
    | cons r t =>
      obtain ⟨k, rfl⟩ := r
      exact .cons n k (ints_of_valsT t)
def rMaxT (K : PySem.W.Frag) : List V → Hp → VK → Prop := fun vs H Q => ∃ (a : Addr) (ns : List Int), vs = [V.ref a] ∧ SqT K H a (ns.map V.int) ∧ 0 < ns.length ∧ ∀ m, m ∈ ns → (∀ y, y ∈ ns → y ≤ m) → Q (.int m) H
def rMinT (K : PySem.W.Frag) : List V → Hp → VK → Prop := fun vs H Q => ∃ (a : Addr) (ns : List Int), vs = [V.ref a] ∧ SqT K H a (ns.map V.int) ∧ 0 < ns.length ∧ ∀ m, m ∈ ns → (∀ y, y ∈ ns → m ≤ y) → Q (.int m) H
theorem cr_maxT {X : Cx} (hc : X.calm = true) : CallR X (.builtin "max") (rMaxT X.K) := by
  intro pins s σ H vs us Q I r h
  obtain ⟨a, ns, rfl, hq, hne, q⟩ := h
  obtain ⟨u, rfl, ru⟩ := vals1 r
  cases ru
  obtain ⟨its, rv, ⟨o, ho, hcl, n, hd⟩, _⟩ := I.tuple hq
  have ia := ints_of_valsT rv
  obtain ⟨xs, e⟩ := ia.allInts.items
  have hn : numsOf (intItems xs).toList = ns := by rw [← e]; exact ia.numsOf
  rw [nums_intItems] at hn
  have ht : s.heap.IsTuple a (intItems xs) := by rw [← e]; exact ⟨o, ho, hcl, n, hd⟩
  subst hn
  have hsz : 0 < xs.size := by simpa using hne
  refine max_intTup (I.ok.hd hc) ht hsz fun v h' tk hv hk => ?_
  obtain ⟨t, rfl⟩ := intItems_at hv
  obtain ⟨h1, h2⟩ := argBest_gt (numAt xs) (xs.size - 1)
  refine ⟨.int _, H, I.kept hk, ⟨_, rfl⟩, q _ ?_ fun a ha => ?_⟩
  · rw [numAt_eq]; exact PySem.getD_mem (by rw [List.length_map, Array.length_toList]; omega)
  · obtain ⟨j, hj, rfl⟩ := mem_getD ha
    rw [List.length_map, Array.length_toList] at hj
    rw [← numAt_eq]; exact h2 j (by omega)
theorem cr_minT {X : Cx} (hc : X.calm = true) : CallR X (.builtin "min") (rMinT X.K) := by
  intro pins s σ H vs us Q I r h
  obtain ⟨a, ns, rfl, hq, hne, q⟩ := h
  obtain ⟨u, rfl, ru⟩ := vals1 r
  cases ru
  obtain ⟨its, rv, ⟨o, ho, hcl, n, hd⟩, _⟩ := I.tuple hq
  have ia := ints_of_valsT rv
  obtain ⟨xs, e⟩ := ia.allInts.items
  have hn : numsOf (intItems xs).toList = ns := by rw [← e]; exact ia.numsOf
  rw [nums_intItems] at hn
  have ht : s.heap.IsTuple a (intItems xs) := by rw [← e]; exact ⟨o, ho, hcl, n, hd⟩
  subst hn
  have hsz : 0 < xs.size := by simpa using hne
  refine min_intTup (I.ok.hd hc) ht hsz fun v h' tk hv hk => ?_
  obtain ⟨t, rfl⟩ := intItems_at hv
  obtain ⟨h1, h2⟩ := argBest_lt (numAt xs) (xs.size - 1)
  refine ⟨.int _, H, I.kept hk, ⟨_, rfl⟩, q _ ?_ fun a ha => ?_⟩
  · rw [numAt_eq]; exact PySem.getD_mem (by rw [List.length_map, Array.length_toList]; omega)
  · obtain ⟨j, hj, rfl⟩ := mem_getD ha
    rw [List.length_map, Array.length_toList] at hj
    rw [← numAt_eq]; exact h2 j (by omega)
end DD
namespace DD
open PySem PySem.Spec PyProof.Rows L2 RZ

/-! ### for x in zip(a, b), two tuples of one length, the pair taken whole -/
def iZipP (K : PySem.W.Frag) (ta : TA) : TI := fun σ H R => ta σ H fun vs H1 => ∃ (a b : Addr) (xs ys : List V), vs = [.ref a, .ref b] ∧ SqT K H1 a xs ∧ SqT K H1 b ys ∧ xs.length = ys.length ∧ R (ItzN K [a, b] [xs, ys] xs.length) H1
theorem pi_zipP {X : Cx} {e e2 : Expr} {ta : TA} {p pos xp : Pos} {x : Str} (hg : Gl X "zip") (hm : X.mg "zip" = none) (ha : PA X [e, e2] ta)
    (hs : starEach [e, e2] X.env = (false, eval e X.env) :: starEach [e2] X.env := by rfl) (hpl : (backTo pos (starEach [e2] X.env)).any (·.1) = false := by rfl) :
    PI X (.Name x xp) (.Call (.Name "zip" p) [e, e2] [] pos) (iZipP X.K ta) := by
  refine ⟨fun pins s σ H R I h => ?_⟩
  refine Call_ (ld_blt I hg hm PyProof.Rows.boot_zip (PyProof.Rows.callWith_type1 (thn (ha.run pos pins s σ H _ I h) fun us s2 ⟨vs, H1, I2, r1, q1⟩ => ?_) hs hpl))
  obtain ⟨a, b, xs, ys, ex, hx, hy, hl, q⟩ := q1
  subst ex
  obtain rfl := vals_refs (ls := [a, b]) r1
  have Rw : Rws X.K H1 [a, b] [xs, ys] xs.length := ⟨rfl, fun j l r e1 e2 => by
    match j, e1, e2 with
    | 0, e1, e2 => cases e1; cases e2; exact ⟨hx, rfl⟩
    | 1, e1, e2 => cases e1; cases e2; exact ⟨hy, hl.symm⟩⟩
  have h1 : 1 ≤ [a, b].length := by simp
  have h2 : [a, b].length ≤ 4 := by simp
  have tup : ∀ l ∈ [a, b], ∃ xs, s2.heap.IsTuple l xs := fun l hl => by
    obtain ⟨j, hj⟩ := List.mem_iff_getElem?.mp hl
    have hjl := (List.getElem?_eq_some_iff.mp hj).1
    have hjr : [xs, ys][j]? = some ([xs, ys][j]'(by have := Rw.len; omega)) := List.getElem?_eq_getElem (by have := Rw.len; omega)
    obtain ⟨its, _, ⟨o, ho, hc, n, hd⟩, _⟩ := I2.tuple (Rw.at_ j l _ hj hjr).1
    exact ⟨its.toArray, o, ho, hc, n, hd⟩
  refine call_zipN h1 h2 tup fun h' n en S hsz hk => ?_
  have I3 : Inv X pins σ H1 { s2 with heap := h' } := I2.kept (t' := s2.toks) hk
  have hlt : ∀ l ∈ [a, b], l < n := fun l hl => by
    obtain ⟨xs, o, ho, _⟩ := tup l hl
    rw [en]
    exact Heap.lt_size ho
  refine pyIter_zn (s := { s2 with heap := h' }) S ⟨n + [a, b].length + 2, _, _, _, H1, rfl, I3, turn_zn h1 h2 hlt, S, fun b' hb => ?_, q⟩
  have hle : s2.heap.objs.size ≤ b' := by
    rw [← en]
    rcases List.mem_cons.mp hb with rfl | hb
    · omega
    rcases List.mem_cons.mp hb with rfl | hb
    · omega
    rcases List.mem_cons.mp hb with rfl | hb
    · omega
    obtain ⟨p, hp, rfl⟩ := List.mem_map.mp hb
    obtain ⟨j, _, _, e⟩ := zps_mem hp
    exact Nat.le_trans (Nat.le_add_right n j) (Nat.le_of_eq e.symm)
  exact I2.fpOk hle (I2.hok.fresh hle)

/-- a comprehension over zip of two tuples of one length -/
theorem lc_zipT {K : PySem.W.Frag} {a b : Addr} {xs ys : List V} {g : TG} {tt : TT} {te : TE} {vs : List Nat} {σ : L2.St} {H1 : Hp} {D : Addr} {Qd : Hp → Prop} (hl : xs.length = ys.length)
    (Pv : Nat → Hp → Prop) (h0 : Pv 0 (upd H1 D (.lst []))) (hq : ∀ i H, i ≤ xs.length → Pv i H → SqT K H a xs ∧ SqT K H b ys)
    (hs : ∀ i x y T H, xs[i]? = some x → ys[i]? = some y → Pv i H → H T = none → g (.ref T) (wipe σ vs) (upd H T (.tup [x, y])) fun σ2 H2 => wipe σ2 vs = wipe σ vs ∧ tt σ2 H2 fun b H3 =>
      if b = true then (te σ2 H3 fun y H4 => ∃ acc, H4 D = some (.lst acc) ∧ acc.length < sizeLine ∧ Pv (i + 1) (upd H4 D (.lst (acc ++ [y])))) else Pv (i + 1) H3) (hd : ∀ H, Pv xs.length H → Qd H) :
    ∃ W : Nat → Nat → Hp → Prop, (∃ m, W 0 m (upd H1 D (.lst []))) ∧ ∀ i m0 H, W i m0 H → ((ItzT K a b).stop i H ∧ Qd H) ∨ ((ItzT K a b).go i H ∧
      ∃ Nx : Hp → Prop, (∀ H', Nx H' → ∃ m', m' < m0 ∧ W (i + 1) m' H') ∧ ∀ x H', (ItzT K a b).yld i H x H' → g x (wipe σ vs) H' fun σ2 H2 => wipe σ2 vs = wipe σ vs ∧
        tt σ2 H2 fun b H3 => if b = true then (te σ2 H3 fun y H4 => ∃ acc, H4 D = some (.lst acc) ∧ acc.length < sizeLine ∧ Nx (upd H4 D (.lst (acc ++ [y])))) else Nx H3) := by
  refine ⟨fun i m0 H => m0 = xs.length - i ∧ i ≤ xs.length ∧ Pv i H, ⟨xs.length, by simp, Nat.zero_le _, h0⟩, ?_⟩
  rintro i _ H ⟨rfl, hi, p⟩
  obtain ⟨qx, qy⟩ := hq i H hi p
  by_cases hlt : i < xs.length
  · have hx : xs[i]? = some xs[i] := List.getElem?_eq_getElem hlt
    have hlt2 : i < ys.length := by omega
    have hy : ys[i]? = some ys[i] := List.getElem?_eq_getElem hlt2
    refine .inr ⟨⟨xs, ys, _, _, qx, qy, hx, hy⟩, Pv (i + 1), fun H' p' => ⟨xs.length - (i + 1), by omega, rfl, hlt, p'⟩, fun v H' y => ?_⟩
    obtain ⟨T, x', y', rfl, hT, rfl, f1, f2⟩ := y
    exact hs i x' y' T H (f1 xs qx) (f2 ys qy) p hT
  · have e : i = xs.length := by omega
    subst e
    exact .inl ⟨⟨xs, ys, qx, qy, Or.inl (Nat.le_refl _)⟩, hd H p⟩
/-- a comprehension over zip(*..) of tuples of one length -/
theorem lc_zipN {K : PySem.W.Frag} {ls : List Addr} {rows : List (List V)} {m : Nat} {g : TG} {tt : TT} {te : TE} {vs : List Nat} {σ : L2.St} {H1 : Hp} {D : Addr} {Qd : Hp → Prop}
    (Pv : Nat → Hp → Prop) (h0 : Pv 0 (upd H1 D (.lst []))) (hl : ∀ i H, i ≤ m → Pv i H → Rws K H ls rows m)
    (hs : ∀ i T H, i < m → Pv i H → H T = none → g (.ref T) (wipe σ vs) (upd H T (.tup (colV rows i))) fun σ2 H2 => wipe σ2 vs = wipe σ vs ∧ tt σ2 H2 fun b H3 =>
      if b = true then (te σ2 H3 fun y H4 => ∃ acc, H4 D = some (.lst acc) ∧ acc.length < sizeLine ∧ Pv (i + 1) (upd H4 D (.lst (acc ++ [y])))) else Pv (i + 1) H3) (hd : ∀ H, Pv m H → Qd H) :
    ∃ W : Nat → Nat → Hp → Prop, (∃ m, W 0 m (upd H1 D (.lst []))) ∧ ∀ i m0 H, W i m0 H → ((ItzN K ls rows m).stop i H ∧ Qd H) ∨ ((ItzN K ls rows m).go i H ∧
      ∃ Nx : Hp → Prop, (∀ H', Nx H' → ∃ m', m' < m0 ∧ W (i + 1) m' H') ∧ ∀ x H', (ItzN K ls rows m).yld i H x H' → g x (wipe σ vs) H' fun σ2 H2 => wipe σ2 vs = wipe σ vs ∧
        tt σ2 H2 fun b H3 => if b = true then (te σ2 H3 fun y H4 => ∃ acc, H4 D = some (.lst acc) ∧ acc.length < sizeLine ∧ Nx (upd H4 D (.lst (acc ++ [y])))) else Nx H3) := by
  refine ⟨fun i m0 H => m0 = m - i ∧ i ≤ m ∧ Pv i H, ⟨m, by simp, Nat.zero_le _, h0⟩, ?_⟩
  rintro i _ H ⟨rfl, hi, p⟩
  have q := hl i H hi p
  by_cases hlt : i < m
  · refine .inr ⟨⟨hlt, q⟩, Pv (i + 1), fun H' p' => ⟨m - (i + 1), by omega, rfl, hlt, p'⟩, fun x H' y => ?_⟩
    obtain ⟨T, rfl, nT, rfl⟩ := y
    exact hs i T H hlt p nT
  · obtain rfl : i = m := by omega
    exact .inl ⟨⟨rfl, q⟩, hd H p⟩

end DD
namespace DD
open PySem PySem.Spec PyProof.Rows L2 RZ
theorem walk_enT {K : PySem.W.Frag} {a : Addr} {xs : List V} {c : Int} : Walk (ItEnT K a c) xs.length (fun H => SqT K H a xs) (YPair (fun i => some (.int (c + (i : Nat)))) (fun i => xs[i]?)) := by
  refine ⟨fun i _ hi q => ⟨xs, xs[i], q, by simp [hi]⟩, fun _ q => ⟨xs, q, Nat.le_refl _⟩, fun i H v H' _ q y => ?_⟩
  obtain ⟨T, x, h1, h2, h3, h4⟩ := y
  exact ⟨T, .int (c + (i : Nat)), x, h1, h2, h3, rfl, h4 xs q⟩

/-! ### two clauses in one comprehension -/
section
variable {J J1 : It} {n n1 : Nat} {G G1 : Hp → Prop} {Y Y1 : Nat → Hp → V → Hp → Prop}
theorem lc2_it (w : Walk J n G Y) {g g1 : TG} {tt tt1 : TT} {te : TE} {wi1 : TI} {vs vs1 : List Nat} {σ : L2.St} {H1 : Hp} {D : Addr} {Qd : Hp → Prop} (Pv : Nat → Hp → Prop) (h0 : Pv 0 (upd H1 D (.lst []))) (hG : ∀ i H, i ≤ n → Pv i H → G H)
    (hs : ∀ i x H H', i < n → Pv i H → Y i H x H' → g x (wipe σ vs) H' fun σ2 H2 => wipe σ2 vs = wipe σ vs ∧ tt σ2 H2 fun b H3 =>
      if b = true then wi1 σ2 H3 fun J1 H4 => ∃ W1 : Nat → Nat → Hp → Prop, (∃ m, W1 0 m H4) ∧ ∀ j k H, W1 j k H →
      (J1.stop j H ∧ Pv (i + 1) H) ∨ (J1.go j H ∧ ∃ Nx1 : Hp → Prop, (∀ H', Nx1 H' → ∃ k', k' < k ∧ W1 (j + 1) k' H') ∧ ∀ x H', J1.yld j H x H' → g1 x (wipe σ2 vs1) H' fun σ3 H5 => wipe σ3 vs1 = wipe σ2 vs1 ∧ tt1 σ3 H5 fun b H6 =>
        if b = true then te σ3 H6 fun y H7 => ∃ acc, H7 D = some (.lst acc) ∧ acc.length < sizeLine ∧ Nx1 (upd H7 D (.lst (acc ++ [y]))) else Nx1 H6)
      else Pv (i + 1) H3) (hd : ∀ H, Pv n H → Qd H) :
    ∃ W : Nat → Nat → Hp → Prop, (∃ m, W 0 m (upd H1 D (.lst []))) ∧ ∀ i m H, W i m H →
  (J.stop i H ∧ Qd H) ∨ (J.go i H ∧ ∃ Nx : Hp → Prop, (∀ H', Nx H' → ∃ m', m' < m ∧ W (i + 1) m' H') ∧ ∀ x H', J.yld i H x H' → g x (wipe σ vs) H' fun σ2 H2 => wipe σ2 vs = wipe σ vs ∧ tt σ2 H2 fun b H3 =>
    if b = true then wi1 σ2 H3 fun J1 H4 => ∃ W1 : Nat → Nat → Hp → Prop, (∃ m, W1 0 m H4) ∧ ∀ j k H, W1 j k H →
      (J1.stop j H ∧ Nx H) ∨ (J1.go j H ∧ ∃ Nx1 : Hp → Prop, (∀ H', Nx1 H' → ∃ k', k' < k ∧ W1 (j + 1) k' H') ∧ ∀ x H', J1.yld j H x H' → g1 x (wipe σ2 vs1) H' fun σ3 H5 => wipe σ3 vs1 = wipe σ2 vs1 ∧ tt1 σ3 H5 fun b H6 =>
        if b = true then te σ3 H6 fun y H7 => ∃ acc, H7 D = some (.lst acc) ∧ acc.length < sizeLine ∧ Nx1 (upd H7 D (.lst (acc ++ [y]))) else Nx1 H6)
    else Nx H3) := by
  refine ⟨fun i m H => m = n - i ∧ i ≤ n ∧ Pv i H, ⟨n, by simp, Nat.zero_le _, h0⟩, ?_⟩
  rintro i m H ⟨rfl, hi, p⟩
  have q := hG i H hi p
  by_cases hlt : i < n
  · refine .inr ⟨w.goes i H hlt q, Pv (i + 1), fun H' p' => ⟨n - (i + 1), by omega, rfl, hlt, p'⟩, fun x H' y => hs i x H H' hlt p (w.yields i H x H' hlt q y)⟩
  · have e : i = n := by omega
    subst e
    exact .inl ⟨w.stops H q, hd H p⟩
theorem lci_it (w : Walk J1 n1 G1 Y1) {g1 : TG} {tt1 : TT} {te : TE} {vs1 : List Nat} {σ2 : L2.St} {H4 : Hp} {D : Addr} {Nx : Hp → Prop} (Pv : Nat → Hp → Prop) (h0 : Pv 0 H4) (hG : ∀ i H, i ≤ n1 → Pv i H → G1 H)
    (hs : ∀ j x H H', j < n1 → Pv j H → Y1 j H x H' → g1 x (wipe σ2 vs1) H' fun σ3 H5 => wipe σ3 vs1 = wipe σ2 vs1 ∧ tt1 σ3 H5 fun b H6 =>
        if b = true then te σ3 H6 fun y H7 => ∃ acc, H7 D = some (.lst acc) ∧ acc.length < sizeLine ∧ Pv (j + 1) (upd H7 D (.lst (acc ++ [y]))) else Pv (j + 1) H6) (hd : ∀ H, Pv n1 H → Nx H) :
    ∃ W1 : Nat → Nat → Hp → Prop, (∃ m, W1 0 m H4) ∧ ∀ j k H, W1 j k H →
      (J1.stop j H ∧ Nx H) ∨ (J1.go j H ∧ ∃ Nx1 : Hp → Prop, (∀ H', Nx1 H' → ∃ k', k' < k ∧ W1 (j + 1) k' H') ∧ ∀ x H', J1.yld j H x H' → g1 x (wipe σ2 vs1) H' fun σ3 H5 => wipe σ3 vs1 = wipe σ2 vs1 ∧ tt1 σ3 H5 fun b H6 =>
        if b = true then te σ3 H6 fun y H7 => ∃ acc, H7 D = some (.lst acc) ∧ acc.length < sizeLine ∧ Nx1 (upd H7 D (.lst (acc ++ [y]))) else Nx1 H6) := by
  refine ⟨fun i m H => m = n1 - i ∧ i ≤ n1 ∧ Pv i H, ⟨n1, by simp, Nat.zero_le _, h0⟩, ?_⟩
  rintro i m H ⟨rfl, hi, p⟩
  have q := hG i H hi p
  by_cases hlt : i < n1
  · refine .inr ⟨w.goes i H hlt q, Pv (i + 1), fun H' p' => ⟨n1 - (i + 1), by omega, rfl, hlt, p'⟩, fun x H' y => hs i x H H' hlt p (w.yields i H x H' hlt q y)⟩
  · have e : i = n1 := by omega
    subst e
    exact .inl ⟨w.stops H q, hd H p⟩
end
end DD
namespace DD
open PySem PySem.Spec PyProof.Rows L2 RZ
/-! ### enumerate(zip(*rows)) -/
theorem nat7 {p n j L : Nat} (h1 : p = n + L + 3) (h2 : p = n + j) (h3 : j < L) : False := by omega
def zfp (z TI TO : Addr) (ps : List (Addr × Addr)) : List Addr := z :: TI :: TO :: ps.map (·.1)
theorem ZSt.keeps {h h' : Heap} {z TI TO : Addr} {ps : List (Addr × Addr)} {k : Nat} (S : ZSt h z TI TO ps k) (q : ∀ b ∈ zfp z TI TO ps, ∀ o, h.get? b = some o → h'.get? b = some o) : ZSt h' z TI TO ps k := by
  obtain ⟨⟨f0, f1, hz, hf⟩, hTI, ⟨arr, ha, hTO⟩, hits⟩ := S
  refine ⟨⟨f0, f1, q _ (by simp [zfp]) _ hz, hf⟩, q _ (by simp [zfp]) _ hTI, ⟨arr, ha, q _ (by simp [zfp]) _ hTO⟩, fun p hp => ?_⟩
  obtain ⟨o, e, c⟩ := hits p hp
  exact ⟨o, q _ (by
    refine List.mem_cons_of_mem _ (List.mem_cons_of_mem _ (List.mem_cons_of_mem _ ?_))
    exact List.mem_map_of_mem hp) _ e, c⟩
section
variable {prog : Program} {w : World} {A : Around} {E : Value → Shared → Prop} {s : Shared} {z TI TO : Addr} {ps : List (Addr × Addr)} {k : Nat}
theorem nextOf_zn_item {vs : List Value} {Q : Value → Shared → Prop} (D : ZApart z TI TO ps) (hn : 1 ≤ ps.length) (hn2 : ps.length ≤ 1000) (S : ZSt s.heap z TI TO ps k)
    (hv : vs.length = ps.length) (hi : ∀ (j : Nat) (p : Addr × Addr), ps[j]? = some p → ∃ xs, s.heap.IsTuple p.2 xs ∧ xs[k]? = vs[j]?)
    (hQ : ∀ h', ZSt h' z TI TO ps (k + 1) → h'.get? s.heap.objs.size = some (tObj vs.toArray) → h'.objs.size = s.heap.objs.size + 1 →
      (∀ c o, c ≠ z → c ≠ TO → (∀ p ∈ ps, c ≠ p.1) → s.heap.get? c = some o → h'.get? c = some o) → Q (.ref s.heap.objs.size) { s with heap := h' }) :
    wpAny (model prog w) A (Builtin.SmallTypes.nextOf (.ref z)) Q E s := by
  obtain ⟨f0, f1, hz, hf0⟩ := S.zz
  have hT : s.TypeIs (.ref z) "zip" := ⟨_, hz, rfl⟩
  unfold Builtin.SmallTypes.nextOf
  exact wpAny_bind (wpAny_callSpecial?_slot (name := Str.ofString "__next__") hT F.slot_zip_next
    (wpAny_call_entry F.slot_zip_next hT F.entry_zip_next (zn_item D hn hn2 S hv hi fun h' a1 a2 a3 a4 => wpAny_pure (hQ h' a1 a2 a3 a4)) (F.args_zip_next_1 _)))
theorem nextOf_zn_end {Q : Value → Shared → Prop} (hh : A.handled = none) (D : ZApart z TI TO ps) (S : ZSt s.heap z TI TO ps k) {p : Addr × Addr} {r : List (Addr × Addr)} {xs : Array Value}
    (hps : ps = p :: r) (hl : s.heap.IsTuple p.2 xs) (hx : xs[k]? = none)
    (hE : ∀ h' e, (∀ c o, c ≠ z → c ≠ TO → (∀ p ∈ ps, c ≠ p.1) → s.heap.get? c = some o → h'.get? c = some o) →
      (∃ o, h'.get? e = some o ∧ o.cls = .type "StopIteration") → E (.ref e) { s with heap := h' }) :
    wpAny (model prog w) A (Builtin.SmallTypes.nextOf (.ref z)) Q E s := by
  obtain ⟨f0, f1, hz, hf0⟩ := S.zz
  have hT : s.TypeIs (.ref z) "zip" := ⟨_, hz, rfl⟩
  unfold Builtin.SmallTypes.nextOf
  exact wpAny_bind (wpAny_callSpecial?_slot (name := Str.ofString "__next__") hT F.slot_zip_next
    (wpAny_call_entry F.slot_zip_next hT F.entry_zip_next (zn_end hh D S hps hl hx hE) (F.args_zip_next_1 _)))

theorem ez_next_item {e : Addr} {c : Int} {old : Value} {vs : List Value} {Q : Value → Shared → Prop} (D : ZApart z TI TO ps) (hn : 1 ≤ ps.length) (hn2 : ps.length ≤ 1000)
    (he : IsEnum s.heap e z c old) (S : ZSt s.heap z TI TO ps k) (hv : vs.length = ps.length) (hi : ∀ (j : Nat) (p : Addr × Addr), ps[j]? = some p → ∃ xs, s.heap.IsTuple p.2 xs ∧ xs[k]? = vs[j]?)
    (hef : e ∉ zfp z TI TO ps)
    (hQ : ∀ h' tk, IsEnumOut h' e z (c + 1) (.ref s.heap.objs.size) (s.heap.objs.size + 1) → ZSt h' z TI TO ps (k + 1) → h'.get? s.heap.objs.size = some (tObj vs.toArray) →
      h'.get? (s.heap.objs.size + 1) = some { cls := .type "tuple", data := .seq #[.int c tk, .ref s.heap.objs.size] } → h'.objs.size = s.heap.objs.size + 2 →
      (∀ b o, b ≠ e → b ≠ z → b ≠ TO → (∀ p ∈ ps, b ≠ p.1) → s.heap.get? b = some o → h'.get? b = some o) → Q (.ref (s.heap.objs.size + 1)) { s with heap := h', toks := tk + 1 }) :
    wpAny (model prog w) A (Builtin.«enumerate.__next__» ⟨[.ref e], []⟩) (fun fin s' => ∃ v, fin = .done (.ret v) ∧ Q v s') E s := by
  obtain ⟨hp, g, d, tk, os⟩ := s
  have e1 : e ≠ z := fun q => hef (by rw [q]; simp [zfp])
  have e2 : e ≠ TO := fun q => hef (by rw [q]; simp [zfp])
  have e3 : ∀ p ∈ ps, e ≠ p.1 := fun p hpp q => hef (by
    rw [q]
    refine List.mem_cons_of_mem _ (List.mem_cons_of_mem _ (List.mem_cons_of_mem _ ?_))
    exact List.mem_map_of_mem hpp)
  show wpAny _ _ (field (.ref e) 2 >>= _) _ _ _
  refine wpAny_bind (wpAny_field he rfl (x := .ref z) rfl ?_)
  refine wpAny_bind (nextOf_zn_item D hn hn2 S hv hi fun h₁ S₁ hT₁ hz₁ hk₁ => ?_)
  replace hT₁ : h₁.get? hp.objs.size = some (tObj vs.toArray) := hT₁
  replace hz₁ : h₁.objs.size = hp.objs.size + 1 := hz₁
  replace hk₁ : ∀ c o, c ≠ z → c ≠ TO → (∀ p ∈ ps, c ≠ p.1) → hp.get? c = some o → h₁.get? c = some o := hk₁
  have he₁ : IsEnum h₁ e z c old := hk₁ e _ e1 e2 e3 he
  have hel : e < hp.objs.size := Heap.lt_size he
  show wpAny _ _ (field (.ref e) 3 >>= _) _ _ ⟨h₁, g, d, tk, os⟩
  refine wpAny_bind (wpAny_field he₁ rfl (x := rawInt c) rfl ?_)
  show wpAny _ _ (field (.ref e) 4 >>= _) _ _ ⟨h₁, g, d, tk, os⟩
  refine wpAny_bind (wpAny_field he₁ rfl (x := .none) rfl ?_)
  show wpAny _ _ (mkInt c >>= _) _ _ ⟨h₁, g, d, tk, os⟩
  refine wpAny_bind (wpAny_mkInt ?_)
  show wpAny _ _ (setField (.ref e) 3 (rawInt (c + 1)) >>= _) _ _ ⟨h₁, g, d, tk + 1, os⟩
  refine wpAny_bind (wpAny_setField_rec he₁ (by simp) fun h₂ he₂ hs₂ => ?_)
  replace hs₂ : Heap.SameBut e h₁ h₂ := hs₂
  replace he₂ : IsEnum h₂ e z (c + 1) old := he₂
  show wpAny _ _ (setField (.ref e) 4 .none >>= _) _ _ ⟨h₂, g, d, tk + 1, os⟩
  refine wpAny_bind (wpAny_setField_rec he₂ (by simp) fun h₃ he₃ hs₃ => ?_)
  replace hs₃ : Heap.SameBut e h₂ h₃ := hs₃
  replace he₃ : IsEnum h₃ e z (c + 1) old := he₃
  show wpAny _ _ (newTuple [.int c tk, .ref hp.objs.size] >>= _) _ _ ⟨h₃, g, d, tk + 1, os⟩
  refine wpAny_bind (wpAny_newTuple ?_)
  have he₄ : IsEnum (h₃.push { cls := .type "tuple", data := .seq #[.int c tk, .ref hp.objs.size] }) e z (c + 1) old := Heap.get?_push_of_some _ he₃
  generalize hh₄ : h₃.push { cls := .type "tuple", data := .seq #[.int c tk, .ref hp.objs.size] } = h₄ at he₄
  have hsz : h₃.objs.size = hp.objs.size + 1 := by rw [hs₃.1, hs₂.1, hz₁]
  have ht₄ : h₄.get? (hp.objs.size + 1) = some { cls := .type "tuple", data := .seq #[.int c tk, .ref hp.objs.size] } := by rw [← hh₄, ← hsz]; exact Heap.get?_push_size _ rfl
  have hz₄ : h₄.objs.size = hp.objs.size + 2 := by rw [← hh₄, Heap.size_push, hsz]
  have hk₁₄ : ∀ b o, b ≠ e → h₁.get? b = some o → h₄.get? b = some o := fun b o hbe hb => by
    rw [← hh₄]; exact Heap.get?_push_of_some _ (hs₃.extBut b o hbe (hs₂.extBut b o hbe hb))
  have S₄ : ZSt h₄ z TI TO ps (k + 1) := S₁.keeps fun b hb o y => hk₁₄ b o (fun q => hef (q ▸ hb)) y
  have hT₄ := hk₁₄ hp.objs.size _ (Nat.ne_of_gt hel) hT₁
  have hk₄ : ∀ b o, b ≠ e → b ≠ z → b ≠ TO → (∀ p ∈ ps, b ≠ p.1) → hp.get? b = some o → h₄.get? b = some o := fun b o c1 c2 c3 c4 y => hk₁₄ b o c1 (hk₁ b o c2 c3 c4 y)
  show wpAny _ _ (Builtin.SmallTypes.ownedTupleIsFree (.ref e) >>= _) _ _ ⟨h₄, g, d, tk + 1, os⟩
  rw [hsz]
  clear hh₄ he₃ hs₃ he₂ hs₂ he₁ hsz hk₁₄ S₁ hT₁ hz₁ hk₁ h₃ h₂ h₁
  refine wpAny_bind ?_
  · unfold Builtin.SmallTypes.ownedTupleIsFree
    refine wpAny_bind (wpAny_field he₄ rfl (x := .none) rfl (wpAny_pure ?_))
    simp only [if_true]
    refine wpAny_bind (wpAny_rule ?_)
    refine wpAny_bind (wpAny_field he₄ rfl (x := old) rfl ?_)
    refine wpAny_bind (wpAny_setField_rec he₄ (by simp) fun h₅ he₅ hs₅ => ?_)
    replace hs₅ : Heap.SameBut e h₄ h₅ := hs₅
    replace he₅ : IsEnum h₅ e z (c + 1) (.ref hp.objs.size) := he₅
    show wpAny _ _ (Builtin.SmallTypes.ownedTupleHandOut (.ref e) (.ref (hp.objs.size + 1)) >>= _) _ _ ⟨h₅, g, d, tk + 1, os⟩
    refine wpAny_bind ?_
    · unfold Builtin.SmallTypes.ownedTupleHandOut
      refine wpAny_bind (wpAny_setField_rec he₅ (by simp) fun h₆ he₆ hs₆ => ?_)
      replace hs₆ : Heap.SameBut e h₅ h₆ := hs₆
      replace he₆ : IsEnumOut h₆ e z (c + 1) (.ref hp.objs.size) (hp.objs.size + 1) := he₆
      refine wpAny_setField_rec he₆ (by simp) fun h₇ he₇ hs₇ => ?_
      replace hs₇ : Heap.SameBut e h₆ h₇ := hs₇
      replace he₇ : IsEnumOut h₇ e z (c + 1) (.ref hp.objs.size) (hp.objs.size + 1) := he₇
      have hk₇ : ∀ b o, b ≠ e → h₄.get? b = some o → h₇.get? b = some o := fun b o hbe y => hs₇.extBut b o hbe (hs₆.extBut b o hbe (hs₅.extBut b o hbe y))
      refine wpAny_bind (wpAny_letGo (wpAny_pure ⟨_, rfl, hQ h₇ tk he₇ ?_ ?_ ?_ ?_ ?_⟩))
      · exact S₄.keeps fun b hb o y => hk₇ b o (fun q => hef (q ▸ hb)) y
      · exact hk₇ _ _ (Nat.ne_of_gt hel) hT₄
      · exact hk₇ _ _ (by have : e < hp.objs.size := hel; exact Nat.ne_of_gt (Nat.lt_succ_of_lt this)) ht₄
      · rw [hs₇.1, hs₆.1, hs₅.1, hz₄]
      · exact fun b o c1 c2 c3 c4 hb => hk₇ b o c1 (hk₄ b o c1 c2 c3 c4 hb)
end

theorem meets_enum_newZ (z TI TO : Addr) (ps : List (Addr × Addr)) (k : Nat) : Meets (Builtin.«enumerate.__new__» ⟨[.type "enumerate", .ref z], []⟩) (fun _ R s => ZSt s.heap z TI TO ps k ∧
      R (.ok (.ret (.ref s.heap.objs.size))) { s with heap := s.heap.push { cls := .type "enumerate", data := .fields #[.none, .bool false, .ref z, rawInt 0, .none, .none] } }) :=
  .of_wp fun prog w A R s h => by
    obtain ⟨hp, g, d, tk, os⟩ := s
    obtain ⟨hS, h⟩ := h
    have hsub := sub_enumerate
    have hS' : ZSt (Shared.heap ⟨hp, g, d, tk, os⟩) z TI TO ps k := hS
    wp_walk
    refine wpAny_stack_any fun st => wpAny_pure ?_
    split
    · rename_i c _ _ _ _ _
      cases (c == Value.type "enumerate")
      · wp_walk using pyIter_zn hS'
        exact ⟨_, rfl, h⟩
      · wp_walk using pyIter_zn hS'
        exact ⟨_, rfl, h⟩
    · wp_walk using pyIter_zn hS'
      exact ⟨_, rfl, h⟩
section
variable {prog : Program} {w : World} {A : Around} {E : Value → Shared → Prop} {s : Shared}
theorem call_enumZ {z TI TO : Addr} {ps : List (Addr × Addr)} {k : Nat} {Q : Value → Shared → Prop} (hS : ZSt s.heap z TI TO ps k)
    (h : ∀ h', IsEnum h' s.heap.objs.size z 0 .none → (∀ b o, s.heap.get? b = some o → h'.get? b = some o) → Q (.ref s.heap.objs.size) { s with heap := h' }) :
    wpAny (model prog w) A (call (.type "enumerate") [.ref z]) Q E s := by
  refine callType_new F.called_enumerate (by decide) (F.typeCall_enumerate_1 _) (F.newCall_enumerate_1 _) (fun obj => F.args_object_init_2 obj _) F.entry_enumerate_new
    (meets_enum_newZ z TI TO ps k) ⟨hS, ?_⟩
  have he : IsEnum (s.heap.push { cls := .type "enumerate", data := .fields #[.none, .bool false, .ref z, rawInt 0, .none, .none] }) s.heap.objs.size z 0 .none := Heap.get?_push_size _ rfl
  exact ⟨⟨_, he, rfl⟩, h _ he fun b o x => Heap.get?_push_of_some _ x⟩
end

def ItEz (K : PySem.W.Frag) (ls : List Addr) (rows : List (List V)) (m : Nat) : It :=
  ⟨fun i H => i < m ∧ Rws K H ls rows m, fun i H v H' => ∃ T U, v = .ref U ∧ H T = none ∧ T ≠ U ∧ H U = none ∧ H' = upd (upd H T (.tup (colV rows i))) U (.tup [.int ((0 : Int) + (i : Nat)), .ref T]), fun i H => i = m ∧ Rws K H ls rows m⟩
theorem turn_ez {P : Program} {w : World} {K : PySem.W.Frag} {elts : List Expr} {kk : Nat} {tpos : Pos} {n m : Nat} {ls : List Addr} {rows : List (List V)} (h1 : 1 ≤ ls.length) (h2 : ls.length ≤ 4) (hlt : ∀ l ∈ ls, l < n) {e : Addr}
    (hef : e ∉ zfp (n + ls.length + 2) (n + ls.length) (n + ls.length + 1) (zps n ls)) :
    Turn P w K (.Tuple elts kk tpos) (ItEz K ls rows m) (e :: zfp (n + ls.length + 2) (n + ls.length) (n + ls.length + 1) (zps n ls)) e
      (fun i h => (∃ old, IsEnum h e (n + ls.length + 2) ((0 : Int) + (i : Nat)) old) ∧ ZSt h (n + ls.length + 2) (n + ls.length) (n + ls.length + 1) (zps n ls) i) where
  mem := List.mem_cons_self
  obj := fun i h S b hb => by
    obtain ⟨⟨old, he⟩, ⟨⟨f0, f1, hz, _⟩, hTI, ⟨arr, _, hTO⟩, hits⟩⟩ := S
    rcases List.mem_cons.mp hb with rfl | hb
    · exact ⟨_, he, fun v q => nomatch q⟩
    rcases List.mem_cons.mp hb with rfl | hb
    · exact ⟨_, hz, fun v q => nomatch q⟩
    rcases List.mem_cons.mp hb with rfl | hb
    · exact ⟨_, hTI, fun v q => nomatch q⟩
    rcases List.mem_cons.mp hb with rfl | hb
    · exact ⟨_, hTO, fun v q => nomatch q⟩
    obtain ⟨p, hp, rfl⟩ := List.mem_map.mp hb
    obtain ⟨o, e, _, d⟩ := hits p hp
    exact ⟨o, e, fun v q => by rw [d] at q; cases q⟩
  keep := fun i h h' S k => by
    obtain ⟨⟨old, he⟩, S⟩ := S
    exact ⟨⟨old, k e (by simp) _ he⟩, S.keeps fun b hb o y => k b (List.mem_cons_of_mem _ hb) o y⟩
  item := by
    intro X hP hw hK hc i pins s σ H E I hf S hg
    subst hP hw hK
    obtain ⟨⟨old, he⟩, S⟩ := S
    obtain ⟨hi, R⟩ := hg
    obtain ⟨us, hv, hx⟩ := R.vals I hi
    have hul : us.length = ls.length := by rw [← hv.length, R.len]; simp [colV]
    have D := zapart hlt
    have hT : s.TypeIs (.ref e) "enumerate" := ⟨_, he, rfl⟩
    have hfz : ∀ b ∈ e :: zfp (n + ls.length + 2) (n + ls.length) (n + ls.length + 1) (zps n ls), b < s.heap.objs.size := fun b hb => by
      rcases List.mem_cons.mp hb with rfl | hb
      · exact Heap.lt_size he
      obtain ⟨⟨f0, f1, hz, _⟩, hTI, ⟨arr, _, hTO⟩, hits⟩ := S
      rcases List.mem_cons.mp hb with rfl | hb
      · exact Heap.lt_size hz
      rcases List.mem_cons.mp hb with rfl | hb
      · exact Heap.lt_size hTI
      rcases List.mem_cons.mp hb with rfl | hb
      · exact Heap.lt_size hTO
      obtain ⟨p, hp, rfl⟩ := List.mem_map.mp hb
      obtain ⟨o, e, _⟩ := hits p hp
      exact Heap.lt_size e
    unfold pyNext
    refine wpAny_bind (wpAny_attempt (wpAny_callSpecial?_slot (name := Str.ofString "__next__") hT F.slot_enumerate_next
      (wpAny_call_entry F.slot_enumerate_next hT F.entry_enumerate_next
        (ez_next_item D (by rw [zps_length]; exact h1) (by rw [zps_length]; omega) he S (vs := us) (by rw [zps_length]; exact hul) (fun j p e => ?_) hef fun h' tk ho S' hTu hU hsz hk => wpAny_pure ?_) (F.args_enumerate_next_1 _))))
    · rw [zps_get] at e
      cases ea : ls[j]? with
      | none => rw [ea] at e; cases e
      | some a =>
        rw [ea] at e
        obtain rfl : (n + j, a) = p := Option.some.inj e
        exact hx j a ea
    · refine ⟨_, rfl, wpAny_letOwnedTupleGo_enum (s := { s with heap := h', toks := tk + 1 }) ho fun h'' he' sb => ?_⟩
      have hcl : (colV rows i).length ≤ sizeLine := by
        rw [hv.length, hul, sizeLine_eq]
        omega
      have hel : e < s.heap.objs.size := hfz e List.mem_cons_self
      have hk2 : ∀ b o, b ∉ e :: zfp (n + ls.length + 2) (n + ls.length) (n + ls.length + 1) (zps n ls) → s.heap.get? b = some o → h''.get? b = some o := fun b o hb q =>
        (sb.2 b (fun z => hb (by simp [z]))).trans (hk b o (fun z => hb (by simp [z])) (fun z => hb (by simp [z, zfp])) (fun z => hb (by simp [z, zfp])) (fun p hp z => hb (by
          refine List.mem_cons_of_mem _ (List.mem_cons_of_mem _ (List.mem_cons_of_mem _ (List.mem_cons_of_mem _ ?_)))
          rw [z]
          exact List.mem_map_of_mem hp)) q)
      have hTu2 : h''.get? s.heap.objs.size = some (tObj us.toArray) := (sb.2 _ (Nat.ne_of_gt hel)).trans hTu
      have hU2 : h''.get? (s.heap.objs.size + 1) = some { cls := .type "tuple", data := .seq #[.int ((0 : Int) + (i : Nat)) tk, .ref s.heap.objs.size] } := (sb.2 _ (Nat.ne_of_gt (Nat.lt_succ_of_lt hel))).trans hU
      have new1 : ObjOk X.prog X.w (upd H s.heap.objs.size (.tup (colV rows i))) (s.heap.push (tObj us.toArray)) s.heap.objs.size (.tup (colV rows i)) := ⟨hcl, us, hv, ⟨_, Heap.get?_push_size _ rfl, rfl, _, rfl⟩⟩
      have I1 : Inv X pins σ (upd H s.heap.objs.size (.tup (colV rows i))) { s with heap := s.heap.push (tObj us.toArray), toks := s.toks } :=
        I.laid (fun b o q => Heap.get?_push_of_some _ q) (Nat.le_refl _) new1
      have hz1 : (s.heap.push (tObj us.toArray)).objs.size = s.heap.objs.size + 1 := Heap.size_push ..
      have new2 : ObjOk X.prog X.w (upd (upd H s.heap.objs.size (.tup (colV rows i))) (s.heap.objs.size + 1) (.tup [.int ((0 : Int) + (i : Nat)), .ref s.heap.objs.size])) h'' (s.heap.objs.size + 1) (.tup [.int ((0 : Int) + (i : Nat)), .ref s.heap.objs.size]) :=
        ⟨by show 2 ≤ sizeLine; decide, [.int ((0 : Int) + (i : Nat)) tk, .ref s.heap.objs.size], .cons ⟨_, rfl⟩ (.cons rfl .nil), ⟨_, hU2, rfl, _, rfl⟩⟩
      have hf1 : ∀ b ∈ e :: zfp (n + ls.length + 2) (n + ls.length) (n + ls.length + 1) (zps n ls), FpOk X pins (upd H s.heap.objs.size (.tup (colV rows i))) b := fun b hb => by
        refine ⟨?_, (hf b hb).2⟩
        rw [upd_ne (Nat.ne_of_lt (hfz b hb))]
        exact (hf b hb).1
      have I2 : Inv X pins σ (upd (upd H s.heap.objs.size (.tup (colV rows i))) (s.heap.objs.size + 1) (.tup [.int ((0 : Int) + (i : Nat)), .ref s.heap.objs.size])) { s with heap := h'', toks := tk + 1 } := by
        refine I1.turnedNew (t' := tk + 1) (fun b o hb q => ?_) hf1 (Nat.le_of_eq hz1) new2
        rcases Heap.get?_push_cases q with ⟨hbN, ho2⟩ | q3
        · rw [hbN, ho2]
          exact hTu2
        · exact hk2 b o hb q3
      have hT0 : H s.heap.objs.size = none := I.hok.fresh (Nat.le_refl _)
      have hU0 : H (s.heap.objs.size + 1) = none := I.hok.fresh (Nat.le_succ _)
      have S2 : ZSt h'' (n + ls.length + 2) (n + ls.length) (n + ls.length + 1) (zps n ls) (i + 1) := S'.keeps fun b hb o y => (sb.2 b (fun z => hef (z ▸ hb))).trans y
      refine ⟨.ref (s.heap.objs.size + 1), _, I2, rfl, ⟨_, _, rfl, hT0, Nat.ne_of_lt (Nat.lt_succ_self _), hU0, rfl⟩, ⟨⟨.ref s.heap.objs.size, ?_⟩, S2⟩, fun b hb => ?_⟩
      · have e1 : (0 : Int) + ((i + 1 : Nat) : Int) = (0 : Int) + (i : Int) + 1 := by omega
        rw [e1]
        exact he'
      · have hb' := hfz b hb
        rw [upd_ne (Nat.ne_of_lt (Nat.lt_succ_of_lt hb')), upd_ne (Nat.ne_of_lt hb')]
        exact (hf b hb).1
  done := by
    intro X hP hw hK hc i pins s σ H E I hf S hg
    subst hP hw hK
    obtain ⟨⟨old, he⟩, S⟩ := S
    obtain ⟨rfl, R⟩ := hg
    have hT : s.TypeIs (.ref e) "enumerate" := ⟨_, he, rfl⟩
    cases hls : ls with
    | nil => rw [hls] at h1; simp at h1
    | cons a r =>
      cases hrw : rows with
      | nil => have := R.len; rw [hls, hrw] at this; simp at this
      | cons q rr =>
        obtain ⟨hq, hl⟩ := R.at_ 0 a q (by rw [hls]; rfl) (by rw [hrw]; rfl)
        obtain ⟨its, rv, ⟨o, ho, hc', n', hd⟩, _⟩ := I.tuple hq
        have hps : zps n ls = (n, a) :: (zps n ls).tail := by
          rw [hls]
          simp [zps]
        unfold pyNext
        refine wpAny_bind (wpAny_attempt (wpAny_callSpecial?_slot (name := Str.ofString "__next__") hT F.slot_enumerate_next
          (wpAny_call_entry F.slot_enumerate_next hT F.entry_enumerate_next ?_ (F.args_enumerate_next_1 _))))
        show wpAny _ _ (field (.ref e) 2 >>= _) _ _ _
        refine wpAny_bind (wpAny_field he rfl (x := .ref (n + ls.length + 2)) rfl ?_)
        refine wpAny_bind (nextOf_zn_end (I.ok.hd hc) (zapart hlt) S hps (xs := its.toArray) ⟨o, ho, hc', n', hd⟩ ?_ fun h' e' hk he' => ?_)
        · have := rv.length
          rw [List.getElem?_toArray, List.getElem?_eq_none (by omega)]
        · obtain ⟨o2, ho2, hc2⟩ := he'
          refine wpAny_bind (wpAny_isInstance (T := "StopIteration") (b := true) ⟨o2, ho2, hc2⟩ isSubtype_stop (wpAny_pure ⟨rfl, ?_⟩))
          exact I.turnedL (t' := s.toks) (fun c o hb q => hk c o (fun z => hb (by simp [z, zfp])) (fun z => hb (by simp [z, zfp])) (fun p hp z => hb (by
            refine List.mem_cons_of_mem _ (List.mem_cons_of_mem _ (List.mem_cons_of_mem _ (List.mem_cons_of_mem _ ?_)))
            rw [z]
            exact List.mem_map_of_mem hp)) q) hf
  self := fun A i s Q E S h => by
    obtain ⟨⟨_, he⟩, _⟩ := S
    exact wpAny_pyIter_enum he h

/-- for i, x in enumerate(zip(*e)), e a list or tuple of one to four tuples of one length -/
def iEnumZ (K : PySem.W.Frag) (te : TE) : TI := fun σ H R => te σ H fun y H1 => ∃ (a : Addr) (ls : List Addr) (rows : List (List V)) (m : Nat), y = .ref a ∧ (SqT K H1 a (ls.map V.ref) ∨ SqL K H1 a (ls.map V.ref)) ∧
  1 ≤ ls.length ∧ ls.length ≤ 4 ∧ Rws K H1 ls rows m ∧ R (ItEz K ls rows m) H1
theorem pi_enumZ {X : Cx} {e : Expr} {te : TE} {p p2 pos pos2 spos tpos : Pos} {elts : List Expr} {kk : Nat} (hge : Gl X "enumerate") (hme : X.mg "enumerate" = none) (hg : Gl X "zip") (hm : X.mg "zip" = none) (he : PE X e te)
    (hst : starEach [.Starred e spos] X.env = [(true, eval e X.env)] := by rfl)
    (hs : starEach [.Call (.Name "zip" p) [.Starred e spos] [] pos] X.env = [(false, eval (.Call (.Name "zip" p) [.Starred e spos] [] pos) X.env)] := by rfl) :
    PI X (.Tuple elts kk tpos) (.Call (.Name "enumerate" p2) [.Call (.Name "zip" p) [.Starred e spos] [] pos] [] pos2) (iEnumZ X.K te) := by
  refine ⟨fun pins s σ H R I h => Call_ (ld_blt I hge hme boot_enumerate (PyProof.Rows.callWith_type1 ?_ hs rfl))⟩
  rw [hs]
  refine Calls.spliced_cons ?_
  refine wpAny_Call_Name_kw (ld_blt I hg hm PyProof.Rows.boot_zip ?_)
  rw [hst]
  refine PySem.W.ks_call (P := fun _ => True) rfl (fun h _ => ⟨.machine, .inr (.inl rfl), fun A Q E s _ q => wpAny_pure q⟩) (PySem.W.ks_lone ?_)
  refine thn (he.run pins s σ H _ I h) fun v s1 ⟨y, H1, I1, ry, a, ls, rows, m, ey, hx, h1, h2, Rw, q⟩ => ?_
  subst ey
  obtain rfl : v = Value.ref a := ry
  refine StX.star_any I1 hx fun us s2 I2 rv => ⟨trivial, ?_⟩
  obtain rfl := vals_refs rv
  have tup : ∀ l ∈ ls, ∃ xs, s2.heap.IsTuple l xs := fun l hl => by
    obtain ⟨j, hj⟩ := List.mem_iff_getElem?.mp hl
    have hjl := (List.getElem?_eq_some_iff.mp hj).1
    have hjr : rows[j]? = some (rows[j]'(by have := Rw.len; omega)) := List.getElem?_eq_getElem (by have := Rw.len; omega)
    obtain ⟨its, _, ⟨o, ho, hc, n, hd⟩, _⟩ := I2.tuple (Rw.at_ j l _ hj hjr).1
    exact ⟨its.toArray, o, ho, hc, n, hd⟩
  refine call_zipN h1 h2 tup fun h' n en S hsz hk => ?_
  have I3 : Inv X pins σ H1 { s2 with heap := h' } := I2.kept (t' := s2.toks) hk
  have hlt : ∀ l ∈ ls, l < n := fun l hl => by
    obtain ⟨xs, o, ho, _⟩ := tup l hl
    rw [en]
    exact Heap.lt_size ho
  refine Calls.spliced_nil ?_
  refine call_enumZ (s := { s2 with heap := h' }) S fun h3 hE3 hk3 => wpAny_pyIter_enum hE3 ?_
  have I4 : Inv X pins σ H1 { s2 with heap := h3 } := I3.kept (t' := s2.toks) hk3
  have hef : h'.objs.size ∉ zfp (n + ls.length + 2) (n + ls.length) (n + ls.length + 1) (zps n ls) := fun hb => by
    rw [hsz] at hb
    rcases List.mem_cons.mp hb with hb | hb
    · omega
    rcases List.mem_cons.mp hb with hb | hb
    · omega
    rcases List.mem_cons.mp hb with hb | hb
    · omega
    obtain ⟨p, hp, e⟩ := List.mem_map.mp hb
    obtain ⟨j, hj, _, ep⟩ := zps_mem hp
    exact nat7 e ep hj
  have S3 : ZSt h3 (n + ls.length + 2) (n + ls.length) (n + ls.length + 1) (zps n ls) 0 := S.keeps fun b _ o y => hk3 b o y
  refine ⟨h'.objs.size, _, _, _, H1, rfl, I4, turn_ez h1 h2 hlt hef, ⟨⟨_, hE3⟩, S3⟩, fun b hb => ?_, q⟩
  have hle : s2.heap.objs.size ≤ b := by
    rw [← en]
    rcases List.mem_cons.mp hb with rfl | hb
    · omega
    rcases List.mem_cons.mp hb with rfl | hb
    · omega
    rcases List.mem_cons.mp hb with rfl | hb
    · omega
    rcases List.mem_cons.mp hb with rfl | hb
    · omega
    obtain ⟨p, hp, rfl⟩ := List.mem_map.mp hb
    obtain ⟨j, _, _, e⟩ := zps_mem hp
    exact Nat.le_trans (Nat.le_add_right n j) (Nat.le_of_eq e.symm)
  exact I2.fpOk hle (I2.hok.fresh hle)
theorem walk_ez {K : PySem.W.Frag} {ls : List Addr} {rows : List (List V)} {m : Nat} : Walk (ItEz K ls rows m) m (fun H => Rws K H ls rows m)
    (fun i H v H' => ∃ T U, v = .ref U ∧ H T = none ∧ T ≠ U ∧ H U = none ∧ H' = upd (upd H T (.tup (colV rows i))) U (.tup [.int ((0 : Int) + (i : Nat)), .ref T])) :=
  ⟨fun _ _ hi q => ⟨hi, q⟩, fun _ q => ⟨rfl, q⟩, fun _ _ _ _ _ _ y => y⟩
end DD
namespace DD
open PySem PySem.Spec PyProof.Rows L2 RZ
/-! ### zip() of nothing -/
theorem typeCall_zipM : ∀ vs : List Value, vs.length ≤ 4 → checkTypeCall "zip" ⟨vs, []⟩ = pure ()
  | [], _ => by kernel_rfl
  | a :: vs, h => typeCall_zipN (a :: vs) (Nat.succ_pos _) h
theorem newCall_zipM : ∀ vs : List Value, vs.length ≤ 4 → checkBuiltinCall "zip.__new__" ⟨.type "zip" :: vs, []⟩ = pure ()
  | [], _ => by kernel_rfl
  | a :: vs, h => newCall_zipN (a :: vs) (Nat.succ_pos _) h
theorem args_object_initM (o : Value) : ∀ vs : List Value, vs.length ≤ 4 → argsOk "object.__init__" ⟨o :: vs, []⟩
  | [], _ => by
    unfold argsOk
    rw [signature?_of (id := "object.__init__") (n := ['_', '_', 't', 'i', 'n', 'i', '_', '_']) (o := ['t', 'c', 'e', 'j', 'b', 'o']) (by kernel_rfl) F.owner_object]
    kernel_rfl
  | a :: vs, h => args_object_initN o (a :: vs) (Nat.succ_pos _) h
section
variable {prog : Program} {w : World} {A : Around} {E : Value → Shared → Prop} {s : Shared}
theorem zip_newM {ls : List Addr} {Q : Value → Shared → Prop} (h2 : ls.length ≤ 4) (hl : ∀ l ∈ ls, ∃ xs, s.heap.IsTuple l xs)
    (hQ : ∀ h' n, n = s.heap.objs.size → ZSt h' (n + ls.length + 2) (n + ls.length) (n + ls.length + 1) (ls.zipIdx.map fun x => (n + x.2, x.1)) 0 → h'.objs.size = n + ls.length + 3 →
      (∀ c o, s.heap.get? c = some o → h'.get? c = some o) → Q (.ref (n + ls.length + 2)) { s with heap := h' }) :
    wpAny (model prog w) A (Builtin.«zip.__new__» ⟨.type "zip" :: ls.map Value.ref, []⟩) (fun fin s' => ∃ v, fin = .done (.ret v) ∧ Q v s') E s := by
  have hsub := sub_zip
  have hc : wpAny (model prog w) A (Builtin.SmallTypes.newClass "zip" ⟨.type "zip" :: ls.map Value.ref, []⟩) (fun r s' => r = (.type "zip", ls.map Value.ref) ∧ s' = s) E s := by
    unfold Builtin.SmallTypes.newClass
    wp_walk
    exact ⟨rfl, rfl⟩
  unfold Builtin.«zip.__new__»
  refine wpAny_bind (thn hc ?_)
  rintro _ _s ⟨rfl, rfl⟩
  show wpAny _ _ (Builtin.SmallTypes.iterAll (ls.map Value.ref) >>= _) _ _ _
  refine wpAny_bind (iterAll_tups hl fun h1' its hil hi hsz hk hit => ?_)
  have hsl : its.length ≤ sizeLine := by rw [hil, sizeLine_eq]; omega
  refine wpAny_bind (wpAny_newTuple ?_ hsl)
  refine wpAny_bind (wpAny_newTuple ?_ (by rw [List.length_map]; exact hsl))
  refine wpAny_bind ?_
  unfold Builtin.SmallTypes.newRecord
  refine wpAny_newObj_type ?_ (show (5 : Nat) ≤ sizeLine + 2 by rw [sizeLine_eq]; omega)
  refine wpAny_pure ⟨_, rfl, ?_⟩
  have z1 : (h1'.push (tObj its.toArray)).objs.size = h1'.objs.size + 1 := Heap.size_push ..
  have z2 : ((h1'.push (tObj its.toArray)).push (tObj (its.map fun _ => Value.none).toArray)).objs.size = h1'.objs.size + 2 := by rw [Heap.size_push, z1]
  have fin : Q (.ref ((h1'.push (tObj its.toArray)).push (tObj (its.map fun _ => Value.none).toArray)).objs.size)
      { _s with heap := ((h1'.push (tObj its.toArray)).push (tObj (its.map fun _ => Value.none).toArray)).push (zObj .none (.bool false) h1'.objs.size (h1'.push (tObj its.toArray)).objs.size) } := by
    rw [z2, z1, hsz]
    refine hQ _ _ rfl ⟨⟨.none, .bool false, ?_, .inl rfl⟩, ?_, ⟨(its.map fun _ => Value.none).toArray, ?_, ?_⟩, fun p hp => ?_⟩ ?_ fun c o e => Heap.get?_push_of_some _ (Heap.get?_push_of_some _ (Heap.get?_push_of_some _ (hk c o e)))
    · rw [← hsz, ← z2]
      exact Heap.get?_push_size _ rfl
    · have e : its = (ls.zipIdx.map fun x => (_s.heap.objs.size + x.2, x.1)).map fun p => Value.ref p.1 := by
        refine List.ext_getElem? fun i => ?_
        rw [List.map_map, List.getElem?_map, List.getElem?_zipIdx]
        by_cases hlt : i < ls.length
        · rw [hi i hlt, List.getElem?_eq_getElem hlt]
          simp
        · rw [List.getElem?_eq_none (by omega), List.getElem?_eq_none (by omega)]
          rfl
      rw [← e, ← hsz]
      exact Heap.get?_push_of_some _ (Heap.get?_push_of_some _ (Heap.get?_push_size _ rfl))
    · simp [hil]
    · rw [← hsz, ← z1]
      exact Heap.get?_push_of_some _ (Heap.get?_push_size _ rfl)
    · obtain ⟨x, hx, rfl⟩ := List.mem_map.mp hp
      obtain ⟨i, hxi⟩ := List.mem_iff_getElem?.mp hx
      rw [List.getElem?_zipIdx] at hxi
      cases hl' : ls[i]? with
      | none =>
        rw [hl'] at hxi
        cases hxi
      | some l =>
        rw [hl'] at hxi
        obtain rfl : (l, 0 + i) = x := Option.some.inj hxi
        obtain ⟨o, e, c⟩ := hit i l hl'
        refine ⟨o, ?_, c⟩
        show Heap.get? _ (_s.heap.objs.size + (0 + i)) = some o
        rw [Nat.zero_add]
        exact Heap.get?_push_of_some _ (Heap.get?_push_of_some _ (Heap.get?_push_of_some _ e))
    · rw [Heap.size_push, z2, hsz]
  exact fin
end
section
variable {prog : Program} {w : World} {A : Around} {E : Value → Shared → Prop} {s : Shared}
theorem call_zipM {ls : List Addr} {Q : Value → Shared → Prop} (h2 : ls.length ≤ 4) (hl : ∀ l ∈ ls, ∃ xs, s.heap.IsTuple l xs)
    (hQ : ∀ h' n, n = s.heap.objs.size → ZSt h' (n + ls.length + 2) (n + ls.length) (n + ls.length + 1) (zps n ls) 0 → h'.objs.size = n + ls.length + 3 →
      (∀ c o, s.heap.get? c = some o → h'.get? c = some o) → Q (.ref (n + ls.length + 2)) { s with heap := h' }) :
    wpAny (model prog w) A (call (.type "zip") (ls.map Value.ref)) Q E s := by
  have m : Meets (Builtin.«zip.__new__» ⟨.type "zip" :: ls.map Value.ref, []⟩) (fun _ R s => (∀ l ∈ ls, ∃ xs, s.heap.IsTuple l xs) ∧
      ∀ h' n, n = s.heap.objs.size → ZSt h' (n + ls.length + 2) (n + ls.length) (n + ls.length + 1) (zps n ls) 0 → h'.objs.size = n + ls.length + 3 →
        (∀ c o, s.heap.get? c = some o → h'.get? c = some o) → R (.ok (.ret (.ref (n + ls.length + 2)))) { s with heap := h' }) :=
    .of_wp fun prog w A R s h => zip_newM h2 h.1 h.2
  refine callType_new F.called_zip (by decide) (typeCall_zipM _ (by simpa using h2)) (newCall_zipM _ (by simpa using h2))
    (fun obj => args_object_initM obj _ (by simpa using h2)) F.entry_zip_new m ⟨hl, fun h' n e1 e2 e3 e4 => ?_⟩
  obtain ⟨f0, f1, hz, _⟩ := e2.zz
  exact ⟨⟨_, hz, rfl⟩, hQ h' n e1 e2 e3 e4⟩

theorem zn_end0 {z TI TO : Addr} {k : Nat} {Q : Fin → Shared → Prop} (hh : A.handled = none) (S : ZSt s.heap z TI TO [] k)
    (hE : ∀ h' e, (∀ c o, s.heap.get? c = some o → h'.get? c = some o) → (∃ o, h'.get? e = some o ∧ o.cls = .type "StopIteration") → E (.ref e) { s with heap := h' }) :
    wpAny (model prog w) A (Builtin.«zip.__next__» ⟨[.ref z], []⟩) Q E s := by
  obtain ⟨⟨f0, f1, hz, hf0⟩, hTI, ⟨arr, ha, hTO⟩, hits⟩ := S
  show wpAny _ _ (field (.ref z) 2 >>= _) _ _ _
  refine wpAny_bind (wpAny_field hz rfl (x := .bool false) rfl ?_)
  show wpAny _ _ (field (.ref z) 3 >>= _) _ _ _
  refine wpAny_bind (wpAny_field hz rfl (x := .ref TI) rfl ?_)
  refine wpAny_bind (wpAny_seqItems hTI rfl ?_)
  have hne : (([] : List (Addr × Addr)).map fun p => Value.ref p.1).toArray.isEmpty = true := rfl
  simp only [hne, if_true]
  refine wpAny_bind (wpAny_rule ?_)
  refine wpAny_bind ?_
  unfold Builtin.SmallTypes.stopIteration
  show wpAny _ _ (newExc (.type "StopIteration") [] >>= _) _ _ _
  refine wpAny_bind ?_
  simp only [newExc, newTuple]
  refine wpAny_bind (wpAny_newObj_type ?_ (by size_fits))
  refine wpAny_bind (m := firstArgMember _ _) (wpAny_of_eq (a := Value.none) (by first | rfl | (simp only [firstArgMember]; rfl)) ?_)
  refine wpAny_newObj_type ?_ (by size_fits)
  simp only [raiseNew]
  refine wpAny_bind (wpAny_handled ?_)
  first | rw [show A.in1.handled = none from hh] | rw [hh]
  refine wpAny_bind (wpAny_pure (wpAny_throw ?_))
  exact hE _ _ (fun c o e => Heap.get?_push_of_some _ (Heap.get?_push_of_some _ e)) ⟨_, Heap.get?_push_size _ rfl, rfl⟩
theorem pyNext_zn_end0 {z TI TO : Addr} {k : Nat} {Q : Option Value → Shared → Prop} (hh : A.handled = none) (S : ZSt s.heap z TI TO [] k)
    (hQ : ∀ h', (∀ c o, s.heap.get? c = some o → h'.get? c = some o) → Q none { s with heap := h' }) :
    wpAny (model prog w) A (pyNext (.ref z)) Q E s := by
  obtain ⟨f0, f1, hz, hf0⟩ := S.zz
  have hT : s.TypeIs (.ref z) "zip" := ⟨_, hz, rfl⟩
  unfold pyNext
  refine wpAny_bind (wpAny_attempt (wpAny_callSpecial?_slot (name := Str.ofString "__next__") hT F.slot_zip_next
    (wpAny_call_entry F.slot_zip_next hT F.entry_zip_next (zn_end0 hh S fun h' e hk he => ?_) (F.args_zip_next_1 _))))
  obtain ⟨o, ho, hc⟩ := he
  exact wpAny_bind (wpAny_isInstance (T := "StopIteration") (b := true) ⟨o, ho, hc⟩ isSubtype_stop (wpAny_pure (hQ _ hk)))
end
theorem turn_z0 {P : Program} {w : World} {K : PySem.W.Frag} {x : Str} {xp : Pos} {n : Nat} :
    Turn P w K (.Name x xp) (ItzN K [] [] 0) [n + 2, n, n + 1] (n + 2) (fun i h => ZSt h (n + 2) n (n + 1) [] i) where
  mem := List.mem_cons_self
  obj := fun i h S b hb => by
    obtain ⟨⟨f0, f1, hz, _⟩, hTI, ⟨arr, _, hTO⟩, hits⟩ := S
    rcases List.mem_cons.mp hb with rfl | hb
    · exact ⟨_, hz, fun v q => nomatch q⟩
    rcases List.mem_cons.mp hb with rfl | hb
    · exact ⟨_, hTI, fun v q => nomatch q⟩
    rcases List.mem_cons.mp hb with rfl | hb
    · exact ⟨_, hTO, fun v q => nomatch q⟩
    · cases hb
  keep := fun i h h' S k => S.keeps fun b hb o y => k b (by simpa [zfp] using hb) o y
  item := by
    intro X hP hw hK hc i pins s σ H E I hf S hg
    exact absurd hg.1 (Nat.not_lt_zero _)
  done := by
    intro X hP hw hK hc i pins s σ H E I hf S hg
    subst hP hw hK
    exact pyNext_zn_end0 (I.ok.hd hc) S fun h' hk => ⟨rfl, I.kept (t' := s.toks) hk⟩
  self := fun A i s Q E S h => pyIter_zn S h
/-- for x in zip(*e), e a list or tuple of at most four tuples of one length -/
def iZipO (K : PySem.W.Frag) (te : TE) : TI := fun σ H R => te σ H fun y H1 => ∃ (a : Addr) (ls : List Addr) (rows : List (List V)) (m : Nat), y = .ref a ∧ (SqT K H1 a (ls.map V.ref) ∨ SqL K H1 a (ls.map V.ref)) ∧
  ls.length ≤ 4 ∧ (ls = [] → m = 0) ∧ Rws K H1 ls rows m ∧ R (ItzN K ls rows m) H1
theorem pi_zipO {X : Cx} {e : Expr} {te : TE} {p pos spos xp : Pos} {x : Str} (hg : Gl X "zip") (hm : X.mg "zip" = none) (he : PE X e te)
    (hst : starEach [.Starred e spos] X.env = [(true, eval e X.env)] := by rfl) :
    PI X (.Name x xp) (.Call (.Name "zip" p) [.Starred e spos] [] pos) (iZipO X.K te) := by
  refine ⟨fun pins s σ H R I h => ?_⟩
  refine wpAny_Call_Name_kw (ld_blt I hg hm PyProof.Rows.boot_zip ?_)
  rw [hst]
  refine PySem.W.ks_call (P := fun _ => True) rfl (fun h _ => ⟨.machine, .inr (.inl rfl), fun A Q E s _ q => wpAny_pure q⟩) (PySem.W.ks_lone ?_)
  refine thn (he.run pins s σ H _ I h) fun v s1 ⟨y, H1, I1, ry, a, ls, rows, m, ey, hx, h2, hm0, Rw, q⟩ => ?_
  subst ey
  obtain rfl : v = Value.ref a := ry
  refine StX.star_any I1 hx fun us s2 I2 rv => ⟨trivial, ?_⟩
  obtain rfl := vals_refs rv
  have tup : ∀ l ∈ ls, ∃ xs, s2.heap.IsTuple l xs := fun l hl => by
    obtain ⟨j, hj⟩ := List.mem_iff_getElem?.mp hl
    have hjl := (List.getElem?_eq_some_iff.mp hj).1
    have hjr : rows[j]? = some (rows[j]'(by have := Rw.len; omega)) := List.getElem?_eq_getElem (by have := Rw.len; omega)
    obtain ⟨its, _, ⟨o, ho, hc, n, hd⟩, _⟩ := I2.tuple (Rw.at_ j l _ hj hjr).1
    exact ⟨its.toArray, o, ho, hc, n, hd⟩
  refine call_zipM h2 tup fun h' n en S hsz hk => ?_
  have I3 : Inv X pins σ H1 { s2 with heap := h' } := I2.kept (t' := s2.toks) hk
  have hlt : ∀ l ∈ ls, l < n := fun l hl => by
    obtain ⟨xs, o, ho, _⟩ := tup l hl
    rw [en]
    exact Heap.lt_size ho
  cases ls with
  | nil =>
    obtain rfl := hm0 rfl
    obtain rfl : rows = [] := List.eq_nil_of_length_eq_zero Rw.len.symm
    refine pyIter_zn (s := { s2 with heap := h' }) S ⟨n + 2, _, _, _, H1, rfl, I3, turn_z0, S, fun b hb => ?_, q⟩
    have hle : s2.heap.objs.size ≤ b := by
      rw [← en]
      rcases List.mem_cons.mp hb with rfl | hb
      · omega
      rcases List.mem_cons.mp hb with rfl | hb
      · omega
      rcases List.mem_cons.mp hb with rfl | hb
      · omega
      · cases hb
    exact I2.fpOk hle (I2.hok.fresh hle)
  | cons l0 ls =>
    refine pyIter_zn (s := { s2 with heap := h' }) S ⟨n + (l0 :: ls).length + 2, _, _, _, H1, rfl, I3, turn_zn (Nat.succ_pos _) h2 hlt, S, fun b hb => ?_, q⟩
    have hle : s2.heap.objs.size ≤ b := by
      rw [← en]
      rcases List.mem_cons.mp hb with rfl | hb
      · omega
      rcases List.mem_cons.mp hb with rfl | hb
      · omega
      rcases List.mem_cons.mp hb with rfl | hb
      · omega
      obtain ⟨p, hp, rfl⟩ := List.mem_map.mp hb
      obtain ⟨j, _, _, e⟩ := zps_mem hp
      exact Nat.le_trans (Nat.le_add_right n j) (Nat.le_of_eq e.symm)
    exact I2.fpOk hle (I2.hok.fresh hle)
theorem walk_zn {K : PySem.W.Frag} {ls : List Addr} {rows : List (List V)} {m : Nat} : Walk (ItzN K ls rows m) m (fun H => Rws K H ls rows m) (fun i H v H' => ∃ T, v = .ref T ∧ H T = none ∧ H' = upd H T (.tup (colV rows i))) :=
  ⟨fun _ _ hi q => ⟨hi, q⟩, fun _ q => ⟨rfl, q⟩, fun _ _ _ _ _ _ y => y⟩
/-- zip of two tuples, the first no longer than the second -/
theorem walk_zipT {K : PySem.W.Frag} {a b : Addr} {xs ys : List V} (hl : xs.length ≤ ys.length) : Walk (ItzT K a b) xs.length (fun H => SqT K H a xs ∧ SqT K H b ys) (YPair (fun i => xs[i]?) (fun i => ys[i]?)) := by
  refine ⟨fun i H hi q => ⟨xs, ys, xs[i], ys[i]'(by omega), q.1, q.2, by simp [hi], List.getElem?_eq_getElem (by omega)⟩, fun H q => ⟨xs, ys, q.1, q.2, .inl (Nat.le_refl _)⟩, fun i H v H' _ q y => ?_⟩
  obtain ⟨T, x', y', rfl, hT, rfl, f1, f2⟩ := y
  exact ⟨T, x', y', rfl, hT, rfl, f1 xs q.1, f2 ys q.2⟩
end DD
/-! zip of up to four tuples and lists -/
namespace DM
open PySem PySem.Spec PyProof.Rows L2 DD
/-- an iterator of a tuple (b) or of a list -/
def IsIt (b : Bool) (h : Heap) (i l : Addr) (k : Nat) : Prop := ∃ o, h.get? i = some o ∧ o.cls = .type (if b then "tuple_iterator" else "list_iterator") ∧ o.data = .fields #[.ref l, .int k 0]
def IsSq (b : Bool) (h : Heap) (l : Addr) (xs : Array Value) : Prop := ∃ o, h.get? l = some o ∧ o.cls = .type (if b then "tuple" else "list") ∧ ∃ n, o.data = .seq xs n
section
variable {prog : Program} {w : World} {A : Around} {E : Value → Shared → Prop} {s : Shared}
theorem nextOf_cur {b : Bool} {it l : Addr} {i : Nat} {items} {x : Value} {Q : Value → Shared → Prop} (hit : IsIt b s.heap it l i)
    (hl : IsSq b s.heap l items) (hx : items[i]? = some x)
    (hQ : ∀ h', IsIt b h' it l (i + 1) → Heap.SameBut it s.heap h' → Q x { s with heap := h' }) :
    wpAny (model prog w) A (Builtin.SmallTypes.nextOf (.ref it)) Q E s := by
  cases b with
  | true => exact RZ.nextOf_tuple_item hit hl hx hQ
  | false => exact wpAny_nextOf_list_item hit hl hx hQ
theorem nextOf_curE {b : Bool} {it l : Addr} {i : Nat} {items} {Q : Value → Shared → Prop} (hh : A.handled = none)
    (hit : IsIt b s.heap it l i) (hl : IsSq b s.heap l items) (hx : items[i]? = none)
    (hE : ∀ h' e, Heap.ExtBut it s.heap h' → (∃ o, h'.get? e = some o ∧ o.cls = .type "StopIteration") → E (.ref e) { s with heap := h' }) :
    wpAny (model prog w) A (Builtin.SmallTypes.nextOf (.ref it)) Q E s := by
  cases b with
  | true => exact RZ.nextOf_tuple_end hh hit hl hx hE
  | false => exact wpAny_nextOf_list_end hh hit hl hx hE
theorem pyIter_cur {b : Bool} {l : Addr} {items} {Q : Value → Shared → Prop} (hl : IsSq b s.heap l items)
    (hQ : Q (.ref s.heap.objs.size) { s with heap := s.heap.push { cls := .type (if b then "tuple_iterator" else "list_iterator"), data := .fields #[.ref l, .int 0 0] } }) :
    wpAny (model prog w) A (pyIter (.ref l)) Q E s := by
  cases b with
  | true => exact wpAny_pyIter_tuple hl hQ
  | false => exact wpAny_pyIter_list hl hQ
theorem letGo_any {elts : List Expr} {x1} {pos : Pos} {z TI TO T : Addr} {f0 f1 : Value} {Q : Unit → Shared → Prop} (hz : s.heap.get? z = some (zObj f0 f1 TI TO)) (hf : f0 = .none ∨ ∃ a t, f0 = .int a t)
    (hQ : ∀ h' g0, (g0 = .none ∨ ∃ a t, g0 = .int a t) → h'.get? z = some (zObj g0 f1 TI TO) → Heap.SameBut z s.heap h' → Q () { s with heap := h' }) :
    wpAny (model prog w) A (letOwnedTupleGo (.Tuple elts x1 pos) (.ref z) (.ref T)) Q E s := by
  unfold letOwnedTupleGo
  refine wpAny_bind (wpAny_load hz ?_)
  show wpAny _ _ (if (["enumerate", "zip", "dict_itemiterator", "dict_reverseitemiterator", "odict_iterator", "itertools.zip_longest", "itertools.pairwise"].contains "zip" &&
      (#[f0, f1, .bool false, .ref TI, .ref TO] : Array Value)[0]? == some (rawInt T)) = true then _ else _) Q E s
  split
  · refine wpAny_bind (wpAny_rule ?_)
    show wpAny _ _ (setField (.ref z) 0 .none) Q E s
    exact wpAny_setField_rec hz (by simp) fun h' hz' hs' => hQ h' .none (.inl rfl) hz' hs'
  · exact wpAny_pure (hQ s.heap f0 hf hz (Heap.SameBut.refl _ _))
end
structure ZSt (kd : Addr → Bool) (h : Heap) (z TI TO : Addr) (ps : List (Addr × Addr)) (k : Nat) : Prop where
  zz : ∃ f0 f1, h.get? z = some (zObj f0 f1 TI TO) ∧ (f0 = .none ∨ ∃ a t, f0 = .int a t)
  ti : h.get? TI = some (tObj (ps.map fun p => Value.ref p.1).toArray)
  to : ∃ arr : Array Value, arr.size = ps.length ∧ h.get? TO = some (tObj arr)
  its : ∀ p ∈ ps, IsIt (kd p.2) h p.1 p.2 k


/-- the objects but z, TO and the iterators stand; the first j iterators have turned -/
structure ZMid (kd : Addr → Bool) (g h : Heap) (z TO : Addr) (ps : List (Addr × Addr)) (k j : Nat) : Prop where
  size : h.objs.size = g.objs.size
  keep : ∀ c o, c ≠ z → c ≠ TO → (∀ p ∈ ps, c ≠ p.1) → g.get? c = some o → h.get? c = some o
  its : ∀ (i : Nat) (p : Addr × Addr), ps[i]? = some p → IsIt (kd p.2) h p.1 p.2 (if i < j then k + 1 else k)

section
variable {prog : Program} {w : World} {A : Around} {E : Value → Shared → Prop} {s : Shared} {z TI TO : Addr} {ps : List (Addr × Addr)} {k : Nat} {kd : Addr → Bool}
/-- one iterator's turn -/
theorem draw_one {g h : Heap} {j : Nat} {p : Addr × Addr} {xs : Array Value} {v : Value} {Q : Value → Shared → Prop} (D : ZApart z TI TO ps) (m : ZMid kd g h z TO ps k j)
    (hp : ps[j]? = some p) (hl : IsSq (kd p.2) g p.2 xs) (hx : xs[k]? = some v)
    (hQ : ∀ h', ZMid kd g h' z TO ps k (j + 1) → Heap.SameBut p.1 h h' → Q v { s with heap := h' }) :
    wpAny (model prog w) A (Builtin.SmallTypes.nextOf (.ref p.1)) Q E { s with heap := h } := by
  have hm : p ∈ ps := List.mem_of_getElem? hp
  have h1 : IsIt (kd p.2) h p.1 p.2 k := by
    have := m.its j p hp
    rwa [if_neg (Nat.lt_irrefl j)] at this
  have h2 : IsSq (kd p.2) h p.2 xs := by
    obtain ⟨o, e, c⟩ := hl
    exact ⟨o, m.keep _ _ (D.pz p hm).2.2.2.1 (D.pz p hm).2.2.2.2 (fun q hq => D.px p hm q hq) e, c⟩
  refine nextOf_cur (s := { s with heap := h }) h1 h2 hx fun h' hi hs => hQ h' ⟨hs.1.trans m.size, fun c o c1 c2 c3 e => ?_, fun i q hq => ?_⟩ hs
  · rw [hs.2 c (c3 p hm)]
    exact m.keep c o c1 c2 c3 e
  · by_cases hij : i = j
    · subst hij
      rw [hp] at hq
      cases hq
      rw [if_pos (Nat.lt_succ_self _)]
      exact hi
    · have hqi := m.its i q hq
      have hne := ptr_ne D.nd hq hp hij
      rw [show (if i < j + 1 then k + 1 else k) = (if i < j then k + 1 else k) by
        by_cases hlt : i < j
        · rw [if_pos hlt, if_pos (by omega)]
        · rw [if_neg hlt, if_neg (by omega)]]
      obtain ⟨o, e, c⟩ := hqi
      exact ⟨o, (hs.2 _ hne).trans e, c⟩
theorem ZMid.full {g h : Heap} (m : ZMid kd g h z TO ps k ps.length) : ∀ p ∈ ps, IsIt (kd p.2) h p.1 p.2 (k + 1) := fun p hp => by
  obtain ⟨i, hi⟩ := List.mem_iff_getElem?.mp hp
  obtain ⟨hl, _⟩ := List.getElem?_eq_some_iff.mp hi
  have := m.its i p hi
  rwa [if_pos hl] at this

theorem zn_item {vs : List Value} {Q : Value → Shared → Prop} (D : ZApart z TI TO ps) (hn : 1 ≤ ps.length) (hn2 : ps.length ≤ 1000) (S : ZSt kd s.heap z TI TO ps k)
    (hv : vs.length = ps.length) (hi : ∀ (j : Nat) (p : Addr × Addr), ps[j]? = some p → ∃ xs, IsSq (kd p.2) s.heap p.2 xs ∧ xs[k]? = vs[j]?)
    (hQ : ∀ h', ZSt kd h' z TI TO ps (k + 1) → h'.get? s.heap.objs.size = some (tObj vs.toArray) → h'.objs.size = s.heap.objs.size + 1 →
      (∀ c o, c ≠ z → c ≠ TO → (∀ p ∈ ps, c ≠ p.1) → s.heap.get? c = some o → h'.get? c = some o) → Q (.ref s.heap.objs.size) { s with heap := h' }) :
    wpAny (model prog w) A (Builtin.«zip.__next__» ⟨[.ref z], []⟩) (fun fin s' => ∃ v, fin = .done (.ret v) ∧ Q v s') E s := by
  obtain ⟨⟨f0, f1, hz, hf0⟩, hTI, ⟨arr, ha, hTO⟩, hits⟩ := S
  show wpAny _ _ (field (.ref z) 2 >>= _) _ _ _
  refine wpAny_bind (wpAny_field hz rfl (x := .bool false) rfl ?_)
  show wpAny _ _ (field (.ref z) 3 >>= _) _ _ _
  refine wpAny_bind (wpAny_field hz rfl (x := .ref TI) rfl ?_)
  refine wpAny_bind (wpAny_seqItems hTI rfl ?_)
  have hne : (ps.map fun p => Value.ref p.1).toArray.isEmpty = false := by
    cases ps with
    | nil => simp at hn
    | cons p r => rfl
  simp only [hne, Bool.false_eq_true, if_false]
  have m0 : ∀ h, Heap.SameBut z s.heap h → ZMid kd s.heap h z TO ps k 0 := fun h hs =>
    ⟨hs.1, fun c o c1 _ _ e => (hs.2 c c1).trans e, fun i p hp => by
      rw [if_neg (Nat.not_lt_zero _)]
      have hm := List.mem_of_getElem? hp
      obtain ⟨o, e, c⟩ := hits p hm
      exact ⟨o, (hs.2 _ (D.pz p hm).1).trans e, c⟩⟩
  refine wpAny_bind (wpAny_mono (free_or hz hf0) (fun b s' hb => ?_) fun _ _ e => e)
  rcases hb with ⟨rfl, rfl⟩ | ⟨rfl, h1, f2, rfl, hz1, hs1⟩
  · simp only [if_true]
    refine wpAny_bind (wpAny_rule ?_)
    refine wpAny_bind (wpAny_field hz rfl (x := .ref TO) rfl ?_)
    refine wpAny_bind (wpAny_setField_rec hz (by simp) fun h1 hz1 hs1 => ?_)
    replace hz1 : h1.get? z = some (zObj .ellipsis f1 TI TO) := hz1
    have nTI : ∀ p ∈ ps, TI ≠ p.1 := fun p hp q => (D.pz p hp).2.1 q.symm
    refine wpAny_bind (thn (wp_forIn _ _ (fun j b s2 => b = (none, ()) ∧ ∃ (h : Heap) (a2 : Array Value), s2 = { s' with heap := h } ∧ ZMid kd s'.heap h z TO ps k j ∧
      h.get? z = some (zObj .ellipsis f1 TI TO) ∧ a2.size = ps.length ∧ (∀ i, i < j → a2[i]? = vs[i]?) ∧ h.get? TO = some (tObj a2)) ?step _ _ ?init) fun b s2 hb => ?last)
    case init => exact ⟨rfl, h1, arr, rfl, m0 h1 hs1, hz1, ha, fun i hi => absurd hi (Nat.not_lt_zero _), (hs1.2 _ D.oz).trans hTO⟩
    case step =>
      rintro j x b s2 hx ⟨rfl, h, a2, rfl, m, hz2, hs2, pre, hTO2⟩
      rw [List.getElem?_zipIdx, List.getElem?_map] at hx
      cases hp : ps[j]? with
      | none =>
        rw [hp] at hx
        cases hx
      | some p =>
        rw [hp] at hx
        obtain rfl : (Value.ref p.1, 0 + j) = x := Option.some.inj hx
        obtain ⟨xs, hl, hxk⟩ := hi j p hp
        have hm : p ∈ ps := List.mem_of_getElem? hp
        have hj : j < ps.length := (List.getElem?_eq_some_iff.mp hp).1
        have hjv : vs[j]? = some (vs[j]'(by omega)) := List.getElem?_eq_getElem (by omega)
        refine wpAny_bind (wpAny_onRaise ?_)
        show wpAny _ _ (Builtin.SmallTypes.nextOf (.ref p.1) >>= _) _ _ _
        refine wpAny_bind (draw_one D m hp hl (hxk.trans hjv) fun h' m' hs' => wpAny_pure ?_)
        have hTO' : h'.get? TO = some (tObj a2) := (hs'.2 _ (D.pz p hm).2.2.1.symm).trans hTO2
        refine wpAny_bind (wpAny_seqItems hTO' rfl ?_)
        have hb1 : a2.size ≤ sizeLine := by rw [hs2, sizeLine_eq]; omega
        refine wpAny_bind (wpAny_updateSeq hTO' rfl ?_ hb1 (by rw [Array.size_setIfInBounds, hs2, sizeLine_eq]; omega))
        have sb := Heap.SameBut.update h' TO (Obj.mapSeq fun x => x.setIfInBounds (0 + j) (vs[j]'(by omega)))
        refine wpAny_bind (wpAny_letGo (wpAny_pure ⟨_, rfl, rfl, _, a2.setIfInBounds j (vs[j]'(by omega)), rfl, ⟨sb.1.trans m'.size, fun c o c1 c2 c3 e => (sb.2 c c2).trans (m'.keep c o c1 c2 c3 e), fun i q hq => ?_⟩, ?_, ?_, fun i hij => ?_, ?_⟩))
        · obtain ⟨o, e, c⟩ := m'.its i q hq
          exact ⟨o, (sb.2 _ (D.pz q (List.mem_of_getElem? hq)).2.2.1).trans e, c⟩
        · rw [sb.2 z D.oz.symm, hs'.2 z (D.pz p hm).1.symm]
          exact hz2
        · rw [Array.size_setIfInBounds]
          exact hs2
        · rw [Array.getElem?_setIfInBounds]
          by_cases e : j = i
          · subst e
            rw [if_pos rfl, if_pos (by omega)]
            exact hjv.symm
          · rw [if_neg e]
            exact pre i (by omega)
        · rw [Heap.get?_update_self _ hTO' rfl, Nat.zero_add]
          simp [Obj.mapSeq]
    case last =>
      obtain ⟨rfl, h, a2, rfl, m, hz2, hs2, pre, hTO2⟩ := hb
      rw [List.length_zipIdx, List.length_map] at m pre
      have ea : a2 = vs.toArray := by
        refine Array.ext_getElem? fun i => ?_
        by_cases hlt : i < ps.length
        · rw [pre i hlt, List.getElem?_toArray]
        · rw [Array.getElem?_eq_none (by omega), List.getElem?_toArray, List.getElem?_eq_none (by omega)]
      subst ea
      show wpAny _ _ (seqItems? (.ref TO) >>= _) _ _ _
      refine wpAny_bind (wpAny_seqItems hTO2 rfl ?_)
      refine wpAny_bind (wpAny_newTuple ?_ (by show vs.length ≤ _; rw [sizeLine_eq]; omega))
      show wpAny _ _ (Builtin.SmallTypes.ownedTupleHandOut (.ref z) (.ref h.objs.size) >>= _) _ _ _
      refine wpAny_bind ?_
      unfold Builtin.SmallTypes.ownedTupleHandOut
      have hzp : (h.push (tObj vs.toArray)).get? z = some (zObj .ellipsis f1 TI TO) := Heap.get?_push_of_some _ hz2
      refine wpAny_bind (wpAny_setField_rec hzp (by simp) fun h3 hz3 hs3 => ?_)
      replace hz3 : h3.get? z = some (zObj (rawInt h.objs.size) f1 TI TO) := hz3
      refine wpAny_setField_rec hz3 (by simp) fun h4 hz4 hs4 => ?_
      replace hz4 : h4.get? z = some (zObj (rawInt h.objs.size) (.bool false) TI TO) := hz4
      have hzlt : z < h.objs.size := Heap.lt_size hz2
      have up : ∀ c o, c ≠ z → h.get? c = some o → h4.get? c = some o := fun c o c1 e =>
        (hs4.2 c c1).trans ((hs3.2 c c1).trans (Heap.get?_push_of_some _ e))
      refine wpAny_pure ⟨_, rfl, ?_⟩
      show Q (.ref h.objs.size) _
      have key := hQ h4 ⟨⟨_, _, hz4, .inr ⟨_, _, rfl⟩⟩, up _ _ D.tz (m.keep TI _ D.tz D.it nTI hTI), ⟨_, hs2, up _ _ D.oz hTO2⟩, fun p hp => ?_⟩ ?_ ?_ fun c o c1 c2 c3 e => up c o c1 (m.keep c o c1 c2 c3 e)
      · rw [m.size]
        exact key
      · obtain ⟨o, e, c⟩ := m.full p hp
        exact ⟨o, up _ _ (D.pz p hp).1 e, c⟩
      · rw [← m.size, hs4.2 _ (Nat.ne_of_gt hzlt), hs3.2 _ (Nat.ne_of_gt hzlt)]
        exact Heap.get?_push_size _ rfl
      · rw [hs4.1, hs3.1, Heap.size_push, m.size]
  · simp only [Bool.false_eq_true, if_false, List.forIn_toArray]
    have nTI : ∀ p ∈ ps, TI ≠ p.1 := fun p hp q => (D.pz p hp).2.1 q.symm
    refine wpAny_bind (thn (wp_forIn _ _ (fun j b s2 => b = (none, (vs.take j).toArray) ∧ ∃ (h : Heap), s2 = { s with heap := h } ∧ ZMid kd s.heap h z TO ps k j ∧
      h.get? z = some (zObj f0 f2 TI TO) ∧ h.get? TO = some (tObj arr)) ?step _ _ ?init) fun b s2 hb => ?last)
    case init => exact ⟨rfl, h1, rfl, m0 h1 hs1, hz1, (hs1.2 _ D.oz).trans hTO⟩
    case step =>
      rintro j x b s2 hx ⟨rfl, h, rfl, m, hz2, hTO2⟩
      rw [List.getElem?_map] at hx
      cases hp : ps[j]? with
      | none =>
        rw [hp] at hx
        cases hx
      | some p =>
        rw [hp] at hx
        obtain rfl : Value.ref p.1 = x := Option.some.inj hx
        obtain ⟨xs, hl, hxk⟩ := hi j p hp
        have hm : p ∈ ps := List.mem_of_getElem? hp
        have hj : j < ps.length := (List.getElem?_eq_some_iff.mp hp).1
        have hjv : vs[j]? = some (vs[j]'(by omega)) := List.getElem?_eq_getElem (by omega)
        refine wpAny_bind (wpAny_holding ?_)
        show wpAny _ _ (Builtin.SmallTypes.nextOf (.ref p.1) >>= _) _ _ _
        refine wpAny_bind (draw_one D m hp hl (hxk.trans hjv) fun h' m' hs' => wpAny_pure (wpAny_pure ⟨_, rfl, ?_, h', rfl, m', ?_, ?_⟩))
        · rw [List.take_add_one, hjv]
          simp
        · exact (hs'.2 z (D.pz p hm).1.symm).trans hz2
        · exact (hs'.2 _ (D.pz p hm).2.2.1.symm).trans hTO2
    case last =>
      obtain ⟨rfl, h, rfl, m, hz2, hTO2⟩ := hb
      rw [List.length_map] at m
      rw [List.length_map, List.take_of_length_le (by omega)]
      have hsz : vs.length ≤ sizeLine := by rw [sizeLine_eq]; omega
      show wpAny _ _ (newTuple vs.toArray.toList >>= _) _ _ _
      refine wpAny_bind (wpAny_newTuple ?_ (by simpa using hsz))
      refine wpAny_pure ⟨_, rfl, ?_⟩
      have up : ∀ c o, h.get? c = some o → (h.push (tObj vs.toArray)).get? c = some o := fun c o e => Heap.get?_push_of_some _ e
      have key := hQ (h.push (tObj vs.toArray)) ⟨⟨_, _, up _ _ hz2, hf0⟩, up _ _ (m.keep TI _ D.tz D.it nTI hTI), ⟨_, ha, up _ _ hTO2⟩, fun p hp => ?_⟩ ?_ ?_ fun c o c1 c2 c3 e => up c o (m.keep c o c1 c2 c3 e)
      · show Q (.ref h.objs.size) _
        rw [m.size]
        exact key
      · obtain ⟨o, e, c⟩ := m.full p hp
        exact ⟨o, up _ _ e, c⟩
      · rw [← m.size]
        exact Heap.get?_push_size _ rfl
      · rw [Heap.size_push, m.size]
theorem zn_end {Q : Fin → Shared → Prop} (hh : A.handled = none) (D : ZApart z TI TO ps) (S : ZSt kd s.heap z TI TO ps k) {p : Addr × Addr} {r : List (Addr × Addr)} {xs : Array Value}
    (hps : ps = p :: r) (hl : IsSq (kd p.2) s.heap p.2 xs) (hx : xs[k]? = none)
    (hE : ∀ h' e, (∀ c o, c ≠ z → c ≠ TO → (∀ p ∈ ps, c ≠ p.1) → s.heap.get? c = some o → h'.get? c = some o) →
      (∃ o, h'.get? e = some o ∧ o.cls = .type "StopIteration") → E (.ref e) { s with heap := h' }) :
    wpAny (model prog w) A (Builtin.«zip.__next__» ⟨[.ref z], []⟩) Q E s := by
  obtain ⟨⟨f0, f1, hz, hf0⟩, hTI, ⟨arr, ha, hTO⟩, hits⟩ := S
  have hm : p ∈ ps := by rw [hps]; exact List.mem_cons_self
  show wpAny _ _ (field (.ref z) 2 >>= _) _ _ _
  refine wpAny_bind (wpAny_field hz rfl (x := .bool false) rfl ?_)
  show wpAny _ _ (field (.ref z) 3 >>= _) _ _ _
  refine wpAny_bind (wpAny_field hz rfl (x := .ref TI) rfl ?_)
  refine wpAny_bind (wpAny_seqItems hTI rfl ?_)
  have hne : (ps.map fun p => Value.ref p.1).toArray.isEmpty = false := by
    rw [hps]
    rfl
  simp only [hne, Bool.false_eq_true, if_false]
  have it1 := hits p hm
  have kz : ∀ h1, Heap.SameBut z s.heap h1 → IsIt (kd p.2) h1 p.1 p.2 k ∧ IsSq (kd p.2) h1 p.2 xs := fun h1 hs1 =>
    ⟨by obtain ⟨o, e, c⟩ := it1; exact ⟨o, (hs1.2 _ (D.pz p hm).1).trans e, c⟩, by obtain ⟨o, e, c⟩ := hl; exact ⟨o, (hs1.2 _ (D.pz p hm).2.2.2.1).trans e, c⟩⟩
  refine wpAny_bind (wpAny_mono (free_or hz hf0) (fun b s' hb => ?_) fun _ _ e => e)
  rcases hb with ⟨rfl, rfl⟩ | ⟨rfl, h1, f2, rfl, hz1, hs1⟩
  · simp only [if_true]
    refine wpAny_bind (wpAny_rule ?_)
    refine wpAny_bind (wpAny_field hz rfl (x := .ref TO) rfl ?_)
    refine wpAny_bind (wpAny_setField_rec hz (by simp) fun h1 hz1 hs1 => ?_)
    replace hz1 : h1.get? z = some (zObj .ellipsis f1 TI TO) := hz1
    obtain ⟨q1, q2⟩ := kz h1 hs1
    refine wpAny_bind ?_
    simp only [hps, List.map_cons, List.zipIdx_cons, List.forIn_cons]
    refine wpAny_bind (wpAny_bind (wpAny_onRaise ?_))
    show wpAny _ _ (Builtin.SmallTypes.nextOf (.ref p.1) >>= _) _ _ _
    refine wpAny_bind (nextOf_curE (s := { s' with heap := h1 }) hh q1 q2 hx fun h2 e hs2 he => ?_)
    obtain ⟨oe, hoe, hce⟩ := he
    have hz2 : h2.get? z = some (zObj .ellipsis f1 TI TO) := hs2 _ _ (D.pz p hm).1.symm hz1
    have hez : e ≠ z := fun x => by
      subst x
      rw [hz2] at hoe
      cases hoe
      simp at hce
    refine wpAny_setField_rec hz2 (by simp) fun h3 _ hs3 => hE h3 e (fun c o c1 _ c3 x => (hs3.2 _ c1).trans (hs2 _ _ (c3 p hm) ((hs1.2 _ c1).trans x))) ⟨oe, (hs3.2 _ hez).trans hoe, hce⟩
  · simp only [Bool.false_eq_true, if_false, List.forIn_toArray]
    obtain ⟨q1, q2⟩ := kz h1 hs1
    refine wpAny_bind ?_
    simp only [hps, List.map_cons, List.forIn_cons]
    refine wpAny_bind (wpAny_bind (wpAny_holding ?_))
    show wpAny _ _ (Builtin.SmallTypes.nextOf (.ref p.1) >>= _) _ _ _
    refine wpAny_bind (nextOf_curE (s := { s with heap := h1 }) hh q1 q2 hx fun h2 e hs2 he => hE h2 e (fun c o c1 _ c3 x => hs2 _ _ (c3 p hm) ((hs1.2 _ c1).trans x)) he)

theorem pyNext_zn_item {vs : List Value} {Q : Option Value → Shared → Prop} (D : ZApart z TI TO ps) (hn : 1 ≤ ps.length) (hn2 : ps.length ≤ 1000) (S : ZSt kd s.heap z TI TO ps k)
    (hv : vs.length = ps.length) (hi : ∀ (j : Nat) (p : Addr × Addr), ps[j]? = some p → ∃ xs, IsSq (kd p.2) s.heap p.2 xs ∧ xs[k]? = vs[j]?)
    (hQ : ∀ h', ZSt kd h' z TI TO ps (k + 1) → h'.get? s.heap.objs.size = some (tObj vs.toArray) → h'.objs.size = s.heap.objs.size + 1 →
      (∀ c o, c ≠ z → c ≠ TO → (∀ p ∈ ps, c ≠ p.1) → s.heap.get? c = some o → h'.get? c = some o) → Q (some (.ref s.heap.objs.size)) { s with heap := h' }) :
    wpAny (model prog w) A (pyNext (.ref z)) Q E s := by
  obtain ⟨f0, f1, hz, hf0⟩ := S.zz
  have hT : s.TypeIs (.ref z) "zip" := ⟨_, hz, rfl⟩
  unfold pyNext
  exact wpAny_bind (wpAny_attempt (wpAny_callSpecial?_slot (name := Str.ofString "__next__") hT F.slot_zip_next
    (wpAny_call_entry F.slot_zip_next hT F.entry_zip_next (zn_item D hn hn2 S hv hi fun h' a1 a2 a3 a4 => wpAny_pure (hQ h' a1 a2 a3 a4)) (F.args_zip_next_1 _))))
theorem pyNext_zn_end {Q : Option Value → Shared → Prop} (hh : A.handled = none) (D : ZApart z TI TO ps) (S : ZSt kd s.heap z TI TO ps k) {p : Addr × Addr} {r : List (Addr × Addr)} {xs : Array Value}
    (hps : ps = p :: r) (hl : IsSq (kd p.2) s.heap p.2 xs) (hx : xs[k]? = none)
    (hQ : ∀ h', (∀ c o, c ≠ z → c ≠ TO → (∀ p ∈ ps, c ≠ p.1) → s.heap.get? c = some o → h'.get? c = some o) → Q none { s with heap := h' }) :
    wpAny (model prog w) A (pyNext (.ref z)) Q E s := by
  obtain ⟨f0, f1, hz, hf0⟩ := S.zz
  have hT : s.TypeIs (.ref z) "zip" := ⟨_, hz, rfl⟩
  unfold pyNext
  refine wpAny_bind (wpAny_attempt (wpAny_callSpecial?_slot (name := Str.ofString "__next__") hT F.slot_zip_next
    (wpAny_call_entry F.slot_zip_next hT F.entry_zip_next (zn_end hh D S hps hl hx fun h' e hk he => ?_) (F.args_zip_next_1 _))))
  obtain ⟨o, ho, hc⟩ := he
  exact wpAny_bind (wpAny_isInstance (T := "StopIteration") (b := true) ⟨o, ho, hc⟩ isSubtype_stop (wpAny_pure (hQ _ hk)))

theorem iterAll_tups {ls : List Addr} {Q : List Value → Shared → Prop} (hl : ∀ l ∈ ls, ∃ xs, IsSq (kd l) s.heap l xs)
    (hQ : ∀ h' its, its.length = ls.length → (∀ i, i < ls.length → its[i]? = some (.ref (s.heap.objs.size + i))) → h'.objs.size = s.heap.objs.size + ls.length →
      (∀ c o, s.heap.get? c = some o → h'.get? c = some o) → (∀ (i : Nat) (l : Addr), ls[i]? = some l → IsIt (kd l) h' (s.heap.objs.size + i) l 0) → Q its { s with heap := h' }) :
    wpAny (model prog w) A (Builtin.SmallTypes.iterAll (ls.map Value.ref)) Q E s := by
  unfold Builtin.SmallTypes.iterAll
  refine wpAny_bind (thn (wp_forIn _ _ (fun j (b : Array Value) s2 => b.size = j ∧ (∀ i, i < j → b[i]? = some (.ref (s.heap.objs.size + i))) ∧ ∃ h, s2 = { s with heap := h } ∧ h.objs.size = s.heap.objs.size + j ∧
    (∀ c o, s.heap.get? c = some o → h.get? c = some o) ∧ ∀ (i : Nat) (l : Addr), i < j → ls[i]? = some l → IsIt (kd l) h (s.heap.objs.size + i) l 0) ?step _ _ ?init) fun b s2 hb => ?last)
  case init => exact ⟨rfl, fun i hi => absurd hi (Nat.not_lt_zero _), s.heap, rfl, rfl, fun _ _ e => e, fun i _ hi => absurd hi (Nat.not_lt_zero _)⟩
  case step =>
    rintro j x b s2 hx ⟨hbs, hb, h, rfl, hsz, hk, hit⟩
    rw [List.getElem?_map] at hx
    cases hp : ls[j]? with
    | none =>
      rw [hp] at hx
      cases hx
    | some l =>
      rw [hp] at hx
      obtain rfl : Value.ref l = x := Option.some.inj hx
      obtain ⟨xs, ol, e, c⟩ := hl l (List.mem_of_getElem? hp)
      refine wpAny_bind (wpAny_holding (pyIter_cur (b := kd l) (s := { s with heap := h }) ⟨ol, hk _ _ e, c⟩ ?_))
      refine wpAny_pure ⟨_, rfl, by rw [Array.size_push, hbs], fun i hij => ?_, _, rfl, by rw [Heap.size_push, hsz]; omega, fun c o e => Heap.get?_push_of_some _ (hk c o e), fun i l' hij hl' => ?_⟩
      · show (b.push (Value.ref h.objs.size))[i]? = _
        rw [Array.getElem?_push]
        by_cases e : i = b.size
        · rw [if_pos e, hsz, e, hbs]
        · rw [if_neg e]
          exact hb i (by omega)
      · by_cases e : i = j
        · subst e
          rw [hp] at hl'
          cases hl'
          refine ⟨{ cls := .type (if kd l then "tuple_iterator" else "list_iterator"), data := .fields #[.ref l, .int 0 0] }, ?_, rfl, rfl⟩
          rw [← hsz]
          exact Heap.get?_push_size _ rfl
        · obtain ⟨o, e1, c⟩ := hit i l' (by omega) hl'
          exact ⟨o, Heap.get?_push_of_some _ e1, c⟩
  case last =>
    obtain ⟨hbs, hb, h, rfl, hsz, hk, hit⟩ := hb
    rw [List.length_map] at hbs hb hsz hit
    refine wpAny_pure (hQ h b.toList (by rw [Array.length_toList]; exact hbs) (fun i hi => by rw [Array.getElem?_toList]; exact hb i hi) hsz hk fun i l e => ?_)
    exact hit i l (List.getElem?_eq_some_iff.mp e).1 e

theorem zip_newN {ls : List Addr} {Q : Value → Shared → Prop} (h1 : 1 ≤ ls.length) (h2 : ls.length ≤ 4) (hl : ∀ l ∈ ls, ∃ xs, IsSq (kd l) s.heap l xs)
    (hQ : ∀ h' n, n = s.heap.objs.size → ZSt kd h' (n + ls.length + 2) (n + ls.length) (n + ls.length + 1) (ls.zipIdx.map fun x => (n + x.2, x.1)) 0 → h'.objs.size = n + ls.length + 3 →
      (∀ c o, s.heap.get? c = some o → h'.get? c = some o) → Q (.ref (n + ls.length + 2)) { s with heap := h' }) :
    wpAny (model prog w) A (Builtin.«zip.__new__» ⟨.type "zip" :: ls.map Value.ref, []⟩) (fun fin s' => ∃ v, fin = .done (.ret v) ∧ Q v s') E s := by
  have hsub := sub_zip
  have hc : wpAny (model prog w) A (Builtin.SmallTypes.newClass "zip" ⟨.type "zip" :: ls.map Value.ref, []⟩) (fun r s' => r = (.type "zip", ls.map Value.ref) ∧ s' = s) E s := by
    unfold Builtin.SmallTypes.newClass
    wp_walk
    exact ⟨rfl, rfl⟩
  unfold Builtin.«zip.__new__»
  refine wpAny_bind (thn hc ?_)
  rintro _ _s ⟨rfl, rfl⟩
  show wpAny _ _ (Builtin.SmallTypes.iterAll (ls.map Value.ref) >>= _) _ _ _
  refine wpAny_bind (iterAll_tups hl fun h1' its hil hi hsz hk hit => ?_)
  have hsl : its.length ≤ sizeLine := by rw [hil, sizeLine_eq]; omega
  refine wpAny_bind (wpAny_newTuple ?_ hsl)
  refine wpAny_bind (wpAny_newTuple ?_ (by rw [List.length_map]; exact hsl))
  refine wpAny_bind ?_
  unfold Builtin.SmallTypes.newRecord
  refine wpAny_newObj_type ?_ (show (5 : Nat) ≤ sizeLine + 2 by rw [sizeLine_eq]; omega)
  refine wpAny_pure ⟨_, rfl, ?_⟩
  have z1 : (h1'.push (tObj its.toArray)).objs.size = h1'.objs.size + 1 := Heap.size_push ..
  have z2 : ((h1'.push (tObj its.toArray)).push (tObj (its.map fun _ => Value.none).toArray)).objs.size = h1'.objs.size + 2 := by rw [Heap.size_push, z1]
  have fin : Q (.ref ((h1'.push (tObj its.toArray)).push (tObj (its.map fun _ => Value.none).toArray)).objs.size)
      { _s with heap := ((h1'.push (tObj its.toArray)).push (tObj (its.map fun _ => Value.none).toArray)).push (zObj .none (.bool false) h1'.objs.size (h1'.push (tObj its.toArray)).objs.size) } := by
    rw [z2, z1, hsz]
    refine hQ _ _ rfl ⟨⟨.none, .bool false, ?_, .inl rfl⟩, ?_, ⟨(its.map fun _ => Value.none).toArray, ?_, ?_⟩, fun p hp => ?_⟩ ?_ fun c o e => Heap.get?_push_of_some _ (Heap.get?_push_of_some _ (Heap.get?_push_of_some _ (hk c o e)))
    · rw [← hsz, ← z2]
      exact Heap.get?_push_size _ rfl
    · have e : its = (ls.zipIdx.map fun x => (_s.heap.objs.size + x.2, x.1)).map fun p => Value.ref p.1 := by
        refine List.ext_getElem? fun i => ?_
        rw [List.map_map, List.getElem?_map, List.getElem?_zipIdx]
        by_cases hlt : i < ls.length
        · rw [hi i hlt, List.getElem?_eq_getElem hlt]
          simp
        · rw [List.getElem?_eq_none (by omega), List.getElem?_eq_none (by omega)]
          rfl
      rw [← e, ← hsz]
      exact Heap.get?_push_of_some _ (Heap.get?_push_of_some _ (Heap.get?_push_size _ rfl))
    · simp [hil]
    · rw [← hsz, ← z1]
      exact Heap.get?_push_of_some _ (Heap.get?_push_size _ rfl)
    · obtain ⟨x, hx, rfl⟩ := List.mem_map.mp hp
      obtain ⟨i, hxi⟩ := List.mem_iff_getElem?.mp hx
      rw [List.getElem?_zipIdx] at hxi
      cases hl' : ls[i]? with
      | none =>
        rw [hl'] at hxi
        cases hxi
      | some l =>
        rw [hl'] at hxi
        obtain rfl : (l, 0 + i) = x := Option.some.inj hxi
        obtain ⟨o, e, c⟩ := hit i l hl'
        refine ⟨o, ?_, c⟩
        show Heap.get? _ (_s.heap.objs.size + (0 + i)) = some o
        rw [Nat.zero_add]
        exact Heap.get?_push_of_some _ (Heap.get?_push_of_some _ (Heap.get?_push_of_some _ e))
    · rw [Heap.size_push, z2, hsz]
  exact fin
end
section
variable {prog : Program} {w : World} {A : Around} {E : Value → Shared → Prop} {s : Shared} {kd : Addr → Bool}
theorem call_zipN {ls : List Addr} {Q : Value → Shared → Prop} (h1 : 1 ≤ ls.length) (h2 : ls.length ≤ 4) (hl : ∀ l ∈ ls, ∃ xs, IsSq (kd l) s.heap l xs)
    (hQ : ∀ h' n, n = s.heap.objs.size → ZSt kd h' (n + ls.length + 2) (n + ls.length) (n + ls.length + 1) (zps n ls) 0 → h'.objs.size = n + ls.length + 3 →
      (∀ c o, s.heap.get? c = some o → h'.get? c = some o) → Q (.ref (n + ls.length + 2)) { s with heap := h' }) :
    wpAny (model prog w) A (call (.type "zip") (ls.map Value.ref)) Q E s := by
  have m : Meets (Builtin.«zip.__new__» ⟨.type "zip" :: ls.map Value.ref, []⟩) (fun _ R s => (∀ l ∈ ls, ∃ xs, IsSq (kd l) s.heap l xs) ∧
      ∀ h' n, n = s.heap.objs.size → ZSt kd h' (n + ls.length + 2) (n + ls.length) (n + ls.length + 1) (zps n ls) 0 → h'.objs.size = n + ls.length + 3 →
        (∀ c o, s.heap.get? c = some o → h'.get? c = some o) → R (.ok (.ret (.ref (n + ls.length + 2)))) { s with heap := h' }) :=
    .of_wp fun prog w A R s h => zip_newN h1 h2 h.1 h.2
  refine callType_new F.called_zip (by decide) (typeCall_zipN _ (by simpa using h1) (by simpa using h2)) (newCall_zipN _ (by simpa using h1) (by simpa using h2))
    (fun obj => args_object_initN obj _ (by simpa using h1) (by simpa using h2)) F.entry_zip_new m ⟨hl, fun h' n e1 e2 e3 e4 => ?_⟩
  obtain ⟨f0, f1, hz, _⟩ := e2.zz
  exact ⟨⟨_, hz, rfl⟩, hQ h' n e1 e2 e3 e4⟩
theorem pyIter_zn {z TI TO : Addr} {ps : List (Addr × Addr)} {k : Nat} {Q : Value → Shared → Prop} (S : ZSt kd s.heap z TI TO ps k) (h : Q (.ref z) s) : wpAny (model prog w) A (pyIter (.ref z)) Q E s := by
  obtain ⟨f0, f1, hz, _⟩ := S.zz
  have hT : s.TypeIs (.ref z) "zip" := ⟨_, hz, rfl⟩
  refine wpAny_pyIter_slot hT F.slot_zip_iter (wpAny_call_entry F.slot_zip_iter hT F.entry_zip_iter ?_ (F.args_zip_iter_1 _))
  exact (show wpAny _ _ (ret (.ref z)) _ _ s from wpAny_pure ⟨_, rfl, "zip", _, hT, F.slot_zip_next.lookup, h⟩)
end

end DM
namespace DM
open PySem PySem.Spec PyProof.Rows L2 DD
def SqX (K : PySem.W.Frag) (b : Bool) (H : Hp) (a : Addr) (xs : List V) : Prop := match b with | true => SqT K H a xs | false => SqL K H a xs
/-- the tuples and lists at ls hold rows, none shorter than m, the first of length m -/
structure Rwm (K : PySem.W.Frag) (kd : Addr → Bool) (H : Hp) (ls : List Addr) (rows : List (List V)) (m : Nat) : Prop where
  len : ls.length = rows.length
  at_ : ∀ (j : Nat) (a : Addr) (r : List V), ls[j]? = some a → rows[j]? = some r → SqX K (kd a) H a r ∧ m ≤ r.length
theorem sq_of {X : Cx} {pins : List (Addr × Obj)} {σ : L2.St} {H : Hp} {s : Shared} {b : Bool} {a : Addr} {xs : List V} (I : Inv X pins σ H s) (q : SqX X.K b H a xs) :
    ∃ its : List Value, Vals xs its ∧ IsSq b s.heap a its.toArray := by
  cases b with
  | true =>
    obtain ⟨its, rv, ⟨o, ho, hc, n, hd⟩, _⟩ := I.tuple q
    exact ⟨its, rv, o, ho, hc, n, hd⟩
  | false =>
    obtain ⟨its, rv, p, _⟩ := I.list q
    exact ⟨its, rv, p.isList⟩
theorem Rwm.vals {X : Cx} {pins : List (Addr × Obj)} {σ : L2.St} {H : Hp} {s : Shared} {kd : Addr → Bool} {m i : Nat} (I : Inv X pins σ H s) (hi : i < m) : ∀ {ls : List Addr} {rows : List (List V)}, Rwm X.K kd H ls rows m →
    ∃ us : List Value, Vals (colV rows i) us ∧ ∀ (j : Nat) (a : Addr), ls[j]? = some a → ∃ xs, IsSq (kd a) s.heap a xs ∧ xs[i]? = us[j]?
  | [], [], _ => ⟨[], .nil, fun j a e => by simp at e⟩
  | [], _ :: _, R => by have := R.len; simp at this
  | _ :: _, [], R => by have := R.len; simp at this
  | a :: ls, r :: rows, R => by
    obtain ⟨us, h1, h2⟩ := Rwm.vals I hi (ls := ls) (rows := rows) ⟨by have := R.len; simpa using this, fun j a' r' e1 e2 => R.at_ (j + 1) a' r' e1 e2⟩
    obtain ⟨q, hl⟩ := R.at_ 0 a r rfl rfl
    obtain ⟨its, rv, p⟩ := sq_of I q
    have hr : r[i]? = some (r.getD i .non) := by
      rw [List.getD_eq_getElem?_getD, List.getElem?_eq_getElem (by omega)]
      rfl
    obtain ⟨u, hu, ru⟩ := rv.get hr
    refine ⟨u :: us, .cons ru h1, fun j a' e => ?_⟩
    cases j with
    | zero =>
      obtain rfl : a = a' := Option.some.inj e
      exact ⟨its.toArray, p, by simpa using hu⟩
    | succ j => exact h2 j a' e
def ItzM (K : PySem.W.Frag) (kd : Addr → Bool) (ls : List Addr) (rows : List (List V)) (m : Nat) : It :=
  ⟨fun i H => i < m ∧ Rwm K kd H ls rows m, fun i H v H' => ∃ T, v = .ref T ∧ H T = none ∧ H' = upd H T (.tup (colV rows i)), fun i H => i = m ∧ Rwm K kd H ls rows m⟩
theorem turn_zm {P : Program} {w : World} {K : PySem.W.Frag} {elts : List Expr} {kk : Nat} {tpos : Pos} {n m : Nat} {kd : Addr → Bool} {ls : List Addr} {rows : List (List V)} (h1 : 1 ≤ ls.length) (h2 : ls.length ≤ 4) (hlt : ∀ l ∈ ls, l < n) (hm : ∀ r, rows[0]? = some r → r.length = m) :
    Turn P w K (.Tuple elts kk tpos) (ItzM K kd ls rows m) ((n + ls.length + 2) :: (n + ls.length) :: (n + ls.length + 1) :: (zps n ls).map (·.1)) (n + ls.length + 2)
      (fun i h => ZSt kd h (n + ls.length + 2) (n + ls.length) (n + ls.length + 1) (zps n ls) i) where
  mem := List.mem_cons_self
  obj := fun i h S b hb => by
    obtain ⟨⟨f0, f1, hz, _⟩, hTI, ⟨arr, _, hTO⟩, hits⟩ := S
    rcases List.mem_cons.mp hb with rfl | hb
    · exact ⟨_, hz, fun v q => nomatch q⟩
    rcases List.mem_cons.mp hb with rfl | hb
    · exact ⟨_, hTI, fun v q => nomatch q⟩
    rcases List.mem_cons.mp hb with rfl | hb
    · exact ⟨_, hTO, fun v q => nomatch q⟩
    obtain ⟨p, hp, rfl⟩ := List.mem_map.mp hb
    obtain ⟨o, e, _, d⟩ := hits p hp
    exact ⟨o, e, fun v q => by rw [d] at q; cases q⟩
  keep := fun i h h' S k => by
    obtain ⟨⟨f0, f1, hz, hf⟩, hTI, ⟨arr, ha, hTO⟩, hits⟩ := S
    refine ⟨⟨f0, f1, k _ (by simp) _ hz, hf⟩, k _ (by simp) _ hTI, ⟨arr, ha, k _ (by simp) _ hTO⟩, fun p hp => ?_⟩
    obtain ⟨o, e, c⟩ := hits p hp
    exact ⟨o, k _ (by
      refine List.mem_cons_of_mem _ (List.mem_cons_of_mem _ (List.mem_cons_of_mem _ ?_))
      exact List.mem_map_of_mem hp) _ e, c⟩
  item := by
    intro X hP hw hK hc i pins s σ H E I hf S hg
    subst hP hw hK
    obtain ⟨hi, R⟩ := hg
    obtain ⟨us, hv, hx⟩ := R.vals I hi
    have hul : us.length = ls.length := by rw [← hv.length, R.len]; simp [colV]
    have D := zapart hlt
    refine pyNext_zn_item D (by rw [zps_length]; exact h1) (by rw [zps_length]; omega) S (vs := us) (by rw [zps_length]; exact hul) (fun j p e => ?_) fun h' S' hT hsz hk => ?_
    · rw [zps_get] at e
      cases ea : ls[j]? with
      | none => rw [ea] at e; cases e
      | some a =>
        rw [ea] at e
        obtain rfl : (n + j, a) = p := Option.some.inj e
        exact hx j a ea
    · refine ⟨_, rfl, ?_⟩
      obtain ⟨⟨f0, f1, hz', hf'⟩, hTI', ⟨arr', ha', hTO'⟩, hits'⟩ := S'
      have hzlt : n + ls.length + 2 < s.heap.objs.size := by
        obtain ⟨⟨g0, g1, g, _⟩, _⟩ := S
        exact Heap.lt_size g
      refine letGo_any (s := { s with heap := h' }) hz' hf' fun h'' g0 hg0 z'' sb => ?_
      have S'' : ZSt kd h'' (n + ls.length + 2) (n + ls.length) (n + ls.length + 1) (zps n ls) (i + 1) :=
        ⟨⟨_, _, z'', hg0⟩, (sb.2 _ D.tz).trans hTI', ⟨arr', ha', (sb.2 _ D.oz).trans hTO'⟩, fun p hp => by
          obtain ⟨o, e, c⟩ := hits' p hp
          exact ⟨o, (sb.2 _ (D.pz p hp).1).trans e, c⟩⟩
      have hT2 := (sb.2 _ (Nat.ne_of_gt hzlt)).trans hT
      have hcl : (colV rows i).length ≤ sizeLine := by
        rw [hv.length, hul, sizeLine_eq]
        omega
      have new : ObjOk X.prog X.w (upd H s.heap.objs.size (.tup (colV rows i))) h'' s.heap.objs.size (.tup (colV rows i)) := ⟨hcl, us, hv, ⟨_, hT2, rfl, _, rfl⟩⟩
      have I1 : Inv X pins σ (upd H s.heap.objs.size (.tup (colV rows i))) { s with heap := h'' } :=
        I.turnedNew (t' := s.toks) (fun c o hb q => (sb.2 c (fun z => hb (by simp [z]))).trans (hk c o (fun z => hb (by simp [z])) (fun z => hb (by simp [z])) (fun p hp z => hb (by
          refine List.mem_cons_of_mem _ (List.mem_cons_of_mem _ (List.mem_cons_of_mem _ ?_))
          rw [z]
          exact List.mem_map_of_mem hp)) q)) hf (Nat.le_refl _) new
      refine ⟨.ref s.heap.objs.size, _, I1, rfl, ⟨_, rfl, I.hok.fresh (Nat.le_refl _), rfl⟩, S'', fun c hcm => ?_⟩
      obtain ⟨o, ho, _⟩ : ∃ o, s.heap.get? c = some o ∧ True := by
        obtain ⟨⟨f0, f1, hz, _⟩, hTI, ⟨arr, _, hTO⟩, hits⟩ := S
        rcases List.mem_cons.mp hcm with rfl | hcm
        · exact ⟨_, hz, trivial⟩
        rcases List.mem_cons.mp hcm with rfl | hcm
        · exact ⟨_, hTI, trivial⟩
        rcases List.mem_cons.mp hcm with rfl | hcm
        · exact ⟨_, hTO, trivial⟩
        obtain ⟨p, hp, rfl⟩ := List.mem_map.mp hcm
        obtain ⟨o, e, _⟩ := hits p hp
        exact ⟨o, e, trivial⟩
      rw [upd_ne (Nat.ne_of_lt (Heap.lt_size ho))]
      exact (hf c hcm).1
  done := by
    intro X hP hw hK hc i pins s σ H E I hf S hg
    subst hP hw hK
    obtain ⟨rfl, R⟩ := hg
    cases hls : ls with
    | nil => rw [hls] at h1; simp at h1
    | cons a r =>
      cases hrw : rows with
      | nil => have := R.len; rw [hls, hrw] at this; simp at this
      | cons q rr =>
        obtain ⟨hq, hl⟩ := R.at_ 0 a q (by rw [hls]; rfl) (by rw [hrw]; rfl)
        have hql := hm q (by rw [hrw]; rfl)
        obtain ⟨its, rv, p⟩ := sq_of I hq
        have hps : zps n ls = (n, a) :: (zps n ls).tail := by
          rw [hls]
          simp [zps]
        rw [← hls]
        refine pyNext_zn_end (I.ok.hd hc) (zapart hlt) S hps (xs := its.toArray) p ?_ fun h' hk => ⟨rfl, ?_⟩
        · have := rv.length
          rw [List.getElem?_toArray, List.getElem?_eq_none (by omega)]
        · exact I.turnedL (t' := s.toks) (fun c o hb q => hk c o (fun z => hb (by simp [z])) (fun z => hb (by simp [z])) (fun p hp z => hb (by
            refine List.mem_cons_of_mem _ (List.mem_cons_of_mem _ (List.mem_cons_of_mem _ ?_))
            rw [z]
            exact List.mem_map_of_mem hp)) q) hf
  self := fun A i s Q E S h => pyIter_zn S h

/-- for (..) in zip(e, ..), up to four tuples and lists, the first not longer than the others -/
def iZipM (K : PySem.W.Frag) (ta : TA) : TI := fun σ H R => ta σ H fun vs H1 => ∃ (kd : Addr → Bool) (ls : List Addr) (rows : List (List V)) (m : Nat), vs = ls.map V.ref ∧ 1 ≤ ls.length ∧ ls.length ≤ 4 ∧ (∀ r, rows[0]? = some r → r.length = m) ∧ Rwm K kd H1 ls rows m ∧ R (ItzM K kd ls rows m) H1
theorem pi_zipM {X : Cx} {e : Expr} {er : List Expr} {ta : TA} {p pos tpos : Pos} {elts : List Expr} {kk : Nat} (hg : Gl X "zip") (hm : X.mg "zip" = none) (ha : PA X (e :: er) ta)
    (hs : starEach (e :: er) X.env = (false, eval e X.env) :: starEach er X.env := by rfl) (hpl : (backTo pos (starEach er X.env)).any (·.1) = false := by rfl) :
    PI X (.Tuple elts kk tpos) (.Call (.Name "zip" p) (e :: er) [] pos) (iZipM X.K ta) := by
  refine ⟨fun pins s σ H R I h => ?_⟩
  refine Call_ (ld_blt I hg hm PyProof.Rows.boot_zip (PyProof.Rows.callWith_type1 (thn (ha.run pos pins s σ H _ I h) fun us s2 ⟨vs, H1, I2, r1, q1⟩ => ?_) hs hpl))
  obtain ⟨kd, ls, rows, m, ex, h1, h2, hm0, Rw, q⟩ := q1
  subst ex
  obtain rfl := vals_refs r1
  have tup : ∀ l ∈ ls, ∃ xs, IsSq (kd l) s2.heap l xs := fun l hl => by
    obtain ⟨j, hj⟩ := List.mem_iff_getElem?.mp hl
    have hjl := (List.getElem?_eq_some_iff.mp hj).1
    have hjr : rows[j]? = some (rows[j]'(by have := Rw.len; omega)) := List.getElem?_eq_getElem (by have := Rw.len; omega)
    obtain ⟨its, _, p⟩ := sq_of I2 (Rw.at_ j l _ hj hjr).1
    exact ⟨its.toArray, p⟩
  refine call_zipN (kd := kd) h1 h2 tup fun h' n en S hsz hk => ?_
  have I3 : Inv X pins σ H1 { s2 with heap := h' } := I2.kept (t' := s2.toks) hk
  have hlt : ∀ l ∈ ls, l < n := fun l hl => by
    obtain ⟨xs, o, ho, _⟩ := tup l hl
    rw [en]
    exact Heap.lt_size ho
  refine pyIter_zn (s := { s2 with heap := h' }) S ⟨n + ls.length + 2, _, _, _, H1, rfl, I3, turn_zm h1 h2 hlt hm0, S, fun b hb => ?_, q⟩
  have hle : s2.heap.objs.size ≤ b := by
    rw [← en]
    rcases List.mem_cons.mp hb with rfl | hb
    · omega
    rcases List.mem_cons.mp hb with rfl | hb
    · omega
    rcases List.mem_cons.mp hb with rfl | hb
    · omega
    obtain ⟨p, hp, rfl⟩ := List.mem_map.mp hb
    obtain ⟨j, _, _, e⟩ := zps_mem hp
    exact Nat.le_trans (Nat.le_add_right n j) (Nat.le_of_eq e.symm)
  exact I2.fpOk hle (I2.hok.fresh hle)
theorem walk_zm {K : PySem.W.Frag} {kd : Addr → Bool} {ls : List Addr} {rows : List (List V)} {m : Nat} : Walk (ItzM K kd ls rows m) m (fun H => Rwm K kd H ls rows m) (fun i H v H' => ∃ T, v = .ref T ∧ H T = none ∧ H' = upd H T (.tup (colV rows i))) :=
  ⟨fun _ _ hi q => ⟨hi, q⟩, fun _ q => ⟨rfl, q⟩, fun _ _ _ _ _ _ y => y⟩
/-- two of them, kinds b1 and b2 -/
def kd2 (a : Addr) (b1 b2 : Bool) : Addr → Bool := fun x => if x = a then b1 else b2
theorem rwm2 {K : PySem.W.Frag} {H : Hp} {a b : Addr} {b1 b2 : Bool} {xs ys : List V} (h1 : SqX K b1 H a xs) (h2 : SqX K b2 H b ys) (hl : xs.length ≤ ys.length) (hab : a = b → b1 = b2) : Rwm K (kd2 a b1 b2) H [a, b] [xs, ys] xs.length := by
  refine ⟨rfl, fun j c r e1 e2 => ?_⟩
  match j with
  | 0 =>
    obtain rfl : a = c := Option.some.inj e1
    obtain rfl : xs = r := Option.some.inj e2
    refine ⟨?_, Nat.le_refl _⟩
    unfold kd2
    rw [if_pos rfl]
    exact h1
  | 1 =>
    obtain rfl : b = c := Option.some.inj e1
    obtain rfl : ys = r := Option.some.inj e2
    refine ⟨?_, hl⟩
    unfold kd2
    by_cases e : b = a
    · rw [if_pos e, hab e.symm]
      exact h2
    · rw [if_neg e]
      exact h2
  | j + 2 => simp at e1
theorem col2 {xs ys : List V} {i : Nat} {x y : V} (h1 : xs[i]? = some x) (h2 : ys[i]? = some y) : colV [xs, ys] i = [x, y] := by
  unfold colV
  simp [h1, h2]
end DM
namespace DD
open PySem PySem.Spec PyProof.Rows L2
def topS (i : Nat) : Stmt := PySem.Challenge.pw_darkdrawers_k08_whole_merged_drawers.main.body.getD i (.Pass ⟨0, 0, 0, 0⟩)
abbrev sIsNum : Stmt := topS 4
abbrev sUpTo : Stmt := topS 5
abbrev sTupOf : Stmt := topS 6
abbrev sNums : Stmt := topS 7
abbrev sIsStock : Stmt := topS 12
abbrev sErr : Stmt := topS 13
abbrev sTotals : Stmt := topS 14
abbrev sSizes : Stmt := topS 15
abbrev sMerged : Stmt := topS 16
abbrev sFul : Stmt := topS 18
abbrev sCont : Stmt := topS 19
abbrev sSpoil : Stmt := topS 20
abbrev sCaps : Stmt := topS 21
abbrev sRoomIn : Stmt := topS 23
abbrev sRoomOf : Stmt := topS 24
abbrev sFind : Stmt := topS 25
abbrev sLoads : Stmt := topS 26
abbrev sSetsOf : Stmt := topS 27
abbrev sOver : Stmt := topS 28
abbrev sWithin : Stmt := topS 29
abbrev sSpare : Stmt := topS 30
abbrev sIsSure : Stmt := topS 31
abbrev sTotal : Stmt := topS 32
abbrev sNumber : Stmt := topS 33
abbrev sDeck : Stmt := topS 35
abbrev sDraw : Stmt := topS 36
abbrev sCounts : Stmt := topS 37
abbrev sStock : Stmt := topS 38
abbrev sWishes : Stmt := topS 39
abbrev sKeptR : Stmt := topS 40
abbrev sDivR : Stmt := topS 41
abbrev sWhoR : Stmt := topS 42
abbrev sLaw : Stmt := topS 43
end DD
namespace DD
open PySem PySem.Spec PyProof.Rows L2

/-! ### small words about heaps -/
def Kp2 (a b : Addr) (H H' : Hp) : Prop := ∀ c o, c ≠ a → c ≠ b → H c = some o → H' c = some o
theorem Kp2.refl {a b : Addr} {H : Hp} : Kp2 a b H H := fun _ _ _ _ e => e
theorem Kp2.trans {a b : Addr} {H H1 H2 : Hp} (x : Kp2 a b H H1) (y : Kp2 a b H1 H2) : Kp2 a b H H2 := fun c o h1 h2 e => y c o h1 h2 (x c o h1 h2 e)
theorem kps {a b : Addr} {H H' : Hp} (x : Same H H') : Kp2 a b H H' := fun c o _ _ e => x c o e
theorem same_new {H : Hp} {p : Addr} {o : HO} (h : H p = none) : Same H (upd H p o) := fun b x e => by
  rw [upd_ne (ne_of_none e h)]
  exact e
theorem kp2_upd1 {a b : Addr} {H : Hp} {o : HO} : Kp2 a b H (upd H a o) := fun c x h1 _ e => by rw [upd_ne h1]; exact e
theorem kp2_upd2 {a b : Addr} {H : Hp} {o : HO} : Kp2 a b H (upd H b o) := fun c x _ h2 e => by rw [upd_ne h2]; exact e

/-- the deck at dk: its cells at c, none below 0; at most B draws so far -/
structure Deck (H : Hp) (dk c : Addr) (B : Nat) : Prop where
  ex : ∃ (ns : List Int) (t : Int), H dk = some (.lst [.ref c, .int t]) ∧ H c = some (.lst (ns.map V.int)) ∧ (∀ n ∈ ns, 0 ≤ n) ∧ ns.length ≤ 63 ∧ 0 ≤ t ∧ t ≤ (B : Int)
  ne : dk ≠ c
theorem Deck.up {H : Hp} {dk c : Addr} {B B' : Nat} (d : Deck H dk c B) (h : B ≤ B') : Deck H dk c B' := by
  obtain ⟨⟨ns, t, h1, h2, h3, h4, h5, h6⟩, ne⟩ := d
  exact ⟨⟨ns, t, h1, h2, h3, h4, h5, by omega⟩, ne⟩
theorem Deck.keep {H H' : Hp} {dk c : Addr} {B : Nat} (d : Deck H dk c B) (k : Same H H') : Deck H' dk c B := by
  obtain ⟨⟨ns, t, h1, h2, h3⟩, ne⟩ := d
  exact ⟨⟨ns, t, k _ _ h1, k _ _ h2, h3⟩, ne⟩

theorem len_ltD {n : Nat} (h : n ≤ 1000) : n < sizeLine := small1000 h
theorem scDraw : FnScope ["_law_deck_here", "_law_limit", "_law_cell", "_law_index"] ["_law_deck_here", "_law_limit"] (defScope sDraw) := ⟨rfl, rfl, rfl, by decide +kernel, rfl, by decide +kernel, by decide +kernel⟩

section
variable {P : Program} {w : World} {K : PySem.W.Frag} {mg : Str → Option Value} {base : Heap}
/-- a drawn number from 0 to L - 1: the deck turns, all else stands -/
def spDraw : Sp := fun vs H Q _ => ∃ (dk c : Addr) (B : Nat) (L : Int), vs = [.ref dk, .int L] ∧ Deck H dk c B ∧ B ≤ 1000000 ∧ 1 ≤ L ∧ L ≤ 1000 ∧
  ∀ r H', 0 ≤ r → r < L → Kp2 dk c H H' → Deck H' dk c (B + 1) → Q (.int r) H'
theorem ok_draw {f : Addr} {fd : FuncData} {k : Nat} (F : Fun K "_law_draw" "_law_draw" sDraw f fd) (ml : mg "len" = none) : FnOk P w K mg base CX0 (k + 1) f fd ["_law_deck_here", "_law_limit"] spDraw := by
  refine F.ok scDraw (fun vs H Q E h => ?_) (fun cdv A outer s H vs Q E hr h => ?_)
  · obtain ⟨dk, c, B, L, rfl, _⟩ := h
    rfl
  · obtain ⟨dk, c, B, L, rfl, ⟨⟨ns, t, hdk, hc, hpos, hlen, t0, tB⟩, dne⟩, hB, hL1, hL2, q⟩ := h
    refine ⟨_, pss_cons (ps_asg (pe_op op_add (pe_ix ix_list (pv 0) pe_int (fun _ _ => rfl)) pe_int) (pg_sub (pv 0) pe_int set_list))
      (pss_cons (ps_asg (pe_tup (pa_cons pe_int (pa_cons (pe_un un_neg pe_int) pa_nil))) (pg_tup rfl (pgs_cons (pg_name (i := 2) scDraw.nd rfl (.inl rfl)) (pgs_cons (pg_name (i := 3) scDraw.nd rfl (.inl rfl)) pgs_nil))))
      (C8.pss_cut (ps_if (pt_cmpR op_gt (pe_callB call_len_seq (by rfl) ml PySem.boot_len (pa_cons (pe_ix ix_list (pv 0) pe_int (fun _ _ => rfl)) pa_nil)) pe_int (nomark _))
          (pss_cons (ps_set (i := 3) scDraw.nd rfl (.inl rfl) (pe_op op_modN (pe_ix ix_list (pv 0) pe_int (fun _ _ => rfl)) (pe_callB call_len_seq (by rfl) ml PySem.boot_len (pa_cons (pe_ix ix_list (pv 0) pe_int (fun _ _ => rfl)) pa_nil))))
          (pss_one (ps_set (i := 2) scDraw.nd rfl (.inl rfl) (pe_ix ix_list (pe_ix ix_list (pv 0) pe_int (fun _ _ => rfl)) (pv 3) (fun _ _ => rfl)))))
          pss_nil)
      (pss_cons (ps_if (pt_cmpR op_ge (pv 2) (pe_op op_pow pe_int pe_int) (nomark _))
          (pss_cons (ps_asg (pe_op op_fdivN (pv 2) (pv 1)) (pg_sub (pe_ix ix_list (pv 0) pe_int (fun _ _ => rfl)) (pv 3) set_list))
          (pss_one (ps_ret (pe_op op_modN (pv 2) (pv 1)))))
          pss_nil)
      (pss_one (ps_ret (pe_op op_modN (pe_op op_fdivN (pe_op op_modN (pe_op op_pow (pe_op op_add (pe_op op_add (pe_op op_modN (pv 2) pe_int) (pe_op op_mul pe_int (pe_ix ix_list (pv 0) pe_int (fun _ _ => rfl)))) pe_int) pe_int) pe_int) pe_int) (pv 1))))))), ?_⟩
    -- _law_deck_here[1] = _law_deck_here[1] + 1
    refine ⟨.ref dk, rfl, dk, _, 1, .int t, rfl, rfl, SqL.of hdk, atI_nat (j := 1) rfl, t, 1, rfl, rfl, .ref dk, rfl, dk, _, 1, 1, rfl, rfl, hdk, rfl, ?_⟩
    have hdk1 : (upd H dk (.lst [.ref c, .int (t + 1)])) dk = some (.lst [.ref c, .int (t + 1)]) := upd_same
    have hc1 : (upd H dk (.lst [.ref c, .int (t + 1)])) c = some (.lst (ns.map V.int)) := by
      rw [upd_ne dne.symm]
      exact hc
    -- _law_cell, _law_index = (0, -1)
    refine ⟨1, rfl, by show 2 ≤ sizeLine; decide, fun p np => ?_⟩
    have s2 : Same _ _ := same_new (o := .tup [.int 0, .int (-1)]) np
    have hdk2 := s2 _ _ hdk1
    have hc2 := s2 _ _ hc1
    have k2 : Kp2 dk c H (upd (upd H dk (.lst [.ref c, .int (t + 1)])) p (.tup [.int 0, .int (-1)])) := kp2_upd1.trans (kps s2)
    refine ⟨p, [.int 0, .int (-1)], rfl, .inl (.inl upd_same), rfl, .int 0, [.int (-1)], rfl, .int (-1), [], rfl, rfl, ?_⟩
    refine ⟨fun σ' H' => ∃ cell idx : Int, σ' = [some (.ref dk), some (.int L), some (.int cell), some (.int idx)] ∧ Kp2 dk c H H' ∧ H' dk = some (.lst [.ref c, .int (t + 1)]) ∧ H' c = some (.lst (ns.map V.int)) ∧ 0 ≤ cell ∧
      (10 ^ 18 ≤ cell → ∃ j : Nat, idx = j ∧ j < ns.length), ?_, ?_⟩
    · -- if len(_law_deck_here[0]) > 0
      refine ⟨.ref dk, rfl, dk, _, 0, .ref c, rfl, rfl, SqL.of hdk2, atI_nat (j := 0) rfl, c, _, rfl, .inl (SqL.of hc2), _, _, rfl, rfl, _, rfl, ite2 (fun e => ?_) (fun e => ?_)⟩
      · have e0 : (0 : Int) < ((ns.map V.int).length : Int) := of_decide_eq_true e
        rw [List.length_map] at e0
        have b1 := Int.fmod_nonneg_of_pos (t + 1) e0
        have b2 := Int.fmod_lt_of_pos (t + 1) e0
        obtain ⟨j, hj⟩ : ∃ j : Nat, (t + 1).fmod (ns.length : Int) = j := ⟨((t + 1).fmod (ns.length : Int)).toNat, by omega⟩
        have hjl : j < ns.length := by omega
        have gj : (ns.map V.int)[j]? = some (.int ns[j]) := by
          rw [List.getElem?_map, List.getElem?_eq_getElem hjl]
          rfl
        refine ⟨.ref dk, rfl, dk, _, 1, .int (t + 1), rfl, rfl, SqL.of hdk2, atI_nat (j := 1) rfl, .ref dk, rfl, dk, _, 0, .ref c, rfl, rfl, SqL.of hdk2, atI_nat (j := 0) rfl, c, _, rfl, .inl (SqL.of hc2), t + 1, _, rfl, rfl, ?_, ?_⟩
        · rw [List.length_map]
          omega
        · refine ⟨.ref dk, rfl, dk, _, 0, .ref c, rfl, rfl, SqL.of hdk2, atI_nat (j := 0) rfl, _, rfl, c, _, (j : Int), .int ns[j], rfl, ?_, SqL.of hc2, atI_nat gj, ?_⟩
          · show V.int ((t + 1).fmod _) = _
            rw [List.length_map, hj]
          · refine ⟨ns[j], j, ?_, k2, hdk2, hc2, hpos _ (List.getElem_mem hjl), fun _ => ⟨j, rfl, hjl⟩⟩
            show [some (V.ref dk), some (V.int L), some (V.int ns[j]), some (V.int ((t + 1).fmod _))] = _
            rw [List.length_map, hj]
      · exact ⟨0, -1, rfl, k2, hdk2, hc2, Int.le_refl _, fun z => absurd z (by decide)⟩
    · rintro σ' H' ⟨cell, idx, rfl, k2, hdk2, hc2, hcell, hidx⟩
      have hB1 : t + 1 ≤ ((B + 1 : Nat) : Int) := by omega
      -- if _law_cell >= 10 ** 18
      refine ⟨_, rfl, 10, 18, rfl, rfl, ⟨by decide, by decide, by decide⟩, _, _, rfl, rfl, _, rfl, ite2 (fun e => ?_) (fun e => ?_)⟩
      · have e0 : (10 : Int) ^ (18 : Int).toNat ≤ cell := of_decide_eq_true e
        obtain ⟨j, rfl, hjl⟩ := hidx e0
        have hix : ixN (ns.map V.int).length (j : Int) = some j := by
          unfold ixN
          rw [if_pos (by omega), if_pos (by rw [List.length_map]; omega)]
          simp
        refine ⟨_, rfl, _, rfl, cell, L, rfl, rfl, ⟨by omega, by omega⟩, .ref dk, rfl, dk, _, 0, .ref c, rfl, rfl, SqL.of hdk2, atI_nat (j := 0) rfl, _, rfl, c, _, (j : Int), j, rfl, rfl, hc2, hix, ?_⟩
        refine ⟨_, rfl, _, rfl, cell, L, rfl, rfl, by omega, ?_⟩
        refine q _ _ (Int.fmod_nonneg_of_pos _ (by omega)) (Int.fmod_lt_of_pos _ (by omega)) (k2.trans kp2_upd2) ⟨⟨ns.set j (cell.fdiv L), t + 1, ?_, ?_, ?_, ?_, by omega, hB1⟩, dne⟩
        · rw [upd_ne dne]
          exact hdk2
        · rw [upd_same, List.map_set]
        · intro n hn
          rcases List.mem_or_eq_of_mem_set hn with h | h
          · exact hpos n h
          · rw [h]
            exact Int.fdiv_nonneg hcell (by omega)
        · rw [List.length_set]
          exact hlen
      · have b1 := Int.fmod_nonneg_of_pos cell (show (0 : Int) < 2147483587 by decide)
        have b2 := Int.fmod_lt_of_pos cell (show (0 : Int) < 2147483587 by decide)
        refine ⟨_, rfl, cell, 2147483587, rfl, rfl, (by show (2147483587 : Int) ≠ 0; decide), .ref dk, rfl, dk, _, 1, .int (t + 1), rfl, rfl, SqL.of hdk2, atI_nat (j := 1) rfl, 7919, t + 1, rfl, rfl, .inl ⟨by decide, by decide⟩,
          _, _, rfl, rfl, _, _, rfl, rfl, _, 5, rfl, rfl, ⟨by decide, by decide, by omega⟩, _, 2147483647, rfl, rfl, (by show (2147483647 : Int) ≠ 0; decide), _, 7, rfl, rfl, ⟨by decide, by decide⟩, _, rfl, _, L, rfl, rfl, by omega, ?_⟩
        exact q _ _ (Int.fmod_nonneg_of_pos _ (by omega)) (Int.fmod_lt_of_pos _ (by omega)) k2 ⟨⟨ns, t + 1, hdk2, hc2, hpos, hlen, by omega, hB1⟩, dne⟩
end
end DD
namespace DD
open PySem PySem.Spec PyProof.Rows L2
theorem get_map {α β : Type} {f : α → β} {xs : List α} {i : Nat} {y : β} (h : (xs.map f)[i]? = some y) : ∃ x, xs[i]? = some x ∧ y = f x := by
  rw [List.getElem?_map] at h
  cases e : xs[i]? with
  | none => rw [e] at h; cases h
  | some x => rw [e] at h; exact ⟨x, rfl, (Option.some.inj h).symm⟩
theorem take_succ_map {α β : Type} {f : α → β} {xs : List α} {i : Nat} {x : α} (h : xs[i]? = some x) : (xs.take (i + 1)).map f = (xs.take i).map f ++ [f x] := by
  rw [List.take_add_one, h, List.map_append]
  rfl
theorem cutV_map {ns : List Int} {lo hi : Option Int} : ∃ ms : List Int, cutV (ns.map V.int) lo hi = ms.map V.int ∧ ms.length ≤ ns.length := by
  refine ⟨(ns.drop (HT.sIx ns.length 0 lo)).take (HT.sIx ns.length ns.length hi - HT.sIx ns.length 0 lo), ?_, ?_⟩
  · unfold cutV
    rw [List.length_map, List.map_take, List.map_drop]
  · rw [List.length_take, List.length_drop]
    omega
theorem len_lt {n : Nat} (h : n ≤ 1000) : n < sizeLine := small1000 h
def absI (i : Int) : Int := if i < 0 then -i else i
theorem absI_pos (i : Int) : 0 ≤ absI i := by
  unfold absI
  split <;> omega

theorem scDeck : FnScope ["_law_script", "_law_cell"] ["_law_script"] (defScope sDeck) := ⟨rfl, rfl, rfl, by decide +kernel, rfl, by decide +kernel, by decide +kernel⟩
section
variable {P : Program} {w : World} {K : PySem.W.Frag} {mg : Str → Option Value} {base : Heap}
def spDeck (K : PySem.W.Frag) : Sp := fun vs H Q _ => ∃ (a : Addr) (ns : List Int), vs = [.ref a] ∧ SqL K H a (ns.map V.int) ∧ ns.length ≤ 63 ∧
  ∀ dk c H', Same H H' → H dk = none → H c = none → Deck H' dk c 0 → Q (.ref dk) H'
theorem ok_deck {f : Addr} {fd : FuncData} {k : Nat} (F : Fun K "_law_deck" "_law_deck" sDeck f fd) (ma : mg "abs" = none) : FnOk P w K mg base CX0 (k + 1) f fd ["_law_script"] (spDeck K) := by
  refine F.ok scDeck (fun vs H Q E h => ?_) (fun cdv A outer s H vs Q E hr h => ?_)
  · obtain ⟨a, ns, rfl, _⟩ := h
    rfl
  · obtain ⟨a, ns, rfl, hS, hlen, q⟩ := h
    refine ⟨_, pss_one (ps_ret (pe_lst (pa_cons (pe_lc (own := [("_law_cell", 1)]) (g := gName 1) rfl scDeck.nd (pi_list (pe_slice sl_list (pv 0) po_none (po_some pe_int)))
      (blkOk_by (own := [("_law_cell", 1)]) (N := ["_law_script", "_law_cell"]) (sc := defScope sDeck) (by decide +kernel)) (fun _ _ _ _ _ => pg_name (i := 1) scDeck.nd rfl (Or.inl rfl)) (fun _ _ _ _ _ => pts_nil)
      (fun _ _ _ _ _ => pe_callB call_abs (by rfl) ma (by decide +kernel) (pa_cons (pv 1) pa_nil))) (pa_cons pe_int pa_nil)))), ?_⟩
    refine ⟨.ref a, rfl, 63, rfl, a, _, rfl, hS, fun p np => ?_⟩
    obtain ⟨ms, em, hml⟩ := cutV_map (ns := ns) (lo := none) (hi := some 63)
    rw [em]
    refine ⟨p, rfl, ⟨_, SqL.of upd_same⟩, fun D nD => ?_⟩
    have hp0 : Same H (upd H p (.lst (ms.map V.int))) := same_new np
    refine lc_list (xs := ms.map V.int) (fun i H' => H' D = some (.lst ((ms.take i).map fun n => V.int (absI n))) ∧ Same (upd H p (.lst (ms.map V.int))) H') ⟨upd_same, same_new nD⟩
      (fun i H' _ h => SqL.of (h.2 _ _ upd_same)) (fun i x H' hx h => ?_) (fun H' h => ?_)
    · obtain ⟨n, hn, rfl⟩ := get_map hx
      obtain ⟨hD, sm⟩ := h
      refine ⟨rfl, _, rfl, n, rfl, _, hD, ?_, ?_, fun b o e => ?_⟩
      · rw [List.length_map, List.length_take]
        exact len_lt (by omega)
      · rw [upd_same, take_succ_map hn]
        rfl
      · have hne : b ≠ D := ne_of_none e nD
        rw [upd_ne hne]
        exact sm b o e
    · obtain ⟨hD, sm⟩ := h
      rw [List.length_map, List.take_length] at hD
      refine ⟨by show 2 ≤ sizeLine; decide, fun dk nk => ?_⟩
      have ndk : D ≠ dk := ne_of_none hD nk
      refine q dk D _ (hp0.trans (sm.trans (same_new nk))) ?_ ?_ ⟨⟨ms.map absI, 0, upd_same, ?_, ?_, ?_, Int.le_refl _, Int.le_refl _⟩, ndk.symm⟩
      · exact hp0.free (sm.free nk)
      · exact hp0.free nD
      · rw [upd_ne ndk, hD, List.map_map]
        rfl
      · intro n hn
        obtain ⟨m, _, rfl⟩ := List.mem_map.mp hn
        exact absI_pos m
      · rw [List.length_map]
        omega
end
end DD
namespace DD
open PySem PySem.Spec PyProof.Rows L2
theorem four_at {r : Int} (h0 : 0 ≤ r) (h : r < 4) : ∃ b : Int, (b = 0 ∨ b = 1) ∧ atI [V.int 0, V.int 1, V.int 1, V.int 1] r = some (.int b) := by
  have e : r = 0 ∨ r = 1 ∨ r = 2 ∨ r = 3 := by omega
  rcases e with rfl | rfl | rfl | rfl
  · exact ⟨0, .inl rfl, rfl⟩
  · exact ⟨1, .inr rfl, rfl⟩
  · exact ⟨1, .inr rfl, rfl⟩
  · exact ⟨1, .inr rfl, rfl⟩
theorem scCounts : FnScope ["_law_deck_here", "_law_kinds", "_law_most", "_law_k"] ["_law_deck_here", "_law_kinds", "_law_most"] (defScope sCounts) := ⟨rfl, rfl, rfl, by decide +kernel, rfl, by decide +kernel, by decide +kernel⟩
theorem Deck.kp {H : Hp} {dk c l : Addr} {B : Nat} {o : HO} (d : Deck H dk c B) (n : H l = none) : Deck (upd H l o) dk c B := d.keep (same_new n)
theorem Deck.nedk {H : Hp} {dk c l : Addr} {B : Nat} (d : Deck H dk c B) (n : H l = none) : l ≠ dk ∧ l ≠ c := by
  obtain ⟨ns, t, h1, h2, _⟩ := d.ex
  exact ⟨(ne_of_none h1 n).symm, (ne_of_none h2 n).symm⟩
section
variable {P : Program} {w : World} {K : PySem.W.Frag} {mg : Str → Option Value} {base : Heap}
/-- a tuple of n drawn numbers from 0 to m -/
def spCounts : Sp := fun vs H Q _ => ∃ (dk c : Addr) (B n : Nat) (m : Int), vs = [.ref dk, .int n, .int m] ∧ Deck H dk c B ∧ n ≤ 100 ∧ B + 2 * n ≤ 1000000 ∧ 0 ≤ m ∧ m ≤ 900 ∧
  ∀ t (row : List Int) H', row.length = n → (∀ x ∈ row, 0 ≤ x ∧ x ≤ m) → H t = none → H' t = some (.tup (row.map V.int)) → Kp2 dk c H H' → Deck H' dk c (B + 2 * n) → Q (.ref t) H'
theorem ok_counts {f fD : Addr} {fd fdD : FuncData} {k : Nat} (F : Fun K "_law_counts" "_law_counts" sCounts f fd) (FD : Fun K "_law_draw" "_law_draw" sDraw fD fdD)
    (bD : Binds K fdD ["_law_deck_here", "_law_limit"] []) (gD : mg "_law_draw" = some (.ref fD)) (ml : mg "len" = none) (mt : mg "tuple" = none) (mr : mg "range" = none) :
    FnOk P w K mg base CX0 (k + 2) f fd ["_law_deck_here", "_law_kinds", "_law_most"] spCounts := by
  have GD : FnOk P w K mg base CX0 (k + 1) fD fdD ["_law_deck_here", "_law_limit"] spDraw := ok_draw FD ml
  refine F.ok scCounts (fun vs H Q E h => ?_) (fun cdv A outer s H vs Q E hr h => ?_)
  · obtain ⟨dk, c, B, n, m, rfl, _⟩ := h
    rfl
  · obtain ⟨dk, c, B, n, m, rfl, dek, hn, hB, hm0, hm1, q⟩ := h
    refine ⟨_, pss_one (ps_ret (pe_callTy call_tuple_of (by rfl) mt (by decide +kernel) (pa_cons (pe_lc (own := [("_law_k", 3)]) (g := gName 3) rfl scCounts.nd (pi_range1 (by rfl) mr (pa_cons (pv 1) pa_nil))
      (blkOk_by (own := [("_law_k", 3)]) (N := ["_law_deck_here", "_law_kinds", "_law_most", "_law_k"]) (sc := defScope sCounts) (by decide +kernel)) (fun _ _ _ _ _ => pg_name (i := 3) scCounts.nd rfl (Or.inl rfl)) (fun _ _ _ _ _ => pts_nil)
      (fun _ _ _ _ _ => pe_op op_mul (pe_call GD hr (by rfl) gD FD.kp bD .nil pass0 (pa_cons (pv 0) (pa_cons (pe_op op_add (pv 2) pe_int) pa_nil)))
        (pe_ix (show IxR _ (rIxL K) from ix_list) (pe_lst (pa_cons pe_int (pa_cons pe_int (pa_cons pe_int (pa_cons pe_int pa_nil))))) (pe_call GD hr (by rfl) gD FD.kp bD .nil pass0 (pa_cons (pv 0) (pa_cons pe_int pa_nil))) (fun _ _ => rfl)))) pa_nil))), ?_⟩
    refine ⟨_, rfl, n, rfl, by omega, by omega, fun D nD => ?_⟩
    have dne := dek.nedk nD
    refine lc_range (lo := 0) (n := n) (fun i H' => ∃ row : List Int, row.length = i ∧ (∀ x ∈ row, 0 ≤ x ∧ x ≤ m) ∧ H' D = some (.lst (row.map V.int)) ∧ Kp2 dk c H H' ∧ Deck H' dk c (B + 2 * i))
      ⟨[], rfl, (fun x h => by cases h), upd_same, kps (same_new nD), dek.kp nD⟩ (fun i H' hi h => ?_) (fun H' h => ?_)
    · obtain ⟨row, hl, hrow, hD, kp, dk1⟩ := h
      refine ⟨rfl, _, rfl, _, rfl, m, 1, rfl, rfl, dk, c, B + 2 * i, m + 1, rfl, dk1, by omega, by omega, by omega, fun r H1 r0 r1 k1 d1 => ?_⟩
      refine ⟨by show 4 ≤ sizeLine; decide, fun l nl => ?_⟩
      refine ⟨_, rfl, dk, c, B + 2 * i + 1, 4, rfl, d1.kp nl, by omega, by decide, by decide, fun r2 H3 s0 s1 k2 d2 => ?_⟩
      obtain ⟨b, hb, eb⟩ := four_at s0 s1
      have lne := d1.nedk nl
      have hl3 : H3 l = some (.lst [V.int 0, V.int 1, V.int 1, V.int 1]) := k2 _ _ lne.1 lne.2 upd_same
      have hD3 : H3 D = some (.lst (row.map V.int)) := by
        have hD1 := k1 _ _ dne.1 dne.2 hD
        exact k2 _ _ dne.1 dne.2 (same_new nl _ _ hD1)
      refine ⟨l, _, r2, .int b, rfl, rfl, SqL.of hl3, eb, r, b, rfl, rfl, .inr (by rcases hb with rfl | rfl <;> decide), _, hD3, ?_, row ++ [r * b], ?_, ?_, ?_, ?_, ?_⟩
      · rw [List.length_map]
        exact len_lt (by omega)
      · rw [List.length_append, hl]
        rfl
      · intro x hx
        rcases List.mem_append.mp hx with h | h
        · exact hrow x h
        · rw [List.mem_singleton.mp h]
          rcases hb with rfl | rfl
          · rw [Int.mul_zero]
            omega
          · rw [Int.mul_one]
            omega
      · rw [upd_same, List.map_append]
        rfl
      · intro b' o h1 h2 e
        have e3 := k2 b' o h1 h2 (same_new nl _ _ (k1 b' o h1 h2 (kp b' o h1 h2 e)))
        have hne : b' ≠ D := ne_of_none e nD
        rw [upd_ne hne]
        exact e3
      · obtain ⟨⟨ns, t, a1, a2, a3⟩, a4⟩ := d2
        refine ⟨⟨ns, t, ?_, ?_, a3.1, a3.2.1, a3.2.2.1, ?_⟩, a4⟩
        · rw [upd_ne dne.1.symm]
          exact a1
        · rw [upd_ne dne.2.symm]
          exact a2
        · have := a3.2.2.2
          omega
    · obtain ⟨row, hl, hrow, hD, kp, dk1⟩ := h
      refine ⟨D, _, rfl, .inl ⟨SqL.of hD, fun t nt => ?_⟩⟩
      have nt0 : H t = none := by
        have tne := dk1.nedk nt
        cases e : H t with
        | none => rfl
        | some o =>
          have := kp t o tne.1 tne.2 e
          rw [nt] at this
          cases this
      exact q t row _ hl hrow nt0 upd_same (kp.trans (kps (same_new nt))) (dk1.kp nt)
end
end DD
namespace DD
open PySem PySem.Spec PyProof.Rows L2
theorem two_at {r a b : Int} (h0 : 0 ≤ r) (h : r < 2) : ∃ z : Int, (z = a ∨ z = b) ∧ atI [V.int a, V.int b] r = some (.int z) := by
  have e : r = 0 ∨ r = 1 := by omega
  rcases e with rfl | rfl
  · exact ⟨a, .inl rfl, rfl⟩
  · exact ⟨b, .inr rfl, rfl⟩
theorem kp_free {dk c t : Addr} {H H' : Hp} {B : Nat} (kp : Kp2 dk c H H') (d : Deck H' dk c B) (nt : H' t = none) : H t = none := by
  have tne := d.nedk nt
  cases e : H t with
  | none => rfl
  | some o =>
    have := kp t o tne.1 tne.2 e
    rw [nt] at this
    cases this
theorem Deck.updD {H : Hp} {dk c D : Addr} {B : Nat} {o : HO} (d : Deck H dk c B) (h1 : D ≠ dk) (h2 : D ≠ c) : Deck (upd H D o) dk c B := by
  obtain ⟨⟨ns, t, a1, a2, a3⟩, a4⟩ := d
  refine ⟨⟨ns, t, ?_, ?_, a3⟩, a4⟩
  · rw [upd_ne h1.symm]
    exact a1
  · rw [upd_ne h2.symm]
    exact a2
/-- the tuple at t holds tuples of ints: the rows -/
structure StockAt (H : Hp) (t : Addr) (ls : List Addr) (rows : List (List Int)) : Prop where
  top : H t = some (.tup (ls.map V.ref))
  len : ls.length = rows.length
  row : ∀ (j : Nat) (l : Addr) (r : List Int), ls[j]? = some l → rows[j]? = some r → H l = some (.tup (r.map V.int))
theorem StockAt.kp {H H' : Hp} {dk c t : Addr} {ls : List Addr} {rows : List (List Int)} {B : Nat} (a : StockAt H t ls rows) (k : Kp2 dk c H H') (d : Deck H dk c B) : StockAt H' t ls rows := by
  obtain ⟨ns, t', h1, h2, _⟩ := d.ex
  have n1 : ∀ b xs, H b = some (.tup xs) → b ≠ dk ∧ b ≠ c := fun b xs e =>
    ⟨fun z => (by rw [z, h1] at e; cases e), fun z => (by rw [z, h2] at e; cases e)⟩
  refine ⟨k _ _ (n1 _ _ a.top).1 (n1 _ _ a.top).2 a.top, a.len, fun j l r e1 e2 => ?_⟩
  have h := a.row j l r e1 e2
  exact k _ _ (n1 _ _ h).1 (n1 _ _ h).2 h
theorem StockAt.same {H H' : Hp} {t : Addr} {ls : List Addr} {rows : List (List Int)} (a : StockAt H t ls rows) (k : Same H H') : StockAt H' t ls rows :=
  ⟨k _ _ a.top, a.len, fun j l r e1 e2 => k _ _ (a.row j l r e1 e2)⟩
/-! ### data of stocks and rows -/
def rowD (r : List Int) : PyData := .tuple (r.map PyData.int)
def stockD (rows : List (List Int)) : PyData := .tuple (rows.map rowD)
theorem dps_ints {K : PySem.W.Frag} {H : Hp} : ∀ r : List Int, DpAll K H (r.map V.int) (r.map PyData.int)
  | [] => .nil
  | x :: r => .cons (.int x) (dps_ints r)
theorem dp_row {K : PySem.W.Frag} {H : Hp} {p : Addr} {r : List Int} (h : H p = some (.tup (r.map V.int))) : Dp K H (.ref p) (rowD r) := .tup (SqT.of h) (dps_ints r)
theorem dps_rows {K : PySem.W.Frag} {H : Hp} : ∀ (ls : List Addr) (rows : List (List Int)), ls.length = rows.length →
    (∀ (j : Nat) (l : Addr) (r : List Int), ls[j]? = some l → rows[j]? = some r → H l = some (.tup (r.map V.int))) → DpAll K H (ls.map V.ref) (rows.map rowD)
  | [], [], _, _ => .nil
  | [], _ :: _, h, _ => by simp at h
  | _ :: _, [], h, _ => by simp at h
  | l :: ls, r :: rows, h, hat => .cons (dp_row (hat 0 l r rfl rfl)) (dps_rows ls rows (by simpa using h) fun j l' r' e1 e2 => hat (j + 1) l' r' e1 e2)
theorem StockAt.dp {K : PySem.W.Frag} {H : Hp} {t : Addr} {ls : List Addr} {rows : List (List Int)} (a : StockAt H t ls rows) : Dp K H (.ref t) (stockD rows) :=
  .tup (SqT.of a.top) (dps_rows ls rows a.len a.row)
theorem sm_row {r : List Int} (h : ∀ x ∈ r, 0 ≤ x ∧ x < 4096) (hl : r.length ≤ 4) : Sm 56 1 (rowD r) := by
  have a : SmA (r.map PyData.int).length 13 0 (r.map PyData.int) := SmA.all fun d hd => by
    obtain ⟨x, hx, rfl⟩ := List.mem_map.mp hd
    exact Sm.int (h x hx).1 (h x hx).2
  refine a.tup.up ?_ (Nat.le_refl _)
  rw [List.length_map]
  omega
theorem sm_stock {rows : List (List Int)} (h : ∀ r ∈ rows, r.length ≤ 4 ∧ ∀ x ∈ r, 0 ≤ x ∧ x < 4096) (hl : rows.length ≤ 4) : Sm 228 2 (stockD rows) := by
  have a : SmA (rows.map rowD).length 56 1 (rows.map rowD) := SmA.all fun d hd => by
    obtain ⟨r, hr, rfl⟩ := List.mem_map.mp hd
    exact sm_row (h r hr).2 (h r hr).1
  refine a.tup.up ?_ (Nat.le_refl _)
  rw [List.length_map]
  omega
theorem sm_pair {a b : List Int} (ha : ∀ x ∈ a, 0 ≤ x ∧ x < 4096) (hal : a.length ≤ 4) (hb : ∀ x ∈ b, 0 ≤ x ∧ x < 4096) (hbl : b.length ≤ 4) : Sm 114 2 (.list [rowD a, rowD b]) := by
  have q : SmA (0 + 1 + 1) 56 1 [rowD a, rowD b] := SmA.cons (sm_row ha hal) (SmA.cons (sm_row hb hbl) SmA.nil)
  exact q.lst.up (by omega) (by omega)
theorem sum_bd {b : Int} : ∀ {xs : List Int}, (∀ x ∈ xs, 0 ≤ x ∧ x ≤ b) → 0 ≤ xs.sum ∧ xs.sum ≤ (xs.length : Int) * b
  | [], _ => by simp
  | x :: xs, h => by
    have h1 := h x List.mem_cons_self
    have h2 := sum_bd (xs := xs) fun y hy => h y (List.mem_cons_of_mem _ hy)
    rw [List.sum_cons, List.length_cons, Int.natCast_add, Int.add_mul]
    omega
theorem getD_bd {r : List Int} {b : Int} (h : ∀ x ∈ r, 0 ≤ x ∧ x ≤ b) (hb : 0 ≤ b) (i : Nat) : 0 ≤ r.getD i 0 ∧ r.getD i 0 ≤ b := by
  rw [List.getD_eq_getElem?_getD]
  cases e : r[i]? with
  | none => exact ⟨Int.le_refl _, hb⟩
  | some x => exact h x (List.mem_of_getElem? e)
structure Tx (K : PySem.W.Frag) (mg : Str → Option Value) (fN fU fTu fA fIk fEr fO fSz fMg fFu fCo fSp fCa fI fR fFc fLo fSo fOv fDw fSv fIs fSt fSn fDk fD fCu fS fWh fKr fDv fWr : Addr) (dN dU dTu dA dIk dEr dO dSz dMg dFu dCo dSp dCa dI dR dFc dLo dSo dOv dDw dSv dIs dSt dSn dDk dD dCu dS dWh dKr dDv dWr : FuncData) : Prop where
  N : Fun K "is_number" "is_number" sIsNum fN dN
  bN : Binds K dN ["value"] []
  gN : mg "is_number" = some (.ref fN)
  U : Fun K "is_number_up_to" "is_number_up_to" sUpTo fU dU
  bU : Binds K dU ["value", "most"] []
  gU : mg "is_number_up_to" = some (.ref fU)
  Tu : Fun K "is_tuple_of" "is_tuple_of" sTupOf fTu dTu
  bTu : Binds K dTu ["value", "fewest", "most"] []
  gTu : mg "is_tuple_of" = some (.ref fTu)
  A : Fun K "are_numbers" "are_numbers" sNums fA dA
  bA : Binds K dA ["value", "fewest", "most", "limit"] []
  gA : mg "are_numbers" = some (.ref fA)
  Ik : Fun K "is_stock" "is_stock" sIsStock fIk dIk
  bIk : Binds K dIk ["value"] []
  gIk : mg "is_stock" = some (.ref fIk)
  Er : Fun K "stock_error" "stock_error" sErr fEr dEr
  bEr : Binds K dEr ["value"] []
  gEr : mg "stock_error" = some (.ref fEr)
  O : Fun K "totals_of" "totals_of" sTotals fO dO
  bO : Binds K dO ["stock"] []
  gO : mg "totals_of" = some (.ref fO)
  Sz : Fun K "sizes_of" "sizes_of" sSizes fSz dSz
  bSz : Binds K dSz ["stock"] []
  gSz : mg "sizes_of" = some (.ref fSz)
  Mg : Fun K "merged" "merged" sMerged fMg dMg
  gMg : mg "merged" = some (.ref fMg)
  Fu : Fun K "fulfilled_by" "fulfilled_by" sFul fFu dFu
  bFu : Binds K dFu ["collections", "counts"] []
  gFu : mg "fulfilled_by" = some (.ref fFu)
  Co : Fun K "contain" "contain" sCont fCo dCo
  bCo : Binds K dCo ["counts", "collection"] []
  gCo : mg "contain" = some (.ref fCo)
  Sp : Fun K "spoilings_of" "spoilings_of" sSpoil fSp dSp
  bSp : Binds K dSp ["collections"] []
  gSp : mg "spoilings_of" = some (.ref fSp)
  Ca : Fun K "caps_of" "caps_of" sCaps fCa dCa
  bCa : Binds K dCa ["collections", "spoiling"] []
  gCa : mg "caps_of" = some (.ref fCa)
  I : Fun K "room_in" "room_in" sRoomIn fI dI
  bI : Binds K dI ["stock", "caps", "drawers"] []
  gI : mg "room_in" = some (.ref fI)
  R : Fun K "room_of" "room_of" sRoomOf fR dR
  bR : Binds K dR ["totals", "caps"] []
  gR : mg "room_of" = some (.ref fR)
  Fc : Fun K "find_certificate" "find_certificate" sFind fFc dFc
  bFc : Binds K dFc ["stock", "collections", "plan"] []
  gFc : mg "find_certificate" = some (.ref fFc)
  Lo : Fun K "loads_of" "loads_of" sLoads fLo dLo
  bLo : Binds K dLo ["stock", "plan"] []
  gLo : mg "loads_of" = some (.ref fLo)
  So : Fun K "sets_of_drawers" "sets_of_drawers" sSetsOf fSo dSo
  bSo : Binds K dSo ["stock"] []
  gSo : mg "sets_of_drawers" = some (.ref fSo)
  Ov : Fun K "overfull" "overfull" sOver fOv dOv
  bOv : Binds K dOv ["loads", "caps"] []
  gOv : mg "overfull" = some (.ref fOv)
  Dw : Fun K "draw_within" "draw_within" sWithin fDw dDw
  bDw : Binds K dDw ["stock", "caps", "plan"] []
  gDw : mg "draw_within" = some (.ref fDw)
  Sv : Fun K "spare_of" "spare_of" sSpare fSv dSv
  bSv : Binds K dSv ["loads", "caps", "kind"] []
  gSv : mg "spare_of" = some (.ref fSv)
  Is : Fun K "is_sure" "is_sure" sIsSure fIs dIs
  bIs : Binds K dIs ["stock", "collections", "plan"] []
  gIs : mg "is_sure" = some (.ref fIs)
  St : Fun K "sure_total" "sure_total" sTotal fSt dSt
  bSt : Binds K dSt ["stock", "collections"] []
  gSt : mg "sure_total" = some (.ref fSt)
  Sn : Fun K "sure_number" "sure_number" sNumber fSn dSn
  bSn : Binds K dSn ["stock", "collections", "drawer"] []
  gSn : mg "sure_number" = some (.ref fSn)
  Dk : Fun K "_law_deck" "_law_deck" sDeck fDk dDk
  bDk : Binds K dDk ["_law_script"] []
  gDk : mg "_law_deck" = some (.ref fDk)
  D : Fun K "_law_draw" "_law_draw" sDraw fD dD
  bD : Binds K dD ["_law_deck_here", "_law_limit"] []
  gD : mg "_law_draw" = some (.ref fD)
  Cu : Fun K "_law_counts" "_law_counts" sCounts fCu dCu
  bCu : Binds K dCu ["_law_deck_here", "_law_kinds", "_law_most"] []
  gCu : mg "_law_counts" = some (.ref fCu)
  S : Fun K "_law_stock" "_law_stock" sStock fS dS
  bS : Binds K dS ["_law_deck_here", "_law_most", "_law_high", "_law_kinds"] []
  gS : mg "_law_stock" = some (.ref fS)
  Wh : Fun K "_law_wishes" "_law_wishes" sWishes fWh dWh
  bWh : Binds K dWh ["_law_deck_here", "_law_most", "_law_high", "_law_kinds"] []
  gWh : mg "_law_wishes" = some (.ref fWh)
  Kr : Fun K "_law_kept_right" "_law_kept_right" sKeptR fKr dKr
  bKr : Binds K dKr ["_law_stock_here", "_law_other", "_law_wishes_here"] []
  gKr : mg "_law_kept_right" = some (.ref fKr)
  Dv : Fun K "_law_divided_right" "_law_divided_right" sDivR fDv dDv
  bDv : Binds K dDv ["_law_deck_here", "_law_stock_here", "_law_wishes_here", "_law_one", "_law_last"] []
  gDv : mg "_law_divided_right" = some (.ref fDv)
  Wr : Fun K "_law_whole_right" "_law_whole_right" sWhoR fWr dWr
  bWr : Binds K dWr ["_law_stock_here", "_law_wishes_here"] []
  gWr : mg "_law_whole_right" = some (.ref fWr)
  m_all : mg "all" = none
  m_len : mg "len" = none
  m_enumerate : mg "enumerate" = none
  m_tuple : mg "tuple" = none
  m_sum : mg "sum" = none
  m_range : mg "range" = none
  m_list : mg "list" = none
  m_sorted : mg "sorted" = none
  m_isinstance : mg "isinstance" = none
  m_int : mg "int" = none
  m_zip : mg "zip" = none
  m_min : mg "min" = none
  m_max : mg "max" = none
  m_set : mg "set" = none
  m_bool : mg "bool" = none
  m_abs : mg "abs" = none
  mxd : ∃ tk, mg "MAX_DRAWERS" = some (.int 4 tk)
  mxk : ∃ tk, mg "MAX_KINDS" = some (.int 4 tk)
  mxc : ∃ tk, mg "MAX_COUNT" = some (.int 50 tk)
end DD
namespace DD
open PySem PySem.Spec PyProof.Rows L2 RZ
theorem cat_gen {K : PySem.W.Frag} {H : Hp} {a b : Addr} {xs ys : List V} {Q : VK} (ha : H a = some (.tup xs)) (hb : H b = some (.tup ys)) (hl : xs.length + ys.length ≤ 1000)
    (q : ∀ p H', Same H H' → H' p = some (.tup (xs ++ ys)) → Q (.ref p) H') : rCatA K (.ref a) (.ref b) H Q := by
  refine ⟨a, b, xs, ys, rfl, rfl, SqT.of ha, SqT.of hb, Nat.le_of_lt (len_lt hl), fun e => ?_, fun _ e => ?_, fun _ _ p np => ?_⟩
  · subst e
    exact q b H (fun _ _ e => e) hb
  · subst e
    exact q a H (fun _ _ e => e) (by rw [List.append_nil]; exact ha)
  · exact q p _ (same_new np) upd_same
theorem sl_gen {K : PySem.W.Frag} {H : Hp} {a : Addr} {xs : List V} {lo hi : Option Int} {Q : VK} (ha : H a = some (.tup xs))
    (q : ∀ p H', Same H H' → H' p = some (.tup (cutV xs lo hi)) → Q (.ref p) H') : rSlA K (.ref a) lo hi H Q := by
  refine ⟨a, xs, rfl, SqT.of ha, fun e => ?_, fun _ p np => ?_⟩
  · refine q a H (fun _ _ e => e) ?_
    unfold cutV
    rw [e.1, e.2, Nat.sub_zero, List.drop_zero, List.take_length]
    exact ha
  · exact q p _ (same_new np) upd_same
theorem cut_to {r : List Int} {s : Nat} : cutV (r.map V.int) none (some (s : Int)) = (r.take s).map V.int := by
  unfold cutV
  rw [HT.sIx_none, HT.sIx_nat, List.drop_zero, Nat.sub_zero, List.length_map, ← List.map_take]
  congr 1
  by_cases h : s ≤ r.length
  · rw [Nat.min_eq_left h]
  · rw [Nat.min_eq_right (by omega), List.take_length, List.take_of_length_le (by omega)]
theorem cut_from {r : List Int} {s : Nat} : cutV (r.map V.int) (some (s : Int)) none = (r.drop s).map V.int := by
  unfold cutV
  rw [HT.sIx_none, HT.sIx_nat, List.length_map, ← List.map_drop, ← List.map_take]
  congr 1
  by_cases h : s ≤ r.length
  · rw [Nat.min_eq_left h, List.take_of_length_le (by rw [List.length_drop]; omega)]
  · rw [Nat.min_eq_right (by omega), List.drop_of_length_le (Nat.le_refl _), List.drop_of_length_le (by omega), List.take_nil]

/-! ### facts that stay while the deck turns -/
theorem tup_kp {H H' : Hp} {dk c p : Addr} {B : Nat} {xs : List V} (h : H p = some (.tup xs)) (d : Deck H dk c B) (k : Kp2 dk c H H') : H' p = some (.tup xs) := by
  obtain ⟨ns, t', h1, h2, _⟩ := d.ex
  exact k _ _ (fun z => by rw [z, h1] at h; cases h) (fun z => by rw [z, h2] at h; cases h) h
/-- a collection: n numbers from 0 to hi, one of them above 0 -/
structure Good (n : Nat) (hi : Int) (r : List Int) : Prop where
  len : r.length = n
  bd : ∀ x ∈ r, 0 ≤ x ∧ x ≤ hi
  pos : ∃ x ∈ r, 0 < x
/-- addresses of tuples of ints, row by row -/
def RowsAt (H : Hp) (ls : List Addr) (rows : List (List Int)) : Prop := ∀ (j : Nat) (l : Addr) (r : List Int), ls[j]? = some l → rows[j]? = some r → H l = some (.tup (r.map V.int))
theorem RowsAt.kp {H H' : Hp} {dk c : Addr} {B : Nat} {ls : List Addr} {rows : List (List Int)} (a : RowsAt H ls rows) (d : Deck H dk c B) (k : Kp2 dk c H H') : RowsAt H' ls rows :=
  fun j l r e1 e2 => tup_kp (a j l r e1 e2) d k
theorem RowsAt.same {H H' : Hp} {ls : List Addr} {rows : List (List Int)} (a : RowsAt H ls rows) (k : Same H H') : RowsAt H' ls rows := fun j l r e1 e2 => k _ _ (a j l r e1 e2)
/-- a list that changes is none of the rows -/
theorem RowsAt.updL {H : Hp} {F : Addr} {xs : List V} {o : HO} {ls : List Addr} {rows : List (List Int)} (a : RowsAt H ls rows) (h : H F = some (.lst xs)) : RowsAt (upd H F o) ls rows := fun j l r e1 e2 => by
  have h2 := a j l r e1 e2
  rw [upd_ne (fun z => by rw [z, h] at h2; cases h2)]
  exact h2
theorem RowsAt.snoc {H : Hp} {ls : List Addr} {rows : List (List Int)} {l : Addr} {r : List Int} (a : RowsAt H ls rows) (hl : ls.length = rows.length) (h : H l = some (.tup (r.map V.int))) : RowsAt H (ls ++ [l]) (rows ++ [r]) := by
  intro j l' r' x1 x2
  by_cases hj : j < ls.length
  · rw [List.getElem?_append_left hj] at x1
    rw [List.getElem?_append_left (by omega)] at x2
    exact a j l' r' x1 x2
  · have hj2 : j = ls.length := by
      have := (List.getElem?_eq_some_iff.mp x1).1
      rw [List.length_append] at this
      simp at this
      omega
    subst hj2
    rw [List.getElem?_append_right (Nat.le_refl _), Nat.sub_self] at x1
    rw [hl, List.getElem?_append_right (Nat.le_refl _), Nat.sub_self] at x2
    obtain rfl : l = l' := Option.some.inj x1
    obtain rfl : r = r' := Option.some.inj x2
    exact h
theorem RowsAt.init {H : Hp} {ls : List Addr} {rows : List (List Int)} {l : Addr} {r : List Int} (a : RowsAt H (ls ++ [l]) (rows ++ [r])) : RowsAt H ls rows := fun j l' r' x1 x2 =>
  a j l' r' (by rw [List.getElem?_append_left (List.getElem?_eq_some_iff.mp x1).1]; exact x1) (by rw [List.getElem?_append_left (List.getElem?_eq_some_iff.mp x2).1]; exact x2)
theorem Kp2.updF {H H' : Hp} {dk c F : Addr} {o : HO} (k : Kp2 dk c H H') (n : H F = none) : Kp2 dk c H (upd H' F o) := fun b o' h1 h2 e => by
  rw [upd_ne (ne_of_none e n)]
  exact k b o' h1 h2 e

theorem cutV_all {xs : List V} {lo hi : Option Int} (h : HT.sIx xs.length 0 lo = 0 ∧ HT.sIx xs.length xs.length hi = xs.length) : cutV xs lo hi = xs := by
  unfold cutV
  rw [h.1, h.2, List.drop_zero, Nat.sub_zero, List.take_length]
def rSlQ : V → Option Int → Option Int → Hp → VK → Prop := fun x lo hi H Q => ∃ a xs, x = .ref a ∧ H a = some (.tup xs) ∧ ∀ p H', Same H H' → H' p = some (.tup (cutV xs lo hi)) → Q (.ref p) H'
theorem sl_tupQ {X : Cx} : SlR X rSlQ := by
  intro pins s σ H x v vl vu lo hi sl Q I rx h1 h2 h3 h
  obtain ⟨a, xs, rfl, ha, q⟩ := h
  refine sl_tupA pins s σ H _ v vl vu lo hi sl Q I rx h1 h2 h3 ⟨a, xs, rfl, SqT.of ha, fun e => q a H (Same.refl _) (by rw [cutV_all e]; exact ha), fun _ p np => q p _ (same_new np) upd_same⟩
def rCatQ : R2 := fun x y H Q => ∃ a b xs ys, x = .ref a ∧ y = .ref b ∧ H a = some (.tup xs) ∧ H b = some (.tup ys) ∧ xs.length + ys.length ≤ 1000 ∧ ∀ p H', Same H H' → H' p = some (.tup (xs ++ ys)) → Q (.ref p) H'
theorem op_catQ {X : Cx} : OpR X (binaryOp .Add) rCatQ := by
  intro pins s σ H x y v u Q I rx ry h
  obtain ⟨a, b, xs, ys, rfl, rfl, ha, hb, hl, q⟩ := h
  refine op_catA pins s σ H _ _ v u Q I rx ry ⟨a, b, xs, ys, rfl, rfl, SqT.of ha, SqT.of hb, Nat.le_of_lt (len_lt hl), fun e => q b H (Same.refl _) ?_, fun _ e => q a H (Same.refl _) ?_, fun _ _ p np => q p _ (same_new np) upd_same⟩
  · rw [e]
    exact hb
  · rw [e, List.append_nil]
    exact ha
theorem meets_mul1 (l : Addr) (items : Array Value) (n : Nat) (dd : Option Addr) (sl : Array (Option Value)) (u : Tok) (hi : items.isEmpty = false) : Meets (Builtin.«tuple.__mul__» { pos := [Value.ref l, Value.int 1 u] })
    (fun _ R s => s.heap.get? l = some { cls := Value.type "tuple", dict := dd, data := Data.seq items n, slots := sl } ∧ R (Except.ok (Flow.ret (Value.ref l))) s) :=
  .of_wp fun prog w A R s h => by
    obtain ⟨hp, g, d, tk, os⟩ := s
    obtain ⟨h1, h⟩ := h
    have h2 : hp.get? l = some { cls := Value.type "tuple", dict := dd, data := Data.seq items n, slots := sl } := h1
    wp_walk
    exact ⟨_, rfl, h⟩
def rRepQ : R2 := fun x y H Q => ∃ l k xs, x = .ref l ∧ y = .int k ∧ H l = some (.tup xs) ∧ xs ≠ [] ∧ 1 ≤ k ∧ k ≤ 1000 ∧ xs.length ≤ 1000 ∧ ∀ p H', Same H H' → H' p = some (.tup (List.replicate k.toNat xs).flatten) → Q (.ref p) H'
theorem op_repQ {X : Cx} : OpR X (binaryOp .Mult) rRepQ := by
  intro pins s σ H x y v u Q I rx ry h
  obtain ⟨l, k, xs, rfl, rfl, hl, hx, k1, k2, hn, q⟩ := h
  by_cases hk : 2 ≤ k
  · exact op_repT pins s σ H _ _ v u Q I rx ry ⟨l, k, xs, rfl, rfl, SqT.of hl, hx, hk, k2, hn, fun p np => q p _ (same_new np) upd_same⟩
  · obtain rfl : k = 1 := by omega
    cases rx
    obtain ⟨t, rfl⟩ := ry
    obtain ⟨its, rv, ⟨o, h1, h2, n, h3⟩, hz⟩ := I.tuple (SqT.of (K := X.K) hl)
    obtain ⟨oc, od, oda, osl⟩ := o
    simp only at h2 h3
    subst h2 h3
    have he : its.toArray.isEmpty = false := by
      cases rv with
      | nil => exact absurd rfl hx
      | cons _ _ => rfl
    refine wpAny_binaryOp_repeat_ref (T := "tuple") (U := "int") (by decide) ⟨_, h1, rfl⟩ (fun s' => typeIs_int s' _ _) noFill_tuple_mul F.fills_int_mul F.slot_int_rmul repeat_tuple (F.slot_int_index.lookup) ?_
    refine call_meets F.slot_int_rmul (typeIs_int _ _ _) F.entry_int_rmul (F.args_int_rmul_2 _ _) (int_rmul_tuple _ _ _ _ _ _ _) ⟨h1, rfl, ⟨_, h1, rfl⟩, ?_⟩
    refine call_meets F.slot_tuple_mul ⟨_, h1, rfl⟩ F.entry_tuple_mul (F.args_tuple_mul_2 _ _) (meets_mul1 l its.toArray n od osl t he) ⟨h1, ⟨.ref l, H, I, rfl, q l H (Same.refl _) ?_⟩⟩
    rw [hl]
    show _ = some (HO.tup (List.replicate 1 xs).flatten)
    rw [List.replicate_one, List.flatten_singleton]

theorem rep_one {z : Int} {n : Nat} : (List.replicate n [V.int z]).flatten = (List.replicate n z).map V.int := by
  induction n with
  | zero => rfl
  | succ n ih => rw [List.replicate_succ, List.flatten_cons, ih, List.replicate_succ]; rfl
theorem three_at {r a b c : Int} (h0 : 0 ≤ r) (h : r < 3) : ∃ z : Int, (z = a ∨ z = b ∨ z = c) ∧ atI [V.int a, V.int b, V.int c] r = some (.int z) := by
  have e : r = 0 ∨ r = 1 ∨ r = 2 := by omega
  rcases e with rfl | rfl | rfl
  · exact ⟨a, .inl rfl, rfl⟩
  · exact ⟨b, .inr (.inl rfl), rfl⟩
  · exact ⟨c, .inr (.inr rfl), rfl⟩
def TK (H H' : Hp) : Prop := ∀ b xs, H b = some (.tup xs) → H' b = some (.tup xs)
theorem TK.refl {H : Hp} : TK H H := fun _ _ e => e
theorem TK.trans {H H1 H2 : Hp} (a : TK H H1) (b : TK H1 H2) : TK H H2 := fun c xs e => b c xs (a c xs e)
theorem TK.same {H H' : Hp} (s : Same H H') : TK H H' := fun b xs e => s _ _ e
theorem TK.kp {H H' : Hp} {dk c : Addr} {B : Nat} (d : Deck H dk c B) (k : Kp2 dk c H H') : TK H H' := fun b xs e => tup_kp e d k
theorem TK.lst {H : Hp} {D : Addr} {xs : List V} {o : HO} (h : H D = some (.lst xs)) : TK H (upd H D o) := fun b ys e => by
  rw [upd_ne (fun z => by rw [z, h] at e; cases e)]
  exact e
theorem StockAt.tk {H H' : Hp} {t : Addr} {ls : List Addr} {rows : List (List Int)} (a : StockAt H t ls rows) (k : TK H H') : StockAt H' t ls rows :=
  ⟨k _ _ a.top, a.len, fun j l r e1 e2 => k _ _ (a.row j l r e1 e2)⟩

theorem log2_lt_20 {n : Nat} (h : n < 1048576) : n.log2 ≤ 19 := by
  by_cases h0 : n = 0
  · subst h0; decide
  · have := (Nat.log2_lt h0 (k := 20)).mpr (by omega)
    omega
theorem Sm.intM {i : Int} (h0 : 0 ≤ i) (h : i < 1048576) : Sm 21 0 (.int i) where
  lay := rfl
  short := by
    refine decide_eq_true ?_
    have e := PyProof.Rows.toString_length_le (v := i) (k := 7) h0 (by decide) (by omega)
    exact Nat.le_trans e (by decide)
  show_ := decide_eq_true (by have := log2_lt_20 (n := i.natAbs) (by omega); omega)
  wt := by
    have := log2_lt_20 (n := i.natAbs) (by omega)
    show (if i == 0 then 0 else i.natAbs.log2 + 1) ≤ 21
    split
    · omega
    · omega
  dp := Nat.le_refl _
end DD
namespace DD
open PySem PySem.Spec PyProof.Rows L2 RZ
/-! ### spoilings, two ways -/
def posAt (row : List Int) (j : Nat) : Bool := decide (row.getD j 0 > 0)
def kindsUp (row : List Int) (m : Nat) : List Int := ((List.range m).filter (posAt row)).map fun j => (0 : Int) + (j : Nat)
def kindsOf (row : List Int) : List Int := kindsUp row row.length
theorem kinds_succ (row : List Int) (m : Nat) : kindsUp row (m + 1) = kindsUp row m ++ (if posAt row m = true then [(0 : Int) + (m : Nat)] else []) := by
  unfold kindsUp
  rw [List.range_succ, List.filter_append, List.map_append]
  congr 1
  by_cases e : posAt row m = true
  · rw [if_pos e, List.filter_cons_of_pos e]
    rfl
  · rw [if_neg e, List.filter_cons_of_neg e]
    rfl
theorem kinds_len (row : List Int) (m : Nat) : (kindsUp row m).length ≤ m := by
  unfold kindsUp
  rw [List.length_map]
  exact Nat.le_trans (List.length_filter_le _ _) (by rw [List.length_range]; exact Nat.le_refl _)
theorem kinds_bd (row : List Int) (m : Nat) : ∀ x ∈ kindsUp row m, 0 ≤ x ∧ x < (m : Int) := by
  intro x hx
  obtain ⟨j, hj, rfl⟩ := List.mem_map.mp hx
  have := List.mem_range.mp (List.mem_filter.mp hj).1
  omega
def spStep (acc : List (List Int)) (row : List Int) : List (List Int) := acc.flatMap fun s => (kindsOf row).map fun k => s ++ [k]
def spOf (rows : List (List Int)) : List (List Int) := rows.foldl spStep [[]]
def spR : List (List Int) → List (List Int)
  | [] => [[]]
  | r :: rs => (kindsOf r).flatMap fun k => (spR rs).map fun s => k :: s
theorem fold_sp : ∀ (rows : List (List Int)) (acc : List (List Int)), rows.foldl spStep acc = acc.flatMap fun s => (spR rows).map fun x => s ++ x
  | [], acc => by
    show acc = acc.flatMap fun s => [s ++ []]
    induction acc with
    | nil => rfl
    | cons a acc ih => rw [List.flatMap_cons, ← ih, List.append_nil]; rfl
  | r :: rs, acc => by
    show rs.foldl spStep (spStep acc r) = _
    rw [fold_sp rs]
    unfold spStep
    rw [List.flatMap_assoc]
    congr 1
    funext s
    show ((kindsOf r).map fun k => s ++ [k]).flatMap _ = _
    rw [List.flatMap_map]
    show _ = ((kindsOf r).flatMap fun k => (spR rs).map fun s => k :: s).map fun x => s ++ x
    rw [List.map_flatMap]
    congr 1
    funext k
    rw [List.map_map]
    congr 1
    funext x
    simp
theorem spOf_eq (rows : List (List Int)) : spOf rows = spR rows := by
  unfold spOf
  rw [fold_sp]
  simp
theorem step_len (acc : List (List Int)) (row : List Int) : (spStep acc row).length = acc.length * (kindsOf row).length := by
  unfold spStep
  induction acc with
  | nil => simp
  | cons a acc ih =>
    rw [List.flatMap_cons, List.length_append, ih, List.length_map, List.length_cons, Nat.succ_mul]
    omega
theorem spOf_snoc {rows : List (List Int)} {i : Nat} {r : List Int} (h : rows[i]? = some r) : spOf (rows.take (i + 1)) = spStep (spOf (rows.take i)) r := by
  unfold spOf
  rw [List.take_add_one, h, List.foldl_append]
  rfl
theorem spOf_len {rows : List (List Int)} (h : ∀ r ∈ rows, r.length ≤ 4) : ∀ i, (spOf (rows.take i)).length ≤ 4 ^ i
  | 0 => Nat.le_refl _
  | i + 1 => by
    cases e : rows[i]? with
    | none =>
      have hn := List.getElem?_eq_none_iff.mp e
      have e1 : rows.take (i + 1) = rows.take i := by rw [List.take_of_length_le (by omega), List.take_of_length_le hn]
      rw [e1]
      exact Nat.le_trans (spOf_len h i) (Nat.pow_le_pow_right (by decide) (Nat.le_succ _))
    | some r =>
      rw [spOf_snoc e, step_len, Nat.pow_succ]
      exact Nat.mul_le_mul (spOf_len h i) (Nat.le_trans (kinds_len _ _) (h r (List.mem_of_getElem? e)))
theorem spR_bd : ∀ {rows : List (List Int)}, (∀ r ∈ rows, r.length ≤ 4) → ∀ s ∈ spR rows, s.length = rows.length ∧ ∀ x ∈ s, 0 ≤ x ∧ x < 4
  | [], _ => by
    intro s hs
    rw [List.mem_singleton.mp hs]
    exact ⟨rfl, fun x hx => by cases hx⟩
  | r :: rs, h => by
    intro s hs
    obtain ⟨k, hk, hs⟩ := List.mem_flatMap.mp hs
    obtain ⟨s', hs', rfl⟩ := List.mem_map.mp hs
    obtain ⟨h1, h2⟩ := spR_bd (fun r' hr' => h r' (List.mem_cons_of_mem _ hr')) s' hs'
    refine ⟨by rw [List.length_cons, List.length_cons, h1], fun x hx => ?_⟩
    rcases List.mem_cons.mp hx with e | e
    · have := kinds_bd r r.length k hk
      have := h r List.mem_cons_self
      rw [e]
      omega
    · exact h2 x e
theorem spR_len {rows : List (List Int)} (h : ∀ r ∈ rows, r.length ≤ 4) (hl : rows.length ≤ 4) : (spR rows).length ≤ 256 := by
  have a := spOf_len h 4
  rw [List.take_of_length_le hl, spOf_eq] at a
  exact a
theorem take_flat {acc : List (List Int)} {row : List Int} {i : Nat} {s : List Int} (h : acc[i]? = some s) : spStep (acc.take (i + 1)) row = spStep (acc.take i) row ++ (kindsOf row).map fun k => s ++ [k] := by
  unfold spStep
  rw [List.take_add_one, h, List.flatMap_append]
  simp
theorem RowsAt.nil {H : Hp} : RowsAt H [] [] := fun j l r e => by simp at e
theorem cutV_from {xs : List V} {s : Nat} : cutV xs (some (s : Int)) none = xs.drop s := by
  unfold cutV
  rw [HT.sIx_none, HT.sIx_nat]
  by_cases h : s ≤ xs.length
  · rw [Nat.min_eq_left h, List.take_of_length_le (by rw [List.length_drop]; omega)]
  · rw [Nat.min_eq_right (by omega), List.drop_of_length_le (Nat.le_refl _), List.drop_of_length_le (by omega), List.take_nil]
theorem cutV_to {xs : List V} {s : Nat} : cutV xs none (some (s : Int)) = xs.take s := by
  unfold cutV
  rw [HT.sIx_none, HT.sIx_nat, List.drop_zero, Nat.sub_zero]
  by_cases h : s ≤ xs.length
  · rw [Nat.min_eq_left h]
  · rw [Nat.min_eq_right (by omega), List.take_length, List.take_of_length_le (by omega)]

end DD
namespace DD
open PySem PySem.Spec PyProof.Rows L2 RZ

/-! ### fulfilled_by -/
def contains (cs ns : List Int) : Bool := (List.zipWith (fun c n => decide (c ≥ n)) cs ns).all id
def optV : Option Nat → V
  | none => .non
  | some j => .int (j : Int)
def fulOf (rows : List (List Int)) (cs : List Int) : Option Nat := rows.findIdx? (contains cs)
theorem find_take {α : Type} {p : α → Bool} {xs : List α} {i : Nat} {x : α} (h : xs[i]? = some x) :
    (xs.take (i + 1)).findIdx? p = ((xs.take i).findIdx? p).or (if p x = true then some i else none) := by
  rw [List.take_add_one, h, List.findIdx?_append]
  have hl : (xs.take i).length = i := by
    rw [List.length_take]
    have := (List.getElem?_eq_some_iff.mp h).1
    omega
  rw [hl]
  by_cases e : p x = true
  · simp [List.findIdx?_cons, e]
  · simp [List.findIdx?_cons, e]
theorem find_some {α : Type} {p : α → Bool} {xs : List α} {i : Nat} {x : α} (h : xs[i]? = some x) (h0 : (xs.take i).findIdx? p = none) (e : p x = true) : xs.findIdx? p = some i := by
  have h1 := find_take (p := p) h
  rw [h0, if_pos e, Option.none_or] at h1
  have h2 : xs.findIdx? p = ((xs.take (i + 1)) ++ xs.drop (i + 1)).findIdx? p := by rw [List.take_append_drop]
  rw [h2, List.findIdx?_append, h1]
  rfl

abbrev NC : List Str := ["counts", "collection", "count", "needed"]
theorem scCont : FnScope NC ["counts", "collection"] (defScope sCont) := ⟨rfl, rfl, rfl, by decide +kernel, rfl, by decide +kernel, by decide +kernel⟩
theorem scFul : FnScope ["collections", "counts", "index", "collection"] ["collections", "counts"] (defScope sFul) := ⟨rfl, rfl, rfl, by decide +kernel, rfl, by decide +kernel, by decide +kernel⟩
section
variable {P : Program} {w : World} {K : PySem.W.Frag} {mg : Str → Option Value} {base : Heap}
def spCont : Sp := fun vs H Q _ => ∃ (a b : Addr) (cs ns : List Int), vs = [.ref a, .ref b] ∧ H a = some (.tup (cs.map V.int)) ∧ H b = some (.tup (ns.map V.int)) ∧ cs.length = ns.length ∧ cs.length ≤ 1000 ∧
  ∀ H', Same H H' → Q (.bl (contains cs ns)) H'
theorem ok_cont {f : Addr} {fd : FuncData} {k : Nat} (F : Fun K "contain" "contain" sCont f fd) (mA : mg "all" = none) (mz : mg "zip" = none) : FnOk P w K mg base CX0 (k + 1) f fd ["counts", "collection"] spCont := by
  refine F.ok scCont (fun vs H Q E h => ?_) (fun cdv A outer s H vs Q E hr h => ?_)
  · obtain ⟨a, b, cs, ns, rfl, _⟩ := h
    rfl
  · obtain ⟨a, b, cs, ns, rfl, ha, hb, hl, hl2, q⟩ := h
    refine ⟨_, pss_one (ps_ret (pe_callB (cr_all rfl) (by rfl) mA (by decide +kernel) (pa_cons (pe_lc (own := [("count", 2), ("needed", 3)]) (g := gTup K 2 (gCons (gName 2) (gCons (gName 3) gNil))) rfl scCont.nd (pi_zipA (by rfl) mz (pa_cons (pv 0) (pa_cons (pv 1) pa_nil)))
        (blkOk_by (own := [("count", 2), ("needed", 3)]) (N := NC) (sc := defScope sCont) (by decide +kernel)) (fun _ _ _ _ _ => pg_tup rfl (pgs_cons (pg_name (i := 2) scCont.nd rfl (Or.inl rfl)) (pgs_cons (pg_name (i := 3) scCont.nd rfl (Or.inl rfl)) pgs_nil))) (fun _ _ _ _ _ => pts_nil)
        (fun _ _ _ _ _ => pe_cmpR op_ge (pv 2) (pv 3) (nomark _))) pa_nil))), ?_⟩
    refine ⟨_, rfl, _, rfl, a, b, _, _, rfl, .inr ⟨SqT.of ha, SqT.of hb, fun D nD => ?_⟩⟩
    refine lc_zipT (xs := cs.map V.int) (ys := ns.map V.int) (by rw [List.length_map, List.length_map, hl]) (fun i H' => H' D = some (.lst (((List.zipWith (fun c n => decide (c ≥ n)) cs ns).take i).map V.bl)) ∧ Same H H') ⟨upd_same, same_new nD⟩
      (fun i H' _ h => ⟨SqT.of (h.2 _ _ ha), SqT.of (h.2 _ _ hb)⟩) (fun i x y T H' hx hy h nT => ?_) (fun H' h => ?_)
    · obtain ⟨hD, sm⟩ := h
      obtain ⟨c, hc, rfl⟩ := get_map hx
      obtain ⟨n, hn, rfl⟩ := get_map hy
      have hz : (List.zipWith (fun c n => decide (c ≥ n)) cs ns)[i]? = some (decide (c ≥ n)) := by
        rw [List.getElem?_zipWith, hc, hn]
      have sT : Same H' (upd H' T (.tup [.int c, .int n])) := same_new nT
      refine ⟨T, [.int c, .int n], rfl, .inl (.inl upd_same), rfl, .int c, [.int n], rfl, .int n, [], rfl, rfl, rfl, .int c, rfl, .int n, rfl, c, n, rfl, rfl, _, sT _ _ hD, ?_, ?_, fun b' o e => ?_⟩
      · rw [List.length_map, List.length_take]
        have : (List.zipWith (fun c n => decide (c ≥ n)) cs ns).length ≤ cs.length := by rw [List.length_zipWith]; omega
        exact len_lt (by omega)
      · rw [upd_same, take_succ_map hz]
      · rw [upd_ne (ne_of_none e nD)]
        exact sT _ _ (sm b' o e)
    · obtain ⟨hD, sm⟩ := h
      rw [List.length_map, List.take_of_length_le (by rw [List.length_zipWith]; omega)] at hD
      exact ⟨D, _, rfl, SqL.of hD, q H' sm⟩
def spFul : Sp := fun vs H Q _ => ∃ (t b : Addr) (ls : List Addr) (rows : List (List Int)) (cs : List Int), vs = [.ref t, .ref b] ∧ StockAt H t ls rows ∧ H b = some (.tup (cs.map V.int)) ∧ (∀ r ∈ rows, r.length = cs.length) ∧ cs.length ≤ 1000 ∧
  ∀ H', Same H H' → Q (optV (fulOf rows cs)) H'
theorem ok_ful {f fC : Addr} {fd fdC : FuncData} {k : Nat} (F : Fun K "fulfilled_by" "fulfilled_by" sFul f fd) (FC : Fun K "contain" "contain" sCont fC fdC) (bC : Binds K fdC ["counts", "collection"] []) (gC : mg "contain" = some (.ref fC))
    (mA : mg "all" = none) (mz : mg "zip" = none) (me : mg "enumerate" = none) : FnOk P w K mg base CX0 (k + 2) f fd ["collections", "counts"] spFul := by
  have GC : FnOk P w K mg base CX0 (k + 1) fC fdC ["counts", "collection"] spCont := ok_cont FC mA mz
  refine F.ok scFul (fun vs H Q E h => ?_) (fun cdv A outer s H vs Q E hr h => ?_)
  · obtain ⟨t, b, ls, rows, cs, rfl, _⟩ := h
    rfl
  · obtain ⟨t, b, ls, rows, cs, rfl, st, hb, hl, hl2, q⟩ := h
    refine ⟨_, pss_cons (ps_for PassesOwn.never rfl (pi_enumT (by rfl) me (pa_cons (pv 0) pa_nil)) (pg_tup rfl (pgs_cons (pg_name (i := 2) scFul.nd rfl (.inl rfl)) (pgs_cons (pg_name (i := 3) scFul.nd rfl (.inl rfl)) pgs_nil)))
        (pss_one (ps_if (pt_val (pe_call GC hr (by rfl) gC FC.kp bC .nil pass0 (pa_cons (pv 1) (pa_cons (pv 3) pa_nil)))) (pss_one (ps_ret (pv 2))) pss_nil)))
      (pss_one (ps_ret pe_non)), ?_⟩
    refine ⟨_, rfl, t, _, rfl, SqT.of st.top, ?_⟩
    refine for_enT (xs := ls.map V.ref) (c := 0) (fun i σ H' => ∃ y2 y3, σ = [some (.ref t), some (.ref b), y2, y3] ∧ Same H H' ∧ (rows.take i).findIdx? (contains cs) = none)
      ⟨none, none, rfl, Same.refl _, rfl⟩ (fun i σ H' _ h => by obtain ⟨_, _, _, sm, _⟩ := h; exact SqT.of (sm _ _ st.top)) (fun i x T σ H' hx h nT => ?_) (fun σ H' h => ?_)
    · obtain ⟨y2, y3, rfl, sm, hnone⟩ := h
      obtain ⟨l, hli, rfl⟩ := get_map hx
      have hil : i < rows.length := by
        have := (List.getElem?_eq_some_iff.mp hli).1
        have := st.len
        omega
      have hr' : rows[i]? = some rows[i] := List.getElem?_eq_getElem hil
      have sT : Same H (upd H' T (.tup [.int ((0 : Int) + (i : Nat)), .ref l])) := sm.trans (same_new nT)
      refine ⟨T, [.int ((0 : Int) + (i : Nat)), .ref l], rfl, .inl (.inl upd_same), rfl, .int ((0 : Int) + (i : Nat)), [.ref l], rfl, .ref l, [], rfl, rfl, ?_⟩
      refine ⟨_, rfl, _, rfl, b, l, cs, rows[i], rfl, sT _ _ hb, sT _ _ (st.row i l _ hli hr'), (hl _ (List.getElem_mem hil)).symm, hl2, fun H2 s2 => ⟨_, rfl, ?_⟩⟩
      by_cases e : contains cs rows[i] = true
      · rw [e]
        refine iteT ⟨_, rfl, ?_⟩
        have := q H2 (sT.trans s2)
        unfold fulOf at this
        rw [find_some hr' hnone e] at this
        rw [Int.zero_add]
        exact this
      · rw [Bool.eq_false_iff.mpr e]
        refine iteF ⟨_, _, rfl, sT.trans s2, ?_⟩
        rw [find_take hr', hnone, if_neg e]
        rfl
    · obtain ⟨y2, y3, rfl, sm, hnone⟩ := h
      rw [List.length_map, st.len, List.take_length] at hnone
      have := q H' sm
      unfold fulOf at this
      rw [hnone] at this
      exact this
end

/-! ### what the law reckons -/
def lackAt (cs row : List Int) (j : Nat) : Bool := decide (cs.getD j 0 < row.getD j 0)
def lackOf (cs row : List Int) (m : Nat) : List Int := ((List.range m).filter (lackAt cs row)).map fun j => (0 : Int) + (j : Nat)
theorem lack_succ (cs row : List Int) (m : Nat) : lackOf cs row (m + 1) = lackOf cs row m ++ (if lackAt cs row m = true then [(0 : Int) + (m : Nat)] else []) := by
  unfold lackOf
  rw [List.range_succ, List.filter_append, List.map_append]
  congr 1
  by_cases e : lackAt cs row m = true
  · rw [if_pos e, List.filter_cons_of_pos e]
    rfl
  · rw [if_neg e, List.filter_cons_of_neg e]
    rfl
theorem lack_len (cs row : List Int) (m : Nat) : (lackOf cs row m).length ≤ m := by
  unfold lackOf
  rw [List.length_map]
  exact Nat.le_trans (List.length_filter_le _ _) (by rw [List.length_range]; exact Nat.le_refl _)
theorem lack_bd (cs row : List Int) (m : Nat) : ∀ x ∈ lackOf cs row m, 0 ≤ x ∧ x < (m : Int) := by
  intro x hx
  obtain ⟨j, hj, rfl⟩ := List.mem_map.mp hx
  have := List.mem_range.mp (List.mem_filter.mp hj).1
  omega
theorem lack_nil {cs row : List Int} {m : Nat} (h1 : cs.length = m) (h2 : row.length = m) : lackOf cs row m = [] ↔ contains cs row = true := by
  unfold lackOf contains
  rw [List.map_eq_nil_iff, List.filter_eq_nil_iff, List.all_eq_true]
  constructor
  · intro h x hx
    obtain ⟨j, hj⟩ := List.mem_iff_getElem?.mp hx
    rw [List.getElem?_zipWith] at hj
    have hj1 : j < cs.length := by
      cases e : cs[j]? with
      | none => rw [e] at hj; cases hj
      | some v => exact (List.getElem?_eq_some_iff.mp e).1
    have hj2 : j < row.length := by omega
    rw [List.getElem?_eq_getElem hj1, List.getElem?_eq_getElem hj2] at hj
    obtain rfl := Option.some.inj hj
    have := h j (List.mem_range.mpr (by omega))
    unfold lackAt at this
    rw [List.getD_eq_getElem?_getD, List.getD_eq_getElem?_getD, List.getElem?_eq_getElem hj1, List.getElem?_eq_getElem hj2] at this
    simp at this
    simp
    omega
  · intro h j hj
    have hjm := List.mem_range.mp hj
    have hj1 : j < cs.length := by omega
    have hj2 : j < row.length := by omega
    have hz : (List.zipWith (fun c n => decide (c ≥ n)) cs row)[j]? = some (decide (cs[j] ≥ row[j])) := by
      rw [List.getElem?_zipWith, List.getElem?_eq_getElem hj1, List.getElem?_eq_getElem hj2]
    have := h _ (List.mem_of_getElem? hz)
    unfold lackAt
    rw [List.getD_eq_getElem?_getD, List.getD_eq_getElem?_getD, List.getElem?_eq_getElem hj1, List.getElem?_eq_getElem hj2]
    simp at this
    simp
    omega
def optD : Option Nat → PyData
  | none => .none
  | some j => .int (j : Int)
theorem dp_opt {K : PySem.W.Frag} {H : Hp} : ∀ o : Option Nat, Dp K H (optV o) (optD o)
  | none => .non
  | some j => .int _
theorem Sm.non : Sm 21 0 .none := ⟨rfl, rfl, rfl, Nat.zero_le _, Nat.le_refl _⟩
theorem sm_opt {o : Option Nat} (h : ∀ j, o = some j → j < 1000) : Sm 21 0 (optD o) := by
  cases o with
  | none => exact Sm.non
  | some j =>
    have := h j rfl
    exact Sm.intM (by omega) (by omega)
theorem ful_lt {rows : List (List Int)} {cs : List Int} {j : Nat} (h : fulOf rows cs = some j) : j < rows.length := by
  unfold fulOf at h
  exact (List.findIdx?_eq_some_iff_findIdx_eq.mp h).1
theorem eqv_nil_iff {r : List Int} : PyData.eqv (.list (r.map PyData.int)) (.list []) = true ↔ r = [] := by
  cases r with
  | nil => exact ⟨fun _ => rfl, fun _ => rfl⟩
  | cons x r => exact ⟨fun e => (nomatch (show false = true from e)), fun e => (nomatch e)⟩
theorem sm_lack {r : List Int} {m : Nat} (h : ∀ x ∈ r, 0 ≤ x ∧ x < (m : Int)) (hm : m ≤ 1000) : Sm (r.length * 22) 1 (.list (r.map PyData.int)) := by
  have a : SmA (r.map PyData.int).length 21 0 (r.map PyData.int) := SmA.all fun d hd => by
    obtain ⟨x, hx, rfl⟩ := List.mem_map.mp hd
    have := h x hx
    exact Sm.intM (by omega) (by omega)
  refine a.lst.up ?_ (Nat.le_refl _)
  rw [List.length_map]
  exact Nat.le_refl _
end DD
namespace DD
open PySem PySem.Spec PyProof.Rows L2 RZ

abbrev NP : List Str := ["collections", "spoilings", "collection", "kinds", "kind", "needed", "spoiling"]
theorem scSpoil : FnScope NP ["collections"] (defScope sSpoil) := ⟨rfl, rfl, rfl, by decide +kernel, rfl, by decide +kernel, by decide +kernel⟩
section
variable {P : Program} {w : World} {K : PySem.W.Frag} {mg : Str → Option Value} {base : Heap}
def spSpoil : Sp := fun vs H Q _ => ∃ (t : Addr) (ls : List Addr) (rows : List (List Int)), vs = [.ref t] ∧ StockAt H t ls rows ∧ rows.length ≤ 4 ∧ (∀ r ∈ rows, r.length ≤ 4) ∧
  ∀ p as H', Same H H' → StockAt H' p as (spOf rows) → Q (.ref p) H'
theorem ok_spoil {f : Addr} {fd : FuncData} {k : Nat} (F : Fun K "spoilings_of" "spoilings_of" sSpoil f fd) (me : mg "enumerate" = none) (mt : mg "tuple" = none) : FnOk P w K mg base CX0 (k + 1) f fd ["collections"] spSpoil := by
  refine F.ok scSpoil (fun vs H Q E h => ?_) (fun cdv A outer s H vs Q E hr h => ?_)
  · obtain ⟨t, ls, rows, rfl, _⟩ := h
    rfl
  · obtain ⟨t, ls, rows, rfl, st, hl4, hr4, q⟩ := h
    refine ⟨_, (pss_cons (ps_set (i := 1) scSpoil.nd rfl (.inl rfl) (pe_lst (pa_cons (pe_tup pa_nil) pa_nil)))
      (pss_cons (ps_for PassesOwn.never rfl (pi_tup (pv 0)) (pg_name (i := 2) scSpoil.nd rfl (Or.inl rfl)) (pss_cons (ps_set (i := 3) scSpoil.nd rfl (.inr rfl) (pe_lc (own := [("kind", 4), ("needed", 5)]) (g := gTup K 2 (gCons (gName 4) (gCons (gName 5) gNil))) rfl scSpoil.nd (pi_enumT (by rfl) me (pa_cons (pv 2) pa_nil)) (blkOk_by (own := [("kind", 4), ("needed", 5)]) (N := NP) (sc := defScope sSpoil) (by decide +kernel)) (fun _ _ _ _ _ => (pg_tup rfl (pgs_cons (pg_name (i := 4) scSpoil.nd rfl (Or.inl rfl)) (pgs_cons (pg_name (i := 5) scSpoil.nd rfl (Or.inl rfl)) pgs_nil)))) (fun _ _ _ _ _ => pts_one (pt_cmpR op_gt (pv 5) pe_int (nomark _))) (fun _ _ _ _ _ => (pv 4))))
      (pss_one (ps_setLc2 (i := 1) (own := [("spoiling", 6), ("kind", 4)]) (vs1 := [4]) (g := gName 6) (g1 := gName 4) (wi1 := iList K (tVar 3)) (te := tTup (StX.tStar K (tVar 6) (tCons (tVar 4) tNil))) rfl scSpoil.nd rfl rfl (sw_true rfl rfl rfl (by decide +kernel)) (pi_list (pv 1)) (blkOk_by (own := [("spoiling", 6), ("kind", 4)]) (N := NP) (sc := defScope sSpoil) (by decide +kernel)) (by decide) (fun _ _ _ _ _ => (pg_name (i := 6) scSpoil.nd rfl (Or.inl rfl))) (fun _ _ _ _ _ => pts_nil) (fun _ _ _ _ _ => pi_list (pv 3)) (fun _ _ _ _ _ => (pg_name (i := 4) scSpoil.nd rfl (Or.inl rfl))) (fun _ _ _ _ _ => pts_nil) (fun _ _ _ _ _ => pe_tup (StX.pa_star (pv 6) (pa_cons (pv 4) pa_nil)))))))
      (pss_one (ps_ret (pe_callTy call_tuple_of (by rfl) mt (by decide +kernel) (pa_cons (pv 1) pa_nil)))))), ?_⟩
    -- spoilings = [()]
    refine ⟨Nat.zero_le _, fun p0 np0 => ?_⟩
    refine ⟨by show 1 ≤ sizeLine; decide, fun S0 nS0 => ?_⟩
    have s0 : Same H (upd (upd H p0 (.tup [])) S0 (.lst [.ref p0])) := (same_new np0).trans (same_new nS0)
    have hp0 : (upd (upd H p0 (.tup [])) S0 (.lst [.ref p0])) p0 = some (.tup (([] : List Int).map V.int)) := same_new nS0 _ _ upd_same
    have hS0 : (upd (upd H p0 (.tup [])) S0 (.lst [.ref p0])) S0 = some (.lst ([p0].map V.ref)) := upd_same
    have hR0 : RowsAt (upd (upd H p0 (.tup [])) S0 (.lst [.ref p0])) [p0] [[]] := RowsAt.snoc (ls := []) (rows := []) RowsAt.nil rfl hp0
    generalize upd (upd H p0 (.tup [])) S0 (.lst [.ref p0]) = H0 at s0 hS0 hR0 ⊢
    clear hp0 nS0 np0
    refine ⟨.ref t, rfl, t, rfl, ⟨_, SqT.of (s0 _ _ st.top)⟩, ?_⟩
    refine for_it (walk_tup (xs := ls.map V.ref)) (fun i σ H' => ∃ (S : Addr) (as : List Addr) (y2 y3 y4 y5 y6 : Option V), σ = [some (.ref t), some (.ref S), y2, y3, y4, y5, y6] ∧ Same H H' ∧ H' S = some (.lst (as.map V.ref)) ∧ as.length = (spOf (rows.take i)).length ∧ RowsAt H' as (spOf (rows.take i)))
      ⟨S0, [p0], none, none, none, none, none, rfl, s0, hS0, rfl, hR0⟩ (fun i σ H' _ h => by obtain ⟨S, as, _, _, _, _, _, _, sm, _⟩ := h; exact SqT.of (sm _ _ st.top)) (fun i x σ H' H1 hi h y => ?_) (fun σ H' h => ?_)
    · obtain ⟨S, as, y2, y3, y4, y5, y6, rfl, sm, hS, hal, hR⟩ := h
      obtain ⟨rfl, hx⟩ := y
      obtain ⟨l, hl, rfl⟩ := get_map hx
      have hil : i < rows.length := by
        have := (List.getElem?_eq_some_iff.mp hl).1
        have := st.len
        omega
      have hr' : rows[i]? = some rows[i] := List.getElem?_eq_getElem hil
      have hrow := sm _ _ (st.row i l _ hl hr')
      have hrl4 : rows[i].length ≤ 4 := hr4 _ (List.getElem_mem hil)
      have hlen1 : (spOf (rows.take i)).length ≤ 64 := Nat.le_trans (spOf_len hr4 i) (Nat.pow_le_pow_right (n := 4) (by decide) (show i ≤ 3 by omega))
      -- kinds = [..]
      refine ⟨.ref l, rfl, l, _, rfl, SqT.of hrow, fun D nD => ?_⟩
      refine lc_it (walk_enT (xs := rows[i].map V.int)) (fun j H2 => H2 D = some (.lst ((kindsUp rows[i] j).map V.int)) ∧ Same H1 H2) ⟨upd_same, same_new nD⟩ (fun j H2 _ h => SqT.of (h.2 _ _ hrow)) (fun j x H2 H3 hj h y => ?_) (fun H2 h => ?_)
      · obtain ⟨hD, s2⟩ := h
        obtain ⟨T, x1, x2, rfl, nT, rfl, e1, e2⟩ := y
        obtain rfl : V.int ((0 : Int) + (j : Nat)) = x1 := Option.some.inj e1
        obtain ⟨v, hv, rfl⟩ := get_map e2
        have hvd : rows[i].getD j 0 = v := by rw [List.getD_eq_getElem?_getD, hv]; rfl
        have sT : Same H2 (upd H2 T (.tup [.int ((0 : Int) + (j : Nat)), .int v])) := same_new nT
        refine ⟨T, [.int ((0 : Int) + (j : Nat)), .int v], rfl, .inl (.inl upd_same), rfl, _, [.int v], rfl, .int v, [], rfl, rfl, rfl, .int v, rfl, v, 0, rfl, rfl, _, rfl, ite2 (fun e => ?_) (fun e => ?_)⟩
        · refine ⟨_, rfl, _, sT _ _ hD, ?_, ?_, fun b' o e' => ?_⟩
          · rw [List.length_map]
            have := kinds_len rows[i] j
            rw [List.length_map] at hj
            exact len_lt (by omega)
          · rw [upd_same, kinds_succ, if_pos (show posAt rows[i] j = true by unfold posAt; rw [hvd]; exact e), List.map_append]
            rfl
          · rw [upd_ne (ne_of_none e' nD)]
            exact sT _ _ (s2 b' o e')
        · refine ⟨?_, s2.trans sT⟩
          rw [kinds_succ, if_neg (show ¬ posAt rows[i] j = true by unfold posAt; rw [hvd]; exact e), List.append_nil]
          exact sT _ _ hD
      · obtain ⟨hD, s2⟩ := h
        rw [List.length_map] at hD
        have hS2 := s2 _ _ hS
        have hR2 := hR.same s2
        have sm2 := sm.trans s2
        -- spoilings = [(*spoiling, kind) for spoiling in spoilings for kind in kinds]
        refine ⟨.ref S, rfl, S, rfl, ⟨_, SqL.of hS2⟩, fun E1 nE => ?_⟩
        refine lc2_it (walk_list (xs := as.map V.ref)) (fun j H3 => ∃ as' : List Addr, H3 E1 = some (.lst (as'.map V.ref)) ∧ Same H2 H3 ∧ as'.length = (spStep ((spOf (rows.take i)).take j) rows[i]).length ∧ RowsAt H3 as' (spStep ((spOf (rows.take i)).take j) rows[i]))
          ⟨[], upd_same, same_new nE, rfl, RowsAt.nil⟩ (fun j H3 _ h => by obtain ⟨_, _, s3, _⟩ := h; exact SqL.of (s3 _ _ hS2)) (fun j x H3 H4 hj h y => ?_) (fun H3 h => ?_)
        · obtain ⟨as', hE, s3, hal', hR3⟩ := h
          obtain ⟨rfl, hx'⟩ := y
          obtain ⟨a1, ha1, rfl⟩ := get_map hx'
          rw [List.length_map] at hj
          have hjs : j < (spOf (rows.take i)).length := by omega
          have hsj : (spOf (rows.take i))[j]? = some (spOf (rows.take i))[j] := List.getElem?_eq_getElem hjs
          have hta := s3 _ _ (hR2 j a1 _ ha1 hsj)
          generalize hs : (spOf (rows.take i))[j] = s' at hsj hta
          refine ⟨rfl, .ref D, rfl, D, rfl, ⟨_, SqL.of (s3 _ _ hD)⟩, ?_⟩
          refine lci_it (walk_list (xs := (kindsOf rows[i]).map V.int)) (fun m H5 => ∃ as2 : List Addr, H5 E1 = some (.lst ((as' ++ as2).map V.ref)) ∧ Same H2 H5 ∧ as2.length = m ∧ RowsAt H5 (as' ++ as2) (spStep ((spOf (rows.take i)).take j) rows[i] ++ ((kindsOf rows[i]).take m).map fun k => s' ++ [k]) ∧ H5 a1 = some (.tup (s'.map V.int)))
            ⟨[], by rw [List.append_nil]; exact hE, s3, rfl, by rw [List.append_nil]; simpa using hR3, hta⟩ (fun m H5 _ h => by obtain ⟨_, _, s5, _⟩ := h; exact SqL.of (s5 _ _ hD)) (fun m x H5 H6 hm h y => ?_) (fun H5 h => ?_)
          · obtain ⟨as2, hE5, s5, hal2, hR5, hta5⟩ := h
            obtain ⟨rfl, hx2⟩ := y
            obtain ⟨kv, hkv, rfl⟩ := get_map hx2
            refine ⟨rfl, .ref a1, rfl, a1, _, rfl, .inl (SqT.of hta5), .int kv, rfl, ?_, fun T nT => ?_⟩
            · rw [List.length_append, List.length_map]
              have hm' := List.mem_of_getElem? hsj
              rw [spOf_eq] at hm'
              have h1 := (spR_bd (fun r hr => hr4 r (List.mem_of_mem_take hr)) s' hm').1
              rw [List.length_take] at h1
              exact Nat.le_of_lt (len_lt (by show s'.length + 1 ≤ 1000; omega))
            have sT : Same H6 (upd H6 T (.tup (s'.map V.int ++ [.int kv]))) := same_new nT
            have hT : (upd H6 T (.tup (s'.map V.int ++ [.int kv]))) T = some (.tup ((s' ++ [kv]).map V.int)) := by
              rw [upd_same, List.map_append]
              rfl
            have hE6 := sT _ _ hE5
            refine ⟨_, hE6, ?_, as2 ++ [T], ?_, fun b' o e' => ?_, ?_, ?_, ?_⟩
            · rw [List.length_map, List.length_append, hal', hal2, step_len, List.length_take]
              have h1 : min j (spOf (rows.take i)).length ≤ 64 := by omega
              have h2 : (kindsOf rows[i]).length ≤ 4 := Nat.le_trans (kinds_len _ _) hrl4
              have h3 := Nat.mul_le_mul h1 h2
              rw [List.length_map] at hm
              exact len_lt (by omega)
            · rw [upd_same, ← List.append_assoc, List.map_append (l₁ := as' ++ as2)]
              rfl
            · rw [upd_ne (ne_of_none e' nE)]
              exact sT _ _ (s5 b' o e')
            · rw [List.length_append, hal2]
              rfl
            · rw [take_succ_map hkv, ← List.append_assoc, ← List.append_assoc]
              refine RowsAt.updL (RowsAt.snoc (hR5.same sT) ?_ hT) hE6
              rw [List.length_append, List.length_append, List.length_map, hal', hal2, List.length_take]
              have := (List.getElem?_eq_some_iff.mp hkv).1
              omega
            · rw [upd_ne (fun z => by rw [z] at hta5; rw [hE5] at hta5; cases hta5)]
              exact sT _ _ hta5
          · obtain ⟨as2, hE5, s5, hal2, hR5, _⟩ := h
            rw [List.length_map] at hal2 hR5
            rw [List.take_length] at hR5
            refine ⟨as' ++ as2, hE5, s5, ?_, ?_⟩
            · rw [take_flat hsj, List.length_append, List.length_append, List.length_map, hal', hal2]
            · rw [take_flat hsj]
              exact hR5
        · obtain ⟨as', hE, s3, hal', hR3⟩ := h
          rw [List.length_map, hal, List.take_length] at hal' hR3
          refine ⟨E1, as', _, _, _, _, _, rfl, sm2.trans s3, hE, ?_, ?_⟩
          · rw [spOf_snoc hr']
            exact hal'
          · rw [spOf_snoc hr']
            exact hR3
    · obtain ⟨S, as, y2, y3, y4, y5, y6, rfl, sm, hS, hal, hR⟩ := h
      rw [List.length_map, st.len, List.take_length] at hal hR
      refine ⟨.ref S, rfl, S, _, rfl, .inl ⟨SqL.of hS, fun p np => ?_⟩⟩
      exact q p as _ (sm.trans (same_new np)) ⟨upd_same, hal, hR.same (same_new np)⟩
end
end DD
namespace DD
open PySem PySem.Spec PyProof.Rows L2 RZ

/-! ### caps -/
def minL : List Int → Int
  | [] => 0
  | x :: xs => if xs = [] then x else min x (minL xs)
theorem minL_mem : ∀ {l : List Int}, l ≠ [] → minL l ∈ l
  | [], h => absurd rfl h
  | x :: xs, _ => by
    unfold minL
    split
    · exact List.mem_cons_self
    · rename_i h
      by_cases c : x ≤ minL xs
      · rw [Int.min_eq_left c]
        exact List.mem_cons_self
      · rw [Int.min_eq_right (by omega)]
        exact List.mem_cons_of_mem _ (minL_mem h)
theorem minL_le : ∀ {l : List Int}, ∀ y ∈ l, minL l ≤ y
  | [], y, h => by cases h
  | x :: xs, y, h => by
    unfold minL
    split
    · rename_i e
      subst e
      rw [List.mem_singleton.mp h]
      exact Int.le_refl _
    · rcases List.mem_cons.mp h with rfl | h
      · exact Int.min_le_left _ _
      · exact Int.le_trans (Int.min_le_right _ _) (minL_le y h)
theorem minL_uniq {l : List Int} {m : Int} (hm : m ∈ l) (hl : ∀ y, y ∈ l → m ≤ y) : m = minL l :=
  Int.le_antisymm (hl _ (minL_mem (fun e => by rw [e] at hm; cases hm))) (minL_le m hm)
def pickUp (rows : List (List Int)) (named : List Int) (k : Nat) (i : Nat) : List Int := (((rows.zip named).take i).filter (fun p => decide (p.2 = (k : Int)))).map fun p => p.1.getD k 0
def pickAll (rows : List (List Int)) (named : List Int) (k : Nat) : List Int := pickUp rows named k rows.length
theorem pick_succ {rows : List (List Int)} {named : List Int} {k i : Nat} {r : List Int} {v : Int} (h1 : rows[i]? = some r) (h2 : named[i]? = some v) :
    pickUp rows named k (i + 1) = pickUp rows named k i ++ (if v = (k : Int) then [r.getD k 0] else []) := by
  unfold pickUp
  have hz : (rows.zip named)[i]? = some (r, v) := List.getElem?_zip_eq_some.mpr ⟨h1, h2⟩
  rw [List.take_add_one, hz, List.filter_append, List.map_append]
  congr 1
  by_cases e : v = (k : Int)
  · rw [if_pos e]
    simp [e]
  · rw [if_neg e]
    simp [e]
theorem pick_len (rows : List (List Int)) (named : List Int) (k i : Nat) : (pickUp rows named k i).length ≤ i := by
  unfold pickUp
  rw [List.length_map]
  refine Nat.le_trans (List.length_filter_le _ _) ?_
  rw [List.length_take]
  omega
theorem pick_bd {rows : List (List Int)} {named : List Int} {k i : Nat} {b : Int} (hb : 0 ≤ b) (h : ∀ r ∈ rows, ∀ x ∈ r, 0 ≤ x ∧ x ≤ b) : ∀ x ∈ pickUp rows named k i, 0 ≤ x ∧ x ≤ b := by
  intro x hx
  obtain ⟨p, hp, rfl⟩ := List.mem_map.mp hx
  have hp2 := List.mem_of_mem_take (List.mem_filter.mp hp).1
  exact getD_bd (h p.1 (List.of_mem_zip hp2).1) hb k
def capAt (rows : List (List Int)) (named : List Int) (k : Nat) : Option Int := if pickAll rows named k = [] then none else some (minL (pickAll rows named k) - 1)
def optI : Option Int → V
  | none => .non
  | some j => .int j
def optID : Option Int → PyData
  | none => .none
  | some j => .int j
def capsOf (rows : List (List Int)) (named : List Int) (m : Nat) : List (Option Int) := (List.range m).map (capAt rows named)
theorem caps_get {rows : List (List Int)} {named : List Int} {m i : Nat} (h : i < m) : (capsOf rows named m)[i]? = some (capAt rows named i) := by
  unfold capsOf
  rw [List.getElem?_map, List.getElem?_range h]
  rfl
theorem caps_len (rows : List (List Int)) (named : List Int) (m : Nat) : (capsOf rows named m).length = m := by simp [capsOf]
theorem col_int {rows : List (List Int)} {i m : Nat} (h : ∀ r ∈ rows, r.length = m) (hi : i < m) : colV (rows.map fun r => r.map V.int) i = (rows.map fun r => r.getD i 0).map V.int := by
  unfold colV
  rw [List.map_map, List.map_map]
  refine List.map_congr_left fun r hr => ?_
  show (r.map V.int).getD i .non = V.int (r.getD i 0)
  rw [List.getD_eq_getElem?_getD, List.getD_eq_getElem?_getD, List.getElem?_map, List.getElem?_eq_getElem (by rw [h r hr]; exact hi)]
  rfl
theorem rws_of {K : PySem.W.Frag} {H : Hp} {t : Addr} {ls : List Addr} {rows : List (List Int)} {m : Nat} (st : StockAt H t ls rows) (h : ∀ r ∈ rows, r.length = m) : Rws K H ls (rows.map fun r => r.map V.int) m := by
  refine ⟨by rw [List.length_map]; exact st.len, fun j a r x1 x2 => ?_⟩
  obtain ⟨r', hr', rfl⟩ := get_map x2
  exact ⟨SqT.of (st.row j a r' x1 hr'), by rw [List.length_map]; exact h r' (List.mem_of_getElem? hr')⟩

abbrev NQ : List Str := ["collections", "spoiling", "caps", "kind", "needs", "spoiled", "needed", "named"]
theorem scCaps : FnScope NQ ["collections", "spoiling"] (defScope sCaps) := ⟨rfl, rfl, rfl, by decide +kernel, rfl, by decide +kernel, by decide +kernel⟩
section
variable {P : Program} {w : World} {K : PySem.W.Frag} {mg : Str → Option Value} {base : Heap}
def spCaps : Sp := fun vs H Q _ => ∃ (t b : Addr) (ls : List Addr) (rows : List (List Int)) (named : List Int) (m : Nat), vs = [.ref t, .ref b] ∧ StockAt H t ls rows ∧ 1 ≤ rows.length ∧ rows.length ≤ 4 ∧ (∀ r ∈ rows, r.length = m) ∧ m ≤ 100 ∧
  H b = some (.tup (named.map V.int)) ∧ named.length = rows.length ∧ ∀ p H', Same H H' → H' p = some (.tup ((capsOf rows named m).map optI)) → Q (.ref p) H'
theorem ok_caps {f : Addr} {fd : FuncData} {k : Nat} (F : Fun K "caps_of" "caps_of" sCaps f fd) (me : mg "enumerate" = none) (mz : mg "zip" = none) (mn : mg "min" = none) (mt : mg "tuple" = none) : FnOk P w K mg base CX0 (k + 1) f fd ["collections", "spoiling"] spCaps := by
  refine F.ok scCaps (fun vs H Q E h => ?_) (fun cdv A outer s H vs Q E hr h => ?_)
  · obtain ⟨t, b, ls, rows, named, m, rfl, _⟩ := h
    rfl
  · obtain ⟨t, b, ls, rows, named, m, rfl, st, hl1, hl4, hrm, hm, hb, hnl, q⟩ := h
    refine ⟨_, (pss_cons (ps_set (i := 2) scCaps.nd rfl (.inl rfl) (pe_lst pa_nil))
      (pss_cons (ps_for PassesOwn.never rfl (pi_enumZ (by rfl) me (by rfl) mz (pv 0)) (pg_tup rfl (pgs_cons (pg_name (i := 3) scCaps.nd rfl (Or.inr rfl)) (pgs_cons (pg_name (i := 4) scCaps.nd rfl (Or.inl rfl)) pgs_nil))) (pss_cons (ps_setLc (i := 5) (own := [("needed", 6), ("named", 7)]) (g := gTup K 2 (gCons (gName 6) (gCons (gName 7) gNil))) rfl scCaps.nd rfl rfl (sw_true rfl rfl rfl (by decide +kernel)) (pi_zipA (by rfl) mz (pa_cons (pv 4) (pa_cons (pv 1) pa_nil))) (blkOk_by (own := [("needed", 6), ("named", 7)]) (N := NQ) (sc := defScope sCaps) (by decide +kernel)) (fun _ _ _ _ _ => (pg_tup rfl (pgs_cons (pg_name (i := 6) scCaps.nd rfl (Or.inl rfl)) (pgs_cons (pg_name (i := 7) scCaps.nd rfl (Or.inl rfl)) pgs_nil)))) (fun _ _ _ _ _ => pts_one (pt_cmpR op_eq (pv 7) (pv 3) (nomark _))) (fun _ _ _ _ _ => (pv 6)))
      (pss_one (ps_expr (pe_bm PySem.F.plainAttrs_list PySem.F.slot_list_append PySem.F.type_list_append mt_append (pv 2) (pa_cons (pe_ifExp (pt_truth (pv 5) (fun _ => rfl)) (pe_op op_sub (pe_callB (show CallR _ _ (rMin K) from cr_min rfl) (by rfl) mn (by decide +kernel) (pa_cons (pv 5) pa_nil)) pe_int) pe_non) pa_nil))))))
      (pss_one (ps_ret (pe_callTy call_tuple_of (by rfl) mt (by decide +kernel) (pa_cons (pv 2) pa_nil)))))), ?_⟩
    refine ⟨Nat.zero_le _, fun C nC => ?_⟩
    have s0 : Same H (upd H C (.lst [])) := same_new nC
    refine ⟨.ref t, rfl, t, ls, rows.map (fun r => r.map V.int), m, rfl, .inl (SqT.of (s0 _ _ st.top)), by rw [st.len]; exact hl1, by rw [st.len]; exact hl4, rws_of (st.same s0) hrm, ?_⟩
    refine for_it (walk_ez (m := m)) (fun i σ H' => ∃ y3 y4 y5 y6 y7 : Option V, σ = [some (.ref t), some (.ref b), some (.ref C), y3, y4, y5, y6, y7] ∧ Same H H' ∧ H' C = some (.lst (((capsOf rows named m).take i).map optI)))
      ⟨none, none, none, none, none, rfl, s0, upd_same⟩ (fun i σ H' _ h => by obtain ⟨_, _, _, _, _, _, sm, _⟩ := h; exact rws_of (st.same sm) hrm) (fun i x σ H1 H2 hi h y => ?_) (fun σ H' h => ?_)
    · obtain ⟨y3, y4, y5, y6, y7, rfl, sm, hC⟩ := h
      obtain ⟨T, U, rfl, nT, hTU, nU, rfl⟩ := y
      have nU' : (upd H1 T (.tup (colV (rows.map fun r => r.map V.int) i))) U = none := by rw [upd_ne hTU.symm]; exact nU
      have s2 : Same H1 (upd (upd H1 T (.tup (colV (rows.map fun r => r.map V.int) i))) U (.tup [.int ((0 : Int) + (i : Nat)), .ref T])) := (same_new nT).trans (same_new nU')
      have hT : (upd (upd H1 T (.tup (colV (rows.map fun r => r.map V.int) i))) U (.tup [.int ((0 : Int) + (i : Nat)), .ref T])) T = some (.tup ((rows.map fun r => r.getD i 0).map V.int)) := by
        rw [upd_ne hTU, upd_same, col_int hrm hi]
      refine ⟨U, [.int ((0 : Int) + (i : Nat)), .ref T], rfl, .inl (.inl upd_same), rfl, .int ((0 : Int) + (i : Nat)), [.ref T], rfl, .ref T, [], rfl, rfl, ?_⟩
      generalize upd (upd H1 T (.tup (colV (rows.map fun r => r.map V.int) i))) U (.tup [.int ((0 : Int) + (i : Nat)), .ref T]) = Ha at s2 hT ⊢
      have hba := s2 _ _ (sm _ _ hb)
      have hCa := s2 _ _ hC
      -- spoiled = [..]
      refine ⟨.ref T, rfl, .ref b, rfl, T, b, _, _, rfl, .inr ⟨SqT.of hT, SqT.of hba, fun D nD => ?_⟩⟩
      refine lc_zipT (xs := (rows.map fun r => r.getD i 0).map V.int) (ys := named.map V.int) (by rw [List.length_map, List.length_map, List.length_map, hnl]) (fun j H3 => H3 D = some (.lst ((pickUp rows named i j).map V.int)) ∧ Same Ha H3) ⟨upd_same, same_new nD⟩
        (fun j H3 _ h => ⟨SqT.of (h.2 _ _ hT), SqT.of (h.2 _ _ hba)⟩) (fun j x y T2 H3 hx hy h nT2 => ?_) (fun H3 h => ?_)
      · obtain ⟨hD, s3⟩ := h
        obtain ⟨v1, hv1, rfl⟩ := get_map hx
        obtain ⟨r, hr1, rfl⟩ := get_map hv1
        obtain ⟨ow, how, rfl⟩ := get_map hy
        have sT : Same H3 (upd H3 T2 (.tup [.int (r.getD i 0), .int ow])) := same_new nT2
        refine ⟨T2, [.int (r.getD i 0), .int ow], rfl, .inl (.inl upd_same), rfl, .int (r.getD i 0), [.int ow], rfl, .int ow, [], rfl, rfl, rfl, .int ow, rfl, .int ((0 : Int) + (i : Nat)), rfl, rfl, _, rfl, ite2 (fun e => ?_) (fun e => ?_)⟩
        · have e' : ow = (i : Int) := by
            have := of_decide_eq_true e
            injection this with this
            rw [Int.zero_add] at this
            exact this
          refine ⟨_, rfl, _, sT _ _ hD, ?_, ?_, fun b' o e2 => ?_⟩
          · rw [List.length_map]
            have := pick_len rows named i j
            have := (List.getElem?_eq_some_iff.mp hr1).1
            exact len_lt (by omega)
          · rw [upd_same, pick_succ hr1 how, if_pos e', List.map_append]
            rfl
          · rw [upd_ne (ne_of_none e2 nD)]
            exact sT _ _ (s3 b' o e2)
        · have e' : ¬ ow = (i : Int) := fun z => e (decide_eq_true (by rw [z, Int.zero_add]))
          refine ⟨?_, s3.trans sT⟩
          rw [pick_succ hr1 how, if_neg e', List.append_nil]
          exact sT _ _ hD
      · obtain ⟨hD, s3⟩ := h
        rw [List.length_map, List.length_map] at hD
        have hD' : H3 D = some (.lst ((pickAll rows named i).map V.int)) := hD
        have hC3 := s3 _ _ hCa
        have s13 : Same H H3 := sm.trans (s2.trans s3)
        have hget := caps_get (rows := rows) (named := named) hi
        have hlt : (((capsOf rows named m).take i).map optI).length < sizeLine := by
          rw [List.length_map, List.length_take]
          exact len_lt (by omega)
        refine ⟨.ref C, rfl, .inl ⟨rfl, _, SqL.of hC3⟩, .ref D, rfl, _, .inl ⟨_, SqL.of hD', rfl⟩, ?_⟩
        have fin : ∀ v : V, v = optI (capAt rows named i) → Same H (upd H3 C (.lst (((capsOf rows named m).take i).map optI ++ [v]))) ∧
            (upd H3 C (.lst (((capsOf rows named m).take i).map optI ++ [v]))) C = some (.lst (((capsOf rows named m).take (i + 1)).map optI)) := fun v hv => by
          refine ⟨fun b' o e => ?_, ?_⟩
          · rw [upd_ne (ne_of_none e nC)]
            exact s13 b' o e
          · rw [upd_same, take_succ_map hget, hv]
        cases hp : pickAll rows named i with
        | nil =>
          refine iteF ⟨C, _, .non, rfl, rfl, hC3, hlt, ?_⟩
          obtain ⟨h2, h3⟩ := fin .non (by unfold capAt; rw [if_pos hp]; rfl)
          exact ⟨_, _, _, _, _, rfl, h2, h3⟩
        | cons p0 pr =>
          refine iteT ⟨.ref D, rfl, D, pickAll rows named i, rfl, SqL.of hD', by rw [hp]; exact Nat.succ_pos _, fun mn hmn hle => ⟨mn, 1, rfl, rfl, ?_⟩⟩
          have hmn' := minL_uniq hmn hle
          refine ⟨C, _, .int (mn - 1), rfl, rfl, hC3, hlt, ?_⟩
          obtain ⟨h2, h3⟩ := fin (.int (mn - 1)) (by unfold capAt; rw [if_neg (by rw [hp]; exact fun e => nomatch e), hmn']; rfl)
          exact ⟨_, _, _, _, _, rfl, h2, h3⟩
    · obtain ⟨y3, y4, y5, y6, y7, rfl, sm, hC⟩ := h
      have hcl := caps_len rows named m
      rw [List.take_of_length_le (by omega)] at hC
      refine ⟨.ref C, rfl, C, _, rfl, .inl ⟨SqL.of hC, fun p np => ?_⟩⟩
      exact q p _ (sm.trans (same_new np)) upd_same
end
end DD
namespace DD
open PySem PySem.Spec PyProof.Rows L2 RZ

/-! ### spoilings, caps and counts -/
theorem mem_kinds {r : List Int} {k : Int} (h : k ∈ kindsOf r) : ∃ i : Nat, k = (i : Int) ∧ i < r.length ∧ 0 < r.getD i 0 := by
  obtain ⟨j, hj, rfl⟩ := List.mem_map.mp h
  obtain ⟨h1, h2⟩ := List.mem_filter.mp hj
  exact ⟨j, by omega, List.mem_range.mp h1, of_decide_eq_true h2⟩
theorem kinds_of {r : List Int} {i : Nat} (h : i < r.length) (h0 : 0 < r.getD i 0) : (i : Int) ∈ kindsOf r := by
  have : ((0 : Int) + (i : Nat)) ∈ kindsOf r := List.mem_map_of_mem (List.mem_filter.mpr ⟨List.mem_range.mpr h, decide_eq_true h0⟩)
  rwa [Int.zero_add] at this
theorem spR_fwd : ∀ {rows : List (List Int)} {s : List Int}, s ∈ spR rows → s.length = rows.length ∧ ∀ (j : Nat) (r : List Int) (k : Int), rows[j]? = some r → s[j]? = some k → k ∈ kindsOf r
  | [], s, h => by
    rw [List.mem_singleton.mp h]
    exact ⟨rfl, fun j r k e => by simp at e⟩
  | r :: rs, s, h => by
    obtain ⟨k, hk, hs⟩ := List.mem_flatMap.mp h
    obtain ⟨s', hs', rfl⟩ := List.mem_map.mp hs
    obtain ⟨h1, h2⟩ := spR_fwd hs'
    refine ⟨by rw [List.length_cons, List.length_cons, h1], fun j r' k' e1 e2 => ?_⟩
    cases j with
    | zero =>
      cases e1
      cases e2
      exact hk
    | succ j => exact h2 j r' k' e1 e2
theorem spR_bwd {f : List Int → Int} : ∀ {rows : List (List Int)}, (∀ r ∈ rows, f r ∈ kindsOf r) → rows.map f ∈ spR rows
  | [], _ => List.mem_singleton.mpr rfl
  | r :: rs, h => List.mem_flatMap.mpr ⟨f r, h r List.mem_cons_self, List.mem_map.mpr ⟨rs.map f, spR_bwd fun x hx => h x (List.mem_cons_of_mem _ hx), rfl⟩⟩
theorem pick_mem {rows : List (List Int)} {named : List Int} {k : Nat} {y : Int} : y ∈ pickAll rows named k → ∃ (j : Nat) (r : List Int), rows[j]? = some r ∧ named[j]? = some (k : Int) ∧ y = r.getD k 0 := by
  intro h
  obtain ⟨p, hp, rfl⟩ := List.mem_map.mp h
  obtain ⟨h1, h2⟩ := List.mem_filter.mp hp
  obtain ⟨j, hj⟩ := List.mem_iff_getElem?.mp (List.mem_of_mem_take h1)
  obtain ⟨e1, e2⟩ := List.getElem?_zip_eq_some.mp hj
  refine ⟨j, p.1, e1, ?_, rfl⟩
  rw [e2, of_decide_eq_true h2]
theorem mem_pick {rows : List (List Int)} {named : List Int} {k j : Nat} {r : List Int} (h1 : rows[j]? = some r) (h2 : named[j]? = some (k : Int)) : r.getD k 0 ∈ pickAll rows named k := by
  have hz : (rows.zip named)[j]? = some (r, (k : Int)) := List.getElem?_zip_eq_some.mpr ⟨h1, h2⟩
  have hj := (List.getElem?_eq_some_iff.mp h1).1
  refine List.mem_map.mpr ⟨(r, (k : Int)), List.mem_filter.mpr ⟨?_, decide_eq_true rfl⟩, rfl⟩
  refine List.mem_of_getElem? (i := j) ?_
  rw [List.getElem?_take_of_lt hj]
  exact hz
theorem cap_some {rows : List (List Int)} {named : List Int} {k : Nat} {v : Int} (e : capAt rows named k = some v) : v + 1 ∈ pickAll rows named k ∧ ∀ y ∈ pickAll rows named k, v + 1 ≤ y := by
  unfold capAt at e
  by_cases c : pickAll rows named k = []
  · rw [if_pos c] at e
    cases e
  · rw [if_neg c] at e
    have e := Option.some.inj e
    have h1 := minL_mem c
    refine ⟨by rw [← e]; rw [Int.sub_add_cancel]; exact h1, fun y hy => ?_⟩
    have := minL_le y hy
    omega
theorem cap_of {rows : List (List Int)} {named : List Int} {k : Nat} {y : Int} (h : y ∈ pickAll rows named k) : ∃ v, capAt rows named k = some v := by
  unfold capAt
  rw [if_neg (fun e => by rw [e] at h; cases h)]
  exact ⟨_, rfl⟩
def bad (p : Option Int × Int) : Bool := match p.1 with
  | none => false
  | some v => decide (p.2 > v)
def badUp (cps : List (Option Int)) (cs : List Int) (i : Nat) : List Int := (((cps.zip cs).take i).filter bad).map fun _ => 1
def keptB (cps : List (Option Int)) (cs : List Int) : Bool := ((cps.zip cs).filter bad).isEmpty
theorem bad_succ {cps : List (Option Int)} {cs : List Int} {i : Nat} {o : Option Int} {x : Int} (h1 : cps[i]? = some o) (h2 : cs[i]? = some x) : badUp cps cs (i + 1) = badUp cps cs i ++ (if bad (o, x) = true then [1] else []) := by
  unfold badUp
  have hz : (cps.zip cs)[i]? = some (o, x) := List.getElem?_zip_eq_some.mpr ⟨h1, h2⟩
  rw [List.take_add_one, hz, List.filter_append, List.map_append]
  congr 1
  by_cases e : bad (o, x) = true
  · rw [if_pos e]
    simp [e]
  · rw [if_neg e]
    simp [e]
theorem bad_len (cps : List (Option Int)) (cs : List Int) (i : Nat) : (badUp cps cs i).length ≤ i := by
  unfold badUp
  rw [List.length_map]
  refine Nat.le_trans (List.length_filter_le _ _) ?_
  rw [List.length_take]
  omega
theorem kept_nil {cps : List (Option Int)} {cs : List Int} (h : cps.length = cs.length) : (badUp cps cs cps.length = []) ↔ keptB cps cs = true := by
  unfold badUp keptB
  rw [List.take_of_length_le (by rw [List.length_zip]; omega), List.map_eq_nil_iff, List.isEmpty_iff]
theorem kept_iff {cps : List (Option Int)} {cs : List Int} : keptB cps cs = true ↔ ∀ (i : Nat) (v x : Int), cps[i]? = some (some v) → cs[i]? = some x → x ≤ v := by
  unfold keptB
  rw [List.isEmpty_iff, List.filter_eq_nil_iff]
  constructor
  · intro h i v x h1 h2
    have := h (some v, x) (List.mem_of_getElem? (List.getElem?_zip_eq_some.mpr ⟨h1, h2⟩ : (cps.zip cs)[i]? = some (some v, x)))
    have h3 : ¬ decide (x > v) = true := this
    rw [decide_eq_true_eq] at h3
    omega
  · intro h p hp
    obtain ⟨i, hi⟩ := List.mem_iff_getElem?.mp hp
    obtain ⟨e1, e2⟩ := List.getElem?_zip_eq_some.mp hi
    obtain ⟨o, x⟩ := p
    cases o with
    | none => exact Bool.false_ne_true
    | some v =>
      have := h i v x e1 e2
      show ¬ decide (x > v) = true
      rw [decide_eq_true_eq]
      omega
theorem cont_iff {cs row : List Int} : contains cs row = true ↔ ∀ (i : Nat) (x r : Int), cs[i]? = some x → row[i]? = some r → r ≤ x := by
  unfold contains
  rw [List.all_eq_true]
  constructor
  · intro h i x r h1 h2
    have hz : (List.zipWith (fun c n => decide (c ≥ n)) cs row)[i]? = some (decide (x ≥ r)) := by rw [List.getElem?_zipWith, h1, h2]
    exact of_decide_eq_true (h _ (List.mem_of_getElem? hz))
  · intro h b hb
    obtain ⟨i, hi⟩ := List.mem_iff_getElem?.mp hb
    rw [List.getElem?_zipWith] at hi
    cases e1 : cs[i]? with
    | none => rw [e1] at hi; cases hi
    | some x =>
      cases e2 : row[i]? with
      | none => rw [e1, e2] at hi; cases hi
      | some r =>
        rw [e1, e2] at hi
        obtain rfl := Option.some.inj hi
        exact decide_eq_true (h i x r e1 e2)
theorem ful_none {rows : List (List Int)} {cs : List Int} : fulOf rows cs = none ↔ ∀ r ∈ rows, contains cs r = false := by
  unfold fulOf
  rw [List.findIdx?_eq_none_iff]
theorem get_of_getD {r : List Int} {i : Nat} (h : i < r.length) : r[i]? = some (r.getD i 0) := by
  rw [List.getD_eq_getElem?_getD, List.getElem?_eq_getElem h]
  rfl
/-- counts fulfil nothing exactly if some spoiling keeps them -/
theorem ful_kept {rows : List (List Int)} {cs : List Int} {n : Nat} (hr : ∀ r ∈ rows, r.length = n) (hc : cs.length = n) (h0 : ∀ x ∈ cs, 0 ≤ x) : fulOf rows cs = none ↔ ∃ s ∈ spOf rows, keptB (capsOf rows s n) cs = true := by
  rw [ful_none, spOf_eq]
  constructor
  · intro h
    have ex : ∀ r ∈ rows, ∃ i : Nat, i < n ∧ cs.getD i 0 < r.getD i 0 := fun r hr' => by
      have h1 : ¬ lackOf cs r n = [] := fun e => by
        have := (lack_nil hc (hr r hr')).mp e
        rw [h r hr'] at this
        cases this
      obtain ⟨x, hx⟩ := List.exists_mem_of_ne_nil _ h1
      obtain ⟨j, hj, _⟩ := List.mem_map.mp hx
      obtain ⟨h2, h3⟩ := List.mem_filter.mp hj
      exact ⟨j, List.mem_range.mp h2, of_decide_eq_true h3⟩
    let f : List Int → Nat := fun r => ((List.range n).find? (lackAt cs r)).getD 0
    have hf : ∀ r ∈ rows, f r < n ∧ cs.getD (f r) 0 < r.getD (f r) 0 := fun r hr' => by
      obtain ⟨i, hi, hlt⟩ := ex r hr'
      have hs : ((List.range n).find? (lackAt cs r)).isSome = true := List.find?_isSome.mpr ⟨i, List.mem_range.mpr hi, decide_eq_true hlt⟩
      obtain ⟨j, hj⟩ := Option.isSome_iff_exists.mp hs
      have e : f r = j := by show ((List.range n).find? (lackAt cs r)).getD 0 = j; rw [hj]; rfl
      rw [e]
      have hl : lackAt cs r j = true := List.find?_some hj
      exact ⟨List.mem_range.mp (List.mem_of_find?_eq_some hj), of_decide_eq_true hl⟩
    refine ⟨rows.map fun r => (f r : Int), spR_bwd fun r hr' => ?_, kept_iff.mpr fun i v x e1 e2 => ?_⟩
    · obtain ⟨h1, h2⟩ := hf r hr'
      refine kinds_of (by rw [hr r hr']; exact h1) ?_
      have := h0 _ (List.mem_of_getElem? (get_of_getD (show f r < cs.length by omega)))
      omega
    · have hi : i < n := by
        have := (List.getElem?_eq_some_iff.mp e2).1
        omega
      rw [caps_get hi] at e1
      obtain ⟨h1, _⟩ := cap_some (Option.some.inj e1)
      obtain ⟨j, r, hj, hn, hv⟩ := pick_mem h1
      rw [List.getElem?_map, hj] at hn
      have hn : (f r : Int) = (i : Int) := Option.some.inj hn
      have hn' : f r = i := by omega
      obtain ⟨_, h4⟩ := hf r (List.mem_of_getElem? hj)
      rw [hn'] at h4
      have hx : cs.getD i 0 = x := by rw [List.getD_eq_getElem?_getD, e2]; rfl
      omega
  · rintro ⟨s, hs, hk⟩ r hr'
    obtain ⟨hl, hf⟩ := spR_fwd hs
    obtain ⟨j, hj⟩ := List.mem_iff_getElem?.mp hr'
    have hjl := (List.getElem?_eq_some_iff.mp hj).1
    have hsj : s[j]? = some (s[j]'(by omega)) := List.getElem?_eq_getElem (by omega)
    obtain ⟨i, hi, hil, hpos⟩ := mem_kinds (hf j r _ hj hsj)
    rw [hi] at hsj
    have hp := mem_pick hj hsj
    obtain ⟨v, hv⟩ := cap_of hp
    have hle := (cap_some hv).2 _ hp
    have hin : i < n := by rw [← hr r hr']; exact hil
    have h1 := kept_iff.mp hk i v (cs.getD i 0) (by rw [caps_get hin, hv]) (get_of_getD (by omega))
    cases hc' : contains cs r with
    | false => rfl
    | true =>
      have := cont_iff.mp hc' i _ _ (get_of_getD (by omega)) (get_of_getD hil)
      omega
theorem cap_nn {rows : List (List Int)} {s : List Int} {k : Nat} {v : Int} (hs : s ∈ spOf rows) (e : capAt rows s k = some v) : 0 ≤ v := by
  rw [spOf_eq] at hs
  obtain ⟨h1, _⟩ := cap_some e
  obtain ⟨j, r, hj, hn, hv⟩ := pick_mem h1
  obtain ⟨i, hi, _, hpos⟩ := mem_kinds ((spR_fwd hs).2 j r _ hj hn)
  have : i = k := by omega
  rw [this] at hpos
  omega
theorem ful_more {rows : List (List Int)} {cs : List Int} (h : fulOf rows cs ≠ none) : fulOf rows (cs.map fun x => x + 1) ≠ none := by
  intro e
  rw [ful_none] at e
  refine h (ful_none.mpr fun r hr => ?_)
  cases c : contains cs r with
  | false => rfl
  | true =>
    have : contains (cs.map fun x => x + 1) r = true := cont_iff.mpr fun i x y h1 h2 => by
      obtain ⟨x', hx', rfl⟩ := get_map h1
      have := cont_iff.mp c i x' y hx' h2
      omega
    rw [e r hr] at this
    cases this
/-- a collection that needs more -/
def bump (r : List Int) : List Int := r.map fun x => if x + 1 < 50 then x + 1 else 50
theorem ful_further {rs : List (List Int)} {r0 : List Int} {cs : List Int} (h0 : r0 ∈ rs) (hb : ∀ x ∈ r0, x ≤ 50) : (fulOf (rs ++ [bump r0]) cs = none) ↔ (fulOf rs cs = none) := by
  rw [ful_none, ful_none]
  constructor
  · intro h r hr
    exact h r (List.mem_append_left _ hr)
  · intro h r hr
    rcases List.mem_append.mp hr with hr | hr
    · exact h r hr
    · rw [List.mem_singleton.mp hr]
      cases c : contains cs (bump r0) with
      | false => rfl
      | true =>
        have : contains cs r0 = true := cont_iff.mpr fun i x y h1 h2 => by
          have h3 : (bump r0)[i]? = some (if y + 1 < 50 then y + 1 else 50) := by
            unfold bump
            rw [List.getElem?_map, h2]
            rfl
          have := cont_iff.mp c i x _ h1 h3
          have := hb y (List.mem_of_getElem? h2)
          split at * <;> omega
        rw [h r0 h0] at this
        cases this
/-- counts at the caps -/
def fullOf (cps : List (Option Int)) : List Int := cps.map fun o => o.getD 50
theorem full_kept (cps : List (Option Int)) : keptB cps (fullOf cps) = true := kept_iff.mpr fun i v x e1 e2 => by
  unfold fullOf at e2
  rw [List.getElem?_map, e1] at e2
  have : v = x := Option.some.inj e2
  omega
theorem named_ex {rows : List (List Int)} {s : List Int} {n : Nat} (hr : ∀ r ∈ rows, r.length = n) (h1 : 1 ≤ rows.length) (hs : s ∈ spOf rows) : ∃ k, k < n ∧ capAt rows s k ≠ none := by
  rw [spOf_eq] at hs
  obtain ⟨hl, hf⟩ := spR_fwd hs
  have hj : rows[0]? = some rows[0] := List.getElem?_eq_getElem (by omega)
  have hsj : s[0]? = some (s[0]'(by omega)) := List.getElem?_eq_getElem (by omega)
  obtain ⟨i, hi, hil, _⟩ := mem_kinds (hf 0 _ _ hj hsj)
  rw [hi] at hsj
  obtain ⟨v, hv⟩ := cap_of (mem_pick hj hsj)
  exact ⟨i, by have := hr _ (List.mem_of_getElem? hj); omega, by rw [hv]; exact fun e => nomatch e⟩
/-- one more of a kind with a cap -/
theorem many_ful {rows : List (List Int)} {s : List Int} {n k : Nat} {v : Int} {cs : List Int} (hr : ∀ r ∈ rows, r.length = n ∧ ∀ x ∈ r, x ≤ 1000000) (hv : capAt rows s k = some v) (hk : cs[k]? = some (v + 1)) (ho : ∀ i x, i ≠ k → cs[i]? = some x → x = 1000000) : fulOf rows cs ≠ none := by
  intro e
  obtain ⟨h1, _⟩ := cap_some hv
  obtain ⟨j, r, hj, hn, hrv⟩ := pick_mem h1
  have hrm := List.mem_of_getElem? hj
  have hf := ful_none.mp e r hrm
  have : contains cs r = true := cont_iff.mpr fun i x y g1 g2 => by
    by_cases hi : i = k
    · subst hi
      have g3 := Option.some.inj (hk.symm.trans g1)
      have h2' : r.getD i 0 = y := by rw [List.getD_eq_getElem?_getD, g2]; rfl
      omega
    · rw [ho i x hi g1]
      exact (hr r hrm).2 y (List.mem_of_getElem? g2)
  rw [hf] at this
  cases this
end DD
namespace DD
open PySem PySem.Spec PyProof.Rows L2
theorem ints_of_vals : ∀ {ns : List Int} {us : List Value}, Vals (ns.map V.int) us → PyProof.Rows.IntsAre us ns
  | [], _, h => by
    cases h
    exact .nil
  | n :: ns, _, h => by
    cases h with
    | cons r t =>
      obtain ⟨k, rfl⟩ := r
      exact .cons n k (ints_of_vals t)
/-- sum of a tuple of ints -/
theorem cr_sumT {X : Cx} (hc : X.calm = true) : CallR X (.builtin "sum") (fun vs H Q => ∃ (a : Addr) (ns : List Int), vs = [V.ref a] ∧ SqT X.K H a (ns.map V.int) ∧ Q (.int ns.sum) H) := by
  intro pins s σ H xs us Q I r h
  obtain ⟨a, ns, rfl, hq, q⟩ := h
  obtain ⟨u, rfl, ru⟩ := vals1 r
  cases ru
  obtain ⟨its, rv, ⟨o, ho, hcl, n, hd⟩, _⟩ := I.tuple hq
  have ia := ints_of_vals rv
  obtain ⟨xs, e⟩ := ia.allInts.items
  have hn : numsOf (intItems xs).toList = ns := by rw [← e]; exact ia.numsOf
  rw [nums_intItems] at hn
  have ht : s.heap.IsTuple a (intItems xs) := by rw [← e]; exact ⟨o, ho, hcl, n, hd⟩
  refine PySem.W.ktm_sumG (I.ok.hd hc) ht fun h' tk t' hk => ?_
  rw [preSum_eq, List.take_of_length_le (by simp), hn]
  exact ⟨.int ns.sum, H, I.kept hk, ⟨t', rfl⟩, q⟩

def sizesOf (rows : List (List Int)) : List Int := rows.map List.sum
/-- the sums of the columns 0 .. m - 1 -/
def totalsOf (rows : List (List Int)) (m : Nat) : List Int := (List.range m).map fun i => (rows.map fun r => r.getD i 0).sum

theorem scTotals : FnScope ["stock", "counts"] ["stock"] (defScope sTotals) := ⟨rfl, rfl, rfl, by decide +kernel, rfl, by decide +kernel, by decide +kernel⟩
section
variable {P : Program} {w : World} {K : PySem.W.Frag} {mg : Str → Option Value} {base : Heap}
/-- the rows, in a tuple or a list -/
def spTotals (K : PySem.W.Frag) : Sp := fun vs H Q _ => ∃ (t : Addr) (ls : List Addr) (rows : List (List Int)) (m : Nat), vs = [.ref t] ∧ (SqT K H t (ls.map V.ref) ∨ SqL K H t (ls.map V.ref)) ∧
  ls.length = rows.length ∧ (∀ (j : Nat) (l : Addr) (r : List Int), ls[j]? = some l → rows[j]? = some r → H l = some (.tup (r.map V.int)) ∧ r.length = m) ∧ (rows = [] → m = 0) ∧ rows.length ≤ 4 ∧ m ≤ 100 ∧
  ∀ p H', Same H H' → H p = none → H' p = some (.tup ((totalsOf rows m).map V.int)) → Q (.ref p) H'
theorem ok_totals {f : Addr} {fd : FuncData} {k : Nat} (F : Fun K "totals_of" "totals_of" sTotals f fd) (mt : mg "tuple" = none) (ms : mg "sum" = none) (mz : mg "zip" = none) :
    FnOk P w K mg base CX0 (k + 1) f fd ["stock"] (spTotals K) := by
  refine F.ok scTotals (fun vs H Q E h => ?_) (fun cdv A outer s H vs Q E hr h => ?_)
  · obtain ⟨t, ls, rows, m, rfl, _⟩ := h
    rfl
  · obtain ⟨t, ls, rows, m, rfl, top, hll, hat, h1, h4, hm, q⟩ := h
    refine ⟨_, pss_one (ps_ret (pe_callTy call_tuple_of (by rfl) mt (by decide +kernel) (pa_cons (pe_lc (own := [("counts", 1)]) (g := gName 1) rfl scTotals.nd (pi_zipO (by rfl) mz (pv 0))
      (blkOk_by (own := [("counts", 1)]) (N := ["stock", "counts"]) (sc := defScope sTotals) (by decide +kernel)) (fun _ _ _ _ _ => pg_name (i := 1) scTotals.nd rfl (Or.inl rfl)) (fun _ _ _ _ _ => pts_nil)
      (fun _ _ _ _ _ => pe_callB (show CallR _ _ (fun vs H Q => ∃ (a : Addr) (ns : List Int), vs = [V.ref a] ∧ SqT K H a (ns.map V.int) ∧ Q (.int ns.sum) H) from cr_sumT rfl) (by rfl) ms (by decide +kernel) (pa_cons (pv 1) pa_nil))) pa_nil))), ?_⟩
    have rws : ∀ H', Same H H' → Rws K H' ls (rows.map (List.map V.int)) m := fun H' sm => by
      refine ⟨by rw [List.length_map]; exact hll, fun j a r e1 e2 => ?_⟩
      obtain ⟨r0, hr0, rfl⟩ := get_map e2
      obtain ⟨x1, x2⟩ := hat j a r0 e1 hr0
      exact ⟨SqT.of (sm _ _ x1), by rw [List.length_map]; exact x2⟩
    refine ⟨.ref t, rfl, t, ls, rows.map (List.map V.int), m, rfl, top, by omega, (fun e => h1 (List.eq_nil_of_length_eq_zero (by rw [← hll, e]; rfl))), rws H (Same.refl H), fun D nD => ?_⟩
    refine lc_zipN (fun i H' => H' D = some (.lst (((totalsOf rows m).take i).map V.int)) ∧ Same H H') ⟨upd_same, same_new nD⟩ (fun i H' _ h => rws H' h.2) (fun i T H' hi h nT => ?_) (fun H' h => ?_)
    · obtain ⟨hD, sm⟩ := h
      have ec : colV (rows.map (List.map V.int)) i = (rows.map fun r => r.getD i 0).map V.int := by
        unfold colV
        rw [List.map_map, List.map_map]
        refine List.map_congr_left fun r hr => ?_
        obtain ⟨j, hj⟩ := List.mem_iff_getElem?.mp hr
        have hjl := (List.getElem?_eq_some_iff.mp hj).1
        have hlj : ls[j]? = some (ls[j]'(by omega)) := List.getElem?_eq_getElem (by omega)
        have hlen := (hat j _ r hlj hj).2
        show (r.map V.int).getD i .non = V.int (r.getD i 0)
        rw [List.getD_eq_getElem?_getD, List.getD_eq_getElem?_getD, List.getElem?_map, List.getElem?_eq_getElem (by omega)]
        rfl
      rw [ec]
      have hs : (totalsOf rows m)[i]? = some (rows.map fun r => r.getD i 0).sum := by
        unfold totalsOf
        rw [List.getElem?_map, List.getElem?_range hi]
        rfl
      have hDT : D ≠ T := ne_of_none hD nT
      have hD2 := hD
      rw [← upd_ne (H := H') (o := .tup ((rows.map fun r => r.getD i 0).map V.int)) hDT] at hD2
      refine ⟨rfl, .ref T, rfl, T, _, rfl, SqT.of upd_same, _, hD2, ?_, ?_, fun b o e => ?_⟩
      · rw [List.length_map, List.length_take]
        refine len_lt ?_
        have : (totalsOf rows m).length = m := by simp [totalsOf]
        omega
      · rw [upd_same, take_succ_map hs]
      · rw [upd_ne (ne_of_none e nD)]
        exact same_new nT _ _ (sm b o e)
    · obtain ⟨hD, sm⟩ := h
      rw [List.take_of_length_le (by simp [totalsOf])] at hD
      exact ⟨D, _, rfl, .inl ⟨SqL.of hD, fun p np => q p _ (sm.trans (same_new np)) (sm.free np) upd_same⟩⟩
end
end DD
namespace DD
open PySem PySem.Spec PyProof.Rows L2 RZ
theorem iteNx {b : Bool} {A B : Prop} (h : b = false) (hB : B) : if b = true then A else B := by
  rw [h]
  exact hB
/-- so many of them, or the cap -/
def capv (m : Int) : Option Int → Int
  | none => m
  | some c => if c < m then c else m
def pickR (rows : List (List Int)) (ds : List Nat) : List (List Int) := ds.map fun j => rows.getD j []
def roomL (rows : List (List Int)) (cs : List (Option Int)) (ds : List Nat) : Int := (List.zipWith capv (totalsOf (pickR rows ds) cs.length) cs).sum
theorem tot_len (rows : List (List Int)) (m : Nat) : (totalsOf rows m).length = m := by simp [totalsOf]
theorem zw_get {ts : List Int} {cs : List (Option Int)} {i : Nat} {t : Int} {c : Option Int} (h1 : ts[i]? = some t) (h2 : cs[i]? = some c) : (List.zipWith capv ts cs)[i]? = some (capv t c) := by
  rw [List.getElem?_zipWith, h1, h2]
theorem zero_sum : ∀ {cs : List (Option Int)} {ts : List Int}, (∀ c, some c ∈ cs → 0 ≤ c) → (∀ t ∈ ts, t = 0) → (List.zipWith capv ts cs).sum = 0
  | [], ts, _, _ => by cases ts <;> rfl
  | c :: cs, [], _, _ => rfl
  | c :: cs, t :: ts, h1, h2 => by
    have h := zero_sum (cs := cs) (ts := ts) (fun c' hc => h1 c' (List.mem_cons_of_mem _ hc)) fun t' ht => h2 t' (List.mem_cons_of_mem _ ht)
    rw [List.zipWith_cons_cons, List.sum_cons, h]
    obtain rfl := h2 t List.mem_cons_self
    cases c with
    | none => rfl
    | some c =>
      have := h1 c List.mem_cons_self
      show (if c < 0 then c else 0) + 0 = 0
      rw [if_neg (by omega)]
      rfl
theorem room_nil {rows : List (List Int)} {cs : List (Option Int)} (h : ∀ c, some c ∈ cs → 0 ≤ c) : roomL rows cs [] = 0 := by
  refine zero_sum h fun t ht => ?_
  obtain ⟨i, _, rfl⟩ := List.mem_map.mp ht
  rfl
theorem scRoomOf : FnScope ["totals", "caps", "total", "cap"] ["totals", "caps"] (defScope sRoomOf) := ⟨rfl, rfl, rfl, by decide +kernel, rfl, by decide +kernel, by decide +kernel⟩
-- : FnScope ["stock", "caps", "drawers", "drawer"] ["stock", "caps", "drawers"] (defScope sRoomIn) := ⟨rfl, rfl, rfl, by decide +kernel, rfl, by decide +kernel, by decide +kernel⟩
section
variable {P : Program} {w : World} {K : PySem.W.Frag} {mg : Str → Option Value} {base : Heap}
def spRoomOf : Sp := fun vs H Q _ => ∃ (a b : Addr) (ts : List Int) (cs : List (Option Int)), vs = [.ref a, .ref b] ∧ H a = some (.tup (ts.map V.int)) ∧ H b = some (.tup (cs.map optI)) ∧ ts.length ≤ cs.length ∧ ts.length ≤ 100 ∧
  ∀ H', Same H H' → Q (.int (List.zipWith capv ts cs).sum) H'
theorem ok_roomof {f fN fU fTu fA fIk fEr fO fSz fMg fFu fCo fSp fCa fI fR fFc fLo fSo fOv fDw fSv fIs fSt fSn fDk fD fCu fS fWh fKr fDv fWr : Addr} {fd dN dU dTu dA dIk dEr dO dSz dMg dFu dCo dSp dCa dI dR dFc dLo dSo dOv dDw dSv dIs dSt dSn dDk dD dCu dS dWh dKr dDv dWr : FuncData} {k : Nat} (F : Fun K "room_of" "room_of" sRoomOf f fd) (T : Tx K mg fN fU fTu fA fIk fEr fO fSz fMg fFu fCo fSp fCa fI fR fFc fLo fSo fOv fDw fSv fIs fSt fSn fDk fD fCu fS fWh fKr fDv fWr dN dU dTu dA dIk dEr dO dSz dMg dFu dCo dSp dCa dI dR dFc dLo dSo dOv dDw dSv dIs dSt dSn dDk dD dCu dS dWh dKr dDv dWr) :
    FnOk P w K mg base CX0 (k + 1) f fd ["totals", "caps"] spRoomOf := by
  refine F.ok scRoomOf (fun vs H Q E h => ?_) (fun cdv A outer s H vs Q E hr h => ?_)
  · obtain ⟨a, b, ts, cs, rfl, _⟩ := h
    rfl
  · obtain ⟨a, b, ts, cs, rfl, ha, hb, hl, h100, q⟩ := h
    refine ⟨_, (pss_one (ps_ret (pe_callB (show CallR _ _ (rSum K) from cr_sum rfl) (by rfl) T.m_sum (by decide +kernel) (pa_cons (pe_lc (own := [("total", 2), ("cap", 3)]) (g := gTup K 2 (gCons (gName 2) (gCons (gName 3) gNil))) rfl scRoomOf.nd (pi_zipA (by rfl) T.m_zip (pa_cons (pv 0) (pa_cons (pv 1) pa_nil))) (blkOk_by (own := [("total", 2), ("cap", 3)]) (N := ["totals", "caps", "total", "cap"]) (sc := defScope sRoomOf) (by decide +kernel)) (fun _ _ _ _ _ => (pg_tup rfl (pgs_cons (pg_name (i := 2) scRoomOf.nd rfl (Or.inl rfl)) (pgs_cons (pg_name (i := 3) scRoomOf.nd rfl (Or.inl rfl)) pgs_nil)))) (fun _ _ _ _ _ => pts_nil) (fun _ _ _ _ _ => (pe_ifExp (pt_cmpR op_isN (pv 3) pe_non (nomark _)) (pv 2) (pe_callB (call_min2 rfl) (by rfl) T.m_min (by decide +kernel) (pa_cons (pv 2) (pa_cons (pv 3) pa_nil)))))) pa_nil)))), ?_⟩
    refine ⟨.ref a, rfl, .ref b, rfl, a, b, _, _, rfl, .inr ⟨SqT.of ha, SqT.of hb, fun D nD => ?_⟩⟩
    refine lc_it (walk_zipT (xs := ts.map V.int) (ys := cs.map optI) (by rw [List.length_map, List.length_map]; exact hl)) (fun i H' => H' D = some (.lst (((List.zipWith capv ts cs).take i).map V.int)) ∧ Same H H') ⟨upd_same, same_new nD⟩
      (fun i H' _ h => ⟨SqT.of (h.2 _ _ ha), SqT.of (h.2 _ _ hb)⟩) (fun i x H' H1 hi h y => ?_) (fun H' h => ?_)
    · obtain ⟨hD, sm⟩ := h
      obtain ⟨T1, x1, x2, rfl, nT, rfl, e1, e2⟩ := y
      obtain ⟨t, ht, rfl⟩ := get_map e1
      obtain ⟨o, ho, rfl⟩ := get_map e2
      have sT : Same H' (upd H' T1 (.tup [.int t, optI o])) := same_new nT
      have hz := zw_get ht ho
      have fin : ∃ acc, (upd H' T1 (.tup [.int t, optI o])) D = some (.lst acc) ∧ acc.length < sizeLine ∧
          ((upd (upd H' T1 (.tup [.int t, optI o])) D (.lst (acc ++ [V.int (capv t o)]))) D = some (.lst (((List.zipWith capv ts cs).take (i + 1)).map V.int)) ∧ Same H (upd (upd H' T1 (.tup [.int t, optI o])) D (.lst (acc ++ [V.int (capv t o)])))) := by
        refine ⟨_, sT _ _ hD, ?_, ?_, fun b' o' e => ?_⟩
        · rw [List.length_map, List.length_take, List.length_zipWith]
          exact len_lt (by omega)
        · rw [upd_same, take_succ_map hz]
        · rw [upd_ne (ne_of_none e nD)]
          exact sT _ _ (sm b' o' e)
      refine ⟨T1, [.int t, optI o], rfl, .inl (.inl upd_same), rfl, .int t, [optI o], rfl, optI o, [], rfl, rfl, rfl, ?_⟩
      cases o with
      | none => exact ⟨_, rfl, rfl, _, rfl, iteT ⟨_, rfl, fin⟩⟩
      | some c => exact ⟨_, rfl, rfl, _, rfl, iteNx rfl ⟨_, rfl, _, rfl, t, c, rfl, fin⟩⟩
    · obtain ⟨hD, sm⟩ := h
      rw [List.length_map, List.take_of_length_le (by rw [List.length_zipWith]; omega)] at hD
      exact ⟨D, _, rfl, SqL.of hD, q _ sm⟩
end
end DD
namespace DD
open PySem PySem.Spec PyProof.Rows L2 RZ
/-- a stock, caps and drawers of it -/
structure RA (H : Hp) (t b d : Addr) (ls : List Addr) (rows : List (List Int)) (cs : List (Option Int)) (ds : List Nat) : Prop where
  st : StockAt H t ls rows
  rl : ∀ r ∈ rows, r.length = cs.length
  hb : H b = some (.tup (cs.map optI))
  hd : H d = some (.tup (ds.map fun j : Nat => V.int (j : Int)))
  dl : ds.length ≤ 4
  db : ∀ j ∈ ds, j < rows.length
  cl : cs.length ≤ 4
  cp : ∀ c, some c ∈ cs → 0 ≤ c
theorem RA.same {H H' : Hp} {t b d : Addr} {ls : List Addr} {rows : List (List Int)} {cs : List (Option Int)} {ds : List Nat} (r : RA H t b d ls rows cs ds) (s : Same H H') : RA H' t b d ls rows cs ds :=
  ⟨r.st.same s, r.rl, s _ _ r.hb, s _ _ r.hd, r.dl, r.db, r.cl, r.cp⟩
def pickL (ls : List Addr) (ds : List Nat) : List Addr := ds.map fun j => ls.getD j 0
theorem getD_of {α : Type} {xs : List α} {i : Nat} {d : α} (h : i < xs.length) : xs[i]? = some (xs.getD i d) := by
  rw [List.getD_eq_getElem?_getD, List.getElem?_eq_getElem h]
  rfl
theorem sum_take_succ {xs : List Int} {i : Nat} {x : Int} (h : xs[i]? = some x) : (xs.take (i + 1)).sum = (xs.take i).sum + x := by
  rw [List.take_add_one, h, List.sum_append]
  simp
end DD
namespace DD
open PySem PySem.Spec PyProof.Rows L2 RZ
def natsV (ds : List Nat) : List V := ds.map fun j : Nat => V.int (j : Int)
/-- tuples of drawers -/
structure SetsAt (H : Hp) (as : List Addr) (dss : List (List Nat)) (n : Nat) : Prop where
  len : as.length = dss.length
  at_ : ∀ (j : Nat) (a : Addr) (ds : List Nat), as[j]? = some a → dss[j]? = some ds → H a = some (.tup (natsV ds))
  bd : ∀ ds ∈ dss, ds.length ≤ 4 ∧ ∀ j ∈ ds, j < n
theorem SetsAt.same {H H' : Hp} {as : List Addr} {dss : List (List Nat)} {n : Nat} (a : SetsAt H as dss n) (s : Same H H') : SetsAt H' as dss n :=
  ⟨a.len, fun j x ds e1 e2 => s _ _ (a.at_ j x ds e1 e2), a.bd⟩
theorem SetsAt.snoc {H : Hp} {as : List Addr} {dss : List (List Nat)} {n : Nat} {x : Addr} {ds : List Nat} (a : SetsAt H as dss n) (h : H x = some (.tup (natsV ds))) (hb : ds.length ≤ 4 ∧ ∀ j ∈ ds, j < n) : SetsAt H (as ++ [x]) (dss ++ [ds]) n := by
  refine ⟨by rw [List.length_append, List.length_append, a.len]; rfl, fun j l r x1 x2 => ?_, fun r hr => ?_⟩
  · by_cases hj : j < as.length
    · rw [List.getElem?_append_left hj] at x1
      rw [List.getElem?_append_left (by rw [← a.len]; exact hj)] at x2
      exact a.at_ j l r x1 x2
    · have hj2 : j = as.length := by
        have := (List.getElem?_eq_some_iff.mp x1).1
        rw [List.length_append] at this
        simp at this
        omega
      subst hj2
      rw [List.getElem?_append_right (Nat.le_refl _), Nat.sub_self] at x1
      rw [a.len, List.getElem?_append_right (Nat.le_refl _), Nat.sub_self] at x2
      obtain rfl : x = l := Option.some.inj x1
      obtain rfl : ds = r := Option.some.inj x2
      exact h
  · rcases List.mem_append.mp hr with h | h
    · exact a.bd r h
    · rw [List.mem_singleton.mp h]
      exact hb
theorem SetsAt.lst {H : Hp} {as : List Addr} {dss : List (List Nat)} {n : Nat} {D : Addr} {xs ys : List V} (a : SetsAt H as dss n) (h : H D = some (.lst xs)) : SetsAt (upd H D (.lst ys)) as dss n :=
  ⟨a.len, fun j x ds e1 e2 => by
    have := a.at_ j x ds e1 e2
    have ne : x ≠ D := fun z => by rw [z, h] at this; cases this
    rw [upd_ne ne]
    exact this, a.bd⟩
theorem SetsAt.append {H : Hp} {as bs : List Addr} {dss ess : List (List Nat)} {n : Nat} (a : SetsAt H as dss n) (b : SetsAt H bs ess n) : SetsAt H (as ++ bs) (dss ++ ess) n := by
  refine ⟨by rw [List.length_append, List.length_append, a.len, b.len], fun j x ds x1 x2 => ?_, fun ds hd => ?_⟩
  · by_cases hj : j < as.length
    · rw [List.getElem?_append_left hj] at x1
      rw [List.getElem?_append_left (by rw [← a.len]; exact hj)] at x2
      exact a.at_ j x ds x1 x2
    · rw [List.getElem?_append_right (by omega)] at x1
      rw [List.getElem?_append_right (by rw [← a.len]; omega), ← a.len] at x2
      exact b.at_ _ x ds x1 x2
  · rcases List.mem_append.mp hd with h | h
    · exact a.bd ds h
    · exact b.bd ds h
theorem SetsAt.up {H : Hp} {as : List Addr} {dss : List (List Nat)} {n m : Nat} (a : SetsAt H as dss n) (h : n ≤ m) : SetsAt H as dss m :=
  ⟨a.len, a.at_, fun ds hd => ⟨(a.bd ds hd).1, fun j hj => Nat.lt_of_lt_of_le ((a.bd ds hd).2 j hj) h⟩⟩
/-- all sets of m drawers in the program's order -/
def pSets : Nat → List (List Nat)
  | 0 => [[]]
  | m + 1 => pSets m ++ (pSets m).map fun s => s ++ [m]
theorem ps_len : ∀ m, (pSets m).length = 2 ^ m
  | 0 => rfl
  | m + 1 => by
    show (pSets m ++ (pSets m).map _).length = _
    rw [List.length_append, List.length_map, ps_len m, Nat.pow_succ]
    omega
theorem ps_bd : ∀ {m : Nat} {s : List Nat}, s ∈ pSets m → s.length ≤ m ∧ s.Nodup ∧ ∀ j ∈ s, j < m
  | 0, s, h => by
    rw [List.mem_singleton.mp h]
    exact ⟨Nat.le_refl _, List.nodup_nil, fun j hj => by cases hj⟩
  | m + 1, s, h => by
    rcases List.mem_append.mp h with h | h
    · obtain ⟨h1, h2, h3⟩ := ps_bd h
      exact ⟨by omega, h2, fun j hj => Nat.lt_succ_of_lt (h3 j hj)⟩
    · obtain ⟨s', hs', rfl⟩ := List.mem_map.mp h
      obtain ⟨h1, h2, h3⟩ := ps_bd hs'
      refine ⟨by rw [List.length_append]; show s'.length + 1 ≤ m + 1; omega, ?_, fun j hj => ?_⟩
      · rw [List.nodup_append]
        refine ⟨h2, by simp, fun a ha b hb e => ?_⟩
        have := h3 a ha
        rw [List.mem_singleton.mp hb] at e
        omega
      · rcases List.mem_append.mp hj with h | h
        · exact Nat.lt_succ_of_lt (h3 j h)
        · rw [List.mem_singleton.mp h]
          exact Nat.lt_succ_self m
abbrev NSo : List Str := ["stock", "sets", "drawer", "drawers"]
theorem scSetsOf : FnScope NSo ["stock"] (defScope sSetsOf) := ⟨rfl, rfl, rfl, by decide +kernel, rfl, by decide +kernel, by decide +kernel⟩
section
variable {P : Program} {w : World} {K : PySem.W.Frag} {mg : Str → Option Value} {base : Heap}
def spSetsOf : Sp := fun vs H Q _ => ∃ (t : Addr) (xs : List V), vs = [.ref t] ∧ H t = some (.tup xs) ∧ xs.length ≤ 4 ∧
  ∀ (D : Addr) (as : List Addr) H', Same H H' → H' D = some (.lst (as.map V.ref)) → SetsAt H' as (pSets xs.length) xs.length → Q (.ref D) H'
theorem ok_setsof {f fN fU fTu fA fIk fEr fO fSz fMg fFu fCo fSp fCa fI fR fFc fLo fSo fOv fDw fSv fIs fSt fSn fDk fD fCu fS fWh fKr fDv fWr : Addr} {fd dN dU dTu dA dIk dEr dO dSz dMg dFu dCo dSp dCa dI dR dFc dLo dSo dOv dDw dSv dIs dSt dSn dDk dD dCu dS dWh dKr dDv dWr : FuncData} {k : Nat} (F : Fun K "sets_of_drawers" "sets_of_drawers" sSetsOf f fd) (T : Tx K mg fN fU fTu fA fIk fEr fO fSz fMg fFu fCo fSp fCa fI fR fFc fLo fSo fOv fDw fSv fIs fSt fSn fDk fD fCu fS fWh fKr fDv fWr dN dU dTu dA dIk dEr dO dSz dMg dFu dCo dSp dCa dI dR dFc dLo dSo dOv dDw dSv dIs dSt dSn dDk dD dCu dS dWh dKr dDv dWr) :
    FnOk P w K mg base CX0 (k + 1) f fd ["stock"] spSetsOf := by
  refine F.ok scSetsOf (fun vs H Q E h => ?_) (fun cdv A outer s H vs Q E hr h => ?_)
  · obtain ⟨t, xs, rfl, _⟩ := h
    rfl
  · obtain ⟨t, xs, rfl, ht, h4, q⟩ := h
    refine ⟨_, (pss_cons (ps_set (i := 1) scSetsOf.nd rfl (.inl rfl) (pe_lst (pa_cons (pe_tup pa_nil) pa_nil)))
      (pss_cons (ps_for PassesOwn.never rfl (pi_range1 (by rfl) T.m_range (pa_cons (pe_callB call_len_seq (by rfl) T.m_len PySem.boot_len (pa_cons (pv 0) pa_nil)) pa_nil)) (pg_name (i := 2) scSetsOf.nd rfl (Or.inr rfl)) (pss_one (ps_set (i := 1) scSetsOf.nd rfl (.inl rfl) (pe_op op_cat (pv 1) (pe_lc (te := tTup (StX.tStar K (tVar 3) (tCons (tVar 2) tNil))) (own := [("drawers", 3)]) (g := gName 3) rfl scSetsOf.nd (pi_list (pv 1)) (blkOk_by (own := [("drawers", 3)]) (N := NSo) (sc := defScope sSetsOf) (by decide +kernel)) (fun _ _ _ _ _ => (pg_name (i := 3) scSetsOf.nd rfl (Or.inl rfl))) (fun _ _ _ _ _ => pts_nil) (fun _ _ _ _ _ => (pe_tup (StX.pa_star (pv 3) (pa_cons (pv 2) pa_nil)))))))))
      (pss_one (ps_ret (pv 1))))), ?_⟩
    refine ⟨Nat.zero_le _, fun p0 np0 => ?_⟩
    refine ⟨by show 1 ≤ sizeLine; decide, fun F0 nF0 => ?_⟩
    have s0 : Same H (upd (upd H p0 (.tup [])) F0 (.lst [.ref p0])) := (same_new np0).trans (same_new nF0)
    have hp0 : (upd (upd H p0 (.tup [])) F0 (.lst [.ref p0])) p0 = some (.tup (natsV [])) := same_new nF0 _ _ upd_same
    have hF0 : (upd (upd H p0 (.tup [])) F0 (.lst [.ref p0])) F0 = some (.lst ([p0].map V.ref)) := upd_same
    generalize upd (upd H p0 (.tup [])) F0 (.lst [.ref p0]) = H0 at s0 hF0 hp0 ⊢
    have a0 : SetsAt H0 [p0] (pSets 0) 0 := ⟨rfl, fun j x ds e1 e2 => by
      cases j with
      | zero =>
        obtain rfl : p0 = x := Option.some.inj e1
        obtain rfl : [] = ds := Option.some.inj e2
        exact hp0
      | succ j => simp at e1, fun ds hd => by rw [List.mem_singleton.mp hd]; exact ⟨Nat.zero_le _, fun j hj => by cases hj⟩⟩
    refine ⟨_, rfl, t, xs, rfl, .inr (SqT.of (s0 _ _ ht)), (xs.length : Int), rfl, by omega, by omega, ?_⟩
    refine for_range (lo := 0) (n := xs.length) (fun i σ H' => ∃ (S : Addr) (as : List Addr) (y2 y3 : Option V), σ = [some (.ref t), some (.ref S), y2, y3] ∧ Same H H' ∧ H' S = some (.lst (as.map V.ref)) ∧ SetsAt H' as (pSets i) i)
      ⟨F0, [p0], _, _, rfl, s0, hF0, a0⟩ (fun i σ H' hi h => ?_) (fun σ H' h => ?_)
    · obtain ⟨S, as, y2, y3, rfl, sm, hS, sa⟩ := h
      have hal : as.length ≤ 8 := by
        rw [sa.len, ps_len]
        exact Nat.pow_le_pow_right (n := 2) (by decide) (show i ≤ 3 by omega)
      refine ⟨_, rfl, _, rfl, S, rfl, ⟨_, SqL.of hS⟩, fun D nD => ?_⟩
      refine lc_list (xs := as.map V.ref) (fun m H2 => ∃ bs : List Addr, H2 D = some (.lst (bs.map V.ref)) ∧ Same H' H2 ∧ bs.length = m ∧ SetsAt H2 bs (((pSets i).take m).map fun s => s ++ [i]) (i + 1)) ⟨[], upd_same, same_new nD, rfl, ⟨rfl, fun j x ds e => by simp at e, fun ds h => by cases h⟩⟩
        (fun m H2 _ h => by obtain ⟨_, _, s2, _⟩ := h; exact SqL.of (s2 _ _ hS)) (fun m x H2 hx h => ?_) (fun H2 h => ?_)
      · obtain ⟨bs, hD, s2, hbl, sb⟩ := h
        obtain ⟨a1, ha1, rfl⟩ := get_map hx
        have hml : m < (pSets i).length := by rw [← sa.len]; exact (List.getElem?_eq_some_iff.mp ha1).1
        have hsm : (pSets i)[m]? = some (pSets i)[m] := List.getElem?_eq_getElem hml
        have hta := s2 _ _ (sa.at_ m a1 _ ha1 hsm)
        obtain ⟨hb1, _, hb2⟩ := ps_bd (List.getElem_mem hml)
        generalize hs : (pSets i)[m] = s' at hsm hta hb1 hb2
        refine ⟨rfl, .ref a1, rfl, a1, _, rfl, .inl (SqT.of hta), .int ((0 : Int) + (i : Nat)), rfl, ?_, fun T1 nT => ?_⟩
        · show (s'.map _ ++ [V.int ((0 : Int) + (i : Nat))]).length ≤ sizeLine
          rw [List.length_append, List.length_map]
          exact Nat.le_of_lt (len_lt (by show s'.length + 1 ≤ 1000; omega))
        have hn : natsV s' ++ [V.int ((0 : Int) + (i : Nat))] = natsV (s' ++ [i]) := by
          unfold natsV
          rw [List.map_append, Int.zero_add]
          rfl
        have sT : Same H2 (upd H2 T1 (.tup (natsV s' ++ [V.int ((0 : Int) + (i : Nat))]))) := same_new nT
        have hT : (upd H2 T1 (.tup (natsV s' ++ [V.int ((0 : Int) + (i : Nat))]))) T1 = some (.tup (natsV (s' ++ [i]))) := by rw [upd_same, hn]
        have hD2 := sT _ _ hD
        refine ⟨_, hD2, ?_, bs ++ [T1], ?_, fun b' o e' => ?_, ?_, ?_⟩
        · rw [List.length_map, hbl]
          have := (List.getElem?_eq_some_iff.mp ha1).1
          exact len_lt (by omega)
        · rw [upd_same, List.map_append]
          rfl
        · rw [upd_ne (ne_of_none e' nD)]
          exact sT _ _ (s2 b' o e')
        · rw [List.length_append, hbl]
          rfl
        · rw [take_succ_map hsm]
          refine ((sb.same sT).snoc hT ⟨by rw [List.length_append]; show s'.length + 1 ≤ 4; omega, fun j hj => ?_⟩).lst hD2
          rcases List.mem_append.mp hj with h | h
          · exact Nat.lt_succ_of_lt (hb2 j h)
          · rw [List.mem_singleton.mp h]
            exact Nat.lt_succ_self i
      · obtain ⟨bs, hD, s2, hbl, sb⟩ := h
        rw [List.length_map] at hbl sb
        rw [sa.len, List.take_length] at sb
        refine ⟨S, D, _, _, rfl, rfl, s2 _ _ hS, hD, ?_, fun p np => ?_⟩
        · rw [List.length_map, List.length_map, hbl]
          exact Nat.le_of_lt (len_lt (by omega))
        have sp := same_new (o := .lst (as.map V.ref ++ bs.map V.ref)) np
        refine ⟨p, as ++ bs, _, _, rfl, sm.trans (s2.trans sp), by rw [upd_same, List.map_append], ?_⟩
        exact SetsAt.append (((sa.same s2).same sp).up (Nat.le_succ i)) (sb.same sp)
    · obtain ⟨S, as, y2, y3, rfl, sm, hS, sa⟩ := h
      exact ⟨_, rfl, q S as _ sm hS sa⟩
end
end DD
namespace DD
open PySem PySem.Spec PyProof.Rows L2 RZ
def takenOf (ps : List Int) (ds : List Nat) : Int := (ds.map fun j => ps.getD j 0).sum
def totL (rows : List (List Int)) (n : Nat) (ds : List Nat) : List Int := totalsOf (pickR rows ds) (if ds = [] then 0 else n)
def LoadAt (H : Hp) (rows : List (List Int)) (ps : List Int) (n : Nat) (a : Addr) (ds : List Nat) : Prop := ∃ d tt : Addr, H a = some (.tup [.ref d, .int (takenOf ps ds), .ref tt]) ∧ H d = some (.tup (natsV ds)) ∧ H tt = some (.tup ((totL rows n ds).map V.int))
theorem LoadAt.tk {H H' : Hp} {rows : List (List Int)} {ps : List Int} {n : Nat} {a : Addr} {ds : List Nat} (l : LoadAt H rows ps n a ds) (k : ∀ b xs, H b = some (.tup xs) → H' b = some (.tup xs)) : LoadAt H' rows ps n a ds := by
  obtain ⟨d, tt, h1, h2, h3⟩ := l
  exact ⟨d, tt, k _ _ h1, k _ _ h2, k _ _ h3⟩
structure LoadsAt (H : Hp) (rows : List (List Int)) (ps : List Int) (n : Nat) (as : List Addr) (dss : List (List Nat)) : Prop where
  len : as.length = dss.length
  at_ : ∀ (j : Nat) (a : Addr) (ds : List Nat), as[j]? = some a → dss[j]? = some ds → LoadAt H rows ps n a ds
theorem LoadsAt.tk {H H' : Hp} {rows : List (List Int)} {ps : List Int} {n : Nat} {as : List Addr} {dss : List (List Nat)} (l : LoadsAt H rows ps n as dss) (k : ∀ b xs, H b = some (.tup xs) → H' b = some (.tup xs)) : LoadsAt H' rows ps n as dss :=
  ⟨l.len, fun j a ds e1 e2 => (l.at_ j a ds e1 e2).tk k⟩
theorem LoadsAt.snoc {H : Hp} {rows : List (List Int)} {ps : List Int} {n : Nat} {as : List Addr} {dss : List (List Nat)} {x : Addr} {ds : List Nat} (a : LoadsAt H rows ps n as dss) (h : LoadAt H rows ps n x ds) : LoadsAt H rows ps n (as ++ [x]) (dss ++ [ds]) := by
  refine ⟨by rw [List.length_append, List.length_append, a.len]; rfl, fun j l r x1 x2 => ?_⟩
  by_cases hj : j < as.length
  · rw [List.getElem?_append_left hj] at x1
    rw [List.getElem?_append_left (by rw [← a.len]; exact hj)] at x2
    exact a.at_ j l r x1 x2
  · have hj2 : j = as.length := by
      have := (List.getElem?_eq_some_iff.mp x1).1
      rw [List.length_append] at this
      simp at this
      omega
    subst hj2
    rw [List.getElem?_append_right (Nat.le_refl _), Nat.sub_self] at x1
    rw [a.len, List.getElem?_append_right (Nat.le_refl _), Nat.sub_self] at x2
    obtain rfl : x = l := Option.some.inj x1
    obtain rfl : ds = r := Option.some.inj x2
    exact h
abbrev NLo : List Str := ["stock", "plan", "loads", "drawers", "taken", "drawer"]
theorem scLoads : FnScope NLo ["stock", "plan"] (defScope sLoads) := ⟨rfl, rfl, rfl, by decide +kernel, rfl, by decide +kernel, by decide +kernel⟩
section
variable {P : Program} {w : World} {K : PySem.W.Frag} {mg : Str → Option Value} {base : Heap}
def spLoads : Sp := fun vs H Q _ => ∃ (t p : Addr) (ls : List Addr) (rows : List (List Int)) (ps : List Int) (n : Nat), vs = [.ref t, .ref p] ∧ StockAt H t ls rows ∧ rows.length ≤ 4 ∧ (∀ r ∈ rows, r.length = n) ∧ n ≤ 100 ∧ H p = some (.tup (ps.map V.int)) ∧ ps.length = rows.length ∧
  ∀ (D : Addr) (as : List Addr) H', Same H H' → H' D = some (.lst (as.map V.ref)) → LoadsAt H' rows ps n as (pSets rows.length) → Q (.ref D) H'
set_option maxHeartbeats 800000 in
theorem ok_loads {f fN fU fTu fA fIk fEr fO fSz fMg fFu fCo fSp fCa fI fR fFc fLo fSo fOv fDw fSv fIs fSt fSn fDk fD fCu fS fWh fKr fDv fWr : Addr} {fd dN dU dTu dA dIk dEr dO dSz dMg dFu dCo dSp dCa dI dR dFc dLo dSo dOv dDw dSv dIs dSt dSn dDk dD dCu dS dWh dKr dDv dWr : FuncData} {k : Nat} (F : Fun K "loads_of" "loads_of" sLoads f fd) (T : Tx K mg fN fU fTu fA fIk fEr fO fSz fMg fFu fCo fSp fCa fI fR fFc fLo fSo fOv fDw fSv fIs fSt fSn fDk fD fCu fS fWh fKr fDv fWr dN dU dTu dA dIk dEr dO dSz dMg dFu dCo dSp dCa dI dR dFc dLo dSo dOv dDw dSv dIs dSt dSn dDk dD dCu dS dWh dKr dDv dWr) :
    FnOk P w K mg base CX0 (k + 2) f fd ["stock", "plan"] spLoads := by
  have GO : FnOk P w K mg base CX0 (k + 1) fO dO ["stock"] (spTotals K) := ok_totals T.O T.m_tuple T.m_sum T.m_zip
  have GSo : FnOk P w K mg base CX0 (k + 1) fSo dSo ["stock"] spSetsOf := ok_setsof T.So T
  refine F.ok scLoads (fun vs H Q E h => ?_) (fun cdv A outer s H vs Q E hr h => ?_)
  · obtain ⟨t, p, ls, rows, ps, n, rfl, _⟩ := h
    rfl
  · obtain ⟨t, p, ls, rows, ps, n, rfl, st, h4, hrn, hn, hp, hpl, q⟩ := h
    refine ⟨_, (pss_cons (ps_set (i := 2) scLoads.nd rfl (.inl rfl) (pe_lst pa_nil))
      (pss_cons (ps_for PassesOwn.never rfl (pi_list (pe_call GSo (hr.mono (by omega)) (by rfl) T.gSo T.So.kp T.bSo .nil pass0 (pa_cons (pv 0) pa_nil))) (pg_name (i := 3) scLoads.nd rfl (Or.inl rfl)) (pss_cons (ps_set (i := 4) scLoads.nd rfl (.inl rfl) (pe_callB (show CallR _ _ (rSum K) from cr_sum rfl) (by rfl) T.m_sum (by decide +kernel) (pa_cons (pe_lc (own := [("drawer", 5)]) (g := gName 5) rfl scLoads.nd (pi_tup (pv 3)) (blkOk_by (own := [("drawer", 5)]) (N := NLo) (sc := defScope sLoads) (by decide +kernel)) (fun _ _ _ _ _ => (pg_name (i := 5) scLoads.nd rfl (Or.inl rfl))) (fun _ _ _ _ _ => pts_nil) (fun _ _ _ _ _ => (pe_ix (show IxR _ (rIxT K) from ix_tup) (pv 1) (pv 5) (fun _ _ => rfl)))) pa_nil)))
      (pss_one (ps_expr (pe_bm PySem.F.plainAttrs_list PySem.F.slot_list_append PySem.F.type_list_append mt_append (pv 2) (pa_cons (pe_tup (pa_cons (pv 3) (pa_cons (pv 4) (pa_cons (pe_call GO (hr.mono (by omega)) (by rfl) T.gO T.O.kp T.bO .nil pass0 (pa_cons (pe_lc (own := [("drawer", 5)]) (g := gName 5) rfl scLoads.nd (pi_tup (pv 3)) (blkOk_by (own := [("drawer", 5)]) (N := NLo) (sc := defScope sLoads) (by decide +kernel)) (fun _ _ _ _ _ => (pg_name (i := 5) scLoads.nd rfl (Or.inl rfl))) (fun _ _ _ _ _ => pts_nil) (fun _ _ _ _ _ => (pe_ix (show IxR _ (rIxT K) from ix_tup) (pv 0) (pv 5) (fun _ _ => rfl)))) pa_nil)) pa_nil)))) pa_nil))))))
      (pss_one (ps_ret (pv 2))))), ?_⟩
    refine ⟨Nat.zero_le _, fun F0 nF => ?_⟩
    have s0 : Same H (upd H F0 (.lst [])) := same_new nF
    have hF0 : (upd H F0 (.lst [])) F0 = some (.lst ([] : List V)) := upd_same
    generalize upd H F0 (.lst []) = H0 at s0 hF0 ⊢
    have hlen : (ls.map V.ref).length = rows.length := by rw [List.length_map, st.len]
    refine ⟨_, rfl, t, ls.map V.ref, rfl, s0 _ _ st.top, by omega, fun L as H1 s1 hL sa => ?_⟩
    rw [hlen] at sa
    have s01 := s0.trans s1
    have hF1 := s1 _ _ hF0
    have nLF : L ≠ F0 ∨ as = [] := by
      by_cases e : L = F0
      · right
        rw [e, hF1] at hL
        have := HO.lst.inj (Option.some.inj hL)
        exact List.map_eq_nil_iff.mp this.symm
      · exact .inl e
    have hal : as.length = 2 ^ rows.length := by rw [sa.len, ps_len]
    have nLF : L ≠ F0 := by
      rcases nLF with h | h
      · exact h
      · rw [h] at hal
        have : 0 < 2 ^ rows.length := Nat.pow_pos (by decide)
        simp at hal
        omega
    have h16 : as.length ≤ 16 := by
      rw [hal]
      exact Nat.pow_le_pow_right (n := 2) (by decide) h4
    refine ⟨L, rfl, ⟨_, SqL.of hL⟩, ?_⟩
    refine for_it (walk_list (xs := as.map V.ref)) (fun i σ H' => ∃ (as' : List Addr) (y3 y4 y5 : Option V), σ = [some (.ref t), some (.ref p), some (.ref F0), y3, y4, y5] ∧ Same H H' ∧ H' L = some (.lst (as.map V.ref)) ∧ SetsAt H' as (pSets rows.length) rows.length ∧ H' F0 = some (.lst (as'.map V.ref)) ∧ LoadsAt H' rows ps n as' ((pSets rows.length).take i))
      ⟨[], _, _, _, rfl, s01, hL, sa, hF1, ⟨rfl, fun j a ds e => by simp at e⟩⟩ (fun i σ H' _ h => by obtain ⟨_, _, _, _, _, _, hL', _⟩ := h; exact SqL.of hL') (fun i x σ H' H2 hi h y => ?_) (fun σ H' h => ?_)
    · obtain ⟨as', y3, y4, y5, rfl, sm, hL', sa', hF, la⟩ := h
      obtain ⟨rfl, hx⟩ := y
      obtain ⟨d, hd, rfl⟩ := get_map hx
      rw [List.length_map] at hi
      have hid : i < (pSets rows.length).length := by rw [← sa'.len]; exact hi
      have hdi : (pSets rows.length)[i]? = some (pSets rows.length)[i] := List.getElem?_eq_getElem hid
      have hds := sa'.at_ i d _ hd hdi
      obtain ⟨hd4, hdb⟩ := sa'.bd _ (List.getElem_mem hid)
      generalize he : (pSets rows.length)[i] = dd at hdi hds hd4 hdb
      refine ⟨.ref d, rfl, d, rfl, ⟨_, SqT.of hds⟩, fun D nD => ?_⟩
      refine lc_tup (xs := dd.map fun j : Nat => V.int (j : Int)) (fun m H3 => H3 D = some (.lst (((dd.map fun j => ps.getD j 0).take m).map V.int)) ∧ Same H2 H3) ⟨upd_same, same_new nD⟩ (fun m H3 _ h => SqT.of (h.2 _ _ hds)) (fun m x H3 hx h => ?_) (fun H3 h => ?_)
      · obtain ⟨hD, s3⟩ := h
        obtain ⟨j, hj, rfl⟩ := get_map hx
        have hjr := hdb j (List.mem_of_getElem? hj)
        have gp : (ps.map V.int)[j]? = some (.int (ps.getD j 0)) := by
          rw [List.getElem?_map, getD_of (d := 0) (by rw [hpl]; exact hjr)]
          rfl
        have hz : (dd.map fun j => ps.getD j 0)[m]? = some (ps.getD j 0) := by
          rw [List.getElem?_map, hj]
          rfl
        refine ⟨rfl, .ref p, rfl, .int (j : Int), rfl, p, _, (j : Int), .int (ps.getD j 0), rfl, rfl, SqT.of (s3 _ _ (sm _ _ hp)), atI_nat gp, _, hD, ?_, ?_, fun b' o' e => ?_⟩
        · rw [List.length_map, List.length_take, List.length_map]
          exact len_lt (by omega)
        · rw [upd_same, take_succ_map hz]
        · rw [upd_ne (ne_of_none e nD)]
          exact s3 b' o' e
      · obtain ⟨hD, s3⟩ := h
        rw [List.length_map, List.take_of_length_le (by rw [List.length_map]; exact Nat.le_refl _)] at hD
        refine ⟨D, _, rfl, SqL.of hD, ?_⟩
        have sm3 := sm.trans s3
        have hF3 := s3 _ _ hF
        have hds3 := s3 _ _ hds
        refine ⟨.ref F0, rfl, .inl ⟨rfl, _, SqL.of hF3⟩, _, rfl, _, rfl, .ref d, rfl, d, rfl, ⟨_, SqT.of hds3⟩, fun D2 nD2 => ?_⟩
        refine lc_tup (xs := dd.map fun j : Nat => V.int (j : Int)) (fun m H4 => H4 D2 = some (.lst (((pickL ls dd).take m).map V.ref)) ∧ Same H3 H4) ⟨upd_same, same_new nD2⟩ (fun m H4 _ h => SqT.of (h.2 _ _ hds3)) (fun m x H4 hx h => ?_) (fun H4 h => ?_)
        · obtain ⟨hD2, s4⟩ := h
          obtain ⟨j, hj, rfl⟩ := get_map hx
          have hjr := hdb j (List.mem_of_getElem? hj)
          have hjl : j < ls.length := by rw [st.len]; exact hjr
          have hpk : (pickL ls dd)[m]? = some (ls.getD j 0) := by
            unfold pickL
            rw [List.getElem?_map, hj]
            rfl
          have gr : (ls.map V.ref)[j]? = some (.ref (ls.getD j 0)) := by
            rw [List.getElem?_map, getD_of (d := 0) hjl]
            rfl
          refine ⟨rfl, .ref t, rfl, .int (j : Int), rfl, t, _, (j : Int), .ref (ls.getD j 0), rfl, rfl, SqT.of (s4 _ _ (sm3 _ _ st.top)), atI_nat gr, _, hD2, ?_, ?_, fun b' o e => ?_⟩
          · rw [List.length_map, List.length_take]
            have : (pickL ls dd).length = dd.length := by simp [pickL]
            exact len_lt (by omega)
          · rw [upd_same, take_succ_map hpk]
          · rw [upd_ne (ne_of_none e nD2)]
            exact s4 b' o e
        · obtain ⟨hD2, s4⟩ := h
          rw [List.length_map, List.take_of_length_le (by simp [pickL])] at hD2
          have hll : (pickL ls dd).length = (pickR rows dd).length := by simp [pickL, pickR]
          have hpl2 : (pickR rows dd).length = dd.length := by simp [pickR]
          have sm4 := sm3.trans s4
          have hat : ∀ (j : Nat) (l : Addr) (r : List Int), (pickL ls dd)[j]? = some l → (pickR rows dd)[j]? = some r → H4 l = some (.tup (r.map V.int)) ∧ r.length = (if dd = [] then 0 else n) := fun j l r e1 e2 => by
            unfold pickL at e1
            unfold pickR at e2
            obtain ⟨j1, h1, rfl⟩ := get_map e1
            obtain ⟨j2, h2, rfl⟩ := get_map e2
            obtain rfl : j1 = j2 := Option.some.inj (h1.symm.trans h2)
            have hjr := hdb j1 (List.mem_of_getElem? h1)
            have g := getD_of (d := []) hjr
            rw [if_neg (fun z => by rw [z] at h1; simp at h1)]
            exact ⟨sm4 _ _ (st.row j1 _ _ (getD_of (by rw [st.len]; exact hjr)) g), hrn _ (List.mem_of_getElem? g)⟩
          refine ⟨D2, pickL ls dd, pickR rows dd, if dd = [] then 0 else n, rfl, .inr (SqL.of hD2), hll, hat, (fun e => by rw [if_pos (List.eq_nil_of_length_eq_zero (by rw [← hpl2, e]; rfl))]), by omega, by split <;> omega, fun tt H5 s5 _ htt => ?_⟩
          refine ⟨by show 3 ≤ sizeLine; decide, fun p6 n6 => ?_⟩
          have s6 := same_new (o := .tup [.ref d, .int (takenOf ps dd), .ref tt]) n6
          have s36 := s4.trans (s5.trans s6)
          have hF6 := s36 _ _ hF3
          have hload : LoadAt (upd H5 p6 (.tup [.ref d, .int (takenOf ps dd), .ref tt])) rows ps n p6 dd := ⟨d, tt, upd_same, s36 _ _ hds3, s6 _ _ htt⟩
          have s26 := s3.trans s36
          have hlt : (as'.map V.ref).length < sizeLine := by
            rw [List.length_map, la.len, List.length_take]
            exact len_lt (by omega)
          refine ⟨F0, _, .ref p6, rfl, rfl, hF6, hlt, as' ++ [p6], _, _, _, rfl, ?_, ?_, (sa'.same s26).lst hF6, ?_, ?_⟩
          · intro b' o e2
            rw [upd_ne (ne_of_none e2 nF)]
            exact s26 _ _ (sm b' o e2)
          · rw [upd_ne nLF]
            exact s26 _ _ hL'
          · rw [upd_same, List.map_append]
            rfl
          · rw [List.take_add_one, hdi]
            refine LoadsAt.tk (LoadsAt.snoc (la.tk fun b xs e => s26 _ _ e) hload) fun b xs e => ?_
            have ne : b ≠ F0 := fun z => by rw [z, hF6] at e; cases e
            rw [upd_ne ne]
            exact e
    · obtain ⟨as', y3, y4, y5, rfl, sm, hL', sa', hF, la⟩ := h
      rw [List.length_map, sa'.len, List.take_length] at la
      exact ⟨_, rfl, q F0 as' _ sm hF la⟩
end
end DD
namespace DD
open PySem PySem.Spec PyProof.Rows L2 RZ
/-- whether a plan takes more from these drawers than their room -/
def ovB (rows : List (List Int)) (ps : List Int) (n : Nat) (cs : List (Option Int)) (ds : List Nat) : Bool := decide (takenOf ps ds > (List.zipWith capv (totL rows n ds) cs).sum)
theorem find_at {α : Type} {p : α → Bool} : ∀ {l : List α} {i : Nat} {x : α}, l[i]? = some x → (∀ y ∈ l.take i, p y = false) → p x = true → l.find? p = some x
  | [], _, _, h, _, _ => by simp at h
  | a :: l, 0, x, h, _, hp => by
    obtain rfl : a = x := Option.some.inj h
    rw [List.find?_cons, hp]
  | a :: l, i + 1, x, h, hn, hp => by
    rw [List.find?_cons, hn a (by simp)]
    exact find_at (l := l) (i := i) h (fun y hy => hn y (by rw [List.take_succ_cons]; exact List.mem_cons_of_mem _ hy)) hp
abbrev NOv : List Str := ["loads", "caps", "drawers", "taken", "totals"]
theorem scOver : FnScope NOv ["loads", "caps"] (defScope sOver) := ⟨rfl, rfl, rfl, by decide +kernel, rfl, by decide +kernel, by decide +kernel⟩
section
variable {P : Program} {w : World} {K : PySem.W.Frag} {mg : Str → Option Value} {base : Heap}
def spOver : Sp := fun vs H Q _ => ∃ (L b : Addr) (as : List Addr) (rows : List (List Int)) (ps : List Int) (n : Nat) (dss : List (List Nat)) (cs : List (Option Int)), vs = [.ref L, .ref b] ∧ H L = some (.lst (as.map V.ref)) ∧ LoadsAt H rows ps n as dss ∧
  H b = some (.tup (cs.map optI)) ∧ cs.length = n ∧ n ≤ 100 ∧
  (∀ H', Same H H' → (∀ ds ∈ dss, ovB rows ps n cs ds = false) → Q .non H') ∧ (∀ H' d ds, Same H H' → dss.find? (ovB rows ps n cs) = some ds → ds ∈ dss → ovB rows ps n cs ds = true → H' d = some (.tup (natsV ds)) → Q (.ref d) H')
theorem ok_over {f fN fU fTu fA fIk fEr fO fSz fMg fFu fCo fSp fCa fI fR fFc fLo fSo fOv fDw fSv fIs fSt fSn fDk fD fCu fS fWh fKr fDv fWr : Addr} {fd dN dU dTu dA dIk dEr dO dSz dMg dFu dCo dSp dCa dI dR dFc dLo dSo dOv dDw dSv dIs dSt dSn dDk dD dCu dS dWh dKr dDv dWr : FuncData} {k : Nat} (F : Fun K "overfull" "overfull" sOver f fd) (T : Tx K mg fN fU fTu fA fIk fEr fO fSz fMg fFu fCo fSp fCa fI fR fFc fLo fSo fOv fDw fSv fIs fSt fSn fDk fD fCu fS fWh fKr fDv fWr dN dU dTu dA dIk dEr dO dSz dMg dFu dCo dSp dCa dI dR dFc dLo dSo dOv dDw dSv dIs dSt dSn dDk dD dCu dS dWh dKr dDv dWr) :
    FnOk P w K mg base CX0 (k + 2) f fd ["loads", "caps"] spOver := by
  have GR : FnOk P w K mg base CX0 (k + 1) fR dR ["totals", "caps"] spRoomOf := ok_roomof T.R T
  refine F.ok scOver (fun vs H Q E h => ?_) (fun cdv A outer s H vs Q E hr h => ?_)
  · obtain ⟨L, b, as, rows, ps, n, dss, cs, rfl, _⟩ := h
    rfl
  · obtain ⟨L, b, as, rows, ps, n, dss, cs, rfl, hL, la, hb, hcl, hn, q1, q2⟩ := h
    refine ⟨_, (pss_cons (ps_for PassesOwn.never rfl (pi_list (pv 0)) (pg_tup rfl (pgs_cons (pg_name (i := 2) scOver.nd rfl (Or.inl rfl)) (pgs_cons (pg_name (i := 3) scOver.nd rfl (Or.inl rfl)) (pgs_cons (pg_name (i := 4) scOver.nd rfl (Or.inl rfl)) pgs_nil)))) (pss_one (ps_if (pt_cmpR op_gt (pv 3) (pe_call GR (hr.mono (by omega)) (by rfl) T.gR T.R.kp T.bR .nil pass0 (pa_cons (pv 4) (pa_cons (pv 1) pa_nil))) (nomark _)) (pss_one (ps_ret (pv 2))) pss_nil)))
      (pss_one (ps_ret pe_non))), ?_⟩
    refine ⟨.ref L, rfl, L, rfl, ⟨_, SqL.of hL⟩, ?_⟩
    refine for_it (walk_list (xs := as.map V.ref)) (fun i σ H' => ∃ y2 y3 y4 : Option V, σ = [some (.ref L), some (.ref b), y2, y3, y4] ∧ Same H H' ∧ ∀ ds ∈ dss.take i, ovB rows ps n cs ds = false)
      ⟨_, _, _, rfl, Same.refl _, fun ds h => by simp at h⟩ (fun i σ H' _ h => by obtain ⟨_, _, _, _, sm, _⟩ := h; exact SqL.of (sm _ _ hL)) (fun i x σ H' H2 hi h y => ?_) (fun σ H' h => ?_)
    · obtain ⟨y2, y3, y4, rfl, sm, hno⟩ := h
      obtain ⟨rfl, hx⟩ := y
      obtain ⟨a, ha, rfl⟩ := get_map hx
      rw [List.length_map] at hi
      have hid : i < dss.length := by rw [← la.len]; exact hi
      have hdi : dss[i]? = some dss[i] := List.getElem?_eq_getElem hid
      have hmem := List.getElem_mem hid
      generalize he : dss[i] = dd at hdi hmem
      obtain ⟨d, tt, h1, h2, h3⟩ := la.at_ i a dd ha hdi
      refine ⟨a, [.ref d, .int (takenOf ps dd), .ref tt], rfl, .inl (.inl (sm _ _ h1)), rfl, .ref d, [.int (takenOf ps dd), .ref tt], rfl, .int (takenOf ps dd), [.ref tt], rfl, .ref tt, [], rfl, rfl, ?_⟩
      have htl : (totL rows n dd).length ≤ n := by
        unfold totL
        rw [tot_len]
        split <;> omega
      refine ⟨_, rfl, _, rfl, _, rfl, tt, b, totL rows n dd, cs, rfl, sm _ _ h3, sm _ _ hb, by omega, by omega, fun H3 s3 => ?_⟩
      refine ⟨_, _, rfl, rfl, _, rfl, ite2 (fun e => ?_) (fun e => ?_)⟩
      · exact ⟨_, rfl, q2 _ d dd (sm.trans s3) (find_at hdi hno e) hmem e (s3 _ _ (sm _ _ h2))⟩
      · refine ⟨_, _, _, rfl, sm.trans s3, fun ds hds => ?_⟩
        rw [List.take_add_one, hdi] at hds
        rcases List.mem_append.mp hds with h | h
        · exact hno ds h
        · have : ds = dd := by simpa using h
          rw [this]
          exact Bool.eq_false_iff.mpr e
    · obtain ⟨y2, y3, y4, rfl, sm, hno⟩ := h
      rw [List.length_map, la.len, List.take_length] at hno
      exact q1 _ sm hno
end
end DD
namespace DD
open PySem PySem.Spec PyProof.Rows L2 RZ DM
section
variable {P : Program} {w : World} {K : PySem.W.Frag} {mg : Str → Option Value} {base : Heap}
def spRoomL : Sp := fun vs H Q _ => ∃ (a b : Addr) (ts : List Int) (cs : List (Option Int)), vs = [.ref a, .ref b] ∧ H a = some (.tup (ts.map V.int)) ∧ H b = some (.lst (cs.map optI)) ∧ ts.length ≤ cs.length ∧ ts.length ≤ 100 ∧
  ∀ H', Same H H' → Q (.int (List.zipWith capv ts cs).sum) H'
theorem ok_rooml {f fN fU fTu fA fIk fEr fO fSz fMg fFu fCo fSp fCa fI fR fFc fLo fSo fOv fDw fSv fIs fSt fSn fDk fD fCu fS fWh fKr fDv fWr : Addr} {fd dN dU dTu dA dIk dEr dO dSz dMg dFu dCo dSp dCa dI dR dFc dLo dSo dOv dDw dSv dIs dSt dSn dDk dD dCu dS dWh dKr dDv dWr : FuncData} {k : Nat} (F : Fun K "room_of" "room_of" sRoomOf f fd) (T : Tx K mg fN fU fTu fA fIk fEr fO fSz fMg fFu fCo fSp fCa fI fR fFc fLo fSo fOv fDw fSv fIs fSt fSn fDk fD fCu fS fWh fKr fDv fWr dN dU dTu dA dIk dEr dO dSz dMg dFu dCo dSp dCa dI dR dFc dLo dSo dOv dDw dSv dIs dSt dSn dDk dD dCu dS dWh dKr dDv dWr) :
    FnOk P w K mg base CX0 (k + 1) f fd ["totals", "caps"] spRoomL := by
  refine F.ok scRoomOf (fun vs H Q E h => ?_) (fun cdv A outer s H vs Q E hr h => ?_)
  · obtain ⟨a, b, ts, cs, rfl, _⟩ := h
    rfl
  · obtain ⟨a, b, ts, cs, rfl, ha, hb, hl, h100, q⟩ := h
    refine ⟨_, (pss_one (ps_ret (pe_callB (show CallR _ _ (rSum K) from cr_sum rfl) (by rfl) T.m_sum (by decide +kernel) (pa_cons (pe_lc (own := [("total", 2), ("cap", 3)]) (g := gTup K 2 (gCons (gName 2) (gCons (gName 3) gNil))) rfl scRoomOf.nd (pi_zipM (by rfl) T.m_zip (pa_cons (pv 0) (pa_cons (pv 1) pa_nil))) (blkOk_by (own := [("total", 2), ("cap", 3)]) (N := ["totals", "caps", "total", "cap"]) (sc := defScope sRoomOf) (by decide +kernel)) (fun _ _ _ _ _ => (pg_tup rfl (pgs_cons (pg_name (i := 2) scRoomOf.nd rfl (Or.inl rfl)) (pgs_cons (pg_name (i := 3) scRoomOf.nd rfl (Or.inl rfl)) pgs_nil)))) (fun _ _ _ _ _ => pts_nil) (fun _ _ _ _ _ => (pe_ifExp (pt_cmpR op_isN (pv 3) pe_non (nomark _)) (pv 2) (pe_callB (call_min2 rfl) (by rfl) T.m_min (by decide +kernel) (pa_cons (pv 2) (pa_cons (pv 3) pa_nil)))))) pa_nil)))), ?_⟩
    refine ⟨.ref a, rfl, .ref b, rfl, kd2 a true false, [a, b], [ts.map V.int, cs.map optI], (ts.map V.int).length, rfl, by simp, by simp, fun r e => by cases e; rfl, rwm2 (SqT.of ha) (SqL.of hb) (by rw [List.length_map, List.length_map]; exact hl) (fun e => by rw [e, hb] at ha; cases ha), fun D nD => ?_⟩
    refine lc_it walk_zm (fun i H' => H' D = some (.lst (((List.zipWith capv ts cs).take i).map V.int)) ∧ Same H H') ⟨upd_same, same_new nD⟩
      (fun i H' _ h => rwm2 (b1 := true) (b2 := false) (SqT.of (h.2 _ _ ha)) (SqL.of (h.2 _ _ hb)) (by rw [List.length_map, List.length_map]; exact hl) (fun e => by rw [e, hb] at ha; cases ha)) (fun i x H' H1 hi h y => ?_) (fun H' h => ?_)
    · obtain ⟨hD, sm⟩ := h
      obtain ⟨T1, rfl, nT, rfl⟩ := y
      rw [List.length_map] at hi
      have ht : ts[i]? = some ts[i] := List.getElem?_eq_getElem hi
      have ho : cs[i]? = some (cs[i]'(by omega)) := List.getElem?_eq_getElem (by omega)
      generalize ts[i] = t at ht
      generalize cs[i]'(by omega) = o at ho
      rw [col2 (x := V.int t) (y := optI o) (by rw [List.getElem?_map, ht]; rfl) (by rw [List.getElem?_map, ho]; rfl)]
      have sT : Same H' (upd H' T1 (.tup [.int t, optI o])) := same_new nT
      have hz := zw_get ht ho
      have fin : ∃ acc, (upd H' T1 (.tup [.int t, optI o])) D = some (.lst acc) ∧ acc.length < sizeLine ∧
          ((upd (upd H' T1 (.tup [.int t, optI o])) D (.lst (acc ++ [V.int (capv t o)]))) D = some (.lst (((List.zipWith capv ts cs).take (i + 1)).map V.int)) ∧ Same H (upd (upd H' T1 (.tup [.int t, optI o])) D (.lst (acc ++ [V.int (capv t o)])))) := by
        refine ⟨_, sT _ _ hD, ?_, ?_, fun b' o' e => ?_⟩
        · rw [List.length_map, List.length_take, List.length_zipWith]
          exact len_lt (by omega)
        · rw [upd_same, take_succ_map hz]
        · rw [upd_ne (ne_of_none e nD)]
          exact sT _ _ (sm b' o' e)
      refine ⟨T1, [.int t, optI o], rfl, .inl (.inl upd_same), rfl, .int t, [optI o], rfl, optI o, [], rfl, rfl, rfl, ?_⟩
      cases o with
      | none => exact ⟨_, rfl, rfl, _, rfl, iteT ⟨_, rfl, fin⟩⟩
      | some c => exact ⟨_, rfl, rfl, _, rfl, iteNx rfl ⟨_, rfl, _, rfl, t, c, rfl, fin⟩⟩
    · obtain ⟨hD, sm⟩ := h
      rw [List.length_map, List.take_of_length_le (by rw [List.length_zipWith]; omega)] at hD
      exact ⟨D, _, rfl, SqL.of hD, q _ sm⟩
/-- what a set of drawers leaves for a kind that is given elsewhere -/
def spareAt (rows : List (List Int)) (ps : List Int) (n : Nat) (left : List Int) (kind : Nat) (ds : List Nat) : Int := (List.zipWith capv (totL rows n ds) ((left.set kind 0).map some)).sum - takenOf ps ds
def IsSpare (rows : List (List Int)) (ps : List Int) (n : Nat) (left : List Int) (kind : Nat) (dss : List (List Nat)) (v : Int) : Prop :=
  ∃ m, m ∈ dss.map (spareAt rows ps n left kind) ∧ (∀ y ∈ dss.map (spareAt rows ps n left kind), m ≤ y) ∧ v = left.getD kind 0 + m
abbrev NSv : List Str := ["loads", "caps", "kind", "without", "_", "taken", "totals"]
theorem scSpare : FnScope NSv ["loads", "caps", "kind"] (defScope sSpare) := ⟨rfl, rfl, rfl, by decide +kernel, rfl, by decide +kernel, by decide +kernel⟩
def spSpare : Sp := fun vs H Q _ => ∃ (L c : Addr) (kind : Nat) (as : List Addr) (rows : List (List Int)) (ps : List Int) (n : Nat) (dss : List (List Nat)) (left : List Int), vs = [.ref L, .ref c, .int kind] ∧ H L = some (.lst (as.map V.ref)) ∧ LoadsAt H rows ps n as dss ∧
  H c = some (.lst (left.map V.int)) ∧ left.length = n ∧ kind < n ∧ n ≤ 100 ∧ dss ≠ [] ∧ dss.length ≤ 16 ∧
  ∀ H' v, Same H H' → IsSpare rows ps n left kind dss v → Q (.int v) H'
theorem optI_some (l : List Int) : (l.map some).map optI = l.map V.int := by
  rw [List.map_map]
  rfl
theorem ok_spare {f fN fU fTu fA fIk fEr fO fSz fMg fFu fCo fSp fCa fI fR fFc fLo fSo fOv fDw fSv fIs fSt fSn fDk fD fCu fS fWh fKr fDv fWr : Addr} {fd dN dU dTu dA dIk dEr dO dSz dMg dFu dCo dSp dCa dI dR dFc dLo dSo dOv dDw dSv dIs dSt dSn dDk dD dCu dS dWh dKr dDv dWr : FuncData} {k : Nat} (F : Fun K "spare_of" "spare_of" sSpare f fd) (T : Tx K mg fN fU fTu fA fIk fEr fO fSz fMg fFu fCo fSp fCa fI fR fFc fLo fSo fOv fDw fSv fIs fSt fSn fDk fD fCu fS fWh fKr fDv fWr dN dU dTu dA dIk dEr dO dSz dMg dFu dCo dSp dCa dI dR dFc dLo dSo dOv dDw dSv dIs dSt dSn dDk dD dCu dS dWh dKr dDv dWr) :
    FnOk P w K mg base CX0 (k + 2) f fd ["loads", "caps", "kind"] spSpare := by
  have GR : FnOk P w K mg base CX0 (k + 1) fR dR ["totals", "caps"] spRoomL := ok_rooml T.R T
  refine F.ok scSpare (fun vs H Q E h => ?_) (fun cdv A outer s H vs Q E hr h => ?_)
  · obtain ⟨L, c, kind, as, rows, ps, n, dss, left, rfl, _⟩ := h
    rfl
  · obtain ⟨L, c, kind, as, rows, ps, n, dss, left, rfl, hL, la, hc, hcl, hk, hn, hne, h16, q⟩ := h
    refine ⟨_, (pss_cons (ps_set (i := 3) scSpare.nd rfl (.inr rfl) (pe_callTy call_list_of (by rfl) T.m_list (by decide +kernel) (pa_cons (pv 1) pa_nil)))
      (pss_cons (ps_asg pe_int (pg_sub (pv 3) (pv 2) set_list))
      (pss_one (ps_ret (pe_op op_add (pe_ix (show IxR _ (rIxL K) from ix_list) (pv 1) (pv 2) (fun _ _ => rfl)) (pe_callB (show CallR _ _ (rMin K) from cr_min rfl) (by rfl) T.m_min (by decide +kernel) (pa_cons (pe_lc (own := [("_", 4), ("taken", 5), ("totals", 6)]) (g := gTup K 3 (gCons (gName 4) (gCons (gName 5) (gCons (gName 6) gNil)))) rfl scSpare.nd (pi_list (pv 0)) (blkOk_by (own := [("_", 4), ("taken", 5), ("totals", 6)]) (N := NSv) (sc := defScope sSpare) (by decide +kernel)) (fun _ _ _ _ _ => (pg_tup rfl (pgs_cons (pg_name (i := 4) scSpare.nd rfl (Or.inl rfl)) (pgs_cons (pg_name (i := 5) scSpare.nd rfl (Or.inl rfl)) (pgs_cons (pg_name (i := 6) scSpare.nd rfl (Or.inl rfl)) pgs_nil))))) (fun _ _ _ _ _ => pts_nil) (fun _ _ _ _ _ => (pe_op op_sub (pe_call GR (hr.mono (by omega)) (by rfl) T.gR T.R.kp T.bR .nil pass0 (pa_cons (pv 6) (pa_cons (pv 3) pa_nil))) (pv 5)))) pa_nil))))))), ?_⟩
    refine ⟨_, rfl, c, left.map V.int, rfl, .inl (SqL.of hc), fun W nW => ?_⟩
    have s0 : Same H (upd H W (.lst (left.map V.int))) := same_new nW
    have hcW : c ≠ W := fun z => by rw [z, nW] at hc; cases hc
    have hix : ixN (left.map V.int).length ((kind : Nat) : Int) = some kind := by
      unfold ixN
      rw [if_pos (by omega), if_pos (by rw [List.length_map]; omega)]
      simp
    refine ⟨_, rfl, _, rfl, W, _, (kind : Int), kind, rfl, rfl, upd_same, hix, ?_⟩
    have s1 : Same H (upd (upd H W (.lst (left.map V.int))) W (.lst ((left.map V.int).set kind (.int 0)))) := fun b o e => by
      rw [upd_ne (ne_of_none e nW), upd_ne (ne_of_none e nW)]
      exact e
    have hW : (upd (upd H W (.lst (left.map V.int))) W (.lst ((left.map V.int).set kind (.int 0)))) W = some (.lst (((left.set kind 0).map some).map optI)) := by
      rw [upd_same, optI_some, List.map_set]
    generalize upd (upd H W (.lst (left.map V.int))) W (.lst ((left.map V.int).set kind (.int 0))) = H1 at s1 hW ⊢
    have gk : (left.map V.int)[kind]? = some (.int (left.getD kind 0)) := by
      rw [List.getElem?_map, getD_of (d := 0) (by omega)]
      rfl
    refine ⟨.ref c, rfl, _, rfl, c, _, (kind : Int), .int (left.getD kind 0), rfl, rfl, SqL.of (s1 _ _ hc), atI_nat gk, ?_⟩
    refine ⟨.ref L, rfl, L, rfl, ⟨_, SqL.of (s1 _ _ hL)⟩, fun D nD => ?_⟩
    refine lc_it (walk_list (xs := as.map V.ref)) (fun i H' => H' D = some (.lst (((dss.map (spareAt rows ps n left kind)).take i).map V.int)) ∧ Same H1 H') ⟨upd_same, same_new nD⟩
      (fun i H' _ h => SqL.of (h.2 _ _ (s1 _ _ hL))) (fun i x H' H2 hi h y => ?_) (fun H' h => ?_)
    · obtain ⟨hD, sm⟩ := h
      obtain ⟨rfl, hx⟩ := y
      obtain ⟨a, ha, rfl⟩ := get_map hx
      rw [List.length_map] at hi
      have hid : i < dss.length := by rw [← la.len]; exact hi
      have hdi : dss[i]? = some dss[i] := List.getElem?_eq_getElem hid
      generalize dss[i] = dd at hdi
      obtain ⟨d, tt, h1, h2, h3⟩ := la.at_ i a dd ha hdi
      have s2 := s1.trans sm
      have htl : (totL rows n dd).length ≤ n := by
        unfold totL
        rw [tot_len]
        split <;> omega
      refine ⟨a, [.ref d, .int (takenOf ps dd), .ref tt], rfl, .inl (.inl (s2 _ _ h1)), rfl, .ref d, [.int (takenOf ps dd), .ref tt], rfl, .int (takenOf ps dd), [.ref tt], rfl, .ref tt, [], rfl, rfl, rfl, ?_⟩
      refine ⟨_, rfl, _, rfl, tt, W, totL rows n dd, (left.set kind 0).map some, rfl, s2 _ _ h3, sm _ _ hW, by rw [List.length_map, List.length_set]; omega, by omega, fun H3 s3 => ?_⟩
      refine ⟨_, rfl, _, _, rfl, rfl, _, s3 _ _ hD, ?_, ?_, fun b' o' e => ?_⟩
      · rw [List.length_map, List.length_take, List.length_map]
        exact len_lt (by omega)
      · rw [upd_same, take_succ_map (by rw [List.getElem?_map, hdi]; rfl)]
        rfl
      · rw [upd_ne (ne_of_none e nD)]
        exact s3 _ _ (sm b' o' e)
    · obtain ⟨hD, sm⟩ := h
      rw [List.length_map, la.len, List.take_of_length_le (by rw [List.length_map]; exact Nat.le_refl _)] at hD
      refine ⟨_, _, rfl, SqL.of hD, ?_, fun m hm hmin => ?_⟩
      · rw [List.length_map]
        exact List.length_pos_iff.mpr hne
      · exact ⟨_, _, rfl, rfl, q _ _ (s1.trans sm) ⟨m, hm, hmin, rfl⟩⟩
end
end DD
namespace DD
open PySem PySem.Spec PyProof.Rows L2 RZ DM
def spareV (rows : List (List Int)) (ps : List Int) (n : Nat) (left : List Int) (kind : Nat) (dss : List (List Nat)) : Int := left.getD kind 0 + ((dss.map (spareAt rows ps n left kind)).min?).getD 0
theorem IsSpare.eq {rows : List (List Int)} {ps : List Int} {n : Nat} {left : List Int} {kind : Nat} {dss : List (List Nat)} {v : Int} (h : IsSpare rows ps n left kind dss v) : v = spareV rows ps n left kind dss := by
  obtain ⟨m, hm, hle, rfl⟩ := h
  have : (dss.map (spareAt rows ps n left kind)).min? = some m := List.min?_eq_some_iff.mpr ⟨hm, hle⟩
  unfold spareV
  rw [this]
  rfl
/-- the state after j kinds of a drawer: counts, what is left of the caps, the number that is still wanted -/
def gSt (rows : List (List Int)) (ps : List Int) (n : Nat) (dss : List (List Nat)) (dr left0 : List Int) (num0 : Int) : Nat → List Int × List Int × Int
  | 0 => ([], left0, num0)
  | j + 1 =>
    let s := gSt rows ps n dss dr left0 num0 j
    let c := min (min s.2.2 (dr.getD j 0)) (spareV rows ps n s.2.1 j dss)
    (s.1 ++ [c], s.2.1.set j (s.2.1.getD j 0 - c), s.2.2 - c)
/-- the state after p drawers -/
def wSt (rows : List (List Int)) (ps : List Int) (n : Nat) (left0 : List Int) : Nat → List (List Int) × List Int
  | 0 => ([], left0)
  | p + 1 =>
    let s := wSt rows ps n left0 p
    let r := gSt (rows.drop (p + 1)) (ps.drop (p + 1)) n (pSets (rows.length - (p + 1))) (rows.getD p []) s.2 (ps.getD p 0) n
    (s.1 ++ [r.1], r.2.1)
def capl (t : Int) : Option Int → Int
  | none => t
  | some c => c
def left0 (rows : List (List Int)) (n : Nat) (cs : List (Option Int)) : List Int := List.zipWith capl (totalsOf rows n) cs
def drawOf (rows : List (List Int)) (ps : List Int) (n : Nat) (cs : List (Option Int)) : List (List Int) := (wSt rows ps n (left0 rows n cs) rows.length).1
theorem gSt_succ (rows : List (List Int)) (ps : List Int) (n : Nat) (dss : List (List Nat)) (dr l0 : List Int) (num0 : Int) (j : Nat) : gSt rows ps n dss dr l0 num0 (j + 1) =
    ((gSt rows ps n dss dr l0 num0 j).1 ++ [min (min (gSt rows ps n dss dr l0 num0 j).2.2 (dr.getD j 0)) (spareV rows ps n (gSt rows ps n dss dr l0 num0 j).2.1 j dss)], (gSt rows ps n dss dr l0 num0 j).2.1.set j ((gSt rows ps n dss dr l0 num0 j).2.1.getD j 0 - min (min (gSt rows ps n dss dr l0 num0 j).2.2 (dr.getD j 0)) (spareV rows ps n (gSt rows ps n dss dr l0 num0 j).2.1 j dss)), (gSt rows ps n dss dr l0 num0 j).2.2 - min (min (gSt rows ps n dss dr l0 num0 j).2.2 (dr.getD j 0)) (spareV rows ps n (gSt rows ps n dss dr l0 num0 j).2.1 j dss)) := rfl
theorem gSt_len (rows : List (List Int)) (ps : List Int) (n : Nat) (dss : List (List Nat)) (dr l0 : List Int) (num0 : Int) : ∀ j, (gSt rows ps n dss dr l0 num0 j).1.length = j ∧ (gSt rows ps n dss dr l0 num0 j).2.1.length = l0.length
  | 0 => ⟨rfl, rfl⟩
  | j + 1 => by
    obtain ⟨h1, h2⟩ := gSt_len rows ps n dss dr l0 num0 j
    constructor
    · show (_ ++ [_]).length = _
      rw [List.length_append, h1]
      rfl
    · show (List.set _ _ _).length = _
      rw [List.length_set, h2]
theorem wSt_len (rows : List (List Int)) (ps : List Int) (n : Nat) (l0 : List Int) : ∀ p, (wSt rows ps n l0 p).1.length = p ∧ (wSt rows ps n l0 p).2.length = l0.length
  | 0 => ⟨rfl, rfl⟩
  | p + 1 => by
    obtain ⟨h1, h2⟩ := wSt_len rows ps n l0 p
    constructor
    · show (_ ++ [_]).length = _
      rw [List.length_append, h1]
      rfl
    · show (gSt _ _ _ _ _ _ _ _).2.1.length = _
      rw [(gSt_len _ _ _ _ _ _ _ _).2, h2]
theorem min3_int (a b c : Int) : nuMin3 (.int a) (.int b) (.int c) = some (.int (min (min a b) c)) := by
  show (Option.map (fun c => if c = true then V.int b else V.int a) (some (decide (b < a)))).bind (fun m => nuMin2 m (.int c)) = _
  have e : (if decide (b < a) = true then V.int b else V.int a) = V.int (min a b) := by
    by_cases h : b < a
    · rw [if_pos (decide_eq_true h), Int.min_def, if_neg (by omega)]
    · rw [if_neg (by rw [decide_eq_true_eq]; exact h), Int.min_def, if_pos (by omega)]
  show nuMin2 (if decide (b < a) = true then V.int b else V.int a) (.int c) = _
  rw [e]
  show some (if decide (c < min a b) = true then V.int c else V.int (min a b)) = _
  congr 1
  by_cases h : c < min a b
  · rw [if_pos (decide_eq_true h), Int.min_def (min a b) c, if_neg (by omega)]
  · rw [if_neg (by rw [decide_eq_true_eq]; exact h), Int.min_def (min a b) c, if_pos (by omega)]
theorem zl_get {ts : List Int} {cs : List (Option Int)} {i : Nat} {t : Int} {o : Option Int} (h1 : ts[i]? = some t) (h2 : cs[i]? = some o) : (List.zipWith capl ts cs)[i]? = some (capl t o) := by
  rw [List.getElem?_zipWith, h1, h2]
theorem ixN_nat {m kd : Nat} (h : kd < m) : ixN m (kd : Int) = some kd := by
  unfold ixN
  rw [if_pos (by omega), if_pos (by omega)]
  simp
theorem ps_ne (m : Nat) : pSets m ≠ [] := fun h => by
  have := ps_len m
  rw [h] at this
  have : 0 < 2 ^ m := Nat.pow_pos (by decide)
  simp at *
  omega
abbrev NDw : List Str := ["stock", "caps", "plan", "left", "draw", "place", "drawer", "later", "number", "counts", "kind", "things", "count", "total", "cap"]
theorem scWithin : FnScope NDw ["stock", "caps", "plan"] (defScope sWithin) := ⟨rfl, rfl, rfl, by decide +kernel, rfl, by decide +kernel, by decide +kernel⟩
section
variable {P : Program} {w : World} {K : PySem.W.Frag} {mg : Str → Option Value} {base : Heap}
def spWithin : Sp := fun vs H Q _ => ∃ (t b p : Addr) (ls : List Addr) (rows : List (List Int)) (ps : List Int) (n : Nat) (cs : List (Option Int)), vs = [.ref t, .ref b, .ref p] ∧ StockAt H t ls rows ∧ 1 ≤ rows.length ∧ rows.length ≤ 4 ∧ (∀ r ∈ rows, r.length = n) ∧ n ≤ 100 ∧
  H b = some (.tup (cs.map optI)) ∧ cs.length = n ∧ H p = some (.tup (ps.map V.int)) ∧ ps.length = rows.length ∧
  ∀ D ds H', Same H H' → StockAt H' D ds (drawOf rows ps n cs) → Q (.ref D) H'
set_option maxHeartbeats 1600000 in
theorem ok_within {f fN fU fTu fA fIk fEr fO fSz fMg fFu fCo fSp fCa fI fR fFc fLo fSo fOv fDw fSv fIs fSt fSn fDk fD fCu fS fWh fKr fDv fWr : Addr} {fd dN dU dTu dA dIk dEr dO dSz dMg dFu dCo dSp dCa dI dR dFc dLo dSo dOv dDw dSv dIs dSt dSn dDk dD dCu dS dWh dKr dDv dWr : FuncData} {k : Nat} (F : Fun K "draw_within" "draw_within" sWithin f fd) (T : Tx K mg fN fU fTu fA fIk fEr fO fSz fMg fFu fCo fSp fCa fI fR fFc fLo fSo fOv fDw fSv fIs fSt fSn fDk fD fCu fS fWh fKr fDv fWr dN dU dTu dA dIk dEr dO dSz dMg dFu dCo dSp dCa dI dR dFc dLo dSo dOv dDw dSv dIs dSt dSn dDk dD dCu dS dWh dKr dDv dWr) :
    FnOk P w K mg base CX0 (k + 3) f fd ["stock", "caps", "plan"] spWithin := by
  have GO : FnOk P w K mg base CX0 (k + 1) fO dO ["stock"] (spTotals K) := ok_totals T.O T.m_tuple T.m_sum T.m_zip
  have GLo : FnOk P w K mg base CX0 (k + 2) fLo dLo ["stock", "plan"] spLoads := ok_loads T.Lo T
  have GSv : FnOk P w K mg base CX0 (k + 2) fSv dSv ["loads", "caps", "kind"] spSpare := ok_spare T.Sv T
  refine F.ok scWithin (fun vs H Q E h => ?_) (fun cdv A outer s H vs Q E hr h => ?_)
  · obtain ⟨t, b, p, ls, rows, ps, n, cs, rfl, _⟩ := h
    rfl
  · obtain ⟨t, b, p, ls, rows, ps, n, cs, rfl, st, hr1, hr4, hrn, hn, hb, hcl, hp, hpl, q⟩ := h
    refine ⟨_, (pss_cons (ps_setLc (i := 3) (own := [("total", 13), ("cap", 14)]) (g := gTup K 2 (gCons (gName 13) (gCons (gName 14) gNil))) rfl scWithin.nd rfl rfl (sw_true rfl rfl rfl (by decide +kernel)) (pi_zipA (by rfl) T.m_zip (pa_cons (pe_call GO (hr.mono (by omega)) (by rfl) T.gO T.O.kp T.bO .nil pass0 (pa_cons (pv 0) pa_nil)) (pa_cons (pv 1) pa_nil))) (blkOk_by (own := [("total", 13), ("cap", 14)]) (N := NDw) (sc := defScope sWithin) (by decide +kernel)) (fun _ _ _ _ _ => (pg_tup rfl (pgs_cons (pg_name (i := 13) scWithin.nd rfl (Or.inl rfl)) (pgs_cons (pg_name (i := 14) scWithin.nd rfl (Or.inl rfl)) pgs_nil)))) (fun _ _ _ _ _ => pts_nil) (fun _ _ _ _ _ => (pe_ifExp (pt_cmpR op_isN (pv 14) pe_non (nomark _)) (pv 13) (pv 14))))
      (pss_cons (ps_set (i := 4) scWithin.nd rfl (.inl rfl) (pe_lst pa_nil))
      (pss_cons (ps_for PassesOwn.never rfl (pi_enumT (by rfl) T.m_enumerate (pa_cons (pv 0) pa_nil)) (pg_tup rfl (pgs_cons (pg_name (i := 5) scWithin.nd rfl (Or.inl rfl)) (pgs_cons (pg_name (i := 6) scWithin.nd rfl (Or.inl rfl)) pgs_nil))) (pss_cons (ps_set (i := 7) scWithin.nd rfl (.inl rfl) (pe_call GLo (hr.mono (by omega)) (by rfl) T.gLo T.Lo.kp T.bLo .nil pass0 (pa_cons (pe_slice sl_tupQ (pv 0) (po_some (pe_op op_add (pv 5) pe_int)) po_none) (pa_cons (pe_slice sl_tupQ (pv 2) (po_some (pe_op op_add (pv 5) pe_int)) po_none) pa_nil))))
      (pss_cons (ps_set (i := 8) scWithin.nd rfl (.inl rfl) (pe_ix (show IxR _ (rIxT K) from ix_tup) (pv 2) (pv 5) (fun _ _ => rfl)))
      (pss_cons (ps_set (i := 9) scWithin.nd rfl (.inl rfl) (pe_lst pa_nil))
      (pss_cons (ps_for PassesOwn.never rfl (pi_enumT (by rfl) T.m_enumerate (pa_cons (pv 6) pa_nil)) (pg_tup rfl (pgs_cons (pg_name (i := 10) scWithin.nd rfl (Or.inl rfl)) (pgs_cons (pg_name (i := 11) scWithin.nd rfl (Or.inl rfl)) pgs_nil))) (pss_cons (ps_set (i := 12) scWithin.nd rfl (.inl rfl) (pe_callB (call_min3Nu rfl) (by rfl) T.m_min (by decide +kernel) (pa_cons (pv 8) (pa_cons (pv 11) (pa_cons (pe_call GSv (hr.mono (by omega)) (by rfl) T.gSv T.Sv.kp T.bSv .nil pass0 (pa_cons (pv 7) (pa_cons (pv 3) (pa_cons (pv 10) pa_nil)))) pa_nil)))))
      (pss_cons (ps_set (i := 8) scWithin.nd rfl (.inl rfl) (pe_op op_sub (pv 8) (pv 12)))
      (pss_cons (ps_asg (pe_op op_sub (pe_ix (show IxR _ (rIxL K) from ix_list) (pv 3) (pv 10) (fun _ _ => rfl)) (pv 12)) (pg_sub (pv 3) (pv 10) set_list))
      (pss_one (ps_expr (pe_bm PySem.F.plainAttrs_list PySem.F.slot_list_append PySem.F.type_list_append mt_append (pv 9) (pa_cons (pv 12) pa_nil))))))))
      (pss_one (ps_expr (pe_bm PySem.F.plainAttrs_list PySem.F.slot_list_append PySem.F.type_list_append mt_append (pv 4) (pa_cons (pe_callTy call_tuple_of (by rfl) T.m_tuple (by decide +kernel) (pa_cons (pv 9) pa_nil)) pa_nil)))))))))
      (pss_one (ps_ret (pe_callTy call_tuple_of (by rfl) T.m_tuple (by decide +kernel) (pa_cons (pv 4) pa_nil))))))), ?_⟩
    have hrne : rows ≠ [] := fun z => by rw [z] at hr1; simp at hr1
    refine ⟨_, rfl, t, ls, rows, n, rfl, .inl (SqT.of st.top), st.len, fun j l r e1 e2 => ⟨st.row j l r e1 e2, hrn r (List.mem_of_getElem? e2)⟩, fun z => absurd z hrne, hr4, hn, fun tt H1 s1 _ htt => ?_⟩
    have htl : (totalsOf rows n).length = n := by rw [tot_len]
    refine ⟨.ref b, rfl, tt, b, (totalsOf rows n).map V.int, cs.map optI, rfl, .inr ⟨SqT.of htt, SqT.of (s1 _ _ hb), fun L nL => ?_⟩⟩
    refine lc_it (walk_zipT (xs := (totalsOf rows n).map V.int) (ys := cs.map optI) (by rw [List.length_map, List.length_map]; omega)) (fun i H' => H' L = some (.lst (((left0 rows n cs).take i).map V.int)) ∧ Same H1 H') ⟨upd_same, same_new nL⟩
      (fun i H' _ h => ⟨SqT.of (h.2 _ _ htt), SqT.of (h.2 _ _ (s1 _ _ hb))⟩) (fun i x H' H2 hi h y => ?_) (fun H2 h => ?_)
    · obtain ⟨hD, sm⟩ := h
      obtain ⟨T1, x1, x2, rfl, nT, rfl, e1, e2⟩ := y
      obtain ⟨t', ht, rfl⟩ := get_map e1
      obtain ⟨o, ho, rfl⟩ := get_map e2
      have sT : Same H' (upd H' T1 (.tup [.int t', optI o])) := same_new nT
      have hz : (left0 rows n cs)[i]? = some (capl t' o) := zl_get ht ho
      have fin : ∃ acc, (upd H' T1 (.tup [.int t', optI o])) L = some (.lst acc) ∧ acc.length < sizeLine ∧
          ((upd (upd H' T1 (.tup [.int t', optI o])) L (.lst (acc ++ [V.int (capl t' o)]))) L = some (.lst (((left0 rows n cs).take (i + 1)).map V.int)) ∧ Same H1 (upd (upd H' T1 (.tup [.int t', optI o])) L (.lst (acc ++ [V.int (capl t' o)])))) := by
        refine ⟨_, sT _ _ hD, ?_, ?_, fun b' o' e => ?_⟩
        · rw [List.length_map, List.length_take]
          unfold left0
          rw [List.length_zipWith]
          exact len_lt (by omega)
        · rw [upd_same, take_succ_map hz]
        · rw [upd_ne (ne_of_none e nL)]
          exact sT _ _ (sm b' o' e)
      refine ⟨T1, [.int t', optI o], rfl, .inl (.inl upd_same), rfl, .int t', [optI o], rfl, optI o, [], rfl, rfl, rfl, ?_⟩
      cases o with
      | none => exact ⟨_, rfl, rfl, _, rfl, iteT ⟨_, rfl, fin⟩⟩
      | some c => exact ⟨_, rfl, rfl, _, rfl, iteNx rfl ⟨_, rfl, fin⟩⟩
    obtain ⟨hL, s12⟩ := h
    have hll : (left0 rows n cs).length = n := by
      unfold left0
      rw [List.length_zipWith]
      omega
    rw [List.length_map, htl, List.take_of_length_le (by omega)] at hL
    have s2 := s1.trans s12
    have nHL : H L = none := s1.free nL
    have hq : drawOf rows ps n cs = (wSt rows ps n (left0 rows n cs) rows.length).1 := rfl
    rw [hq] at q
    generalize left0 rows n cs = L0 at hL hll q
    refine ⟨Nat.zero_le _, fun D nD => ?_⟩
    have hLD : L ≠ D := fun z => by rw [z, nD] at hL; cases hL
    have s3 := s2.trans (same_new (o := .lst []) nD)
    have nHD : H D = none := s2.free nD
    have hL3 : (upd H2 D (.lst [])) L = some (.lst (L0.map V.int)) := by
      rw [upd_ne hLD]
      exact hL
    have hD3 : (upd H2 D (.lst [])) D = some (.lst (([] : List Addr).map V.ref)) := upd_same
    generalize upd H2 D (.lst []) = H3 at s3 hL3 hD3 ⊢
    refine ⟨_, rfl, t, ls.map V.ref, rfl, SqT.of (s3 _ _ st.top), ?_⟩
    refine for_enT (xs := ls.map V.ref) (c := 0) (fun i σ H' => ∃ (as : List Addr) (y5 y6 y7 y8 y9 y10 y11 y12 : Option V), σ = [some (.ref t), some (.ref b), some (.ref p), some (.ref L), some (.ref D), y5, y6, y7, y8, y9, y10, y11, y12, none, none] ∧ Same H H' ∧
        H' L = some (.lst ((wSt rows ps n L0 i).2.map V.int)) ∧ H' D = some (.lst (as.map V.ref)) ∧ as.length = i ∧ (∀ (j : Nat) (a : Addr) (r : List Int), as[j]? = some a → (wSt rows ps n L0 i).1[j]? = some r → H' a = some (.tup (r.map V.int))))
      ⟨[], _, _, _, _, _, _, _, _, rfl, s3, hL3, hD3, rfl, fun j a r e => by simp at e⟩
      (fun i σ H' _ h => by obtain ⟨_, _, _, _, _, _, _, _, _, _, sm, _⟩ := h; exact SqT.of (sm _ _ st.top)) (fun i x T4 σ H4 hx h nT => ?_) (fun σ H4 h => ?_)
    · obtain ⟨as, y5, y6, y7, y8, y9, y10, y11, y12, rfl, sm, hL4, hD4, hal, hat⟩ := h
      obtain ⟨l, hli, rfl⟩ := get_map hx
      have hil : i < rows.length := by
        have := (List.getElem?_eq_some_iff.mp hli).1
        have := st.len
        omega
      have hri : rows[i]? = some (rows.getD i []) := getD_of hil
      have hrl := st.row i l _ hli hri
      have hrln := hrn _ (List.mem_of_getElem? hri)
      have hps : (ps.map V.int)[i]? = some (.int (ps.getD i 0)) := by
        rw [List.getElem?_map, getD_of (d := 0) (by omega)]
        rfl
      have sT := same_new (o := .tup [.int ((0 : Int) + (i : Nat)), .ref l]) nT
      have sm5 := sm.trans sT
      have hTT : (upd H4 T4 (.tup [.int ((0 : Int) + (i : Nat)), .ref l])) T4 = some (.tup [.int ((0 : Int) + (i : Nat)), .ref l]) := upd_same
      have hL5 := sT _ _ hL4
      have hD5 := sT _ _ hD4
      have hat5 : ∀ (j : Nat) (a : Addr) (r : List Int), as[j]? = some a → (wSt rows ps n L0 i).1[j]? = some r → (upd H4 T4 (.tup [.int ((0 : Int) + (i : Nat)), .ref l])) a = some (.tup (r.map V.int)) := fun j a r e1 e2 => sT _ _ (hat j a r e1 e2)
      generalize upd H4 T4 (.tup [.int ((0 : Int) + (i : Nat)), .ref l]) = H5 at sT sm5 hTT hL5 hD5 hat5 ⊢
      refine ⟨T4, [.int ((0 : Int) + (i : Nat)), .ref l], rfl, .inl (.inl hTT), rfl, .int ((0 : Int) + (i : Nat)), [.ref l], rfl, .ref l, [], rfl, rfl, ?_⟩
      -- later
      have e1 : ((0 : Int) + (i : Nat)) + 1 = ((i + 1 : Nat) : Int) := by omega
      refine ⟨.ref t, rfl, _, rfl, _, _, rfl, rfl, _, rfl, t, ls.map V.ref, rfl, sm5 _ _ st.top, fun t2 H6 s6 ht2 => ?_⟩
      rw [e1, cutV_from, ← List.map_drop] at ht2
      refine ⟨.ref p, rfl, _, rfl, _, _, rfl, rfl, _, rfl, p, ps.map V.int, rfl, s6 _ _ (sm5 _ _ hp), fun p2 H7 s7 hp2 => ?_⟩
      rw [e1, cut_from] at hp2
      have s57 := s6.trans s7
      have sm7 := sm5.trans s57
      refine ⟨t2, p2, ls.drop (i + 1), rows.drop (i + 1), ps.drop (i + 1), n, rfl, ⟨s7 _ _ ht2, by rw [List.length_drop, List.length_drop, st.len], fun j l' r' x1 x2 => ?_⟩, by rw [List.length_drop]; omega, fun r' hr' => hrn r' (List.mem_of_mem_drop hr'), hn, hp2, by rw [List.length_drop, List.length_drop, hpl], fun Z zs H8 s8 hZ la => ?_⟩
      · rw [List.getElem?_drop] at x1 x2
        exact sm7 _ _ (st.row _ l' r' x1 x2)
      have s58 := s57.trans s8
      have sm8 := sm5.trans s58
      -- number, counts
      refine ⟨.ref p, rfl, _, rfl, p, _, ((0 : Int) + (i : Nat)), .int (ps.getD i 0), rfl, rfl, SqT.of (sm8 _ _ hp), by rw [Int.zero_add]; exact atI_nat hps, ?_⟩
      refine ⟨Nat.zero_le _, fun C nC => ?_⟩
      have s9 := same_new (o := .lst []) nC
      have hC9 : (upd H8 C (.lst [])) C = some (.lst (([] : List Int).map V.int)) := upd_same
      have hL9 := s9 _ _ (s58 _ _ hL5)
      have hZ9 := s9 _ _ hZ
      have la9 := la.tk fun b' xs e => s9 _ _ e
      have hLC : L ≠ C := fun z => by rw [z] at hL5; rw [s58 _ _ hL5] at nC; cases nC
      have hZC : Z ≠ C := fun z => by rw [z, nC] at hZ; cases hZ
      have zne : zs ≠ [] := fun z => by
        have := la.len
        rw [z] at this
        exact ps_ne _ (List.eq_nil_of_length_eq_zero this.symm)
      have hZL : Z ≠ L := fun z => by
        rw [z, s58 _ _ hL5] at hZ
        have e := HO.lst.inj (Option.some.inj hZ)
        cases zs with
        | nil => exact zne rfl
        | cons z1 zr =>
          have hlen : ((wSt rows ps n L0 i).2.map V.int).length = ((z1 :: zr).map V.ref).length := by rw [e]
          cases hd : (wSt rows ps n L0 i).2 with
          | nil => rw [hd] at hlen; simp at hlen
          | cons q1 q2 => rw [hd] at e; simp at e
      have sm9 := sm8.trans s9
      have hD9 := s9 _ _ (s58 _ _ hD5)
      have hDL : D ≠ L := fun z => hLD z.symm
      have hDC : D ≠ C := fun z => by rw [z] at hD5; rw [s58 _ _ hD5] at nC; cases nC
      have hat9 : ∀ (j : Nat) (a : Addr) (r : List Int), as[j]? = some a → (wSt rows ps n L0 i).1[j]? = some r → (upd H8 C (.lst [])) a = some (.tup (r.map V.int)) := fun j a r e1 e2 => s9 _ _ (s58 _ _ (hat5 j a r e1 e2))
      generalize upd H8 C (.lst []) = H9 at s9 hC9 hL9 hZ9 la9 sm9 hD9 hat9 ⊢
      have hdl : (pSets (rows.drop (i + 1)).length).length ≤ 16 := by
        rw [ps_len, List.length_drop]
        exact Nat.pow_le_pow_right (n := 2) (by decide) (show rows.length - (i + 1) ≤ 4 by omega)
      rw [List.length_drop] at la9 hdl
      have hl2 := (wSt_len rows ps n L0 i).2
      refine ⟨_, rfl, l, (rows.getD i []).map V.int, rfl, SqT.of (sm9 _ _ hrl), ?_⟩
      refine for_enT (xs := (rows.getD i []).map V.int) (c := 0) (fun j σ H' => ∃ y10 y11 y12 : Option V, σ = [some (.ref t), some (.ref b), some (.ref p), some (.ref L), some (.ref D), some (.int ((0 : Int) + (i : Nat))), some (.ref l), some (.ref Z), some (.int (gSt (rows.drop (i + 1)) (ps.drop (i + 1)) n (pSets (rows.length - (i + 1))) (rows.getD i []) (wSt rows ps n L0 i).2 (ps.getD i 0) j).2.2), some (.ref C), y10, y11, y12, none, none] ∧
          Kp2 L C H9 H' ∧ H' L = some (.lst ((gSt (rows.drop (i + 1)) (ps.drop (i + 1)) n (pSets (rows.length - (i + 1))) (rows.getD i []) (wSt rows ps n L0 i).2 (ps.getD i 0) j).2.1.map V.int)) ∧
          H' C = some (.lst ((gSt (rows.drop (i + 1)) (ps.drop (i + 1)) n (pSets (rows.length - (i + 1))) (rows.getD i []) (wSt rows ps n L0 i).2 (ps.getD i 0) j).1.map V.int)))
        ⟨_, _, _, rfl, Kp2.refl, hL9, hC9⟩ (fun j σ H' _ h => ?_) (fun j x T10 σ H10 hx h nT10 => ?_) (fun σ H10 h => ?_)
      · obtain ⟨_, _, _, _, kp, _⟩ := h
        have e := sm9 _ _ hrl
        exact SqT.of (kp _ _ (fun z => by rw [z, hL9] at e; cases e) (fun z => by rw [z, hC9] at e; cases e) e)
      · obtain ⟨y10, y11, y12, rfl, kp, hL10, hC10⟩ := h
        obtain ⟨v, hv, rfl⟩ := get_map hx
        have hjn : j < n := by
          have := (List.getElem?_eq_some_iff.mp hv).1
          omega
        have hvd : v = (rows.getD i []).getD j 0 := by
          rw [List.getD_eq_getElem?_getD, hv]
          rfl
        have gl := gSt_len (rows.drop (i + 1)) (ps.drop (i + 1)) n (pSets (rows.length - (i + 1))) (rows.getD i []) (wSt rows ps n L0 i).2 (ps.getD i 0) j
        rw [gSt_succ]
        generalize gSt (rows.drop (i + 1)) (ps.drop (i + 1)) n (pSets (rows.length - (i + 1))) (rows.getD i []) (wSt rows ps n L0 i).2 (ps.getD i 0) j = g at hL10 hC10 gl ⊢
        obtain ⟨cts, lf, num⟩ := g
        obtain ⟨g1, g2⟩ := gl
        have g2 : lf.length = n := by rw [← hll, ← hl2]; exact g2
        have g1 : cts.length = j := g1
        have sT10 := same_new (o := .tup [.int ((0 : Int) + (j : Nat)), .int v]) nT10
        have hT10 : (upd H10 T10 (.tup [.int ((0 : Int) + (j : Nat)), .int v])) T10 = some (.tup [.int ((0 : Int) + (j : Nat)), .int v]) := upd_same
        have kp11 : Kp2 L C H9 (upd H10 T10 (.tup [.int ((0 : Int) + (j : Nat)), .int v])) := kp.trans (kps sT10)
        have hL11 := sT10 _ _ hL10
        have hC11 := sT10 _ _ hC10
        generalize upd H10 T10 (.tup [.int ((0 : Int) + (j : Nat)), .int v]) = H11 at hT10 kp11 hL11 hC11 ⊢
        refine ⟨T10, [.int ((0 : Int) + (j : Nat)), .int v], rfl, .inl (.inl hT10), rfl, .int ((0 : Int) + (j : Nat)), [.int v], rfl, .int v, [], rfl, rfl, ?_⟩
        have tk : ∀ b' xs, H9 b' = some (.tup xs) → H11 b' = some (.tup xs) := fun b' xs e => kp11 _ _ (fun z => by rw [z, hL9] at e; cases e) (fun z => by rw [z, hC9] at e; cases e) e
        refine ⟨_, rfl, _, rfl, _, rfl, _, rfl, _, rfl, Z, L, j, zs, rows.drop (i + 1), ps.drop (i + 1), n, pSets (rows.length - (i + 1)), lf, (by show [V.ref Z, V.ref L, V.int (0 + (j : Int))] = _; rw [Int.zero_add]), kp11 _ _ hZL hZC hZ9, la9.tk tk, hL11, g2, hjn, hn, ps_ne _, hdl, fun H12 sv s12 hsv => ?_⟩
        obtain rfl := hsv.eq
        have hL12 := s12 _ _ hL11
        have hC12 := s12 _ _ hC11
        have glf : (lf.map V.int)[j]? = some (.int (lf.getD j 0)) := by
          rw [List.getElem?_map, getD_of (d := 0) (by omega)]
          rfl
        refine ⟨_, _, _, _, rfl, min3_int _ _ _, ?_⟩
        refine ⟨_, rfl, _, rfl, num, _, rfl, rfl, ?_⟩
        refine ⟨.ref L, rfl, _, rfl, L, _, (j : Int), .int (lf.getD j 0), rfl, congrArg V.int (Int.zero_add _), SqL.of hL12, atI_nat glf, _, rfl, lf.getD j 0, _, rfl, rfl, ?_⟩
        refine ⟨.ref L, rfl, _, rfl, L, _, (j : Int), j, rfl, congrArg V.int (Int.zero_add _), hL12, ixN_nat (by rw [List.length_map]; omega), ?_⟩
        have hC13 : ∀ o, (upd H12 L o) C = some (.lst (cts.map V.int)) := fun o => by
          rw [upd_ne hLC.symm]
          exact hC12
        refine ⟨.ref C, rfl, .inl ⟨rfl, _, SqL.of (hC13 _)⟩, _, rfl, C, cts.map V.int, _, rfl, rfl, hC13 _, ?_, ?_⟩
        · rw [List.length_map]
          exact len_lt (by omega)
        · rw [hvd]
          refine ⟨_, _, _, rfl, ((kp11.trans (kps s12)).trans kp2_upd1).trans kp2_upd2, ?_, ?_⟩
          · rw [upd_ne hLC, upd_same, List.map_set]
          · rw [upd_same, List.map_append]
            rfl
      · obtain ⟨y10, y11, y12, rfl, kp, hL10, hC10⟩ := h
        rw [List.length_map, hrln] at hL10 hC10
        have hDx := kp _ _ hDL hDC hD9
        refine ⟨.ref D, rfl, .inl ⟨rfl, _, SqL.of hDx⟩, _, rfl, C, _, rfl, .inl ⟨SqL.of hC10, fun tc nc => ?_⟩⟩
        have s11 := same_new (o := .tup ((gSt (rows.drop (i + 1)) (ps.drop (i + 1)) n (pSets (rows.length - (i + 1))) (rows.getD i []) (wSt rows ps n L0 i).2 (ps.getD i 0) n).1.map V.int)) nc
        have htc : (upd H10 tc (.tup ((gSt (rows.drop (i + 1)) (ps.drop (i + 1)) n (pSets (rows.length - (i + 1))) (rows.getD i []) (wSt rows ps n L0 i).2 (ps.getD i 0) n).1.map V.int))) tc = some (.tup ((gSt (rows.drop (i + 1)) (ps.drop (i + 1)) n (pSets (rows.length - (i + 1))) (rows.getD i []) (wSt rows ps n L0 i).2 (ps.getD i 0) n).1.map V.int)) := upd_same
        have hL11 := s11 _ _ hL10
        have hD11 := s11 _ _ hDx
        have kp11 := kp.trans (kps s11)
        generalize upd H10 tc (.tup ((gSt (rows.drop (i + 1)) (ps.drop (i + 1)) n (pSets (rows.length - (i + 1))) (rows.getD i []) (wSt rows ps n L0 i).2 (ps.getD i 0) n).1.map V.int)) = H11 at htc hL11 hD11 kp11 ⊢
        have tk : ∀ b' xs, H9 b' = some (.tup xs) → H11 b' = some (.tup xs) := fun b' xs e => kp11 _ _ (fun z => by rw [z, hL9] at e; cases e) (fun z => by rw [z, hC9] at e; cases e) e
        refine ⟨D, as.map V.ref, _, rfl, rfl, hD11, ?_, as ++ [tc], _, _, _, _, _, _, _, _, rfl, ?_, ?_, ?_, ?_, fun j a r x1 x2 => ?_⟩
        · rw [List.length_map]
          exact len_lt (by omega)
        · intro b' o e
          have ne1 : b' ≠ D := fun z => by rw [z, nHD] at e; cases e
          have ne2 : b' ≠ L := fun z => by rw [z, nHL] at e; cases e
          have e9 := sm8 _ _ e
          have ne3 : b' ≠ C := fun z => by rw [z, nC] at e9; cases e9
          rw [upd_ne ne1]
          exact kp11 _ _ ne2 ne3 (sm9 _ _ e)
        · rw [upd_ne hLD]
          exact hL11
        · rw [upd_same, List.map_append]
          rfl
        · rw [List.length_append, hal]
          rfl
        · have up : ∀ b' xs, H11 b' = some (.tup xs) → (upd H11 D (.lst (as.map V.ref ++ [V.ref tc]))) b' = some (.tup xs) := fun b' xs e => by
            rw [upd_ne (fun z => by rw [z, hD11] at e; cases e)]
            exact e
          have hwl := (wSt_len rows ps n L0 i).1
          have x2' : ((wSt rows ps n L0 i).1 ++ [(gSt (rows.drop (i + 1)) (ps.drop (i + 1)) n (pSets (rows.length - (i + 1))) (rows.getD i []) (wSt rows ps n L0 i).2 (ps.getD i 0) n).1])[j]? = some r := x2
          by_cases hj : j < as.length
          · rw [List.getElem?_append_left hj] at x1
            rw [List.getElem?_append_left (by omega)] at x2'
            exact up _ _ (tk _ _ (hat9 j a r x1 x2'))
          · have hj2 : j = as.length := by
              have := (List.getElem?_eq_some_iff.mp x1).1
              rw [List.length_append] at this
              simp at this
              omega
            subst hj2
            rw [List.getElem?_append_right (Nat.le_refl _), Nat.sub_self] at x1
            rw [List.getElem?_append_right (by omega), hal, hwl, Nat.sub_self] at x2'
            obtain rfl : tc = a := Option.some.inj x1
            obtain rfl := Option.some.inj x2'
            exact up _ _ htc
    · obtain ⟨as, y5, y6, y7, y8, y9, y10, y11, y12, rfl, sm, hL4, hD4, hal, hat⟩ := h
      rw [List.length_map, st.len] at hL4 hal hat
      refine ⟨.ref D, rfl, D, _, rfl, .inl ⟨SqL.of hD4, fun tD nD => q tD as _ (sm.trans (same_new nD)) ⟨upd_same, ?_, fun j a r e1 e2 => same_new nD _ _ (hat j a r e1 e2)⟩⟩⟩
      rw [(wSt_len _ _ _ _ _).1, hal]
end
end DD
namespace DD
open PySem PySem.Spec PyProof.Rows L2 RZ
def maxL (l : List Int) : Int := -(minL (l.map fun x => -x))
theorem maxL_uniq {l : List Int} {m : Int} (hm : m ∈ l) (hl : ∀ y, y ∈ l → y ≤ m) : m = maxL l := by
  have := minL_uniq (l := l.map fun x => -x) (m := -m) (List.mem_map_of_mem hm) fun y hy => by
    obtain ⟨x, hx, rfl⟩ := List.mem_map.mp hy
    have := hl x hx
    omega
  unfold maxL
  omega
theorem maxL_mem {l : List Int} (h : l ≠ []) : maxL l ∈ l := by
  have := minL_mem (l := l.map fun x => -x) (by simpa using h)
  obtain ⟨x, hx, e⟩ := List.mem_map.mp this
  unfold maxL
  rw [← e, Int.neg_neg]
  exact hx
theorem maxL_ge {l : List Int} {y : Int} (h : y ∈ l) : y ≤ maxL l := by
  have := minL_le (l := l.map fun x => -x) (-y) (List.mem_map_of_mem h)
  unfold maxL
  omega
/-- the rooms of so many things of each kind, spoiling by spoiling -/
def roomsOf (ts : List Int) (ws : List (List Int)) (n : Nat) : List Int := (spOf ws).map fun s => (List.zipWith capv ts (capsOf ws s n)).sum
def totalOf (ts : List Int) (ws : List (List Int)) (n : Nat) : Option Int := if fulOf ws ts = none then none else some (1 + maxL (roomsOf ts ws n))
theorem sp_ne {ws : List (List Int)} {n : Nat} {hi : Int} (h : ∀ r ∈ ws, Good n hi r) : spOf ws ≠ [] := by
  rw [spOf_eq]
  have := spR_bwd (f := fun r => (kindsOf r).headD 0) (rows := ws) fun r hr => by
    obtain ⟨x, hx, h0⟩ := (h r hr).pos
    obtain ⟨j, hj⟩ := List.mem_iff_getElem?.mp hx
    have hjl := (List.getElem?_eq_some_iff.mp hj).1
    have hk := kinds_of (r := r) (i := j) hjl (by rw [List.getD_eq_getElem?_getD, hj]; exact h0)
    cases e : kindsOf r with
    | nil => rw [e] at hk; cases hk
    | cons k ks => exact List.mem_cons_self
  exact fun e => by rw [e] at this; cases this
theorem sp_len {ws : List (List Int)} (h : ∀ r ∈ ws, r.length ≤ 4) (hl : ws.length ≤ 4) : (spOf ws).length ≤ 256 := by
  rw [spOf_eq]
  exact spR_len h hl
/-- a wish of one to four collections for n kinds -/
structure Wish (H : Hp) (t : Addr) (ls : List Addr) (ws : List (List Int)) (n : Nat) : Prop where
  st : StockAt H t ls ws
  l1 : 1 ≤ ws.length
  l4 : ws.length ≤ 4
  g : ∀ r ∈ ws, Good n 50 r
  n1 : 1 ≤ n
  n4 : n ≤ 4
theorem Wish.same {H H' : Hp} {t : Addr} {ls : List Addr} {ws : List (List Int)} {n : Nat} (a : Wish H t ls ws n) (k : Same H H') : Wish H' t ls ws n := ⟨a.st.same k, a.l1, a.l4, a.g, a.n1, a.n4⟩
theorem Wish.tk {H H' : Hp} {t : Addr} {ls : List Addr} {ws : List (List Int)} {n : Nat} (a : Wish H t ls ws n) (k : TK H H') : Wish H' t ls ws n := ⟨a.st.tk k, a.l1, a.l4, a.g, a.n1, a.n4⟩
abbrev NT : List Str := ["stock", "collections", "totals", "spoiling"]
theorem scTotal : FnScope NT ["stock", "collections"] (defScope sTotal) := ⟨rfl, rfl, rfl, by decide +kernel, rfl, by decide +kernel, by decide +kernel⟩
theorem scNumber : FnScope ["stock", "collections", "drawer"] ["stock", "collections", "drawer"] (defScope sNumber) := ⟨rfl, rfl, rfl, by decide +kernel, rfl, by decide +kernel, by decide +kernel⟩
section
variable {P : Program} {w : World} {K : PySem.W.Frag} {mg : Str → Option Value} {base : Heap}
def spTotal : Sp := fun vs H Q _ => ∃ (t b : Addr) (ls wl : List Addr) (rows ws : List (List Int)) (n : Nat), vs = [.ref t, .ref b] ∧ StockAt H t ls rows ∧ 1 ≤ rows.length ∧ rows.length ≤ 4 ∧ (∀ r ∈ rows, r.length = n) ∧ Wish H b wl ws n ∧
  ∀ H', Same H H' → Q (optI (totalOf (totalsOf rows n) ws n)) H'
theorem ok_total {f fN fU fTu fA fIk fEr fO fSz fMg fFu fCo fSp fCa fI fR fFc fLo fSo fOv fDw fSv fIs fSt fSn fDk fD fCu fS fWh fKr fDv fWr : Addr} {fd dN dU dTu dA dIk dEr dO dSz dMg dFu dCo dSp dCa dI dR dFc dLo dSo dOv dDw dSv dIs dSt dSn dDk dD dCu dS dWh dKr dDv dWr : FuncData} {k : Nat} (F : Fun K "sure_total" "sure_total" sTotal f fd) (T : Tx K mg fN fU fTu fA fIk fEr fO fSz fMg fFu fCo fSp fCa fI fR fFc fLo fSo fOv fDw fSv fIs fSt fSn fDk fD fCu fS fWh fKr fDv fWr dN dU dTu dA dIk dEr dO dSz dMg dFu dCo dSp dCa dI dR dFc dLo dSo dOv dDw dSv dIs dSt dSn dDk dD dCu dS dWh dKr dDv dWr) :
    FnOk P w K mg base CX0 (k + 3) f fd ["stock", "collections"] spTotal := by
  have GO : FnOk P w K mg base CX0 (k + 1) fO dO ["stock"] (spTotals K) := ok_totals T.O T.m_tuple T.m_sum T.m_zip
  have GR : FnOk P w K mg base CX0 (k + 1) fR dR ["totals", "caps"] spRoomOf := ok_roomof T.R T
  have GFu : FnOk P w K mg base CX0 (k + 2) fFu dFu ["collections", "counts"] spFul := ok_ful T.Fu T.Co T.bCo T.gCo T.m_all T.m_zip T.m_enumerate
  have GSp : FnOk P w K mg base CX0 (k + 1) fSp dSp ["collections"] spSpoil := ok_spoil T.Sp T.m_enumerate T.m_tuple
  have GCa : FnOk P w K mg base CX0 (k + 1) fCa dCa ["collections", "spoiling"] spCaps := ok_caps T.Ca T.m_enumerate T.m_zip T.m_min T.m_tuple
  refine F.ok scTotal (fun vs H Q E h => ?_) (fun cdv A outer s H vs Q E hr h => ?_)
  · obtain ⟨t, b, ls, wl, rows, ws, n, rfl, _⟩ := h
    rfl
  · obtain ⟨t, b, ls, wl, rows, ws, n, rfl, st, h1, h4, hrn, wi, q⟩ := h
    refine ⟨_, (pss_cons (ps_set (i := 2) scTotal.nd rfl (.inr rfl) (pe_call GO (hr.mono (by omega)) (by rfl) T.gO T.O.kp T.bO .nil pass0 (pa_cons (pv 0) pa_nil)))
      (pss_cons (ps_if (pt_cmpR op_isN (pe_call GFu (hr.mono (by omega)) (by rfl) T.gFu T.Fu.kp T.bFu .nil pass0 (pa_cons (pv 1) (pa_cons (pv 2) pa_nil))) pe_non (nomark _)) (pss_one (ps_ret pe_non)) pss_nil)
      (pss_one (ps_ret (pe_op op_add pe_int (pe_callB (show CallR _ _ (rMax K) from cr_max rfl) (by rfl) T.m_max (by decide +kernel) (pa_cons (pe_lc (own := [("spoiling", 3)]) (g := gName 3) rfl scTotal.nd (pi_tup (pe_call GSp (hr.mono (by omega)) (by rfl) T.gSp T.Sp.kp T.bSp .nil pass0 (pa_cons (pv 1) pa_nil))) (blkOk_by (own := [("spoiling", 3)]) (N := NT) (sc := defScope sTotal) (by decide +kernel)) (fun _ _ _ _ _ => (pg_name (i := 3) scTotal.nd rfl (Or.inl rfl))) (fun _ _ _ _ _ => pts_nil) (fun _ _ _ _ _ => (pe_call GR (hr.mono (by omega)) (by rfl) T.gR T.R.kp T.bR .nil pass0 (pa_cons (pv 2) (pa_cons (pe_call GCa (hr.mono (by omega)) (by rfl) T.gCa T.Ca.kp T.bCa .nil pass0 (pa_cons (pv 1) (pa_cons (pv 3) pa_nil))) pa_nil))))) pa_nil))))))), ?_⟩
    have hg := wi.g
    have hn4 := wi.n4
    have hw4 : ∀ r ∈ ws, r.length ≤ 4 := fun r hr => by rw [(hg r hr).len]; exact hn4
    refine ⟨_, rfl, t, ls, rows, n, rfl, .inl (SqT.of st.top), st.len, fun j l r e1 e2 => ⟨st.row j l r e1 e2, hrn r (List.mem_of_getElem? e2)⟩, (fun e => by rw [e] at h1; cases h1), h4, by omega, fun p H1 s1 _ hp => ?_⟩
    have hce : (totalsOf rows n).length = n := tot_len _ _
    refine ⟨_, rfl, _, rfl, b, p, wl, ws, totalsOf rows n, rfl, wi.st.same s1, hp, fun r hr => by rw [hce, (hg r hr).len], by omega, fun H2 s2 => ?_⟩
    have s12 := s1.trans s2
    refine ⟨rfl, _, rfl, ?_⟩
    unfold totalOf at q
    by_cases hf : fulOf ws (totalsOf rows n) = none
    · rw [hf]
      rw [if_pos hf] at q
      exact iteT (q _ s12)
    · rw [if_neg hf] at q
      have hd : decide (optV (fulOf ws (totalsOf rows n)) = V.non) = false := by
        cases e : fulOf ws (totalsOf rows n) with
        | none => exact absurd e hf
        | some j => exact decide_eq_false (fun z => by cases z)
      refine iteNx hd ?_
      refine ⟨_, rfl, b, wl, ws, rfl, wi.st.same s12, wi.l4, hw4, fun m as H3 s3 sp3 => ?_⟩
      have s13 := s12.trans s3
      refine ⟨m, rfl, ⟨_, SqT.of sp3.top⟩, fun D nD => ?_⟩
      have hrl : (roomsOf (totalsOf rows n) ws n).length = (spOf ws).length := by simp [roomsOf]
      have h256 := sp_len hw4 wi.l4
      refine lc_tup (xs := as.map V.ref) (fun i H' => H' D = some (.lst (((roomsOf (totalsOf rows n) ws n).take i).map V.int)) ∧ Same H3 H') ⟨upd_same, same_new nD⟩ (fun i H' _ h => SqT.of (h.2 _ _ sp3.top)) (fun i x H' hx h => ?_) (fun H' h => ?_)
      · obtain ⟨hD, s4⟩ := h
        obtain ⟨a, ha, rfl⟩ := get_map hx
        have hil : i < (spOf ws).length := by
          have := (List.getElem?_eq_some_iff.mp ha).1
          have := sp3.len
          omega
        have hsi : (spOf ws)[i]? = some (spOf ws)[i] := List.getElem?_eq_getElem hil
        have hmem : (spOf ws)[i] ∈ spR ws := by rw [← spOf_eq]; exact List.getElem_mem hil
        obtain ⟨hsl, _⟩ := spR_bd hw4 _ hmem
        have hz : (roomsOf (totalsOf rows n) ws n)[i]? = some (List.zipWith capv (totalsOf rows n) (capsOf ws (spOf ws)[i] n)).sum := by
          unfold roomsOf
          rw [List.getElem?_map, hsi]
          rfl
        have s14 := s13.trans s4
        refine ⟨rfl, _, rfl, _, rfl, _, rfl, b, a, wl, ws, (spOf ws)[i], n, rfl, wi.st.same s14, wi.l1, wi.l4, fun r hr => (hg r hr).len, by omega, s4 _ _ (sp3.row i a _ ha hsi), hsl, fun c H5 s5 hc => ?_⟩
        refine ⟨p, c, totalsOf rows n, capsOf ws (spOf ws)[i] n, rfl, s5 _ _ (s4 _ _ (s3 _ _ (s2 _ _ hp))), hc, by rw [hce, caps_len]; exact Nat.le_refl _, by omega, fun H6 s6 => ?_⟩
        have hD6 := s6 _ _ (s5 _ _ hD)
        refine ⟨_, hD6, ?_, ?_, fun b' o e => ?_⟩
        · rw [List.length_map, List.length_take]
          exact len_lt (by omega)
        · rw [upd_same, take_succ_map hz]
        · rw [upd_ne (ne_of_none e nD)]
          exact s6 _ _ (s5 _ _ (s4 b' o e))
      · obtain ⟨hD, s4⟩ := h
        rw [List.length_map, List.take_of_length_le (by rw [hrl, sp3.len]; exact Nat.le_refl _)] at hD
        have hne : 0 < (roomsOf (totalsOf rows n) ws n).length := by
          rw [hrl]
          exact List.length_pos_iff.mpr (sp_ne hg)
        refine ⟨D, _, rfl, SqL.of hD, hne, fun m hm hle => ?_⟩
        rw [maxL_uniq hm hle]
        exact ⟨1, _, rfl, rfl, q _ (s13.trans s4)⟩
def spNumber : Sp := fun vs H Q _ => ∃ (t b : Addr) (ls wl : List Addr) (rows ws : List (List Int)) (n d : Nat), vs = [.ref t, .ref b, .int d] ∧ StockAt H t ls rows ∧ d < rows.length ∧ (∀ r ∈ rows, r.length = n) ∧ Wish H b wl ws n ∧
  ∀ H', Same H H' → Q (optI (totalOf (totalsOf [rows.getD d []] n) ws n)) H'
theorem ok_number {f fN fU fTu fA fIk fEr fO fSz fMg fFu fCo fSp fCa fI fR fFc fLo fSo fOv fDw fSv fIs fSt fSn fDk fD fCu fS fWh fKr fDv fWr : Addr} {fd dN dU dTu dA dIk dEr dO dSz dMg dFu dCo dSp dCa dI dR dFc dLo dSo dOv dDw dSv dIs dSt dSn dDk dD dCu dS dWh dKr dDv dWr : FuncData} {k : Nat} (F : Fun K "sure_number" "sure_number" sNumber f fd) (T : Tx K mg fN fU fTu fA fIk fEr fO fSz fMg fFu fCo fSp fCa fI fR fFc fLo fSo fOv fDw fSv fIs fSt fSn fDk fD fCu fS fWh fKr fDv fWr dN dU dTu dA dIk dEr dO dSz dMg dFu dCo dSp dCa dI dR dFc dLo dSo dOv dDw dSv dIs dSt dSn dDk dD dCu dS dWh dKr dDv dWr) :
    FnOk P w K mg base CX0 (k + 4) f fd ["stock", "collections", "drawer"] spNumber := by
  have GT : FnOk P w K mg base CX0 (k + 3) fSt dSt ["stock", "collections"] spTotal := ok_total T.St T
  refine F.ok scNumber (fun vs H Q E h => ?_) (fun cdv A outer s H vs Q E hr h => ?_)
  · obtain ⟨t, b, ls, wl, rows, ws, n, d, rfl, _⟩ := h
    rfl
  · obtain ⟨t, b, ls, wl, rows, ws, n, d, rfl, st, hd, hrn, wi, q⟩ := h
    refine ⟨_, (pss_one (ps_ret (pe_call GT (hr.mono (by omega)) (by rfl) T.gSt T.St.kp T.bSt .nil pass0 (pa_cons (pe_tup (pa_cons (pe_ix (show IxR _ (rIxT K) from ix_tup) (pv 0) (pv 2) (fun _ _ => rfl)) pa_nil)) (pa_cons (pv 1) pa_nil))))), ?_⟩
    have g := getD_of (d := ([] : List Int)) hd
    have hl := getD_of (d := 0) (show d < ls.length by rw [st.len]; exact hd)
    have gr : (ls.map V.ref)[d]? = some (.ref (ls.getD d 0)) := by
      rw [List.getElem?_map, hl]
      rfl
    refine ⟨.ref t, rfl, .int (d : Int), rfl, t, _, (d : Int), .ref (ls.getD d 0), rfl, rfl, SqT.of st.top, atI_nat gr, by show 1 ≤ sizeLine; decide, fun p np => ?_⟩
    have s1 : Same H (upd H p (.tup [.ref (ls.getD d 0)])) := same_new np
    refine ⟨_, rfl, p, b, [ls.getD d 0], wl, [rows.getD d []], ws, n, rfl, ⟨upd_same, rfl, fun j l r e1 e2 => ?_⟩, Nat.le_refl 1, (by show 1 ≤ 4; decide), fun r hr => ?_, wi.same s1, fun H2 s2 => q _ (s1.trans s2)⟩
    · cases j with
      | zero =>
        obtain rfl : ls.getD d 0 = l := Option.some.inj e1
        obtain rfl : rows.getD d [] = r := Option.some.inj e2
        exact s1 _ _ (st.row d _ _ hl g)
      | succ j => simp at e1
    · rw [List.mem_singleton.mp hr]
      exact hrn _ (List.mem_of_getElem? g)
end
end DD
namespace DD
open PySem PySem.Spec PyProof.Rows L2 RZ
theorem three_at2 {r a b c : Int} (h0 : 0 ≤ r) (h : r < 3) : ∃ z : Int, (z = a ∨ z = b ∨ z = c) ∧ atI [V.int a, V.int b, V.int c] r = some (.int z) := three_at h0 h
/-- a wish under way -/
structure WI (H0 H : Hp) (dk c tt FD : Addr) (tot : List Int) (ls : List Addr) (ws : List (List Int)) (B : Nat) : Prop where
  tt : H tt = some (.tup (tot.map V.int))
  fd : H FD = some (.lst (ls.map V.ref))
  ll : ls.length = ws.length
  ra : RowsAt H ls ws
  kp : Kp2 dk c H0 H
  d : Deck H dk c B
  nfd : H0 FD = none
  ne : FD ≠ dk ∧ FD ≠ c
theorem WI.step {H0 H H' : Hp} {dk c tt FD : Addr} {tot : List Int} {ls : List Addr} {ws : List (List Int)} {B B' : Nat} (a : WI H0 H dk c tt FD tot ls ws B) (k : Kp2 dk c H H') (d : Deck H' dk c B') : WI H0 H' dk c tt FD tot ls ws B' :=
  ⟨tup_kp a.tt a.d k, k _ _ a.ne.1 a.ne.2 a.fd, a.ll, a.ra.kp a.d k, a.kp.trans k, d, a.nfd, a.ne⟩
theorem WI.same {H0 H H' : Hp} {dk c tt FD : Addr} {tot : List Int} {ls : List Addr} {ws : List (List Int)} {B : Nat} (a : WI H0 H dk c tt FD tot ls ws B) (s : Same H H') : WI H0 H' dk c tt FD tot ls ws B := a.step (kps s) (a.d.keep s)
theorem WI.updC {H0 H : Hp} {dk c tt FD C : Addr} {tot : List Int} {ls : List Addr} {ws : List (List Int)} {B : Nat} {xs : List V} {o : HO} (a : WI H0 H dk c tt FD tot ls ws B) (h : H C = some (.lst xs)) (n0 : H0 C = none) (ne : C ≠ dk ∧ C ≠ c) (nf : C ≠ FD) : WI H0 (upd H C o) dk c tt FD tot ls ws B :=
  ⟨TK.lst h _ _ a.tt, by rw [upd_ne nf.symm]; exact a.fd, a.ll, a.ra.updL h, a.kp.updF n0, a.d.updD ne.1 ne.2, a.nfd, a.ne⟩
theorem WI.up {H0 H : Hp} {dk c tt FD : Addr} {tot : List Int} {ls : List Addr} {ws : List (List Int)} {B B' : Nat} (a : WI H0 H dk c tt FD tot ls ws B) (h : B ≤ B') : WI H0 H dk c tt FD tot ls ws B' := ⟨a.tt, a.fd, a.ll, a.ra, a.kp, a.d.up h, a.nfd, a.ne⟩
theorem sum_ge : ∀ {xs : List Int} {x : Int}, (∀ y ∈ xs, 0 ≤ y) → x ∈ xs → x ≤ xs.sum
  | [], _, _, h => by cases h
  | y :: ys, x, h0, h => by
    rw [List.sum_cons]
    have h1 := h0 y List.mem_cons_self
    have hs : 0 ≤ ys.sum := by
      have : ∀ (zs : List Int), (∀ z ∈ zs, 0 ≤ z) → 0 ≤ zs.sum := fun zs => by
        induction zs with
        | nil => intro _; exact Int.le_refl _
        | cons z zs ih =>
          intro hz
          rw [List.sum_cons]
          have := hz z List.mem_cons_self
          have := ih fun w hw => hz w (List.mem_cons_of_mem _ hw)
          omega
      exact this ys fun z hz => h0 z (List.mem_cons_of_mem _ hz)
    rcases List.mem_cons.mp h with rfl | h
    · omega
    · have := sum_ge (fun z hz => h0 z (List.mem_cons_of_mem _ hz)) h
      omega
theorem tot_bd {rows : List (List Int)} {n : Nat} {b : Int} (h : ∀ r ∈ rows, ∀ x ∈ r, 0 ≤ x ∧ x ≤ b) (hb : 0 ≤ b) : ∀ t ∈ totalsOf rows n, 0 ≤ t ∧ t ≤ (rows.length : Int) * b := by
  intro t ht
  obtain ⟨i, _, rfl⟩ := List.mem_map.mp ht
  have b' := sum_bd (b := b) (xs := rows.map fun r => r.getD i 0) fun x hx => by
    obtain ⟨r, hr, rfl⟩ := List.mem_map.mp hx
    exact getD_bd (h r hr) hb i
  rwa [List.length_map] at b'
end DD
namespace DD
open PySem PySem.Spec PyProof.Rows L2 RZ DM
abbrev NFc : List Str := ["stock", "collections", "plan", "loads", "table", "spoiling", "caps", "drawers"]
theorem scFind : FnScope NFc ["stock", "collections", "plan"] (defScope sFind) := ⟨rfl, rfl, rfl, by decide +kernel, rfl, by decide +kernel, by decide +kernel⟩
/-- a stock of one to four drawers, a wish and numbers for its drawers -/
structure Pb (H : Hp) (t b p : Addr) (ls wl : List Addr) (rows ws : List (List Int)) (ps : List Int) (n : Nat) : Prop where
  st : StockAt H t ls rows
  r1 : 1 ≤ rows.length
  r4 : rows.length ≤ 4
  rn : ∀ r ∈ rows, r.length = n
  wi : Wish H b wl ws n
  hp : H p = some (.tup (ps.map V.int))
  pl : ps.length = rows.length
/-- for each spoiling some drawers that are overfull -/
def tabB (rows ws : List (List Int)) (ps : List Int) (n : Nat) : Bool := (spOf ws).all fun sp => (pSets rows.length).any (ovB rows ps n (capsOf ws sp n))
/-- no drawers are overfull for the spoiling at i; there are some for each before it -/
def FreeAt (rows ws : List (List Int)) (ps : List Int) (n i : Nat) (sp : List Int) : Prop := (spOf ws)[i]? = some sp ∧ (∀ d ∈ pSets rows.length, ovB rows ps n (capsOf ws sp n) d = false) ∧ ∀ s' ∈ (spOf ws).take i, (pSets rows.length).any (ovB rows ps n (capsOf ws s' n)) = true
structure TabAt (H : Hp) (rows ws : List (List Int)) (ps : List Int) (n : Nat) (as : List Addr) (dss : List (List Nat)) (i : Nat) : Prop where
  l1 : as.length = i
  l2 : dss.length = i
  at_ : ∀ (j : Nat) (a : Addr) (d : List Nat) (sp : List Int), as[j]? = some a → dss[j]? = some d → (spOf ws)[j]? = some sp → H a = some (.tup (natsV d)) ∧ d ∈ pSets rows.length ∧ ovB rows ps n (capsOf ws sp n) d = true ∧ (pSets rows.length).find? (ovB rows ps n (capsOf ws sp n)) = some d
theorem TabAt.tk {H H' : Hp} {rows ws : List (List Int)} {ps : List Int} {n : Nat} {as : List Addr} {dss : List (List Nat)} {i : Nat} (a : TabAt H rows ws ps n as dss i) (k : ∀ b xs, H b = some (.tup xs) → H' b = some (.tup xs)) : TabAt H' rows ws ps n as dss i :=
  ⟨a.l1, a.l2, fun j x d sp e1 e2 e3 => ⟨k _ _ (a.at_ j x d sp e1 e2 e3).1, (a.at_ j x d sp e1 e2 e3).2⟩⟩
theorem TabAt.snoc {H : Hp} {rows ws : List (List Int)} {ps : List Int} {n : Nat} {as : List Addr} {dss : List (List Nat)} {i : Nat} {x : Addr} {d : List Nat} {sp : List Int} (a : TabAt H rows ws ps n as dss i) (hs : (spOf ws)[i]? = some sp)
    (h : H x = some (.tup (natsV d)) ∧ d ∈ pSets rows.length ∧ ovB rows ps n (capsOf ws sp n) d = true ∧ (pSets rows.length).find? (ovB rows ps n (capsOf ws sp n)) = some d) : TabAt H rows ws ps n (as ++ [x]) (dss ++ [d]) (i + 1) := by
  refine ⟨by rw [List.length_append, a.l1]; rfl, by rw [List.length_append, a.l2]; rfl, fun j y d' sp' x1 x2 x3 => ?_⟩
  by_cases hj : j < as.length
  · rw [List.getElem?_append_left hj] at x1
    rw [List.getElem?_append_left (by rw [a.l2, ← a.l1]; exact hj)] at x2
    exact a.at_ j y d' sp' x1 x2 x3
  · have hj2 : j = as.length := by
      have := (List.getElem?_eq_some_iff.mp x1).1
      rw [List.length_append] at this
      simp at this
      omega
    subst hj2
    rw [List.getElem?_append_right (Nat.le_refl _), Nat.sub_self] at x1
    rw [a.l1, ← a.l2, List.getElem?_append_right (Nat.le_refl _), Nat.sub_self] at x2
    rw [a.l1, hs] at x3
    obtain rfl : x = y := Option.some.inj x1
    obtain rfl : d = d' := Option.some.inj x2
    obtain rfl : sp = sp' := Option.some.inj x3
    exact h
theorem TabAt.all {H : Hp} {rows ws : List (List Int)} {ps : List Int} {n : Nat} {as : List Addr} {dss : List (List Nat)} {i : Nat} (a : TabAt H rows ws ps n as dss i) : ∀ s' ∈ (spOf ws).take i, (pSets rows.length).any (ovB rows ps n (capsOf ws s' n)) = true := fun s' hs => by
  obtain ⟨j, hj⟩ := List.mem_iff_getElem?.mp hs
  have hji : j < i := by
    have := (List.getElem?_eq_some_iff.mp hj).1
    rw [List.length_take] at this
    omega
  rw [List.getElem?_take_of_lt hji] at hj
  have h1 : as[j]? = some (as[j]'(by rw [a.l1]; exact hji)) := List.getElem?_eq_getElem _
  have h2 : dss[j]? = some (dss[j]'(by rw [a.l2]; exact hji)) := List.getElem?_eq_getElem _
  have := a.at_ j _ _ s' h1 h2 hj
  exact List.any_eq_true.mpr ⟨_, this.2.1, this.2.2.1⟩
theorem scIs : FnScope ["stock", "collections", "plan", "word", "_"] ["stock", "collections", "plan"] (defScope sIsSure) := ⟨rfl, rfl, rfl, by decide +kernel, rfl, by decide +kernel, by decide +kernel⟩
section
variable {P : Program} {w : World} {K : PySem.W.Frag} {mg : Str → Option Value} {base : Heap}
/-- the certificate: ("draw", a draw within the caps of the first spoiling without overfull drawers) or ("table", overfull drawers for each spoiling) -/
def spFind : Sp := fun vs H Q _ => ∃ (t b p : Addr) (ls wl : List Addr) (rows ws : List (List Int)) (ps : List Int) (n : Nat), vs = [.ref t, .ref b, .ref p] ∧ Pb H t b p ls wl rows ws ps n ∧
  (∀ H' r D ds i sp, Same H H' → FreeAt rows ws ps n i sp → H' r = some (.tup [.str "draw", .ref D]) → StockAt H' D ds (drawOf rows ps n (capsOf ws sp n)) → Q (.ref r) H') ∧
  (∀ H' r D as dss, Same H H' → H' r = some (.tup [.str "table", .ref D]) → H' D = some (.tup (as.map V.ref)) → TabAt H' rows ws ps n as dss (spOf ws).length → Q (.ref r) H')
set_option maxHeartbeats 800000 in
theorem ok_find {f fN fU fTu fA fIk fEr fO fSz fMg fFu fCo fSp fCa fI fR fFc fLo fSo fOv fDw fSv fIs fSt fSn fDk fD fCu fS fWh fKr fDv fWr : Addr} {fd dN dU dTu dA dIk dEr dO dSz dMg dFu dCo dSp dCa dI dR dFc dLo dSo dOv dDw dSv dIs dSt dSn dDk dD dCu dS dWh dKr dDv dWr : FuncData} {k : Nat} (F : Fun K "find_certificate" "find_certificate" sFind f fd) (T : Tx K mg fN fU fTu fA fIk fEr fO fSz fMg fFu fCo fSp fCa fI fR fFc fLo fSo fOv fDw fSv fIs fSt fSn fDk fD fCu fS fWh fKr fDv fWr dN dU dTu dA dIk dEr dO dSz dMg dFu dCo dSp dCa dI dR dFc dLo dSo dOv dDw dSv dIs dSt dSn dDk dD dCu dS dWh dKr dDv dWr) :
    FnOk P w K mg base CX0 (k + 4) f fd ["stock", "collections", "plan"] spFind := by
  have GSp : FnOk P w K mg base CX0 (k + 1) fSp dSp ["collections"] spSpoil := ok_spoil T.Sp T.m_enumerate T.m_tuple
  have GCa : FnOk P w K mg base CX0 (k + 1) fCa dCa ["collections", "spoiling"] spCaps := ok_caps T.Ca T.m_enumerate T.m_zip T.m_min T.m_tuple
  have GLo : FnOk P w K mg base CX0 (k + 2) fLo dLo ["stock", "plan"] spLoads := ok_loads T.Lo T
  have GOv : FnOk P w K mg base CX0 (k + 2) fOv dOv ["loads", "caps"] spOver := ok_over T.Ov T
  have GDw : FnOk P w K mg base CX0 (k + 3) fDw dDw ["stock", "caps", "plan"] spWithin := ok_within T.Dw T
  refine F.ok scFind (fun vs H Q E h => ?_) (fun cdv A outer s H vs Q E hr h => ?_)
  · obtain ⟨t, b, p, ls, wl, rows, ws, ps, n, rfl, _⟩ := h
    rfl
  · obtain ⟨t, b, p, ls, wl, rows, ws, ps, n, rfl, ⟨st, hr1, hr4, hrn, wi, hp, hpl⟩, q1, q2⟩ := h
    refine ⟨_, (pss_cons (ps_set (i := 3) scFind.nd rfl (.inl rfl) (pe_call GLo (hr.mono (by omega)) (by rfl) T.gLo T.Lo.kp T.bLo .nil pass0 (pa_cons (pv 0) (pa_cons (pv 2) pa_nil))))
      (pss_cons (ps_set (i := 4) scFind.nd rfl (.inl rfl) (pe_lst pa_nil))
      (pss_cons (ps_for PassesOwn.never rfl (pi_tup (pe_call GSp (hr.mono (by omega)) (by rfl) T.gSp T.Sp.kp T.bSp .nil pass0 (pa_cons (pv 1) pa_nil))) (pg_name (i := 5) scFind.nd rfl (Or.inl rfl)) (pss_cons (ps_set (i := 6) scFind.nd rfl (.inl rfl) (pe_call GCa (hr.mono (by omega)) (by rfl) T.gCa T.Ca.kp T.bCa .nil pass0 (pa_cons (pv 1) (pa_cons (pv 5) pa_nil))))
      (pss_cons (ps_set (i := 7) scFind.nd rfl (.inl rfl) (pe_call GOv (hr.mono (by omega)) (by rfl) T.gOv T.Ov.kp T.bOv .nil pass0 (pa_cons (pv 3) (pa_cons (pv 6) pa_nil))))
      (pss_cons (ps_if (pt_cmpR op_isN (pv 7) pe_non (nomark _)) (pss_one (ps_ret (pe_tup (pa_cons pe_str (pa_cons (pe_call GDw (hr.mono (by omega)) (by rfl) T.gDw T.Dw.kp T.bDw .nil pass0 (pa_cons (pv 0) (pa_cons (pv 6) (pa_cons (pv 2) pa_nil)))) pa_nil))))) pss_nil)
      (pss_one (ps_expr (pe_bm PySem.F.plainAttrs_list PySem.F.slot_list_append PySem.F.type_list_append mt_append (pv 4) (pa_cons (pv 7) pa_nil))))))))
      (pss_one (ps_ret (pe_tup (pa_cons pe_str (pa_cons (pe_callTy call_tuple_of (by rfl) T.m_tuple (by decide +kernel) (pa_cons (pv 4) pa_nil)) pa_nil)))))))), ?_⟩
    have hg := wi.g
    have hn4 := wi.n4
    have hw4 : ∀ r ∈ ws, r.length ≤ 4 := fun r hr => by rw [(hg r hr).len]; exact hn4
    refine ⟨_, rfl, _, rfl, t, p, ls, rows, ps, n, rfl, st, hr4, hrn, by omega, hp, hpl, fun L as H1 s1 hL la => ?_⟩
    refine ⟨Nat.zero_le _, fun D nD => ?_⟩
    have s2 := s1.trans (same_new (o := .lst []) nD)
    have nHD : H D = none := s1.free nD
    have hLD : L ≠ D := fun z => by rw [z, nD] at hL; cases hL
    have hL2 : (upd H1 D (.lst [])) L = some (.lst (as.map V.ref)) := by
      rw [upd_ne hLD]
      exact hL
    have hD2 : (upd H1 D (.lst [])) D = some (.lst (([] : List Addr).map V.ref)) := upd_same
    have la2 := la.tk fun b' xs e => same_new (o := .lst []) nD _ _ e
    generalize upd H1 D (.lst []) = H2 at s2 hL2 hD2 la2 ⊢
    refine ⟨_, rfl, b, wl, ws, rfl, wi.st.same s2, wi.l4, hw4, fun m zs H3 s3 sp3 => ?_⟩
    have s03 := s2.trans s3
    refine ⟨m, rfl, ⟨_, SqT.of sp3.top⟩, ?_⟩
    have h256 := sp_len hw4 wi.l4
    refine for_it (walk_tup (xs := zs.map V.ref)) (fun i σ H' => ∃ (ts : List Addr) (dss : List (List Nat)) (y5 y6 y7 : Option V), σ = [some (.ref t), some (.ref b), some (.ref p), some (.ref L), some (.ref D), y5, y6, y7] ∧ Same H H' ∧
        H' L = some (.lst (as.map V.ref)) ∧ LoadsAt H' rows ps n as (pSets rows.length) ∧ StockAt H' m zs (spOf ws) ∧ H' D = some (.lst (ts.map V.ref)) ∧ TabAt H' rows ws ps n ts dss i)
      ⟨[], [], _, _, _, rfl, s03, s3 _ _ hL2, la2.tk fun b' xs e => s3 _ _ e, sp3, s3 _ _ hD2, ⟨rfl, rfl, fun j a d sp e => by simp at e⟩⟩
      (fun i σ H' _ h => by obtain ⟨_, _, _, _, _, _, _, _, _, sp', _⟩ := h; exact SqT.of sp'.top) (fun i x σ H' H4 hi h y => ?_) (fun σ H4 h => ?_)
    · obtain ⟨ts, dss, y5, y6, y7, rfl, sm, hL', la', sp', hD', ta⟩ := h
      obtain ⟨rfl, hx⟩ := y
      obtain ⟨a, ha, rfl⟩ := get_map hx
      have hil : i < (spOf ws).length := by
        have := (List.getElem?_eq_some_iff.mp ha).1
        have := sp3.len
        omega
      have hsi : (spOf ws)[i]? = some (spOf ws)[i] := List.getElem?_eq_getElem hil
      have hmem : (spOf ws)[i] ∈ spR ws := by rw [← spOf_eq]; exact List.getElem_mem hil
      obtain ⟨hsl, _⟩ := spR_bd hw4 _ hmem
      have hai := sp'.row i a _ ha hsi
      generalize (spOf ws)[i] = sp at hsi hsl hai
      refine ⟨_, rfl, _, rfl, b, a, wl, ws, sp, n, rfl, wi.st.same sm, wi.l1, wi.l4, fun r hr => (hg r hr).len, by omega, hai, hsl, fun c H5 s5 hc => ?_⟩
      refine ⟨_, rfl, _, rfl, L, c, as, rows, ps, n, pSets rows.length, capsOf ws sp n, rfl, s5 _ _ hL', la'.tk (fun b' xs e => s5 _ _ e), hc, caps_len _ _ _, by omega, fun H6 s6 hno => ?_, fun H6 d dd s6 hfd hdd hov hd => ?_⟩
      · have s06 := sm.trans (s5.trans s6)
        refine ⟨_, rfl, rfl, _, rfl, iteT ?_⟩
        refine ⟨_, rfl, _, rfl, _, rfl, t, c, p, ls, rows, ps, n, capsOf ws sp n, rfl, st.same s06, hr1, hr4, hrn, by omega, s6 _ _ hc, caps_len _ _ _, s06 _ _ hp, hpl, fun D2 ds2 H7 s7 st7 => ?_⟩
        refine ⟨by show 2 ≤ sizeLine; decide, fun r nr => ?_⟩
        exact q1 _ r D2 ds2 i sp (s06.trans (s7.trans (same_new nr))) ⟨hsi, hno, ta.all⟩ upd_same (st7.same (same_new nr))
      · have s06 := sm.trans (s5.trans s6)
        refine ⟨_, rfl, rfl, _, rfl, iteNx rfl ?_⟩
        have hD6 := s6 _ _ (s5 _ _ hD')
        have s56 := s5.trans s6
        refine ⟨.ref D, rfl, .inl ⟨rfl, _, SqL.of hD6⟩, _, rfl, D, ts.map V.ref, .ref d, rfl, rfl, hD6, ?_, ts ++ [d], dss ++ [dd], _, _, _, rfl, ?_, ?_, ?_, ?_, ?_, ?_⟩
        · rw [List.length_map, ta.l1]
          exact len_lt (by omega)
        · intro b' o e
          rw [upd_ne (fun z => by rw [z, nHD] at e; cases e)]
          exact s06 _ _ e
        · rw [upd_ne hLD]
          exact s56 _ _ hL'
        · exact la'.tk fun b' xs e => by
            rw [upd_ne (fun z => by rw [z, hD'] at e; cases e)]
            exact s56 _ _ e
        · refine ⟨?_, sp'.len, fun j l r e1 e2 => ?_⟩
          · have e := sp'.top
            rw [upd_ne (fun z => by rw [z, hD'] at e; cases e)]
            exact s56 _ _ e
          · have e := sp'.row j l r e1 e2
            rw [upd_ne (fun z => by rw [z, hD'] at e; cases e)]
            exact s56 _ _ e
        · rw [upd_same, List.map_append]
          rfl
        · refine TabAt.snoc (ta.tk fun b' xs e => ?_) hsi ⟨?_, hdd, hov, hfd⟩
          · rw [upd_ne (fun z => by rw [z, hD'] at e; cases e)]
            exact s56 _ _ e
          · rw [upd_ne (fun z => by rw [z, hD6] at hd; cases hd)]
            exact hd
    · obtain ⟨ts, dss, y5, y6, y7, rfl, sm, hL', la', sp', hD', ta⟩ := h
      rw [List.length_map, sp3.len] at ta
      refine ⟨.ref D, rfl, D, _, rfl, .inl ⟨SqL.of hD', fun tD nt => ?_⟩⟩
      have sD := same_new (o := .tup (ts.map V.ref)) nt
      refine ⟨by show 2 ≤ sizeLine; decide, fun r nr => ?_⟩
      have sr := same_new (o := .tup [.str "table", .ref tD]) nr
      exact q2 _ r tD ts dss (sm.trans (sD.trans sr)) upd_same (sr _ _ upd_same) (ta.tk fun b' xs e => sr _ _ (sD _ _ e))
theorem free_tab {rows ws : List (List Int)} {ps : List Int} {n i : Nat} {sp : List Int} (h : FreeAt rows ws ps n i sp) : tabB rows ws ps n = false := by
  refine Bool.eq_false_iff.mpr fun e => ?_
  have := List.all_eq_true.mp e sp (List.mem_of_getElem? h.1)
  obtain ⟨d, hd, ho⟩ := List.any_eq_true.mp this
  rw [h.2.1 d hd] at ho
  cases ho
theorem TabAt.tab {H : Hp} {rows ws : List (List Int)} {ps : List Int} {n : Nat} {as : List Addr} {dss : List (List Nat)} (a : TabAt H rows ws ps n as dss (spOf ws).length) : tabB rows ws ps n = true :=
  List.all_eq_true.mpr fun s' hs => a.all s' (by rw [List.take_length]; exact hs)
def spIs : Sp := fun vs H Q _ => ∃ (t b p : Addr) (ls wl : List Addr) (rows ws : List (List Int)) (ps : List Int) (n : Nat), vs = [.ref t, .ref b, .ref p] ∧ Pb H t b p ls wl rows ws ps n ∧ ∀ H', Same H H' → Q (.bl (tabB rows ws ps n)) H'
theorem ok_is {f fN fU fTu fA fIk fEr fO fSz fMg fFu fCo fSp fCa fI fR fFc fLo fSo fOv fDw fSv fIs fSt fSn fDk fD fCu fS fWh fKr fDv fWr : Addr} {fd dN dU dTu dA dIk dEr dO dSz dMg dFu dCo dSp dCa dI dR dFc dLo dSo dOv dDw dSv dIs dSt dSn dDk dD dCu dS dWh dKr dDv dWr : FuncData} {k : Nat} (F : Fun K "is_sure" "is_sure" sIsSure f fd) (T : Tx K mg fN fU fTu fA fIk fEr fO fSz fMg fFu fCo fSp fCa fI fR fFc fLo fSo fOv fDw fSv fIs fSt fSn fDk fD fCu fS fWh fKr fDv fWr dN dU dTu dA dIk dEr dO dSz dMg dFu dCo dSp dCa dI dR dFc dLo dSo dOv dDw dSv dIs dSt dSn dDk dD dCu dS dWh dKr dDv dWr) :
    FnOk P w K mg base CX0 (k + 5) f fd ["stock", "collections", "plan"] spIs := by
  have GFc : FnOk P w K mg base CX0 (k + 4) fFc dFc ["stock", "collections", "plan"] spFind := ok_find T.Fc T
  refine F.ok scIs (fun vs H Q E h => ?_) (fun cdv A outer s H vs Q E hr h => ?_)
  · obtain ⟨t, b, p, ls, wl, rows, ws, ps, n, rfl, _⟩ := h
    rfl
  · obtain ⟨t, b, p, ls, wl, rows, ws, ps, n, rfl, pb, q⟩ := h
    refine ⟨_, (pss_cons (ps_asg (pe_call GFc (hr.mono (by omega)) (by rfl) T.gFc T.Fc.kp T.bFc .nil pass0 (pa_cons (pv 0) (pa_cons (pv 1) (pa_cons (pv 2) pa_nil)))) (pg_tup rfl (pgs_cons (pg_name (i := 3) scIs.nd rfl (Or.inl rfl)) (pgs_cons (pg_name (i := 4) scIs.nd rfl (Or.inl rfl)) pgs_nil))))
      (pss_one (ps_ret (pe_cmpR op_eq (pv 3) pe_str (nomark _))))), ?_⟩
    refine ⟨_, rfl, _, rfl, _, rfl, t, b, p, ls, wl, rows, ws, ps, n, rfl, pb, fun H1 r D ds i sp s1 fr hr1 _ => ?_, fun H1 r D as dss s1 hr1 _ ta => ?_⟩
    · refine ⟨r, [.str "draw", .ref D], rfl, .inl (.inl hr1), rfl, .str "draw", [.ref D], rfl, .ref D, [], rfl, rfl, ?_⟩
      have := q H1 s1
      rw [free_tab fr] at this
      exact ⟨_, rfl, rfl, this⟩
    · refine ⟨r, [.str "table", .ref D], rfl, .inl (.inl hr1), rfl, .str "table", [.ref D], rfl, .ref D, [], rfl, rfl, ?_⟩
      have := q H1 s1
      rw [ta.tab] at this
      exact ⟨_, rfl, rfl, this⟩
end
end DD
namespace DD
open PySem PySem.Spec PyProof.Rows L2 RZ DM
theorem rg_nats (m : Nat) : rgV 0 (m : Int) = natsV (List.range m) := by
  unfold rgV natsV
  rw [show ((m : Int) - 0).toNat = m by omega]
  exact List.map_congr_left fun i _ => by rw [Int.zero_add]
theorem seqIx {i : Nat} {m : Nat} (h : i < m) : seqIndex? (i : Int) m = some i := by
  unfold seqIndex?
  simp only [show ¬ ((i : Int) < 0) by omega, if_false]
  rw [if_pos (by simp [h])]
  simp
theorem natsV_get {ds : List Nat} {i j : Nat} (h : ds[i]? = some j) : (natsV ds)[i]? = some (.int (j : Int)) := by
  unfold natsV
  rw [List.getElem?_map, h]
  rfl
theorem natsV_len (ds : List Nat) : (natsV ds).length = ds.length := by simp [natsV]
theorem natsV_erase : ∀ (ds : List Nat) (i : Nat), (natsV ds).eraseIdx i = natsV (ds.eraseIdx i)
  | [], _ => rfl
  | _ :: _, 0 => rfl
  | x :: xs, i + 1 => by
    show V.int (x : Int) :: (natsV xs).eraseIdx i = V.int (x : Int) :: natsV (xs.eraseIdx i)
    rw [natsV_erase xs i]
theorem perm_erase : ∀ {lf : List Nat} {i j : Nat}, lf[i]? = some j → (j :: lf.eraseIdx i).Perm lf
  | [], _, _, h => by simp at h
  | x :: xs, 0, j, h => by
    obtain rfl : x = j := Option.some.inj h
    exact List.Perm.refl _
  | x :: xs, i + 1, j, h => by
    have ih := perm_erase (lf := xs) (i := i) (j := j) h
    show (j :: x :: xs.eraseIdx i).Perm (x :: xs)
    exact (List.Perm.swap x j _).trans (ih.cons x)
theorem perm_pop {fd lf : List Nat} {i j : Nat} (h : lf[i]? = some j) : ((fd ++ [j]) ++ lf.eraseIdx i).Perm (fd ++ lf) := by
  rw [List.append_assoc]
  exact List.Perm.append_left fd (perm_erase h)
end DD
namespace DD
open PySem PySem.Spec PyProof.Rows L2 RZ DM
theorem taken_set {pl : List Int} {j : Nat} {v : Int} {ds : List Nat} (h : j ∉ ds) : takenOf (pl.set j v) ds = takenOf pl ds := by
  unfold takenOf
  refine congrArg List.sum (List.map_congr_left fun x hx => ?_)
  have : j ≠ x := fun z => h (z ▸ hx)
  rw [List.getD_eq_getElem?_getD, List.getElem?_set_ne this, List.getD_eq_getElem?_getD]
theorem taken_snoc (pl : List Int) (ds : List Nat) (j : Nat) : takenOf pl (ds ++ [j]) = takenOf pl ds + pl.getD j 0 := by
  unfold takenOf
  rw [List.map_append, List.sum_append]
  simp
theorem perm_sum {xs ys : List Int} (h : xs.Perm ys) : xs.sum = ys.sum := by
  induction h with
  | nil => rfl
  | cons x _ ih => rw [List.sum_cons, List.sum_cons, ih]
  | swap x y l => simp only [List.sum_cons]; omega
  | trans _ _ a b => exact a.trans b
theorem taken_range (pl : List Int) : takenOf pl (List.range pl.length) = pl.sum := by
  unfold takenOf
  congr 1
  refine List.ext_getElem? fun i => ?_
  rw [List.getElem?_map]
  by_cases h : i < pl.length
  · rw [List.getElem?_range h, getD_of (d := 0) h]
    rfl
  · rw [List.getElem?_eq_none (by rw [List.length_range]; omega), List.getElem?_eq_none (by omega)]
    rfl
theorem taken_perm {pl : List Int} {ds es : List Nat} (h : ds.Perm es) : takenOf pl ds = takenOf pl es := perm_sum (h.map _)
theorem taken_all {pl : List Int} {js : List Nat} {m : Nat} (h : js.Perm (List.range m)) (hl : pl.length = m) : takenOf pl js = pl.sum := by
  rw [taken_perm h, ← hl, taken_range]
theorem set_sum {pl : List Int} {v : Int} : ∀ {j : Nat}, j < pl.length → (pl.set j v).sum = pl.sum - pl.getD j 0 + v := by
  induction pl with
  | nil => intro j h; simp at h
  | cons x xs ih =>
    intro j h
    cases j with
    | zero =>
      show (v :: xs).sum = _
      rw [List.sum_cons, List.sum_cons]
      show v + xs.sum = x + xs.sum - x + v
      omega
    | succ j =>
      show (x :: xs.set j v).sum = (x :: xs).sum - xs.getD j 0 + v
      rw [List.sum_cons, List.sum_cons, ih (by simpa using h)]
      omega
theorem setD {pl : List Int} {j i : Nat} {v : Int} (h : j < pl.length) : (pl.set j v).getD i 0 = if j = i then v else pl.getD i 0 := by
  rw [List.getD_eq_getElem?_getD, List.getElem?_set, List.getD_eq_getElem?_getD]
  by_cases e : j = i
  · rw [if_pos e, if_pos e, if_pos h]
    rfl
  · rw [if_neg e, if_neg e]
def sizeAt (rows : List (List Int)) (j : Nat) : Int := (rows.getD j []).sum
structure Rb (rows : List (List Int)) (n : Nat) : Prop where
  r1 : 1 ≤ rows.length
  r4 : rows.length ≤ 4
  n1 : 1 ≤ n
  n4 : n ≤ 4
  rw : ∀ r ∈ rows, r.length = n ∧ ∀ x ∈ r, 0 ≤ x ∧ x ≤ 50
theorem Rb.size {rows : List (List Int)} {n : Nat} (b : Rb rows n) {r : List Int} (h : r ∈ rows) : 0 ≤ r.sum ∧ r.sum ≤ 200 := by
  obtain ⟨h1, h2⟩ := b.rw r h
  have := sum_bd h2
  have n4 := b.n4
  rw [h1] at this
  exact ⟨this.1, by omega⟩
theorem Rb.at_ {rows : List (List Int)} {n j : Nat} (b : Rb rows n) (h : j < rows.length) : 0 ≤ sizeAt rows j ∧ sizeAt rows j ≤ 200 := b.size (List.mem_of_getElem? (getD_of (d := []) h))
end DD
namespace DD
open PySem PySem.Spec PyProof.Rows L2 RZ DM
/-- the room of these drawers -/
def roomS (rows : List (List Int)) (n : Nat) (cs : List (Option Int)) (ds : List Nat) : Int := (List.zipWith capv (totL rows n ds) cs).sum
def colS (rows : List (List Int)) (ds : List Nat) (k : Nat) : Int := (ds.map fun j => (rows.getD j []).getD k 0).sum
theorem colS_snoc (rows : List (List Int)) (ds : List Nat) (j k : Nat) : colS rows (ds ++ [j]) k = colS rows ds k + (rows.getD j []).getD k 0 := by
  unfold colS
  rw [List.map_append, List.sum_append]
  simp
theorem colS_perm {rows : List (List Int)} {ds es : List Nat} {k : Nat} (h : ds.Perm es) : colS rows ds k = colS rows es k := perm_sum (h.map _)
theorem colS_le {rows : List (List Int)} (hn : ∀ r ∈ rows, ∀ x ∈ r, 0 ≤ x) {k : Nat} : ∀ {S A : List Nat}, S.Nodup → (∀ x ∈ S, x ∈ A) → colS rows S k ≤ colS rows A k := by
  have nn : ∀ j : Nat, 0 ≤ (rows.getD j []).getD k 0 := fun j => by
    rw [List.getD_eq_getElem?_getD (l := rows)]
    cases e : rows[j]? with
    | none => exact Int.le_refl _
    | some r =>
      show 0 ≤ r.getD k 0
      rw [List.getD_eq_getElem?_getD]
      cases e2 : r[k]? with
      | none => exact Int.le_refl _
      | some x => exact hn r (List.mem_of_getElem? e) x (List.mem_of_getElem? e2)
  intro S
  induction S with
  | nil =>
    intro A _ _
    show 0 ≤ colS rows A k
    induction A with
    | nil => exact Int.le_refl _
    | cons a A ih =>
      show 0 ≤ ((a :: A).map _).sum
      rw [List.map_cons, List.sum_cons]
      have := nn a
      have ih2 : 0 ≤ (A.map fun j => (rows.getD j []).getD k 0).sum := ih (fun _ h => nomatch h)
      omega
  | cons j S ih =>
    intro A hd hs
    have hjA := hs j List.mem_cons_self
    have hp := List.perm_cons_erase hjA
    rw [colS_perm hp]
    have h2 : colS rows S k ≤ colS rows (A.erase j) k := ih (List.nodup_cons.mp hd).2 fun x hx => by
      have hne : x ≠ j := fun z => (List.nodup_cons.mp hd).1 (z ▸ hx)
      exact (List.mem_erase_of_ne hne).mpr (hs x (List.mem_cons_of_mem _ hx))
    show ((j :: S).map _).sum ≤ ((j :: A.erase j).map _).sum
    rw [List.map_cons, List.map_cons, List.sum_cons, List.sum_cons]
    have : (S.map fun j => (rows.getD j []).getD k 0).sum ≤ ((A.erase j).map fun j => (rows.getD j []).getD k 0).sum := h2
    omega
def rk (rows : List (List Int)) (cs : List (Option Int)) (ds : List Nat) (k : Nat) : Int := capv (colS rows ds k) (cs.getD k none)
theorem roomS_eq {rows : List (List Int)} {n : Nat} {cs : List (Option Int)} (hc : cs.length = n) (h0 : ∀ c, some c ∈ cs → 0 ≤ c) (ds : List Nat) : roomS rows n cs ds = ((List.range n).map (rk rows cs ds)).sum := by
  by_cases e : ds = []
  · subst e
    have z1 : roomS rows n cs [] = 0 := rfl
    rw [z1]
    have : ∀ l : List Nat, (∀ k ∈ l, k < n) → (l.map (rk rows cs [])).sum = 0 := by
      intro l
      induction l with
      | nil => intro _; rfl
      | cons a l ih =>
        intro h
        rw [List.map_cons, List.sum_cons, ih fun k hk => h k (List.mem_cons_of_mem _ hk)]
        have ha := h a List.mem_cons_self
        show capv 0 (cs.getD a none) + 0 = 0
        have hg := getD_of (d := none) (show a < cs.length by omega)
        cases hv : cs.getD a none with
        | none => rfl
        | some c =>
          have := h0 c (by rw [hv] at hg; exact List.mem_of_getElem? hg)
          show (if c < 0 then c else 0) + 0 = 0
          rw [if_neg (by omega)]
          rfl
    exact (this _ fun k hk => List.mem_range.mp hk).symm
  · unfold roomS totL
    rw [if_neg e]
    congr 1
    refine List.ext_getElem? fun i => ?_
    by_cases hi : i < n
    · rw [List.getElem?_zipWith, List.getElem?_map, List.getElem?_range hi]
      unfold totalsOf
      rw [List.getElem?_map, List.getElem?_range hi, getD_of (d := none) (show i < cs.length by omega)]
      show some (capv _ _) = some (rk rows cs ds i)
      unfold rk colS pickR
      dsimp only
      rw [List.map_map]
      rfl
    · rw [List.getElem?_eq_none (by rw [List.length_zipWith]; omega), List.getElem?_eq_none (by rw [List.length_map, List.length_range]; omega)]
theorem roomS_perm {rows : List (List Int)} {n : Nat} {cs : List (Option Int)} (hc : cs.length = n) (h0 : ∀ c, some c ∈ cs → 0 ≤ c) {ds es : List Nat} (h : ds.Perm es) : roomS rows n cs ds = roomS rows n cs es := by
  rw [roomS_eq hc h0, roomS_eq hc h0]
  refine congrArg List.sum (List.map_congr_left fun k _ => ?_)
  unfold rk
  rw [colS_perm h]
theorem sum4 {f g h i : Nat → Int} : ∀ {l : List Nat}, (∀ k ∈ l, f k + g k ≤ h k + i k) → (l.map f).sum + (l.map g).sum ≤ (l.map h).sum + (l.map i).sum
  | [], _ => by simp
  | a :: l, hk => by
    have := sum4 (l := l) fun k hh => hk k (List.mem_cons_of_mem _ hh)
    have := hk a List.mem_cons_self
    simp only [List.map_cons, List.sum_cons]
    omega
theorem capv_sub {a s x : Int} (o : Option Int) (h : s ≤ a) (hx : 0 ≤ x) : capv (a + x) o + capv s o ≤ capv a o + capv (s + x) o := by
  cases o with
  | none =>
    show a + x + s ≤ a + (s + x)
    omega
  | some c =>
    show (if c < a + x then c else a + x) + (if c < s then c else s) ≤ (if c < a then c else a) + (if c < s + x then c else s + x)
    by_cases h1 : c < a + x <;> by_cases h2 : c < s <;> by_cases h3 : c < a <;> by_cases h4 : c < s + x <;> simp only [h1, h2, h3, h4, if_true, if_false] <;> omega
theorem cell_nn {rows : List (List Int)} (hn : ∀ r ∈ rows, ∀ x ∈ r, 0 ≤ x) (j k : Nat) : 0 ≤ (rows.getD j []).getD k 0 := by
  have := colS_le hn (k := k) (S := []) (A := [j]) List.nodup_nil (fun x h => by cases h)
  have e1 : colS rows [] k = 0 := rfl
  have e2 : colS rows [j] k = (rows.getD j []).getD k 0 + 0 := rfl
  omega
theorem range_ps : ∀ m, List.range m ∈ pSets m
  | 0 => List.mem_singleton.mpr rfl
  | m + 1 => by
    rw [List.range_succ]
    exact List.mem_append_right _ (List.mem_map.mpr ⟨_, range_ps m, rfl⟩)
theorem pick_all (rows : List (List Int)) : pickR rows (List.range rows.length) = rows := by
  unfold pickR
  refine List.ext_getElem? fun i => ?_
  rw [List.getElem?_map]
  by_cases h : i < rows.length
  · rw [List.getElem?_range h, getD_of (d := []) h]
    rfl
  · rw [List.getElem?_eq_none (by rw [List.length_range]; omega), List.getElem?_eq_none (by omega)]
    rfl
theorem tot_colS (rows : List (List Int)) (n : Nat) : totalsOf rows n = (List.range n).map (colS rows (List.range rows.length)) := by
  unfold totalsOf
  refine List.map_congr_left fun i _ => ?_
  show _ = ((List.range rows.length).map _).sum
  congr 1
  refine List.ext_getElem? fun j => ?_
  rw [List.getElem?_map, List.getElem?_map]
  by_cases hj : j < rows.length
  · rw [List.getElem?_range hj, getD_of (d := []) hj]
    rfl
  · rw [List.getElem?_eq_none (by omega), List.getElem?_eq_none (by rw [List.length_range]; omega)]
    rfl
end DD
namespace DD
/-! ### sums by functions -/
def sN : Nat → (Nat → Int) → Int
  | 0, _ => 0
  | n + 1, f => sN n f + f n
theorem sN_le {f g : Nat → Int} : ∀ {n : Nat}, (∀ k, k < n → f k ≤ g k) → sN n f ≤ sN n g
  | 0, _ => Int.le_refl _
  | n + 1, h => by
    have := sN_le (n := n) fun k hk => h k (by omega)
    have := h n (by omega)
    show sN n f + f n ≤ sN n g + g n
    omega
theorem sN_congr {f g : Nat → Int} : ∀ {n : Nat}, (∀ k, k < n → f k = g k) → sN n f = sN n g
  | 0, _ => rfl
  | n + 1, h => by
    have := sN_congr (n := n) fun k hk => h k (by omega)
    have := h n (by omega)
    show sN n f + f n = sN n g + g n
    omega
theorem sN_add {f g : Nat → Int} : ∀ {n : Nat}, sN n (fun k => f k + g k) = sN n f + sN n g
  | 0 => rfl
  | n + 1 => by
    have := sN_add (f := f) (g := g) (n := n)
    show sN n (fun k => f k + g k) + (f n + g n) = sN n f + f n + (sN n g + g n)
    omega
theorem sN_zero {n : Nat} : sN n (fun _ => 0) = 0 := by
  induction n with
  | zero => rfl
  | succ n ih => show sN n (fun _ => 0) + 0 = 0; omega
theorem sN_range (n : Nat) (f : Nat → Int) : ((List.range n).map f).sum = sN n f := by
  induction n with
  | zero => rfl
  | succ n ih =>
    rw [List.range_succ, List.map_append, List.sum_append, ih]
    simp [sN]
/-- one term changed -/
theorem sN_at {f g : Nat → Int} {k : Nat} : ∀ {n : Nat}, k < n → (∀ j, j ≠ k → f j = g j) → sN n f - f k = sN n g - g k
  | 0, h, _ => absurd h (Nat.not_lt_zero _)
  | n + 1, h, hj => by
    show sN n f + f n - f k = sN n g + g n - g k
    by_cases e : k = n
    · subst e
      have := sN_congr (f := f) (g := g) (n := k) fun j hjk => hj j (by omega)
      omega
    · have := sN_at (f := f) (g := g) (k := k) (n := n) (by omega) hj
      have := hj n (by omega)
      omega
/-- the sum over a set of drawers -/
def sI (m : Nat) (S : Nat → Bool) (f : Nat → Int) : Int := sN m fun j => if S j = true then f j else 0
theorem sI_nn {m : Nat} {S : Nat → Bool} {f : Nat → Int} (h : ∀ j, 0 ≤ f j) : 0 ≤ sI m S f := by
  have := sN_le (n := m) (f := fun _ => 0) (g := fun j => if S j = true then f j else 0) fun k _ => by
    show 0 ≤ if S k = true then f k else 0
    have := h k
    split <;> omega
  rw [sN_zero] at this
  exact this
theorem sI_sub {m : Nat} {S T : Nat → Bool} {f : Nat → Int} (h : ∀ j, 0 ≤ f j) (hs : ∀ j, S j = true → T j = true) : sI m S f ≤ sI m T f := by
  refine sN_le fun k _ => ?_
  show (if S k = true then f k else 0) ≤ if T k = true then f k else 0
  have h0 := h k
  by_cases e : S k = true
  · rw [if_pos e, if_pos (hs k e)]
    exact Int.le_refl _
  · rw [if_neg e]
    split <;> omega
theorem sI_union {m : Nat} {S T : Nat → Bool} {f : Nat → Int} : sI m (fun j => S j || T j) f + sI m (fun j => S j && T j) f = sI m S f + sI m T f := by
  unfold sI
  rw [← sN_add, ← sN_add]
  refine sN_congr fun k _ => ?_
  dsimp only
  by_cases hS : S k = true <;> by_cases hT : T k = true <;> simp [hS, hT]
theorem sI_none {m : Nat} {f : Nat → Int} : sI m (fun _ => false) f = 0 := by
  unfold sI
  exact sN_zero
section
variable (m n : Nat) (X : Nat → Nat → Int) (p : Nat → Int)
/-- the room of a set of drawers under caps -/
def Rm (lf : Nat → Int) (S : Nat → Bool) : Int := sN n fun k => min (sI m S fun j => X j k) (lf k)
def Feas (lf : Nat → Int) : Prop := ∀ S, sI m S p ≤ Rm m n X lf S
def Tight (lf : Nat → Int) (S : Nat → Bool) : Prop := sI m S p = Rm m n X lf S
end
section
variable {m n : Nat} {X : Nat → Nat → Int} {p : Nat → Int} (hX : ∀ j k, 0 ≤ X j k)
theorem rm_sub {lf : Nat → Int} {S T : Nat → Bool} (hX : ∀ j k, 0 ≤ X j k) : Rm m n X lf (fun j => S j || T j) + Rm m n X lf (fun j => S j && T j) ≤ Rm m n X lf S + Rm m n X lf T := by
  unfold Rm
  rw [← sN_add, ← sN_add]
  refine sN_le fun k _ => ?_
  have h1 := sI_union (m := m) (S := S) (T := T) (f := fun j => X j k)
  have h2 := sI_sub (m := m) (S := S) (T := fun j => S j || T j) (f := fun j => X j k) (fun j => hX j k) fun j h => by simp [h]
  have h3 := sI_sub (m := m) (S := T) (T := fun j => S j || T j) (f := fun j => X j k) (fun j => hX j k) fun j h => by simp [h]
  generalize sI m (fun j => S j || T j) (fun j => X j k) = a at *
  generalize sI m (fun j => S j && T j) (fun j => X j k) = b at *
  generalize sI m S (fun j => X j k) = c at *
  generalize sI m T (fun j => X j k) = d at *
  omega
theorem tight_union {lf : Nat → Int} {S T : Nat → Bool} (hX : ∀ j k, 0 ≤ X j k) (hf : Feas m n X p lf) (hS : Tight m n X p lf S) (hT : Tight m n X p lf T) : Tight m n X p lf fun j => S j || T j := by
  have h1 := hf fun j => S j || T j
  have h2 := hf fun j => S j && T j
  have h3 := rm_sub (m := m) (n := n) (lf := lf) (S := S) (T := T) hX
  have h4 := sI_union (m := m) (S := S) (T := T) (f := p)
  unfold Tight at *
  omega
theorem rm_none {lf : Nat → Int} (h : ∀ k, k < n → 0 ≤ lf k) : Rm m n X lf (fun _ => false) = 0 := by
  unfold Rm
  rw [← sN_zero (n := n)]
  refine sN_congr fun k hk => ?_
  rw [sI_none]
  have := h k hk
  omega
theorem rm_mono {lf lf' : Nat → Int} {S : Nat → Bool} (h : ∀ k, k < n → lf' k ≤ lf k) : Rm m n X lf' S ≤ Rm m n X lf S := sN_le fun k hk => by
  have := h k hk
  omega
/-- what a step of the way through the kinds keeps -/
structure Gr (m n : Nat) (X : Nat → Nat → Int) (p r : Nat → Int) (left : Nat → Int) (pd : Int) (j : Nat) (cts lf : Nat → Int) (num : Int) : Prop where
  lf1 : ∀ k, k < n → 0 ≤ lf k ∧ lf k = left k - cts k
  c0 : ∀ k, j ≤ k → cts k = 0
  cb : ∀ k, 0 ≤ cts k ∧ (k < n → cts k ≤ r k)
  nm : num = pd - sN n cts
  n0 : 0 ≤ num
  fe : Feas m n X p lf
  ti : num = 0 ∨ ∃ T, Tight m n X p lf T ∧ ∀ k, k < j → cts k = r k ∨ lf k ≤ sI m T fun i => X i k
theorem Gr.step {r left : Nat → Int} {pd : Int} {j : Nat} {cts lf : Nat → Int} {num v : Int} (hX : ∀ j k, 0 ≤ X j k) (hr : ∀ k, 0 ≤ r k) (hj : j < n) (g : Gr m n X p r left pd j cts lf num)
    (v1 : ∀ S, v ≤ lf j + (Rm m n X (fun k => if k = j then 0 else lf k) S - sI m S p)) (v2 : ∃ S, v = lf j + (Rm m n X (fun k => if k = j then 0 else lf k) S - sI m S p)) :
    Gr m n X p r left pd (j + 1) (fun k => if k = j then min (min num (r j)) v else cts k) (fun k => if k = j then lf j - min (min num (r j)) v else lf k) (num - min (min num (r j)) v) := by
  have hl := g.lf1 j hj
  have hn0 := g.n0
  have hrj := hr j
  have hcj := g.c0 j (Nat.le_refl _)
  -- the room with other caps of this kind
  have rj : ∀ (c : Int) (S : Nat → Bool), Rm m n X (fun k => if k = j then c else lf k) S = Rm m n X (fun k => if k = j then 0 else lf k) S - min (sI m S fun i => X i j) 0 + min (sI m S fun i => X i j) c := fun c S => by
    have := sN_at (n := n) (k := j) (f := fun k => min (sI m S fun i => X i k) (if k = j then c else lf k)) (g := fun k => min (sI m S fun i => X i k) (if k = j then 0 else lf k)) hj fun k hk => by
      simp only [if_neg hk]
    simp only [if_true] at this
    unfold Rm
    dsimp only
    omega
  have r0 : ∀ S, Rm m n X lf S = Rm m n X (fun k => if k = j then 0 else lf k) S - min (sI m S fun i => X i j) 0 + min (sI m S fun i => X i j) (lf j) := fun S => by
    rw [← rj (lf j) S]
    unfold Rm
    refine sN_congr fun k _ => ?_
    dsimp only
    by_cases e : k = j
    · rw [if_pos e, e]
    · rw [if_neg e]
  have cnn : ∀ S, 0 ≤ sI m S fun i => X i j := fun S => sI_nn fun i => hX i j
  -- 0 <= v <= lf j
  have hv0 : 0 ≤ v := by
    obtain ⟨S, e⟩ := v2
    have h1 := g.fe S
    have h2 := r0 S
    have h3 := cnn S
    omega
  have hvl : v ≤ lf j := by
    have h1 := v1 fun _ => false
    rw [rm_none fun k hk => by
      by_cases e : k = j
      · rw [if_pos e]
        exact Int.le_refl _
      · rw [if_neg e]
        exact (g.lf1 k hk).1, sI_none] at h1
    omega
  generalize hc : min (min num (r j)) v = c
  have hc0 : 0 ≤ c := by omega
  have fe : Feas m n X p (fun k => if k = j then lf j - c else lf k) := fun S => by
    have h1 := g.fe S
    have h2 := r0 S
    have h3 := rj (lf j - c) S
    have h4 := v1 S
    have h5 := cnn S
    omega
  refine ⟨fun k hk => ?_, fun k hk => ?_, fun k => ?_, ?_, by omega, fe, ?_⟩
  · by_cases e : k = j
    · subst e
      simp only [if_true]
      omega
    · simp only [if_neg e]
      exact g.lf1 k hk
  · rw [if_neg (by omega)]
    exact g.c0 k (by omega)
  · by_cases e : k = j
    · rw [if_pos e]
      exact ⟨hc0, fun _ => by rw [e]; omega⟩
    · rw [if_neg e]
      exact g.cb k
  · have := sN_at (n := n) (k := j) (f := fun k => if k = j then c else cts k) (g := cts) hj fun k hk => if_neg hk
    simp only [if_true] at this
    have := g.nm
    omega
  · by_cases hz : num - c = 0
    · exact .inl hz
    · refine .inr ?_
      have hnz : num ≠ 0 := fun e => by omega
      obtain ⟨T, hT, hk⟩ := g.ti.resolve_left hnz
      -- tight sets stay tight
      have keep : ∀ S, Tight m n X p lf S → Tight m n X p (fun k => if k = j then lf j - c else lf k) S := fun S hS => by
        have h1 := fe S
        have h2 := rm_mono (m := m) (n := n) (X := X) (lf := lf) (lf' := fun k => if k = j then lf j - c else lf k) (S := S) fun k _ => by
          by_cases e : k = j
          · subst e
            simp only [if_true]
            omega
          · simp only [if_neg e]
            exact Int.le_refl _
        unfold Tight at *
        omega
      by_cases hcr : c = r j
      · refine ⟨T, keep T hT, fun k hkj => ?_⟩
        by_cases e : k = j
        · subst e
          simp only [if_true]
          exact .inl hcr
        · simp only [if_neg e]
          exact hk k (by omega)
      · have hcv : c = v := by omega
        obtain ⟨S, eS⟩ := v2
        have h3 := rj (lf j - c) S
        have h5 := cnn S
        have h1 := fe S
        have tS : Tight m n X p (fun k => if k = j then lf j - c else lf k) S := by
          unfold Tight
          omega
        have lS : lf j - c ≤ sI m S fun i => X i j := by omega
        refine ⟨_, tight_union hX fe (keep T hT) tS, fun k hkj => ?_⟩
        have hTU := fun i => sI_sub (m := m) (S := T) (T := fun j => T j || S j) (f := fun j => X j i) (fun j => hX j i) fun j h => by simp [h]
        have hSU := fun i => sI_sub (m := m) (S := S) (T := fun j => T j || S j) (f := fun j => X j i) (fun j => hX j i) fun j h => by simp [h]
        by_cases e : k = j
        · subst e
          simp only [if_true]
          exact .inr (Int.le_trans lS (hSU k))
        · simp only [if_neg e]
          rcases hk k (by omega) with h | h
          · exact .inl h
          · exact .inr (Int.le_trans h (hTU k))
/-- at the end nothing is wanted any more -/
theorem Gr.done {r left : Nat → Int} {pd : Int} {cts lf : Nat → Int} {num : Int} (g : Gr m n X p r left pd n cts lf num)
    (h : ∀ S, sI m S p + pd ≤ sN n fun k => min ((sI m S fun j => X j k) + r k) (left k)) : num = 0 := by
  rcases g.ti with e | ⟨T, hT, hk⟩
  · exact e
  · have h1 := h T
    have h2 : (sN n fun k => min ((sI m T fun j => X j k) + r k) (left k)) ≤ sN n fun k => min (sI m T fun j => X j k) (lf k) + cts k := sN_le fun k hkn => by
      have h3 := g.lf1 k hkn
      have h4 := (g.cb k).2 hkn
      rcases hk k hkn with e | e <;> omega
    rw [sN_add] at h2
    have h5 := g.nm
    have h6 := g.n0
    unfold Tight Rm at hT
    omega
theorem Gr.start {r left : Nat → Int} {pd : Int} (hl : ∀ k, k < n → 0 ≤ left k) (hr : ∀ k, 0 ≤ r k) (hp : 0 ≤ pd) (hf : Feas m n X p left) : Gr m n X p r left pd 0 (fun _ => 0) left pd := by
  refine ⟨fun k hk => ⟨hl k hk, by omega⟩, fun _ _ => rfl, fun k => ⟨Int.le_refl _, fun _ => hr k⟩, ?_, hp, hf, .inr ⟨fun _ => false, ?_, fun k hk => absurd hk (Nat.not_lt_zero _)⟩⟩
  · rw [sN_zero]
    omega
  · unfold Tight
    rw [sI_none, rm_none hl]
end
end DD
namespace DD
open PySem PySem.Spec PyProof.Rows L2 RZ DM
theorem filt_mem (S : Nat → Bool) : ∀ m, (List.range m).filter S ∈ pSets m
  | 0 => List.mem_singleton.mpr rfl
  | m + 1 => by
    rw [List.range_succ, List.filter_append]
    have ih := filt_mem S m
    show _ ∈ pSets m ++ (pSets m).map fun s => s ++ [m]
    by_cases h : S m = true
    · have e : [m].filter S = [m] := by simp [h]
      rw [e]
      exact List.mem_append_right _ (List.mem_map.mpr ⟨_, ih, rfl⟩)
    · have e : [m].filter S = [] := by simp [h]
      rw [e, List.append_nil]
      exact List.mem_append_left _ ih
theorem pset_filt : ∀ {m : Nat} {d : List Nat}, d ∈ pSets m → d = (List.range m).filter fun j => d.contains j
  | 0, d, h => by
    rw [List.mem_singleton.mp h]
    rfl
  | m + 1, d, h => by
    rw [List.range_succ, List.filter_append]
    rcases List.mem_append.mp (show d ∈ pSets m ++ (pSets m).map fun s => s ++ [m] from h) with h | h
    · have ih := pset_filt h
      have hm : d.contains m = false := by
        rw [List.contains_eq_mem]
        exact decide_eq_false fun z => absurd ((ps_bd h).2.2 m z) (Nat.lt_irrefl _)
      have e : [m].filter (fun j => d.contains j) = [] := by simp [hm] at *; exact hm
      rw [e, List.append_nil]
      exact ih
    · obtain ⟨s, hs, rfl⟩ := List.mem_map.mp h
      have ih := pset_filt hs
      have e : [m].filter (fun j => (s ++ [m]).contains j) = [m] := by simp
      rw [e]
      congr 1
      conv => lhs; rw [ih]
      refine List.filter_congr fun j hj => ?_
      have hj := List.mem_range.mp hj
      have hne : j ≠ m := by omega
      simp [hne]
theorem filt_sum {m : Nat} {S : Nat → Bool} {f : Nat → Int} : (((List.range m).filter S).map f).sum = sI m S f := by
  induction m with
  | zero => rfl
  | succ m ih =>
    rw [List.range_succ, List.filter_append, List.map_append, List.sum_append, ih]
    show _ = sI m S f + if S m = true then f m else 0
    by_cases h : S m = true
    · have e : [m].filter S = [m] := by simp [h]
      rw [e, if_pos h]
      simp
    · have e : [m].filter S = [] := by simp [h]
      rw [e, if_neg h]
      rfl
theorem pset_sum {m : Nat} {d : List Nat} {f : Nat → Int} (h : d ∈ pSets m) : (d.map f).sum = sI m (fun j => d.contains j) f := by
  conv => lhs; rw [pset_filt h]
  exact filt_sum
def cel (rows : List (List Int)) (j k : Nat) : Int := (rows.getD j []).getD k 0
def plF (ps : List Int) (j : Nat) : Int := ps.getD j 0
def lfF (l : List Int) (k : Nat) : Int := l.getD k 0
theorem capv_min (t c : Int) : capv t (some c) = min t c := by
  show (if c < t then c else t) = _
  omega
/-- a set's spare, by functions -/
theorem spare_fun {rows : List (List Int)} {ps : List Int} {n : Nat} {left : List Int} {kd : Nat} (hl : left.length = n) (hk : kd < n) (h0 : ∀ k, 0 ≤ lfF left k) {d : List Nat} (hd : d ∈ pSets rows.length) :
    spareAt rows ps n left kd d = Rm rows.length n (cel rows) (fun k => if k = kd then 0 else lfF left k) (fun j => d.contains j) - sI rows.length (fun j => d.contains j) (plF ps) := by
  have hc : ((left.set kd 0).map some).length = n := by rw [List.length_map, List.length_set, hl]
  have gd : ∀ k, k < n → ((left.set kd 0).map some).getD k none = some (if k = kd then 0 else lfF left k) := fun k hkn => by
    have e := setD (pl := left) (j := kd) (i := k) (v := 0) (by omega)
    rw [List.getD_eq_getElem?_getD, List.getElem?_map, getD_of (d := 0) (show k < (left.set kd 0).length by rw [List.length_set]; omega), e]
    show some _ = some _
    by_cases z : k = kd
    · rw [if_pos z, if_pos z.symm]
    · rw [if_neg z, if_neg fun q => z q.symm]
      rfl
  have hn0 : ∀ c, some c ∈ (left.set kd 0).map some → 0 ≤ c := fun c hc2 => by
    obtain ⟨k, hkk⟩ := List.mem_iff_getElem?.mp hc2
    have hkn : k < n := by
      have := (List.getElem?_eq_some_iff.mp hkk).1
      omega
    have e := gd k hkn
    rw [List.getD_eq_getElem?_getD, hkk] at e
    have e : c = if k = kd then 0 else lfF left k := Option.some.inj e
    have := h0 k
    rw [e]
    split <;> omega
  show roomS rows n ((left.set kd 0).map some) d - takenOf ps d = _
  rw [roomS_eq hc hn0, sN_range]
  congr 1
  · unfold Rm
    refine sN_congr fun k hkn => ?_
    unfold rk
    rw [gd k hkn, capv_min]
    congr 1
    exact pset_sum hd
  · exact pset_sum hd
theorem spareV_ok {rows : List (List Int)} {ps : List Int} {n : Nat} {left : List Int} {kd : Nat} (hl : left.length = n) (hk : kd < n) (h0 : ∀ k, 0 ≤ lfF left k) :
    (∀ S, spareV rows ps n left kd (pSets rows.length) ≤ lfF left kd + (Rm rows.length n (cel rows) (fun k => if k = kd then 0 else lfF left k) S - sI rows.length S (plF ps))) ∧
    ∃ S, spareV rows ps n left kd (pSets rows.length) = lfF left kd + (Rm rows.length n (cel rows) (fun k => if k = kd then 0 else lfF left k) S - sI rows.length S (plF ps)) := by
  have hne : (pSets rows.length).map (spareAt rows ps n left kd) ≠ [] := fun e => ps_ne _ (List.map_eq_nil_iff.mp e)
  obtain ⟨m, hm⟩ : ∃ m, ((pSets rows.length).map (spareAt rows ps n left kd)).min? = some m := by
    cases e : ((pSets rows.length).map (spareAt rows ps n left kd)).min? with
    | none => exact absurd (List.min?_eq_none_iff.mp e) hne
    | some m => exact ⟨m, rfl⟩
  obtain ⟨h1, h2⟩ := List.min?_eq_some_iff.mp hm
  have hv : spareV rows ps n left kd (pSets rows.length) = lfF left kd + m := by
    unfold spareV
    rw [hm]
    rfl
  refine ⟨fun S => ?_, ?_⟩
  · have hS := filt_mem S rows.length
    have h3 := h2 _ (List.mem_map_of_mem (f := spareAt rows ps n left kd) hS)
    rw [spare_fun hl hk h0 hS] at h3
    have e : ∀ f : Nat → Int, sI rows.length (fun j => ((List.range rows.length).filter S).contains j) f = sI rows.length S f := fun f => by
      rw [← pset_sum hS, filt_sum]
    have e2 : Rm rows.length n (cel rows) (fun k => if k = kd then 0 else lfF left k) (fun j => ((List.range rows.length).filter S).contains j) = Rm rows.length n (cel rows) (fun k => if k = kd then 0 else lfF left k) S := by
      unfold Rm
      exact sN_congr fun k _ => by rw [e]
    rw [e, e2] at h3
    rw [hv]
    omega
  · obtain ⟨d, hd, e⟩ := List.mem_map.mp h1
    refine ⟨fun j => d.contains j, ?_⟩
    rw [hv, ← spare_fun hl hk h0 hd, e]
theorem snocD {l : List Int} {j : Nat} {c : Int} (h : l.length = j) : lfF (l ++ [c]) = fun k => if k = j then c else lfF l k := funext fun k => by
  unfold lfF
  rw [List.getD_eq_getElem?_getD]
  by_cases e : k = j
  · rw [if_pos e, e, ← h, List.getElem?_append_right (Nat.le_refl _), Nat.sub_self]
    rfl
  · rw [if_neg e, List.getD_eq_getElem?_getD]
    by_cases hk : k < l.length
    · rw [List.getElem?_append_left hk]
    · rw [List.getElem?_eq_none (by rw [List.length_append]; simp only [List.length_cons, List.length_nil]; omega), List.getElem?_eq_none (by omega)]
theorem setF {l : List Int} {j : Nat} {v : Int} (h : j < l.length) : lfF (l.set j v) = fun k => if k = j then v else lfF l k := funext fun k => by
  unfold lfF
  rw [setD h]
  by_cases e : k = j
  · rw [if_pos e, if_pos e.symm]
  · rw [if_neg e, if_neg fun z => e z.symm]
/-- one drawer: the way through the kinds -/
theorem gSt_gr {rows : List (List Int)} {ps : List Int} {n : Nat} {dr left : List Int} {pd : Int} (hX : ∀ r ∈ rows, ∀ x ∈ r, 0 ≤ x) (hr : ∀ k, 0 ≤ lfF dr k) (hll : left.length = n) (hl : ∀ k, k < n → 0 ≤ lfF left k) (hp : 0 ≤ pd)
    (hf : Feas rows.length n (cel rows) (plF ps) (lfF left)) : ∀ j, j ≤ n →
    Gr rows.length n (cel rows) (plF ps) (lfF dr) (lfF left) pd j (lfF (gSt rows ps n (pSets rows.length) dr left pd j).1) (lfF (gSt rows ps n (pSets rows.length) dr left pd j).2.1) (gSt rows ps n (pSets rows.length) dr left pd j).2.2
  | 0, _ => by
    have e : lfF (gSt rows ps n (pSets rows.length) dr left pd 0).1 = fun _ => 0 := funext fun k => rfl
    rw [e]
    exact Gr.start hl hr hp hf
  | j + 1, hj => by
    have g := gSt_gr hX hr hll hl hp hf j (by omega)
    obtain ⟨l1, l2⟩ := gSt_len rows ps n (pSets rows.length) dr left pd j
    rw [gSt_succ]
    generalize gSt rows ps n (pSets rows.length) dr left pd j = s at g l1 l2 ⊢
    obtain ⟨cts, lf, num⟩ := s
    have hlf : lf.length = n := l2.trans hll
    have h0 : ∀ k, 0 ≤ lfF lf k := fun k => by
      by_cases hk : k < n
      · exact (g.lf1 k hk).1
      · unfold lfF
        rw [List.getD_eq_getElem?_getD, List.getElem?_eq_none (by omega)]
        exact Int.le_refl _
    obtain ⟨v1, v2⟩ := spareV_ok (rows := rows) (ps := ps) (n := n) (left := lf) (kd := j) hlf (by omega) h0
    have := g.step (fun j k => cell_nn hX j k) hr (by omega) v1 v2
    show Gr _ _ _ _ _ _ _ _ (lfF (cts ++ [_])) (lfF (lf.set j _)) _
    rw [snocD l1, setF (by omega)]
    exact this
end DD
namespace DD
open PySem PySem.Spec PyProof.Rows L2 RZ DM
theorem sN_head {f : Nat → Int} : ∀ {m : Nat}, sN (m + 1) f = f 0 + sN m fun j => f (j + 1)
  | 0 => by show 0 + f 0 = f 0 + 0; omega
  | m + 1 => by
    have := sN_head (f := f) (m := m)
    show sN (m + 1) f + f (m + 1) = f 0 + (sN m (fun j => f (j + 1)) + f (m + 1))
    omega
theorem sI_head {S : Nat → Bool} {f : Nat → Int} {m : Nat} : sI (m + 1) S f = (if S 0 = true then f 0 else 0) + sI m (fun j => S (j + 1)) fun j => f (j + 1) := by
  unfold sI
  exact sN_head
/-- a drawer with one more set in front -/
def consS (b : Bool) (S : Nat → Bool) : Nat → Bool
  | 0 => b
  | j + 1 => S j
theorem feas_tail {m n : Nat} {X : Nat → Nat → Int} {p lf : Nat → Int} (h : Feas (m + 1) n X p lf) : Feas m n (fun j k => X (j + 1) k) (fun j => p (j + 1)) lf := fun S => by
  have := h (consS false S)
  unfold Rm at this
  rw [sI_head] at this
  have e : (sN n fun k => min (sI (m + 1) (consS false S) fun j => X j k) (lf k)) = sN n fun k => min (sI m S fun j => X (j + 1) k) (lf k) := sN_congr fun k _ => by
    rw [sI_head]
    show min ((if false = true then _ else 0) + sI m S fun j => X (j + 1) k) (lf k) = _
    rw [if_neg (by decide), Int.zero_add]
  rw [e] at this
  have e2 : (if consS false S 0 = true then p 0 else 0) = 0 := rfl
  rw [e2, Int.zero_add] at this
  exact this
theorem feas_head {m n : Nat} {X : Nat → Nat → Int} {p lf : Nat → Int} (h : Feas (m + 1) n X p lf) (S : Nat → Bool) : (sI m S fun j => p (j + 1)) + p 0 ≤ sN n fun k => min ((sI m S fun j => X (j + 1) k) + X 0 k) (lf k) := by
  have := h (consS true S)
  unfold Rm at this
  rw [sI_head] at this
  have e : (sN n fun k => min (sI (m + 1) (consS true S) fun j => X j k) (lf k)) = sN n fun k => min ((sI m S fun j => X (j + 1) k) + X 0 k) (lf k) := sN_congr fun k _ => by
    rw [sI_head]
    show min ((if true = true then X 0 k else 0) + sI m S fun j => X (j + 1) k) (lf k) = _
    rw [if_pos rfl, Int.add_comm]
  rw [e] at this
  have e2 : (if consS true S 0 = true then p 0 else 0) = p 0 := rfl
  rw [e2] at this
  show sI m S (fun j => p (j + 1)) + p 0 ≤ _
  have e3 : (sI m (fun j => consS true S (j + 1)) fun j => p (j + 1)) = sI m S fun j => p (j + 1) := rfl
  omega
theorem cel_drop (rows : List (List Int)) (q j k : Nat) : cel (rows.drop q) j k = cel rows (q + j) k := by
  unfold cel
  rw [List.getD_eq_getElem?_getD (l := rows.drop q), List.getElem?_drop, ← List.getD_eq_getElem?_getD]
theorem plF_drop (ps : List Int) (q j : Nat) : plF (ps.drop q) j = plF ps (q + j) := by
  unfold plF
  rw [List.getD_eq_getElem?_getD, List.getElem?_drop, ← List.getD_eq_getElem?_getD]
theorem feas_congr {m n : Nat} {X Y : Nat → Nat → Int} {p q lf : Nat → Int} (h : Feas m n X p lf) (e1 : ∀ j k, X j k = Y j k) (e2 : ∀ j, p j = q j) : Feas m n Y q lf := by
  have a : X = Y := funext fun j => funext fun k => e1 j k
  have b : p = q := funext e2
  rw [← a, ← b]
  exact h
/-- one drawer's counts within the caps -/
structure Dr (r : List Int) (n : Nat) (pd : Int) (cts : List Int) : Prop where
  len : cts.length = n
  bd : ∀ k, 0 ≤ lfF cts k ∧ (k < n → lfF cts k ≤ lfF r k)
  sum : cts.sum = pd
theorem sum_lfF {l : List Int} {n : Nat} (h : l.length = n) : l.sum = sN n (lfF l) := by
  rw [← sN_range]
  congr 1
  refine List.ext_getElem? fun i => ?_
  rw [List.getElem?_map]
  by_cases hi : i < n
  · rw [List.getElem?_range hi, getD_of (d := 0) (by omega)]
    rfl
  · rw [List.getElem?_eq_none (by omega), List.getElem?_eq_none (by rw [List.length_range]; omega)]
    rfl
/-- the state after q drawers -/
structure Wi (rows : List (List Int)) (ps : List Int) (n : Nat) (l0 : List Int) (q : Nat) (D : List (List Int)) (lf : List Int) : Prop where
  dl : D.length = q
  ll : lf.length = n
  dr : ∀ j, j < q → Dr (rows.getD j []) n (plF ps j) (D.getD j [])
  lf0 : ∀ k, k < n → 0 ≤ lfF lf k ∧ lfF lf k = lfF l0 k - sN q fun j => cel D j k
  fe : Feas (rows.length - q) n (fun j k => cel rows (q + j) k) (fun j => plF ps (q + j)) (lfF lf)
theorem wSt_ok {rows : List (List Int)} {ps : List Int} {n : Nat} {l0 : List Int} (hX : ∀ r ∈ rows, ∀ x ∈ r, 0 ≤ x) (hp : ∀ j, 0 ≤ plF ps j) (hll : l0.length = n) (hl : ∀ k, k < n → 0 ≤ lfF l0 k)
    (hf : Feas rows.length n (cel rows) (plF ps) (lfF l0)) : ∀ q, q ≤ rows.length → Wi rows ps n l0 q (wSt rows ps n l0 q).1 (wSt rows ps n l0 q).2
  | 0, _ => ⟨rfl, hll, fun j h => absurd h (Nat.not_lt_zero _), fun k hk => ⟨hl k hk, by show lfF l0 k = lfF l0 k - 0; omega⟩, feas_congr hf (fun j k => by rw [Nat.zero_add]) fun j => by rw [Nat.zero_add]⟩
  | q + 1, hq => by
    have w := wSt_ok hX hp hll hl hf q (by omega)
    generalize hs : wSt rows ps n l0 q = s at w
    obtain ⟨D, lf⟩ := s
    have e1 : wSt rows ps n l0 (q + 1) = (D ++ [(gSt (rows.drop (q + 1)) (ps.drop (q + 1)) n (pSets (rows.length - (q + 1))) (rows.getD q []) lf (ps.getD q 0) n).1], (gSt (rows.drop (q + 1)) (ps.drop (q + 1)) n (pSets (rows.length - (q + 1))) (rows.getD q []) lf (ps.getD q 0) n).2.1) := by
      show ((wSt rows ps n l0 q).1 ++ _, _) = _
      rw [hs]
    rw [e1]
    have hm : rows.length - q = (rows.length - (q + 1)) + 1 := by omega
    have fe := w.fe
    rw [hm] at fe
    have ft := feas_tail fe
    have hdl : (rows.drop (q + 1)).length = rows.length - (q + 1) := List.length_drop
    have ft2 : Feas (rows.drop (q + 1)).length n (cel (rows.drop (q + 1))) (plF (ps.drop (q + 1))) (lfF lf) := by
      rw [hdl]
      exact feas_congr ft (fun j k => by rw [cel_drop]; congr 1; omega) fun j => by rw [plF_drop]; congr 1; omega
    have hrq : ∀ k, 0 ≤ lfF (rows.getD q []) k := fun k => cell_nn hX q k
    have g := gSt_gr (rows := rows.drop (q + 1)) (ps := ps.drop (q + 1)) (n := n) (dr := rows.getD q []) (left := lf) (pd := ps.getD q 0) (fun r hr x hx => hX r (List.mem_of_mem_drop hr) x hx) hrq w.ll (fun k hk => (w.lf0 k hk).1) (hp q) ft2 n (Nat.le_refl _)
    obtain ⟨l1, l2⟩ := gSt_len (rows.drop (q + 1)) (ps.drop (q + 1)) n (pSets (rows.length - (q + 1))) (rows.getD q []) lf (ps.getD q 0) n
    rw [hdl] at g
    generalize gSt (rows.drop (q + 1)) (ps.drop (q + 1)) n (pSets (rows.length - (q + 1))) (rows.getD q []) lf (ps.getD q 0) n = s at g l1 l2 ⊢
    obtain ⟨cts, lf', num⟩ := s
    have l1 : cts.length = n := l1
    have hnum : num = 0 := g.done fun S => by
      have h := feas_head fe S
      have a1 : (sI (rows.length - (q + 1)) S (plF (ps.drop (q + 1)))) = sI (rows.length - (q + 1)) S fun j => plF ps (q + (j + 1)) := by
        congr 1
        exact funext fun j => by rw [plF_drop]; congr 1; omega
      have a2 : (sN n fun k => min ((sI (rows.length - (q + 1)) S fun j => cel (rows.drop (q + 1)) j k) + lfF (rows.getD q []) k) (lfF lf k)) = sN n fun k => min ((sI (rows.length - (q + 1)) S fun j => cel rows (q + (j + 1)) k) + cel rows (q + 0) k) (lfF lf k) := by
        refine sN_congr fun k _ => ?_
        have b1 : (sI (rows.length - (q + 1)) S fun j => cel (rows.drop (q + 1)) j k) = sI (rows.length - (q + 1)) S fun j => cel rows (q + (j + 1)) k := by
          congr 1
          exact funext fun j => by rw [cel_drop]; congr 1; omega
        rw [b1]
        rfl
      rw [a1, a2]
      exact h
    have hsum : cts.sum = ps.getD q 0 := by
      have := g.nm
      rw [sum_lfF l1]
      have h2 : num = ps.getD q 0 - sN n (lfF cts) := this
      omega
    have gD : ∀ j, (D ++ [cts]).getD j [] = if j = q then cts else D.getD j [] := fun j => by
      rw [List.getD_eq_getElem?_getD]
      by_cases e : j = q
      · rw [if_pos e, e, ← w.dl, List.getElem?_append_right (Nat.le_refl _), Nat.sub_self]
        rfl
      · rw [if_neg e, List.getD_eq_getElem?_getD]
        by_cases hj : j < D.length
        · rw [List.getElem?_append_left hj]
        · have wdl : D.length = q := w.dl
          rw [List.getElem?_eq_none (by rw [List.length_append]; simp only [List.length_cons, List.length_nil]; omega), List.getElem?_eq_none (by omega)]
    refine ⟨by rw [List.length_append, w.dl]; rfl, l2.trans w.ll, fun j hj => ?_, fun k hk => ?_, ?_⟩
    · rw [gD]
      by_cases e : j = q
      · rw [if_pos e, e]
        exact ⟨l1, fun k => g.cb k, hsum⟩
      · rw [if_neg e]
        exact w.dr j (by omega)
    · have h1 := g.lf1 k hk
      have h2 : 0 ≤ lfF lf k ∧ lfF lf k = lfF l0 k - sN q fun j => cel D j k := w.lf0 k hk
      refine ⟨h1.1, ?_⟩
      have e2 : (sN (q + 1) fun j => cel (D ++ [cts]) j k) = (sN q fun j => cel D j k) + lfF cts k := by
        show (sN q fun j => cel (D ++ [cts]) j k) + cel (D ++ [cts]) q k = _
        have c1 : cel (D ++ [cts]) q k = lfF cts k := by
          unfold cel
          rw [gD, if_pos rfl]
          rfl
        rw [c1]
        congr 1
        refine sN_congr fun j hj => ?_
        unfold cel
        rw [gD, if_neg (by omega)]
      rw [e2]
      have := h1.2
      show lfF lf' k = _
      have h3 : lfF lf' k = lfF lf k - lfF cts k := h1.2
      omega
    · have fe2 : Feas (rows.length - (q + 1)) n (cel (rows.drop (q + 1))) (plF (ps.drop (q + 1))) (lfF lf') := g.fe
      exact feas_congr fe2 (fun j k => by rw [cel_drop]) fun j => by rw [plF_drop]
end DD
namespace DD
open PySem PySem.Spec PyProof.Rows L2 RZ DM
theorem caps_nn {ws : List (List Int)} {s : List Int} {n : Nat} (hs : s ∈ spOf ws) : ∀ c, some c ∈ capsOf ws s n → 0 ≤ c := fun c hc => by
  obtain ⟨k, _, e⟩ := List.mem_map.mp hc
  exact cap_nn hs e
/-- a draw of a plan -/
structure IsDr (rows : List (List Int)) (ps : List Int) (n : Nat) (D : List (List Int)) : Prop where
  len : D.length = rows.length
  dr : ∀ j, j < rows.length → Dr (rows.getD j []) n (plF ps j) (D.getD j [])
theorem tot_fun {D : List (List Int)} {n k : Nat} (h : k < n) : (totalsOf D n).getD k 0 = sN D.length fun j => cel D j k := by
  rw [tot_colS, List.getD_eq_getElem?_getD, List.getElem?_map, List.getElem?_range h]
  show ((List.range D.length).map fun j => (D.getD j []).getD k 0).sum = _
  rw [sN_range]
  rfl
theorem left0_get {rows : List (List Int)} {n k : Nat} {cs : List (Option Int)} (hc : cs.length = n) (h : k < n) : lfF (left0 rows n cs) k = capl ((totalsOf rows n).getD k 0) (cs.getD k none) := by
  unfold lfF left0
  rw [List.getD_eq_getElem?_getD, List.getElem?_zipWith, getD_of (d := 0) (show k < (totalsOf rows n).length by rw [tot_len]; exact h), getD_of (d := none) (show k < cs.length by omega)]
  rfl
theorem left0_len {rows : List (List Int)} {n : Nat} {cs : List (Option Int)} (hc : cs.length = n) : (left0 rows n cs).length = n := by
  unfold left0
  rw [List.length_zipWith, tot_len]
  omega
theorem sI_full {m : Nat} {f : Nat → Int} : sI m (fun _ => true) f = sN m f := by
  unfold sI
  exact sN_congr fun k _ => if_pos rfl
theorem drawOf_ok {rows : List (List Int)} {ps : List Int} {n : Nat} {cs : List (Option Int)} (hX : ∀ r ∈ rows, ∀ x ∈ r, 0 ≤ x) (hp : ∀ j, 0 ≤ plF ps j) (hc : cs.length = n) (h0 : ∀ c, some c ∈ cs → 0 ≤ c)
    (hov : ∀ d ∈ pSets rows.length, ovB rows ps n cs d = false) : IsDr rows ps n (drawOf rows ps n cs) ∧ ∀ k, k < n → (sN rows.length fun j => cel (drawOf rows ps n cs) j k) ≤ lfF (left0 rows n cs) k := by
  have capnn : ∀ k c, cs.getD k none = some c → 0 ≤ c := fun k c e => by
    rw [List.getD_eq_getElem?_getD] at e
    cases e2 : cs[k]? with
    | none => rw [e2] at e; cases e
    | some o =>
      rw [e2] at e
      have e : o = some c := e
      rw [e] at e2
      exact h0 c (List.mem_of_getElem? e2)
  have tnn : ∀ k, 0 ≤ sN rows.length fun j => cel rows j k := fun k => by
    rw [← sI_full]
    exact sI_nn fun j => cell_nn hX j k
  have hl0 : ∀ k, k < n → 0 ≤ lfF (left0 rows n cs) k := fun k hk => by
    rw [left0_get hc hk, tot_fun hk]
    cases e : cs.getD k none with
    | none => exact tnn k
    | some c => exact capnn k c e
  have hf : Feas rows.length n (cel rows) (plF ps) (lfF (left0 rows n cs)) := fun S => by
    have hS := filt_mem S rows.length
    have h1 : decide (takenOf ps ((List.range rows.length).filter S) > roomS rows n cs ((List.range rows.length).filter S)) = false := hov _ hS
    have h1 := of_decide_eq_false h1
    have e1 : takenOf ps ((List.range rows.length).filter S) = sI rows.length S (plF ps) := filt_sum
    rw [e1, roomS_eq hc h0, sN_range] at h1
    have h2 : sN n (rk rows cs ((List.range rows.length).filter S)) ≤ Rm rows.length n (cel rows) (lfF (left0 rows n cs)) S := sN_le fun k hk => by
      have e2 : colS rows ((List.range rows.length).filter S) k = sI rows.length S fun j => cel rows j k := filt_sum
      unfold rk
      rw [e2, left0_get hc hk, tot_fun hk]
      cases e : cs.getD k none with
      | none =>
        show sI rows.length S (fun j => cel rows j k) ≤ min _ (sN rows.length fun j => cel rows j k)
        have := sI_sub (m := rows.length) (S := S) (T := fun _ => true) (f := fun j => cel rows j k) (fun j => cell_nn hX j k) fun _ _ => rfl
        rw [sI_full] at this
        omega
      | some c =>
        rw [capv_min]
        exact Int.le_refl _
    omega
  have w := wSt_ok hX hp (left0_len hc) hl0 hf rows.length (Nat.le_refl _)
  refine ⟨⟨w.dl, w.dr⟩, fun k hk => ?_⟩
  have h3 := w.lf0 k hk
  show (sN rows.length fun j => cel (wSt rows ps n (left0 rows n cs) rows.length).1 j k) ≤ _
  omega
/-- a draw within the caps of a spoiling fulfils nothing -/
theorem kept_draw {rows ws : List (List Int)} {D : List (List Int)} {n : Nat} {s : List Int} (hD : D.length = rows.length) (h : ∀ k, k < n → (sN rows.length fun j => cel D j k) ≤ lfF (left0 rows n (capsOf ws s n)) k) : keptB (capsOf ws s n) (totalsOf D n) = true :=
  kept_iff.mpr fun i v x e1 e2 => by
    have hin : i < n := by
      have := (List.getElem?_eq_some_iff.mp e1).1
      rw [caps_len] at this
      exact this
    have h1 := h i hin
    rw [left0_get (caps_len _ _ _) hin] at h1
    have e3 : (capsOf ws s n).getD i none = some v := by
      rw [List.getD_eq_getElem?_getD, e1]
      rfl
    have e4 : (totalsOf D n).getD i 0 = x := by
      rw [List.getD_eq_getElem?_getD, e2]
      rfl
    rw [e3] at h1
    rw [tot_fun hin, hD] at e4
    have h1 : (sN rows.length fun j => cel D j i) ≤ v := h1
    omega
theorem sI_swap {m n : Nat} {S : Nat → Bool} {F : Nat → Nat → Int} : sI m S (fun j => sN n (F j)) = sN n fun k => sI m S fun j => F j k := by
  induction m with
  | zero => exact sN_zero.symm
  | succ m ih =>
    show sI m S (fun j => sN n (F j)) + (if S m = true then sN n (F m) else 0) = sN n fun k => (sI m S fun j => F j k) + if S m = true then F m k else 0
    rw [ih, sN_add]
    congr 1
    by_cases h : S m = true
    · rw [if_pos h]
      exact sN_congr fun k _ => (if_pos h).symm
    · rw [if_neg h]
      exact (sN_zero (n := n)).symm.trans (sN_congr fun k _ => (if_neg h).symm)
theorem dr_tot_nn {rows : List (List Int)} {ps : List Int} {n : Nat} {D : List (List Int)} (d : IsDr rows ps n D) : ∀ x ∈ totalsOf D n, 0 ≤ x := fun x hx => by
  obtain ⟨k, hk⟩ := List.mem_iff_getElem?.mp hx
  have hkn : k < n := by
    have := (List.getElem?_eq_some_iff.mp hk).1
    rw [tot_len] at this
    exact this
  have e : (totalsOf D n).getD k 0 = x := by
    rw [List.getD_eq_getElem?_getD, hk]
    rfl
  rw [← e, tot_fun hkn]
  have := sN_le (n := D.length) (f := fun _ => 0) (g := fun j => cel D j k) fun j hj => ((d.dr j (by rw [← d.len]; exact hj)).bd k).1
  rw [sN_zero] at this
  exact this
/-- a table excludes every draw -/
theorem tab_draw {rows ws : List (List Int)} {ps : List Int} {n : Nat} {D : List (List Int)} (hX : ∀ r ∈ rows, ∀ x ∈ r, 0 ≤ x) (hg : ∀ r ∈ ws, r.length = n) (ht : tabB rows ws ps n = true) (d : IsDr rows ps n D) : fulOf ws (totalsOf D n) ≠ none := fun hf => by
  obtain ⟨s, hs, hk⟩ := (ful_kept hg (tot_len _ _) (dr_tot_nn d)).mp hf
  have hk := kept_iff.mp hk
  obtain ⟨S, hS, ho⟩ := List.any_eq_true.mp (List.all_eq_true.mp ht s hs)
  have ho : decide (takenOf ps S > roomS rows n (capsOf ws s n) S) = true := ho
  have ho := of_decide_eq_true ho
  rw [roomS_eq (caps_len _ _ _) (caps_nn hs), sN_range] at ho
  have hSm := (ps_bd hS).2.2
  have e1 : takenOf ps S = sI rows.length (fun j => S.contains j) (plF ps) := pset_sum hS
  have e2 : sI rows.length (fun j => S.contains j) (plF ps) = sI rows.length (fun j => S.contains j) fun j => sN n (lfF (D.getD j [])) := by
    unfold sI
    refine sN_congr fun j hj => ?_
    have := d.dr j hj
    rw [← this.sum, sum_lfF this.len]
  rw [e1, e2, sI_swap] at ho
  have h1 : (sN n fun k => sI rows.length (fun j => S.contains j) fun j => lfF (D.getD j []) k) ≤ sN n (rk rows (capsOf ws s n) S) := sN_le fun k hkn => by
    have e3 : colS rows S k = sI rows.length (fun j => S.contains j) fun j => cel rows j k := pset_sum hS
    unfold rk
    rw [e3]
    have h2 : (sI rows.length (fun j => S.contains j) fun j => lfF (D.getD j []) k) ≤ sI rows.length (fun j => S.contains j) fun j => cel rows j k := sN_le fun j hj => by
      have := ((d.dr j hj).bd k).2 hkn
      have h3 : lfF (D.getD j []) k ≤ cel rows j k := this
      show (if _ then _ else _) ≤ if _ then _ else _
      split <;> omega
    cases e : (capsOf ws s n).getD k none with
    | none => exact h2
    | some c =>
      rw [capv_min]
      have h4 : (sI rows.length (fun j => S.contains j) fun j => lfF (D.getD j []) k) ≤ sN rows.length fun j => cel D j k := sN_le fun j hj => by
        have := ((d.dr j hj).bd k).1
        have h3 : 0 ≤ cel D j k := this
        have e5 : cel D j k = lfF (D.getD j []) k := rfl
        show (if S.contains j = true then lfF (D.getD j []) k else 0) ≤ cel D j k
        split <;> omega
      have e6 : (capsOf ws s n)[k]? = some (some c) := by
        rw [getD_of (d := none) (show k < (capsOf ws s n).length by rw [caps_len]; exact hkn), e]
      have h5 := hk k c _ e6 (getD_of (d := 0) (show k < (totalsOf D n).length by rw [tot_len]; exact hkn))
      rw [tot_fun hkn, d.len] at h5
      omega
  omega
/-- without a table the certificate shows a draw that fulfils nothing -/
theorem free_draw {rows ws : List (List Int)} {ps : List Int} {n i : Nat} {sp : List Int} (hX : ∀ r ∈ rows, ∀ x ∈ r, 0 ≤ x) (hp : ∀ j, 0 ≤ plF ps j) (hg : ∀ r ∈ ws, r.length = n) (h : FreeAt rows ws ps n i sp) :
    IsDr rows ps n (drawOf rows ps n (capsOf ws sp n)) ∧ fulOf ws (totalsOf (drawOf rows ps n (capsOf ws sp n)) n) = none := by
  have hs := List.mem_of_getElem? h.1
  obtain ⟨d, hk⟩ := drawOf_ok hX hp (caps_len ws sp n) (caps_nn hs) h.2.1
  exact ⟨d, (ful_kept hg (tot_len _ _) (dr_tot_nn d)).mpr ⟨sp, hs, kept_draw d.len hk⟩⟩
theorem find_first {α : Type} {p : α → Bool} : ∀ {l : List α}, l.all p = false → ∃ (i : Nat) (x : α), l[i]? = some x ∧ p x = false ∧ ∀ y ∈ l.take i, p y = true
  | [], h => by simp at h
  | x :: xs, h => by
    by_cases e : p x = true
    · have h2 : xs.all p = false := by
        rw [List.all_cons, e] at h
        simpa using h
      obtain ⟨i, y, h3, h4, h5⟩ := find_first h2
      exact ⟨i + 1, y, h3, h4, fun z hz => by
        rcases List.mem_cons.mp (show z ∈ x :: xs.take i from hz) with rfl | hz
        · exact e
        · exact h5 z hz⟩
    · exact ⟨0, x, rfl, Bool.eq_false_iff.mpr e, fun y hy => by simp at hy⟩
theorem tab_free {rows ws : List (List Int)} {ps : List Int} {n : Nat} (h : tabB rows ws ps n = false) : ∃ i sp, FreeAt rows ws ps n i sp := by
  obtain ⟨i, sp, h1, h2, h3⟩ := find_first h
  exact ⟨i, sp, h1, fun d hd => Bool.eq_false_iff.mpr fun e => Bool.eq_false_iff.mp h2 (List.any_eq_true.mpr ⟨d, hd, e⟩), h3⟩
/-- a plan is sure exactly if each of its draws fulfils the wish -/
theorem tab_iff {rows ws : List (List Int)} {ps : List Int} {n : Nat} (hX : ∀ r ∈ rows, ∀ x ∈ r, 0 ≤ x) (hp : ∀ j, 0 ≤ plF ps j) (hg : ∀ r ∈ ws, r.length = n) :
    tabB rows ws ps n = true ↔ ∀ D, IsDr rows ps n D → fulOf ws (totalsOf D n) ≠ none := by
  refine ⟨fun h D d => tab_draw hX hg h d, fun h => ?_⟩
  cases e : tabB rows ws ps n with
  | true => rfl
  | false =>
    obtain ⟨i, sp, f⟩ := tab_free e
    obtain ⟨d, hf⟩ := free_draw hX hp hg f
    exact absurd hf (h _ d)
end DD
namespace DD
open PySem PySem.Spec PyProof.Rows L2 RZ DM
theorem zw_bd {b : Int} : ∀ {ts : List Int} {cs : List (Option Int)}, (∀ t ∈ ts, 0 ≤ t ∧ t ≤ b) → (∀ c, some c ∈ cs → 0 ≤ c) → ∀ x ∈ List.zipWith capv ts cs, 0 ≤ x ∧ x ≤ b
  | [], _, _, _, x, hx => by simp at hx
  | _ :: _, [], _, _, x, hx => by simp at hx
  | t :: ts, c :: cs, h1, h2, x, hx => by
    rw [List.zipWith_cons_cons] at hx
    rcases List.mem_cons.mp hx with rfl | hx
    · have := h1 t List.mem_cons_self
      cases c with
      | none => exact this
      | some c =>
        have := h2 c List.mem_cons_self
        show 0 ≤ (if c < t then c else t) ∧ (if c < t then c else t) ≤ b
        split <;> omega
    · exact zw_bd (fun t ht => h1 t (List.mem_cons_of_mem _ ht)) (fun c hc => h2 c (List.mem_cons_of_mem _ hc)) x hx
theorem tot_one {row : List Int} {n : Nat} (h : row.length = n) : totalsOf [row] n = row := by
  refine List.ext_getElem? fun i => ?_
  unfold totalsOf
  rw [List.getElem?_map]
  by_cases hi : i < n
  · rw [List.getElem?_range hi, getD_of (d := 0) (by rw [h]; exact hi)]
    simp
  · rw [List.getElem?_eq_none (by simpa using hi), List.getElem?_eq_none (by omega)]
    rfl
theorem capv_le (t : Int) (c : Option Int) : capv t c ≤ t := by
  cases c with
  | none => exact Int.le_refl _
  | some c =>
    show (if c < t then c else t) ≤ t
    split <;> omega
theorem zw_le : ∀ {ts : List Int} {cs : List (Option Int)}, ts.length = cs.length → (List.zipWith capv ts cs).sum ≤ ts.sum
  | [], _, _ => by simp
  | _ :: _, [], h => by simp at h
  | t :: ts, c :: cs, h => by
    rw [List.zipWith_cons_cons, List.sum_cons, List.sum_cons]
    have := zw_le (ts := ts) (cs := cs) (by simpa using h)
    have := capv_le t c
    omega
theorem zw_full : ∀ {ts : List Int} {cs : List (Option Int)}, ts.length = cs.length → ts.sum ≤ (List.zipWith capv ts cs).sum → ∀ (i : Nat) (v x : Int), cs[i]? = some (some v) → ts[i]? = some x → x ≤ v
  | [], _, _, _, i, v, x, _, e => by simp at e
  | _ :: _, [], h, _, _, _, _, _, _ => by simp at h
  | t :: ts, c :: cs, h, hs, i, v, x, e1, e2 => by
    rw [List.zipWith_cons_cons, List.sum_cons, List.sum_cons] at hs
    have hl : ts.length = cs.length := by simpa using h
    have h1 := zw_le hl
    have h2 := capv_le t c
    cases i with
    | zero =>
      obtain rfl : c = some v := Option.some.inj e1
      obtain rfl : t = x := Option.some.inj e2
      have h3 : (if v < t then v else t) = capv t (some v) := rfl
      by_cases hv : v < t
      · rw [if_pos hv] at h3
        omega
      · omega
    | succ i => exact zw_full hl (by omega) i v x e1 e2
theorem zw_kept : ∀ {ts : List Int} {cs : List (Option Int)}, ts.length = cs.length → (∀ (i : Nat) (v x : Int), cs[i]? = some (some v) → ts[i]? = some x → x ≤ v) → (List.zipWith capv ts cs).sum = ts.sum
  | [], _, _, _ => by simp
  | _ :: _, [], h, _ => by simp at h
  | t :: ts, c :: cs, h, hk => by
    rw [List.zipWith_cons_cons, List.sum_cons, List.sum_cons, zw_kept (by simpa using h) fun i v x e1 e2 => hk (i + 1) v x e1 e2]
    cases c with
    | none => rfl
    | some c =>
      have := hk 0 c t rfl rfl
      show (if c < t then c else t) + _ = _
      rw [if_neg (by omega)]
theorem rooms_mem {ts : List Int} {ws : List (List Int)} {n : Nat} {y : Int} : y ∈ roomsOf ts ws n ↔ ∃ s ∈ spOf ws, (List.zipWith capv ts (capsOf ws s n)).sum = y := List.mem_map
theorem rooms_ne {ts : List Int} {ws : List (List Int)} {n : Nat} {hi : Int} (h : ∀ r ∈ ws, Good n hi r) : roomsOf ts ws n ≠ [] := fun e => sp_ne h (List.map_eq_nil_iff.mp e)
theorem ful_room {row : List Int} {ws : List (List Int)} {n : Nat} {hi : Int} (hg : ∀ r ∈ ws, Good n hi r) (hl : row.length = n) (h0 : ∀ x ∈ row, 0 ≤ x) : fulOf ws row = none ↔ row.sum ≤ maxL (roomsOf row ws n) := by
  rw [ful_kept (n := n) (fun r hr => (hg r hr).len) hl h0]
  have hcl : ∀ s, row.length = (capsOf ws s n).length := fun s => by rw [caps_len, hl]
  constructor
  · rintro ⟨s, hs, hk⟩
    have h := zw_kept (hcl s) (kept_iff.mp hk)
    exact maxL_ge (rooms_mem.mpr ⟨s, hs, h⟩)
  · intro h
    obtain ⟨s, hs, e⟩ := rooms_mem.mp (maxL_mem (rooms_ne (ts := row) (n := n) hg))
    exact ⟨s, hs, kept_iff.mpr (zw_full (hcl s) (by rw [e]; exact h))⟩
theorem range_ne {m : Nat} (h : 1 ≤ m) : List.range m ≠ [] := fun e => by
  have := congrArg List.length e
  rw [List.length_range] at this
  simp at this
  omega
theorem roomS_all {rows : List (List Int)} {n : Nat} {cs : List (Option Int)} (h : 1 ≤ rows.length) : roomS rows n cs (List.range rows.length) = (List.zipWith capv (totalsOf rows n) cs).sum := by
  unfold roomS totL
  rw [if_neg (range_ne h), pick_all]
theorem swap_sum {rows : List (List Int)} {n : Nat} (hr : ∀ r ∈ rows, r.length = n) : ∀ {ds : List Nat}, (∀ j ∈ ds, j < rows.length) → ((List.range n).map (colS rows ds)).sum = (ds.map (sizeAt rows)).sum
  | [], _ => by
    have : ∀ l : List Nat, (l.map (colS rows [])).sum = 0 := fun l => by
      induction l with
      | nil => rfl
      | cons a l ih =>
        rw [List.map_cons, List.sum_cons, ih]
        rfl
    exact this _
  | j :: ds, h => by
    have ih := swap_sum hr (ds := ds) fun x hx => h x (List.mem_cons_of_mem _ hx)
    have hj := h j List.mem_cons_self
    have hl := hr _ (List.mem_of_getElem? (getD_of (d := []) hj))
    have add : ∀ (l : List Nat), (l.map (colS rows (j :: ds))).sum = (l.map fun k => (rows.getD j []).getD k 0).sum + (l.map (colS rows ds)).sum := fun l => by
      induction l with
      | nil => rfl
      | cons a l ih2 =>
        simp only [List.map_cons, List.sum_cons]
        rw [ih2]
        have : colS rows (j :: ds) a = (rows.getD j []).getD a 0 + colS rows ds a := by
          unfold colS
          rw [List.map_cons, List.sum_cons]
        omega
    rw [add, ih, List.map_cons, List.sum_cons]
    congr 1
    show _ = (rows.getD j []).sum
    congr 1
    refine List.ext_getElem? fun i => ?_
    rw [List.getElem?_map]
    by_cases hi : i < n
    · rw [List.getElem?_range hi, getD_of (d := 0) (show i < (rows.getD j []).length by omega)]
      rfl
    · rw [List.getElem?_eq_none (by rw [List.length_range]; omega), List.getElem?_eq_none (by omega)]
      rfl
theorem sizes_range (rows : List (List Int)) : ((List.range rows.length).map (sizeAt rows)).sum = (rows.map List.sum).sum := by
  congr 1
  refine List.ext_getElem? fun i => ?_
  rw [List.getElem?_map, List.getElem?_map]
  by_cases hi : i < rows.length
  · rw [List.getElem?_range hi, getD_of (d := []) hi]
    rfl
  · rw [List.getElem?_eq_none (by rw [List.length_range]; omega), List.getElem?_eq_none (by omega)]
    rfl
theorem tot_sum {rows : List (List Int)} {n : Nat} (hr : ∀ r ∈ rows, r.length = n) : (totalsOf rows n).sum = (rows.map List.sum).sum := by
  rw [tot_colS, swap_sum hr fun j hj => List.mem_range.mp hj, sizes_range]
/-! ### one drawer -/
theorem nn_sum : ∀ {l : List Int}, (∀ x ∈ l, 0 ≤ x) → 0 ≤ l.sum
  | [], _ => Int.le_refl _
  | a :: l, h => by
    rw [List.sum_cons]
    have := h a List.mem_cons_self
    have := nn_sum fun x hx => h x (List.mem_cons_of_mem a hx)
    omega
theorem zw_nn {ts : List Int} {ws : List (List Int)} {s : List Int} {n : Nat} (h0 : ∀ t ∈ ts, 0 ≤ t) (hs : s ∈ spOf ws) : 0 ≤ (List.zipWith capv ts (capsOf ws s n)).sum :=
  nn_sum fun x hx => (zw_bd (b := ts.sum) (fun t ht => ⟨h0 t ht, sum_ge (fun y hy => h0 y hy) ht⟩) (caps_nn hs) x hx).1
theorem rooms_nn {ts : List Int} {ws : List (List Int)} {n : Nat} {hi : Int} (hg : ∀ r ∈ ws, Good n hi r) (h0 : ∀ t ∈ ts, 0 ≤ t) : 0 ≤ maxL (roomsOf ts ws n) := by
  obtain ⟨s, hs, e⟩ := rooms_mem.mp (maxL_mem (rooms_ne (ts := ts) (n := n) hg))
  rw [← e]
  exact zw_nn h0 hs
theorem total_bd {ts : List Int} {ws : List (List Int)} {n : Nat} {v : Int} (hg : ∀ r ∈ ws, Good n 50 r) (hl : ts.length = n) (h0 : ∀ t ∈ ts, 0 ≤ t) (h : totalOf ts ws n = some v) : 1 ≤ v ∧ v ≤ ts.sum := by
  unfold totalOf at h
  split at h
  · cases h
  · next e =>
    have h := Option.some.inj h
    have h1 := rooms_nn (ts := ts) hg h0
    have h2 : ¬ ts.sum ≤ maxL (roomsOf ts ws n) := fun z => e ((ful_room hg hl h0).mpr z)
    omega
/-- one drawer: a number is sure exactly if it is not below the sure total -/
theorem one_tab {ts : List Int} {ws : List (List Int)} {n : Nat} {p : Int} (hg : ∀ r ∈ ws, Good n 50 r) (hl : ts.length = n) (h0 : ∀ t ∈ ts, 0 ≤ t) (hp : p ≤ ts.sum) :
    tabB [ts] ws [p] n = true ↔ ∃ v, totalOf ts ws n = some v ∧ v ≤ p := by
  have hov : ∀ s, (pSets 1).any (ovB [ts] [p] n (capsOf ws s n)) = decide ((List.zipWith capv ts (capsOf ws s n)).sum < p) := fun s => by
    have e1 : ovB [ts] [p] n (capsOf ws s n) [] = false := decide_eq_false (by show ¬ (0 : Int) > 0; decide)
    have e2 : ovB [ts] [p] n (capsOf ws s n) [0] = decide ((List.zipWith capv ts (capsOf ws s n)).sum < p) := by
      have e3 : takenOf [p] [0] = p := by show p + 0 = p; omega
      have e4 : totL [ts] n [0] = ts := tot_one hl
      unfold ovB
      rw [e3, e4]
    show (ovB [ts] [p] n (capsOf ws s n) [] || (ovB [ts] [p] n (capsOf ws s n) [0] || false)) = _
    rw [e1, e2, Bool.or_false, Bool.false_or]
  have key : tabB [ts] ws [p] n = true ↔ maxL (roomsOf ts ws n) < p := by
    constructor
    · intro h
      obtain ⟨s, hs, e⟩ := rooms_mem.mp (maxL_mem (rooms_ne (ts := ts) (n := n) hg))
      have := List.all_eq_true.mp h s hs
      have h2 : (pSets 1).any (ovB [ts] [p] n (capsOf ws s n)) = true := this
      rw [hov s] at h2
      have := of_decide_eq_true h2
      omega
    · intro h
      refine List.all_eq_true.mpr fun s hs => ?_
      show (pSets 1).any (ovB [ts] [p] n (capsOf ws s n)) = true
      rw [hov s]
      have := maxL_ge (rooms_mem.mpr ⟨s, hs, rfl⟩ : (List.zipWith capv ts (capsOf ws s n)).sum ∈ roomsOf ts ws n)
      exact decide_eq_true (by omega)
  rw [key]
  have hf := ful_room (row := ts) hg hl h0
  unfold totalOf
  by_cases e : fulOf ws ts = none
  · rw [if_pos e]
    have := hf.mp e
    exact ⟨fun h => by omega, fun ⟨v, h, _⟩ => nomatch h⟩
  · rw [if_neg e]
    exact ⟨fun h => ⟨_, rfl, by omega⟩, fun ⟨v, h, hv⟩ => by have := Option.some.inj h; omega⟩
theorem total_le {ts us : List Int} {ws vs : List (List Int)} {n m : Nat} (hg : ∀ r ∈ ws, Good n 50 r) (hl : ts.length = n) (h0 : ∀ t ∈ ts, 0 ≤ t) (hg2 : ∀ r ∈ vs, Good m 50 r) (hl2 : us.length = m) (h02 : ∀ t ∈ us, 0 ≤ t) (hs : us.sum = ts.sum)
    (h : ∀ p, 0 ≤ p → p ≤ ts.sum → tabB [ts] ws [p] n = true → tabB [us] vs [p] m = true) {v : Int} (hv : totalOf ts ws n = some v) : ∃ u, totalOf us vs m = some u ∧ u ≤ v := by
  have b := total_bd hg hl h0 hv
  exact (one_tab hg2 hl2 h02 (by omega)).mp (h v (by omega) b.2 ((one_tab hg hl h0 b.2).mpr ⟨v, hv, Int.le_refl _⟩))
theorem total_eq {ts us : List Int} {ws vs : List (List Int)} {n m : Nat} (hg : ∀ r ∈ ws, Good n 50 r) (hl : ts.length = n) (h0 : ∀ t ∈ ts, 0 ≤ t) (hg2 : ∀ r ∈ vs, Good m 50 r) (hl2 : us.length = m) (h02 : ∀ t ∈ us, 0 ≤ t) (hs : us.sum = ts.sum)
    (h : ∀ p, 0 ≤ p → p ≤ ts.sum → tabB [us] vs [p] m = tabB [ts] ws [p] n) : totalOf us vs m = totalOf ts ws n := by
  have h1 : ∀ v, totalOf ts ws n = some v → ∃ u, totalOf us vs m = some u ∧ u ≤ v := fun v hv => total_le hg hl h0 hg2 hl2 h02 hs (fun p a b c => by rw [h p a b]; exact c) hv
  have h2 : ∀ v, totalOf us vs m = some v → ∃ u, totalOf ts ws n = some u ∧ u ≤ v := fun v hv => total_le hg2 hl2 h02 hg hl h0 hs.symm (fun p a b c => by rw [← h p a (by omega)]; exact c) hv
  cases e : totalOf ts ws n with
  | none =>
    cases e2 : totalOf us vs m with
    | none => rfl
    | some u =>
      obtain ⟨x, hx, _⟩ := h2 u e2
      rw [e] at hx
      cases hx
  | some v =>
    obtain ⟨u, hu, l1⟩ := h1 v e
    obtain ⟨x, hx, l2⟩ := h2 u hu
    rw [e] at hx
    have hx := Option.some.inj hx
    rw [hu]
    exact congrArg some (by omega)
/-! ### more wishes -/
theorem ful_any {ws : List (List Int)} {cs : List Int} : fulOf ws cs ≠ none ↔ ∃ r ∈ ws, contains cs r = true := by
  unfold fulOf
  rw [Ne, List.findIdx?_eq_none_iff]
  constructor
  · intro h
    refine Classical.byContradiction fun z => h fun r hr => ?_
    cases e : contains cs r with
    | false => rfl
    | true => exact absurd ⟨r, hr, e⟩ z
  · rintro ⟨r, hr, e⟩ h
    rw [h r hr] at e
    cases e
theorem tab_more {rows ws vs : List (List Int)} {ps : List Int} {n : Nat} (hX : ∀ r ∈ rows, ∀ x ∈ r, 0 ≤ x) (hp : ∀ j, 0 ≤ plF ps j) (hg : ∀ r ∈ ws, r.length = n) (hg2 : ∀ r ∈ vs, r.length = n) (hsub : ∀ r ∈ ws, r ∈ vs)
    (h : tabB rows ws ps n = true) : tabB rows vs ps n = true :=
  (tab_iff hX hp hg2).mpr fun D d => by
    obtain ⟨r, hr, e⟩ := ful_any.mp ((tab_iff hX hp hg).mp h D d)
    exact ful_any.mpr ⟨r, hsub r hr, e⟩
theorem bool_eq {a b : Bool} (h1 : a = true → b = true) (h2 : b = true → a = true) : a = b := by
  cases a with
  | true => exact (h1 rfl).symm
  | false =>
    cases b with
    | false => rfl
    | true => exact h2 rfl
theorem tab_same {rows ws vs : List (List Int)} {ps : List Int} {n : Nat} (hX : ∀ r ∈ rows, ∀ x ∈ r, 0 ≤ x) (hp : ∀ j, 0 ≤ plF ps j) (hg : ∀ r ∈ ws, r.length = n) (hg2 : ∀ r ∈ vs, r.length = n) (h1 : ∀ r ∈ ws, r ∈ vs) (h2 : ∀ r ∈ vs, r ∈ ws) : tabB rows vs ps n = tabB rows ws ps n :=
  bool_eq (tab_more hX hp hg2 hg h2) (tab_more hX hp hg hg2 h1)
theorem one_nn {ts : List Int} (h0 : ∀ t ∈ ts, 0 ≤ t) : ∀ r ∈ [ts], ∀ x ∈ r, 0 ≤ x := fun r hr x hx => by
  rw [List.mem_singleton.mp hr] at hx
  exact h0 x hx
theorem plF_one {p : Int} (h : 0 ≤ p) : ∀ j, 0 ≤ plF [p] j
  | 0 => h
  | _ + 1 => Int.le_refl _
theorem total_same {ts : List Int} {ws vs : List (List Int)} {n : Nat} (hg : ∀ r ∈ ws, Good n 50 r) (hl : ts.length = n) (h0 : ∀ t ∈ ts, 0 ≤ t) (hg2 : ∀ r ∈ vs, Good n 50 r) (h1 : ∀ r ∈ ws, r ∈ vs) (h2 : ∀ r ∈ vs, r ∈ ws) : totalOf ts vs n = totalOf ts ws n :=
  total_eq hg hl h0 hg2 hl h0 rfl fun p a _ => tab_same (one_nn h0) (plF_one a) (fun r h => (hg r h).len) (fun r h => (hg2 r h).len) h1 h2
theorem total_more {ts : List Int} {ws vs : List (List Int)} {n : Nat} (hg : ∀ r ∈ ws, Good n 50 r) (hl : ts.length = n) (h0 : ∀ t ∈ ts, 0 ≤ t) (hg2 : ∀ r ∈ vs, Good n 50 r) (h1 : ∀ r ∈ ws, r ∈ vs) {v : Int} (hv : totalOf ts ws n = some v) : ∃ u, totalOf ts vs n = some u ∧ u ≤ v :=
  total_le hg hl h0 hg2 hl h0 rfl (fun p a _ => tab_more (one_nn h0) (plF_one a) (fun r h => (hg r h).len) (fun r h => (hg2 r h).len) h1) hv
/-! ### other orders -/
def pk (js : List Nat) (l : List Int) : List Int := js.map fun j => l.getD j 0
def reo (dr kd : List Nat) (rows : List (List Int)) : List (List Int) := (pickR rows dr).map (pk kd)
theorem pk_len (js : List Nat) (l : List Int) : (pk js l).length = js.length := by simp [pk]
theorem reo_len (dr kd : List Nat) (rows : List (List Int)) : (reo dr kd rows).length = dr.length := by simp [reo, pickR]
theorem pk_get {js : List Nat} {l : List Int} {i j : Nat} (h : js[i]? = some j) (hj : j < l.length) : (pk js l)[i]? = l[j]? := by
  unfold pk
  rw [List.getElem?_map, h, getD_of (d := 0) hj]
  rfl
theorem pk_getD {js : List Nat} {l : List Int} {i : Nat} (h : i < js.length) : (pk js l).getD i 0 = l.getD (js.getD i 0) 0 := by
  unfold pk
  rw [List.getD_eq_getElem?_getD, List.getElem?_map, getD_of (d := 0) h]
  rfl
theorem reo_getD {dr kd : List Nat} {rows : List (List Int)} {i : Nat} (h : i < dr.length) : (reo dr kd rows).getD i [] = pk kd (rows.getD (dr.getD i 0) []) := by
  unfold reo pickR
  rw [List.getD_eq_getElem?_getD, List.getElem?_map, List.getElem?_map, getD_of (d := 0) h]
  rfl
theorem pm_len {js : List Nat} {m : Nat} (p : js.Perm (List.range m)) : js.length = m := by rw [p.length_eq, List.length_range]
theorem pm_lt {js : List Nat} {m : Nat} (p : js.Perm (List.range m)) : ∀ j ∈ js, j < m := fun j hj => List.mem_range.mp (p.mem_iff.mp hj)
theorem pm_at {js : List Nat} {m i : Nat} (p : js.Perm (List.range m)) (h : i < m) : js.getD i 0 < m := pm_lt p _ (List.mem_of_getElem? (getD_of (d := 0) (show i < js.length by rw [pm_len p]; exact h)))
theorem pm_has {js : List Nat} {m i : Nat} (p : js.Perm (List.range m)) (h : i < m) : ∃ k : Nat, js[k]? = some i := List.mem_iff_getElem?.mp (p.mem_iff.mpr (List.mem_range.mpr h))
theorem pk_sum {js : List Nat} {l : List Int} {m : Nat} (p : js.Perm (List.range m)) (h : l.length = m) : (pk js l).sum = l.sum := taken_all p h
theorem reo_mem {dr kd : List Nat} {rows : List (List Int)} (hd : ∀ j ∈ dr, j < rows.length) {r : List Int} (h : r ∈ reo dr kd rows) : ∃ q ∈ rows, r = pk kd q := by
  obtain ⟨q, hq, rfl⟩ := List.mem_map.mp h
  obtain ⟨j, hj, rfl⟩ := List.mem_map.mp hq
  exact ⟨_, List.mem_of_getElem? (getD_of (d := []) (hd j hj)), rfl⟩
theorem pk_nn {js : List Nat} {l : List Int} (h : ∀ x ∈ l, 0 ≤ x) : ∀ x ∈ pk js l, 0 ≤ x := fun x hx => by
  obtain ⟨j, _, rfl⟩ := List.mem_map.mp hx
  rw [List.getD_eq_getElem?_getD]
  cases e : l[j]? with
  | none => exact Int.le_refl _
  | some y => exact h y (List.mem_of_getElem? e)
theorem tot_reo {dr kd : List Nat} {D : List (List Int)} {n : Nat} (pd : dr.Perm (List.range D.length)) (pq : kd.Perm (List.range n)) : totalsOf (reo dr kd D) n = pk kd (totalsOf D n) := by
  refine List.ext_getElem? fun i => ?_
  by_cases hi : i < n
  · have hkl : i < kd.length := by rw [pm_len pq]; exact hi
    have hk := pm_at pq hi
    rw [pk_get (getD_of (d := 0) hkl) (by rw [tot_len]; exact hk), tot_colS D, List.getElem?_map, List.getElem?_range hk]
    unfold totalsOf
    rw [List.getElem?_map, List.getElem?_range hi]
    show some ((reo dr kd D).map fun r => r.getD i 0).sum = some (colS D (List.range D.length) (kd.getD i 0))
    rw [← colS_perm pd]
    refine congrArg some ?_
    unfold reo pickR colS
    rw [List.map_map, List.map_map]
    refine congrArg List.sum (List.map_congr_left fun j _ => ?_)
    exact pk_getD hkl
  · rw [List.getElem?_eq_none (by rw [tot_len]; omega), List.getElem?_eq_none (by rw [pk_len, pm_len pq]; omega)]
theorem cont_pk {kd : List Nat} {t r : List Int} {n : Nat} (pq : kd.Perm (List.range n)) (ht : t.length = n) (hr : r.length = n) (h : contains (pk kd t) (pk kd r) = true) : contains t r = true := by
  rw [cont_iff] at h ⊢
  intro i x y e1 e2
  have hi : i < n := by
    have := (List.getElem?_eq_some_iff.mp e1).1
    omega
  obtain ⟨k, hk⟩ := pm_has pq hi
  exact h k x y ((pk_get hk (by omega)).trans e1) ((pk_get hk (by omega)).trans e2)
theorem plF_pk {dr : List Nat} {ps : List Int} (hp : ∀ j, 0 ≤ plF ps j) : ∀ j, 0 ≤ plF (pk dr ps) j := fun j => by
  unfold plF pk
  rw [List.getD_eq_getElem?_getD, List.getElem?_map]
  cases e : dr[j]? with
  | none => exact Int.le_refl _
  | some x => exact hp x
theorem ord_dr {rows : List (List Int)} {ps : List Int} {n : Nat} {dr kd : List Nat} {D : List (List Int)} (hrn : ∀ r ∈ rows, r.length = n) (pd : dr.Perm (List.range rows.length)) (pq : kd.Perm (List.range n)) (d : IsDr rows ps n D) : IsDr (reo dr kd rows) (pk dr ps) n (reo dr kd D) := by
  have hdl := pm_len pd
  refine ⟨by rw [reo_len, reo_len], fun j hj => ?_⟩
  rw [reo_len] at hj
  have hjm := pm_at pd (show j < rows.length by omega)
  have dj := d.dr _ hjm
  rw [reo_getD hj, reo_getD hj]
  have hkl := pm_len pq
  have hrl := hrn _ (List.mem_of_getElem? (getD_of (d := []) hjm))
  have e : plF (pk dr ps) j = plF ps (dr.getD j 0) := pk_getD hj
  rw [e]
  refine ⟨by rw [pk_len, hkl], fun k => ?_, by rw [pk_sum pq dj.len]; exact dj.sum⟩
  unfold lfF
  by_cases hk : k < n
  · rw [pk_getD (by omega), pk_getD (by omega)]
    have b := dj.bd (kd.getD k 0)
    exact ⟨b.1, fun _ => b.2 (pm_at pq hk)⟩
  · rw [List.getD_eq_getElem?_getD, List.getElem?_eq_none (by rw [pk_len]; omega)]
    exact ⟨Int.le_refl _, fun z => absurd z hk⟩
theorem ord_ful {ws : List (List Int)} {t : List Int} {n : Nat} {wo kd : List Nat} (hw : ∀ r ∈ ws, r.length = n) (ht : t.length = n) (pw : wo.Perm (List.range ws.length)) (pq : kd.Perm (List.range n)) (h : fulOf (reo wo kd ws) (pk kd t) ≠ none) : fulOf ws t ≠ none := by
  obtain ⟨r, hr, e⟩ := ful_any.mp h
  obtain ⟨q, hq, rfl⟩ := reo_mem (pm_lt pw) hr
  exact ful_any.mpr ⟨q, hq, cont_pk pq ht (hw q hq) e⟩
theorem ord_tab {rows ws : List (List Int)} {ps : List Int} {n : Nat} {dr kd wo : List Nat} (hX : ∀ r ∈ rows, ∀ x ∈ r, 0 ≤ x) (hrn : ∀ r ∈ rows, r.length = n) (hp : ∀ j, 0 ≤ plF ps j) (hw : ∀ r ∈ ws, r.length = n)
    (pd : dr.Perm (List.range rows.length)) (pq : kd.Perm (List.range n)) (pw : wo.Perm (List.range ws.length)) (h : tabB (reo dr kd rows) (reo wo kd ws) (pk dr ps) n = true) : tabB rows ws ps n = true := by
  refine (tab_iff hX hp hw).mpr fun D d => ?_
  have hX2 : ∀ r ∈ reo dr kd rows, ∀ x ∈ r, 0 ≤ x := fun r hr x hx => by
    obtain ⟨q, hq, rfl⟩ := reo_mem (pm_lt pd) hr
    exact pk_nn (hX q hq) x hx
  have hw2 : ∀ r ∈ reo wo kd ws, r.length = n := fun r hr => by
    obtain ⟨q, hq, rfl⟩ := reo_mem (pm_lt pw) hr
    rw [pk_len, pm_len pq]
  have h2 := (tab_iff hX2 (plF_pk hp) hw2).mp h _ (ord_dr hrn pd pq d)
  rw [tot_reo (by rw [d.len]; exact pd) pq] at h2
  exact ord_ful hw (tot_len _ _) pw pq h2
/-- the order that turns another back -/
def ivs (js : List Nat) (m : Nat) : List Nat := (List.range m).map fun i => js.idxOf i
theorem ivs_len (js : List Nat) (m : Nat) : (ivs js m).length = m := by simp [ivs]
theorem ivs_perm {js : List Nat} {m : Nat} (p : js.Perm (List.range m)) : (ivs js m).Perm (List.range m) := by
  have nd : js.Nodup := p.nodup_iff.mpr List.nodup_range
  have e : js.map (fun i => js.idxOf i) = List.range m := by
    refine List.ext_getElem? fun i => ?_
    rw [List.getElem?_map]
    by_cases hi : i < m
    · have hl : i < js.length := by rw [pm_len p]; exact hi
      rw [List.getElem?_range hi, List.getElem?_eq_getElem hl]
      exact congrArg some (nd.idxOf_getElem i hl)
    · rw [List.getElem?_eq_none (by rw [pm_len p]; omega), List.getElem?_eq_none (by rw [List.length_range]; omega)]
      rfl
  have := (p.symm.map fun i => js.idxOf i)
  rw [e] at this
  exact this
theorem ivs_at {js : List Nat} {m i : Nat} (p : js.Perm (List.range m)) (h : i < m) : (ivs js m).getD i 0 = js.idxOf i ∧ js.idxOf i < js.length ∧ js.getD (js.idxOf i) 0 = i := by
  have hm : i ∈ js := p.mem_iff.mpr (List.mem_range.mpr h)
  have hl := List.idxOf_lt_length_of_mem hm
  refine ⟨?_, hl, ?_⟩
  · unfold ivs
    rw [List.getD_eq_getElem?_getD, List.getElem?_map, List.getElem?_range h]
    rfl
  · rw [List.getD_eq_getElem?_getD, List.getElem?_eq_getElem hl]
    exact List.getElem_idxOf hl
theorem pk_back {js : List Nat} {l : List Int} {m : Nat} (p : js.Perm (List.range m)) (h : l.length = m) : pk (ivs js m) (pk js l) = l := by
  refine List.ext_getElem? fun i => ?_
  by_cases hi : i < m
  · obtain ⟨e1, e2, e3⟩ := ivs_at p hi
    have g := getD_of (d := 0) (show i < (ivs js m).length by rw [ivs_len]; exact hi)
    rw [e1] at g
    rw [pk_get g (by rw [pk_len]; exact e2)]
    have g2 := getD_of (d := 0) e2
    rw [e3] at g2
    exact pk_get g2 (by omega)
  · rw [List.getElem?_eq_none (by rw [pk_len, ivs_len]; omega), List.getElem?_eq_none (by omega)]
theorem reo_back {dr kd : List Nat} {rows : List (List Int)} {m n : Nat} (hm : rows.length = m) (hrn : ∀ r ∈ rows, r.length = n) (pd : dr.Perm (List.range m)) (pq : kd.Perm (List.range n)) : reo (ivs dr m) (ivs kd n) (reo dr kd rows) = rows := by
  refine List.ext_getElem? fun i => ?_
  by_cases hi : i < m
  · obtain ⟨e1, e2, e3⟩ := ivs_at pd hi
    have g := getD_of (d := []) (show i < (reo (ivs dr m) (ivs kd n) (reo dr kd rows)).length by rw [reo_len, ivs_len]; exact hi)
    rw [g, reo_getD (by rw [ivs_len]; exact hi), e1, reo_getD e2, e3, pk_back pq (hrn _ (List.mem_of_getElem? (getD_of (d := []) (by omega)))), ← getD_of (d := []) (by omega)]
  · rw [List.getElem?_eq_none (by rw [reo_len, ivs_len]; omega), List.getElem?_eq_none (by omega)]
theorem ord_eq {rows ws : List (List Int)} {ps : List Int} {n : Nat} {dr kd wo : List Nat} (hX : ∀ r ∈ rows, ∀ x ∈ r, 0 ≤ x) (hrn : ∀ r ∈ rows, r.length = n) (hpl : ps.length = rows.length) (hp : ∀ j, 0 ≤ plF ps j) (hw : ∀ r ∈ ws, r.length = n)
    (pd : dr.Perm (List.range rows.length)) (pq : kd.Perm (List.range n)) (pw : wo.Perm (List.range ws.length)) : tabB (reo dr kd rows) (reo wo kd ws) (pk dr ps) n = tabB rows ws ps n := by
  refine bool_eq (ord_tab hX hrn hp hw pd pq pw) fun h => ?_
  have hX2 : ∀ r ∈ reo dr kd rows, ∀ x ∈ r, 0 ≤ x := fun r hr x hx => by
    obtain ⟨q, hq, rfl⟩ := reo_mem (pm_lt pd) hr
    exact pk_nn (hX q hq) x hx
  have hrn2 : ∀ r ∈ reo dr kd rows, r.length = n := fun r hr => by
    obtain ⟨q, hq, rfl⟩ := reo_mem (pm_lt pd) hr
    rw [pk_len, pm_len pq]
  have hw2 : ∀ r ∈ reo wo kd ws, r.length = n := fun r hr => by
    obtain ⟨q, hq, rfl⟩ := reo_mem (pm_lt pw) hr
    rw [pk_len, pm_len pq]
  refine ord_tab (dr := ivs dr rows.length) (kd := ivs kd n) (wo := ivs wo ws.length) hX2 hrn2 (plF_pk hp) hw2 (by rw [reo_len, pm_len pd]; exact ivs_perm pd) (ivs_perm pq) (by rw [reo_len, pm_len pw]; exact ivs_perm pw) ?_
  rw [reo_back rfl hrn pd pq, reo_back rfl hw pw pq, pk_back pd hpl]
  exact h
theorem good_pk {ws : List (List Int)} {n : Nat} {wo kd : List Nat} (hg : ∀ r ∈ ws, Good n 50 r) (pw : wo.Perm (List.range ws.length)) (pq : kd.Perm (List.range n)) : ∀ r ∈ reo wo kd ws, Good n 50 r := fun r hr => by
  obtain ⟨q, hq, rfl⟩ := reo_mem (pm_lt pw) hr
  have g := hg q hq
  refine ⟨by rw [pk_len, pm_len pq], fun x hx => ?_, ?_⟩
  · obtain ⟨j, _, rfl⟩ := List.mem_map.mp hx
    exact getD_bd g.bd (by decide) j
  · obtain ⟨x, hx, h0⟩ := g.pos
    obtain ⟨i, hi⟩ := List.mem_iff_getElem?.mp hx
    have hin := (List.getElem?_eq_some_iff.mp hi).1
    obtain ⟨k, hk⟩ := pm_has pq (show i < n by rw [← g.len]; exact hin)
    exact ⟨x, List.mem_of_getElem? ((pk_get hk hin).trans hi), h0⟩
theorem pk_range {l : List Int} (h : l.length = 1) : pk [0] l = l := by
  match l, h with
  | [x], _ => rfl
theorem ord_total {rows ws : List (List Int)} {n : Nat} {dr kd wo : List Nat} (hX : ∀ r ∈ rows, ∀ x ∈ r, 0 ≤ x) (hg : ∀ r ∈ ws, Good n 50 r)
    (pd : dr.Perm (List.range rows.length)) (pq : kd.Perm (List.range n)) (pw : wo.Perm (List.range ws.length)) : totalOf (totalsOf (reo dr kd rows) n) (reo wo kd ws) n = totalOf (totalsOf rows n) ws n := by
  rw [tot_reo pd pq]
  have h0 : ∀ t ∈ totalsOf rows n, 0 ≤ t := fun t ht => by
    obtain ⟨k, _, rfl⟩ := List.mem_map.mp ht
    refine nn_sum fun x hx => ?_
    obtain ⟨r, hr, rfl⟩ := List.mem_map.mp hx
    rw [List.getD_eq_getElem?_getD]
    cases e : r[k]? with
    | none => exact Int.le_refl _
    | some y => exact hX r hr y (List.mem_of_getElem? e)
  refine total_eq hg (tot_len _ _) h0 (good_pk hg pw pq) (by rw [pk_len, pm_len pq]) (pk_nn h0) (pk_sum pq (tot_len _ _)) fun p a _ => ?_
  exact ord_eq (rows := [totalsOf rows n]) (ps := [p]) (dr := [0]) (one_nn h0) (fun r hr => by rw [List.mem_singleton.mp hr]; exact tot_len _ _) rfl (plF_one a) (fun r hr => (hg r hr).len) (List.Perm.refl _) pq pw
end DD
namespace DD
open PySem PySem.Spec PyProof.Rows L2 RZ DM
theorem tab_of {rows ws : List (List Int)} {ps : List Int} {n : Nat} {v : Int} (h1 : 1 ≤ rows.length) (hl : ps.length = rows.length) (ht : totalOf (totalsOf rows n) ws n = some v) (hv : v ≤ ps.sum) : tabB rows ws ps n = true := by
  unfold totalOf at ht
  split at ht
  · cases ht
  · have ht := Option.some.inj ht
    refine List.all_eq_true.mpr fun sp hsp => List.any_eq_true.mpr ⟨_, range_ps _, ?_⟩
    show decide (takenOf ps (List.range rows.length) > roomS rows n (capsOf ws sp n) (List.range rows.length)) = true
    rw [roomS_all h1, ← hl, taken_range]
    have := maxL_ge (List.mem_map_of_mem (f := fun s => (List.zipWith capv (totalsOf rows n) (capsOf ws s n)).sum) hsp)
    have h2 : (List.zipWith capv (totalsOf rows n) (capsOf ws sp n)).sum ≤ maxL (roomsOf (totalsOf rows n) ws n) := this
    exact decide_eq_true (by omega)
/-! ### a kind that nobody wishes for -/
def addZ (ws : List (List Int)) : List (List Int) := ws.map fun r => r ++ [0]
theorem getD_snoc {l : List Int} {x : Int} {i : Nat} (h : i < l.length) : (l ++ [x]).getD i 0 = l.getD i 0 := by
  rw [List.getD_eq_getElem?_getD, List.getD_eq_getElem?_getD, List.getElem?_append_left h]
theorem getD_last {l : List Int} {x : Int} : (l ++ [x]).getD l.length 0 = x := by
  rw [List.getD_eq_getElem?_getD, List.getElem?_append_right (Nat.le_refl _), Nat.sub_self]
  rfl
theorem kinds_addZ (r : List Int) : kindsOf (r ++ [0]) = kindsOf r := by
  unfold kindsOf
  rw [List.length_append, show ([0] : List Int).length = 1 from rfl, kinds_succ, if_neg (by unfold posAt; rw [getD_last]; decide), List.append_nil]
  unfold kindsUp
  congr 1
  refine List.filter_congr fun j hj => ?_
  unfold posAt
  rw [getD_snoc (List.mem_range.mp hj)]
theorem spR_addZ : ∀ ws : List (List Int), spR (addZ ws) = spR ws
  | [] => rfl
  | r :: rs => by
    show (kindsOf (r ++ [0])).flatMap (fun k => (spR (addZ rs)).map fun s => k :: s) = (kindsOf r).flatMap fun k => (spR rs).map fun s => k :: s
    rw [kinds_addZ, spR_addZ rs]
theorem sp_addZ (ws : List (List Int)) : spOf (addZ ws) = spOf ws := by rw [spOf_eq, spOf_eq, spR_addZ]
theorem spR_lt {n : Nat} : ∀ {ws : List (List Int)} {s : List Int}, (∀ r ∈ ws, r.length = n) → s ∈ spR ws → ∀ v ∈ s, v < (n : Int)
  | [], s, _, h, v, hv => by
    rw [List.mem_singleton.mp h] at hv
    simp at hv
  | r :: rs, s, hl, h, v, hv => by
    obtain ⟨k, hk, h2⟩ := List.mem_flatMap.mp h
    obtain ⟨s', hs', rfl⟩ := List.mem_map.mp h2
    rcases List.mem_cons.mp hv with rfl | hv
    · have := (kinds_bd r r.length _ hk).2
      rw [hl r List.mem_cons_self] at this
      exact this
    · exact spR_lt (fun q hq => hl q (List.mem_cons_of_mem _ hq)) hs' v hv
theorem pickAll_eq (rows : List (List Int)) (named : List Int) (k : Nat) : pickAll rows named k = ((rows.zip named).filter (fun p => decide (p.2 = (k : Int)))).map fun p => p.1.getD k 0 := by
  unfold pickAll pickUp
  rw [List.take_of_length_le (by rw [List.length_zip]; omega)]
theorem pick_addZ {n k : Nat} (hk : k < n) (s : List Int) : ∀ {ws : List (List Int)}, (∀ r ∈ ws, r.length = n) → pickAll (addZ ws) s k = pickAll ws s k := by
  induction s with
  | nil =>
    intro ws _
    rw [pickAll_eq, pickAll_eq, List.zip_nil_right, List.zip_nil_right]
  | cons v s ih =>
    intro ws h
    match ws, h with
    | [], _ => rfl
    | r :: rs, h =>
      have e := ih (ws := rs) fun q hq => h q (List.mem_cons_of_mem _ hq)
      have e1 : (r ++ [0]).getD k 0 = r.getD k 0 := getD_snoc (by rw [h r List.mem_cons_self]; exact hk)
      rw [pickAll_eq, pickAll_eq] at e
      rw [pickAll_eq, pickAll_eq]
      show (((r ++ [0], v) :: ((addZ rs).zip s)).filter _).map _ = (((r, v) :: (rs.zip s)).filter _).map _
      rw [List.filter_cons, List.filter_cons]
      by_cases c : v = (k : Int)
      · rw [if_pos (by simpa using c), if_pos (by simpa using c), List.map_cons, List.map_cons, e]
        exact congrArg (· :: _) e1
      · rw [if_neg (by simpa using c), if_neg (by simpa using c)]
        exact e
theorem pick_last {n : Nat} {s : List Int} {ws : List (List Int)} (h : ∀ v ∈ s, v < (n : Int)) : pickAll ws s n = [] := by
  rw [pickAll_eq, List.map_eq_nil_iff, List.filter_eq_nil_iff]
  intro p hp e
  have h1 := h p.2 (List.of_mem_zip (show (p.1, p.2) ∈ _ from hp)).2
  have : p.2 = (n : Int) := by simpa using e
  omega
theorem caps_addZ {ws : List (List Int)} {s : List Int} {n : Nat} (hl : ∀ r ∈ ws, r.length = n) (hs : s ∈ spOf ws) : capsOf (addZ ws) s (n + 1) = capsOf ws s n ++ [none] := by
  unfold capsOf
  rw [List.range_succ, List.map_append]
  congr 1
  · refine List.map_congr_left fun k hk => ?_
    unfold capAt
    rw [pick_addZ (List.mem_range.mp hk) s hl]
  · show [capAt (addZ ws) s n] = [none]
    unfold capAt
    rw [if_pos (pick_last (spR_lt hl (by rw [← spOf_eq]; exact hs)))]
theorem zw_snoc {ts : List Int} {cs : List (Option Int)} {c : Int} (h : ts.length = cs.length) : (List.zipWith capv (ts ++ [c]) (cs ++ [none])).sum = (List.zipWith capv ts cs).sum + c := by
  rw [List.zipWith_append h, List.sum_append]
  show _ + (c + 0) = _
  omega
theorem rooms_addZ {ts : List Int} {ws : List (List Int)} {n : Nat} {c : Int} (hl : ∀ r ∈ ws, r.length = n) (ht : ts.length = n) : roomsOf (ts ++ [c]) (addZ ws) (n + 1) = (roomsOf ts ws n).map fun x => x + c := by
  unfold roomsOf
  rw [sp_addZ, List.map_map]
  refine List.map_congr_left fun s hs => ?_
  show (List.zipWith capv (ts ++ [c]) (capsOf (addZ ws) s (n + 1))).sum = _ + c
  rw [caps_addZ hl hs, zw_snoc (by rw [caps_len]; exact ht)]
theorem maxL_add {l : List Int} {c : Int} (h : l ≠ []) : maxL (l.map fun x => x + c) = maxL l + c := by
  refine (maxL_uniq (List.mem_map.mpr ⟨_, maxL_mem h, rfl⟩) fun y hy => ?_).symm
  obtain ⟨x, hx, rfl⟩ := List.mem_map.mp hy
  have := maxL_ge hx
  omega
theorem cont_addZ {t r : List Int} {c : Int} (h : t.length = r.length) (hc : 0 ≤ c) : contains (t ++ [c]) (r ++ [0]) = contains t r := by
  unfold contains
  rw [List.zipWith_append h, List.all_append]
  show (_ && (decide (c ≥ 0) && true)) = _
  rw [decide_eq_true (show c ≥ 0 from hc)]
  simp
theorem ful_addZ {ts : List Int} {ws : List (List Int)} {n : Nat} {c : Int} (hl : ∀ r ∈ ws, r.length = n) (ht : ts.length = n) (hc : 0 ≤ c) : (fulOf (addZ ws) (ts ++ [c]) = none) ↔ (fulOf ws ts = none) := by
  unfold fulOf addZ
  rw [List.findIdx?_eq_none_iff, List.findIdx?_eq_none_iff]
  constructor
  · intro h r hr
    rw [← cont_addZ (c := c) (by rw [ht, hl r hr]) hc]
    exact h _ (List.mem_map.mpr ⟨r, hr, rfl⟩)
  · intro h q hq
    obtain ⟨r, hr, rfl⟩ := List.mem_map.mp hq
    rw [cont_addZ (by rw [ht, hl r hr]) hc]
    exact h r hr
theorem total_addZ {ts : List Int} {ws : List (List Int)} {n : Nat} {c : Int} (hg : ∀ r ∈ ws, Good n 50 r) (ht : ts.length = n) (hc : 0 ≤ c) : totalOf (ts ++ [c]) (addZ ws) (n + 1) = (totalOf ts ws n).map fun v => v + c := by
  have hl : ∀ r ∈ ws, r.length = n := fun r hr => (hg r hr).len
  unfold totalOf
  rw [rooms_addZ hl ht, maxL_add (rooms_ne hg)]
  by_cases e : fulOf ws ts = none
  · rw [if_pos e, if_pos ((ful_addZ hl ht hc).mpr e)]
    rfl
  · rw [if_neg e, if_neg fun z => e ((ful_addZ hl ht hc).mp z)]
    exact congrArg some (by show _ = (1 + maxL (roomsOf ts ws n)) + c; omega)
theorem good_addZ {ws : List (List Int)} {n : Nat} (hg : ∀ r ∈ ws, Good n 50 r) : ∀ r ∈ addZ ws, Good (n + 1) 50 r := fun r hr => by
  obtain ⟨q, hq, rfl⟩ := List.mem_map.mp hr
  have g := hg q hq
  refine ⟨by rw [List.length_append, g.len]; rfl, fun x hx => ?_, ?_⟩
  · rcases List.mem_append.mp hx with h | h
    · exact g.bd x h
    · rw [List.mem_singleton.mp h]
      decide
  · obtain ⟨x, hx, h0⟩ := g.pos
    exact ⟨x, List.mem_append_left _ hx, h0⟩
/-- a count more in each drawer -/
def addC (rows : List (List Int)) (cs : List Int) : List (List Int) := List.zipWith (fun r c => r ++ [c]) rows cs
theorem addC_len {rows : List (List Int)} {cs : List Int} (h : cs.length = rows.length) : (addC rows cs).length = rows.length := by
  unfold addC
  rw [List.length_zipWith]
  omega
theorem addC_mem {rows : List (List Int)} {cs : List Int} {r : List Int} (h : r ∈ addC rows cs) : ∃ q c, q ∈ rows ∧ c ∈ cs ∧ r = q ++ [c] := by
  obtain ⟨i, hi⟩ := List.mem_iff_getElem?.mp h
  unfold addC at hi
  rw [List.getElem?_zipWith] at hi
  cases e1 : rows[i]? with
  | none => rw [e1] at hi; cases hi
  | some q =>
    cases e2 : cs[i]? with
    | none => rw [e1, e2] at hi; cases hi
    | some c =>
      rw [e1, e2] at hi
      exact ⟨q, c, List.mem_of_getElem? e1, List.mem_of_getElem? e2, (Option.some.inj hi).symm⟩
theorem addC_col {n k : Nat} (hk : k < n) : ∀ {rows : List (List Int)} {cs : List Int}, cs.length = rows.length → (∀ r ∈ rows, r.length = n) → (addC rows cs).map (fun r => r.getD k 0) = rows.map fun r => r.getD k 0
  | [], [], _, _ => rfl
  | [], _ :: _, h, _ => by simp at h
  | _ :: _, [], h, _ => by simp at h
  | r :: rows, c :: cs, h, hl => by
    have ih := addC_col hk (rows := rows) (cs := cs) (by simpa using h) fun q hq => hl q (List.mem_cons_of_mem _ hq)
    show (r ++ [c]).getD k 0 :: (addC rows cs).map _ = r.getD k 0 :: _
    rw [ih, getD_snoc (by rw [hl r List.mem_cons_self]; exact hk)]
theorem addC_last {n : Nat} : ∀ {rows : List (List Int)} {cs : List Int}, cs.length = rows.length → (∀ r ∈ rows, r.length = n) → (addC rows cs).map (fun r => r.getD n 0) = cs
  | [], [], _, _ => rfl
  | [], _ :: _, h, _ => by simp at h
  | _ :: _, [], h, _ => by simp at h
  | r :: rows, c :: cs, h, hl => by
    have ih := addC_last (rows := rows) (cs := cs) (by simpa using h) fun q hq => hl q (List.mem_cons_of_mem _ hq)
    show (r ++ [c]).getD n 0 :: (addC rows cs).map _ = c :: _
    rw [ih]
    have e := getD_last (l := r) (x := c)
    rw [hl r List.mem_cons_self] at e
    rw [e]
theorem tot_addC {rows : List (List Int)} {cs : List Int} {n : Nat} (h : cs.length = rows.length) (hl : ∀ r ∈ rows, r.length = n) : totalsOf (addC rows cs) (n + 1) = totalsOf rows n ++ [cs.sum] := by
  unfold totalsOf
  rw [List.range_succ, List.map_append]
  congr 1
  · refine List.map_congr_left fun k hk => ?_
    rw [addC_col (List.mem_range.mp hk) h hl]
  · show [((addC rows cs).map fun r => r.getD n 0).sum] = _
    rw [addC_last h hl]
/-! ### drawers merged -/
def subRows (rows : List (List Int)) (ds : List Nat) : List (List Int) := ds.map fun d => rows.getD d []
theorem tot_nn {rows : List (List Int)} {n : Nat} (hX : ∀ r ∈ rows, ∀ x ∈ r, 0 ≤ x) : ∀ t ∈ totalsOf rows n, 0 ≤ t := fun t ht => by
  obtain ⟨k, _, rfl⟩ := List.mem_map.mp ht
  refine nn_sum fun x hx => ?_
  obtain ⟨r, hr, rfl⟩ := List.mem_map.mp hx
  rw [List.getD_eq_getElem?_getD]
  cases e : r[k]? with
  | none => exact Int.le_refl _
  | some y => exact hX r hr y (List.mem_of_getElem? e)
theorem tot_merge {a b : List Int} {rest : List (List Int)} {n : Nat} : totalsOf (totalsOf [a, b] n :: rest) n = totalsOf (a :: b :: rest) n := by
  refine List.map_congr_left fun k hk => ?_
  have hk := List.mem_range.mp hk
  have e : (totalsOf [a, b] n).getD k 0 = a.getD k 0 + (b.getD k 0 + 0) := by
    unfold totalsOf
    rw [List.getD_eq_getElem?_getD, List.getElem?_map, List.getElem?_range hk]
    rfl
  show (totalsOf [a, b] n).getD k 0 + (rest.map fun r => r.getD k 0).sum = a.getD k 0 + (b.getD k 0 + (rest.map fun r => r.getD k 0).sum)
  rw [e]
  omega
theorem tot_cons_le {a b : List Int} {rest : List (List Int)} {n : Nat} {m : Int} (hX : ∀ r ∈ rest, ∀ x ∈ r, 0 ≤ x) (h : ∀ t ∈ totalsOf (a :: b :: rest) n, t ≤ m) : ∀ t ∈ totalsOf [a, b] n, t ≤ m := fun t ht => by
  obtain ⟨k, hk, rfl⟩ := List.mem_map.mp ht
  have h1 := h _ (List.mem_map.mpr ⟨k, hk, rfl⟩)
  have h2 : 0 ≤ (rest.map fun r => r.getD k 0).sum := nn_sum fun x hx => by
    obtain ⟨r, hr, rfl⟩ := List.mem_map.mp hx
    rw [List.getD_eq_getElem?_getD]
    cases e : r[k]? with
    | none => exact Int.le_refl _
    | some y => exact hX r hr y (List.mem_of_getElem? e)
  have h1 : a.getD k 0 + (b.getD k 0 + (rest.map fun r => r.getD k 0).sum) ≤ m := h1
  show a.getD k 0 + (b.getD k 0 + 0) ≤ m
  omega
theorem plan_sum {rows : List (List Int)} {ps : List Int} {n : Nat} (hrn : ∀ r ∈ rows, r.length = n) (hpl : ps.length = rows.length) (hbd : ∀ j, j < rows.length → 0 ≤ ps.getD j 0 ∧ ps.getD j 0 ≤ sizeAt rows j) : 0 ≤ ps.sum ∧ ps.sum ≤ (totalsOf rows n).sum := by
  rw [tot_sum hrn, ← sizes_range, ← taken_range, hpl]
  have gen : ∀ d : List Nat, (∀ x ∈ d, x < rows.length) → 0 ≤ takenOf ps d ∧ takenOf ps d ≤ (d.map (sizeAt rows)).sum := fun d => by
    induction d with
    | nil => intro _; exact ⟨Int.le_refl _, Int.le_refl _⟩
    | cons a d ih =>
      intro h3
      have h1 := hbd a (h3 a List.mem_cons_self)
      have h2 := ih fun x hx => h3 x (List.mem_cons_of_mem _ hx)
      have e : takenOf ps (a :: d) = ps.getD a 0 + takenOf ps d := by
        unfold takenOf
        rw [List.map_cons, List.sum_cons]
      rw [e, List.map_cons, List.sum_cons]
      omega
  exact gen _ fun x hx => List.mem_range.mp hx
theorem merged_tab {rows ws : List (List Int)} {ps : List Int} {n : Nat} (hX : ∀ r ∈ rows, ∀ x ∈ r, 0 ≤ x) (hrn : ∀ r ∈ rows, r.length = n) (h1 : 1 ≤ rows.length) (hg : ∀ r ∈ ws, Good n 50 r) (hpl : ps.length = rows.length) (hbd : ∀ j, j < rows.length → 0 ≤ ps.getD j 0 ∧ ps.getD j 0 ≤ sizeAt rows j)
    (h : tabB [totalsOf rows n] ws [ps.sum] n = true) : tabB rows ws ps n = true := by
  obtain ⟨v, hv, hle⟩ := (one_tab hg (tot_len _ _) (tot_nn hX) (plan_sum hrn hpl hbd).2).mp h
  exact tab_of h1 hpl hv hle
end DD
namespace DD
open PySem PySem.Spec PyProof.Rows L2 RZ DM
theorem ps_never {X : Cx} {st : Stmt} : PS X st (fun _ _ _ => False) := ⟨fun _ _ _ _ _ _ h => h.elim⟩
/-! ### a call that may raise of a def whose promise is by positional values -/
section
variable {X : Cx} {CX : CXT} {k : Nat} {f : Addr} {sp : Sp} {E : L2.St → XK} {x : Str} {p pos : Pos} {e : Expr} {es : List Expr} {t : TA}
theorem pe_callRS (F : FnR X.prog X.w X.K X.mg X.base CX k f sp) (hr : Room k X.A) (hg : Gl X x) (hm : X.mg x = some (.ref f)) (hk : PySem.W.keepIn X.K (.ref f) = true)
    (hx : ∀ σ, PassesAt CX X σ (E σ)) (ha : PA X (e :: es) t) (hdb : (x == ("__debug__" : Str)) = false := by decide)
    (he : starEach (e :: es) X.env = (false, eval e X.env) :: starEach es X.env := by rfl) (hpl : (backTo pos (starEach es X.env)).any (·.1) = false := by rfl) :
    PE X (.Call (.Name x p) (e :: es) [] pos) (tCallS sp E t) := by
  refine ⟨fun pins s σ H Q I h => wpAny_Call_Name_kw (ld_glob I hg hm ?_ hdb)⟩
  refine PySem.W.callWith_K (h₀ := X.base) I.ok.mod.kin hk
    (thn (ha.run pos pins s σ H _ I h) fun us s1 ⟨vs, H1, I1, r, q⟩ => ⟨I1.kIn, ?_⟩) he hpl
  refine wpAny_call (codeAny_mono (F X.A X.stack s1 H1 us vs Q (E σ) hr I1.env0 r q) fun r s' hq => ?_)
  cases r with
  | error e => exact hx σ pins H1 s1 e s' I1 hq
  | ok fl =>
    cases fl with
    | ret u => exact I1.after hq
    | next => exact hq.elim
    | brk => exact hq.elim
    | cont => exact hq.elim
end

/-- what is left of the drawers 0 .. n - 1 -/
def leftRows (rows : List (List Int)) (ds : List Nat) (tot : List Int) (n : Nat) : List (List Int) :=
  (List.range n).flatMap fun i => if i = ds.headD 0 then [tot] else if i ∈ ds then [] else [rows.getD i []]
theorem leftRows_succ (rows : List (List Int)) (ds : List Nat) (tot : List Int) (n : Nat) :
    leftRows rows ds tot (n + 1) = leftRows rows ds tot n ++ (if n = ds.headD 0 then [tot] else if n ∈ ds then [] else [rows.getD n []]) := by
  unfold leftRows
  rw [List.range_succ, List.flatMap_append]
  simp
/-- the tuples at ls hold the rows -/
structure RowsQ (H : Hp) (ls : List Addr) (rows : List (List Int)) : Prop where
  len : ls.length = rows.length
  row : ∀ (j : Nat) (l : Addr) (r : List Int), ls[j]? = some l → rows[j]? = some r → H l = some (.tup (r.map V.int))
theorem RowsQ.nil {H : Hp} : RowsQ H [] [] := ⟨rfl, fun j l r e => by simp at e⟩
theorem RowsQ.keep {H H' : Hp} {ls : List Addr} {rows : List (List Int)} (a : RowsQ H ls rows) (k : ∀ b xs, H b = some (.tup xs) → H' b = some (.tup xs)) : RowsQ H' ls rows :=
  ⟨a.len, fun j l r e1 e2 => k _ _ (a.row j l r e1 e2)⟩
theorem RowsQ.add {H : Hp} {ls : List Addr} {rows : List (List Int)} {l : Addr} {r : List Int} (a : RowsQ H ls rows) (h : H l = some (.tup (r.map V.int))) : RowsQ H (ls ++ [l]) (rows ++ [r]) := by
  refine ⟨by rw [List.length_append, List.length_append, a.len]; rfl, fun j l' r' x1 x2 => ?_⟩
  by_cases hj : j < ls.length
  · rw [List.getElem?_append_left hj] at x1
    rw [List.getElem?_append_left (by have := a.len; omega)] at x2
    exact a.row j l' r' x1 x2
  · have hj2 : j = ls.length := by
      have := (List.getElem?_eq_some_iff.mp x1).1
      rw [List.length_append] at this
      simp at this
      omega
    subst hj2
    rw [List.getElem?_append_right (Nat.le_refl _), Nat.sub_self] at x1
    rw [a.len, List.getElem?_append_right (Nat.le_refl _), Nat.sub_self] at x2
    obtain rfl : l = l' := Option.some.inj x1
    obtain rfl : r = r' := Option.some.inj x2
    exact h
theorem inV_nats (i : Nat) (ds : List Nat) : inV (V.int ((0 : Int) + (i : Nat))) (ds.map fun d => V.int (d : Nat)) = decide (i ∈ ds) := by
  unfold inV
  rw [List.any_map]
  by_cases h : i ∈ ds
  · rw [decide_eq_true h]
    refine List.any_eq_true.mpr ⟨i, h, ?_⟩
    show eqV (V.int (i : Nat)) (V.int ((0 : Int) + (i : Nat))) = true
    rw [Int.zero_add]
    simp [eqV]
  · rw [decide_eq_false h]
    refine List.any_eq_false.mpr fun x hx => ?_
    show ¬ eqV (V.int (x : Nat)) (V.int ((0 : Int) + (i : Nat))) = true
    rw [Int.zero_add]
    intro e
    have e2 : x = i := by
      have e3 : ((x : Nat) : Int) = ((i : Nat) : Int) := by simpa [eqV] using e
      omega
    exact h (e2 ▸ hx)

abbrev NM : List Str := ["stock", "drawers", "drawer", "totals", "total", "left", "index"]
theorem scMerged : FnScope NM ((["stock"] : List Str) ++ (["drawers"] : List Str)) (defScope sMerged) := ⟨rfl, rfl, rfl, by decide +kernel, rfl, by decide +kernel, by decide +kernel⟩
section
variable {P : Program} {w : World} {K : PySem.W.Frag} {mg : Str → Option Value} {base : Heap}
/-- merged(stock, drawers): the rows that are left -/
def spMerged : Sp := fun vs H Q _ => ∃ (t dp : Addr) (ls : List Addr) (rows : List (List Int)) (m : Nat) (ds : List Nat), vs = [.ref t, .ref dp] ∧ StockAt H t ls rows ∧
  H dp = some (.tup (ds.map fun d => V.int (d : Nat))) ∧ (∀ d ∈ ds, d < rows.length) ∧ 1 ≤ ds.length ∧ ds.length ≤ 4 ∧ rows.length ≤ 4 ∧ (∀ r ∈ rows, r.length = m) ∧ m ≤ 100 ∧
  (∀ y ∈ totalsOf (subRows rows ds) m, y ≤ 50) ∧ (∀ p ls' H', Same H H' → StockAt H' p ls' (leftRows rows ds (totalsOf (subRows rows ds) m) rows.length) → Q (.ref p) H')
/-- its positional form -/
def spMergedR : Sp := fun vs H Q E => ∃ ws rest, vs = ws ++ rest ∧ ws.length = (["stock"] : List Str).length ∧ rest.length ≤ sizeLine ∧ ∀ p, H p = none → spMerged (ws ++ [V.ref p]) (upd H p (.tup rest)) Q E
theorem ok_merged {f fN fU fTu fA fIk fEr fO fSz fMg fFu fCo fSp fCa fI fR fFc fLo fSo fOv fDw fSv fIs fSt fSn fDk fD fCu fS fWh fKr fDv fWr : Addr} {fd dN dU dTu dA dIk dEr dO dSz dMg dFu dCo dSp dCa dI dR dFc dLo dSo dOv dDw dSv dIs dSt dSn dDk dD dCu dS dWh dKr dDv dWr : FuncData} {k : Nat} (F : Fun K "merged" "merged" sMerged f fd) (T : Tx K mg fN fU fTu fA fIk fEr fO fSz fMg fFu fCo fSp fCa fI fR fFc fLo fSo fOv fDw fSv fIs fSt fSn fDk fD fCu fS fWh fKr fDv fWr dN dU dTu dA dIk dEr dO dSz dMg dFu dCo dSp dCa dI dR dFc dLo dSo dOv dDw dSv dIs dSt dSn dDk dD dCu dS dWh dKr dDv dWr) : FnR P w K mg base CX0 (k + 2) f spMergedR := by
  have GT : FnOk P w K mg base CX0 (k + 1) fO dO ["stock"] (spTotals K) := ok_totals T.O T.m_tuple T.m_sum T.m_zip
  obtain ⟨tkM, hM⟩ := T.mxc
  obtain ⟨oc, od, kV, doc, pm, an, cdv, ct, osl, rfl, lk, hcd⟩ := F.ex
  refine StX.fn_star (ps := ["stock"]) (pv := "drawers") lk hcd scMerged (by exact StX.cxUp_none) (StX.bind_star1 (B := fun us => bindArgs _ ⟨us, []⟩) (fun a => rfl) (fun a r rs => rfl)) fun A outer s H vs Q E hr h => ?_
  obtain ⟨t, dp, ls, rows, m, ds, rfl, st, hdp, hds, hd1, hd4, hr4, hrm, hm, hle50, qN⟩ := h
  refine ⟨_, pss_cons (ps_set (i := 3) scMerged.nd rfl (.inl rfl) (pe_call GT (hr.mono (by omega)) (by rfl) T.gO T.O.kp T.bO .nil pass0 (pa_cons (pe_lc (own := [("drawer", 2)]) (g := gName 2) rfl scMerged.nd (pi_tup (pv 1))
        (blkOk_by (own := [("drawer", 2)]) (N := NM) (sc := defScope sMerged) (by decide +kernel)) (fun _ _ _ _ _ => pg_name (i := 2) scMerged.nd rfl (Or.inl rfl)) (fun _ _ _ _ _ => pts_nil)
        (fun _ _ _ _ _ => pe_ix (show IxR _ (rIxT K) from ix_tup) (pv 0) (pv 2) (fun _ _ => rfl))) pa_nil)))
    (pss_cons (ps_for (passes_of rfl) rfl (pi_tup (pv 3)) (pg_name (i := 4) scMerged.nd rfl (.inl rfl))
        (pss_one (ps_if (pt_cmpR op_gt (pv 4) (pe_glob (v := .int 50) rfl hM ⟨_, rfl⟩) (nomark _))
          (pss_one ps_never) pss_nil)))
    (pss_cons (ps_set (i := 5) scMerged.nd rfl (.inl rfl) (pe_lst pa_nil))
    (pss_cons (ps_for (passes_of rfl) rfl (pi_enumT (by rfl) T.m_enumerate (pa_cons (pv 0) pa_nil)) (pg_tup rfl (pgs_cons (pg_name (i := 6) scMerged.nd rfl (.inl rfl)) (pgs_cons (pg_name (i := 2) scMerged.nd rfl (.inl rfl)) pgs_nil)))
        (pss_one (ps_if (pt_cmpR op_eq (pv 6) (pe_ix ix_tup (pv 1) pe_int (fun _ _ => rfl)) (nomark _))
          (pss_one (ps_expr (pe_bm PySem.F.plainAttrs_list PySem.F.slot_list_append PySem.F.type_list_append mt_append (pv 5) (pa_cons (pv 3) pa_nil))))
          (pss_one (ps_if (pt_cmpR op_notIn_seq (pv 6) (pv 1) (by rfl))
            (pss_one (ps_expr (pe_bm PySem.F.plainAttrs_list PySem.F.slot_list_append PySem.F.type_list_append mt_append (pv 5) (pa_cons (pv 2) pa_nil)))) pss_nil)))))
    (pss_one (ps_ret (pe_callTy call_tuple_of (by rfl) T.m_tuple (by decide +kernel) (pa_cons (pv 5) pa_nil))))))), ?_⟩
  refine ⟨.ref dp, rfl, dp, rfl, ⟨_, SqT.of hdp⟩, fun D nD => ?_⟩
  refine lc_tup (xs := ds.map fun d => V.int (d : Nat)) (fun i H' => H' D = some (.lst (((ds.map fun d => ls.getD d 0).take i).map V.ref)) ∧ Same H H') ⟨upd_same, same_new nD⟩ (fun i H' _ h => SqT.of (h.2 _ _ hdp)) (fun i x H' hx h => ?_) (fun H' h => ?_)
  · obtain ⟨hD, sm⟩ := h
    obtain ⟨d, hd, rfl⟩ := get_map hx
    have hdl : d < ls.length := by
      rw [st.len]
      exact hds d (List.mem_of_getElem? hd)
    have hls : (ls.map V.ref)[d]? = some (.ref (ls.getD d 0)) := by
      rw [List.getElem?_map, List.getD_eq_getElem?_getD, List.getElem?_eq_getElem hdl]
      rfl
    have hs2 : (ds.map fun d => ls.getD d 0)[i]? = some (ls.getD d 0) := by
      rw [List.getElem?_map, hd]
      rfl
    refine ⟨rfl, .ref t, rfl, .int (d : Nat), rfl, t, _, (d : Nat), _, rfl, rfl, SqT.of (sm _ _ st.top), atI_nat hls, _, hD, ?_, ?_, fun b o e => ?_⟩
    · rw [List.length_map, List.length_take]
      refine len_lt ?_
      rw [List.length_map]
      omega
    · rw [upd_same, take_succ_map hs2]
    · rw [upd_ne (ne_of_none e nD)]
      exact sm b o e
  · obtain ⟨hD, sm⟩ := h
    rw [List.take_of_length_le (by simp)] at hD
    have sub_at : ∀ (j : Nat) (l : Addr) (r : List Int), (ds.map fun d => ls.getD d 0)[j]? = some l → (subRows rows ds)[j]? = some r → H l = some (.tup (r.map V.int)) ∧ r.length = m := by
      intro j l r e1 e2
      obtain ⟨d, hd, rfl⟩ := get_map e1
      obtain ⟨d', hd', rfl⟩ := get_map e2
      rw [hd] at hd'
      cases hd'
      have hdr := hds d (List.mem_of_getElem? hd)
      have hdl : d < ls.length := by rw [st.len]; exact hdr
      have e3 : ls[d]? = some (ls.getD d 0) := by
        rw [List.getD_eq_getElem?_getD, List.getElem?_eq_getElem hdl]
        rfl
      have e4 : rows[d]? = some (rows.getD d []) := by
        rw [List.getD_eq_getElem?_getD, List.getElem?_eq_getElem hdr]
        rfl
      exact ⟨st.row d _ _ e3 e4, hrm _ (List.mem_of_getElem? e4)⟩
    refine ⟨D, ds.map fun d => ls.getD d 0, subRows rows ds, m, rfl, .inr (SqL.of hD), by simp [subRows], fun j l r e1 e2 => ⟨sm _ _ (sub_at j l r e1 e2).1, (sub_at j l r e1 e2).2⟩, fun z => absurd (congrArg List.length z) (by rw [show (subRows rows ds).length = ds.length by simp [subRows]]; show ds.length ≠ 0; omega), by simp [subRows]; exact hd4, hm, fun pT HT smT nT hT => ?_⟩
    have s1 : Same H HT := sm.trans smT
    -- for total in totals
    refine ⟨.ref pT, rfl, pT, rfl, ⟨_, SqT.of hT⟩, ?_⟩
    refine for_tup (xs := (totalsOf (subRows rows ds) m).map V.int) (fun i σ H' => ∃ y2 y4, σ = [some (.ref t), some (.ref dp), y2, some (.ref pT), y4, none, none] ∧ H' = HT ∧ ∀ y ∈ (totalsOf (subRows rows ds) m).take i, ¬ 50 < y)
      ⟨none, none, rfl, rfl, fun y hy => by simp at hy⟩ (fun i σ H' _ h => by obtain ⟨y2, y4, _, rfl, _⟩ := h; exact SqT.of hT) (fun i x σ H' hx h => ?_) (fun σ H' h => ?_)
    · obtain ⟨y2, y4, rfl, rfl, hle⟩ := h
      obtain ⟨z, hz, rfl⟩ := get_map hx
      refine ⟨_, rfl, z, 50, rfl, rfl, _, rfl, ite2 (fun e => ?_) (fun e => ?_)⟩
      · have hb : 50 < z := of_decide_eq_true e
        have := hle50 z (List.mem_of_getElem? hz)
        exact absurd hb (by omega)
      · refine ⟨y2, some (.int z), rfl, rfl, fun y hy => ?_⟩
        rw [List.take_add_one, hz] at hy
        rcases List.mem_append.mp hy with h | h
        · exact hle y h
        · rw [List.mem_singleton.mp h]
          exact fun hb => e (decide_eq_true hb)
    · obtain ⟨y2, y4, rfl, rfl, hle⟩ := h
      rw [List.length_map, List.take_length] at hle
      -- left = []
      refine ⟨Nat.zero_le _, fun L nL => ?_⟩
      have s2 : Same H (upd H' L (.lst [])) := s1.trans (same_new nL)
      -- for index, drawer in enumerate(stock)
      refine ⟨.ref t, rfl, t, _, rfl, SqT.of (s2 _ _ st.top), ?_⟩
      have hL0 : H L = none := s1.free nL
      refine for_enT (xs := ls.map V.ref) (c := 0) (fun i σ H2 => ∃ (y2 y4 y6 : Option V) (ls' : List Addr), σ = [some (.ref t), some (.ref dp), y2, some (.ref pT), y4, some (.ref L), y6] ∧ Same H H2 ∧
          H2 pT = some (.tup ((totalsOf (subRows rows ds) m).map V.int)) ∧ H2 L = some (.lst (ls'.map V.ref)) ∧ RowsQ H2 ls' (leftRows rows ds (totalsOf (subRows rows ds) m) i) ∧ ls'.length ≤ i)
        ⟨y2, y4, none, [], rfl, s2, same_new nL _ _ hT, upd_same, RowsQ.nil, Nat.le_refl _⟩ (fun i σ H2 _ h => by obtain ⟨y2, y4, y6, ls', _, s3, _⟩ := h; exact SqT.of (s3 _ _ st.top)) (fun i x T σ H2 hx h nT => ?_) (fun σ H2 h => ?_)
      · obtain ⟨y2, y4, y6, ls', rfl, s3, hp3, hL, hR, hlen⟩ := h
        obtain ⟨l, hl, rfl⟩ := get_map hx
        have hil : i < rows.length := by
          have := (List.getElem?_eq_some_iff.mp hl).1
          have := st.len
          omega
        have hrow : rows[i]? = some (rows.getD i []) := by
          rw [List.getD_eq_getElem?_getD, List.getElem?_eq_getElem hil]
          rfl
        have sT : Same H2 (upd H2 T (.tup [.int ((0 : Int) + (i : Nat)), .ref l])) := same_new nT
        have hL3 := sT _ _ hL
        have s4 : Same H (upd H2 T (.tup [.int ((0 : Int) + (i : Nat)), .ref l])) := s3.trans sT
        have hR3 : RowsQ (upd H2 T (.tup [.int ((0 : Int) + (i : Nat)), .ref l])) ls' (leftRows rows ds (totalsOf (subRows rows ds) m) i) := hR.keep fun b xs e => sT _ _ e
        have hp4 := sT _ _ hp3
        have hrowl := s4 _ _ (st.row i l _ hl hrow)
        have hd0 : (ds.map fun d => V.int (d : Nat))[0]? = some (.int (ds.headD 0 : Nat)) := by
          cases ds with
          | nil => simp at hd1
          | cons d r => rfl
        refine ⟨T, [.int ((0 : Int) + (i : Nat)), .ref l], rfl, .inl (.inl upd_same), rfl, .int ((0 : Int) + (i : Nat)), [.ref l], rfl, .ref l, [], rfl, rfl, ?_⟩
        generalize upd H2 T (.tup [.int ((0 : Int) + (i : Nat)), .ref l]) = H3 at sT hL3 s4 hR3 hp4 hrowl ⊢
        have size_ok : (ls'.map V.ref).length < sizeLine := by
          rw [List.length_map]
          exact len_lt (by omega)
        -- what an append to left leaves
        have added : ∀ (y : Addr) (r : List Int), H3 y = some (.tup (r.map V.int)) → Same H (upd H3 L (.lst (ls'.map V.ref ++ [.ref y]))) ∧ (upd H3 L (.lst (ls'.map V.ref ++ [.ref y]))) pT = some (.tup ((totalsOf (subRows rows ds) m).map V.int)) ∧
            (upd H3 L (.lst (ls'.map V.ref ++ [.ref y]))) L = some (.lst ((ls' ++ [y]).map V.ref)) ∧ RowsQ (upd H3 L (.lst (ls'.map V.ref ++ [.ref y]))) (ls' ++ [y]) (leftRows rows ds (totalsOf (subRows rows ds) m) i ++ [r]) := by
          intro y r hy
          have kt : ∀ b xs, H3 b = some (.tup xs) → (upd H3 L (.lst (ls'.map V.ref ++ [.ref y]))) b = some (.tup xs) := fun b xs e => by
            rw [upd_ne (fun z => by rw [z, hL3] at e; cases e)]
            exact e
          refine ⟨fun b o e => ?_, kt _ _ hp4, ?_, (hR3.keep kt).add (kt _ _ hy)⟩
          · rw [upd_ne (ne_of_none e hL0)]
            exact s4 b o e
          · rw [upd_same, List.map_append]
            rfl
        refine ⟨_, rfl, .ref dp, rfl, dp, _, (0 : Nat), .int (ds.headD 0 : Nat), rfl, rfl, SqT.of (s4 _ _ hdp), atI_nat hd0, rfl, _, rfl, ite2 (fun e => ?_) (fun e => ?_)⟩
        · have e1 : ((0 : Int) + (i : Nat)) = (ds.headD 0 : Nat) := V.int.inj (of_decide_eq_true e)
          have e2 : i = ds.headD 0 := by omega
          obtain ⟨g1, g2, g3, g4⟩ := added pT _ hp4
          refine ⟨.ref L, rfl, .inl ⟨rfl, _, SqL.of hL3⟩, .ref pT, rfl, L, _, _, rfl, rfl, hL3, size_ok, _, _, _, ls' ++ [pT], rfl, g1, g2, g3, ?_, by rw [List.length_append]; show _ + 1 ≤ _; omega⟩
          rw [leftRows_succ, if_pos e2]
          exact g4
        · have e2 : ¬ i = ds.headD 0 := fun z => e (decide_eq_true (by rw [← z, Int.zero_add]))
          refine ⟨_, rfl, .ref dp, rfl, dp, _, rfl, .inr (SqT.of (s4 _ _ hdp)), rfl, ?_, _, rfl, ?_⟩
          · rw [List.all_map]
            exact List.all_eq_true.mpr fun x _ => rfl
          · rw [inV_nats]
            by_cases hin : i ∈ ds
            · rw [decide_eq_true hin]
              refine iteF ⟨_, _, _, ls', rfl, s4, hp4, hL3, ?_, by omega⟩
              rw [leftRows_succ, if_neg e2, if_pos hin, List.append_nil]
              exact hR3
            · rw [decide_eq_false hin]
              obtain ⟨g1, g2, g3, g4⟩ := added l _ hrowl
              refine iteT ⟨.ref L, rfl, .inl ⟨rfl, _, SqL.of hL3⟩, .ref l, rfl, L, _, _, rfl, rfl, hL3, size_ok, _, _, _, ls' ++ [l], rfl, g1, g2, g3, ?_, by rw [List.length_append]; show _ + 1 ≤ _; omega⟩
              rw [leftRows_succ, if_neg e2, if_neg hin]
              exact g4
      · obtain ⟨y2, y4, y6, ls', rfl, s3, hp3, hL, hR, hlen⟩ := h
        rw [List.length_map, st.len] at hR
        refine ⟨.ref L, rfl, L, _, rfl, .inl ⟨SqL.of hL, fun p np => ?_⟩⟩
        exact qN p ls' _ (s3.trans (same_new np)) ⟨upd_same, hR.len, fun j l r e1 e2 => same_new np _ _ (hR.row j l r e1 e2)⟩
end
end DD
namespace DD
open PySem PySem.Spec PyProof.Rows L2

/-! ### slices and sums of tuples, whatever the object -/
theorem scWishes : FnScope ["_law_deck_here", "_law_most", "_law_high", "_law_kinds", "_law_found", "_law_k", "_law_needed", "_law_spot"] ["_law_deck_here", "_law_most", "_law_high", "_law_kinds"] (defScope sWishes) := ⟨rfl, rfl, rfl, by decide +kernel, rfl, by decide +kernel, by decide +kernel⟩
section
variable {P : Program} {w : World} {K : PySem.W.Frag} {mg : Str → Option Value} {base : Heap}
/-- one to M collections for n kinds, of numbers from 0 to hi -/
def spWishes : Sp := fun vs H Q _ => ∃ (dk c : Addr) (B M n : Nat) (hi : Int), vs = [.ref dk, .int M, .int hi, .int n] ∧ Deck H dk c B ∧ 1 ≤ M ∧ M ≤ 4 ∧ 1 ≤ n ∧ n ≤ 4 ∧ B + 60 ≤ 1000000 ∧ 1 ≤ hi ∧ hi ≤ 900 ∧
  ∀ t (ls : List Addr) (rows : List (List Int)) H', 1 ≤ rows.length → rows.length ≤ M → (∀ row ∈ rows, Good n hi row) → StockAt H' t ls rows → Kp2 dk c H H' → Deck H' dk c (B + 60) → Q (.ref t) H'
theorem ok_wishes {f fD fC : Addr} {fd fdD fdC : FuncData} {k : Nat} (F : Fun K "_law_wishes" "_law_wishes" sWishes f fd) (FD : Fun K "_law_draw" "_law_draw" sDraw fD fdD) (FC : Fun K "_law_counts" "_law_counts" sCounts fC fdC)
    (bD : Binds K fdD ["_law_deck_here", "_law_limit"] []) (gD : mg "_law_draw" = some (.ref fD)) (bC : Binds K fdC ["_law_deck_here", "_law_kinds", "_law_most"] []) (gC : mg "_law_counts" = some (.ref fC))
    (ml : mg "len" = none) (mt : mg "tuple" = none) (mr : mg "range" = none) (mx : mg "max" = none) :
    FnOk P w K mg base CX0 (k + 3) f fd ["_law_deck_here", "_law_most", "_law_high", "_law_kinds"] spWishes := by
  have GD : FnOk P w K mg base CX0 (k + 1) fD fdD ["_law_deck_here", "_law_limit"] spDraw := ok_draw FD ml
  have GC : FnOk P w K mg base CX0 (k + 2) fC fdC ["_law_deck_here", "_law_kinds", "_law_most"] spCounts := ok_counts FC FD bD gD ml mt mr
  refine F.ok scWishes (fun vs H Q E h => ?_) (fun cdv A outer s H vs Q E hr h => ?_)
  · obtain ⟨dk, c, B, M, n, hi, rfl, _⟩ := h
    rfl
  · obtain ⟨dk, c, B, M, n, hi, rfl, dek, hM1, hM4, hn1, hn, hB, h0, h9, q⟩ := h
    refine ⟨_, pss_cons (ps_set (i := 4) scWishes.nd rfl (.inl rfl) (pe_lst pa_nil))
      (pss_cons (ps_for PassesOwn.never rfl (pi_range1 (by rfl) mr (pa_cons (pe_ix (show IxR _ (rIxL K) from ix_list)
          (pe_lst (pa_cons (pe_op op_add pe_int (pe_call GD (hr.mono (by omega)) (by rfl) gD FD.kp bD .nil pass0 (pa_cons (pv 0) (pa_cons (pv 1) pa_nil)))) (pa_cons (pv 1) pa_nil)))
          (pe_call GD (hr.mono (by omega)) (by rfl) gD FD.kp bD .nil pass0 (pa_cons (pv 0) (pa_cons pe_int pa_nil))) (fun _ _ => rfl)) pa_nil)) (pg_name (i := 5) scWishes.nd rfl (.inl rfl))
        (pss_cons (ps_par (i := 6) (j := 7) (by rfl) scWishes.nd rfl rfl (by decide) rfl rfl
            (pa_cons (pe_call GC hr (by rfl) gC FC.kp bC .nil pass0 (pa_cons (pv 0) (pa_cons (pv 3) (pa_cons (pv 2) pa_nil))))
            (pa_cons (pe_call GD (hr.mono (by omega)) (by rfl) gD FD.kp bD .nil pass0 (pa_cons (pv 0) (pa_cons (pv 3) pa_nil))) pa_nil)) (by rfl))
        (C8.pss_cut (ps_if (pt_cmpR op_eq (pe_callB (show CallR _ _ (rMaxT K) from cr_maxT rfl) (by rfl) mx (by decide +kernel) (pa_cons (pv 6) pa_nil)) pe_int (nomark _))
            (pss_one (ps_set (i := 6) scWishes.nd rfl (.inl rfl) (pe_op op_catA (pe_op op_catA (pe_slice sl_tupA (pv 6) po_none (po_some (pv 7)))
              (pe_tup (pa_cons (pe_op op_add pe_int (pe_call GD (hr.mono (by omega)) (by rfl) gD FD.kp bD .nil pass0 (pa_cons (pv 0) (pa_cons (pv 2) pa_nil)))) pa_nil)))
              (pe_slice sl_tupA (pv 6) (po_some (pe_op op_add (pv 7) pe_int)) po_none)))) pss_nil)
        (pss_cons (ps_expr (pe_bm PySem.F.plainAttrs_list PySem.F.slot_list_append PySem.F.type_list_append mt_append (pv 4) (pa_cons (pv 6) pa_nil)))
        (pss_one (ps_if (pt_cmpR op_eq (pe_call GD (hr.mono (by omega)) (by rfl) gD FD.kp bD .nil pass0 (pa_cons (pv 0) (pa_cons pe_int pa_nil))) pe_int (nomark _))
            (pss_one (ps_asg (pe_ix ix_list (pv 4) pe_int (fun _ _ => rfl)) (pg_sub (pv 4) (pe_un un_neg pe_int) set_list))) pss_nil))))))
      (pss_one (ps_ret (pe_callTy call_tuple_of (by rfl) mt (by decide +kernel) (pa_cons (pv 4) pa_nil))))), ?_⟩
    -- _law_found = []
    refine ⟨by show 0 ≤ sizeLine; decide, fun fl nfl => ?_⟩
    have fne := dek.nedk nfl
    have d0 := dek.kp (o := .lst []) nfl
    have k0 : Kp2 dk c H (upd H fl (.lst [])) := kps (same_new nfl)
    -- range([1 + draw(most), most][draw(2)])
    refine ⟨_, rfl, _, rfl, dk, c, B, M, rfl, d0, by omega, by omega, by omega, fun r1 H1 a0 a1 k1 d1 => ?_⟩
    refine ⟨1, r1, rfl, rfl, _, rfl, by show 2 ≤ sizeLine; decide, fun l nl => ?_⟩
    refine ⟨_, rfl, dk, c, B + 1, 2, rfl, d1.kp nl, by omega, by decide, by decide, fun r2 H2 b0 b1 k2 d2 => ?_⟩
    have lne := d1.nedk nl
    have hl2 : H2 l = some (.lst [V.int (1 + r1), V.int M]) := k2 _ _ lne.1 lne.2 upd_same
    have hf1 : H1 fl = some (.lst []) := k1 _ _ fne.1 fne.2 upd_same
    have hf2 : H2 fl = some (.lst []) := k2 _ _ fne.1 fne.2 (same_new nl _ _ hf1)
    obtain ⟨z, hz, ez⟩ := two_at (a := 1 + r1) (b := M) b0 b1
    have k02 : Kp2 dk c H H2 := k0.trans (k1.trans ((kps (same_new nl)).trans k2))
    refine ⟨l, _, r2, .int z, rfl, rfl, SqL.of hl2, ez, ?_⟩
    obtain ⟨cnt, rfl, hc1, hc4⟩ : ∃ cnt : Nat, z = (cnt : Int) ∧ 1 ≤ cnt ∧ cnt ≤ M := by
      rcases hz with rfl | rfl
      · exact ⟨(1 + r1).toNat, by omega, by omega, by omega⟩
      · exact ⟨M, rfl, hM1, Nat.le_refl _⟩
    refine ⟨_, rfl, by omega, by omega, ?_⟩
    refine for_range (lo := 0) (n := cnt) (fun i σ H' => ∃ (ls : List Addr) (rows : List (List Int)) (y5 y6 y7 : Option V), σ = [some (.ref dk), some (.int M), some (.int hi), some (.int n), some (.ref fl), y5, y6, y7] ∧
        rows.length = i ∧ (∀ row ∈ rows, Good n hi row) ∧ ls.length = rows.length ∧ RowsAt H' ls rows ∧ H' fl = some (.lst (ls.map V.ref)) ∧ Kp2 dk c H H' ∧ Deck H' dk c (B + 2 + 12 * i))
      ⟨[], [], none, none, none, rfl, rfl, (fun x h => by cases h), rfl, (fun j l r e => by simp at e), hf2, k02, d2.up (by omega)⟩ (fun i σ Ha hi' h => ?_) (fun σ Ha h => ?_)
    · obtain ⟨ls, rows, y5, y6, y7, rfl, hl, hrow, hll, hat, hF, kp, da⟩ := h
      -- _law_needed, _law_spot = ..
      refine ⟨_, rfl, _, rfl, _, rfl, dk, c, B + 2 + 12 * i, n, hi, rfl, da, by omega, by omega, by omega, h9, fun t row Hb e1 e2 e3 e4 kb db => ?_⟩
      refine ⟨_, rfl, _, rfl, dk, c, B + 2 + 12 * i + 2 * n, n, rfl, db, by omega, by omega, by omega, fun s Hc s0 s1 kc dc => ?_⟩
      obtain ⟨sp, rfl⟩ : ∃ sp : Nat, s = (sp : Int) := ⟨s.toNat, by omega⟩
      have ht : Hc t = some (.tup (row.map V.int)) := tup_kp e4 db kc
      have kac : Kp2 dk c Ha Hc := kb.trans kc
      have hFc : Hc fl = some (.lst (ls.map V.ref)) := kac _ _ fne.1 fne.2 hF
      refine ⟨_, _, rfl, ?_⟩
      -- if max(_law_needed) == 0
      refine ⟨fun σ' H' => ∃ (t' : Addr) (row' : List Int), σ' = [some (.ref dk), some (.int M), some (.int hi), some (.int n), some (.ref fl), some (.int ((0 : Int) + i)), some (.ref t'), some (.int sp)] ∧ Good n hi row' ∧
        H' t' = some (.tup (row'.map V.int)) ∧ Kp2 dk c Ha H' ∧ Deck H' dk c (B + 2 + 12 * i + 10), ?_, ?_⟩
      · refine ⟨.ref t, rfl, t, row, rfl, SqT.of ht, by omega, fun m hm hmx => ⟨rfl, _, rfl, ite2 (fun e => ?_) (fun e => ?_)⟩⟩
        · refine ⟨.ref t, rfl, .int sp, rfl, sp, rfl, sl_gen ht fun pa Hd sm1 h1 => ?_⟩
          rw [cut_to] at h1
          have dd := dc.keep sm1
          have htd := sm1 _ _ ht
          refine ⟨_, rfl, _, rfl, dk, c, _, hi, rfl, dd, by omega, h0, by omega, fun r He r0 r1' ke de => ⟨1, r, rfl, rfl, ?_⟩⟩
          have h1e := tup_kp h1 dd ke
          have hte := tup_kp htd dd ke
          refine ⟨by show 1 ≤ sizeLine; decide, fun pb nb => ?_⟩
          have sb : Same He (upd He pb (.tup [V.int (1 + r)])) := same_new nb
          refine cat_gen (ys := [V.int (1 + r)]) (sb _ _ h1e) upd_same (by rw [List.length_map, List.length_take]; show _ + 1 ≤ 1000; omega) fun pc Hf sm2 h2 => ?_
          refine ⟨.ref t, rfl, .int sp, rfl, sp, 1, rfl, rfl, (sp : Int) + 1, rfl, ?_⟩
          dsimp only [tNoPart]
          refine sl_gen (sm2 _ _ (sb _ _ hte)) fun pd Hg sm3 h3 => ?_
          rw [show ((sp : Int) + 1) = ((sp + 1 : Nat) : Int) from rfl, cut_from] at h3
          refine cat_gen (sm3 _ _ h2) h3 (by simp only [List.length_append, List.length_map, List.length_take, List.length_drop, List.length_cons, List.length_nil]; omega) fun pe Hh sm4 h4 => ?_
          have sme : Same He Hh := sb.trans (sm2.trans (sm3.trans sm4))
          refine ⟨pe, row.take sp ++ [1 + r] ++ row.drop (sp + 1), rfl, ⟨?_, fun x hx => ?_, 1 + r, by simp, by omega⟩, ?_, kac.trans ((kps sm1).trans (ke.trans (kps sme))), (de.keep sme).up (by omega)⟩
          · simp only [List.length_append, List.length_take, List.length_drop, List.length_cons, List.length_nil]
            omega
          · rcases List.mem_append.mp hx with h | h
            · rcases List.mem_append.mp h with h | h
              · exact e2 x (List.mem_of_mem_take h)
              · rw [List.mem_singleton.mp h]
                omega
            · exact e2 x (List.mem_of_mem_drop h)
          · rw [h4]
            simp [List.map_append]
        · have hm0 : m ≠ 0 := fun z => by simp [z] at e
          exact ⟨t, row, rfl, ⟨e1, e2, m, hm, by have := (e2 m hm).1; omega⟩, ht, kac, dc.up (by omega)⟩
      · rintro σ' H' ⟨t', row', rfl, good, ht', kp', d'⟩
        have hFd : H' fl = some (.lst (ls.map V.ref)) := kp' _ _ fne.1 fne.2 hF
        have hat' : RowsAt H' ls rows := hat.kp da kp'
        have tne : t' ≠ fl := fun z => by rw [z, hFd] at ht'; cases ht'
        have hlen : (ls.map V.ref).length < sizeLine := by rw [List.length_map]; exact len_lt (by omega)
        -- _law_found.append(_law_needed)
        refine ⟨.ref fl, rfl, .inl ⟨rfl, _, SqL.of hFd⟩, .ref t', rfl, fl, _, .ref t', rfl, rfl, hFd, hlen, ?_⟩
        have hF1 : (upd H' fl (.lst (ls.map V.ref ++ [.ref t']))) fl = some (.lst ((ls ++ [t']).map V.ref)) := by
          rw [upd_same, List.map_append]
          rfl
        have hat1 : RowsAt (upd H' fl (.lst (ls.map V.ref ++ [.ref t']))) (ls ++ [t']) (rows ++ [row']) := (hat'.snoc hll ht').updL hFd
        have d1' : Deck (upd H' fl (.lst (ls.map V.ref ++ [.ref t']))) dk c (B + 2 + 12 * i + 10) := d'.updD fne.1 fne.2
        have kp1 : Kp2 dk c H (upd H' fl (.lst (ls.map V.ref ++ [.ref t']))) := (kp.trans kp').updF nfl
        generalize hHi : upd H' fl (.lst (ls.map V.ref ++ [.ref t'])) = Hi at hF1 hat1 d1' kp1 ⊢
        have hgood : ∀ r' ∈ rows ++ [row'], Good n hi r' := fun r' hr' => by
          rcases List.mem_append.mp hr' with h | h
          · exact hrow r' h
          · rw [List.mem_singleton.mp h]
            exact good
        -- if _law_draw(_law_deck_here, 6) == 0
        refine ⟨_, rfl, dk, c, _, 6, rfl, d1', by omega, by decide, by decide, fun r Hj r0 r1' kj dj => ⟨rfl, _, rfl, ite2 (fun e => ?_) (fun e => ?_)⟩⟩
        · have hFj : Hj fl = some (.lst ((ls ++ [t']).map V.ref)) := kj _ _ fne.1 fne.2 hF1
          have hatj : RowsAt Hj (ls ++ [t']) (rows ++ [row']) := hat1.kp d1' kj
          obtain ⟨l0, hl0⟩ : ∃ l0, (ls ++ [t'])[0]? = some l0 := ⟨(ls ++ [t'])[0]'(by simp), List.getElem?_eq_getElem _⟩
          obtain ⟨r0', hr0⟩ : ∃ r0', (rows ++ [row'])[0]? = some r0' := ⟨(rows ++ [row'])[0]'(by simp), List.getElem?_eq_getElem _⟩
          have hg0 : ((ls ++ [t']).map V.ref)[0]? = some (.ref l0) := by
            rw [List.getElem?_map, hl0]
            rfl
          have hln : ((ls ++ [t']).map V.ref).length = ls.length + 1 := by simp
          have hix : ixN ((ls ++ [t']).map V.ref).length (-1) = some ls.length := by
            rw [hln]
            unfold ixN
            rw [if_neg (by decide), if_pos (by omega)]
            congr 1
            omega
          refine ⟨.ref fl, rfl, fl, _, 0, .ref l0, rfl, rfl, SqL.of hFj, atI_nat (j := 0) hg0, .ref fl, rfl, 1, rfl, fl, _, -1, ls.length, rfl, rfl, hFj, hix, ?_⟩
          have hset : ((ls ++ [t']).map V.ref).set ls.length (.ref l0) = (ls ++ [l0]).map V.ref := by
            rw [List.map_append, List.map_append, List.set_append_right _ _ (by simp)]
            simp
          rw [hset]
          refine ⟨ls ++ [l0], rows ++ [r0'], _, _, _, rfl, ?_, ?_, ?_, ?_, upd_same, (kp1.trans kj).updF nfl, (dj.updD fne.1 fne.2).up (by omega)⟩
          · rw [List.length_append, hl]
            rfl
          · intro r' hr'
            rcases List.mem_append.mp hr' with h | h
            · exact hrow r' h
            · rw [List.mem_singleton.mp h]
              exact hgood _ (List.mem_of_getElem? hr0)
          · rw [List.length_append, List.length_append, hll]
            rfl
          · exact RowsAt.updL ((hatj.init).snoc hll (hatj 0 l0 r0' hl0 hr0)) hFj
        · refine ⟨ls ++ [t'], rows ++ [row'], _, _, _, rfl, ?_, hgood, ?_, hat1.kp d1' kj, kj _ _ fne.1 fne.2 hF1, kp1.trans kj, dj.up (by omega)⟩
          · rw [List.length_append, hl]
            rfl
          · rw [List.length_append, List.length_append, hll]
            rfl
    · obtain ⟨ls, rows, y5, y6, y7, rfl, hl, hrow, hll, hat, hF, kp, da⟩ := h
      refine ⟨.ref fl, rfl, fl, _, rfl, .inl ⟨SqL.of hF, fun t nt => ?_⟩⟩
      exact q t ls rows _ (by omega) (by omega) hrow ⟨upd_same, hll, hat.same (same_new nt)⟩ (kp.trans (kps (same_new nt))) ((da.kp nt).up (by omega))
end
end DD
namespace DD
open PySem PySem.Spec PyProof.Rows L2 RZ DM
theorem scStock : FnScope ["_law_deck_here", "_law_most", "_law_high", "_law_kinds", "_law_count", "_law_k"] ["_law_deck_here", "_law_most", "_law_high", "_law_kinds"] (defScope sStock) := ⟨rfl, rfl, rfl, by decide +kernel, rfl, by decide +kernel, by decide +kernel⟩
section
variable {P : Program} {w : World} {K : PySem.W.Frag} {mg : Str → Option Value} {base : Heap}
/-- a stock of one to M drawers of n kinds, of numbers from 0 to hi -/
def spStock : Sp := fun vs H Q _ => ∃ (dk c : Addr) (B M n : Nat) (hi : Int), vs = [.ref dk, .int M, .int hi, .int n] ∧ Deck H dk c B ∧ 1 ≤ M ∧ M ≤ 4 ∧ n ≤ 4 ∧ B + 40 ≤ 1000000 ∧ 0 ≤ hi ∧ hi ≤ 900 ∧
  ∀ t (ls : List Addr) (rows : List (List Int)) H', 1 ≤ rows.length → rows.length ≤ M → (∀ row ∈ rows, row.length = n ∧ ∀ x ∈ row, 0 ≤ x ∧ x ≤ hi) → StockAt H' t ls rows → Kp2 dk c H H' → Deck H' dk c (B + 40) → Q (.ref t) H'
theorem ok_stock {f fD fC : Addr} {fd fdD fdC : FuncData} {k : Nat} (F : Fun K "_law_stock" "_law_stock" sStock f fd) (FD : Fun K "_law_draw" "_law_draw" sDraw fD fdD) (FC : Fun K "_law_counts" "_law_counts" sCounts fC fdC)
    (bD : Binds K fdD ["_law_deck_here", "_law_limit"] []) (gD : mg "_law_draw" = some (.ref fD)) (bC : Binds K fdC ["_law_deck_here", "_law_kinds", "_law_most"] []) (gC : mg "_law_counts" = some (.ref fC))
    (ml : mg "len" = none) (mt : mg "tuple" = none) (mr : mg "range" = none) :
    FnOk P w K mg base CX0 (k + 3) f fd ["_law_deck_here", "_law_most", "_law_high", "_law_kinds"] spStock := by
  have GD : FnOk P w K mg base CX0 (k + 1) fD fdD ["_law_deck_here", "_law_limit"] spDraw := ok_draw FD ml
  have GC : FnOk P w K mg base CX0 (k + 2) fC fdC ["_law_deck_here", "_law_kinds", "_law_most"] spCounts := ok_counts FC FD bD gD ml mt mr
  refine F.ok scStock (fun vs H Q E h => ?_) (fun cdv A outer s H vs Q E hr h => ?_)
  · obtain ⟨dk, c, B, M, n, hi, rfl, _⟩ := h
    rfl
  · obtain ⟨dk, c, B, M, n, hi, rfl, dek, hM1, hM4, hn, hB, h0, h9, q⟩ := h
    refine ⟨_, pss_cons (ps_set (i := 4) scStock.nd rfl (.inl rfl) (pe_ix (show IxR _ (rIxL K) from ix_list)
        (pe_lst (pa_cons (pe_op op_add pe_int (pe_call GD (hr.mono (by omega)) (by rfl) gD FD.kp bD .nil pass0 (pa_cons (pv 0) (pa_cons (pv 1) pa_nil)))) (pa_cons (pv 1) pa_nil)))
        (pe_call GD (hr.mono (by omega)) (by rfl) gD FD.kp bD .nil pass0 (pa_cons (pv 0) (pa_cons pe_int pa_nil))) (fun _ _ => rfl)))
      (pss_one (ps_ret (pe_callTy call_tuple_of (by rfl) mt (by decide +kernel) (pa_cons (pe_lc (own := [("_law_k", 5)]) (g := gName 5) rfl scStock.nd (pi_range1 (by rfl) mr (pa_cons (pv 4) pa_nil))
        (blkOk_by (own := [("_law_k", 5)]) (N := ["_law_deck_here", "_law_most", "_law_high", "_law_kinds", "_law_count", "_law_k"]) (sc := defScope sStock) (by decide +kernel)) (fun _ _ _ _ _ => pg_name (i := 5) scStock.nd rfl (Or.inl rfl)) (fun _ _ _ _ _ => pts_nil)
        (fun _ _ _ _ _ => pe_call GC hr (by rfl) gC FC.kp bC .nil pass0 (pa_cons (pv 0) (pa_cons (pv 3) (pa_cons (pv 2) pa_nil))))) pa_nil)))), ?_⟩
    -- _law_count = [1 + draw(most), most][draw(2)]
    refine ⟨_, rfl, _, rfl, dk, c, B, M, rfl, dek, by omega, by omega, by omega, fun r1 H1 a0 a1 k1 d1 => ?_⟩
    refine ⟨1, r1, rfl, rfl, _, rfl, by show 2 ≤ sizeLine; decide, fun l nl => ?_⟩
    refine ⟨_, rfl, dk, c, B + 1, 2, rfl, d1.kp nl, by omega, by decide, by decide, fun r2 H2 b0 b1 k2 d2 => ?_⟩
    have lne := d1.nedk nl
    have hl2 : H2 l = some (.lst [V.int (1 + r1), V.int M]) := k2 _ _ lne.1 lne.2 upd_same
    obtain ⟨z, hz, ez⟩ := two_at (a := 1 + r1) (b := M) b0 b1
    have k02 : Kp2 dk c H H2 := k1.trans ((kps (same_new nl)).trans k2)
    refine ⟨l, _, r2, .int z, rfl, rfl, SqL.of hl2, ez, ?_⟩
    obtain ⟨cnt, rfl, hc1, hc4⟩ : ∃ cnt : Nat, z = (cnt : Int) ∧ 1 ≤ cnt ∧ cnt ≤ M := by
      rcases hz with rfl | rfl
      · exact ⟨(1 + r1).toNat, by omega, by omega, by omega⟩
      · exact ⟨M, rfl, hM1, Nat.le_refl _⟩
    -- the drawers
    refine ⟨_, rfl, cnt, rfl, by omega, by omega, fun D nD => ?_⟩
    have dne := d2.nedk nD
    refine lc_range (lo := 0) (n := cnt) (fun i H' => ∃ (ls : List Addr) (rows : List (List Int)), rows.length = i ∧ (∀ row ∈ rows, row.length = n ∧ ∀ x ∈ row, 0 ≤ x ∧ x ≤ hi) ∧ ls.length = rows.length ∧
        (∀ (j : Nat) (l : Addr) (r : List Int), ls[j]? = some l → rows[j]? = some r → H' l = some (.tup (r.map V.int))) ∧ H' D = some (.lst (ls.map V.ref)) ∧ Kp2 dk c H2 H' ∧ Deck H' dk c (B + 2 + 8 * i))
      ⟨[], [], rfl, (fun x h => by cases h), rfl, (fun j l r e => by simp at e), upd_same, kps (same_new nD), (d2.kp nD).up (by omega)⟩ (fun i H' hi' h => ?_) (fun H' h => ?_)
    · obtain ⟨ls, rows, hl, hrow, hll, hat, hD, kp, dk1⟩ := h
      refine ⟨rfl, _, rfl, _, rfl, _, rfl, dk, c, B + 2 + 8 * i, n, hi, rfl, dk1, by omega, by omega, h0, h9, fun t row H3 e1 e2 e3 e4 k3 d3 => ?_⟩
      have hD3 : H3 D = some (.lst (ls.map V.ref)) := k3 _ _ dne.1 dne.2 hD
      have tD : t ≠ D := fun z => by rw [z, hD] at e3; cases e3
      refine ⟨_, hD3, ?_, ls ++ [t], rows ++ [row], ?_, ?_, ?_, ?_, ?_, ?_, ?_⟩
      · rw [List.length_map]
        exact len_lt (by omega)
      · rw [List.length_append, hl]
        rfl
      · intro x hx
        rcases List.mem_append.mp hx with h | h
        · exact hrow x h
        · rw [List.mem_singleton.mp h]
          exact ⟨e1, e2⟩
      · rw [List.length_append, List.length_append, hll]
        rfl
      · intro j l' r' x1 x2
        by_cases hj : j < ls.length
        · rw [List.getElem?_append_left hj] at x1
          rw [List.getElem?_append_left (by omega)] at x2
          have h := hat j l' r' x1 x2
          have hne : l' ≠ D := fun z => by rw [z, hD] at h; cases h
          obtain ⟨ns, t', h1, h2, _⟩ := dk1.ex
          rw [upd_ne hne]
          exact k3 _ _ (fun z => by rw [z, h1] at h; cases h) (fun z => by rw [z, h2] at h; cases h) h
        · have hj2 : j = ls.length := by
            have := (List.getElem?_eq_some_iff.mp x1).1
            rw [List.length_append] at this
            simp at this
            omega
          subst hj2
          rw [List.getElem?_append_right (Nat.le_refl _), Nat.sub_self] at x1
          rw [hll, List.getElem?_append_right (Nat.le_refl _), Nat.sub_self] at x2
          obtain rfl : t = l' := Option.some.inj x1
          obtain rfl : row = r' := Option.some.inj x2
          rw [upd_ne tD]
          exact e4
      · rw [upd_same, List.map_append]
        rfl
      · intro b o h1 h2 e
        have hne : b ≠ D := ne_of_none e nD
        rw [upd_ne hne]
        exact k3 b o h1 h2 (kp b o h1 h2 e)
      · exact (d3.updD dne.1 dne.2).up (by omega)
    · obtain ⟨ls, rows, hl, hrow, hll, hat, hD, kp, dk1⟩ := h
      refine ⟨D, _, rfl, .inl ⟨SqL.of hD, fun t nt => ?_⟩⟩
      refine q t ls rows _ (by omega) (by omega) hrow ⟨upd_same, hll, fun j l' r' x1 x2 => ?_⟩ (k02.trans (kp.trans (kps (same_new nt)))) ((dk1.kp nt).up (by omega))
      exact same_new nt _ _ (hat j l' r' x1 x2)
end
end DD
namespace DD
open PySem PySem.Spec PyProof.Rows L2 RZ DM
theorem ty_int {K : PySem.W.Frag} {H : Hp} (i : Int) : ∃ t : Value, TyX K H (.int i) t ∧ PySem.W.kitOne K t (.type "int") = some true ∧ PySem.W.kitOne K t (.type "bool") = some false := ⟨_, .base (.int i), kit_ty (a := "int") (r := true) (by decide +kernel), kit_ty (a := "int") (r := false) (by decide +kernel)⟩
theorem ty_tup {K : PySem.W.Frag} {H : Hp} {a : Addr} {xs : List V} (h : H a = some (.tup xs)) : ∃ t : Value, TyX K H (.ref a) t ∧ PySem.W.kitOne K t (.type "tuple") = some true := ⟨_, .base (.tup h), kit_ty (a := "tuple") (r := true) (by decide +kernel)⟩
def inB (m x : Int) : Bool := decide (0 ≤ x) && decide (x ≤ m)
theorem all_take {α : Type} {p : α → Bool} {xs : List α} : (xs.map p).all id = xs.all p := by
  rw [List.all_map]
  rfl
theorem sc_n : FnScope ["value"] ["value"] (defScope sIsNum) := ⟨rfl, rfl, rfl, by decide +kernel, rfl, by decide +kernel, by decide +kernel⟩
theorem sc_u : FnScope ["value", "most"] ["value", "most"] (defScope sUpTo) := ⟨rfl, rfl, rfl, by decide +kernel, rfl, by decide +kernel, by decide +kernel⟩
theorem sc_tu : FnScope ["value", "fewest", "most"] ["value", "fewest", "most"] (defScope sTupOf) := ⟨rfl, rfl, rfl, by decide +kernel, rfl, by decide +kernel, by decide +kernel⟩
theorem sc_a : FnScope ["value", "fewest", "most", "limit", "number"] ["value", "fewest", "most", "limit"] (defScope sNums) := ⟨rfl, rfl, rfl, by decide +kernel, rfl, by decide +kernel, by decide +kernel⟩
section
variable {P : Program} {w : World} {K : PySem.W.Frag} {mg : Str → Option Value} {base : Heap}
def spN : Sp := fun vs H Q _ => ∃ v : Int, vs = [.int v] ∧ Q (.bl true) H
def spU : Sp := fun vs H Q _ => ∃ v m : Int, vs = [.int v, .int m] ∧ Q (.bl (inB m v)) H
def spTu : Sp := fun vs H Q _ => ∃ (a : Addr) (xs : List V) (lo hi : Int), vs = [.ref a, .int lo, .int hi] ∧ H a = some (.tup xs) ∧ Q (.bl (decide (lo ≤ xs.length) && decide ((xs.length : Int) ≤ hi))) H
def spA : Sp := fun vs H Q _ => ∃ (a : Addr) (xs : List Int) (lo hi m : Int), vs = [.ref a, .int lo, .int hi, .int m] ∧ H a = some (.tup (xs.map V.int)) ∧ xs.length ≤ 1000 ∧ ∀ H', Same H H' → Q (.bl ((decide (lo ≤ xs.length) && decide ((xs.length : Int) ≤ hi)) && xs.all (inB m))) H'
theorem ok_n {f fN fU fTu fA fIk fEr fO fSz fMg fFu fCo fSp fCa fI fR fFc fLo fSo fOv fDw fSv fIs fSt fSn fDk fD fCu fS fWh fKr fDv fWr : Addr} {fd dN dU dTu dA dIk dEr dO dSz dMg dFu dCo dSp dCa dI dR dFc dLo dSo dOv dDw dSv dIs dSt dSn dDk dD dCu dS dWh dKr dDv dWr : FuncData} {k : Nat} (F : Fun K "is_number" "is_number" sIsNum f fd) (T : Tx K mg fN fU fTu fA fIk fEr fO fSz fMg fFu fCo fSp fCa fI fR fFc fLo fSo fOv fDw fSv fIs fSt fSn fDk fD fCu fS fWh fKr fDv fWr dN dU dTu dA dIk dEr dO dSz dMg dFu dCo dSp dCa dI dR dFc dLo dSo dOv dDw dSv dIs dSt dSn dDk dD dCu dS dWh dKr dDv dWr) :
    FnOk P w K mg base CX0 (k + 1) f fd ["value"] spN := by
  refine F.ok sc_n (fun vs H Q E h => ?_) (fun cdv A outer s H vs Q E hr h => ?_)
  · obtain ⟨v, rfl, _⟩ := h
    rfl
  · obtain ⟨v, rfl, q⟩ := h
    refine ⟨_, (pss_one (ps_ret (pe_and (pe_callB (show CallR _ _ (rIsi K) from call_isi) (by rfl) T.m_isinstance (by decide +kernel) (pa_cons (pv 0) (pa_cons (pe_bltn (v := .ty "int") (by rfl) T.m_int (by decide +kernel) rfl) pa_nil))) (pe_one (pe_not (pe_callB (show CallR _ _ (rIsi K) from call_isi) (by rfl) T.m_isinstance (by decide +kernel) (pa_cons (pv 0) (pa_cons (pe_bltn (v := .ty "bool") (by rfl) T.m_bool (by decide +kernel) rfl) pa_nil)))))))), ?_⟩
    obtain ⟨t, tt, kI, kB⟩ := ty_int (K := K) (H := H) v
    refine ⟨.int v, rfl, _, _, _, _, _, rfl, .ty _, tt, kI, _, rfl, iteT ?_⟩
    exact ⟨.int v, rfl, _, _, _, _, _, rfl, .ty _, tt, kB, _, rfl, q⟩
theorem ok_u {f fN fU fTu fA fIk fEr fO fSz fMg fFu fCo fSp fCa fI fR fFc fLo fSo fOv fDw fSv fIs fSt fSn fDk fD fCu fS fWh fKr fDv fWr : Addr} {fd dN dU dTu dA dIk dEr dO dSz dMg dFu dCo dSp dCa dI dR dFc dLo dSo dOv dDw dSv dIs dSt dSn dDk dD dCu dS dWh dKr dDv dWr : FuncData} {k : Nat} (F : Fun K "is_number_up_to" "is_number_up_to" sUpTo f fd) (T : Tx K mg fN fU fTu fA fIk fEr fO fSz fMg fFu fCo fSp fCa fI fR fFc fLo fSo fOv fDw fSv fIs fSt fSn fDk fD fCu fS fWh fKr fDv fWr dN dU dTu dA dIk dEr dO dSz dMg dFu dCo dSp dCa dI dR dFc dLo dSo dOv dDw dSv dIs dSt dSn dDk dD dCu dS dWh dKr dDv dWr) :
    FnOk P w K mg base CX0 (k + 2) f fd ["value", "most"] spU := by
  have GN : FnOk P w K mg base CX0 (k + 1) fN dN ["value"] spN := ok_n T.N T
  refine F.ok sc_u (fun vs H Q E h => ?_) (fun cdv A outer s H vs Q E hr h => ?_)
  · obtain ⟨v, m, rfl, _⟩ := h
    rfl
  · obtain ⟨v, m, rfl, q⟩ := h
    refine ⟨_, (pss_one (ps_ret (pe_and (pe_call GN (hr.mono (by omega)) (by rfl) T.gN T.N.kp T.bN .nil pass0 (pa_cons (pv 0) pa_nil)) (pe_one (pe_chain op_le op_le pe_int (pv 0) (pv 1)))))), ?_⟩
    refine ⟨_, rfl, v, rfl, _, rfl, iteT ?_⟩
    refine ⟨_, rfl, 0, v, rfl, rfl, _, rfl, ite2 (fun e => ?_) (fun e => ?_)⟩
    · unfold inB at q
      rw [e, Bool.true_and] at q
      exact ⟨_, rfl, v, m, rfl, rfl, q⟩
    · unfold inB at q
      rw [Bool.eq_false_iff.mpr e, Bool.false_and] at q
      exact q
theorem ok_tu {f fN fU fTu fA fIk fEr fO fSz fMg fFu fCo fSp fCa fI fR fFc fLo fSo fOv fDw fSv fIs fSt fSn fDk fD fCu fS fWh fKr fDv fWr : Addr} {fd dN dU dTu dA dIk dEr dO dSz dMg dFu dCo dSp dCa dI dR dFc dLo dSo dOv dDw dSv dIs dSt dSn dDk dD dCu dS dWh dKr dDv dWr : FuncData} {k : Nat} (F : Fun K "is_tuple_of" "is_tuple_of" sTupOf f fd) (T : Tx K mg fN fU fTu fA fIk fEr fO fSz fMg fFu fCo fSp fCa fI fR fFc fLo fSo fOv fDw fSv fIs fSt fSn fDk fD fCu fS fWh fKr fDv fWr dN dU dTu dA dIk dEr dO dSz dMg dFu dCo dSp dCa dI dR dFc dLo dSo dOv dDw dSv dIs dSt dSn dDk dD dCu dS dWh dKr dDv dWr) :
    FnOk P w K mg base CX0 (k + 1) f fd ["value", "fewest", "most"] spTu := by
  refine F.ok sc_tu (fun vs H Q E h => ?_) (fun cdv A outer s H vs Q E hr h => ?_)
  · obtain ⟨a, xs, lo, hi, rfl, _⟩ := h
    rfl
  · obtain ⟨a, xs, lo, hi, rfl, ha, q⟩ := h
    refine ⟨_, (pss_one (ps_ret (pe_and (pe_callB (show CallR _ _ (rIsi K) from call_isi) (by rfl) T.m_isinstance (by decide +kernel) (pa_cons (pv 0) (pa_cons (pe_bltn (v := .ty "tuple") (by rfl) T.m_tuple (by decide +kernel) rfl) pa_nil))) (pe_one (pe_chain op_le op_le (pv 1) (pe_callB call_len_seq (by rfl) T.m_len PySem.boot_len (pa_cons (pv 0) pa_nil)) (pv 2)))))), ?_⟩
    obtain ⟨t, tt, kT⟩ := ty_tup (K := K) ha
    refine ⟨.ref a, rfl, _, _, _, _, _, rfl, .ty _, tt, kT, _, rfl, iteT ?_⟩
    refine ⟨_, rfl, _, rfl, a, _, rfl, .inr (SqT.of ha), lo, _, rfl, rfl, _, rfl, ite2 (fun e => ?_) (fun e => ?_)⟩
    · rw [e, Bool.true_and] at q
      exact ⟨_, rfl, _, hi, rfl, rfl, q⟩
    · rw [Bool.eq_false_iff.mpr e, Bool.false_and] at q
      exact q
theorem ok_a {f fN fU fTu fA fIk fEr fO fSz fMg fFu fCo fSp fCa fI fR fFc fLo fSo fOv fDw fSv fIs fSt fSn fDk fD fCu fS fWh fKr fDv fWr : Addr} {fd dN dU dTu dA dIk dEr dO dSz dMg dFu dCo dSp dCa dI dR dFc dLo dSo dOv dDw dSv dIs dSt dSn dDk dD dCu dS dWh dKr dDv dWr : FuncData} {k : Nat} (F : Fun K "are_numbers" "are_numbers" sNums f fd) (T : Tx K mg fN fU fTu fA fIk fEr fO fSz fMg fFu fCo fSp fCa fI fR fFc fLo fSo fOv fDw fSv fIs fSt fSn fDk fD fCu fS fWh fKr fDv fWr dN dU dTu dA dIk dEr dO dSz dMg dFu dCo dSp dCa dI dR dFc dLo dSo dOv dDw dSv dIs dSt dSn dDk dD dCu dS dWh dKr dDv dWr) :
    FnOk P w K mg base CX0 (k + 3) f fd ["value", "fewest", "most", "limit"] spA := by
  have GU : FnOk P w K mg base CX0 (k + 2) fU dU ["value", "most"] spU := ok_u T.U T
  have GTu : FnOk P w K mg base CX0 (k + 1) fTu dTu ["value", "fewest", "most"] spTu := ok_tu T.Tu T
  refine F.ok sc_a (fun vs H Q E h => ?_) (fun cdv A outer s H vs Q E hr h => ?_)
  · obtain ⟨a, xs, lo, hi, m, rfl, _⟩ := h
    rfl
  · obtain ⟨a, xs, lo, hi, m, rfl, ha, hl, q⟩ := h
    refine ⟨_, (pss_cons (ps_if (pt_not (pt_val (pe_call GTu (hr.mono (by omega)) (by rfl) T.gTu T.Tu.kp T.bTu .nil pass0 (pa_cons (pv 0) (pa_cons (pv 1) (pa_cons (pv 2) pa_nil)))))) (pss_one (ps_ret pe_bl)) pss_nil)
      (pss_one (ps_ret (pe_callB (cr_all rfl) (by rfl) T.m_all (by decide +kernel) (pa_cons (pe_lc (own := [("number", 4)]) (g := gName 4) rfl sc_a.nd (pi_tup (pv 0)) (blkOk_by (own := [("number", 4)]) (N := ["value", "fewest", "most", "limit", "number"]) (sc := defScope sNums) (by decide +kernel)) (fun _ _ _ _ _ => (pg_name (i := 4) sc_a.nd rfl (Or.inl rfl))) (fun _ _ _ _ _ => pts_nil) (fun _ _ _ _ _ => (pe_call GU (hr.mono (by omega)) (by rfl) T.gU T.U.kp T.bU .nil pass0 (pa_cons (pv 4) (pa_cons (pv 3) pa_nil))))) pa_nil))))), ?_⟩
    refine ⟨_, rfl, _, rfl, _, rfl, a, _, lo, hi, rfl, ha, _, rfl, ?_⟩
    rw [List.length_map]
    cases e : (decide (lo ≤ (xs.length : Int)) && decide ((xs.length : Int) ≤ hi)) with
    | false =>
      rw [e, Bool.false_and] at q
      exact iteT (q _ (Same.refl _))
    | true =>
      rw [e, Bool.true_and] at q
      refine iteF (A := False) ?_
      refine ⟨.ref a, rfl, a, rfl, ⟨_, SqT.of ha⟩, fun D nD => ?_⟩
      refine lc_it (walk_tup (xs := xs.map V.int)) (fun i H' => H' D = some (.lst (((xs.map (inB m)).take i).map V.bl)) ∧ Same H H') ⟨upd_same, same_new nD⟩ (fun i H' _ h => SqT.of (h.2 _ _ ha)) (fun i x H' H2 hi h y => ?_) (fun H' h => ?_)
      · obtain ⟨hD, sm⟩ := h
        obtain ⟨rfl, hx⟩ := y
        obtain ⟨v, hv, rfl⟩ := get_map hx
        refine ⟨rfl, _, rfl, _, rfl, v, m, rfl, _, hD, ?_, ?_, fun b' o e' => ?_⟩
        · rw [List.length_map, List.length_take, List.length_map]
          exact len_lt (by omega)
        · rw [upd_same, take_succ_map (by rw [List.getElem?_map, hv]; rfl)]
        · rw [upd_ne (ne_of_none e' nD)]
          exact sm _ _ e'
      · obtain ⟨hD, sm⟩ := h
        rw [List.length_map, List.take_of_length_le (by rw [List.length_map]; exact Nat.le_refl _)] at hD
        refine ⟨D, _, rfl, SqL.of hD, ?_⟩
        rw [all_take]
        exact q _ sm
end
end DD
namespace DD
open PySem PySem.Spec PyProof.Rows L2 RZ DM
/-! ### enumerate(t, start=1) -/
theorem callWith_typeKw {M : Model} {A : Around} {E : Value → Shared → Prop} {s : Shared} {pos : Pos}
    {T : String} {first : List Value} {args : List (Bool × Sem Value)} {kws : List (Option Str × Sem Value)} {Q : Value → Shared → Prop}
    (h1 : (args.any fun x => x.fst) = false) (h2 : (kws.any fun x => x.fst.isNone) = false)
    (h : wpAny M A (evalArgs (Value.type T) true args kws) (fun a s₁ => wpAny M A (call (Value.type T) (first ++ a.pos) a.kw) Q E s₁) E s) :
    wpAny M A (callWith pos (Value.type T) first args kws) Q E s := by
  unfold callWith
  refine wpAny_bind (wpAny_holding (wpAny_mono h (fun a s1 q => ?_) fun e s' q => q))
  rw [h1, h2]
  refine wpAny_bind (wpAny_standAt ?_)
  show wpAny M A (call (Value.type T) (first ++ a.pos) a.kw >>= fun r => holding [r] point >>= fun _ => pure r) Q E s1
  refine wpAny_bind (wpAny_mono q (fun r s2 q => ?_) fun e s' q => q)
  exact wpAny_bind (wpAny_holding (wpAny_point (wpAny_pure q)))
def iEnumS (K : PySem.W.Frag) (c : Int) (ta : TA) : TI := fun σ H R => ta σ H fun vs H1 => ∃ a xs, vs = [.ref a] ∧ SqT K H1 a xs ∧ R (ItEnT K a c) H1
theorem pi_enumS {X : Cx} {e : Expr} {ta : TA} {p pos tpos kpos cpos : Pos} {c : Int} {k0 : Nat} {elts : List Expr} {kk : Nat} (hg : Gl X "enumerate") (hm : X.mg "enumerate" = none) (ha : PA X [e] ta) (hc0 : -2 ^ 63 ≤ c) (hc1 : c < 2 ^ 63)
    (hs : starEach [e] X.env = [(false, eval e X.env)] := by rfl) : PI X (.Tuple elts kk tpos) (.Call (.Name "enumerate" p) [e] [{ arg := some "start", value := .Constant (.int c) k0 cpos, pos := kpos }] pos) (iEnumS X.K c ta) := by
  refine ⟨fun pins s σ H R I h => wpAny_Call_Name_kw (ld_blt I hg hm boot_enumerate (callWith_typeKw (by rw [hs] <;> rfl) rfl (evalArgs_kw2 rfl (thn (ha.run pos pins s σ H _ I h) fun us s1 ⟨vs, H1, I1, r1, q1⟩ => ?_) hs)))⟩
  obtain ⟨a, xs, ex, hq, q⟩ := q1
  subst ex
  obtain ⟨u, rfl, ru⟩ := vals1 r1
  cases ru
  obtain ⟨its, rv, ⟨oa, hoa, hca, na, hda⟩, _⟩ := I1.tuple hq
  refine wpAny_evalAll_cons (wpAny_bind (wpAny_mono (pe_int.run pins s1 σ H1 (fun v H2 => v = .int c ∧ H2 = H1) I1 ⟨rfl, rfl⟩) (fun u s2 q2 => ?_) fun e s' q => q))
  obtain ⟨x, H2, I2, rx, rfl, rfl⟩ := q2
  obtain ⟨tk, rfl⟩ := rx
  refine wpAny_bind (wpAny_standAt (wpAny_pure (wpAny_evalAll_nil ?_)))
  obtain ⟨its, rv, ⟨oa, hoa, hca, na, hda⟩, _⟩ := I2.tuple hq
  show wpAny _ _ (call (.type "enumerate") [.ref a] [(Str.ofString "start", .int c tk)]) _ _ _
  refine enum_begins_start (begins_tuple (t := a) (items := its.toArray)) ⟨oa, hoa, hca, na, hda⟩ hc0 hc1 fun h' he hit hsz hk => wpAny_pyIter_enum he ?_
  have I3 : Inv X pins σ H2 { s2 with heap := h' } := I2.kept (t' := s2.toks) hk
  refine ⟨s2.heap.objs.size + 1, [s2.heap.objs.size + 1, s2.heap.objs.size], _, _, H2, rfl, I3, turn_enT a (s2.heap.objs.size + 1) s2.heap.objs.size c, ⟨⟨.none, by rw [Int.natCast_zero, Int.add_zero]; exact he⟩, ⟨_, hit, rfl, rfl⟩, Nat.succ_ne_self _⟩, fun b hb => ?_, q⟩
  have hle : s2.heap.objs.size ≤ b := by
    rcases List.mem_cons.mp hb with z | hb
    · rw [z]
      exact Nat.le_succ _
    · exact Nat.le_of_eq (List.mem_singleton.mp hb).symm
  exact I2.fpOk hle (I2.hok.fresh hle)
theorem scSizes : FnScope ["stock", "drawer"] ["stock"] (defScope sSizes) := ⟨rfl, rfl, rfl, by decide +kernel, rfl, by decide +kernel, by decide +kernel⟩
section
variable {P : Program} {w : World} {K : PySem.W.Frag} {mg : Str → Option Value} {base : Heap}
def spSizes : Sp := fun vs H Q _ => ∃ (t : Addr) (ls : List Addr) (rows : List (List Int)), vs = [.ref t] ∧ StockAt H t ls rows ∧ rows.length ≤ 100 ∧
  ∀ p H', Same H H' → H p = none → H' p = some (.tup ((sizesOf rows).map V.int)) → Q (.ref p) H'
theorem ok_sizes {f : Addr} {fd : FuncData} {k : Nat} (F : Fun K "sizes_of" "sizes_of" sSizes f fd) (mt : mg "tuple" = none) (ms : mg "sum" = none) : FnOk P w K mg base CX0 (k + 1) f fd ["stock"] spSizes := by
  refine F.ok scSizes (fun vs H Q E h => ?_) (fun cdv A outer s H vs Q E hr h => ?_)
  · obtain ⟨t, ls, rows, rfl, _⟩ := h
    rfl
  · obtain ⟨t, ls, rows, rfl, st, hlen, q⟩ := h
    refine ⟨_, pss_one (ps_ret (pe_callTy call_tuple_of (by rfl) mt (by decide +kernel) (pa_cons (pe_lc (own := [("drawer", 1)]) (g := gName 1) rfl scSizes.nd (pi_tup (pv 0))
      (blkOk_by (own := [("drawer", 1)]) (N := ["stock", "drawer"]) (sc := defScope sSizes) (by decide +kernel)) (fun _ _ _ _ _ => pg_name (i := 1) scSizes.nd rfl (Or.inl rfl)) (fun _ _ _ _ _ => pts_nil)
      (fun _ _ _ _ _ => pe_callB (show CallR _ _ (fun vs H Q => ∃ (a : Addr) (ns : List Int), vs = [V.ref a] ∧ SqT K H a (ns.map V.int) ∧ Q (.int ns.sum) H) from cr_sumT rfl) (by rfl) ms (by decide +kernel) (pa_cons (pv 1) pa_nil))) pa_nil))), ?_⟩
    refine ⟨.ref t, rfl, t, rfl, ⟨_, SqT.of st.top⟩, fun D nD => ?_⟩
    refine lc_tup (xs := ls.map V.ref) (fun i H' => H' D = some (.lst (((sizesOf rows).take i).map V.int)) ∧ Same H H') ⟨upd_same, same_new nD⟩ (fun i H' _ h => SqT.of (h.2 _ _ st.top)) (fun i x H' hx h => ?_) (fun H' h => ?_)
    · obtain ⟨hD, sm⟩ := h
      obtain ⟨l, hl, rfl⟩ := get_map hx
      have hil : i < rows.length := by
        have := (List.getElem?_eq_some_iff.mp hl).1
        have := st.len
        omega
      have hr : rows[i]? = some rows[i] := List.getElem?_eq_getElem hil
      have hs : (sizesOf rows)[i]? = some rows[i].sum := by
        unfold sizesOf
        rw [List.getElem?_map, hr]
        rfl
      refine ⟨rfl, .ref l, rfl, l, rows[i], rfl, SqT.of (sm _ _ (st.row i l _ hl hr)), _, hD, ?_, ?_, fun b o e => ?_⟩
      · rw [List.length_map, List.length_take]
        exact len_lt (by omega)
      · rw [upd_same, take_succ_map hs]
      · rw [upd_ne (ne_of_none e nD)]
        exact sm b o e
    · obtain ⟨hD, sm⟩ := h
      rw [List.length_map, st.len, List.take_of_length_le (by simp [sizesOf])] at hD
      exact ⟨D, _, rfl, .inl ⟨SqL.of hD, fun p np => q p _ (sm.trans (same_new np)) (sm.free np) upd_same⟩⟩

end
theorem scRoomIn : FnScope ["stock", "caps", "drawers", "drawer"] ["stock", "caps", "drawers"] (defScope sRoomIn) := ⟨rfl, rfl, rfl, by decide +kernel, rfl, by decide +kernel, by decide +kernel⟩
section
variable {P : Program} {w : World} {K : PySem.W.Frag} {mg : Str → Option Value} {base : Heap}
def spRoomIn : Sp := fun vs H Q _ => ∃ (t b d : Addr) (ls : List Addr) (rows : List (List Int)) (n : Nat) (cs : List (Option Int)) (ds : List Nat), vs = [.ref t, .ref b, .ref d] ∧ StockAt H t ls rows ∧ (∀ r ∈ rows, r.length = n) ∧ n ≤ 100 ∧
  H b = some (.tup (cs.map optI)) ∧ cs.length = n ∧ H d = some (.tup (natsV ds)) ∧ ds.length ≤ 4 ∧ (∀ j ∈ ds, j < rows.length) ∧ ∀ H', Same H H' → Q (.int (roomS rows n cs ds)) H'
theorem ok_roomin {f fN fU fTu fA fIk fEr fO fSz fMg fFu fCo fSp fCa fI fR fFc fLo fSo fOv fDw fSv fIs fSt fSn fDk fD fCu fS fWh fKr fDv fWr : Addr} {fd dN dU dTu dA dIk dEr dO dSz dMg dFu dCo dSp dCa dI dR dFc dLo dSo dOv dDw dSv dIs dSt dSn dDk dD dCu dS dWh dKr dDv dWr : FuncData} {k : Nat} (F : Fun K "room_in" "room_in" sRoomIn f fd) (T : Tx K mg fN fU fTu fA fIk fEr fO fSz fMg fFu fCo fSp fCa fI fR fFc fLo fSo fOv fDw fSv fIs fSt fSn fDk fD fCu fS fWh fKr fDv fWr dN dU dTu dA dIk dEr dO dSz dMg dFu dCo dSp dCa dI dR dFc dLo dSo dOv dDw dSv dIs dSt dSn dDk dD dCu dS dWh dKr dDv dWr) :
    FnOk P w K mg base CX0 (k + 2) f fd ["stock", "caps", "drawers"] spRoomIn := by
  have GO : FnOk P w K mg base CX0 (k + 1) fO dO ["stock"] (spTotals K) := ok_totals T.O T.m_tuple T.m_sum T.m_zip
  have GR : FnOk P w K mg base CX0 (k + 1) fR dR ["totals", "caps"] spRoomOf := ok_roomof T.R T
  refine F.ok scRoomIn (fun vs H Q E h => ?_) (fun cdv A outer s H vs Q E hr h => ?_)
  · obtain ⟨t, b, d, ls, rows, n, cs, ds, rfl, _⟩ := h
    rfl
  · obtain ⟨t, b, d, ls, rows, n, cs, ds, rfl, st, hrn, hn, hb, hcl, hd, hd4, hdb, q⟩ := h
    refine ⟨_, (pss_one (ps_ret (pe_call GR (hr.mono (by omega)) (by rfl) T.gR T.R.kp T.bR .nil pass0 (pa_cons (pe_call GO (hr.mono (by omega)) (by rfl) T.gO T.O.kp T.bO .nil pass0 (pa_cons (pe_lc (own := [("drawer", 3)]) (g := gName 3) rfl scRoomIn.nd (pi_tup (pv 2)) (blkOk_by (own := [("drawer", 3)]) (N := ["stock", "caps", "drawers", "drawer"]) (sc := defScope sRoomIn) (by decide +kernel)) (fun _ _ _ _ _ => (pg_name (i := 3) scRoomIn.nd rfl (Or.inl rfl))) (fun _ _ _ _ _ => pts_nil) (fun _ _ _ _ _ => (pe_ix (show IxR _ (rIxT K) from ix_tup) (pv 0) (pv 3) (fun _ _ => rfl)))) pa_nil)) (pa_cons (pv 1) pa_nil))))), ?_⟩
    refine ⟨.ref d, rfl, d, rfl, ⟨_, SqT.of hd⟩, fun D2 nD2 => ?_⟩
    refine lc_tup (xs := natsV ds) (fun m H4 => H4 D2 = some (.lst (((pickL ls ds).take m).map V.ref)) ∧ Same H H4) ⟨upd_same, same_new nD2⟩ (fun m H4 _ h => SqT.of (h.2 _ _ hd)) (fun m x H4 hx h => ?_) (fun H4 h => ?_)
    · obtain ⟨hD2, s4⟩ := h
      obtain ⟨j, hj, rfl⟩ := get_map hx
      have hjr := hdb j (List.mem_of_getElem? hj)
      have hjl : j < ls.length := by rw [st.len]; exact hjr
      have hpk : (pickL ls ds)[m]? = some (ls.getD j 0) := by
        unfold pickL
        rw [List.getElem?_map, hj]
        rfl
      have gr : (ls.map V.ref)[j]? = some (.ref (ls.getD j 0)) := by
        rw [List.getElem?_map, getD_of (d := 0) hjl]
        rfl
      refine ⟨rfl, .ref t, rfl, .int (j : Int), rfl, t, _, (j : Int), .ref (ls.getD j 0), rfl, rfl, SqT.of (s4 _ _ st.top), atI_nat gr, _, hD2, ?_, ?_, fun b' o e => ?_⟩
      · rw [List.length_map, List.length_take]
        have : (pickL ls ds).length = ds.length := by simp [pickL]
        exact len_lt (by omega)
      · rw [upd_same, take_succ_map hpk]
      · rw [upd_ne (ne_of_none e nD2)]
        exact s4 b' o e
    · obtain ⟨hD2, s4⟩ := h
      rw [natsV_len, List.take_of_length_le (by simp [pickL])] at hD2
      have hll : (pickL ls ds).length = (pickR rows ds).length := by simp [pickL, pickR]
      have hpl2 : (pickR rows ds).length = ds.length := by simp [pickR]
      have hat : ∀ (j : Nat) (l : Addr) (r : List Int), (pickL ls ds)[j]? = some l → (pickR rows ds)[j]? = some r → H4 l = some (.tup (r.map V.int)) ∧ r.length = (if ds = [] then 0 else n) := fun j l r e1 e2 => by
        unfold pickL at e1
        unfold pickR at e2
        obtain ⟨j1, h1, rfl⟩ := get_map e1
        obtain ⟨j2, h2, rfl⟩ := get_map e2
        obtain rfl : j1 = j2 := Option.some.inj (h1.symm.trans h2)
        have hjr := hdb j1 (List.mem_of_getElem? h1)
        have g := getD_of (d := []) hjr
        rw [if_neg (fun z => by rw [z] at h1; simp at h1)]
        exact ⟨s4 _ _ (st.row j1 _ _ (getD_of (by rw [st.len]; exact hjr)) g), hrn _ (List.mem_of_getElem? g)⟩
      have htl : (totL rows n ds).length ≤ n := by
        unfold totL
        rw [tot_len]
        split <;> omega
      refine ⟨D2, pickL ls ds, pickR rows ds, if ds = [] then 0 else n, rfl, .inr (SqL.of hD2), hll, hat, (fun e => by rw [if_pos (List.eq_nil_of_length_eq_zero (by rw [← hpl2, e]; rfl))]), by omega, by split <;> omega, fun tt H5 s5 _ htt => ?_⟩
      exact ⟨_, rfl, tt, b, totL rows n ds, cs, rfl, htt, s5 _ _ (s4 _ _ hb), by omega, by omega, fun H6 s6 => q H6 (s4.trans (s5.trans s6))⟩
theorem scErr : FnScope ["value", "kinds", "index", "drawer"] ["value"] (defScope sErr) := ⟨rfl, rfl, rfl, by decide +kernel, rfl, by decide +kernel, by decide +kernel⟩
theorem scIsStock : FnScope ["value"] ["value"] (defScope sIsStock) := ⟨rfl, rfl, rfl, by decide +kernel, rfl, by decide +kernel, by decide +kernel⟩
def spEr : Sp := fun vs H Q _ => ∃ (t : Addr) (ls : List Addr) (rows : List (List Int)) (n : Nat), vs = [.ref t] ∧ StockAt H t ls rows ∧ Rb rows n ∧ ∀ H', Same H H' → Q .non H'
def spIk : Sp := fun vs H Q _ => ∃ (t : Addr) (ls : List Addr) (rows : List (List Int)) (n : Nat), vs = [.ref t] ∧ StockAt H t ls rows ∧ Rb rows n ∧ ∀ H', Same H H' → Q (.bl true) H'
theorem row_ok {a b : Int} {r : List Int} (h1 : a ≤ (r.length : Int)) (h2 : (r.length : Int) ≤ b) (h : ∀ x ∈ r, 0 ≤ x ∧ x ≤ 50) : ((decide (a ≤ (r.length : Int)) && decide ((r.length : Int) ≤ b)) && r.all (inB 50)) = true := by
  rw [decide_eq_true h1, decide_eq_true h2, Bool.true_and, Bool.true_and]
  refine List.all_eq_true.mpr fun x hx => ?_
  unfold inB
  rw [decide_eq_true (h x hx).1, decide_eq_true (h x hx).2]
  rfl
theorem ok_er {f fN fU fTu fA fIk fEr fO fSz fMg fFu fCo fSp fCa fI fR fFc fLo fSo fOv fDw fSv fIs fSt fSn fDk fD fCu fS fWh fKr fDv fWr : Addr} {fd dN dU dTu dA dIk dEr dO dSz dMg dFu dCo dSp dCa dI dR dFc dLo dSo dOv dDw dSv dIs dSt dSn dDk dD dCu dS dWh dKr dDv dWr : FuncData} {k : Nat} (F : Fun K "stock_error" "stock_error" sErr f fd) (T : Tx K mg fN fU fTu fA fIk fEr fO fSz fMg fFu fCo fSp fCa fI fR fFc fLo fSo fOv fDw fSv fIs fSt fSn fDk fD fCu fS fWh fKr fDv fWr dN dU dTu dA dIk dEr dO dSz dMg dFu dCo dSp dCa dI dR dFc dLo dSo dOv dDw dSv dIs dSt dSn dDk dD dCu dS dWh dKr dDv dWr) : FnOk P w K mg base CX0 (k + 4) f fd ["value"] spEr := by
  have GTu : FnOk P w K mg base CX0 (k + 1) fTu dTu ["value", "fewest", "most"] spTu := ok_tu T.Tu T
  have GA : FnOk P w K mg base CX0 (k + 3) fA dA ["value", "fewest", "most", "limit"] spA := ok_a T.A T
  obtain ⟨tkD, hD⟩ := T.mxd
  obtain ⟨tkK, hK⟩ := T.mxk
  obtain ⟨tkC, hC⟩ := T.mxc
  refine F.ok scErr (fun vs H Q E h => ?_) (fun cdv A outer s H vs Q E hr h => ?_)
  · obtain ⟨t, ls, rows, n, rfl, _⟩ := h
    rfl
  · obtain ⟨t, ls, rows, n, rfl, st, rb, q⟩ := h
    refine ⟨_, (pss_cons (ps_if (pt_not (pt_val (pe_call GTu (hr.mono (by omega)) (by rfl) T.gTu T.Tu.kp T.bTu .nil pass0 (pa_cons (pv 0) (pa_cons pe_int (pa_cons (pe_glob (v := .int 4) rfl hD ⟨_, rfl⟩) pa_nil)))))) (pss_one (ps_ret (pe_tup (pa_cons pe_non (pa_cons pe_str pa_nil))))) pss_nil)
      (pss_cons (ps_if (pt_not (pt_val (pe_call GA (hr.mono (by omega)) (by rfl) T.gA T.A.kp T.bA .nil pass0 (pa_cons (pe_ix (show IxR _ (rIxT K) from ix_tup) (pv 0) pe_int (fun _ _ => rfl)) (pa_cons pe_int (pa_cons (pe_glob (v := .int 4) rfl hK ⟨_, rfl⟩) (pa_cons (pe_glob (v := .int 50) rfl hC ⟨_, rfl⟩) pa_nil))))))) (pss_one (ps_ret (pe_tup (pa_cons pe_int (pa_cons pe_str pa_nil))))) pss_nil)
      (pss_cons (ps_set (i := 1) scErr.nd rfl (.inl rfl) (pe_callB call_len_seq (by rfl) T.m_len PySem.boot_len (pa_cons (pe_ix (show IxR _ (rIxT K) from ix_tup) (pv 0) pe_int (fun _ _ => rfl)) pa_nil)))
      (pss_cons (ps_for PassesOwn.never rfl (pi_enumS (c := 1) (by rfl) T.m_enumerate (pa_cons (pe_slice sl_tupQ (pv 0) (po_some pe_int) po_none) pa_nil) (by decide) (by decide)) (pg_tup rfl (pgs_cons (pg_name (i := 2) scErr.nd rfl (Or.inl rfl)) (pgs_cons (pg_name (i := 3) scErr.nd rfl (Or.inl rfl)) pgs_nil))) (pss_one (ps_if (pt_not (pt_val (pe_call GA (hr.mono (by omega)) (by rfl) T.gA T.A.kp T.bA .nil pass0 (pa_cons (pv 3) (pa_cons (pv 1) (pa_cons (pv 1) (pa_cons (pe_glob (v := .int 50) rfl hC ⟨_, rfl⟩) pa_nil))))))) (pss_one (ps_ret (pe_tup (pa_cons (pv 2) (pa_cons pe_str pa_nil))))) pss_nil)))
      (pss_one (ps_ret pe_non)))))), ?_⟩
    have hr1 := rb.r1
    have hr4 := rb.r4
    have hn1 := rb.n1
    have hn4 := rb.n4
    have hsl := st.len
    have hl0 : 0 < ls.length := by omega
    have g0 : (ls.map V.ref)[0]? = some (.ref (ls.getD 0 0)) := by
      rw [List.getElem?_map, getD_of (d := 0) hl0]
      rfl
    have hr0 := getD_of (d := ([] : List Int)) (show 0 < rows.length by omega)
    have row0 := st.row 0 _ _ (getD_of (d := 0) hl0) hr0
    have rb0 := rb.rw _ (List.mem_of_getElem? hr0)
    have hlen0 := rb0.1
    refine ⟨.ref t, rfl, t, ls.map V.ref, 1, 4, rfl, st.top, _, rfl, ?_⟩
    rw [show (decide ((1 : Int) ≤ ((ls.map V.ref).length : Int)) && decide (((ls.map V.ref).length : Int) ≤ 4)) = true by rw [List.length_map, decide_eq_true (show (1 : Int) ≤ (ls.length : Int) by omega), decide_eq_true (show (ls.length : Int) ≤ 4 by omega)]; rfl]
    refine iteF (A := False) ?_
    refine ⟨.ref t, rfl, t, _, (0 : Int), .ref (ls.getD 0 0), rfl, rfl, SqT.of st.top, atI_nat (j := 0) g0, ls.getD 0 0, rows.getD 0 [], 1, 4, 50, rfl, row0, by omega, fun H1 s1 => ?_⟩
    refine ⟨_, rfl, ?_⟩
    rw [row_ok (by omega) (by omega) rb0.2]
    refine iteF (A := False) ?_
    refine ⟨.ref t, rfl, t, _, (0 : Int), .ref (ls.getD 0 0), rfl, rfl, SqT.of (s1 _ _ st.top), atI_nat (j := 0) g0, ls.getD 0 0, _, rfl, .inr (SqT.of (s1 _ _ row0)), ?_⟩
    rw [List.length_map, hlen0]
    refine ⟨.ref t, rfl, 1, rfl, t, _, rfl, s1 _ _ st.top, fun p2 H2 s2 h2' => ?_⟩
    have h2 : H2 p2 = some (.tup ((ls.drop 1).map V.ref)) := by
      have e := cutV_from (xs := ls.map V.ref) (s := 1)
      rw [List.map_drop, ← e]
      exact h2'
    refine ⟨p2, _, rfl, SqT.of h2, ?_⟩
    refine for_enT (xs := (ls.drop 1).map V.ref) (c := 1) (fun i σ H3 => ∃ y2 y3 : Option V, σ = [some (.ref t), some (.int (n : Int)), y2, y3] ∧ Same H2 H3) ⟨none, none, rfl, Same.refl _⟩ (fun i σ H3 _ h => by obtain ⟨_, _, _, s3⟩ := h; exact SqT.of (s3 _ _ h2)) (fun i x T1 σ H3 hx h nT => ?_) (fun σ H3 h => ?_)
    · obtain ⟨y2, y3, rfl, s3⟩ := h
      obtain ⟨l, hl, rfl⟩ := get_map hx
      rw [List.getElem?_drop] at hl
      have hil : 1 + i < rows.length := by
        have := (List.getElem?_eq_some_iff.mp hl).1
        omega
      have hri := getD_of (d := ([] : List Int)) hil
      have hrow := st.row _ _ _ hl hri
      have rbi := rb.rw _ (List.mem_of_getElem? hri)
      have sT : Same H3 (upd H3 T1 (.tup [.int ((1 : Int) + (i : Nat)), .ref l])) := same_new nT
      refine ⟨T1, [.int ((1 : Int) + (i : Nat)), .ref l], rfl, .inl (.inl upd_same), rfl, .int ((1 : Int) + (i : Nat)), [.ref l], rfl, .ref l, [], rfl, rfl, ?_⟩
      generalize upd H3 T1 (.tup [.int ((1 : Int) + (i : Nat)), .ref l]) = H4 at sT ⊢
      have s24 := s3.trans sT
      refine ⟨.ref l, rfl, .int (n : Int), rfl, .int (n : Int), rfl, l, rows.getD (1 + i) [], (n : Int), (n : Int), 50, rfl, s24 _ _ (s2 _ _ (s1 _ _ hrow)), by have := rbi.1; omega, fun H5 s5 => ?_⟩
      refine ⟨_, rfl, ?_⟩
      rw [row_ok (by have := rbi.1; omega) (by have := rbi.1; omega) rbi.2]
      exact iteF (A := False) ⟨_, _, rfl, s24.trans s5⟩
    · obtain ⟨y2, y3, rfl, s3⟩ := h
      exact q _ (s1.trans (s2.trans s3))
theorem ok_ik {f fN fU fTu fA fIk fEr fO fSz fMg fFu fCo fSp fCa fI fR fFc fLo fSo fOv fDw fSv fIs fSt fSn fDk fD fCu fS fWh fKr fDv fWr : Addr} {fd dN dU dTu dA dIk dEr dO dSz dMg dFu dCo dSp dCa dI dR dFc dLo dSo dOv dDw dSv dIs dSt dSn dDk dD dCu dS dWh dKr dDv dWr : FuncData} {k : Nat} (F : Fun K "is_stock" "is_stock" sIsStock f fd) (T : Tx K mg fN fU fTu fA fIk fEr fO fSz fMg fFu fCo fSp fCa fI fR fFc fLo fSo fOv fDw fSv fIs fSt fSn fDk fD fCu fS fWh fKr fDv fWr dN dU dTu dA dIk dEr dO dSz dMg dFu dCo dSp dCa dI dR dFc dLo dSo dOv dDw dSv dIs dSt dSn dDk dD dCu dS dWh dKr dDv dWr) : FnOk P w K mg base CX0 (k + 5) f fd ["value"] spIk := by
  have GEr : FnOk P w K mg base CX0 (k + 4) fEr dEr ["value"] spEr := ok_er T.Er T
  refine F.ok scIsStock (fun vs H Q E h => ?_) (fun cdv A outer s H vs Q E hr h => ?_)
  · obtain ⟨t, ls, rows, n, rfl, _⟩ := h
    rfl
  · obtain ⟨t, ls, rows, n, rfl, st, rb, q⟩ := h
    refine ⟨_, (pss_one (ps_ret (pe_cmpR op_isN (pe_call GEr (hr.mono (by omega)) (by rfl) T.gEr T.Er.kp T.bEr .nil pass0 (pa_cons (pv 0) pa_nil)) pe_non (nomark _)))), ?_⟩
    refine ⟨_, rfl, t, ls, rows, n, rfl, st, rb, fun H1 s1 => ⟨rfl, ?_⟩⟩
    rw [decide_eq_true rfl]
    exact q _ s1
end
end DD
namespace DD
open PySem PySem.Spec PyProof.Rows L2 RZ DM
theorem left01 {a b tot : List Int} {rest : List (List Int)} : ∀ k, k ≤ rest.length → leftRows (a :: b :: rest) [0, 1] tot (k + 2) = tot :: rest.take k
  | 0, _ => by rfl
  | k + 1, h => by
    rw [show k + 1 + 2 = (k + 2) + 1 from rfl, leftRows_succ, left01 k (by omega), if_neg (by show ¬ k + 2 = 0; omega), if_neg (by simp), List.take_add_one, List.getElem?_eq_getElem (by omega)]
    show tot :: (rest.take k ++ [(a :: b :: rest).getD (k + 2) []]) = tot :: (rest.take k ++ [rest[k]])
    rw [show (a :: b :: rest).getD (k + 2) [] = rest.getD k [] from rfl, List.getD_eq_getElem?_getD, List.getElem?_eq_getElem (by omega)]
    rfl
theorem mg_inv {rows : List (List Int)} {n : Nat} (h2 : 2 ≤ rows.length) (hrn : ∀ r ∈ rows, r.length = n) (hX : ∀ r ∈ rows, ∀ x ∈ r, 0 ≤ x) (h50 : ∀ x ∈ totalsOf rows n, x ≤ 50) :
    (∀ y ∈ totalsOf (subRows rows [0, 1]) n, y ≤ 50) ∧ ∃ qs, leftRows rows [0, 1] (totalsOf (subRows rows [0, 1]) n) rows.length = qs ∧ qs.length + 1 = rows.length ∧ (∀ r ∈ qs, r.length = n) ∧ (∀ r ∈ qs, ∀ x ∈ r, 0 ≤ x) ∧ totalsOf qs n = totalsOf rows n := by
  match rows, h2 with
  | a :: b :: rest, _ =>
    have hXr : ∀ r ∈ rest, ∀ x ∈ r, 0 ≤ x := fun r hr => hX r (List.mem_cons_of_mem _ (List.mem_cons_of_mem _ hr))
    have hXab : ∀ r ∈ [a, b], ∀ x ∈ r, 0 ≤ x := fun r hr => hX r (by
      rcases List.mem_cons.mp hr with rfl | hr
      · exact List.mem_cons_self
      · rw [List.mem_singleton.mp hr]
        exact List.mem_cons_of_mem _ List.mem_cons_self)
    refine ⟨tot_cons_le hXr h50, totalsOf [a, b] n :: rest, ?_, rfl, fun r hr => ?_, fun r hr => ?_, tot_merge⟩
    · have := left01 (a := a) (b := b) (tot := totalsOf [a, b] n) rest.length (Nat.le_refl _)
      rw [List.take_length] at this
      exact this
    · rcases List.mem_cons.mp hr with rfl | hr
      · exact tot_len _ _
      · exact hrn r (List.mem_cons_of_mem _ (List.mem_cons_of_mem _ hr))
    · rcases List.mem_cons.mp hr with rfl | hr
      · exact tot_nn hXab
      · exact hXr r hr
theorem one_row {qs : List (List Int)} {n : Nat} {ts : List Int} (h1 : qs.length = 1) (hn : ∀ r ∈ qs, r.length = n) (h : totalsOf qs n = ts) : qs = [ts] := by
  match qs, h1 with
  | [x], _ => rw [← h, tot_one (hn x List.mem_cons_self)]
theorem eqvA_ints : ∀ r : List Int, PyData.eqvAll (r.map PyData.int) (r.map PyData.int) = true
  | [] => rfl
  | x :: r => by
    rw [List.map_cons, PyData.eqvAll, eqvA_ints r, PyData.eqv]
    simp
theorem eqv_one (ts : List Int) : PyData.eqv (stockD [ts]) (stockD [ts]) = true := by
  show PyData.eqv (.tuple [.tuple (ts.map PyData.int)]) (.tuple [.tuple (ts.map PyData.int)]) = true
  rw [PyData.eqv, PyData.eqvAll, PyData.eqv, eqvA_ints]
  rfl
theorem tks {H H' : Hp} (s : Same H H') : TK H H' := fun b xs e => s b _ e
theorem scal_opt (a b : Option Int) : scal (optI a) (optI b) = true := by cases a <;> cases b <;> rfl
/-! ### two drawers merged -/
def idx (last m : Nat) : List Nat := (List.range m).filter fun i => decide (i ≠ last)
theorem idx_succ (last m : Nat) : idx last (m + 1) = idx last m ++ (if m = last then [] else [m]) := by
  unfold idx
  rw [List.range_succ, List.filter_append]
  congr 1
  by_cases e : m = last
  · rw [if_pos e, List.filter_cons_of_neg (by simp [e])]
    rfl
  · rw [if_neg e, List.filter_cons_of_pos (by simp [e])]
    rfl
theorem idx_mem {last m i : Nat} (h : i ∈ idx last m) : i < m ∧ i ≠ last := by
  obtain ⟨h1, h2⟩ := List.mem_filter.mp h
  exact ⟨List.mem_range.mp h1, of_decide_eq_true h2⟩
theorem idx_has {last m i : Nat} (h : i < m) (hl : i ≠ last) : i ∈ idx last m := List.mem_filter.mpr ⟨List.mem_range.mpr h, decide_eq_true hl⟩
theorem idx_len {last m : Nat} (h : last < m) : (idx last m).length + 1 = m := by
  have gen : ∀ m, (idx last m).length + (if last < m then 1 else 0) = m := fun m => by
    induction m with
    | zero => rfl
    | succ m ih =>
      rw [idx_succ, List.length_append]
      by_cases e : m = last
      · rw [if_pos e, if_pos (by omega)]
        rw [if_neg (by omega)] at ih
        simp only [List.length_nil]
        omega
      · rw [if_neg e]
        simp only [List.length_cons, List.length_nil]
        by_cases h2 : last < m
        · rw [if_pos (by omega)]
          rw [if_pos h2] at ih
          omega
        · rw [if_neg (by omega)]
          rw [if_neg h2] at ih
          omega
  have := gen m
  rw [if_pos h] at this
  exact this
theorem left_idx {rows : List (List Int)} {tot : List Int} {one last : Nat} (hne : one ≠ last) : ∀ m, leftRows rows [one, last] tot m = (idx last m).map fun i => if i = one then tot else rows.getD i []
  | 0 => rfl
  | m + 1 => by
    rw [leftRows_succ, left_idx hne m, idx_succ, List.map_append]
    congr 1
    show (if m = one then [tot] else if m ∈ [one, last] then [] else [rows.getD m []]) = _
    by_cases e1 : m = one
    · rw [if_pos e1, if_neg (by omega)]
      show [tot] = [if m = one then tot else _]
      rw [if_pos e1]
    · rw [if_neg e1]
      by_cases e2 : m = last
      · rw [if_pos e2, if_pos (by simp [e2])]
        rfl
      · rw [if_neg e2, if_neg (by simp [e1, e2])]
        show _ = [if m = one then tot else _]
        rw [if_neg e1]
theorem sum_idx (f : Nat → Int) (last : Nat) : ∀ m, ((List.range m).map f).sum = ((idx last m).map f).sum + (if last < m then f last else 0)
  | 0 => by rfl
  | m + 1 => by
    rw [List.range_succ, List.map_append, List.sum_append, sum_idx f last m, idx_succ, List.map_append, List.sum_append]
    show _ + (f m + 0) = _
    by_cases e : m = last
    · rw [if_pos e, if_neg (show ¬ last < m by omega), if_pos (show last < m + 1 by omega), e]
      show _ + 0 + (f last + 0) = _ + 0 + f last
      omega
    · rw [if_neg e]
      show _ = _ + (f m + 0) + _
      by_cases h2 : last < m
      · rw [if_pos h2, if_pos (by omega)]
        omega
      · rw [if_neg h2, if_neg (by omega)]
        omega
theorem sum_at (c : Int) (one : Nat) : ∀ m, ((List.range m).map fun i => if i = one then c else 0).sum = if one < m then c else 0
  | 0 => by rfl
  | m + 1 => by
    rw [List.range_succ, List.map_append, List.sum_append, sum_at c one m]
    show _ + ((if m = one then c else 0) + 0) = _
    by_cases e : m = one
    · rw [if_pos e, if_neg (by omega), if_pos (by omega)]
      omega
    · rw [if_neg e]
      by_cases h : one < m
      · rw [if_pos h, if_pos (by omega)]
        omega
      · rw [if_neg h, if_neg (by omega)]
        rfl
theorem merge_sum {f : Nat → Int} {one last m : Nat} (h1 : one < m) (h2 : last < m) (hne : one ≠ last) : ((idx last m).map fun i => if i = one then f one + f last else f i).sum = ((List.range m).map f).sum := by
  have e1 := sum_idx (fun i => if i = one then f one + f last else f i) last m
  rw [if_pos h2, if_neg (fun z => hne z.symm)] at e1
  have e2 : ((List.range m).map fun i => if i = one then f one + f last else f i).sum = ((List.range m).map f).sum + ((List.range m).map fun i => if i = one then f last else 0).sum := by
    have gen : ∀ l : List Nat, (l.map fun i => if i = one then f one + f last else f i).sum = (l.map f).sum + (l.map fun i => if i = one then f last else 0).sum := fun l => by
      induction l with
      | nil => rfl
      | cons a l ih =>
        rw [List.map_cons, List.map_cons, List.map_cons, List.sum_cons, List.sum_cons, List.sum_cons, ih]
        by_cases e : a = one
        · rw [if_pos e, if_pos e, e]
          omega
        · rw [if_neg e, if_neg e]
          omega
    exact gen _
  rw [sum_at, if_pos h1] at e2
  omega
def mgR (rows : List (List Int)) (one last n : Nat) : List (List Int) := (idx last rows.length).map fun i => if i = one then totalsOf [rows.getD one [], rows.getD last []] n else rows.getD i []
def mgP (ps : List Int) (one last m : Nat) : List Int := (idx last m).map fun i => ps.getD i 0 + ps.getD last 0 * (if i = one then 1 else 0)
theorem left_mgR {rows : List (List Int)} {one last n : Nat} (hne : one ≠ last) : leftRows rows [one, last] (totalsOf (subRows rows [one, last]) n) rows.length = mgR rows one last n := left_idx hne _
theorem two_getD {a b : List Int} {n k : Nat} (hk : k < n) : (totalsOf [a, b] n).getD k 0 = a.getD k 0 + b.getD k 0 := by
  have : (totalsOf [a, b] n).getD k 0 = a.getD k 0 + (b.getD k 0 + 0) := by
    unfold totalsOf
    rw [List.getD_eq_getElem?_getD, List.getElem?_map, List.getElem?_range hk]
    rfl
  omega
theorem mgR_len {rows : List (List Int)} {one last n : Nat} (h : last < rows.length) : (mgR rows one last n).length + 1 = rows.length := by
  unfold mgR
  rw [List.length_map]
  exact idx_len h
theorem mgP_len {ps : List Int} {one last m : Nat} (h : last < m) : (mgP ps one last m).length + 1 = m := by
  unfold mgP
  rw [List.length_map]
  exact idx_len h
theorem mgR_tot {rows : List (List Int)} {one last n : Nat} (h1 : one < rows.length) (h2 : last < rows.length) (hne : one ≠ last) : totalsOf (mgR rows one last n) n = totalsOf rows n := by
  rw [tot_colS rows]
  unfold totalsOf
  refine List.map_congr_left fun k hk => ?_
  have hk := List.mem_range.mp hk
  unfold mgR colS
  rw [List.map_map, ← merge_sum (f := fun j => (rows.getD j []).getD k 0) h1 h2 hne]
  refine congrArg List.sum (List.map_congr_left fun i _ => ?_)
  show (if i = one then totalsOf [rows.getD one [], rows.getD last []] n else rows.getD i []).getD k 0 = _
  by_cases e : i = one
  · rw [if_pos e, if_pos e, two_getD hk]
  · rw [if_neg e, if_neg e]
theorem mgR_rn {rows : List (List Int)} {one last n : Nat} (hrn : ∀ r ∈ rows, r.length = n) : ∀ r ∈ mgR rows one last n, r.length = n := fun r hr => by
  obtain ⟨i, hi, rfl⟩ := List.mem_map.mp hr
  split
  · exact tot_len _ _
  · exact hrn _ (List.mem_of_getElem? (getD_of (d := []) (idx_mem hi).1))
theorem mgR_nn {rows : List (List Int)} {one last n : Nat} (h1 : one < rows.length) (h2 : last < rows.length) (hX : ∀ r ∈ rows, ∀ x ∈ r, 0 ≤ x) : ∀ r ∈ mgR rows one last n, ∀ x ∈ r, 0 ≤ x := fun r hr => by
  obtain ⟨i, hi, rfl⟩ := List.mem_map.mp hr
  split
  · refine tot_nn fun r hr => ?_
    rcases List.mem_cons.mp hr with rfl | hr
    · exact hX _ (List.mem_of_getElem? (getD_of (d := []) h1))
    · rw [List.mem_singleton.mp hr]
      exact hX _ (List.mem_of_getElem? (getD_of (d := []) h2))
  · exact hX _ (List.mem_of_getElem? (getD_of (d := []) (idx_mem hi).1))
theorem entry_le {rows : List (List Int)} {n : Nat} {b : Int} (hrn : ∀ r ∈ rows, r.length = n) (hX : ∀ r ∈ rows, ∀ x ∈ r, 0 ≤ x) (h : ∀ t ∈ totalsOf rows n, t ≤ b) : ∀ r ∈ rows, ∀ x ∈ r, x ≤ b := fun r hr x hx => by
  obtain ⟨k, hk⟩ := List.mem_iff_getElem?.mp hx
  have hkn : k < n := by
    have := (List.getElem?_eq_some_iff.mp hk).1
    rw [hrn r hr] at this
    exact this
  have e : r.getD k 0 = x := by rw [List.getD_eq_getElem?_getD, hk]; rfl
  have h1 := h _ (List.mem_map.mpr ⟨k, List.mem_range.mpr hkn, rfl⟩)
  have h2 : r.getD k 0 ≤ (rows.map fun r => r.getD k 0).sum := sum_ge (fun y hy => by
    obtain ⟨q, hq, rfl⟩ := List.mem_map.mp hy
    rw [List.getD_eq_getElem?_getD]
    cases e : q[k]? with
    | none => exact Int.le_refl _
    | some z => exact hX q hq z (List.mem_of_getElem? e)) (List.mem_map.mpr ⟨r, hr, rfl⟩)
  have h1 : (rows.map fun r => r.getD k 0).sum ≤ b := h1
  omega
theorem mgR_rb {rows : List (List Int)} {one last n : Nat} (rb : Rb rows n) (h1 : one < rows.length) (h2 : last < rows.length) (hne : one ≠ last) (h50 : ∀ t ∈ totalsOf rows n, t ≤ 50) : Rb (mgR rows one last n) n := by
  have hX : ∀ r ∈ rows, ∀ x ∈ r, 0 ≤ x := fun r hr x hx => ((rb.rw r hr).2 x hx).1
  have hrn : ∀ r ∈ rows, r.length = n := fun r hr => (rb.rw r hr).1
  have hl := mgR_len (one := one) (n := n) h2
  have hr4 := rb.r4
  refine ⟨by omega, by omega, rb.n1, rb.n4, fun r hr => ⟨mgR_rn hrn r hr, fun x hx => ⟨mgR_nn h1 h2 hX r hr x hx, ?_⟩⟩⟩
  exact entry_le (mgR_rn hrn) (mgR_nn h1 h2 hX) (by rw [mgR_tot h1 h2 hne]; exact h50) r hr x hx
theorem sub_le50 {rows : List (List Int)} {one last n : Nat} (rb : Rb rows n) (h1 : one < rows.length) (h2 : last < rows.length) (hne : one ≠ last) (h50 : ∀ t ∈ totalsOf rows n, t ≤ 50) : ∀ y ∈ totalsOf (subRows rows [one, last]) n, y ≤ 50 := fun y hy => by
  have hm : totalsOf (subRows rows [one, last]) n ∈ mgR rows one last n := List.mem_map.mpr ⟨one, idx_has h1 hne, if_pos rfl⟩
  exact (((mgR_rb rb h1 h2 hne h50).rw _ hm).2 y hy).2
theorem idx_getD {α : Type} {h : Nat → α} {d : α} {last m j : Nat} (hj : j < (idx last m).length) : ((idx last m).map h).getD j d = h ((idx last m).getD j 0) := by
  rw [List.getD_eq_getElem?_getD, List.getElem?_map, getD_of (d := 0) hj]
  rfl
theorem mg_dr {rows : List (List Int)} {ps : List Int} {n one last : Nat} {D : List (List Int)} (h1 : one < rows.length) (h2 : last < rows.length) (hne : one ≠ last) (d : IsDr rows ps n D) : IsDr (mgR rows one last n) (mgP ps one last rows.length) n (mgR D one last n) := by
  have hdl := d.len
  refine ⟨by unfold mgR; rw [List.length_map, List.length_map, hdl], fun j hj => ?_⟩
  have hj : j < (idx last rows.length).length := by unfold mgR at hj; rw [List.length_map] at hj; exact hj
  have e1 : (mgR rows one last n).getD j [] = if (idx last rows.length).getD j 0 = one then totalsOf [rows.getD one [], rows.getD last []] n else rows.getD ((idx last rows.length).getD j 0) [] := idx_getD hj
  have e2 : (mgR D one last n).getD j [] = if (idx last rows.length).getD j 0 = one then totalsOf [D.getD one [], D.getD last []] n else D.getD ((idx last rows.length).getD j 0) [] := by
    unfold mgR
    rw [hdl]
    exact idx_getD hj
  have e3 : plF (mgP ps one last rows.length) j = ps.getD ((idx last rows.length).getD j 0) 0 + ps.getD last 0 * (if (idx last rows.length).getD j 0 = one then 1 else 0) := idx_getD hj
  obtain ⟨hi, _⟩ := idx_mem (List.mem_of_getElem? (getD_of (d := 0) hj))
  rw [e1, e2, e3]
  generalize (idx last rows.length).getD j 0 = i at hi ⊢
  by_cases e : i = one
  · rw [if_pos e, if_pos e, if_pos e, e]
    have d1 := d.dr one h1
    have d2 := d.dr last h2
    refine ⟨tot_len _ _, fun k => ?_, ?_⟩
    · unfold lfF
      by_cases hk : k < n
      · rw [two_getD hk, two_getD hk]
        have b1 := d1.bd k
        have b2 := d2.bd k
        have c1 : 0 ≤ (D.getD one []).getD k 0 := b1.1
        have c2 : 0 ≤ (D.getD last []).getD k 0 := b2.1
        have c3 : (D.getD one []).getD k 0 ≤ (rows.getD one []).getD k 0 := b1.2 hk
        have c4 : (D.getD last []).getD k 0 ≤ (rows.getD last []).getD k 0 := b2.2 hk
        exact ⟨by omega, fun _ => by omega⟩
      · rw [List.getD_eq_getElem?_getD, List.getElem?_eq_none (by rw [tot_len]; omega)]
        exact ⟨Int.le_refl _, fun z => absurd z hk⟩
    · rw [tot_sum (fun r hr => by
        rcases List.mem_cons.mp hr with rfl | hr
        · exact d1.len
        · rw [List.mem_singleton.mp hr]; exact d2.len)]
      show (D.getD one []).sum + ((D.getD last []).sum + 0) = _
      have s1 : (D.getD one []).sum = ps.getD one 0 := d1.sum
      have s2 : (D.getD last []).sum = ps.getD last 0 := d2.sum
      omega
  · rw [if_neg e, if_neg e, if_neg e]
    have di := d.dr i hi
    rw [show ps.getD i 0 + ps.getD last 0 * 0 = plF ps i by unfold plF; omega]
    exact di
theorem mgP_nn {ps : List Int} {one last m : Nat} (hp : ∀ j, 0 ≤ plF ps j) : ∀ j, 0 ≤ plF (mgP ps one last m) j := fun j => by
  unfold plF mgP
  rw [List.getD_eq_getElem?_getD, List.getElem?_map]
  cases e : (idx last m)[j]? with
  | none => exact Int.le_refl _
  | some i =>
    have h1 : 0 ≤ ps.getD i 0 := hp i
    have h2 : 0 ≤ ps.getD last 0 := hp last
    show 0 ≤ ps.getD i 0 + ps.getD last 0 * (if i = one then 1 else 0)
    split <;> omega
/-- a plan that is sure with the drawers merged is sure however the number of the two is divided -/
theorem div_tab {rows ws : List (List Int)} {ps : List Int} {n one last : Nat} (hX : ∀ r ∈ rows, ∀ x ∈ r, 0 ≤ x) (hp : ∀ j, 0 ≤ plF ps j) (hg : ∀ r ∈ ws, r.length = n) (h1 : one < rows.length) (h2 : last < rows.length) (hne : one ≠ last)
    (h : tabB (mgR rows one last n) ws (mgP ps one last rows.length) n = true) : tabB rows ws ps n = true :=
  (tab_iff hX hp hg).mpr fun D d => by
    have h3 := (tab_iff (mgR_nn h1 h2 hX) (mgP_nn hp) hg).mp h _ (mg_dr h1 h2 hne d)
    rw [mgR_tot (by rw [d.len]; exact h1) (by rw [d.len]; exact h2) hne] at h3
    exact h3
theorem mgP_set {ps : List Int} {one last m : Nat} {a b : Int} (h1 : one < ps.length) (h2 : last < ps.length) (hne : one ≠ last) (hs : a + b = ps.getD one 0 + ps.getD last 0) : mgP ((ps.set one a).set last b) one last m = mgP ps one last m := by
  unfold mgP
  refine List.map_congr_left fun i hi => ?_
  obtain ⟨_, hil⟩ := idx_mem hi
  have hsl : (ps.set one a).length = ps.length := List.length_set
  have e2 : ((ps.set one a).set last b).getD last 0 = b := by rw [setD (by omega), if_pos rfl]
  rw [e2, setD (by omega), if_neg (fun z => hil z.symm), setD h1]
  by_cases e : i = one
  · rw [if_pos e.symm, if_pos e, e]
    omega
  · rw [if_neg (fun z => e z.symm), if_neg e]
    omega
end DD
namespace DD
open PySem PySem.Spec PyProof.Rows L2 RZ DM
theorem eqv_row (r : List Int) : PyData.eqv (rowD r) (rowD r) = true := by
  show PyData.eqv (.tuple (r.map PyData.int)) (.tuple (r.map PyData.int)) = true
  rw [PyData.eqv, eqvA_ints]
abbrev NKr : List Str := ["_law_stock_here", "_law_other", "_law_wishes_here", "_law_named", "_law_caps"]
theorem scKeptR : FnScope NKr ["_law_stock_here", "_law_other", "_law_wishes_here"] (defScope sKeptR) := ⟨rfl, rfl, rfl, by decide +kernel, rfl, by decide +kernel, by decide +kernel⟩
section
variable {P : Program} {w : World} {K : PySem.W.Frag} {mg : Str → Option Value} {base : Heap}
/-- the same totals: the same rooms and the same sure total -/
def spKr : Sp := fun vs H Q _ => ∃ (t o b : Addr) (ls ol wl : List Addr) (rows qs ws : List (List Int)) (n : Nat), vs = [.ref t, .ref o, .ref b] ∧ StockAt H t ls rows ∧ StockAt H o ol qs ∧ Rb rows n ∧ Rb qs n ∧ totalsOf qs n = totalsOf rows n ∧ (∀ x ∈ totalsOf rows n, x ≤ 50) ∧ Wish H b wl ws n ∧
  ∀ H', Same H H' → Q (.bl true) H'
set_option maxHeartbeats 1600000 in
theorem ok_kr {f fN fU fTu fA fIk fEr fO fSz fMg fFu fCo fSp fCa fI fR fFc fLo fSo fOv fDw fSv fIs fSt fSn fDk fD fCu fS fWh fKr fDv fWr : Addr} {fd dN dU dTu dA dIk dEr dO dSz dMg dFu dCo dSp dCa dI dR dFc dLo dSo dOv dDw dSv dIs dSt dSn dDk dD dCu dS dWh dKr dDv dWr : FuncData} {k : Nat} (F : Fun K "_law_kept_right" "_law_kept_right" sKeptR f fd) (T : Tx K mg fN fU fTu fA fIk fEr fO fSz fMg fFu fCo fSp fCa fI fR fFc fLo fSo fOv fDw fSv fIs fSt fSn fDk fD fCu fS fWh fKr fDv fWr dN dU dTu dA dIk dEr dO dSz dMg dFu dCo dSp dCa dI dR dFc dLo dSo dOv dDw dSv dIs dSt dSn dDk dD dCu dS dWh dKr dDv dWr) :
    FnOk P w K mg base CX0 (k + 6) f fd ["_law_stock_here", "_law_other", "_law_wishes_here"] spKr := by
  have GIk : FnOk P w K mg base CX0 (k + 5) fIk dIk ["value"] spIk := ok_ik T.Ik T
  have GO : FnOk P w K mg base CX0 (k + 1) fO dO ["stock"] (spTotals K) := ok_totals T.O T.m_tuple T.m_sum T.m_zip
  have GSt : FnOk P w K mg base CX0 (k + 3) fSt dSt ["stock", "collections"] spTotal := ok_total T.St T
  have GSp : FnOk P w K mg base CX0 (k + 1) fSp dSp ["collections"] spSpoil := ok_spoil T.Sp T.m_enumerate T.m_tuple
  have GCa : FnOk P w K mg base CX0 (k + 1) fCa dCa ["collections", "spoiling"] spCaps := ok_caps T.Ca T.m_enumerate T.m_zip T.m_min T.m_tuple
  have GI : FnOk P w K mg base CX0 (k + 2) fI dI ["stock", "caps", "drawers"] spRoomIn := ok_roomin T.I T
  refine F.ok scKeptR (fun vs H Q E h => ?_) (fun cdv A outer s H vs Q E hr h => ?_)
  · obtain ⟨t, o, b, ls, ol, wl, rows, qs, ws, n, rfl, _⟩ := h
    rfl
  · obtain ⟨t, o, b, ls, ol, wl, rows, qs, ws, n, rfl, st, so, rb, qb, ht, h50, wi, q⟩ := h
    refine ⟨_, (pss_cons (ps_if (PW.pt (pw_or (pt_not (pt_val (pe_call GIk (hr.mono (by omega)) (by rfl) T.gIk T.Ik.kp T.bIk .nil pass0 (pa_cons (pv 1) pa_nil)))) (pw_or1 (pt_cmpR (op_neD hr.units) (pe_call GO (hr.mono (by omega)) (by rfl) T.gO T.O.kp T.bO .nil pass0 (pa_cons (pv 1) pa_nil)) (pe_call GO (hr.mono (by omega)) (by rfl) T.gO T.O.kp T.bO .nil pass0 (pa_cons (pv 0) pa_nil)) (nomark _))))) (pss_one (ps_ret pe_bl)) pss_nil)
      (pss_cons (ps_if (pt_cmpR op_ne (pe_call GSt (hr.mono (by omega)) (by rfl) T.gSt T.St.kp T.bSt .nil pass0 (pa_cons (pv 1) (pa_cons (pv 2) pa_nil))) (pe_call GSt (hr.mono (by omega)) (by rfl) T.gSt T.St.kp T.bSt .nil pass0 (pa_cons (pv 0) (pa_cons (pv 2) pa_nil))) (nomark _)) (pss_one (ps_ret pe_bl)) pss_nil)
      (pss_cons (ps_for PassesOwn.never rfl (pi_tup (pe_slice sl_tupQ (pe_call GSp (hr.mono (by omega)) (by rfl) T.gSp T.Sp.kp T.bSp .nil pass0 (pa_cons (pv 2) pa_nil)) po_none (po_some pe_int))) (pg_name (i := 3) scKeptR.nd rfl (Or.inl rfl)) (pss_cons (ps_set (i := 4) scKeptR.nd rfl (.inl rfl) (pe_call GCa (hr.mono (by omega)) (by rfl) T.gCa T.Ca.kp T.bCa .nil pass0 (pa_cons (pv 2) (pa_cons (pv 3) pa_nil))))
      (pss_one (ps_if (pt_cmpR op_ne (pe_call GI (hr.mono (by omega)) (by rfl) T.gI T.I.kp T.bI .nil pass0 (pa_cons (pv 0) (pa_cons (pv 4) (pa_cons (pe_tupRg rfl (by rfl) T.m_tuple (prg_1 (by rfl) T.m_range (pe_callB call_len_seq (by rfl) T.m_len PySem.boot_len (pa_cons (pv 0) pa_nil)))) pa_nil)))) (pe_call GI (hr.mono (by omega)) (by rfl) T.gI T.I.kp T.bI .nil pass0 (pa_cons (pv 1) (pa_cons (pv 4) (pa_cons (pe_tupRg rfl (by rfl) T.m_tuple (prg_1 (by rfl) T.m_range (pe_callB call_len_seq (by rfl) T.m_len PySem.boot_len (pa_cons (pv 1) pa_nil)))) pa_nil)))) (nomark _)) (pss_one (ps_ret pe_bl)) pss_nil))))
      (pss_one (ps_ret pe_bl))))), ?_⟩
    have hn4 := rb.n4
    have hr1 := rb.r1
    have hr4 := rb.r4
    have hq1 := qb.r1
    have hq4 := qb.r4
    have hrn : ∀ r ∈ rows, r.length = n := fun r hr => (rb.rw r hr).1
    have hqn : ∀ r ∈ qs, r.length = n := fun r hr => (qb.rw r hr).1
    have hX : ∀ r ∈ rows, ∀ x ∈ r, 0 ≤ x := fun r hr x hx => ((rb.rw r hr).2 x hx).1
    have h0 := tot_nn (n := n) hX
    have hw4 : ∀ r ∈ ws, r.length ≤ 4 := fun r hr => by rw [(wi.g r hr).len]; exact hn4
    have hsm : Sm 56 1 (rowD (totalsOf rows n)) := sm_row (fun x hx => ⟨h0 x hx, by have := h50 x hx; omega⟩) (by rw [tot_len]; omega)
    refine ⟨.ref o, rfl, o, ol, qs, n, rfl, so, qb, fun H1 s1 => ?_⟩
    refine ⟨_, rfl, iteNx rfl ?_⟩
    have so1 := so.same s1
    refine ⟨.ref o, rfl, o, ol, qs, n, rfl, .inl (SqT.of so1.top), so1.len, fun j l r e1 e2 => ⟨so1.row j l r e1 e2, hqn r (List.mem_of_getElem? e2)⟩, fun z => by rw [z] at hq1; simp at hq1, hq4, by omega, fun t1 H2 s2 _ h1 => ?_⟩
    have st2 := st.same (s1.trans s2)
    refine ⟨.ref t, rfl, t, ls, rows, n, rfl, .inl (SqT.of st2.top), st2.len, fun j l r e1 e2 => ⟨st2.row j l r e1 e2, hrn r (List.mem_of_getElem? e2)⟩, fun z => by rw [z] at hr1; simp at hr1, hr4, by omega, fun t2 H3 s3 _ h2 => ?_⟩
    rw [ht] at h1
    refine ⟨rowD (totalsOf rows n), rowD (totalsOf rows n), dp_row (s3 _ _ h1), dp_row h2, hsm.shaped (by decide), hsm.shaped (by decide), _, rfl, ?_⟩
    rw [eqv_row]
    refine iteF (A := False) ?_
    have s03 := s1.trans (s2.trans s3)
    refine ⟨.ref o, rfl, .ref b, rfl, o, b, ol, wl, qs, ws, n, rfl, so.same s03, hq1, hq4, hqn, wi.same s03, fun H4 s4 => ?_⟩
    have s04 := s03.trans s4
    refine ⟨.ref t, rfl, .ref b, rfl, t, b, ls, wl, rows, ws, n, rfl, st.same s04, hr1, hr4, hrn, wi.same s04, fun H5 s5 => ?_⟩
    refine ⟨scal_opt _ _, _, rfl, ?_⟩
    rw [ht, decide_eq_true rfl]
    refine iteF (A := False) ?_
    have s05 := s04.trans s5
    refine ⟨_, rfl, b, wl, ws, rfl, wi.st.same s05, wi.l4, hw4, fun m zs H6 s6 sp6 => ?_⟩
    dsimp only [tNoPart]
    refine ⟨9, rfl, m, _, rfl, sp6.top, fun mp H7 s7 h7' => ?_⟩
    have h7 : H7 mp = some (.tup ((zs.take 9).map V.ref)) := by
      have e := cutV_to (xs := zs.map V.ref) (s := 9)
      rw [List.map_take, ← e]
      exact h7'
    have sp7 := sp6.same s7
    have s07 := s05.trans (s6.trans s7)
    refine ⟨mp, rfl, ⟨_, SqT.of h7⟩, ?_⟩
    refine for_it (D := { nx := tRet (tC (V.bl true)) { nx := fun _ H' => Q V.non H', rt := Q }, rt := Q }) (walk_tup (xs := (zs.take 9).map V.ref)) (fun i σ H' => ∃ y3 y4 : Option V, σ = [some (.ref t), some (.ref o), some (.ref b), y3, y4] ∧ Same H7 H') ⟨none, none, rfl, Same.refl _⟩ (fun i σ H' _ h => by obtain ⟨_, _, _, s8⟩ := h; exact SqT.of (K := K) (s8 _ _ h7)) (fun i x σ H8 H8' hi h y => ?_) (fun σ H8 h => ?_)
    · obtain ⟨y3, y4, rfl, s8⟩ := h
      obtain ⟨rfl, hx⟩ := y
      obtain ⟨z1, hz1, rfl⟩ := get_map hx
      have hi9 : i < 9 := by
        have := (List.getElem?_eq_some_iff.mp hz1).1
        rw [List.length_take] at this
        omega
      rw [List.getElem?_take_of_lt hi9] at hz1
      have hil : i < (spOf ws).length := by
        have := (List.getElem?_eq_some_iff.mp hz1).1
        have := sp7.len
        omega
      have hsi : (spOf ws)[i]? = some (spOf ws)[i] := List.getElem?_eq_getElem hil
      have hmem : (spOf ws)[i] ∈ spR ws := by rw [← spOf_eq]; exact List.getElem_mem hil
      obtain ⟨hsl, _⟩ := spR_bd hw4 _ hmem
      have hzi := s8 _ _ (sp7.row i z1 _ hz1 hsi)
      generalize (spOf ws)[i] = sp at hsi hsl hzi
      have hsp := List.mem_of_getElem? hsi
      have s08 := s07.trans s8
      refine ⟨_, rfl, _, rfl, b, z1, wl, ws, sp, n, rfl, wi.st.same s08, wi.l1, wi.l4, fun r hr => (wi.g r hr).len, by omega, hzi, hsl, fun c H9 s9 hc => ?_⟩
      have s09 := s08.trans s9
      have st9 := st.same s09
      have so9 := so.same s09
      have hsl9 := st.len
      have hol9 := so.len
      refine ⟨.ref t, rfl, _, rfl, .ref t, rfl, t, _, rfl, .inr (SqT.of st9.top), (rows.length : Int), (by rw [List.length_map, hsl9]), ?_⟩
      refine ⟨⟨by decide, by decide, by omega, by omega, by omega⟩, fun L1 nL1 => ?_⟩
      rw [rg_nats]
      have sL1 := same_new (o := .tup (natsV (List.range rows.length))) nL1
      refine ⟨t, c, L1, ls, rows, n, capsOf ws sp n, List.range rows.length, rfl, st9.same sL1, hrn, by omega, sL1 _ _ hc, caps_len _ _ _, upd_same, by rw [List.length_range]; omega, fun j hj => List.mem_range.mp hj, fun H10 s10 => ?_⟩
      have s910 := sL1.trans s10
      have so10 := so9.same s910
      refine ⟨.ref o, rfl, _, rfl, .ref o, rfl, o, _, rfl, .inr (SqT.of so10.top), (qs.length : Int), (by rw [List.length_map, hol9]), ?_⟩
      refine ⟨⟨by decide, by decide, by omega, by omega, by omega⟩, fun L2 nL2 => ?_⟩
      rw [rg_nats]
      have sL2 := same_new (o := .tup (natsV (List.range qs.length))) nL2
      refine ⟨o, c, L2, ol, qs, n, capsOf ws sp n, List.range qs.length, rfl, so10.same sL2, hqn, by omega, sL2 _ _ (s910 _ _ hc), caps_len _ _ _, upd_same, by rw [List.length_range]; omega, fun j hj => List.mem_range.mp hj, fun H11 s11 => ?_⟩
      rw [roomS_all hr1, roomS_all hq1, ht]
      refine ⟨rfl, _, rfl, ?_⟩
      rw [decide_eq_true rfl]
      exact iteF (A := False) ⟨_, _, rfl, s8.trans (s9.trans (s910.trans (sL2.trans s11)))⟩
    · obtain ⟨y3, y4, rfl, s8⟩ := h
      exact q _ (s07.trans s8)
end
end DD
namespace DD
open PySem PySem.Spec PyProof.Rows L2 RZ DM
abbrev NDv : List Str := ["_law_deck_here", "_law_stock_here", "_law_wishes_here", "_law_one", "_law_last", "_law_other", "_law_sizes", "_law_plan", "_law_wide", "_law_total", "_law_part", "_law_size", "_law_k"]
theorem scDivR : FnScope NDv ["_law_deck_here", "_law_stock_here", "_law_wishes_here", "_law_one", "_law_last"] (defScope sDivR) := ⟨rfl, rfl, rfl, by decide +kernel, rfl, by decide +kernel, by decide +kernel⟩
theorem ixNat {xs : List V} {j : Nat} (h : j < xs.length) : ixN xs.length (j : Int) = some j := by
  unfold ixN
  rw [if_pos (by omega), if_pos (by omega)]
  simp
/-- all but one thing stands -/
def Kp1 (D : Addr) (H H' : Hp) : Prop := ∀ a o, a ≠ D → H a = some o → H' a = some o
theorem Kp1.tk {D : Addr} {H H' : Hp} {xs : List V} (k : Kp1 D H H') (h : H D = some (.lst xs)) : TK H H' := fun b ys e => k b _ (fun z => by rw [z, h] at e; cases e) e
theorem Kp1.up {D : Addr} {H H1 H2 : Hp} (k : Kp1 D H H1) (s : Same H1 H2) : Kp1 D H H2 := fun a o n e => s _ _ (k a o n e)
theorem Kp1.upd {D : Addr} {H H1 : Hp} {o : HO} (k : Kp1 D H H1) : Kp1 D H (upd H1 D o) := fun a o' n e => by
  rw [upd_ne n]
  exact k a o' n e
section
variable {P : Program} {w : World} {K : PySem.W.Frag} {mg : Str → Option Value} {base : Heap}
/-- a plan of the merged drawers, divided -/
def spDv : Sp := fun vs H Q _ => ∃ (dk c t b : Addr) (B : Nat) (ls wl : List Addr) (rows ws : List (List Int)) (n one last : Nat), vs = [.ref dk, .ref t, .ref b, .int (one : Int), .int (last : Int)] ∧ Deck H dk c B ∧ B + 20 ≤ 1000000 ∧ StockAt H t ls rows ∧ Rb rows n ∧ (∀ x ∈ totalsOf rows n, x ≤ 50) ∧ Wish H b wl ws n ∧
  one < rows.length ∧ last < rows.length ∧ one ≠ last ∧ ∀ H', Kp2 dk c H H' → Deck H' dk c (B + 5) → Q (.bl true) H'
set_option maxHeartbeats 1600000 in
theorem ok_dv {f fN fU fTu fA fIk fEr fO fSz fMg fFu fCo fSp fCa fI fR fFc fLo fSo fOv fDw fSv fIs fSt fSn fDk fD fCu fS fWh fKr fDv fWr : Addr} {fd dN dU dTu dA dIk dEr dO dSz dMg dFu dCo dSp dCa dI dR dFc dLo dSo dOv dDw dSv dIs dSt dSn dDk dD dCu dS dWh dKr dDv dWr : FuncData} {k : Nat} (F : Fun K "_law_divided_right" "_law_divided_right" sDivR f fd) (T : Tx K mg fN fU fTu fA fIk fEr fO fSz fMg fFu fCo fSp fCa fI fR fFc fLo fSo fOv fDw fSv fIs fSt fSn fDk fD fCu fS fWh fKr fDv fWr dN dU dTu dA dIk dEr dO dSz dMg dFu dCo dSp dCa dI dR dFc dLo dSo dOv dDw dSv dIs dSt dSn dDk dD dCu dS dWh dKr dDv dWr) :
    FnOk P w K mg base CX0 (k + 6) f fd ["_law_deck_here", "_law_stock_here", "_law_wishes_here", "_law_one", "_law_last"] spDv := by
  have GMg : FnR P w K mg base CX0 (k + 2) fMg spMergedR := ok_merged T.Mg T
  have GSz : FnOk P w K mg base CX0 (k + 1) fSz dSz ["stock"] spSizes := ok_sizes T.Sz T.m_tuple T.m_sum
  have GD : FnOk P w K mg base CX0 (k + 1) fD dD ["_law_deck_here", "_law_limit"] spDraw := ok_draw T.D T.m_len
  have GIs : FnOk P w K mg base CX0 (k + 5) fIs dIs ["stock", "collections", "plan"] spIs := ok_is T.Is T
  refine F.ok scDivR (fun vs H Q E h => ?_) (fun cdv A outer s H vs Q E hr h => ?_)
  · obtain ⟨dk, c, t, b, B, ls, wl, rows, ws, n, one, last, rfl, _⟩ := h
    rfl
  · obtain ⟨dk, c, t, b, B, ls, wl, rows, ws, n, one, last, rfl, d, hB, st, rb, h50, wi, ho, hla, hne, q⟩ := h
    refine ⟨_, (pss_cons (ps_par (i := 5) (j := 6) (by rfl) scDivR.nd rfl rfl (by decide) rfl rfl (pa_cons (pe_callRS (E := fun _ => E0) GMg (hr.mono (by omega)) rfl T.gMg T.Mg.kp (fun _ _ _ _ _ _ _ h => (show False from h).elim) (pa_cons (pv 1) (pa_cons (pv 3) (pa_cons (pv 4) pa_nil)))) (pa_cons (pe_call GSz (hr.mono (by omega)) (by rfl) T.gSz T.Sz.kp T.bSz .nil pass0 (pa_cons (pv 1) pa_nil)) pa_nil)) (by rfl))
      (pss_cons (ps_set (i := 7) scDivR.nd rfl (.inr rfl) (pe_lc (own := [("_law_size", 11)]) (g := gName 11) rfl scDivR.nd (pi_tup (pv 6)) (blkOk_by (own := [("_law_size", 11)]) (N := NDv) (sc := defScope sDivR) (by decide +kernel)) (fun _ _ _ _ _ => (pg_name (i := 11) scDivR.nd rfl (Or.inl rfl))) (fun _ _ _ _ _ => pts_nil) (fun _ _ _ _ _ => (pe_call GD (hr.mono (by omega)) (by rfl) T.gD T.D.kp T.bD .nil pass0 (pa_cons (pv 0) (pa_cons (pe_op op_add (pv 11) pe_int) pa_nil))))))
      (pss_cons (ps_asg (pe_ix (show IxR _ (rIxL K) from ix_list) (pe_lst (pa_cons (pe_ix (show IxR _ (rIxL K) from ix_list) (pv 7) (pv 3) (fun _ _ => rfl)) (pa_cons (pe_ix (show IxR _ (rIxT K) from ix_tup) (pv 6) (pv 3) (fun _ _ => rfl)) pa_nil))) (pe_call GD (hr.mono (by omega)) (by rfl) T.gD T.D.kp T.bD .nil pass0 (pa_cons (pv 0) (pa_cons pe_int pa_nil))) (fun _ _ => rfl)) (pg_sub (pv 7) (pv 3) set_list))
      (pss_cons (ps_setLc (i := 8) (own := [("_law_k", 12)]) (g := gName 12) rfl scDivR.nd rfl rfl (sw_true rfl rfl rfl (by decide +kernel)) (pi_range1 (by rfl) T.m_range (pa_cons (pe_callB call_len_seq (by rfl) T.m_len PySem.boot_len (pa_cons (pv 7) pa_nil)) pa_nil)) (blkOk_by (own := [("_law_k", 12)]) (N := NDv) (sc := defScope sDivR) (by decide +kernel)) (fun _ _ _ _ _ => (pg_name (i := 12) scDivR.nd rfl (Or.inl rfl))) (fun _ _ _ _ _ => pts_one (pt_cmpR op_ne (pv 12) (pv 4) (nomark _))) (fun _ _ _ _ _ => (pe_op op_add (pe_ix (show IxR _ (rIxL K) from ix_list) (pv 7) (pv 12) (fun _ _ => rfl)) (pe_op op_mul (pe_ix (show IxR _ (rIxL K) from ix_list) (pv 7) (pv 4) (fun _ _ => rfl)) (pe_callTy call_int1 (by rfl) T.m_int (by decide +kernel) (pa_cons (pe_cmpR op_eq (pv 12) (pv 3) (nomark _)) pa_nil))))))
      (pss_cons (ps_if (pt_not (pt_val (pe_call GIs (hr.mono (by omega)) (by rfl) T.gIs T.Is.kp T.bIs .nil pass0 (pa_cons (pv 5) (pa_cons (pv 2) (pa_cons (pe_callTy call_tuple_of (by rfl) T.m_tuple (by decide +kernel) (pa_cons (pv 8) pa_nil)) pa_nil)))))) (pss_one (ps_ret pe_bl)) pss_nil)
      (pss_cons (ps_set (i := 9) scDivR.nd rfl (.inl rfl) (pe_op op_add (pe_ix (show IxR _ (rIxL K) from ix_list) (pv 7) (pv 3) (fun _ _ => rfl)) (pe_ix (show IxR _ (rIxL K) from ix_list) (pv 7) (pv 4) (fun _ _ => rfl))))
      (pss_cons (ps_for PassesOwn.never rfl (pi_range2 (by rfl) T.m_range (pa_cons (pe_callB (call_max2 rfl) (by rfl) T.m_max (by decide +kernel) (pa_cons pe_int (pa_cons (pe_op op_sub (pv 9) (pe_ix (show IxR _ (rIxT K) from ix_tup) (pv 6) (pv 4) (fun _ _ => rfl))) pa_nil))) (pa_cons (pe_op op_add (pe_callB (call_min2 rfl) (by rfl) T.m_min (by decide +kernel) (pa_cons (pv 9) (pa_cons (pe_ix (show IxR _ (rIxT K) from ix_tup) (pv 6) (pv 3) (fun _ _ => rfl)) pa_nil))) pe_int) pa_nil))) (pg_name (i := 10) scDivR.nd rfl (Or.inl rfl)) (pss_cons (ps_asg (pe_tup (pa_cons (pv 10) (pa_cons (pe_op op_sub (pv 9) (pv 10)) pa_nil))) (pg_tup rfl (pgs_cons (pg_sub (pv 7) (pv 3) set_list) (pgs_cons (pg_sub (pv 7) (pv 4) set_list) pgs_nil))))
      (pss_one (ps_if (pt_not (pt_val (pe_call GIs (hr.mono (by omega)) (by rfl) T.gIs T.Is.kp T.bIs .nil pass0 (pa_cons (pv 1) (pa_cons (pv 2) (pa_cons (pe_callTy call_tuple_of (by rfl) T.m_tuple (by decide +kernel) (pa_cons (pv 7) pa_nil)) pa_nil)))))) (pss_one (ps_ret pe_bl)) pss_nil))))
      (pss_one (ps_ret pe_bl))))))))), ?_⟩
    have hn4 := rb.n4
    have hr1 := rb.r1
    have hr4 := rb.r4
    have hrn : ∀ r ∈ rows, r.length = n := fun r hr => (rb.rw r hr).1
    have hX : ∀ r ∈ rows, ∀ x ∈ r, 0 ≤ x := fun r hr x hx => ((rb.rw r hr).2 x hx).1
    have hg : ∀ r ∈ ws, r.length = n := fun r hr => (wi.g r hr).len
    have qb := mgR_rb rb ho hla hne h50
    have hql := mgR_len (rows := rows) (one := one) (n := n) hla
    have hszl : (sizesOf rows).length = rows.length := by simp [sizesOf]
    have hszg : ∀ j, j < rows.length → (sizesOf rows)[j]? = some (sizeAt rows j) := fun j hj => by
      unfold sizesOf sizeAt
      rw [List.getElem?_map, getD_of (d := []) hj]
      rfl
    -- other, sizes
    refine ⟨.ref t, rfl, .int (one : Int), rfl, .int (last : Int), rfl, [.ref t], [.int (one : Int), .int (last : Int)], rfl, rfl, by show 2 ≤ sizeLine; decide, fun dp ndp => ?_⟩
    have sd := same_new (o := .tup [.int (one : Int), .int (last : Int)]) ndp
    refine ⟨t, dp, ls, rows, n, [one, last], rfl, st.same sd, upd_same, fun j hj => by rcases List.mem_cons.mp hj with rfl | hj; exact ho; rw [List.mem_singleton.mp hj]; exact hla, by show 1 ≤ 2; decide, by show 2 ≤ 4; decide, hr4, hrn, by omega, sub_le50 rb ho hla hne h50, fun o ol H1 s1 so => ?_⟩
    rw [left_mgR hne] at so
    have s01 := sd.trans s1
    refine ⟨.ref t, rfl, t, ls, rows, rfl, st.same s01, by omega, fun zp H2 s2 _ hz => ⟨_, _, rfl, ?_⟩⟩
    have s02 := s01.trans s2
    have d2 := d.keep s02
    -- plan
    refine ⟨.ref zp, rfl, zp, rfl, ⟨_, SqT.of hz⟩, fun D nD => ?_⟩
    have dne := d2.nedk nD
    have hD0 : H D = none := by
      cases e : H D with
      | none => rfl
      | some o' => rw [s02 _ _ e] at nD; cases nD
    refine lc_tup (xs := (sizesOf rows).map V.int) (fun i H' => ∃ ps : List Int, ps.length = i ∧ (∀ j, j < i → 0 ≤ ps.getD j 0 ∧ ps.getD j 0 ≤ sizeAt rows j) ∧ H' D = some (.lst (ps.map V.int)) ∧ Kp2 dk c H2 H' ∧ Deck H' dk c (B + i))
      ⟨[], rfl, (fun j hj => absurd hj (Nat.not_lt_zero j)), upd_same, kps (same_new nD), d2.kp nD⟩ (fun i H' _ h => by obtain ⟨_, _, _, _, kp, _⟩ := h; exact SqT.of (TK.kp d2 kp _ _ hz)) (fun i x H' hx h => ?_) (fun H' h => ?_)
    · obtain ⟨ps, hpl, hpb, hD, kp, d3⟩ := h
      obtain ⟨z, hz1, rfl⟩ := get_map hx
      have hi : i < rows.length := by
        have := (List.getElem?_eq_some_iff.mp hz1).1
        omega
      rw [hszg i hi] at hz1
      obtain rfl := Option.some.inj hz1
      have hb := rb.at_ hi
      refine ⟨rfl, .ref dk, rfl, .int (sizeAt rows i), rfl, sizeAt rows i, 1, rfl, rfl, dk, c, B + i, sizeAt rows i + 1, rfl, d3, by omega, by omega, by omega, fun r H4 r0 rL k4 d4 => ?_⟩
      refine ⟨_, k4 _ _ dne.1 dne.2 hD, by rw [List.length_map]; exact len_lt (by omega), ps ++ [r], by rw [List.length_append, hpl]; rfl, fun j hj => ?_, ?_, fun a o' n1 n2 e' => ?_, (d4.updD dne.1 dne.2).up (by omega)⟩
      · by_cases hji : j < i
        · rw [List.getD_eq_getElem?_getD, List.getElem?_append_left (by omega), ← List.getD_eq_getElem?_getD]
          exact hpb j hji
        · obtain rfl : j = i := by omega
          rw [List.getD_eq_getElem?_getD, List.getElem?_append_right (by omega), hpl, Nat.sub_self]
          show 0 ≤ r ∧ r ≤ _
          omega
      · rw [upd_same, List.map_append]
        rfl
      · rw [upd_ne (ne_of_none e' nD)]
        exact k4 _ _ n1 n2 (kp a o' n1 n2 e')
    obtain ⟨ps, hpl, hpb, hD, kp3, d3⟩ := h
    rw [List.length_map, hszl] at hpl hpb d3
    generalize H' = H3 at hD kp3 d3 ⊢
    have tk3 : TK H2 H3 := TK.kp d2 kp3
    have hz3 := tk3 _ _ hz
    have g1 : (ps.map V.int)[one]? = some (.int (ps.getD one 0)) := by rw [List.getElem?_map, getD_of (d := 0) (by omega)]; rfl
    have gz1 : ((sizesOf rows).map V.int)[one]? = some (.int (sizeAt rows one)) := by rw [List.getElem?_map, hszg one ho]; rfl
    have gz2 : ((sizesOf rows).map V.int)[last]? = some (.int (sizeAt rows last)) := by rw [List.getElem?_map, hszg last hla]; rfl
    -- plan[one]
    refine ⟨.ref D, rfl, .int (one : Int), rfl, D, _, (one : Int), .int (ps.getD one 0), rfl, rfl, SqL.of hD, atI_nat g1, .ref zp, rfl, .int (one : Int), rfl, zp, _, (one : Int), .int (sizeAt rows one), rfl, rfl, SqT.of hz3, atI_nat gz1, by show 2 ≤ sizeLine; decide, fun l1 nl1 => ?_⟩
    have sl := same_new (o := .lst [.int (ps.getD one 0), .int (sizeAt rows one)]) nl1
    have dl := d3.keep sl
    have lne := d3.nedk nl1
    refine ⟨.ref dk, rfl, dk, c, _, 2, rfl, dl, by omega, by decide, by decide, fun r H4 r0 rL k4 d4 => ?_⟩
    obtain ⟨v, hv, ev⟩ := two_at (a := ps.getD one 0) (b := sizeAt rows one) r0 rL
    have hD4 := k4 _ _ dne.1 dne.2 (sl _ _ hD)
    refine ⟨l1, _, r, .int v, rfl, rfl, SqL.of (k4 _ _ lne.1 lne.2 upd_same), ev, .ref D, rfl, .int (one : Int), rfl, D, _, (one : Int), one, rfl, rfl, hD4, ixNat (by rw [List.length_map]; omega), ?_⟩
    rw [← List.map_set]
    have kp4 : Kp2 dk c H2 H4 := kp3.trans ((kps sl).trans k4)
    have hD5 : (upd H4 D (.lst ((ps.set one v).map V.int))) D = some (.lst ((ps.set one v).map V.int)) := upd_same
    have kp5 : Kp2 dk c H (upd H4 D (.lst ((ps.set one v).map V.int))) := fun a o' n1 n2 e' => by
      rw [upd_ne (ne_of_none e' hD0)]
      exact kp4 _ _ n1 n2 (s02 _ _ e')
    have tk5 : TK H2 (upd H4 D (.lst ((ps.set one v).map V.int))) := fun a xs e' => by
      rw [upd_ne (fun z => by rw [z, nD] at e'; cases e')]
      exact TK.kp d2 kp4 _ _ e'
    have d5 := (d4.updD (o := .lst ((ps.set one v).map V.int)) dne.1 dne.2).up (show _ ≤ B + 5 by omega)
    have hpl5 : (ps.set one v).length = rows.length := by rw [List.length_set]; exact hpl
    have hpb5 : ∀ j, j < rows.length → 0 ≤ (ps.set one v).getD j 0 ∧ (ps.set one v).getD j 0 ≤ sizeAt rows j := fun j hj => by
      rw [setD (by omega)]
      split
      · next e =>
        rw [← e]
        have h1 := hpb one ho
        have h2 := rb.at_ ho
        rcases hv with rfl | rfl <;> omega
      · exact hpb j hj
    generalize upd H4 D (.lst ((ps.set one v).map V.int)) = H5 at hD5 kp5 tk5 d5 ⊢
    generalize ps.set one v = pl at hD5 hpl5 hpb5
    clear hD hpl hpb g1 hD4 ev hv kp4 d4 k4 dl sl kp3 d3 tk3 hz3
    have hpn : ∀ j, 0 ≤ plF pl j := fun j => by
      unfold plF
      by_cases hj : j < rows.length
      · exact (hpb5 j hj).1
      · rw [List.getD_eq_getElem?_getD, List.getElem?_eq_none (by omega)]
        exact Int.le_refl _
    have hz5 := tk5 _ _ hz
    have g1 : (pl.map V.int)[one]? = some (.int (pl.getD one 0)) := by rw [List.getElem?_map, getD_of (d := 0) (by omega)]; rfl
    have g2 : (pl.map V.int)[last]? = some (.int (pl.getD last 0)) := by rw [List.getElem?_map, getD_of (d := 0) (by omega)]; rfl
    have st5 := (st.same s02).tk tk5
    have wi5 := (wi.same s02).tk tk5
    have so5 := (so.same s2).tk tk5
    -- wide
    refine ⟨.ref D, rfl, D, _, rfl, .inl (SqL.of hD5), (rows.length : Int), congrArg (fun x => [V.int x]) (by rw [List.length_map, hpl5]), by omega, by omega, fun D2 nD2 => ?_⟩
    refine lc_range (lo := 0) (n := rows.length) (fun i H' => H' D2 = some (.lst (((idx last i).map fun j => pl.getD j 0 + pl.getD last 0 * (if j = one then 1 else 0)).map V.int)) ∧ Same H5 H') ⟨upd_same, same_new nD2⟩ (fun i H' hi h => ?_) (fun H' h => ?_)
    · obtain ⟨hD6, s6⟩ := h
      have hDs := s6 _ _ hD5
      have gi : (pl.map V.int)[i]? = some (.int (pl.getD i 0)) := by rw [List.getElem?_map, getD_of (d := 0) (by omega)]; rfl
      refine ⟨rfl, _, rfl, _, rfl, rfl, _, rfl, ite2 (fun e => ?_) (fun e => ?_)⟩
      · have hil : i ≠ last := fun z => by
          rw [z, Int.zero_add] at e
          simp at e
        refine ⟨.ref D, rfl, .int ((0 : Int) + i), rfl, D, _, (i : Int), .int (pl.getD i 0), rfl, (by rw [Int.zero_add]), SqL.of hDs, atI_nat gi, .ref D, rfl, .int (last : Int), rfl, D, _, (last : Int), .int (pl.getD last 0), rfl, rfl, SqL.of hDs, atI_nat g2, _, rfl, _, rfl, rfl, .inr ⟨_, rfl, ?_⟩⟩
        have e1 : (if decide (V.int ((0 : Int) + (i : Nat)) = V.int (one : Int)) = true then (1 : Int) else 0) = if i = one then 1 else 0 := by
          rw [Int.zero_add]
          by_cases e2 : i = one
          · rw [e2, if_pos (decide_eq_true rfl), if_pos rfl]
          · rw [if_neg e2, if_neg]
            intro z
            have := V.int.inj (of_decide_eq_true z)
            omega
        rw [e1]
        refine ⟨pl.getD last 0, _, rfl, rfl, .inr (by split <;> decide), pl.getD i 0, _, rfl, rfl, _, hD6, ?_, ?_, fun b' o' e' => ?_⟩
        · rw [List.length_map, List.length_map]
          have : (idx last i).length ≤ i := by unfold idx; exact Nat.le_trans (List.length_filter_le _ _) (by rw [List.length_range]; exact Nat.le_refl _)
          exact len_lt (by omega)
        · rw [upd_same, idx_succ, if_neg hil, List.map_append, List.map_append]
          rfl
        · rw [upd_ne (ne_of_none e' nD2)]
          exact s6 _ _ e'
      · have hil : i = last := by
          rw [Int.zero_add] at e
          have e : ¬ (!decide (V.int (i : Int) = V.int (last : Int))) = true := e
          have := V.int.inj (of_decide_eq_true (by simpa using e : decide (V.int (i : Int) = V.int (last : Int)) = true))
          omega
        refine ⟨?_, s6⟩
        rw [idx_succ, if_pos hil, List.append_nil]
        exact hD6
    obtain ⟨hD6, s6⟩ := h
    -- is_sure
    refine ⟨.ref o, rfl, .ref b, rfl, .ref D2, rfl, D2, _, rfl, .inl ⟨SqL.of hD6, fun wp nwp => ?_⟩⟩
    have sw := same_new (o := .tup (((idx last rows.length).map fun j => pl.getD j 0 + pl.getD last 0 * (if j = one then 1 else 0)).map V.int)) nwp
    have s56 := s6.trans sw
    have hml := mgP_len (ps := pl) (one := one) hla
    refine ⟨o, b, wp, ol, wl, mgR rows one last n, ws, mgP pl one last rows.length, n, rfl, ⟨so5.same s56, qb.r1, qb.r4, fun r hr => (qb.rw r hr).1, wi5.same s56, upd_same, by omega⟩, fun H7 s7 => ?_⟩
    have s57 := s56.trans s7
    have kp7 := kp5.trans (kps s57)
    have d7 := d5.keep s57
    refine ⟨_, rfl, ?_⟩
    cases hb : tabB (mgR rows one last n) ws (mgP pl one last rows.length) n with
    | false => exact iteT (q _ kp7 d7)
    | true =>
      refine iteF (A := False) ?_
      have hD7 := s57 _ _ hD5
      have hz7 := s57 _ _ hz5
      have hb1 := hpb5 one ho
      have hb2 := hpb5 last hla
      have hz1 := rb.at_ ho
      have hz2 := rb.at_ hla
      refine ⟨.ref D, rfl, .int (one : Int), rfl, D, _, (one : Int), .int (pl.getD one 0), rfl, rfl, SqL.of hD7, atI_nat g1, .ref D, rfl, .int (last : Int), rfl, D, _, (last : Int), .int (pl.getD last 0), rfl, rfl, SqL.of hD7, atI_nat g2, pl.getD one 0, pl.getD last 0, rfl, rfl, ?_⟩
      obtain ⟨tt, htt⟩ : ∃ tt : Int, tt = pl.getD one 0 + pl.getD last 0 := ⟨_, rfl⟩
      rw [show ((fun i j => V.int (i + j)) (pl.getD one 0) (pl.getD last 0)) = V.int tt from congrArg V.int htt.symm]
      refine ⟨.int tt, rfl, .ref zp, rfl, .int (last : Int), rfl, zp, _, (last : Int), .int (sizeAt rows last), rfl, rfl, SqT.of hz7, atI_nat gz2, tt, sizeAt rows last, rfl, rfl, 0, tt - sizeAt rows last, rfl, .int tt, rfl, .ref zp, rfl, .int (one : Int), rfl, zp, _, (one : Int), .int (sizeAt rows one), rfl, rfl, SqT.of hz7, atI_nat gz1, tt, sizeAt rows one, rfl, _, 1, rfl, rfl, ?_⟩
      obtain ⟨lo, hlo, hlo0⟩ : ∃ lo : Int, (if tt - sizeAt rows last > 0 then tt - sizeAt rows last else 0) = lo ∧ 0 ≤ lo ∧ lo ≤ 400 := by
        split
        · exact ⟨_, rfl, by omega, by omega⟩
        · exact ⟨0, rfl, by decide, by decide⟩
      obtain ⟨hi, hhi, hhi0, hhi1⟩ : ∃ hi : Int, (if sizeAt rows one < tt then sizeAt rows one else tt) = hi ∧ hi ≤ tt ∧ 0 ≤ hi := by
        split
        · exact ⟨_, rfl, by omega, by omega⟩
        · exact ⟨_, rfl, by omega, by omega⟩
      rw [hlo, hhi]
      refine ⟨lo, hi + 1, rfl, ⟨by omega, by omega, by omega, by omega⟩, ?_⟩
      refine for_range (D := { nx := tRet (tC (V.bl true)) { nx := fun _ H' => Q V.non H', rt := Q }, rt := Q }) (lo := lo) (n := (hi + 1 - lo).toNat) (fun i σ H' => ∃ (y10 : Option V) (p2 : List Int), σ = [some (.ref dk), some (.ref t), some (.ref b), some (.int (one : Int)), some (.int (last : Int)), some (.ref o), some (.ref zp), some (.ref D), some (.ref D2), some (.int tt), y10, none, none] ∧ Kp1 D H7 H' ∧ H' D = some (.lst (p2.map V.int)) ∧
          p2.length = rows.length ∧ (∀ j, 0 ≤ plF p2 j) ∧ mgP p2 one last rows.length = mgP pl one last rows.length ∧ p2.getD one 0 + p2.getD last 0 = tt) ⟨none, pl, rfl, fun _ _ _ e => e, hD7, hpl5, hpn, rfl, htt.symm⟩ (fun i σ H8 hi8 h => ?_) (fun σ H8 h => ?_)
      · obtain ⟨y10, p2, rfl, k8, hD8, hl8, hn8, hm8, ht8⟩ := h
        obtain ⟨part, hpart⟩ : ∃ part : Int, part = lo + (i : Int) := ⟨_, rfl⟩
        have hp0 : 0 ≤ part ∧ part ≤ tt := by omega
        rw [← hpart]
        refine ⟨.int part, rfl, .int tt, rfl, .int part, rfl, tt, part, rfl, rfl, by show 2 ≤ sizeLine; decide, fun T1 nT1 => ?_⟩
        have sT := same_new (o := .tup [.int part, .int (tt - part)]) nT1
        have hDT := sT _ _ hD8
        refine ⟨T1, [.int part, .int (tt - part)], rfl, .inl (.inl upd_same), rfl, .int part, [.int (tt - part)], rfl, .ref D, rfl, .int (one : Int), rfl, D, _, (one : Int), one, rfl, rfl, hDT, ixNat (by rw [List.length_map]; omega), ?_⟩
        refine ⟨.int (tt - part), [], rfl, .ref D, rfl, .int (last : Int), rfl, D, _, (last : Int), last, rfl, rfl, upd_same, ixNat (by rw [List.length_set, List.length_map]; omega), rfl, ?_⟩
        rw [← List.map_set, ← List.map_set]
        have k9 : Kp1 D H7 (upd (upd (upd H8 T1 (.tup [V.int part, V.int (tt - part)])) D (.lst ((p2.set one part).map V.int))) D (.lst (((p2.set one part).set last (tt - part)).map V.int))) := ((k8.up sT).upd).upd
        have hD9 : (upd (upd (upd H8 T1 (.tup [V.int part, V.int (tt - part)])) D (.lst ((p2.set one part).map V.int))) D (.lst (((p2.set one part).set last (tt - part)).map V.int))) D = some (.lst (((p2.set one part).set last (tt - part)).map V.int)) := upd_same
        generalize upd (upd (upd H8 T1 (.tup [V.int part, V.int (tt - part)])) D (.lst ((p2.set one part).map V.int))) D (.lst (((p2.set one part).set last (tt - part)).map V.int)) = H9 at k9 hD9 ⊢
        have hm9 := mgP_set (ps := p2) (one := one) (last := last) (m := rows.length) (a := part) (b := tt - part) (by omega) (by omega) hne (by omega)
        have hl9 : ((p2.set one part).set last (tt - part)).length = rows.length := by rw [List.length_set, List.length_set]; exact hl8
        have ho9 : ((p2.set one part).set last (tt - part)).getD one 0 = part := by
          rw [setD (by rw [List.length_set]; omega), if_neg (fun z => hne z.symm), setD (by omega), if_pos rfl]
        have hla9 : ((p2.set one part).set last (tt - part)).getD last 0 = tt - part := by
          rw [setD (by rw [List.length_set]; omega), if_pos rfl]
        have hn9 : ∀ j, 0 ≤ plF ((p2.set one part).set last (tt - part)) j := fun j => by
          unfold plF
          rw [setD (by rw [List.length_set]; omega), setD (by omega)]
          split
          · omega
          · split
            · omega
            · exact hn8 j
        generalize (p2.set one part).set last (tt - part) = p9 at hD9 hm9 hl9 ho9 hla9 hn9
        have tk9 := k9.tk hD7
        have st9 := (st5.same s57).tk tk9
        have wi9 := (wi5.same s57).tk tk9
        refine ⟨.ref t, rfl, .ref b, rfl, .ref D, rfl, D, _, rfl, .inl ⟨SqL.of hD9, fun wp2 nwp2 => ?_⟩⟩
        have sw2 := same_new (o := .tup (p9.map V.int)) nwp2
        refine ⟨t, b, wp2, ls, wl, rows, ws, p9, n, rfl, ⟨st9.same sw2, hr1, hr4, hrn, wi9.same sw2, upd_same, hl9⟩, fun H10 s10 => ?_⟩
        rw [div_tab hX hn9 hg ho hla hne (by rw [hm9, hm8]; exact hb)]
        have sz := sw2.trans s10
        exact ⟨_, rfl, iteF (A := False) ⟨_, p9, rfl, k9.up sz, sz _ _ hD9, hl9, hn9, by rw [hm9, hm8], by omega⟩⟩
      · obtain ⟨y10, p2, rfl, k8, hD8, _⟩ := h
        refine q _ (fun a o' n1 n2 e' => k8 _ _ (ne_of_none e' hD0) (kp7 _ _ n1 n2 e')) ?_
        obtain ⟨⟨ns, t', h1, h2, h3⟩, ne⟩ := d7
        exact ⟨⟨ns, t', k8 _ _ dne.1.symm h1, k8 _ _ dne.2.symm h2, h3⟩, ne⟩
end
end DD
/-! ### set(a list of ints): the library has the rule for tuples (call_set_tupI); the same road for lists -/
namespace DD
open PySem PySem.Spec PyProof.Rows L2
/-- the set that set(..) begins with -/
abbrev so0 (w : World) : Obj := { cls := .type "set", dict := none, data := .set #[] 0 (.fresh 0 0 (!w.params.followText "set-order")) }
section
variable {P : Program} {w : World} {A : Around} {E : Value → Shared → Prop} {s : Shared}
set_option maxHeartbeats 4000000 in
theorem set_list_of {l : Addr} {us : Array Value} {ns : List Int} {Q : Value → Shared → Prop} (quiet : A.handled = none) (at_ : s.heap.IsList l us) (hin : IntsAre us.toList ns) (few : ns.length + 1 < scanBound)
    (fin : ∀ (g : Heap) (tk c : Nat), SetR w g s.heap.objs.size (fun j => decide (j ∈ ns)) c → c ≤ ns.length → (∀ b o, s.heap.get? b = some o → g.get? b = some o) → Q (.ref s.heap.objs.size) { s with heap := g, toks := tk }) :
    wpAny (model P w) A (call (.type "set") [.ref l]) Q E s := by
  have size : us.size = ns.length := by
    have e := IntsAre.length hin
    rwa [Array.length_toList] at e
  obtain ⟨c0, tl0, mro0⟩ := F.called_set.mro
  have f1 := F.called_set.made
  have f2 := F.called_set.sub
  refine wpAny_call (codeAny_of_tree ?_)
  show wpAny _ _ (callAny (.type "set") _) _ _ _
  refine wpAny_pure ⟨Code.quiet_builtin _ (by decide +kernel), codeAny_builtin F.entry_type_call ?_⟩
  rw [Around.under_plain (weight_type_call_type "set" [.ref l] []) rfl]
  have f3 := F.called_set.notType
  have f4 := F.called_set.canCreate
  have f5 := F.typeCall_set_1 (.ref l)
  repeat (any_goals (first | assumption | wp_step))
  refine codeAny_mono (code_set_led1 (.ref l) (E := E) (Q₁ := fun u s1 => u = .ref s.heap.objs.size ∧ s1 = { s with heap := s.heap.push (so0 w) }) ⟨rfl, rfl⟩) fun r s1 hr => ?_
  match r, hr with
  | .error _, hr => exact hr
  | .ok (.ret u), hr =>
    obtain ⟨rfl, rfl⟩ := hr
    have new : (s.heap.push (so0 w)).get? s.heap.objs.size = some (so0 w) := Heap.get?_push_size _ rfl
    have isSet : Shared.TypeIs { s with heap := s.heap.push (so0 w) } (.ref s.heap.objs.size) "set" := ⟨_, new, rfl⟩
    have f6 := F.called_set.init.lookup
    have f7 := F.called_set.init.bind (.ref s.heap.objs.size)
    repeat (any_goals (first | assumption | wp_step))
    refine codeAny_mono (codeAny_call_builtin (R := wants (fun r s2 => r = .none ∧ ∃ g tk c, s2 = { s with heap := g, toks := tk } ∧ SetR w g s.heap.objs.size (fun j => decide (j ∈ ns)) c ∧ c ≤ ns.length ∧
        (∀ b o, s.heap.get? b = some o → g.get? b = some o)) E) F.called_set.init.plain F.entry_set_init (check_set_init_1 isSet ?_)) fun r2 s2 hr2 => ?_
    · obtain ⟨⟨oc, od, odt, osl⟩, ho, hc, nl, hd⟩ := at_
      simp only at hc hd
      subst hc
      subst hd
      have ho1 : (s.heap.push (so0 w)).get? l = some { cls := .type "list", dict := od, data := .seq us nl, slots := osl } := Heap.get?_push_of_some _ ho
      have f8 := F.sub_list_set
      have f9 := F.sub_list_frozenset
      have fA : (Value.type "list" == Value.type "dict") = false := by decide
      have at1 : (s.heap.push (so0 w)).IsList l us := ⟨_, ho1, rfl, nl, rfl⟩
      have old : l < s.heap.objs.size := Heap.lt_size ho
      have psz : (s.heap.push (so0 w)).objs.size = s.heap.objs.size + 1 := Heap.size_push ..
      unfold Builtin.«set.__init__» noKeywords Builtin.Frozenset.updateFrom
      generalize hPI : pyIter = PI
      wp_walk
      subst hPI
      refine wpAny_pyIter_list at1 (wpAny_bind (wpAny_runValue ?_))
      have val : ∀ (i : Nat) (v : Value), us[i]? = some v → ∃ k t, ns[i]? = some k ∧ v = .int k t := fun i v hv => by
        have hi : i < ns.length := by rw [← size]; exact (Array.getElem?_eq_some_iff.mp hv).1
        obtain ⟨t, e⟩ := IntsAre.int_at hin i v (by rw [Array.getElem?_toList]; exact hv)
        have gi := List.getElem?_eq_getElem hi
        refine ⟨ns[i], t, gi, ?_⟩
        rw [e, List.getD_eq_getElem?_getD, gi]
        rfl
      refine set_update_ints ((Walks.list (show A.in1.in1.in1.handled = none by simp [quiet]) _ l (by rw [psz]; exact Nat.ne_of_lt (Nat.lt_succ_of_lt old)) us).toS) s.heap.objs.size (by rw [psz]; exact fun hm => (List.mem_cons.mp hm).elim (fun z => Nat.ne_of_lt (Nat.lt_succ_self _) z) fun hm => Nat.ne_of_gt old (List.mem_singleton.mp hm)) ns size few val (us.size - 0) 0 _ (by omega) (Nat.zero_le _)
        ⟨⟨_, Heap.get?_push_size _ rfl, rfl, rfl⟩, at1.push _⟩ ⟨0, Nat.le_refl 0, setR_new_at (Heap.get?_push_of_some _ new)⟩ fun s' c' mv hc' R => ?_
      obtain ⟨g, gs, dr, tk, os⟩ := s'
      obtain rfl : gs = s.gens := mv.gens
      obtain rfl : dr = s.drawn := mv.drawn
      obtain rfl : os = s.os := mv.os
      show wpAny _ _ _ _ _ _
      refine wpAny_pure ?_
      show wpAny _ _ (ret Value.none) _ _ _
      rw [size] at hc'
      refine wpAny_pure ⟨rfl, g, tk, c', rfl, R, hc', fun b o e => ?_⟩
      have hb := Heap.lt_size e
      refine mv.heap b o (fun hm => ?_) (Heap.get?_push_of_some _ (Heap.get?_push_of_some _ e))
      rcases List.mem_cons.mp hm with z | hm
      · exact Nat.ne_of_lt hb z
      · rcases List.mem_cons.mp hm with z | hm
        · rw [psz] at z
          exact Nat.ne_of_lt (Nat.lt_succ_of_lt hb) z
        · simp at hm
    · match r2, hr2 with
      | .error _, hr2 => exact hr2
      | .ok (.ret u2), hr2 =>
        obtain ⟨rfl, g, tk, c', rfl, R, hc', hk⟩ := hr2
        repeat (any_goals (first | assumption | wp_step))
        exact fin _ _ _ R hc' hk
      | .ok .next, hr2 => exact hr2.elim
      | .ok .brk, hr2 => exact hr2.elim
      | .ok .cont, hr2 => exact hr2.elim
  | .ok .next, hr => exact hr.elim
  | .ok .brk, hr => exact hr.elim
  | .ok .cont, hr => exact hr.elim
end
def rSetL1 (K : PySem.W.Frag) (w : World) : List V → Hp → VK → Prop := fun xs H Q => ∃ (a : Addr) (ns : List Int), xs = [.ref a] ∧ SqL K H a (ns.map V.int) ∧ ns.length ≤ 60 ∧
  ∀ p c, H p = none → c ≤ ns.length → Q (.ref p) (upd H p (SetO w p (fun j => decide (j ∈ ns)) c))
theorem cr_setL1 {X : Cx} (hc : X.calm = true) : CallR X (.type "set") (rSetL1 X.K X.w) := by
  intro pins s σ H xs us Q I r h
  obtain ⟨a, ns, rfl, hs, h60, q⟩ := h
  obtain ⟨its, rv, hl, _⟩ := I.list hs
  rw [Vals.ref1 r]
  have hi : IntsAre its.toArray.toList ns := by simpa using rv.ints
  refine set_list_of (I.ok.hd hc) hl.isList hi (by unfold scanBound; omega) fun g tk c R hcn k => ?_
  exact ⟨.ref _, upd H s.heap.objs.size (SetO X.w s.heap.objs.size (fun j => decide (j ∈ ns)) c), I.laid (t' := tk) k (Nat.le_refl _) (setO_new R), rfl, q _ c (I.hok.fresh (Nat.le_refl _)) hcn⟩
end DD
namespace DD
open PySem PySem.Spec PyProof.Rows L2 RZ DM
abbrev NWr : List Str := ["_law_stock_here", "_law_wishes_here", "_law_whole", "_law_enough", "_law_size", "_law_number"]
theorem scWhoR : FnScope NWr ["_law_stock_here", "_law_wishes_here"] (defScope sWhoR) := ⟨rfl, rfl, rfl, by decide +kernel, rfl, by decide +kernel, by decide +kernel⟩
def Wwh (H : Hp) (t b : Addr) (rows : List (List Int)) (n : Nat) (en : Option Int) (m : Nat) (σ : L2.St) (H' : Hp) : Prop := ∃ (o : Addr) (ol : List Addr) (qs : List (List Int)), σ = [some (.ref t), some (.ref b), some (.ref o), some (optI en), none, none] ∧ Same H H' ∧ StockAt H' o ol qs ∧ qs.length = m ∧ 1 ≤ qs.length ∧ qs.length ≤ 4 ∧
  (∀ r ∈ qs, r.length = n) ∧ (∀ r ∈ qs, ∀ x ∈ r, 0 ≤ x) ∧ totalsOf qs n = totalsOf rows n
theorem iteT' {c : Bool} {A B : Prop} (e : c = true) (h : A) : if c = true then A else B := by
  subst e
  exact iteT h
theorem iteF' {c : Bool} {A B : Prop} (e : c = false) (h : B) : if c = true then A else B := by
  subst e
  exact iteF h
theorem half_bd {a : Int} (h : 0 ≤ a) : 0 ≤ a.fdiv 2 ∧ a.fdiv 2 ≤ a := by
  rw [Int.fdiv_eq_ediv_of_nonneg _ (by decide)]
  omega
section
variable {P : Program} {w : World} {K : PySem.W.Frag} {mg : Str → Option Value} {base : Heap}
/-- all drawers merged -/
def spWr : Sp := fun vs H Q _ => ∃ (t b : Addr) (ls wl : List Addr) (rows ws : List (List Int)) (n : Nat), vs = [.ref t, .ref b] ∧ StockAt H t ls rows ∧ Rb rows n ∧ (∀ x ∈ totalsOf rows n, x ≤ 50) ∧ Wish H b wl ws n ∧ ∀ H', Same H H' → Q (.bl true) H'
set_option maxHeartbeats 1600000 in
theorem ok_wr {f fN fU fTu fA fIk fEr fO fSz fMg fFu fCo fSp fCa fI fR fFc fLo fSo fOv fDw fSv fIs fSt fSn fDk fD fCu fS fWh fKr fDv fWr : Addr} {fd dN dU dTu dA dIk dEr dO dSz dMg dFu dCo dSp dCa dI dR dFc dLo dSo dOv dDw dSv dIs dSt dSn dDk dD dCu dS dWh dKr dDv dWr : FuncData} {k : Nat} (F : Fun K "_law_whole_right" "_law_whole_right" sWhoR f fd) (T : Tx K mg fN fU fTu fA fIk fEr fO fSz fMg fFu fCo fSp fCa fI fR fFc fLo fSo fOv fDw fSv fIs fSt fSn fDk fD fCu fS fWh fKr fDv fWr dN dU dTu dA dIk dEr dO dSz dMg dFu dCo dSp dCa dI dR dFc dLo dSo dOv dDw dSv dIs dSt dSn dDk dD dCu dS dWh dKr dDv dWr) :
    FnOk P w K mg base CX0 (k + 6) f fd ["_law_stock_here", "_law_wishes_here"] spWr := by
  have GMg : FnR P w K mg base CX0 (k + 2) fMg spMergedR := ok_merged T.Mg T
  have GSz : FnOk P w K mg base CX0 (k + 1) fSz dSz ["stock"] spSizes := ok_sizes T.Sz T.m_tuple T.m_sum
  have GSt : FnOk P w K mg base CX0 (k + 3) fSt dSt ["stock", "collections"] spTotal := ok_total T.St T
  have GSn : FnOk P w K mg base CX0 (k + 4) fSn dSn ["stock", "collections", "drawer"] spNumber := ok_number T.Sn T
  have GIs : FnOk P w K mg base CX0 (k + 5) fIs dIs ["stock", "collections", "plan"] spIs := ok_is T.Is T
  refine F.ok scWhoR (fun vs H Q E h => ?_) (fun cdv A outer s H vs Q E hr h => ?_)
  · obtain ⟨t, b, ls, wl, rows, ws, n, rfl, _⟩ := h
    rfl
  · obtain ⟨t, b, ls, wl, rows, ws, n, rfl, st, rb, h50, wi, q⟩ := h
    refine ⟨_, (pss_cons (ps_par (i := 2) (j := 3) (by rfl) scWhoR.nd rfl rfl (by decide) rfl rfl (pa_cons (pv 0) (pa_cons (pe_call GSt (hr.mono (by omega)) (by rfl) T.gSt T.St.kp T.bSt .nil pass0 (pa_cons (pv 0) (pa_cons (pv 1) pa_nil))) pa_nil)) (by rfl))
      (pss_cons (ps_while PassesOwn.never (pt_cmpR op_gt (pe_callB call_len_seq (by rfl) T.m_len PySem.boot_len (pa_cons (pv 2) pa_nil)) pe_int (nomark _)) (pss_one (ps_set (i := 2) scWhoR.nd rfl (.inl rfl) (pe_callRS (E := fun _ => E0) GMg (hr.mono (by omega)) rfl T.gMg T.Mg.kp (fun _ _ _ _ _ _ _ h => (show False from h).elim) (pa_cons (pv 2) (pa_cons pe_int (pa_cons pe_int pa_nil)))))))
      (pss_cons (ps_set (i := 4) scWhoR.nd rfl (.inl rfl) (pe_callB (show CallR _ _ (fun vs H Q => ∃ (a : Addr) (ns : List Int), vs = [V.ref a] ∧ SqT K H a (ns.map V.int) ∧ Q (.int ns.sum) H) from cr_sumT rfl) (by rfl) T.m_sum (by decide +kernel) (pa_cons (pe_call GSz (hr.mono (by omega)) (by rfl) T.gSz T.Sz.kp T.bSz .nil pass0 (pa_cons (pv 0) pa_nil)) pa_nil)))
      (pss_cons (ps_if (pt_cmpR op_ne (pe_call GSn (hr.mono (by omega)) (by rfl) T.gSn T.Sn.kp T.bSn .nil pass0 (pa_cons (pv 2) (pa_cons (pv 1) (pa_cons pe_int pa_nil)))) (pv 3) (nomark _)) (pss_one (ps_ret pe_bl)) pss_nil)
      (pss_cons (ps_for PassesOwn.never rfl (pi_list (pe_callB (show CallR _ _ (rSortedSet w) from cr_sortedSet rfl) (by rfl) T.m_sorted (by decide +kernel) (pa_cons (pe_callTy (show CallR _ _ (rSetL1 K w) from cr_setL1 rfl) (by rfl) T.m_set (by decide +kernel) (pa_cons (pe_op op_cat (pe_lst (pa_cons pe_int (pa_cons (pv 4) (pa_cons (pe_op op_fdivN (pv 4) pe_int) pa_nil)))) (pe_lst (pa_cons (pe_callB (call_max2 rfl) (by rfl) T.m_max (by decide +kernel) (pa_cons pe_int (pa_cons (pe_op op_sub (pe_orT (pv 3) (pe_one pe_int)) pe_int) pa_nil))) (pa_cons (pe_orT (pv 3) (pe_one pe_int)) pa_nil)))) pa_nil)) pa_nil))) (pg_name (i := 5) scWhoR.nd rfl (Or.inl rfl)) (pss_one (ps_if (pt_cmpR op_ne (pe_call GIs (hr.mono (by omega)) (by rfl) T.gIs T.Is.kp T.bIs .nil pass0 (pa_cons (pv 2) (pa_cons (pv 1) (pa_cons (pe_tup (pa_cons (pv 5) pa_nil)) pa_nil)))) (pe_and (pe_cmpR op_notN (pv 3) pe_non (nomark _)) (pe_one (pe_cmpR op_ge (pv 5) (pv 3) (nomark _)))) (nomark _)) (pss_one (ps_ret pe_bl)) pss_nil)))
      (pss_one (ps_ret pe_bl))))))), ?_⟩
    have hn4 := rb.n4
    have hr1 := rb.r1
    have hr4 := rb.r4
    have hrn : ∀ r ∈ rows, r.length = n := fun r hr => (rb.rw r hr).1
    have hX : ∀ r ∈ rows, ∀ x ∈ r, 0 ≤ x := fun r hr x hx => ((rb.rw r hr).2 x hx).1
    have h0 := tot_nn (n := n) hX
    refine ⟨.ref t, rfl, .ref t, rfl, .ref b, rfl, t, b, ls, wl, rows, ws, n, rfl, st, hr1, hr4, hrn, wi, fun H1 s1 => ⟨_, _, rfl, ?_⟩⟩
    obtain ⟨en, hen⟩ : ∃ en, en = totalOf (totalsOf rows n) ws n := ⟨_, rfl⟩
    rw [← hen]
    refine ⟨Wwh H t b rows n en, ⟨_, t, ls, rows, rfl, s1, st.same s1, rfl, hr1, hr4, hrn, hX, rfl⟩, fun m σ H2 h => ?_⟩
    obtain ⟨o, ol, qs, rfl, s2, so, hqm, hq1, hq4, hqn, hqX, hqt⟩ := h
    have hol := so.len
    refine ⟨.ref o, rfl, o, _, rfl, .inr (SqT.of so.top), _, 1, rfl, rfl, _, rfl, ite2 (fun e => ?_) (fun e => ?_)⟩
    · have h2 : 2 ≤ qs.length := by
        have e : decide ((1 : Int) < ((ol.map V.ref).length : Int)) = true := e
        have e := of_decide_eq_true e
        rw [List.length_map] at e
        omega
      refine ⟨fun σ' H' => ∃ m', m' < m ∧ Wwh H t b rows n en m' σ' H', fun _ _ h => h, ?_⟩
      obtain ⟨hle, q2, hqe, hql, hqn2, hqX2, hqt2⟩ := mg_inv h2 hqn hqX (by rw [hqt]; exact h50)
      refine ⟨.ref o, rfl, [.ref o], [.int 0, .int 1], rfl, rfl, by show 2 ≤ sizeLine; decide, fun dp ndp => ?_⟩
      have sd := same_new (o := .tup [.int 0, .int 1]) ndp
      refine ⟨o, dp, ol, qs, n, [0, 1], rfl, so.same sd, upd_same, fun j hj => by rcases List.mem_cons.mp hj with rfl | hj; omega; rw [List.mem_singleton.mp hj]; omega, by decide, by decide, hq4, hqn, by omega, hle, fun o2 ol2 H4 s4 so2 => ?_⟩
      rw [hqe] at so2
      exact ⟨q2.length, by omega, o2, ol2, q2, rfl, s2.trans (sd.trans s4), so2, rfl, by omega, by omega, hqn2, hqX2, hqt2.trans hqt⟩
    have h1 : qs.length = 1 := by
      have e : ¬ decide ((1 : Int) < ((ol.map V.ref).length : Int)) = true := e
      rw [List.length_map] at e
      have : ¬ ((1 : Int) < (ol.length : Int)) := fun z => e (decide_eq_true z)
      omega
    have hq1' := one_row h1 hqn hqt
    subst hq1'
    have hts1 : ∀ r ∈ [totalsOf rows n], r.length = n := hqn
    have l1' : 1 ≤ [totalsOf rows n].length := Nat.le_refl 1
    have l4' : [totalsOf rows n].length ≤ 4 := by show 1 ≤ 4; decide
    -- size
    refine ⟨.ref t, rfl, t, ls, rows, rfl, st.same s2, by omega, fun zp H3 s3 _ hz => ⟨zp, sizesOf rows, rfl, SqT.of hz, ?_⟩⟩
    have s03 := s2.trans s3
    have hss : (sizesOf rows).sum = (totalsOf rows n).sum := by rw [tot_sum hrn]; rfl
    have hs0 : 0 ≤ (totalsOf rows n).sum := nn_sum h0
    refine ⟨.ref o, rfl, .ref b, rfl, o, b, ol, wl, [totalsOf rows n], ws, n, 0, rfl, so.same s3, l1', hts1, wi.same s03, fun H5 s5 => ?_⟩
    refine ⟨_, rfl, scal_opt _ _, _, rfl, ?_⟩
    rw [show totalsOf [[totalsOf rows n].getD 0 []] n = totalsOf rows n from tot_one (tot_len rows n), ← hen, decide_eq_true rfl]
    refine iteF (A := False) ?_
    have s05 := s03.trans s5
    have so5 := so.same (s3.trans s5)
    have wi5 := wi.same s05
    cases en with
    | none =>
      have hz : (0 : Int) ≤ 0 ∧ (0 : Int) ≤ (totalsOf rows n).sum := ⟨Int.le_refl _, hs0⟩
      refine ⟨_, rfl, _, rfl, _, 2, rfl, rfl, ⟨by decide, by decide⟩, by show 3 ≤ sizeLine; decide, fun l1 nl1 => ?_⟩
      have t1 := same_new (o := .lst [V.int 0, V.int (sizesOf rows).sum, V.int ((sizesOf rows).sum.fdiv 2)]) nl1
      refine ⟨_, rfl, false, rfl, iteF' rfl ⟨0, 1, rfl, rfl, 0, 0 - 1, rfl, ?_⟩⟩
      refine ⟨_, rfl, false, rfl, iteF' rfl ⟨by show 2 ≤ sizeLine; decide, fun l2 nl2 => ?_⟩⟩
      have t2 := same_new (o := .lst [V.int (if 0 - 1 > 0 then 0 - 1 else 0), V.int 0]) nl2
      refine ⟨l1, l2, _, _, rfl, rfl, t2 _ _ upd_same, upd_same, by show 3 + 2 ≤ sizeLine; decide, fun l3 nl3 => ?_⟩
      have t3 := same_new (o := .lst ([V.int 0, V.int (sizesOf rows).sum, V.int ((sizesOf rows).sum.fdiv 2)] ++ [V.int (if 0 - 1 > 0 then 0 - 1 else 0), V.int 0])) nl3
      refine ⟨l3, [0, (sizesOf rows).sum, (sizesOf rows).sum.fdiv 2, (if 0 - 1 > 0 then 0 - 1 else 0), 0], rfl, SqL.of upd_same, by show 5 ≤ 60; decide, fun sp c nsp hc => ?_⟩
      have t4 := same_new (o := SetO w sp (fun j => decide (j ∈ [0, (sizesOf rows).sum, (sizesOf rows).sum.fdiv 2, (if 0 - 1 > 0 then 0 - 1 else 0), 0])) c) nsp
      refine ⟨sp, _, c, rfl, upd_same, Nat.lt_of_le_of_lt hc (by show 5 < 64; decide), fun os q1 _ hmem hlen nq1 => ?_⟩
      have t5 := same_new (o := .lst (os.map V.int)) nq1
      have tA := (t1.trans t2).trans (t3.trans (t4.trans t5))
      have hbd : ∀ p ∈ os, 0 ≤ p ∧ p ≤ (totalsOf rows n).sum := fun p hp => by
        have hm := of_decide_eq_true ((hmem p).mp hp)
        rw [hss] at hm
        have hf := half_bd hs0
        simp only [List.mem_cons, List.not_mem_nil, or_false] at hm
        rcases hm with rfl | rfl | rfl | hm | rfl
        · exact ⟨Int.le_refl _, hs0⟩
        · exact ⟨hs0, Int.le_refl _⟩
        · exact hf
        · rw [hm]
          split <;> omega
        · exact hz
      refine ⟨q1, rfl, ⟨_, SqL.of upd_same⟩, ?_⟩
      refine for_list (K := K) (D := { nx := tRet (tC (V.bl true)) { nx := fun _ H' => Q V.non H', rt := Q }, rt := Q }) (xs := os.map V.int) (fun i σ H' => ∃ y5 : Option V, σ = [some (.ref t), some (.ref b), some (.ref o), some (optI (none)), some (.int (sizesOf rows).sum), y5] ∧ Same H5 H' ∧ H' q1 = some (.lst (os.map V.int))) ⟨none, rfl, tA, upd_same⟩
        (fun i σ H' _ h => by obtain ⟨_, _, _, hq8⟩ := h; exact SqL.of (K := K) hq8) (fun i x σ H8 hx h => ?_) (fun σ H8 h => ?_)
      · obtain ⟨y5, rfl, s68, hq8⟩ := h
        obtain ⟨p, hp, rfl⟩ := get_map hx
        obtain ⟨hp0, hp1⟩ := hbd p (List.mem_of_getElem? hp)
        refine ⟨.ref o, rfl, .ref b, rfl, .int p, rfl, by show 1 ≤ sizeLine; decide, fun P2 nP2 => ?_⟩
        have sP := same_new (o := .tup [.int p]) nP2
        refine ⟨o, b, P2, ol, wl, [totalsOf rows n], ws, [p], n, rfl, ⟨(so5.same s68).same sP, l1', l4', hts1, (wi5.same s68).same sP, upd_same, rfl⟩, fun H9 s9 => ?_⟩
        have sz' := sP.trans s9
        have sz := s68.trans sz'
        have e1 : tabB [totalsOf rows n] ws [p] n = false := Bool.eq_false_iff.mpr fun z => by
          obtain ⟨v, hv', _⟩ := (one_tab wi.g (tot_len _ _) h0 hp1).mp z
          rw [← hen] at hv'
          cases hv'
        rw [e1]
        refine ⟨_, rfl, rfl, _, rfl, iteF' rfl ⟨rfl, _, rfl, ?_⟩⟩
        rw [decide_eq_true rfl]
        exact iteF (A := False) ⟨_, rfl, sz, sz' _ _ hq8⟩
      · obtain ⟨y5, rfl, s8, _⟩ := h
        exact q _ (s05.trans s8)
    | some v =>
      have hbv := total_bd wi.g (tot_len _ _) h0 hen.symm
      have hz : (0 : Int) ≤ v ∧ v ≤ (totalsOf rows n).sum := by omega
      have hv0 : (v != 0) = true := by
        have : v ≠ 0 := by omega
        simpa using this
      refine ⟨_, rfl, _, rfl, _, 2, rfl, rfl, ⟨by decide, by decide⟩, by show 3 ≤ sizeLine; decide, fun l1 nl1 => ?_⟩
      have t1 := same_new (o := .lst [V.int 0, V.int (sizesOf rows).sum, V.int ((sizesOf rows).sum.fdiv 2)]) nl1
      refine ⟨_, rfl, (v != 0), rfl, iteT' hv0 ⟨v, 1, rfl, rfl, 0, v - 1, rfl, ?_⟩⟩
      refine ⟨_, rfl, (v != 0), rfl, iteT' hv0 ⟨by show 2 ≤ sizeLine; decide, fun l2 nl2 => ?_⟩⟩
      have t2 := same_new (o := .lst [V.int (if v - 1 > 0 then v - 1 else 0), V.int v]) nl2
      refine ⟨l1, l2, _, _, rfl, rfl, t2 _ _ upd_same, upd_same, by show 3 + 2 ≤ sizeLine; decide, fun l3 nl3 => ?_⟩
      have t3 := same_new (o := .lst ([V.int 0, V.int (sizesOf rows).sum, V.int ((sizesOf rows).sum.fdiv 2)] ++ [V.int (if v - 1 > 0 then v - 1 else 0), V.int v])) nl3
      refine ⟨l3, [0, (sizesOf rows).sum, (sizesOf rows).sum.fdiv 2, (if v - 1 > 0 then v - 1 else 0), v], rfl, SqL.of upd_same, by show 5 ≤ 60; decide, fun sp c nsp hc => ?_⟩
      have t4 := same_new (o := SetO w sp (fun j => decide (j ∈ [0, (sizesOf rows).sum, (sizesOf rows).sum.fdiv 2, (if v - 1 > 0 then v - 1 else 0), v])) c) nsp
      refine ⟨sp, _, c, rfl, upd_same, Nat.lt_of_le_of_lt hc (by show 5 < 64; decide), fun os q1 _ hmem hlen nq1 => ?_⟩
      have t5 := same_new (o := .lst (os.map V.int)) nq1
      have tA := (t1.trans t2).trans (t3.trans (t4.trans t5))
      have hbd : ∀ p ∈ os, 0 ≤ p ∧ p ≤ (totalsOf rows n).sum := fun p hp => by
        have hm := of_decide_eq_true ((hmem p).mp hp)
        rw [hss] at hm
        have hf := half_bd hs0
        simp only [List.mem_cons, List.not_mem_nil, or_false] at hm
        rcases hm with rfl | rfl | rfl | hm | rfl
        · exact ⟨Int.le_refl _, hs0⟩
        · exact ⟨hs0, Int.le_refl _⟩
        · exact hf
        · rw [hm]
          split <;> omega
        · exact hz
      refine ⟨q1, rfl, ⟨_, SqL.of upd_same⟩, ?_⟩
      refine for_list (K := K) (D := { nx := tRet (tC (V.bl true)) { nx := fun _ H' => Q V.non H', rt := Q }, rt := Q }) (xs := os.map V.int) (fun i σ H' => ∃ y5 : Option V, σ = [some (.ref t), some (.ref b), some (.ref o), some (optI (some v)), some (.int (sizesOf rows).sum), y5] ∧ Same H5 H' ∧ H' q1 = some (.lst (os.map V.int))) ⟨none, rfl, tA, upd_same⟩
        (fun i σ H' _ h => by obtain ⟨_, _, _, hq8⟩ := h; exact SqL.of (K := K) hq8) (fun i x σ H8 hx h => ?_) (fun σ H8 h => ?_)
      · obtain ⟨y5, rfl, s68, hq8⟩ := h
        obtain ⟨p, hp, rfl⟩ := get_map hx
        obtain ⟨hp0, hp1⟩ := hbd p (List.mem_of_getElem? hp)
        refine ⟨.ref o, rfl, .ref b, rfl, .int p, rfl, by show 1 ≤ sizeLine; decide, fun P2 nP2 => ?_⟩
        have sP := same_new (o := .tup [.int p]) nP2
        refine ⟨o, b, P2, ol, wl, [totalsOf rows n], ws, [p], n, rfl, ⟨(so5.same s68).same sP, l1', l4', hts1, (wi5.same s68).same sP, upd_same, rfl⟩, fun H9 s9 => ?_⟩
        have sz' := sP.trans s9
        have sz := s68.trans sz'
        have e1 : tabB [totalsOf rows n] ws [p] n = decide (v ≤ p) := by
          refine bool_eq (fun z => ?_) fun z => ?_
          · obtain ⟨v', hv', hle⟩ := (one_tab wi.g (tot_len _ _) h0 hp1).mp z
            rw [← hen] at hv'
            have := Option.some.inj hv'
            exact decide_eq_true (by omega)
          · exact (one_tab wi.g (tot_len _ _) h0 hp1).mpr ⟨v, hen.symm, of_decide_eq_true z⟩
        rw [e1]
        refine ⟨_, rfl, rfl, _, rfl, ?_⟩
        rw [decide_eq_false (fun z => nomatch z)]
        refine iteT ?_
        refine ⟨_, rfl, _, rfl, p, v, rfl, rfl, rfl, _, rfl, ?_⟩
        rw [show (decide (V.bl (decide (v ≤ p)) = (fun i j => V.bl (decide (j ≤ i))) p v)) = true from decide_eq_true rfl]
        exact iteF (A := False) ⟨_, rfl, sz, sz' _ _ hq8⟩
      · obtain ⟨y5, rfl, s8, _⟩ := h
        exact q _ (s05.trans s8)
end
end DD
namespace DD
open PySem PySem.Spec PyProof.Rows L2 RZ DM
theorem StockAt.snoc {H : Hp} {t o z : Addr} {ls : List Addr} {rows : List (List Int)} {r : List Int} (a : StockAt H t ls rows) (hz : H z = some (.tup (r.map V.int))) (ho : H o = some (.tup ((ls ++ [z]).map V.ref))) : StockAt H o (ls ++ [z]) (rows ++ [r]) :=
  ⟨ho, by rw [List.length_append, List.length_append, a.len]; rfl, RowsAt.snoc (fun j l r e1 e2 => a.row j l r e1 e2) a.len hz⟩
theorem tot_zero (rows : List (List Int)) (n : Nat) : totalsOf (rows ++ [List.replicate n 0]) n = totalsOf rows n := by
  refine List.map_congr_left fun k hk => ?_
  have hk := List.mem_range.mp hk
  rw [List.map_append, List.sum_append]
  have : (List.replicate n (0 : Int)).getD k 0 = 0 := by
    rw [List.getD_eq_getElem?_getD, List.getElem?_replicate, if_pos hk]
    rfl
  show _ + ((List.replicate n (0 : Int)).getD k 0 + 0) = _
  rw [this]
  omega
structure Rc (rows : List (List Int)) (n : Nat) : Prop where
  r1 : 1 ≤ rows.length
  r4 : rows.length ≤ 4
  n1 : 1 ≤ n
  n4 : n ≤ 4
  rw : ∀ r ∈ rows, r.length = n ∧ ∀ x ∈ r, 0 ≤ x ∧ x ≤ 12
theorem Rc.rb {rows : List (List Int)} {n : Nat} (a : Rc rows n) : Rb rows n := ⟨a.r1, a.r4, a.n1, a.n4, fun r hr => ⟨(a.rw r hr).1, fun x hx => by have := (a.rw r hr).2 x hx; omega⟩⟩
theorem Rc.t50 {rows : List (List Int)} {n : Nat} (a : Rc rows n) : ∀ x ∈ totalsOf rows n, x ≤ 50 := fun x hx => by
  have h := (tot_bd (b := 12) (n := n) (fun r hr => (a.rw r hr).2) (by decide) x hx).2
  have h4 := a.r4
  omega
theorem Rc.zero {rows : List (List Int)} {n : Nat} (a : Rc rows n) (h : rows.length < 4) : Rc (rows ++ [List.replicate n 0]) n := by
  refine ⟨by rw [List.length_append]; simp, by rw [List.length_append]; simp only [List.length_cons, List.length_nil]; omega, a.n1, a.n4, fun r hr => ?_⟩
  rcases List.mem_append.mp hr with hr | hr
  · exact a.rw r hr
  · rw [List.mem_singleton.mp hr]
    exact ⟨List.length_replicate, fun x hx => by rw [List.eq_of_mem_replicate hx]; decide⟩
theorem other_at {one m : Nat} {r : Int} (hm : 2 ≤ m) (hm4 : m ≤ 4) (ho : one < m) (h0 : 0 ≤ r) (h1 : r < (m : Int) - 1) : ∃ la : Nat, ((one : Int) + 1 + r).fmod (m : Int) = (la : Int) ∧ la < m ∧ one ≠ la := by
  rw [Int.fmod_eq_emod_of_nonneg _ (by omega)]
  have e : m = 2 ∨ m = 3 ∨ m = 4 := by omega
  refine ⟨(((one : Int) + 1 + r) % (m : Int)).toNat, ?_, ?_, ?_⟩
  · rcases e with rfl | rfl | rfl <;> omega
  · rcases e with rfl | rfl | rfl <;> omega
  · rcases e with rfl | rfl | rfl <;> omega
abbrev NL : List Str := ["_law_script", "_law_deck_here", "_law_turn", "_law_kinds", "_law_high", "_law_stock_here", "_law_wishes_here", "_law_one", "_law_last", "_law_again"]
theorem scLaw : FnScope NL ["_law_script"] (defScope sLaw) := ⟨rfl, rfl, rfl, by decide +kernel, rfl, by decide +kernel, by decide +kernel⟩
section
variable {P : Program} {w : World} {K : PySem.W.Frag} {mg : Str → Option Value} {base : Heap}
def spLaw (K : PySem.W.Frag) : Sp := fun vs H Q _ => ∃ (a : Addr) (ns : List Int), vs = [.ref a] ∧ SqL K H a (ns.map V.int) ∧ ns.length ≤ 63 ∧ ∀ H', Q (.bl true) H'
set_option maxHeartbeats 1600000 in
theorem ok_law {f fN fU fTu fA fIk fEr fO fSz fMg fFu fCo fSp fCa fI fR fFc fLo fSo fOv fDw fSv fIs fSt fSn fDk fD fCu fS fWh fKr fDv fWr : Addr} {fd dN dU dTu dA dIk dEr dO dSz dMg dFu dCo dSp dCa dI dR dFc dLo dSo dOv dDw dSv dIs dSt dSn dDk dD dCu dS dWh dKr dDv dWr : FuncData} (F : Fun K "law" "law" sLaw f fd) (T : Tx K mg fN fU fTu fA fIk fEr fO fSz fMg fFu fCo fSp fCa fI fR fFc fLo fSo fOv fDw fSv fIs fSt fSn fDk fD fCu fS fWh fKr fDv fWr dN dU dTu dA dIk dEr dO dSz dMg dFu dCo dSp dCa dI dR dFc dLo dSo dOv dDw dSv dIs dSt dSn dDk dD dCu dS dWh dKr dDv dWr) :
    FnG P w K mg base 9 f fd ["_law_script"] (spLaw K) := by
  have GDk : FnOk P w K mg base CX0 1 fDk dDk ["_law_script"] (spDeck K) := ok_deck T.Dk T.m_abs
  have GD : FnOk P w K mg base CX0 1 fD dD ["_law_deck_here", "_law_limit"] spDraw := ok_draw T.D T.m_len
  have GS : FnOk P w K mg base CX0 3 fS dS ["_law_deck_here", "_law_most", "_law_high", "_law_kinds"] spStock := ok_stock T.S T.D T.Cu T.bD T.gD T.bCu T.gCu T.m_len T.m_tuple T.m_range
  have GW : FnOk P w K mg base CX0 3 fWh dWh ["_law_deck_here", "_law_most", "_law_high", "_law_kinds"] spWishes := ok_wishes T.Wh T.D T.Cu T.bD T.gD T.bCu T.gCu T.m_len T.m_tuple T.m_range T.m_max
  have GMg : FnR P w K mg base CX0 2 fMg spMergedR := ok_merged (k := 0) T.Mg T
  have GKr : FnOk P w K mg base CX0 6 fKr dKr ["_law_stock_here", "_law_other", "_law_wishes_here"] spKr := ok_kr (k := 0) T.Kr T
  have GDv : FnOk P w K mg base CX0 6 fDv dDv ["_law_deck_here", "_law_stock_here", "_law_wishes_here", "_law_one", "_law_last"] spDv := ok_dv (k := 0) T.Dv T
  have GWr : FnOk P w K mg base CX0 6 fWr dWr ["_law_stock_here", "_law_wishes_here"] spWr := ok_wr (k := 0) T.Wr T
  refine fnG_of F scLaw (fun vs H Q E h => ?_) (fun cdv A hgu outer s H vs Q E hr h => ?_)
  · obtain ⟨a, ns, rfl, _⟩ := h
    rfl
  · obtain ⟨a, ns, rfl, hS, hlen, q⟩ := h
    refine ⟨_, (pss_cons (ps_set (i := 1) scLaw.nd rfl (.inl rfl) (pe_call GDk (hr.mono (by omega)) (by rfl) T.gDk T.Dk.kp T.bDk .nil pass0 (pa_cons (pv 0) pa_nil)))
      (pss_cons (ps_for PassesOwn.never rfl (pi_range1 (by rfl) T.m_range (pa_cons pe_int pa_nil)) (pg_name (i := 2) scLaw.nd rfl (Or.inl rfl)) (pss_cons (ps_par (i := 3) (j := 4) (by rfl) scLaw.nd rfl rfl (by decide) rfl rfl (pa_cons (pe_op op_add pe_int (pe_call GD (hr.mono (by omega)) (by rfl) T.gD T.D.kp T.bD .nil pass0 (pa_cons (pv 1) (pa_cons pe_int pa_nil)))) (pa_cons (pe_ix (show IxR _ (rIxL K) from ix_list) (pe_lst (pa_cons pe_int (pa_cons pe_int (pa_cons pe_int pa_nil)))) (pe_op op_modN (pv 2) pe_int) (fun _ _ => rfl)) pa_nil)) (by rfl))
      (pss_cons (ps_set (i := 5) scLaw.nd rfl (.inl rfl) (pe_call GS (hr.mono (by omega)) (by rfl) T.gS T.S.kp T.bS .nil pass0 (pa_cons (pv 1) (pa_cons pe_int (pa_cons (pv 4) (pa_cons (pv 3) pa_nil))))))
      (C8.pss_cut (ps_if (pt_cmpR op_eq (pe_callB call_len_seq (by rfl) T.m_len PySem.boot_len (pa_cons (pv 5) pa_nil)) pe_int (nomark _)) (pss_one (ps_set (i := 5) scLaw.nd rfl (.inl rfl) (pe_op op_catQ (pv 5) (pe_tup (pa_cons (pe_op op_repQ (pe_tup (pa_cons pe_int pa_nil)) (pv 3)) pa_nil))))) pss_nil)
      (pss_cons (ps_set (i := 6) scLaw.nd rfl (.inl rfl) (pe_call GW (hr.mono (by omega)) (by rfl) T.gWh T.Wh.kp T.bWh .nil pass0 (pa_cons (pv 1) (pa_cons pe_int (pa_cons (pv 4) (pa_cons (pv 3) pa_nil))))))
      (pss_cons (ps_set (i := 7) scLaw.nd rfl (.inl rfl) (pe_call GD (hr.mono (by omega)) (by rfl) T.gD T.D.kp T.bD .nil pass0 (pa_cons (pv 1) (pa_cons (pe_callB call_len_seq (by rfl) T.m_len PySem.boot_len (pa_cons (pv 5) pa_nil)) pa_nil))))
      (pss_cons (ps_set (i := 8) scLaw.nd rfl (.inl rfl) (pe_op op_modN (pe_op op_add (pe_op op_add (pv 7) pe_int) (pe_call GD (hr.mono (by omega)) (by rfl) T.gD T.D.kp T.bD .nil pass0 (pa_cons (pv 1) (pa_cons (pe_op op_sub (pe_callB call_len_seq (by rfl) T.m_len PySem.boot_len (pa_cons (pv 5) pa_nil)) pe_int) pa_nil)))) (pe_callB call_len_seq (by rfl) T.m_len PySem.boot_len (pa_cons (pv 5) pa_nil))))
      (pss_cons (ps_if (pt_not (pt_val (pe_call GKr (hr.mono (by omega)) (by rfl) T.gKr T.Kr.kp T.bKr .nil pass0 (pa_cons (pv 5) (pa_cons (pe_callRS (E := fun _ => E0) GMg (hr.mono (by omega)) rfl T.gMg T.Mg.kp (fun _ _ _ _ _ _ _ h => (show False from h).elim) (pa_cons (pv 5) (pa_cons (pv 7) (pa_cons (pv 8) pa_nil)))) (pa_cons (pv 6) pa_nil)))))) (pss_one (ps_ret pe_bl)) pss_nil)
      (pss_cons (ps_for PassesOwn.never rfl (pi_range1 (by rfl) T.m_range (pa_cons pe_int pa_nil)) (pg_name (i := 9) scLaw.nd rfl (Or.inl rfl)) (pss_one (ps_if (pt_not (pt_val (pe_call GDv (hr.mono (by omega)) (by rfl) T.gDv T.Dv.kp T.bDv .nil pass0 (pa_cons (pv 1) (pa_cons (pv 5) (pa_cons (pv 6) (pa_cons (pv 7) (pa_cons (pv 8) pa_nil)))))))) (pss_one (ps_ret pe_bl)) pss_nil)))
      (pss_cons (ps_if (pt_not (pt_val (pe_call GWr (hr.mono (by omega)) (by rfl) T.gWr T.Wr.kp T.bWr .nil pass0 (pa_cons (pv 5) (pa_cons (pv 6) pa_nil))))) (pss_one (ps_ret pe_bl)) pss_nil)
      (pss_one (ps_if (PW.pt (pw_and (pt_cmpR op_lt (pe_callB call_len_seq (by rfl) T.m_len PySem.boot_len (pa_cons (pv 5) pa_nil)) pe_int (nomark _)) (pw_and1 (pt_not (pt_val (pe_call GKr (hr.mono (by omega)) (by rfl) T.gKr T.Kr.kp T.bKr .nil pass0 (pa_cons (pv 5) (pa_cons (pe_op op_catQ (pv 5) (pe_tup (pa_cons (pe_op op_repQ (pe_tup (pa_cons pe_int pa_nil)) (pv 3)) pa_nil))) (pa_cons (pv 6) pa_nil))))))))) (pss_one (ps_ret pe_bl)) pss_nil))))))))))))
      (pss_one (ps_ret pe_bl)))), ?_⟩
    refine ⟨.ref a, rfl, a, ns, rfl, hS, hlen, fun dk c H1 s1 ndk nc d1 => ?_⟩
    refine ⟨6, rfl, by decide, by decide, ?_⟩
    refine for_range (lo := 0) (n := 6) (fun i σ H' => ∃ y2 y3 y4 y5 y6 y7 y8 y9 : Option V, σ = [some (.ref a), some (.ref dk), y2, y3, y4, y5, y6, y7, y8, y9] ∧ Deck H' dk c (i * 200))
      ⟨_, _, _, _, _, _, _, _, rfl, d1⟩ (fun i σ H2 hi h => ?_) (fun σ H2 h => ?_)
    · obtain ⟨y2, y3, y4, y5, y6, y7, y8, y9, rfl, d2⟩ := h
      -- kinds, high
      refine ⟨.ref dk, rfl, dk, c, i * 200, 3, rfl, d2, by omega, by decide, by decide, fun r H3 r0 rL k3 d3 => ?_⟩
      refine ⟨1, r, rfl, rfl, by show 3 ≤ sizeLine; decide, fun l1 nl1 => ?_⟩
      have dl1 := d3.kp (o := .lst [.int 3, .int 6, .int 12]) nl1
      obtain ⟨hh, hhz, ehh⟩ := three_at (a := 3) (b := 6) (c := 12) (Int.fmod_nonneg_of_pos ((0 : Int) + (i : Nat)) (show (0 : Int) < 3 by decide)) (Int.fmod_lt_of_pos _ (by decide))
      refine ⟨_, rfl, _, 3, rfl, rfl, (by show (3 : Int) ≠ 0; decide), l1, _, _, .int hh, rfl, rfl, SqL.of upd_same, ehh, _, _, rfl, ?_⟩
      have hhb : 3 ≤ hh ∧ hh ≤ 12 := by rcases hhz with rfl | rfl | rfl <;> decide
      obtain ⟨n, hn, hn1, hn4⟩ : ∃ n : Nat, 1 + r = (n : Int) ∧ 1 ≤ n ∧ n ≤ 4 := ⟨(1 + r).toNat, by omega, by omega, by omega⟩
      rw [show ((fun i j => V.int (i + j)) 1 r) = V.int (n : Int) from congrArg V.int hn]
      -- the stock
      refine ⟨.ref dk, rfl, .int hh, rfl, .int (n : Int), rfl, dk, c, _, 4, n, hh, rfl, dl1, by decide, by decide, hn4, by omega, by omega, by omega, fun t ls rows H4 e1 e2 hrow st4 k4 d4 => ?_⟩
      have rc : Rc rows n := ⟨e1, e2, hn1, hn4, fun r hr => ⟨(hrow r hr).1, fun x hx => by have := (hrow r hr).2 x hx; omega⟩⟩
      refine ⟨fun σ' H' => ∃ (t : Addr) (ls : List Addr) (rows : List (List Int)) (y6 y7 y8 y9 : Option V), σ' = [some (.ref a), some (.ref dk), some (.int ((0 : Int) + (i : Nat))), some (.int (n : Int)), some (.int hh), some (.ref t), y6, y7, y8, y9] ∧ StockAt H' t ls rows ∧ Rc rows n ∧ 2 ≤ rows.length ∧ Deck H' dk c (i * 200 + 60), ?_, fun σ' H5 h => ?_⟩
      · have hsl := st4.len
        refine ⟨.ref t, rfl, t, _, rfl, .inr (SqT.of st4.top), rfl, _, rfl, ite2 (fun e => ?_) (fun e => ?_)⟩
        · have hl1 : rows.length = 1 := by
            have := V.int.inj (of_decide_eq_true e)
            rw [List.length_map] at this
            omega
          refine ⟨.ref t, rfl, by show 1 ≤ sizeLine; decide, fun z1 nz1 => ?_⟩
          have u1 := same_new (o := .tup [.int 0]) nz1
          refine ⟨.int (n : Int), rfl, z1, (n : Int), [.int 0], rfl, rfl, upd_same, by simp, by omega, by omega, by show 1 ≤ 1000; decide, fun z2 Hz sz hz2 => ?_⟩
          rw [rep_one, Int.toNat_natCast] at hz2
          refine ⟨by show 1 ≤ sizeLine; decide, fun z3 nz3 => ?_⟩
          have u3 := same_new (o := .tup [.ref z2]) nz3
          have u13 := u1.trans (sz.trans u3)
          refine ⟨t, z3, _, _, rfl, rfl, u13 _ _ st4.top, upd_same, by rw [List.length_map]; simp only [List.length_cons, List.length_nil]; omega, fun o Ho so ho => ?_⟩
          have u := u13.trans so
          have hoz : Ho o = some (.tup ((ls ++ [z2]).map V.ref)) := by
            rw [ho, List.map_append]
            rfl
          have sto := (st4.same u).snoc (so _ _ (u3 _ _ hz2)) hoz
          exact ⟨o, _, _, _, _, _, _, rfl, sto, rc.zero (by omega), by rw [List.length_append]; simp only [List.length_cons, List.length_nil]; omega, (d4.keep u).up (by omega)⟩
        · have hl1 : rows.length ≠ 1 := fun z => e (decide_eq_true (by rw [List.length_map, hsl, z]; rfl))
          exact ⟨t, ls, rows, _, _, _, _, rfl, st4, rc, by omega, d4.up (by omega)⟩
      obtain ⟨t, ls, rows, y6, y7, y8, y9, rfl, st5, rc, hr2, d5⟩ := h
      have rb := rc.rb
      have h50 := rc.t50
      have hr4 := rc.r4
      have hrn : ∀ r ∈ rows, r.length = n := fun r hr => (rc.rw r hr).1
      have hsl := st5.len
      -- the wishes
      refine ⟨.ref dk, rfl, .int hh, rfl, .int (n : Int), rfl, dk, c, _, 3, n, hh, rfl, d5, by decide, by decide, hn1, hn4, by omega, by omega, by omega, fun b wl ws H6 w1 w3 hgood st6 k6 d6 => ?_⟩
      have wi6 : Wish H6 b wl ws n := ⟨st6, w1, by omega, fun r hr => ⟨(hgood r hr).len, fun x hx => by have := (hgood r hr).bd x hx; omega, (hgood r hr).pos⟩, hn1, hn4⟩
      have st6' := st5.tk (TK.kp d5 k6)
      -- one, last
      refine ⟨.ref dk, rfl, .ref t, rfl, t, _, rfl, .inr (SqT.of st6'.top), dk, c, _, (rows.length : Int), congrArg (fun x => [V.ref dk, V.int x]) (by rw [List.length_map, hsl]), d6, by omega, by omega, by omega, fun r7 H7 r70 r7L k7 d7 => ?_⟩
      obtain ⟨one, rfl⟩ : ∃ m : Nat, r7 = m := ⟨r7.toNat, by omega⟩
      have tk7 := TK.kp d6 k7
      have st7 := st6'.tk tk7
      have wi7 := wi6.tk tk7
      refine ⟨.int (one : Int), rfl, (one : Int), 1, rfl, rfl, .ref dk, rfl, .ref t, rfl, t, _, rfl, .inr (SqT.of st7.top), _, 1, rfl, rfl, dk, c, _, (rows.length : Int) - 1, congrArg (fun x => [V.ref dk, V.int (x - 1)]) (by rw [List.length_map, hsl]), d7, by omega, by omega, by omega, fun r8 H8 r80 r8L k8 d8 => ?_⟩
      have tk8 := TK.kp d7 k8
      have st8 := st7.tk tk8
      have wi8 := wi7.tk tk8
      obtain ⟨last, hla, hlm, hne⟩ := other_at (m := rows.length) (one := one) hr2 hr4 (by omega) r80 r8L
      refine ⟨(one : Int) + 1, r8, rfl, rfl, .ref t, rfl, t, _, rfl, .inr (SqT.of st8.top), _, (rows.length : Int), rfl, congrArg V.int (by rw [List.length_map, hsl]), (by show (rows.length : Int) ≠ 0; omega), ?_⟩
      rw [show ((fun i j => V.int (i.fmod j)) ((one : Int) + 1 + r8) (rows.length : Int)) = V.int (last : Int) from congrArg V.int hla]
      have ho : one < rows.length := by omega
      -- kept
      refine ⟨.ref t, rfl, .ref t, rfl, .int (one : Int), rfl, .int (last : Int), rfl, [.ref t], [.int (one : Int), .int (last : Int)], rfl, rfl, by show 2 ≤ sizeLine; decide, fun dp ndp => ?_⟩
      have sd := same_new (o := .tup [.int (one : Int), .int (last : Int)]) ndp
      refine ⟨t, dp, ls, rows, n, [one, last], rfl, st8.same sd, upd_same, fun j hj => by rcases List.mem_cons.mp hj with rfl | hj; exact ho; rw [List.mem_singleton.mp hj]; exact hlm, by show 1 ≤ 2; decide, by show 2 ≤ 4; decide, hr4, hrn, by omega, sub_le50 rb ho hlm hne h50, fun o ol H9 s9 so => ?_⟩
      rw [left_mgR hne] at so
      have s89 := sd.trans s9
      refine ⟨.ref b, rfl, t, o, b, ls, ol, wl, rows, mgR rows one last n, ws, n, rfl, st8.same s89, so, rb, mgR_rb rb ho hlm hne h50, mgR_tot ho hlm hne, h50, wi8.same s89, fun H10 s10 => ?_⟩
      refine ⟨_, rfl, iteF (A := False) ?_⟩
      have s80 := s89.trans s10
      have st10 := st8.same s80
      have wi10 := wi8.same s80
      have d10 := (d8.keep s80).up (show _ ≤ i * 200 + 130 by omega)
      -- divided
      refine ⟨3, rfl, by decide, by decide, ?_⟩
      refine for_range (lo := 0) (n := 3) (fun j σ H' => ∃ y9 : Option V, σ = [some (.ref a), some (.ref dk), some (.int ((0 : Int) + (i : Nat))), some (.int (n : Int)), some (.int hh), some (.ref t), some (.ref b), some (.int (one : Int)), some (.int (last : Int)), y9] ∧ StockAt H' t ls rows ∧ Wish H' b wl ws n ∧ Deck H' dk c (i * 200 + 130 + 5 * j))
        ⟨_, rfl, st10, wi10, d10⟩ (fun j σ H11 hj h => ?_) (fun σ H11 h => ?_)
      · obtain ⟨y9, rfl, st11, wi11, d11⟩ := h
        refine ⟨_, rfl, _, rfl, _, rfl, _, rfl, _, rfl, dk, c, t, b, _, ls, wl, rows, ws, n, one, last, rfl, d11, by omega, st11, rb, h50, wi11, ho, hlm, hne, fun H12 k12 d12 => ?_⟩
        exact ⟨_, rfl, iteF (A := False) ⟨_, rfl, st11.tk (TK.kp d11 k12), wi11.tk (TK.kp d11 k12), d12.up (by omega)⟩⟩
      obtain ⟨y9, rfl, st11, wi11, d11⟩ := h
      -- whole
      refine ⟨_, rfl, _, rfl, t, b, ls, wl, rows, ws, n, rfl, st11, rb, h50, wi11, fun H12 s12 => ?_⟩
      refine ⟨_, rfl, iteF (A := False) ?_⟩
      have st12 := st11.same s12
      have wi12 := wi11.same s12
      have d12 := d11.keep s12
      refine ⟨.ref t, rfl, t, _, rfl, .inr (SqT.of st12.top), _, 4, rfl, rfl, _, rfl, ite2 (fun e => ?_) (fun e => ?_)⟩
      · have hl4 : rows.length < 4 := by
          have e : decide (((ls.map V.ref).length : Int) < 4) = true := e
          have := of_decide_eq_true e
          rw [List.length_map] at this
          omega
        refine ⟨.ref t, rfl, ?_⟩
        refine ⟨.ref t, rfl, by show 1 ≤ sizeLine; decide, fun z1 nz1 => ?_⟩
        have u1 := same_new (o := .tup [.int 0]) nz1
        refine ⟨.int (n : Int), rfl, z1, (n : Int), [.int 0], rfl, rfl, upd_same, by simp, by omega, by omega, by show 1 ≤ 1000; decide, fun z2 Hz sz hz2 => ?_⟩
        rw [rep_one, Int.toNat_natCast] at hz2
        refine ⟨by show 1 ≤ sizeLine; decide, fun z3 nz3 => ?_⟩
        have u3 := same_new (o := .tup [.ref z2]) nz3
        have u13 := u1.trans (sz.trans u3)
        refine ⟨t, z3, _, _, rfl, rfl, u13 _ _ st12.top, upd_same, by rw [List.length_map]; simp only [List.length_cons, List.length_nil]; omega, fun o Ho so ho => ?_⟩
        have u := u13.trans so
        have hoz : Ho o = some (.tup ((ls ++ [z2]).map V.ref)) := by
          rw [ho, List.map_append]
          rfl
        have sto := (st12.same u).snoc (so _ _ (u3 _ _ hz2)) hoz
        refine ⟨.ref b, rfl, t, o, b, ls, _, wl, rows, rows ++ [List.replicate n 0], ws, n, rfl, st12.same u, sto, rb, (rc.zero hl4).rb, tot_zero rows n, h50, wi12.same u, fun H14 s14 => ?_⟩
        exact ⟨_, rfl, iteF (A := False) ⟨_, _, _, _, _, _, _, _, rfl, (d12.keep (u.trans s14)).up (by omega)⟩⟩
      · exact ⟨_, _, _, _, _, _, _, _, rfl, d12.up (by omega)⟩
    · obtain ⟨y2, y3, y4, y5, y6, y7, y8, y9, rfl, d2⟩ := h
      exact q _
end
end DD
namespace DD
open PySem PySem.Spec PyProof.Rows L2
set_option maxHeartbeats 0 in
theorem all_mk {l : PySem.W.OpenLaw} {w : World} {K : PySem.W.Frag} {h : Heap} {mg : Str → Option Value} {fa f1 f2 f3 f4 f5 f6 f7 f8 f9 f10 f11 f12 f13 f14 f15 f16 f17 f18 f19 f20 f21 f22 f23 f24 f25 f26 f27 f28 f29 f30 f31 f32 f33 : Addr} {tk1 tk2 tk3 : Nat} (kin : K.In h) (nsG : h.Ns mainGlobals mg) (hfa : mg "law" = some (.ref fa))
    {od1 an1 : Option Addr} {sl1 : Array (Option Value)} {oc1 kV1 dc1 pm1 cd1 ct1 : Value}
    {od2 an2 : Option Addr} {sl2 : Array (Option Value)} {oc2 kV2 dc2 pm2 cd2 ct2 : Value}
    {od3 an3 : Option Addr} {sl3 : Array (Option Value)} {oc3 kV3 dc3 pm3 cd3 ct3 : Value}
    {od4 an4 : Option Addr} {sl4 : Array (Option Value)} {oc4 kV4 dc4 pm4 cd4 ct4 : Value}
    {od5 an5 : Option Addr} {sl5 : Array (Option Value)} {oc5 kV5 dc5 pm5 cd5 ct5 : Value}
    {od6 an6 : Option Addr} {sl6 : Array (Option Value)} {oc6 kV6 dc6 pm6 cd6 ct6 : Value}
    {od7 an7 : Option Addr} {sl7 : Array (Option Value)} {oc7 kV7 dc7 pm7 cd7 ct7 : Value}
    {od8 an8 : Option Addr} {sl8 : Array (Option Value)} {oc8 kV8 dc8 pm8 cd8 ct8 : Value}
    {od9 an9 : Option Addr} {sl9 : Array (Option Value)} {oc9 kV9 dc9 pm9 cd9 ct9 : Value}
    {od10 an10 : Option Addr} {sl10 : Array (Option Value)} {oc10 kV10 dc10 pm10 cd10 ct10 : Value}
    {od11 an11 : Option Addr} {sl11 : Array (Option Value)} {oc11 kV11 dc11 pm11 cd11 ct11 : Value}
    {od12 an12 : Option Addr} {sl12 : Array (Option Value)} {oc12 kV12 dc12 pm12 cd12 ct12 : Value}
    {od13 an13 : Option Addr} {sl13 : Array (Option Value)} {oc13 kV13 dc13 pm13 cd13 ct13 : Value}
    {od14 an14 : Option Addr} {sl14 : Array (Option Value)} {oc14 kV14 dc14 pm14 cd14 ct14 : Value}
    {od15 an15 : Option Addr} {sl15 : Array (Option Value)} {oc15 kV15 dc15 pm15 cd15 ct15 : Value}
    {od16 an16 : Option Addr} {sl16 : Array (Option Value)} {oc16 kV16 dc16 pm16 cd16 ct16 : Value}
    {od17 an17 : Option Addr} {sl17 : Array (Option Value)} {oc17 kV17 dc17 pm17 cd17 ct17 : Value}
    {od18 an18 : Option Addr} {sl18 : Array (Option Value)} {oc18 kV18 dc18 pm18 cd18 ct18 : Value}
    {od19 an19 : Option Addr} {sl19 : Array (Option Value)} {oc19 kV19 dc19 pm19 cd19 ct19 : Value}
    {od20 an20 : Option Addr} {sl20 : Array (Option Value)} {oc20 kV20 dc20 pm20 cd20 ct20 : Value}
    {od21 an21 : Option Addr} {sl21 : Array (Option Value)} {oc21 kV21 dc21 pm21 cd21 ct21 : Value}
    {od22 an22 : Option Addr} {sl22 : Array (Option Value)} {oc22 kV22 dc22 pm22 cd22 ct22 : Value}
    {od23 an23 : Option Addr} {sl23 : Array (Option Value)} {oc23 kV23 dc23 pm23 cd23 ct23 : Value}
    {od24 an24 : Option Addr} {sl24 : Array (Option Value)} {oc24 kV24 dc24 pm24 cd24 ct24 : Value}
    {od25 an25 : Option Addr} {sl25 : Array (Option Value)} {oc25 kV25 dc25 pm25 cd25 ct25 : Value}
    {od26 an26 : Option Addr} {sl26 : Array (Option Value)} {oc26 kV26 dc26 pm26 cd26 ct26 : Value}
    {od27 an27 : Option Addr} {sl27 : Array (Option Value)} {oc27 kV27 dc27 pm27 cd27 ct27 : Value}
    {od28 an28 : Option Addr} {sl28 : Array (Option Value)} {oc28 kV28 dc28 pm28 cd28 ct28 : Value}
    {od29 an29 : Option Addr} {sl29 : Array (Option Value)} {oc29 kV29 dc29 pm29 cd29 ct29 : Value}
    {od30 an30 : Option Addr} {sl30 : Array (Option Value)} {oc30 kV30 dc30 pm30 cd30 ct30 : Value}
    {od31 an31 : Option Addr} {sl31 : Array (Option Value)} {oc31 kV31 dc31 pm31 cd31 ct31 : Value}
    {od32 an32 : Option Addr} {sl32 : Array (Option Value)} {oc32 kV32 dc32 pm32 cd32 ct32 : Value}
    {od33 an33 : Option Addr} {sl33 : Array (Option Value)} {oc33 kV33 dc33 pm33 cd33 ct33 : Value}
    (m1 : PySem.W.nsIn K mainGlobals "MAX_DRAWERS" = some (some (.int 4 tk1)))
    (m2 : PySem.W.nsIn K mainGlobals "MAX_KINDS" = some (some (.int 4 tk2)))
    (m3 : PySem.W.nsIn K mainGlobals "MAX_COUNT" = some (some (.int 50 tk3)))
    (a1 : PySem.W.nsIn K mainGlobals "is_number" = some (some (.ref f1)))
    (l1 : K.lookup f1 = some ⟨oc1, od1, .func (PySem.W.fnOf "is_number" "is_number" (defArgs sIsNum) (defBody sIsNum) (defScope sIsNum) .none kV1 dc1 pm1 an1 cd1 ct1), sl1⟩)
    (c1 : PySem.W.codeIn K cd1 "is_number" = true)
    (k1 : PySem.W.keepIn K (.ref f1) = true)
    (a2 : PySem.W.nsIn K mainGlobals "is_number_up_to" = some (some (.ref f2)))
    (l2 : K.lookup f2 = some ⟨oc2, od2, .func (PySem.W.fnOf "is_number_up_to" "is_number_up_to" (defArgs sUpTo) (defBody sUpTo) (defScope sUpTo) .none kV2 dc2 pm2 an2 cd2 ct2), sl2⟩)
    (c2 : PySem.W.codeIn K cd2 "is_number_up_to" = true)
    (k2 : PySem.W.keepIn K (.ref f2) = true)
    (a3 : PySem.W.nsIn K mainGlobals "is_tuple_of" = some (some (.ref f3)))
    (l3 : K.lookup f3 = some ⟨oc3, od3, .func (PySem.W.fnOf "is_tuple_of" "is_tuple_of" (defArgs sTupOf) (defBody sTupOf) (defScope sTupOf) .none kV3 dc3 pm3 an3 cd3 ct3), sl3⟩)
    (c3 : PySem.W.codeIn K cd3 "is_tuple_of" = true)
    (k3 : PySem.W.keepIn K (.ref f3) = true)
    (a4 : PySem.W.nsIn K mainGlobals "are_numbers" = some (some (.ref f4)))
    (l4 : K.lookup f4 = some ⟨oc4, od4, .func (PySem.W.fnOf "are_numbers" "are_numbers" (defArgs sNums) (defBody sNums) (defScope sNums) .none kV4 dc4 pm4 an4 cd4 ct4), sl4⟩)
    (c4 : PySem.W.codeIn K cd4 "are_numbers" = true)
    (k4 : PySem.W.keepIn K (.ref f4) = true)
    (a5 : PySem.W.nsIn K mainGlobals "is_stock" = some (some (.ref f5)))
    (l5 : K.lookup f5 = some ⟨oc5, od5, .func (PySem.W.fnOf "is_stock" "is_stock" (defArgs sIsStock) (defBody sIsStock) (defScope sIsStock) .none kV5 dc5 pm5 an5 cd5 ct5), sl5⟩)
    (c5 : PySem.W.codeIn K cd5 "is_stock" = true)
    (k5 : PySem.W.keepIn K (.ref f5) = true)
    (a6 : PySem.W.nsIn K mainGlobals "stock_error" = some (some (.ref f6)))
    (l6 : K.lookup f6 = some ⟨oc6, od6, .func (PySem.W.fnOf "stock_error" "stock_error" (defArgs sErr) (defBody sErr) (defScope sErr) .none kV6 dc6 pm6 an6 cd6 ct6), sl6⟩)
    (c6 : PySem.W.codeIn K cd6 "stock_error" = true)
    (k6 : PySem.W.keepIn K (.ref f6) = true)
    (a7 : PySem.W.nsIn K mainGlobals "totals_of" = some (some (.ref f7)))
    (l7 : K.lookup f7 = some ⟨oc7, od7, .func (PySem.W.fnOf "totals_of" "totals_of" (defArgs sTotals) (defBody sTotals) (defScope sTotals) .none kV7 dc7 pm7 an7 cd7 ct7), sl7⟩)
    (c7 : PySem.W.codeIn K cd7 "totals_of" = true)
    (k7 : PySem.W.keepIn K (.ref f7) = true)
    (a8 : PySem.W.nsIn K mainGlobals "sizes_of" = some (some (.ref f8)))
    (l8 : K.lookup f8 = some ⟨oc8, od8, .func (PySem.W.fnOf "sizes_of" "sizes_of" (defArgs sSizes) (defBody sSizes) (defScope sSizes) .none kV8 dc8 pm8 an8 cd8 ct8), sl8⟩)
    (c8 : PySem.W.codeIn K cd8 "sizes_of" = true)
    (k8 : PySem.W.keepIn K (.ref f8) = true)
    (a9 : PySem.W.nsIn K mainGlobals "merged" = some (some (.ref f9)))
    (l9 : K.lookup f9 = some ⟨oc9, od9, .func (PySem.W.fnOf "merged" "merged" (defArgs sMerged) (defBody sMerged) (defScope sMerged) .none kV9 dc9 pm9 an9 cd9 ct9), sl9⟩)
    (c9 : PySem.W.codeIn K cd9 "merged" = true)
    (k9 : PySem.W.keepIn K (.ref f9) = true)
    (a10 : PySem.W.nsIn K mainGlobals "fulfilled_by" = some (some (.ref f10)))
    (l10 : K.lookup f10 = some ⟨oc10, od10, .func (PySem.W.fnOf "fulfilled_by" "fulfilled_by" (defArgs sFul) (defBody sFul) (defScope sFul) .none kV10 dc10 pm10 an10 cd10 ct10), sl10⟩)
    (c10 : PySem.W.codeIn K cd10 "fulfilled_by" = true)
    (k10 : PySem.W.keepIn K (.ref f10) = true)
    (a11 : PySem.W.nsIn K mainGlobals "contain" = some (some (.ref f11)))
    (l11 : K.lookup f11 = some ⟨oc11, od11, .func (PySem.W.fnOf "contain" "contain" (defArgs sCont) (defBody sCont) (defScope sCont) .none kV11 dc11 pm11 an11 cd11 ct11), sl11⟩)
    (c11 : PySem.W.codeIn K cd11 "contain" = true)
    (k11 : PySem.W.keepIn K (.ref f11) = true)
    (a12 : PySem.W.nsIn K mainGlobals "spoilings_of" = some (some (.ref f12)))
    (l12 : K.lookup f12 = some ⟨oc12, od12, .func (PySem.W.fnOf "spoilings_of" "spoilings_of" (defArgs sSpoil) (defBody sSpoil) (defScope sSpoil) .none kV12 dc12 pm12 an12 cd12 ct12), sl12⟩)
    (c12 : PySem.W.codeIn K cd12 "spoilings_of" = true)
    (k12 : PySem.W.keepIn K (.ref f12) = true)
    (a13 : PySem.W.nsIn K mainGlobals "caps_of" = some (some (.ref f13)))
    (l13 : K.lookup f13 = some ⟨oc13, od13, .func (PySem.W.fnOf "caps_of" "caps_of" (defArgs sCaps) (defBody sCaps) (defScope sCaps) .none kV13 dc13 pm13 an13 cd13 ct13), sl13⟩)
    (c13 : PySem.W.codeIn K cd13 "caps_of" = true)
    (k13 : PySem.W.keepIn K (.ref f13) = true)
    (a14 : PySem.W.nsIn K mainGlobals "room_in" = some (some (.ref f14)))
    (l14 : K.lookup f14 = some ⟨oc14, od14, .func (PySem.W.fnOf "room_in" "room_in" (defArgs sRoomIn) (defBody sRoomIn) (defScope sRoomIn) .none kV14 dc14 pm14 an14 cd14 ct14), sl14⟩)
    (c14 : PySem.W.codeIn K cd14 "room_in" = true)
    (k14 : PySem.W.keepIn K (.ref f14) = true)
    (a15 : PySem.W.nsIn K mainGlobals "room_of" = some (some (.ref f15)))
    (l15 : K.lookup f15 = some ⟨oc15, od15, .func (PySem.W.fnOf "room_of" "room_of" (defArgs sRoomOf) (defBody sRoomOf) (defScope sRoomOf) .none kV15 dc15 pm15 an15 cd15 ct15), sl15⟩)
    (c15 : PySem.W.codeIn K cd15 "room_of" = true)
    (k15 : PySem.W.keepIn K (.ref f15) = true)
    (a16 : PySem.W.nsIn K mainGlobals "find_certificate" = some (some (.ref f16)))
    (l16 : K.lookup f16 = some ⟨oc16, od16, .func (PySem.W.fnOf "find_certificate" "find_certificate" (defArgs sFind) (defBody sFind) (defScope sFind) .none kV16 dc16 pm16 an16 cd16 ct16), sl16⟩)
    (c16 : PySem.W.codeIn K cd16 "find_certificate" = true)
    (k16 : PySem.W.keepIn K (.ref f16) = true)
    (a17 : PySem.W.nsIn K mainGlobals "loads_of" = some (some (.ref f17)))
    (l17 : K.lookup f17 = some ⟨oc17, od17, .func (PySem.W.fnOf "loads_of" "loads_of" (defArgs sLoads) (defBody sLoads) (defScope sLoads) .none kV17 dc17 pm17 an17 cd17 ct17), sl17⟩)
    (c17 : PySem.W.codeIn K cd17 "loads_of" = true)
    (k17 : PySem.W.keepIn K (.ref f17) = true)
    (a18 : PySem.W.nsIn K mainGlobals "sets_of_drawers" = some (some (.ref f18)))
    (l18 : K.lookup f18 = some ⟨oc18, od18, .func (PySem.W.fnOf "sets_of_drawers" "sets_of_drawers" (defArgs sSetsOf) (defBody sSetsOf) (defScope sSetsOf) .none kV18 dc18 pm18 an18 cd18 ct18), sl18⟩)
    (c18 : PySem.W.codeIn K cd18 "sets_of_drawers" = true)
    (k18 : PySem.W.keepIn K (.ref f18) = true)
    (a19 : PySem.W.nsIn K mainGlobals "overfull" = some (some (.ref f19)))
    (l19 : K.lookup f19 = some ⟨oc19, od19, .func (PySem.W.fnOf "overfull" "overfull" (defArgs sOver) (defBody sOver) (defScope sOver) .none kV19 dc19 pm19 an19 cd19 ct19), sl19⟩)
    (c19 : PySem.W.codeIn K cd19 "overfull" = true)
    (k19 : PySem.W.keepIn K (.ref f19) = true)
    (a20 : PySem.W.nsIn K mainGlobals "draw_within" = some (some (.ref f20)))
    (l20 : K.lookup f20 = some ⟨oc20, od20, .func (PySem.W.fnOf "draw_within" "draw_within" (defArgs sWithin) (defBody sWithin) (defScope sWithin) .none kV20 dc20 pm20 an20 cd20 ct20), sl20⟩)
    (c20 : PySem.W.codeIn K cd20 "draw_within" = true)
    (k20 : PySem.W.keepIn K (.ref f20) = true)
    (a21 : PySem.W.nsIn K mainGlobals "spare_of" = some (some (.ref f21)))
    (l21 : K.lookup f21 = some ⟨oc21, od21, .func (PySem.W.fnOf "spare_of" "spare_of" (defArgs sSpare) (defBody sSpare) (defScope sSpare) .none kV21 dc21 pm21 an21 cd21 ct21), sl21⟩)
    (c21 : PySem.W.codeIn K cd21 "spare_of" = true)
    (k21 : PySem.W.keepIn K (.ref f21) = true)
    (a22 : PySem.W.nsIn K mainGlobals "is_sure" = some (some (.ref f22)))
    (l22 : K.lookup f22 = some ⟨oc22, od22, .func (PySem.W.fnOf "is_sure" "is_sure" (defArgs sIsSure) (defBody sIsSure) (defScope sIsSure) .none kV22 dc22 pm22 an22 cd22 ct22), sl22⟩)
    (c22 : PySem.W.codeIn K cd22 "is_sure" = true)
    (k22 : PySem.W.keepIn K (.ref f22) = true)
    (a23 : PySem.W.nsIn K mainGlobals "sure_total" = some (some (.ref f23)))
    (l23 : K.lookup f23 = some ⟨oc23, od23, .func (PySem.W.fnOf "sure_total" "sure_total" (defArgs sTotal) (defBody sTotal) (defScope sTotal) .none kV23 dc23 pm23 an23 cd23 ct23), sl23⟩)
    (c23 : PySem.W.codeIn K cd23 "sure_total" = true)
    (k23 : PySem.W.keepIn K (.ref f23) = true)
    (a24 : PySem.W.nsIn K mainGlobals "sure_number" = some (some (.ref f24)))
    (l24 : K.lookup f24 = some ⟨oc24, od24, .func (PySem.W.fnOf "sure_number" "sure_number" (defArgs sNumber) (defBody sNumber) (defScope sNumber) .none kV24 dc24 pm24 an24 cd24 ct24), sl24⟩)
    (c24 : PySem.W.codeIn K cd24 "sure_number" = true)
    (k24 : PySem.W.keepIn K (.ref f24) = true)
    (a25 : PySem.W.nsIn K mainGlobals "_law_deck" = some (some (.ref f25)))
    (l25 : K.lookup f25 = some ⟨oc25, od25, .func (PySem.W.fnOf "_law_deck" "_law_deck" (defArgs sDeck) (defBody sDeck) (defScope sDeck) .none kV25 dc25 pm25 an25 cd25 ct25), sl25⟩)
    (c25 : PySem.W.codeIn K cd25 "_law_deck" = true)
    (k25 : PySem.W.keepIn K (.ref f25) = true)
    (a26 : PySem.W.nsIn K mainGlobals "_law_draw" = some (some (.ref f26)))
    (l26 : K.lookup f26 = some ⟨oc26, od26, .func (PySem.W.fnOf "_law_draw" "_law_draw" (defArgs sDraw) (defBody sDraw) (defScope sDraw) .none kV26 dc26 pm26 an26 cd26 ct26), sl26⟩)
    (c26 : PySem.W.codeIn K cd26 "_law_draw" = true)
    (k26 : PySem.W.keepIn K (.ref f26) = true)
    (a27 : PySem.W.nsIn K mainGlobals "_law_counts" = some (some (.ref f27)))
    (l27 : K.lookup f27 = some ⟨oc27, od27, .func (PySem.W.fnOf "_law_counts" "_law_counts" (defArgs sCounts) (defBody sCounts) (defScope sCounts) .none kV27 dc27 pm27 an27 cd27 ct27), sl27⟩)
    (c27 : PySem.W.codeIn K cd27 "_law_counts" = true)
    (k27 : PySem.W.keepIn K (.ref f27) = true)
    (a28 : PySem.W.nsIn K mainGlobals "_law_stock" = some (some (.ref f28)))
    (l28 : K.lookup f28 = some ⟨oc28, od28, .func (PySem.W.fnOf "_law_stock" "_law_stock" (defArgs sStock) (defBody sStock) (defScope sStock) .none kV28 dc28 pm28 an28 cd28 ct28), sl28⟩)
    (c28 : PySem.W.codeIn K cd28 "_law_stock" = true)
    (k28 : PySem.W.keepIn K (.ref f28) = true)
    (a29 : PySem.W.nsIn K mainGlobals "_law_wishes" = some (some (.ref f29)))
    (l29 : K.lookup f29 = some ⟨oc29, od29, .func (PySem.W.fnOf "_law_wishes" "_law_wishes" (defArgs sWishes) (defBody sWishes) (defScope sWishes) .none kV29 dc29 pm29 an29 cd29 ct29), sl29⟩)
    (c29 : PySem.W.codeIn K cd29 "_law_wishes" = true)
    (k29 : PySem.W.keepIn K (.ref f29) = true)
    (a30 : PySem.W.nsIn K mainGlobals "_law_kept_right" = some (some (.ref f30)))
    (l30 : K.lookup f30 = some ⟨oc30, od30, .func (PySem.W.fnOf "_law_kept_right" "_law_kept_right" (defArgs sKeptR) (defBody sKeptR) (defScope sKeptR) .none kV30 dc30 pm30 an30 cd30 ct30), sl30⟩)
    (c30 : PySem.W.codeIn K cd30 "_law_kept_right" = true)
    (k30 : PySem.W.keepIn K (.ref f30) = true)
    (a31 : PySem.W.nsIn K mainGlobals "_law_divided_right" = some (some (.ref f31)))
    (l31 : K.lookup f31 = some ⟨oc31, od31, .func (PySem.W.fnOf "_law_divided_right" "_law_divided_right" (defArgs sDivR) (defBody sDivR) (defScope sDivR) .none kV31 dc31 pm31 an31 cd31 ct31), sl31⟩)
    (c31 : PySem.W.codeIn K cd31 "_law_divided_right" = true)
    (k31 : PySem.W.keepIn K (.ref f31) = true)
    (a32 : PySem.W.nsIn K mainGlobals "_law_whole_right" = some (some (.ref f32)))
    (l32 : K.lookup f32 = some ⟨oc32, od32, .func (PySem.W.fnOf "_law_whole_right" "_law_whole_right" (defArgs sWhoR) (defBody sWhoR) (defScope sWhoR) .none kV32 dc32 pm32 an32 cd32 ct32), sl32⟩)
    (c32 : PySem.W.codeIn K cd32 "_law_whole_right" = true)
    (k32 : PySem.W.keepIn K (.ref f32) = true)
    (a33 : PySem.W.nsIn K mainGlobals "law" = some (some (.ref f33)))
    (l33 : K.lookup f33 = some ⟨oc33, od33, .func (PySem.W.fnOf "law" "law" (defArgs sLaw) (defBody sLaw) (defScope sLaw) .none kV33 dc33 pm33 an33 cd33 ct33), sl33⟩)
    (c33 : PySem.W.codeIn K cd33 "law" = true)
    (k33 : PySem.W.keepIn K (.ref f33) = true)
    (z1 : PySem.W.nsIn K mainGlobals "all" = some none)
    (z2 : PySem.W.nsIn K mainGlobals "len" = some none)
    (z3 : PySem.W.nsIn K mainGlobals "enumerate" = some none)
    (z4 : PySem.W.nsIn K mainGlobals "tuple" = some none)
    (z5 : PySem.W.nsIn K mainGlobals "sum" = some none)
    (z6 : PySem.W.nsIn K mainGlobals "range" = some none)
    (z7 : PySem.W.nsIn K mainGlobals "list" = some none)
    (z8 : PySem.W.nsIn K mainGlobals "sorted" = some none)
    (z9 : PySem.W.nsIn K mainGlobals "isinstance" = some none)
    (z10 : PySem.W.nsIn K mainGlobals "int" = some none)
    (z11 : PySem.W.nsIn K mainGlobals "zip" = some none)
    (z12 : PySem.W.nsIn K mainGlobals "min" = some none)
    (z13 : PySem.W.nsIn K mainGlobals "max" = some none)
    (z14 : PySem.W.nsIn K mainGlobals "set" = some none)
    (z15 : PySem.W.nsIn K mainGlobals "bool" = some none)
    (z16 : PySem.W.nsIn K mainGlobals "abs" = some none)
    : ∃ fd : FuncData, (∀ (s : Shared) (v : Value), BindsTo s fd ⟨[v], []⟩ [("_law_script", v)]) ∧ ∀ base : Heap, K.In base → base.Ns mainGlobals mg → FnG l.prog w K mg base 9 fa fd ["_law_script"] (spLaw K) := by
  cases hfa.symm.trans (PySem.W.mg_of kin nsG a33)
  have F1 := fun_mk (st := sIsNum) l1 c1 k1
  have F2 := fun_mk (st := sUpTo) l2 c2 k2
  have F3 := fun_mk (st := sTupOf) l3 c3 k3
  have F4 := fun_mk (st := sNums) l4 c4 k4
  have F5 := fun_mk (st := sIsStock) l5 c5 k5
  have F6 := fun_mk (st := sErr) l6 c6 k6
  have F7 := fun_mk (st := sTotals) l7 c7 k7
  have F8 := fun_mk (st := sSizes) l8 c8 k8
  have F9 := fun_mk (st := sMerged) l9 c9 k9
  have F10 := fun_mk (st := sFul) l10 c10 k10
  have F11 := fun_mk (st := sCont) l11 c11 k11
  have F12 := fun_mk (st := sSpoil) l12 c12 k12
  have F13 := fun_mk (st := sCaps) l13 c13 k13
  have F14 := fun_mk (st := sRoomIn) l14 c14 k14
  have F15 := fun_mk (st := sRoomOf) l15 c15 k15
  have F16 := fun_mk (st := sFind) l16 c16 k16
  have F17 := fun_mk (st := sLoads) l17 c17 k17
  have F18 := fun_mk (st := sSetsOf) l18 c18 k18
  have F19 := fun_mk (st := sOver) l19 c19 k19
  have F20 := fun_mk (st := sWithin) l20 c20 k20
  have F21 := fun_mk (st := sSpare) l21 c21 k21
  have F22 := fun_mk (st := sIsSure) l22 c22 k22
  have F23 := fun_mk (st := sTotal) l23 c23 k23
  have F24 := fun_mk (st := sNumber) l24 c24 k24
  have F25 := fun_mk (st := sDeck) l25 c25 k25
  have F26 := fun_mk (st := sDraw) l26 c26 k26
  have F27 := fun_mk (st := sCounts) l27 c27 k27
  have F28 := fun_mk (st := sStock) l28 c28 k28
  have F29 := fun_mk (st := sWishes) l29 c29 k29
  have F30 := fun_mk (st := sKeptR) l30 c30 k30
  have F31 := fun_mk (st := sDivR) l31 c31 k31
  have F32 := fun_mk (st := sWhoR) l32 c32 k32
  have F33 := fun_mk (st := sLaw) l33 c33 k33
  have b1 := F1.binds (ps := ["value"]) fun _ _ _ _ _ _ us hl => match us, hl with | [_], _ => rfl
  have b2 := F2.binds (ps := ["value", "most"]) fun _ _ _ _ _ _ us hl => match us, hl with | [_, _], _ => rfl
  have b3 := F3.binds (ps := ["value", "fewest", "most"]) fun _ _ _ _ _ _ us hl => match us, hl with | [_, _, _], _ => rfl
  have b4 := F4.binds (ps := ["value", "fewest", "most", "limit"]) fun _ _ _ _ _ _ us hl => match us, hl with | [_, _, _, _], _ => rfl
  have b5 := F5.binds (ps := ["value"]) fun _ _ _ _ _ _ us hl => match us, hl with | [_], _ => rfl
  have b6 := F6.binds (ps := ["value"]) fun _ _ _ _ _ _ us hl => match us, hl with | [_], _ => rfl
  have b7 := F7.binds (ps := ["stock"]) fun _ _ _ _ _ _ us hl => match us, hl with | [_], _ => rfl
  have b8 := F8.binds (ps := ["stock"]) fun _ _ _ _ _ _ us hl => match us, hl with | [_], _ => rfl
  have b10 := F10.binds (ps := ["collections", "counts"]) fun _ _ _ _ _ _ us hl => match us, hl with | [_, _], _ => rfl
  have b11 := F11.binds (ps := ["counts", "collection"]) fun _ _ _ _ _ _ us hl => match us, hl with | [_, _], _ => rfl
  have b12 := F12.binds (ps := ["collections"]) fun _ _ _ _ _ _ us hl => match us, hl with | [_], _ => rfl
  have b13 := F13.binds (ps := ["collections", "spoiling"]) fun _ _ _ _ _ _ us hl => match us, hl with | [_, _], _ => rfl
  have b14 := F14.binds (ps := ["stock", "caps", "drawers"]) fun _ _ _ _ _ _ us hl => match us, hl with | [_, _, _], _ => rfl
  have b15 := F15.binds (ps := ["totals", "caps"]) fun _ _ _ _ _ _ us hl => match us, hl with | [_, _], _ => rfl
  have b16 := F16.binds (ps := ["stock", "collections", "plan"]) fun _ _ _ _ _ _ us hl => match us, hl with | [_, _, _], _ => rfl
  have b17 := F17.binds (ps := ["stock", "plan"]) fun _ _ _ _ _ _ us hl => match us, hl with | [_, _], _ => rfl
  have b18 := F18.binds (ps := ["stock"]) fun _ _ _ _ _ _ us hl => match us, hl with | [_], _ => rfl
  have b19 := F19.binds (ps := ["loads", "caps"]) fun _ _ _ _ _ _ us hl => match us, hl with | [_, _], _ => rfl
  have b20 := F20.binds (ps := ["stock", "caps", "plan"]) fun _ _ _ _ _ _ us hl => match us, hl with | [_, _, _], _ => rfl
  have b21 := F21.binds (ps := ["loads", "caps", "kind"]) fun _ _ _ _ _ _ us hl => match us, hl with | [_, _, _], _ => rfl
  have b22 := F22.binds (ps := ["stock", "collections", "plan"]) fun _ _ _ _ _ _ us hl => match us, hl with | [_, _, _], _ => rfl
  have b23 := F23.binds (ps := ["stock", "collections"]) fun _ _ _ _ _ _ us hl => match us, hl with | [_, _], _ => rfl
  have b24 := F24.binds (ps := ["stock", "collections", "drawer"]) fun _ _ _ _ _ _ us hl => match us, hl with | [_, _, _], _ => rfl
  have b25 := F25.binds (ps := ["_law_script"]) fun _ _ _ _ _ _ us hl => match us, hl with | [_], _ => rfl
  have b26 := F26.binds (ps := ["_law_deck_here", "_law_limit"]) fun _ _ _ _ _ _ us hl => match us, hl with | [_, _], _ => rfl
  have b27 := F27.binds (ps := ["_law_deck_here", "_law_kinds", "_law_most"]) fun _ _ _ _ _ _ us hl => match us, hl with | [_, _, _], _ => rfl
  have b28 := F28.binds (ps := ["_law_deck_here", "_law_most", "_law_high", "_law_kinds"]) fun _ _ _ _ _ _ us hl => match us, hl with | [_, _, _, _], _ => rfl
  have b29 := F29.binds (ps := ["_law_deck_here", "_law_most", "_law_high", "_law_kinds"]) fun _ _ _ _ _ _ us hl => match us, hl with | [_, _, _, _], _ => rfl
  have b30 := F30.binds (ps := ["_law_stock_here", "_law_other", "_law_wishes_here"]) fun _ _ _ _ _ _ us hl => match us, hl with | [_, _, _], _ => rfl
  have b31 := F31.binds (ps := ["_law_deck_here", "_law_stock_here", "_law_wishes_here", "_law_one", "_law_last"]) fun _ _ _ _ _ _ us hl => match us, hl with | [_, _, _, _, _], _ => rfl
  have b32 := F32.binds (ps := ["_law_stock_here", "_law_wishes_here"]) fun _ _ _ _ _ _ us hl => match us, hl with | [_, _], _ => rfl
  refine ⟨PySem.W.fnOf "law" "law" (defArgs sLaw) (defBody sLaw) (defScope sLaw) .none kV33 dc33 pm33 an33 cd33 ct33, fun s v => .of_eq rfl, fun base _ _ => ?_⟩
  exact ok_law F33 { N := F1, bN := b1, gN := PySem.W.mg_of kin nsG a1, U := F2, bU := b2, gU := PySem.W.mg_of kin nsG a2, Tu := F3, bTu := b3, gTu := PySem.W.mg_of kin nsG a3, A := F4, bA := b4, gA := PySem.W.mg_of kin nsG a4, Ik := F5, bIk := b5, gIk := PySem.W.mg_of kin nsG a5, Er := F6, bEr := b6, gEr := PySem.W.mg_of kin nsG a6, O := F7, bO := b7, gO := PySem.W.mg_of kin nsG a7, Sz := F8, bSz := b8, gSz := PySem.W.mg_of kin nsG a8, Mg := F9, gMg := PySem.W.mg_of kin nsG a9, Fu := F10, bFu := b10, gFu := PySem.W.mg_of kin nsG a10, Co := F11, bCo := b11, gCo := PySem.W.mg_of kin nsG a11, Sp := F12, bSp := b12, gSp := PySem.W.mg_of kin nsG a12, Ca := F13, bCa := b13, gCa := PySem.W.mg_of kin nsG a13, I := F14, bI := b14, gI := PySem.W.mg_of kin nsG a14, R := F15, bR := b15, gR := PySem.W.mg_of kin nsG a15, Fc := F16, bFc := b16, gFc := PySem.W.mg_of kin nsG a16, Lo := F17, bLo := b17, gLo := PySem.W.mg_of kin nsG a17, So := F18, bSo := b18, gSo := PySem.W.mg_of kin nsG a18, Ov := F19, bOv := b19, gOv := PySem.W.mg_of kin nsG a19, Dw := F20, bDw := b20, gDw := PySem.W.mg_of kin nsG a20, Sv := F21, bSv := b21, gSv := PySem.W.mg_of kin nsG a21, Is := F22, bIs := b22, gIs := PySem.W.mg_of kin nsG a22, St := F23, bSt := b23, gSt := PySem.W.mg_of kin nsG a23, Sn := F24, bSn := b24, gSn := PySem.W.mg_of kin nsG a24, Dk := F25, bDk := b25, gDk := PySem.W.mg_of kin nsG a25, D := F26, bD := b26, gD := PySem.W.mg_of kin nsG a26, Cu := F27, bCu := b27, gCu := PySem.W.mg_of kin nsG a27, S := F28, bS := b28, gS := PySem.W.mg_of kin nsG a28, Wh := F29, bWh := b29, gWh := PySem.W.mg_of kin nsG a29, Kr := F30, bKr := b30, gKr := PySem.W.mg_of kin nsG a30, Dv := F31, bDv := b31, gDv := PySem.W.mg_of kin nsG a31, Wr := F32, bWr := b32, gWr := PySem.W.mg_of kin nsG a32, m_all := PySem.W.mg_none_of kin nsG z1, m_len := PySem.W.mg_none_of kin nsG z2, m_enumerate := PySem.W.mg_none_of kin nsG z3, m_tuple := PySem.W.mg_none_of kin nsG z4, m_sum := PySem.W.mg_none_of kin nsG z5, m_range := PySem.W.mg_none_of kin nsG z6, m_list := PySem.W.mg_none_of kin nsG z7, m_sorted := PySem.W.mg_none_of kin nsG z8, m_isinstance := PySem.W.mg_none_of kin nsG z9, m_int := PySem.W.mg_none_of kin nsG z10, m_zip := PySem.W.mg_none_of kin nsG z11, m_min := PySem.W.mg_none_of kin nsG z12, m_max := PySem.W.mg_none_of kin nsG z13, m_set := PySem.W.mg_none_of kin nsG z14, m_bool := PySem.W.mg_none_of kin nsG z15, m_abs := PySem.W.mg_none_of kin nsG z16, mxd := ⟨_, PySem.W.mg_of kin nsG m1⟩, mxk := ⟨_, PySem.W.mg_of kin nsG m2⟩, mxc := ⟨_, PySem.W.mg_of kin nsG m3⟩ }
end DD
open PySem PySem.W PyProof.Rows
set_option maxHeartbeats 0 in
theorem PySem.Challenge.cw_darkdrawers_k08_whole_merged_drawers_holds : PySem.Challenge.rw_darkdrawers_k08_whole_merged_drawers.Holds := by
  w_on; o_law; k_head; (case hw => w_witness2)
  k_fill
  refine DD.walk_ofG (l := PySem.Challenge.rw_darkdrawers_k08_whole_merged_drawers) (n := 63) (k := 9) (x := "_law_script") (sp := fun w => DD.spLaw _) rfl (by decide) rfl ⟨rfl, by decide, by decide⟩ (fun w h Y => PySem.W.kIn_of Y) ?F
    (fun _ _ a ns hl _ hS => ⟨a, ns, rfl, hS, hl, fun _ => rfl⟩)
  case F =>
    intro w mg fa h KX G hmg
    refine' DD.all_mk KX G hmg ?m1 ?m2 ?m3 ?a1 ?l1 ?c1 ?k1 ?a2 ?l2 ?c2 ?k2 ?a3 ?l3 ?c3 ?k3 ?a4 ?l4 ?c4 ?k4 ?a5 ?l5 ?c5 ?k5 ?a6 ?l6 ?c6 ?k6 ?a7 ?l7 ?c7 ?k7 ?a8 ?l8 ?c8 ?k8 ?a9 ?l9 ?c9 ?k9 ?a10 ?l10 ?c10 ?k10 ?a11 ?l11 ?c11 ?k11 ?a12 ?l12 ?c12 ?k12 ?a13 ?l13 ?c13 ?k13 ?a14 ?l14 ?c14 ?k14 ?a15 ?l15 ?c15 ?k15 ?a16 ?l16 ?c16 ?k16 ?a17 ?l17 ?c17 ?k17 ?a18 ?l18 ?c18 ?k18 ?a19 ?l19 ?c19 ?k19 ?a20 ?l20 ?c20 ?k20 ?a21 ?l21 ?c21 ?k21 ?a22 ?l22 ?c22 ?k22 ?a23 ?l23 ?c23 ?k23 ?a24 ?l24 ?c24 ?k24 ?a25 ?l25 ?c25 ?k25 ?a26 ?l26 ?c26 ?k26 ?a27 ?l27 ?c27 ?k27 ?a28 ?l28 ?c28 ?k28 ?a29 ?l29 ?c29 ?k29 ?a30 ?l30 ?c30 ?k30 ?a31 ?l31 ?c31 ?k31 ?a32 ?l32 ?c32 ?k32 ?a33 ?l33 ?c33 ?k33 ?z1 ?z2 ?z3 ?z4 ?z5 ?z6 ?z7 ?z8 ?z9 ?z10 ?z11 ?z12 ?z13 ?z14 ?z15 ?z16
    (case m1 => k_is); (case m2 => k_is); (case m3 => k_is); (case a1 => k_is); (case l1 => k_is); (case c1 => k_is); (case k1 => k_is); (case a2 => k_is); (case l2 => k_is); (case c2 => k_is); (case k2 => k_is); (case a3 => k_is); (case l3 => k_is); (case c3 => k_is); (case k3 => k_is); (case a4 => k_is); (case l4 => k_is); (case c4 => k_is); (case k4 => k_is); (case a5 => k_is); (case l5 => k_is); (case c5 => k_is); (case k5 => k_is); (case a6 => k_is); (case l6 => k_is); (case c6 => k_is); (case k6 => k_is); (case a7 => k_is); (case l7 => k_is); (case c7 => k_is); (case k7 => k_is); (case a8 => k_is); (case l8 => k_is); (case c8 => k_is); (case k8 => k_is); (case a9 => k_is); (case l9 => k_is); (case c9 => k_is); (case k9 => k_is); (case a10 => k_is); (case l10 => k_is); (case c10 => k_is); (case k10 => k_is); (case a11 => k_is); (case l11 => k_is); (case c11 => k_is); (case k11 => k_is); (case a12 => k_is); (case l12 => k_is); (case c12 => k_is); (case k12 => k_is); (case a13 => k_is); (case l13 => k_is); (case c13 => k_is); (case k13 => k_is); (case a14 => k_is); (case l14 => k_is); (case c14 => k_is); (case k14 => k_is); (case a15 => k_is); (case l15 => k_is); (case c15 => k_is); (case k15 => k_is); (case a16 => k_is); (case l16 => k_is); (case c16 => k_is); (case k16 => k_is); (case a17 => k_is); (case l17 => k_is); (case c17 => k_is); (case k17 => k_is); (case a18 => k_is); (case l18 => k_is); (case c18 => k_is); (case k18 => k_is); (case a19 => k_is); (case l19 => k_is); (case c19 => k_is); (case k19 => k_is); (case a20 => k_is); (case l20 => k_is); (case c20 => k_is); (case k20 => k_is); (case a21 => k_is); (case l21 => k_is); (case c21 => k_is); (case k21 => k_is); (case a22 => k_is); (case l22 => k_is); (case c22 => k_is); (case k22 => k_is); (case a23 => k_is); (case l23 => k_is); (case c23 => k_is); (case k23 => k_is); (case a24 => k_is); (case l24 => k_is); (case c24 => k_is); (case k24 => k_is); (case a25 => k_is); (case l25 => k_is); (case c25 => k_is); (case k25 => k_is); (case a26 => k_is); (case l26 => k_is); (case c26 => k_is); (case k26 => k_is); (case a27 => k_is); (case l27 => k_is); (case c27 => k_is); (case k27 => k_is); (case a28 => k_is); (case l28 => k_is); (case c28 => k_is); (case k28 => k_is); (case a29 => k_is); (case l29 => k_is); (case c29 => k_is); (case k29 => k_is); (case a30 => k_is); (case l30 => k_is); (case c30 => k_is); (case k30 => k_is); (case a31 => k_is); (case l31 => k_is); (case c31 => k_is); (case k31 => k_is); (case a32 => k_is); (case l32 => k_is); (case c32 => k_is); (case k32 => k_is); (case a33 => k_is); (case l33 => k_is); (case c33 => k_is); (case k33 => k_is); (case z1 => k_is); (case z2 => k_is); (case z3 => k_is); (case z4 => k_is); (case z5 => k_is); (case z6 => k_is); (case z7 => k_is); (case z8 => k_is); (case z9 => k_is); (case z10 => k_is); (case z11 => k_is); (case z12 => k_is); (case z13 => k_is); (case z14 => k_is); (case z15 => k_is); (case z16 => k_is)
