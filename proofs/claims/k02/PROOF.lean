import PyProof.Rows.All
import Wide.All
import OpenK.AllK
import Wide.FinOn
import HandS.Base
import HandS.Call
import HandS.List
import HandS.Comp
import HandS.Ends
import HandS.Words
import HandS.Star
import PyProof.Rows.RegFStrParts
import HandS.Zip
import KE.GoesEnum
import HandS.ForMost
import HandS.ForExc
import HandS.Codes
import HandS.Style
import HandS.TupAny
import HandS.TupMul
import HandS.Conv
import HandS.ExcInit
import HandS.ExcField
import KE.KTupSum
import KE.KExcIs
import PySem.Challenge.RW_darkdrawers_k02_drawers_merged
set_option Elab.async false
set_option linter.all false
set_option maxRecDepth 100000
namespace DD
open PySem PySem.Spec PyProof.Rows L2

/-! ### a def's promise where no repr is under way (A.guards = some []) -/
structure FnG (P : Program) (w : World) (K : PySem.W.Frag) (mg : Str → Option Value) (base : Heap) (k : Nat) (f : Addr)
    (fd : FuncData) (ps : List Str) (sp : Sp) : Prop where
  arity : ∀ vs H Q E, sp vs H Q E → vs.length = ps.length
  go : ∀ (A : Around), A.guards = some [] → Room k A → ∀ (outer : List Env) (s : Shared) (H : Hp) (args : Args) (us : List Value)
    (vs : List V) (Q : VK) (E : XK), Env0 P w K mg base A outer s H → BindsTo s fd args (ps.zip us) → Vals vs us → sp vs H Q E →
    codeAny (model P w) A (.call (.ref f) args) (CR CX0 outer P w H s Q E) s

section
variable {P : Program} {w : World} {K : PySem.W.Frag} {mg : Str → Option Value} {base : Heap} {k : Nat} {f : Addr} {fd : FuncData}
  {ps : List Str} {sp : Sp}
theorem FnG.up {j : Nat} (F : FnG P w K mg base j f fd ps sp) (h : j ≤ k) : FnG P w K mg base k f fd ps sp :=
  ⟨F.arity, fun A hg hr => F.go A hg (hr.mono h)⟩

theorem fnG_of {x qual : Str} {st : Stmt} {N : List Str} (F : Fun K x qual st f fd) (S : FnScope N ps (defScope st))
    (ar : ∀ vs H Q E, sp vs H Q E → vs.length = ps.length)
    (bd : ∀ (cdv : Value) (A : Around), A.guards = some [] → ∀ (outer : List Env) (s : Shared) (H : Hp) (vs : List V) (Q : VK) (E : XK),
      Room k (A.deeper (envOfC qual (defScope st) s.heap.objs.size f cdv)) → sp vs H Q E →
      ∃ t, PSs (cxOf CX0 P w K mg base N qual (defScope st) f cdv A outer s H E).nox (defBody st) t ∧
        t { nx := fun _ H' => Q .non H', rt := Q } (start N vs) H) : FnG P w K mg base (k + 1) f fd ps sp := by
  obtain ⟨oc, od, kV, doc, pm, an, cdv, ct, osl, rfl, lk, hcd⟩ := F.ex
  refine ⟨ar, fun A hgu hr outer s H args us vs Q E e0 hb rv hsp => ?_⟩
  have nl := ar _ _ _ _ hsp
  have kin : K.In s.heap := e0.mod.kin.keeps fun b o e => (e0.bs b o e).1
  have nolim : s.heap.NoLimit := e0.mod.nolimit.keeps fun b o e => (e0.bs b o e).1
  have kinds : ∀ y ∈ ps.zip us, (defScope st).names.lookup y.1 = some .local ∨ ((defScope st).names.lookup y.1 = some .cell ∧
      ((cellsFrom (s.heap.objs.size + 1) (defScope st).names []).lookup y.1).isSome = true) := by
    rintro ⟨n, v⟩ hy
    rcases S.par n (List.of_mem_zip hy).1 with q | q
    · exact .inl q
    · exact .inr ⟨q, PySem.W.cellsFrom_some _ _ _ (.inl q)⟩
  refine codeAny_call_function hr.depth (kin _ _ lk) rfl S.co S.gen rfl (PySem.W.codeRec_of kin hcd) (hb _ _ _ _ ?_)
  refine wpAny_newFunctionEnv_cells S.kind kinds fun env he s1 xx => ?_
  subst he
  refine ⟨nolim.keeps xx.toInCall.keep, codeAny_func ?_⟩
  obtain ⟨t, ht0, hq⟩ := bd cdv A hgu outer s H vs Q E (hr.deeper _) hsp
  have ht := ht0.nox
  have I0 := inv_start (CX := CX0) (E := E) S hr.hd e0 nl rv xx
  refine wpAny_mono (ht.run [] s1 (start N vs) H _ I0 hq) (fun fl s' hs => ?_) fun e s' hs => hs
  cases fl with
  | ret u =>
    obtain ⟨v, σ', H', J, r2, q⟩ := hs
    exact ⟨v, H', J.os, J.bare, J.base, J.hok, r2, q⟩
  | next =>
    obtain ⟨σ', H', J, q⟩ := hs
    exact ⟨V.non, H', J.os, J.bare, J.base, J.hok, rfl, q⟩
  | brk =>
    obtain ⟨_, _, _, q⟩ := hs
    exact q.elim
  | cont =>
    obtain ⟨_, _, _, q⟩ := hs
    exact q.elim
end

section
variable {X : Cx} {k : Nat} {f : Addr} {fd : FuncData} {ps : List Str} {sp : Sp} {x : Str} {p pos : Pos} {e : Expr} {es : List Expr} {t : TA}
theorem pe_callG (F : FnG X.prog X.w X.K X.mg X.base k f fd ps sp) (hgu : X.A.guards = some []) (hr : Room k X.A) (hg : Gl X x)
    (hm : X.mg x = some (.ref f)) (hk : PySem.W.keepIn X.K (.ref f) = true) (hb : Binds X.K fd ps [])
    (ha : PA X (e :: es) t) (hdb : (x == ("__debug__" : Str)) = false := by decide)
    (he : starEach (e :: es) X.env = (false, eval e X.env) :: starEach es X.env := by rfl)
    (hpl : (backTo pos (starEach es X.env)).any (·.1) = false := by rfl) :
    PE X (.Call (.Name x p) (e :: es) [] pos) (tCall sp [] E0 t) := by
  refine ⟨fun pins s σ H Q I h => wpAny_Call_Name_kw (ld_glob I hg hm ?_ hdb)⟩
  refine PySem.W.callWith_K (h₀ := X.base) I.ok.mod.kin hk
    (thn (ha.run pos pins s σ H _ I h) fun us s1 ⟨vs, H1, I1, r, q⟩ => ⟨I1.kIn, ?_⟩) he hpl
  have q : sp (vs ++ []) H1 Q E0 := q
  rw [List.append_nil] at q
  have hl : (us ++ []).length = ps.length := by rw [List.append_nil, ← r.length]; exact F.arity _ _ _ _ q
  have hbb := hb s1 us I1.kIn hl
  rw [List.append_nil] at hbb
  refine wpAny_call (codeAny_mono (F.go X.A hgu hr X.stack s1 H1 ⟨us, []⟩ us vs Q E0 I1.env0 hbb r q) fun r s' hq => ?_)
  cases r with
  | error e => exact hq.elim
  | ok fl =>
    cases fl with
    | ret u => exact I1.after hq
    | next => exact hq.elim
    | brk => exact hq.elim
    | cont => exact hq.elim
end

/-! ### repr of data -/
mutual
theorem dp_nodict {K : PySem.W.Frag} {H : Hp} : ∀ (d : PyData) (v : V), Dp K H v d → d.hasDict = false
  | .none, _, _ => rfl
  | .bool _, _, _ => rfl
  | .int _, _, _ => rfl
  | .str _, _, _ => rfl
  | .list ds, _, h => by
    cases h with
    | lst _ a => exact dps_nodict ds _ a
  | .tuple ds, _, h => by
    cases h with
    | tup _ a => exact dps_nodict ds _ a
  | .dict _, _, h => by cases h
theorem dps_nodict {K : PySem.W.Frag} {H : Hp} : ∀ (ds : List PyData) (vs : List V), DpAll K H vs ds → PyData.hasDictAll ds = false
  | [], _, _ => rfl
  | d :: ds, _, h => by
    cases h with
    | cons a b =>
      show (d.hasDict || PyData.hasDictAll ds) = false
      rw [dp_nodict d _ a, dps_nodict ds _ b]
      rfl
end

/-- data that is small: what repr and == ask of it -/
structure Sm (wt dp : Nat) (d : PyData) : Prop where
  lay : d.canLay0 = true
  short : d.intsShort 13 = true
  show_ : d.showable = true
  wt : d.weight ≤ wt
  dp : d.depth ≤ dp
structure SmA (n wt dp : Nat) (ds : List PyData) : Prop where
  len : ds.length ≤ n
  lay : PyData.canLayAll0 ds = true
  short : PyData.intsShortAll 13 ds = true
  show_ : PyData.showableAll ds = true
  wt : PyData.weightAll ds ≤ ds.length * (wt + 1)
  dp : PyData.depthAll ds ≤ dp
theorem SmA.nil {n wt dp : Nat} : SmA n wt dp [] := ⟨Nat.zero_le _, rfl, rfl, rfl, by simp [PyData.weightAll], Nat.zero_le _⟩
theorem SmA.cons {n wt dp : Nat} {d : PyData} {ds : List PyData} (a : Sm wt dp d) (b : SmA n wt dp ds) : SmA (n + 1) wt dp (d :: ds) where
  len := Nat.succ_le_succ b.len
  lay := by show (d.canLay0 && _) = true; rw [a.lay, b.lay]; rfl
  short := by show (d.intsShort 13 && _) = true; rw [a.short, b.short]; rfl
  show_ := by show (d.showable && _) = true; rw [a.show_, b.show_]; rfl
  wt := by
    have h1 := a.wt
    have h2 := b.wt
    show d.weight + 1 + PyData.weightAll ds ≤ (ds.length + 1) * (wt + 1)
    rw [Nat.succ_mul]
    omega
  dp := Nat.max_le.mpr ⟨a.dp, b.dp⟩
theorem SmA.all {wt dp : Nat} : ∀ {ds : List PyData}, (∀ d ∈ ds, Sm wt dp d) → SmA ds.length wt dp ds
  | [], _ => .nil
  | d :: ds, h => .cons (h d List.mem_cons_self) (SmA.all fun x hx => h x (List.mem_cons_of_mem _ hx))
theorem Sm.up {w1 w2 k1 k2 : Nat} {d : PyData} (a : Sm w1 k1 d) (h : w1 ≤ w2) (hk : k1 ≤ k2) : Sm w2 k2 d :=
  ⟨a.lay, a.short, a.show_, Nat.le_trans a.wt h, Nat.le_trans a.dp hk⟩
theorem SmA.len_le {n wt dp : Nat} {ds : List PyData} (b : SmA n wt dp ds) : PyData.weightAll ds ≤ n * (wt + 1) :=
  Nat.le_trans b.wt (Nat.mul_le_mul_right _ b.len)
theorem SmA.tup {n wt dp : Nat} {ds : List PyData} (b : SmA n wt dp ds) : Sm (n * (wt + 1)) (dp + 1) (.tuple ds) :=
  ⟨b.lay, b.short, b.show_, b.len_le, Nat.succ_le_succ b.dp⟩
theorem SmA.lst {n wt dp : Nat} {ds : List PyData} (b : SmA n wt dp ds) : Sm (n * (wt + 1)) (dp + 1) (.list ds) :=
  ⟨b.lay, b.short, b.show_, b.len_le, Nat.succ_le_succ b.dp⟩
theorem log2_lt_of {n : Nat} (h : n < 4096) : n.log2 ≤ 11 := by
  by_cases h0 : n = 0
  · subst h0; decide
  · have := (Nat.log2_lt h0 (k := 12)).mpr (by omega)
    omega
theorem Sm.int {i : Int} (h0 : 0 ≤ i) (h : i < 4096) : Sm 13 0 (.int i) where
  lay := rfl
  short := by
    refine decide_eq_true ?_
    have e := int_text_length_le (a := i) (k := 12) (by decide) (by have := log2_lt_of (n := i.natAbs) (by omega); omega)
    show (Str.ofString (toString i)).length ≤ 13
    rw [PySem.ofString_length]
    omega
  show_ := decide_eq_true (by have := log2_lt_of (n := i.natAbs) (by omega); omega)
  wt := by
    have := log2_lt_of (n := i.natAbs) (by omega)
    show (if i == 0 then 0 else i.natAbs.log2 + 1) ≤ 13
    split
    · omega
    · omega
  dp := Nat.le_refl _
theorem Sm.size {wt dp : Nat} {d : PyData} (a : Sm wt dp d) (h : wt ≤ 1048576) : d.shown.length ≤ sizeLine := by
  have h2 := PyData.shown_le 13 (by decide) d (PyData.leavesShort_of_canLay0 13 d a.lay a.short)
  have h3 := a.wt
  rw [sizeLine_eq]
  omega
theorem Sm.shaped {wt dp : Nat} {d : PyData} (a : Sm wt dp d) (h : dp ≤ 64) : SeqAt.shaped d = true := by
  show (d.canLay0 && decide (d.depth ≤ 64)) = true
  rw [a.lay, decide_eq_true (Nat.le_trans a.dp h)]
  rfl

/-- repr of a list or tuple of data: its text -/
theorem call_reprD {X : Cx} (hg : X.A.guards = some []) (hu : X.A.units + 66 < cLine) : CallR X (.builtin "repr") (fun xs H Q =>
    ∃ a d wt, xs = [.ref a] ∧ Dp X.K H (.ref a) d ∧ Sm wt 64 d ∧ wt ≤ 1048576 ∧ Q (.str d.shown) H) := by
  intro pins s σ H xs us Q I r h
  obtain ⟨a, d, wt, rfl, hd, sm, hw, q⟩ := h
  obtain ⟨u, rfl, ru⟩ := vals1 r
  cases ru
  obtain ⟨as, rd⟩ := Dp.reads I d _ _ hd rfl
  have hdp := sm.dp
  exact repr_of_reads' rd sm.show_ (PyData.noDict_hsm (dp_nodict d _ hd)) hg (by omega) (fun _ _ e => e)
    (fun h' u tk hk => ⟨.str d.shown, H, I.kept hk, ⟨_, rfl⟩, q⟩) (sm.size hw)
end DD
namespace DD
open PySem PySem.Spec PyProof.Rows L2

/-! ### the end of a law whose def keeps its promise where no repr is under way -/
section
variable {P : Program} {w : World} {K : PySem.W.Frag} {mg mb : Str → Option Value} {k : Nat} {fa a : Addr} {fd : FuncData} {x : Str} {sp : Sp}
  {s1 : Shared} {vs : List Value} {ns : List Int}
theorem law_goG (kin : K.In s1.heap) (nsG : s1.heap.Ns mainGlobals mg) (nsB : s1.heap.Ns builtinsNs mb)
    (blt : ∀ x : Str, x ≠ "__name__" → mb x = bootBuiltins x) (nolim : s1.heap.NoLimit) (ng : s1.gens = #[])
    (oa : s1.heap.get? a = some { cls := .type "list", data := .seq vs.toArray }) (ia : IntsAre vs ns) (len : ns.length ≤ sizeLine)
    (room : Room k callerA) (F : ∀ base : Heap, K.In base → base.Ns mainGlobals mg → FnG P w K mg base k fa fd [x] sp)
    (bind : ∀ (s : Shared) (u : Value), BindsTo s fd ⟨[u], []⟩ [(x, u)])
    (wish : ∀ H : Hp, Only H → SqL K H a (ns.map V.int) → sp [.ref a] H (fun v _ => v = .bl true) fun _ _ _ => False) :
    codeAny (model P w) callerA (.call (.ref fa) ⟨[.ref a], []⟩)
      (fun r s' => r = .ok (.ret (.bool true)) ∧ OldK s1.heap s'.heap ∧ s'.os = s1.os ∧ AllBare s'.gens) s1 := by
  have rv := vals_ints ia
  have lv := ia.length
  -- the run, from an abstract heap that tracks at most the script
  have main : ∀ H : Hp, Only H → SqL K H a (ns.map V.int) → HOk P w H s1.heap → (∀ b, H b ≠ none → b = a) → (H a ≠ none → K.lookup a = none) →
      codeAny (model P w) callerA (.call (.ref fa) ⟨[.ref a], []⟩)
        (fun r s' => r = .ok (.ret (.bool true)) ∧ OldK s1.heap s'.heap ∧ s'.os = s1.os ∧ AllBare s'.gens) s1 := by
    intro H onl hS ok only noK
    have free : ∀ {b : Addr} {o : Obj} {es : Array DictEntry} {ep : Nat}, s1.heap.get? b = some o → o.data = .dict es ep → H b = none := by
      intro b o es ep e d
      cases q : H b with
      | none => rfl
      | some u =>
        obtain rfl := only b (by rw [q]; simp)
        rw [oa] at e
        cases e
        exact nomatch (show Data.seq vs.toArray _ = Data.dict es ep from d)
    have nsOf : ∀ {b : Addr} {m : Str → Option Value}, s1.heap.Ns b m → (hidT s1.heap H).Ns b m := by
      rintro b m ⟨o, es, ep, e, d, r⟩
      exact ⟨o, es, ep, hidT_get e (free e d), d, r⟩
    have kin0 : K.In (hidT s1.heap H) := fun b o e => hidT_get (kin b o e) (by
      cases q : H b with
      | none => rfl
      | some u =>
        obtain rfl := only b (by rw [q]; simp)
        rw [noK (by rw [q]; simp)] at e
        cases e)
    obtain ⟨mc, c1, c2⟩ := nolim
    have md : Mod K mg (hidT s1.heap H) := ⟨kin0, nsOf nsG, ⟨mb, nsOf nsB, blt⟩, mc, nsOf c1, c2⟩
    have e0 : Env0 P w K mg (hidT s1.heap H) callerA [] s1 H :=
      ⟨rfl, md, fun b o e => of_hidT e, Nat.le_of_eq (hidT_size _ _), trivial, fun b z => (nomatch (show b ∈ ([] : List Addr) from z)), ok, .of_eq ng⟩
    have ran := (F _ kin0 (nsOf nsG)).go callerA rfl room [] s1 H ⟨[.ref a], []⟩ [.ref a] [.ref a] _ _ e0 (bind s1 (.ref a)) (.cons rfl .nil) (wish H onl hS)
    refine codeAny_mono ran fun r s' h => ?_
    match r, h with
    | .ok (.ret u), h =>
      obtain ⟨v, H', eos, br, un, ok', r', q⟩ := h
      obtain rfl : v = .bl true := q
      obtain rfl : u = Value.bool true := r'
      refine ⟨rfl, OldK.of_keep fun b o e => ?_, eos, br⟩
      cases q : H b with
      | none => exact un.keep b o e q (fun z => nomatch (show b ∈ ([] : List Addr) from z)) (by simp)
      | some u =>
        rcases onl b with z | ⟨ob, xs, z⟩
        · rw [q] at z
          cases z
        · have e1 := (ok b _ z).1
          rw [e] at e1
          cases e1
          exact (ok' b _ (un.frzs b _ _ z)).1
  cases hk : K.lookup a with
  | some o =>
    -- the script is one of the module's own objects
    have e := kin a o hk
    rw [oa] at e
    cases e
    have hsz : vs.toArray.size ≤ sizeLine := by
      rw [List.size_toArray, lv]
      exact len
    exact main (fun _ => none) (fun _ => .inl rfl) (.inr ⟨_, vs.toArray, _, hk, rfl, rfl, rfl, hsz, by simpa using rv⟩)
      (fun b u z => nomatch (show (none : Option HO) = some u from z)) (fun b z => absurd rfl z) fun z => absurd rfl z
  | none =>
    let fr : HO := .frz { cls := .type "list", data := .seq vs.toArray } (.lst (ns.map V.int))
    have at_ : (fun b => if b = a then some fr else none : Hp) a = some fr := if_pos rfl
    have else_ : ∀ b, b ≠ a → (fun b => if b = a then some fr else none : Hp) b = none := fun b hb => if_neg hb
    refine main (fun b => if b = a then some fr else none) (fun b => ?_) (.inl (.inr ⟨_, at_⟩)) (fun b u z => ?_) (fun b z => ?_) fun _ => hk
    · by_cases hb : b = a
      · exact .inr ⟨_, _, if_pos hb⟩
      · exact .inl (else_ b hb)
    · by_cases hb : b = a
      · subst hb
        cases at_.symm.trans z
        exact ⟨oa, by rw [List.length_map]; exact len, vs, _, rv, oa⟩
      · exact nomatch (else_ b hb).symm.trans z
    · by_cases hb : b = a
      · exact hb
      · exact absurd (else_ b hb) z
end

theorem walk_ofG {l : PySem.W.OpenLaw} {n k : Nat} {q : Program} {loose : List Str} {XP : (Str → Option Value) → Heap → Prop} {YP : World → Heap → Prop}
    {d : DefRec} {K : Params → PySem.W.Frag} {sp : World → Sp} {x : Str} (most : l.most = some n) (n_le : n ≤ sizeLine) (nodef : d.params.defaults = [])
    (room : Room k callerA) (kin : ∀ (w : World) (h : Heap), YP w h → (K w.params).In h)
    (F : ∀ (w : World) (mg : Str → Option Value) (fa : Addr) (h : Heap), (K w.params).In h → h.Ns mainGlobals mg → mg d.name = some (.ref fa) →
      ∃ fd : FuncData, (∀ (s : Shared) (u : Value), BindsTo s fd ⟨[u], []⟩ [(x, u)]) ∧
        ∀ base : Heap, (K w.params).In base → base.Ns mainGlobals mg → FnG l.prog w (K w.params) mg base k fa fd [x] (sp w))
    (wish : ∀ (w : World) (H : Hp) (a : Addr) (ns : List Int), ns.length ≤ n → Only H → SqL (K w.params) H a (ns.map V.int) →
      sp w [.ref a] H (fun v _ => v = .bl true) fun _ _ _ => False) :
    PySem.W.WalkO q loose XP YP l.row.toRowW d [] (fun f vs => PySem.call f vs) := by
  refine Att.attach_call most nodef fun w s0 s1 mg mb fa o pm cd doc a vs ns G Y ho hd hcd hmg hobj hints hlen hg => ?_
  obtain ⟨fd, hb, hF⟩ := F w mg fa _ (kin w _ Y) G.T.g hmg
  exact law_goG (kin w _ Y) G.T.g G.T.b G.T.builtins G.T.nolimit hg hobj hints (Nat.le_trans hlen n_le) room hF hb
    fun H hO hS => wish w H a ns hlen hO hS
end DD
namespace DD
open PySem PySem.Spec PyProof.Rows L2
section
variable {M : Model} {A : Around} {E : Value → Shared → Prop}
theorem wp_forIn {α β : Type} (f : α → β → Sem (ForInStep β)) : ∀ (l : List α) (J : Nat → β → Shared → Prop),
    (∀ j x b s, l[j]? = some x → J j b s → wpAny M A (f x b) (fun r s' => ∃ b', r = .yield b' ∧ J (j + 1) b' s') E s) →
    ∀ (b : β) (s : Shared), J 0 b s → wpAny M A (forIn l b f) (fun b' s' => J l.length b' s') E s
  | [], J, step, b, s, h => by
    rw [List.forIn_nil]
    exact wpAny_pure h
  | x :: l, J, step, b, s, h => by
    rw [List.forIn_cons]
    refine wpAny_bind (wpAny_mono (step 0 x b s rfl h) (fun r s' hr => ?_) (fun _ _ e => e))
    obtain ⟨b', rfl, hJ⟩ := hr
    exact wp_forIn f l (fun j => J (j + 1)) (fun j y c s'' e hj => step (j + 1) y c s'' e hj) b' s' hJ
end

abbrev zObj (f0 f1 : Value) (TI TO : Addr) : Obj :=
  { cls := .type "zip", dict := none, data := .fields #[f0, f1, .bool false, .ref TI, .ref TO], slots := #[] }
abbrev tObj (vs : Array Value) : Obj := { cls := .type "tuple", data := .seq vs }
structure ZApart (z TI TO : Addr) (ps : List (Addr × Addr)) : Prop where
  tz : TI ≠ z
  oz : TO ≠ z
  it : TI ≠ TO
  nd : (ps.map (·.1)).Nodup
  pz : ∀ p ∈ ps, p.1 ≠ z ∧ p.1 ≠ TI ∧ p.1 ≠ TO ∧ p.2 ≠ z ∧ p.2 ≠ TO
  px : ∀ p ∈ ps, ∀ q ∈ ps, p.2 ≠ q.1
structure ZSt (h : Heap) (z TI TO : Addr) (ps : List (Addr × Addr)) (k : Nat) : Prop where
  zz : ∃ f0 f1, h.get? z = some (zObj f0 f1 TI TO) ∧ (f0 = .none ∨ ∃ a t, f0 = .int a t)
  ti : h.get? TI = some (tObj (ps.map fun p => Value.ref p.1).toArray)
  to : ∃ arr : Array Value, arr.size = ps.length ∧ h.get? TO = some (tObj arr)
  its : ∀ p ∈ ps, h.IsTupleIter p.1 p.2 k


/-- the objects but z, TO and the iterators stand; the first j iterators have turned -/
structure ZMid (g h : Heap) (z TO : Addr) (ps : List (Addr × Addr)) (k j : Nat) : Prop where
  size : h.objs.size = g.objs.size
  keep : ∀ c o, c ≠ z → c ≠ TO → (∀ p ∈ ps, c ≠ p.1) → g.get? c = some o → h.get? c = some o
  its : ∀ (i : Nat) (p : Addr × Addr), ps[i]? = some p → h.IsTupleIter p.1 p.2 (if i < j then k + 1 else k)

section
variable {prog : Program} {w : World} {A : Around} {E : Value → Shared → Prop} {s : Shared} {z TI TO : Addr} {ps : List (Addr × Addr)} {k : Nat}
theorem wp_alive {M : Model} {a : Addr} {Q : Option Obj → Shared → Prop} (h : Q (s.heap.get? a) s) : wpAny M A (loadIfAlive a) Q E s := fun _ _ _ => h
theorem ptr_ne {ps : List (Addr × Addr)} (nd : (ps.map (·.1)).Nodup) {i j : Nat} {p q : Addr × Addr} (hp : ps[i]? = some p) (hq : ps[j]? = some q) (h : i ≠ j) : p.1 ≠ q.1 := by
  intro e
  have e1 : (ps.map (·.1))[i]? = some p.1 := by rw [List.getElem?_map, hp] <;> rfl
  have e2 : (ps.map (·.1))[j]? = some p.1 := by rw [List.getElem?_map, hq, e] <;> rfl
  obtain ⟨l1, g1⟩ := List.getElem?_eq_some_iff.mp e1
  obtain ⟨l2, g2⟩ := List.getElem?_eq_some_iff.mp e2
  exact h ((List.getElem_inj nd).mp (g1.trans g2.symm))
theorem free_or {f0 f1 : Value} (hz : s.heap.get? z = some (zObj f0 f1 TI TO)) (hf0 : f0 = .none ∨ ∃ a t, f0 = .int a t) :
    wpAny (model prog w) A (Builtin.SmallTypes.ownedTupleIsFree (.ref z)) (fun b s' => (b = true ∧ s' = s) ∨
      (b = false ∧ ∃ h' f2, s' = { s with heap := h' } ∧ h'.get? z = some (zObj f0 f2 TI TO) ∧ Heap.SameBut z s.heap h')) E s := by
  unfold Builtin.SmallTypes.ownedTupleIsFree
  refine wpAny_bind (wpAny_field hz rfl (x := f0) rfl ?_)
  rcases hf0 with rfl | ⟨a, t, rfl⟩
  · exact wpAny_pure (.inl ⟨rfl, rfl⟩)
  · refine wpAny_bind (wp_alive ?_)
    cases ha : s.heap.get? a.toNat with
    | none => exact wpAny_pure (.inl ⟨rfl, rfl⟩)
    | some o =>
      simp only [Option.isNone_some, Bool.false_eq_true, if_false]
      refine wpAny_bind (wpAny_field hz rfl (x := f1) rfl ?_)
      by_cases hb : (f1 != Value.bool true) = true
      · rw [if_pos hb]
        refine wpAny_bind (wpAny_setField_rec hz (by simp) fun h1 hz1 hs1 => wpAny_pure (.inr ⟨rfl, h1, .bool true, rfl, hz1, hs1⟩))
      · rw [if_neg hb]
        exact wpAny_pure (.inr ⟨rfl, s.heap, f1, rfl, hz, Heap.SameBut.refl _ _⟩)
/-- one iterator's turn -/
theorem draw_one {g h : Heap} {j : Nat} {p : Addr × Addr} {xs : Array Value} {v : Value} {Q : Value → Shared → Prop} (D : ZApart z TI TO ps) (m : ZMid g h z TO ps k j)
    (hp : ps[j]? = some p) (hl : g.IsTuple p.2 xs) (hx : xs[k]? = some v)
    (hQ : ∀ h', ZMid g h' z TO ps k (j + 1) → Heap.SameBut p.1 h h' → Q v { s with heap := h' }) :
    wpAny (model prog w) A (Builtin.SmallTypes.nextOf (.ref p.1)) Q E { s with heap := h } := by
  have hm : p ∈ ps := List.mem_of_getElem? hp
  have h1 : h.IsTupleIter p.1 p.2 k := by
    have := m.its j p hp
    rwa [if_neg (Nat.lt_irrefl j)] at this
  have h2 : h.IsTuple p.2 xs := by
    obtain ⟨o, e, c⟩ := hl
    exact ⟨o, m.keep _ _ (D.pz p hm).2.2.2.1 (D.pz p hm).2.2.2.2 (fun q hq => D.px p hm q hq) e, c⟩
  refine RZ.nextOf_tuple_item (s := { s with heap := h }) h1 h2 hx fun h' hi hs => hQ h' ⟨hs.1.trans m.size, fun c o c1 c2 c3 e => ?_, fun i q hq => ?_⟩ hs
  · rw [hs.2 c (c3 p hm)]
    exact m.keep c o c1 c2 c3 e
  · by_cases hij : i = j
    · subst hij
      rw [hp] at hq
      cases hq
      rw [if_pos (Nat.lt_succ_self _)]
      exact hi
    · have hqi := m.its i q hq
      have hne := ptr_ne D.nd hq hp hij
      rw [show (if i < j + 1 then k + 1 else k) = (if i < j then k + 1 else k) by
        by_cases hlt : i < j
        · rw [if_pos hlt, if_pos (by omega)]
        · rw [if_neg hlt, if_neg (by omega)]]
      obtain ⟨o, e, c⟩ := hqi
      exact ⟨o, (hs.2 _ hne).trans e, c⟩
theorem ZMid.full {g h : Heap} (m : ZMid g h z TO ps k ps.length) : ∀ p ∈ ps, h.IsTupleIter p.1 p.2 (k + 1) := fun p hp => by
  obtain ⟨i, hi⟩ := List.mem_iff_getElem?.mp hp
  obtain ⟨hl, _⟩ := List.getElem?_eq_some_iff.mp hi
  have := m.its i p hi
  rwa [if_pos hl] at this

theorem zn_item {vs : List Value} {Q : Value → Shared → Prop} (D : ZApart z TI TO ps) (hn : 1 ≤ ps.length) (hn2 : ps.length ≤ 1000) (S : ZSt s.heap z TI TO ps k)
    (hv : vs.length = ps.length) (hi : ∀ (j : Nat) (p : Addr × Addr), ps[j]? = some p → ∃ xs, s.heap.IsTuple p.2 xs ∧ xs[k]? = vs[j]?)
    (hQ : ∀ h', ZSt h' z TI TO ps (k + 1) → h'.get? s.heap.objs.size = some (tObj vs.toArray) → h'.objs.size = s.heap.objs.size + 1 →
      (∀ c o, c ≠ z → c ≠ TO → (∀ p ∈ ps, c ≠ p.1) → s.heap.get? c = some o → h'.get? c = some o) → Q (.ref s.heap.objs.size) { s with heap := h' }) :
    wpAny (model prog w) A (Builtin.«zip.__next__» ⟨[.ref z], []⟩) (fun fin s' => ∃ v, fin = .done (.ret v) ∧ Q v s') E s := by
  obtain ⟨⟨f0, f1, hz, hf0⟩, hTI, ⟨arr, ha, hTO⟩, hits⟩ := S
  show wpAny _ _ (field (.ref z) 2 >>= _) _ _ _
  refine wpAny_bind (wpAny_field hz rfl (x := .bool false) rfl ?_)
  show wpAny _ _ (field (.ref z) 3 >>= _) _ _ _
  refine wpAny_bind (wpAny_field hz rfl (x := .ref TI) rfl ?_)
  refine wpAny_bind (wpAny_seqItems hTI rfl ?_)
  have hne : (ps.map fun p => Value.ref p.1).toArray.isEmpty = false := by
    cases ps with
    | nil => simp at hn
    | cons p r => rfl
  simp only [hne, Bool.false_eq_true, if_false]
  have m0 : ∀ h, Heap.SameBut z s.heap h → ZMid s.heap h z TO ps k 0 := fun h hs =>
    ⟨hs.1, fun c o c1 _ _ e => (hs.2 c c1).trans e, fun i p hp => by
      rw [if_neg (Nat.not_lt_zero _)]
      have hm := List.mem_of_getElem? hp
      obtain ⟨o, e, c⟩ := hits p hm
      exact ⟨o, (hs.2 _ (D.pz p hm).1).trans e, c⟩⟩
  refine wpAny_bind (wpAny_mono (free_or hz hf0) (fun b s' hb => ?_) fun _ _ e => e)
  rcases hb with ⟨rfl, rfl⟩ | ⟨rfl, h1, f2, rfl, hz1, hs1⟩
  · simp only [if_true]
    refine wpAny_bind (wpAny_rule ?_)
    refine wpAny_bind (wpAny_field hz rfl (x := .ref TO) rfl ?_)
    refine wpAny_bind (wpAny_setField_rec hz (by simp) fun h1 hz1 hs1 => ?_)
    replace hz1 : h1.get? z = some (zObj .ellipsis f1 TI TO) := hz1
    have nTI : ∀ p ∈ ps, TI ≠ p.1 := fun p hp q => (D.pz p hp).2.1 q.symm
    refine wpAny_bind (thn (wp_forIn _ _ (fun j b s2 => b = (none, ()) ∧ ∃ (h : Heap) (a2 : Array Value), s2 = { s' with heap := h } ∧ ZMid s'.heap h z TO ps k j ∧
      h.get? z = some (zObj .ellipsis f1 TI TO) ∧ a2.size = ps.length ∧ (∀ i, i < j → a2[i]? = vs[i]?) ∧ h.get? TO = some (tObj a2)) ?step _ _ ?init) fun b s2 hb => ?last)
    case init => exact ⟨rfl, h1, arr, rfl, m0 h1 hs1, hz1, ha, fun i hi => absurd hi (Nat.not_lt_zero _), (hs1.2 _ D.oz).trans hTO⟩
    case step =>
      rintro j x b s2 hx ⟨rfl, h, a2, rfl, m, hz2, hs2, pre, hTO2⟩
      rw [List.getElem?_zipIdx, List.getElem?_map] at hx
      cases hp : ps[j]? with
      | none =>
        rw [hp] at hx
        cases hx
      | some p =>
        rw [hp] at hx
        obtain rfl : (Value.ref p.1, 0 + j) = x := Option.some.inj hx
        obtain ⟨xs, hl, hxk⟩ := hi j p hp
        have hm : p ∈ ps := List.mem_of_getElem? hp
        have hj : j < ps.length := (List.getElem?_eq_some_iff.mp hp).1
        have hjv : vs[j]? = some (vs[j]'(by omega)) := List.getElem?_eq_getElem (by omega)
        refine wpAny_bind (wpAny_onRaise ?_)
        show wpAny _ _ (Builtin.SmallTypes.nextOf (.ref p.1) >>= _) _ _ _
        refine wpAny_bind (draw_one D m hp hl (hxk.trans hjv) fun h' m' hs' => wpAny_pure ?_)
        have hTO' : h'.get? TO = some (tObj a2) := (hs'.2 _ (D.pz p hm).2.2.1.symm).trans hTO2
        refine wpAny_bind (wpAny_seqItems hTO' rfl ?_)
        have hb1 : a2.size ≤ sizeLine := by rw [hs2, sizeLine_eq]; omega
        refine wpAny_bind (wpAny_updateSeq hTO' rfl ?_ hb1 (by rw [Array.size_setIfInBounds, hs2, sizeLine_eq]; omega))
        have sb := Heap.SameBut.update h' TO (Obj.mapSeq fun x => x.setIfInBounds (0 + j) (vs[j]'(by omega)))
        refine wpAny_bind (wpAny_letGo (wpAny_pure ⟨_, rfl, rfl, _, a2.setIfInBounds j (vs[j]'(by omega)), rfl, ⟨sb.1.trans m'.size, fun c o c1 c2 c3 e => (sb.2 c c2).trans (m'.keep c o c1 c2 c3 e), fun i q hq => ?_⟩, ?_, ?_, fun i hij => ?_, ?_⟩))
        · obtain ⟨o, e, c⟩ := m'.its i q hq
          exact ⟨o, (sb.2 _ (D.pz q (List.mem_of_getElem? hq)).2.2.1).trans e, c⟩
        · rw [sb.2 z D.oz.symm, hs'.2 z (D.pz p hm).1.symm]
          exact hz2
        · rw [Array.size_setIfInBounds]
          exact hs2
        · rw [Array.getElem?_setIfInBounds]
          by_cases e : j = i
          · subst e
            rw [if_pos rfl, if_pos (by omega)]
            exact hjv.symm
          · rw [if_neg e]
            exact pre i (by omega)
        · rw [Heap.get?_update_self _ hTO' rfl, Nat.zero_add]
          simp [Obj.mapSeq]
    case last =>
      obtain ⟨rfl, h, a2, rfl, m, hz2, hs2, pre, hTO2⟩ := hb
      rw [List.length_zipIdx, List.length_map] at m pre
      have ea : a2 = vs.toArray := by
        refine Array.ext_getElem? fun i => ?_
        by_cases hlt : i < ps.length
        · rw [pre i hlt, List.getElem?_toArray]
        · rw [Array.getElem?_eq_none (by omega), List.getElem?_toArray, List.getElem?_eq_none (by omega)]
      subst ea
      show wpAny _ _ (seqItems? (.ref TO) >>= _) _ _ _
      refine wpAny_bind (wpAny_seqItems hTO2 rfl ?_)
      refine wpAny_bind (wpAny_newTuple ?_ (by show vs.length ≤ _; rw [sizeLine_eq]; omega))
      show wpAny _ _ (Builtin.SmallTypes.ownedTupleHandOut (.ref z) (.ref h.objs.size) >>= _) _ _ _
      refine wpAny_bind ?_
      unfold Builtin.SmallTypes.ownedTupleHandOut
      have hzp : (h.push (tObj vs.toArray)).get? z = some (zObj .ellipsis f1 TI TO) := Heap.get?_push_of_some _ hz2
      refine wpAny_bind (wpAny_setField_rec hzp (by simp) fun h3 hz3 hs3 => ?_)
      replace hz3 : h3.get? z = some (zObj (rawInt h.objs.size) f1 TI TO) := hz3
      refine wpAny_setField_rec hz3 (by simp) fun h4 hz4 hs4 => ?_
      replace hz4 : h4.get? z = some (zObj (rawInt h.objs.size) (.bool false) TI TO) := hz4
      have hzlt : z < h.objs.size := Heap.lt_size hz2
      have up : ∀ c o, c ≠ z → h.get? c = some o → h4.get? c = some o := fun c o c1 e =>
        (hs4.2 c c1).trans ((hs3.2 c c1).trans (Heap.get?_push_of_some _ e))
      refine wpAny_pure ⟨_, rfl, ?_⟩
      show Q (.ref h.objs.size) _
      have key := hQ h4 ⟨⟨_, _, hz4, .inr ⟨_, _, rfl⟩⟩, up _ _ D.tz (m.keep TI _ D.tz D.it nTI hTI), ⟨_, hs2, up _ _ D.oz hTO2⟩, fun p hp => ?_⟩ ?_ ?_ fun c o c1 c2 c3 e => up c o c1 (m.keep c o c1 c2 c3 e)
      · rw [m.size]
        exact key
      · obtain ⟨o, e, c⟩ := m.full p hp
        exact ⟨o, up _ _ (D.pz p hp).1 e, c⟩
      · rw [← m.size, hs4.2 _ (Nat.ne_of_gt hzlt), hs3.2 _ (Nat.ne_of_gt hzlt)]
        exact Heap.get?_push_size _ rfl
      · rw [hs4.1, hs3.1, Heap.size_push, m.size]
  · simp only [Bool.false_eq_true, if_false, List.forIn_toArray]
    have nTI : ∀ p ∈ ps, TI ≠ p.1 := fun p hp q => (D.pz p hp).2.1 q.symm
    refine wpAny_bind (thn (wp_forIn _ _ (fun j b s2 => b = (none, (vs.take j).toArray) ∧ ∃ (h : Heap), s2 = { s with heap := h } ∧ ZMid s.heap h z TO ps k j ∧
      h.get? z = some (zObj f0 f2 TI TO) ∧ h.get? TO = some (tObj arr)) ?step _ _ ?init) fun b s2 hb => ?last)
    case init => exact ⟨rfl, h1, rfl, m0 h1 hs1, hz1, (hs1.2 _ D.oz).trans hTO⟩
    case step =>
      rintro j x b s2 hx ⟨rfl, h, rfl, m, hz2, hTO2⟩
      rw [List.getElem?_map] at hx
      cases hp : ps[j]? with
      | none =>
        rw [hp] at hx
        cases hx
      | some p =>
        rw [hp] at hx
        obtain rfl : Value.ref p.1 = x := Option.some.inj hx
        obtain ⟨xs, hl, hxk⟩ := hi j p hp
        have hm : p ∈ ps := List.mem_of_getElem? hp
        have hj : j < ps.length := (List.getElem?_eq_some_iff.mp hp).1
        have hjv : vs[j]? = some (vs[j]'(by omega)) := List.getElem?_eq_getElem (by omega)
        refine wpAny_bind (wpAny_holding ?_)
        show wpAny _ _ (Builtin.SmallTypes.nextOf (.ref p.1) >>= _) _ _ _
        refine wpAny_bind (draw_one D m hp hl (hxk.trans hjv) fun h' m' hs' => wpAny_pure (wpAny_pure ⟨_, rfl, ?_, h', rfl, m', ?_, ?_⟩))
        · rw [List.take_add_one, hjv]
          simp
        · exact (hs'.2 z (D.pz p hm).1.symm).trans hz2
        · exact (hs'.2 _ (D.pz p hm).2.2.1.symm).trans hTO2
    case last =>
      obtain ⟨rfl, h, rfl, m, hz2, hTO2⟩ := hb
      rw [List.length_map] at m
      rw [List.length_map, List.take_of_length_le (by omega)]
      have hsz : vs.length ≤ sizeLine := by rw [sizeLine_eq]; omega
      show wpAny _ _ (newTuple vs.toArray.toList >>= _) _ _ _
      refine wpAny_bind (wpAny_newTuple ?_ (by simpa using hsz))
      refine wpAny_pure ⟨_, rfl, ?_⟩
      have up : ∀ c o, h.get? c = some o → (h.push (tObj vs.toArray)).get? c = some o := fun c o e => Heap.get?_push_of_some _ e
      have key := hQ (h.push (tObj vs.toArray)) ⟨⟨_, _, up _ _ hz2, hf0⟩, up _ _ (m.keep TI _ D.tz D.it nTI hTI), ⟨_, ha, up _ _ hTO2⟩, fun p hp => ?_⟩ ?_ ?_ fun c o c1 c2 c3 e => up c o (m.keep c o c1 c2 c3 e)
      · show Q (.ref h.objs.size) _
        rw [m.size]
        exact key
      · obtain ⟨o, e, c⟩ := m.full p hp
        exact ⟨o, up _ _ e, c⟩
      · rw [← m.size]
        exact Heap.get?_push_size _ rfl
      · rw [Heap.size_push, m.size]
end
end DD
namespace DD
open PySem PySem.Spec PyProof.Rows L2
section
variable {prog : Program} {w : World} {A : Around} {E : Value → Shared → Prop} {s : Shared} {z TI TO : Addr} {ps : List (Addr × Addr)} {k : Nat}
theorem zn_end {Q : Fin → Shared → Prop} (hh : A.handled = none) (D : ZApart z TI TO ps) (S : ZSt s.heap z TI TO ps k) {p : Addr × Addr} {r : List (Addr × Addr)} {xs : Array Value}
    (hps : ps = p :: r) (hl : s.heap.IsTuple p.2 xs) (hx : xs[k]? = none)
    (hE : ∀ h' e, (∀ c o, c ≠ z → c ≠ TO → (∀ p ∈ ps, c ≠ p.1) → s.heap.get? c = some o → h'.get? c = some o) →
      (∃ o, h'.get? e = some o ∧ o.cls = .type "StopIteration") → E (.ref e) { s with heap := h' }) :
    wpAny (model prog w) A (Builtin.«zip.__next__» ⟨[.ref z], []⟩) Q E s := by
  obtain ⟨⟨f0, f1, hz, hf0⟩, hTI, ⟨arr, ha, hTO⟩, hits⟩ := S
  have hm : p ∈ ps := by rw [hps]; exact List.mem_cons_self
  show wpAny _ _ (field (.ref z) 2 >>= _) _ _ _
  refine wpAny_bind (wpAny_field hz rfl (x := .bool false) rfl ?_)
  show wpAny _ _ (field (.ref z) 3 >>= _) _ _ _
  refine wpAny_bind (wpAny_field hz rfl (x := .ref TI) rfl ?_)
  refine wpAny_bind (wpAny_seqItems hTI rfl ?_)
  have hne : (ps.map fun p => Value.ref p.1).toArray.isEmpty = false := by
    rw [hps]
    rfl
  simp only [hne, Bool.false_eq_true, if_false]
  have it1 := hits p hm
  have kz : ∀ h1, Heap.SameBut z s.heap h1 → h1.IsTupleIter p.1 p.2 k ∧ h1.IsTuple p.2 xs := fun h1 hs1 =>
    ⟨by obtain ⟨o, e, c⟩ := it1; exact ⟨o, (hs1.2 _ (D.pz p hm).1).trans e, c⟩, by obtain ⟨o, e, c⟩ := hl; exact ⟨o, (hs1.2 _ (D.pz p hm).2.2.2.1).trans e, c⟩⟩
  refine wpAny_bind (wpAny_mono (free_or hz hf0) (fun b s' hb => ?_) fun _ _ e => e)
  rcases hb with ⟨rfl, rfl⟩ | ⟨rfl, h1, f2, rfl, hz1, hs1⟩
  · simp only [if_true]
    refine wpAny_bind (wpAny_rule ?_)
    refine wpAny_bind (wpAny_field hz rfl (x := .ref TO) rfl ?_)
    refine wpAny_bind (wpAny_setField_rec hz (by simp) fun h1 hz1 hs1 => ?_)
    replace hz1 : h1.get? z = some (zObj .ellipsis f1 TI TO) := hz1
    obtain ⟨q1, q2⟩ := kz h1 hs1
    refine wpAny_bind ?_
    simp only [hps, List.map_cons, List.zipIdx_cons, List.forIn_cons]
    refine wpAny_bind (wpAny_bind (wpAny_onRaise ?_))
    show wpAny _ _ (Builtin.SmallTypes.nextOf (.ref p.1) >>= _) _ _ _
    refine wpAny_bind (RZ.nextOf_tuple_end (s := { s' with heap := h1 }) hh q1 q2 hx fun h2 e hs2 he => ?_)
    obtain ⟨oe, hoe, hce⟩ := he
    have hz2 : h2.get? z = some (zObj .ellipsis f1 TI TO) := hs2 _ _ (D.pz p hm).1.symm hz1
    have hez : e ≠ z := fun x => by
      subst x
      rw [hz2] at hoe
      cases hoe
      simp at hce
    refine wpAny_setField_rec hz2 (by simp) fun h3 _ hs3 => hE h3 e (fun c o c1 _ c3 x => (hs3.2 _ c1).trans (hs2 _ _ (c3 p hm) ((hs1.2 _ c1).trans x))) ⟨oe, (hs3.2 _ hez).trans hoe, hce⟩
  · simp only [Bool.false_eq_true, if_false, List.forIn_toArray]
    obtain ⟨q1, q2⟩ := kz h1 hs1
    refine wpAny_bind ?_
    simp only [hps, List.map_cons, List.forIn_cons]
    refine wpAny_bind (wpAny_bind (wpAny_holding ?_))
    show wpAny _ _ (Builtin.SmallTypes.nextOf (.ref p.1) >>= _) _ _ _
    refine wpAny_bind (RZ.nextOf_tuple_end (s := { s with heap := h1 }) hh q1 q2 hx fun h2 e hs2 he => hE h2 e (fun c o c1 _ c3 x => hs2 _ _ (c3 p hm) ((hs1.2 _ c1).trans x)) he)

theorem pyNext_zn_item {vs : List Value} {Q : Option Value → Shared → Prop} (D : ZApart z TI TO ps) (hn : 1 ≤ ps.length) (hn2 : ps.length ≤ 1000) (S : ZSt s.heap z TI TO ps k)
    (hv : vs.length = ps.length) (hi : ∀ (j : Nat) (p : Addr × Addr), ps[j]? = some p → ∃ xs, s.heap.IsTuple p.2 xs ∧ xs[k]? = vs[j]?)
    (hQ : ∀ h', ZSt h' z TI TO ps (k + 1) → h'.get? s.heap.objs.size = some (tObj vs.toArray) → h'.objs.size = s.heap.objs.size + 1 →
      (∀ c o, c ≠ z → c ≠ TO → (∀ p ∈ ps, c ≠ p.1) → s.heap.get? c = some o → h'.get? c = some o) → Q (some (.ref s.heap.objs.size)) { s with heap := h' }) :
    wpAny (model prog w) A (pyNext (.ref z)) Q E s := by
  obtain ⟨f0, f1, hz, hf0⟩ := S.zz
  have hT : s.TypeIs (.ref z) "zip" := ⟨_, hz, rfl⟩
  unfold pyNext
  exact wpAny_bind (wpAny_attempt (wpAny_callSpecial?_slot (name := Str.ofString "__next__") hT F.slot_zip_next
    (wpAny_call_entry F.slot_zip_next hT F.entry_zip_next (zn_item D hn hn2 S hv hi fun h' a1 a2 a3 a4 => wpAny_pure (hQ h' a1 a2 a3 a4)) (F.args_zip_next_1 _))))
theorem pyNext_zn_end {Q : Option Value → Shared → Prop} (hh : A.handled = none) (D : ZApart z TI TO ps) (S : ZSt s.heap z TI TO ps k) {p : Addr × Addr} {r : List (Addr × Addr)} {xs : Array Value}
    (hps : ps = p :: r) (hl : s.heap.IsTuple p.2 xs) (hx : xs[k]? = none)
    (hQ : ∀ h', (∀ c o, c ≠ z → c ≠ TO → (∀ p ∈ ps, c ≠ p.1) → s.heap.get? c = some o → h'.get? c = some o) → Q none { s with heap := h' }) :
    wpAny (model prog w) A (pyNext (.ref z)) Q E s := by
  obtain ⟨f0, f1, hz, hf0⟩ := S.zz
  have hT : s.TypeIs (.ref z) "zip" := ⟨_, hz, rfl⟩
  unfold pyNext
  refine wpAny_bind (wpAny_attempt (wpAny_callSpecial?_slot (name := Str.ofString "__next__") hT F.slot_zip_next
    (wpAny_call_entry F.slot_zip_next hT F.entry_zip_next (zn_end hh D S hps hl hx fun h' e hk he => ?_) (F.args_zip_next_1 _))))
  obtain ⟨o, ho, hc⟩ := he
  exact wpAny_bind (wpAny_isInstance (T := "StopIteration") (b := true) ⟨o, ho, hc⟩ isSubtype_stop (wpAny_pure (hQ _ hk)))

/-! ### zip of one to four tuples made -/
theorem typeCall_zipN : ∀ vs : List Value, 1 ≤ vs.length → vs.length ≤ 4 → checkTypeCall "zip" ⟨vs, []⟩ = pure ()
  | [a], _, _ => by kernel_rfl
  | [a, b], _, _ => by kernel_rfl
  | [a, b, c], _, _ => by kernel_rfl
  | [a, b, c, d], _, _ => by kernel_rfl
  | [], h, _ => by simp at h
  | _ :: _ :: _ :: _ :: _ :: _, _, h => by simp at h
theorem newCall_zipN : ∀ vs : List Value, 1 ≤ vs.length → vs.length ≤ 4 → checkBuiltinCall "zip.__new__" ⟨.type "zip" :: vs, []⟩ = pure ()
  | [a], _, _ => by kernel_rfl
  | [a, b], _, _ => by kernel_rfl
  | [a, b, c], _, _ => by kernel_rfl
  | [a, b, c, d], _, _ => by kernel_rfl
  | [], h, _ => by simp at h
  | _ :: _ :: _ :: _ :: _ :: _, _, h => by simp at h
theorem args_object_initN (o : Value) : ∀ vs : List Value, 1 ≤ vs.length → vs.length ≤ 4 → argsOk "object.__init__" ⟨o :: vs, []⟩
  | [a], _, _ => by
    unfold argsOk
    rw [signature?_of (id := "object.__init__") (n := ['_', '_', 't', 'i', 'n', 'i', '_', '_']) (o := ['t', 'c', 'e', 'j', 'b', 'o']) (by kernel_rfl) F.owner_object]
    kernel_rfl
  | [a, b], _, _ => by
    unfold argsOk
    rw [signature?_of (id := "object.__init__") (n := ['_', '_', 't', 'i', 'n', 'i', '_', '_']) (o := ['t', 'c', 'e', 'j', 'b', 'o']) (by kernel_rfl) F.owner_object]
    kernel_rfl
  | [a, b, c], _, _ => by
    unfold argsOk
    rw [signature?_of (id := "object.__init__") (n := ['_', '_', 't', 'i', 'n', 'i', '_', '_']) (o := ['t', 'c', 'e', 'j', 'b', 'o']) (by kernel_rfl) F.owner_object]
    kernel_rfl
  | [a, b, c, d], _, _ => by
    unfold argsOk
    rw [signature?_of (id := "object.__init__") (n := ['_', '_', 't', 'i', 'n', 'i', '_', '_']) (o := ['t', 'c', 'e', 'j', 'b', 'o']) (by kernel_rfl) F.owner_object]
    kernel_rfl
  | [], h, _ => by simp at h
  | _ :: _ :: _ :: _ :: _ :: _, _, h => by simp at h

theorem iterAll_tups {ls : List Addr} {Q : List Value → Shared → Prop} (hl : ∀ l ∈ ls, ∃ xs, s.heap.IsTuple l xs)
    (hQ : ∀ h' its, its.length = ls.length → (∀ i, i < ls.length → its[i]? = some (.ref (s.heap.objs.size + i))) → h'.objs.size = s.heap.objs.size + ls.length →
      (∀ c o, s.heap.get? c = some o → h'.get? c = some o) → (∀ (i : Nat) (l : Addr), ls[i]? = some l → h'.IsTupleIter (s.heap.objs.size + i) l 0) → Q its { s with heap := h' }) :
    wpAny (model prog w) A (Builtin.SmallTypes.iterAll (ls.map Value.ref)) Q E s := by
  unfold Builtin.SmallTypes.iterAll
  refine wpAny_bind (thn (wp_forIn _ _ (fun j (b : Array Value) s2 => b.size = j ∧ (∀ i, i < j → b[i]? = some (.ref (s.heap.objs.size + i))) ∧ ∃ h, s2 = { s with heap := h } ∧ h.objs.size = s.heap.objs.size + j ∧
    (∀ c o, s.heap.get? c = some o → h.get? c = some o) ∧ ∀ (i : Nat) (l : Addr), i < j → ls[i]? = some l → h.IsTupleIter (s.heap.objs.size + i) l 0) ?step _ _ ?init) fun b s2 hb => ?last)
  case init => exact ⟨rfl, fun i hi => absurd hi (Nat.not_lt_zero _), s.heap, rfl, rfl, fun _ _ e => e, fun i _ hi => absurd hi (Nat.not_lt_zero _)⟩
  case step =>
    rintro j x b s2 hx ⟨hbs, hb, h, rfl, hsz, hk, hit⟩
    rw [List.getElem?_map] at hx
    cases hp : ls[j]? with
    | none =>
      rw [hp] at hx
      cases hx
    | some l =>
      rw [hp] at hx
      obtain rfl : Value.ref l = x := Option.some.inj hx
      obtain ⟨xs, ol, e, c⟩ := hl l (List.mem_of_getElem? hp)
      refine wpAny_bind (wpAny_holding (wpAny_pyIter_tuple (s := { s with heap := h }) ⟨ol, hk _ _ e, c⟩ ?_))
      refine wpAny_pure ⟨_, rfl, by rw [Array.size_push, hbs], fun i hij => ?_, _, rfl, by rw [Heap.size_push, hsz]; omega, fun c o e => Heap.get?_push_of_some _ (hk c o e), fun i l' hij hl' => ?_⟩
      · show (b.push (Value.ref h.objs.size))[i]? = _
        rw [Array.getElem?_push]
        by_cases e : i = b.size
        · rw [if_pos e, hsz, e, hbs]
        · rw [if_neg e]
          exact hb i (by omega)
      · by_cases e : i = j
        · subst e
          rw [hp] at hl'
          cases hl'
          refine ⟨{ cls := .type "tuple_iterator", data := .fields #[.ref l, .int 0 0] }, ?_, rfl, rfl⟩
          rw [← hsz]
          exact Heap.get?_push_size _ rfl
        · obtain ⟨o, e1, c⟩ := hit i l' (by omega) hl'
          exact ⟨o, Heap.get?_push_of_some _ e1, c⟩
  case last =>
    obtain ⟨hbs, hb, h, rfl, hsz, hk, hit⟩ := hb
    rw [List.length_map] at hbs hb hsz hit
    refine wpAny_pure (hQ h b.toList (by rw [Array.length_toList]; exact hbs) (fun i hi => by rw [Array.getElem?_toList]; exact hb i hi) hsz hk fun i l e => ?_)
    exact hit i l (List.getElem?_eq_some_iff.mp e).1 e

theorem zip_newN {ls : List Addr} {Q : Value → Shared → Prop} (h1 : 1 ≤ ls.length) (h2 : ls.length ≤ 4) (hl : ∀ l ∈ ls, ∃ xs, s.heap.IsTuple l xs)
    (hQ : ∀ h' n, n = s.heap.objs.size → ZSt h' (n + ls.length + 2) (n + ls.length) (n + ls.length + 1) (ls.zipIdx.map fun x => (n + x.2, x.1)) 0 → h'.objs.size = n + ls.length + 3 →
      (∀ c o, s.heap.get? c = some o → h'.get? c = some o) → Q (.ref (n + ls.length + 2)) { s with heap := h' }) :
    wpAny (model prog w) A (Builtin.«zip.__new__» ⟨.type "zip" :: ls.map Value.ref, []⟩) (fun fin s' => ∃ v, fin = .done (.ret v) ∧ Q v s') E s := by
  have hsub := sub_zip
  have hc : wpAny (model prog w) A (Builtin.SmallTypes.newClass "zip" ⟨.type "zip" :: ls.map Value.ref, []⟩) (fun r s' => r = (.type "zip", ls.map Value.ref) ∧ s' = s) E s := by
    unfold Builtin.SmallTypes.newClass
    wp_walk
    exact ⟨rfl, rfl⟩
  unfold Builtin.«zip.__new__»
  refine wpAny_bind (thn hc ?_)
  rintro _ _s ⟨rfl, rfl⟩
  show wpAny _ _ (Builtin.SmallTypes.iterAll (ls.map Value.ref) >>= _) _ _ _
  refine wpAny_bind (iterAll_tups hl fun h1' its hil hi hsz hk hit => ?_)
  have hsl : its.length ≤ sizeLine := by rw [hil, sizeLine_eq]; omega
  refine wpAny_bind (wpAny_newTuple ?_ hsl)
  refine wpAny_bind (wpAny_newTuple ?_ (by rw [List.length_map]; exact hsl))
  refine wpAny_bind ?_
  unfold Builtin.SmallTypes.newRecord
  refine wpAny_newObj_type ?_ (show (5 : Nat) ≤ sizeLine + 2 by rw [sizeLine_eq]; omega)
  refine wpAny_pure ⟨_, rfl, ?_⟩
  have z1 : (h1'.push (tObj its.toArray)).objs.size = h1'.objs.size + 1 := Heap.size_push ..
  have z2 : ((h1'.push (tObj its.toArray)).push (tObj (its.map fun _ => Value.none).toArray)).objs.size = h1'.objs.size + 2 := by rw [Heap.size_push, z1]
  have fin : Q (.ref ((h1'.push (tObj its.toArray)).push (tObj (its.map fun _ => Value.none).toArray)).objs.size)
      { _s with heap := ((h1'.push (tObj its.toArray)).push (tObj (its.map fun _ => Value.none).toArray)).push (zObj .none (.bool false) h1'.objs.size (h1'.push (tObj its.toArray)).objs.size) } := by
    rw [z2, z1, hsz]
    refine hQ _ _ rfl ⟨⟨.none, .bool false, ?_, .inl rfl⟩, ?_, ⟨(its.map fun _ => Value.none).toArray, ?_, ?_⟩, fun p hp => ?_⟩ ?_ fun c o e => Heap.get?_push_of_some _ (Heap.get?_push_of_some _ (Heap.get?_push_of_some _ (hk c o e)))
    · rw [← hsz, ← z2]
      exact Heap.get?_push_size _ rfl
    · have e : its = (ls.zipIdx.map fun x => (_s.heap.objs.size + x.2, x.1)).map fun p => Value.ref p.1 := by
        refine List.ext_getElem? fun i => ?_
        rw [List.map_map, List.getElem?_map, List.getElem?_zipIdx]
        by_cases hlt : i < ls.length
        · rw [hi i hlt, List.getElem?_eq_getElem hlt]
          simp
        · rw [List.getElem?_eq_none (by omega), List.getElem?_eq_none (by omega)]
          rfl
      rw [← e, ← hsz]
      exact Heap.get?_push_of_some _ (Heap.get?_push_of_some _ (Heap.get?_push_size _ rfl))
    · simp [hil]
    · rw [← hsz, ← z1]
      exact Heap.get?_push_of_some _ (Heap.get?_push_size _ rfl)
    · obtain ⟨x, hx, rfl⟩ := List.mem_map.mp hp
      obtain ⟨i, hxi⟩ := List.mem_iff_getElem?.mp hx
      rw [List.getElem?_zipIdx] at hxi
      cases hl' : ls[i]? with
      | none =>
        rw [hl'] at hxi
        cases hxi
      | some l =>
        rw [hl'] at hxi
        obtain rfl : (l, 0 + i) = x := Option.some.inj hxi
        obtain ⟨o, e, c⟩ := hit i l hl'
        refine ⟨o, ?_, c⟩
        show Heap.get? _ (_s.heap.objs.size + (0 + i)) = some o
        rw [Nat.zero_add]
        exact Heap.get?_push_of_some _ (Heap.get?_push_of_some _ (Heap.get?_push_of_some _ e))
    · rw [Heap.size_push, z2, hsz]
  exact fin
end
end DD
namespace DD
open PySem PySem.Spec PyProof.Rows L2

/-- the iterators that zip(*ls) makes at n -/
def zps (n : Nat) (ls : List Addr) : List (Addr × Addr) := ls.zipIdx.map fun x => (n + x.2, x.1)
theorem zps_length (n : Nat) (ls : List Addr) : (zps n ls).length = ls.length := by simp [zps]
theorem zps_get (n : Nat) (ls : List Addr) (j : Nat) : (zps n ls)[j]? = (ls[j]?).map fun a => (n + j, a) := by
  unfold zps
  rw [List.getElem?_map, List.getElem?_zipIdx]
  cases ls[j]? with
  | none => rfl
  | some a => simp
theorem zps_mem {n : Nat} {ls : List Addr} {p : Addr × Addr} (h : p ∈ zps n ls) : ∃ j, j < ls.length ∧ ls[j]? = some p.2 ∧ p.1 = n + j := by
  obtain ⟨j, hj⟩ := List.mem_iff_getElem?.mp h
  rw [zps_get] at hj
  cases e : ls[j]? with
  | none => rw [e] at hj; cases hj
  | some a =>
    rw [e] at hj
    obtain rfl : (n + j, a) = p := Option.some.inj hj
    exact ⟨j, (List.getElem?_eq_some_iff.mp e).1, e, rfl⟩
theorem nat5 {a b n j L : Nat} (h3 : b < n) (h4 : a = n + j) (hj : j < L) : a ≠ n + L + 2 ∧ a ≠ n + L ∧ a ≠ n + L + 1 ∧ b ≠ n + L + 2 ∧ b ≠ n + L + 1 := by omega
theorem nat6 {a b n i : Nat} (h3 : b < n) (h4 : a = n + i) : b ≠ a := by omega
theorem zapart {n : Nat} {ls : List Addr} (h : ∀ l ∈ ls, l < n) : ZApart (n + ls.length + 2) (n + ls.length) (n + ls.length + 1) (zps n ls) where
  tz := Nat.ne_of_lt (show (n : Nat) + ls.length < n + ls.length + 2 by omega)
  oz := Nat.ne_of_lt (show (n : Nat) + ls.length + 1 < n + ls.length + 2 by omega)
  it := Nat.ne_of_lt (show (n : Nat) + ls.length < n + ls.length + 1 by omega)
  nd := by
    have e : (zps n ls).map (·.1) = (List.range ls.length).map (n + ·) := by
      refine List.ext_getElem? fun i => ?_
      rw [List.getElem?_map, zps_get, List.getElem?_map]
      by_cases hi : i < ls.length
      · rw [List.getElem?_eq_getElem hi, List.getElem?_range hi]
        rfl
      · rw [List.getElem?_eq_none (by omega), List.getElem?_eq_none (by simp; omega)]
        rfl
    rw [e]
    exact List.Pairwise.map _ (fun a b h e => h (Nat.add_left_cancel e)) List.nodup_range
  pz := fun p hp => by
    obtain ⟨j, hj, e, ep⟩ := zps_mem hp
    exact nat5 (h p.2 (List.mem_of_getElem? e)) ep hj
  px := fun p hp q hq => by
    obtain ⟨j, hj, e, ep⟩ := zps_mem hp
    obtain ⟨i, hi, e2, ep2⟩ := zps_mem hq
    exact nat6 (h p.2 (List.mem_of_getElem? e)) ep2

section
variable {prog : Program} {w : World} {A : Around} {E : Value → Shared → Prop} {s : Shared}
theorem call_zipN {ls : List Addr} {Q : Value → Shared → Prop} (h1 : 1 ≤ ls.length) (h2 : ls.length ≤ 4) (hl : ∀ l ∈ ls, ∃ xs, s.heap.IsTuple l xs)
    (hQ : ∀ h' n, n = s.heap.objs.size → ZSt h' (n + ls.length + 2) (n + ls.length) (n + ls.length + 1) (zps n ls) 0 → h'.objs.size = n + ls.length + 3 →
      (∀ c o, s.heap.get? c = some o → h'.get? c = some o) → Q (.ref (n + ls.length + 2)) { s with heap := h' }) :
    wpAny (model prog w) A (call (.type "zip") (ls.map Value.ref)) Q E s := by
  have m : Meets (Builtin.«zip.__new__» ⟨.type "zip" :: ls.map Value.ref, []⟩) (fun _ R s => (∀ l ∈ ls, ∃ xs, s.heap.IsTuple l xs) ∧
      ∀ h' n, n = s.heap.objs.size → ZSt h' (n + ls.length + 2) (n + ls.length) (n + ls.length + 1) (zps n ls) 0 → h'.objs.size = n + ls.length + 3 →
        (∀ c o, s.heap.get? c = some o → h'.get? c = some o) → R (.ok (.ret (.ref (n + ls.length + 2)))) { s with heap := h' }) :=
    .of_wp fun prog w A R s h => zip_newN h1 h2 h.1 h.2
  refine callType_new F.called_zip (by decide) (typeCall_zipN _ (by simpa using h1) (by simpa using h2)) (newCall_zipN _ (by simpa using h1) (by simpa using h2))
    (fun obj => args_object_initN obj _ (by simpa using h1) (by simpa using h2)) F.entry_zip_new m ⟨hl, fun h' n e1 e2 e3 e4 => ?_⟩
  obtain ⟨f0, f1, hz, _⟩ := e2.zz
  exact ⟨⟨_, hz, rfl⟩, hQ h' n e1 e2 e3 e4⟩
theorem pyIter_zn {z TI TO : Addr} {ps : List (Addr × Addr)} {k : Nat} {Q : Value → Shared → Prop} (S : ZSt s.heap z TI TO ps k) (h : Q (.ref z) s) : wpAny (model prog w) A (pyIter (.ref z)) Q E s := by
  obtain ⟨f0, f1, hz, _⟩ := S.zz
  have hT : s.TypeIs (.ref z) "zip" := ⟨_, hz, rfl⟩
  refine wpAny_pyIter_slot hT F.slot_zip_iter (wpAny_call_entry F.slot_zip_iter hT F.entry_zip_iter ?_ (F.args_zip_iter_1 _))
  exact (show wpAny _ _ (ret (.ref z)) _ _ s from wpAny_pure ⟨_, rfl, "zip", _, hT, F.slot_zip_next.lookup, h⟩)
end

/-- the tuples at ls hold rows, all of length m -/
structure Rws (K : PySem.W.Frag) (H : Hp) (ls : List Addr) (rows : List (List V)) (m : Nat) : Prop where
  len : ls.length = rows.length
  at_ : ∀ (j : Nat) (a : Addr) (r : List V), ls[j]? = some a → rows[j]? = some r → SqT K H a r ∧ r.length = m
def colV (rows : List (List V)) (i : Nat) : List V := rows.map fun r => r.getD i .non
def ItzN (K : PySem.W.Frag) (ls : List Addr) (rows : List (List V)) (m : Nat) : It :=
  ⟨fun i H => i < m ∧ Rws K H ls rows m, fun i H v H' => ∃ T, v = .ref T ∧ H T = none ∧ H' = upd H T (.tup (colV rows i)), fun i H => i = m ∧ Rws K H ls rows m⟩

theorem Rws.vals {X : Cx} {pins : List (Addr × Obj)} {σ : L2.St} {H : Hp} {s : Shared} {m i : Nat} (I : Inv X pins σ H s) (hi : i < m) : ∀ {ls : List Addr} {rows : List (List V)}, Rws X.K H ls rows m →
    ∃ us : List Value, Vals (colV rows i) us ∧ ∀ (j : Nat) (a : Addr), ls[j]? = some a → ∃ xs, s.heap.IsTuple a xs ∧ xs[i]? = us[j]?
  | [], [], _ => ⟨[], .nil, fun j a e => by simp at e⟩
  | [], _ :: _, R => by have := R.len; simp at this
  | _ :: _, [], R => by have := R.len; simp at this
  | a :: ls, r :: rows, R => by
    obtain ⟨us, h1, h2⟩ := Rws.vals I hi (ls := ls) (rows := rows) ⟨by have := R.len; simpa using this, fun j a' r' e1 e2 => R.at_ (j + 1) a' r' e1 e2⟩
    obtain ⟨q, hl⟩ := R.at_ 0 a r rfl rfl
    obtain ⟨its, rv, p, _⟩ := I.tuple q
    have hr : r[i]? = some (r.getD i .non) := by
      rw [List.getD_eq_getElem?_getD, List.getElem?_eq_getElem (by omega)]
      rfl
    obtain ⟨u, hu, ru⟩ := rv.get hr
    obtain ⟨o, ho, hc, n, hd⟩ := p
    refine ⟨u :: us, .cons ru h1, fun j a' e => ?_⟩
    cases j with
    | zero =>
      obtain rfl : a = a' := Option.some.inj e
      exact ⟨its.toArray, ⟨o, ho, hc, n, hd⟩, by simpa using hu⟩
    | succ j => exact h2 j a' e

theorem turn_zn {P : Program} {w : World} {K : PySem.W.Frag} {x : Str} {xp : Pos} {n m : Nat} {ls : List Addr} {rows : List (List V)} (h1 : 1 ≤ ls.length) (h2 : ls.length ≤ 4) (hlt : ∀ l ∈ ls, l < n) :
    Turn P w K (.Name x xp) (ItzN K ls rows m) ((n + ls.length + 2) :: (n + ls.length) :: (n + ls.length + 1) :: (zps n ls).map (·.1)) (n + ls.length + 2)
      (fun i h => ZSt h (n + ls.length + 2) (n + ls.length) (n + ls.length + 1) (zps n ls) i) where
  mem := List.mem_cons_self
  obj := fun i h S b hb => by
    obtain ⟨⟨f0, f1, hz, _⟩, hTI, ⟨arr, _, hTO⟩, hits⟩ := S
    rcases List.mem_cons.mp hb with rfl | hb
    · exact ⟨_, hz, fun v q => nomatch q⟩
    rcases List.mem_cons.mp hb with rfl | hb
    · exact ⟨_, hTI, fun v q => nomatch q⟩
    rcases List.mem_cons.mp hb with rfl | hb
    · exact ⟨_, hTO, fun v q => nomatch q⟩
    obtain ⟨p, hp, rfl⟩ := List.mem_map.mp hb
    obtain ⟨o, e, _, d⟩ := hits p hp
    exact ⟨o, e, fun v q => by rw [d] at q; cases q⟩
  keep := fun i h h' S k => by
    obtain ⟨⟨f0, f1, hz, hf⟩, hTI, ⟨arr, ha, hTO⟩, hits⟩ := S
    refine ⟨⟨f0, f1, k _ (by simp) _ hz, hf⟩, k _ (by simp) _ hTI, ⟨arr, ha, k _ (by simp) _ hTO⟩, fun p hp => ?_⟩
    obtain ⟨o, e, c⟩ := hits p hp
    exact ⟨o, k _ (by
      refine List.mem_cons_of_mem _ (List.mem_cons_of_mem _ (List.mem_cons_of_mem _ ?_))
      exact List.mem_map_of_mem hp) _ e, c⟩
  item := by
    intro X hP hw hK hc i pins s σ H E I hf S hg
    subst hP hw hK
    obtain ⟨hi, R⟩ := hg
    obtain ⟨us, hv, hx⟩ := R.vals I hi
    have hul : us.length = ls.length := by rw [← hv.length, R.len]; simp [colV]
    have D := zapart hlt
    refine pyNext_zn_item D (by rw [zps_length]; exact h1) (by rw [zps_length]; omega) S (vs := us) (by rw [zps_length]; exact hul) (fun j p e => ?_) fun h' S' hT hsz hk => ?_
    · rw [zps_get] at e
      cases ea : ls[j]? with
      | none => rw [ea] at e; cases e
      | some a =>
        rw [ea] at e
        obtain rfl : (n + j, a) = p := Option.some.inj e
        exact hx j a ea
    · refine ⟨_, rfl, ?_⟩
      have hcl : (colV rows i).length ≤ sizeLine := by
        rw [hv.length, hul, sizeLine_eq]
        omega
      have new : ObjOk X.prog X.w (upd H s.heap.objs.size (.tup (colV rows i))) h' s.heap.objs.size (.tup (colV rows i)) := ⟨hcl, us, hv, ⟨_, hT, rfl, _, rfl⟩⟩
      have I1 : Inv X pins σ (upd H s.heap.objs.size (.tup (colV rows i))) { s with heap := h' } :=
        I.turnedNew (t' := s.toks) (fun c o hb q => hk c o (fun z => hb (by simp [z])) (fun z => hb (by simp [z])) (fun p hp z => hb (by
          refine List.mem_cons_of_mem _ (List.mem_cons_of_mem _ (List.mem_cons_of_mem _ ?_))
          rw [z]
          exact List.mem_map_of_mem hp)) q) hf (Nat.le_refl _) new
      show wpAny _ _ (pure ()) _ _ _
      refine wpAny_pure ⟨.ref s.heap.objs.size, _, I1, rfl, ⟨_, rfl, I.hok.fresh (Nat.le_refl _), rfl⟩, S', fun c hcm => ?_⟩
      obtain ⟨o, ho, _⟩ : ∃ o, s.heap.get? c = some o ∧ True := by
        obtain ⟨⟨f0, f1, hz, _⟩, hTI, ⟨arr, _, hTO⟩, hits⟩ := S
        rcases List.mem_cons.mp hcm with rfl | hcm
        · exact ⟨_, hz, trivial⟩
        rcases List.mem_cons.mp hcm with rfl | hcm
        · exact ⟨_, hTI, trivial⟩
        rcases List.mem_cons.mp hcm with rfl | hcm
        · exact ⟨_, hTO, trivial⟩
        obtain ⟨p, hp, rfl⟩ := List.mem_map.mp hcm
        obtain ⟨o, e, _⟩ := hits p hp
        exact ⟨o, e, trivial⟩
      rw [upd_ne (Nat.ne_of_lt (Heap.lt_size ho))]
      exact (hf c hcm).1
  done := by
    intro X hP hw hK hc i pins s σ H E I hf S hg
    subst hP hw hK
    obtain ⟨rfl, R⟩ := hg
    cases hls : ls with
    | nil => rw [hls] at h1; simp at h1
    | cons a r =>
      cases hrw : rows with
      | nil => have := R.len; rw [hls, hrw] at this; simp at this
      | cons q rr =>
        obtain ⟨hq, hl⟩ := R.at_ 0 a q (by rw [hls]; rfl) (by rw [hrw]; rfl)
        obtain ⟨its, rv, ⟨o, ho, hc', n', hd⟩, _⟩ := I.tuple hq
        have hps : zps n ls = (n, a) :: (zps n ls).tail := by
          rw [hls]
          simp [zps]
        rw [← hls]
        refine pyNext_zn_end (I.ok.hd hc) (zapart hlt) S hps (xs := its.toArray) ⟨o, ho, hc', n', hd⟩ ?_ fun h' hk => ⟨rfl, ?_⟩
        · have := rv.length
          rw [List.getElem?_toArray, List.getElem?_eq_none (by omega)]
        · exact I.turnedL (t' := s.toks) (fun c o hb q => hk c o (fun z => hb (by simp [z])) (fun z => hb (by simp [z])) (fun p hp z => hb (by
            refine List.mem_cons_of_mem _ (List.mem_cons_of_mem _ (List.mem_cons_of_mem _ ?_))
            rw [z]
            exact List.mem_map_of_mem hp)) q) hf
  self := fun A i s Q E S h => pyIter_zn S h

/-- for x in zip(*e), e a list or tuple of one to four tuples of one length -/
def iZipS (K : PySem.W.Frag) (te : TE) : TI := fun σ H R => te σ H fun y H1 => ∃ (a : Addr) (ls : List Addr) (rows : List (List V)) (m : Nat), y = .ref a ∧ (SqT K H1 a (ls.map V.ref) ∨ SqL K H1 a (ls.map V.ref)) ∧
  1 ≤ ls.length ∧ ls.length ≤ 4 ∧ Rws K H1 ls rows m ∧ R (ItzN K ls rows m) H1
theorem vals_refs : ∀ {ls : List Addr} {us : List Value}, Vals (ls.map V.ref) us → us = ls.map Value.ref
  | [], _, .nil => rfl
  | a :: ls, _, .cons r t => by
    cases r
    rw [vals_refs t]
    rfl
theorem pi_zipS {X : Cx} {e : Expr} {te : TE} {p pos spos xp : Pos} {x : Str} (hg : Gl X "zip") (hm : X.mg "zip" = none) (he : PE X e te)
    (hst : starEach [.Starred e spos] X.env = [(true, eval e X.env)] := by rfl) :
    PI X (.Name x xp) (.Call (.Name "zip" p) [.Starred e spos] [] pos) (iZipS X.K te) := by
  refine ⟨fun pins s σ H R I h => ?_⟩
  refine wpAny_Call_Name_kw (ld_blt I hg hm PyProof.Rows.boot_zip ?_)
  rw [hst]
  refine PySem.W.ks_call (P := fun _ => True) rfl (fun h _ => ⟨.machine, .inr (.inl rfl), fun A Q E s _ q => wpAny_pure q⟩) (PySem.W.ks_lone ?_)
  refine thn (he.run pins s σ H _ I h) fun v s1 ⟨y, H1, I1, ry, a, ls, rows, m, ey, hx, h1, h2, Rw, q⟩ => ?_
  subst ey
  obtain rfl : v = Value.ref a := ry
  refine StX.star_any I1 hx fun us s2 I2 rv => ⟨trivial, ?_⟩
  obtain rfl := vals_refs rv
  have tup : ∀ l ∈ ls, ∃ xs, s2.heap.IsTuple l xs := fun l hl => by
    obtain ⟨j, hj⟩ := List.mem_iff_getElem?.mp hl
    have hjl := (List.getElem?_eq_some_iff.mp hj).1
    have hjr : rows[j]? = some (rows[j]'(by have := Rw.len; omega)) := List.getElem?_eq_getElem (by have := Rw.len; omega)
    obtain ⟨its, _, ⟨o, ho, hc, n, hd⟩, _⟩ := I2.tuple (Rw.at_ j l _ hj hjr).1
    exact ⟨its.toArray, o, ho, hc, n, hd⟩
  refine call_zipN h1 h2 tup fun h' n en S hsz hk => ?_
  have I3 : Inv X pins σ H1 { s2 with heap := h' } := I2.kept (t' := s2.toks) hk
  have hlt : ∀ l ∈ ls, l < n := fun l hl => by
    obtain ⟨xs, o, ho, _⟩ := tup l hl
    rw [en]
    exact Heap.lt_size ho
  refine pyIter_zn (s := { s2 with heap := h' }) S ⟨n + ls.length + 2, _, _, _, H1, rfl, I3, turn_zn h1 h2 hlt, S, fun b hb => ?_, q⟩
  have hle : s2.heap.objs.size ≤ b := by
    rw [← en]
    rcases List.mem_cons.mp hb with rfl | hb
    · omega
    rcases List.mem_cons.mp hb with rfl | hb
    · omega
    rcases List.mem_cons.mp hb with rfl | hb
    · omega
    obtain ⟨p, hp, rfl⟩ := List.mem_map.mp hb
    obtain ⟨j, _, _, e⟩ := zps_mem hp
    exact Nat.le_trans (Nat.le_add_right n j) (Nat.le_of_eq e.symm)
  have F := I2.fpOk hle (I2.hok.fresh hle)
  exact F
end DD
namespace DD
open PySem PySem.Spec PyProof.Rows L2
theorem draws_tup {prog : Program} {w : World} {A : Around} (hh : A.handled = none) (it t : Addr) (items : Array Value) (hne : t ≠ it) :
    Draws prog w A it [it, t] items.size (fun i v => items[i]? = some v) (fun i h => h.IsTupleIter it t i ∧ h.IsTuple t items) where
  live := fun i h S => by
    obtain ⟨⟨o, e, _⟩, _⟩ := S
    exact ⟨o, e⟩
  frame := fun i h h' S k => by
    obtain ⟨⟨o, e, c⟩, ⟨o2, e2, c2⟩⟩ := S
    exact ⟨⟨o, k it (by simp) o e, c⟩, ⟨o2, k t (by simp) o2 e2, c2⟩⟩
  item := fun i s Q E hi S hQ => by
    obtain ⟨S1, S2⟩ := S
    refine RZ.nextOf_tuple_item S1 S2 (x := items[i]) (by simp [hi]) fun h' hit hs => hQ _ h' s.toks (by simp [hi]) ⟨hit, ?_⟩ hs
    obtain ⟨o, e, c⟩ := S2
    exact ⟨o, (hs.2 _ hne).trans e, c⟩
  done := fun s Q E S hE => by
    obtain ⟨S1, S2⟩ := S
    exact RZ.nextOf_tuple_end hh S1 S2 (by simp) hE
theorem meets_enum_newT (l : Addr) (items : Array Value) : Meets (Builtin.«enumerate.__new__» ⟨[.type "enumerate", .ref l], []⟩) (fun _ R s => s.heap.IsTuple l items ∧
      R (.ok (.ret (.ref (s.heap.push { cls := .type "tuple_iterator", data := .fields #[.ref l, .int 0 0] }).objs.size)))
        { s with heap := (s.heap.push { cls := .type "tuple_iterator", data := .fields #[.ref l, .int 0 0] }).push { cls := .type "enumerate", data := .fields #[.none, .bool false, .ref s.heap.objs.size, rawInt 0, .none, .none] } }) :=
  .of_wp fun prog w A R s h => by
    obtain ⟨hp, g, d, tk, os⟩ := s
    obtain ⟨hT, h⟩ := h
    obtain ⟨oL, hoL, hcL, nL, hdL⟩ := id hT
    have hsub := sub_enumerate
    have hT' : Heap.IsTuple (Shared.heap ⟨hp, g, d, tk, os⟩) l items := hT
    wp_walk
    refine wpAny_stack_any fun st => wpAny_pure ?_
    split
    · rename_i c _ _ _ _ _
      cases (c == Value.type "enumerate")
      · wp_walk using wpAny_pyIter_tuple hT'
        exact ⟨_, rfl, h⟩
      · wp_walk using wpAny_pyIter_tuple hT'
        exact ⟨_, rfl, h⟩
    · wp_walk using wpAny_pyIter_tuple hT'
      exact ⟨_, rfl, h⟩
section
variable {prog : Program} {w : World} {A : Around} {E : Value → Shared → Prop} {s : Shared}
theorem call_enumT {l : Addr} {items : Array Value} {Q : Value → Shared → Prop} (hT : s.heap.IsTuple l items)
    (h : ∀ h', IsEnum h' (s.heap.objs.size + 1) s.heap.objs.size 0 .none → h'.IsTupleIter s.heap.objs.size l 0 →
      (∀ b o, s.heap.get? b = some o → h'.get? b = some o) → Q (.ref (s.heap.objs.size + 1)) { s with heap := h' }) :
    wpAny (model prog w) A (call (.type "enumerate") [.ref l]) Q E s := by
  refine callType_new F.called_enumerate (by decide) (F.typeCall_enumerate_1 _) (F.newCall_enumerate_1 _) (fun obj => F.args_object_init_2 obj _) F.entry_enumerate_new
    (meets_enum_newT l items) ⟨hT, ?_⟩
  have hz : (s.heap.push { cls := .type "tuple_iterator", data := .fields #[.ref l, .int 0 0] }).objs.size = s.heap.objs.size + 1 := Heap.size_push ..
  have he : IsEnum ((s.heap.push { cls := .type "tuple_iterator", data := .fields #[.ref l, .int 0 0] }).push
      { cls := .type "enumerate", data := .fields #[.none, .bool false, .ref s.heap.objs.size, rawInt 0, .none, .none] }) (s.heap.objs.size + 1) s.heap.objs.size 0 .none := by
    have q := Heap.get?_push_size (s.heap.push { cls := .type "tuple_iterator", data := .fields #[.ref l, .int 0 0] })
      (o := { cls := .type "enumerate", data := .fields #[.none, .bool false, .ref s.heap.objs.size, rawInt 0, .none, .none] }) rfl
    rw [hz] at q
    exact q
  show _ ∧ _
  rw [hz]
  exact ⟨⟨_, he, rfl⟩, h _ he ⟨_, Heap.get?_push_of_some _ (Heap.get?_push_size _ rfl), rfl, rfl⟩ fun b o x => Heap.get?_push_of_some _ (Heap.get?_push_of_some _ x)⟩
end

/-- the tuple at a, its items in new pairs, counted from c -/
def ItEnT (K : PySem.W.Frag) (a : Addr) (c : Int) : It :=
  ⟨fun i H => ∃ (xs : List V) (x : V), SqT K H a xs ∧ xs[i]? = some x,
    fun i H v H' => ∃ T x, v = .ref T ∧ H T = none ∧ H' = upd H T (.tup [.int (c + (i : Nat)), x]) ∧ ∀ xs, SqT K H a xs → xs[i]? = some x,
    fun i H => ∃ xs : List V, SqT K H a xs ∧ xs.length ≤ i⟩
theorem turn_enT {P : Program} {w : World} {K : PySem.W.Frag} {elts : List Expr} {kk : Nat} {tpos : Pos} (a e it : Addr) (c : Int) :
    Turn P w K (.Tuple elts kk tpos) (ItEnT K a c) [e, it] e (fun i h => (∃ old, IsEnum h e it (c + ((i : Nat) : Int)) old) ∧ h.IsTupleIter it a i ∧ e ≠ it) where
  mem := by simp
  obj := fun i h S b hb => by
    obtain ⟨⟨old, he⟩, ⟨o, ho, hc, hd⟩, _⟩ := S
    rcases List.mem_cons.mp hb with rfl | hb
    · exact ⟨_, he, fun v q => nomatch q⟩
    · rw [List.mem_singleton.mp hb]
      exact ⟨o, ho, fun v q => by rw [hd] at q; cases q⟩
  keep := fun i h h' S k => by
    obtain ⟨⟨old, he⟩, ⟨o, ho, r⟩, hne⟩ := S
    exact ⟨⟨old, k e (by simp) _ he⟩, ⟨o, k it (by simp) _ ho, r⟩, hne⟩
  item := by
    intro X hP hw hK hcalm i pins s σ H E I hf S hg
    subst hP hw hK
    obtain ⟨⟨old, he⟩, hit, hne⟩ := S
    obtain ⟨xs, x, hq, hx⟩ := hg
    obtain ⟨its, rv, ⟨oa, hoa, hca, na, hda⟩, _⟩ := I.tuple hq
    obtain ⟨u, hu, ru⟩ := rv.get hx
    obtain ⟨oi, hoi, hci, hdi⟩ := id hit
    have hai : a ≠ it := fun z => by
      rw [z, hoi] at hoa
      cases hoa
      rw [hca] at hci
      simp at hci
    have hea : e ≠ a := fun z => by
      have he2 := he
      unfold IsEnum at he2
      rw [z, hoa] at he2
      cases he2
      simp at hca
    have hef : e ∉ [it, a] := fun z => by
      rcases List.mem_cons.mp z with z | z
      · exact hne z
      · exact hea (List.mem_singleton.mp z)
    have hel : e < s.heap.objs.size := Heap.lt_size he
    have hil : it < s.heap.objs.size := Heap.lt_size hoi
    have D := draws_tup (prog := X.prog) (w := X.w) (A := X.A.in1) (I.ok.hd hcalm) it a its.toArray hai
    have hlt : i < its.toArray.size := by
      have := (List.getElem?_eq_some_iff.mp hu).1
      simpa using this
    refine wpAny_pyNext_enum_itemC D he ⟨hit, ⟨oa, hoa, hca, na, hda⟩⟩ hlt hne hef fun y h' tk hy ho hit' hT hsz hk => ?_
    obtain rfl : u = y := by
      have : its.toArray[i]? = some u := by simpa using hu
      rw [this] at hy
      exact Option.some.inj hy
    refine ⟨_, rfl, wpAny_letOwnedTupleGo_enum (s := { s with heap := h', toks := tk + 1 }) ho fun h'' he' sb => ?_⟩
    have hT2 : h''.get? s.heap.objs.size = some { cls := .type "tuple", data := .seq #[.int (c + (i : Nat)) tk, u] } := (sb.2 _ (Nat.ne_of_gt hel)).trans hT
    have new : ObjOk X.prog X.w (upd H s.heap.objs.size (.tup [.int (c + (i : Nat)), x])) h'' s.heap.objs.size (.tup [.int (c + (i : Nat)), x]) :=
      ⟨by show 2 ≤ sizeLine; decide, [.int (c + (i : Nat)) tk, u], .cons ⟨_, rfl⟩ (.cons ru .nil), ⟨_, hT2, rfl, _, rfl⟩⟩
    have I1 : Inv X pins σ (upd H s.heap.objs.size (.tup [.int (c + (i : Nat)), x])) { s with heap := h'', toks := tk + 1 } :=
      I.turnedNew (ch := [e, it]) (fun b ob hb q => (sb.2 b (fun z => hb (by simp [z]))).trans (hk b ob (fun z => hb (by simp [z])) (fun z => hb (by simp [z])) q)) hf (Nat.le_refl _) new
    obtain ⟨oi', hoi', r'⟩ := hit'.1
    refine ⟨.ref s.heap.objs.size, _, I1, rfl, ⟨_, x, rfl, I.hok.fresh (Nat.le_refl _), rfl, fun ys hy => by rw [I.tuple_inj hy hq]; exact hx⟩, ⟨⟨u, ?_⟩, ⟨oi', (sb.2 it (Ne.symm hne)).trans hoi', r'⟩, hne⟩, fun b hb => ?_⟩
    · have e1 : c + ((i + 1 : Nat) : Int) = c + (i : Int) + 1 := by omega
      rw [e1]
      exact he'
    · have hb' : b < s.heap.objs.size := by
        rcases List.mem_cons.mp hb with z | hb
        · rw [z]
          exact hel
        · rw [List.mem_singleton.mp hb]
          exact hil
      rw [upd_ne (Nat.ne_of_lt hb')]
      exact (hf b hb).1
  done := by
    intro X hP hw hK hcalm i pins s σ H E I hf S hg
    subst hP hw hK
    obtain ⟨⟨old, he⟩, hit, hne⟩ := S
    obtain ⟨xs, hq, hx⟩ := hg
    obtain ⟨its, rv, ⟨oa, hoa, hca, na, hda⟩, _⟩ := I.tuple hq
    obtain ⟨oi, hoi, hci, hdi⟩ := id hit
    have hl := rv.length
    obtain ⟨f0, f1, f2, f3, f4, f5⟩ := hf it (by simp)
    have hT : s.TypeIs (.ref e) "enumerate" := ⟨_, he, rfl⟩
    unfold pyNext
    refine wpAny_bind (wpAny_attempt (wpAny_callSpecial?_slot (name := Str.ofString "__next__") hT F.slot_enumerate_next
      (wpAny_call_entry F.slot_enumerate_next hT F.entry_enumerate_next ?_ (F.args_enumerate_next_1 _))))
    show wpAny _ _ (field (.ref e) 2 >>= _) _ _ _
    refine wpAny_bind (wpAny_field he rfl (x := .ref it) rfl ?_)
    refine wpAny_bind (RZ.nextOf_tuple_end (I.ok.hd hcalm) hit (show s.heap.IsTuple a its.toArray from ⟨oa, hoa, hca, na, hda⟩) (by simp; omega) fun h' y hy1 hy2 => ?_)
    obtain ⟨o, ho, hc⟩ := hy2
    exact wpAny_bind (wpAny_isInstance (T := "StopIteration") (b := true) ⟨o, ho, hc⟩ isSubtype_stop (wpAny_pure ⟨rfl, I.turned (t' := s.toks) (fun b o hb q => hy1 b o hb q) f0 f1 f3 f4 f5⟩))
  self := fun A i s Q E S h => by
    obtain ⟨⟨_, he⟩, _⟩ := S
    exact wpAny_pyIter_enum he h
def iEnumT (K : PySem.W.Frag) (ta : TA) : TI := fun σ H R => ta σ H fun vs H1 => ∃ a xs, vs = [.ref a] ∧ SqT K H1 a xs ∧ R (ItEnT K a 0) H1
theorem pi_enumT {X : Cx} {e : Expr} {ta : TA} {p pos tpos : Pos} {elts : List Expr} {kk : Nat} (hg : Gl X "enumerate") (hm : X.mg "enumerate" = none) (ha : PA X [e] ta)
    (hs : starEach [e] X.env = [(false, eval e X.env)] := by rfl) : PI X (.Tuple elts kk tpos) (.Call (.Name "enumerate" p) [e] [] pos) (iEnumT X.K ta) := by
  refine ⟨fun pins s σ H R I h => Call_ (ld_blt I hg hm boot_enumerate (PyProof.Rows.callWith_type1 (thn (ha.run pos pins s σ H _ I h) fun us s1 ⟨vs, H1, I1, r1, q1⟩ => ?_) hs rfl))⟩
  obtain ⟨a, xs, ex, hq, q⟩ := q1
  subst ex
  obtain ⟨u, rfl, ru⟩ := vals1 r1
  cases ru
  obtain ⟨its, rv, ⟨oa, hoa, hca, na, hda⟩, _⟩ := I1.tuple hq
  refine call_enumT (items := its.toArray) ⟨oa, hoa, hca, na, hda⟩ fun h' he hit hk => wpAny_pyIter_enum he ?_
  have I2 : Inv X pins σ H1 { s1 with heap := h' } := I1.kept (t' := s1.toks) hk
  refine ⟨s1.heap.objs.size + 1, [s1.heap.objs.size + 1, s1.heap.objs.size], _, _, H1, rfl, I2, turn_enT a (s1.heap.objs.size + 1) s1.heap.objs.size 0, ⟨⟨.none, he⟩, hit, Nat.succ_ne_self _⟩, fun b hb => ?_, q⟩
  have hle : s1.heap.objs.size ≤ b := by
    rcases List.mem_cons.mp hb with z | hb
    · rw [z]
      exact Nat.le_succ _
    · exact Nat.le_of_eq (List.mem_singleton.mp hb).symm
  exact I1.fpOk hle (I1.hok.fresh hle)
/-- a loop over enumerate(t) -/
theorem for_enT {K : PySem.W.Frag} {a : Addr} {xs : List V} {c : Int} {g : TG} {tb : TS} {D : Ends} {σ : L2.St} {H : Hp} (Pv : Nat → L2.St → Hp → Prop) (h0 : Pv 0 σ H) (hq : ∀ i σ H, i ≤ xs.length → Pv i σ H → SqT K H a xs)
    (hs : ∀ (i : Nat) (x : V) (T : Addr) (σ : L2.St) (H : Hp), xs[i]? = some x → Pv i σ H → H T = none →
      g (.ref T) σ (upd H T (.tup [.int (c + (i : Nat)), x])) fun σ2 H2 => tb { D with nx := Pv (i + 1), ct := Pv (i + 1), bk := D.nx } σ2 H2) (hd : ∀ σ H, Pv xs.length σ H → D.nx σ H) :
    ∃ W : Nat → Nat → L2.St → Hp → Prop, (∃ m, W 0 m σ H) ∧ ∀ i m σ H, W i m σ H → ((ItEnT K a c).stop i H ∧ D.nx σ H) ∨ ((ItEnT K a c).go i H ∧
      ∃ N : L2.St → Hp → Prop, (∀ σ' H', N σ' H' → ∃ m', m' < m ∧ W (i + 1) m' σ' H') ∧ ∀ v H', (ItEnT K a c).yld i H v H' →
        g v σ H' fun σ2 H2 => tb { D with nx := N, ct := N, bk := D.nx } σ2 H2) := by
  refine ⟨fun i m σ H => m = xs.length - i ∧ i ≤ xs.length ∧ Pv i σ H, ⟨xs.length, rfl, Nat.zero_le _, h0⟩, ?_⟩
  rintro i _ σ H ⟨rfl, hi, p⟩
  have q := hq i σ H hi p
  by_cases hlt : i < xs.length
  · have hx : xs[i]? = some xs[i] := List.getElem?_eq_getElem hlt
    refine .inr ⟨⟨xs, _, q, hx⟩, Pv (i + 1), fun σ' H' p' => ⟨xs.length - (i + 1), by omega, rfl, hlt, p'⟩, fun v H' y => ?_⟩
    obtain ⟨T, x', rfl, nT, rfl, f1⟩ := y
    exact hs i x' T σ H (f1 xs q) p nT
  · obtain rfl : i = xs.length := by omega
    exact .inl ⟨⟨xs, q, Nat.le_refl _⟩, hd σ H p⟩
end DD
namespace DD
open PySem PySem.Spec PyProof.Rows L2
def topS (i : Nat) : Stmt := PySem.Challenge.pw_darkdrawers_k02_drawers_merged.main.body.getD i (.Pass ⟨0, 0, 0, 0⟩)
abbrev cTooMuch : Stmt := topS 4
abbrev sInit : Stmt := inClass cTooMuch 0
abbrev sTotals : Stmt := topS 8
abbrev sMerged : Stmt := topS 9
abbrev sDeck : Stmt := topS 11
abbrev sDraw : Stmt := topS 12
abbrev sSame : Stmt := topS 13
abbrev sCounts : Stmt := topS 14
abbrev sStock : Stmt := topS 15
abbrev sDue : Stmt := topS 16
abbrev sTold : Stmt := topS 17
abbrev sLaw : Stmt := topS 18
end DD
namespace DD
open PySem PySem.Spec PyProof.Rows L2

/-! ### small words about heaps -/
def Kp2 (a b : Addr) (H H' : Hp) : Prop := ∀ c o, c ≠ a → c ≠ b → H c = some o → H' c = some o
theorem Kp2.refl {a b : Addr} {H : Hp} : Kp2 a b H H := fun _ _ _ _ e => e
theorem Kp2.trans {a b : Addr} {H H1 H2 : Hp} (x : Kp2 a b H H1) (y : Kp2 a b H1 H2) : Kp2 a b H H2 := fun c o h1 h2 e => y c o h1 h2 (x c o h1 h2 e)
theorem kps {a b : Addr} {H H' : Hp} (x : Same H H') : Kp2 a b H H' := fun c o _ _ e => x c o e
theorem same_new {H : Hp} {p : Addr} {o : HO} (h : H p = none) : Same H (upd H p o) := fun b x e => by
  rw [upd_ne (ne_of_none e h)]
  exact e
theorem kp2_upd1 {a b : Addr} {H : Hp} {o : HO} : Kp2 a b H (upd H a o) := fun c x h1 _ e => by rw [upd_ne h1]; exact e
theorem kp2_upd2 {a b : Addr} {H : Hp} {o : HO} : Kp2 a b H (upd H b o) := fun c x _ h2 e => by rw [upd_ne h2]; exact e

/-- the deck at dk: its cells at c, none below 0; at most B draws so far -/
structure Deck (H : Hp) (dk c : Addr) (B : Nat) : Prop where
  ex : ∃ (ns : List Int) (t : Int), H dk = some (.lst [.ref c, .int t]) ∧ H c = some (.lst (ns.map V.int)) ∧ (∀ n ∈ ns, 0 ≤ n) ∧ ns.length ≤ 63 ∧ 0 ≤ t ∧ t ≤ (B : Int)
  ne : dk ≠ c
theorem Deck.up {H : Hp} {dk c : Addr} {B B' : Nat} (d : Deck H dk c B) (h : B ≤ B') : Deck H dk c B' := by
  obtain ⟨⟨ns, t, h1, h2, h3, h4, h5, h6⟩, ne⟩ := d
  exact ⟨⟨ns, t, h1, h2, h3, h4, h5, by omega⟩, ne⟩
theorem Deck.keep {H H' : Hp} {dk c : Addr} {B : Nat} (d : Deck H dk c B) (k : Same H H') : Deck H' dk c B := by
  obtain ⟨⟨ns, t, h1, h2, h3⟩, ne⟩ := d
  exact ⟨⟨ns, t, k _ _ h1, k _ _ h2, h3⟩, ne⟩

theorem scDraw : FnScope ["_law_deck_here", "_law_limit", "_law_cell", "_law_index"] ["_law_deck_here", "_law_limit"] (defScope sDraw) := ⟨rfl, rfl, rfl, by decide +kernel, rfl, by decide +kernel, by decide +kernel⟩

section
variable {P : Program} {w : World} {K : PySem.W.Frag} {mg : Str → Option Value} {base : Heap}
/-- a drawn number from 0 to L - 1: the deck turns, all else stands -/
def spDraw : Sp := fun vs H Q _ => ∃ (dk c : Addr) (B : Nat) (L : Int), vs = [.ref dk, .int L] ∧ Deck H dk c B ∧ B ≤ 1000000 ∧ 1 ≤ L ∧ L ≤ 1000 ∧
  ∀ r H', 0 ≤ r → r < L → Kp2 dk c H H' → Deck H' dk c (B + 1) → Q (.int r) H'
theorem ok_draw {f : Addr} {fd : FuncData} {k : Nat} (F : Fun K "_law_draw" "_law_draw" sDraw f fd) (ml : mg "len" = none) : FnOk P w K mg base CX0 (k + 1) f fd ["_law_deck_here", "_law_limit"] spDraw := by
  refine F.ok scDraw (fun vs H Q E h => ?_) (fun cdv A outer s H vs Q E hr h => ?_)
  · obtain ⟨dk, c, B, L, rfl, _⟩ := h
    rfl
  · obtain ⟨dk, c, B, L, rfl, ⟨⟨ns, t, hdk, hc, hpos, hlen, t0, tB⟩, dne⟩, hB, hL1, hL2, q⟩ := h
    refine ⟨_, pss_cons (ps_asg (pe_op op_add (pe_ix ix_list (pv 0) pe_int (fun _ _ => rfl)) pe_int) (pg_sub (pv 0) pe_int set_list))
      (pss_cons (ps_asg (pe_tup (pa_cons pe_int (pa_cons (pe_un un_neg pe_int) pa_nil))) (pg_tup rfl (pgs_cons (pg_name (i := 2) scDraw.nd rfl (.inl rfl)) (pgs_cons (pg_name (i := 3) scDraw.nd rfl (.inl rfl)) pgs_nil))))
      (C8.pss_cut (ps_if (pt_cmpR op_gt (pe_callB call_len_seq (by rfl) ml PySem.boot_len (pa_cons (pe_ix ix_list (pv 0) pe_int (fun _ _ => rfl)) pa_nil)) pe_int (nomark _))
          (pss_cons (ps_set (i := 3) scDraw.nd rfl (.inl rfl) (pe_op op_modN (pe_ix ix_list (pv 0) pe_int (fun _ _ => rfl)) (pe_callB call_len_seq (by rfl) ml PySem.boot_len (pa_cons (pe_ix ix_list (pv 0) pe_int (fun _ _ => rfl)) pa_nil))))
          (pss_one (ps_set (i := 2) scDraw.nd rfl (.inl rfl) (pe_ix ix_list (pe_ix ix_list (pv 0) pe_int (fun _ _ => rfl)) (pv 3) (fun _ _ => rfl)))))
          pss_nil)
      (pss_cons (ps_if (pt_cmpR op_ge (pv 2) (pe_op op_pow pe_int pe_int) (nomark _))
          (pss_cons (ps_asg (pe_op op_fdivN (pv 2) (pv 1)) (pg_sub (pe_ix ix_list (pv 0) pe_int (fun _ _ => rfl)) (pv 3) set_list))
          (pss_one (ps_ret (pe_op op_modN (pv 2) (pv 1)))))
          pss_nil)
      (pss_one (ps_ret (pe_op op_modN (pe_op op_fdivN (pe_op op_modN (pe_op op_pow (pe_op op_add (pe_op op_add (pe_op op_modN (pv 2) pe_int) (pe_op op_mul pe_int (pe_ix ix_list (pv 0) pe_int (fun _ _ => rfl)))) pe_int) pe_int) pe_int) pe_int) (pv 1))))))), ?_⟩
    -- _law_deck_here[1] = _law_deck_here[1] + 1
    refine ⟨.ref dk, rfl, dk, _, 1, .int t, rfl, rfl, SqL.of hdk, atI_nat (j := 1) rfl, t, 1, rfl, rfl, .ref dk, rfl, dk, _, 1, 1, rfl, rfl, hdk, rfl, ?_⟩
    have hdk1 : (upd H dk (.lst [.ref c, .int (t + 1)])) dk = some (.lst [.ref c, .int (t + 1)]) := upd_same
    have hc1 : (upd H dk (.lst [.ref c, .int (t + 1)])) c = some (.lst (ns.map V.int)) := by
      rw [upd_ne dne.symm]
      exact hc
    -- _law_cell, _law_index = (0, -1)
    refine ⟨1, rfl, by show 2 ≤ sizeLine; decide, fun p np => ?_⟩
    have s2 : Same _ _ := same_new (o := .tup [.int 0, .int (-1)]) np
    have hdk2 := s2 _ _ hdk1
    have hc2 := s2 _ _ hc1
    have k2 : Kp2 dk c H (upd (upd H dk (.lst [.ref c, .int (t + 1)])) p (.tup [.int 0, .int (-1)])) := kp2_upd1.trans (kps s2)
    refine ⟨p, [.int 0, .int (-1)], rfl, .inl (.inl upd_same), rfl, .int 0, [.int (-1)], rfl, .int (-1), [], rfl, rfl, ?_⟩
    refine ⟨fun σ' H' => ∃ cell idx : Int, σ' = [some (.ref dk), some (.int L), some (.int cell), some (.int idx)] ∧ Kp2 dk c H H' ∧ H' dk = some (.lst [.ref c, .int (t + 1)]) ∧ H' c = some (.lst (ns.map V.int)) ∧ 0 ≤ cell ∧
      (10 ^ 18 ≤ cell → ∃ j : Nat, idx = j ∧ j < ns.length), ?_, ?_⟩
    · -- if len(_law_deck_here[0]) > 0
      refine ⟨.ref dk, rfl, dk, _, 0, .ref c, rfl, rfl, SqL.of hdk2, atI_nat (j := 0) rfl, c, _, rfl, .inl (SqL.of hc2), _, _, rfl, rfl, _, rfl, ite2 (fun e => ?_) (fun e => ?_)⟩
      · have e0 : (0 : Int) < ((ns.map V.int).length : Int) := of_decide_eq_true e
        rw [List.length_map] at e0
        have b1 := Int.fmod_nonneg_of_pos (t + 1) e0
        have b2 := Int.fmod_lt_of_pos (t + 1) e0
        obtain ⟨j, hj⟩ : ∃ j : Nat, (t + 1).fmod (ns.length : Int) = j := ⟨((t + 1).fmod (ns.length : Int)).toNat, by omega⟩
        have hjl : j < ns.length := by omega
        have gj : (ns.map V.int)[j]? = some (.int ns[j]) := by
          rw [List.getElem?_map, List.getElem?_eq_getElem hjl]
          rfl
        refine ⟨.ref dk, rfl, dk, _, 1, .int (t + 1), rfl, rfl, SqL.of hdk2, atI_nat (j := 1) rfl, .ref dk, rfl, dk, _, 0, .ref c, rfl, rfl, SqL.of hdk2, atI_nat (j := 0) rfl, c, _, rfl, .inl (SqL.of hc2), t + 1, _, rfl, rfl, ?_, ?_⟩
        · rw [List.length_map]
          omega
        · refine ⟨.ref dk, rfl, dk, _, 0, .ref c, rfl, rfl, SqL.of hdk2, atI_nat (j := 0) rfl, _, rfl, c, _, (j : Int), .int ns[j], rfl, ?_, SqL.of hc2, atI_nat gj, ?_⟩
          · show V.int ((t + 1).fmod _) = _
            rw [List.length_map, hj]
          · refine ⟨ns[j], j, ?_, k2, hdk2, hc2, hpos _ (List.getElem_mem hjl), fun _ => ⟨j, rfl, hjl⟩⟩
            show [some (V.ref dk), some (V.int L), some (V.int ns[j]), some (V.int ((t + 1).fmod _))] = _
            rw [List.length_map, hj]
      · exact ⟨0, -1, rfl, k2, hdk2, hc2, Int.le_refl _, fun z => absurd z (by decide)⟩
    · rintro σ' H' ⟨cell, idx, rfl, k2, hdk2, hc2, hcell, hidx⟩
      have hB1 : t + 1 ≤ ((B + 1 : Nat) : Int) := by omega
      -- if _law_cell >= 10 ** 18
      refine ⟨_, rfl, 10, 18, rfl, rfl, ⟨by decide, by decide, by decide⟩, _, _, rfl, rfl, _, rfl, ite2 (fun e => ?_) (fun e => ?_)⟩
      · have e0 : (10 : Int) ^ (18 : Int).toNat ≤ cell := of_decide_eq_true e
        obtain ⟨j, rfl, hjl⟩ := hidx e0
        have hix : ixN (ns.map V.int).length (j : Int) = some j := by
          unfold ixN
          rw [if_pos (by omega), if_pos (by rw [List.length_map]; omega)]
          simp
        refine ⟨_, rfl, _, rfl, cell, L, rfl, rfl, ⟨by omega, by omega⟩, .ref dk, rfl, dk, _, 0, .ref c, rfl, rfl, SqL.of hdk2, atI_nat (j := 0) rfl, _, rfl, c, _, (j : Int), j, rfl, rfl, hc2, hix, ?_⟩
        refine ⟨_, rfl, _, rfl, cell, L, rfl, rfl, by omega, ?_⟩
        refine q _ _ (Int.fmod_nonneg_of_pos _ (by omega)) (Int.fmod_lt_of_pos _ (by omega)) (k2.trans kp2_upd2) ⟨⟨ns.set j (cell.fdiv L), t + 1, ?_, ?_, ?_, ?_, by omega, hB1⟩, dne⟩
        · rw [upd_ne dne]
          exact hdk2
        · rw [upd_same, List.map_set]
        · intro n hn
          rcases List.mem_or_eq_of_mem_set hn with h | h
          · exact hpos n h
          · rw [h]
            exact Int.fdiv_nonneg hcell (by omega)
        · rw [List.length_set]
          exact hlen
      · have b1 := Int.fmod_nonneg_of_pos cell (show (0 : Int) < 2147483587 by decide)
        have b2 := Int.fmod_lt_of_pos cell (show (0 : Int) < 2147483587 by decide)
        refine ⟨_, rfl, cell, 2147483587, rfl, rfl, (by show (2147483587 : Int) ≠ 0; decide), .ref dk, rfl, dk, _, 1, .int (t + 1), rfl, rfl, SqL.of hdk2, atI_nat (j := 1) rfl, 7919, t + 1, rfl, rfl, .inl ⟨by decide, by decide⟩,
          _, _, rfl, rfl, _, _, rfl, rfl, _, 5, rfl, rfl, ⟨by decide, by decide, by omega⟩, _, 2147483647, rfl, rfl, (by show (2147483647 : Int) ≠ 0; decide), _, 7, rfl, rfl, ⟨by decide, by decide⟩, _, rfl, _, L, rfl, rfl, by omega, ?_⟩
        exact q _ _ (Int.fmod_nonneg_of_pos _ (by omega)) (Int.fmod_lt_of_pos _ (by omega)) k2 ⟨⟨ns, t + 1, hdk2, hc2, hpos, hlen, by omega, hB1⟩, dne⟩
end
end DD
namespace DD
open PySem PySem.Spec PyProof.Rows L2
theorem get_map {α β : Type} {f : α → β} {xs : List α} {i : Nat} {y : β} (h : (xs.map f)[i]? = some y) : ∃ x, xs[i]? = some x ∧ y = f x := by
  rw [List.getElem?_map] at h
  cases e : xs[i]? with
  | none => rw [e] at h; cases h
  | some x => rw [e] at h; exact ⟨x, rfl, (Option.some.inj h).symm⟩
theorem take_succ_map {α β : Type} {f : α → β} {xs : List α} {i : Nat} {x : α} (h : xs[i]? = some x) : (xs.take (i + 1)).map f = (xs.take i).map f ++ [f x] := by
  rw [List.take_add_one, h, List.map_append]
  rfl
theorem cutV_map {ns : List Int} {lo hi : Option Int} : ∃ ms : List Int, cutV (ns.map V.int) lo hi = ms.map V.int ∧ ms.length ≤ ns.length := by
  refine ⟨(ns.drop (HT.sIx ns.length 0 lo)).take (HT.sIx ns.length ns.length hi - HT.sIx ns.length 0 lo), ?_, ?_⟩
  · unfold cutV
    rw [List.length_map, List.map_take, List.map_drop]
  · rw [List.length_take, List.length_drop]
    omega
theorem len_lt {n : Nat} (h : n ≤ 1000) : n < sizeLine := small1000 h
def absI (i : Int) : Int := if i < 0 then -i else i
theorem absI_pos (i : Int) : 0 ≤ absI i := by
  unfold absI
  split <;> omega

theorem scDeck : FnScope ["_law_script", "_law_cell"] ["_law_script"] (defScope sDeck) := ⟨rfl, rfl, rfl, by decide +kernel, rfl, by decide +kernel, by decide +kernel⟩
section
variable {P : Program} {w : World} {K : PySem.W.Frag} {mg : Str → Option Value} {base : Heap}
def spDeck (K : PySem.W.Frag) : Sp := fun vs H Q _ => ∃ (a : Addr) (ns : List Int), vs = [.ref a] ∧ SqL K H a (ns.map V.int) ∧ ns.length ≤ 63 ∧
  ∀ dk c H', Same H H' → H dk = none → H c = none → Deck H' dk c 0 → Q (.ref dk) H'
theorem ok_deck {f : Addr} {fd : FuncData} {k : Nat} (F : Fun K "_law_deck" "_law_deck" sDeck f fd) (ma : mg "abs" = none) : FnOk P w K mg base CX0 (k + 1) f fd ["_law_script"] (spDeck K) := by
  refine F.ok scDeck (fun vs H Q E h => ?_) (fun cdv A outer s H vs Q E hr h => ?_)
  · obtain ⟨a, ns, rfl, _⟩ := h
    rfl
  · obtain ⟨a, ns, rfl, hS, hlen, q⟩ := h
    refine ⟨_, pss_one (ps_ret (pe_lst (pa_cons (pe_lc (own := [("_law_cell", 1)]) (g := gName 1) rfl scDeck.nd (pi_list (pe_slice sl_list (pv 0) po_none (po_some pe_int)))
      (blkOk_by (own := [("_law_cell", 1)]) (N := ["_law_script", "_law_cell"]) (sc := defScope sDeck) (by decide +kernel)) (fun _ _ _ _ _ => pg_name (i := 1) scDeck.nd rfl (Or.inl rfl)) (fun _ _ _ _ _ => pts_nil)
      (fun _ _ _ _ _ => pe_callB call_abs (by rfl) ma (by decide +kernel) (pa_cons (pv 1) pa_nil))) (pa_cons pe_int pa_nil)))), ?_⟩
    refine ⟨.ref a, rfl, 63, rfl, a, _, rfl, hS, fun p np => ?_⟩
    obtain ⟨ms, em, hml⟩ := cutV_map (ns := ns) (lo := none) (hi := some 63)
    rw [em]
    refine ⟨p, rfl, ⟨_, SqL.of upd_same⟩, fun D nD => ?_⟩
    have hp0 : Same H (upd H p (.lst (ms.map V.int))) := same_new np
    refine lc_list (xs := ms.map V.int) (fun i H' => H' D = some (.lst ((ms.take i).map fun n => V.int (absI n))) ∧ Same (upd H p (.lst (ms.map V.int))) H') ⟨upd_same, same_new nD⟩
      (fun i H' _ h => SqL.of (h.2 _ _ upd_same)) (fun i x H' hx h => ?_) (fun H' h => ?_)
    · obtain ⟨n, hn, rfl⟩ := get_map hx
      obtain ⟨hD, sm⟩ := h
      refine ⟨rfl, _, rfl, n, rfl, _, hD, ?_, ?_, fun b o e => ?_⟩
      · rw [List.length_map, List.length_take]
        exact len_lt (by omega)
      · rw [upd_same, take_succ_map hn]
        rfl
      · have hne : b ≠ D := ne_of_none e nD
        rw [upd_ne hne]
        exact sm b o e
    · obtain ⟨hD, sm⟩ := h
      rw [List.length_map, List.take_length] at hD
      refine ⟨by show 2 ≤ sizeLine; decide, fun dk nk => ?_⟩
      have ndk : D ≠ dk := ne_of_none hD nk
      refine q dk D _ (hp0.trans (sm.trans (same_new nk))) ?_ ?_ ⟨⟨ms.map absI, 0, upd_same, ?_, ?_, ?_, Int.le_refl _, Int.le_refl _⟩, ndk.symm⟩
      · exact hp0.free (sm.free nk)
      · exact hp0.free nD
      · rw [upd_ne ndk, hD, List.map_map]
        rfl
      · intro n hn
        obtain ⟨m, _, rfl⟩ := List.mem_map.mp hn
        exact absI_pos m
      · rw [List.length_map]
        omega
end
end DD
namespace DD
open PySem PySem.Spec PyProof.Rows L2
theorem four_at {r : Int} (h0 : 0 ≤ r) (h : r < 4) : ∃ b : Int, (b = 0 ∨ b = 1) ∧ atI [V.int 0, V.int 1, V.int 1, V.int 1] r = some (.int b) := by
  have e : r = 0 ∨ r = 1 ∨ r = 2 ∨ r = 3 := by omega
  rcases e with rfl | rfl | rfl | rfl
  · exact ⟨0, .inl rfl, rfl⟩
  · exact ⟨1, .inr rfl, rfl⟩
  · exact ⟨1, .inr rfl, rfl⟩
  · exact ⟨1, .inr rfl, rfl⟩
theorem scCounts : FnScope ["_law_deck_here", "_law_kinds", "_law_most", "_law_k"] ["_law_deck_here", "_law_kinds", "_law_most"] (defScope sCounts) := ⟨rfl, rfl, rfl, by decide +kernel, rfl, by decide +kernel, by decide +kernel⟩
theorem Deck.kp {H : Hp} {dk c l : Addr} {B : Nat} {o : HO} (d : Deck H dk c B) (n : H l = none) : Deck (upd H l o) dk c B := d.keep (same_new n)
theorem Deck.nedk {H : Hp} {dk c l : Addr} {B : Nat} (d : Deck H dk c B) (n : H l = none) : l ≠ dk ∧ l ≠ c := by
  obtain ⟨ns, t, h1, h2, _⟩ := d.ex
  exact ⟨(ne_of_none h1 n).symm, (ne_of_none h2 n).symm⟩
section
variable {P : Program} {w : World} {K : PySem.W.Frag} {mg : Str → Option Value} {base : Heap}
/-- a tuple of n drawn numbers from 0 to m -/
def spCounts : Sp := fun vs H Q _ => ∃ (dk c : Addr) (B n : Nat) (m : Int), vs = [.ref dk, .int n, .int m] ∧ Deck H dk c B ∧ n ≤ 100 ∧ B + 2 * n ≤ 1000000 ∧ 0 ≤ m ∧ m ≤ 900 ∧
  ∀ t (row : List Int) H', row.length = n → (∀ x ∈ row, 0 ≤ x ∧ x ≤ m) → H t = none → H' t = some (.tup (row.map V.int)) → Kp2 dk c H H' → Deck H' dk c (B + 2 * n) → Q (.ref t) H'
theorem ok_counts {f fD : Addr} {fd fdD : FuncData} {k : Nat} (F : Fun K "_law_counts" "_law_counts" sCounts f fd) (FD : Fun K "_law_draw" "_law_draw" sDraw fD fdD)
    (bD : Binds K fdD ["_law_deck_here", "_law_limit"] []) (gD : mg "_law_draw" = some (.ref fD)) (ml : mg "len" = none) (mt : mg "tuple" = none) (mr : mg "range" = none) :
    FnOk P w K mg base CX0 (k + 2) f fd ["_law_deck_here", "_law_kinds", "_law_most"] spCounts := by
  have GD : FnOk P w K mg base CX0 (k + 1) fD fdD ["_law_deck_here", "_law_limit"] spDraw := ok_draw FD ml
  refine F.ok scCounts (fun vs H Q E h => ?_) (fun cdv A outer s H vs Q E hr h => ?_)
  · obtain ⟨dk, c, B, n, m, rfl, _⟩ := h
    rfl
  · obtain ⟨dk, c, B, n, m, rfl, dek, hn, hB, hm0, hm1, q⟩ := h
    refine ⟨_, pss_one (ps_ret (pe_callTy call_tuple_of (by rfl) mt (by decide +kernel) (pa_cons (pe_lc (own := [("_law_k", 3)]) (g := gName 3) rfl scCounts.nd (pi_range1 (by rfl) mr (pa_cons (pv 1) pa_nil))
      (blkOk_by (own := [("_law_k", 3)]) (N := ["_law_deck_here", "_law_kinds", "_law_most", "_law_k"]) (sc := defScope sCounts) (by decide +kernel)) (fun _ _ _ _ _ => pg_name (i := 3) scCounts.nd rfl (Or.inl rfl)) (fun _ _ _ _ _ => pts_nil)
      (fun _ _ _ _ _ => pe_op op_mul (pe_call GD hr (by rfl) gD FD.kp bD .nil pass0 (pa_cons (pv 0) (pa_cons (pe_op op_add (pv 2) pe_int) pa_nil)))
        (pe_ix (show IxR _ (rIxL K) from ix_list) (pe_lst (pa_cons pe_int (pa_cons pe_int (pa_cons pe_int (pa_cons pe_int pa_nil))))) (pe_call GD hr (by rfl) gD FD.kp bD .nil pass0 (pa_cons (pv 0) (pa_cons pe_int pa_nil))) (fun _ _ => rfl)))) pa_nil))), ?_⟩
    refine ⟨_, rfl, n, rfl, by omega, by omega, fun D nD => ?_⟩
    have dne := dek.nedk nD
    refine lc_range (lo := 0) (n := n) (fun i H' => ∃ row : List Int, row.length = i ∧ (∀ x ∈ row, 0 ≤ x ∧ x ≤ m) ∧ H' D = some (.lst (row.map V.int)) ∧ Kp2 dk c H H' ∧ Deck H' dk c (B + 2 * i))
      ⟨[], rfl, (fun x h => by cases h), upd_same, kps (same_new nD), dek.kp nD⟩ (fun i H' hi h => ?_) (fun H' h => ?_)
    · obtain ⟨row, hl, hrow, hD, kp, dk1⟩ := h
      refine ⟨rfl, _, rfl, _, rfl, m, 1, rfl, rfl, dk, c, B + 2 * i, m + 1, rfl, dk1, by omega, by omega, by omega, fun r H1 r0 r1 k1 d1 => ?_⟩
      refine ⟨by show 4 ≤ sizeLine; decide, fun l nl => ?_⟩
      refine ⟨_, rfl, dk, c, B + 2 * i + 1, 4, rfl, d1.kp nl, by omega, by decide, by decide, fun r2 H3 s0 s1 k2 d2 => ?_⟩
      obtain ⟨b, hb, eb⟩ := four_at s0 s1
      have lne := d1.nedk nl
      have hl3 : H3 l = some (.lst [V.int 0, V.int 1, V.int 1, V.int 1]) := k2 _ _ lne.1 lne.2 upd_same
      have hD3 : H3 D = some (.lst (row.map V.int)) := by
        have hD1 := k1 _ _ dne.1 dne.2 hD
        exact k2 _ _ dne.1 dne.2 (same_new nl _ _ hD1)
      refine ⟨l, _, r2, .int b, rfl, rfl, SqL.of hl3, eb, r, b, rfl, rfl, .inr (by rcases hb with rfl | rfl <;> decide), _, hD3, ?_, row ++ [r * b], ?_, ?_, ?_, ?_, ?_⟩
      · rw [List.length_map]
        exact len_lt (by omega)
      · rw [List.length_append, hl]
        rfl
      · intro x hx
        rcases List.mem_append.mp hx with h | h
        · exact hrow x h
        · rw [List.mem_singleton.mp h]
          rcases hb with rfl | rfl
          · rw [Int.mul_zero]
            omega
          · rw [Int.mul_one]
            omega
      · rw [upd_same, List.map_append]
        rfl
      · intro b' o h1 h2 e
        have e3 := k2 b' o h1 h2 (same_new nl _ _ (k1 b' o h1 h2 (kp b' o h1 h2 e)))
        have hne : b' ≠ D := ne_of_none e nD
        rw [upd_ne hne]
        exact e3
      · obtain ⟨⟨ns, t, a1, a2, a3⟩, a4⟩ := d2
        refine ⟨⟨ns, t, ?_, ?_, a3.1, a3.2.1, a3.2.2.1, ?_⟩, a4⟩
        · rw [upd_ne dne.1.symm]
          exact a1
        · rw [upd_ne dne.2.symm]
          exact a2
        · have := a3.2.2.2
          omega
    · obtain ⟨row, hl, hrow, hD, kp, dk1⟩ := h
      refine ⟨D, _, rfl, .inl ⟨SqL.of hD, fun t nt => ?_⟩⟩
      have nt0 : H t = none := by
        have tne := dk1.nedk nt
        cases e : H t with
        | none => rfl
        | some o =>
          have := kp t o tne.1 tne.2 e
          rw [nt] at this
          cases this
      exact q t row _ hl hrow nt0 upd_same (kp.trans (kps (same_new nt))) (dk1.kp nt)
end
end DD
namespace DD
open PySem PySem.Spec PyProof.Rows L2
theorem two_at {r a b : Int} (h0 : 0 ≤ r) (h : r < 2) : ∃ z : Int, (z = a ∨ z = b) ∧ atI [V.int a, V.int b] r = some (.int z) := by
  have e : r = 0 ∨ r = 1 := by omega
  rcases e with rfl | rfl
  · exact ⟨a, .inl rfl, rfl⟩
  · exact ⟨b, .inr rfl, rfl⟩
theorem kp_free {dk c t : Addr} {H H' : Hp} {B : Nat} (kp : Kp2 dk c H H') (d : Deck H' dk c B) (nt : H' t = none) : H t = none := by
  have tne := d.nedk nt
  cases e : H t with
  | none => rfl
  | some o =>
    have := kp t o tne.1 tne.2 e
    rw [nt] at this
    cases this
theorem Deck.updD {H : Hp} {dk c D : Addr} {B : Nat} {o : HO} (d : Deck H dk c B) (h1 : D ≠ dk) (h2 : D ≠ c) : Deck (upd H D o) dk c B := by
  obtain ⟨⟨ns, t, a1, a2, a3⟩, a4⟩ := d
  refine ⟨⟨ns, t, ?_, ?_, a3⟩, a4⟩
  · rw [upd_ne h1.symm]
    exact a1
  · rw [upd_ne h2.symm]
    exact a2
/-- the tuple at t holds tuples of ints: the rows -/
structure StockAt (H : Hp) (t : Addr) (ls : List Addr) (rows : List (List Int)) : Prop where
  top : H t = some (.tup (ls.map V.ref))
  len : ls.length = rows.length
  row : ∀ (j : Nat) (l : Addr) (r : List Int), ls[j]? = some l → rows[j]? = some r → H l = some (.tup (r.map V.int))
theorem StockAt.kp {H H' : Hp} {dk c t : Addr} {ls : List Addr} {rows : List (List Int)} {B : Nat} (a : StockAt H t ls rows) (k : Kp2 dk c H H') (d : Deck H dk c B) : StockAt H' t ls rows := by
  obtain ⟨ns, t', h1, h2, _⟩ := d.ex
  have n1 : ∀ b xs, H b = some (.tup xs) → b ≠ dk ∧ b ≠ c := fun b xs e =>
    ⟨fun z => (by rw [z, h1] at e; cases e), fun z => (by rw [z, h2] at e; cases e)⟩
  refine ⟨k _ _ (n1 _ _ a.top).1 (n1 _ _ a.top).2 a.top, a.len, fun j l r e1 e2 => ?_⟩
  have h := a.row j l r e1 e2
  exact k _ _ (n1 _ _ h).1 (n1 _ _ h).2 h
theorem StockAt.same {H H' : Hp} {t : Addr} {ls : List Addr} {rows : List (List Int)} (a : StockAt H t ls rows) (k : Same H H') : StockAt H' t ls rows :=
  ⟨k _ _ a.top, a.len, fun j l r e1 e2 => k _ _ (a.row j l r e1 e2)⟩
theorem scStock : FnScope ["_law_deck_here", "_law_most", "_law_high", "_law_kinds", "_law_count", "_law_k"] ["_law_deck_here", "_law_most", "_law_high", "_law_kinds"] (defScope sStock) := ⟨rfl, rfl, rfl, by decide +kernel, rfl, by decide +kernel, by decide +kernel⟩
section
variable {P : Program} {w : World} {K : PySem.W.Frag} {mg : Str → Option Value} {base : Heap}
/-- a stock of one to M drawers of n kinds, of numbers from 0 to hi -/
def spStock : Sp := fun vs H Q _ => ∃ (dk c : Addr) (B M n : Nat) (hi : Int), vs = [.ref dk, .int M, .int hi, .int n] ∧ Deck H dk c B ∧ 1 ≤ M ∧ M ≤ 4 ∧ n ≤ 4 ∧ B + 40 ≤ 1000000 ∧ 0 ≤ hi ∧ hi ≤ 900 ∧
  ∀ t (ls : List Addr) (rows : List (List Int)) H', 1 ≤ rows.length → rows.length ≤ M → (∀ row ∈ rows, row.length = n ∧ ∀ x ∈ row, 0 ≤ x ∧ x ≤ hi) → StockAt H' t ls rows → Kp2 dk c H H' → Deck H' dk c (B + 40) → Q (.ref t) H'
theorem ok_stock {f fD fC : Addr} {fd fdD fdC : FuncData} {k : Nat} (F : Fun K "_law_stock" "_law_stock" sStock f fd) (FD : Fun K "_law_draw" "_law_draw" sDraw fD fdD) (FC : Fun K "_law_counts" "_law_counts" sCounts fC fdC)
    (bD : Binds K fdD ["_law_deck_here", "_law_limit"] []) (gD : mg "_law_draw" = some (.ref fD)) (bC : Binds K fdC ["_law_deck_here", "_law_kinds", "_law_most"] []) (gC : mg "_law_counts" = some (.ref fC))
    (ml : mg "len" = none) (mt : mg "tuple" = none) (mr : mg "range" = none) :
    FnOk P w K mg base CX0 (k + 3) f fd ["_law_deck_here", "_law_most", "_law_high", "_law_kinds"] spStock := by
  have GD : FnOk P w K mg base CX0 (k + 1) fD fdD ["_law_deck_here", "_law_limit"] spDraw := ok_draw FD ml
  have GC : FnOk P w K mg base CX0 (k + 2) fC fdC ["_law_deck_here", "_law_kinds", "_law_most"] spCounts := ok_counts FC FD bD gD ml mt mr
  refine F.ok scStock (fun vs H Q E h => ?_) (fun cdv A outer s H vs Q E hr h => ?_)
  · obtain ⟨dk, c, B, M, n, hi, rfl, _⟩ := h
    rfl
  · obtain ⟨dk, c, B, M, n, hi, rfl, dek, hM1, hM4, hn, hB, h0, h9, q⟩ := h
    refine ⟨_, pss_cons (ps_set (i := 4) scStock.nd rfl (.inl rfl) (pe_ix (show IxR _ (rIxL K) from ix_list)
        (pe_lst (pa_cons (pe_op op_add pe_int (pe_call GD (hr.mono (by omega)) (by rfl) gD FD.kp bD .nil pass0 (pa_cons (pv 0) (pa_cons (pv 1) pa_nil)))) (pa_cons (pv 1) pa_nil)))
        (pe_call GD (hr.mono (by omega)) (by rfl) gD FD.kp bD .nil pass0 (pa_cons (pv 0) (pa_cons pe_int pa_nil))) (fun _ _ => rfl)))
      (pss_one (ps_ret (pe_callTy call_tuple_of (by rfl) mt (by decide +kernel) (pa_cons (pe_lc (own := [("_law_k", 5)]) (g := gName 5) rfl scStock.nd (pi_range1 (by rfl) mr (pa_cons (pv 4) pa_nil))
        (blkOk_by (own := [("_law_k", 5)]) (N := ["_law_deck_here", "_law_most", "_law_high", "_law_kinds", "_law_count", "_law_k"]) (sc := defScope sStock) (by decide +kernel)) (fun _ _ _ _ _ => pg_name (i := 5) scStock.nd rfl (Or.inl rfl)) (fun _ _ _ _ _ => pts_nil)
        (fun _ _ _ _ _ => pe_call GC hr (by rfl) gC FC.kp bC .nil pass0 (pa_cons (pv 0) (pa_cons (pv 3) (pa_cons (pv 2) pa_nil))))) pa_nil)))), ?_⟩
    -- _law_count = [1 + draw(most), most][draw(2)]
    refine ⟨_, rfl, _, rfl, dk, c, B, M, rfl, dek, by omega, by omega, by omega, fun r1 H1 a0 a1 k1 d1 => ?_⟩
    refine ⟨1, r1, rfl, rfl, _, rfl, by show 2 ≤ sizeLine; decide, fun l nl => ?_⟩
    refine ⟨_, rfl, dk, c, B + 1, 2, rfl, d1.kp nl, by omega, by decide, by decide, fun r2 H2 b0 b1 k2 d2 => ?_⟩
    have lne := d1.nedk nl
    have hl2 : H2 l = some (.lst [V.int (1 + r1), V.int M]) := k2 _ _ lne.1 lne.2 upd_same
    obtain ⟨z, hz, ez⟩ := two_at (a := 1 + r1) (b := M) b0 b1
    have k02 : Kp2 dk c H H2 := k1.trans ((kps (same_new nl)).trans k2)
    refine ⟨l, _, r2, .int z, rfl, rfl, SqL.of hl2, ez, ?_⟩
    obtain ⟨cnt, rfl, hc1, hc4⟩ : ∃ cnt : Nat, z = (cnt : Int) ∧ 1 ≤ cnt ∧ cnt ≤ M := by
      rcases hz with rfl | rfl
      · exact ⟨(1 + r1).toNat, by omega, by omega, by omega⟩
      · exact ⟨M, rfl, hM1, Nat.le_refl _⟩
    -- the drawers
    refine ⟨_, rfl, cnt, rfl, by omega, by omega, fun D nD => ?_⟩
    have dne := d2.nedk nD
    refine lc_range (lo := 0) (n := cnt) (fun i H' => ∃ (ls : List Addr) (rows : List (List Int)), rows.length = i ∧ (∀ row ∈ rows, row.length = n ∧ ∀ x ∈ row, 0 ≤ x ∧ x ≤ hi) ∧ ls.length = rows.length ∧
        (∀ (j : Nat) (l : Addr) (r : List Int), ls[j]? = some l → rows[j]? = some r → H' l = some (.tup (r.map V.int))) ∧ H' D = some (.lst (ls.map V.ref)) ∧ Kp2 dk c H2 H' ∧ Deck H' dk c (B + 2 + 8 * i))
      ⟨[], [], rfl, (fun x h => by cases h), rfl, (fun j l r e => by simp at e), upd_same, kps (same_new nD), (d2.kp nD).up (by omega)⟩ (fun i H' hi' h => ?_) (fun H' h => ?_)
    · obtain ⟨ls, rows, hl, hrow, hll, hat, hD, kp, dk1⟩ := h
      refine ⟨rfl, _, rfl, _, rfl, _, rfl, dk, c, B + 2 + 8 * i, n, hi, rfl, dk1, by omega, by omega, h0, h9, fun t row H3 e1 e2 e3 e4 k3 d3 => ?_⟩
      have hD3 : H3 D = some (.lst (ls.map V.ref)) := k3 _ _ dne.1 dne.2 hD
      have tD : t ≠ D := fun z => by rw [z, hD] at e3; cases e3
      refine ⟨_, hD3, ?_, ls ++ [t], rows ++ [row], ?_, ?_, ?_, ?_, ?_, ?_, ?_⟩
      · rw [List.length_map]
        exact len_lt (by omega)
      · rw [List.length_append, hl]
        rfl
      · intro x hx
        rcases List.mem_append.mp hx with h | h
        · exact hrow x h
        · rw [List.mem_singleton.mp h]
          exact ⟨e1, e2⟩
      · rw [List.length_append, List.length_append, hll]
        rfl
      · intro j l' r' x1 x2
        by_cases hj : j < ls.length
        · rw [List.getElem?_append_left hj] at x1
          rw [List.getElem?_append_left (by omega)] at x2
          have h := hat j l' r' x1 x2
          have hne : l' ≠ D := fun z => by rw [z, hD] at h; cases h
          obtain ⟨ns, t', h1, h2, _⟩ := dk1.ex
          rw [upd_ne hne]
          exact k3 _ _ (fun z => by rw [z, h1] at h; cases h) (fun z => by rw [z, h2] at h; cases h) h
        · have hj2 : j = ls.length := by
            have := (List.getElem?_eq_some_iff.mp x1).1
            rw [List.length_append] at this
            simp at this
            omega
          subst hj2
          rw [List.getElem?_append_right (Nat.le_refl _), Nat.sub_self] at x1
          rw [hll, List.getElem?_append_right (Nat.le_refl _), Nat.sub_self] at x2
          obtain rfl : t = l' := Option.some.inj x1
          obtain rfl : row = r' := Option.some.inj x2
          rw [upd_ne tD]
          exact e4
      · rw [upd_same, List.map_append]
        rfl
      · intro b o h1 h2 e
        have hne : b ≠ D := ne_of_none e nD
        rw [upd_ne hne]
        exact k3 b o h1 h2 (kp b o h1 h2 e)
      · exact (d3.updD dne.1 dne.2).up (by omega)
    · obtain ⟨ls, rows, hl, hrow, hll, hat, hD, kp, dk1⟩ := h
      refine ⟨D, _, rfl, .inl ⟨SqL.of hD, fun t nt => ?_⟩⟩
      refine q t ls rows _ (by omega) (by omega) hrow ⟨upd_same, hll, fun j l' r' x1 x2 => ?_⟩ (k02.trans (kp.trans (kps (same_new nt)))) ((dk1.kp nt).up (by omega))
      exact same_new nt _ _ (hat j l' r' x1 x2)
end
end DD
namespace DD
open PySem PySem.Spec PyProof.Rows L2
theorem ints_of_vals : ∀ {ns : List Int} {us : List Value}, Vals (ns.map V.int) us → PyProof.Rows.IntsAre us ns
  | [], _, h => by
    cases h
    exact .nil
  | n :: ns, _, h => by
    cases h with
    | cons r t =>
      obtain ⟨k, rfl⟩ := r
      exact .cons n k (ints_of_vals t)
/-- sum of a tuple of ints -/
theorem cr_sumT {X : Cx} (hc : X.calm = true) : CallR X (.builtin "sum") (fun vs H Q => ∃ (a : Addr) (ns : List Int), vs = [V.ref a] ∧ SqT X.K H a (ns.map V.int) ∧ Q (.int ns.sum) H) := by
  intro pins s σ H xs us Q I r h
  obtain ⟨a, ns, rfl, hq, q⟩ := h
  obtain ⟨u, rfl, ru⟩ := vals1 r
  cases ru
  obtain ⟨its, rv, ⟨o, ho, hcl, n, hd⟩, _⟩ := I.tuple hq
  have ia := ints_of_vals rv
  obtain ⟨xs, e⟩ := ia.allInts.items
  have hn : numsOf (intItems xs).toList = ns := by rw [← e]; exact ia.numsOf
  rw [nums_intItems] at hn
  have ht : s.heap.IsTuple a (intItems xs) := by rw [← e]; exact ⟨o, ho, hcl, n, hd⟩
  refine PySem.W.ktm_sumG (I.ok.hd hc) ht fun h' tk t' hk => ?_
  rw [preSum_eq, List.take_of_length_le (by simp), hn]
  exact ⟨.int ns.sum, H, I.kept hk, ⟨t', rfl⟩, q⟩

/-- a comprehension over zip(*..) of tuples of one length -/
theorem lc_zipN {K : PySem.W.Frag} {ls : List Addr} {rows : List (List V)} {m : Nat} {g : TG} {tt : TT} {te : TE} {vs : List Nat} {σ : L2.St} {H1 : Hp} {D : Addr} {Qd : Hp → Prop}
    (Pv : Nat → Hp → Prop) (h0 : Pv 0 (upd H1 D (.lst []))) (hl : ∀ i H, i ≤ m → Pv i H → Rws K H ls rows m)
    (hs : ∀ i T H, i < m → Pv i H → H T = none → g (.ref T) (wipe σ vs) (upd H T (.tup (colV rows i))) fun σ2 H2 => wipe σ2 vs = wipe σ vs ∧ tt σ2 H2 fun b H3 =>
      if b = true then (te σ2 H3 fun y H4 => ∃ acc, H4 D = some (.lst acc) ∧ acc.length < sizeLine ∧ Pv (i + 1) (upd H4 D (.lst (acc ++ [y])))) else Pv (i + 1) H3) (hd : ∀ H, Pv m H → Qd H) :
    ∃ W : Nat → Nat → Hp → Prop, (∃ m, W 0 m (upd H1 D (.lst []))) ∧ ∀ i m0 H, W i m0 H → ((ItzN K ls rows m).stop i H ∧ Qd H) ∨ ((ItzN K ls rows m).go i H ∧
      ∃ Nx : Hp → Prop, (∀ H', Nx H' → ∃ m', m' < m0 ∧ W (i + 1) m' H') ∧ ∀ x H', (ItzN K ls rows m).yld i H x H' → g x (wipe σ vs) H' fun σ2 H2 => wipe σ2 vs = wipe σ vs ∧
        tt σ2 H2 fun b H3 => if b = true then (te σ2 H3 fun y H4 => ∃ acc, H4 D = some (.lst acc) ∧ acc.length < sizeLine ∧ Nx (upd H4 D (.lst (acc ++ [y])))) else Nx H3) := by
  refine ⟨fun i m0 H => m0 = m - i ∧ i ≤ m ∧ Pv i H, ⟨m, by simp, Nat.zero_le _, h0⟩, ?_⟩
  rintro i _ H ⟨rfl, hi, p⟩
  have q := hl i H hi p
  by_cases hlt : i < m
  · refine .inr ⟨⟨hlt, q⟩, Pv (i + 1), fun H' p' => ⟨m - (i + 1), by omega, rfl, hlt, p'⟩, fun x H' y => ?_⟩
    obtain ⟨T, rfl, nT, rfl⟩ := y
    exact hs i T H hlt p nT
  · obtain rfl : i = m := by omega
    exact .inl ⟨⟨rfl, q⟩, hd H p⟩

def sizesOf (rows : List (List Int)) : List Int := rows.map List.sum
/-- the sums of the columns 0 .. m - 1 -/
def totalsOf (rows : List (List Int)) (m : Nat) : List Int := (List.range m).map fun i => (rows.map fun r => r.getD i 0).sum

theorem scTotals : FnScope ["stock", "counts"] ["stock"] (defScope sTotals) := ⟨rfl, rfl, rfl, by decide +kernel, rfl, by decide +kernel, by decide +kernel⟩
section
variable {P : Program} {w : World} {K : PySem.W.Frag} {mg : Str → Option Value} {base : Heap}
/-- the rows, in a tuple or a list -/
def spTotals (K : PySem.W.Frag) : Sp := fun vs H Q _ => ∃ (t : Addr) (ls : List Addr) (rows : List (List Int)) (m : Nat), vs = [.ref t] ∧ (SqT K H t (ls.map V.ref) ∨ SqL K H t (ls.map V.ref)) ∧
  ls.length = rows.length ∧ (∀ (j : Nat) (l : Addr) (r : List Int), ls[j]? = some l → rows[j]? = some r → H l = some (.tup (r.map V.int)) ∧ r.length = m) ∧ 1 ≤ rows.length ∧ rows.length ≤ 4 ∧ m ≤ 100 ∧
  ∀ p H', Same H H' → H p = none → H' p = some (.tup ((totalsOf rows m).map V.int)) → Q (.ref p) H'
theorem ok_totals {f : Addr} {fd : FuncData} {k : Nat} (F : Fun K "totals_of" "totals_of" sTotals f fd) (mt : mg "tuple" = none) (ms : mg "sum" = none) (mz : mg "zip" = none) :
    FnOk P w K mg base CX0 (k + 1) f fd ["stock"] (spTotals K) := by
  refine F.ok scTotals (fun vs H Q E h => ?_) (fun cdv A outer s H vs Q E hr h => ?_)
  · obtain ⟨t, ls, rows, m, rfl, _⟩ := h
    rfl
  · obtain ⟨t, ls, rows, m, rfl, top, hll, hat, h1, h4, hm, q⟩ := h
    refine ⟨_, pss_one (ps_ret (pe_callTy call_tuple_of (by rfl) mt (by decide +kernel) (pa_cons (pe_lc (own := [("counts", 1)]) (g := gName 1) rfl scTotals.nd (pi_zipS (by rfl) mz (pv 0))
      (blkOk_by (own := [("counts", 1)]) (N := ["stock", "counts"]) (sc := defScope sTotals) (by decide +kernel)) (fun _ _ _ _ _ => pg_name (i := 1) scTotals.nd rfl (Or.inl rfl)) (fun _ _ _ _ _ => pts_nil)
      (fun _ _ _ _ _ => pe_callB (show CallR _ _ (fun vs H Q => ∃ (a : Addr) (ns : List Int), vs = [V.ref a] ∧ SqT K H a (ns.map V.int) ∧ Q (.int ns.sum) H) from cr_sumT rfl) (by rfl) ms (by decide +kernel) (pa_cons (pv 1) pa_nil))) pa_nil))), ?_⟩
    have rws : ∀ H', Same H H' → Rws K H' ls (rows.map (List.map V.int)) m := fun H' sm => by
      refine ⟨by rw [List.length_map]; exact hll, fun j a r e1 e2 => ?_⟩
      obtain ⟨r0, hr0, rfl⟩ := get_map e2
      obtain ⟨x1, x2⟩ := hat j a r0 e1 hr0
      exact ⟨SqT.of (sm _ _ x1), by rw [List.length_map]; exact x2⟩
    refine ⟨.ref t, rfl, t, ls, rows.map (List.map V.int), m, rfl, top, by omega, by omega, rws H (Same.refl H), fun D nD => ?_⟩
    refine lc_zipN (fun i H' => H' D = some (.lst (((totalsOf rows m).take i).map V.int)) ∧ Same H H') ⟨upd_same, same_new nD⟩ (fun i H' _ h => rws H' h.2) (fun i T H' hi h nT => ?_) (fun H' h => ?_)
    · obtain ⟨hD, sm⟩ := h
      have ec : colV (rows.map (List.map V.int)) i = (rows.map fun r => r.getD i 0).map V.int := by
        unfold colV
        rw [List.map_map, List.map_map]
        refine List.map_congr_left fun r hr => ?_
        obtain ⟨j, hj⟩ := List.mem_iff_getElem?.mp hr
        have hjl := (List.getElem?_eq_some_iff.mp hj).1
        have hlj : ls[j]? = some (ls[j]'(by omega)) := List.getElem?_eq_getElem (by omega)
        have hlen := (hat j _ r hlj hj).2
        show (r.map V.int).getD i .non = V.int (r.getD i 0)
        rw [List.getD_eq_getElem?_getD, List.getD_eq_getElem?_getD, List.getElem?_map, List.getElem?_eq_getElem (by omega)]
        rfl
      rw [ec]
      have hs : (totalsOf rows m)[i]? = some (rows.map fun r => r.getD i 0).sum := by
        unfold totalsOf
        rw [List.getElem?_map, List.getElem?_range hi]
        rfl
      have hDT : D ≠ T := ne_of_none hD nT
      have hD2 := hD
      rw [← upd_ne (H := H') (o := .tup ((rows.map fun r => r.getD i 0).map V.int)) hDT] at hD2
      refine ⟨rfl, .ref T, rfl, T, _, rfl, SqT.of upd_same, _, hD2, ?_, ?_, fun b o e => ?_⟩
      · rw [List.length_map, List.length_take]
        refine len_lt ?_
        have : (totalsOf rows m).length = m := by simp [totalsOf]
        omega
      · rw [upd_same, take_succ_map hs]
      · rw [upd_ne (ne_of_none e nD)]
        exact same_new nT _ _ (sm b o e)
    · obtain ⟨hD, sm⟩ := h
      rw [List.take_of_length_le (by simp [totalsOf])] at hD
      exact ⟨D, _, rfl, .inl ⟨SqL.of hD, fun p np => q p _ (sm.trans (same_new np)) (sm.free np) upd_same⟩⟩
end
end DD
namespace DD
open PySem PySem.Spec PyProof.Rows L2

/-! ### data of stocks and rows -/
def rowD (r : List Int) : PyData := .tuple (r.map PyData.int)
def stockD (rows : List (List Int)) : PyData := .tuple (rows.map rowD)
theorem dps_ints {K : PySem.W.Frag} {H : Hp} : ∀ r : List Int, DpAll K H (r.map V.int) (r.map PyData.int)
  | [] => .nil
  | x :: r => .cons (.int x) (dps_ints r)
theorem dp_row {K : PySem.W.Frag} {H : Hp} {p : Addr} {r : List Int} (h : H p = some (.tup (r.map V.int))) : Dp K H (.ref p) (rowD r) := .tup (SqT.of h) (dps_ints r)
theorem dps_rows {K : PySem.W.Frag} {H : Hp} : ∀ (ls : List Addr) (rows : List (List Int)), ls.length = rows.length →
    (∀ (j : Nat) (l : Addr) (r : List Int), ls[j]? = some l → rows[j]? = some r → H l = some (.tup (r.map V.int))) → DpAll K H (ls.map V.ref) (rows.map rowD)
  | [], [], _, _ => .nil
  | [], _ :: _, h, _ => by simp at h
  | _ :: _, [], h, _ => by simp at h
  | l :: ls, r :: rows, h, hat => .cons (dp_row (hat 0 l r rfl rfl)) (dps_rows ls rows (by simpa using h) fun j l' r' e1 e2 => hat (j + 1) l' r' e1 e2)
theorem StockAt.dp {K : PySem.W.Frag} {H : Hp} {t : Addr} {ls : List Addr} {rows : List (List Int)} (a : StockAt H t ls rows) : Dp K H (.ref t) (stockD rows) :=
  .tup (SqT.of a.top) (dps_rows ls rows a.len a.row)
theorem sm_row {r : List Int} (h : ∀ x ∈ r, 0 ≤ x ∧ x < 4096) (hl : r.length ≤ 4) : Sm 56 1 (rowD r) := by
  have a : SmA (r.map PyData.int).length 13 0 (r.map PyData.int) := SmA.all fun d hd => by
    obtain ⟨x, hx, rfl⟩ := List.mem_map.mp hd
    exact Sm.int (h x hx).1 (h x hx).2
  refine a.tup.up ?_ (Nat.le_refl _)
  rw [List.length_map]
  omega
theorem sm_stock {rows : List (List Int)} (h : ∀ r ∈ rows, r.length ≤ 4 ∧ ∀ x ∈ r, 0 ≤ x ∧ x < 4096) (hl : rows.length ≤ 4) : Sm 228 2 (stockD rows) := by
  have a : SmA (rows.map rowD).length 56 1 (rows.map rowD) := SmA.all fun d hd => by
    obtain ⟨r, hr, rfl⟩ := List.mem_map.mp hd
    exact sm_row (h r hr).2 (h r hr).1
  refine a.tup.up ?_ (Nat.le_refl _)
  rw [List.length_map]
  omega
theorem sm_pair {a b : List Int} (ha : ∀ x ∈ a, 0 ≤ x ∧ x < 4096) (hal : a.length ≤ 4) (hb : ∀ x ∈ b, 0 ≤ x ∧ x < 4096) (hbl : b.length ≤ 4) : Sm 114 2 (.list [rowD a, rowD b]) := by
  have q : SmA (0 + 1 + 1) 56 1 [rowD a, rowD b] := SmA.cons (sm_row ha hal) (SmA.cons (sm_row hb hbl) SmA.nil)
  exact q.lst.up (by omega) (by omega)
theorem sum_bd {b : Int} : ∀ {xs : List Int}, (∀ x ∈ xs, 0 ≤ x ∧ x ≤ b) → 0 ≤ xs.sum ∧ xs.sum ≤ (xs.length : Int) * b
  | [], _ => by simp
  | x :: xs, h => by
    have h1 := h x List.mem_cons_self
    have h2 := sum_bd (xs := xs) fun y hy => h y (List.mem_cons_of_mem _ hy)
    rw [List.sum_cons, List.length_cons, Int.natCast_add, Int.add_mul]
    omega
theorem getD_bd {r : List Int} {b : Int} (h : ∀ x ∈ r, 0 ≤ x ∧ x ≤ b) (hb : 0 ≤ b) (i : Nat) : 0 ≤ r.getD i 0 ∧ r.getD i 0 ≤ b := by
  rw [List.getD_eq_getElem?_getD]
  cases e : r[i]? with
  | none => exact ⟨Int.le_refl _, hb⟩
  | some x => exact h x (List.mem_of_getElem? e)
theorem sizes_bd {rows : List (List Int)} {b : Int} (hb : 0 ≤ b) (hb2 : b ≤ 900) (h : ∀ r ∈ rows, r.length ≤ 4 ∧ ∀ x ∈ r, 0 ≤ x ∧ x ≤ b) : ∀ x ∈ sizesOf rows, 0 ≤ x ∧ x < 4096 := by
  intro x hx
  obtain ⟨r, hr, rfl⟩ := List.mem_map.mp hx
  obtain ⟨h1, h2⟩ := sum_bd (h r hr).2
  have h3 := (h r hr).1
  have h4 : (r.length : Int) * b ≤ 4 * 900 := Int.mul_le_mul (by omega) hb2 hb (by decide)
  omega
theorem totals_bd {rows : List (List Int)} {m : Nat} {b : Int} (hb : 0 ≤ b) (hb2 : b ≤ 900) (hl : rows.length ≤ 4) (h : ∀ r ∈ rows, ∀ x ∈ r, 0 ≤ x ∧ x ≤ b) : ∀ x ∈ totalsOf rows m, 0 ≤ x ∧ x < 4096 := by
  intro x hx
  obtain ⟨i, _, rfl⟩ := List.mem_map.mp hx
  obtain ⟨h1, h2⟩ := sum_bd (b := b) (xs := rows.map fun r => r.getD i 0) fun y hy => by
    obtain ⟨r, hr, rfl⟩ := List.mem_map.mp hy
    exact getD_bd (h r hr) hb i
  rw [List.length_map] at h2
  have h4 : (rows.length : Int) * b ≤ 4 * 900 := Int.mul_le_mul (by omega) hb2 hb (by decide)
  omega
theorem totals_len (rows : List (List Int)) (m : Nat) : (totalsOf rows m).length = m := by simp [totalsOf]
theorem sizes_len (rows : List (List Int)) : (sizesOf rows).length = rows.length := by simp [sizesOf]

theorem scSame : FnScope ["_law_value", "_law_due_here"] ["_law_value", "_law_due_here"] (defScope sSame) := ⟨rfl, rfl, rfl, by decide +kernel, rfl, by decide +kernel, by decide +kernel⟩
section
variable {P : Program} {w : World} {K : PySem.W.Frag} {mg : Str → Option Value} {base : Heap}
/-- two things of one data -/
def spSame (K : PySem.W.Frag) : Sp := fun vs H Q _ => ∃ (a b : Addr) (d : PyData) (wt : Nat), vs = [.ref a, .ref b] ∧ Dp K H (.ref a) d ∧ Dp K H (.ref b) d ∧ Sm wt 64 d ∧ wt ≤ 1048576 ∧ Q (.bl true) H
theorem ok_same {f : Addr} {fd : FuncData} {k : Nat} (F : Fun K "_law_same" "_law_same" sSame f fd) (mr : mg "repr" = none) : FnG P w K mg base (k + 1) f fd ["_law_value", "_law_due_here"] (spSame K) := by
  refine fnG_of F scSame (fun vs H Q E h => ?_) (fun cdv A hgu outer s H vs Q E hr h => ?_)
  · obtain ⟨a, b, d, wt, rfl, _⟩ := h
    rfl
  · obtain ⟨a, b, d, wt, rfl, h1, h2, sm, hw, q⟩ := h
    have hu : (A.deeper (envOfC "_law_same" (defScope sSame) s.heap.objs.size f cdv)).units + 66 < cLine := by
      have := hr.un
      omega
    refine ⟨_, pss_one (ps_ret (pe_cmpR op_eq (pe_callB (call_reprD hgu hu) (by rfl) mr (by decide +kernel) (pa_cons (pv 0) pa_nil)) (pe_callB (call_reprD hgu hu) (by rfl) mr (by decide +kernel) (pa_cons (pv 1) pa_nil)) (nomark _))), ?_⟩
    refine ⟨_, rfl, a, d, wt, rfl, h1, sm, hw, _, rfl, b, d, wt, rfl, h2, sm, hw, rfl, ?_⟩
    rw [decide_eq_true rfl]
    exact q
end
end DD
namespace DD
open PySem PySem.Spec PyProof.Rows L2

/-! ### a call that may raise of a def whose promise is by positional values -/
section
variable {X : Cx} {CX : CXT} {k : Nat} {f : Addr} {sp : Sp} {E : L2.St → XK} {x : Str} {p pos : Pos} {e : Expr} {es : List Expr} {t : TA}
theorem pe_callRS (F : FnR X.prog X.w X.K X.mg X.base CX k f sp) (hr : Room k X.A) (hg : Gl X x) (hm : X.mg x = some (.ref f)) (hk : PySem.W.keepIn X.K (.ref f) = true)
    (hx : ∀ σ, PassesAt CX X σ (E σ)) (ha : PA X (e :: es) t) (hdb : (x == ("__debug__" : Str)) = false := by decide)
    (he : starEach (e :: es) X.env = (false, eval e X.env) :: starEach es X.env := by rfl) (hpl : (backTo pos (starEach es X.env)).any (·.1) = false := by rfl) :
    PE X (.Call (.Name x p) (e :: es) [] pos) (tCallS sp E t) := by
  refine ⟨fun pins s σ H Q I h => wpAny_Call_Name_kw (ld_glob I hg hm ?_ hdb)⟩
  refine PySem.W.callWith_K (h₀ := X.base) I.ok.mod.kin hk
    (thn (ha.run pos pins s σ H _ I h) fun us s1 ⟨vs, H1, I1, r, q⟩ => ⟨I1.kIn, ?_⟩) he hpl
  refine wpAny_call (codeAny_mono (F X.A X.stack s1 H1 us vs Q (E σ) hr I1.env0 r q) fun r s' hq => ?_)
  cases r with
  | error e => exact hx σ pins H1 s1 e s' I1 hq
  | ok fl =>
    cases fl with
    | ret u => exact I1.after hq
    | next => exact hq.elim
    | brk => exact hq.elim
    | cont => exact hq.elim
end

/-! ### TooMuch -/
/-- what the top says of the class TooMuch at C, of its __init__ at fI, of DrawerError at B and of the classes at C1 to C3 -/
structure ErrTx (K : PySem.W.Frag) (mg : Str → Option Value) (C fI B C1 C2 C3 : Addr) (dI : FuncData) : Prop where
  o : OexC K C
  iC : PySem.W.findIn K (.ref C) "__init__" = some (some (.ref fI))
  tI : PySem.W.typeIn K (.ref fI) = some (.type "function")
  noT : PySem.W.findIn K (.ref C) "total" = some none
  gC : mg "TooMuch" = some (.ref C)
  FI : Fun K "__init__" "TooMuch.__init__" sInit fI dI
  bI : Binds K dI ["self", "total"] []
theorem scInit : FnScope ["self", "total"] ["self", "total"] (defScope sInit) := ⟨rfl, rfl, rfl, by decide +kernel, rfl, by decide +kernel, by decide +kernel⟩
section
variable {P : Program} {w : World} {K : PySem.W.Frag} {mg : Str → Option Value} {base : Heap}
def spInit (K : PySem.W.Frag) (C : Addr) : Sp := fun vs H Q _ => ∃ (a : Addr) (y : V), vs = [.ref a, y] ∧ OexC K C ∧ PySem.W.findIn K (.ref C) "total" = some none ∧ H a = some (exo a C none) ∧
  ∀ dx, H dx = none → dx ≠ a → Q .non (upd (upd H dx (exd dx [("total", y)])) a (exo a C (some dx)))
theorem ok_init {C f : Addr} {fd : FuncData} {k : Nat} (F : Fun K "__init__" "TooMuch.__init__" sInit f fd) : FnOk P w K mg base CX0 (k + 1) f fd ["self", "total"] (spInit K C) := by
  refine F.ok scInit (fun vs H Q E h => ?_) (fun cdv A outer s H vs Q E hr h => ?_)
  · obtain ⟨a, y, rfl, _⟩ := h
    rfl
  · obtain ⟨a, y, rfl, o, no, ha, q⟩ := h
    refine ⟨_, pss_one (ps_ost (pv 0) (pv 1)), ?_⟩
    exact ⟨y, rfl, .ref a, rfl, a, C, rfl, o, no, .inl ⟨ha, fun dx n1 n2 => q dx n1 n2⟩⟩
end
end DD
namespace DD
open PySem PySem.Spec PyProof.Rows L2

/-! ### the mirror of merged -/
def subRows (rows : List (List Int)) (ds : List Nat) : List (List Int) := ds.map fun d => rows.getD d []
def firstOver (xs : List Int) : Option Int := xs.find? fun x => decide (50 < x)
/-- what is left of the drawers 0 .. n - 1 -/
def leftRows (rows : List (List Int)) (ds : List Nat) (tot : List Int) (n : Nat) : List (List Int) :=
  (List.range n).flatMap fun i => if i = ds.headD 0 then [tot] else if i ∈ ds then [] else [rows.getD i []]
theorem leftRows_succ (rows : List (List Int)) (ds : List Nat) (tot : List Int) (n : Nat) :
    leftRows rows ds tot (n + 1) = leftRows rows ds tot n ++ (if n = ds.headD 0 then [tot] else if n ∈ ds then [] else [rows.getD n []]) := by
  unfold leftRows
  rw [List.range_succ, List.flatMap_append]
  simp
theorem firstOver_here {xs : List Int} {i : Nat} {x : Int} (h : ∀ y ∈ xs.take i, ¬ 50 < y) (hx : xs[i]? = some x) (hb : 50 < x) : firstOver xs = some x := by
  obtain ⟨hl, hxe⟩ := List.getElem?_eq_some_iff.mp hx
  have e : xs = xs.take i ++ x :: xs.drop (i + 1) := by
    rw [← hxe]
    simp
  unfold firstOver
  rw [e, List.find?_append, List.find?_eq_none.mpr (fun y hy => by simpa using h y hy)]
  simp [hb]
theorem firstOver_none {xs : List Int} (h : ∀ y ∈ xs, ¬ 50 < y) : firstOver xs = none := by
  unfold firstOver
  rw [List.find?_eq_none]
  intro y hy
  simpa using h y hy

/-- the tuples at ls hold the rows -/
structure RowsAt (H : Hp) (ls : List Addr) (rows : List (List Int)) : Prop where
  len : ls.length = rows.length
  row : ∀ (j : Nat) (l : Addr) (r : List Int), ls[j]? = some l → rows[j]? = some r → H l = some (.tup (r.map V.int))
theorem RowsAt.nil {H : Hp} : RowsAt H [] [] := ⟨rfl, fun j l r e => by simp at e⟩
theorem RowsAt.keep {H H' : Hp} {ls : List Addr} {rows : List (List Int)} (a : RowsAt H ls rows) (k : ∀ b xs, H b = some (.tup xs) → H' b = some (.tup xs)) : RowsAt H' ls rows :=
  ⟨a.len, fun j l r e1 e2 => k _ _ (a.row j l r e1 e2)⟩
theorem RowsAt.add {H : Hp} {ls : List Addr} {rows : List (List Int)} {l : Addr} {r : List Int} (a : RowsAt H ls rows) (h : H l = some (.tup (r.map V.int))) : RowsAt H (ls ++ [l]) (rows ++ [r]) := by
  refine ⟨by rw [List.length_append, List.length_append, a.len]; rfl, fun j l' r' x1 x2 => ?_⟩
  by_cases hj : j < ls.length
  · rw [List.getElem?_append_left hj] at x1
    rw [List.getElem?_append_left (by have := a.len; omega)] at x2
    exact a.row j l' r' x1 x2
  · have hj2 : j = ls.length := by
      have := (List.getElem?_eq_some_iff.mp x1).1
      rw [List.length_append] at this
      simp at this
      omega
    subst hj2
    rw [List.getElem?_append_right (Nat.le_refl _), Nat.sub_self] at x1
    rw [a.len, List.getElem?_append_right (Nat.le_refl _), Nat.sub_self] at x2
    obtain rfl : l = l' := Option.some.inj x1
    obtain rfl : r = r' := Option.some.inj x2
    exact h
theorem inV_nats (i : Nat) (ds : List Nat) : inV (V.int ((0 : Int) + (i : Nat))) (ds.map fun d => V.int (d : Nat)) = decide (i ∈ ds) := by
  unfold inV
  rw [List.any_map]
  by_cases h : i ∈ ds
  · rw [decide_eq_true h]
    refine List.any_eq_true.mpr ⟨i, h, ?_⟩
    show eqV (V.int (i : Nat)) (V.int ((0 : Int) + (i : Nat))) = true
    rw [Int.zero_add]
    simp [eqV]
  · rw [decide_eq_false h]
    refine List.any_eq_false.mpr fun x hx => ?_
    show ¬ eqV (V.int (x : Nat)) (V.int ((0 : Int) + (i : Nat))) = true
    rw [Int.zero_add]
    intro e
    have e2 : x = i := by
      have e3 : ((x : Nat) : Int) = ((i : Nat) : Int) := by simpa [eqV] using e
      omega
    exact h (e2 ▸ hx)

abbrev NM : List Str := ["stock", "drawers", "drawer", "totals", "total", "left", "index"]
theorem scMerged : FnScope NM ((["stock"] : List Str) ++ (["drawers"] : List Str)) (defScope sMerged) := ⟨rfl, rfl, rfl, by decide +kernel, rfl, by decide +kernel, by decide +kernel⟩
section
variable {P : Program} {w : World} {K : PySem.W.Frag} {mg : Str → Option Value} {base : Heap}
/-- merged(stock, drawers): the rows that are left, or TooMuch -/
def spMerged (C : Addr) : Sp := fun vs H Q E => ∃ (t dp : Addr) (ls : List Addr) (rows : List (List Int)) (m : Nat) (ds : List Nat), vs = [.ref t, .ref dp] ∧ StockAt H t ls rows ∧
  H dp = some (.tup (ds.map fun d => V.int (d : Nat))) ∧ (∀ d ∈ ds, d < rows.length) ∧ 1 ≤ ds.length ∧ ds.length ≤ 4 ∧ rows.length ≤ 4 ∧ (∀ r ∈ rows, r.length = m) ∧ m ≤ 100 ∧
  (∀ x, firstOver (totalsOf (subRows rows ds) m) = some x → ∀ d H', Same H H' → H d = none → H' d = some (.xd [("total", .int x)]) → E (.ref C) (some d) H') ∧
  (firstOver (totalsOf (subRows rows ds) m) = none → ∀ p ls' H', Same H H' → StockAt H' p ls' (leftRows rows ds (totalsOf (subRows rows ds) m) rows.length) → Q (.ref p) H')
/-- its positional form -/
def spMergedR (C : Addr) : Sp := fun vs H Q E => ∃ ws rest, vs = ws ++ rest ∧ ws.length = (["stock"] : List Str).length ∧ rest.length ≤ sizeLine ∧ ∀ p, H p = none → spMerged C (ws ++ [V.ref p]) (upd H p (.tup rest)) Q E
theorem ok_merged {C fI B C1 C2 C3 fT f : Addr} {fd dI dT : FuncData} (F : Fun K "merged" "merged" sMerged f fd) (ET : ErrTx K mg C fI B C1 C2 C3 dI)
    (FT : Fun K "totals_of" "totals_of" sTotals fT dT) (bT : Binds K dT ["stock"] []) (gT : mg "totals_of" = some (.ref fT)) (mM : ∃ tk, mg "MAX_COUNT" = some (.int 50 tk))
    (mt : mg "tuple" = none) (ms : mg "sum" = none) (mz : mg "zip" = none) (me : mg "enumerate" = none) : FnR P w K mg base (L2.CX P w) 3 f (spMergedR C) := by
  have GT : FnOk P w K mg base CX0 1 fT dT ["stock"] (spTotals K) := ok_totals FT mt ms mz
  have GI : FnOk P w K mg base CX0 1 fI dI ["self", "total"] (spInit K C) := ok_init ET.FI
  obtain ⟨tkM, hM⟩ := mM
  obtain ⟨oc, od, kV, doc, pm, an, cdv, ct, osl, rfl, lk, hcd⟩ := F.ex
  refine StX.fn_star (ps := ["stock"]) (pv := "drawers") lk hcd scMerged StX.cxUp (StX.bind_star1 (B := fun us => bindArgs _ ⟨us, []⟩) (fun a => rfl) (fun a r rs => rfl)) fun A outer s H vs Q E hr h => ?_
  obtain ⟨t, dp, ls, rows, m, ds, rfl, st, hdp, hds, hd1, hd4, hr4, hrm, hm, qE, qN⟩ := h
  refine ⟨_, pss_cons (ps_set (i := 3) scMerged.nd rfl (.inl rfl) (pe_call GT (hr.mono (by decide)) (by rfl) gT FT.kp bT .nil pass0 (pa_cons (pe_lc (own := [("drawer", 2)]) (g := gName 2) rfl scMerged.nd (pi_tup (pv 1))
        (blkOk_by (own := [("drawer", 2)]) (N := NM) (sc := defScope sMerged) (by decide +kernel)) (fun _ _ _ _ _ => pg_name (i := 2) scMerged.nd rfl (Or.inl rfl)) (fun _ _ _ _ _ => pts_nil)
        (fun _ _ _ _ _ => pe_ix (show IxR _ (rIxT K) from ix_tup) (pv 0) (pv 2) (fun _ _ => rfl))) pa_nil)))
    (pss_cons (ps_for (passes_of rfl) rfl (pi_tup (pv 3)) (pg_name (i := 4) scMerged.nd rfl (.inl rfl))
        (pss_one (ps_if (pt_cmpR op_gt (pv 4) (pe_glob (v := .int 50) rfl hM ⟨_, rfl⟩) (nomark _))
          (pss_one (ps_raise rfl (takes_of rfl rfl rfl rfl) (pmk_oex ET.o ET.iC ET.tI GI hr ET.bI .nil pass0 (by rfl) ET.gC (pa_cons (pv 4) pa_nil)))) pss_nil)))
    (pss_cons (ps_set (i := 5) scMerged.nd rfl (.inl rfl) (pe_lst pa_nil))
    (pss_cons (ps_for (passes_of rfl) rfl (pi_enumT (by rfl) me (pa_cons (pv 0) pa_nil)) (pg_tup rfl (pgs_cons (pg_name (i := 6) scMerged.nd rfl (.inl rfl)) (pgs_cons (pg_name (i := 2) scMerged.nd rfl (.inl rfl)) pgs_nil)))
        (pss_one (ps_if (pt_cmpR op_eq (pv 6) (pe_ix ix_tup (pv 1) pe_int (fun _ _ => rfl)) (nomark _))
          (pss_one (ps_expr (pe_bm PySem.F.plainAttrs_list PySem.F.slot_list_append PySem.F.type_list_append mt_append (pv 5) (pa_cons (pv 3) pa_nil))))
          (pss_one (ps_if (pt_cmpR op_notIn_seq (pv 6) (pv 1) (by rfl))
            (pss_one (ps_expr (pe_bm PySem.F.plainAttrs_list PySem.F.slot_list_append PySem.F.type_list_append mt_append (pv 5) (pa_cons (pv 2) pa_nil)))) pss_nil)))))
    (pss_one (ps_ret (pe_callTy call_tuple_of (by rfl) mt (by decide +kernel) (pa_cons (pv 5) pa_nil))))))), ?_⟩
  refine ⟨.ref dp, rfl, dp, rfl, ⟨_, SqT.of hdp⟩, fun D nD => ?_⟩
  refine lc_tup (xs := ds.map fun d => V.int (d : Nat)) (fun i H' => H' D = some (.lst (((ds.map fun d => ls.getD d 0).take i).map V.ref)) ∧ Same H H') ⟨upd_same, same_new nD⟩ (fun i H' _ h => SqT.of (h.2 _ _ hdp)) (fun i x H' hx h => ?_) (fun H' h => ?_)
  · obtain ⟨hD, sm⟩ := h
    obtain ⟨d, hd, rfl⟩ := get_map hx
    have hdl : d < ls.length := by
      rw [st.len]
      exact hds d (List.mem_of_getElem? hd)
    have hls : (ls.map V.ref)[d]? = some (.ref (ls.getD d 0)) := by
      rw [List.getElem?_map, List.getD_eq_getElem?_getD, List.getElem?_eq_getElem hdl]
      rfl
    have hs2 : (ds.map fun d => ls.getD d 0)[i]? = some (ls.getD d 0) := by
      rw [List.getElem?_map, hd]
      rfl
    refine ⟨rfl, .ref t, rfl, .int (d : Nat), rfl, t, _, (d : Nat), _, rfl, rfl, SqT.of (sm _ _ st.top), atI_nat hls, _, hD, ?_, ?_, fun b o e => ?_⟩
    · rw [List.length_map, List.length_take]
      refine len_lt ?_
      rw [List.length_map]
      omega
    · rw [upd_same, take_succ_map hs2]
    · rw [upd_ne (ne_of_none e nD)]
      exact sm b o e
  · obtain ⟨hD, sm⟩ := h
    rw [List.take_of_length_le (by simp)] at hD
    have sub_at : ∀ (j : Nat) (l : Addr) (r : List Int), (ds.map fun d => ls.getD d 0)[j]? = some l → (subRows rows ds)[j]? = some r → H l = some (.tup (r.map V.int)) ∧ r.length = m := by
      intro j l r e1 e2
      obtain ⟨d, hd, rfl⟩ := get_map e1
      obtain ⟨d', hd', rfl⟩ := get_map e2
      rw [hd] at hd'
      cases hd'
      have hdr := hds d (List.mem_of_getElem? hd)
      have hdl : d < ls.length := by rw [st.len]; exact hdr
      have e3 : ls[d]? = some (ls.getD d 0) := by
        rw [List.getD_eq_getElem?_getD, List.getElem?_eq_getElem hdl]
        rfl
      have e4 : rows[d]? = some (rows.getD d []) := by
        rw [List.getD_eq_getElem?_getD, List.getElem?_eq_getElem hdr]
        rfl
      exact ⟨st.row d _ _ e3 e4, hrm _ (List.mem_of_getElem? e4)⟩
    refine ⟨D, ds.map fun d => ls.getD d 0, subRows rows ds, m, rfl, .inr (SqL.of hD), by simp [subRows], fun j l r e1 e2 => ⟨sm _ _ (sub_at j l r e1 e2).1, (sub_at j l r e1 e2).2⟩, by simp [subRows]; exact hd1, by simp [subRows]; exact hd4, hm, fun pT HT smT nT hT => ?_⟩
    have s1 : Same H HT := sm.trans smT
    -- for total in totals
    refine ⟨.ref pT, rfl, pT, rfl, ⟨_, SqT.of hT⟩, ?_⟩
    refine for_tup (xs := (totalsOf (subRows rows ds) m).map V.int) (fun i σ H' => ∃ y2 y4, σ = [some (.ref t), some (.ref dp), y2, some (.ref pT), y4, none, none] ∧ H' = HT ∧ ∀ y ∈ (totalsOf (subRows rows ds) m).take i, ¬ 50 < y)
      ⟨none, none, rfl, rfl, fun y hy => by simp at hy⟩ (fun i σ H' _ h => by obtain ⟨y2, y4, _, rfl, _⟩ := h; exact SqT.of hT) (fun i x σ H' hx h => ?_) (fun σ H' h => ?_)
    · obtain ⟨y2, y4, rfl, rfl, hle⟩ := h
      obtain ⟨z, hz, rfl⟩ := get_map hx
      refine ⟨_, rfl, z, 50, rfl, rfl, _, rfl, ite2 (fun e => ?_) (fun e => ?_)⟩
      · have hb : 50 < z := of_decide_eq_true e
        refine ⟨_, rfl, by show 1 ≤ 1000; decide, fun a na => ⟨a, .int z, rfl, ET.o, ET.noT, upd_same, fun dx nx ne => ⟨rfl, dx, [("total", .int z)], upd_same, ?_, ?_, ?_⟩⟩⟩
        · rw [upd_ne ne, upd_same]
        · rw [upd_ne ne] at nx
          exact nx
        · have nx' := nx
          rw [upd_ne ne] at nx'
          refine qE z (firstOver_here hle hz hb) dx _ (fun b o e => ?_) (s1.free nx') upd_same
          have e1 := s1 b o e
          have nb1 := ne_of_none e1 na
          have nb2 := ne_of_none e1 nx'
          rw [upd_ne nb2, del_ne nb1, upd_ne nb1, upd_ne nb2, upd_ne nb1]
          exact e1
      · refine ⟨y2, some (.int z), rfl, rfl, fun y hy => ?_⟩
        rw [List.take_add_one, hz] at hy
        rcases List.mem_append.mp hy with h | h
        · exact hle y h
        · rw [List.mem_singleton.mp h]
          exact fun hb => e (decide_eq_true hb)
    · obtain ⟨y2, y4, rfl, rfl, hle⟩ := h
      rw [List.length_map, List.take_length] at hle
      have hno := firstOver_none hle
      -- left = []
      refine ⟨Nat.zero_le _, fun L nL => ?_⟩
      have s2 : Same H (upd H' L (.lst [])) := s1.trans (same_new nL)
      -- for index, drawer in enumerate(stock)
      refine ⟨.ref t, rfl, t, _, rfl, SqT.of (s2 _ _ st.top), ?_⟩
      have hL0 : H L = none := s1.free nL
      refine for_enT (xs := ls.map V.ref) (c := 0) (fun i σ H2 => ∃ (y2 y4 y6 : Option V) (ls' : List Addr), σ = [some (.ref t), some (.ref dp), y2, some (.ref pT), y4, some (.ref L), y6] ∧ Same H H2 ∧
          H2 pT = some (.tup ((totalsOf (subRows rows ds) m).map V.int)) ∧ H2 L = some (.lst (ls'.map V.ref)) ∧ RowsAt H2 ls' (leftRows rows ds (totalsOf (subRows rows ds) m) i) ∧ ls'.length ≤ i)
        ⟨y2, y4, none, [], rfl, s2, same_new nL _ _ hT, upd_same, RowsAt.nil, Nat.le_refl _⟩ (fun i σ H2 _ h => by obtain ⟨y2, y4, y6, ls', _, s3, _⟩ := h; exact SqT.of (s3 _ _ st.top)) (fun i x T σ H2 hx h nT => ?_) (fun σ H2 h => ?_)
      · obtain ⟨y2, y4, y6, ls', rfl, s3, hp3, hL, hR, hlen⟩ := h
        obtain ⟨l, hl, rfl⟩ := get_map hx
        have hil : i < rows.length := by
          have := (List.getElem?_eq_some_iff.mp hl).1
          have := st.len
          omega
        have hrow : rows[i]? = some (rows.getD i []) := by
          rw [List.getD_eq_getElem?_getD, List.getElem?_eq_getElem hil]
          rfl
        have sT : Same H2 (upd H2 T (.tup [.int ((0 : Int) + (i : Nat)), .ref l])) := same_new nT
        have hL3 := sT _ _ hL
        have s4 : Same H (upd H2 T (.tup [.int ((0 : Int) + (i : Nat)), .ref l])) := s3.trans sT
        have hR3 : RowsAt (upd H2 T (.tup [.int ((0 : Int) + (i : Nat)), .ref l])) ls' (leftRows rows ds (totalsOf (subRows rows ds) m) i) := hR.keep fun b xs e => sT _ _ e
        have hp4 := sT _ _ hp3
        have hrowl := s4 _ _ (st.row i l _ hl hrow)
        have hd0 : (ds.map fun d => V.int (d : Nat))[0]? = some (.int (ds.headD 0 : Nat)) := by
          cases ds with
          | nil => simp at hd1
          | cons d r => rfl
        refine ⟨T, [.int ((0 : Int) + (i : Nat)), .ref l], rfl, .inl (.inl upd_same), rfl, .int ((0 : Int) + (i : Nat)), [.ref l], rfl, .ref l, [], rfl, rfl, ?_⟩
        generalize upd H2 T (.tup [.int ((0 : Int) + (i : Nat)), .ref l]) = H3 at sT hL3 s4 hR3 hp4 hrowl ⊢
        have size_ok : (ls'.map V.ref).length < sizeLine := by
          rw [List.length_map]
          exact len_lt (by omega)
        -- what an append to left leaves
        have added : ∀ (y : Addr) (r : List Int), H3 y = some (.tup (r.map V.int)) → Same H (upd H3 L (.lst (ls'.map V.ref ++ [.ref y]))) ∧ (upd H3 L (.lst (ls'.map V.ref ++ [.ref y]))) pT = some (.tup ((totalsOf (subRows rows ds) m).map V.int)) ∧
            (upd H3 L (.lst (ls'.map V.ref ++ [.ref y]))) L = some (.lst ((ls' ++ [y]).map V.ref)) ∧ RowsAt (upd H3 L (.lst (ls'.map V.ref ++ [.ref y]))) (ls' ++ [y]) (leftRows rows ds (totalsOf (subRows rows ds) m) i ++ [r]) := by
          intro y r hy
          have kt : ∀ b xs, H3 b = some (.tup xs) → (upd H3 L (.lst (ls'.map V.ref ++ [.ref y]))) b = some (.tup xs) := fun b xs e => by
            rw [upd_ne (fun z => by rw [z, hL3] at e; cases e)]
            exact e
          refine ⟨fun b o e => ?_, kt _ _ hp4, ?_, (hR3.keep kt).add (kt _ _ hy)⟩
          · rw [upd_ne (ne_of_none e hL0)]
            exact s4 b o e
          · rw [upd_same, List.map_append]
            rfl
        refine ⟨_, rfl, .ref dp, rfl, dp, _, (0 : Nat), .int (ds.headD 0 : Nat), rfl, rfl, SqT.of (s4 _ _ hdp), atI_nat hd0, rfl, _, rfl, ite2 (fun e => ?_) (fun e => ?_)⟩
        · have e1 : ((0 : Int) + (i : Nat)) = (ds.headD 0 : Nat) := V.int.inj (of_decide_eq_true e)
          have e2 : i = ds.headD 0 := by omega
          obtain ⟨g1, g2, g3, g4⟩ := added pT _ hp4
          refine ⟨.ref L, rfl, .inl ⟨rfl, _, SqL.of hL3⟩, .ref pT, rfl, L, _, _, rfl, rfl, hL3, size_ok, _, _, _, ls' ++ [pT], rfl, g1, g2, g3, ?_, by rw [List.length_append]; show _ + 1 ≤ _; omega⟩
          rw [leftRows_succ, if_pos e2]
          exact g4
        · have e2 : ¬ i = ds.headD 0 := fun z => e (decide_eq_true (by rw [← z, Int.zero_add]))
          refine ⟨_, rfl, .ref dp, rfl, dp, _, rfl, .inr (SqT.of (s4 _ _ hdp)), rfl, ?_, _, rfl, ?_⟩
          · rw [List.all_map]
            exact List.all_eq_true.mpr fun x _ => rfl
          · rw [inV_nats]
            by_cases hin : i ∈ ds
            · rw [decide_eq_true hin]
              refine iteF ⟨_, _, _, ls', rfl, s4, hp4, hL3, ?_, by omega⟩
              rw [leftRows_succ, if_neg e2, if_pos hin, List.append_nil]
              exact hR3
            · rw [decide_eq_false hin]
              obtain ⟨g1, g2, g3, g4⟩ := added l _ hrowl
              refine iteT ⟨.ref L, rfl, .inl ⟨rfl, _, SqL.of hL3⟩, .ref l, rfl, L, _, _, rfl, rfl, hL3, size_ok, _, _, _, ls' ++ [l], rfl, g1, g2, g3, ?_, by rw [List.length_append]; show _ + 1 ≤ _; omega⟩
              rw [leftRows_succ, if_neg e2, if_neg hin]
              exact g4
      · obtain ⟨y2, y4, y6, ls', rfl, s3, hp3, hL, hR, hlen⟩ := h
        rw [List.length_map, st.len] at hR
        refine ⟨.ref L, rfl, L, _, rfl, .inl ⟨SqL.of hL, fun p np => ?_⟩⟩
        exact qN hno p ls' _ (s3.trans (same_new np)) ⟨upd_same, hR.len, fun j l r e1 e2 => same_new np _ _ (hR.row j l r e1 e2)⟩
end
end DD
namespace DD
open PySem PySem.Spec PyProof.Rows L2
def resD (rows : List (List Int)) (ds : List Nat) (tot : List Int) : PyData := match firstOver tot with
  | some x => .list [.str "much", .int x]
  | none => stockD (leftRows rows ds tot rows.length)
/-- what stands at p is the answer -/
def ResAt (H : Hp) (p : Addr) (rows : List (List Int)) (ds : List Nat) (tot : List Int) : Prop := match firstOver tot with
  | some x => H p = some (.lst [.str "much", .int x])
  | none => ∃ ls', StockAt H p ls' (leftRows rows ds tot rows.length)
theorem ResAt.dp {K : PySem.W.Frag} {H : Hp} {p : Addr} {rows : List (List Int)} {ds : List Nat} {tot : List Int} (h : ResAt H p rows ds tot) : Dp K H (.ref p) (resD rows ds tot) := by
  unfold ResAt at h
  unfold resD
  cases e : firstOver tot with
  | some x =>
    rw [e] at h
    exact .lst (SqL.of h) (.cons (.str _) (.cons (.int x) .nil))
  | none =>
    rw [e] at h
    obtain ⟨ls', st⟩ := h
    exact st.dp
theorem ResAt.same {H H' : Hp} {p : Addr} {rows : List (List Int)} {ds : List Nat} {tot : List Int} (h : ResAt H p rows ds tot) (k : Same H H') : ResAt H' p rows ds tot := by
  unfold ResAt at h ⊢
  cases e : firstOver tot with
  | some x =>
    rw [e] at h
    exact k _ _ h
  | none =>
    rw [e] at h
    obtain ⟨ls', st⟩ := h
    exact ⟨ls', st.same k⟩
/-- a list of addresses elsewhere is written -/
theorem ResAt.upd {H : Hp} {p D : Addr} {ps : List Addr} {o : HO} {rows : List (List Int)} {ds : List Nat} {tot : List Int} (h : ResAt H p rows ds tot) (hD : H D = some (.lst (ps.map V.ref))) : ResAt (upd H D o) p rows ds tot := by
  unfold ResAt at h ⊢
  cases e : firstOver tot with
  | some x =>
    rw [e] at h
    show L2.upd H D o p = _
    rw [upd_ne]
    · exact h
    · intro z
      rw [z, hD] at h
      have h2 := HO.lst.inj (Option.some.inj h)
      cases ps with
      | nil => cases h2
      | cons a r => cases (List.cons.inj h2).1
  | none =>
    rw [e] at h
    obtain ⟨ls', st⟩ := h
    have k : ∀ b xs, H b = some (.tup xs) → L2.upd H D o b = some (.tup xs) := fun b xs e => by
      rw [upd_ne (fun z => by rw [z, hD] at e; cases e)]
      exact e
    exact ⟨ls', k _ _ st.top, st.len, fun j l r e1 e2 => k _ _ (st.row j l r e1 e2)⟩
theorem firstOver_filter (xs : List Int) : firstOver xs = (xs.filter fun x => decide (50 < x)).head? := by
  unfold firstOver
  induction xs with
  | nil => rfl
  | cons x xs ih =>
    by_cases h : 50 < x
    · rw [List.find?_cons, List.filter_cons]
      simp [h]
    · rw [List.find?_cons, List.filter_cons]
      simp only [h, decide_false, Bool.false_eq_true, if_false]
      exact ih
theorem filter_take_succ {xs : List Int} {i : Nat} {x : Int} (h : xs[i]? = some x) : ((xs.take (i + 1)).filter fun x => decide (50 < x)) = ((xs.take i).filter fun x => decide (50 < x)) ++ (if 50 < x then [x] else []) := by
  rw [List.take_add_one, h, List.filter_append]
  congr 1
  by_cases hb : 50 < x <;> simp [hb]
theorem _root_.L2.iteT' {c : Bool} {A B : Prop} (e : c = true) (h : A) : if c = true then A else B := by
  subst e
  exact iteT h
theorem _root_.L2.iteF' {c : Bool} {A B : Prop} (e : c = false) (h : B) : if c = true then A else B := by
  subst e
  exact iteF h
abbrev ND : List Str := ["_law_stock_here", "_law_drawers", "_law_whole", "_law_found", "_law_kind", "_law_drawer", "_law_over", "_law_k", "_law_total"]
theorem scDue : FnScope ND ["_law_stock_here", "_law_drawers"] (defScope sDue) := ⟨rfl, rfl, rfl, by decide +kernel, rfl, by decide +kernel, by decide +kernel⟩
section
variable {P : Program} {w : World} {K : PySem.W.Frag} {mg : Str → Option Value} {base : Heap}
def spDue (K : PySem.W.Frag) : Sp := fun vs H Q _ => ∃ (t o : Addr) (ls : List Addr) (rows : List (List Int)) (m : Nat) (ds : List Nat), vs = [.ref t, .ref o] ∧ StockAt H t ls rows ∧
  H o = some (.lst (ds.map fun d => V.int (d : Nat))) ∧ (∀ d ∈ ds, d < rows.length) ∧ 1 ≤ ds.length ∧ ds.length ≤ 4 ∧ rows.length ≤ 4 ∧ (∀ r ∈ rows, r.length = m ∧ ∀ x ∈ r, 0 ≤ x ∧ x ≤ 900) ∧ m ≤ 4 ∧
  ∀ p H', Same H H' → ResAt H' p rows ds (totalsOf (subRows rows ds) m) → Q (.ref p) H'
theorem ok_due {f : Addr} {fd : FuncData} {k : Nat} (F : Fun K "_law_due" "_law_due" sDue f fd) (ml : mg "len" = none) (mr : mg "range" = none) (ms : mg "sum" = none) (me : mg "enumerate" = none) :
    FnOk P w K mg base CX0 (k + 1) f fd ["_law_stock_here", "_law_drawers"] (spDue K) := by
  refine F.ok scDue (fun vs H Q E h => ?_) (fun cdv A outer s H vs Q E hr h => ?_)
  · obtain ⟨t, o, ls, rows, m, ds, rfl, _⟩ := h
    rfl
  · obtain ⟨t, o, ls, rows, m, ds, rfl, st, ho, hds, hd1, hd4, hr4, hrm, hm, q⟩ := h
    refine ⟨_, pss_cons (ps_asg (pe_tup (pa_cons (pe_tup pa_nil) (pa_cons (pe_tup pa_nil) pa_nil))) (pg_tup rfl (pgs_cons (pg_name (i := 2) scDue.nd rfl (.inl rfl)) (pgs_cons (pg_name (i := 3) scDue.nd rfl (.inl rfl)) pgs_nil))))
      (pss_cons (ps_for PassesOwn.never rfl (pi_range1 (by rfl) mr (pa_cons (pe_callB call_len_seq (by rfl) ml PySem.boot_len (pa_cons (pe_ix ix_tup (pv 0) pe_int (fun _ _ => rfl)) pa_nil)) pa_nil)) (pg_name (i := 4) scDue.nd rfl (.inr rfl))
        (pss_one (ps_set (i := 2) scDue.nd rfl (.inl rfl) (pe_op op_catA (pv 2) (pe_tup (pa_cons (pe_callB (cr_sum rfl) (by rfl) ms (by decide +kernel) (pa_cons (pe_lc (own := [("_law_drawer", 5)]) (g := gName 5) rfl scDue.nd (pi_list (pv 1))
          (blkOk_by (own := [("_law_drawer", 5)]) (N := ND) (sc := defScope sDue) (by decide +kernel)) (fun _ _ _ _ _ => pg_name (i := 5) scDue.nd rfl (Or.inl rfl)) (fun _ _ _ _ _ => pts_nil)
          (fun _ _ _ _ _ => pe_ix (show IxR _ (rIxT K) from ix_tup) (pe_ix (show IxR _ (rIxT K) from ix_tup) (pv 0) (pv 5) (fun _ _ => rfl)) (pv 4) (fun _ _ => rfl))) pa_nil)) pa_nil))))))
      (pss_cons (ps_setLc (i := 6) (own := [("_law_total", 8)]) (g := gName 8) rfl scDue.nd rfl rfl (sw_true rfl rfl rfl (by decide +kernel)) (pi_tup (pv 2))
          (blkOk_by (own := [("_law_total", 8)]) (N := ND) (sc := defScope sDue) (by decide +kernel)) (fun _ _ _ _ _ => pg_name (i := 8) scDue.nd rfl (Or.inl rfl)) (fun _ _ _ _ _ => pts_one (pt_cmpR op_gt (pv 8) pe_int (nomark _)))
          (fun _ _ _ _ _ => pv 8))
      (pss_cons (ps_if (pt_cmpR (op_neD hr.units) (pv 6) (pe_lst pa_nil) (nomark _)) (pss_one (ps_ret (pe_lst (pa_cons pe_str (pa_cons (pe_ix ix_list (pv 6) pe_int (fun _ _ => rfl)) pa_nil))))) pss_nil)
      (pss_cons (ps_for PassesOwn.never rfl (pi_enumT (by rfl) me (pa_cons (pv 0) pa_nil)) (pg_tup rfl (pgs_cons (pg_name (i := 7) scDue.nd rfl (.inl rfl)) (pgs_cons (pg_name (i := 5) scDue.nd rfl (.inl rfl)) pgs_nil)))
        (pss_one (ps_if (pt_cmpR op_eq (pv 7) (pe_ix ix_list (pv 1) pe_int (fun _ _ => rfl)) (nomark _))
          (pss_one (ps_set (i := 3) scDue.nd rfl (.inl rfl) (pe_op op_catA (pv 3) (pe_tup (pa_cons (pv 2) pa_nil)))))
          (pss_one (ps_if (pt_cmpR op_notIn_seq (pv 7) (pv 1) (by rfl))
            (pss_one (ps_set (i := 3) scDue.nd rfl (.inl rfl) (pe_op op_catA (pv 3) (pe_tup (pa_cons (pv 5) pa_nil))))) pss_nil)))))
      (pss_one (ps_ret (pv 3))))))), ?_⟩
    -- _law_whole, _law_found = ((), ())
    refine ⟨Nat.zero_le _, fun p1 n1 => ⟨Nat.zero_le _, fun p2 n2 => ⟨by show 2 ≤ sizeLine; decide, fun p3 n3 => ?_⟩⟩⟩
    refine ⟨p3, [.ref p1, .ref p2], rfl, .inl (.inl upd_same), rfl, .ref p1, [.ref p2], rfl, .ref p2, [], rfl, rfl, ?_⟩
    have sA : Same H (upd (upd (upd H p1 (.tup [])) p2 (.tup [])) p3 (.tup [.ref p1, .ref p2])) := Same.trans (same_new n1) (Same.trans (same_new n2) (same_new n3))
    have hw0 : (upd (upd (upd H p1 (.tup [])) p2 (.tup [])) p3 (.tup [.ref p1, .ref p2])) p1 = some (.tup []) := same_new n3 _ _ (same_new n2 _ _ upd_same)
    have hf0 : (upd (upd (upd H p1 (.tup [])) p2 (.tup [])) p3 (.tup [.ref p1, .ref p2])) p2 = some (.tup []) := same_new n3 _ _ upd_same
    have hrl : 0 < rows.length := by
      cases ds with
      | nil => simp at hd1
      | cons d r => have := hds d List.mem_cons_self; omega
    have hl0 : (ls.map V.ref)[0]? = some (.ref (ls.getD 0 0)) := by
      rw [List.getElem?_map, List.getD_eq_getElem?_getD, List.getElem?_eq_getElem (by rw [st.len]; exact hrl)]
      rfl
    have hl0' : ls[0]? = some (ls.getD 0 0) := by
      rw [List.getD_eq_getElem?_getD, List.getElem?_eq_getElem (by rw [st.len]; exact hrl)]
      rfl
    have hr0 : rows[0]? = some (rows.getD 0 []) := by
      rw [List.getD_eq_getElem?_getD, List.getElem?_eq_getElem hrl]
      rfl
    have hm0 : (rows.getD 0 []).length = m := (hrm _ (List.mem_of_getElem? hr0)).1
    -- the numbers of the first drawer's kinds
    refine ⟨.ref t, rfl, t, _, (0 : Nat), _, rfl, rfl, SqT.of (sA _ _ st.top), atI_nat hl0, ls.getD 0 0, _, rfl, .inr (SqT.of (sA _ _ (st.row 0 _ _ hl0' hr0))), (m : Int), (by rw [List.length_map, hm0]), by omega, by omega, ?_⟩
    refine for_range (lo := 0) (n := m) (fun i σ H' => ∃ (pw : Addr) (y4 y5 : Option V), σ = [some (.ref t), some (.ref o), some (.ref pw), some (.ref p2), y4, y5, none, none, none] ∧ Same H H' ∧
        H' pw = some (.tup (((totalsOf (subRows rows ds) m).take i).map V.int)) ∧ H' p2 = some (.tup [])) ⟨p1, none, none, rfl, sA, hw0, hf0⟩ (fun i σ Hd hi h => ?_) (fun σ Hd h => ?_)
    · obtain ⟨pw, y4, y5, rfl, s1, hpw, hpf⟩ := h
      have hs : (totalsOf (subRows rows ds) m)[i]? = some (ds.map fun d => (rows.getD d []).getD i 0).sum := by
        unfold totalsOf subRows
        rw [List.getElem?_map, List.getElem?_range hi]
        show some (((ds.map fun d => rows.getD d []).map fun r => r.getD i 0).sum) = _
        rw [List.map_map]
        rfl
      refine ⟨.ref pw, rfl, .ref o, rfl, o, rfl, ⟨_, SqL.of (s1 _ _ ho)⟩, fun D nD => ?_⟩
      refine lc_list (xs := ds.map fun d => V.int (d : Nat)) (fun j H' => H' D = some (.lst (((ds.map fun d => (rows.getD d []).getD i 0).take j).map V.int)) ∧ Same Hd H') ⟨upd_same, same_new nD⟩ (fun j H' _ h => SqL.of (h.2 _ _ (s1 _ _ ho))) (fun j x H' hx h => ?_) (fun H' h => ?_)
      · obtain ⟨hD, sm⟩ := h
        obtain ⟨d, hd, rfl⟩ := get_map hx
        have s2 := s1.trans sm
        have hdr := hds d (List.mem_of_getElem? hd)
        have hdl : d < ls.length := by rw [st.len]; exact hdr
        have e3 : ls[d]? = some (ls.getD d 0) := by
          rw [List.getD_eq_getElem?_getD, List.getElem?_eq_getElem hdl]
          rfl
        have e4 : rows[d]? = some (rows.getD d []) := by
          rw [List.getD_eq_getElem?_getD, List.getElem?_eq_getElem hdr]
          rfl
        have e5 : (ls.map V.ref)[d]? = some (.ref (ls.getD d 0)) := by
          rw [List.getElem?_map, e3]
          rfl
        have hdm := (hrm _ (List.mem_of_getElem? e4)).1
        have hcell : ((rows.getD d []).map V.int)[i]? = some (.int ((rows.getD d []).getD i 0)) := by
          have hx := List.getElem?_eq_getElem (l := rows.getD d []) (i := i) (by omega)
          rw [List.getElem?_map, hx]
          show some (V.int _) = some (V.int ((rows.getD d []).getD i 0))
          rw [List.getD_eq_getElem?_getD (l := rows.getD d []), hx]
          rfl
        have hs2 : (ds.map fun d => (rows.getD d []).getD i 0)[j]? = some ((rows.getD d []).getD i 0) := by
          rw [List.getElem?_map, hd]
          rfl
        refine ⟨rfl, .ref t, rfl, .int (d : Nat), rfl, t, _, (d : Nat), _, rfl, rfl, SqT.of (s2 _ _ st.top), atI_nat e5, .int ((0 : Int) + i), rfl, ls.getD d 0, _, (i : Nat), _, rfl, (by rw [Int.zero_add]), SqT.of (s2 _ _ (st.row d _ _ e3 e4)), atI_nat hcell, _, hD, ?_, ?_, fun b o' e => ?_⟩
        · rw [List.length_map, List.length_take]
          refine len_lt ?_
          rw [List.length_map]
          omega
        · rw [upd_same, take_succ_map hs2]
        · rw [upd_ne (ne_of_none e nD)]
          exact sm b o' e
      · obtain ⟨hD, sm⟩ := h
        rw [List.take_of_length_le (by simp)] at hD
        refine ⟨D, _, rfl, SqL.of hD, by show 1 ≤ sizeLine; decide, fun p4 n4 => ?_⟩
        have s2 : Same Hd (upd H' p4 (.tup [V.int (ds.map fun d => (rows.getD d []).getD i 0).sum])) := sm.trans (same_new n4)
        have hlen2 : ((totalsOf (subRows rows ds) m).take i).length ≤ 100 := by
          rw [List.length_take, totals_len]
          omega
        refine ⟨pw, p4, _, [V.int (ds.map fun d => (rows.getD d []).getD i 0).sum], rfl, rfl, SqT.of (s2 _ _ hpw), SqT.of upd_same, ?_, fun e => ?_, fun _ e => (nomatch e), fun _ _ p5 n5 => ?_⟩
        · rw [List.length_map]
          exact Nat.le_of_lt (len_lt (by show _ + 1 ≤ 1000; omega))
        · refine ⟨p4, _, _, rfl, s1.trans s2, ?_, s2 _ _ hpf⟩
          rw [take_succ_map hs, e]
          exact upd_same
        · have s3 := s2.trans (same_new (o := .tup (((totalsOf (subRows rows ds) m).take i).map V.int ++ [V.int (ds.map fun d => (rows.getD d []).getD i 0).sum])) n5)
          refine ⟨p5, _, _, rfl, s1.trans s3, ?_, s3 _ _ hpf⟩
          rw [take_succ_map hs]
          exact upd_same
    · obtain ⟨pw, y4, y5, rfl, s1, hpw, hpf⟩ := h
      rw [List.take_of_length_le (by rw [totals_len]; omega)] at hpw
      generalize htot : totalsOf (subRows rows ds) m = tot at hpw q ⊢
      have htb : ∀ x ∈ tot, 0 ≤ x ∧ x < 4096 := by
        rw [← htot]
        refine totals_bd (b := 900) (by decide) (by decide) (by simp [subRows]; exact hd4) fun r hr => ?_
        obtain ⟨d, hd, rfl⟩ := List.mem_map.mp hr
        have e4 : rows[d]? = some (rows.getD d []) := by
          rw [List.getD_eq_getElem?_getD, List.getElem?_eq_getElem (hds d hd)]
          rfl
        exact (hrm _ (List.mem_of_getElem? e4)).2
      have htl : tot.length = m := by rw [← htot, totals_len]
      -- _law_over
      refine ⟨.ref pw, rfl, pw, rfl, ⟨_, SqT.of hpw⟩, fun D nD => ?_⟩
      refine lc_tup (xs := tot.map V.int) (fun j H' => H' D = some (.lst (((tot.take j).filter fun x => decide (50 < x)).map V.int)) ∧ Same Hd H') ⟨upd_same, same_new nD⟩ (fun j H' _ h => SqT.of (h.2 _ _ hpw)) (fun j x H' hx h => ?_) (fun H' h => ?_)
      · obtain ⟨hD, sm⟩ := h
        obtain ⟨z, hz, rfl⟩ := get_map hx
        refine ⟨rfl, _, rfl, z, 50, rfl, rfl, _, rfl, ?_⟩
        by_cases hb : 50 < z
        · refine L2.iteT' (decide_eq_true hb) ⟨_, rfl, _, hD, ?_, ?_, fun b o' e => ?_⟩
          · rw [List.length_map]
            refine len_lt (Nat.le_trans (List.length_filter_le _ _) ?_)
            rw [List.length_take]
            omega
          · rw [upd_same, filter_take_succ hz, if_pos hb, List.map_append]
            rfl
          · rw [upd_ne (ne_of_none e nD)]
            exact sm b o' e
        · refine L2.iteF' (decide_eq_false hb) ⟨?_, sm⟩
          rw [filter_take_succ hz, if_neg hb, List.append_nil]
          exact hD
      · obtain ⟨hD, sm⟩ := h
        rw [List.length_map, List.take_length] at hD
        have s2 : Same H H' := s1.trans sm
        have hpw2 := sm _ _ hpw
        have hpf2 := sm _ _ hpf
        have hfo : firstOver tot = (tot.filter fun x => decide (50 < x)).head? := firstOver_filter tot
        have hob : ∀ x ∈ (tot.filter fun x => decide (50 < x)), 0 ≤ x ∧ x < 4096 := fun x hx => htb x (List.mem_filter.mp hx).1
        have hol : (tot.filter fun x => decide (50 < x)).length ≤ 4 := Nat.le_trans (List.length_filter_le _ _) (by omega)
        generalize (tot.filter fun x => decide (50 < x)) = over at hD hfo hob hol
        have shO : SeqAt.shaped (.list (over.map PyData.int)) = true := by
          have a : SmA (over.map PyData.int).length 13 0 (over.map PyData.int) := SmA.all fun d hd => by
            obtain ⟨x, hx, rfl⟩ := List.mem_map.mp hd
            exact Sm.int (hob x hx).1 (hob x hx).2
          exact a.lst.shaped (by decide)
        -- if _law_over != []
        refine ⟨_, rfl, Nat.zero_le _, fun p6 n6 => ?_⟩
        have s3 : Same H (upd H' p6 (.lst [])) := s2.trans (same_new n6)
        have hD3 : (upd H' p6 (.lst [])) D = some (.lst (over.map V.int)) := same_new n6 _ _ hD
        refine ⟨.list (over.map PyData.int), .list [], .lst (SqL.of hD3) (dps_ints over), .lst (SqL.of upd_same) .nil, shO, by decide, _, rfl, ?_⟩
        cases over with
        | cons x r =>
          have ev : (!PyData.eqv (.list ((x :: r).map PyData.int)) (.list [])) = true := by simp [PyData.eqv, PyData.eqvAll]
          refine L2.iteT' ev ⟨.ref D, rfl, D, _, (0 : Nat), .int x, rfl, rfl, SqL.of hD3, atI_nat rfl, by show 2 ≤ sizeLine; decide, fun p7 n7 => ?_⟩
          refine q p7 _ (s3.trans (same_new n7)) ?_
          unfold ResAt
          rw [hfo]
          exact upd_same
        | nil =>
          have ev : (!PyData.eqv (.list (([] : List Int).map PyData.int)) (.list [])) = false := by simp [PyData.eqv, PyData.eqvAll]
          refine L2.iteF' ev ?_
          have hpw4 := same_new (o := .lst []) n6 _ _ hpw2
          have hpf4 := same_new (o := .lst []) n6 _ _ hpf2
          -- for _law_k, _law_drawer in enumerate(_law_stock_here)
          refine ⟨.ref t, rfl, t, _, rfl, SqT.of (s3 _ _ st.top), ?_⟩
          refine for_enT (xs := ls.map V.ref) (c := 0) (fun i σ H2 => ∃ (pf : Addr) (y5 y7 : Option V) (ls' : List Addr), σ = [some (.ref t), some (.ref o), some (.ref pw), some (.ref pf), y4, y5, some (.ref D), y7, none] ∧ Same H H2 ∧
              H2 pw = some (.tup (tot.map V.int)) ∧ H2 pf = some (.tup (ls'.map V.ref)) ∧ RowsAt H2 ls' (leftRows rows ds tot i) ∧ ls'.length ≤ i)
            ⟨p2, y5, none, [], rfl, s3, hpw4, hpf4, RowsAt.nil, Nat.le_refl _⟩ (fun i σ H2 _ h => by obtain ⟨pf, y5, y7, ls', _, s3, _⟩ := h; exact SqT.of (s3 _ _ st.top)) (fun i x T σ H2 hx h nT => ?_) (fun σ H2 h => ?_)
          · obtain ⟨pf, y5, y7, ls', rfl, s4, hpw5, hpf5, hR, hlen⟩ := h
            obtain ⟨l, hl, rfl⟩ := get_map hx
            have hil : i < rows.length := by
              have := (List.getElem?_eq_some_iff.mp hl).1
              have := st.len
              omega
            have hrow : rows[i]? = some (rows.getD i []) := by
              rw [List.getD_eq_getElem?_getD, List.getElem?_eq_getElem hil]
              rfl
            have sT : Same H2 (upd H2 T (.tup [.int ((0 : Int) + (i : Nat)), .ref l])) := same_new nT
            have s5 : Same H (upd H2 T (.tup [.int ((0 : Int) + (i : Nat)), .ref l])) := s4.trans sT
            have hpw6 := sT _ _ hpw5
            have hpf6 := sT _ _ hpf5
            have hR6 : RowsAt (upd H2 T (.tup [.int ((0 : Int) + (i : Nat)), .ref l])) ls' (leftRows rows ds tot i) := hR.keep fun b xs e => sT _ _ e
            have hrowl := s5 _ _ (st.row i l _ hl hrow)
            have hd0 : (ds.map fun d => V.int (d : Nat))[0]? = some (.int (ds.headD 0 : Nat)) := by
              cases ds with
              | nil => simp at hd1
              | cons d r => rfl
            refine ⟨T, [.int ((0 : Int) + (i : Nat)), .ref l], rfl, .inl (.inl upd_same), rfl, .int ((0 : Int) + (i : Nat)), [.ref l], rfl, .ref l, [], rfl, rfl, ?_⟩
            generalize upd H2 T (.tup [.int ((0 : Int) + (i : Nat)), .ref l]) = H3 at sT s5 hpw6 hpf6 hR6 hrowl ⊢
            -- what the sum with (y,) leaves
            have added : ∀ (y : Addr) (r : List Int) (Nx : L2.St → Hp → Prop) (σ : L2.St), H3 y = some (.tup (r.map V.int)) →
                (∀ pf' H', Same H H' → H' pw = some (.tup (tot.map V.int)) → H' pf' = some (.tup ((ls' ++ [y]).map V.ref)) → RowsAt H' (ls' ++ [y]) (leftRows rows ds tot i ++ [r]) → Nx (σ.set 3 (some (.ref pf'))) H') →
                ([V.ref y].length ≤ sizeLine ∧ ∀ p, H3 p = none → rCatA K (.ref pf) (.ref p) (upd H3 p (.tup [.ref y])) fun z H' => Nx (σ.set 3 (some z)) H') := by
              intro y r Nx σ hy cont
              refine ⟨by show 1 ≤ sizeLine; decide, fun p np => ?_⟩
              have sp : Same H3 (upd H3 p (.tup [.ref y])) := same_new np
              refine ⟨pf, p, ls'.map V.ref, [.ref y], rfl, rfl, SqT.of (sp _ _ hpf6), SqT.of upd_same, ?_, fun e => ?_, fun _ e => (nomatch e), fun _ _ p' np' => ?_⟩
              · rw [List.length_map]
                exact Nat.le_of_lt (len_lt (by show _ + 1 ≤ 1000; omega))
              · have el : ls' = [] := List.map_eq_nil_iff.mp e
                subst el
                exact cont p _ (s5.trans sp) (sp _ _ hpw6) upd_same ((hR6.keep fun b xs e => sp _ _ e).add (sp _ _ hy))
              · have sq := sp.trans (same_new (o := .tup (ls'.map V.ref ++ [.ref y])) np')
                refine cont p' _ (s5.trans sq) (sq _ _ hpw6) ?_ ((hR6.keep fun b xs e => sq _ _ e).add (sq _ _ hy))
                rw [upd_same, List.map_append]
                rfl
            refine ⟨_, rfl, .ref o, rfl, o, _, (0 : Nat), .int (ds.headD 0 : Nat), rfl, rfl, SqL.of (s5 _ _ ho), atI_nat hd0, rfl, _, rfl, ite2 (fun e => ?_) (fun e => ?_)⟩
            · have e1 : ((0 : Int) + (i : Nat)) = (ds.headD 0 : Nat) := V.int.inj (of_decide_eq_true e)
              have e2 : i = ds.headD 0 := by omega
              refine ⟨.ref pf, rfl, .ref pw, rfl, added pw tot _ _ hpw6 fun pf' H4 g1 g2 g3 g4 => ⟨pf', _, _, ls' ++ [pw], rfl, g1, g2, g3, ?_, by rw [List.length_append]; show _ + 1 ≤ _; omega⟩⟩
              rw [leftRows_succ, if_pos e2]
              exact g4
            · have e2 : ¬ i = ds.headD 0 := fun z => e (decide_eq_true (by rw [← z, Int.zero_add]))
              refine ⟨_, rfl, .ref o, rfl, o, _, rfl, .inl (SqL.of (s5 _ _ ho)), rfl, ?_, _, rfl, ?_⟩
              · rw [List.all_map]
                exact List.all_eq_true.mpr fun x _ => rfl
              · rw [inV_nats]
                by_cases hin : i ∈ ds
                · rw [decide_eq_true hin]
                  refine iteF ⟨pf, _, _, ls', rfl, s5, hpw6, hpf6, ?_, by omega⟩
                  rw [leftRows_succ, if_neg e2, if_pos hin, List.append_nil]
                  exact hR6
                · rw [decide_eq_false hin]
                  refine iteT ⟨.ref pf, rfl, .ref l, rfl, added l (rows.getD i []) _ _ hrowl fun pf' H4 g1 g2 g3 g4 => ⟨pf', _, _, ls' ++ [l], rfl, g1, g2, g3, ?_, by rw [List.length_append]; show _ + 1 ≤ _; omega⟩⟩
                  rw [leftRows_succ, if_neg e2, if_neg hin]
                  exact g4
          · obtain ⟨pf, y5, y7, ls', rfl, s4, hpw5, hpf5, hR, hlen⟩ := h
            rw [List.length_map, st.len] at hR
            refine ⟨.ref pf, rfl, q pf H2 s4 ?_⟩
            unfold ResAt
            rw [hfo]
            exact ⟨ls', hpf5, hR.len, hR.row⟩
end
end DD
namespace DD
open PySem PySem.Spec PyProof.Rows L2

/-! ### isinstance of a caught error that has a dict of its own -/
structure IsTx (K : PySem.W.Frag) (D : Addr) : Prop where
  cl : (PySem.W.clsIn K D).isSome = true
  ga : PySem.W.findIn K (.ref D) "__getattribute__" = some (some (.builtin "BaseException.__getattribute__"))
  gt : PySem.W.findIn K (.ref D) "__getattr__" = some none
  sub : PySem.W.subIn K (.ref D) (.type "BaseException") = some true
  hc : PySem.W.findIn K (.ref D) "__class__" = some (some (.builtin "object.__class__"))
  gn : PySem.W.specialIn K (.builtin "object.__class__") "__get__" = some (some (.builtin "getset_descriptor.__get__"))
  tk : PySem.W.takesIn K (.builtin "object.__class__") = some true
  mo : PySem.W.mroIn K D (.type "object") = some true
/-- the asked class, or the tuple of asked classes -/
def rIsD (K : PySem.W.Frag) (cls : Value) (d : Option Addr) (a : Addr) : List V → Hp → VK → Prop := fun xs H Q => ∃ (c : V) (D dd : Addr) (fs : List (Str × V)) (b : Bool), xs = [.ref a, c] ∧ cls = .ref D ∧ d = some dd ∧ H dd = some (.xd fs) ∧ IsTx K D ∧
  ((∃ cv, (∀ u, RelV c u → u = cv) ∧ PySem.W.kitOne K (.ref D) cv = some b) ∨ ∃ (p : Addr) (cs : List Addr), c = .ref p ∧ SqT K H p (cs.map V.ref) ∧ PySem.W.kitAny K (.ref D) (cs.map Value.ref) = some b) ∧ Q (.bl b) H
theorem call_isD {X : Cx} {a : Addr} {oe : Obj} {cls : Value} {d : Option Addr} {pn : List (Addr × Obj)} (hz : Zc cls d oe) (hf : ∃ vs, oe.data = .fields vs) :
    CallR (X.suite a ((a, oe) :: pn)) (.builtin "isinstance") (rIsD X.K cls d a) := by
  intro pins s σ H xs us Q I r h
  obtain ⟨c, D, dd, fs, b, rfl, rfl, rfl, hdd, T, how, q⟩ := h
  cases r with
  | cons rx rr =>
    cases rr with
    | cons rt rr =>
      cases rr
      cases rx
      obtain ⟨hget, _⟩ := I.pin (a, oe) (List.mem_append.mpr (.inl List.mem_cons_self))
      obtain ⟨vs, hv⟩ := hf
      obtain ⟨mA, hns, _⟩ : ObjOk X.prog X.w H s.heap dd (.xd fs) := I.hok dd _ hdd
      obtain ⟨od, ho, _⟩ := lookIn_ns hns
      have J : PySem.W.InstAt s.heap a oe D (some od) := ⟨hget, hz.1, by unfold PySem.W.notCls; rw [hv] <;> rfl, by rw [hz.2]; exact ho⟩
      have Z := PySem.W.kitx_exc (x := a) (ox := oe) (od := some od) T.cl T.ga T.gt T.sub T.hc T.gn T.tk T.mo
      rcases how with ⟨cv, hcv, e⟩ | ⟨p, cs, rfl, hq, e⟩
      · have ec := hcv _ rt
        subst ec
        exact PySem.W.kia_one Z I.kIn J e (fun z => nomatch z) fun tk => ⟨.bl b, H, I.kept (t' := tk) fun _ _ z => z, rfl, q⟩
      · cases rt
        obtain ⟨its, rv, ⟨⟨oc, od2, oda, osl⟩, hp, hpc, n, hpd⟩, _⟩ := I.tuple hq
        obtain rfl := vals_refs rv
        simp only at hpc hpd
        subst hpc hpd
        exact PySem.W.kia_tup Z I.kIn J hp e (fun z => nomatch z) fun tk => ⟨.bl b, H, I.kept (t' := tk) fun _ _ z => z, rfl, q⟩

/-- what the top says of the error classes for _law_told -/
structure ToldTx (K : PySem.W.Frag) (mg : Str → Option Value) (C B C1 C2 C3 : Addr) : Prop where
  is_ : IsTx K C
  xf : XfC K C
  noT : PySem.W.findIn K (.ref C) "total" = some none
  exm : PySem.W.exmOne K (.ref C) (.ref B) = some true
  kV : PySem.W.kitOne K (.ref C) (.type "ValueError") = some true
  kN : PySem.W.kitAny K (.ref C) [.ref C1, .ref C2, .ref C3] = some false
  gC : mg "TooMuch" = some (.ref C)
  gB : mg "DrawerError" = some (.ref B)
  g1 : mg "BadStock" = some (.ref C1)
  g2 : mg "OtherKinds" = some (.ref C2)
  g3 : mg "TooFew" = some (.ref C3)
  mI : mg "isinstance" = none
  mV : mg "ValueError" = none
  ml : mg "len" = none

abbrev NT : List Str := ["_law_stock_here", "_law_drawers", "e"]
theorem scTold : FnScope NT ["_law_stock_here", "_law_drawers"] (defScope sTold) := ⟨rfl, rfl, rfl, by decide +kernel, rfl, by decide +kernel, by decide +kernel⟩
section
def rLenS (K : PySem.W.Frag) : List V → Hp → VK → Prop := fun xs H Q => ∃ p ys, xs = [V.ref p] ∧ (SqL K H p ys ∨ SqT K H p ys) ∧ Q (.int ys.length) H
def tLenIs (K : PySem.W.Frag) (n : Int) : TT := tTest (tOp rEq (tCB (rLenS K) (tCons (tVar 1) tNil)) (tC (.int n)))
def tIx (K : PySem.W.Frag) (n : Int) : TE := tOp (rIxL K) (tVar 1) (tC (.int n))
def tToldBody (K : PySem.W.Frag) (C : Addr) (W : WX) : TS :=
  tSeq (tIfS (tLenIs K 2) (tRet (tCallS (spMergedR C) (WE W) (tCons (tVar 0) (tCons (tIx K 0) (tCons (tIx K 1) tNil))))) tNext)
    (tSeq (tIfS (tLenIs K 3) (tRet (tCallS (spMergedR C) (WE W) (tCons (tVar 0) (tCons (tIx K 0) (tCons (tIx K 1) (tCons (tIx K 2) tNil)))))) tNext)
      (tRet (tCallS (spMergedR C) (WE W) (tCons (tVar 0) (tCons (tIx K 0) (tCons (tIx K 1) (tCons (tIx K 2) (tCons (tIx K 3) tNil))))))))
def tToldSuite (K : PySem.W.Frag) (C C1 C2 C3 : Addr) : Addr → Value → Option Addr → TS := fun a cls d =>
  tIfS (tAnd (tB (tCB (rIsD K cls d a) (tCons (tVar 2) (tCons (tC (.ref C)) tNil)))) (tAnd (tB (tCB (rIsD K cls d a) (tCons (tVar 2) (tCons (tC (.ty "ValueError")) tNil))))
      (tNot (tB (tCB (rIsD K cls d a) (tCons (tVar 2) (tCons (tTup (tCons (tC (.ref C1)) (tCons (tC (.ref C2)) (tCons (tC (.ref C3)) tNil)))) tNil)))))))
    (tRet (tLst (tCons (tC (.str "much")) (tCons (tXf a cls d C "total" (tVar 2)) tNil)))) tNext
variable {P : Program} {w : World} {K : PySem.W.Frag} {mg : Str → Option Value} {base : Heap}
def spTold (K : PySem.W.Frag) : Sp := fun vs H Q _ => ∃ (t o : Addr) (ls : List Addr) (rows : List (List Int)) (m : Nat) (ds : List Nat), vs = [.ref t, .ref o] ∧ StockAt H t ls rows ∧
  H o = some (.lst (ds.map fun d => V.int (d : Nat))) ∧ (∀ d ∈ ds, d < rows.length) ∧ 2 ≤ ds.length ∧ ds.length ≤ 4 ∧ rows.length ≤ 4 ∧ (∀ r ∈ rows, r.length = m) ∧ m ≤ 4 ∧
  ∀ p H', Same H H' → ResAt H' p rows ds (totalsOf (subRows rows ds) m) → Q (.ref p) H'
theorem told_suite {C B C1 C2 C3 a d : Addr} {x : Int} {D : Ends} {σ : L2.St} {H : Hp} (T : ToldTx K mg C B C1 C2 C3) (hs : σ[2]? = some (some (.ref a))) (hd : H d = some (.xd [("total", .int x)]))
    (q : ∀ p H', Same H H' → H' p = some (.lst [.str "much", .int x]) → D.rt (.ref p) H') : tToldSuite K C C1 C2 C3 a (.ref C) (some d) D σ H := by
  have k1 : PySem.W.kitOne K (.ref C) (.ref C) = some true := if_pos (beq_self_eq_true _)
  refine ⟨.ref a, hs, .ref C, C, d, _, true, rfl, rfl, rfl, hd, T.is_, .inl ⟨.ref C, fun u h => h, k1⟩, true, rfl, iteT ?_⟩
  refine ⟨.ref a, hs, .ty "ValueError", C, d, _, true, rfl, rfl, rfl, hd, T.is_, .inl ⟨.type "ValueError", fun u h => h, T.kV⟩, true, rfl, iteT ?_⟩
  refine ⟨.ref a, hs, by show 3 ≤ sizeLine; decide, fun p np => ?_⟩
  have s1 : Same H (upd H p (.tup [.ref C1, .ref C2, .ref C3])) := same_new np
  refine ⟨.ref p, C, d, _, false, rfl, rfl, rfl, s1 _ _ hd, T.is_, .inr ⟨p, [C1, C2, C3], rfl, SqT.of upd_same, T.kN⟩, false, rfl, iteT ?_⟩
  refine ⟨.ref a, hs, rfl, rfl, d, _, .int x, rfl, s1 _ _ hd, by simp [List.lookup], by show 2 ≤ sizeLine; decide, fun p2 n2 => q p2 _ (s1.trans (same_new n2)) upd_same⟩
set_option maxHeartbeats 400000 in
theorem ok_told {C B C1 C2 C3 fM f : Addr} {fd : FuncData} (F : Fun K "_law_told" "_law_told" sTold f fd) (T : ToldTx K mg C B C1 C2 C3) (GM : FnR P w K mg base (L2.CX P w) 3 fM (spMergedR C))
    (gM : mg "merged" = some (.ref fM)) (kM : PySem.W.keepIn K (.ref fM) = true) : FnOk P w K mg base CX0 4 f fd ["_law_stock_here", "_law_drawers"] (spTold K) := by
  refine F.ok scTold (fun vs H Q E h => ?_) (fun cdv A outer s H vs Q E hr h => ?_)
  · obtain ⟨t, o, ls, rows, m, ds, rfl, _⟩ := h
    rfl
  · obtain ⟨t, o, ls, rows, m, ds, rfl, st, ho, hds, hd1, hd4, hr4, hrm, hm, q⟩ := h
    refine ⟨_, pss_cons (ps_try_as (i := 2) (tb := tToldBody K C) (ts := tToldSuite K C C1 C2 C3) (Wout := fun _ _ _ _ => False) rfl rfl scTold.nd rfl rfl ⟨rfl, by decide, Or.inl T.gB⟩ takes0
        (fun W pn xe tk _ => pss_cons (ps_if (pt_cmpR op_eq (by exact (pe_callB (show CallR _ _ (rLenS K) from call_len_seq) (by rfl) T.ml PySem.boot_len (pa_cons (pv 1) pa_nil))) pe_int (nomark _))
            (pss_one (ps_ret (by exact (pe_callRS GM hr rfl gM kM (fun σ => passAt tk σ) (by exact (pa_cons (pv 0) (pa_cons (pe_ix (show IxR _ (rIxL K) from ix_list) (pv 1) pe_int (fun _ _ => rfl)) (pa_cons (pe_ix (show IxR _ (rIxL K) from ix_list) (pv 1) pe_int (fun _ _ => rfl)) pa_nil)))))))) pss_nil)
          (pss_cons (ps_if (pt_cmpR op_eq (by exact (pe_callB (show CallR _ _ (rLenS K) from call_len_seq) (by rfl) T.ml PySem.boot_len (pa_cons (pv 1) pa_nil))) pe_int (nomark _))
            (pss_one (ps_ret (by exact (pe_callRS GM hr rfl gM kM (fun σ => passAt tk σ) (by exact (pa_cons (pv 0) (pa_cons (pe_ix (show IxR _ (rIxL K) from ix_list) (pv 1) pe_int (fun _ _ => rfl)) (pa_cons (pe_ix (show IxR _ (rIxL K) from ix_list) (pv 1) pe_int (fun _ _ => rfl)) (pa_cons (pe_ix (show IxR _ (rIxL K) from ix_list) (pv 1) pe_int (fun _ _ => rfl)) pa_nil))))))))) pss_nil)
          (pss_one (ps_ret (by exact (pe_callRS GM hr rfl gM kM (fun σ => passAt tk σ) (by exact (pa_cons (pv 0) (pa_cons (pe_ix (show IxR _ (rIxL K) from ix_list) (pv 1) pe_int (fun _ _ => rfl)) (pa_cons (pe_ix (show IxR _ (rIxL K) from ix_list) (pv 1) pe_int (fun _ _ => rfl)) (pa_cons (pe_ix (show IxR _ (rIxL K) from ix_list) (pv 1) pe_int (fun _ _ => rfl)) (pa_cons (pe_ix (show IxR _ (rIxL K) from ix_list) (pv 1) pe_int (fun _ _ => rfl)) pa_nil)))))))))))
        )
        (fun a oe cls d pn hz hf => pss_one (ps_if (PW.pt (pw_and (pt_val (by exact (pe_callB (show CallR _ _ (rIsD K cls d a) from call_isD hz hf) (by rfl) T.mI (by decide +kernel) (pa_cons (pv 2) (pa_cons (pe_glob (v := .ref C) rfl T.gC rfl) pa_nil)))))
            (pw_and (pt_val (by exact (pe_callB (show CallR _ _ (rIsD K cls d a) from call_isD hz hf) (by rfl) T.mI (by decide +kernel) (pa_cons (pv 2) (pa_cons (pe_bltn (v := .ty "ValueError") (by rfl) T.mV PyProof.Rows.Boot.«ValueError» rfl) pa_nil)))))
            (pw_and1 (pt_not (pt_val (by exact (pe_callB (show CallR _ _ (rIsD K cls d a) from call_isD hz hf) (by rfl) T.mI (by decide +kernel) (pa_cons (pv 2) (pa_cons (pe_tup (pa_cons (pe_glob (v := .ref C1) rfl T.g1 rfl) (pa_cons (pe_glob (v := .ref C2) rfl T.g2 rfl) (pa_cons (pe_glob (v := .ref C3) rfl T.g3 rfl) pa_nil)))) pa_nil))))))))))
          (pss_one (ps_ret (pe_lst (pa_cons pe_str (pa_cons (by exact (pe_xf T.xf T.noT hz hf (pv 2))) pa_nil))))) pss_nil)))
      (pss_one (ps_ret (pe_lst (pa_cons pe_str pa_nil)))), ?_⟩
    -- the call of merged, in whatever of the three forms
    have call : ∀ (Rt : VK) (Ex : XK), (∀ p H', Same H H' → ResAt H' p rows ds (totalsOf (subRows rows ds) m) → Rt (.ref p) H') →
        (∀ x d H', firstOver (totalsOf (subRows rows ds) m) = some x → Same H H' → H' d = some (.xd [("total", .int x)]) → Ex (.ref C) (some d) H') →
        spMergedR C (.ref t :: ds.map fun d => V.int (d : Nat)) H Rt Ex := by
      intro Rt Ex h1 h2
      refine ⟨[.ref t], ds.map fun d => V.int (d : Nat), rfl, rfl, ?_, fun p np => ?_⟩
      · rw [List.length_map]
        exact Nat.le_of_lt (len_lt (by omega))
      · have sp : Same H (upd H p (.tup (ds.map fun d => V.int (d : Nat)))) := same_new np
        refine ⟨t, p, ls, rows, m, ds, rfl, st.same sp, upd_same, hds, by omega, hd4, hr4, hrm, by omega, fun x hx d H' s1 nd hd => h2 x d H' hx (sp.trans s1) hd, fun hx p' ls' H' s1 st' => h1 p' H' (sp.trans s1) ?_⟩
        unfold ResAt
        rw [hx]
        exact ⟨ls', st'⟩
    -- what the suite makes of the error
    have suite : ∀ (De : Ends) (σ : L2.St) (x : Int) (d : Addr) (H' : Hp), (∀ v H2, Q v H2 → De.rt v H2) → σ.length = 3 → firstOver (totalsOf (subRows rows ds) m) = some x → Same H H' → H' d = some (.xd [("total", .int x)]) →
        wAs K (.ref B) 2 (tToldSuite K C C1 C2 C3) (fun _ _ _ _ => False) De (.ref C) (some d) σ H' := by
      intro De σ x d H' hrt hσ hx s1 hd
      refine ⟨true, T.exm, fun _ a na => ?_, fun e => Bool.noConfusion e⟩
      refine told_suite T ?_ hd fun p2 H2 s2 h2 => hrt _ _ (q p2 H2 (s1.trans s2) ?_)
      · rw [List.getElem?_set_self (by omega)]
      · unfold ResAt
        rw [hx]
        exact h2
    obtain ⟨d0, d1, r, rfl⟩ : ∃ d0 d1 r, ds = d0 :: d1 :: r := by
      match ds, hd1 with
      | d0 :: d1 :: r, _ => exact ⟨d0, d1, r, rfl⟩
    have g : ∀ (j : Nat) (d : Nat), (d0 :: d1 :: r)[j]? = some d → ((d0 :: d1 :: r).map fun d => V.int (d : Nat))[j]? = some (.int (d : Nat)) := fun j d e => by
      rw [List.getElem?_map, e]
      rfl
    match r, hd4 with
    | [], _ =>
      refine ⟨_, rfl, o, _, rfl, .inl (SqL.of ho), rfl, _, rfl, L2.iteT' (decide_eq_true rfl) ?_⟩
      refine ⟨_, rfl, _, rfl, o, _, (0 : Nat), _, rfl, rfl, SqL.of ho, atI_nat (g 0 d0 rfl), _, rfl, o, _, (1 : Nat), _, rfl, rfl, SqL.of ho, atI_nat (g 1 d1 rfl), ?_⟩
      exact call _ _ (fun p H' s1 dp => q p H' s1 dp) (fun x d H' hx s1 hd => suite _ _ x d H' (fun v H2 h => h) rfl hx s1 hd)
    | [d2], _ =>
      refine ⟨_, rfl, o, _, rfl, .inl (SqL.of ho), rfl, _, rfl, L2.iteF' (decide_eq_false fun e => (by have e2 := V.int.inj e; simp at e2)) ?_⟩
      refine ⟨_, rfl, o, _, rfl, .inl (SqL.of ho), rfl, _, rfl, L2.iteT' (decide_eq_true rfl) ?_⟩
      refine ⟨_, rfl, _, rfl, o, _, (0 : Nat), _, rfl, rfl, SqL.of ho, atI_nat (g 0 d0 rfl), _, rfl, o, _, (1 : Nat), _, rfl, rfl, SqL.of ho, atI_nat (g 1 d1 rfl), _, rfl, o, _, (2 : Nat), _, rfl, rfl, SqL.of ho, atI_nat (g 2 d2 rfl), ?_⟩
      exact call _ _ (fun p H' s1 dp => q p H' s1 dp) (fun x d H' hx s1 hd => suite _ _ x d H' (fun v H2 h => h) rfl hx s1 hd)
    | [d2, d3], _ =>
      refine ⟨_, rfl, o, _, rfl, .inl (SqL.of ho), rfl, _, rfl, L2.iteF' (decide_eq_false fun e => (by have e2 := V.int.inj e; simp at e2)) ?_⟩
      refine ⟨_, rfl, o, _, rfl, .inl (SqL.of ho), rfl, _, rfl, L2.iteF' (decide_eq_false fun e => (by have e2 := V.int.inj e; simp at e2)) ?_⟩
      refine ⟨_, rfl, _, rfl, o, _, (0 : Nat), _, rfl, rfl, SqL.of ho, atI_nat (g 0 d0 rfl), _, rfl, o, _, (1 : Nat), _, rfl, rfl, SqL.of ho, atI_nat (g 1 d1 rfl), _, rfl, o, _, (2 : Nat), _, rfl, rfl, SqL.of ho, atI_nat (g 2 d2 rfl), _, rfl, o, _, (3 : Nat), _, rfl, rfl, SqL.of ho, atI_nat (g 3 d3 rfl), ?_⟩
      exact call _ _ (fun p H' s1 dp => q p H' s1 dp) (fun x d H' hx s1 hd => suite _ _ x d H' (fun v H2 h => h) rfl hx s1 hd)
    | _ :: _ :: _ :: _, h => simp at h
end
end DD
namespace DD
open PySem PySem.Spec PyProof.Rows L2
theorem four_of {a b c d : Int} {r : Int} (h0 : 0 ≤ r) (h : r < 4) : ∃ z : Int, (z = a ∨ z = b ∨ z = c ∨ z = d) ∧ atI [V.int a, V.int b, V.int c, V.int d] r = some (.int z) := by
  have e : r = 0 ∨ r = 1 ∨ r = 2 ∨ r = 3 := by omega
  rcases e with rfl | rfl | rfl | rfl
  · exact ⟨a, .inl rfl, rfl⟩
  · exact ⟨b, .inr (.inl rfl), rfl⟩
  · exact ⟨c, .inr (.inr (.inl rfl)), rfl⟩
  · exact ⟨d, .inr (.inr (.inr rfl)), rfl⟩
theorem cut_take {xs : List V} {k : Nat} (h : k ≤ xs.length) : cutV xs none (some (k : Int)) = xs.take k := by
  unfold cutV
  rw [HT.sIx_none, HT.sIx_nat]
  simp
theorem rgV0 (n : Nat) : rgV 0 (n : Int) = (List.range n).map fun d => V.int (d : Nat) := by
  unfold rgV
  rw [Int.sub_zero, Int.toNat_natCast]
  refine List.map_congr_left fun d _ => ?_
  rw [Int.zero_add]
theorem eraseIdx_mapF {α β : Type} (f : α → β) : ∀ (xs : List α) (j : Nat), (xs.map f).eraseIdx j = (xs.eraseIdx j).map f
  | [], _ => by simp
  | _ :: _, 0 => by simp
  | x :: xs, j + 1 => by simp [eraseIdx_mapF f xs j]
theorem sqIx {j n : Nat} (h : j < n) : seqIndex? (j : Int) n = some j := by
  have q1 : ¬ ((j : Int) < 0) := by omega
  have q2 : (j : Int) < (n : Int) := by omega
  have q3 : (0 : Int) ≤ (j : Int) := by omega
  unfold seqIndex?
  simp [q1, q2, q3]
theorem sm_much : Sm 4 0 (.str "much") := ⟨by decide +kernel, rfl, rfl, by decide +kernel, Nat.le_refl _⟩
theorem sm_twice {w k : Nat} {d : PyData} (a : Sm w k d) : Sm (2 * (w + 1)) (k + 1) (.list [d, d]) := by
  have q : SmA (0 + 1 + 1) w k [d, d] := SmA.cons a (SmA.cons a SmA.nil)
  exact q.lst.up (by omega) (by omega)
theorem leftRows_len (rows : List (List Int)) (ds : List Nat) (tot : List Int) : ∀ n, (leftRows rows ds tot n).length ≤ n
  | 0 => Nat.le_refl _
  | n + 1 => by
    have ih := leftRows_len rows ds tot n
    rw [leftRows_succ, List.length_append]
    split
    · simp only [List.length_singleton]
      omega
    · split
      · simp only [List.length_nil]
        omega
      · simp only [List.length_singleton]
        omega
theorem leftRows_mem {rows : List (List Int)} {ds : List Nat} {tot r : List Int} : ∀ {n : Nat}, n ≤ rows.length → r ∈ leftRows rows ds tot n → r = tot ∨ r ∈ rows
  | 0, _, h => by simp [leftRows] at h
  | n + 1, hn, h => by
    rw [leftRows_succ] at h
    rcases List.mem_append.mp h with h | h
    · exact leftRows_mem (by omega) h
    · by_cases h1 : n = ds.headD 0
      · rw [if_pos h1] at h
        exact .inl (List.mem_singleton.mp h)
      · rw [if_neg h1] at h
        by_cases h2 : n ∈ ds
        · rw [if_pos h2] at h
          cases h
        · rw [if_neg h2] at h
          refine .inr ?_
          rw [List.mem_singleton.mp h, List.getD_eq_getElem?_getD, List.getElem?_eq_getElem (by omega)]
          exact List.getElem_mem _
theorem sm_res {rows : List (List Int)} {ds : List Nat} {tot : List Int} (hr : rows.length ≤ 4) (h : ∀ r ∈ rows, r.length ≤ 4 ∧ ∀ x ∈ r, 0 ≤ x ∧ x < 4096) (hl : tot.length ≤ 4) (ht : ∀ x ∈ tot, 0 ≤ x ∧ x < 4096) : Sm 228 2 (resD rows ds tot) := by
  unfold resD
  cases e : firstOver tot with
  | some x =>
    have hx := ht x (List.mem_of_find?_eq_some e)
    have q : SmA (0 + 1 + 1) 13 0 [PyData.str "much", PyData.int x] := SmA.cons (sm_much.up (by decide) (Nat.le_refl _)) (SmA.cons (Sm.int hx.1 hx.2) SmA.nil)
    exact q.lst.up (by omega) (by omega)
  | none =>
    refine sm_stock (fun r hrm => ?_) (Nat.le_trans (leftRows_len rows ds tot _) hr)
    rcases leftRows_mem (Nat.le_refl _) hrm with rfl | h2
    · exact ⟨hl, ht⟩
    · exact h r h2
abbrev NW : List Str := ["_law_script", "_law_deck_here", "_law_turn", "_law_stock_here", "_law_left", "_law_order", "_law_before", "_law_count", "_law_drawers", "_law_due_here", "_law_found", "_law_k", "_law_again"]
theorem scLaw : FnScope NW ["_law_script"] (defScope sLaw) := ⟨rfl, rfl, rfl, by decide +kernel, rfl, by decide +kernel, by decide +kernel⟩
structure Tx (K : PySem.W.Frag) (mg : Str → Option Value) (C fI B C1 C2 C3 fT fM fDk fD fS fC fK fE fL : Addr) (dI dT dM dDk dD dS dC dK dE dL : FuncData) : Prop where
  et : ErrTx K mg C fI B C1 C2 C3 dI
  tt : ToldTx K mg C B C1 C2 C3
  T : Fun K "totals_of" "totals_of" sTotals fT dT
  bT : Binds K dT ["stock"] []
  gT : mg "totals_of" = some (.ref fT)
  M : Fun K "merged" "merged" sMerged fM dM
  gM : mg "merged" = some (.ref fM)
  Dk : Fun K "_law_deck" "_law_deck" sDeck fDk dDk
  bDk : Binds K dDk ["_law_script"] []
  gDk : mg "_law_deck" = some (.ref fDk)
  D : Fun K "_law_draw" "_law_draw" sDraw fD dD
  bD : Binds K dD ["_law_deck_here", "_law_limit"] []
  gD : mg "_law_draw" = some (.ref fD)
  S : Fun K "_law_same" "_law_same" sSame fS dS
  bS : Binds K dS ["_law_value", "_law_due_here"] []
  gS : mg "_law_same" = some (.ref fS)
  C : Fun K "_law_counts" "_law_counts" sCounts fC dC
  bC : Binds K dC ["_law_deck_here", "_law_kinds", "_law_most"] []
  gC : mg "_law_counts" = some (.ref fC)
  Kk : Fun K "_law_stock" "_law_stock" sStock fK dK
  bK : Binds K dK ["_law_deck_here", "_law_most", "_law_high", "_law_kinds"] []
  gK : mg "_law_stock" = some (.ref fK)
  E : Fun K "_law_due" "_law_due" sDue fE dE
  bE : Binds K dE ["_law_stock_here", "_law_drawers"] []
  gE : mg "_law_due" = some (.ref fE)
  L : Fun K "_law_told" "_law_told" sTold fL dL
  bL : Binds K dL ["_law_stock_here", "_law_drawers"] []
  gL : mg "_law_told" = some (.ref fL)
  mM : ∃ tk, mg "MAX_COUNT" = some (.int 50 tk)
  ml : mg "len" = none
  mt : mg "tuple" = none
  mr : mg "range" = none
  ms : mg "sum" = none
  mz : mg "zip" = none
  ma : mg "abs" = none
  mp : mg "repr" = none
  me : mg "enumerate" = none
  mL : mg "list" = none
section
variable {P : Program} {w : World} {K : PySem.W.Frag} {mg : Str → Option Value} {base : Heap}
def spLaw (K : PySem.W.Frag) : Sp := fun vs H Q _ => ∃ (a : Addr) (ns : List Int), vs = [.ref a] ∧ SqL K H a (ns.map V.int) ∧ ns.length ≤ 63 ∧ ∀ H', Q (.bl true) H'
theorem ok_law {C fI B C1 C2 C3 f fT fM fDk fD fS fC fK fE fL : Addr} {fd dI dT dM dDk dD dS dC dK dE dL : FuncData} (F : Fun K "law" "law" sLaw f fd)
    (T : Tx K mg C fI B C1 C2 C3 fT fM fDk fD fS fC fK fE fL dI dT dM dDk dD dS dC dK dE dL) : FnG P w K mg base 5 f fd ["_law_script"] (spLaw K) := by
  have GD : FnOk P w K mg base CX0 1 fD dD ["_law_deck_here", "_law_limit"] spDraw := ok_draw T.D T.ml
  have GDk : FnOk P w K mg base CX0 1 fDk dDk ["_law_script"] (spDeck K) := ok_deck T.Dk T.ma
  have GK : FnOk P w K mg base CX0 3 fK dK ["_law_deck_here", "_law_most", "_law_high", "_law_kinds"] spStock := ok_stock T.Kk T.D T.C T.bD T.gD T.bC T.gC T.ml T.mt T.mr
  have GS : FnG P w K mg base 1 fS dS ["_law_value", "_law_due_here"] (spSame K) := ok_same T.S T.mp
  have GM : FnR P w K mg base (L2.CX P w) 3 fM (spMergedR C) := ok_merged T.M T.et T.T T.bT T.gT T.mM T.mt T.ms T.mz T.me
  have GE : FnOk P w K mg base CX0 1 fE dE ["_law_stock_here", "_law_drawers"] (spDue K) := ok_due T.E T.ml T.mr T.ms T.me
  have GL : FnOk P w K mg base CX0 4 fL dL ["_law_stock_here", "_law_drawers"] (spTold K) := ok_told T.L T.tt GM T.gM T.M.kp
  refine fnG_of F scLaw (fun vs H Q E h => ?_) (fun cdv A hgu outer s H vs Q E hr h => ?_)
  · obtain ⟨a, ns, rfl, _⟩ := h
    rfl
  · obtain ⟨a, ns, rfl, hS, hlen, q⟩ := h
    have hu : (A.deeper (envOfC "law" (defScope sLaw) s.heap.objs.size f cdv)).units + 66 < cLine := by
      have := hr.un
      omega
    refine ⟨_, pss_cons (ps_set (i := 1) scLaw.nd rfl (.inr rfl) (pe_call GDk (hr.mono (by decide)) (by rfl) T.gDk T.Dk.kp T.bDk .nil pass0 (pa_cons (pv 0) pa_nil)))
      (pss_cons (ps_for PassesOwn.never rfl (pi_range1 (by rfl) T.mr (pa_cons pe_int pa_nil)) (pg_name (i := 2) scLaw.nd rfl (.inl rfl))
        (pss_cons (ps_set (i := 3) scLaw.nd rfl (.inr rfl) (pe_call GK (hr.mono (by decide)) (by rfl) T.gK T.Kk.kp T.bK .nil pass0 (pa_cons (pv 1) (pa_cons pe_int (pa_cons (pe_ix ix_list (pe_lst (pa_cons pe_int (pa_cons pe_int (pa_cons pe_int (pa_cons pe_int pa_nil))))) (pe_op op_modN (pv 2) pe_int) (fun _ _ => rfl))
            (pa_cons (pe_op op_add pe_int (pe_call GD (hr.mono (by decide)) (by rfl) T.gD T.D.kp T.bD .nil pass0 (pa_cons (pv 1) (pa_cons pe_int pa_nil)))) pa_nil))))))
        (C8.pss_cut (ps_if (pt_cmpR op_eq (pe_callB call_len_seq (by rfl) T.ml PySem.boot_len (pa_cons (pv 3) pa_nil)) pe_int (nomark _)) (pss_one (ps_set (i := 3) scLaw.nd rfl (.inr rfl) (pe_op op_repT (pv 3) pe_int))) pss_nil)
        (pss_cons (ps_set (i := 4) scLaw.nd rfl (.inr rfl) (pe_listRg rfl (by rfl) T.mL (prg_1 (by rfl) T.mr (pe_callB call_len_seq (by rfl) T.ml PySem.boot_len (pa_cons (pv 3) pa_nil)))))
        (pss_cons (ps_setLc (i := 5) (own := [("_law_k", 11)]) (g := gName 11) rfl scLaw.nd rfl rfl (sw_true rfl rfl rfl (by decide +kernel)) (pi_range1 (by rfl) T.mr (pa_cons (pe_callB call_len_seq (by rfl) T.ml PySem.boot_len (pa_cons (pv 3) pa_nil)) pa_nil))
            (blkOk_by (own := [("_law_k", 11)]) (N := NW) (sc := defScope sLaw) (by decide +kernel)) (fun _ _ _ _ _ => pg_name (i := 11) scLaw.nd rfl (Or.inl rfl)) (fun _ _ _ _ _ => pts_nil)
            (fun _ _ _ _ _ => (show PE _ _ (tBM K "list" rPopAt (tVar 4) (tCons (tCall spDraw [] E0 (tCons (tVar 1) (tCons (tCB (rLenS K) (tCons (tVar 4) tNil)) tNil))) tNil)) from
              pe_bm PySem.F.plainAttrs_list PySem.F.slot_list_pop PySem.F.type_list_pop mt_popAt (pv 4) (pa_cons (pe_call GD (hr.mono (by decide)) (by rfl) T.gD T.D.kp T.bD .nil pass0 (pa_cons (pv 1) (pa_cons (pe_callB (show CallR _ _ (rLenS K) from call_len_seq) (by rfl) T.ml PySem.boot_len (pa_cons (pv 4) pa_nil)) pa_nil))) pa_nil))))
        (pss_cons (ps_set (i := 6) scLaw.nd rfl (.inl rfl) (pe_callB (call_reprD hgu hu) (by rfl) T.mp (by decide +kernel) (pa_cons (pv 3) pa_nil)))
        (pss_one (ps_for PassesOwn.never rfl (pi_range2 (by rfl) T.mr (pa_cons pe_int (pa_cons (pe_op op_add (pe_callB call_len_seq (by rfl) T.ml PySem.boot_len (pa_cons (pv 3) pa_nil)) pe_int) pa_nil))) (pg_name (i := 7) scLaw.nd rfl (.inl rfl))
          (pss_one (ps_for PassesOwn.never rfl (pi_list (pe_lst (pa_cons (pe_slice sl_list (pv 5) po_none (po_some (pv 7))) (pa_cons (pe_slice sl_list (pe_revL (pv 5)) po_none (po_some (pv 7))) pa_nil)))) (pg_name (i := 8) scLaw.nd rfl (.inr rfl))
            (pss_cons (ps_set (i := 9) scLaw.nd rfl (.inl rfl) (pe_call GE (hr.mono (by decide)) (by rfl) T.gE T.E.kp T.bE .nil pass0 (pa_cons (pv 3) (pa_cons (pv 8) pa_nil))))
            (pss_cons (ps_setLc (i := 10) (own := [("_law_again", 12)]) (g := gName 12) rfl scLaw.nd rfl rfl (sw_true rfl rfl rfl (by decide +kernel)) (pi_range1 (by rfl) T.mr (pa_cons pe_int pa_nil))
                (blkOk_by (own := [("_law_again", 12)]) (N := NW) (sc := defScope sLaw) (by decide +kernel)) (fun _ _ _ _ _ => pg_name (i := 12) scLaw.nd rfl (Or.inl rfl)) (fun _ _ _ _ _ => pts_nil)
                (fun _ _ _ _ _ => pe_call GL hr (by rfl) T.gL T.L.kp T.bL .nil pass0 (pa_cons (pv 3) (pa_cons (pv 8) pa_nil))))
            (pss_one (ps_if (PW.pt (pw_or (pt_not (pt_val (pe_callG GS hgu (hr.mono (by decide)) (by rfl) T.gS T.S.kp T.bS (pa_cons (pv 10) (pa_cons (pe_lst (pa_cons (pv 9) (pa_cons (pv 9) pa_nil))) pa_nil)))))
                (pw_or1 (pt_cmpR op_ne (pe_callB (call_reprD hgu hu) (by rfl) T.mp (by decide +kernel) (pa_cons (pv 3) pa_nil)) (pv 6) (nomark _)))))
              (pss_one (ps_ret pe_bl)) pss_nil))))))))))))))
      (pss_one (ps_ret (pe_cmpR (op_eqD hr.units) (pe_callRS GM (hr.mono (by decide)) rfl T.gM T.M.kp (fun σ => passAt takes0 σ) (pa_cons (pe_tup (pa_cons (pe_tup (pa_cons pe_int (pa_cons pe_int pa_nil))) (pa_cons (pe_tup (pa_cons pe_int (pa_cons pe_int pa_nil))) pa_nil))) (pa_cons pe_int (pa_cons pe_int pa_nil))))
        (pe_tup (pa_cons (pe_tup (pa_cons pe_int (pa_cons pe_int pa_nil))) pa_nil)) (nomark _))))), ?_⟩
    have iteNx : ∀ {b : Bool} {A C : Prop}, b = false → C → (if b = true then A else C) := fun e h => L2.iteF' e h
    refine ⟨_, rfl, a, ns, rfl, hS, hlen, fun dk c H1 sm1 ndk nc dek => ?_⟩
    refine ⟨12, rfl, by decide, by decide, ?_⟩
    refine for_range (lo := 0) (n := 12) (fun i σ H' => ∃ y2 y3 y4 y5 y6 y7 y8 y9 y10 y11 y12, σ = [some (.ref a), some (.ref dk), y2, y3, y4, y5, y6, y7, y8, y9, y10, y11, y12] ∧ Deck H' dk c (60 * i))
      ⟨none, none, none, none, none, none, none, none, none, none, none, rfl, dek⟩ (fun i σ Ha hi h => ?_) (fun σ Ha h => ?_)
    · obtain ⟨y2, y3, y4, y5, y6, y7, y8, y9, y10, y11, y12, rfl, da⟩ := h
      -- _law_stock_here = ..
      refine ⟨_, rfl, by show 4 ≤ sizeLine; decide, fun l nl => ?_⟩
      obtain ⟨z, hz, ez⟩ := four_of (a := 50) (b := 1) (c := 12) (d := 26) (Int.fmod_nonneg_of_pos ((0 : Int) + i) (show (0 : Int) < 4 by decide)) (Int.fmod_lt_of_pos ((0 : Int) + i) (show (0 : Int) < 4 by decide))
      have hz0 : 0 ≤ z ∧ z ≤ 900 := by omega
      refine ⟨_, rfl, (0 : Int) + i, 4, rfl, rfl, (by show (4 : Int) ≠ 0; decide), l, _, ((0 : Int) + i).fmod 4, .int z, rfl, rfl, SqL.of upd_same, ez, ?_⟩
      refine ⟨_, rfl, dk, c, 60 * i, 4, rfl, da.kp nl, by omega, by decide, by decide, fun r Hb r0 r1 kb db => ⟨1, r, rfl, rfl, ?_⟩⟩
      obtain ⟨n, hn⟩ : ∃ n : Nat, 1 + r = (n : Int) := ⟨(1 + r).toNat, by omega⟩
      refine ⟨dk, c, 60 * i + 1, 4, n, z, (by show [V.ref dk, V.int 4, V.int z, V.int (1 + r)] = _; rw [hn]; rfl), db, by decide, by decide, by omega, by omega, hz0.1, hz0.2, fun t0 ls0 rows0 Hc e1 e2 e3 st0 kc dc => ?_⟩
      have e3' : ∀ r' ∈ rows0, r'.length = n ∧ ∀ x ∈ r', 0 ≤ x ∧ x ≤ 900 := fun r' hr' => ⟨(e3 r' hr').1, fun x hx => by have := (e3 r' hr').2 x hx; omega⟩
      -- if len(_law_stock_here) == 1
      refine ⟨fun σ' H' => ∃ (t : Addr) (ls : List Addr) (rows : List (List Int)), σ' = [some (.ref a), some (.ref dk), some (.int ((0 : Int) + i)), some (.ref t), y4, y5, y6, y7, y8, y9, y10, y11, y12] ∧ 2 ≤ rows.length ∧ rows.length ≤ 4 ∧
        (∀ r' ∈ rows, r'.length = n ∧ ∀ x ∈ r', 0 ≤ x ∧ x ≤ 900) ∧ StockAt H' t ls rows ∧ Deck H' dk c (60 * i + 41), ?_, ?_⟩
      · refine ⟨_, rfl, t0, _, rfl, .inr (SqT.of st0.top), rfl, _, rfl, ite2 (fun e => ?_) (fun e => ?_)⟩
        · have el : ((ls0.map V.ref).length : Int) = 1 := V.int.inj (of_decide_eq_true e)
          rw [List.length_map] at el
          have hll := st0.len
          match ls0, rows0, el, hll, st0, e3' with
          | [l'], [r'], _, _, st0, e3' =>
            refine ⟨_, rfl, t0, 2, [.ref l'], rfl, rfl, SqT.of st0.top, (fun e => nomatch e), by decide, by decide, (by show 1 ≤ 1000; decide), fun p np => ?_⟩
            refine ⟨p, [l', l'], [r', r'], rfl, by show 2 ≤ 2; decide, by show 2 ≤ 4; decide, fun r2 h2 => e3' r2 (by simpa using h2), ⟨upd_same, rfl, fun j l2 r2 x1 x2 => ?_⟩, dc.kp np⟩
            have hrow := same_new (o := .tup (List.replicate (2 : Int).toNat [V.ref l']).flatten) np _ _ (st0.row 0 l' r' rfl rfl)
            have a1 : l2 = l' := by simpa using List.mem_of_getElem? x1
            have a2 : r2 = r' := by simpa using List.mem_of_getElem? x2
            rw [a1, a2]
            exact hrow
          | [], _, h, _, _, _ => simp at h
          | _ :: _ :: _, _, h, _, _, _ => simp at h; omega
          | [_], [], _, h, _, _ => simp at h
          | [_], _ :: _ :: _, _, h, _, _ => simp at h
        · refine ⟨t0, ls0, rows0, rfl, ?_, e2, e3', st0, dc⟩
          have : ¬ ((ls0.map V.ref).length : Int) = 1 := fun z => e (decide_eq_true (by rw [z]))
          rw [List.length_map, st0.len] at this
          omega
      · rintro σ' Hd ⟨t, ls, rows, rfl, h2, h4, hrm, st, dd⟩
        have hn4 : n ≤ 4 := by omega
        have hsm : Sm 228 64 (stockD rows) := (sm_stock (fun r' hr' => ⟨by have := (hrm r' hr').1; omega, fun x hx => by have := (hrm r' hr').2 x hx; omega⟩) h4).up (Nat.le_refl _) (by decide)
        have hll : (ls.map V.ref).length = rows.length := by rw [List.length_map, st.len]
        -- _law_left = list(range(len(_law_stock_here)))
        refine ⟨_, rfl, t, _, rfl, .inr (SqT.of st.top), _, rfl, RgOk.of_le (Int.le_refl _) (by omega) (by decide) (by omega), fun Lp nLp => ?_⟩
        rw [rgV0]
        have stL := st.same (same_new (o := .lst ((List.range (ls.map V.ref).length).map fun d => V.int (d : Nat))) nLp)
        have ddL := dd.kp (o := .lst ((List.range (ls.map V.ref).length).map fun d => V.int (d : Nat))) nLp
        have neL := dd.nedk nLp
        have hLp : (upd Hd Lp (.lst ((List.range (ls.map V.ref).length).map fun d => V.int (d : Nat)))) Lp = some (.lst ((List.range (ls.map V.ref).length).map fun d => V.int (d : Nat))) := upd_same
        generalize (upd Hd Lp (.lst ((List.range (ls.map V.ref).length).map fun d => V.int (d : Nat)))) = H4 at stL ddL hLp ⊢
        -- _law_order = ..
        refine ⟨_, rfl, t, _, rfl, .inr (SqT.of stL.top), _, rfl, by omega, by omega, fun D nD => ?_⟩
        have neD := ddL.nedk nD
        have neDL : D ≠ Lp := fun z => by rw [z, hLp] at nD; cases nD
        refine lc_range (lo := 0) (n := (ls.map V.ref).length) (fun k H' => ∃ (left popped : List Nat), left.length + k = rows.length ∧ popped.length = k ∧ (∀ x ∈ left, x < rows.length) ∧ (∀ x ∈ popped, x < rows.length) ∧
            H' Lp = some (.lst (left.map fun d => V.int (d : Nat))) ∧ H' D = some (.lst (popped.map fun d => V.int (d : Nat))) ∧ (∀ b o, b ≠ dk → b ≠ c → b ≠ Lp → H4 b = some o → H' b = some o) ∧ Deck H' dk c (60 * i + 41 + k))
          ⟨List.range (ls.map V.ref).length, [], by rw [List.length_range]; omega, rfl, fun x hx => by rw [List.mem_range] at hx; omega, fun x hx => (by cases hx), same_new nD _ _ hLp, upd_same, fun b o _ _ _ e => same_new nD _ _ e, ddL.kp nD⟩ (fun k H' hk h => ?_) (fun H' h => ?_)
        · obtain ⟨left, popped, hl1, hl2, hm1, hm2, hL, hD, kp, dk1⟩ := h
          have hlp : 0 < left.length := by omega
          refine ⟨rfl, .ref Lp, rfl, .inl ⟨rfl, _, SqL.of hL⟩, _, rfl, .ref Lp, rfl, Lp, _, rfl, .inl (SqL.of hL), dk, c, 60 * i + 41 + k, ((left.map fun d => V.int (d : Nat)).length : Int), rfl, dk1, by omega, by rw [List.length_map]; omega, by rw [List.length_map]; omega, fun r' H5 s0 s1 k5 d5 => ?_⟩
          rw [List.length_map] at s1
          have hL5 := k5 _ _ neL.1 neL.2 hL
          have hD5 := k5 _ _ neD.1 neD.2 hD
          obtain ⟨j, rfl⟩ : ∃ j : Nat, r' = (j : Int) := ⟨r'.toNat, by omega⟩
          have hj : j < left.length := by omega
          have gj : (left.map fun d => V.int (d : Nat))[j]? = some (.int (left[j] : Nat)) := by
            rw [List.getElem?_map, List.getElem?_eq_getElem hj]
            rfl
          have sq : seqIndex? (j : Int) (left.map fun d => V.int (d : Nat)).length = some j := by
            rw [List.length_map]
            exact sqIx hj
          have hD6 : (upd H5 Lp (.lst ((left.map fun d => V.int (d : Nat)).eraseIdx j))) D = some (.lst (popped.map fun d => V.int (d : Nat))) := by
            rw [upd_ne neDL]
            exact hD5
          refine ⟨Lp, _, (j : Int), j, _, rfl, rfl, hL5, by omega, by omega, sq, gj, _, hD6, ?_, left.eraseIdx j, popped ++ [left[j]], ?_, ?_, fun x hx => hm1 x (List.mem_of_mem_eraseIdx hx), fun x hx => ?_, ?_, ?_, fun b o h1 h2 h3 e => ?_, ?_⟩
          · rw [List.length_map]
            exact len_lt (by omega)
          · rw [List.length_eraseIdx_of_lt hj]
            omega
          · rw [List.length_append, hl2]
            rfl
          · rcases List.mem_append.mp hx with h | h
            · exact hm2 x h
            · rw [List.mem_singleton.mp h]
              exact hm1 _ (List.getElem_mem hj)
          · rw [upd_ne neDL.symm, upd_same, eraseIdx_mapF]
          · rw [upd_same, List.map_append]
            rfl
          · have nb := ne_of_none e nD
            rw [upd_ne nb, upd_ne h3]
            exact k5 b o h1 h2 (kp b o h1 h2 h3 e)
          · exact (d5.updD neL.1 neL.2).updD neD.1 neD.2
        · obtain ⟨left, ord, hl1, hl2, hm1, hm2, hL, hD, kp, dk1⟩ := h
          have hol : ord.length = rows.length := by omega
          have nt : ∀ b xs, H4 b = some (.tup xs) → H' b = some (.tup xs) := fun b xs e => by
            obtain ⟨ns', t', q1, q2, _⟩ := ddL.ex
            exact kp b _ (fun z => by rw [z, q1] at e; cases e) (fun z => by rw [z, q2] at e; cases e) (fun z => by rw [z, hLp] at e; cases e) e
          have st5 : StockAt H' t ls rows := ⟨nt _ _ stL.top, stL.len, fun j l2 r2 x1 x2 => nt _ _ (stL.row j l2 r2 x1 x2)⟩
          have d5 : Deck H' dk c (60 * i + 45) := dk1.up (by omega)
          -- _law_before
          refine ⟨_, rfl, t, stockD rows, 228, rfl, st5.dp, hsm, by decide, ?_⟩
          -- for _law_count in range(2, len + 1)
          refine ⟨_, rfl, t, _, rfl, .inr (SqT.of st5.top), _, 1, rfl, rfl, 2, _, rfl, ⟨by decide, by decide, by omega, by omega⟩, ?_⟩
          refine for_range (lo := 2) (n := ((((ls.map V.ref).length : Int) + 1) - 2).toNat) (fun i' σ H6 => ∃ z7 z8 z9 z10, σ = [some (.ref a), some (.ref dk), some (.int ((0 : Int) + i)), some (.ref t), some (.ref Lp), some (.ref D), some (.str (stockD rows).shown), z7, z8, z9, z10, y11, y12] ∧
              StockAt H6 t ls rows ∧ H6 D = some (.lst (ord.map fun d => V.int (d : Nat))) ∧ Deck H6 dk c (60 * i + 45)) ⟨y7, y8, y9, y10, rfl, st5, hD, d5⟩ (fun i' σ H6 hi' h => ?_) (fun σ H6 h => ?_)
          · obtain ⟨z7, z8, z9, z10, rfl, st6, hD6, d6⟩ := h
            obtain ⟨k, hk, hk2, hk4⟩ : ∃ k : Nat, (2 : Int) + (i' : Nat) = (k : Int) ∧ 2 ≤ k ∧ k ≤ rows.length := ⟨2 + i', by omega, by omega, by omega⟩
            -- the two lists of drawers
            refine ⟨.ref D, rfl, _, rfl, (k : Int), (by show V.int ((2 : Int) + (i' : Nat)) = _; rw [hk]), D, _, rfl, SqL.of hD6, fun A nA => ?_⟩
            have sA : Same H6 (upd H6 A (.lst (cutV (ord.map fun d => V.int (d : Nat)) none (some (k : Int))))) := same_new nA
            refine ⟨.ref D, rfl, D, _, rfl, SqL.of (sA _ _ hD6), fun R nR => ?_⟩
            have sR := sA.trans (same_new (o := .lst (ord.map fun d => V.int (d : Nat)).reverse) nR)
            refine ⟨_, rfl, (k : Int), (by show V.int ((2 : Int) + (i' : Nat)) = _; rw [hk]), R, _, rfl, SqL.of upd_same, fun Bq nB => ?_⟩
            have sB := sR.trans (same_new (o := .lst (cutV (ord.map fun d => V.int (d : Nat)).reverse none (some (k : Int)))) nB)
            refine ⟨by show 2 ≤ sizeLine; decide, fun Ld nLd => ?_⟩
            have sL := sB.trans (same_new (o := .lst [.ref A, .ref Bq]) nLd)
            have eA : cutV (ord.map fun d => V.int (d : Nat)) none (some (k : Int)) = (ord.take k).map fun d => V.int (d : Nat) := by
              rw [cut_take (by rw [List.length_map]; omega), List.map_take]
            have eB : cutV (ord.map fun d => V.int (d : Nat)).reverse none (some (k : Int)) = (ord.reverse.take k).map fun d => V.int (d : Nat) := by
              rw [cut_take (by rw [List.length_reverse, List.length_map]; omega), List.map_take, List.map_reverse]
            have hA : (upd (upd (upd (upd H6 A (.lst (cutV (ord.map fun d => V.int (d : Nat)) none (some (k : Int))))) R (.lst (ord.map fun d => V.int (d : Nat)).reverse)) Bq (.lst (cutV (ord.map fun d => V.int (d : Nat)).reverse none (some (k : Int))))) Ld (.lst [.ref A, .ref Bq])) A = some (.lst ((ord.take k).map fun d => V.int (d : Nat))) := by
              rw [← eA]
              exact same_new nLd _ _ (same_new nB _ _ (same_new nR _ _ upd_same))
            have hB : (upd (upd (upd (upd H6 A (.lst (cutV (ord.map fun d => V.int (d : Nat)) none (some (k : Int))))) R (.lst (ord.map fun d => V.int (d : Nat)).reverse)) Bq (.lst (cutV (ord.map fun d => V.int (d : Nat)).reverse none (some (k : Int))))) Ld (.lst [.ref A, .ref Bq])) Bq = some (.lst ((ord.reverse.take k).map fun d => V.int (d : Nat))) := by
              rw [← eB]
              exact same_new nLd _ _ upd_same
            have hLd : (upd (upd (upd (upd H6 A (.lst (cutV (ord.map fun d => V.int (d : Nat)) none (some (k : Int))))) R (.lst (ord.map fun d => V.int (d : Nat)).reverse)) Bq (.lst (cutV (ord.map fun d => V.int (d : Nat)).reverse none (some (k : Int))))) Ld (.lst [.ref A, .ref Bq])) Ld = some (.lst [.ref A, .ref Bq]) := upd_same
            have st7 := st6.same sL
            have d7 := d6.keep sL
            have hD7 := sL _ _ hD6
            refine ⟨Ld, rfl, ⟨_, SqL.of hLd⟩, ?_⟩
            generalize (upd (upd (upd (upd H6 A (.lst (cutV (ord.map fun d => V.int (d : Nat)) none (some (k : Int))))) R (.lst (ord.map fun d => V.int (d : Nat)).reverse)) Bq (.lst (cutV (ord.map fun d => V.int (d : Nat)).reverse none (some (k : Int))))) Ld (.lst [.ref A, .ref Bq])) = H7 at hA hB hLd st7 d7 hD7 ⊢
            refine for_list (xs := [.ref A, .ref Bq]) (fun j σ H8 => ∃ z8 z9 z10, σ = [some (.ref a), some (.ref dk), some (.int ((0 : Int) + i)), some (.ref t), some (.ref Lp), some (.ref D), some (.str (stockD rows).shown), some (.int ((2 : Int) + (i' : Nat))), z8, z9, z10, y11, y12] ∧ Same H7 H8)
              ⟨z8, z9, z10, rfl, Same.refl _⟩ (fun j σ H8 _ h => by obtain ⟨z8, z9, z10, _, s8⟩ := h; exact SqL.of (s8 _ _ hLd)) (fun j x σ H8 hx h => ?_) (fun σ H8 h => ?_)
            · obtain ⟨z8, z9, z10, rfl, s8⟩ := h
              obtain ⟨y, ds, rfl, hy7, hd2, hd4, hds⟩ : ∃ (y : Addr) (ds : List Nat), x = .ref y ∧ H7 y = some (.lst (ds.map fun d => V.int (d : Nat))) ∧ 2 ≤ ds.length ∧ ds.length ≤ 4 ∧ ∀ d ∈ ds, d < rows.length := by
                have hxm := List.mem_of_getElem? hx
                rcases List.mem_cons.mp hxm with rfl | hxm
                · exact ⟨A, ord.take k, rfl, hA, by rw [List.length_take]; omega, by rw [List.length_take]; omega, fun d hd => hm2 d (List.mem_of_mem_take hd)⟩
                · rw [List.mem_singleton.mp hxm]
                  exact ⟨Bq, ord.reverse.take k, rfl, hB, by rw [List.length_take, List.length_reverse]; omega, by rw [List.length_take]; omega, fun d hd => hm2 d (List.mem_reverse.mp (List.mem_of_mem_take hd))⟩
              have hy8 := s8 _ _ hy7
              have st8 := st7.same s8
              -- _law_due_here
              refine ⟨.ref t, rfl, .ref y, rfl, t, y, ls, rows, n, ds, rfl, st8, hy8, hds, by omega, hd4, h4, hrm, hn4, fun p H9 s9 rp => ?_⟩
              have st9 := st8.same s9
              have hy9 := s9 _ _ hy8
              -- _law_found
              refine ⟨2, rfl, by decide, by decide, fun Fd nF => ?_⟩
              refine lc_range (lo := 0) (n := 2) (fun j' H' => ∃ ps : List Addr, ps.length = j' ∧ H' Fd = some (.lst (ps.map V.ref)) ∧ (∀ p' ∈ ps, ResAt H' p' rows ds (totalsOf (subRows rows ds) n)) ∧ Same H9 H')
                ⟨[], rfl, upd_same, fun p' hp' => (by cases hp'), same_new nF⟩ (fun j' H' hj' h => ?_) (fun H' h => ?_)
              · obtain ⟨ps, hpl, hF, hps, sF⟩ := h
                refine ⟨rfl, .ref t, rfl, .ref y, rfl, t, y, ls, rows, n, ds, rfl, st9.same sF, sF _ _ hy9, hds, hd2, hd4, h4, fun r' hr' => (hrm r' hr').1, hn4, fun p' H10 s10 rp' => ?_⟩
                have hF10 := s10 _ _ hF
                refine ⟨_, hF10, ?_, ps ++ [p'], ?_, ?_, fun p2 hp2 => ?_, fun b o e => ?_⟩
                · rw [List.length_map]
                  exact len_lt (by omega)
                · rw [List.length_append, hpl]
                  rfl
                · rw [upd_same, List.map_append]
                  rfl
                · rcases List.mem_append.mp hp2 with h | h
                  · exact ((hps p2 h).same s10).upd hF10
                  · rw [List.mem_singleton.mp h]
                    exact rp'.upd hF10
                · rw [upd_ne (ne_of_none e nF)]
                  exact s10 _ _ (sF _ _ e)
              · obtain ⟨ps, hpl, hF, hps, sF⟩ := h
                obtain ⟨q1, q2, rfl⟩ : ∃ q1 q2, ps = [q1, q2] := by
                  match ps, hpl with
                  | [q1, q2], _ => exact ⟨q1, q2, rfl⟩
                have htb : ∀ x ∈ totalsOf (subRows rows ds) n, 0 ≤ x ∧ x < 4096 := by
                  refine totals_bd (b := 900) (by decide) (by decide) (by simp [subRows]; exact hd4) fun r' hr' => ?_
                  obtain ⟨d, hd, rfl⟩ := List.mem_map.mp hr'
                  have e4 : rows[d]? = some (rows.getD d []) := by
                    rw [List.getD_eq_getElem?_getD, List.getElem?_eq_getElem (hds d hd)]
                    rfl
                  exact (hrm _ (List.mem_of_getElem? e4)).2
                have smR : Sm 228 2 (resD rows ds (totalsOf (subRows rows ds) n)) := sm_res h4 (fun r' hr' => ⟨by have := (hrm r' hr').1; omega, fun x hx => by have := (hrm r' hr').2 x hx; omega⟩) (by rw [totals_len]; exact hn4) htb
                -- if not _law_same(..) or ..
                refine ⟨.ref Fd, rfl, .ref p, rfl, .ref p, rfl, by show 2 ≤ sizeLine; decide, fun l2 n2 => ?_⟩
                have s2 : Same H' (upd H' l2 (.lst [.ref p, .ref p])) := same_new n2
                have D1 : Dp K (upd H' l2 (.lst [.ref p, .ref p])) (.ref Fd) (.list [resD rows ds (totalsOf (subRows rows ds) n), resD rows ds (totalsOf (subRows rows ds) n)]) :=
                  .lst (SqL.of (s2 _ _ hF)) (.cons ((hps q1 (by simp)).same s2).dp (.cons ((hps q2 (by simp)).same s2).dp .nil))
                have rp2 := ((rp.same sF).same s2).dp (K := K)
                have D2 : Dp K (upd H' l2 (.lst [.ref p, .ref p])) (.ref l2) (.list [resD rows ds (totalsOf (subRows rows ds) n), resD rows ds (totalsOf (subRows rows ds) n)]) :=
                  .lst (SqL.of upd_same) (.cons rp2 (.cons rp2 .nil))
                refine ⟨Fd, l2, _, 458, rfl, D1, D2, (sm_twice smR).up (by decide) (by decide), by decide, true, rfl, ?_⟩
                refine iteNx rfl ⟨.ref t, rfl, t, stockD rows, 228, rfl, ((st9.same sF).same s2).dp, hsm, by decide, _, rfl, rfl, _, rfl, ?_⟩
                exact iteNx (by rw [decide_eq_true rfl]; rfl) ⟨_, _, _, rfl, s8.trans (s9.trans (sF.trans s2))⟩
            · obtain ⟨z8, z9, z10, rfl, s8⟩ := h
              exact ⟨_, _, _, _, rfl, st7.same s8, s8 _ _ hD7, d7.keep s8⟩
          · obtain ⟨z7, z8, z9, z10, rfl, st6, hD6, d6⟩ := h
            exact ⟨_, _, _, _, _, _, _, _, _, _, _, rfl, d6.up (by omega)⟩
    · -- return merged(((25, 0), (25, 50)), 1, 0) == ((50, 50),)
      refine ⟨by show 2 ≤ sizeLine; decide, fun p1 n1 => ⟨by show 2 ≤ sizeLine; decide, fun p2 n2 => ⟨by show 2 ≤ sizeLine; decide, fun p3 n3 => ?_⟩⟩⟩
      have st : StockAt (upd (upd (upd Ha p1 (.tup [.int 25, .int 0])) p2 (.tup [.int 25, .int 50])) p3 (.tup [.ref p1, .ref p2])) p3 [p1, p2] [[25, 0], [25, 50]] := by
        refine ⟨upd_same, rfl, fun j l' r' x1 x2 => ?_⟩
        match j, x1, x2 with
        | 0, x1, x2 =>
          obtain rfl : p1 = l' := Option.some.inj x1
          obtain rfl : [25, 0] = r' := Option.some.inj x2
          exact same_new n3 _ _ (same_new n2 _ _ upd_same)
        | 1, x1, x2 =>
          obtain rfl : p2 = l' := Option.some.inj x1
          obtain rfl : [25, 50] = r' := Option.some.inj x2
          exact same_new n3 _ _ upd_same
        | j + 2, x1, _ => simp at x1
      refine ⟨[.ref p3], [.int 1, .int 0], rfl, rfl, by show 2 ≤ sizeLine; decide, fun p4 n4 => ?_⟩
      refine ⟨p3, p4, [p1, p2], [[25, 0], [25, 50]], 2, [1, 0], rfl, st.same (same_new n4), upd_same, by decide, by decide, by decide, by decide, by decide, by decide, fun x hx => ?_, fun _ p ls' H5 s5 st5 => ?_⟩
      · have e : firstOver (totalsOf (subRows [[25, 0], [25, 50]] [1, 0]) 2) = none := by decide
        rw [e] at hx
        cases hx
      · refine ⟨by show 2 ≤ sizeLine; decide, fun p6 n6 => ⟨by show 1 ≤ sizeLine; decide, fun p7 n7 => ?_⟩⟩
        have e : leftRows [[25, 0], [25, 50]] [1, 0] (totalsOf (subRows [[25, 0], [25, 50]] [1, 0]) 2) 2 = [[50, 50]] := by decide
        have st5' : StockAt H5 p ls' (leftRows [[25, 0], [25, 50]] [1, 0] (totalsOf (subRows [[25, 0], [25, 50]] [1, 0]) 2) 2) := st5
        rw [e] at st5'
        have s7 : Same H5 (upd (upd H5 p6 (.tup [.int 50, .int 50])) p7 (.tup [.ref p6])) := Same.trans (same_new n6) (same_new n7)
        have st7 : StockAt (upd (upd H5 p6 (.tup [.int 50, .int 50])) p7 (.tup [.ref p6])) p7 [p6] [[50, 50]] := by
          refine ⟨upd_same, rfl, fun j l' r' x1 x2 => ?_⟩
          match j, x1, x2 with
          | 0, x1, x2 =>
            obtain rfl : p6 = l' := Option.some.inj x1
            obtain rfl : [50, 50] = r' := Option.some.inj x2
            exact same_new n7 _ _ upd_same
          | j + 1, x1, _ => simp at x1
        refine ⟨stockD [[50, 50]], stockD [[50, 50]], (st5'.same s7).dp, st7.dp, by decide, by decide, ?_⟩
        rw [show PyData.eqv (stockD [[50, 50]]) (stockD [[50, 50]]) = true by decide]
        exact q _
end
end DD
namespace DD
open PySem PySem.Spec PyProof.Rows L2
theorem kitCls_ref {K : PySem.W.Frag} {t : Value} {B : Addr} {b : Bool} (h2 : PySem.W.isClsIn K B = true) (h3 : PySem.W.typeIn K (.ref B) = some (.type "type")) (h4 : PySem.W.subIn K t (.ref B) = some b) : PySem.W.kitCls K t (.ref B) = some b := by
  have e2 : ((PySem.W.clsIn K B).isSome && PySem.W.typeIn K (.ref B) == some (.type "type")) = true := by
    have h2' : (PySem.W.clsIn K B).isSome = true := h2
    rw [h2', h3] <;> rfl
  show (if ((PySem.W.clsIn K B).isSome && PySem.W.typeIn K (.ref B) == some (.type "type")) = true then PySem.W.subIn K t (.ref B) else none) = some b
  rw [if_pos e2]
  exact h4
theorem exm_base {K : PySem.W.Frag} {C B : Addr} (h1 : PySem.W.subIn K (.ref B) (.type "BaseException") = some true) (h : PySem.W.kitCls K (.ref C) (.ref B) = some true) : PySem.W.exmOne K (.ref C) (.ref B) = some true := by
  have e1 : (PySem.W.subIn K (.ref B) (.type "BaseException") == some true) = true := by rw [h1] <;> rfl
  show (if (PySem.W.subIn K (.ref B) (.type "BaseException") == some true) = true then PySem.W.kitCls K (.ref C) (.ref B) else none) = some true
  rw [if_pos e1]
  exact h
theorem kitOne_of {K : PySem.W.Frag} {t c : Value} {b : Bool} (hn : (t == c) = false) (h : PySem.W.kitCls K t c = some b) : PySem.W.kitOne K t c = some b := by
  show (if (t == c) = true then some true else PySem.W.kitCls K t c) = some b
  rw [hn, if_neg Bool.false_ne_true]
  exact h
theorem kitCls_VE {K : PySem.W.Frag} {t : Value} (h : PySem.W.subIn K t (.type "ValueError") = some true) : PySem.W.kitCls K t (.type "ValueError") = some true := by
  show (if PySem.W.kitMeta "ValueError" = true then PySem.W.subIn K t (.type "ValueError") else none) = some true
  rw [if_pos (by decide +kernel)]
  exact h
theorem kitAny3 {K : PySem.W.Frag} {t a b c : Value} (ha : PySem.W.kitOne K t a = some false) (hb : PySem.W.kitOne K t b = some false) (hc : PySem.W.kitOne K t c = some false) : PySem.W.kitAny K t [a, b, c] = some false := by
  unfold PySem.W.kitAny PySem.W.kitAny PySem.W.kitAny PySem.W.kitAny
  rw [ha, hb, hc]
theorem all_mk {l : PySem.W.OpenLaw} {w : World} {K : PySem.W.Frag} {h : Heap} {mg : Str → Option Value} {fa C B C1 C2 C3 fI f1 f2 f3 f4 f5 f6 f7 f8 f9 f10 : Addr} {tkM : Nat} (kin : K.In h) (nsG : h.Ns mainGlobals mg) (hfa : mg "law" = some (.ref fa))
    {nm q : Str} {N : Addr} {bs : List Value} {sn : List Str} {sub : List Value} {ab : Bool} {col : Option Bool} {dd : Option Addr} {m0 m1 m2 m3 m5 : Option Value}
    {odI anI : Option Addr} {slI : Array (Option Value)} {ocI kVI dcI pmI cdI ctI : Value}
    {od1 an1 : Option Addr} {sl1 : Array (Option Value)} {oc1 kV1 dc1 pm1 cd1 ct1 : Value}
    {od2 an2 : Option Addr} {sl2 : Array (Option Value)} {oc2 kV2 dc2 pm2 cd2 ct2 : Value}
    {od3 an3 : Option Addr} {sl3 : Array (Option Value)} {oc3 kV3 dc3 pm3 cd3 ct3 : Value}
    {od4 an4 : Option Addr} {sl4 : Array (Option Value)} {oc4 kV4 dc4 pm4 cd4 ct4 : Value}
    {od5 an5 : Option Addr} {sl5 : Array (Option Value)} {oc5 kV5 dc5 pm5 cd5 ct5 : Value}
    {od6 an6 : Option Addr} {sl6 : Array (Option Value)} {oc6 kV6 dc6 pm6 cd6 ct6 : Value}
    {od7 an7 : Option Addr} {sl7 : Array (Option Value)} {oc7 kV7 dc7 pm7 cd7 ct7 : Value}
    {od8 an8 : Option Addr} {sl8 : Array (Option Value)} {oc8 kV8 dc8 pm8 cd8 ct8 : Value}
    {od9 an9 : Option Addr} {sl9 : Array (Option Value)} {oc9 kV9 dc9 pm9 cd9 ct9 : Value}
    {od10 an10 : Option Addr} {sl10 : Array (Option Value)} {oc10 kV10 dc10 pm10 cd10 ct10 : Value}
    (aC : PySem.W.nsIn K mainGlobals "TooMuch" = some (some (.ref C)))
    (xL : K.lookup C = some (excClassObj nm q C N bs [.ref B, .type "ValueError", .type "Exception", .type "BaseException", .type "object"] true sn sub ab col dd m0 m1 m2 m3 m5 "ValueError.__new__"))
    (sa : PySem.W.findIn K (.ref C) "__setattr__" = some (some (.builtin "object.__setattr__")))
    (ga : PySem.W.findIn K (.ref C) "__getattribute__" = some (some (.builtin "BaseException.__getattribute__")))
    (gg : PySem.W.findIn K (.ref C) "__getattr__" = some none)
    (nb : PySem.W.findIn K (.ref C) "total" = some none)
    (hcl : PySem.W.findIn K (.ref C) "__class__" = some (some (.builtin "object.__class__")))
    (gnC : PySem.W.specialIn K (.builtin "object.__class__") "__get__" = some (some (.builtin "getset_descriptor.__get__")))
    (tkC : PySem.W.takesIn K (.builtin "object.__class__") = some true)
    (moC : PySem.W.mroIn K C (.type "object") = some true)
    (aI : PySem.W.findIn K (.ref C) "__init__" = some (some (.ref fI)))
    (tI : PySem.W.typeIn K (.ref fI) = some (.type "function"))
    (lI : K.lookup fI = some ⟨ocI, odI, .func (PySem.W.fnOf "__init__" "TooMuch.__init__" (defArgs sInit) (defBody sInit) (defScope sInit) .none kVI dcI pmI anI cdI ctI), slI⟩)
    (cI : PySem.W.codeIn K cdI "TooMuch.__init__" = true)
    (kI : PySem.W.keepIn K (.ref fI) = true)
    (kC : PySem.W.keepIn K (.ref C) = true)
    (eC : PySem.W.subIn K (.ref C) (.type "BaseException") = some true)
    (tC : PySem.W.typeIn K (.ref C) = some (.type "type"))
    (hC : PySem.W.hasDictIn K C = true)
    (iC : PySem.W.isClsIn K C = true)
    (sV : PySem.W.subIn K (.ref C) (.type "ValueError") = some true)
    (aB : PySem.W.nsIn K mainGlobals "DrawerError" = some (some (.ref B)))
    (eB : PySem.W.subIn K (.ref B) (.type "BaseException") = some true)
    (tB : PySem.W.typeIn K (.ref B) = some (.type "type"))
    (iB : PySem.W.isClsIn K B = true)
    (sB : PySem.W.subIn K (.ref C) (.ref B) = some true)
    (aC1 : PySem.W.nsIn K mainGlobals "BadStock" = some (some (.ref C1)))
    (tC1 : PySem.W.typeIn K (.ref C1) = some (.type "type"))
    (iC1 : PySem.W.isClsIn K C1 = true)
    (sC1 : PySem.W.subIn K (.ref C) (.ref C1) = some false)
    (nC1 : ((Value.ref C) == (Value.ref C1)) = false)
    (aC2 : PySem.W.nsIn K mainGlobals "OtherKinds" = some (some (.ref C2)))
    (tC2 : PySem.W.typeIn K (.ref C2) = some (.type "type"))
    (iC2 : PySem.W.isClsIn K C2 = true)
    (sC2 : PySem.W.subIn K (.ref C) (.ref C2) = some false)
    (nC2 : ((Value.ref C) == (Value.ref C2)) = false)
    (aC3 : PySem.W.nsIn K mainGlobals "TooFew" = some (some (.ref C3)))
    (tC3 : PySem.W.typeIn K (.ref C3) = some (.type "type"))
    (iC3 : PySem.W.isClsIn K C3 = true)
    (sC3 : PySem.W.subIn K (.ref C) (.ref C3) = some false)
    (nC3 : ((Value.ref C) == (Value.ref C3)) = false)
    (nB : ((Value.ref C) == (Value.type "ValueError")) = false)
    (aM : PySem.W.nsIn K mainGlobals "MAX_COUNT" = some (some (.int 50 tkM)))
    (a1 : PySem.W.nsIn K mainGlobals "totals_of" = some (some (.ref f1)))
    (l1 : K.lookup f1 = some ⟨oc1, od1, .func (PySem.W.fnOf "totals_of" "totals_of" (defArgs sTotals) (defBody sTotals) (defScope sTotals) .none kV1 dc1 pm1 an1 cd1 ct1), sl1⟩)
    (c1 : PySem.W.codeIn K cd1 "totals_of" = true)
    (k1 : PySem.W.keepIn K (.ref f1) = true)
    (a2 : PySem.W.nsIn K mainGlobals "merged" = some (some (.ref f2)))
    (l2 : K.lookup f2 = some ⟨oc2, od2, .func (PySem.W.fnOf "merged" "merged" (defArgs sMerged) (defBody sMerged) (defScope sMerged) .none kV2 dc2 pm2 an2 cd2 ct2), sl2⟩)
    (c2 : PySem.W.codeIn K cd2 "merged" = true)
    (k2 : PySem.W.keepIn K (.ref f2) = true)
    (a3 : PySem.W.nsIn K mainGlobals "_law_deck" = some (some (.ref f3)))
    (l3 : K.lookup f3 = some ⟨oc3, od3, .func (PySem.W.fnOf "_law_deck" "_law_deck" (defArgs sDeck) (defBody sDeck) (defScope sDeck) .none kV3 dc3 pm3 an3 cd3 ct3), sl3⟩)
    (c3 : PySem.W.codeIn K cd3 "_law_deck" = true)
    (k3 : PySem.W.keepIn K (.ref f3) = true)
    (a4 : PySem.W.nsIn K mainGlobals "_law_draw" = some (some (.ref f4)))
    (l4 : K.lookup f4 = some ⟨oc4, od4, .func (PySem.W.fnOf "_law_draw" "_law_draw" (defArgs sDraw) (defBody sDraw) (defScope sDraw) .none kV4 dc4 pm4 an4 cd4 ct4), sl4⟩)
    (c4 : PySem.W.codeIn K cd4 "_law_draw" = true)
    (k4 : PySem.W.keepIn K (.ref f4) = true)
    (a5 : PySem.W.nsIn K mainGlobals "_law_same" = some (some (.ref f5)))
    (l5 : K.lookup f5 = some ⟨oc5, od5, .func (PySem.W.fnOf "_law_same" "_law_same" (defArgs sSame) (defBody sSame) (defScope sSame) .none kV5 dc5 pm5 an5 cd5 ct5), sl5⟩)
    (c5 : PySem.W.codeIn K cd5 "_law_same" = true)
    (k5 : PySem.W.keepIn K (.ref f5) = true)
    (a6 : PySem.W.nsIn K mainGlobals "_law_counts" = some (some (.ref f6)))
    (l6 : K.lookup f6 = some ⟨oc6, od6, .func (PySem.W.fnOf "_law_counts" "_law_counts" (defArgs sCounts) (defBody sCounts) (defScope sCounts) .none kV6 dc6 pm6 an6 cd6 ct6), sl6⟩)
    (c6 : PySem.W.codeIn K cd6 "_law_counts" = true)
    (k6 : PySem.W.keepIn K (.ref f6) = true)
    (a7 : PySem.W.nsIn K mainGlobals "_law_stock" = some (some (.ref f7)))
    (l7 : K.lookup f7 = some ⟨oc7, od7, .func (PySem.W.fnOf "_law_stock" "_law_stock" (defArgs sStock) (defBody sStock) (defScope sStock) .none kV7 dc7 pm7 an7 cd7 ct7), sl7⟩)
    (c7 : PySem.W.codeIn K cd7 "_law_stock" = true)
    (k7 : PySem.W.keepIn K (.ref f7) = true)
    (a8 : PySem.W.nsIn K mainGlobals "_law_due" = some (some (.ref f8)))
    (l8 : K.lookup f8 = some ⟨oc8, od8, .func (PySem.W.fnOf "_law_due" "_law_due" (defArgs sDue) (defBody sDue) (defScope sDue) .none kV8 dc8 pm8 an8 cd8 ct8), sl8⟩)
    (c8 : PySem.W.codeIn K cd8 "_law_due" = true)
    (k8 : PySem.W.keepIn K (.ref f8) = true)
    (a9 : PySem.W.nsIn K mainGlobals "_law_told" = some (some (.ref f9)))
    (l9 : K.lookup f9 = some ⟨oc9, od9, .func (PySem.W.fnOf "_law_told" "_law_told" (defArgs sTold) (defBody sTold) (defScope sTold) .none kV9 dc9 pm9 an9 cd9 ct9), sl9⟩)
    (c9 : PySem.W.codeIn K cd9 "_law_told" = true)
    (k9 : PySem.W.keepIn K (.ref f9) = true)
    (a10 : PySem.W.nsIn K mainGlobals "law" = some (some (.ref f10)))
    (l10 : K.lookup f10 = some ⟨oc10, od10, .func (PySem.W.fnOf "law" "law" (defArgs sLaw) (defBody sLaw) (defScope sLaw) .none kV10 dc10 pm10 an10 cd10 ct10), sl10⟩)
    (c10 : PySem.W.codeIn K cd10 "law" = true)
    (k10 : PySem.W.keepIn K (.ref f10) = true)
    (z1 : PySem.W.nsIn K mainGlobals "len" = some none)
    (z2 : PySem.W.nsIn K mainGlobals "tuple" = some none)
    (z3 : PySem.W.nsIn K mainGlobals "range" = some none)
    (z4 : PySem.W.nsIn K mainGlobals "sum" = some none)
    (z5 : PySem.W.nsIn K mainGlobals "zip" = some none)
    (z6 : PySem.W.nsIn K mainGlobals "abs" = some none)
    (z7 : PySem.W.nsIn K mainGlobals "repr" = some none)
    (z8 : PySem.W.nsIn K mainGlobals "enumerate" = some none)
    (z9 : PySem.W.nsIn K mainGlobals "list" = some none)
    (z10 : PySem.W.nsIn K mainGlobals "isinstance" = some none)
    (z11 : PySem.W.nsIn K mainGlobals "ValueError" = some none)
    : ∃ fd : FuncData, (∀ (s : Shared) (v : Value), BindsTo s fd ⟨[v], []⟩ [("_law_script", v)]) ∧ ∀ base : Heap, K.In base → base.Ns mainGlobals mg → FnG l.prog w K mg base 5 fa fd ["_law_script"] (spLaw K) := by
  cases hfa.symm.trans (PySem.W.mg_of kin nsG a10)
  have FI := fun_mk (st := sInit) lI cI kI
  have bI := FI.binds (ps := ["self", "total"]) fun _ _ _ _ _ _ us hl => match us, hl with | [_, _], _ => rfl
  have F1 := fun_mk (st := sTotals) l1 c1 k1
  have F2 := fun_mk (st := sMerged) l2 c2 k2
  have F3 := fun_mk (st := sDeck) l3 c3 k3
  have F4 := fun_mk (st := sDraw) l4 c4 k4
  have F5 := fun_mk (st := sSame) l5 c5 k5
  have F6 := fun_mk (st := sCounts) l6 c6 k6
  have F7 := fun_mk (st := sStock) l7 c7 k7
  have F8 := fun_mk (st := sDue) l8 c8 k8
  have F9 := fun_mk (st := sTold) l9 c9 k9
  have F10 := fun_mk (st := sLaw) l10 c10 k10
  have b1 := F1.binds (ps := ["stock"]) fun _ _ _ _ _ _ us hl => match us, hl with | [_], _ => rfl
  have b3 := F3.binds (ps := ["_law_script"]) fun _ _ _ _ _ _ us hl => match us, hl with | [_], _ => rfl
  have b4 := F4.binds (ps := ["_law_deck_here", "_law_limit"]) fun _ _ _ _ _ _ us hl => match us, hl with | [_, _], _ => rfl
  have b5 := F5.binds (ps := ["_law_value", "_law_due_here"]) fun _ _ _ _ _ _ us hl => match us, hl with | [_, _], _ => rfl
  have b6 := F6.binds (ps := ["_law_deck_here", "_law_kinds", "_law_most"]) fun _ _ _ _ _ _ us hl => match us, hl with | [_, _, _], _ => rfl
  have b7 := F7.binds (ps := ["_law_deck_here", "_law_most", "_law_high", "_law_kinds"]) fun _ _ _ _ _ _ us hl => match us, hl with | [_, _, _, _], _ => rfl
  have b8 := F8.binds (ps := ["_law_stock_here", "_law_drawers"]) fun _ _ _ _ _ _ us hl => match us, hl with | [_, _], _ => rfl
  have b9 := F9.binds (ps := ["_law_stock_here", "_law_drawers"]) fun _ _ _ _ _ _ us hl => match us, hl with | [_, _], _ => rfl
  have et : ErrTx K mg C fI B C1 C2 C3 _ := { o := ⟨⟨nm, q, N, bs, _, sn, sub, ab, col, dd, m0, m1, m2, m3, m5, xL, rfl⟩, sa, eC, tC, kC⟩, iC := aI, tI := tI, noT := nb, gC := PySem.W.mg_of kin nsG aC, FI := FI, bI := bI }
  have tt : ToldTx K mg C B C1 C2 C3 := { is_ := { cl := iC, ga := ga, gt := gg, sub := eC, hc := hcl, gn := gnC, tk := tkC, mo := moC }, xf := ⟨ga, gg, eC, hC⟩, noT := nb, exm := exm_base eB (kitCls_ref iB tB sB), kV := kitOne_of nB (kitCls_VE sV), kN := kitAny3 (kitOne_of nC1 (kitCls_ref iC1 tC1 sC1)) (kitOne_of nC2 (kitCls_ref iC2 tC2 sC2)) (kitOne_of nC3 (kitCls_ref iC3 tC3 sC3)), gC := PySem.W.mg_of kin nsG aC, gB := PySem.W.mg_of kin nsG aB, g1 := PySem.W.mg_of kin nsG aC1, g2 := PySem.W.mg_of kin nsG aC2, g3 := PySem.W.mg_of kin nsG aC3, mI := PySem.W.mg_none_of kin nsG z10, mV := PySem.W.mg_none_of kin nsG z11, ml := PySem.W.mg_none_of kin nsG z1 }
  refine ⟨PySem.W.fnOf "law" "law" (defArgs sLaw) (defBody sLaw) (defScope sLaw) .none kV10 dc10 pm10 an10 cd10 ct10, fun s v => .of_eq rfl, fun base _ _ => ?_⟩
  exact ok_law F10 { et := et, tt := tt, T := F1, bT := b1, gT := PySem.W.mg_of kin nsG a1, M := F2, gM := PySem.W.mg_of kin nsG a2, Dk := F3, bDk := b3, gDk := PySem.W.mg_of kin nsG a3, D := F4, bD := b4, gD := PySem.W.mg_of kin nsG a4, S := F5, bS := b5, gS := PySem.W.mg_of kin nsG a5, C := F6, bC := b6, gC := PySem.W.mg_of kin nsG a6, Kk := F7, bK := b7, gK := PySem.W.mg_of kin nsG a7, E := F8, bE := b8, gE := PySem.W.mg_of kin nsG a8, L := F9, bL := b9, gL := PySem.W.mg_of kin nsG a9, ml := PySem.W.mg_none_of kin nsG z1, mt := PySem.W.mg_none_of kin nsG z2, mr := PySem.W.mg_none_of kin nsG z3, ms := PySem.W.mg_none_of kin nsG z4, mz := PySem.W.mg_none_of kin nsG z5, ma := PySem.W.mg_none_of kin nsG z6, mp := PySem.W.mg_none_of kin nsG z7, me := PySem.W.mg_none_of kin nsG z8, mL := PySem.W.mg_none_of kin nsG z9, mM := ⟨_, PySem.W.mg_of kin nsG aM⟩ }
end DD
open PySem PySem.W PyProof.Rows
set_option maxHeartbeats 0 in
theorem PySem.Challenge.cw_darkdrawers_k02_drawers_merged_holds : PySem.Challenge.rw_darkdrawers_k02_drawers_merged.Holds := by
  w_on; o_law; k_head; (case hw => w_witness2)
  k_fill
  refine DD.walk_ofG (l := PySem.Challenge.rw_darkdrawers_k02_drawers_merged) (n := 63) (k := 5) (x := "_law_script") (sp := fun w => DD.spLaw _) rfl (by decide) rfl ⟨rfl, by decide, by decide⟩ (fun w h Y => PySem.W.kIn_of Y) ?F
    (fun _ _ a ns hl _ hS => ⟨a, ns, rfl, hS, hl, fun _ => rfl⟩)
  case F =>
    intro w mg fa h KX G hmg
    refine' DD.all_mk KX G hmg ?aC ?xL ?sa ?ga ?gg ?nb ?hcl ?gnC ?tkC ?moC ?aI ?tI ?lI ?cI ?kI ?kC ?eC ?tC ?hC ?iC ?sV ?aB ?eB ?tB ?iB ?sB ?aC1 ?tC1 ?iC1 ?sC1 ?nC1 ?aC2 ?tC2 ?iC2 ?sC2 ?nC2 ?aC3 ?tC3 ?iC3 ?sC3 ?nC3 ?nB ?aM ?a1 ?l1 ?c1 ?k1 ?a2 ?l2 ?c2 ?k2 ?a3 ?l3 ?c3 ?k3 ?a4 ?l4 ?c4 ?k4 ?a5 ?l5 ?c5 ?k5 ?a6 ?l6 ?c6 ?k6 ?a7 ?l7 ?c7 ?k7 ?a8 ?l8 ?c8 ?k8 ?a9 ?l9 ?c9 ?k9 ?a10 ?l10 ?c10 ?k10 ?z1 ?z2 ?z3 ?z4 ?z5 ?z6 ?z7 ?z8 ?z9 ?z10 ?z11
    (case aC => k_is); (case xL => k_is); (case sa => k_is); (case ga => k_is); (case gg => k_is); (case nb => k_is); (case hcl => k_is); (case gnC => k_is); (case tkC => k_is); (case moC => k_is); (case aI => k_is); (case tI => k_is); (case lI => k_is); (case cI => k_is); (case kI => k_is); (case kC => k_is); (case eC => k_is); (case tC => k_is); (case hC => k_is); (case iC => k_is); (case sV => first | rfl | k_is); (case aB => k_is); (case eB => k_is); (case tB => k_is); (case iB => k_is); (case sB => first | rfl | k_is); (case aC1 => k_is); (case tC1 => k_is); (case iC1 => k_is); (case sC1 => first | rfl | k_is); (case nC1 => first | rfl | decide | k_is); (case aC2 => k_is); (case tC2 => k_is); (case iC2 => k_is); (case sC2 => first | rfl | k_is); (case nC2 => first | rfl | decide | k_is); (case aC3 => k_is); (case tC3 => k_is); (case iC3 => k_is); (case sC3 => first | rfl | k_is); (case nC3 => first | rfl | decide | k_is); (case nB => first | rfl | decide); (case aM => k_is); (case a1 => k_is); (case l1 => k_is); (case c1 => k_is); (case k1 => k_is); (case a2 => k_is); (case l2 => k_is); (case c2 => k_is); (case k2 => k_is); (case a3 => k_is); (case l3 => k_is); (case c3 => k_is); (case k3 => k_is); (case a4 => k_is); (case l4 => k_is); (case c4 => k_is); (case k4 => k_is); (case a5 => k_is); (case l5 => k_is); (case c5 => k_is); (case k5 => k_is); (case a6 => k_is); (case l6 => k_is); (case c6 => k_is); (case k6 => k_is); (case a7 => k_is); (case l7 => k_is); (case c7 => k_is); (case k7 => k_is); (case a8 => k_is); (case l8 => k_is); (case c8 => k_is); (case k8 => k_is); (case a9 => k_is); (case l9 => k_is); (case c9 => k_is); (case k9 => k_is); (case a10 => k_is); (case l10 => k_is); (case c10 => k_is); (case k10 => k_is); (case z1 => k_is); (case z2 => k_is); (case z3 => k_is); (case z4 => k_is); (case z5 => k_is); (case z6 => k_is); (case z7 => k_is); (case z8 => k_is); (case z9 => k_is); (case z10 => k_is); (case z11 => k_is)
