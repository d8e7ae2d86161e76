import PyProof.Rows.All
import Wide.All
import OpenK.AllK
import Wide.FinOn
import HandS.Base
import HandS.Call
import HandS.List
import HandS.Comp
import HandS.Ends
import HandS.Words
import HandS.Star
import PyProof.Rows.RegFStrParts
import HandS.Zip
import KE.GoesEnum
import KE.KTupSum
import HandS.Walk
import HandS.ForMost
import HandS.Codes
import HandS.Style
import HandS.TupAny
import HandS.TupMul
import HandS.Conv
import HandS.Deep
import HandS.IsInst
import HandS.More
import KE.KRevSl
import PySem.Challenge.RW_darkdrawers_k10_draws_judged
set_option Elab.async false
set_option linter.all false
set_option maxRecDepth 100000
namespace DD
open PySem PySem.Spec PyProof.Rows L2

/-! ### a def's promise where no repr is under way (A.guards = some []) -/
structure FnG (P : Program) (w : World) (K : PySem.W.Frag) (mg : Str → Option Value) (base : Heap) (k : Nat) (f : Addr)
    (fd : FuncData) (ps : List Str) (sp : Sp) : Prop where
  arity : ∀ vs H Q E, sp vs H Q E → vs.length = ps.length
  go : ∀ (A : Around), A.guards = some [] → Room k A → ∀ (outer : List Env) (s : Shared) (H : Hp) (args : Args) (us : List Value)
    (vs : List V) (Q : VK) (E : XK), Env0 P w K mg base A outer s H → BindsTo s fd args (ps.zip us) → Vals vs us → sp vs H Q E →
    codeAny (model P w) A (.call (.ref f) args) (CR CX0 outer P w H s Q E) s

section
variable {P : Program} {w : World} {K : PySem.W.Frag} {mg : Str → Option Value} {base : Heap} {k : Nat} {f : Addr} {fd : FuncData}
  {ps : List Str} {sp : Sp}
theorem FnG.up {j : Nat} (F : FnG P w K mg base j f fd ps sp) (h : j ≤ k) : FnG P w K mg base k f fd ps sp :=
  ⟨F.arity, fun A hg hr => F.go A hg (hr.mono h)⟩

theorem fnG_of {x qual : Str} {st : Stmt} {N : List Str} (F : Fun K x qual st f fd) (S : FnScope N ps (defScope st))
    (ar : ∀ vs H Q E, sp vs H Q E → vs.length = ps.length)
    (bd : ∀ (cdv : Value) (A : Around), A.guards = some [] → ∀ (outer : List Env) (s : Shared) (H : Hp) (vs : List V) (Q : VK) (E : XK),
      Room k (A.deeper (envOfC qual (defScope st) s.heap.objs.size f cdv)) → sp vs H Q E →
      ∃ t, PSs (cxOf CX0 P w K mg base N qual (defScope st) f cdv A outer s H E).nox (defBody st) t ∧
        t { nx := fun _ H' => Q .non H', rt := Q } (start N vs) H) : FnG P w K mg base (k + 1) f fd ps sp := by
  obtain ⟨oc, od, kV, doc, pm, an, cdv, ct, osl, rfl, lk, hcd⟩ := F.ex
  refine ⟨ar, fun A hgu hr outer s H args us vs Q E e0 hb rv hsp => ?_⟩
  have nl := ar _ _ _ _ hsp
  have kin : K.In s.heap := e0.mod.kin.keeps fun b o e => (e0.bs b o e).1
  have nolim : s.heap.NoLimit := e0.mod.nolimit.keeps fun b o e => (e0.bs b o e).1
  have kinds : ∀ y ∈ ps.zip us, (defScope st).names.lookup y.1 = some .local ∨ ((defScope st).names.lookup y.1 = some .cell ∧
      ((cellsFrom (s.heap.objs.size + 1) (defScope st).names []).lookup y.1).isSome = true) := by
    rintro ⟨n, v⟩ hy
    rcases S.par n (List.of_mem_zip hy).1 with q | q
    · exact .inl q
    · exact .inr ⟨q, PySem.W.cellsFrom_some _ _ _ (.inl q)⟩
  refine codeAny_call_function hr.depth (kin _ _ lk) rfl S.co S.gen rfl (PySem.W.codeRec_of kin hcd) (hb _ _ _ _ ?_)
  refine wpAny_newFunctionEnv_cells S.kind kinds fun env he s1 xx => ?_
  subst he
  refine ⟨nolim.keeps xx.toInCall.keep, codeAny_func ?_⟩
  obtain ⟨t, ht0, hq⟩ := bd cdv A hgu outer s H vs Q E (hr.deeper _) hsp
  have ht := ht0.nox
  have I0 := inv_start (CX := CX0) (E := E) S hr.hd e0 nl rv xx
  refine wpAny_mono (ht.run [] s1 (start N vs) H _ I0 hq) (fun fl s' hs => ?_) fun e s' hs => hs
  cases fl with
  | ret u =>
    obtain ⟨v, σ', H', J, r2, q⟩ := hs
    exact ⟨v, H', J.os, J.bare, J.base, J.hok, r2, q⟩
  | next =>
    obtain ⟨σ', H', J, q⟩ := hs
    exact ⟨V.non, H', J.os, J.bare, J.base, J.hok, rfl, q⟩
  | brk =>
    obtain ⟨_, _, _, q⟩ := hs
    exact q.elim
  | cont =>
    obtain ⟨_, _, _, q⟩ := hs
    exact q.elim
end

section
variable {X : Cx} {k : Nat} {f : Addr} {fd : FuncData} {ps : List Str} {sp : Sp} {x : Str} {p pos : Pos} {e : Expr} {es : List Expr} {t : TA}
theorem pe_callG (F : FnG X.prog X.w X.K X.mg X.base k f fd ps sp) (hgu : X.A.guards = some []) (hr : Room k X.A) (hg : Gl X x)
    (hm : X.mg x = some (.ref f)) (hk : PySem.W.keepIn X.K (.ref f) = true) (hb : Binds X.K fd ps [])
    (ha : PA X (e :: es) t) (hdb : (x == ("__debug__" : Str)) = false := by decide)
    (he : starEach (e :: es) X.env = (false, eval e X.env) :: starEach es X.env := by rfl)
    (hpl : (backTo pos (starEach es X.env)).any (·.1) = false := by rfl) :
    PE X (.Call (.Name x p) (e :: es) [] pos) (tCall sp [] E0 t) := by
  refine ⟨fun pins s σ H Q I h => wpAny_Call_Name_kw (ld_glob I hg hm ?_ hdb)⟩
  refine PySem.W.callWith_K (h₀ := X.base) I.ok.mod.kin hk
    (thn (ha.run pos pins s σ H _ I h) fun us s1 ⟨vs, H1, I1, r, q⟩ => ⟨I1.kIn, ?_⟩) he hpl
  have q : sp (vs ++ []) H1 Q E0 := q
  rw [List.append_nil] at q
  have hl : (us ++ []).length = ps.length := by rw [List.append_nil, ← r.length]; exact F.arity _ _ _ _ q
  have hbb := hb s1 us I1.kIn hl
  rw [List.append_nil] at hbb
  refine wpAny_call (codeAny_mono (F.go X.A hgu hr X.stack s1 H1 ⟨us, []⟩ us vs Q E0 I1.env0 hbb r q) fun r s' hq => ?_)
  cases r with
  | error e => exact hq.elim
  | ok fl =>
    cases fl with
    | ret u => exact I1.after hq
    | next => exact hq.elim
    | brk => exact hq.elim
    | cont => exact hq.elim
end

/-! ### repr of data -/
mutual
theorem dp_nodict {K : PySem.W.Frag} {H : Hp} : ∀ (d : PyData) (v : V), Dp K H v d → d.hasDict = false
  | .none, _, _ => rfl
  | .bool _, _, _ => rfl
  | .int _, _, _ => rfl
  | .str _, _, _ => rfl
  | .list ds, _, h => by
    cases h with
    | lst _ a => exact dps_nodict ds _ a
  | .tuple ds, _, h => by
    cases h with
    | tup _ a => exact dps_nodict ds _ a
  | .dict _, _, h => by cases h
theorem dps_nodict {K : PySem.W.Frag} {H : Hp} : ∀ (ds : List PyData) (vs : List V), DpAll K H vs ds → PyData.hasDictAll ds = false
  | [], _, _ => rfl
  | d :: ds, _, h => by
    cases h with
    | cons a b =>
      show (d.hasDict || PyData.hasDictAll ds) = false
      rw [dp_nodict d _ a, dps_nodict ds _ b]
      rfl
end

/-- data that is small: what repr and == ask of it -/
structure Sm (wt dp : Nat) (d : PyData) : Prop where
  lay : d.canLay0 = true
  short : d.intsShort 13 = true
  show_ : d.showable = true
  wt : d.weight ≤ wt
  dp : d.depth ≤ dp
structure SmA (n wt dp : Nat) (ds : List PyData) : Prop where
  len : ds.length ≤ n
  lay : PyData.canLayAll0 ds = true
  short : PyData.intsShortAll 13 ds = true
  show_ : PyData.showableAll ds = true
  wt : PyData.weightAll ds ≤ ds.length * (wt + 1)
  dp : PyData.depthAll ds ≤ dp
theorem SmA.nil {n wt dp : Nat} : SmA n wt dp [] := ⟨Nat.zero_le _, rfl, rfl, rfl, by simp [PyData.weightAll], Nat.zero_le _⟩
theorem SmA.cons {n wt dp : Nat} {d : PyData} {ds : List PyData} (a : Sm wt dp d) (b : SmA n wt dp ds) : SmA (n + 1) wt dp (d :: ds) where
  len := Nat.succ_le_succ b.len
  lay := by show (d.canLay0 && _) = true; rw [a.lay, b.lay]; rfl
  short := by show (d.intsShort 13 && _) = true; rw [a.short, b.short]; rfl
  show_ := by show (d.showable && _) = true; rw [a.show_, b.show_]; rfl
  wt := by
    have h1 := a.wt
    have h2 := b.wt
    show d.weight + 1 + PyData.weightAll ds ≤ (ds.length + 1) * (wt + 1)
    rw [Nat.succ_mul]
    omega
  dp := Nat.max_le.mpr ⟨a.dp, b.dp⟩
theorem SmA.all {wt dp : Nat} : ∀ {ds : List PyData}, (∀ d ∈ ds, Sm wt dp d) → SmA ds.length wt dp ds
  | [], _ => .nil
  | d :: ds, h => .cons (h d List.mem_cons_self) (SmA.all fun x hx => h x (List.mem_cons_of_mem _ hx))
theorem Sm.up {w1 w2 k1 k2 : Nat} {d : PyData} (a : Sm w1 k1 d) (h : w1 ≤ w2) (hk : k1 ≤ k2) : Sm w2 k2 d :=
  ⟨a.lay, a.short, a.show_, Nat.le_trans a.wt h, Nat.le_trans a.dp hk⟩
theorem SmA.len_le {n wt dp : Nat} {ds : List PyData} (b : SmA n wt dp ds) : PyData.weightAll ds ≤ n * (wt + 1) :=
  Nat.le_trans b.wt (Nat.mul_le_mul_right _ b.len)
theorem SmA.tup {n wt dp : Nat} {ds : List PyData} (b : SmA n wt dp ds) : Sm (n * (wt + 1)) (dp + 1) (.tuple ds) :=
  ⟨b.lay, b.short, b.show_, b.len_le, Nat.succ_le_succ b.dp⟩
theorem SmA.lst {n wt dp : Nat} {ds : List PyData} (b : SmA n wt dp ds) : Sm (n * (wt + 1)) (dp + 1) (.list ds) :=
  ⟨b.lay, b.short, b.show_, b.len_le, Nat.succ_le_succ b.dp⟩
theorem log2_lt_of {n : Nat} (h : n < 4096) : n.log2 ≤ 11 := by
  by_cases h0 : n = 0
  · subst h0; decide
  · have := (Nat.log2_lt h0 (k := 12)).mpr (by omega)
    omega
theorem Sm.int {i : Int} (h0 : 0 ≤ i) (h : i < 4096) : Sm 13 0 (.int i) where
  lay := rfl
  short := by
    refine decide_eq_true ?_
    have e := int_text_length_le (a := i) (k := 12) (by decide) (by have := log2_lt_of (n := i.natAbs) (by omega); omega)
    show (Str.ofString (toString i)).length ≤ 13
    rw [PySem.ofString_length]
    omega
  show_ := decide_eq_true (by have := log2_lt_of (n := i.natAbs) (by omega); omega)
  wt := by
    have := log2_lt_of (n := i.natAbs) (by omega)
    show (if i == 0 then 0 else i.natAbs.log2 + 1) ≤ 13
    split
    · omega
    · omega
  dp := Nat.le_refl _
theorem Sm.size {wt dp : Nat} {d : PyData} (a : Sm wt dp d) (h : wt ≤ 1048576) : d.shown.length ≤ sizeLine := by
  have h2 := PyData.shown_le 13 (by decide) d (PyData.leavesShort_of_canLay0 13 d a.lay a.short)
  have h3 := a.wt
  rw [sizeLine_eq]
  omega
theorem Sm.shaped {wt dp : Nat} {d : PyData} (a : Sm wt dp d) (h : dp ≤ 64) : SeqAt.shaped d = true := by
  show (d.canLay0 && decide (d.depth ≤ 64)) = true
  rw [a.lay, decide_eq_true (Nat.le_trans a.dp h)]
  rfl

/-- repr of a list or tuple of data: its text -/
theorem call_reprD {X : Cx} (hg : X.A.guards = some []) (hu : X.A.units + 66 < cLine) : CallR X (.builtin "repr") (fun xs H Q =>
    ∃ a d wt, xs = [.ref a] ∧ Dp X.K H (.ref a) d ∧ Sm wt 64 d ∧ wt ≤ 1048576 ∧ Q (.str d.shown) H) := by
  intro pins s σ H xs us Q I r h
  obtain ⟨a, d, wt, rfl, hd, sm, hw, q⟩ := h
  obtain ⟨u, rfl, ru⟩ := vals1 r
  cases ru
  obtain ⟨as, rd⟩ := Dp.reads I d _ _ hd rfl
  have hdp := sm.dp
  exact repr_of_reads' rd sm.show_ (PyData.noDict_hsm (dp_nodict d _ hd)) hg (by omega) (fun _ _ e => e)
    (fun h' u tk hk => ⟨.str d.shown, H, I.kept hk, ⟨_, rfl⟩, q⟩) (sm.size hw)
end DD
namespace DD
open PySem PySem.Spec PyProof.Rows L2

/-! ### the end of a law whose def keeps its promise where no repr is under way -/
section
variable {P : Program} {w : World} {K : PySem.W.Frag} {mg mb : Str → Option Value} {k : Nat} {fa a : Addr} {fd : FuncData} {x : Str} {sp : Sp}
  {s1 : Shared} {vs : List Value} {ns : List Int}
theorem law_goG (kin : K.In s1.heap) (nsG : s1.heap.Ns mainGlobals mg) (nsB : s1.heap.Ns builtinsNs mb)
    (blt : ∀ x : Str, x ≠ "__name__" → mb x = bootBuiltins x) (nolim : s1.heap.NoLimit) (ng : s1.gens = #[])
    (oa : s1.heap.get? a = some { cls := .type "list", data := .seq vs.toArray }) (ia : IntsAre vs ns) (len : ns.length ≤ sizeLine)
    (room : Room k callerA) (F : ∀ base : Heap, K.In base → base.Ns mainGlobals mg → FnG P w K mg base k fa fd [x] sp)
    (bind : ∀ (s : Shared) (u : Value), BindsTo s fd ⟨[u], []⟩ [(x, u)])
    (wish : ∀ H : Hp, Only H → SqL K H a (ns.map V.int) → sp [.ref a] H (fun v _ => v = .bl true) fun _ _ _ => False) :
    codeAny (model P w) callerA (.call (.ref fa) ⟨[.ref a], []⟩)
      (fun r s' => r = .ok (.ret (.bool true)) ∧ OldK s1.heap s'.heap ∧ s'.os = s1.os ∧ AllBare s'.gens) s1 := by
  have rv := vals_ints ia
  have lv := ia.length
  -- the run, from an abstract heap that tracks at most the script
  have main : ∀ H : Hp, Only H → SqL K H a (ns.map V.int) → HOk P w H s1.heap → (∀ b, H b ≠ none → b = a) → (H a ≠ none → K.lookup a = none) →
      codeAny (model P w) callerA (.call (.ref fa) ⟨[.ref a], []⟩)
        (fun r s' => r = .ok (.ret (.bool true)) ∧ OldK s1.heap s'.heap ∧ s'.os = s1.os ∧ AllBare s'.gens) s1 := by
    intro H onl hS ok only noK
    have free : ∀ {b : Addr} {o : Obj} {es : Array DictEntry} {ep : Nat}, s1.heap.get? b = some o → o.data = .dict es ep → H b = none := by
      intro b o es ep e d
      cases q : H b with
      | none => rfl
      | some u =>
        obtain rfl := only b (by rw [q]; simp)
        rw [oa] at e
        cases e
        exact nomatch (show Data.seq vs.toArray _ = Data.dict es ep from d)
    have nsOf : ∀ {b : Addr} {m : Str → Option Value}, s1.heap.Ns b m → (hidT s1.heap H).Ns b m := by
      rintro b m ⟨o, es, ep, e, d, r⟩
      exact ⟨o, es, ep, hidT_get e (free e d), d, r⟩
    have kin0 : K.In (hidT s1.heap H) := fun b o e => hidT_get (kin b o e) (by
      cases q : H b with
      | none => rfl
      | some u =>
        obtain rfl := only b (by rw [q]; simp)
        rw [noK (by rw [q]; simp)] at e
        cases e)
    obtain ⟨mc, c1, c2⟩ := nolim
    have md : Mod K mg (hidT s1.heap H) := ⟨kin0, nsOf nsG, ⟨mb, nsOf nsB, blt⟩, mc, nsOf c1, c2⟩
    have e0 : Env0 P w K mg (hidT s1.heap H) callerA [] s1 H :=
      ⟨rfl, md, fun b o e => of_hidT e, Nat.le_of_eq (hidT_size _ _), trivial, fun b z => (nomatch (show b ∈ ([] : List Addr) from z)), ok, .of_eq ng⟩
    have ran := (F _ kin0 (nsOf nsG)).go callerA rfl room [] s1 H ⟨[.ref a], []⟩ [.ref a] [.ref a] _ _ e0 (bind s1 (.ref a)) (.cons rfl .nil) (wish H onl hS)
    refine codeAny_mono ran fun r s' h => ?_
    match r, h with
    | .ok (.ret u), h =>
      obtain ⟨v, H', eos, br, un, ok', r', q⟩ := h
      obtain rfl : v = .bl true := q
      obtain rfl : u = Value.bool true := r'
      refine ⟨rfl, OldK.of_keep fun b o e => ?_, eos, br⟩
      cases q : H b with
      | none => exact un.keep b o e q (fun z => nomatch (show b ∈ ([] : List Addr) from z)) (by simp)
      | some u =>
        rcases onl b with z | ⟨ob, xs, z⟩
        · rw [q] at z
          cases z
        · have e1 := (ok b _ z).1
          rw [e] at e1
          cases e1
          exact (ok' b _ (un.frzs b _ _ z)).1
  cases hk : K.lookup a with
  | some o =>
    -- the script is one of the module's own objects
    have e := kin a o hk
    rw [oa] at e
    cases e
    have hsz : vs.toArray.size ≤ sizeLine := by
      rw [List.size_toArray, lv]
      exact len
    exact main (fun _ => none) (fun _ => .inl rfl) (.inr ⟨_, vs.toArray, _, hk, rfl, rfl, rfl, hsz, by simpa using rv⟩)
      (fun b u z => nomatch (show (none : Option HO) = some u from z)) (fun b z => absurd rfl z) fun z => absurd rfl z
  | none =>
    let fr : HO := .frz { cls := .type "list", data := .seq vs.toArray } (.lst (ns.map V.int))
    have at_ : (fun b => if b = a then some fr else none : Hp) a = some fr := if_pos rfl
    have else_ : ∀ b, b ≠ a → (fun b => if b = a then some fr else none : Hp) b = none := fun b hb => if_neg hb
    refine main (fun b => if b = a then some fr else none) (fun b => ?_) (.inl (.inr ⟨_, at_⟩)) (fun b u z => ?_) (fun b z => ?_) fun _ => hk
    · by_cases hb : b = a
      · exact .inr ⟨_, _, if_pos hb⟩
      · exact .inl (else_ b hb)
    · by_cases hb : b = a
      · subst hb
        cases at_.symm.trans z
        exact ⟨oa, by rw [List.length_map]; exact len, vs, _, rv, oa⟩
      · exact nomatch (else_ b hb).symm.trans z
    · by_cases hb : b = a
      · exact hb
      · exact absurd (else_ b hb) z
end

theorem walk_ofG {l : PySem.W.OpenLaw} {n k : Nat} {q : Program} {loose : List Str} {XP : (Str → Option Value) → Heap → Prop} {YP : World → Heap → Prop}
    {d : DefRec} {K : Params → PySem.W.Frag} {sp : World → Sp} {x : Str} (most : l.most = some n) (n_le : n ≤ sizeLine) (nodef : d.params.defaults = [])
    (room : Room k callerA) (kin : ∀ (w : World) (h : Heap), YP w h → (K w.params).In h)
    (F : ∀ (w : World) (mg : Str → Option Value) (fa : Addr) (h : Heap), (K w.params).In h → h.Ns mainGlobals mg → mg d.name = some (.ref fa) →
      ∃ fd : FuncData, (∀ (s : Shared) (u : Value), BindsTo s fd ⟨[u], []⟩ [(x, u)]) ∧
        ∀ base : Heap, (K w.params).In base → base.Ns mainGlobals mg → FnG l.prog w (K w.params) mg base k fa fd [x] (sp w))
    (wish : ∀ (w : World) (H : Hp) (a : Addr) (ns : List Int), ns.length ≤ n → Only H → SqL (K w.params) H a (ns.map V.int) →
      sp w [.ref a] H (fun v _ => v = .bl true) fun _ _ _ => False) :
    PySem.W.WalkO q loose XP YP l.row.toRowW d [] (fun f vs => PySem.call f vs) := by
  refine Att.attach_call most nodef fun w s0 s1 mg mb fa o pm cd doc a vs ns G Y ho hd hcd hmg hobj hints hlen hg => ?_
  obtain ⟨fd, hb, hF⟩ := F w mg fa _ (kin w _ Y) G.T.g hmg
  exact law_goG (kin w _ Y) G.T.g G.T.b G.T.builtins G.T.nolimit hg hobj hints (Nat.le_trans hlen n_le) room hF hb
    fun H hO hS => wish w H a ns hlen hO hS
end DD
namespace DD
open PySem PySem.Spec PyProof.Rows L2
section
variable {M : Model} {A : Around} {E : Value → Shared → Prop}
theorem wp_forIn {α β : Type} (f : α → β → Sem (ForInStep β)) : ∀ (l : List α) (J : Nat → β → Shared → Prop),
    (∀ j x b s, l[j]? = some x → J j b s → wpAny M A (f x b) (fun r s' => ∃ b', r = .yield b' ∧ J (j + 1) b' s') E s) →
    ∀ (b : β) (s : Shared), J 0 b s → wpAny M A (forIn l b f) (fun b' s' => J l.length b' s') E s
  | [], J, step, b, s, h => by
    rw [List.forIn_nil]
    exact wpAny_pure h
  | x :: l, J, step, b, s, h => by
    rw [List.forIn_cons]
    refine wpAny_bind (wpAny_mono (step 0 x b s rfl h) (fun r s' hr => ?_) (fun _ _ e => e))
    obtain ⟨b', rfl, hJ⟩ := hr
    exact wp_forIn f l (fun j => J (j + 1)) (fun j y c s'' e hj => step (j + 1) y c s'' e hj) b' s' hJ
end

abbrev zObj (f0 f1 : Value) (TI TO : Addr) : Obj :=
  { cls := .type "zip", dict := none, data := .fields #[f0, f1, .bool false, .ref TI, .ref TO], slots := #[] }
abbrev tObj (vs : Array Value) : Obj := { cls := .type "tuple", data := .seq vs }
structure ZApart (z TI TO : Addr) (ps : List (Addr × Addr)) : Prop where
  tz : TI ≠ z
  oz : TO ≠ z
  it : TI ≠ TO
  nd : (ps.map (·.1)).Nodup
  pz : ∀ p ∈ ps, p.1 ≠ z ∧ p.1 ≠ TI ∧ p.1 ≠ TO ∧ p.2 ≠ z ∧ p.2 ≠ TO
  px : ∀ p ∈ ps, ∀ q ∈ ps, p.2 ≠ q.1
structure ZSt (h : Heap) (z TI TO : Addr) (ps : List (Addr × Addr)) (k : Nat) : Prop where
  zz : ∃ f0 f1, h.get? z = some (zObj f0 f1 TI TO) ∧ (f0 = .none ∨ ∃ a t, f0 = .int a t)
  ti : h.get? TI = some (tObj (ps.map fun p => Value.ref p.1).toArray)
  to : ∃ arr : Array Value, arr.size = ps.length ∧ h.get? TO = some (tObj arr)
  its : ∀ p ∈ ps, h.IsTupleIter p.1 p.2 k


/-- the objects but z, TO and the iterators stand; the first j iterators have turned -/
structure ZMid (g h : Heap) (z TO : Addr) (ps : List (Addr × Addr)) (k j : Nat) : Prop where
  size : h.objs.size = g.objs.size
  keep : ∀ c o, c ≠ z → c ≠ TO → (∀ p ∈ ps, c ≠ p.1) → g.get? c = some o → h.get? c = some o
  its : ∀ (i : Nat) (p : Addr × Addr), ps[i]? = some p → h.IsTupleIter p.1 p.2 (if i < j then k + 1 else k)

section
variable {prog : Program} {w : World} {A : Around} {E : Value → Shared → Prop} {s : Shared} {z TI TO : Addr} {ps : List (Addr × Addr)} {k : Nat}
theorem wp_alive {M : Model} {a : Addr} {Q : Option Obj → Shared → Prop} (h : Q (s.heap.get? a) s) : wpAny M A (loadIfAlive a) Q E s := fun _ _ _ => h
theorem ptr_ne {ps : List (Addr × Addr)} (nd : (ps.map (·.1)).Nodup) {i j : Nat} {p q : Addr × Addr} (hp : ps[i]? = some p) (hq : ps[j]? = some q) (h : i ≠ j) : p.1 ≠ q.1 := by
  intro e
  have e1 : (ps.map (·.1))[i]? = some p.1 := by rw [List.getElem?_map, hp] <;> rfl
  have e2 : (ps.map (·.1))[j]? = some p.1 := by rw [List.getElem?_map, hq, e] <;> rfl
  obtain ⟨l1, g1⟩ := List.getElem?_eq_some_iff.mp e1
  obtain ⟨l2, g2⟩ := List.getElem?_eq_some_iff.mp e2
  exact h ((List.getElem_inj nd).mp (g1.trans g2.symm))
theorem free_or {f0 f1 : Value} (hz : s.heap.get? z = some (zObj f0 f1 TI TO)) (hf0 : f0 = .none ∨ ∃ a t, f0 = .int a t) :
    wpAny (model prog w) A (Builtin.SmallTypes.ownedTupleIsFree (.ref z)) (fun b s' => (b = true ∧ s' = s) ∨
      (b = false ∧ ∃ h' f2, s' = { s with heap := h' } ∧ h'.get? z = some (zObj f0 f2 TI TO) ∧ Heap.SameBut z s.heap h')) E s := by
  unfold Builtin.SmallTypes.ownedTupleIsFree
  refine wpAny_bind (wpAny_field hz rfl (x := f0) rfl ?_)
  rcases hf0 with rfl | ⟨a, t, rfl⟩
  · exact wpAny_pure (.inl ⟨rfl, rfl⟩)
  · refine wpAny_bind (wp_alive ?_)
    cases ha : s.heap.get? a.toNat with
    | none => exact wpAny_pure (.inl ⟨rfl, rfl⟩)
    | some o =>
      simp only [Option.isNone_some, Bool.false_eq_true, if_false]
      refine wpAny_bind (wpAny_field hz rfl (x := f1) rfl ?_)
      by_cases hb : (f1 != Value.bool true) = true
      · rw [if_pos hb]
        refine wpAny_bind (wpAny_setField_rec hz (by simp) fun h1 hz1 hs1 => wpAny_pure (.inr ⟨rfl, h1, .bool true, rfl, hz1, hs1⟩))
      · rw [if_neg hb]
        exact wpAny_pure (.inr ⟨rfl, s.heap, f1, rfl, hz, Heap.SameBut.refl _ _⟩)
/-- one iterator's turn -/
theorem draw_one {g h : Heap} {j : Nat} {p : Addr × Addr} {xs : Array Value} {v : Value} {Q : Value → Shared → Prop} (D : ZApart z TI TO ps) (m : ZMid g h z TO ps k j)
    (hp : ps[j]? = some p) (hl : g.IsTuple p.2 xs) (hx : xs[k]? = some v)
    (hQ : ∀ h', ZMid g h' z TO ps k (j + 1) → Heap.SameBut p.1 h h' → Q v { s with heap := h' }) :
    wpAny (model prog w) A (Builtin.SmallTypes.nextOf (.ref p.1)) Q E { s with heap := h } := by
  have hm : p ∈ ps := List.mem_of_getElem? hp
  have h1 : h.IsTupleIter p.1 p.2 k := by
    have := m.its j p hp
    rwa [if_neg (Nat.lt_irrefl j)] at this
  have h2 : h.IsTuple p.2 xs := by
    obtain ⟨o, e, c⟩ := hl
    exact ⟨o, m.keep _ _ (D.pz p hm).2.2.2.1 (D.pz p hm).2.2.2.2 (fun q hq => D.px p hm q hq) e, c⟩
  refine RZ.nextOf_tuple_item (s := { s with heap := h }) h1 h2 hx fun h' hi hs => hQ h' ⟨hs.1.trans m.size, fun c o c1 c2 c3 e => ?_, fun i q hq => ?_⟩ hs
  · rw [hs.2 c (c3 p hm)]
    exact m.keep c o c1 c2 c3 e
  · by_cases hij : i = j
    · subst hij
      rw [hp] at hq
      cases hq
      rw [if_pos (Nat.lt_succ_self _)]
      exact hi
    · have hqi := m.its i q hq
      have hne := ptr_ne D.nd hq hp hij
      rw [show (if i < j + 1 then k + 1 else k) = (if i < j then k + 1 else k) by
        by_cases hlt : i < j
        · rw [if_pos hlt, if_pos (by omega)]
        · rw [if_neg hlt, if_neg (by omega)]]
      obtain ⟨o, e, c⟩ := hqi
      exact ⟨o, (hs.2 _ hne).trans e, c⟩
theorem ZMid.full {g h : Heap} (m : ZMid g h z TO ps k ps.length) : ∀ p ∈ ps, h.IsTupleIter p.1 p.2 (k + 1) := fun p hp => by
  obtain ⟨i, hi⟩ := List.mem_iff_getElem?.mp hp
  obtain ⟨hl, _⟩ := List.getElem?_eq_some_iff.mp hi
  have := m.its i p hi
  rwa [if_pos hl] at this

theorem zn_item {vs : List Value} {Q : Value → Shared → Prop} (D : ZApart z TI TO ps) (hn : 1 ≤ ps.length) (hn2 : ps.length ≤ 1000) (S : ZSt s.heap z TI TO ps k)
    (hv : vs.length = ps.length) (hi : ∀ (j : Nat) (p : Addr × Addr), ps[j]? = some p → ∃ xs, s.heap.IsTuple p.2 xs ∧ xs[k]? = vs[j]?)
    (hQ : ∀ h', ZSt h' z TI TO ps (k + 1) → h'.get? s.heap.objs.size = some (tObj vs.toArray) → h'.objs.size = s.heap.objs.size + 1 →
      (∀ c o, c ≠ z → c ≠ TO → (∀ p ∈ ps, c ≠ p.1) → s.heap.get? c = some o → h'.get? c = some o) → Q (.ref s.heap.objs.size) { s with heap := h' }) :
    wpAny (model prog w) A (Builtin.«zip.__next__» ⟨[.ref z], []⟩) (fun fin s' => ∃ v, fin = .done (.ret v) ∧ Q v s') E s := by
  obtain ⟨⟨f0, f1, hz, hf0⟩, hTI, ⟨arr, ha, hTO⟩, hits⟩ := S
  show wpAny _ _ (field (.ref z) 2 >>= _) _ _ _
  refine wpAny_bind (wpAny_field hz rfl (x := .bool false) rfl ?_)
  show wpAny _ _ (field (.ref z) 3 >>= _) _ _ _
  refine wpAny_bind (wpAny_field hz rfl (x := .ref TI) rfl ?_)
  refine wpAny_bind (wpAny_seqItems hTI rfl ?_)
  have hne : (ps.map fun p => Value.ref p.1).toArray.isEmpty = false := by
    cases ps with
    | nil => simp at hn
    | cons p r => rfl
  simp only [hne, Bool.false_eq_true, if_false]
  have m0 : ∀ h, Heap.SameBut z s.heap h → ZMid s.heap h z TO ps k 0 := fun h hs =>
    ⟨hs.1, fun c o c1 _ _ e => (hs.2 c c1).trans e, fun i p hp => by
      rw [if_neg (Nat.not_lt_zero _)]
      have hm := List.mem_of_getElem? hp
      obtain ⟨o, e, c⟩ := hits p hm
      exact ⟨o, (hs.2 _ (D.pz p hm).1).trans e, c⟩⟩
  refine wpAny_bind (wpAny_mono (free_or hz hf0) (fun b s' hb => ?_) fun _ _ e => e)
  rcases hb with ⟨rfl, rfl⟩ | ⟨rfl, h1, f2, rfl, hz1, hs1⟩
  · simp only [if_true]
    refine wpAny_bind (wpAny_rule ?_)
    refine wpAny_bind (wpAny_field hz rfl (x := .ref TO) rfl ?_)
    refine wpAny_bind (wpAny_setField_rec hz (by simp) fun h1 hz1 hs1 => ?_)
    replace hz1 : h1.get? z = some (zObj .ellipsis f1 TI TO) := hz1
    have nTI : ∀ p ∈ ps, TI ≠ p.1 := fun p hp q => (D.pz p hp).2.1 q.symm
    refine wpAny_bind (thn (wp_forIn _ _ (fun j b s2 => b = (none, ()) ∧ ∃ (h : Heap) (a2 : Array Value), s2 = { s' with heap := h } ∧ ZMid s'.heap h z TO ps k j ∧
      h.get? z = some (zObj .ellipsis f1 TI TO) ∧ a2.size = ps.length ∧ (∀ i, i < j → a2[i]? = vs[i]?) ∧ h.get? TO = some (tObj a2)) ?step _ _ ?init) fun b s2 hb => ?last)
    case init => exact ⟨rfl, h1, arr, rfl, m0 h1 hs1, hz1, ha, fun i hi => absurd hi (Nat.not_lt_zero _), (hs1.2 _ D.oz).trans hTO⟩
    case step =>
      rintro j x b s2 hx ⟨rfl, h, a2, rfl, m, hz2, hs2, pre, hTO2⟩
      rw [List.getElem?_zipIdx, List.getElem?_map] at hx
      cases hp : ps[j]? with
      | none =>
        rw [hp] at hx
        cases hx
      | some p =>
        rw [hp] at hx
        obtain rfl : (Value.ref p.1, 0 + j) = x := Option.some.inj hx
        obtain ⟨xs, hl, hxk⟩ := hi j p hp
        have hm : p ∈ ps := List.mem_of_getElem? hp
        have hj : j < ps.length := (List.getElem?_eq_some_iff.mp hp).1
        have hjv : vs[j]? = some (vs[j]'(by omega)) := List.getElem?_eq_getElem (by omega)
        refine wpAny_bind (wpAny_onRaise ?_)
        show wpAny _ _ (Builtin.SmallTypes.nextOf (.ref p.1) >>= _) _ _ _
        refine wpAny_bind (draw_one D m hp hl (hxk.trans hjv) fun h' m' hs' => wpAny_pure ?_)
        have hTO' : h'.get? TO = some (tObj a2) := (hs'.2 _ (D.pz p hm).2.2.1.symm).trans hTO2
        refine wpAny_bind (wpAny_seqItems hTO' rfl ?_)
        have hb1 : a2.size ≤ sizeLine := by rw [hs2, sizeLine_eq]; omega
        refine wpAny_bind (wpAny_updateSeq hTO' rfl ?_ hb1 (by rw [Array.size_setIfInBounds, hs2, sizeLine_eq]; omega))
        have sb := Heap.SameBut.update h' TO (Obj.mapSeq fun x => x.setIfInBounds (0 + j) (vs[j]'(by omega)))
        refine wpAny_bind (wpAny_letGo (wpAny_pure ⟨_, rfl, rfl, _, a2.setIfInBounds j (vs[j]'(by omega)), rfl, ⟨sb.1.trans m'.size, fun c o c1 c2 c3 e => (sb.2 c c2).trans (m'.keep c o c1 c2 c3 e), fun i q hq => ?_⟩, ?_, ?_, fun i hij => ?_, ?_⟩))
        · obtain ⟨o, e, c⟩ := m'.its i q hq
          exact ⟨o, (sb.2 _ (D.pz q (List.mem_of_getElem? hq)).2.2.1).trans e, c⟩
        · rw [sb.2 z D.oz.symm, hs'.2 z (D.pz p hm).1.symm]
          exact hz2
        · rw [Array.size_setIfInBounds]
          exact hs2
        · rw [Array.getElem?_setIfInBounds]
          by_cases e : j = i
          · subst e
            rw [if_pos rfl, if_pos (by omega)]
            exact hjv.symm
          · rw [if_neg e]
            exact pre i (by omega)
        · rw [Heap.get?_update_self _ hTO' rfl, Nat.zero_add]
          simp [Obj.mapSeq]
    case last =>
      obtain ⟨rfl, h, a2, rfl, m, hz2, hs2, pre, hTO2⟩ := hb
      rw [List.length_zipIdx, List.length_map] at m pre
      have ea : a2 = vs.toArray := by
        refine Array.ext_getElem? fun i => ?_
        by_cases hlt : i < ps.length
        · rw [pre i hlt, List.getElem?_toArray]
        · rw [Array.getElem?_eq_none (by omega), List.getElem?_toArray, List.getElem?_eq_none (by omega)]
      subst ea
      show wpAny _ _ (seqItems? (.ref TO) >>= _) _ _ _
      refine wpAny_bind (wpAny_seqItems hTO2 rfl ?_)
      refine wpAny_bind (wpAny_newTuple ?_ (by show vs.length ≤ _; rw [sizeLine_eq]; omega))
      show wpAny _ _ (Builtin.SmallTypes.ownedTupleHandOut (.ref z) (.ref h.objs.size) >>= _) _ _ _
      refine wpAny_bind ?_
      unfold Builtin.SmallTypes.ownedTupleHandOut
      have hzp : (h.push (tObj vs.toArray)).get? z = some (zObj .ellipsis f1 TI TO) := Heap.get?_push_of_some _ hz2
      refine wpAny_bind (wpAny_setField_rec hzp (by simp) fun h3 hz3 hs3 => ?_)
      replace hz3 : h3.get? z = some (zObj (rawInt h.objs.size) f1 TI TO) := hz3
      refine wpAny_setField_rec hz3 (by simp) fun h4 hz4 hs4 => ?_
      replace hz4 : h4.get? z = some (zObj (rawInt h.objs.size) (.bool false) TI TO) := hz4
      have hzlt : z < h.objs.size := Heap.lt_size hz2
      have up : ∀ c o, c ≠ z → h.get? c = some o → h4.get? c = some o := fun c o c1 e =>
        (hs4.2 c c1).trans ((hs3.2 c c1).trans (Heap.get?_push_of_some _ e))
      refine wpAny_pure ⟨_, rfl, ?_⟩
      show Q (.ref h.objs.size) _
      have key := hQ h4 ⟨⟨_, _, hz4, .inr ⟨_, _, rfl⟩⟩, up _ _ D.tz (m.keep TI _ D.tz D.it nTI hTI), ⟨_, hs2, up _ _ D.oz hTO2⟩, fun p hp => ?_⟩ ?_ ?_ fun c o c1 c2 c3 e => up c o c1 (m.keep c o c1 c2 c3 e)
      · rw [m.size]
        exact key
      · obtain ⟨o, e, c⟩ := m.full p hp
        exact ⟨o, up _ _ (D.pz p hp).1 e, c⟩
      · rw [← m.size, hs4.2 _ (Nat.ne_of_gt hzlt), hs3.2 _ (Nat.ne_of_gt hzlt)]
        exact Heap.get?_push_size _ rfl
      · rw [hs4.1, hs3.1, Heap.size_push, m.size]
  · simp only [Bool.false_eq_true, if_false, List.forIn_toArray]
    have nTI : ∀ p ∈ ps, TI ≠ p.1 := fun p hp q => (D.pz p hp).2.1 q.symm
    refine wpAny_bind (thn (wp_forIn _ _ (fun j b s2 => b = (none, (vs.take j).toArray) ∧ ∃ (h : Heap), s2 = { s with heap := h } ∧ ZMid s.heap h z TO ps k j ∧
      h.get? z = some (zObj f0 f2 TI TO) ∧ h.get? TO = some (tObj arr)) ?step _ _ ?init) fun b s2 hb => ?last)
    case init => exact ⟨rfl, h1, rfl, m0 h1 hs1, hz1, (hs1.2 _ D.oz).trans hTO⟩
    case step =>
      rintro j x b s2 hx ⟨rfl, h, rfl, m, hz2, hTO2⟩
      rw [List.getElem?_map] at hx
      cases hp : ps[j]? with
      | none =>
        rw [hp] at hx
        cases hx
      | some p =>
        rw [hp] at hx
        obtain rfl : Value.ref p.1 = x := Option.some.inj hx
        obtain ⟨xs, hl, hxk⟩ := hi j p hp
        have hm : p ∈ ps := List.mem_of_getElem? hp
        have hj : j < ps.length := (List.getElem?_eq_some_iff.mp hp).1
        have hjv : vs[j]? = some (vs[j]'(by omega)) := List.getElem?_eq_getElem (by omega)
        refine wpAny_bind (wpAny_holding ?_)
        show wpAny _ _ (Builtin.SmallTypes.nextOf (.ref p.1) >>= _) _ _ _
        refine wpAny_bind (draw_one D m hp hl (hxk.trans hjv) fun h' m' hs' => wpAny_pure (wpAny_pure ⟨_, rfl, ?_, h', rfl, m', ?_, ?_⟩))
        · rw [List.take_add_one, hjv]
          simp
        · exact (hs'.2 z (D.pz p hm).1.symm).trans hz2
        · exact (hs'.2 _ (D.pz p hm).2.2.1.symm).trans hTO2
    case last =>
      obtain ⟨rfl, h, rfl, m, hz2, hTO2⟩ := hb
      rw [List.length_map] at m
      rw [List.length_map, List.take_of_length_le (by omega)]
      have hsz : vs.length ≤ sizeLine := by rw [sizeLine_eq]; omega
      show wpAny _ _ (newTuple vs.toArray.toList >>= _) _ _ _
      refine wpAny_bind (wpAny_newTuple ?_ (by simpa using hsz))
      refine wpAny_pure ⟨_, rfl, ?_⟩
      have up : ∀ c o, h.get? c = some o → (h.push (tObj vs.toArray)).get? c = some o := fun c o e => Heap.get?_push_of_some _ e
      have key := hQ (h.push (tObj vs.toArray)) ⟨⟨_, _, up _ _ hz2, hf0⟩, up _ _ (m.keep TI _ D.tz D.it nTI hTI), ⟨_, ha, up _ _ hTO2⟩, fun p hp => ?_⟩ ?_ ?_ fun c o c1 c2 c3 e => up c o (m.keep c o c1 c2 c3 e)
      · show Q (.ref h.objs.size) _
        rw [m.size]
        exact key
      · obtain ⟨o, e, c⟩ := m.full p hp
        exact ⟨o, up _ _ e, c⟩
      · rw [← m.size]
        exact Heap.get?_push_size _ rfl
      · rw [Heap.size_push, m.size]
end
end DD
namespace DD
open PySem PySem.Spec PyProof.Rows L2
section
variable {prog : Program} {w : World} {A : Around} {E : Value → Shared → Prop} {s : Shared} {z TI TO : Addr} {ps : List (Addr × Addr)} {k : Nat}
theorem zn_end {Q : Fin → Shared → Prop} (hh : A.handled = none) (D : ZApart z TI TO ps) (S : ZSt s.heap z TI TO ps k) {p : Addr × Addr} {r : List (Addr × Addr)} {xs : Array Value}
    (hps : ps = p :: r) (hl : s.heap.IsTuple p.2 xs) (hx : xs[k]? = none)
    (hE : ∀ h' e, (∀ c o, c ≠ z → c ≠ TO → (∀ p ∈ ps, c ≠ p.1) → s.heap.get? c = some o → h'.get? c = some o) →
      (∃ o, h'.get? e = some o ∧ o.cls = .type "StopIteration") → E (.ref e) { s with heap := h' }) :
    wpAny (model prog w) A (Builtin.«zip.__next__» ⟨[.ref z], []⟩) Q E s := by
  obtain ⟨⟨f0, f1, hz, hf0⟩, hTI, ⟨arr, ha, hTO⟩, hits⟩ := S
  have hm : p ∈ ps := by rw [hps]; exact List.mem_cons_self
  show wpAny _ _ (field (.ref z) 2 >>= _) _ _ _
  refine wpAny_bind (wpAny_field hz rfl (x := .bool false) rfl ?_)
  show wpAny _ _ (field (.ref z) 3 >>= _) _ _ _
  refine wpAny_bind (wpAny_field hz rfl (x := .ref TI) rfl ?_)
  refine wpAny_bind (wpAny_seqItems hTI rfl ?_)
  have hne : (ps.map fun p => Value.ref p.1).toArray.isEmpty = false := by
    rw [hps]
    rfl
  simp only [hne, Bool.false_eq_true, if_false]
  have it1 := hits p hm
  have kz : ∀ h1, Heap.SameBut z s.heap h1 → h1.IsTupleIter p.1 p.2 k ∧ h1.IsTuple p.2 xs := fun h1 hs1 =>
    ⟨by obtain ⟨o, e, c⟩ := it1; exact ⟨o, (hs1.2 _ (D.pz p hm).1).trans e, c⟩, by obtain ⟨o, e, c⟩ := hl; exact ⟨o, (hs1.2 _ (D.pz p hm).2.2.2.1).trans e, c⟩⟩
  refine wpAny_bind (wpAny_mono (free_or hz hf0) (fun b s' hb => ?_) fun _ _ e => e)
  rcases hb with ⟨rfl, rfl⟩ | ⟨rfl, h1, f2, rfl, hz1, hs1⟩
  · simp only [if_true]
    refine wpAny_bind (wpAny_rule ?_)
    refine wpAny_bind (wpAny_field hz rfl (x := .ref TO) rfl ?_)
    refine wpAny_bind (wpAny_setField_rec hz (by simp) fun h1 hz1 hs1 => ?_)
    replace hz1 : h1.get? z = some (zObj .ellipsis f1 TI TO) := hz1
    obtain ⟨q1, q2⟩ := kz h1 hs1
    refine wpAny_bind ?_
    simp only [hps, List.map_cons, List.zipIdx_cons, List.forIn_cons]
    refine wpAny_bind (wpAny_bind (wpAny_onRaise ?_))
    show wpAny _ _ (Builtin.SmallTypes.nextOf (.ref p.1) >>= _) _ _ _
    refine wpAny_bind (RZ.nextOf_tuple_end (s := { s' with heap := h1 }) hh q1 q2 hx fun h2 e hs2 he => ?_)
    obtain ⟨oe, hoe, hce⟩ := he
    have hz2 : h2.get? z = some (zObj .ellipsis f1 TI TO) := hs2 _ _ (D.pz p hm).1.symm hz1
    have hez : e ≠ z := fun x => by
      subst x
      rw [hz2] at hoe
      cases hoe
      simp at hce
    refine wpAny_setField_rec hz2 (by simp) fun h3 _ hs3 => hE h3 e (fun c o c1 _ c3 x => (hs3.2 _ c1).trans (hs2 _ _ (c3 p hm) ((hs1.2 _ c1).trans x))) ⟨oe, (hs3.2 _ hez).trans hoe, hce⟩
  · simp only [Bool.false_eq_true, if_false, List.forIn_toArray]
    obtain ⟨q1, q2⟩ := kz h1 hs1
    refine wpAny_bind ?_
    simp only [hps, List.map_cons, List.forIn_cons]
    refine wpAny_bind (wpAny_bind (wpAny_holding ?_))
    show wpAny _ _ (Builtin.SmallTypes.nextOf (.ref p.1) >>= _) _ _ _
    refine wpAny_bind (RZ.nextOf_tuple_end (s := { s with heap := h1 }) hh q1 q2 hx fun h2 e hs2 he => hE h2 e (fun c o c1 _ c3 x => hs2 _ _ (c3 p hm) ((hs1.2 _ c1).trans x)) he)

theorem pyNext_zn_item {vs : List Value} {Q : Option Value → Shared → Prop} (D : ZApart z TI TO ps) (hn : 1 ≤ ps.length) (hn2 : ps.length ≤ 1000) (S : ZSt s.heap z TI TO ps k)
    (hv : vs.length = ps.length) (hi : ∀ (j : Nat) (p : Addr × Addr), ps[j]? = some p → ∃ xs, s.heap.IsTuple p.2 xs ∧ xs[k]? = vs[j]?)
    (hQ : ∀ h', ZSt h' z TI TO ps (k + 1) → h'.get? s.heap.objs.size = some (tObj vs.toArray) → h'.objs.size = s.heap.objs.size + 1 →
      (∀ c o, c ≠ z → c ≠ TO → (∀ p ∈ ps, c ≠ p.1) → s.heap.get? c = some o → h'.get? c = some o) → Q (some (.ref s.heap.objs.size)) { s with heap := h' }) :
    wpAny (model prog w) A (pyNext (.ref z)) Q E s := by
  obtain ⟨f0, f1, hz, hf0⟩ := S.zz
  have hT : s.TypeIs (.ref z) "zip" := ⟨_, hz, rfl⟩
  unfold pyNext
  exact wpAny_bind (wpAny_attempt (wpAny_callSpecial?_slot (name := Str.ofString "__next__") hT F.slot_zip_next
    (wpAny_call_entry F.slot_zip_next hT F.entry_zip_next (zn_item D hn hn2 S hv hi fun h' a1 a2 a3 a4 => wpAny_pure (hQ h' a1 a2 a3 a4)) (F.args_zip_next_1 _))))
theorem pyNext_zn_end {Q : Option Value → Shared → Prop} (hh : A.handled = none) (D : ZApart z TI TO ps) (S : ZSt s.heap z TI TO ps k) {p : Addr × Addr} {r : List (Addr × Addr)} {xs : Array Value}
    (hps : ps = p :: r) (hl : s.heap.IsTuple p.2 xs) (hx : xs[k]? = none)
    (hQ : ∀ h', (∀ c o, c ≠ z → c ≠ TO → (∀ p ∈ ps, c ≠ p.1) → s.heap.get? c = some o → h'.get? c = some o) → Q none { s with heap := h' }) :
    wpAny (model prog w) A (pyNext (.ref z)) Q E s := by
  obtain ⟨f0, f1, hz, hf0⟩ := S.zz
  have hT : s.TypeIs (.ref z) "zip" := ⟨_, hz, rfl⟩
  unfold pyNext
  refine wpAny_bind (wpAny_attempt (wpAny_callSpecial?_slot (name := Str.ofString "__next__") hT F.slot_zip_next
    (wpAny_call_entry F.slot_zip_next hT F.entry_zip_next (zn_end hh D S hps hl hx fun h' e hk he => ?_) (F.args_zip_next_1 _))))
  obtain ⟨o, ho, hc⟩ := he
  exact wpAny_bind (wpAny_isInstance (T := "StopIteration") (b := true) ⟨o, ho, hc⟩ isSubtype_stop (wpAny_pure (hQ _ hk)))

/-! ### zip of one to four tuples made -/
theorem typeCall_zipN : ∀ vs : List Value, 1 ≤ vs.length → vs.length ≤ 4 → checkTypeCall "zip" ⟨vs, []⟩ = pure ()
  | [a], _, _ => by kernel_rfl
  | [a, b], _, _ => by kernel_rfl
  | [a, b, c], _, _ => by kernel_rfl
  | [a, b, c, d], _, _ => by kernel_rfl
  | [], h, _ => by simp at h
  | _ :: _ :: _ :: _ :: _ :: _, _, h => by simp at h
theorem newCall_zipN : ∀ vs : List Value, 1 ≤ vs.length → vs.length ≤ 4 → checkBuiltinCall "zip.__new__" ⟨.type "zip" :: vs, []⟩ = pure ()
  | [a], _, _ => by kernel_rfl
  | [a, b], _, _ => by kernel_rfl
  | [a, b, c], _, _ => by kernel_rfl
  | [a, b, c, d], _, _ => by kernel_rfl
  | [], h, _ => by simp at h
  | _ :: _ :: _ :: _ :: _ :: _, _, h => by simp at h
theorem args_object_initN (o : Value) : ∀ vs : List Value, 1 ≤ vs.length → vs.length ≤ 4 → argsOk "object.__init__" ⟨o :: vs, []⟩
  | [a], _, _ => by
    unfold argsOk
    rw [signature?_of (id := "object.__init__") (n := ['_', '_', 't', 'i', 'n', 'i', '_', '_']) (o := ['t', 'c', 'e', 'j', 'b', 'o']) (by kernel_rfl) F.owner_object]
    kernel_rfl
  | [a, b], _, _ => by
    unfold argsOk
    rw [signature?_of (id := "object.__init__") (n := ['_', '_', 't', 'i', 'n', 'i', '_', '_']) (o := ['t', 'c', 'e', 'j', 'b', 'o']) (by kernel_rfl) F.owner_object]
    kernel_rfl
  | [a, b, c], _, _ => by
    unfold argsOk
    rw [signature?_of (id := "object.__init__") (n := ['_', '_', 't', 'i', 'n', 'i', '_', '_']) (o := ['t', 'c', 'e', 'j', 'b', 'o']) (by kernel_rfl) F.owner_object]
    kernel_rfl
  | [a, b, c, d], _, _ => by
    unfold argsOk
    rw [signature?_of (id := "object.__init__") (n := ['_', '_', 't', 'i', 'n', 'i', '_', '_']) (o := ['t', 'c', 'e', 'j', 'b', 'o']) (by kernel_rfl) F.owner_object]
    kernel_rfl
  | [], h, _ => by simp at h
  | _ :: _ :: _ :: _ :: _ :: _, _, h => by simp at h

theorem iterAll_tups {ls : List Addr} {Q : List Value → Shared → Prop} (hl : ∀ l ∈ ls, ∃ xs, s.heap.IsTuple l xs)
    (hQ : ∀ h' its, its.length = ls.length → (∀ i, i < ls.length → its[i]? = some (.ref (s.heap.objs.size + i))) → h'.objs.size = s.heap.objs.size + ls.length →
      (∀ c o, s.heap.get? c = some o → h'.get? c = some o) → (∀ (i : Nat) (l : Addr), ls[i]? = some l → h'.IsTupleIter (s.heap.objs.size + i) l 0) → Q its { s with heap := h' }) :
    wpAny (model prog w) A (Builtin.SmallTypes.iterAll (ls.map Value.ref)) Q E s := by
  unfold Builtin.SmallTypes.iterAll
  refine wpAny_bind (thn (wp_forIn _ _ (fun j (b : Array Value) s2 => b.size = j ∧ (∀ i, i < j → b[i]? = some (.ref (s.heap.objs.size + i))) ∧ ∃ h, s2 = { s with heap := h } ∧ h.objs.size = s.heap.objs.size + j ∧
    (∀ c o, s.heap.get? c = some o → h.get? c = some o) ∧ ∀ (i : Nat) (l : Addr), i < j → ls[i]? = some l → h.IsTupleIter (s.heap.objs.size + i) l 0) ?step _ _ ?init) fun b s2 hb => ?last)
  case init => exact ⟨rfl, fun i hi => absurd hi (Nat.not_lt_zero _), s.heap, rfl, rfl, fun _ _ e => e, fun i _ hi => absurd hi (Nat.not_lt_zero _)⟩
  case step =>
    rintro j x b s2 hx ⟨hbs, hb, h, rfl, hsz, hk, hit⟩
    rw [List.getElem?_map] at hx
    cases hp : ls[j]? with
    | none =>
      rw [hp] at hx
      cases hx
    | some l =>
      rw [hp] at hx
      obtain rfl : Value.ref l = x := Option.some.inj hx
      obtain ⟨xs, ol, e, c⟩ := hl l (List.mem_of_getElem? hp)
      refine wpAny_bind (wpAny_holding (wpAny_pyIter_tuple (s := { s with heap := h }) ⟨ol, hk _ _ e, c⟩ ?_))
      refine wpAny_pure ⟨_, rfl, by rw [Array.size_push, hbs], fun i hij => ?_, _, rfl, by rw [Heap.size_push, hsz]; omega, fun c o e => Heap.get?_push_of_some _ (hk c o e), fun i l' hij hl' => ?_⟩
      · show (b.push (Value.ref h.objs.size))[i]? = _
        rw [Array.getElem?_push]
        by_cases e : i = b.size
        · rw [if_pos e, hsz, e, hbs]
        · rw [if_neg e]
          exact hb i (by omega)
      · by_cases e : i = j
        · subst e
          rw [hp] at hl'
          cases hl'
          refine ⟨{ cls := .type "tuple_iterator", data := .fields #[.ref l, .int 0 0] }, ?_, rfl, rfl⟩
          rw [← hsz]
          exact Heap.get?_push_size _ rfl
        · obtain ⟨o, e1, c⟩ := hit i l' (by omega) hl'
          exact ⟨o, Heap.get?_push_of_some _ e1, c⟩
  case last =>
    obtain ⟨hbs, hb, h, rfl, hsz, hk, hit⟩ := hb
    rw [List.length_map] at hbs hb hsz hit
    refine wpAny_pure (hQ h b.toList (by rw [Array.length_toList]; exact hbs) (fun i hi => by rw [Array.getElem?_toList]; exact hb i hi) hsz hk fun i l e => ?_)
    exact hit i l (List.getElem?_eq_some_iff.mp e).1 e

theorem zip_newN {ls : List Addr} {Q : Value → Shared → Prop} (h1 : 1 ≤ ls.length) (h2 : ls.length ≤ 4) (hl : ∀ l ∈ ls, ∃ xs, s.heap.IsTuple l xs)
    (hQ : ∀ h' n, n = s.heap.objs.size → ZSt h' (n + ls.length + 2) (n + ls.length) (n + ls.length + 1) (ls.zipIdx.map fun x => (n + x.2, x.1)) 0 → h'.objs.size = n + ls.length + 3 →
      (∀ c o, s.heap.get? c = some o → h'.get? c = some o) → Q (.ref (n + ls.length + 2)) { s with heap := h' }) :
    wpAny (model prog w) A (Builtin.«zip.__new__» ⟨.type "zip" :: ls.map Value.ref, []⟩) (fun fin s' => ∃ v, fin = .done (.ret v) ∧ Q v s') E s := by
  have hsub := sub_zip
  have hc : wpAny (model prog w) A (Builtin.SmallTypes.newClass "zip" ⟨.type "zip" :: ls.map Value.ref, []⟩) (fun r s' => r = (.type "zip", ls.map Value.ref) ∧ s' = s) E s := by
    unfold Builtin.SmallTypes.newClass
    wp_walk
    exact ⟨rfl, rfl⟩
  unfold Builtin.«zip.__new__»
  refine wpAny_bind (thn hc ?_)
  rintro _ _s ⟨rfl, rfl⟩
  show wpAny _ _ (Builtin.SmallTypes.iterAll (ls.map Value.ref) >>= _) _ _ _
  refine wpAny_bind (iterAll_tups hl fun h1' its hil hi hsz hk hit => ?_)
  have hsl : its.length ≤ sizeLine := by rw [hil, sizeLine_eq]; omega
  refine wpAny_bind (wpAny_newTuple ?_ hsl)
  refine wpAny_bind (wpAny_newTuple ?_ (by rw [List.length_map]; exact hsl))
  refine wpAny_bind ?_
  unfold Builtin.SmallTypes.newRecord
  refine wpAny_newObj_type ?_ (show (5 : Nat) ≤ sizeLine + 2 by rw [sizeLine_eq]; omega)
  refine wpAny_pure ⟨_, rfl, ?_⟩
  have z1 : (h1'.push (tObj its.toArray)).objs.size = h1'.objs.size + 1 := Heap.size_push ..
  have z2 : ((h1'.push (tObj its.toArray)).push (tObj (its.map fun _ => Value.none).toArray)).objs.size = h1'.objs.size + 2 := by rw [Heap.size_push, z1]
  have fin : Q (.ref ((h1'.push (tObj its.toArray)).push (tObj (its.map fun _ => Value.none).toArray)).objs.size)
      { _s with heap := ((h1'.push (tObj its.toArray)).push (tObj (its.map fun _ => Value.none).toArray)).push (zObj .none (.bool false) h1'.objs.size (h1'.push (tObj its.toArray)).objs.size) } := by
    rw [z2, z1, hsz]
    refine hQ _ _ rfl ⟨⟨.none, .bool false, ?_, .inl rfl⟩, ?_, ⟨(its.map fun _ => Value.none).toArray, ?_, ?_⟩, fun p hp => ?_⟩ ?_ fun c o e => Heap.get?_push_of_some _ (Heap.get?_push_of_some _ (Heap.get?_push_of_some _ (hk c o e)))
    · rw [← hsz, ← z2]
      exact Heap.get?_push_size _ rfl
    · have e : its = (ls.zipIdx.map fun x => (_s.heap.objs.size + x.2, x.1)).map fun p => Value.ref p.1 := by
        refine List.ext_getElem? fun i => ?_
        rw [List.map_map, List.getElem?_map, List.getElem?_zipIdx]
        by_cases hlt : i < ls.length
        · rw [hi i hlt, List.getElem?_eq_getElem hlt]
          simp
        · rw [List.getElem?_eq_none (by omega), List.getElem?_eq_none (by omega)]
          rfl
      rw [← e, ← hsz]
      exact Heap.get?_push_of_some _ (Heap.get?_push_of_some _ (Heap.get?_push_size _ rfl))
    · simp [hil]
    · rw [← hsz, ← z1]
      exact Heap.get?_push_of_some _ (Heap.get?_push_size _ rfl)
    · obtain ⟨x, hx, rfl⟩ := List.mem_map.mp hp
      obtain ⟨i, hxi⟩ := List.mem_iff_getElem?.mp hx
      rw [List.getElem?_zipIdx] at hxi
      cases hl' : ls[i]? with
      | none =>
        rw [hl'] at hxi
        cases hxi
      | some l =>
        rw [hl'] at hxi
        obtain rfl : (l, 0 + i) = x := Option.some.inj hxi
        obtain ⟨o, e, c⟩ := hit i l hl'
        refine ⟨o, ?_, c⟩
        show Heap.get? _ (_s.heap.objs.size + (0 + i)) = some o
        rw [Nat.zero_add]
        exact Heap.get?_push_of_some _ (Heap.get?_push_of_some _ (Heap.get?_push_of_some _ e))
    · rw [Heap.size_push, z2, hsz]
  exact fin
end
end DD
namespace DD
open PySem PySem.Spec PyProof.Rows L2

/-- the iterators that zip(*ls) makes at n -/
def zps (n : Nat) (ls : List Addr) : List (Addr × Addr) := ls.zipIdx.map fun x => (n + x.2, x.1)
theorem zps_length (n : Nat) (ls : List Addr) : (zps n ls).length = ls.length := by simp [zps]
theorem zps_get (n : Nat) (ls : List Addr) (j : Nat) : (zps n ls)[j]? = (ls[j]?).map fun a => (n + j, a) := by
  unfold zps
  rw [List.getElem?_map, List.getElem?_zipIdx]
  cases ls[j]? with
  | none => rfl
  | some a => simp
theorem zps_mem {n : Nat} {ls : List Addr} {p : Addr × Addr} (h : p ∈ zps n ls) : ∃ j, j < ls.length ∧ ls[j]? = some p.2 ∧ p.1 = n + j := by
  obtain ⟨j, hj⟩ := List.mem_iff_getElem?.mp h
  rw [zps_get] at hj
  cases e : ls[j]? with
  | none => rw [e] at hj; cases hj
  | some a =>
    rw [e] at hj
    obtain rfl : (n + j, a) = p := Option.some.inj hj
    exact ⟨j, (List.getElem?_eq_some_iff.mp e).1, e, rfl⟩
theorem nat5 {a b n j L : Nat} (h3 : b < n) (h4 : a = n + j) (hj : j < L) : a ≠ n + L + 2 ∧ a ≠ n + L ∧ a ≠ n + L + 1 ∧ b ≠ n + L + 2 ∧ b ≠ n + L + 1 := by omega
theorem nat6 {a b n i : Nat} (h3 : b < n) (h4 : a = n + i) : b ≠ a := by omega
theorem zapart {n : Nat} {ls : List Addr} (h : ∀ l ∈ ls, l < n) : ZApart (n + ls.length + 2) (n + ls.length) (n + ls.length + 1) (zps n ls) where
  tz := Nat.ne_of_lt (show (n : Nat) + ls.length < n + ls.length + 2 by omega)
  oz := Nat.ne_of_lt (show (n : Nat) + ls.length + 1 < n + ls.length + 2 by omega)
  it := Nat.ne_of_lt (show (n : Nat) + ls.length < n + ls.length + 1 by omega)
  nd := by
    have e : (zps n ls).map (·.1) = (List.range ls.length).map (n + ·) := by
      refine List.ext_getElem? fun i => ?_
      rw [List.getElem?_map, zps_get, List.getElem?_map]
      by_cases hi : i < ls.length
      · rw [List.getElem?_eq_getElem hi, List.getElem?_range hi]
        rfl
      · rw [List.getElem?_eq_none (by omega), List.getElem?_eq_none (by simp; omega)]
        rfl
    rw [e]
    exact List.Pairwise.map _ (fun a b h e => h (Nat.add_left_cancel e)) List.nodup_range
  pz := fun p hp => by
    obtain ⟨j, hj, e, ep⟩ := zps_mem hp
    exact nat5 (h p.2 (List.mem_of_getElem? e)) ep hj
  px := fun p hp q hq => by
    obtain ⟨j, hj, e, ep⟩ := zps_mem hp
    obtain ⟨i, hi, e2, ep2⟩ := zps_mem hq
    exact nat6 (h p.2 (List.mem_of_getElem? e)) ep2

section
variable {prog : Program} {w : World} {A : Around} {E : Value → Shared → Prop} {s : Shared}
theorem call_zipN {ls : List Addr} {Q : Value → Shared → Prop} (h1 : 1 ≤ ls.length) (h2 : ls.length ≤ 4) (hl : ∀ l ∈ ls, ∃ xs, s.heap.IsTuple l xs)
    (hQ : ∀ h' n, n = s.heap.objs.size → ZSt h' (n + ls.length + 2) (n + ls.length) (n + ls.length + 1) (zps n ls) 0 → h'.objs.size = n + ls.length + 3 →
      (∀ c o, s.heap.get? c = some o → h'.get? c = some o) → Q (.ref (n + ls.length + 2)) { s with heap := h' }) :
    wpAny (model prog w) A (call (.type "zip") (ls.map Value.ref)) Q E s := by
  have m : Meets (Builtin.«zip.__new__» ⟨.type "zip" :: ls.map Value.ref, []⟩) (fun _ R s => (∀ l ∈ ls, ∃ xs, s.heap.IsTuple l xs) ∧
      ∀ h' n, n = s.heap.objs.size → ZSt h' (n + ls.length + 2) (n + ls.length) (n + ls.length + 1) (zps n ls) 0 → h'.objs.size = n + ls.length + 3 →
        (∀ c o, s.heap.get? c = some o → h'.get? c = some o) → R (.ok (.ret (.ref (n + ls.length + 2)))) { s with heap := h' }) :=
    .of_wp fun prog w A R s h => zip_newN h1 h2 h.1 h.2
  refine callType_new F.called_zip (by decide) (typeCall_zipN _ (by simpa using h1) (by simpa using h2)) (newCall_zipN _ (by simpa using h1) (by simpa using h2))
    (fun obj => args_object_initN obj _ (by simpa using h1) (by simpa using h2)) F.entry_zip_new m ⟨hl, fun h' n e1 e2 e3 e4 => ?_⟩
  obtain ⟨f0, f1, hz, _⟩ := e2.zz
  exact ⟨⟨_, hz, rfl⟩, hQ h' n e1 e2 e3 e4⟩
theorem pyIter_zn {z TI TO : Addr} {ps : List (Addr × Addr)} {k : Nat} {Q : Value → Shared → Prop} (S : ZSt s.heap z TI TO ps k) (h : Q (.ref z) s) : wpAny (model prog w) A (pyIter (.ref z)) Q E s := by
  obtain ⟨f0, f1, hz, _⟩ := S.zz
  have hT : s.TypeIs (.ref z) "zip" := ⟨_, hz, rfl⟩
  refine wpAny_pyIter_slot hT F.slot_zip_iter (wpAny_call_entry F.slot_zip_iter hT F.entry_zip_iter ?_ (F.args_zip_iter_1 _))
  exact (show wpAny _ _ (ret (.ref z)) _ _ s from wpAny_pure ⟨_, rfl, "zip", _, hT, F.slot_zip_next.lookup, h⟩)
end

/-- the tuples at ls hold rows, all of length m -/
structure Rws (K : PySem.W.Frag) (H : Hp) (ls : List Addr) (rows : List (List V)) (m : Nat) : Prop where
  len : ls.length = rows.length
  at_ : ∀ (j : Nat) (a : Addr) (r : List V), ls[j]? = some a → rows[j]? = some r → SqT K H a r ∧ r.length = m
def colV (rows : List (List V)) (i : Nat) : List V := rows.map fun r => r.getD i .non
def ItzN (K : PySem.W.Frag) (ls : List Addr) (rows : List (List V)) (m : Nat) : It :=
  ⟨fun i H => i < m ∧ Rws K H ls rows m, fun i H v H' => ∃ T, v = .ref T ∧ H T = none ∧ H' = upd H T (.tup (colV rows i)), fun i H => i = m ∧ Rws K H ls rows m⟩

theorem Rws.vals {X : Cx} {pins : List (Addr × Obj)} {σ : L2.St} {H : Hp} {s : Shared} {m i : Nat} (I : Inv X pins σ H s) (hi : i < m) : ∀ {ls : List Addr} {rows : List (List V)}, Rws X.K H ls rows m →
    ∃ us : List Value, Vals (colV rows i) us ∧ ∀ (j : Nat) (a : Addr), ls[j]? = some a → ∃ xs, s.heap.IsTuple a xs ∧ xs[i]? = us[j]?
  | [], [], _ => ⟨[], .nil, fun j a e => by simp at e⟩
  | [], _ :: _, R => by have := R.len; simp at this
  | _ :: _, [], R => by have := R.len; simp at this
  | a :: ls, r :: rows, R => by
    obtain ⟨us, h1, h2⟩ := Rws.vals I hi (ls := ls) (rows := rows) ⟨by have := R.len; simpa using this, fun j a' r' e1 e2 => R.at_ (j + 1) a' r' e1 e2⟩
    obtain ⟨q, hl⟩ := R.at_ 0 a r rfl rfl
    obtain ⟨its, rv, p, _⟩ := I.tuple q
    have hr : r[i]? = some (r.getD i .non) := by
      rw [List.getD_eq_getElem?_getD, List.getElem?_eq_getElem (by omega)]
      rfl
    obtain ⟨u, hu, ru⟩ := rv.get hr
    obtain ⟨o, ho, hc, n, hd⟩ := p
    refine ⟨u :: us, .cons ru h1, fun j a' e => ?_⟩
    cases j with
    | zero =>
      obtain rfl : a = a' := Option.some.inj e
      exact ⟨its.toArray, ⟨o, ho, hc, n, hd⟩, by simpa using hu⟩
    | succ j => exact h2 j a' e

theorem turn_zn {P : Program} {w : World} {K : PySem.W.Frag} {x : Str} {xp : Pos} {n m : Nat} {ls : List Addr} {rows : List (List V)} (h1 : 1 ≤ ls.length) (h2 : ls.length ≤ 4) (hlt : ∀ l ∈ ls, l < n) :
    Turn P w K (.Name x xp) (ItzN K ls rows m) ((n + ls.length + 2) :: (n + ls.length) :: (n + ls.length + 1) :: (zps n ls).map (·.1)) (n + ls.length + 2)
      (fun i h => ZSt h (n + ls.length + 2) (n + ls.length) (n + ls.length + 1) (zps n ls) i) where
  mem := List.mem_cons_self
  obj := fun i h S b hb => by
    obtain ⟨⟨f0, f1, hz, _⟩, hTI, ⟨arr, _, hTO⟩, hits⟩ := S
    rcases List.mem_cons.mp hb with rfl | hb
    · exact ⟨_, hz, fun v q => nomatch q⟩
    rcases List.mem_cons.mp hb with rfl | hb
    · exact ⟨_, hTI, fun v q => nomatch q⟩
    rcases List.mem_cons.mp hb with rfl | hb
    · exact ⟨_, hTO, fun v q => nomatch q⟩
    obtain ⟨p, hp, rfl⟩ := List.mem_map.mp hb
    obtain ⟨o, e, _, d⟩ := hits p hp
    exact ⟨o, e, fun v q => by rw [d] at q; cases q⟩
  keep := fun i h h' S k => by
    obtain ⟨⟨f0, f1, hz, hf⟩, hTI, ⟨arr, ha, hTO⟩, hits⟩ := S
    refine ⟨⟨f0, f1, k _ (by simp) _ hz, hf⟩, k _ (by simp) _ hTI, ⟨arr, ha, k _ (by simp) _ hTO⟩, fun p hp => ?_⟩
    obtain ⟨o, e, c⟩ := hits p hp
    exact ⟨o, k _ (by
      refine List.mem_cons_of_mem _ (List.mem_cons_of_mem _ (List.mem_cons_of_mem _ ?_))
      exact List.mem_map_of_mem hp) _ e, c⟩
  item := by
    intro X hP hw hK hc i pins s σ H E I hf S hg
    subst hP hw hK
    obtain ⟨hi, R⟩ := hg
    obtain ⟨us, hv, hx⟩ := R.vals I hi
    have hul : us.length = ls.length := by rw [← hv.length, R.len]; simp [colV]
    have D := zapart hlt
    refine pyNext_zn_item D (by rw [zps_length]; exact h1) (by rw [zps_length]; omega) S (vs := us) (by rw [zps_length]; exact hul) (fun j p e => ?_) fun h' S' hT hsz hk => ?_
    · rw [zps_get] at e
      cases ea : ls[j]? with
      | none => rw [ea] at e; cases e
      | some a =>
        rw [ea] at e
        obtain rfl : (n + j, a) = p := Option.some.inj e
        exact hx j a ea
    · refine ⟨_, rfl, ?_⟩
      have hcl : (colV rows i).length ≤ sizeLine := by
        rw [hv.length, hul, sizeLine_eq]
        omega
      have new : ObjOk X.prog X.w (upd H s.heap.objs.size (.tup (colV rows i))) h' s.heap.objs.size (.tup (colV rows i)) := ⟨hcl, us, hv, ⟨_, hT, rfl, _, rfl⟩⟩
      have I1 : Inv X pins σ (upd H s.heap.objs.size (.tup (colV rows i))) { s with heap := h' } :=
        I.turnedNew (t' := s.toks) (fun c o hb q => hk c o (fun z => hb (by simp [z])) (fun z => hb (by simp [z])) (fun p hp z => hb (by
          refine List.mem_cons_of_mem _ (List.mem_cons_of_mem _ (List.mem_cons_of_mem _ ?_))
          rw [z]
          exact List.mem_map_of_mem hp)) q) hf (Nat.le_refl _) new
      show wpAny _ _ (pure ()) _ _ _
      refine wpAny_pure ⟨.ref s.heap.objs.size, _, I1, rfl, ⟨_, rfl, I.hok.fresh (Nat.le_refl _), rfl⟩, S', fun c hcm => ?_⟩
      obtain ⟨o, ho, _⟩ : ∃ o, s.heap.get? c = some o ∧ True := by
        obtain ⟨⟨f0, f1, hz, _⟩, hTI, ⟨arr, _, hTO⟩, hits⟩ := S
        rcases List.mem_cons.mp hcm with rfl | hcm
        · exact ⟨_, hz, trivial⟩
        rcases List.mem_cons.mp hcm with rfl | hcm
        · exact ⟨_, hTI, trivial⟩
        rcases List.mem_cons.mp hcm with rfl | hcm
        · exact ⟨_, hTO, trivial⟩
        obtain ⟨p, hp, rfl⟩ := List.mem_map.mp hcm
        obtain ⟨o, e, _⟩ := hits p hp
        exact ⟨o, e, trivial⟩
      rw [upd_ne (Nat.ne_of_lt (Heap.lt_size ho))]
      exact (hf c hcm).1
  done := by
    intro X hP hw hK hc i pins s σ H E I hf S hg
    subst hP hw hK
    obtain ⟨rfl, R⟩ := hg
    cases hls : ls with
    | nil => rw [hls] at h1; simp at h1
    | cons a r =>
      cases hrw : rows with
      | nil => have := R.len; rw [hls, hrw] at this; simp at this
      | cons q rr =>
        obtain ⟨hq, hl⟩ := R.at_ 0 a q (by rw [hls]; rfl) (by rw [hrw]; rfl)
        obtain ⟨its, rv, ⟨o, ho, hc', n', hd⟩, _⟩ := I.tuple hq
        have hps : zps n ls = (n, a) :: (zps n ls).tail := by
          rw [hls]
          simp [zps]
        rw [← hls]
        refine pyNext_zn_end (I.ok.hd hc) (zapart hlt) S hps (xs := its.toArray) ⟨o, ho, hc', n', hd⟩ ?_ fun h' hk => ⟨rfl, ?_⟩
        · have := rv.length
          rw [List.getElem?_toArray, List.getElem?_eq_none (by omega)]
        · exact I.turnedL (t' := s.toks) (fun c o hb q => hk c o (fun z => hb (by simp [z])) (fun z => hb (by simp [z])) (fun p hp z => hb (by
            refine List.mem_cons_of_mem _ (List.mem_cons_of_mem _ (List.mem_cons_of_mem _ ?_))
            rw [z]
            exact List.mem_map_of_mem hp)) q) hf
  self := fun A i s Q E S h => pyIter_zn S h

/-- for x in zip(*e), e a list or tuple of one to four tuples of one length -/
def iZipS (K : PySem.W.Frag) (te : TE) : TI := fun σ H R => te σ H fun y H1 => ∃ (a : Addr) (ls : List Addr) (rows : List (List V)) (m : Nat), y = .ref a ∧ (SqT K H1 a (ls.map V.ref) ∨ SqL K H1 a (ls.map V.ref)) ∧
  1 ≤ ls.length ∧ ls.length ≤ 4 ∧ Rws K H1 ls rows m ∧ R (ItzN K ls rows m) H1
theorem vals_refs : ∀ {ls : List Addr} {us : List Value}, Vals (ls.map V.ref) us → us = ls.map Value.ref
  | [], _, .nil => rfl
  | a :: ls, _, .cons r t => by
    cases r
    rw [vals_refs t]
    rfl
theorem pi_zipS {X : Cx} {e : Expr} {te : TE} {p pos spos xp : Pos} {x : Str} (hg : Gl X "zip") (hm : X.mg "zip" = none) (he : PE X e te)
    (hst : starEach [.Starred e spos] X.env = [(true, eval e X.env)] := by rfl) :
    PI X (.Name x xp) (.Call (.Name "zip" p) [.Starred e spos] [] pos) (iZipS X.K te) := by
  refine ⟨fun pins s σ H R I h => ?_⟩
  refine wpAny_Call_Name_kw (ld_blt I hg hm PyProof.Rows.boot_zip ?_)
  rw [hst]
  refine PySem.W.ks_call (P := fun _ => True) rfl (fun h _ => ⟨.machine, .inr (.inl rfl), fun A Q E s _ q => wpAny_pure q⟩) (PySem.W.ks_lone ?_)
  refine thn (he.run pins s σ H _ I h) fun v s1 ⟨y, H1, I1, ry, a, ls, rows, m, ey, hx, h1, h2, Rw, q⟩ => ?_
  subst ey
  obtain rfl : v = Value.ref a := ry
  refine StX.star_any I1 hx fun us s2 I2 rv => ⟨trivial, ?_⟩
  obtain rfl := vals_refs rv
  have tup : ∀ l ∈ ls, ∃ xs, s2.heap.IsTuple l xs := fun l hl => by
    obtain ⟨j, hj⟩ := List.mem_iff_getElem?.mp hl
    have hjl := (List.getElem?_eq_some_iff.mp hj).1
    have hjr : rows[j]? = some (rows[j]'(by have := Rw.len; omega)) := List.getElem?_eq_getElem (by have := Rw.len; omega)
    obtain ⟨its, _, ⟨o, ho, hc, n, hd⟩, _⟩ := I2.tuple (Rw.at_ j l _ hj hjr).1
    exact ⟨its.toArray, o, ho, hc, n, hd⟩
  refine call_zipN h1 h2 tup fun h' n en S hsz hk => ?_
  have I3 : Inv X pins σ H1 { s2 with heap := h' } := I2.kept (t' := s2.toks) hk
  have hlt : ∀ l ∈ ls, l < n := fun l hl => by
    obtain ⟨xs, o, ho, _⟩ := tup l hl
    rw [en]
    exact Heap.lt_size ho
  refine pyIter_zn (s := { s2 with heap := h' }) S ⟨n + ls.length + 2, _, _, _, H1, rfl, I3, turn_zn h1 h2 hlt, S, fun b hb => ?_, q⟩
  have hle : s2.heap.objs.size ≤ b := by
    rw [← en]
    rcases List.mem_cons.mp hb with rfl | hb
    · omega
    rcases List.mem_cons.mp hb with rfl | hb
    · omega
    rcases List.mem_cons.mp hb with rfl | hb
    · omega
    obtain ⟨p, hp, rfl⟩ := List.mem_map.mp hb
    obtain ⟨j, _, _, e⟩ := zps_mem hp
    exact Nat.le_trans (Nat.le_add_right n j) (Nat.le_of_eq e.symm)
  have F := I2.fpOk hle (I2.hok.fresh hle)
  exact F
end DD
namespace DD
open PySem PySem.Spec PyProof.Rows L2
theorem draws_tup {prog : Program} {w : World} {A : Around} (hh : A.handled = none) (it t : Addr) (items : Array Value) (hne : t ≠ it) :
    Draws prog w A it [it, t] items.size (fun i v => items[i]? = some v) (fun i h => h.IsTupleIter it t i ∧ h.IsTuple t items) where
  live := fun i h S => by
    obtain ⟨⟨o, e, _⟩, _⟩ := S
    exact ⟨o, e⟩
  frame := fun i h h' S k => by
    obtain ⟨⟨o, e, c⟩, ⟨o2, e2, c2⟩⟩ := S
    exact ⟨⟨o, k it (by simp) o e, c⟩, ⟨o2, k t (by simp) o2 e2, c2⟩⟩
  item := fun i s Q E hi S hQ => by
    obtain ⟨S1, S2⟩ := S
    refine RZ.nextOf_tuple_item S1 S2 (x := items[i]) (by simp [hi]) fun h' hit hs => hQ _ h' s.toks (by simp [hi]) ⟨hit, ?_⟩ hs
    obtain ⟨o, e, c⟩ := S2
    exact ⟨o, (hs.2 _ hne).trans e, c⟩
  done := fun s Q E S hE => by
    obtain ⟨S1, S2⟩ := S
    exact RZ.nextOf_tuple_end hh S1 S2 (by simp) hE
theorem meets_enum_newT (l : Addr) (items : Array Value) : Meets (Builtin.«enumerate.__new__» ⟨[.type "enumerate", .ref l], []⟩) (fun _ R s => s.heap.IsTuple l items ∧
      R (.ok (.ret (.ref (s.heap.push { cls := .type "tuple_iterator", data := .fields #[.ref l, .int 0 0] }).objs.size)))
        { s with heap := (s.heap.push { cls := .type "tuple_iterator", data := .fields #[.ref l, .int 0 0] }).push { cls := .type "enumerate", data := .fields #[.none, .bool false, .ref s.heap.objs.size, rawInt 0, .none, .none] } }) :=
  .of_wp fun prog w A R s h => by
    obtain ⟨hp, g, d, tk, os⟩ := s
    obtain ⟨hT, h⟩ := h
    obtain ⟨oL, hoL, hcL, nL, hdL⟩ := id hT
    have hsub := sub_enumerate
    have hT' : Heap.IsTuple (Shared.heap ⟨hp, g, d, tk, os⟩) l items := hT
    wp_walk
    refine wpAny_stack_any fun st => wpAny_pure ?_
    split
    · rename_i c _ _ _ _ _
      cases (c == Value.type "enumerate")
      · wp_walk using wpAny_pyIter_tuple hT'
        exact ⟨_, rfl, h⟩
      · wp_walk using wpAny_pyIter_tuple hT'
        exact ⟨_, rfl, h⟩
    · wp_walk using wpAny_pyIter_tuple hT'
      exact ⟨_, rfl, h⟩
section
variable {prog : Program} {w : World} {A : Around} {E : Value → Shared → Prop} {s : Shared}
theorem call_enumT {l : Addr} {items : Array Value} {Q : Value → Shared → Prop} (hT : s.heap.IsTuple l items)
    (h : ∀ h', IsEnum h' (s.heap.objs.size + 1) s.heap.objs.size 0 .none → h'.IsTupleIter s.heap.objs.size l 0 →
      (∀ b o, s.heap.get? b = some o → h'.get? b = some o) → Q (.ref (s.heap.objs.size + 1)) { s with heap := h' }) :
    wpAny (model prog w) A (call (.type "enumerate") [.ref l]) Q E s := by
  refine callType_new F.called_enumerate (by decide) (F.typeCall_enumerate_1 _) (F.newCall_enumerate_1 _) (fun obj => F.args_object_init_2 obj _) F.entry_enumerate_new
    (meets_enum_newT l items) ⟨hT, ?_⟩
  have hz : (s.heap.push { cls := .type "tuple_iterator", data := .fields #[.ref l, .int 0 0] }).objs.size = s.heap.objs.size + 1 := Heap.size_push ..
  have he : IsEnum ((s.heap.push { cls := .type "tuple_iterator", data := .fields #[.ref l, .int 0 0] }).push
      { cls := .type "enumerate", data := .fields #[.none, .bool false, .ref s.heap.objs.size, rawInt 0, .none, .none] }) (s.heap.objs.size + 1) s.heap.objs.size 0 .none := by
    have q := Heap.get?_push_size (s.heap.push { cls := .type "tuple_iterator", data := .fields #[.ref l, .int 0 0] })
      (o := { cls := .type "enumerate", data := .fields #[.none, .bool false, .ref s.heap.objs.size, rawInt 0, .none, .none] }) rfl
    rw [hz] at q
    exact q
  show _ ∧ _
  rw [hz]
  exact ⟨⟨_, he, rfl⟩, h _ he ⟨_, Heap.get?_push_of_some _ (Heap.get?_push_size _ rfl), rfl, rfl⟩ fun b o x => Heap.get?_push_of_some _ (Heap.get?_push_of_some _ x)⟩
end

/-- the tuple at a, its items in new pairs, counted from c -/
def ItEnT (K : PySem.W.Frag) (a : Addr) (c : Int) : It :=
  ⟨fun i H => ∃ (xs : List V) (x : V), SqT K H a xs ∧ xs[i]? = some x,
    fun i H v H' => ∃ T x, v = .ref T ∧ H T = none ∧ H' = upd H T (.tup [.int (c + (i : Nat)), x]) ∧ ∀ xs, SqT K H a xs → xs[i]? = some x,
    fun i H => ∃ xs : List V, SqT K H a xs ∧ xs.length ≤ i⟩
theorem turn_enT {P : Program} {w : World} {K : PySem.W.Frag} {elts : List Expr} {kk : Nat} {tpos : Pos} (a e it : Addr) (c : Int) :
    Turn P w K (.Tuple elts kk tpos) (ItEnT K a c) [e, it] e (fun i h => (∃ old, IsEnum h e it (c + ((i : Nat) : Int)) old) ∧ h.IsTupleIter it a i ∧ e ≠ it) where
  mem := by simp
  obj := fun i h S b hb => by
    obtain ⟨⟨old, he⟩, ⟨o, ho, hc, hd⟩, _⟩ := S
    rcases List.mem_cons.mp hb with rfl | hb
    · exact ⟨_, he, fun v q => nomatch q⟩
    · rw [List.mem_singleton.mp hb]
      exact ⟨o, ho, fun v q => by rw [hd] at q; cases q⟩
  keep := fun i h h' S k => by
    obtain ⟨⟨old, he⟩, ⟨o, ho, r⟩, hne⟩ := S
    exact ⟨⟨old, k e (by simp) _ he⟩, ⟨o, k it (by simp) _ ho, r⟩, hne⟩
  item := by
    intro X hP hw hK hcalm i pins s σ H E I hf S hg
    subst hP hw hK
    obtain ⟨⟨old, he⟩, hit, hne⟩ := S
    obtain ⟨xs, x, hq, hx⟩ := hg
    obtain ⟨its, rv, ⟨oa, hoa, hca, na, hda⟩, _⟩ := I.tuple hq
    obtain ⟨u, hu, ru⟩ := rv.get hx
    obtain ⟨oi, hoi, hci, hdi⟩ := id hit
    have hai : a ≠ it := fun z => by
      rw [z, hoi] at hoa
      cases hoa
      rw [hca] at hci
      simp at hci
    have hea : e ≠ a := fun z => by
      have he2 := he
      unfold IsEnum at he2
      rw [z, hoa] at he2
      cases he2
      simp at hca
    have hef : e ∉ [it, a] := fun z => by
      rcases List.mem_cons.mp z with z | z
      · exact hne z
      · exact hea (List.mem_singleton.mp z)
    have hel : e < s.heap.objs.size := Heap.lt_size he
    have hil : it < s.heap.objs.size := Heap.lt_size hoi
    have D := draws_tup (prog := X.prog) (w := X.w) (A := X.A.in1) (I.ok.hd hcalm) it a its.toArray hai
    have hlt : i < its.toArray.size := by
      have := (List.getElem?_eq_some_iff.mp hu).1
      simpa using this
    refine wpAny_pyNext_enum_itemC D he ⟨hit, ⟨oa, hoa, hca, na, hda⟩⟩ hlt hne hef fun y h' tk hy ho hit' hT hsz hk => ?_
    obtain rfl : u = y := by
      have : its.toArray[i]? = some u := by simpa using hu
      rw [this] at hy
      exact Option.some.inj hy
    refine ⟨_, rfl, wpAny_letOwnedTupleGo_enum (s := { s with heap := h', toks := tk + 1 }) ho fun h'' he' sb => ?_⟩
    have hT2 : h''.get? s.heap.objs.size = some { cls := .type "tuple", data := .seq #[.int (c + (i : Nat)) tk, u] } := (sb.2 _ (Nat.ne_of_gt hel)).trans hT
    have new : ObjOk X.prog X.w (upd H s.heap.objs.size (.tup [.int (c + (i : Nat)), x])) h'' s.heap.objs.size (.tup [.int (c + (i : Nat)), x]) :=
      ⟨by show 2 ≤ sizeLine; decide, [.int (c + (i : Nat)) tk, u], .cons ⟨_, rfl⟩ (.cons ru .nil), ⟨_, hT2, rfl, _, rfl⟩⟩
    have I1 : Inv X pins σ (upd H s.heap.objs.size (.tup [.int (c + (i : Nat)), x])) { s with heap := h'', toks := tk + 1 } :=
      I.turnedNew (ch := [e, it]) (fun b ob hb q => (sb.2 b (fun z => hb (by simp [z]))).trans (hk b ob (fun z => hb (by simp [z])) (fun z => hb (by simp [z])) q)) hf (Nat.le_refl _) new
    obtain ⟨oi', hoi', r'⟩ := hit'.1
    refine ⟨.ref s.heap.objs.size, _, I1, rfl, ⟨_, x, rfl, I.hok.fresh (Nat.le_refl _), rfl, fun ys hy => by rw [I.tuple_inj hy hq]; exact hx⟩, ⟨⟨u, ?_⟩, ⟨oi', (sb.2 it (Ne.symm hne)).trans hoi', r'⟩, hne⟩, fun b hb => ?_⟩
    · have e1 : c + ((i + 1 : Nat) : Int) = c + (i : Int) + 1 := by omega
      rw [e1]
      exact he'
    · have hb' : b < s.heap.objs.size := by
        rcases List.mem_cons.mp hb with z | hb
        · rw [z]
          exact hel
        · rw [List.mem_singleton.mp hb]
          exact hil
      rw [upd_ne (Nat.ne_of_lt hb')]
      exact (hf b hb).1
  done := by
    intro X hP hw hK hcalm i pins s σ H E I hf S hg
    subst hP hw hK
    obtain ⟨⟨old, he⟩, hit, hne⟩ := S
    obtain ⟨xs, hq, hx⟩ := hg
    obtain ⟨its, rv, ⟨oa, hoa, hca, na, hda⟩, _⟩ := I.tuple hq
    obtain ⟨oi, hoi, hci, hdi⟩ := id hit
    have hl := rv.length
    obtain ⟨f0, f1, f2, f3, f4, f5⟩ := hf it (by simp)
    have hT : s.TypeIs (.ref e) "enumerate" := ⟨_, he, rfl⟩
    unfold pyNext
    refine wpAny_bind (wpAny_attempt (wpAny_callSpecial?_slot (name := Str.ofString "__next__") hT F.slot_enumerate_next
      (wpAny_call_entry F.slot_enumerate_next hT F.entry_enumerate_next ?_ (F.args_enumerate_next_1 _))))
    show wpAny _ _ (field (.ref e) 2 >>= _) _ _ _
    refine wpAny_bind (wpAny_field he rfl (x := .ref it) rfl ?_)
    refine wpAny_bind (RZ.nextOf_tuple_end (I.ok.hd hcalm) hit (show s.heap.IsTuple a its.toArray from ⟨oa, hoa, hca, na, hda⟩) (by simp; omega) fun h' y hy1 hy2 => ?_)
    obtain ⟨o, ho, hc⟩ := hy2
    exact wpAny_bind (wpAny_isInstance (T := "StopIteration") (b := true) ⟨o, ho, hc⟩ isSubtype_stop (wpAny_pure ⟨rfl, I.turned (t' := s.toks) (fun b o hb q => hy1 b o hb q) f0 f1 f3 f4 f5⟩))
  self := fun A i s Q E S h => by
    obtain ⟨⟨_, he⟩, _⟩ := S
    exact wpAny_pyIter_enum he h
def iEnumT (K : PySem.W.Frag) (ta : TA) : TI := fun σ H R => ta σ H fun vs H1 => ∃ a xs, vs = [.ref a] ∧ SqT K H1 a xs ∧ R (ItEnT K a 0) H1
theorem pi_enumT {X : Cx} {e : Expr} {ta : TA} {p pos tpos : Pos} {elts : List Expr} {kk : Nat} (hg : Gl X "enumerate") (hm : X.mg "enumerate" = none) (ha : PA X [e] ta)
    (hs : starEach [e] X.env = [(false, eval e X.env)] := by rfl) : PI X (.Tuple elts kk tpos) (.Call (.Name "enumerate" p) [e] [] pos) (iEnumT X.K ta) := by
  refine ⟨fun pins s σ H R I h => Call_ (ld_blt I hg hm boot_enumerate (PyProof.Rows.callWith_type1 (thn (ha.run pos pins s σ H _ I h) fun us s1 ⟨vs, H1, I1, r1, q1⟩ => ?_) hs rfl))⟩
  obtain ⟨a, xs, ex, hq, q⟩ := q1
  subst ex
  obtain ⟨u, rfl, ru⟩ := vals1 r1
  cases ru
  obtain ⟨its, rv, ⟨oa, hoa, hca, na, hda⟩, _⟩ := I1.tuple hq
  refine call_enumT (items := its.toArray) ⟨oa, hoa, hca, na, hda⟩ fun h' he hit hk => wpAny_pyIter_enum he ?_
  have I2 : Inv X pins σ H1 { s1 with heap := h' } := I1.kept (t' := s1.toks) hk
  refine ⟨s1.heap.objs.size + 1, [s1.heap.objs.size + 1, s1.heap.objs.size], _, _, H1, rfl, I2, turn_enT a (s1.heap.objs.size + 1) s1.heap.objs.size 0, ⟨⟨.none, he⟩, hit, Nat.succ_ne_self _⟩, fun b hb => ?_, q⟩
  have hle : s1.heap.objs.size ≤ b := by
    rcases List.mem_cons.mp hb with z | hb
    · rw [z]
      exact Nat.le_succ _
    · exact Nat.le_of_eq (List.mem_singleton.mp hb).symm
  exact I1.fpOk hle (I1.hok.fresh hle)
/-- a loop over enumerate(t) -/
theorem for_enT {K : PySem.W.Frag} {a : Addr} {xs : List V} {c : Int} {g : TG} {tb : TS} {D : Ends} {σ : L2.St} {H : Hp} (Pv : Nat → L2.St → Hp → Prop) (h0 : Pv 0 σ H) (hq : ∀ i σ H, i ≤ xs.length → Pv i σ H → SqT K H a xs)
    (hs : ∀ (i : Nat) (x : V) (T : Addr) (σ : L2.St) (H : Hp), xs[i]? = some x → Pv i σ H → H T = none →
      g (.ref T) σ (upd H T (.tup [.int (c + (i : Nat)), x])) fun σ2 H2 => tb { D with nx := Pv (i + 1), ct := Pv (i + 1), bk := D.nx } σ2 H2) (hd : ∀ σ H, Pv xs.length σ H → D.nx σ H) :
    ∃ W : Nat → Nat → L2.St → Hp → Prop, (∃ m, W 0 m σ H) ∧ ∀ i m σ H, W i m σ H → ((ItEnT K a c).stop i H ∧ D.nx σ H) ∨ ((ItEnT K a c).go i H ∧
      ∃ N : L2.St → Hp → Prop, (∀ σ' H', N σ' H' → ∃ m', m' < m ∧ W (i + 1) m' σ' H') ∧ ∀ v H', (ItEnT K a c).yld i H v H' →
        g v σ H' fun σ2 H2 => tb { D with nx := N, ct := N, bk := D.nx } σ2 H2) := by
  refine ⟨fun i m σ H => m = xs.length - i ∧ i ≤ xs.length ∧ Pv i σ H, ⟨xs.length, rfl, Nat.zero_le _, h0⟩, ?_⟩
  rintro i _ σ H ⟨rfl, hi, p⟩
  have q := hq i σ H hi p
  by_cases hlt : i < xs.length
  · have hx : xs[i]? = some xs[i] := List.getElem?_eq_getElem hlt
    refine .inr ⟨⟨xs, _, q, hx⟩, Pv (i + 1), fun σ' H' p' => ⟨xs.length - (i + 1), by omega, rfl, hlt, p'⟩, fun v H' y => ?_⟩
    obtain ⟨T, x', rfl, nT, rfl, f1⟩ := y
    exact hs i x' T σ H (f1 xs q) p nT
  · obtain rfl : i = xs.length := by omega
    exact .inl ⟨⟨xs, q, Nat.le_refl _⟩, hd σ H p⟩
end DD
namespace DD
open PySem PySem.Spec PyProof.Rows L2

/-! ### max and min of a tuple of ints -/
section
variable {prog : Program} {w : World} {A : Around} {E : Value → Shared → Prop} {s : Shared} {l : Addr} {xs : Array (Int × Tok)}
theorem max_intTup {Q : Value → Shared → Prop} (hh : A.handled = none) (hl : s.heap.IsTuple l (intItems xs)) (hne : 0 < xs.size)
    (h : ∀ v h' tk, (intItems xs)[argBest (fun i j => decide (numAt xs i > numAt xs j)) (xs.size - 1)]? = some v → (∀ b o, s.heap.get? b = some o → h'.get? b = some o) → Q v { s with heap := h', toks := tk }) :
    wpAny (model prog w) A (call (.builtin "max") [.ref l]) Q E s := by
  have hlt : l < s.heap.objs.size := by obtain ⟨_, e, _⟩ := hl; exact Heap.lt_size e
  refine call_max_walk (wpAny_pyIter_tuple hl ?_)
  refine ⟨_, _, _, _, _, _, _, rfl, Walks.tuple (A := A.in1) hh _ l (Nat.ne_of_lt hlt) (intItems xs), ⟨⟨_, Heap.get?_push_size _ rfl, rfl, rfl⟩, hl.push _⟩, fun b hb => ?_, by simpa [intItems] using hne, CmpOf.ints_gt (numAt xs) (fun _ _ => intItems_at), fun v h' tk hP hk => ?_⟩
  · show b < (s.heap.push _).objs.size
    rw [Heap.size_push]
    rcases List.mem_cons.mp hb with rfl | hb
    · exact Nat.lt_succ_self _
    · rcases List.mem_cons.mp hb with rfl | hb
      · exact Nat.lt_succ_of_lt hlt
      · cases hb
  · refine h v h' tk (by simpa [intItems] using hP) fun b o e => hk b o (fun hm => ?_) (Heap.get?_push_of_some _ e)
    rcases List.mem_cons.mp hm with e1 | hm
    · exact absurd (e1 ▸ Heap.lt_size e) (Nat.lt_irrefl _)
    · cases hm
theorem min_intTup {Q : Value → Shared → Prop} (hh : A.handled = none) (hl : s.heap.IsTuple l (intItems xs)) (hne : 0 < xs.size)
    (h : ∀ v h' tk, (intItems xs)[argBest (fun i j => decide (numAt xs i < numAt xs j)) (xs.size - 1)]? = some v → (∀ b o, s.heap.get? b = some o → h'.get? b = some o) → Q v { s with heap := h', toks := tk }) :
    wpAny (model prog w) A (call (.builtin "min") [.ref l]) Q E s := by
  have hlt : l < s.heap.objs.size := by obtain ⟨_, e, _⟩ := hl; exact Heap.lt_size e
  refine call_min_walk (wpAny_pyIter_tuple hl ?_)
  refine ⟨_, _, _, _, _, _, _, rfl, Walks.tuple (A := A.in1) hh _ l (Nat.ne_of_lt hlt) (intItems xs), ⟨⟨_, Heap.get?_push_size _ rfl, rfl, rfl⟩, hl.push _⟩, fun b hb => ?_, by simpa [intItems] using hne, CmpOf.ints_lt (numAt xs) (fun _ _ => intItems_at), fun v h' tk hP hk => ?_⟩
  · show b < (s.heap.push _).objs.size
    rw [Heap.size_push]
    rcases List.mem_cons.mp hb with rfl | hb
    · exact Nat.lt_succ_self _
    · rcases List.mem_cons.mp hb with rfl | hb
      · exact Nat.lt_succ_of_lt hlt
      · cases hb
  · refine h v h' tk (by simpa [intItems] using hP) fun b o e => hk b o (fun hm => ?_) (Heap.get?_push_of_some _ e)
    rcases List.mem_cons.mp hm with e1 | hm
    · exact absurd (e1 ▸ Heap.lt_size e) (Nat.lt_irrefl _)
    · cases hm
end
theorem ints_of_valsT : ∀ {ns : List Int} {us : List Value}, Vals (ns.map V.int) us → PyProof.Rows.IntsAre us ns
  | [], _, h => by
    cases h
    exact .nil
  | n :: ns, _, h => by
    cases h with
    | cons r t =>
      obtain ⟨k, rfl⟩ := r
      exact .cons n k (ints_of_valsT t)
def rMaxT (K : PySem.W.Frag) : List V → Hp → VK → Prop := fun vs H Q => ∃ (a : Addr) (ns : List Int), vs = [V.ref a] ∧ SqT K H a (ns.map V.int) ∧ 0 < ns.length ∧ ∀ m, m ∈ ns → (∀ y, y ∈ ns → y ≤ m) → Q (.int m) H
def rMinT (K : PySem.W.Frag) : List V → Hp → VK → Prop := fun vs H Q => ∃ (a : Addr) (ns : List Int), vs = [V.ref a] ∧ SqT K H a (ns.map V.int) ∧ 0 < ns.length ∧ ∀ m, m ∈ ns → (∀ y, y ∈ ns → m ≤ y) → Q (.int m) H
theorem cr_maxT {X : Cx} (hc : X.calm = true) : CallR X (.builtin "max") (rMaxT X.K) := by
  intro pins s σ H vs us Q I r h
  obtain ⟨a, ns, rfl, hq, hne, q⟩ := h
  obtain ⟨u, rfl, ru⟩ := vals1 r
  cases ru
  obtain ⟨its, rv, ⟨o, ho, hcl, n, hd⟩, _⟩ := I.tuple hq
  have ia := ints_of_valsT rv
  obtain ⟨xs, e⟩ := ia.allInts.items
  have hn : numsOf (intItems xs).toList = ns := by rw [← e]; exact ia.numsOf
  rw [nums_intItems] at hn
  have ht : s.heap.IsTuple a (intItems xs) := by rw [← e]; exact ⟨o, ho, hcl, n, hd⟩
  subst hn
  have hsz : 0 < xs.size := by simpa using hne
  refine max_intTup (I.ok.hd hc) ht hsz fun v h' tk hv hk => ?_
  obtain ⟨t, rfl⟩ := intItems_at hv
  obtain ⟨h1, h2⟩ := argBest_gt (numAt xs) (xs.size - 1)
  refine ⟨.int _, H, I.kept hk, ⟨_, rfl⟩, q _ ?_ fun a ha => ?_⟩
  · rw [numAt_eq]; exact PySem.getD_mem (by rw [List.length_map, Array.length_toList]; omega)
  · obtain ⟨j, hj, rfl⟩ := mem_getD ha
    rw [List.length_map, Array.length_toList] at hj
    rw [← numAt_eq]; exact h2 j (by omega)
theorem cr_minT {X : Cx} (hc : X.calm = true) : CallR X (.builtin "min") (rMinT X.K) := by
  intro pins s σ H vs us Q I r h
  obtain ⟨a, ns, rfl, hq, hne, q⟩ := h
  obtain ⟨u, rfl, ru⟩ := vals1 r
  cases ru
  obtain ⟨its, rv, ⟨o, ho, hcl, n, hd⟩, _⟩ := I.tuple hq
  have ia := ints_of_valsT rv
  obtain ⟨xs, e⟩ := ia.allInts.items
  have hn : numsOf (intItems xs).toList = ns := by rw [← e]; exact ia.numsOf
  rw [nums_intItems] at hn
  have ht : s.heap.IsTuple a (intItems xs) := by rw [← e]; exact ⟨o, ho, hcl, n, hd⟩
  subst hn
  have hsz : 0 < xs.size := by simpa using hne
  refine min_intTup (I.ok.hd hc) ht hsz fun v h' tk hv hk => ?_
  obtain ⟨t, rfl⟩ := intItems_at hv
  obtain ⟨h1, h2⟩ := argBest_lt (numAt xs) (xs.size - 1)
  refine ⟨.int _, H, I.kept hk, ⟨_, rfl⟩, q _ ?_ fun a ha => ?_⟩
  · rw [numAt_eq]; exact PySem.getD_mem (by rw [List.length_map, Array.length_toList]; omega)
  · obtain ⟨j, hj, rfl⟩ := mem_getD ha
    rw [List.length_map, Array.length_toList] at hj
    rw [← numAt_eq]; exact h2 j (by omega)
end DD
namespace DD
open PySem PySem.Spec PyProof.Rows L2 RZ

/-! ### for x in zip(a, b), two tuples of one length, the pair taken whole -/
def iZipP (K : PySem.W.Frag) (ta : TA) : TI := fun σ H R => ta σ H fun vs H1 => ∃ (a b : Addr) (xs ys : List V), vs = [.ref a, .ref b] ∧ SqT K H1 a xs ∧ SqT K H1 b ys ∧ xs.length = ys.length ∧ R (ItzN K [a, b] [xs, ys] xs.length) H1
theorem pi_zipP {X : Cx} {e e2 : Expr} {ta : TA} {p pos xp : Pos} {x : Str} (hg : Gl X "zip") (hm : X.mg "zip" = none) (ha : PA X [e, e2] ta)
    (hs : starEach [e, e2] X.env = (false, eval e X.env) :: starEach [e2] X.env := by rfl) (hpl : (backTo pos (starEach [e2] X.env)).any (·.1) = false := by rfl) :
    PI X (.Name x xp) (.Call (.Name "zip" p) [e, e2] [] pos) (iZipP X.K ta) := by
  refine ⟨fun pins s σ H R I h => ?_⟩
  refine Call_ (ld_blt I hg hm PyProof.Rows.boot_zip (PyProof.Rows.callWith_type1 (thn (ha.run pos pins s σ H _ I h) fun us s2 ⟨vs, H1, I2, r1, q1⟩ => ?_) hs hpl))
  obtain ⟨a, b, xs, ys, ex, hx, hy, hl, q⟩ := q1
  subst ex
  obtain rfl := vals_refs (ls := [a, b]) r1
  have Rw : Rws X.K H1 [a, b] [xs, ys] xs.length := ⟨rfl, fun j l r e1 e2 => by
    match j, e1, e2 with
    | 0, e1, e2 => cases e1; cases e2; exact ⟨hx, rfl⟩
    | 1, e1, e2 => cases e1; cases e2; exact ⟨hy, hl.symm⟩⟩
  have h1 : 1 ≤ [a, b].length := by simp
  have h2 : [a, b].length ≤ 4 := by simp
  have tup : ∀ l ∈ [a, b], ∃ xs, s2.heap.IsTuple l xs := fun l hl => by
    obtain ⟨j, hj⟩ := List.mem_iff_getElem?.mp hl
    have hjl := (List.getElem?_eq_some_iff.mp hj).1
    have hjr : [xs, ys][j]? = some ([xs, ys][j]'(by have := Rw.len; omega)) := List.getElem?_eq_getElem (by have := Rw.len; omega)
    obtain ⟨its, _, ⟨o, ho, hc, n, hd⟩, _⟩ := I2.tuple (Rw.at_ j l _ hj hjr).1
    exact ⟨its.toArray, o, ho, hc, n, hd⟩
  refine call_zipN h1 h2 tup fun h' n en S hsz hk => ?_
  have I3 : Inv X pins σ H1 { s2 with heap := h' } := I2.kept (t' := s2.toks) hk
  have hlt : ∀ l ∈ [a, b], l < n := fun l hl => by
    obtain ⟨xs, o, ho, _⟩ := tup l hl
    rw [en]
    exact Heap.lt_size ho
  refine pyIter_zn (s := { s2 with heap := h' }) S ⟨n + [a, b].length + 2, _, _, _, H1, rfl, I3, turn_zn h1 h2 hlt, S, fun b' hb => ?_, q⟩
  have hle : s2.heap.objs.size ≤ b' := by
    rw [← en]
    rcases List.mem_cons.mp hb with rfl | hb
    · omega
    rcases List.mem_cons.mp hb with rfl | hb
    · omega
    rcases List.mem_cons.mp hb with rfl | hb
    · omega
    obtain ⟨p, hp, rfl⟩ := List.mem_map.mp hb
    obtain ⟨j, _, _, e⟩ := zps_mem hp
    exact Nat.le_trans (Nat.le_add_right n j) (Nat.le_of_eq e.symm)
  exact I2.fpOk hle (I2.hok.fresh hle)

/-- a comprehension over zip of two tuples of one length -/
theorem lc_zipT {K : PySem.W.Frag} {a b : Addr} {xs ys : List V} {g : TG} {tt : TT} {te : TE} {vs : List Nat} {σ : L2.St} {H1 : Hp} {D : Addr} {Qd : Hp → Prop} (hl : xs.length = ys.length)
    (Pv : Nat → Hp → Prop) (h0 : Pv 0 (upd H1 D (.lst []))) (hq : ∀ i H, i ≤ xs.length → Pv i H → SqT K H a xs ∧ SqT K H b ys)
    (hs : ∀ i x y T H, xs[i]? = some x → ys[i]? = some y → Pv i H → H T = none → g (.ref T) (wipe σ vs) (upd H T (.tup [x, y])) fun σ2 H2 => wipe σ2 vs = wipe σ vs ∧ tt σ2 H2 fun b H3 =>
      if b = true then (te σ2 H3 fun y H4 => ∃ acc, H4 D = some (.lst acc) ∧ acc.length < sizeLine ∧ Pv (i + 1) (upd H4 D (.lst (acc ++ [y])))) else Pv (i + 1) H3) (hd : ∀ H, Pv xs.length H → Qd H) :
    ∃ W : Nat → Nat → Hp → Prop, (∃ m, W 0 m (upd H1 D (.lst []))) ∧ ∀ i m0 H, W i m0 H → ((ItzT K a b).stop i H ∧ Qd H) ∨ ((ItzT K a b).go i H ∧
      ∃ Nx : Hp → Prop, (∀ H', Nx H' → ∃ m', m' < m0 ∧ W (i + 1) m' H') ∧ ∀ x H', (ItzT K a b).yld i H x H' → g x (wipe σ vs) H' fun σ2 H2 => wipe σ2 vs = wipe σ vs ∧
        tt σ2 H2 fun b H3 => if b = true then (te σ2 H3 fun y H4 => ∃ acc, H4 D = some (.lst acc) ∧ acc.length < sizeLine ∧ Nx (upd H4 D (.lst (acc ++ [y])))) else Nx H3) := by
  refine ⟨fun i m0 H => m0 = xs.length - i ∧ i ≤ xs.length ∧ Pv i H, ⟨xs.length, by simp, Nat.zero_le _, h0⟩, ?_⟩
  rintro i _ H ⟨rfl, hi, p⟩
  obtain ⟨qx, qy⟩ := hq i H hi p
  by_cases hlt : i < xs.length
  · have hx : xs[i]? = some xs[i] := List.getElem?_eq_getElem hlt
    have hlt2 : i < ys.length := by omega
    have hy : ys[i]? = some ys[i] := List.getElem?_eq_getElem hlt2
    refine .inr ⟨⟨xs, ys, _, _, qx, qy, hx, hy⟩, Pv (i + 1), fun H' p' => ⟨xs.length - (i + 1), by omega, rfl, hlt, p'⟩, fun v H' y => ?_⟩
    obtain ⟨T, x', y', rfl, hT, rfl, f1, f2⟩ := y
    exact hs i x' y' T H (f1 xs qx) (f2 ys qy) p hT
  · have e : i = xs.length := by omega
    subst e
    exact .inl ⟨⟨xs, ys, qx, qy, Or.inl (Nat.le_refl _)⟩, hd H p⟩
/-- a comprehension over zip(*..) of tuples of one length -/
theorem lc_zipN {K : PySem.W.Frag} {ls : List Addr} {rows : List (List V)} {m : Nat} {g : TG} {tt : TT} {te : TE} {vs : List Nat} {σ : L2.St} {H1 : Hp} {D : Addr} {Qd : Hp → Prop}
    (Pv : Nat → Hp → Prop) (h0 : Pv 0 (upd H1 D (.lst []))) (hl : ∀ i H, i ≤ m → Pv i H → Rws K H ls rows m)
    (hs : ∀ i T H, i < m → Pv i H → H T = none → g (.ref T) (wipe σ vs) (upd H T (.tup (colV rows i))) fun σ2 H2 => wipe σ2 vs = wipe σ vs ∧ tt σ2 H2 fun b H3 =>
      if b = true then (te σ2 H3 fun y H4 => ∃ acc, H4 D = some (.lst acc) ∧ acc.length < sizeLine ∧ Pv (i + 1) (upd H4 D (.lst (acc ++ [y])))) else Pv (i + 1) H3) (hd : ∀ H, Pv m H → Qd H) :
    ∃ W : Nat → Nat → Hp → Prop, (∃ m, W 0 m (upd H1 D (.lst []))) ∧ ∀ i m0 H, W i m0 H → ((ItzN K ls rows m).stop i H ∧ Qd H) ∨ ((ItzN K ls rows m).go i H ∧
      ∃ Nx : Hp → Prop, (∀ H', Nx H' → ∃ m', m' < m0 ∧ W (i + 1) m' H') ∧ ∀ x H', (ItzN K ls rows m).yld i H x H' → g x (wipe σ vs) H' fun σ2 H2 => wipe σ2 vs = wipe σ vs ∧
        tt σ2 H2 fun b H3 => if b = true then (te σ2 H3 fun y H4 => ∃ acc, H4 D = some (.lst acc) ∧ acc.length < sizeLine ∧ Nx (upd H4 D (.lst (acc ++ [y])))) else Nx H3) := by
  refine ⟨fun i m0 H => m0 = m - i ∧ i ≤ m ∧ Pv i H, ⟨m, by simp, Nat.zero_le _, h0⟩, ?_⟩
  rintro i _ H ⟨rfl, hi, p⟩
  have q := hl i H hi p
  by_cases hlt : i < m
  · refine .inr ⟨⟨hlt, q⟩, Pv (i + 1), fun H' p' => ⟨m - (i + 1), by omega, rfl, hlt, p'⟩, fun x H' y => ?_⟩
    obtain ⟨T, rfl, nT, rfl⟩ := y
    exact hs i T H hlt p nT
  · obtain rfl : i = m := by omega
    exact .inl ⟨⟨rfl, q⟩, hd H p⟩

end DD
namespace DD
open PySem PySem.Spec PyProof.Rows L2 RZ
theorem walk_enT {K : PySem.W.Frag} {a : Addr} {xs : List V} {c : Int} : Walk (ItEnT K a c) xs.length (fun H => SqT K H a xs) (YPair (fun i => some (.int (c + (i : Nat)))) (fun i => xs[i]?)) := by
  refine ⟨fun i _ hi q => ⟨xs, xs[i], q, by simp [hi]⟩, fun _ q => ⟨xs, q, Nat.le_refl _⟩, fun i H v H' _ q y => ?_⟩
  obtain ⟨T, x, h1, h2, h3, h4⟩ := y
  exact ⟨T, .int (c + (i : Nat)), x, h1, h2, h3, rfl, h4 xs q⟩

/-! ### two clauses in one comprehension -/
section
variable {J J1 : It} {n n1 : Nat} {G G1 : Hp → Prop} {Y Y1 : Nat → Hp → V → Hp → Prop}
theorem lc2_it (w : Walk J n G Y) {g g1 : TG} {tt tt1 : TT} {te : TE} {wi1 : TI} {vs vs1 : List Nat} {σ : L2.St} {H1 : Hp} {D : Addr} {Qd : Hp → Prop} (Pv : Nat → Hp → Prop) (h0 : Pv 0 (upd H1 D (.lst []))) (hG : ∀ i H, i ≤ n → Pv i H → G H)
    (hs : ∀ i x H H', i < n → Pv i H → Y i H x H' → g x (wipe σ vs) H' fun σ2 H2 => wipe σ2 vs = wipe σ vs ∧ tt σ2 H2 fun b H3 =>
      if b = true then wi1 σ2 H3 fun J1 H4 => ∃ W1 : Nat → Nat → Hp → Prop, (∃ m, W1 0 m H4) ∧ ∀ j k H, W1 j k H →
      (J1.stop j H ∧ Pv (i + 1) H) ∨ (J1.go j H ∧ ∃ Nx1 : Hp → Prop, (∀ H', Nx1 H' → ∃ k', k' < k ∧ W1 (j + 1) k' H') ∧ ∀ x H', J1.yld j H x H' → g1 x (wipe σ2 vs1) H' fun σ3 H5 => wipe σ3 vs1 = wipe σ2 vs1 ∧ tt1 σ3 H5 fun b H6 =>
        if b = true then te σ3 H6 fun y H7 => ∃ acc, H7 D = some (.lst acc) ∧ acc.length < sizeLine ∧ Nx1 (upd H7 D (.lst (acc ++ [y]))) else Nx1 H6)
      else Pv (i + 1) H3) (hd : ∀ H, Pv n H → Qd H) :
    ∃ W : Nat → Nat → Hp → Prop, (∃ m, W 0 m (upd H1 D (.lst []))) ∧ ∀ i m H, W i m H →
  (J.stop i H ∧ Qd H) ∨ (J.go i H ∧ ∃ Nx : Hp → Prop, (∀ H', Nx H' → ∃ m', m' < m ∧ W (i + 1) m' H') ∧ ∀ x H', J.yld i H x H' → g x (wipe σ vs) H' fun σ2 H2 => wipe σ2 vs = wipe σ vs ∧ tt σ2 H2 fun b H3 =>
    if b = true then wi1 σ2 H3 fun J1 H4 => ∃ W1 : Nat → Nat → Hp → Prop, (∃ m, W1 0 m H4) ∧ ∀ j k H, W1 j k H →
      (J1.stop j H ∧ Nx H) ∨ (J1.go j H ∧ ∃ Nx1 : Hp → Prop, (∀ H', Nx1 H' → ∃ k', k' < k ∧ W1 (j + 1) k' H') ∧ ∀ x H', J1.yld j H x H' → g1 x (wipe σ2 vs1) H' fun σ3 H5 => wipe σ3 vs1 = wipe σ2 vs1 ∧ tt1 σ3 H5 fun b H6 =>
        if b = true then te σ3 H6 fun y H7 => ∃ acc, H7 D = some (.lst acc) ∧ acc.length < sizeLine ∧ Nx1 (upd H7 D (.lst (acc ++ [y]))) else Nx1 H6)
    else Nx H3) := by
  refine ⟨fun i m H => m = n - i ∧ i ≤ n ∧ Pv i H, ⟨n, by simp, Nat.zero_le _, h0⟩, ?_⟩
  rintro i m H ⟨rfl, hi, p⟩
  have q := hG i H hi p
  by_cases hlt : i < n
  · refine .inr ⟨w.goes i H hlt q, Pv (i + 1), fun H' p' => ⟨n - (i + 1), by omega, rfl, hlt, p'⟩, fun x H' y => hs i x H H' hlt p (w.yields i H x H' hlt q y)⟩
  · have e : i = n := by omega
    subst e
    exact .inl ⟨w.stops H q, hd H p⟩
theorem lci_it (w : Walk J1 n1 G1 Y1) {g1 : TG} {tt1 : TT} {te : TE} {vs1 : List Nat} {σ2 : L2.St} {H4 : Hp} {D : Addr} {Nx : Hp → Prop} (Pv : Nat → Hp → Prop) (h0 : Pv 0 H4) (hG : ∀ i H, i ≤ n1 → Pv i H → G1 H)
    (hs : ∀ j x H H', j < n1 → Pv j H → Y1 j H x H' → g1 x (wipe σ2 vs1) H' fun σ3 H5 => wipe σ3 vs1 = wipe σ2 vs1 ∧ tt1 σ3 H5 fun b H6 =>
        if b = true then te σ3 H6 fun y H7 => ∃ acc, H7 D = some (.lst acc) ∧ acc.length < sizeLine ∧ Pv (j + 1) (upd H7 D (.lst (acc ++ [y]))) else Pv (j + 1) H6) (hd : ∀ H, Pv n1 H → Nx H) :
    ∃ W1 : Nat → Nat → Hp → Prop, (∃ m, W1 0 m H4) ∧ ∀ j k H, W1 j k H →
      (J1.stop j H ∧ Nx H) ∨ (J1.go j H ∧ ∃ Nx1 : Hp → Prop, (∀ H', Nx1 H' → ∃ k', k' < k ∧ W1 (j + 1) k' H') ∧ ∀ x H', J1.yld j H x H' → g1 x (wipe σ2 vs1) H' fun σ3 H5 => wipe σ3 vs1 = wipe σ2 vs1 ∧ tt1 σ3 H5 fun b H6 =>
        if b = true then te σ3 H6 fun y H7 => ∃ acc, H7 D = some (.lst acc) ∧ acc.length < sizeLine ∧ Nx1 (upd H7 D (.lst (acc ++ [y]))) else Nx1 H6) := by
  refine ⟨fun i m H => m = n1 - i ∧ i ≤ n1 ∧ Pv i H, ⟨n1, by simp, Nat.zero_le _, h0⟩, ?_⟩
  rintro i m H ⟨rfl, hi, p⟩
  have q := hG i H hi p
  by_cases hlt : i < n1
  · refine .inr ⟨w.goes i H hlt q, Pv (i + 1), fun H' p' => ⟨n1 - (i + 1), by omega, rfl, hlt, p'⟩, fun x H' y => hs i x H H' hlt p (w.yields i H x H' hlt q y)⟩
  · have e : i = n1 := by omega
    subst e
    exact .inl ⟨w.stops H q, hd H p⟩
end
end DD
namespace DD
open PySem PySem.Spec PyProof.Rows L2 RZ
/-! ### enumerate(zip(*rows)) -/
theorem nat7 {p n j L : Nat} (h1 : p = n + L + 3) (h2 : p = n + j) (h3 : j < L) : False := by omega
def zfp (z TI TO : Addr) (ps : List (Addr × Addr)) : List Addr := z :: TI :: TO :: ps.map (·.1)
theorem ZSt.keeps {h h' : Heap} {z TI TO : Addr} {ps : List (Addr × Addr)} {k : Nat} (S : ZSt h z TI TO ps k) (q : ∀ b ∈ zfp z TI TO ps, ∀ o, h.get? b = some o → h'.get? b = some o) : ZSt h' z TI TO ps k := by
  obtain ⟨⟨f0, f1, hz, hf⟩, hTI, ⟨arr, ha, hTO⟩, hits⟩ := S
  refine ⟨⟨f0, f1, q _ (by simp [zfp]) _ hz, hf⟩, q _ (by simp [zfp]) _ hTI, ⟨arr, ha, q _ (by simp [zfp]) _ hTO⟩, fun p hp => ?_⟩
  obtain ⟨o, e, c⟩ := hits p hp
  exact ⟨o, q _ (by
    refine List.mem_cons_of_mem _ (List.mem_cons_of_mem _ (List.mem_cons_of_mem _ ?_))
    exact List.mem_map_of_mem hp) _ e, c⟩
section
variable {prog : Program} {w : World} {A : Around} {E : Value → Shared → Prop} {s : Shared} {z TI TO : Addr} {ps : List (Addr × Addr)} {k : Nat}
theorem nextOf_zn_item {vs : List Value} {Q : Value → Shared → Prop} (D : ZApart z TI TO ps) (hn : 1 ≤ ps.length) (hn2 : ps.length ≤ 1000) (S : ZSt s.heap z TI TO ps k)
    (hv : vs.length = ps.length) (hi : ∀ (j : Nat) (p : Addr × Addr), ps[j]? = some p → ∃ xs, s.heap.IsTuple p.2 xs ∧ xs[k]? = vs[j]?)
    (hQ : ∀ h', ZSt h' z TI TO ps (k + 1) → h'.get? s.heap.objs.size = some (tObj vs.toArray) → h'.objs.size = s.heap.objs.size + 1 →
      (∀ c o, c ≠ z → c ≠ TO → (∀ p ∈ ps, c ≠ p.1) → s.heap.get? c = some o → h'.get? c = some o) → Q (.ref s.heap.objs.size) { s with heap := h' }) :
    wpAny (model prog w) A (Builtin.SmallTypes.nextOf (.ref z)) Q E s := by
  obtain ⟨f0, f1, hz, hf0⟩ := S.zz
  have hT : s.TypeIs (.ref z) "zip" := ⟨_, hz, rfl⟩
  unfold Builtin.SmallTypes.nextOf
  exact wpAny_bind (wpAny_callSpecial?_slot (name := Str.ofString "__next__") hT F.slot_zip_next
    (wpAny_call_entry F.slot_zip_next hT F.entry_zip_next (zn_item D hn hn2 S hv hi fun h' a1 a2 a3 a4 => wpAny_pure (hQ h' a1 a2 a3 a4)) (F.args_zip_next_1 _)))
theorem nextOf_zn_end {Q : Value → Shared → Prop} (hh : A.handled = none) (D : ZApart z TI TO ps) (S : ZSt s.heap z TI TO ps k) {p : Addr × Addr} {r : List (Addr × Addr)} {xs : Array Value}
    (hps : ps = p :: r) (hl : s.heap.IsTuple p.2 xs) (hx : xs[k]? = none)
    (hE : ∀ h' e, (∀ c o, c ≠ z → c ≠ TO → (∀ p ∈ ps, c ≠ p.1) → s.heap.get? c = some o → h'.get? c = some o) →
      (∃ o, h'.get? e = some o ∧ o.cls = .type "StopIteration") → E (.ref e) { s with heap := h' }) :
    wpAny (model prog w) A (Builtin.SmallTypes.nextOf (.ref z)) Q E s := by
  obtain ⟨f0, f1, hz, hf0⟩ := S.zz
  have hT : s.TypeIs (.ref z) "zip" := ⟨_, hz, rfl⟩
  unfold Builtin.SmallTypes.nextOf
  exact wpAny_bind (wpAny_callSpecial?_slot (name := Str.ofString "__next__") hT F.slot_zip_next
    (wpAny_call_entry F.slot_zip_next hT F.entry_zip_next (zn_end hh D S hps hl hx hE) (F.args_zip_next_1 _)))

theorem ez_next_item {e : Addr} {c : Int} {old : Value} {vs : List Value} {Q : Value → Shared → Prop} (D : ZApart z TI TO ps) (hn : 1 ≤ ps.length) (hn2 : ps.length ≤ 1000)
    (he : IsEnum s.heap e z c old) (S : ZSt s.heap z TI TO ps k) (hv : vs.length = ps.length) (hi : ∀ (j : Nat) (p : Addr × Addr), ps[j]? = some p → ∃ xs, s.heap.IsTuple p.2 xs ∧ xs[k]? = vs[j]?)
    (hef : e ∉ zfp z TI TO ps)
    (hQ : ∀ h' tk, IsEnumOut h' e z (c + 1) (.ref s.heap.objs.size) (s.heap.objs.size + 1) → ZSt h' z TI TO ps (k + 1) → h'.get? s.heap.objs.size = some (tObj vs.toArray) →
      h'.get? (s.heap.objs.size + 1) = some { cls := .type "tuple", data := .seq #[.int c tk, .ref s.heap.objs.size] } → h'.objs.size = s.heap.objs.size + 2 →
      (∀ b o, b ≠ e → b ≠ z → b ≠ TO → (∀ p ∈ ps, b ≠ p.1) → s.heap.get? b = some o → h'.get? b = some o) → Q (.ref (s.heap.objs.size + 1)) { s with heap := h', toks := tk + 1 }) :
    wpAny (model prog w) A (Builtin.«enumerate.__next__» ⟨[.ref e], []⟩) (fun fin s' => ∃ v, fin = .done (.ret v) ∧ Q v s') E s := by
  obtain ⟨hp, g, d, tk, os⟩ := s
  have e1 : e ≠ z := fun q => hef (by rw [q]; simp [zfp])
  have e2 : e ≠ TO := fun q => hef (by rw [q]; simp [zfp])
  have e3 : ∀ p ∈ ps, e ≠ p.1 := fun p hpp q => hef (by
    rw [q]
    refine List.mem_cons_of_mem _ (List.mem_cons_of_mem _ (List.mem_cons_of_mem _ ?_))
    exact List.mem_map_of_mem hpp)
  show wpAny _ _ (field (.ref e) 2 >>= _) _ _ _
  refine wpAny_bind (wpAny_field he rfl (x := .ref z) rfl ?_)
  refine wpAny_bind (nextOf_zn_item D hn hn2 S hv hi fun h₁ S₁ hT₁ hz₁ hk₁ => ?_)
  replace hT₁ : h₁.get? hp.objs.size = some (tObj vs.toArray) := hT₁
  replace hz₁ : h₁.objs.size = hp.objs.size + 1 := hz₁
  replace hk₁ : ∀ c o, c ≠ z → c ≠ TO → (∀ p ∈ ps, c ≠ p.1) → hp.get? c = some o → h₁.get? c = some o := hk₁
  have he₁ : IsEnum h₁ e z c old := hk₁ e _ e1 e2 e3 he
  have hel : e < hp.objs.size := Heap.lt_size he
  show wpAny _ _ (field (.ref e) 3 >>= _) _ _ ⟨h₁, g, d, tk, os⟩
  refine wpAny_bind (wpAny_field he₁ rfl (x := rawInt c) rfl ?_)
  show wpAny _ _ (field (.ref e) 4 >>= _) _ _ ⟨h₁, g, d, tk, os⟩
  refine wpAny_bind (wpAny_field he₁ rfl (x := .none) rfl ?_)
  show wpAny _ _ (mkInt c >>= _) _ _ ⟨h₁, g, d, tk, os⟩
  refine wpAny_bind (wpAny_mkInt ?_)
  show wpAny _ _ (setField (.ref e) 3 (rawInt (c + 1)) >>= _) _ _ ⟨h₁, g, d, tk + 1, os⟩
  refine wpAny_bind (wpAny_setField_rec he₁ (by simp) fun h₂ he₂ hs₂ => ?_)
  replace hs₂ : Heap.SameBut e h₁ h₂ := hs₂
  replace he₂ : IsEnum h₂ e z (c + 1) old := he₂
  show wpAny _ _ (setField (.ref e) 4 .none >>= _) _ _ ⟨h₂, g, d, tk + 1, os⟩
  refine wpAny_bind (wpAny_setField_rec he₂ (by simp) fun h₃ he₃ hs₃ => ?_)
  replace hs₃ : Heap.SameBut e h₂ h₃ := hs₃
  replace he₃ : IsEnum h₃ e z (c + 1) old := he₃
  show wpAny _ _ (newTuple [.int c tk, .ref hp.objs.size] >>= _) _ _ ⟨h₃, g, d, tk + 1, os⟩
  refine wpAny_bind (wpAny_newTuple ?_)
  have he₄ : IsEnum (h₃.push { cls := .type "tuple", data := .seq #[.int c tk, .ref hp.objs.size] }) e z (c + 1) old := Heap.get?_push_of_some _ he₃
  generalize hh₄ : h₃.push { cls := .type "tuple", data := .seq #[.int c tk, .ref hp.objs.size] } = h₄ at he₄
  have hsz : h₃.objs.size = hp.objs.size + 1 := by rw [hs₃.1, hs₂.1, hz₁]
  have ht₄ : h₄.get? (hp.objs.size + 1) = some { cls := .type "tuple", data := .seq #[.int c tk, .ref hp.objs.size] } := by rw [← hh₄, ← hsz]; exact Heap.get?_push_size _ rfl
  have hz₄ : h₄.objs.size = hp.objs.size + 2 := by rw [← hh₄, Heap.size_push, hsz]
  have hk₁₄ : ∀ b o, b ≠ e → h₁.get? b = some o → h₄.get? b = some o := fun b o hbe hb => by
    rw [← hh₄]; exact Heap.get?_push_of_some _ (hs₃.extBut b o hbe (hs₂.extBut b o hbe hb))
  have S₄ : ZSt h₄ z TI TO ps (k + 1) := S₁.keeps fun b hb o y => hk₁₄ b o (fun q => hef (q ▸ hb)) y
  have hT₄ := hk₁₄ hp.objs.size _ (Nat.ne_of_gt hel) hT₁
  have hk₄ : ∀ b o, b ≠ e → b ≠ z → b ≠ TO → (∀ p ∈ ps, b ≠ p.1) → hp.get? b = some o → h₄.get? b = some o := fun b o c1 c2 c3 c4 y => hk₁₄ b o c1 (hk₁ b o c2 c3 c4 y)
  show wpAny _ _ (Builtin.SmallTypes.ownedTupleIsFree (.ref e) >>= _) _ _ ⟨h₄, g, d, tk + 1, os⟩
  rw [hsz]
  clear hh₄ he₃ hs₃ he₂ hs₂ he₁ hsz hk₁₄ S₁ hT₁ hz₁ hk₁ h₃ h₂ h₁
  refine wpAny_bind ?_
  · unfold Builtin.SmallTypes.ownedTupleIsFree
    refine wpAny_bind (wpAny_field he₄ rfl (x := .none) rfl (wpAny_pure ?_))
    simp only [if_true]
    refine wpAny_bind (wpAny_rule ?_)
    refine wpAny_bind (wpAny_field he₄ rfl (x := old) rfl ?_)
    refine wpAny_bind (wpAny_setField_rec he₄ (by simp) fun h₅ he₅ hs₅ => ?_)
    replace hs₅ : Heap.SameBut e h₄ h₅ := hs₅
    replace he₅ : IsEnum h₅ e z (c + 1) (.ref hp.objs.size) := he₅
    show wpAny _ _ (Builtin.SmallTypes.ownedTupleHandOut (.ref e) (.ref (hp.objs.size + 1)) >>= _) _ _ ⟨h₅, g, d, tk + 1, os⟩
    refine wpAny_bind ?_
    · unfold Builtin.SmallTypes.ownedTupleHandOut
      refine wpAny_bind (wpAny_setField_rec he₅ (by simp) fun h₆ he₆ hs₆ => ?_)
      replace hs₆ : Heap.SameBut e h₅ h₆ := hs₆
      replace he₆ : IsEnumOut h₆ e z (c + 1) (.ref hp.objs.size) (hp.objs.size + 1) := he₆
      refine wpAny_setField_rec he₆ (by simp) fun h₇ he₇ hs₇ => ?_
      replace hs₇ : Heap.SameBut e h₆ h₇ := hs₇
      replace he₇ : IsEnumOut h₇ e z (c + 1) (.ref hp.objs.size) (hp.objs.size + 1) := he₇
      have hk₇ : ∀ b o, b ≠ e → h₄.get? b = some o → h₇.get? b = some o := fun b o hbe y => hs₇.extBut b o hbe (hs₆.extBut b o hbe (hs₅.extBut b o hbe y))
      refine wpAny_bind (wpAny_letGo (wpAny_pure ⟨_, rfl, hQ h₇ tk he₇ ?_ ?_ ?_ ?_ ?_⟩))
      · exact S₄.keeps fun b hb o y => hk₇ b o (fun q => hef (q ▸ hb)) y
      · exact hk₇ _ _ (Nat.ne_of_gt hel) hT₄
      · exact hk₇ _ _ (by have : e < hp.objs.size := hel; exact Nat.ne_of_gt (Nat.lt_succ_of_lt this)) ht₄
      · rw [hs₇.1, hs₆.1, hs₅.1, hz₄]
      · exact fun b o c1 c2 c3 c4 hb => hk₇ b o c1 (hk₄ b o c1 c2 c3 c4 hb)
end

theorem meets_enum_newZ (z TI TO : Addr) (ps : List (Addr × Addr)) (k : Nat) : Meets (Builtin.«enumerate.__new__» ⟨[.type "enumerate", .ref z], []⟩) (fun _ R s => ZSt s.heap z TI TO ps k ∧
      R (.ok (.ret (.ref s.heap.objs.size))) { s with heap := s.heap.push { cls := .type "enumerate", data := .fields #[.none, .bool false, .ref z, rawInt 0, .none, .none] } }) :=
  .of_wp fun prog w A R s h => by
    obtain ⟨hp, g, d, tk, os⟩ := s
    obtain ⟨hS, h⟩ := h
    have hsub := sub_enumerate
    have hS' : ZSt (Shared.heap ⟨hp, g, d, tk, os⟩) z TI TO ps k := hS
    wp_walk
    refine wpAny_stack_any fun st => wpAny_pure ?_
    split
    · rename_i c _ _ _ _ _
      cases (c == Value.type "enumerate")
      · wp_walk using pyIter_zn hS'
        exact ⟨_, rfl, h⟩
      · wp_walk using pyIter_zn hS'
        exact ⟨_, rfl, h⟩
    · wp_walk using pyIter_zn hS'
      exact ⟨_, rfl, h⟩
section
variable {prog : Program} {w : World} {A : Around} {E : Value → Shared → Prop} {s : Shared}
theorem call_enumZ {z TI TO : Addr} {ps : List (Addr × Addr)} {k : Nat} {Q : Value → Shared → Prop} (hS : ZSt s.heap z TI TO ps k)
    (h : ∀ h', IsEnum h' s.heap.objs.size z 0 .none → (∀ b o, s.heap.get? b = some o → h'.get? b = some o) → Q (.ref s.heap.objs.size) { s with heap := h' }) :
    wpAny (model prog w) A (call (.type "enumerate") [.ref z]) Q E s := by
  refine callType_new F.called_enumerate (by decide) (F.typeCall_enumerate_1 _) (F.newCall_enumerate_1 _) (fun obj => F.args_object_init_2 obj _) F.entry_enumerate_new
    (meets_enum_newZ z TI TO ps k) ⟨hS, ?_⟩
  have he : IsEnum (s.heap.push { cls := .type "enumerate", data := .fields #[.none, .bool false, .ref z, rawInt 0, .none, .none] }) s.heap.objs.size z 0 .none := Heap.get?_push_size _ rfl
  exact ⟨⟨_, he, rfl⟩, h _ he fun b o x => Heap.get?_push_of_some _ x⟩
end

def ItEz (K : PySem.W.Frag) (ls : List Addr) (rows : List (List V)) (m : Nat) : It :=
  ⟨fun i H => i < m ∧ Rws K H ls rows m, fun i H v H' => ∃ T U, v = .ref U ∧ H T = none ∧ T ≠ U ∧ H U = none ∧ H' = upd (upd H T (.tup (colV rows i))) U (.tup [.int ((0 : Int) + (i : Nat)), .ref T]), fun i H => i = m ∧ Rws K H ls rows m⟩
theorem turn_ez {P : Program} {w : World} {K : PySem.W.Frag} {elts : List Expr} {kk : Nat} {tpos : Pos} {n m : Nat} {ls : List Addr} {rows : List (List V)} (h1 : 1 ≤ ls.length) (h2 : ls.length ≤ 4) (hlt : ∀ l ∈ ls, l < n) {e : Addr}
    (hef : e ∉ zfp (n + ls.length + 2) (n + ls.length) (n + ls.length + 1) (zps n ls)) :
    Turn P w K (.Tuple elts kk tpos) (ItEz K ls rows m) (e :: zfp (n + ls.length + 2) (n + ls.length) (n + ls.length + 1) (zps n ls)) e
      (fun i h => (∃ old, IsEnum h e (n + ls.length + 2) ((0 : Int) + (i : Nat)) old) ∧ ZSt h (n + ls.length + 2) (n + ls.length) (n + ls.length + 1) (zps n ls) i) where
  mem := List.mem_cons_self
  obj := fun i h S b hb => by
    obtain ⟨⟨old, he⟩, ⟨⟨f0, f1, hz, _⟩, hTI, ⟨arr, _, hTO⟩, hits⟩⟩ := S
    rcases List.mem_cons.mp hb with rfl | hb
    · exact ⟨_, he, fun v q => nomatch q⟩
    rcases List.mem_cons.mp hb with rfl | hb
    · exact ⟨_, hz, fun v q => nomatch q⟩
    rcases List.mem_cons.mp hb with rfl | hb
    · exact ⟨_, hTI, fun v q => nomatch q⟩
    rcases List.mem_cons.mp hb with rfl | hb
    · exact ⟨_, hTO, fun v q => nomatch q⟩
    obtain ⟨p, hp, rfl⟩ := List.mem_map.mp hb
    obtain ⟨o, e, _, d⟩ := hits p hp
    exact ⟨o, e, fun v q => by rw [d] at q; cases q⟩
  keep := fun i h h' S k => by
    obtain ⟨⟨old, he⟩, S⟩ := S
    exact ⟨⟨old, k e (by simp) _ he⟩, S.keeps fun b hb o y => k b (List.mem_cons_of_mem _ hb) o y⟩
  item := by
    intro X hP hw hK hc i pins s σ H E I hf S hg
    subst hP hw hK
    obtain ⟨⟨old, he⟩, S⟩ := S
    obtain ⟨hi, R⟩ := hg
    obtain ⟨us, hv, hx⟩ := R.vals I hi
    have hul : us.length = ls.length := by rw [← hv.length, R.len]; simp [colV]
    have D := zapart hlt
    have hT : s.TypeIs (.ref e) "enumerate" := ⟨_, he, rfl⟩
    have hfz : ∀ b ∈ e :: zfp (n + ls.length + 2) (n + ls.length) (n + ls.length + 1) (zps n ls), b < s.heap.objs.size := fun b hb => by
      rcases List.mem_cons.mp hb with rfl | hb
      · exact Heap.lt_size he
      obtain ⟨⟨f0, f1, hz, _⟩, hTI, ⟨arr, _, hTO⟩, hits⟩ := S
      rcases List.mem_cons.mp hb with rfl | hb
      · exact Heap.lt_size hz
      rcases List.mem_cons.mp hb with rfl | hb
      · exact Heap.lt_size hTI
      rcases List.mem_cons.mp hb with rfl | hb
      · exact Heap.lt_size hTO
      obtain ⟨p, hp, rfl⟩ := List.mem_map.mp hb
      obtain ⟨o, e, _⟩ := hits p hp
      exact Heap.lt_size e
    unfold pyNext
    refine wpAny_bind (wpAny_attempt (wpAny_callSpecial?_slot (name := Str.ofString "__next__") hT F.slot_enumerate_next
      (wpAny_call_entry F.slot_enumerate_next hT F.entry_enumerate_next
        (ez_next_item D (by rw [zps_length]; exact h1) (by rw [zps_length]; omega) he S (vs := us) (by rw [zps_length]; exact hul) (fun j p e => ?_) hef fun h' tk ho S' hTu hU hsz hk => wpAny_pure ?_) (F.args_enumerate_next_1 _))))
    · rw [zps_get] at e
      cases ea : ls[j]? with
      | none => rw [ea] at e; cases e
      | some a =>
        rw [ea] at e
        obtain rfl : (n + j, a) = p := Option.some.inj e
        exact hx j a ea
    · refine ⟨_, rfl, wpAny_letOwnedTupleGo_enum (s := { s with heap := h', toks := tk + 1 }) ho fun h'' he' sb => ?_⟩
      have hcl : (colV rows i).length ≤ sizeLine := by
        rw [hv.length, hul, sizeLine_eq]
        omega
      have hel : e < s.heap.objs.size := hfz e List.mem_cons_self
      have hk2 : ∀ b o, b ∉ e :: zfp (n + ls.length + 2) (n + ls.length) (n + ls.length + 1) (zps n ls) → s.heap.get? b = some o → h''.get? b = some o := fun b o hb q =>
        (sb.2 b (fun z => hb (by simp [z]))).trans (hk b o (fun z => hb (by simp [z])) (fun z => hb (by simp [z, zfp])) (fun z => hb (by simp [z, zfp])) (fun p hp z => hb (by
          refine List.mem_cons_of_mem _ (List.mem_cons_of_mem _ (List.mem_cons_of_mem _ (List.mem_cons_of_mem _ ?_)))
          rw [z]
          exact List.mem_map_of_mem hp)) q)
      have hTu2 : h''.get? s.heap.objs.size = some (tObj us.toArray) := (sb.2 _ (Nat.ne_of_gt hel)).trans hTu
      have hU2 : h''.get? (s.heap.objs.size + 1) = some { cls := .type "tuple", data := .seq #[.int ((0 : Int) + (i : Nat)) tk, .ref s.heap.objs.size] } := (sb.2 _ (Nat.ne_of_gt (Nat.lt_succ_of_lt hel))).trans hU
      have new1 : ObjOk X.prog X.w (upd H s.heap.objs.size (.tup (colV rows i))) (s.heap.push (tObj us.toArray)) s.heap.objs.size (.tup (colV rows i)) := ⟨hcl, us, hv, ⟨_, Heap.get?_push_size _ rfl, rfl, _, rfl⟩⟩
      have I1 : Inv X pins σ (upd H s.heap.objs.size (.tup (colV rows i))) { s with heap := s.heap.push (tObj us.toArray), toks := s.toks } :=
        I.laid (fun b o q => Heap.get?_push_of_some _ q) (Nat.le_refl _) new1
      have hz1 : (s.heap.push (tObj us.toArray)).objs.size = s.heap.objs.size + 1 := Heap.size_push ..
      have new2 : ObjOk X.prog X.w (upd (upd H s.heap.objs.size (.tup (colV rows i))) (s.heap.objs.size + 1) (.tup [.int ((0 : Int) + (i : Nat)), .ref s.heap.objs.size])) h'' (s.heap.objs.size + 1) (.tup [.int ((0 : Int) + (i : Nat)), .ref s.heap.objs.size]) :=
        ⟨by show 2 ≤ sizeLine; decide, [.int ((0 : Int) + (i : Nat)) tk, .ref s.heap.objs.size], .cons ⟨_, rfl⟩ (.cons rfl .nil), ⟨_, hU2, rfl, _, rfl⟩⟩
      have hf1 : ∀ b ∈ e :: zfp (n + ls.length + 2) (n + ls.length) (n + ls.length + 1) (zps n ls), FpOk X pins (upd H s.heap.objs.size (.tup (colV rows i))) b := fun b hb => by
        refine ⟨?_, (hf b hb).2⟩
        rw [upd_ne (Nat.ne_of_lt (hfz b hb))]
        exact (hf b hb).1
      have I2 : Inv X pins σ (upd (upd H s.heap.objs.size (.tup (colV rows i))) (s.heap.objs.size + 1) (.tup [.int ((0 : Int) + (i : Nat)), .ref s.heap.objs.size])) { s with heap := h'', toks := tk + 1 } := by
        refine I1.turnedNew (t' := tk + 1) (fun b o hb q => ?_) hf1 (Nat.le_of_eq hz1) new2
        rcases Heap.get?_push_cases q with ⟨hbN, ho2⟩ | q3
        · rw [hbN, ho2]
          exact hTu2
        · exact hk2 b o hb q3
      have hT0 : H s.heap.objs.size = none := I.hok.fresh (Nat.le_refl _)
      have hU0 : H (s.heap.objs.size + 1) = none := I.hok.fresh (Nat.le_succ _)
      have S2 : ZSt h'' (n + ls.length + 2) (n + ls.length) (n + ls.length + 1) (zps n ls) (i + 1) := S'.keeps fun b hb o y => (sb.2 b (fun z => hef (z ▸ hb))).trans y
      refine ⟨.ref (s.heap.objs.size + 1), _, I2, rfl, ⟨_, _, rfl, hT0, Nat.ne_of_lt (Nat.lt_succ_self _), hU0, rfl⟩, ⟨⟨.ref s.heap.objs.size, ?_⟩, S2⟩, fun b hb => ?_⟩
      · have e1 : (0 : Int) + ((i + 1 : Nat) : Int) = (0 : Int) + (i : Int) + 1 := by omega
        rw [e1]
        exact he'
      · have hb' := hfz b hb
        rw [upd_ne (Nat.ne_of_lt (Nat.lt_succ_of_lt hb')), upd_ne (Nat.ne_of_lt hb')]
        exact (hf b hb).1
  done := by
    intro X hP hw hK hc i pins s σ H E I hf S hg
    subst hP hw hK
    obtain ⟨⟨old, he⟩, S⟩ := S
    obtain ⟨rfl, R⟩ := hg
    have hT : s.TypeIs (.ref e) "enumerate" := ⟨_, he, rfl⟩
    cases hls : ls with
    | nil => rw [hls] at h1; simp at h1
    | cons a r =>
      cases hrw : rows with
      | nil => have := R.len; rw [hls, hrw] at this; simp at this
      | cons q rr =>
        obtain ⟨hq, hl⟩ := R.at_ 0 a q (by rw [hls]; rfl) (by rw [hrw]; rfl)
        obtain ⟨its, rv, ⟨o, ho, hc', n', hd⟩, _⟩ := I.tuple hq
        have hps : zps n ls = (n, a) :: (zps n ls).tail := by
          rw [hls]
          simp [zps]
        unfold pyNext
        refine wpAny_bind (wpAny_attempt (wpAny_callSpecial?_slot (name := Str.ofString "__next__") hT F.slot_enumerate_next
          (wpAny_call_entry F.slot_enumerate_next hT F.entry_enumerate_next ?_ (F.args_enumerate_next_1 _))))
        show wpAny _ _ (field (.ref e) 2 >>= _) _ _ _
        refine wpAny_bind (wpAny_field he rfl (x := .ref (n + ls.length + 2)) rfl ?_)
        refine wpAny_bind (nextOf_zn_end (I.ok.hd hc) (zapart hlt) S hps (xs := its.toArray) ⟨o, ho, hc', n', hd⟩ ?_ fun h' e' hk he' => ?_)
        · have := rv.length
          rw [List.getElem?_toArray, List.getElem?_eq_none (by omega)]
        · obtain ⟨o2, ho2, hc2⟩ := he'
          refine wpAny_bind (wpAny_isInstance (T := "StopIteration") (b := true) ⟨o2, ho2, hc2⟩ isSubtype_stop (wpAny_pure ⟨rfl, ?_⟩))
          exact I.turnedL (t' := s.toks) (fun c o hb q => hk c o (fun z => hb (by simp [z, zfp])) (fun z => hb (by simp [z, zfp])) (fun p hp z => hb (by
            refine List.mem_cons_of_mem _ (List.mem_cons_of_mem _ (List.mem_cons_of_mem _ (List.mem_cons_of_mem _ ?_)))
            rw [z]
            exact List.mem_map_of_mem hp)) q) hf
  self := fun A i s Q E S h => by
    obtain ⟨⟨_, he⟩, _⟩ := S
    exact wpAny_pyIter_enum he h

/-- for i, x in enumerate(zip(*e)), e a list or tuple of one to four tuples of one length -/
def iEnumZ (K : PySem.W.Frag) (te : TE) : TI := fun σ H R => te σ H fun y H1 => ∃ (a : Addr) (ls : List Addr) (rows : List (List V)) (m : Nat), y = .ref a ∧ (SqT K H1 a (ls.map V.ref) ∨ SqL K H1 a (ls.map V.ref)) ∧
  1 ≤ ls.length ∧ ls.length ≤ 4 ∧ Rws K H1 ls rows m ∧ R (ItEz K ls rows m) H1
theorem pi_enumZ {X : Cx} {e : Expr} {te : TE} {p p2 pos pos2 spos tpos : Pos} {elts : List Expr} {kk : Nat} (hge : Gl X "enumerate") (hme : X.mg "enumerate" = none) (hg : Gl X "zip") (hm : X.mg "zip" = none) (he : PE X e te)
    (hst : starEach [.Starred e spos] X.env = [(true, eval e X.env)] := by rfl)
    (hs : starEach [.Call (.Name "zip" p) [.Starred e spos] [] pos] X.env = [(false, eval (.Call (.Name "zip" p) [.Starred e spos] [] pos) X.env)] := by rfl) :
    PI X (.Tuple elts kk tpos) (.Call (.Name "enumerate" p2) [.Call (.Name "zip" p) [.Starred e spos] [] pos] [] pos2) (iEnumZ X.K te) := by
  refine ⟨fun pins s σ H R I h => Call_ (ld_blt I hge hme boot_enumerate (PyProof.Rows.callWith_type1 ?_ hs rfl))⟩
  rw [hs]
  refine Calls.spliced_cons ?_
  refine wpAny_Call_Name_kw (ld_blt I hg hm PyProof.Rows.boot_zip ?_)
  rw [hst]
  refine PySem.W.ks_call (P := fun _ => True) rfl (fun h _ => ⟨.machine, .inr (.inl rfl), fun A Q E s _ q => wpAny_pure q⟩) (PySem.W.ks_lone ?_)
  refine thn (he.run pins s σ H _ I h) fun v s1 ⟨y, H1, I1, ry, a, ls, rows, m, ey, hx, h1, h2, Rw, q⟩ => ?_
  subst ey
  obtain rfl : v = Value.ref a := ry
  refine StX.star_any I1 hx fun us s2 I2 rv => ⟨trivial, ?_⟩
  obtain rfl := vals_refs rv
  have tup : ∀ l ∈ ls, ∃ xs, s2.heap.IsTuple l xs := fun l hl => by
    obtain ⟨j, hj⟩ := List.mem_iff_getElem?.mp hl
    have hjl := (List.getElem?_eq_some_iff.mp hj).1
    have hjr : rows[j]? = some (rows[j]'(by have := Rw.len; omega)) := List.getElem?_eq_getElem (by have := Rw.len; omega)
    obtain ⟨its, _, ⟨o, ho, hc, n, hd⟩, _⟩ := I2.tuple (Rw.at_ j l _ hj hjr).1
    exact ⟨its.toArray, o, ho, hc, n, hd⟩
  refine call_zipN h1 h2 tup fun h' n en S hsz hk => ?_
  have I3 : Inv X pins σ H1 { s2 with heap := h' } := I2.kept (t' := s2.toks) hk
  have hlt : ∀ l ∈ ls, l < n := fun l hl => by
    obtain ⟨xs, o, ho, _⟩ := tup l hl
    rw [en]
    exact Heap.lt_size ho
  refine Calls.spliced_nil ?_
  refine call_enumZ (s := { s2 with heap := h' }) S fun h3 hE3 hk3 => wpAny_pyIter_enum hE3 ?_
  have I4 : Inv X pins σ H1 { s2 with heap := h3 } := I3.kept (t' := s2.toks) hk3
  have hef : h'.objs.size ∉ zfp (n + ls.length + 2) (n + ls.length) (n + ls.length + 1) (zps n ls) := fun hb => by
    rw [hsz] at hb
    rcases List.mem_cons.mp hb with hb | hb
    · omega
    rcases List.mem_cons.mp hb with hb | hb
    · omega
    rcases List.mem_cons.mp hb with hb | hb
    · omega
    obtain ⟨p, hp, e⟩ := List.mem_map.mp hb
    obtain ⟨j, hj, _, ep⟩ := zps_mem hp
    exact nat7 e ep hj
  have S3 : ZSt h3 (n + ls.length + 2) (n + ls.length) (n + ls.length + 1) (zps n ls) 0 := S.keeps fun b _ o y => hk3 b o y
  refine ⟨h'.objs.size, _, _, _, H1, rfl, I4, turn_ez h1 h2 hlt hef, ⟨⟨_, hE3⟩, S3⟩, fun b hb => ?_, q⟩
  have hle : s2.heap.objs.size ≤ b := by
    rw [← en]
    rcases List.mem_cons.mp hb with rfl | hb
    · omega
    rcases List.mem_cons.mp hb with rfl | hb
    · omega
    rcases List.mem_cons.mp hb with rfl | hb
    · omega
    rcases List.mem_cons.mp hb with rfl | hb
    · omega
    obtain ⟨p, hp, rfl⟩ := List.mem_map.mp hb
    obtain ⟨j, _, _, e⟩ := zps_mem hp
    exact Nat.le_trans (Nat.le_add_right n j) (Nat.le_of_eq e.symm)
  exact I2.fpOk hle (I2.hok.fresh hle)
theorem walk_ez {K : PySem.W.Frag} {ls : List Addr} {rows : List (List V)} {m : Nat} : Walk (ItEz K ls rows m) m (fun H => Rws K H ls rows m)
    (fun i H v H' => ∃ T U, v = .ref U ∧ H T = none ∧ T ≠ U ∧ H U = none ∧ H' = upd (upd H T (.tup (colV rows i))) U (.tup [.int ((0 : Int) + (i : Nat)), .ref T])) :=
  ⟨fun _ _ hi q => ⟨hi, q⟩, fun _ q => ⟨rfl, q⟩, fun _ _ _ _ _ _ y => y⟩
end DD
namespace DD
open PySem PySem.Spec PyProof.Rows L2 RZ
/-! ### zip() of nothing -/
theorem typeCall_zipM : ∀ vs : List Value, vs.length ≤ 4 → checkTypeCall "zip" ⟨vs, []⟩ = pure ()
  | [], _ => by kernel_rfl
  | a :: vs, h => typeCall_zipN (a :: vs) (Nat.succ_pos _) h
theorem newCall_zipM : ∀ vs : List Value, vs.length ≤ 4 → checkBuiltinCall "zip.__new__" ⟨.type "zip" :: vs, []⟩ = pure ()
  | [], _ => by kernel_rfl
  | a :: vs, h => newCall_zipN (a :: vs) (Nat.succ_pos _) h
theorem args_object_initM (o : Value) : ∀ vs : List Value, vs.length ≤ 4 → argsOk "object.__init__" ⟨o :: vs, []⟩
  | [], _ => by
    unfold argsOk
    rw [signature?_of (id := "object.__init__") (n := ['_', '_', 't', 'i', 'n', 'i', '_', '_']) (o := ['t', 'c', 'e', 'j', 'b', 'o']) (by kernel_rfl) F.owner_object]
    kernel_rfl
  | a :: vs, h => args_object_initN o (a :: vs) (Nat.succ_pos _) h
section
variable {prog : Program} {w : World} {A : Around} {E : Value → Shared → Prop} {s : Shared}
theorem zip_newM {ls : List Addr} {Q : Value → Shared → Prop} (h2 : ls.length ≤ 4) (hl : ∀ l ∈ ls, ∃ xs, s.heap.IsTuple l xs)
    (hQ : ∀ h' n, n = s.heap.objs.size → ZSt h' (n + ls.length + 2) (n + ls.length) (n + ls.length + 1) (ls.zipIdx.map fun x => (n + x.2, x.1)) 0 → h'.objs.size = n + ls.length + 3 →
      (∀ c o, s.heap.get? c = some o → h'.get? c = some o) → Q (.ref (n + ls.length + 2)) { s with heap := h' }) :
    wpAny (model prog w) A (Builtin.«zip.__new__» ⟨.type "zip" :: ls.map Value.ref, []⟩) (fun fin s' => ∃ v, fin = .done (.ret v) ∧ Q v s') E s := by
  have hsub := sub_zip
  have hc : wpAny (model prog w) A (Builtin.SmallTypes.newClass "zip" ⟨.type "zip" :: ls.map Value.ref, []⟩) (fun r s' => r = (.type "zip", ls.map Value.ref) ∧ s' = s) E s := by
    unfold Builtin.SmallTypes.newClass
    wp_walk
    exact ⟨rfl, rfl⟩
  unfold Builtin.«zip.__new__»
  refine wpAny_bind (thn hc ?_)
  rintro _ _s ⟨rfl, rfl⟩
  show wpAny _ _ (Builtin.SmallTypes.iterAll (ls.map Value.ref) >>= _) _ _ _
  refine wpAny_bind (iterAll_tups hl fun h1' its hil hi hsz hk hit => ?_)
  have hsl : its.length ≤ sizeLine := by rw [hil, sizeLine_eq]; omega
  refine wpAny_bind (wpAny_newTuple ?_ hsl)
  refine wpAny_bind (wpAny_newTuple ?_ (by rw [List.length_map]; exact hsl))
  refine wpAny_bind ?_
  unfold Builtin.SmallTypes.newRecord
  refine wpAny_newObj_type ?_ (show (5 : Nat) ≤ sizeLine + 2 by rw [sizeLine_eq]; omega)
  refine wpAny_pure ⟨_, rfl, ?_⟩
  have z1 : (h1'.push (tObj its.toArray)).objs.size = h1'.objs.size + 1 := Heap.size_push ..
  have z2 : ((h1'.push (tObj its.toArray)).push (tObj (its.map fun _ => Value.none).toArray)).objs.size = h1'.objs.size + 2 := by rw [Heap.size_push, z1]
  have fin : Q (.ref ((h1'.push (tObj its.toArray)).push (tObj (its.map fun _ => Value.none).toArray)).objs.size)
      { _s with heap := ((h1'.push (tObj its.toArray)).push (tObj (its.map fun _ => Value.none).toArray)).push (zObj .none (.bool false) h1'.objs.size (h1'.push (tObj its.toArray)).objs.size) } := by
    rw [z2, z1, hsz]
    refine hQ _ _ rfl ⟨⟨.none, .bool false, ?_, .inl rfl⟩, ?_, ⟨(its.map fun _ => Value.none).toArray, ?_, ?_⟩, fun p hp => ?_⟩ ?_ fun c o e => Heap.get?_push_of_some _ (Heap.get?_push_of_some _ (Heap.get?_push_of_some _ (hk c o e)))
    · rw [← hsz, ← z2]
      exact Heap.get?_push_size _ rfl
    · have e : its = (ls.zipIdx.map fun x => (_s.heap.objs.size + x.2, x.1)).map fun p => Value.ref p.1 := by
        refine List.ext_getElem? fun i => ?_
        rw [List.map_map, List.getElem?_map, List.getElem?_zipIdx]
        by_cases hlt : i < ls.length
        · rw [hi i hlt, List.getElem?_eq_getElem hlt]
          simp
        · rw [List.getElem?_eq_none (by omega), List.getElem?_eq_none (by omega)]
          rfl
      rw [← e, ← hsz]
      exact Heap.get?_push_of_some _ (Heap.get?_push_of_some _ (Heap.get?_push_size _ rfl))
    · simp [hil]
    · rw [← hsz, ← z1]
      exact Heap.get?_push_of_some _ (Heap.get?_push_size _ rfl)
    · obtain ⟨x, hx, rfl⟩ := List.mem_map.mp hp
      obtain ⟨i, hxi⟩ := List.mem_iff_getElem?.mp hx
      rw [List.getElem?_zipIdx] at hxi
      cases hl' : ls[i]? with
      | none =>
        rw [hl'] at hxi
        cases hxi
      | some l =>
        rw [hl'] at hxi
        obtain rfl : (l, 0 + i) = x := Option.some.inj hxi
        obtain ⟨o, e, c⟩ := hit i l hl'
        refine ⟨o, ?_, c⟩
        show Heap.get? _ (_s.heap.objs.size + (0 + i)) = some o
        rw [Nat.zero_add]
        exact Heap.get?_push_of_some _ (Heap.get?_push_of_some _ (Heap.get?_push_of_some _ e))
    · rw [Heap.size_push, z2, hsz]
  exact fin
end
section
variable {prog : Program} {w : World} {A : Around} {E : Value → Shared → Prop} {s : Shared}
theorem call_zipM {ls : List Addr} {Q : Value → Shared → Prop} (h2 : ls.length ≤ 4) (hl : ∀ l ∈ ls, ∃ xs, s.heap.IsTuple l xs)
    (hQ : ∀ h' n, n = s.heap.objs.size → ZSt h' (n + ls.length + 2) (n + ls.length) (n + ls.length + 1) (zps n ls) 0 → h'.objs.size = n + ls.length + 3 →
      (∀ c o, s.heap.get? c = some o → h'.get? c = some o) → Q (.ref (n + ls.length + 2)) { s with heap := h' }) :
    wpAny (model prog w) A (call (.type "zip") (ls.map Value.ref)) Q E s := by
  have m : Meets (Builtin.«zip.__new__» ⟨.type "zip" :: ls.map Value.ref, []⟩) (fun _ R s => (∀ l ∈ ls, ∃ xs, s.heap.IsTuple l xs) ∧
      ∀ h' n, n = s.heap.objs.size → ZSt h' (n + ls.length + 2) (n + ls.length) (n + ls.length + 1) (zps n ls) 0 → h'.objs.size = n + ls.length + 3 →
        (∀ c o, s.heap.get? c = some o → h'.get? c = some o) → R (.ok (.ret (.ref (n + ls.length + 2)))) { s with heap := h' }) :=
    .of_wp fun prog w A R s h => zip_newM h2 h.1 h.2
  refine callType_new F.called_zip (by decide) (typeCall_zipM _ (by simpa using h2)) (newCall_zipM _ (by simpa using h2))
    (fun obj => args_object_initM obj _ (by simpa using h2)) F.entry_zip_new m ⟨hl, fun h' n e1 e2 e3 e4 => ?_⟩
  obtain ⟨f0, f1, hz, _⟩ := e2.zz
  exact ⟨⟨_, hz, rfl⟩, hQ h' n e1 e2 e3 e4⟩

theorem zn_end0 {z TI TO : Addr} {k : Nat} {Q : Fin → Shared → Prop} (hh : A.handled = none) (S : ZSt s.heap z TI TO [] k)
    (hE : ∀ h' e, (∀ c o, s.heap.get? c = some o → h'.get? c = some o) → (∃ o, h'.get? e = some o ∧ o.cls = .type "StopIteration") → E (.ref e) { s with heap := h' }) :
    wpAny (model prog w) A (Builtin.«zip.__next__» ⟨[.ref z], []⟩) Q E s := by
  obtain ⟨⟨f0, f1, hz, hf0⟩, hTI, ⟨arr, ha, hTO⟩, hits⟩ := S
  show wpAny _ _ (field (.ref z) 2 >>= _) _ _ _
  refine wpAny_bind (wpAny_field hz rfl (x := .bool false) rfl ?_)
  show wpAny _ _ (field (.ref z) 3 >>= _) _ _ _
  refine wpAny_bind (wpAny_field hz rfl (x := .ref TI) rfl ?_)
  refine wpAny_bind (wpAny_seqItems hTI rfl ?_)
  have hne : (([] : List (Addr × Addr)).map fun p => Value.ref p.1).toArray.isEmpty = true := rfl
  simp only [hne, if_true]
  refine wpAny_bind (wpAny_rule ?_)
  refine wpAny_bind ?_
  unfold Builtin.SmallTypes.stopIteration
  show wpAny _ _ (newExc (.type "StopIteration") [] >>= _) _ _ _
  refine wpAny_bind ?_
  simp only [newExc, newTuple]
  refine wpAny_bind (wpAny_newObj_type ?_ (by size_fits))
  refine wpAny_bind (m := firstArgMember _ _) (wpAny_of_eq (a := Value.none) (by first | rfl | (simp only [firstArgMember]; rfl)) ?_)
  refine wpAny_newObj_type ?_ (by size_fits)
  simp only [raiseNew]
  refine wpAny_bind (wpAny_handled ?_)
  first | rw [show A.in1.handled = none from hh] | rw [hh]
  refine wpAny_bind (wpAny_pure (wpAny_throw ?_))
  exact hE _ _ (fun c o e => Heap.get?_push_of_some _ (Heap.get?_push_of_some _ e)) ⟨_, Heap.get?_push_size _ rfl, rfl⟩
theorem pyNext_zn_end0 {z TI TO : Addr} {k : Nat} {Q : Option Value → Shared → Prop} (hh : A.handled = none) (S : ZSt s.heap z TI TO [] k)
    (hQ : ∀ h', (∀ c o, s.heap.get? c = some o → h'.get? c = some o) → Q none { s with heap := h' }) :
    wpAny (model prog w) A (pyNext (.ref z)) Q E s := by
  obtain ⟨f0, f1, hz, hf0⟩ := S.zz
  have hT : s.TypeIs (.ref z) "zip" := ⟨_, hz, rfl⟩
  unfold pyNext
  refine wpAny_bind (wpAny_attempt (wpAny_callSpecial?_slot (name := Str.ofString "__next__") hT F.slot_zip_next
    (wpAny_call_entry F.slot_zip_next hT F.entry_zip_next (zn_end0 hh S fun h' e hk he => ?_) (F.args_zip_next_1 _))))
  obtain ⟨o, ho, hc⟩ := he
  exact wpAny_bind (wpAny_isInstance (T := "StopIteration") (b := true) ⟨o, ho, hc⟩ isSubtype_stop (wpAny_pure (hQ _ hk)))
end
theorem turn_z0 {P : Program} {w : World} {K : PySem.W.Frag} {x : Str} {xp : Pos} {n : Nat} :
    Turn P w K (.Name x xp) (ItzN K [] [] 0) [n + 2, n, n + 1] (n + 2) (fun i h => ZSt h (n + 2) n (n + 1) [] i) where
  mem := List.mem_cons_self
  obj := fun i h S b hb => by
    obtain ⟨⟨f0, f1, hz, _⟩, hTI, ⟨arr, _, hTO⟩, hits⟩ := S
    rcases List.mem_cons.mp hb with rfl | hb
    · exact ⟨_, hz, fun v q => nomatch q⟩
    rcases List.mem_cons.mp hb with rfl | hb
    · exact ⟨_, hTI, fun v q => nomatch q⟩
    rcases List.mem_cons.mp hb with rfl | hb
    · exact ⟨_, hTO, fun v q => nomatch q⟩
    · cases hb
  keep := fun i h h' S k => S.keeps fun b hb o y => k b (by simpa [zfp] using hb) o y
  item := by
    intro X hP hw hK hc i pins s σ H E I hf S hg
    exact absurd hg.1 (Nat.not_lt_zero _)
  done := by
    intro X hP hw hK hc i pins s σ H E I hf S hg
    subst hP hw hK
    exact pyNext_zn_end0 (I.ok.hd hc) S fun h' hk => ⟨rfl, I.kept (t' := s.toks) hk⟩
  self := fun A i s Q E S h => pyIter_zn S h
/-- for x in zip(*e), e a list or tuple of at most four tuples of one length -/
def iZipO (K : PySem.W.Frag) (te : TE) : TI := fun σ H R => te σ H fun y H1 => ∃ (a : Addr) (ls : List Addr) (rows : List (List V)) (m : Nat), y = .ref a ∧ (SqT K H1 a (ls.map V.ref) ∨ SqL K H1 a (ls.map V.ref)) ∧
  ls.length ≤ 4 ∧ (ls = [] → m = 0) ∧ Rws K H1 ls rows m ∧ R (ItzN K ls rows m) H1
theorem pi_zipO {X : Cx} {e : Expr} {te : TE} {p pos spos xp : Pos} {x : Str} (hg : Gl X "zip") (hm : X.mg "zip" = none) (he : PE X e te)
    (hst : starEach [.Starred e spos] X.env = [(true, eval e X.env)] := by rfl) :
    PI X (.Name x xp) (.Call (.Name "zip" p) [.Starred e spos] [] pos) (iZipO X.K te) := by
  refine ⟨fun pins s σ H R I h => ?_⟩
  refine wpAny_Call_Name_kw (ld_blt I hg hm PyProof.Rows.boot_zip ?_)
  rw [hst]
  refine PySem.W.ks_call (P := fun _ => True) rfl (fun h _ => ⟨.machine, .inr (.inl rfl), fun A Q E s _ q => wpAny_pure q⟩) (PySem.W.ks_lone ?_)
  refine thn (he.run pins s σ H _ I h) fun v s1 ⟨y, H1, I1, ry, a, ls, rows, m, ey, hx, h2, hm0, Rw, q⟩ => ?_
  subst ey
  obtain rfl : v = Value.ref a := ry
  refine StX.star_any I1 hx fun us s2 I2 rv => ⟨trivial, ?_⟩
  obtain rfl := vals_refs rv
  have tup : ∀ l ∈ ls, ∃ xs, s2.heap.IsTuple l xs := fun l hl => by
    obtain ⟨j, hj⟩ := List.mem_iff_getElem?.mp hl
    have hjl := (List.getElem?_eq_some_iff.mp hj).1
    have hjr : rows[j]? = some (rows[j]'(by have := Rw.len; omega)) := List.getElem?_eq_getElem (by have := Rw.len; omega)
    obtain ⟨its, _, ⟨o, ho, hc, n, hd⟩, _⟩ := I2.tuple (Rw.at_ j l _ hj hjr).1
    exact ⟨its.toArray, o, ho, hc, n, hd⟩
  refine call_zipM h2 tup fun h' n en S hsz hk => ?_
  have I3 : Inv X pins σ H1 { s2 with heap := h' } := I2.kept (t' := s2.toks) hk
  have hlt : ∀ l ∈ ls, l < n := fun l hl => by
    obtain ⟨xs, o, ho, _⟩ := tup l hl
    rw [en]
    exact Heap.lt_size ho
  cases ls with
  | nil =>
    obtain rfl := hm0 rfl
    obtain rfl : rows = [] := List.eq_nil_of_length_eq_zero Rw.len.symm
    refine pyIter_zn (s := { s2 with heap := h' }) S ⟨n + 2, _, _, _, H1, rfl, I3, turn_z0, S, fun b hb => ?_, q⟩
    have hle : s2.heap.objs.size ≤ b := by
      rw [← en]
      rcases List.mem_cons.mp hb with rfl | hb
      · omega
      rcases List.mem_cons.mp hb with rfl | hb
      · omega
      rcases List.mem_cons.mp hb with rfl | hb
      · omega
      · cases hb
    exact I2.fpOk hle (I2.hok.fresh hle)
  | cons l0 ls =>
    refine pyIter_zn (s := { s2 with heap := h' }) S ⟨n + (l0 :: ls).length + 2, _, _, _, H1, rfl, I3, turn_zn (Nat.succ_pos _) h2 hlt, S, fun b hb => ?_, q⟩
    have hle : s2.heap.objs.size ≤ b := by
      rw [← en]
      rcases List.mem_cons.mp hb with rfl | hb
      · omega
      rcases List.mem_cons.mp hb with rfl | hb
      · omega
      rcases List.mem_cons.mp hb with rfl | hb
      · omega
      obtain ⟨p, hp, rfl⟩ := List.mem_map.mp hb
      obtain ⟨j, _, _, e⟩ := zps_mem hp
      exact Nat.le_trans (Nat.le_add_right n j) (Nat.le_of_eq e.symm)
    exact I2.fpOk hle (I2.hok.fresh hle)
theorem walk_zn {K : PySem.W.Frag} {ls : List Addr} {rows : List (List V)} {m : Nat} : Walk (ItzN K ls rows m) m (fun H => Rws K H ls rows m) (fun i H v H' => ∃ T, v = .ref T ∧ H T = none ∧ H' = upd H T (.tup (colV rows i))) :=
  ⟨fun _ _ hi q => ⟨hi, q⟩, fun _ q => ⟨rfl, q⟩, fun _ _ _ _ _ _ y => y⟩
/-- zip of two tuples, the first no longer than the second -/
theorem walk_zipT {K : PySem.W.Frag} {a b : Addr} {xs ys : List V} (hl : xs.length ≤ ys.length) : Walk (ItzT K a b) xs.length (fun H => SqT K H a xs ∧ SqT K H b ys) (YPair (fun i => xs[i]?) (fun i => ys[i]?)) := by
  refine ⟨fun i H hi q => ⟨xs, ys, xs[i], ys[i]'(by omega), q.1, q.2, by simp [hi], List.getElem?_eq_getElem (by omega)⟩, fun H q => ⟨xs, ys, q.1, q.2, .inl (Nat.le_refl _)⟩, fun i H v H' _ q y => ?_⟩
  obtain ⟨T, x', y', rfl, hT, rfl, f1, f2⟩ := y
  exact ⟨T, x', y', rfl, hT, rfl, f1 xs q.1, f2 ys q.2⟩
end DD
/-! zip of up to four tuples and lists -/
namespace DM
open PySem PySem.Spec PyProof.Rows L2 DD
/-- an iterator of a tuple (b) or of a list -/
def IsIt (b : Bool) (h : Heap) (i l : Addr) (k : Nat) : Prop := ∃ o, h.get? i = some o ∧ o.cls = .type (if b then "tuple_iterator" else "list_iterator") ∧ o.data = .fields #[.ref l, .int k 0]
def IsSq (b : Bool) (h : Heap) (l : Addr) (xs : Array Value) : Prop := ∃ o, h.get? l = some o ∧ o.cls = .type (if b then "tuple" else "list") ∧ ∃ n, o.data = .seq xs n
section
variable {prog : Program} {w : World} {A : Around} {E : Value → Shared → Prop} {s : Shared}
theorem nextOf_cur {b : Bool} {it l : Addr} {i : Nat} {items} {x : Value} {Q : Value → Shared → Prop} (hit : IsIt b s.heap it l i)
    (hl : IsSq b s.heap l items) (hx : items[i]? = some x)
    (hQ : ∀ h', IsIt b h' it l (i + 1) → Heap.SameBut it s.heap h' → Q x { s with heap := h' }) :
    wpAny (model prog w) A (Builtin.SmallTypes.nextOf (.ref it)) Q E s := by
  cases b with
  | true => exact RZ.nextOf_tuple_item hit hl hx hQ
  | false => exact wpAny_nextOf_list_item hit hl hx hQ
theorem nextOf_curE {b : Bool} {it l : Addr} {i : Nat} {items} {Q : Value → Shared → Prop} (hh : A.handled = none)
    (hit : IsIt b s.heap it l i) (hl : IsSq b s.heap l items) (hx : items[i]? = none)
    (hE : ∀ h' e, Heap.ExtBut it s.heap h' → (∃ o, h'.get? e = some o ∧ o.cls = .type "StopIteration") → E (.ref e) { s with heap := h' }) :
    wpAny (model prog w) A (Builtin.SmallTypes.nextOf (.ref it)) Q E s := by
  cases b with
  | true => exact RZ.nextOf_tuple_end hh hit hl hx hE
  | false => exact wpAny_nextOf_list_end hh hit hl hx hE
theorem pyIter_cur {b : Bool} {l : Addr} {items} {Q : Value → Shared → Prop} (hl : IsSq b s.heap l items)
    (hQ : Q (.ref s.heap.objs.size) { s with heap := s.heap.push { cls := .type (if b then "tuple_iterator" else "list_iterator"), data := .fields #[.ref l, .int 0 0] } }) :
    wpAny (model prog w) A (pyIter (.ref l)) Q E s := by
  cases b with
  | true => exact wpAny_pyIter_tuple hl hQ
  | false => exact wpAny_pyIter_list hl hQ
theorem letGo_any {elts : List Expr} {x1} {pos : Pos} {z TI TO T : Addr} {f0 f1 : Value} {Q : Unit → Shared → Prop} (hz : s.heap.get? z = some (zObj f0 f1 TI TO)) (hf : f0 = .none ∨ ∃ a t, f0 = .int a t)
    (hQ : ∀ h' g0, (g0 = .none ∨ ∃ a t, g0 = .int a t) → h'.get? z = some (zObj g0 f1 TI TO) → Heap.SameBut z s.heap h' → Q () { s with heap := h' }) :
    wpAny (model prog w) A (letOwnedTupleGo (.Tuple elts x1 pos) (.ref z) (.ref T)) Q E s := by
  unfold letOwnedTupleGo
  refine wpAny_bind (wpAny_load hz ?_)
  show wpAny _ _ (if (["enumerate", "zip", "dict_itemiterator", "dict_reverseitemiterator", "odict_iterator", "itertools.zip_longest", "itertools.pairwise"].contains "zip" &&
      (#[f0, f1, .bool false, .ref TI, .ref TO] : Array Value)[0]? == some (rawInt T)) = true then _ else _) Q E s
  split
  · refine wpAny_bind (wpAny_rule ?_)
    show wpAny _ _ (setField (.ref z) 0 .none) Q E s
    exact wpAny_setField_rec hz (by simp) fun h' hz' hs' => hQ h' .none (.inl rfl) hz' hs'
  · exact wpAny_pure (hQ s.heap f0 hf hz (Heap.SameBut.refl _ _))
end
structure ZSt (kd : Addr → Bool) (h : Heap) (z TI TO : Addr) (ps : List (Addr × Addr)) (k : Nat) : Prop where
  zz : ∃ f0 f1, h.get? z = some (zObj f0 f1 TI TO) ∧ (f0 = .none ∨ ∃ a t, f0 = .int a t)
  ti : h.get? TI = some (tObj (ps.map fun p => Value.ref p.1).toArray)
  to : ∃ arr : Array Value, arr.size = ps.length ∧ h.get? TO = some (tObj arr)
  its : ∀ p ∈ ps, IsIt (kd p.2) h p.1 p.2 k


/-- the objects but z, TO and the iterators stand; the first j iterators have turned -/
structure ZMid (kd : Addr → Bool) (g h : Heap) (z TO : Addr) (ps : List (Addr × Addr)) (k j : Nat) : Prop where
  size : h.objs.size = g.objs.size
  keep : ∀ c o, c ≠ z → c ≠ TO → (∀ p ∈ ps, c ≠ p.1) → g.get? c = some o → h.get? c = some o
  its : ∀ (i : Nat) (p : Addr × Addr), ps[i]? = some p → IsIt (kd p.2) h p.1 p.2 (if i < j then k + 1 else k)

section
variable {prog : Program} {w : World} {A : Around} {E : Value → Shared → Prop} {s : Shared} {z TI TO : Addr} {ps : List (Addr × Addr)} {k : Nat} {kd : Addr → Bool}
/-- one iterator's turn -/
theorem draw_one {g h : Heap} {j : Nat} {p : Addr × Addr} {xs : Array Value} {v : Value} {Q : Value → Shared → Prop} (D : ZApart z TI TO ps) (m : ZMid kd g h z TO ps k j)
    (hp : ps[j]? = some p) (hl : IsSq (kd p.2) g p.2 xs) (hx : xs[k]? = some v)
    (hQ : ∀ h', ZMid kd g h' z TO ps k (j + 1) → Heap.SameBut p.1 h h' → Q v { s with heap := h' }) :
    wpAny (model prog w) A (Builtin.SmallTypes.nextOf (.ref p.1)) Q E { s with heap := h } := by
  have hm : p ∈ ps := List.mem_of_getElem? hp
  have h1 : IsIt (kd p.2) h p.1 p.2 k := by
    have := m.its j p hp
    rwa [if_neg (Nat.lt_irrefl j)] at this
  have h2 : IsSq (kd p.2) h p.2 xs := by
    obtain ⟨o, e, c⟩ := hl
    exact ⟨o, m.keep _ _ (D.pz p hm).2.2.2.1 (D.pz p hm).2.2.2.2 (fun q hq => D.px p hm q hq) e, c⟩
  refine nextOf_cur (s := { s with heap := h }) h1 h2 hx fun h' hi hs => hQ h' ⟨hs.1.trans m.size, fun c o c1 c2 c3 e => ?_, fun i q hq => ?_⟩ hs
  · rw [hs.2 c (c3 p hm)]
    exact m.keep c o c1 c2 c3 e
  · by_cases hij : i = j
    · subst hij
      rw [hp] at hq
      cases hq
      rw [if_pos (Nat.lt_succ_self _)]
      exact hi
    · have hqi := m.its i q hq
      have hne := ptr_ne D.nd hq hp hij
      rw [show (if i < j + 1 then k + 1 else k) = (if i < j then k + 1 else k) by
        by_cases hlt : i < j
        · rw [if_pos hlt, if_pos (by omega)]
        · rw [if_neg hlt, if_neg (by omega)]]
      obtain ⟨o, e, c⟩ := hqi
      exact ⟨o, (hs.2 _ hne).trans e, c⟩
theorem ZMid.full {g h : Heap} (m : ZMid kd g h z TO ps k ps.length) : ∀ p ∈ ps, IsIt (kd p.2) h p.1 p.2 (k + 1) := fun p hp => by
  obtain ⟨i, hi⟩ := List.mem_iff_getElem?.mp hp
  obtain ⟨hl, _⟩ := List.getElem?_eq_some_iff.mp hi
  have := m.its i p hi
  rwa [if_pos hl] at this

theorem zn_item {vs : List Value} {Q : Value → Shared → Prop} (D : ZApart z TI TO ps) (hn : 1 ≤ ps.length) (hn2 : ps.length ≤ 1000) (S : ZSt kd s.heap z TI TO ps k)
    (hv : vs.length = ps.length) (hi : ∀ (j : Nat) (p : Addr × Addr), ps[j]? = some p → ∃ xs, IsSq (kd p.2) s.heap p.2 xs ∧ xs[k]? = vs[j]?)
    (hQ : ∀ h', ZSt kd h' z TI TO ps (k + 1) → h'.get? s.heap.objs.size = some (tObj vs.toArray) → h'.objs.size = s.heap.objs.size + 1 →
      (∀ c o, c ≠ z → c ≠ TO → (∀ p ∈ ps, c ≠ p.1) → s.heap.get? c = some o → h'.get? c = some o) → Q (.ref s.heap.objs.size) { s with heap := h' }) :
    wpAny (model prog w) A (Builtin.«zip.__next__» ⟨[.ref z], []⟩) (fun fin s' => ∃ v, fin = .done (.ret v) ∧ Q v s') E s := by
  obtain ⟨⟨f0, f1, hz, hf0⟩, hTI, ⟨arr, ha, hTO⟩, hits⟩ := S
  show wpAny _ _ (field (.ref z) 2 >>= _) _ _ _
  refine wpAny_bind (wpAny_field hz rfl (x := .bool false) rfl ?_)
  show wpAny _ _ (field (.ref z) 3 >>= _) _ _ _
  refine wpAny_bind (wpAny_field hz rfl (x := .ref TI) rfl ?_)
  refine wpAny_bind (wpAny_seqItems hTI rfl ?_)
  have hne : (ps.map fun p => Value.ref p.1).toArray.isEmpty = false := by
    cases ps with
    | nil => simp at hn
    | cons p r => rfl
  simp only [hne, Bool.false_eq_true, if_false]
  have m0 : ∀ h, Heap.SameBut z s.heap h → ZMid kd s.heap h z TO ps k 0 := fun h hs =>
    ⟨hs.1, fun c o c1 _ _ e => (hs.2 c c1).trans e, fun i p hp => by
      rw [if_neg (Nat.not_lt_zero _)]
      have hm := List.mem_of_getElem? hp
      obtain ⟨o, e, c⟩ := hits p hm
      exact ⟨o, (hs.2 _ (D.pz p hm).1).trans e, c⟩⟩
  refine wpAny_bind (wpAny_mono (free_or hz hf0) (fun b s' hb => ?_) fun _ _ e => e)
  rcases hb with ⟨rfl, rfl⟩ | ⟨rfl, h1, f2, rfl, hz1, hs1⟩
  · simp only [if_true]
    refine wpAny_bind (wpAny_rule ?_)
    refine wpAny_bind (wpAny_field hz rfl (x := .ref TO) rfl ?_)
    refine wpAny_bind (wpAny_setField_rec hz (by simp) fun h1 hz1 hs1 => ?_)
    replace hz1 : h1.get? z = some (zObj .ellipsis f1 TI TO) := hz1
    have nTI : ∀ p ∈ ps, TI ≠ p.1 := fun p hp q => (D.pz p hp).2.1 q.symm
    refine wpAny_bind (thn (wp_forIn _ _ (fun j b s2 => b = (none, ()) ∧ ∃ (h : Heap) (a2 : Array Value), s2 = { s' with heap := h } ∧ ZMid kd s'.heap h z TO ps k j ∧
      h.get? z = some (zObj .ellipsis f1 TI TO) ∧ a2.size = ps.length ∧ (∀ i, i < j → a2[i]? = vs[i]?) ∧ h.get? TO = some (tObj a2)) ?step _ _ ?init) fun b s2 hb => ?last)
    case init => exact ⟨rfl, h1, arr, rfl, m0 h1 hs1, hz1, ha, fun i hi => absurd hi (Nat.not_lt_zero _), (hs1.2 _ D.oz).trans hTO⟩
    case step =>
      rintro j x b s2 hx ⟨rfl, h, a2, rfl, m, hz2, hs2, pre, hTO2⟩
      rw [List.getElem?_zipIdx, List.getElem?_map] at hx
      cases hp : ps[j]? with
      | none =>
        rw [hp] at hx
        cases hx
      | some p =>
        rw [hp] at hx
        obtain rfl : (Value.ref p.1, 0 + j) = x := Option.some.inj hx
        obtain ⟨xs, hl, hxk⟩ := hi j p hp
        have hm : p ∈ ps := List.mem_of_getElem? hp
        have hj : j < ps.length := (List.getElem?_eq_some_iff.mp hp).1
        have hjv : vs[j]? = some (vs[j]'(by omega)) := List.getElem?_eq_getElem (by omega)
        refine wpAny_bind (wpAny_onRaise ?_)
        show wpAny _ _ (Builtin.SmallTypes.nextOf (.ref p.1) >>= _) _ _ _
        refine wpAny_bind (draw_one D m hp hl (hxk.trans hjv) fun h' m' hs' => wpAny_pure ?_)
        have hTO' : h'.get? TO = some (tObj a2) := (hs'.2 _ (D.pz p hm).2.2.1.symm).trans hTO2
        refine wpAny_bind (wpAny_seqItems hTO' rfl ?_)
        have hb1 : a2.size ≤ sizeLine := by rw [hs2, sizeLine_eq]; omega
        refine wpAny_bind (wpAny_updateSeq hTO' rfl ?_ hb1 (by rw [Array.size_setIfInBounds, hs2, sizeLine_eq]; omega))
        have sb := Heap.SameBut.update h' TO (Obj.mapSeq fun x => x.setIfInBounds (0 + j) (vs[j]'(by omega)))
        refine wpAny_bind (wpAny_letGo (wpAny_pure ⟨_, rfl, rfl, _, a2.setIfInBounds j (vs[j]'(by omega)), rfl, ⟨sb.1.trans m'.size, fun c o c1 c2 c3 e => (sb.2 c c2).trans (m'.keep c o c1 c2 c3 e), fun i q hq => ?_⟩, ?_, ?_, fun i hij => ?_, ?_⟩))
        · obtain ⟨o, e, c⟩ := m'.its i q hq
          exact ⟨o, (sb.2 _ (D.pz q (List.mem_of_getElem? hq)).2.2.1).trans e, c⟩
        · rw [sb.2 z D.oz.symm, hs'.2 z (D.pz p hm).1.symm]
          exact hz2
        · rw [Array.size_setIfInBounds]
          exact hs2
        · rw [Array.getElem?_setIfInBounds]
          by_cases e : j = i
          · subst e
            rw [if_pos rfl, if_pos (by omega)]
            exact hjv.symm
          · rw [if_neg e]
            exact pre i (by omega)
        · rw [Heap.get?_update_self _ hTO' rfl, Nat.zero_add]
          simp [Obj.mapSeq]
    case last =>
      obtain ⟨rfl, h, a2, rfl, m, hz2, hs2, pre, hTO2⟩ := hb
      rw [List.length_zipIdx, List.length_map] at m pre
      have ea : a2 = vs.toArray := by
        refine Array.ext_getElem? fun i => ?_
        by_cases hlt : i < ps.length
        · rw [pre i hlt, List.getElem?_toArray]
        · rw [Array.getElem?_eq_none (by omega), List.getElem?_toArray, List.getElem?_eq_none (by omega)]
      subst ea
      show wpAny _ _ (seqItems? (.ref TO) >>= _) _ _ _
      refine wpAny_bind (wpAny_seqItems hTO2 rfl ?_)
      refine wpAny_bind (wpAny_newTuple ?_ (by show vs.length ≤ _; rw [sizeLine_eq]; omega))
      show wpAny _ _ (Builtin.SmallTypes.ownedTupleHandOut (.ref z) (.ref h.objs.size) >>= _) _ _ _
      refine wpAny_bind ?_
      unfold Builtin.SmallTypes.ownedTupleHandOut
      have hzp : (h.push (tObj vs.toArray)).get? z = some (zObj .ellipsis f1 TI TO) := Heap.get?_push_of_some _ hz2
      refine wpAny_bind (wpAny_setField_rec hzp (by simp) fun h3 hz3 hs3 => ?_)
      replace hz3 : h3.get? z = some (zObj (rawInt h.objs.size) f1 TI TO) := hz3
      refine wpAny_setField_rec hz3 (by simp) fun h4 hz4 hs4 => ?_
      replace hz4 : h4.get? z = some (zObj (rawInt h.objs.size) (.bool false) TI TO) := hz4
      have hzlt : z < h.objs.size := Heap.lt_size hz2
      have up : ∀ c o, c ≠ z → h.get? c = some o → h4.get? c = some o := fun c o c1 e =>
        (hs4.2 c c1).trans ((hs3.2 c c1).trans (Heap.get?_push_of_some _ e))
      refine wpAny_pure ⟨_, rfl, ?_⟩
      show Q (.ref h.objs.size) _
      have key := hQ h4 ⟨⟨_, _, hz4, .inr ⟨_, _, rfl⟩⟩, up _ _ D.tz (m.keep TI _ D.tz D.it nTI hTI), ⟨_, hs2, up _ _ D.oz hTO2⟩, fun p hp => ?_⟩ ?_ ?_ fun c o c1 c2 c3 e => up c o c1 (m.keep c o c1 c2 c3 e)
      · rw [m.size]
        exact key
      · obtain ⟨o, e, c⟩ := m.full p hp
        exact ⟨o, up _ _ (D.pz p hp).1 e, c⟩
      · rw [← m.size, hs4.2 _ (Nat.ne_of_gt hzlt), hs3.2 _ (Nat.ne_of_gt hzlt)]
        exact Heap.get?_push_size _ rfl
      · rw [hs4.1, hs3.1, Heap.size_push, m.size]
  · simp only [Bool.false_eq_true, if_false, List.forIn_toArray]
    have nTI : ∀ p ∈ ps, TI ≠ p.1 := fun p hp q => (D.pz p hp).2.1 q.symm
    refine wpAny_bind (thn (wp_forIn _ _ (fun j b s2 => b = (none, (vs.take j).toArray) ∧ ∃ (h : Heap), s2 = { s with heap := h } ∧ ZMid kd s.heap h z TO ps k j ∧
      h.get? z = some (zObj f0 f2 TI TO) ∧ h.get? TO = some (tObj arr)) ?step _ _ ?init) fun b s2 hb => ?last)
    case init => exact ⟨rfl, h1, rfl, m0 h1 hs1, hz1, (hs1.2 _ D.oz).trans hTO⟩
    case step =>
      rintro j x b s2 hx ⟨rfl, h, rfl, m, hz2, hTO2⟩
      rw [List.getElem?_map] at hx
      cases hp : ps[j]? with
      | none =>
        rw [hp] at hx
        cases hx
      | some p =>
        rw [hp] at hx
        obtain rfl : Value.ref p.1 = x := Option.some.inj hx
        obtain ⟨xs, hl, hxk⟩ := hi j p hp
        have hm : p ∈ ps := List.mem_of_getElem? hp
        have hj : j < ps.length := (List.getElem?_eq_some_iff.mp hp).1
        have hjv : vs[j]? = some (vs[j]'(by omega)) := List.getElem?_eq_getElem (by omega)
        refine wpAny_bind (wpAny_holding ?_)
        show wpAny _ _ (Builtin.SmallTypes.nextOf (.ref p.1) >>= _) _ _ _
        refine wpAny_bind (draw_one D m hp hl (hxk.trans hjv) fun h' m' hs' => wpAny_pure (wpAny_pure ⟨_, rfl, ?_, h', rfl, m', ?_, ?_⟩))
        · rw [List.take_add_one, hjv]
          simp
        · exact (hs'.2 z (D.pz p hm).1.symm).trans hz2
        · exact (hs'.2 _ (D.pz p hm).2.2.1.symm).trans hTO2
    case last =>
      obtain ⟨rfl, h, rfl, m, hz2, hTO2⟩ := hb
      rw [List.length_map] at m
      rw [List.length_map, List.take_of_length_le (by omega)]
      have hsz : vs.length ≤ sizeLine := by rw [sizeLine_eq]; omega
      show wpAny _ _ (newTuple vs.toArray.toList >>= _) _ _ _
      refine wpAny_bind (wpAny_newTuple ?_ (by simpa using hsz))
      refine wpAny_pure ⟨_, rfl, ?_⟩
      have up : ∀ c o, h.get? c = some o → (h.push (tObj vs.toArray)).get? c = some o := fun c o e => Heap.get?_push_of_some _ e
      have key := hQ (h.push (tObj vs.toArray)) ⟨⟨_, _, up _ _ hz2, hf0⟩, up _ _ (m.keep TI _ D.tz D.it nTI hTI), ⟨_, ha, up _ _ hTO2⟩, fun p hp => ?_⟩ ?_ ?_ fun c o c1 c2 c3 e => up c o (m.keep c o c1 c2 c3 e)
      · show Q (.ref h.objs.size) _
        rw [m.size]
        exact key
      · obtain ⟨o, e, c⟩ := m.full p hp
        exact ⟨o, up _ _ e, c⟩
      · rw [← m.size]
        exact Heap.get?_push_size _ rfl
      · rw [Heap.size_push, m.size]
theorem zn_end {Q : Fin → Shared → Prop} (hh : A.handled = none) (D : ZApart z TI TO ps) (S : ZSt kd s.heap z TI TO ps k) {p : Addr × Addr} {r : List (Addr × Addr)} {xs : Array Value}
    (hps : ps = p :: r) (hl : IsSq (kd p.2) s.heap p.2 xs) (hx : xs[k]? = none)
    (hE : ∀ h' e, (∀ c o, c ≠ z → c ≠ TO → (∀ p ∈ ps, c ≠ p.1) → s.heap.get? c = some o → h'.get? c = some o) →
      (∃ o, h'.get? e = some o ∧ o.cls = .type "StopIteration") → E (.ref e) { s with heap := h' }) :
    wpAny (model prog w) A (Builtin.«zip.__next__» ⟨[.ref z], []⟩) Q E s := by
  obtain ⟨⟨f0, f1, hz, hf0⟩, hTI, ⟨arr, ha, hTO⟩, hits⟩ := S
  have hm : p ∈ ps := by rw [hps]; exact List.mem_cons_self
  show wpAny _ _ (field (.ref z) 2 >>= _) _ _ _
  refine wpAny_bind (wpAny_field hz rfl (x := .bool false) rfl ?_)
  show wpAny _ _ (field (.ref z) 3 >>= _) _ _ _
  refine wpAny_bind (wpAny_field hz rfl (x := .ref TI) rfl ?_)
  refine wpAny_bind (wpAny_seqItems hTI rfl ?_)
  have hne : (ps.map fun p => Value.ref p.1).toArray.isEmpty = false := by
    rw [hps]
    rfl
  simp only [hne, Bool.false_eq_true, if_false]
  have it1 := hits p hm
  have kz : ∀ h1, Heap.SameBut z s.heap h1 → IsIt (kd p.2) h1 p.1 p.2 k ∧ IsSq (kd p.2) h1 p.2 xs := fun h1 hs1 =>
    ⟨by obtain ⟨o, e, c⟩ := it1; exact ⟨o, (hs1.2 _ (D.pz p hm).1).trans e, c⟩, by obtain ⟨o, e, c⟩ := hl; exact ⟨o, (hs1.2 _ (D.pz p hm).2.2.2.1).trans e, c⟩⟩
  refine wpAny_bind (wpAny_mono (free_or hz hf0) (fun b s' hb => ?_) fun _ _ e => e)
  rcases hb with ⟨rfl, rfl⟩ | ⟨rfl, h1, f2, rfl, hz1, hs1⟩
  · simp only [if_true]
    refine wpAny_bind (wpAny_rule ?_)
    refine wpAny_bind (wpAny_field hz rfl (x := .ref TO) rfl ?_)
    refine wpAny_bind (wpAny_setField_rec hz (by simp) fun h1 hz1 hs1 => ?_)
    replace hz1 : h1.get? z = some (zObj .ellipsis f1 TI TO) := hz1
    obtain ⟨q1, q2⟩ := kz h1 hs1
    refine wpAny_bind ?_
    simp only [hps, List.map_cons, List.zipIdx_cons, List.forIn_cons]
    refine wpAny_bind (wpAny_bind (wpAny_onRaise ?_))
    show wpAny _ _ (Builtin.SmallTypes.nextOf (.ref p.1) >>= _) _ _ _
    refine wpAny_bind (nextOf_curE (s := { s' with heap := h1 }) hh q1 q2 hx fun h2 e hs2 he => ?_)
    obtain ⟨oe, hoe, hce⟩ := he
    have hz2 : h2.get? z = some (zObj .ellipsis f1 TI TO) := hs2 _ _ (D.pz p hm).1.symm hz1
    have hez : e ≠ z := fun x => by
      subst x
      rw [hz2] at hoe
      cases hoe
      simp at hce
    refine wpAny_setField_rec hz2 (by simp) fun h3 _ hs3 => hE h3 e (fun c o c1 _ c3 x => (hs3.2 _ c1).trans (hs2 _ _ (c3 p hm) ((hs1.2 _ c1).trans x))) ⟨oe, (hs3.2 _ hez).trans hoe, hce⟩
  · simp only [Bool.false_eq_true, if_false, List.forIn_toArray]
    obtain ⟨q1, q2⟩ := kz h1 hs1
    refine wpAny_bind ?_
    simp only [hps, List.map_cons, List.forIn_cons]
    refine wpAny_bind (wpAny_bind (wpAny_holding ?_))
    show wpAny _ _ (Builtin.SmallTypes.nextOf (.ref p.1) >>= _) _ _ _
    refine wpAny_bind (nextOf_curE (s := { s with heap := h1 }) hh q1 q2 hx fun h2 e hs2 he => hE h2 e (fun c o c1 _ c3 x => hs2 _ _ (c3 p hm) ((hs1.2 _ c1).trans x)) he)

theorem pyNext_zn_item {vs : List Value} {Q : Option Value → Shared → Prop} (D : ZApart z TI TO ps) (hn : 1 ≤ ps.length) (hn2 : ps.length ≤ 1000) (S : ZSt kd s.heap z TI TO ps k)
    (hv : vs.length = ps.length) (hi : ∀ (j : Nat) (p : Addr × Addr), ps[j]? = some p → ∃ xs, IsSq (kd p.2) s.heap p.2 xs ∧ xs[k]? = vs[j]?)
    (hQ : ∀ h', ZSt kd h' z TI TO ps (k + 1) → h'.get? s.heap.objs.size = some (tObj vs.toArray) → h'.objs.size = s.heap.objs.size + 1 →
      (∀ c o, c ≠ z → c ≠ TO → (∀ p ∈ ps, c ≠ p.1) → s.heap.get? c = some o → h'.get? c = some o) → Q (some (.ref s.heap.objs.size)) { s with heap := h' }) :
    wpAny (model prog w) A (pyNext (.ref z)) Q E s := by
  obtain ⟨f0, f1, hz, hf0⟩ := S.zz
  have hT : s.TypeIs (.ref z) "zip" := ⟨_, hz, rfl⟩
  unfold pyNext
  exact wpAny_bind (wpAny_attempt (wpAny_callSpecial?_slot (name := Str.ofString "__next__") hT F.slot_zip_next
    (wpAny_call_entry F.slot_zip_next hT F.entry_zip_next (zn_item D hn hn2 S hv hi fun h' a1 a2 a3 a4 => wpAny_pure (hQ h' a1 a2 a3 a4)) (F.args_zip_next_1 _))))
theorem pyNext_zn_end {Q : Option Value → Shared → Prop} (hh : A.handled = none) (D : ZApart z TI TO ps) (S : ZSt kd s.heap z TI TO ps k) {p : Addr × Addr} {r : List (Addr × Addr)} {xs : Array Value}
    (hps : ps = p :: r) (hl : IsSq (kd p.2) s.heap p.2 xs) (hx : xs[k]? = none)
    (hQ : ∀ h', (∀ c o, c ≠ z → c ≠ TO → (∀ p ∈ ps, c ≠ p.1) → s.heap.get? c = some o → h'.get? c = some o) → Q none { s with heap := h' }) :
    wpAny (model prog w) A (pyNext (.ref z)) Q E s := by
  obtain ⟨f0, f1, hz, hf0⟩ := S.zz
  have hT : s.TypeIs (.ref z) "zip" := ⟨_, hz, rfl⟩
  unfold pyNext
  refine wpAny_bind (wpAny_attempt (wpAny_callSpecial?_slot (name := Str.ofString "__next__") hT F.slot_zip_next
    (wpAny_call_entry F.slot_zip_next hT F.entry_zip_next (zn_end hh D S hps hl hx fun h' e hk he => ?_) (F.args_zip_next_1 _))))
  obtain ⟨o, ho, hc⟩ := he
  exact wpAny_bind (wpAny_isInstance (T := "StopIteration") (b := true) ⟨o, ho, hc⟩ isSubtype_stop (wpAny_pure (hQ _ hk)))

theorem iterAll_tups {ls : List Addr} {Q : List Value → Shared → Prop} (hl : ∀ l ∈ ls, ∃ xs, IsSq (kd l) s.heap l xs)
    (hQ : ∀ h' its, its.length = ls.length → (∀ i, i < ls.length → its[i]? = some (.ref (s.heap.objs.size + i))) → h'.objs.size = s.heap.objs.size + ls.length →
      (∀ c o, s.heap.get? c = some o → h'.get? c = some o) → (∀ (i : Nat) (l : Addr), ls[i]? = some l → IsIt (kd l) h' (s.heap.objs.size + i) l 0) → Q its { s with heap := h' }) :
    wpAny (model prog w) A (Builtin.SmallTypes.iterAll (ls.map Value.ref)) Q E s := by
  unfold Builtin.SmallTypes.iterAll
  refine wpAny_bind (thn (wp_forIn _ _ (fun j (b : Array Value) s2 => b.size = j ∧ (∀ i, i < j → b[i]? = some (.ref (s.heap.objs.size + i))) ∧ ∃ h, s2 = { s with heap := h } ∧ h.objs.size = s.heap.objs.size + j ∧
    (∀ c o, s.heap.get? c = some o → h.get? c = some o) ∧ ∀ (i : Nat) (l : Addr), i < j → ls[i]? = some l → IsIt (kd l) h (s.heap.objs.size + i) l 0) ?step _ _ ?init) fun b s2 hb => ?last)
  case init => exact ⟨rfl, fun i hi => absurd hi (Nat.not_lt_zero _), s.heap, rfl, rfl, fun _ _ e => e, fun i _ hi => absurd hi (Nat.not_lt_zero _)⟩
  case step =>
    rintro j x b s2 hx ⟨hbs, hb, h, rfl, hsz, hk, hit⟩
    rw [List.getElem?_map] at hx
    cases hp : ls[j]? with
    | none =>
      rw [hp] at hx
      cases hx
    | some l =>
      rw [hp] at hx
      obtain rfl : Value.ref l = x := Option.some.inj hx
      obtain ⟨xs, ol, e, c⟩ := hl l (List.mem_of_getElem? hp)
      refine wpAny_bind (wpAny_holding (pyIter_cur (b := kd l) (s := { s with heap := h }) ⟨ol, hk _ _ e, c⟩ ?_))
      refine wpAny_pure ⟨_, rfl, by rw [Array.size_push, hbs], fun i hij => ?_, _, rfl, by rw [Heap.size_push, hsz]; omega, fun c o e => Heap.get?_push_of_some _ (hk c o e), fun i l' hij hl' => ?_⟩
      · show (b.push (Value.ref h.objs.size))[i]? = _
        rw [Array.getElem?_push]
        by_cases e : i = b.size
        · rw [if_pos e, hsz, e, hbs]
        · rw [if_neg e]
          exact hb i (by omega)
      · by_cases e : i = j
        · subst e
          rw [hp] at hl'
          cases hl'
          refine ⟨{ cls := .type (if kd l then "tuple_iterator" else "list_iterator"), data := .fields #[.ref l, .int 0 0] }, ?_, rfl, rfl⟩
          rw [← hsz]
          exact Heap.get?_push_size _ rfl
        · obtain ⟨o, e1, c⟩ := hit i l' (by omega) hl'
          exact ⟨o, Heap.get?_push_of_some _ e1, c⟩
  case last =>
    obtain ⟨hbs, hb, h, rfl, hsz, hk, hit⟩ := hb
    rw [List.length_map] at hbs hb hsz hit
    refine wpAny_pure (hQ h b.toList (by rw [Array.length_toList]; exact hbs) (fun i hi => by rw [Array.getElem?_toList]; exact hb i hi) hsz hk fun i l e => ?_)
    exact hit i l (List.getElem?_eq_some_iff.mp e).1 e

theorem zip_newN {ls : List Addr} {Q : Value → Shared → Prop} (h1 : 1 ≤ ls.length) (h2 : ls.length ≤ 4) (hl : ∀ l ∈ ls, ∃ xs, IsSq (kd l) s.heap l xs)
    (hQ : ∀ h' n, n = s.heap.objs.size → ZSt kd h' (n + ls.length + 2) (n + ls.length) (n + ls.length + 1) (ls.zipIdx.map fun x => (n + x.2, x.1)) 0 → h'.objs.size = n + ls.length + 3 →
      (∀ c o, s.heap.get? c = some o → h'.get? c = some o) → Q (.ref (n + ls.length + 2)) { s with heap := h' }) :
    wpAny (model prog w) A (Builtin.«zip.__new__» ⟨.type "zip" :: ls.map Value.ref, []⟩) (fun fin s' => ∃ v, fin = .done (.ret v) ∧ Q v s') E s := by
  have hsub := sub_zip
  have hc : wpAny (model prog w) A (Builtin.SmallTypes.newClass "zip" ⟨.type "zip" :: ls.map Value.ref, []⟩) (fun r s' => r = (.type "zip", ls.map Value.ref) ∧ s' = s) E s := by
    unfold Builtin.SmallTypes.newClass
    wp_walk
    exact ⟨rfl, rfl⟩
  unfold Builtin.«zip.__new__»
  refine wpAny_bind (thn hc ?_)
  rintro _ _s ⟨rfl, rfl⟩
  show wpAny _ _ (Builtin.SmallTypes.iterAll (ls.map Value.ref) >>= _) _ _ _
  refine wpAny_bind (iterAll_tups hl fun h1' its hil hi hsz hk hit => ?_)
  have hsl : its.length ≤ sizeLine := by rw [hil, sizeLine_eq]; omega
  refine wpAny_bind (wpAny_newTuple ?_ hsl)
  refine wpAny_bind (wpAny_newTuple ?_ (by rw [List.length_map]; exact hsl))
  refine wpAny_bind ?_
  unfold Builtin.SmallTypes.newRecord
  refine wpAny_newObj_type ?_ (show (5 : Nat) ≤ sizeLine + 2 by rw [sizeLine_eq]; omega)
  refine wpAny_pure ⟨_, rfl, ?_⟩
  have z1 : (h1'.push (tObj its.toArray)).objs.size = h1'.objs.size + 1 := Heap.size_push ..
  have z2 : ((h1'.push (tObj its.toArray)).push (tObj (its.map fun _ => Value.none).toArray)).objs.size = h1'.objs.size + 2 := by rw [Heap.size_push, z1]
  have fin : Q (.ref ((h1'.push (tObj its.toArray)).push (tObj (its.map fun _ => Value.none).toArray)).objs.size)
      { _s with heap := ((h1'.push (tObj its.toArray)).push (tObj (its.map fun _ => Value.none).toArray)).push (zObj .none (.bool false) h1'.objs.size (h1'.push (tObj its.toArray)).objs.size) } := by
    rw [z2, z1, hsz]
    refine hQ _ _ rfl ⟨⟨.none, .bool false, ?_, .inl rfl⟩, ?_, ⟨(its.map fun _ => Value.none).toArray, ?_, ?_⟩, fun p hp => ?_⟩ ?_ fun c o e => Heap.get?_push_of_some _ (Heap.get?_push_of_some _ (Heap.get?_push_of_some _ (hk c o e)))
    · rw [← hsz, ← z2]
      exact Heap.get?_push_size _ rfl
    · have e : its = (ls.zipIdx.map fun x => (_s.heap.objs.size + x.2, x.1)).map fun p => Value.ref p.1 := by
        refine List.ext_getElem? fun i => ?_
        rw [List.map_map, List.getElem?_map, List.getElem?_zipIdx]
        by_cases hlt : i < ls.length
        · rw [hi i hlt, List.getElem?_eq_getElem hlt]
          simp
        · rw [List.getElem?_eq_none (by omega), List.getElem?_eq_none (by omega)]
          rfl
      rw [← e, ← hsz]
      exact Heap.get?_push_of_some _ (Heap.get?_push_of_some _ (Heap.get?_push_size _ rfl))
    · simp [hil]
    · rw [← hsz, ← z1]
      exact Heap.get?_push_of_some _ (Heap.get?_push_size _ rfl)
    · obtain ⟨x, hx, rfl⟩ := List.mem_map.mp hp
      obtain ⟨i, hxi⟩ := List.mem_iff_getElem?.mp hx
      rw [List.getElem?_zipIdx] at hxi
      cases hl' : ls[i]? with
      | none =>
        rw [hl'] at hxi
        cases hxi
      | some l =>
        rw [hl'] at hxi
        obtain rfl : (l, 0 + i) = x := Option.some.inj hxi
        obtain ⟨o, e, c⟩ := hit i l hl'
        refine ⟨o, ?_, c⟩
        show Heap.get? _ (_s.heap.objs.size + (0 + i)) = some o
        rw [Nat.zero_add]
        exact Heap.get?_push_of_some _ (Heap.get?_push_of_some _ (Heap.get?_push_of_some _ e))
    · rw [Heap.size_push, z2, hsz]
  exact fin
end
section
variable {prog : Program} {w : World} {A : Around} {E : Value → Shared → Prop} {s : Shared} {kd : Addr → Bool}
theorem call_zipN {ls : List Addr} {Q : Value → Shared → Prop} (h1 : 1 ≤ ls.length) (h2 : ls.length ≤ 4) (hl : ∀ l ∈ ls, ∃ xs, IsSq (kd l) s.heap l xs)
    (hQ : ∀ h' n, n = s.heap.objs.size → ZSt kd h' (n + ls.length + 2) (n + ls.length) (n + ls.length + 1) (zps n ls) 0 → h'.objs.size = n + ls.length + 3 →
      (∀ c o, s.heap.get? c = some o → h'.get? c = some o) → Q (.ref (n + ls.length + 2)) { s with heap := h' }) :
    wpAny (model prog w) A (call (.type "zip") (ls.map Value.ref)) Q E s := by
  have m : Meets (Builtin.«zip.__new__» ⟨.type "zip" :: ls.map Value.ref, []⟩) (fun _ R s => (∀ l ∈ ls, ∃ xs, IsSq (kd l) s.heap l xs) ∧
      ∀ h' n, n = s.heap.objs.size → ZSt kd h' (n + ls.length + 2) (n + ls.length) (n + ls.length + 1) (zps n ls) 0 → h'.objs.size = n + ls.length + 3 →
        (∀ c o, s.heap.get? c = some o → h'.get? c = some o) → R (.ok (.ret (.ref (n + ls.length + 2)))) { s with heap := h' }) :=
    .of_wp fun prog w A R s h => zip_newN h1 h2 h.1 h.2
  refine callType_new F.called_zip (by decide) (typeCall_zipN _ (by simpa using h1) (by simpa using h2)) (newCall_zipN _ (by simpa using h1) (by simpa using h2))
    (fun obj => args_object_initN obj _ (by simpa using h1) (by simpa using h2)) F.entry_zip_new m ⟨hl, fun h' n e1 e2 e3 e4 => ?_⟩
  obtain ⟨f0, f1, hz, _⟩ := e2.zz
  exact ⟨⟨_, hz, rfl⟩, hQ h' n e1 e2 e3 e4⟩
theorem pyIter_zn {z TI TO : Addr} {ps : List (Addr × Addr)} {k : Nat} {Q : Value → Shared → Prop} (S : ZSt kd s.heap z TI TO ps k) (h : Q (.ref z) s) : wpAny (model prog w) A (pyIter (.ref z)) Q E s := by
  obtain ⟨f0, f1, hz, _⟩ := S.zz
  have hT : s.TypeIs (.ref z) "zip" := ⟨_, hz, rfl⟩
  refine wpAny_pyIter_slot hT F.slot_zip_iter (wpAny_call_entry F.slot_zip_iter hT F.entry_zip_iter ?_ (F.args_zip_iter_1 _))
  exact (show wpAny _ _ (ret (.ref z)) _ _ s from wpAny_pure ⟨_, rfl, "zip", _, hT, F.slot_zip_next.lookup, h⟩)
end

end DM
namespace DM
open PySem PySem.Spec PyProof.Rows L2 DD
def SqX (K : PySem.W.Frag) (b : Bool) (H : Hp) (a : Addr) (xs : List V) : Prop := match b with | true => SqT K H a xs | false => SqL K H a xs
/-- the tuples and lists at ls hold rows, none shorter than m, the first of length m -/
structure Rwm (K : PySem.W.Frag) (kd : Addr → Bool) (H : Hp) (ls : List Addr) (rows : List (List V)) (m : Nat) : Prop where
  len : ls.length = rows.length
  at_ : ∀ (j : Nat) (a : Addr) (r : List V), ls[j]? = some a → rows[j]? = some r → SqX K (kd a) H a r ∧ m ≤ r.length
theorem sq_of {X : Cx} {pins : List (Addr × Obj)} {σ : L2.St} {H : Hp} {s : Shared} {b : Bool} {a : Addr} {xs : List V} (I : Inv X pins σ H s) (q : SqX X.K b H a xs) :
    ∃ its : List Value, Vals xs its ∧ IsSq b s.heap a its.toArray := by
  cases b with
  | true =>
    obtain ⟨its, rv, ⟨o, ho, hc, n, hd⟩, _⟩ := I.tuple q
    exact ⟨its, rv, o, ho, hc, n, hd⟩
  | false =>
    obtain ⟨its, rv, p, _⟩ := I.list q
    exact ⟨its, rv, p.isList⟩
theorem Rwm.vals {X : Cx} {pins : List (Addr × Obj)} {σ : L2.St} {H : Hp} {s : Shared} {kd : Addr → Bool} {m i : Nat} (I : Inv X pins σ H s) (hi : i < m) : ∀ {ls : List Addr} {rows : List (List V)}, Rwm X.K kd H ls rows m →
    ∃ us : List Value, Vals (colV rows i) us ∧ ∀ (j : Nat) (a : Addr), ls[j]? = some a → ∃ xs, IsSq (kd a) s.heap a xs ∧ xs[i]? = us[j]?
  | [], [], _ => ⟨[], .nil, fun j a e => by simp at e⟩
  | [], _ :: _, R => by have := R.len; simp at this
  | _ :: _, [], R => by have := R.len; simp at this
  | a :: ls, r :: rows, R => by
    obtain ⟨us, h1, h2⟩ := Rwm.vals I hi (ls := ls) (rows := rows) ⟨by have := R.len; simpa using this, fun j a' r' e1 e2 => R.at_ (j + 1) a' r' e1 e2⟩
    obtain ⟨q, hl⟩ := R.at_ 0 a r rfl rfl
    obtain ⟨its, rv, p⟩ := sq_of I q
    have hr : r[i]? = some (r.getD i .non) := by
      rw [List.getD_eq_getElem?_getD, List.getElem?_eq_getElem (by omega)]
      rfl
    obtain ⟨u, hu, ru⟩ := rv.get hr
    refine ⟨u :: us, .cons ru h1, fun j a' e => ?_⟩
    cases j with
    | zero =>
      obtain rfl : a = a' := Option.some.inj e
      exact ⟨its.toArray, p, by simpa using hu⟩
    | succ j => exact h2 j a' e
def ItzM (K : PySem.W.Frag) (kd : Addr → Bool) (ls : List Addr) (rows : List (List V)) (m : Nat) : It :=
  ⟨fun i H => i < m ∧ Rwm K kd H ls rows m, fun i H v H' => ∃ T, v = .ref T ∧ H T = none ∧ H' = upd H T (.tup (colV rows i)), fun i H => i = m ∧ Rwm K kd H ls rows m⟩
theorem turn_zm {P : Program} {w : World} {K : PySem.W.Frag} {elts : List Expr} {kk : Nat} {tpos : Pos} {n m : Nat} {kd : Addr → Bool} {ls : List Addr} {rows : List (List V)} (h1 : 1 ≤ ls.length) (h2 : ls.length ≤ 4) (hlt : ∀ l ∈ ls, l < n) (hm : ∀ r, rows[0]? = some r → r.length = m) :
    Turn P w K (.Tuple elts kk tpos) (ItzM K kd ls rows m) ((n + ls.length + 2) :: (n + ls.length) :: (n + ls.length + 1) :: (zps n ls).map (·.1)) (n + ls.length + 2)
      (fun i h => ZSt kd h (n + ls.length + 2) (n + ls.length) (n + ls.length + 1) (zps n ls) i) where
  mem := List.mem_cons_self
  obj := fun i h S b hb => by
    obtain ⟨⟨f0, f1, hz, _⟩, hTI, ⟨arr, _, hTO⟩, hits⟩ := S
    rcases List.mem_cons.mp hb with rfl | hb
    · exact ⟨_, hz, fun v q => nomatch q⟩
    rcases List.mem_cons.mp hb with rfl | hb
    · exact ⟨_, hTI, fun v q => nomatch q⟩
    rcases List.mem_cons.mp hb with rfl | hb
    · exact ⟨_, hTO, fun v q => nomatch q⟩
    obtain ⟨p, hp, rfl⟩ := List.mem_map.mp hb
    obtain ⟨o, e, _, d⟩ := hits p hp
    exact ⟨o, e, fun v q => by rw [d] at q; cases q⟩
  keep := fun i h h' S k => by
    obtain ⟨⟨f0, f1, hz, hf⟩, hTI, ⟨arr, ha, hTO⟩, hits⟩ := S
    refine ⟨⟨f0, f1, k _ (by simp) _ hz, hf⟩, k _ (by simp) _ hTI, ⟨arr, ha, k _ (by simp) _ hTO⟩, fun p hp => ?_⟩
    obtain ⟨o, e, c⟩ := hits p hp
    exact ⟨o, k _ (by
      refine List.mem_cons_of_mem _ (List.mem_cons_of_mem _ (List.mem_cons_of_mem _ ?_))
      exact List.mem_map_of_mem hp) _ e, c⟩
  item := by
    intro X hP hw hK hc i pins s σ H E I hf S hg
    subst hP hw hK
    obtain ⟨hi, R⟩ := hg
    obtain ⟨us, hv, hx⟩ := R.vals I hi
    have hul : us.length = ls.length := by rw [← hv.length, R.len]; simp [colV]
    have D := zapart hlt
    refine pyNext_zn_item D (by rw [zps_length]; exact h1) (by rw [zps_length]; omega) S (vs := us) (by rw [zps_length]; exact hul) (fun j p e => ?_) fun h' S' hT hsz hk => ?_
    · rw [zps_get] at e
      cases ea : ls[j]? with
      | none => rw [ea] at e; cases e
      | some a =>
        rw [ea] at e
        obtain rfl : (n + j, a) = p := Option.some.inj e
        exact hx j a ea
    · refine ⟨_, rfl, ?_⟩
      obtain ⟨⟨f0, f1, hz', hf'⟩, hTI', ⟨arr', ha', hTO'⟩, hits'⟩ := S'
      have hzlt : n + ls.length + 2 < s.heap.objs.size := by
        obtain ⟨⟨g0, g1, g, _⟩, _⟩ := S
        exact Heap.lt_size g
      refine letGo_any (s := { s with heap := h' }) hz' hf' fun h'' g0 hg0 z'' sb => ?_
      have S'' : ZSt kd h'' (n + ls.length + 2) (n + ls.length) (n + ls.length + 1) (zps n ls) (i + 1) :=
        ⟨⟨_, _, z'', hg0⟩, (sb.2 _ D.tz).trans hTI', ⟨arr', ha', (sb.2 _ D.oz).trans hTO'⟩, fun p hp => by
          obtain ⟨o, e, c⟩ := hits' p hp
          exact ⟨o, (sb.2 _ (D.pz p hp).1).trans e, c⟩⟩
      have hT2 := (sb.2 _ (Nat.ne_of_gt hzlt)).trans hT
      have hcl : (colV rows i).length ≤ sizeLine := by
        rw [hv.length, hul, sizeLine_eq]
        omega
      have new : ObjOk X.prog X.w (upd H s.heap.objs.size (.tup (colV rows i))) h'' s.heap.objs.size (.tup (colV rows i)) := ⟨hcl, us, hv, ⟨_, hT2, rfl, _, rfl⟩⟩
      have I1 : Inv X pins σ (upd H s.heap.objs.size (.tup (colV rows i))) { s with heap := h'' } :=
        I.turnedNew (t' := s.toks) (fun c o hb q => (sb.2 c (fun z => hb (by simp [z]))).trans (hk c o (fun z => hb (by simp [z])) (fun z => hb (by simp [z])) (fun p hp z => hb (by
          refine List.mem_cons_of_mem _ (List.mem_cons_of_mem _ (List.mem_cons_of_mem _ ?_))
          rw [z]
          exact List.mem_map_of_mem hp)) q)) hf (Nat.le_refl _) new
      refine ⟨.ref s.heap.objs.size, _, I1, rfl, ⟨_, rfl, I.hok.fresh (Nat.le_refl _), rfl⟩, S'', fun c hcm => ?_⟩
      obtain ⟨o, ho, _⟩ : ∃ o, s.heap.get? c = some o ∧ True := by
        obtain ⟨⟨f0, f1, hz, _⟩, hTI, ⟨arr, _, hTO⟩, hits⟩ := S
        rcases List.mem_cons.mp hcm with rfl | hcm
        · exact ⟨_, hz, trivial⟩
        rcases List.mem_cons.mp hcm with rfl | hcm
        · exact ⟨_, hTI, trivial⟩
        rcases List.mem_cons.mp hcm with rfl | hcm
        · exact ⟨_, hTO, trivial⟩
        obtain ⟨p, hp, rfl⟩ := List.mem_map.mp hcm
        obtain ⟨o, e, _⟩ := hits p hp
        exact ⟨o, e, trivial⟩
      rw [upd_ne (Nat.ne_of_lt (Heap.lt_size ho))]
      exact (hf c hcm).1
  done := by
    intro X hP hw hK hc i pins s σ H E I hf S hg
    subst hP hw hK
    obtain ⟨rfl, R⟩ := hg
    cases hls : ls with
    | nil => rw [hls] at h1; simp at h1
    | cons a r =>
      cases hrw : rows with
      | nil => have := R.len; rw [hls, hrw] at this; simp at this
      | cons q rr =>
        obtain ⟨hq, hl⟩ := R.at_ 0 a q (by rw [hls]; rfl) (by rw [hrw]; rfl)
        have hql := hm q (by rw [hrw]; rfl)
        obtain ⟨its, rv, p⟩ := sq_of I hq
        have hps : zps n ls = (n, a) :: (zps n ls).tail := by
          rw [hls]
          simp [zps]
        rw [← hls]
        refine pyNext_zn_end (I.ok.hd hc) (zapart hlt) S hps (xs := its.toArray) p ?_ fun h' hk => ⟨rfl, ?_⟩
        · have := rv.length
          rw [List.getElem?_toArray, List.getElem?_eq_none (by omega)]
        · exact I.turnedL (t' := s.toks) (fun c o hb q => hk c o (fun z => hb (by simp [z])) (fun z => hb (by simp [z])) (fun p hp z => hb (by
            refine List.mem_cons_of_mem _ (List.mem_cons_of_mem _ (List.mem_cons_of_mem _ ?_))
            rw [z]
            exact List.mem_map_of_mem hp)) q) hf
  self := fun A i s Q E S h => pyIter_zn S h

/-- for (..) in zip(e, ..), up to four tuples and lists, the first not longer than the others -/
def iZipM (K : PySem.W.Frag) (ta : TA) : TI := fun σ H R => ta σ H fun vs H1 => ∃ (kd : Addr → Bool) (ls : List Addr) (rows : List (List V)) (m : Nat), vs = ls.map V.ref ∧ 1 ≤ ls.length ∧ ls.length ≤ 4 ∧ (∀ r, rows[0]? = some r → r.length = m) ∧ Rwm K kd H1 ls rows m ∧ R (ItzM K kd ls rows m) H1
theorem pi_zipM {X : Cx} {e : Expr} {er : List Expr} {ta : TA} {p pos tpos : Pos} {elts : List Expr} {kk : Nat} (hg : Gl X "zip") (hm : X.mg "zip" = none) (ha : PA X (e :: er) ta)
    (hs : starEach (e :: er) X.env = (false, eval e X.env) :: starEach er X.env := by rfl) (hpl : (backTo pos (starEach er X.env)).any (·.1) = false := by rfl) :
    PI X (.Tuple elts kk tpos) (.Call (.Name "zip" p) (e :: er) [] pos) (iZipM X.K ta) := by
  refine ⟨fun pins s σ H R I h => ?_⟩
  refine Call_ (ld_blt I hg hm PyProof.Rows.boot_zip (PyProof.Rows.callWith_type1 (thn (ha.run pos pins s σ H _ I h) fun us s2 ⟨vs, H1, I2, r1, q1⟩ => ?_) hs hpl))
  obtain ⟨kd, ls, rows, m, ex, h1, h2, hm0, Rw, q⟩ := q1
  subst ex
  obtain rfl := vals_refs r1
  have tup : ∀ l ∈ ls, ∃ xs, IsSq (kd l) s2.heap l xs := fun l hl => by
    obtain ⟨j, hj⟩ := List.mem_iff_getElem?.mp hl
    have hjl := (List.getElem?_eq_some_iff.mp hj).1
    have hjr : rows[j]? = some (rows[j]'(by have := Rw.len; omega)) := List.getElem?_eq_getElem (by have := Rw.len; omega)
    obtain ⟨its, _, p⟩ := sq_of I2 (Rw.at_ j l _ hj hjr).1
    exact ⟨its.toArray, p⟩
  refine call_zipN (kd := kd) h1 h2 tup fun h' n en S hsz hk => ?_
  have I3 : Inv X pins σ H1 { s2 with heap := h' } := I2.kept (t' := s2.toks) hk
  have hlt : ∀ l ∈ ls, l < n := fun l hl => by
    obtain ⟨xs, o, ho, _⟩ := tup l hl
    rw [en]
    exact Heap.lt_size ho
  refine pyIter_zn (s := { s2 with heap := h' }) S ⟨n + ls.length + 2, _, _, _, H1, rfl, I3, turn_zm h1 h2 hlt hm0, S, fun b hb => ?_, q⟩
  have hle : s2.heap.objs.size ≤ b := by
    rw [← en]
    rcases List.mem_cons.mp hb with rfl | hb
    · omega
    rcases List.mem_cons.mp hb with rfl | hb
    · omega
    rcases List.mem_cons.mp hb with rfl | hb
    · omega
    obtain ⟨p, hp, rfl⟩ := List.mem_map.mp hb
    obtain ⟨j, _, _, e⟩ := zps_mem hp
    exact Nat.le_trans (Nat.le_add_right n j) (Nat.le_of_eq e.symm)
  exact I2.fpOk hle (I2.hok.fresh hle)
theorem walk_zm {K : PySem.W.Frag} {kd : Addr → Bool} {ls : List Addr} {rows : List (List V)} {m : Nat} : Walk (ItzM K kd ls rows m) m (fun H => Rwm K kd H ls rows m) (fun i H v H' => ∃ T, v = .ref T ∧ H T = none ∧ H' = upd H T (.tup (colV rows i))) :=
  ⟨fun _ _ hi q => ⟨hi, q⟩, fun _ q => ⟨rfl, q⟩, fun _ _ _ _ _ _ y => y⟩
/-- two of them, kinds b1 and b2 -/
def kd2 (a : Addr) (b1 b2 : Bool) : Addr → Bool := fun x => if x = a then b1 else b2
theorem rwm2 {K : PySem.W.Frag} {H : Hp} {a b : Addr} {b1 b2 : Bool} {xs ys : List V} (h1 : SqX K b1 H a xs) (h2 : SqX K b2 H b ys) (hl : xs.length ≤ ys.length) (hab : a = b → b1 = b2) : Rwm K (kd2 a b1 b2) H [a, b] [xs, ys] xs.length := by
  refine ⟨rfl, fun j c r e1 e2 => ?_⟩
  match j with
  | 0 =>
    obtain rfl : a = c := Option.some.inj e1
    obtain rfl : xs = r := Option.some.inj e2
    refine ⟨?_, Nat.le_refl _⟩
    unfold kd2
    rw [if_pos rfl]
    exact h1
  | 1 =>
    obtain rfl : b = c := Option.some.inj e1
    obtain rfl : ys = r := Option.some.inj e2
    refine ⟨?_, hl⟩
    unfold kd2
    by_cases e : b = a
    · rw [if_pos e, hab e.symm]
      exact h2
    · rw [if_neg e]
      exact h2
  | j + 2 => simp at e1
theorem col2 {xs ys : List V} {i : Nat} {x y : V} (h1 : xs[i]? = some x) (h2 : ys[i]? = some y) : colV [xs, ys] i = [x, y] := by
  unfold colV
  simp [h1, h2]
end DM
namespace DD
open PySem PySem.Spec PyProof.Rows L2
def topS (i : Nat) : Stmt := PySem.Challenge.pw_darkdrawers_k10_draws_judged.main.body.getD i (.Pass ⟨0, 0, 0, 0⟩)
abbrev sIsNum : Stmt := topS 1
abbrev sUpTo : Stmt := topS 2
abbrev sTupOf : Stmt := topS 3
abbrev sNumsUp : Stmt := topS 4
abbrev sIsDr : Stmt := topS 6
abbrev sTaken : Stmt := topS 7
abbrev sDeck : Stmt := topS 9
abbrev sDraw : Stmt := topS 10
abbrev sStock : Stmt := topS 11
abbrev sLPlan : Stmt := topS 12
abbrev sNum : Stmt := topS 13
abbrev sIsDraw : Stmt := topS 14
abbrev sAnyDr : Stmt := topS 15
abbrev sOdd : Stmt := topS 16
abbrev sRepl : Stmt := topS 17
abbrev sNear : Stmt := topS 18
abbrev sLaw : Stmt := topS 19
end DD
namespace DD
open PySem PySem.Spec PyProof.Rows L2

/-! ### small words about heaps -/
def Kp2 (a b : Addr) (H H' : Hp) : Prop := ∀ c o, c ≠ a → c ≠ b → H c = some o → H' c = some o
theorem Kp2.refl {a b : Addr} {H : Hp} : Kp2 a b H H := fun _ _ _ _ e => e
theorem Kp2.trans {a b : Addr} {H H1 H2 : Hp} (x : Kp2 a b H H1) (y : Kp2 a b H1 H2) : Kp2 a b H H2 := fun c o h1 h2 e => y c o h1 h2 (x c o h1 h2 e)
theorem kps {a b : Addr} {H H' : Hp} (x : Same H H') : Kp2 a b H H' := fun c o _ _ e => x c o e
theorem same_new {H : Hp} {p : Addr} {o : HO} (h : H p = none) : Same H (upd H p o) := fun b x e => by
  rw [upd_ne (ne_of_none e h)]
  exact e
theorem kp2_upd1 {a b : Addr} {H : Hp} {o : HO} : Kp2 a b H (upd H a o) := fun c x h1 _ e => by rw [upd_ne h1]; exact e
theorem kp2_upd2 {a b : Addr} {H : Hp} {o : HO} : Kp2 a b H (upd H b o) := fun c x _ h2 e => by rw [upd_ne h2]; exact e

/-- the deck at dk: its cells at c, none below 0; at most B draws so far -/
structure Deck (H : Hp) (dk c : Addr) (B : Nat) : Prop where
  ex : ∃ (ns : List Int) (t : Int), H dk = some (.lst [.ref c, .int t]) ∧ H c = some (.lst (ns.map V.int)) ∧ (∀ n ∈ ns, 0 ≤ n) ∧ ns.length ≤ 63 ∧ 0 ≤ t ∧ t ≤ (B : Int)
  ne : dk ≠ c
theorem Deck.up {H : Hp} {dk c : Addr} {B B' : Nat} (d : Deck H dk c B) (h : B ≤ B') : Deck H dk c B' := by
  obtain ⟨⟨ns, t, h1, h2, h3, h4, h5, h6⟩, ne⟩ := d
  exact ⟨⟨ns, t, h1, h2, h3, h4, h5, by omega⟩, ne⟩
theorem Deck.keep {H H' : Hp} {dk c : Addr} {B : Nat} (d : Deck H dk c B) (k : Same H H') : Deck H' dk c B := by
  obtain ⟨⟨ns, t, h1, h2, h3⟩, ne⟩ := d
  exact ⟨⟨ns, t, k _ _ h1, k _ _ h2, h3⟩, ne⟩

theorem len_ltD {n : Nat} (h : n ≤ 1000) : n < sizeLine := small1000 h
theorem scDraw : FnScope ["_law_deck_here", "_law_bound", "_law_at", "_law_cell", "_law_mixed"] ["_law_deck_here", "_law_bound"] (defScope sDraw) := ⟨rfl, rfl, rfl, by decide +kernel, rfl, by decide +kernel, by decide +kernel⟩

section
variable {P : Program} {w : World} {K : PySem.W.Frag} {mg : Str → Option Value} {base : Heap}
/-- a drawn number from 0 to L - 1: the deck turns, all else stands -/
def spDraw : Sp := fun vs H Q _ => ∃ (dk c : Addr) (B : Nat) (L : Int), vs = [.ref dk, .int L] ∧ Deck H dk c B ∧ B ≤ 1000000 ∧ 1 ≤ L ∧ L ≤ 1000 ∧
  ∀ r H', 0 ≤ r → r < L → Kp2 dk c H H' → Deck H' dk c (B + 1) → Q (.int r) H'
theorem ok_draw {f : Addr} {fd : FuncData} {k : Nat} (F : Fun K "_law_draw" "_law_draw" sDraw f fd) (ml : mg "len" = none) (mx : mg "max" = none) : FnOk P w K mg base CX0 (k + 1) f fd ["_law_deck_here", "_law_bound"] spDraw := by
  refine F.ok scDraw (fun vs H Q E h => ?_) (fun cdv A outer s H vs Q E hr h => ?_)
  · obtain ⟨dk, c, B, L, rfl, _⟩ := h
    rfl
  · obtain ⟨dk, c, B, L, rfl, ⟨⟨ns, t, hdk, hc, hpos, hlen, t0, tB⟩, dne⟩, hB, hL1, hL2, q⟩ := h
    refine ⟨_, pss_cons (ps_asg (pe_op op_add (pe_ix ix_list (pv 0) pe_int (fun _ _ => rfl)) pe_int) (pg_sub (pv 0) pe_int set_list))
      (pss_cons (ps_set (i := 2) scDraw.nd rfl (.inl rfl) (pe_op op_modN (pe_ix ix_list (pv 0) pe_int (fun _ _ => rfl)) (pe_callB (call_max2 rfl) (by rfl) mx (by decide +kernel) (pa_cons pe_int (pa_cons (pe_callB call_len_seq (by rfl) ml PySem.boot_len (pa_cons (pe_ix ix_list (pv 0) pe_int (fun _ _ => rfl)) pa_nil)) pa_nil)))))
      (pss_cons (ps_set (i := 3) scDraw.nd rfl (.inl rfl) (pe_ix ix_list (pe_op op_cat (pe_ix ix_list (pv 0) pe_int (fun _ _ => rfl)) (pe_lst (pa_cons pe_int pa_nil))) (pv 2) (fun _ _ => rfl)))
      (pss_cons (ps_if (pt_cmpR op_ge (pv 3) (pe_op op_pow pe_int pe_int) (nomark _))
          (pss_cons (ps_asg (pe_op op_fdivN (pv 3) (pv 1)) (pg_sub (pe_ix ix_list (pv 0) pe_int (fun _ _ => rfl)) (pv 2) set_list))
          (pss_one (ps_ret (pe_op op_modN (pv 3) (pv 1)))))
          pss_nil)
      (pss_cons (ps_set (i := 4) scDraw.nd rfl (.inl rfl) (pe_op op_modN (pe_op op_pow (pe_op op_add (pe_op op_add (pe_op op_modN (pv 3) pe_int) (pe_op op_mul pe_int (pe_ix ix_list (pv 0) pe_int (fun _ _ => rfl)))) pe_int) pe_int) pe_int))
      (pss_one (ps_ret (pe_op op_modN (pe_op op_add (pe_op op_fdivN (pv 4) pe_int) (pe_op op_mul pe_int (pe_ix ix_list (pv 0) pe_int (fun _ _ => rfl)))) (pv 1)))))))), ?_⟩
    -- _law_deck_here[1] = _law_deck_here[1] + 1
    refine ⟨.ref dk, rfl, dk, _, 1, .int t, rfl, rfl, SqL.of hdk, atI_nat (j := 1) rfl, t, 1, rfl, rfl, .ref dk, rfl, dk, _, 1, 1, rfl, rfl, hdk, rfl, ?_⟩
    have hdk1 : (upd H dk (.lst [.ref c, .int (t + 1)])) dk = some (.lst [.ref c, .int (t + 1)]) := upd_same
    have hc1 : (upd H dk (.lst [.ref c, .int (t + 1)])) c = some (.lst (ns.map V.int)) := by
      rw [upd_ne dne.symm]
      exact hc
    -- _law_at
    refine ⟨.ref dk, rfl, dk, _, 1, .int (t + 1), rfl, rfl, SqL.of hdk1, atI_nat (j := 1) rfl, .ref dk, rfl, dk, _, 0, .ref c, rfl, rfl, SqL.of hdk1, atI_nat (j := 0) rfl, c, _, rfl, .inl (SqL.of hc1), 1, _, rfl, ?_⟩
    rw [List.length_map]
    obtain ⟨mx1, emx, hmx1, hmx2⟩ : ∃ m1 : Nat, (if (ns.length : Int) > 1 then (ns.length : Int) else 1) = (m1 : Int) ∧ 1 ≤ m1 ∧ m1 ≤ ns.length + 1 ∧ (1 ≤ ns.length → m1 ≤ ns.length) := by
      split
      · exact ⟨ns.length, rfl, by omega, by omega, fun _ => Nat.le_refl _⟩
      · exact ⟨1, rfl, by omega, by omega, fun h => h⟩
    rw [emx]
    have b1 := Int.fmod_nonneg_of_pos (t + 1) (show (0 : Int) < (mx1 : Int) by omega)
    have b2 := Int.fmod_lt_of_pos (t + 1) (show (0 : Int) < (mx1 : Int) by omega)
    obtain ⟨j, hj⟩ : ∃ j : Nat, (t + 1).fmod (mx1 : Int) = j := ⟨((t + 1).fmod (mx1 : Int)).toNat, by omega⟩
    refine ⟨t + 1, _, rfl, rfl, by omega, ?_⟩
    have hjl : j < mx1 := by omega
    -- _law_cell
    refine ⟨.ref dk, rfl, dk, _, 0, .ref c, rfl, rfl, SqL.of hdk1, atI_nat (j := 0) rfl, by show 1 ≤ sizeLine; decide, fun p np => ?_⟩
    have s2 : Same _ _ := same_new (o := .lst [.int 0]) np
    have hdk2 := s2 _ _ hdk1
    have hc2 := s2 _ _ hc1
    have hp2 : (upd (upd H dk (.lst [.ref c, .int (t + 1)])) p (.lst [.int 0])) p = some (.lst [.int 0]) := upd_same
    have k2 : Kp2 dk c H (upd (upd H dk (.lst [.ref c, .int (t + 1)])) p (.lst [.int 0])) := kp2_upd1.trans (kps s2)
    refine ⟨c, p, ns.map V.int, [.int 0], rfl, rfl, hc2, hp2, by rw [List.length_map]; exact Nat.le_of_lt (len_ltD (by show ns.length + 1 ≤ 1000; omega)), fun p3 np3 => ?_⟩
    have s3 : Same _ _ := same_new (o := .lst (ns.map V.int ++ [.int 0])) np3
    have hdk3 := s3 _ _ hdk2
    have hc3 := s3 _ _ hc2
    have k3 := k2.trans (kps s3)
    have gj : ∃ cell : Int, (ns.map V.int ++ [V.int 0])[j]? = some (.int cell) ∧ 0 ≤ cell ∧ (10 ^ 18 ≤ cell → j < ns.length) := by
      by_cases hjn : j < ns.length
      · refine ⟨ns[j], ?_, hpos _ (List.getElem_mem hjn), fun _ => hjn⟩
        rw [List.getElem?_append_left (by rw [List.length_map]; exact hjn), List.getElem?_map, List.getElem?_eq_getElem hjn]
        rfl
      · have hj0 : j = ns.length := by omega
        refine ⟨0, ?_, Int.le_refl _, fun z => absurd z (by decide)⟩
        rw [List.getElem?_append_right (by rw [List.length_map]; omega), List.length_map, hj0, Nat.sub_self]
        rfl
    obtain ⟨cell, gj, hcell, hix0⟩ := gj
    refine ⟨_, rfl, p3, _, (j : Int), .int cell, rfl, congrArg V.int hj, SqL.of upd_same, atI_nat gj, ?_⟩
    have hB1 : t + 1 ≤ ((B + 1 : Nat) : Int) := by omega
    -- if _law_cell >= 10 ** 18
    refine ⟨_, rfl, 10, 18, rfl, rfl, ⟨by decide, by decide, by decide⟩, _, _, rfl, rfl, _, rfl, ite2 (fun e => ?_) (fun e => ?_)⟩
    · have e0 : (10 : Int) ^ (18 : Int).toNat ≤ cell := of_decide_eq_true e
      have hjn := hix0 e0
      have hix : ixN (ns.map V.int).length (j : Int) = some j := by
        unfold ixN
        rw [if_pos (by omega), if_pos (by rw [List.length_map]; omega)]
        simp
      refine ⟨_, rfl, _, rfl, cell, L, rfl, rfl, ⟨by omega, by omega⟩, .ref dk, rfl, dk, _, 0, .ref c, rfl, rfl, SqL.of hdk3, atI_nat (j := 0) rfl, _, rfl, c, _, (j : Int), j, rfl, congrArg V.int hj, hc3, hix, ?_⟩
      refine ⟨_, rfl, _, rfl, cell, L, rfl, rfl, by omega, ?_⟩
      refine q _ _ (Int.fmod_nonneg_of_pos _ (by omega)) (Int.fmod_lt_of_pos _ (by omega)) (k3.trans kp2_upd2) ⟨⟨ns.set j (cell.fdiv L), t + 1, ?_, ?_, ?_, ?_, by omega, hB1⟩, dne⟩
      · rw [upd_ne dne]
        exact hdk3
      · rw [upd_same, List.map_set]
      · intro n hn
        rcases List.mem_or_eq_of_mem_set hn with h | h
        · exact hpos n h
        · rw [h]
          exact Int.fdiv_nonneg hcell (by omega)
      · rw [List.length_set]
        exact hlen
    · have b1 := Int.fmod_nonneg_of_pos cell (show (0 : Int) < 2147483563 by decide)
      have b2 := Int.fmod_lt_of_pos cell (show (0 : Int) < 2147483563 by decide)
      refine ⟨_, rfl, cell, 2147483563, rfl, rfl, (by show (2147483563 : Int) ≠ 0; decide), .ref dk, rfl, dk, _, 1, .int (t + 1), rfl, rfl, SqL.of hdk3, atI_nat (j := 1) rfl, 104729, t + 1, rfl, rfl, .inl ⟨by decide, by decide⟩,
        _, _, rfl, rfl, _, _, rfl, rfl, _, 4, rfl, rfl, ⟨by decide, by decide, by omega⟩, _, 2147483629, rfl, rfl, (by show (2147483629 : Int) ≠ 0; decide), ?_⟩
      refine ⟨_, rfl, _, 8, rfl, rfl, ⟨by decide, by decide⟩, .ref dk, rfl, dk, _, 1, .int (t + 1), rfl, rfl, SqL.of hdk3, atI_nat (j := 1) rfl, 31, t + 1, rfl, rfl, .inl ⟨by decide, by decide⟩, _, _, rfl, rfl, _, rfl, _, L, rfl, rfl, by omega, ?_⟩
      exact q _ _ (Int.fmod_nonneg_of_pos _ (by omega)) (Int.fmod_lt_of_pos _ (by omega)) k3 ⟨⟨ns, t + 1, hdk3, hc3, hpos, hlen, by omega, hB1⟩, dne⟩
end
end DD
namespace DD
open PySem PySem.Spec PyProof.Rows L2
theorem get_map {α β : Type} {f : α → β} {xs : List α} {i : Nat} {y : β} (h : (xs.map f)[i]? = some y) : ∃ x, xs[i]? = some x ∧ y = f x := by
  rw [List.getElem?_map] at h
  cases e : xs[i]? with
  | none => rw [e] at h; cases h
  | some x => rw [e] at h; exact ⟨x, rfl, (Option.some.inj h).symm⟩
theorem take_succ_map {α β : Type} {f : α → β} {xs : List α} {i : Nat} {x : α} (h : xs[i]? = some x) : (xs.take (i + 1)).map f = (xs.take i).map f ++ [f x] := by
  rw [List.take_add_one, h, List.map_append]
  rfl
theorem cutV_map {ns : List Int} {lo hi : Option Int} : ∃ ms : List Int, cutV (ns.map V.int) lo hi = ms.map V.int ∧ ms.length ≤ ns.length := by
  refine ⟨(ns.drop (HT.sIx ns.length 0 lo)).take (HT.sIx ns.length ns.length hi - HT.sIx ns.length 0 lo), ?_, ?_⟩
  · unfold cutV
    rw [List.length_map, List.map_take, List.map_drop]
  · rw [List.length_take, List.length_drop]
    omega
theorem len_lt {n : Nat} (h : n ≤ 1000) : n < sizeLine := small1000 h
def absI (i : Int) : Int := if i < 0 then -i else i
theorem absI_pos (i : Int) : 0 ≤ absI i := by
  unfold absI
  split <;> omega

theorem scDeck : FnScope ["_law_script", "_law_cell"] ["_law_script"] (defScope sDeck) := ⟨rfl, rfl, rfl, by decide +kernel, rfl, by decide +kernel, by decide +kernel⟩
section
variable {P : Program} {w : World} {K : PySem.W.Frag} {mg : Str → Option Value} {base : Heap}
def spDeck (K : PySem.W.Frag) : Sp := fun vs H Q _ => ∃ (a : Addr) (ns : List Int), vs = [.ref a] ∧ SqL K H a (ns.map V.int) ∧ ns.length ≤ 63 ∧
  ∀ dk c H', Same H H' → H dk = none → H c = none → Deck H' dk c 0 → Q (.ref dk) H'
theorem ok_deck {f : Addr} {fd : FuncData} {k : Nat} (F : Fun K "_law_deck" "_law_deck" sDeck f fd) (ma : mg "abs" = none) : FnOk P w K mg base CX0 (k + 1) f fd ["_law_script"] (spDeck K) := by
  refine F.ok scDeck (fun vs H Q E h => ?_) (fun cdv A outer s H vs Q E hr h => ?_)
  · obtain ⟨a, ns, rfl, _⟩ := h
    rfl
  · obtain ⟨a, ns, rfl, hS, hlen, q⟩ := h
    refine ⟨_, pss_one (ps_ret (pe_lst (pa_cons (pe_lc (own := [("_law_cell", 1)]) (g := gName 1) rfl scDeck.nd (pi_list (pe_slice sl_list (pv 0) po_none (po_some pe_int)))
      (blkOk_by (own := [("_law_cell", 1)]) (N := ["_law_script", "_law_cell"]) (sc := defScope sDeck) (by decide +kernel)) (fun _ _ _ _ _ => pg_name (i := 1) scDeck.nd rfl (Or.inl rfl)) (fun _ _ _ _ _ => pts_nil)
      (fun _ _ _ _ _ => pe_callB call_abs (by rfl) ma (by decide +kernel) (pa_cons (pv 1) pa_nil))) (pa_cons pe_int pa_nil)))), ?_⟩
    refine ⟨.ref a, rfl, 60, rfl, a, _, rfl, hS, fun p np => ?_⟩
    obtain ⟨ms, em, hml⟩ := cutV_map (ns := ns) (lo := none) (hi := some 60)
    rw [em]
    refine ⟨p, rfl, ⟨_, SqL.of upd_same⟩, fun D nD => ?_⟩
    have hp0 : Same H (upd H p (.lst (ms.map V.int))) := same_new np
    refine lc_list (xs := ms.map V.int) (fun i H' => H' D = some (.lst ((ms.take i).map fun n => V.int (absI n))) ∧ Same (upd H p (.lst (ms.map V.int))) H') ⟨upd_same, same_new nD⟩
      (fun i H' _ h => SqL.of (h.2 _ _ upd_same)) (fun i x H' hx h => ?_) (fun H' h => ?_)
    · obtain ⟨n, hn, rfl⟩ := get_map hx
      obtain ⟨hD, sm⟩ := h
      refine ⟨rfl, _, rfl, n, rfl, _, hD, ?_, ?_, fun b o e => ?_⟩
      · rw [List.length_map, List.length_take]
        exact len_lt (by omega)
      · rw [upd_same, take_succ_map hn]
        rfl
      · have hne : b ≠ D := ne_of_none e nD
        rw [upd_ne hne]
        exact sm b o e
    · obtain ⟨hD, sm⟩ := h
      rw [List.length_map, List.take_length] at hD
      refine ⟨by show 2 ≤ sizeLine; decide, fun dk nk => ?_⟩
      have ndk : D ≠ dk := ne_of_none hD nk
      refine q dk D _ (hp0.trans (sm.trans (same_new nk))) ?_ ?_ ⟨⟨ms.map absI, 0, upd_same, ?_, ?_, ?_, Int.le_refl _, Int.le_refl _⟩, ndk.symm⟩
      · exact hp0.free (sm.free nk)
      · exact hp0.free nD
      · rw [upd_ne ndk, hD, List.map_map]
        rfl
      · intro n hn
        obtain ⟨m, _, rfl⟩ := List.mem_map.mp hn
        exact absI_pos m
      · rw [List.length_map]
        omega
end
end DD
namespace DD
open PySem PySem.Spec PyProof.Rows L2
theorem Deck.kp {H : Hp} {dk c l : Addr} {B : Nat} {o : HO} (d : Deck H dk c B) (n : H l = none) : Deck (upd H l o) dk c B := d.keep (same_new n)
theorem Deck.nedk {H : Hp} {dk c l : Addr} {B : Nat} (d : Deck H dk c B) (n : H l = none) : l ≠ dk ∧ l ≠ c := by
  obtain ⟨ns, t, h1, h2, _⟩ := d.ex
  exact ⟨(ne_of_none h1 n).symm, (ne_of_none h2 n).symm⟩
theorem two_at {r a b : Int} (h0 : 0 ≤ r) (h : r < 2) : ∃ z : Int, (z = a ∨ z = b) ∧ atI [V.int a, V.int b] r = some (.int z) := by
  have e : r = 0 ∨ r = 1 := by omega
  rcases e with rfl | rfl
  · exact ⟨a, .inl rfl, rfl⟩
  · exact ⟨b, .inr rfl, rfl⟩
theorem kp_free {dk c t : Addr} {H H' : Hp} {B : Nat} (kp : Kp2 dk c H H') (d : Deck H' dk c B) (nt : H' t = none) : H t = none := by
  have tne := d.nedk nt
  cases e : H t with
  | none => rfl
  | some o =>
    have := kp t o tne.1 tne.2 e
    rw [nt] at this
    cases this
theorem Deck.updD {H : Hp} {dk c D : Addr} {B : Nat} {o : HO} (d : Deck H dk c B) (h1 : D ≠ dk) (h2 : D ≠ c) : Deck (upd H D o) dk c B := by
  obtain ⟨⟨ns, t, a1, a2, a3⟩, a4⟩ := d
  refine ⟨⟨ns, t, ?_, ?_, a3⟩, a4⟩
  · rw [upd_ne h1.symm]
    exact a1
  · rw [upd_ne h2.symm]
    exact a2
/-- the tuple at t holds tuples of ints: the rows -/
structure StockAt (H : Hp) (t : Addr) (ls : List Addr) (rows : List (List Int)) : Prop where
  top : H t = some (.tup (ls.map V.ref))
  len : ls.length = rows.length
  row : ∀ (j : Nat) (l : Addr) (r : List Int), ls[j]? = some l → rows[j]? = some r → H l = some (.tup (r.map V.int))
theorem StockAt.kp {H H' : Hp} {dk c t : Addr} {ls : List Addr} {rows : List (List Int)} {B : Nat} (a : StockAt H t ls rows) (k : Kp2 dk c H H') (d : Deck H dk c B) : StockAt H' t ls rows := by
  obtain ⟨ns, t', h1, h2, _⟩ := d.ex
  have n1 : ∀ b xs, H b = some (.tup xs) → b ≠ dk ∧ b ≠ c := fun b xs e =>
    ⟨fun z => (by rw [z, h1] at e; cases e), fun z => (by rw [z, h2] at e; cases e)⟩
  refine ⟨k _ _ (n1 _ _ a.top).1 (n1 _ _ a.top).2 a.top, a.len, fun j l r e1 e2 => ?_⟩
  have h := a.row j l r e1 e2
  exact k _ _ (n1 _ _ h).1 (n1 _ _ h).2 h
theorem StockAt.same {H H' : Hp} {t : Addr} {ls : List Addr} {rows : List (List Int)} (a : StockAt H t ls rows) (k : Same H H') : StockAt H' t ls rows :=
  ⟨k _ _ a.top, a.len, fun j l r e1 e2 => k _ _ (a.row j l r e1 e2)⟩
/-! ### data of stocks and rows -/
def rowD (r : List Int) : PyData := .tuple (r.map PyData.int)
def stockD (rows : List (List Int)) : PyData := .tuple (rows.map rowD)
theorem dps_ints {K : PySem.W.Frag} {H : Hp} : ∀ r : List Int, DpAll K H (r.map V.int) (r.map PyData.int)
  | [] => .nil
  | x :: r => .cons (.int x) (dps_ints r)
theorem dp_row {K : PySem.W.Frag} {H : Hp} {p : Addr} {r : List Int} (h : H p = some (.tup (r.map V.int))) : Dp K H (.ref p) (rowD r) := .tup (SqT.of h) (dps_ints r)
theorem dps_rows {K : PySem.W.Frag} {H : Hp} : ∀ (ls : List Addr) (rows : List (List Int)), ls.length = rows.length →
    (∀ (j : Nat) (l : Addr) (r : List Int), ls[j]? = some l → rows[j]? = some r → H l = some (.tup (r.map V.int))) → DpAll K H (ls.map V.ref) (rows.map rowD)
  | [], [], _, _ => .nil
  | [], _ :: _, h, _ => by simp at h
  | _ :: _, [], h, _ => by simp at h
  | l :: ls, r :: rows, h, hat => .cons (dp_row (hat 0 l r rfl rfl)) (dps_rows ls rows (by simpa using h) fun j l' r' e1 e2 => hat (j + 1) l' r' e1 e2)
theorem StockAt.dp {K : PySem.W.Frag} {H : Hp} {t : Addr} {ls : List Addr} {rows : List (List Int)} (a : StockAt H t ls rows) : Dp K H (.ref t) (stockD rows) :=
  .tup (SqT.of a.top) (dps_rows ls rows a.len a.row)
theorem sm_row {r : List Int} (h : ∀ x ∈ r, 0 ≤ x ∧ x < 4096) (hl : r.length ≤ 4) : Sm 56 1 (rowD r) := by
  have a : SmA (r.map PyData.int).length 13 0 (r.map PyData.int) := SmA.all fun d hd => by
    obtain ⟨x, hx, rfl⟩ := List.mem_map.mp hd
    exact Sm.int (h x hx).1 (h x hx).2
  refine a.tup.up ?_ (Nat.le_refl _)
  rw [List.length_map]
  omega
theorem sm_stock {rows : List (List Int)} (h : ∀ r ∈ rows, r.length ≤ 4 ∧ ∀ x ∈ r, 0 ≤ x ∧ x < 4096) (hl : rows.length ≤ 4) : Sm 228 2 (stockD rows) := by
  have a : SmA (rows.map rowD).length 56 1 (rows.map rowD) := SmA.all fun d hd => by
    obtain ⟨r, hr, rfl⟩ := List.mem_map.mp hd
    exact sm_row (h r hr).2 (h r hr).1
  refine a.tup.up ?_ (Nat.le_refl _)
  rw [List.length_map]
  omega
theorem sm_pair {a b : List Int} (ha : ∀ x ∈ a, 0 ≤ x ∧ x < 4096) (hal : a.length ≤ 4) (hb : ∀ x ∈ b, 0 ≤ x ∧ x < 4096) (hbl : b.length ≤ 4) : Sm 114 2 (.list [rowD a, rowD b]) := by
  have q : SmA (0 + 1 + 1) 56 1 [rowD a, rowD b] := SmA.cons (sm_row ha hal) (SmA.cons (sm_row hb hbl) SmA.nil)
  exact q.lst.up (by omega) (by omega)
theorem sum_bd {b : Int} : ∀ {xs : List Int}, (∀ x ∈ xs, 0 ≤ x ∧ x ≤ b) → 0 ≤ xs.sum ∧ xs.sum ≤ (xs.length : Int) * b
  | [], _ => by simp
  | x :: xs, h => by
    have h1 := h x List.mem_cons_self
    have h2 := sum_bd (xs := xs) fun y hy => h y (List.mem_cons_of_mem _ hy)
    rw [List.sum_cons, List.length_cons, Int.natCast_add, Int.add_mul]
    omega
theorem getD_bd {r : List Int} {b : Int} (h : ∀ x ∈ r, 0 ≤ x ∧ x ≤ b) (hb : 0 ≤ b) (i : Nat) : 0 ≤ r.getD i 0 ∧ r.getD i 0 ≤ b := by
  rw [List.getD_eq_getElem?_getD]
  cases e : r[i]? with
  | none => exact ⟨Int.le_refl _, hb⟩
  | some x => exact h x (List.mem_of_getElem? e)
structure Tx (K : PySem.W.Frag) (mg : Str → Option Value) (fN fU fTu fAu fIr fTk fDk fD fS fPl fNu fId fAy fOo fRp fNr : Addr) (dN dU dTu dAu dIr dTk dDk dD dS dPl dNu dId dAy dOo dRp dNr : FuncData) : Prop where
  N : Fun K "is_number" "is_number" sIsNum fN dN
  bN : Binds K dN ["value"] []
  gN : mg "is_number" = some (.ref fN)
  U : Fun K "is_number_up_to" "is_number_up_to" sUpTo fU dU
  bU : Binds K dU ["value", "most"] []
  gU : mg "is_number_up_to" = some (.ref fU)
  Tu : Fun K "is_tuple_of" "is_tuple_of" sTupOf fTu dTu
  bTu : Binds K dTu ["value", "fewest", "most"] []
  gTu : mg "is_tuple_of" = some (.ref fTu)
  Au : Fun K "are_numbers_up_to" "are_numbers_up_to" sNumsUp fAu dAu
  bAu : Binds K dAu ["value", "limits"] []
  gAu : mg "are_numbers_up_to" = some (.ref fAu)
  Ir : Fun K "is_draw" "is_draw" sIsDr fIr dIr
  bIr : Binds K dIr ["stock", "plan", "value"] []
  gIr : mg "is_draw" = some (.ref fIr)
  Tk : Fun K "is_taken_from" "is_taken_from" sTaken fTk dTk
  bTk : Binds K dTk ["drawer", "number", "value"] []
  gTk : mg "is_taken_from" = some (.ref fTk)
  Dk : Fun K "_law_deck" "_law_deck" sDeck fDk dDk
  bDk : Binds K dDk ["_law_script"] []
  gDk : mg "_law_deck" = some (.ref fDk)
  D : Fun K "_law_draw" "_law_draw" sDraw fD dD
  bD : Binds K dD ["_law_deck_here", "_law_bound"] []
  gD : mg "_law_draw" = some (.ref fD)
  S : Fun K "_law_stock" "_law_stock" sStock fS dS
  bS : Binds K dS ["_law_deck_here", "_law_drawers", "_law_kinds", "_law_most"] []
  gS : mg "_law_stock" = some (.ref fS)
  Pl : Fun K "_law_plan" "_law_plan" sLPlan fPl dPl
  bPl : Binds K dPl ["_law_deck_here", "_law_stock_here"] []
  gPl : mg "_law_plan" = some (.ref fPl)
  Nu : Fun K "_law_number" "_law_number" sNum fNu dNu
  bNu : Binds K dNu ["_law_value", "_law_low", "_law_high"] []
  gNu : mg "_law_number" = some (.ref fNu)
  Id : Fun K "_law_is_draw" "_law_is_draw" sIsDraw fId dId
  bId : Binds K dId ["_law_stock_here", "_law_plan_here", "_law_value"] []
  gId : mg "_law_is_draw" = some (.ref fId)
  Ay : Fun K "_law_any_draw" "_law_any_draw" sAnyDr fAy dAy
  bAy : Binds K dAy ["_law_deck_here", "_law_stock_here", "_law_plan_here"] []
  gAy : mg "_law_any_draw" = some (.ref fAy)
  Oo : Fun K "_law_odd" "_law_odd" sOdd fOo dOo
  bOo : Binds K dOo ["_law_deck_here"] []
  gOo : mg "_law_odd" = some (.ref fOo)
  Rp : Fun K "_law_replaced" "_law_replaced" sRepl fRp dRp
  bRp : Binds K dRp ["_law_deck_here", "_law_value", "_law_depth"] []
  gRp : mg "_law_replaced" = some (.ref fRp)
  Nr : Fun K "_law_near" "_law_near" sNear fNr dNr
  bNr : Binds K dNr ["_law_deck_here", "_law_draw_here"] []
  gNr : mg "_law_near" = some (.ref fNr)
  m_all : mg "all" = none
  m_range : mg "range" = none
  m_tuple : mg "tuple" = none
  m_zip : mg "zip" = none
  m_isinstance : mg "isinstance" = none
  m_list : mg "list" = none
  m_int : mg "int" = none
  m_max : mg "max" = none
  m_sum : mg "sum" = none
  m_bool : mg "bool" = none
  m_len : mg "len" = none
  m_abs : mg "abs" = none
  m_repr : mg "repr" = none
  m_str : mg "str" = none
end DD
namespace DD
open PySem PySem.Spec PyProof.Rows L2 RZ
theorem cat_gen {K : PySem.W.Frag} {H : Hp} {a b : Addr} {xs ys : List V} {Q : VK} (ha : H a = some (.tup xs)) (hb : H b = some (.tup ys)) (hl : xs.length + ys.length ≤ 1000)
    (q : ∀ p H', Same H H' → H' p = some (.tup (xs ++ ys)) → Q (.ref p) H') : rCatA K (.ref a) (.ref b) H Q := by
  refine ⟨a, b, xs, ys, rfl, rfl, SqT.of ha, SqT.of hb, Nat.le_of_lt (len_lt hl), fun e => ?_, fun _ e => ?_, fun _ _ p np => ?_⟩
  · subst e
    exact q b H (fun _ _ e => e) hb
  · subst e
    exact q a H (fun _ _ e => e) (by rw [List.append_nil]; exact ha)
  · exact q p _ (same_new np) upd_same
theorem sl_gen {K : PySem.W.Frag} {H : Hp} {a : Addr} {xs : List V} {lo hi : Option Int} {Q : VK} (ha : H a = some (.tup xs))
    (q : ∀ p H', Same H H' → H' p = some (.tup (cutV xs lo hi)) → Q (.ref p) H') : rSlA K (.ref a) lo hi H Q := by
  refine ⟨a, xs, rfl, SqT.of ha, fun e => ?_, fun _ p np => ?_⟩
  · refine q a H (fun _ _ e => e) ?_
    unfold cutV
    rw [e.1, e.2, Nat.sub_zero, List.drop_zero, List.take_length]
    exact ha
  · exact q p _ (same_new np) upd_same
theorem cut_to {r : List Int} {s : Nat} : cutV (r.map V.int) none (some (s : Int)) = (r.take s).map V.int := by
  unfold cutV
  rw [HT.sIx_none, HT.sIx_nat, List.drop_zero, Nat.sub_zero, List.length_map, ← List.map_take]
  congr 1
  by_cases h : s ≤ r.length
  · rw [Nat.min_eq_left h]
  · rw [Nat.min_eq_right (by omega), List.take_length, List.take_of_length_le (by omega)]
theorem cut_from {r : List Int} {s : Nat} : cutV (r.map V.int) (some (s : Int)) none = (r.drop s).map V.int := by
  unfold cutV
  rw [HT.sIx_none, HT.sIx_nat, List.length_map, ← List.map_drop, ← List.map_take]
  congr 1
  by_cases h : s ≤ r.length
  · rw [Nat.min_eq_left h, List.take_of_length_le (by rw [List.length_drop]; omega)]
  · rw [Nat.min_eq_right (by omega), List.drop_of_length_le (Nat.le_refl _), List.drop_of_length_le (by omega), List.take_nil]

/-! ### facts that stay while the deck turns -/
theorem tup_kp {H H' : Hp} {dk c p : Addr} {B : Nat} {xs : List V} (h : H p = some (.tup xs)) (d : Deck H dk c B) (k : Kp2 dk c H H') : H' p = some (.tup xs) := by
  obtain ⟨ns, t', h1, h2, _⟩ := d.ex
  exact k _ _ (fun z => by rw [z, h1] at h; cases h) (fun z => by rw [z, h2] at h; cases h) h
/-- a collection: n numbers from 0 to hi, one of them above 0 -/
structure Good (n : Nat) (hi : Int) (r : List Int) : Prop where
  len : r.length = n
  bd : ∀ x ∈ r, 0 ≤ x ∧ x ≤ hi
  pos : ∃ x ∈ r, 0 < x
/-- addresses of tuples of ints, row by row -/
def RowsAt (H : Hp) (ls : List Addr) (rows : List (List Int)) : Prop := ∀ (j : Nat) (l : Addr) (r : List Int), ls[j]? = some l → rows[j]? = some r → H l = some (.tup (r.map V.int))
theorem RowsAt.kp {H H' : Hp} {dk c : Addr} {B : Nat} {ls : List Addr} {rows : List (List Int)} (a : RowsAt H ls rows) (d : Deck H dk c B) (k : Kp2 dk c H H') : RowsAt H' ls rows :=
  fun j l r e1 e2 => tup_kp (a j l r e1 e2) d k
theorem RowsAt.same {H H' : Hp} {ls : List Addr} {rows : List (List Int)} (a : RowsAt H ls rows) (k : Same H H') : RowsAt H' ls rows := fun j l r e1 e2 => k _ _ (a j l r e1 e2)
/-- a list that changes is none of the rows -/
theorem RowsAt.updL {H : Hp} {F : Addr} {xs : List V} {o : HO} {ls : List Addr} {rows : List (List Int)} (a : RowsAt H ls rows) (h : H F = some (.lst xs)) : RowsAt (upd H F o) ls rows := fun j l r e1 e2 => by
  have h2 := a j l r e1 e2
  rw [upd_ne (fun z => by rw [z, h] at h2; cases h2)]
  exact h2
theorem RowsAt.snoc {H : Hp} {ls : List Addr} {rows : List (List Int)} {l : Addr} {r : List Int} (a : RowsAt H ls rows) (hl : ls.length = rows.length) (h : H l = some (.tup (r.map V.int))) : RowsAt H (ls ++ [l]) (rows ++ [r]) := by
  intro j l' r' x1 x2
  by_cases hj : j < ls.length
  · rw [List.getElem?_append_left hj] at x1
    rw [List.getElem?_append_left (by omega)] at x2
    exact a j l' r' x1 x2
  · have hj2 : j = ls.length := by
      have := (List.getElem?_eq_some_iff.mp x1).1
      rw [List.length_append] at this
      simp at this
      omega
    subst hj2
    rw [List.getElem?_append_right (Nat.le_refl _), Nat.sub_self] at x1
    rw [hl, List.getElem?_append_right (Nat.le_refl _), Nat.sub_self] at x2
    obtain rfl : l = l' := Option.some.inj x1
    obtain rfl : r = r' := Option.some.inj x2
    exact h
theorem RowsAt.init {H : Hp} {ls : List Addr} {rows : List (List Int)} {l : Addr} {r : List Int} (a : RowsAt H (ls ++ [l]) (rows ++ [r])) : RowsAt H ls rows := fun j l' r' x1 x2 =>
  a j l' r' (by rw [List.getElem?_append_left (List.getElem?_eq_some_iff.mp x1).1]; exact x1) (by rw [List.getElem?_append_left (List.getElem?_eq_some_iff.mp x2).1]; exact x2)
theorem Kp2.updF {H H' : Hp} {dk c F : Addr} {o : HO} (k : Kp2 dk c H H') (n : H F = none) : Kp2 dk c H (upd H' F o) := fun b o' h1 h2 e => by
  rw [upd_ne (ne_of_none e n)]
  exact k b o' h1 h2 e

theorem cutV_all {xs : List V} {lo hi : Option Int} (h : HT.sIx xs.length 0 lo = 0 ∧ HT.sIx xs.length xs.length hi = xs.length) : cutV xs lo hi = xs := by
  unfold cutV
  rw [h.1, h.2, List.drop_zero, Nat.sub_zero, List.take_length]
def rSlQ : V → Option Int → Option Int → Hp → VK → Prop := fun x lo hi H Q => ∃ a xs, x = .ref a ∧ H a = some (.tup xs) ∧ ∀ p H', Same H H' → H' p = some (.tup (cutV xs lo hi)) → Q (.ref p) H'
theorem sl_tupQ {X : Cx} : SlR X rSlQ := by
  intro pins s σ H x v vl vu lo hi sl Q I rx h1 h2 h3 h
  obtain ⟨a, xs, rfl, ha, q⟩ := h
  refine sl_tupA pins s σ H _ v vl vu lo hi sl Q I rx h1 h2 h3 ⟨a, xs, rfl, SqT.of ha, fun e => q a H (Same.refl _) (by rw [cutV_all e]; exact ha), fun _ p np => q p _ (same_new np) upd_same⟩
def rCatQ : R2 := fun x y H Q => ∃ a b xs ys, x = .ref a ∧ y = .ref b ∧ H a = some (.tup xs) ∧ H b = some (.tup ys) ∧ xs.length + ys.length ≤ 1000 ∧ ∀ p H', Same H H' → H' p = some (.tup (xs ++ ys)) → Q (.ref p) H'
theorem op_catQ {X : Cx} : OpR X (binaryOp .Add) rCatQ := by
  intro pins s σ H x y v u Q I rx ry h
  obtain ⟨a, b, xs, ys, rfl, rfl, ha, hb, hl, q⟩ := h
  refine op_catA pins s σ H _ _ v u Q I rx ry ⟨a, b, xs, ys, rfl, rfl, SqT.of ha, SqT.of hb, Nat.le_of_lt (len_lt hl), fun e => q b H (Same.refl _) ?_, fun _ e => q a H (Same.refl _) ?_, fun _ _ p np => q p _ (same_new np) upd_same⟩
  · rw [e]
    exact hb
  · rw [e, List.append_nil]
    exact ha
theorem meets_mul1 (l : Addr) (items : Array Value) (n : Nat) (dd : Option Addr) (sl : Array (Option Value)) (u : Tok) (hi : items.isEmpty = false) : Meets (Builtin.«tuple.__mul__» { pos := [Value.ref l, Value.int 1 u] })
    (fun _ R s => s.heap.get? l = some { cls := Value.type "tuple", dict := dd, data := Data.seq items n, slots := sl } ∧ R (Except.ok (Flow.ret (Value.ref l))) s) :=
  .of_wp fun prog w A R s h => by
    obtain ⟨hp, g, d, tk, os⟩ := s
    obtain ⟨h1, h⟩ := h
    have h2 : hp.get? l = some { cls := Value.type "tuple", dict := dd, data := Data.seq items n, slots := sl } := h1
    wp_walk
    exact ⟨_, rfl, h⟩
def rRepQ : R2 := fun x y H Q => ∃ l k xs, x = .ref l ∧ y = .int k ∧ H l = some (.tup xs) ∧ xs ≠ [] ∧ 1 ≤ k ∧ k ≤ 1000 ∧ xs.length ≤ 1000 ∧ ∀ p H', Same H H' → H' p = some (.tup (List.replicate k.toNat xs).flatten) → Q (.ref p) H'
theorem op_repQ {X : Cx} : OpR X (binaryOp .Mult) rRepQ := by
  intro pins s σ H x y v u Q I rx ry h
  obtain ⟨l, k, xs, rfl, rfl, hl, hx, k1, k2, hn, q⟩ := h
  by_cases hk : 2 ≤ k
  · exact op_repT pins s σ H _ _ v u Q I rx ry ⟨l, k, xs, rfl, rfl, SqT.of hl, hx, hk, k2, hn, fun p np => q p _ (same_new np) upd_same⟩
  · obtain rfl : k = 1 := by omega
    cases rx
    obtain ⟨t, rfl⟩ := ry
    obtain ⟨its, rv, ⟨o, h1, h2, n, h3⟩, hz⟩ := I.tuple (SqT.of (K := X.K) hl)
    obtain ⟨oc, od, oda, osl⟩ := o
    simp only at h2 h3
    subst h2 h3
    have he : its.toArray.isEmpty = false := by
      cases rv with
      | nil => exact absurd rfl hx
      | cons _ _ => rfl
    refine wpAny_binaryOp_repeat_ref (T := "tuple") (U := "int") (by decide) ⟨_, h1, rfl⟩ (fun s' => typeIs_int s' _ _) noFill_tuple_mul F.fills_int_mul F.slot_int_rmul repeat_tuple (F.slot_int_index.lookup) ?_
    refine call_meets F.slot_int_rmul (typeIs_int _ _ _) F.entry_int_rmul (F.args_int_rmul_2 _ _) (int_rmul_tuple _ _ _ _ _ _ _) ⟨h1, rfl, ⟨_, h1, rfl⟩, ?_⟩
    refine call_meets F.slot_tuple_mul ⟨_, h1, rfl⟩ F.entry_tuple_mul (F.args_tuple_mul_2 _ _) (meets_mul1 l its.toArray n od osl t he) ⟨h1, ⟨.ref l, H, I, rfl, q l H (Same.refl _) ?_⟩⟩
    rw [hl]
    show _ = some (HO.tup (List.replicate 1 xs).flatten)
    rw [List.replicate_one, List.flatten_singleton]

theorem rep_one {z : Int} {n : Nat} : (List.replicate n [V.int z]).flatten = (List.replicate n z).map V.int := by
  induction n with
  | zero => rfl
  | succ n ih => rw [List.replicate_succ, List.flatten_cons, ih, List.replicate_succ]; rfl
theorem three_at {r a b c : Int} (h0 : 0 ≤ r) (h : r < 3) : ∃ z : Int, (z = a ∨ z = b ∨ z = c) ∧ atI [V.int a, V.int b, V.int c] r = some (.int z) := by
  have e : r = 0 ∨ r = 1 ∨ r = 2 := by omega
  rcases e with rfl | rfl | rfl
  · exact ⟨a, .inl rfl, rfl⟩
  · exact ⟨b, .inr (.inl rfl), rfl⟩
  · exact ⟨c, .inr (.inr rfl), rfl⟩
def TK (H H' : Hp) : Prop := ∀ b xs, H b = some (.tup xs) → H' b = some (.tup xs)
theorem TK.refl {H : Hp} : TK H H := fun _ _ e => e
theorem TK.trans {H H1 H2 : Hp} (a : TK H H1) (b : TK H1 H2) : TK H H2 := fun c xs e => b c xs (a c xs e)
theorem TK.same {H H' : Hp} (s : Same H H') : TK H H' := fun b xs e => s _ _ e
theorem TK.kp {H H' : Hp} {dk c : Addr} {B : Nat} (d : Deck H dk c B) (k : Kp2 dk c H H') : TK H H' := fun b xs e => tup_kp e d k
theorem TK.lst {H : Hp} {D : Addr} {xs : List V} {o : HO} (h : H D = some (.lst xs)) : TK H (upd H D o) := fun b ys e => by
  rw [upd_ne (fun z => by rw [z, h] at e; cases e)]
  exact e
theorem StockAt.tk {H H' : Hp} {t : Addr} {ls : List Addr} {rows : List (List Int)} (a : StockAt H t ls rows) (k : TK H H') : StockAt H' t ls rows :=
  ⟨k _ _ a.top, a.len, fun j l r e1 e2 => k _ _ (a.row j l r e1 e2)⟩

theorem log2_lt_20 {n : Nat} (h : n < 1048576) : n.log2 ≤ 19 := by
  by_cases h0 : n = 0
  · subst h0; decide
  · have := (Nat.log2_lt h0 (k := 20)).mpr (by omega)
    omega
theorem Sm.intM {i : Int} (h0 : 0 ≤ i) (h : i < 1048576) : Sm 21 0 (.int i) where
  lay := rfl
  short := by
    refine decide_eq_true ?_
    have e := PyProof.Rows.toString_length_le (v := i) (k := 7) h0 (by decide) (by omega)
    exact Nat.le_trans e (by decide)
  show_ := decide_eq_true (by have := log2_lt_20 (n := i.natAbs) (by omega); omega)
  wt := by
    have := log2_lt_20 (n := i.natAbs) (by omega)
    show (if i == 0 then 0 else i.natAbs.log2 + 1) ≤ 21
    split
    · omega
    · omega
  dp := Nat.le_refl _
end DD
namespace DD
open PySem PySem.Spec PyProof.Rows L2
theorem fdiv2 (hi : Int) (h : 0 ≤ hi) : 0 ≤ hi.fdiv 2 ∧ 2 * hi.fdiv 2 ≤ hi := by
  rw [Int.fdiv_eq_ediv_of_nonneg _ (by decide)]
  omega
abbrev NS : List Str := ["_law_deck_here", "_law_drawers", "_law_kinds", "_law_most", "_law_many", "_law_long", "_law_bound", "_law_found", "_law_drawer", "_law_kind"]
theorem scStock : FnScope NS ["_law_deck_here", "_law_drawers", "_law_kinds", "_law_most"] (defScope sStock) := ⟨rfl, rfl, rfl, by decide +kernel, rfl, by decide +kernel, by decide +kernel⟩
section
variable {P : Program} {w : World} {K : PySem.W.Frag} {mg : Str → Option Value} {base : Heap}
/-- a stock of one to M drawers of one to N kinds, of numbers from 0 to hi -/
def spStock : Sp := fun vs H Q _ => ∃ (dk c : Addr) (B M N : Nat) (hi : Int), vs = [.ref dk, .int M, .int N, .int hi] ∧ Deck H dk c B ∧ 1 ≤ M ∧ M ≤ 4 ∧ 1 ≤ N ∧ N ≤ 4 ∧ B + 40 ≤ 1000000 ∧ 1 ≤ hi ∧ hi ≤ 900 ∧
  ∀ t (ls : List Addr) (rows : List (List Int)) (n : Nat) H', 1 ≤ rows.length → rows.length ≤ M → 1 ≤ n → n ≤ N → (∀ row ∈ rows, row.length = n ∧ ∀ x ∈ row, 0 ≤ x ∧ x ≤ hi) → StockAt H' t ls rows → Kp2 dk c H H' → Deck H' dk c (B + 40) → Q (.ref t) H'
set_option maxHeartbeats 800000 in
theorem ok_stock {f fN fU fTu fAu fIr fTk fDk fD fS fPl fNu fId fAy fOo fRp fNr : Addr} {fd dN dU dTu dAu dIr dTk dDk dD dS dPl dNu dId dAy dOo dRp dNr : FuncData} {k : Nat} (F : Fun K "_law_stock" "_law_stock" sStock f fd) (T : Tx K mg fN fU fTu fAu fIr fTk fDk fD fS fPl fNu fId fAy fOo fRp fNr dN dU dTu dAu dIr dTk dDk dD dS dPl dNu dId dAy dOo dRp dNr) :
    FnOk P w K mg base CX0 (k + 2) f fd ["_law_deck_here", "_law_drawers", "_law_kinds", "_law_most"] spStock := by
  have GD : FnOk P w K mg base CX0 (k + 1) fD dD ["_law_deck_here", "_law_bound"] spDraw := ok_draw T.D T.m_len T.m_max
  refine F.ok scStock (fun vs H Q E h => ?_) (fun cdv A outer s H vs Q E hr h => ?_)
  · obtain ⟨dk, c, B, M, N, hi, rfl, _⟩ := h
    rfl
  · obtain ⟨dk, c, B, M, N, hi, rfl, dek, hM1, hM4, hN1, hN4, hB, h0, h9, q⟩ := h
    refine ⟨_, (pss_cons (ps_par (i := 4) (j := 5) (by rfl) scStock.nd rfl rfl (by decide) rfl rfl (pa_cons (pe_op op_add pe_int (pe_call GD (hr.mono (by omega)) (by rfl) T.gD T.D.kp T.bD .nil pass0 (pa_cons (pv 0) (pa_cons (pv 1) pa_nil)))) (pa_cons (pe_op op_add pe_int (pe_call GD (hr.mono (by omega)) (by rfl) T.gD T.D.kp T.bD .nil pass0 (pa_cons (pv 0) (pa_cons (pv 2) pa_nil)))) pa_nil)) (by rfl))
      (pss_cons (ps_set (i := 6) scStock.nd rfl (.inr rfl) (pe_ix (show IxR _ (rIxL K) from ix_list) (pe_lst (pa_cons pe_int (pa_cons (pe_op op_add pe_int (pe_op op_fdivN (pv 3) pe_int)) (pa_cons (pe_op op_add pe_int (pv 3)) pa_nil)))) (pe_call GD (hr.mono (by omega)) (by rfl) T.gD T.D.kp T.bD .nil pass0 (pa_cons (pv 0) (pa_cons pe_int pa_nil))) (fun _ _ => rfl)))
      (pss_cons (ps_set (i := 7) scStock.nd rfl (.inl rfl) (pe_lst pa_nil))
      (pss_cons (ps_for PassesOwn.never rfl (pi_range1 (by rfl) T.m_range (pa_cons (pv 4) pa_nil)) (pg_name (i := 8) scStock.nd rfl (Or.inl rfl)) (pss_one (ps_expr (pe_bm PySem.F.plainAttrs_list PySem.F.slot_list_append PySem.F.type_list_append mt_append (pv 7) (pa_cons (pe_callTy call_tuple_of (by rfl) T.m_tuple (by decide +kernel) (pa_cons (pe_lc (own := [("_law_kind", 9)]) (g := gName 9) rfl scStock.nd (pi_range1 (by rfl) T.m_range (pa_cons (pv 5) pa_nil)) (blkOk_by (own := [("_law_kind", 9)]) (N := NS) (sc := defScope sStock) (by decide +kernel)) (fun _ _ _ _ _ => (pg_name (i := 9) scStock.nd rfl (Or.inl rfl))) (fun _ _ _ _ _ => pts_nil) (fun _ _ _ _ _ => (pe_op op_mul (pe_call GD (hr.mono (by omega)) (by rfl) T.gD T.D.kp T.bD .nil pass0 (pa_cons (pv 0) (pa_cons (pv 6) pa_nil))) (pe_callTy call_int1 (by rfl) T.m_int (by decide +kernel) (pa_cons (pe_cmpR op_gt (pe_call GD (hr.mono (by omega)) (by rfl) T.gD T.D.kp T.bD .nil pass0 (pa_cons (pv 0) (pa_cons pe_int pa_nil))) pe_int (nomark _)) pa_nil))))) pa_nil)) pa_nil)))))
      (pss_one (ps_ret (pe_callTy call_tuple_of (by rfl) T.m_tuple (by decide +kernel) (pa_cons (pv 7) pa_nil)))))))), ?_⟩
    -- many, long
    refine ⟨_, rfl, _, rfl, dk, c, B, M, rfl, dek, by omega, by omega, by omega, fun r1 H1 a0 a1 k1 d1 => ?_⟩
    refine ⟨1, r1, rfl, rfl, _, rfl, _, rfl, dk, c, B + 1, N, rfl, d1, by omega, by omega, by omega, fun r2 H2 b0 b1 k2 d2 => ?_⟩
    refine ⟨1, r2, rfl, rfl, _, _, rfl, ?_⟩
    -- bound
    refine ⟨_, rfl, hi, 2, rfl, rfl, ⟨by decide, by decide⟩, 1, _, rfl, rfl, _, rfl, 1, hi, rfl, rfl, by show 3 ≤ sizeLine; decide, fun l nl => ?_⟩
    refine ⟨_, rfl, dk, c, B + 2, 3, rfl, d2.kp nl, by omega, by decide, by decide, fun r3 H3 c0 c1 k3 d3 => ?_⟩
    have lne := d2.nedk nl
    have hl3 : H3 l = some (.lst [V.int 2, V.int (1 + hi.fdiv 2), V.int (1 + hi)]) := k3 _ _ lne.1 lne.2 upd_same
    obtain ⟨z, hz, ez⟩ := three_at (a := 2) (b := 1 + hi.fdiv 2) (c := 1 + hi) c0 c1
    have k03 : Kp2 dk c H H3 := k1.trans (k2.trans ((kps (same_new nl)).trans k3))
    have hz1 : 1 ≤ z ∧ z ≤ hi + 1 := by
      have := fdiv2 hi (by omega)
      rcases hz with rfl | rfl | rfl <;> omega
    refine ⟨l, _, r3, .int z, rfl, rfl, SqL.of hl3, ez, ?_⟩
    obtain ⟨cnt, hcnt, hc1, hc4⟩ : ∃ cnt : Nat, 1 + r1 = (cnt : Int) ∧ 1 ≤ cnt ∧ cnt ≤ M := ⟨(1 + r1).toNat, by omega, by omega, by omega⟩
    obtain ⟨n, hn, hn1, hn4⟩ : ∃ n : Nat, 1 + r2 = (n : Int) ∧ 1 ≤ n ∧ n ≤ N := ⟨(1 + r2).toNat, by omega, by omega, by omega⟩
    -- found = []
    refine ⟨Nat.zero_le _, fun D nD => ?_⟩
    have dne := d3.nedk nD
    refine ⟨_, rfl, (cnt : Int), congrArg (fun x => [V.int x]) hcnt, by omega, by omega, ?_⟩
    refine for_range (lo := 0) (n := cnt) (fun i σ H' => ∃ (ls : List Addr) (rows : List (List Int)) (y8 y9 : Option V), σ = [some (.ref dk), some (.int M), some (.int N), some (.int hi), some (.int (1 + r1)), some (.int (1 + r2)), some (.int z), some (.ref D), y8, y9] ∧ rows.length = i ∧ (∀ row ∈ rows, row.length = n ∧ ∀ x ∈ row, 0 ≤ x ∧ x ≤ hi) ∧ ls.length = rows.length ∧
        (∀ (j : Nat) (l : Addr) (r : List Int), ls[j]? = some l → rows[j]? = some r → H' l = some (.tup (r.map V.int))) ∧ H' D = some (.lst (ls.map V.ref)) ∧ Kp2 dk c H3 H' ∧ Deck H' dk c (B + 3 + 8 * i))
      ⟨[], [], none, none, rfl, rfl, (fun x h => by cases h), rfl, (fun j l r e => by simp at e), upd_same, kps (same_new nD), (d3.kp nD).up (by omega)⟩ (fun i σ H' hi' h => ?_) (fun σ H' h => ?_)
    · obtain ⟨ls, rows, y8, y9, rfl, hl, hrow, hll, hat, hD, kp, dk1⟩ := h
      refine ⟨.ref D, rfl, .inl ⟨rfl, _, SqL.of hD⟩, _, rfl, (n : Int), congrArg (fun x => [V.int x]) hn, by omega, by omega, fun D2 nD2 => ?_⟩
      have dne2 := dk1.nedk nD2
      have hDD2 : D ≠ D2 := ne_of_none hD nD2
      refine lc_range (lo := 0) (n := n) (fun j H4 => ∃ row : List Int, row.length = j ∧ (∀ x ∈ row, 0 ≤ x ∧ x ≤ hi) ∧ H4 D2 = some (.lst (row.map V.int)) ∧ Kp2 dk c H' H4 ∧ Deck H4 dk c (B + 3 + 8 * i + 2 * j))
        ⟨[], rfl, (fun x h => by cases h), upd_same, kps (same_new nD2), dk1.kp nD2⟩ (fun j H4 hj h => ?_) (fun H4 h => ?_)
      · obtain ⟨row, hrl, hrb, hD4, kp4, dk4⟩ := h
        have hj4 : j < 4 := by omega
        refine ⟨rfl, _, rfl, _, rfl, dk, c, _, z, rfl, dk4, by omega, by omega, by omega, fun q1 H5 e0 e1 k5 d5 => ?_⟩
        refine ⟨_, rfl, dk, c, _, 5, rfl, d5, by omega, by decide, by decide, fun q2 H6 f0 f1 k6 d6 => ?_⟩
        refine ⟨q2, 0, rfl, rfl, .inr ⟨_, rfl, q1, _, rfl, rfl, .inr ?_, ?_⟩⟩
        · split <;> decide
        have hD6 : H6 D2 = some (.lst (row.map V.int)) := k6 _ _ dne2.1 dne2.2 (k5 _ _ dne2.1 dne2.2 hD4)
        refine ⟨_, hD6, ?_, row ++ [q1 * (if decide (q2 > 0) = true then 1 else 0)], ?_, ?_, ?_, ?_, ?_⟩
        · rw [List.length_map]
          exact len_lt (by omega)
        · rw [List.length_append, hrl]
          rfl
        · intro x hx
          rcases List.mem_append.mp hx with h | h
          · exact hrb x h
          · rw [List.mem_singleton.mp h]
            split
            · rw [Int.mul_one]
              omega
            · rw [Int.mul_zero]
              omega
        · rw [upd_same, List.map_append]
          rfl
        · intro b' o h1 h2 e
          have e3 := k6 b' o h1 h2 (k5 b' o h1 h2 (kp4 b' o h1 h2 e))
          rw [upd_ne (ne_of_none e nD2)]
          exact e3
        · exact (d6.updD dne2.1 dne2.2).up (by omega)
      · obtain ⟨row, hrl, hrb, hD4, kp4, dk4⟩ := h
        refine ⟨D2, _, rfl, .inl ⟨SqL.of hD4, fun t nt => ?_⟩⟩
        have st : Same H4 (upd H4 t (.tup (row.map V.int))) := same_new nt
        have hD5 := st _ _ (kp4 _ _ dne.1 dne.2 hD)
        have tD : t ≠ D := fun z => by
          have := kp4 _ _ dne.1 dne.2 hD
          rw [z] at nt
          rw [nt] at this
          cases this
        refine ⟨D, _, .ref t, rfl, rfl, hD5, ?_, ls ++ [t], rows ++ [row], _, _, rfl, ?_, ?_, ?_, ?_, ?_, ?_, ?_⟩
        · rw [List.length_map]
          exact len_lt (by omega)
        · rw [List.length_append, hl]
          rfl
        · intro x hx
          rcases List.mem_append.mp hx with h | h
          · exact hrow x h
          · rw [List.mem_singleton.mp h]
            exact ⟨hrl, hrb⟩
        · rw [List.length_append, List.length_append, hll]
          rfl
        · intro j l' r' x1 x2
          by_cases hj : j < ls.length
          · rw [List.getElem?_append_left hj] at x1
            rw [List.getElem?_append_left (by omega)] at x2
            have h := hat j l' r' x1 x2
            have hne : l' ≠ D := fun z => by rw [z, hD] at h; cases h
            obtain ⟨ns, t', h1, h2, _⟩ := dk1.ex
            rw [upd_ne hne]
            exact st _ _ (kp4 _ _ (fun z => by rw [z, h1] at h; cases h) (fun z => by rw [z, h2] at h; cases h) h)
          · have hj2 : j = ls.length := by
              have := (List.getElem?_eq_some_iff.mp x1).1
              rw [List.length_append] at this
              simp at this
              omega
            subst hj2
            rw [List.getElem?_append_right (Nat.le_refl _), Nat.sub_self] at x1
            rw [hll, List.getElem?_append_right (Nat.le_refl _), Nat.sub_self] at x2
            obtain rfl : t = l' := Option.some.inj x1
            obtain rfl : row = r' := Option.some.inj x2
            rw [upd_ne tD]
            exact upd_same
        · rw [upd_same, List.map_append]
          rfl
        · intro b o h1 h2 e
          have hne : b ≠ D := ne_of_none e nD
          rw [upd_ne hne]
          exact st _ _ (kp4 b o h1 h2 (kp b o h1 h2 e))
        · exact (((dk4.kp nt).updD dne.1 dne.2)).up (by omega)
    · obtain ⟨ls, rows, y8, y9, rfl, hl, hrow, hll, hat, hD, kp, dk1⟩ := h
      refine ⟨_, rfl, D, _, rfl, .inl ⟨SqL.of hD, fun t nt => ?_⟩⟩
      refine q t ls rows n _ (by omega) (by omega) hn1 hn4 hrow ⟨upd_same, hll, fun j l' r' x1 x2 => ?_⟩ (k03.trans (kp.trans (kps (same_new nt)))) ((dk1.kp nt).up (by omega))
      exact same_new nt _ _ (hat j l' r' x1 x2)
end
end DD
namespace DD
open PySem PySem.Spec PyProof.Rows L2
theorem ints_of_vals : ∀ {ns : List Int} {us : List Value}, Vals (ns.map V.int) us → PyProof.Rows.IntsAre us ns
  | [], _, h => by
    cases h
    exact .nil
  | n :: ns, _, h => by
    cases h with
    | cons r t =>
      obtain ⟨k, rfl⟩ := r
      exact .cons n k (ints_of_vals t)
/-- sum of a tuple of ints -/
theorem cr_sumT {X : Cx} (hc : X.calm = true) : CallR X (.builtin "sum") (fun vs H Q => ∃ (a : Addr) (ns : List Int), vs = [V.ref a] ∧ SqT X.K H a (ns.map V.int) ∧ Q (.int ns.sum) H) := by
  intro pins s σ H xs us Q I r h
  obtain ⟨a, ns, rfl, hq, q⟩ := h
  obtain ⟨u, rfl, ru⟩ := vals1 r
  cases ru
  obtain ⟨its, rv, ⟨o, ho, hcl, n, hd⟩, _⟩ := I.tuple hq
  have ia := ints_of_vals rv
  obtain ⟨xs, e⟩ := ia.allInts.items
  have hn : numsOf (intItems xs).toList = ns := by rw [← e]; exact ia.numsOf
  rw [nums_intItems] at hn
  have ht : s.heap.IsTuple a (intItems xs) := by rw [← e]; exact ⟨o, ho, hcl, n, hd⟩
  refine PySem.W.ktm_sumG (I.ok.hd hc) ht fun h' tk t' hk => ?_
  rw [preSum_eq, List.take_of_length_le (by simp), hn]
  exact ⟨.int ns.sum, H, I.kept hk, ⟨t', rfl⟩, q⟩

def sizesOf (rows : List (List Int)) : List Int := rows.map List.sum
/-- the sums of the columns 0 .. m - 1 -/
def totalsOf (rows : List (List Int)) (m : Nat) : List Int := (List.range m).map fun i => (rows.map fun r => r.getD i 0).sum

theorem iteNx {b : Bool} {A B : Prop} (h : b = false) (hB : B) : if b = true then A else B := by
  rw [h]
  exact hB

end DD
namespace DD
open PySem PySem.Spec PyProof.Rows L2 RZ DM
theorem getD_of {α : Type} {xs : List α} {i : Nat} {d : α} (h : i < xs.length) : xs[i]? = some (xs.getD i d) := by
  rw [List.getD_eq_getElem?_getD, List.getElem?_eq_getElem h]
  rfl
theorem perm_sum {xs ys : List Int} (h : xs.Perm ys) : xs.sum = ys.sum := by
  induction h with
  | nil => rfl
  | cons x _ ih => rw [List.sum_cons, List.sum_cons, ih]
  | swap x y l => simp only [List.sum_cons]; omega
  | trans _ _ a b => exact a.trans b
theorem set_sum {pl : List Int} {v : Int} : ∀ {j : Nat}, j < pl.length → (pl.set j v).sum = pl.sum - pl.getD j 0 + v := by
  induction pl with
  | nil => intro j h; simp at h
  | cons x xs ih =>
    intro j h
    cases j with
    | zero =>
      show (v :: xs).sum = _
      rw [List.sum_cons, List.sum_cons]
      show v + xs.sum = x + xs.sum - x + v
      omega
    | succ j =>
      show (x :: xs.set j v).sum = (x :: xs).sum - xs.getD j 0 + v
      rw [List.sum_cons, List.sum_cons, ih (by simpa using h)]
      omega
theorem setD {pl : List Int} {j i : Nat} {v : Int} (h : j < pl.length) : (pl.set j v).getD i 0 = if j = i then v else pl.getD i 0 := by
  rw [List.getD_eq_getElem?_getD, List.getElem?_set, List.getD_eq_getElem?_getD]
  by_cases e : j = i
  · rw [if_pos e, if_pos e, if_pos h]
    rfl
  · rw [if_neg e, if_neg e]
def sizeAt (rows : List (List Int)) (j : Nat) : Int := (rows.getD j []).sum
structure Rb (rows : List (List Int)) (n : Nat) : Prop where
  r1 : 1 ≤ rows.length
  r4 : rows.length ≤ 4
  n1 : 1 ≤ n
  n4 : n ≤ 4
  rw : ∀ r ∈ rows, r.length = n ∧ ∀ x ∈ r, 0 ≤ x ∧ x ≤ 50
theorem Rb.size {rows : List (List Int)} {n : Nat} (b : Rb rows n) {r : List Int} (h : r ∈ rows) : 0 ≤ r.sum ∧ r.sum ≤ 200 := by
  obtain ⟨h1, h2⟩ := b.rw r h
  have := sum_bd h2
  have n4 := b.n4
  rw [h1] at this
  exact ⟨this.1, by omega⟩
theorem Rb.at_ {rows : List (List Int)} {n j : Nat} (b : Rb rows n) (h : j < rows.length) : 0 ≤ sizeAt rows j ∧ sizeAt rows j ≤ 200 := b.size (List.mem_of_getElem? (getD_of (d := []) h))
abbrev NPl : List Str := ["_law_deck_here", "_law_stock_here", "_law_way", "_law_found", "_law_row", "_law_size", "_law_some"]
theorem scLPlan : FnScope NPl ["_law_deck_here", "_law_stock_here"] (defScope sLPlan) := ⟨rfl, rfl, rfl, by decide +kernel, rfl, by decide +kernel, by decide +kernel⟩
section
variable {P : Program} {w : World} {K : PySem.W.Frag} {mg : Str → Option Value} {base : Heap}
def spLPlan : Sp := fun vs H Q _ => ∃ (dk c t : Addr) (B : Nat) (ls : List Addr) (rows : List (List Int)) (n : Nat), vs = [.ref dk, .ref t] ∧ Deck H dk c B ∧ B + 40 ≤ 1000000 ∧ StockAt H t ls rows ∧ Rb rows n ∧
  ∀ (p : Addr) (ps : List Int) H', ps.length = rows.length → (∀ j, j < rows.length → 0 ≤ ps.getD j 0 ∧ ps.getD j 0 ≤ sizeAt rows j) → H' p = some (.tup (ps.map V.int)) → Kp2 dk c H H' → Deck H' dk c (B + 20) → Q (.ref p) H'
theorem ok_lplan {f fN fU fTu fAu fIr fTk fDk fD fS fPl fNu fId fAy fOo fRp fNr : Addr} {fd dN dU dTu dAu dIr dTk dDk dD dS dPl dNu dId dAy dOo dRp dNr : FuncData} {k : Nat} (F : Fun K "_law_plan" "_law_plan" sLPlan f fd) (T : Tx K mg fN fU fTu fAu fIr fTk fDk fD fS fPl fNu fId fAy fOo fRp fNr dN dU dTu dAu dIr dTk dDk dD dS dPl dNu dId dAy dOo dRp dNr) :
    FnOk P w K mg base CX0 (k + 2) f fd ["_law_deck_here", "_law_stock_here"] spLPlan := by
  have GD : FnOk P w K mg base CX0 (k + 1) fD dD ["_law_deck_here", "_law_bound"] spDraw := ok_draw T.D T.m_len T.m_max
  refine F.ok scLPlan (fun vs H Q E h => ?_) (fun cdv A outer s H vs Q E hr h => ?_)
  · obtain ⟨dk, c, t, B, ls, rows, n, rfl, _⟩ := h
    rfl
  · obtain ⟨dk, c, t, B, ls, rows, n, rfl, dek, hB, st, rb, q⟩ := h
    have hr4 := rb.r4
    refine ⟨_, (pss_cons (ps_par (i := 2) (j := 3) (by rfl) scLPlan.nd rfl rfl (by decide) rfl rfl (pa_cons (pe_call GD (hr.mono (by omega)) (by rfl) T.gD T.D.kp T.bD .nil pass0 (pa_cons (pv 0) (pa_cons pe_int pa_nil))) (pa_cons (pe_lst pa_nil) pa_nil)) (by rfl))
      (pss_cons (ps_for PassesOwn.never rfl (pi_tup (pv 1)) (pg_name (i := 4) scLPlan.nd rfl (Or.inl rfl)) (pss_cons (ps_set (i := 5) scLPlan.nd rfl (.inl rfl) (pe_callB (show CallR _ _ (fun vs H Q => ∃ (a : Addr) (ns : List Int), vs = [V.ref a] ∧ SqT K H a (ns.map V.int) ∧ Q (.int ns.sum) H) from cr_sumT rfl) (by rfl) T.m_sum (by decide +kernel) (pa_cons (pv 4) pa_nil)))
      (pss_cons (ps_set (i := 6) scLPlan.nd rfl (.inl rfl) (pe_lst (pa_cons (pe_call GD (hr.mono (by omega)) (by rfl) T.gD T.D.kp T.bD .nil pass0 (pa_cons (pv 0) (pa_cons (pe_op op_add (pv 5) pe_int) pa_nil))) (pa_cons (pe_op op_mul (pv 5) (pe_call GD (hr.mono (by omega)) (by rfl) T.gD T.D.kp T.bD .nil pass0 (pa_cons (pv 0) (pa_cons pe_int pa_nil)))) (pa_cons (pe_callB (call_max2 rfl) (by rfl) T.m_max (by decide +kernel) (pa_cons pe_int (pa_cons (pe_op op_sub (pv 5) (pe_call GD (hr.mono (by omega)) (by rfl) T.gD T.D.kp T.bD .nil pass0 (pa_cons (pv 0) (pa_cons pe_int pa_nil)))) pa_nil))) pa_nil)))))
      (pss_one (ps_expr (pe_bm PySem.F.plainAttrs_list PySem.F.slot_list_append PySem.F.type_list_append mt_append (pv 3) (pa_cons (pe_ix (show IxR _ (rIxL K) from ix_list) (pv 6) (pv 2) (fun _ _ => rfl)) pa_nil)))))))
      (pss_one (ps_ret (pe_callTy call_tuple_of (by rfl) T.m_tuple (by decide +kernel) (pa_cons (pv 3) pa_nil)))))), ?_⟩
    refine ⟨_, rfl, dk, c, B, 3, rfl, dek, by omega, by decide, by decide, fun wy H1 w0 w1 k1 d1 => ?_⟩
    refine ⟨Nat.zero_le _, fun F nF => ?_⟩
    have k2 := k1.trans (kps (same_new (o := .lst []) nF))
    have d2 := d1.kp (o := .lst []) nF
    have fne := d1.nedk nF
    have hF2 : (upd H1 F (.lst [])) F = some (.lst (([] : List Int).map V.int)) := upd_same
    have nHF : H F = none := by
      cases e : H F with
      | none => rfl
      | some o => rw [k1 _ _ fne.1 fne.2 e] at nF; cases nF
    generalize upd H1 F (.lst []) = H2 at k2 d2 hF2 ⊢
    refine ⟨_, _, rfl, .ref t, rfl, t, rfl, ⟨_, SqT.of (st.kp k2 dek).top⟩, ?_⟩
    refine for_it (walk_tup (xs := ls.map V.ref)) (fun i σ H' => ∃ (fd : List Int) (y4 y5 y6 : Option V), σ = [some (.ref dk), some (.ref t), some (.int wy), some (.ref F), y4, y5, y6] ∧ fd.length = i ∧ (∀ j, j < i → 0 ≤ fd.getD j 0 ∧ fd.getD j 0 ≤ sizeAt rows j) ∧
        H' F = some (.lst (fd.map V.int)) ∧ Kp2 dk c H H' ∧ Deck H' dk c (B + 1 + 3 * i))
      ⟨[], _, _, _, rfl, rfl, (fun j h => absurd h (Nat.not_lt_zero _)), hF2, k2, d2⟩ (fun i σ H' _ h => by obtain ⟨_, _, _, _, _, _, _, _, k', _⟩ := h; exact SqT.of (st.kp k' dek).top) (fun i x σ H' H3 hi h y => ?_) (fun σ H' h => ?_)
    · obtain ⟨fd, y4, y5, y6, rfl, hl, hb, hF, kp, d⟩ := h
      obtain ⟨rfl, hx⟩ := y
      obtain ⟨l, hli, rfl⟩ := get_map hx
      have hil : i < rows.length := by
        have := (List.getElem?_eq_some_iff.mp hli).1
        have := st.len
        omega
      have hri := getD_of (d := []) hil
      have hrl := (st.kp kp dek).row i l _ hli hri
      have hsz := rb.at_ hil
      have hsd : sizeAt rows i = (rows.getD i []).sum := rfl
      refine ⟨_, rfl, l, rows.getD i [], rfl, SqT.of hrl, ?_⟩
      rw [← hsd]
      generalize sizeAt rows i = z at hsz hsd ⊢
      refine ⟨_, rfl, _, rfl, z, 1, rfl, rfl, dk, c, _, z + 1, rfl, d, by omega, by omega, by omega, fun a1 H4 a10 a11 k4 d4 => ?_⟩
      refine ⟨_, rfl, _, rfl, dk, c, _, 2, rfl, d4, by omega, by decide, by decide, fun a2 H5 a20 a21 k5 d5 => ?_⟩
      refine ⟨z, a2, rfl, rfl, .inr ⟨by omega, by omega⟩, ?_⟩
      refine ⟨_, rfl, _, rfl, dk, c, _, 3, rfl, d5, by omega, by decide, by decide, fun a3 H6 a30 a31 k6 d6 => ?_⟩
      refine ⟨z, a3, rfl, rfl, 0, z - a3, rfl, by show 3 ≤ sizeLine; decide, fun l3 nl3 => ?_⟩
      have k36 := kp.trans (k4.trans (k5.trans k6))
      have sl := same_new (o := .lst [V.int a1, V.int (z * a2), V.int (if z - a3 > 0 then z - a3 else 0)]) nl3
      have k37 := k36.trans (kps sl)
      have d7 := d6.keep sl
      have hl3 : (upd H6 l3 (.lst [V.int a1, V.int (z * a2), V.int (if z - a3 > 0 then z - a3 else 0)])) l3 = some (.lst [V.int a1, V.int (z * a2), V.int (if z - a3 > 0 then z - a3 else 0)]) := upd_same
      have hF7 := sl _ _ (k6 _ _ fne.1 fne.2 (k5 _ _ fne.1 fne.2 (k4 _ _ fne.1 fne.2 hF)))
      generalize upd H6 l3 (.lst [V.int a1, V.int (z * a2), V.int (if z - a3 > 0 then z - a3 else 0)]) = H7 at k37 d7 hl3 hF7 ⊢
      obtain ⟨v, hv, ev⟩ := three_at (a := a1) (b := z * a2) (c := if z - a3 > 0 then z - a3 else 0) w0 w1
      have hvb : 0 ≤ v ∧ v ≤ z := by
        have e2 : a2 = 0 ∨ a2 = 1 := by omega
        rcases hv with rfl | rfl | rfl
        · omega
        · rcases e2 with rfl | rfl
          · rw [Int.mul_zero]; omega
          · rw [Int.mul_one]; omega
        · split <;> omega
      refine ⟨.ref F, rfl, .inl ⟨rfl, _, SqL.of hF7⟩, _, rfl, _, rfl, l3, _, wy, .int v, rfl, rfl, SqL.of hl3, ev, F, fd.map V.int, _, rfl, rfl, hF7, ?_, fd ++ [v], _, _, _, rfl, ?_, ?_, ?_, ?_, ?_⟩
      · rw [List.length_map]
        exact len_lt (by omega)
      · rw [List.length_append, hl]
        rfl
      · intro j hj
        by_cases hji : j = i
        · subst hji
          have : (fd ++ [v]).getD j 0 = v := by
            rw [List.getD_eq_getElem?_getD, ← hl, List.getElem?_append_right (Nat.le_refl _), Nat.sub_self]
            rfl
          rw [this]
          have : sizeAt rows j = z := hsd.symm
          omega
        · have : (fd ++ [v]).getD j 0 = fd.getD j 0 := by
            rw [List.getD_eq_getElem?_getD, List.getElem?_append_left (by omega), List.getD_eq_getElem?_getD]
          rw [this]
          exact hb j (by omega)
      · rw [upd_same, List.map_append]
        rfl
      · exact k37.updF nHF
      · exact (d7.updD fne.1 fne.2).up (by omega)
    · obtain ⟨fd, y4, y5, y6, rfl, hl, hb, hF, kp, d⟩ := h
      rw [List.length_map, st.len] at hl hb d
      refine ⟨.ref F, rfl, F, _, rfl, .inl ⟨SqL.of hF, fun tF nt => ?_⟩⟩
      exact q tF fd _ hl hb upd_same (kp.trans (kps (same_new nt))) ((d.kp nt).up (by omega))
end
end DD
namespace DD
open PySem PySem.Spec PyProof.Rows L2 RZ

/-! ### data of any value of a law: also dicts, {} and {"a": 0} -/
mutual
inductive Dq (H : Hp) : V → PyData → Prop
  | non : Dq H .non .none
  | bl (b : Bool) : Dq H (.bl b) (.bool b)
  | int (i : Int) : Dq H (.int i) (.int i)
  | str (x : Str) : Dq H (.str x) (.str x)
  | lst {a : Addr} {xs : List V} {ds : List PyData} : H a = some (.lst xs) → DqAll H xs ds → Dq H (.ref a) (.list ds)
  | tup {a : Addr} {xs : List V} {ds : List PyData} : H a = some (.tup xs) → DqAll H xs ds → Dq H (.ref a) (.tuple ds)
  | d0 {a : Addr} : H a = some (.dK []) → Dq H (.ref a) (.dict [])
  | d1 {a : Addr} : H a = some (.dK [(.inr "a", .int 0)]) → Dq H (.ref a) (.dict [(.str "a", .int 0)])
inductive DqAll (H : Hp) : List V → List PyData → Prop
  | nil : DqAll H [] []
  | cons {v : V} {d : PyData} {vs : List V} {ds : List PyData} : Dq H v d → DqAll H vs ds → DqAll H (v :: vs) (d :: ds)
end
mutual
theorem Dq.same {H H' : Hp} (k : Same H H') : ∀ (d : PyData) (v : V), Dq H v d → Dq H' v d
  | .none, _, h => by cases h; exact .non
  | .bool b, _, h => by cases h; exact .bl b
  | .int i, _, h => by cases h; exact .int i
  | .str x, _, h => by cases h; exact .str x
  | .list ds, _, h => by
    cases h with
    | lst a b => exact .lst (k _ _ a) (DqAll.same k ds _ b)
  | .tuple ds, _, h => by
    cases h with
    | tup a b => exact .tup (k _ _ a) (DqAll.same k ds _ b)
  | .dict kvs, _, h => by
    cases h with
    | d0 a => exact .d0 (k _ _ a)
    | d1 a => exact .d1 (k _ _ a)
theorem DqAll.same {H H' : Hp} (k : Same H H') : ∀ (ds : List PyData) (vs : List V), DqAll H vs ds → DqAll H' vs ds
  | [], _, h => by cases h; exact .nil
  | d :: ds, _, h => by
    cases h with
    | cons a b => exact .cons (Dq.same k d _ a) (DqAll.same k ds _ b)
end
theorem DqAll.len {H : Hp} : ∀ {vs : List V} {ds : List PyData}, DqAll H vs ds → vs.length = ds.length
  | _, _, .nil => rfl
  | _, _, .cons _ b => congrArg (· + 1) b.len
theorem DqAll.app {H : Hp} : ∀ {vs : List V} {ds : List PyData} {ws : List V} {es : List PyData}, DqAll H vs ds → DqAll H ws es → DqAll H (vs ++ ws) (ds ++ es)
  | _, _, _, _, .nil, b => b
  | _, _, _, _, .cons a c, b => .cons a (c.app b)
theorem DqAll.get {H : Hp} : ∀ {vs : List V} {ds : List PyData}, DqAll H vs ds → ∀ {i : Nat} {v : V}, vs[i]? = some v → ∃ d, ds[i]? = some d ∧ Dq H v d
  | _, _, .nil, _, _, e => by simp at e
  | _, _, .cons a _, 0, _, e => by
    obtain rfl := Option.some.inj e
    exact ⟨_, rfl, a⟩
  | _, _, .cons _ b, i + 1, _, e => b.get (i := i) e
theorem DqAll.take {H : Hp} : ∀ {vs : List V} {ds : List PyData} (n : Nat), DqAll H vs ds → DqAll H (vs.take n) (ds.take n)
  | _, _, 0, _ => .nil
  | _, _, n + 1, .nil => .nil
  | _, _, n + 1, .cons a b => .cons a (b.take n)
theorem DqAll.drop {H : Hp} : ∀ {vs : List V} {ds : List PyData} (n : Nat), DqAll H vs ds → DqAll H (vs.drop n) (ds.drop n)
  | _, _, 0, h => h
  | _, _, n + 1, .nil => .nil
  | _, _, n + 1, .cons _ b => b.drop n
theorem dq_ints {H : Hp} : ∀ r : List Int, DqAll H (r.map V.int) (r.map PyData.int)
  | [] => .nil
  | x :: r => .cons (.int x) (dq_ints r)

/-! noL: no list in it -/
mutual
def noL : PyData → Bool
  | .list _ => false
  | .tuple ds => noLs ds
  | _ => true
def noLs : List PyData → Bool
  | [] => true
  | d :: ds => noL d && noLs ds
end
theorem reads_d0 {X : Cx} {pins : List (Addr × Obj)} {σ : L2.St} {H : Hp} {s : Shared} (I : Inv X pins σ H s) {a : Addr} (h : H a = some (.dK [])) : ∃ as, Reads s.heap (.ref a) (.dict []) as ∧ sysModules ∉ as := by
  have q : ObjOk X.prog X.w H s.heap a (.dK []) := I.hok a _ h
  unfold ObjOk at q
  obtain ⟨_, hs, vs, kv, o, es, ep, ho, hx, hd, hk, hp, _⟩ := q
  cases kv
  obtain ⟨l⟩ := es
  cases hp
  refine ⟨_, .dict ho hx.1 hd (.nil) (.nil), fun z => ?_⟩
  have : sysModules = a := by simpa using z
  rw [this] at hs
  simp at hs
theorem reads_d1 {X : Cx} {pins : List (Addr × Obj)} {σ : L2.St} {H : Hp} {s : Shared} (I : Inv X pins σ H s) {a : Addr} (h : H a = some (.dK [(.inr "a", .int 0)])) : ∃ as, Reads s.heap (.ref a) (.dict [(.str "a", .int 0)]) as ∧ sysModules ∉ as := by
  have q : ObjOk X.prog X.w H s.heap a (.dK [(.inr "a", .int 0)]) := I.hok a _ h
  unfold ObjOk at q
  obtain ⟨_, hs, vs, kv, o, es, ep, ho, hx, hd, hk, hp, _⟩ := q
  cases kv with
  | cons r n =>
    cases n
    obtain ⟨l⟩ := es
    cases hp with
    | cons hi hv hr =>
      cases hr
      obtain ⟨rk, tk, rv⟩ := r
      rename_i kv _ e
      rw [← rk] at hi
      rw [rv] at hv
      obtain ⟨tk2, hk2⟩ : ∃ t, e.key = .str "a" t := by
        have z : keyIs (.inr "a") e.key = true := hi
        cases q : e.key <;> rw [q] at z <;> first | (exact absurd z Bool.false_ne_true) | (obtain rfl : "a" = _ := of_decide_eq_true z; exact ⟨_, rfl⟩) | (have z2 := eq_of_beq z; subst z2; exact ⟨_, rfl⟩)
      refine ⟨_, .dict ho hx.1 hd (.cons (show Reads s.heap e.key (.str "a") _ by rw [hk2]; exact .str _ _) .nil) (.cons (show Reads s.heap e.val (.int 0) _ by rw [hv]; exact .int _ _) .nil), fun z => ?_⟩
      have : sysModules = a := by simpa using z
      rw [this] at hs
      simp at hs
mutual
theorem Dq.reads {X : Cx} {pins : List (Addr × Obj)} {σ : L2.St} {H : Hp} {s : Shared} (I : Inv X pins σ H s) : ∀ (d : PyData) (v : V) (u : Value), Dq H v d → RelV v u → ∃ as, Reads s.heap u d as ∧ (noL d = true → sysModules ∉ as)
  | .none, _, u, h, r => by
    cases h
    obtain rfl : u = .none := r
    exact ⟨_, .none, fun _ => by simp⟩
  | .bool b, _, u, h, r => by
    cases h
    obtain rfl : u = .bool b := r
    exact ⟨_, .bool b, fun _ => by simp⟩
  | .int i, _, u, h, r => by
    cases h
    obtain ⟨t, rfl⟩ := r
    exact ⟨_, .int i t, fun _ => by simp⟩
  | .str x, _, u, h, r => by
    cases h
    obtain ⟨t, rfl⟩ := r
    exact ⟨_, .str x t, fun _ => by simp⟩
  | .list ds, _, u, h, r => by
    cases h with
    | lst a b =>
      cases r
      obtain ⟨its, rv, ⟨o, n, h1, h2, _, h3⟩, _⟩ := I.list (SqL.of (K := X.K) a)
      obtain ⟨as, ra, _⟩ := DqAll.reads I ds _ _ b rv
      exact ⟨_, .list (vs := its.toArray) h1 h2 h3 ra, fun z => by cases z⟩
  | .tuple ds, _, u, h, r => by
    cases h with
    | tup a b =>
      cases r
      obtain ⟨its, rv, ⟨o, ho, hc, n, hd⟩, _⟩ := I.tuple (SqT.of (K := X.K) a)
      obtain ⟨as, ra, hn⟩ := DqAll.reads I ds _ _ b rv
      exact ⟨_, .tuple (vs := its.toArray) ho hc hd ra, fun z => hn z⟩
  | .dict kvs, _, u, h, r => by
    cases h with
    | d0 a =>
      cases r
      obtain ⟨as, q, n⟩ := reads_d0 I a
      exact ⟨as, q, fun _ => n⟩
    | d1 a =>
      cases r
      obtain ⟨as, q, n⟩ := reads_d1 I a
      exact ⟨as, q, fun _ => n⟩
theorem DqAll.reads {X : Cx} {pins : List (Addr × Obj)} {σ : L2.St} {H : Hp} {s : Shared} (I : Inv X pins σ H s) : ∀ (ds : List PyData) (vs : List V) (us : List Value), DqAll H vs ds → Vals vs us → ∃ as, ReadsAll s.heap us ds as ∧ (noLs ds = true → sysModules ∉ as)
  | [], _, _, h, r => by
    cases h
    cases r
    exact ⟨_, .nil, fun _ => by simp⟩
  | d :: ds, _, _, h, r => by
    cases h with
    | cons a b =>
      cases r with
      | cons r1 r2 =>
        obtain ⟨as, q1, n1⟩ := Dq.reads I d _ _ a r1
        obtain ⟨bs, q2, n2⟩ := DqAll.reads I ds _ _ b r2
        refine ⟨_, .cons q1 q2, fun z => ?_⟩
        have z' : (noL d && noLs ds) = true := z
        rw [Bool.and_eq_true] at z'
        intro m
        rcases List.mem_append.mp m with m | m
        · exact n1 z'.1 m
        · exact n2 z'.2 m
end
end DD
namespace DD
open PySem PySem.Spec PyProof.Rows L2 RZ

/-! ### repr of any such value -/
structure Gd (d : PyData) : Prop where
  show_ : d.showable = true
  dp : d.depth ≤ 64
  sz : d.shown.length ≤ sizeLine
  nl : d.hasDict = true → noL d = true
theorem call_reprQ {X : Cx} (hg : X.A.guards = some []) (hu : X.A.units + 66 < cLine) : CallR X (.builtin "repr") (fun xs H Q =>
    ∃ v d, xs = [v] ∧ Dq H v d ∧ Gd d ∧ Q (.str d.shown) H) := by
  intro pins s σ H xs us Q I r h
  obtain ⟨v, d, rfl, hd, g, q⟩ := h
  obtain ⟨u, rfl, ru⟩ := vals1 r
  obtain ⟨as, rd, nm⟩ := Dq.reads I d _ _ hd ru
  have hdp := g.dp
  have big : ∀ (a : Addr), u = .ref a → wpAny (model X.prog X.w) X.A (call (.builtin "repr") [u]) (fun u s1 => ∃ x H1, Inv X pins σ H1 s1 ∧ RelV x u ∧ Q x H1) X.xe s := fun a e => by
    subst e
    exact repr_of_reads' (Q := fun u s1 => ∃ x H1, Inv X pins σ H1 s1 ∧ RelV x u ∧ Q x H1) rd g.show_ (fun z => nm (g.nl z)) hg (by omega) (fun _ _ e => e)
      (fun h' u tk hk => ⟨.str d.shown, H, I.kept hk, ⟨_, rfl⟩, q⟩) g.sz
  cases hd with
  | non =>
    obtain rfl : u = .none := ru
    exact P.repr_of_none ⟨.str PyData.none.shown, H, I.tok _, ⟨_, rfl⟩, q⟩
  | bl b =>
    obtain rfl : u = .bool b := ru
    exact P.repr_of_bool ⟨.str (PyData.bool b).shown, H, I.tok _, ⟨_, rfl⟩, q⟩
  | int i =>
    obtain ⟨t, rfl⟩ := ru
    exact P.repr_of_int (of_decide_eq_true g.show_) ⟨.str (PyData.int i).shown, H, I.tok _, ⟨_, rfl⟩, q⟩
  | str x =>
    obtain ⟨t, rfl⟩ := ru
    exact P.repr_of_str ⟨.str (PyData.str x).shown, H, I.tok _, ⟨_, rfl⟩, q⟩ g.sz
  | lst _ _ => exact big _ ru
  | tup _ _ => exact big _ ru
  | d0 _ => exact big _ ru
  | d1 _ => exact big _ ru

/-! ### its kind -/
def isTup : PyData → Bool
  | .tuple _ => true
  | _ => false
def isI : PyData → Bool
  | .int _ => true
  | .bool _ => true
  | _ => false
def isB : PyData → Bool
  | .bool _ => true
  | _ => false
theorem dq_ty {K : PySem.W.Frag} {H : Hp} {v : V} {d : PyData} (h : Dq H v d) : ∃ T : String, TyX K H v (.type T) ∧ PySem.W.kitOne K (.type T) (.type "tuple") = some (isTup d) ∧ PySem.W.kitOne K (.type T) (.type "int") = some (isI d) ∧ PySem.W.kitOne K (.type T) (.type "bool") = some (isB d) := by
  cases h with
  | non => exact ⟨_, .base .non, kit_ty (by decide +kernel), kit_ty (by decide +kernel), kit_ty (by decide +kernel)⟩
  | bl b => exact ⟨_, .base (.bl b), kit_ty (a := "bool") (r := false) (by decide +kernel), kit_ty (a := "bool") (r := true) (by decide +kernel), kit_ty (a := "bool") (r := true) (by decide +kernel)⟩
  | int i => exact ⟨_, .base (.int i), kit_ty (a := "int") (r := false) (by decide +kernel), kit_ty (a := "int") (r := true) (by decide +kernel), kit_ty (a := "int") (r := false) (by decide +kernel)⟩
  | str x => exact ⟨_, .base (.str x), kit_ty (a := "str") (r := false) (by decide +kernel), kit_ty (a := "str") (r := false) (by decide +kernel), kit_ty (a := "str") (r := false) (by decide +kernel)⟩
  | lst a _ => exact ⟨_, .base (.lst a), kit_ty (a := "list") (r := false) (by decide +kernel), kit_ty (a := "list") (r := false) (by decide +kernel), kit_ty (a := "list") (r := false) (by decide +kernel)⟩
  | tup a _ => exact ⟨_, .base (.tup a), kit_ty (a := "tuple") (r := true) (by decide +kernel), kit_ty (a := "tuple") (r := false) (by decide +kernel), kit_ty (a := "tuple") (r := false) (by decide +kernel)⟩
  | d0 a => exact ⟨_, .base (.dK a), kit_ty (a := "dict") (r := false) (by decide +kernel), kit_ty (a := "dict") (r := false) (by decide +kernel), kit_ty (a := "dict") (r := false) (by decide +kernel)⟩
  | d1 a => exact ⟨_, .base (.dK a), kit_ty (a := "dict") (r := false) (by decide +kernel), kit_ty (a := "dict") (r := false) (by decide +kernel), kit_ty (a := "dict") (r := false) (by decide +kernel)⟩
/-- isinstance(v, tuple), isinstance(v, int), isinstance(v, bool) -/
theorem rIsi_tup {K : PySem.W.Frag} {H : Hp} {v : V} {d : PyData} (h : Dq H v d) {Q : VK} (q : Q (.bl (isTup d)) H) : rIsi K [v, .ty "tuple"] H Q := by
  obtain ⟨T, t, k, _, _⟩ := dq_ty (K := K) h
  exact ⟨_, _, _, _, _, rfl, .ty _, t, k, q⟩
theorem rIsi_int {K : PySem.W.Frag} {H : Hp} {v : V} {d : PyData} (h : Dq H v d) {Q : VK} (q : Q (.bl (isI d)) H) : rIsi K [v, .ty "int"] H Q := by
  obtain ⟨T, t, _, k, _⟩ := dq_ty (K := K) h
  exact ⟨_, _, _, _, _, rfl, .ty _, t, k, q⟩
theorem rIsi_bool {K : PySem.W.Frag} {H : Hp} {v : V} {d : PyData} (h : Dq H v d) {Q : VK} (q : Q (.bl (isB d)) H) : rIsi K [v, .ty "bool"] H Q := by
  obtain ⟨T, t, _, _, k⟩ := dq_ty (K := K) h
  exact ⟨_, _, _, _, _, rfl, .ty _, t, k, q⟩

theorem iteT2 {c : Bool} {A B : Prop} (e : c = true) (h : A) : if c = true then A else B := by rw [if_pos e]; exact h
theorem iteF2 {c : Bool} {A B : Prop} (e : c = false) (h : B) : if c = true then A else B := by rw [e, if_neg Bool.false_ne_true]; exact h
/-! ### numbers, rows -/
/-- an int that is no bool, from 0 to m -/
def numOk (m : Int) : PyData → Bool
  | .int i => decide (0 ≤ i) && decide (i ≤ m)
  | _ => false
/-- a tuple of n numbers from 0 to 50 -/
def rowOk (n : Nat) : PyData → Bool
  | .tuple xs => decide (xs.length = n) && xs.all (numOk 50)
  | _ => false

theorem scIsNum : FnScope ["value"] ["value"] (defScope sIsNum) := ⟨rfl, rfl, rfl, by decide +kernel, rfl, by decide +kernel, by decide +kernel⟩
theorem scUpTo : FnScope ["value", "most"] ["value", "most"] (defScope sUpTo) := ⟨rfl, rfl, rfl, by decide +kernel, rfl, by decide +kernel, by decide +kernel⟩
theorem scTupOf : FnScope ["value", "fewest", "most"] ["value", "fewest", "most"] (defScope sTupOf) := ⟨rfl, rfl, rfl, by decide +kernel, rfl, by decide +kernel, by decide +kernel⟩
section
variable {P : Program} {w : World} {K : PySem.W.Frag} {mg : Str → Option Value} {base : Heap}
def spIsNum : Sp := fun vs H Q _ => ∃ v d, vs = [v] ∧ Dq H v d ∧ Q (.bl (isI d && !isB d)) H
theorem ok_isnum {f : Addr} {fd : FuncData} {k : Nat} (F : Fun K "is_number" "is_number" sIsNum f fd) (mI : mg "isinstance" = none) (mi : mg "int" = none) (mb : mg "bool" = none) : FnOk P w K mg base CX0 (k + 1) f fd ["value"] spIsNum := by
  refine F.ok scIsNum (fun vs H Q E h => ?_) (fun cdv A outer s H vs Q E hr h => ?_)
  · obtain ⟨v, d, rfl, _⟩ := h
    rfl
  · obtain ⟨v, d, rfl, hd, q⟩ := h
    refine ⟨_, pss_one (ps_ret (pe_and (pe_callB (show CallR _ _ (rIsi K) from call_isi) (by rfl) mI (by decide +kernel) (pa_cons (pv 0) (pa_cons (pe_bltn (v := .ty "int") (by rfl) mi (by decide +kernel) rfl) pa_nil)))
      (pe_one (pe_not (pe_callB (show CallR _ _ (rIsi K) from call_isi) (by rfl) mI (by decide +kernel) (pa_cons (pv 0) (pa_cons (pe_bltn (v := .ty "bool") (by rfl) mb (by decide +kernel) rfl) pa_nil))))))), ?_⟩
    obtain ⟨T, t, kT, kI, kB⟩ := dq_ty (K := K) hd
    refine ⟨v, rfl, _, _, _, _, _, rfl, .ty _, t, kI, _, rfl, ?_⟩
    by_cases c : isI d = true
    · rw [if_pos c]
      refine ⟨v, rfl, _, _, _, _, _, rfl, .ty _, t, kB, _, rfl, ?_⟩
      rw [c, Bool.true_and] at q
      exact q
    · rw [if_neg c]
      rw [Bool.eq_false_iff.mpr c, Bool.false_and] at q
      exact q
def spUpTo : Sp := fun vs H Q _ => ∃ v d m, vs = [v, .int m] ∧ Dq H v d ∧ Q (.bl (numOk m d)) H
theorem ok_upto {f fN : Addr} {fd fdN : FuncData} {k : Nat} (F : Fun K "is_number_up_to" "is_number_up_to" sUpTo f fd) (FN : Fun K "is_number" "is_number" sIsNum fN fdN) (bN : Binds K fdN ["value"] []) (gN : mg "is_number" = some (.ref fN))
    (mI : mg "isinstance" = none) (mi : mg "int" = none) (mb : mg "bool" = none) : FnOk P w K mg base CX0 (k + 2) f fd ["value", "most"] spUpTo := by
  have GN : FnOk P w K mg base CX0 (k + 1) fN fdN ["value"] spIsNum := ok_isnum FN mI mi mb
  refine F.ok scUpTo (fun vs H Q E h => ?_) (fun cdv A outer s H vs Q E hr h => ?_)
  · obtain ⟨v, d, m, rfl, _⟩ := h
    rfl
  · obtain ⟨v, d, m, rfl, hd, q⟩ := h
    refine ⟨_, pss_one (ps_ret (pe_and (pe_call GN hr (by rfl) gN FN.kp bN .nil pass0 (pa_cons (pv 0) pa_nil)) (pe_one (pe_chain op_le op_le pe_int (pv 0) (pv 1))))), ?_⟩
    refine ⟨v, rfl, v, d, rfl, hd, _, rfl, ?_⟩
    cases hd with
    | int i =>
      refine iteT ⟨_, rfl, _, _, rfl, rfl, _, rfl, ?_⟩
      have q : Q (.bl (decide (0 ≤ i) && decide (i ≤ m))) H := q
      by_cases c : (0 : Int) ≤ i
      · rw [decide_eq_true c, Bool.true_and] at q
        refine iteT2 (decide_eq_true c) ⟨_, rfl, _, _, rfl, rfl, q⟩
      · rw [decide_eq_false c, Bool.false_and] at q
        exact iteF2 (decide_eq_false c) q
    | bl b => exact iteF q
    | non => exact iteF q
    | str _ => exact iteF q
    | lst _ _ => exact iteF q
    | tup _ _ => exact iteF q
    | d0 _ => exact iteF q
    | d1 _ => exact iteF q
def lenD : PyData → Nat
  | .tuple xs => xs.length
  | _ => 0
def spTupOf (K : PySem.W.Frag) : Sp := fun vs H Q _ => ∃ v d a b, vs = [v, .int a, .int b] ∧ Dq H v d ∧ Q (.bl (isTup d && (decide (a ≤ (lenD d : Int)) && decide ((lenD d : Int) ≤ b)))) H
theorem ok_tupof {f : Addr} {fd : FuncData} {k : Nat} (F : Fun K "is_tuple_of" "is_tuple_of" sTupOf f fd) (mI : mg "isinstance" = none) (mt : mg "tuple" = none) (ml : mg "len" = none) : FnOk P w K mg base CX0 (k + 1) f fd ["value", "fewest", "most"] (spTupOf K) := by
  refine F.ok scTupOf (fun vs H Q E h => ?_) (fun cdv A outer s H vs Q E hr h => ?_)
  · obtain ⟨v, d, a, b, rfl, _⟩ := h
    rfl
  · obtain ⟨v, d, a, b, rfl, hd, q⟩ := h
    refine ⟨_, pss_one (ps_ret (pe_and (pe_callB (show CallR _ _ (rIsi K) from call_isi) (by rfl) mI (by decide +kernel) (pa_cons (pv 0) (pa_cons (pe_bltn (v := .ty "tuple") (by rfl) mt (by decide +kernel) rfl) pa_nil)))
      (pe_one (pe_chain op_le op_le (pv 1) (pe_callB call_len_seq (by rfl) ml PySem.boot_len (pa_cons (pv 0) pa_nil)) (pv 2))))), ?_⟩
    obtain ⟨T, t, kT, kI, kB⟩ := dq_ty (K := K) hd
    refine ⟨v, rfl, _, _, _, _, _, rfl, .ty _, t, kT, _, rfl, ?_⟩
    cases hd with
    | @tup p xs ds hp hs =>
      have e := hs.len
      refine iteT ⟨_, rfl, _, rfl, p, xs, rfl, .inr (SqT.of hp), _, _, rfl, rfl, _, rfl, ?_⟩
      have q : Q (.bl (decide (a ≤ (ds.length : Int)) && decide ((ds.length : Int) ≤ b))) H := q
      rw [← e] at q
      by_cases c : a ≤ (xs.length : Int)
      · rw [decide_eq_true c, Bool.true_and] at q
        exact iteT2 (decide_eq_true c) ⟨_, rfl, _, _, rfl, rfl, q⟩
      · rw [decide_eq_false c, Bool.false_and] at q
        exact iteF2 (decide_eq_false c) q
    | bl b => exact iteF q
    | non => exact iteF q
    | str _ => exact iteF q
    | lst _ _ => exact iteF q
    | int _ => exact iteF q
    | d0 _ => exact iteF q
    | d1 _ => exact iteF q
end
end DD
namespace DD
open PySem PySem.Spec PyProof.Rows L2 RZ

/-! ### the heap without the deck -/
open Classical in
noncomputable def Wo (X : Addr → Prop) (H : Hp) : Hp := fun b => if X b then none else H b
theorem wo_some {X : Addr → Prop} {b : Addr} {H : Hp} {o : HO} (h : Wo X H b = some o) : H b = some o ∧ ¬ X b := by
  unfold Wo at h
  by_cases e : X b
  · rw [if_pos e] at h
    cases h
  · rw [if_neg e] at h
    exact ⟨h, e⟩
theorem wo_of {X : Addr → Prop} {b : Addr} {H : Hp} {o : HO} (h : H b = some o) (h1 : ¬ X b) : Wo X H b = some o := by
  unfold Wo
  rw [if_neg h1]
  exact h
theorem wo_in {X : Addr → Prop} {H : Hp} : Same (Wo X H) H := fun b o e => (wo_some e).1
theorem wo_same {X : Addr → Prop} {H H' : Hp} (k : Same H H') : Same (Wo X H) (Wo X H') := fun b o e => by
  obtain ⟨h, h1⟩ := wo_some e
  exact wo_of (k b o h) h1
/-- what is left out: the deck's two lists, perhaps more lists -/
structure LX (X : Addr → Prop) (dk c : Addr) (H : Hp) : Prop where
  d : X dk
  c : X c
  all : ∀ a, X a → ∃ l, H a = some (.lst l)
theorem wo_kp {X : Addr → Prop} {dk c : Addr} {H H1 H' : Hp} (hX : LX X dk c H1) (k : Kp2 dk c H H') : Same (Wo X H) (Wo X H') := fun b o e => by
  obtain ⟨h, h1⟩ := wo_some e
  exact wo_of (k b o (fun z => h1 (by rw [z]; exact hX.d)) (fun z => h1 (by rw [z]; exact hX.c)) h) h1
theorem LX.same {X : Addr → Prop} {dk c : Addr} {H H' : Hp} (hX : LX X dk c H) (s : Same H H') : LX X dk c H' := ⟨hX.d, hX.c, fun a x => by
  obtain ⟨l, h⟩ := hX.all a x
  exact ⟨l, s _ _ h⟩⟩
theorem LX.kp {X : Addr → Prop} {dk c : Addr} {H H' : Hp} {B : Nat} (hX : LX X dk c H) (k : Kp2 dk c H H') (d : Deck H' dk c B) : LX X dk c H' := ⟨hX.d, hX.c, fun a x => by
  obtain ⟨ns, t, h1, h2, _⟩ := d.ex
  obtain ⟨l, h⟩ := hX.all a x
  by_cases e1 : a = dk
  · rw [e1]
    exact ⟨_, h1⟩
  · by_cases e2 : a = c
    · rw [e2]
      exact ⟨_, h2⟩
    · exact ⟨l, k _ _ e1 e2 h⟩⟩
theorem LX.no {X : Addr → Prop} {dk c p : Addr} {H : Hp} (hX : LX X dk c H) (h : ¬ X p) : p ≠ dk ∧ p ≠ c := ⟨fun z => h (by rw [z]; exact hX.d), fun z => h (by rw [z]; exact hX.c)⟩

/-! ### written data: what its reading gives -/
def Lit (X : Addr → Prop) (σ : L2.St) (H0 : Hp) (te : TE) (d : PyData) : Prop := ∀ (H : Hp) (Q : VK), Same H0 H → (∀ v H', Same H H' → Dq (Wo X H') v d → Q v H') → te σ H Q
def LitA (X : Addr → Prop) (σ : L2.St) (H0 : Hp) (ta : TA) (ds : List PyData) : Prop := ∀ (H : Hp) (Q : List V → Hp → Prop), Same H0 H → (∀ vs H', Same H H' → DqAll (Wo X H') vs ds → Q vs H') → ta σ H Q
section
variable {X : Addr → Prop} {dk c : Addr} {σ : L2.St} {H0 : Hp}
theorem lit_c {v : V} {d : PyData} (h : ∀ H, Dq H v d) : Lit X σ H0 (tC v) d := fun H Q s k => k v H (Same.refl _) (h _)
theorem lit_var {i : Nat} {v : V} {d : PyData} (h : σ[i]? = some (some v)) (hv : Dq (Wo X H0) v d) : Lit X σ H0 (tVar i) d := fun H Q s k => ⟨v, h, k v H (Same.refl _) (Dq.same (wo_same s) _ _ hv)⟩
theorem litA_nil : LitA X σ H0 tNil [] := fun H Q s k => k [] H (Same.refl _) .nil
theorem litA_cons {te : TE} {ta : TA} {d : PyData} {ds : List PyData} (a : Lit X σ H0 te d) (b : LitA X σ H0 ta ds) : LitA X σ H0 (tCons te ta) (d :: ds) :=
  fun H Q s k => a H _ s fun v H1 s1 q1 => b H1 _ (s.trans s1) fun vs H2 s2 q2 => k (v :: vs) H2 (s1.trans s2) (.cons (Dq.same (wo_same s2) _ _ q1) q2)
theorem new_ne {H : Hp} {p : Addr} (hX : LX X dk c H0) (s : Same H0 H) (np : H p = none) : ¬ X p := fun x => by
  obtain ⟨l, h⟩ := hX.all p x
  rw [s _ _ h] at np
  cases np
theorem lit_tup {ta : TA} {ds : List PyData} (hX : LX X dk c H0) (a : LitA X σ H0 ta ds) (hl : ds.length ≤ 1000) : Lit X σ H0 (tTup ta) (.tuple ds) :=
  fun H Q s k => a H _ s fun vs H1 s1 q1 => ⟨Nat.le_of_lt (len_lt (by rw [q1.len]; exact hl)), fun p np => by
    have n1 := new_ne hX (s.trans s1) np
    exact k _ _ (s1.trans (same_new np)) (.tup (wo_of upd_same n1) (DqAll.same (wo_same (same_new np)) _ _ q1))⟩
theorem lit_lst {ta : TA} {ds : List PyData} (hX : LX X dk c H0) (a : LitA X σ H0 ta ds) (hl : ds.length ≤ 1000) : Lit X σ H0 (tLst ta) (.list ds) :=
  fun H Q s k => a H _ s fun vs H1 s1 q1 => ⟨Nat.le_of_lt (len_lt (by rw [q1.len]; exact hl)), fun p np => by
    have n1 := new_ne hX (s.trans s1) np
    exact k _ _ (s1.trans (same_new np)) (.lst (wo_of upd_same n1) (DqAll.same (wo_same (same_new np)) _ _ q1))⟩
theorem lit_neg {i : Int} {te : TE} (a : Lit X σ H0 te (.int i)) : Lit X σ H0 (tUn (rU fun i => V.int (-i)) te) (.int (-i)) :=
  fun H Q s k => a H _ s fun v H1 s1 q1 => by
    cases q1
    exact ⟨_, rfl, k _ _ s1 (.int _)⟩
theorem lit_pow {i j : Int} {ta tb : TE} (a : Lit X σ H0 ta (.int i)) (b : Lit X σ H0 tb (.int j)) (h : CPow i j) : Lit X σ H0 (tOp (rI CPow fun i j => V.int (i ^ j.toNat)) ta tb) (.int (i ^ j.toNat)) :=
  fun H Q s k => a H _ s fun v H1 s1 q1 => b H1 _ (s.trans s1) fun u H2 s2 q2 => by
    cases q1
    cases q2
    exact ⟨_, _, rfl, rfl, h, k _ _ (s1.trans s2) (.int _)⟩
theorem lit_add {i j : Int} {ta tb : TE} (a : Lit X σ H0 ta (.int i)) (b : Lit X σ H0 tb (.int j)) : Lit X σ H0 (tOp (rI0 fun i j => V.int (i + j)) ta tb) (.int (i + j)) :=
  fun H Q s k => a H _ s fun v H1 s1 q1 => b H1 _ (s.trans s1) fun u H2 s2 q2 => by
    cases q1
    cases q2
    exact ⟨_, _, rfl, rfl, k _ _ (s1.trans s2) (.int _)⟩
theorem lit_d0 (hX : LX X dk c H0) : Lit X σ H0 tDNewK (.dict []) := fun H Q s k p np => by
  have n1 := new_ne hX s np
  exact k _ _ (same_new np) (.d0 (wo_of upd_same n1))
theorem lit_d1 (hX : LX X dk c H0) : Lit X σ H0 (tDisp [(tC (.str "a"), tC (.int 0))]) (.dict [(.str "a", .int 0)]) := fun H Q s k p np => by
  have n1 := new_ne hX s np
  refine ⟨upd_same, [(.inr "a", .int 0)], rfl, by decide, k _ _ (fun b o e => ?_) (.d1 (wo_of upd_same n1))⟩
  rw [upd_ne (ne_of_none e np), upd_ne (ne_of_none e np)]
  exact e
/-- slices, sums, products of tuples -/
theorem DqAll.cut {H : Hp} {xs : List V} {ds : List PyData} (h : DqAll H xs ds) {lo hi : Option Int} : DqAll H (cutV xs lo hi) ((ds.drop (HT.sIx ds.length 0 lo)).take (HT.sIx ds.length ds.length hi - HT.sIx ds.length 0 lo)) := by
  unfold cutV
  rw [h.len]
  exact (h.drop _).take _
def LitO (σ : L2.St) (H0 : Hp) (to : TO) (i : Option Int) : Prop := ∀ (H : Hp) (Q : Option Int → Hp → Prop), Same H0 H → Q i H → to σ H Q
theorem lito_none : LitO σ H0 tNoPart none := fun H Q s k => k
theorem lito_var {i : Nat} {n : Int} (h : σ[i]? = some (some (.int n))) : LitO σ H0 (tPart (tVar i)) (some n) := fun H Q s k => ⟨_, h, n, rfl, k⟩
theorem lito_c {n : Int} : LitO σ H0 (tPart (tC (.int n))) (some n) := fun H Q s k => ⟨n, rfl, k⟩
theorem lito_var1 {i : Nat} {n : Int} (h : σ[i]? = some (some (.int n))) : LitO σ H0 (tPart (tOp (rI0 fun i j => V.int (i + j)) (tVar i) (tC (.int 1)))) (some (n + 1)) := fun H Q s k => ⟨_, h, _, _, rfl, rfl, _, rfl, k⟩
theorem tup_ne {H : Hp} {p : Addr} {xs : List V} (hX : LX X dk c H0) (s : Same H0 H) (h : H p = some (.tup xs)) : ¬ X p := fun x => by
  obtain ⟨l, h1⟩ := hX.all p x
  rw [s _ _ h1] at h
  cases h
theorem lit_sl {te : TE} {tl th : TO} {ds : List PyData} {lo hi : Option Int} (hX : LX X dk c H0) (a : Lit X σ H0 te (.tuple ds)) (l : LitO σ H0 tl lo) (h : LitO σ H0 th hi) :
    Lit X σ H0 (tSl rSlQ te tl th) (.tuple ((ds.drop (HT.sIx ds.length 0 lo)).take (HT.sIx ds.length ds.length hi - HT.sIx ds.length 0 lo))) :=
  fun H Q s k => a H _ s fun v H1 s1 q1 => l H1 _ (s.trans s1) (h H1 _ (s.trans s1) (by
    cases q1 with
    | @tup p xs _ hp hs =>
      obtain ⟨hp', n1⟩ := wo_some hp
      refine ⟨p, xs, rfl, hp', fun p2 H2 s2 h2 => ?_⟩
      have m1 := tup_ne hX (s.trans (s1.trans s2)) h2
      exact k _ _ (s1.trans s2) (.tup (wo_of h2 m1) (DqAll.same (wo_same s2) _ _ hs).cut)))
theorem lit_cat {ta tb : TE} {ds es : List PyData} (hX : LX X dk c H0) (a : Lit X σ H0 ta (.tuple ds)) (b : Lit X σ H0 tb (.tuple es)) (hl : ds.length + es.length ≤ 1000) :
    Lit X σ H0 (tOp rCatQ ta tb) (.tuple (ds ++ es)) :=
  fun H Q s k => a H _ s fun v H1 s1 q1 => b H1 _ (s.trans s1) fun u H2 s2 q2 => by
    have q1 := Dq.same (wo_same s2) _ _ q1
    cases q1 with
    | @tup p xs _ hp hs =>
      cases q2 with
      | @tup p2 ys _ hp2 hs2 =>
        refine ⟨p, p2, xs, ys, rfl, rfl, (wo_some hp).1, (wo_some hp2).1, by rw [hs.len, hs2.len]; exact hl, fun p3 H3 s3 h3 => ?_⟩
        have m1 := tup_ne hX (s.trans (s1.trans (s2.trans s3))) h3
        exact k _ _ (s1.trans (s2.trans s3)) (.tup (wo_of h3 m1) ((DqAll.same (wo_same s3) _ _ hs).app (DqAll.same (wo_same s3) _ _ hs2)))
theorem DqAll.rep {H : Hp} {xs : List V} {ds : List PyData} (h : DqAll H xs ds) : ∀ n : Nat, DqAll H (List.replicate n xs).flatten (List.replicate n ds).flatten
  | 0 => .nil
  | n + 1 => by
    rw [List.replicate_succ, List.replicate_succ, List.flatten_cons, List.flatten_cons]
    exact h.app (h.rep n)
theorem lit_rep {ta tb : TE} {ds : List PyData} {n : Int} (hX : LX X dk c H0) (a : Lit X σ H0 ta (.tuple ds)) (b : Lit X σ H0 tb (.int n)) (h0 : ds ≠ []) (hl : ds.length ≤ 1000) (hn : 1 ≤ n) (hn2 : n ≤ 1000) :
    Lit X σ H0 (tOp rRepQ ta tb) (.tuple (List.replicate n.toNat ds).flatten) :=
  fun H Q s k => a H _ s fun v H1 s1 q1 => b H1 _ (s.trans s1) fun u H2 s2 q2 => by
    have q1 := Dq.same (wo_same s2) _ _ q1
    cases q1 with
    | @tup p xs _ hp hs =>
      cases q2
      refine ⟨p, n, xs, rfl, rfl, (wo_some hp).1, ?_, hn, hn2, by rw [hs.len]; exact hl, fun p3 H3 s3 h3 => ?_⟩
      · intro z
        subst z
        cases hs
        exact h0 rfl
      · have m1 := tup_ne hX (s.trans (s1.trans (s2.trans s3))) h3
        exact k _ _ (s1.trans (s2.trans s3)) (.tup (wo_of h3 m1) ((DqAll.same (wo_same s3) _ _ hs).rep _))
/-- list(t), t a tuple -/
def rLstQ (K : PySem.W.Frag) : List V → Hp → VK → Prop := fun xs H Q => ∃ p ys, xs = [V.ref p] ∧ (SqL K H p ys ∨ SqT K H p ys) ∧ ∀ (l : Addr), H l = none → Q (V.ref l) (upd H l (HO.lst ys))
theorem lit_list {K : PySem.W.Frag} {ta : TE} {ds : List PyData} (hX : LX X dk c H0) (a : Lit X σ H0 ta (.tuple ds)) : Lit X σ H0 (tCB (rLstQ K) (tCons ta tNil)) (.list ds) :=
  fun H Q s k => a H _ s fun v H1 s1 q1 => by
    cases q1 with
    | @tup p xs _ hp hs =>
      refine ⟨p, xs, rfl, .inr (SqT.of (wo_some hp).1), fun l nl => ?_⟩
      have n1 := new_ne hX (s.trans s1) nl
      exact k _ _ (s1.trans (same_new nl)) (.lst (wo_of upd_same n1) (DqAll.same (wo_same (same_new nl)) _ _ hs))
/-- len(t) of a known tuple -/
def rLenQ (K : PySem.W.Frag) : List V → Hp → VK → Prop := fun xs H Q => ∃ p ys, xs = [V.ref p] ∧ (SqL K H p ys ∨ SqT K H p ys) ∧ Q (.int ys.length) H
theorem lit_len {K : PySem.W.Frag} {ta : TE} {ds : List PyData} (a : Lit X σ H0 ta (.tuple ds)) : Lit X σ H0 (tCB (rLenQ K) (tCons ta tNil)) (.int ds.length) :=
  fun H Q s k => a H _ s fun v H1 s1 q1 => by
    cases q1 with
    | @tup p xs _ hp hs =>
      refine ⟨p, xs, rfl, .inr (SqT.of (wo_some hp).1), k _ _ s1 ?_⟩
      rw [hs.len]
      exact .int _
/-- t[i] of a known tuple -/
theorem lit_ixT {K : PySem.W.Frag} {ta tb : TE} {ds : List PyData} {d : PyData} {j : Nat} (a : Lit X σ H0 ta (.tuple ds)) (b : Lit X σ H0 tb (.int j)) (h : ds[j]? = some d) : Lit X σ H0 (tOp (rIxT K) ta tb) d :=
  fun H Q s k => a H _ s fun v H1 s1 q1 => b H1 _ (s.trans s1) fun u H2 s2 q2 => by
    have q1 := Dq.same (wo_same s2) _ _ q1
    cases q1 with
    | @tup p xs _ hp hs =>
      cases q2
      have hj : j < xs.length := by
        rw [hs.len]
        exact (List.getElem?_eq_some_iff.mp h).1
      have hx : xs[j]? = some xs[j] := List.getElem?_eq_getElem hj
      obtain ⟨d', hd', hq⟩ := hs.get hx
      rw [h] at hd'
      cases hd'
      exact ⟨p, xs, (j : Int), xs[j], rfl, rfl, SqT.of (wo_some hp).1, atI_nat hx, k _ _ (s1.trans s2) hq⟩
end
end DD
namespace DD
open PySem PySem.Spec PyProof.Rows L2 RZ

/-! ### how great a value is, and whether lists and dicts meet in it -/
structure Bd (w k : Nat) (d : PyData) : Prop where
  short : d.leavesShort 48 = true
  show_ : d.showable = true
  wt : d.weight ≤ w
  dp : d.depth ≤ k
theorem Bd.up {w k w' k' : Nat} {d : PyData} (b : Bd w k d) (hw : w ≤ w') (hk : k ≤ k') : Bd w' k' d := ⟨b.short, b.show_, Nat.le_trans b.wt hw, Nat.le_trans b.dp hk⟩
def Nx (d : PyData) : Prop := d.hasDict = true → noL d = true
def Pl (d : PyData) : Prop := d.hasDict = false ∧ noL d = true
theorem hasDictAll_mem : ∀ {ds : List PyData}, PyData.hasDictAll ds = true → ∃ d ∈ ds, d.hasDict = true
  | [], h => Bool.noConfusion (show false = true from h)
  | d :: ds, h => by
    have h : (d.hasDict || PyData.hasDictAll ds) = true := h
    rw [Bool.or_eq_true] at h
    rcases h with h | h
    · exact ⟨d, List.mem_cons_self, h⟩
    · obtain ⟨e, he, q⟩ := hasDictAll_mem h
      exact ⟨e, List.mem_cons_of_mem _ he, q⟩
theorem noLs_of : ∀ {ds : List PyData}, (∀ d ∈ ds, noL d = true) → noLs ds = true
  | [], _ => rfl
  | d :: ds, h => by
    show (noL d && noLs ds) = true
    rw [h d List.mem_cons_self, noLs_of fun x hx => h x (List.mem_cons_of_mem _ hx)]
    rfl
theorem nx_mem {x : PyData} {ds : List PyData} (hx : Nx x) (h : ∀ y ∈ ds, y = x ∨ Pl y) : Nx (.tuple ds) := fun hd => by
  obtain ⟨e, he, q⟩ := hasDictAll_mem hd
  have ex : x.hasDict = true := by
    rcases h e he with rfl | z
    · exact q
    · rw [z.1] at q
      cases q
  refine noLs_of fun y hy => ?_
  rcases h y hy with rfl | z
  · exact hx ex
  · exact z.2
theorem nx_pl {ds : List PyData} (h : ∀ y ∈ ds, Pl y) : Pl (.tuple ds) := by
  refine ⟨?_, noLs_of fun y hy => (h y hy).2⟩
  cases e : (PyData.tuple ds).hasDict with
  | false => rfl
  | true =>
    obtain ⟨x, hx, q⟩ := hasDictAll_mem e
    rw [(h x hx).1] at q
    cases q
theorem nx_lst {ds : List PyData} (h : ∀ y ∈ ds, Pl y) : Nx (.list ds) := fun e => by
  obtain ⟨x, hx, q⟩ := hasDictAll_mem e
  rw [(h x hx).1] at q
  cases q
theorem Pl.nx {d : PyData} (h : Pl d) : Nx d := fun _ => h.2
theorem bd_all {w k : Nat} : ∀ {ds : List PyData}, (∀ d ∈ ds, Bd w k d) → PyData.leavesShortAll 48 ds = true ∧ PyData.showableAll ds = true ∧ PyData.weightAll ds ≤ ds.length * (w + 1) ∧ PyData.depthAll ds ≤ k
  | [], _ => ⟨rfl, rfl, by simp [PyData.weightAll], Nat.zero_le _⟩
  | d :: ds, h => by
    have a := h d List.mem_cons_self
    obtain ⟨h1, h2, h3, h4⟩ := bd_all fun x hx => h x (List.mem_cons_of_mem _ hx)
    refine ⟨?_, ?_, ?_, Nat.max_le.mpr ⟨a.dp, h4⟩⟩
    · show (d.leavesShort 48 && PyData.leavesShortAll 48 ds) = true
      rw [a.short, h1]
      rfl
    · show (d.showable && PyData.showableAll ds) = true
      rw [a.show_, h2]
      rfl
    · have := a.wt
      show d.weight + 1 + PyData.weightAll ds ≤ (ds.length + 1) * (w + 1)
      rw [Nat.succ_mul]
      omega
theorem Bd.tup {w k n : Nat} {ds : List PyData} (h : ∀ d ∈ ds, Bd w k d) (hn : ds.length ≤ n) : Bd (n * (w + 1)) (k + 1) (.tuple ds) := by
  obtain ⟨h1, h2, h3, h4⟩ := bd_all h
  exact ⟨h1, h2, Nat.le_trans h3 (Nat.mul_le_mul_right _ hn), Nat.succ_le_succ h4⟩
theorem Bd.lst {w k n : Nat} {ds : List PyData} (h : ∀ d ∈ ds, Bd w k d) (hn : ds.length ≤ n) : Bd (n * (w + 1)) (k + 1) (.list ds) := by
  obtain ⟨h1, h2, h3, h4⟩ := bd_all h
  exact ⟨h1, h2, Nat.le_trans h3 (Nat.mul_le_mul_right _ hn), Nat.succ_le_succ h4⟩
theorem Bd.of_sm {w k : Nat} {d : PyData} (a : Sm w k d) (h : PyData.intsShort 48 d = true) : Bd w k d := ⟨PyData.leavesShort_of_canLay0 48 d a.lay h, a.show_, a.wt, a.dp⟩
theorem bd_int {i : Int} (h0 : 0 ≤ i) (h : i < 4096) : Bd 13 0 (.int i) := by
  have s := Sm.int h0 h
  have e : (Str.ofString (toString i)).length ≤ 13 := of_decide_eq_true s.short
  exact ⟨decide_eq_true (Nat.le_trans e (by decide)), s.show_, s.wt, s.dp⟩
theorem bd_bool (b : Bool) : Bd 0 0 (.bool b) := by cases b <;> exact ⟨by decide +kernel, by decide +kernel, by decide +kernel, by decide +kernel⟩
def okB (w k : Nat) (d : PyData) : Bool := d.leavesShort 48 && (d.showable && (decide (d.weight ≤ w) && decide (d.depth ≤ k)))
theorem bd_of {w k : Nat} {d : PyData} (h : okB w k d = true) : Bd w k d := by
  unfold okB at h
  simp only [Bool.and_eq_true, decide_eq_true_eq] at h
  exact ⟨h.1, h.2.1, h.2.2.1, h.2.2.2⟩
/-! ### more written data: lists -/
section
variable {X : Addr → Prop} {dk c : Addr} {σ : L2.St} {H0 : Hp} {K : PySem.W.Frag}
theorem lit_catL {ta tb : TE} {ds es : List PyData} (hX : LX X dk c H0) (a : Lit X σ H0 ta (.list ds)) (b : Lit X σ H0 tb (.list es)) (hl : ds.length + es.length ≤ 1000) :
    Lit X σ H0 (tOp rCat ta tb) (.list (ds ++ es)) :=
  fun H Q s k => a H _ s fun v H1 s1 q1 => b H1 _ (s.trans s1) fun u H2 s2 q2 => by
    have q1 := Dq.same (wo_same s2) _ _ q1
    cases q1 with
    | @lst p xs _ hp hs =>
      cases q2 with
      | @lst p2 ys _ hp2 hs2 =>
        refine ⟨p, p2, xs, ys, rfl, rfl, (wo_some hp).1, (wo_some hp2).1, Nat.le_of_lt (len_lt (by rw [hs.len, hs2.len]; exact hl)), fun p3 np => ?_⟩
        have m1 := new_ne hX (s.trans (s1.trans s2)) np
        exact k _ _ (s1.trans (s2.trans (same_new np))) (.lst (wo_of upd_same m1) (DqAll.same (wo_same (same_new np)) _ _ (hs.app hs2)))
theorem lit_repL {ta tb : TE} {ds : List PyData} {n : Int} (hX : LX X dk c H0) (a : Lit X σ H0 ta (.list ds)) (b : Lit X σ H0 tb (.int n)) (hl : ds.length * n.toNat ≤ 1000) (hn : 1 ≤ n) (hn2 : n ≤ 1000) :
    Lit X σ H0 (tOp rRep ta tb) (.list (List.replicate n.toNat ds).flatten) :=
  fun H Q s k => a H _ s fun v H1 s1 q1 => b H1 _ (s.trans s1) fun u H2 s2 q2 => by
    have q1 := Dq.same (wo_same s2) _ _ q1
    cases q1 with
    | @lst p xs _ hp hs =>
      cases q2
      refine ⟨p, n, xs, rfl, rfl, (wo_some hp).1, by omega, by omega, Nat.le_of_lt (len_lt (by rw [hs.len]; exact hl)), fun p3 np => ?_⟩
      have m1 := new_ne hX (s.trans (s1.trans s2)) np
      exact k _ _ (s1.trans (s2.trans (same_new np))) (.lst (wo_of upd_same m1) (DqAll.same (wo_same (same_new np)) _ _ (hs.rep _)))
theorem lit_slL {te : TE} {tl th : TO} {ds : List PyData} {lo hi : Option Int} (hX : LX X dk c H0) (a : Lit X σ H0 te (.list ds)) (l : LitO σ H0 tl lo) (h : LitO σ H0 th hi) :
    Lit X σ H0 (tSl (rSlL K) te tl th) (.list ((ds.drop (HT.sIx ds.length 0 lo)).take (HT.sIx ds.length ds.length hi - HT.sIx ds.length 0 lo))) :=
  fun H Q s k => a H _ s fun v H1 s1 q1 => l H1 _ (s.trans s1) (h H1 _ (s.trans s1) (by
    cases q1 with
    | @lst p xs _ hp hs =>
      refine ⟨p, xs, rfl, SqL.of (wo_some hp).1, fun p2 np => ?_⟩
      have m1 := new_ne hX (s.trans s1) np
      exact k _ _ (s1.trans (same_new np)) (.lst (wo_of upd_same m1) (DqAll.same (wo_same (same_new np)) _ _ hs).cut)))
/-- a written list at a drawn index -/
theorem pick {te : TE} {ds : List PyData} {B : Nat} {n : Int} {Q : VK} (hX : LX X dk c H0) (a : Lit X σ H0 te (.list ds)) (dek : Deck H0 dk c B) (hB : B ≤ 1000000) (h0 : σ[0]? = some (some (.ref dk))) (hn : n = ds.length) (h1 : 1 ≤ n) (h2 : n ≤ 1000)
    (q : ∀ v d H', d ∈ ds → Kp2 dk c H0 H' → Deck H' dk c (B + 1) → Dq (Wo X H') v d → Q v H') : tOp (rIxL K) te (tCall spDraw [] E0 (tCons (tVar 0) (tCons (tC (.int n)) tNil))) σ H0 Q :=
  a H0 _ (Same.refl _) fun v H1 s1 q1 => by
    cases q1 with
    | @lst p xs _ hp hs =>
      refine ⟨.ref dk, h0, dk, c, B, n, rfl, dek.keep s1, hB, h1, h2, fun r H3 r0 r1 k3 d3 => ?_⟩
      obtain ⟨hp', n0⟩ := wo_some hp
      obtain ⟨n1, n2⟩ := hX.no n0
      have hp3 : H3 p = some (.lst xs) := k3 _ _ n1 n2 hp'
      obtain ⟨j, rfl⟩ : ∃ j : Nat, r = (j : Int) := ⟨r.toNat, by omega⟩
      have hj : j < xs.length := by
        rw [hs.len]
        omega
      have hx : xs[j]? = some xs[j] := List.getElem?_eq_getElem hj
      obtain ⟨d, hd', hq⟩ := (DqAll.same (wo_kp hX k3) _ _ hs).get hx
      exact ⟨p, xs, (j : Int), xs[j], rfl, rfl, SqL.of hp3, atI_nat hx, q _ d H3 (List.mem_of_getElem? hd') ((kps s1).trans k3) d3 hq⟩
end

theorem cutV_from {xs : List V} {s : Nat} : cutV xs (some (s : Int)) none = xs.drop s := by
  unfold cutV
  rw [HT.sIx_none, HT.sIx_nat]
  by_cases h : s ≤ xs.length
  · rw [Nat.min_eq_left h, List.take_of_length_le (by rw [List.length_drop]; omega)]
  · rw [Nat.min_eq_right (by omega), List.drop_of_length_le (Nat.le_refl _), List.drop_of_length_le (by omega), List.take_nil]
theorem cutV_to {xs : List V} {s : Nat} : cutV xs none (some (s : Int)) = xs.take s := by
  unfold cutV
  rw [HT.sIx_none, HT.sIx_nat, List.drop_zero, Nat.sub_zero]
  by_cases h : s ≤ xs.length
  · rw [Nat.min_eq_left h]
  · rw [Nat.min_eq_right (by omega), List.take_length, List.take_of_length_le (by omega)]


/-! ### a written list is not sys.modules; repr of one -/
def tLstN (t : TA) : TE := fun σ H Q => t σ H fun xs H1 => xs.length ≤ sizeLine ∧ ∀ p, H1 p = none → p ≠ sysModules → Q (.ref p) (upd H1 p (.lst xs))
theorem pe_lstN {X : Cx} {es : List Expr} {t : TA} {pos : Pos} (h : PA X es t) : PE X (.List es pos) (tLstN t) := by
  refine ⟨fun pins s σ H Q I hq => ?_⟩
  refine wpAny_List_spliced (thn (h.run pos pins s σ H _ I hq) fun us s1 ⟨xs, H1, I1, r, z, q⟩ => ⟨by rw [← r.length]; exact z, ?_⟩)
  have hf : H1 s1.heap.objs.size = none := I1.hok.fresh (Nat.le_refl _)
  refine ⟨.ref s1.heap.objs.size, upd H1 s1.heap.objs.size (.lst xs), I1.laid (t' := s1.toks) (fun b u e => Heap.get?_push_of_some _ e) (Nat.le_refl _) ?_, rfl, q _ hf (Nat.ne_of_gt I1.big)⟩
  exact ⟨z, us, 0, r, Heap.get?_push_size _ rfl⟩
structure GdL (ds : List PyData) : Prop where
  show_ : (PyData.list ds).showable = true
  dp : (PyData.list ds).depth ≤ 64
  sz : (PyData.list ds).shown.length ≤ sizeLine
  nl : PyData.hasDictAll ds = true → noLs ds = true
theorem call_reprL {X : Cx} (hg : X.A.guards = some []) (hu : X.A.units + 66 < cLine) : CallR X (.builtin "repr") (fun xs H Q =>
    ∃ a ys ds, xs = [.ref a] ∧ a ≠ sysModules ∧ H a = some (.lst ys) ∧ DqAll H ys ds ∧ GdL ds ∧ Q (.str (PyData.list ds).shown) H) := by
  intro pins s σ H xs us Q I r h
  obtain ⟨a, ys, ds, rfl, hne, ha, hd, g, q⟩ := h
  obtain ⟨u, rfl, ru⟩ := vals1 r
  cases ru
  obtain ⟨its, rv, ⟨o, n, h1, h2, _, h3⟩, _⟩ := I.list (SqL.of (K := X.K) ha)
  obtain ⟨as, ra, hn⟩ := DqAll.reads I ds _ _ hd rv
  have rd : Reads s.heap (.ref a) (.list ds) _ := .list (vs := its.toArray) h1 h2 h3 ra
  have hdp := g.dp
  exact repr_of_reads' (Q := fun u s1 => ∃ x H1, Inv X pins σ H1 s1 ∧ RelV x u ∧ Q x H1) rd g.show_ (fun z m => by
      rcases List.mem_cons.mp m with m | m
      · exact hne m.symm
      · exact hn (g.nl z) m) hg (by omega) (fun _ _ e => e)
    (fun h' u tk hk => ⟨.str (PyData.list ds).shown, H, I.kept hk, ⟨_, rfl⟩, q⟩) g.sz
/-- repr([a, b, v]) where v is any value and the others are plain -/
theorem gdl_of {ds : List PyData} {x : PyData} (h : ∀ d ∈ ds, Bd 20000 30 d) (hl : ds.length ≤ 5) (hx : Nx x) (hp : ∀ y ∈ ds, y = x ∨ Pl y) : GdL ds := by
  have b := Bd.lst h hl
  refine ⟨b.show_, Nat.le_trans b.dp (by decide), ?_, fun hd => ?_⟩
  · have h := PyData.shown_le 48 (by decide) _ b.short
    have h2 := b.wt
    rw [sizeLine_eq]
    omega
  · exact nx_mem hx hp hd
theorem gd_bl (b : Bool) : Gd (.bool b) := by
  cases b <;> exact ⟨rfl, by decide, by rw [sizeLine_eq]; decide +kernel, fun z => by cases z⟩
end DD
namespace DD
open PySem PySem.Spec PyProof.Rows L2 RZ
/-! ### t[::-1] of a tuple -/
theorem back_pick (xs : Array Value) : ((List.range xs.size).filterMap fun (k : Nat) => xs[(((xs.size : Int) - 1) + (k : Int) * (-1)).toNat]?) = xs.toList.reverse := by
  have e : (fun (k : Nat) => xs[(((xs.size : Int) - 1) + (k : Int) * (-1)).toNat]?) = fun k => if k < xs.size then xs[xs.size - 1 - k]? else xs[0]? := by
    funext k
    by_cases h : k < xs.size
    · rw [if_pos h]
      congr 1
      omega
    · rw [if_neg h]
      congr 1
      omega
  rw [e]
  have e2 : (List.range xs.size).filterMap (fun k => if k < xs.size then xs[xs.size - 1 - k]? else xs[0]?) = ((List.range xs.size).map fun k => xs.size - 1 - k).filterMap fun k => xs[k]? := by
    rw [List.filterMap_map]
    have cg : ∀ (l : List Nat) (f g : Nat → Option Value), (∀ k ∈ l, f k = g k) → l.filterMap f = l.filterMap g := fun l f g => by
      induction l with
      | nil => intro _; rfl
      | cons a l ih =>
        intro h
        rw [List.filterMap_cons, List.filterMap_cons, h a List.mem_cons_self, ih fun k hk => h k (List.mem_cons_of_mem _ hk)]
    refine cg _ _ _ fun k hk => ?_
    show (if k < xs.size then xs[xs.size - 1 - k]? else xs[0]?) = xs[xs.size - 1 - k]?
    rw [if_pos (List.mem_range.mp hk)]
  rw [e2, PySem.W.krv_range, List.filterMap_reverse, PySem.W.krv_all]
section
variable {prog : Program} {w : World} {A : Around} {E : Value → Shared → Prop} {s : Shared}
theorem sliceApplied_back {sl : Addr} {vl vu vs : Value} {n : Nat} {R : Int × Int × Nat → Shared → Prop} (hs : s.heap.IsSliceOf sl vl vu vs) (pl : IsPart vl none) (pu : IsPart vu none) (ps : IsPart vs (some (-1)))
    (hR : R ((n : Int) - 1, -1, n) s) : wpAny (model prog w) A (Builtin.Slice.sliceApplied (.ref sl) (pure (n : Int))) R E s := by
  obtain ⟨os, hos, hcs, hds⟩ := id hs
  unfold Builtin.Slice.sliceApplied Builtin.Slice.sliceFields
  refine wpAny_bind (wpAny_bind (wpAny_field hos hds (x := vl) rfl (wpAny_bind (wpAny_field hos hds (x := vu) rfl (wpAny_bind (wpAny_field hos hds (x := vs) rfl (wpAny_pure ?_)))))))
  refine wpAny_bind (HT.slicePart_ ps ?_)
  show wpAny _ _ (if ((-1 : Int) == 0) = true then _ else _) _ _ s
  rw [if_neg (by decide)]
  refine wpAny_bind (HT.slicePart_ pl (wpAny_bind (HT.slicePart_ pu (wpAny_bind (wpAny_pure (wpAny_pure ?_))))))
  have e : Builtin.Slice.slicePlaces ((n : Int) - 1) (-1) (-1) = n := by
    unfold Builtin.Slice.slicePlaces
    rw [if_neg (by decide)]
    by_cases h : (n : Int) - 1 > -1
    · rw [if_pos h, show ((n : Int) - 1 - -1 - 1) / (- -1) + 1 = (n : Int) by rw [show (- -1 : Int) = 1 by decide, Int.ediv_one]; omega]
      exact Int.toNat_natCast n
    · rw [if_neg h]
      omega
  show R ((n : Int) - 1, -1, Builtin.Slice.slicePlaces ((n : Int) - 1) (-1) (-1)) s
  rw [e]
  exact hR
theorem getItem_tuple_back {t sl : Addr} {items : Array Value} {vl vu vs : Value} {Q : Value → Shared → Prop} (ht : IsTup s.heap t items) (hs : s.heap.IsSliceOf sl vl vu vs)
    (pl : IsPart vl none) (pu : IsPart vu none) (ps : IsPart vs (some (-1))) (h : Q (.ref s.heap.objs.size) { s with heap := s.heap.push { cls := .type "tuple", data := .seq items.toList.reverse.toArray } }) (hsz : items.size ≤ sizeLine) :
    wpAny (model prog w) A (getItem (.ref t) (.ref sl)) Q E s := by
  obtain ⟨os, hos, hcs, hds⟩ := id hs
  have hTs : s.TypeIs (.ref sl) "slice" := ⟨os, hos, hcs⟩
  have room : sizeOk (.seq items.toList.reverse.toArray) := by
    show items.toList.reverse.toArray.size ≤ sizeLine
    rw [List.size_toArray, List.length_reverse, Array.length_toList]
    exact hsz
  unfold getItem
  try with_reducible refine wpAny_holding ?_
  first | refine wpAny_bind (wpAny_pure ?_) | skip
  refine wpAny_bind (wpAny_sequenceKey ht.typeIs (by decide) ?_)
  refine wpAny_bind (wpAny_callSpecial?_slot (name := Str.ofString "__getitem__") ht.typeIs PyProof.Rows.slot_tuple_getitem (wpAny_call_entry PyProof.Rows.slot_tuple_getitem ht.typeIs entry_tuple_getitem ?_ (args_tuple_getitem _ _)))
  show wpAny _ _ (Builtin.Tuple.tupleItemsOf (.ref t) >>= _) _ _ s
  refine wpAny_bind (tupleItemsOf_ ht (wpAny_bind (wpAny_typeOf hTs ?_)))
  rw [if_pos (by decide)]
  refine wpAny_bind (sliceApplied_back hs pl pu ps ?_)
  have one : ¬ (((((items.size : Int) - 1) == 0 && ((-1 : Int) == 1)) && (items.size == items.size)) = true) := by
    rw [show ((-1 : Int) == 1) = false by decide, Bool.and_false, Bool.false_and]
    exact Bool.false_ne_true
  show wpAny _ _ (if ((((items.size : Int) - 1) == 0 && ((-1 : Int) == 1)) && (items.size == items.size)) = true then _ else _) _ _ s
  rw [if_neg one, back_pick]
  first
    | exact wpAny_bind (m := Builtin.Tuple.tupleExact _) (wpAny_newObj_type (wpAny_pure ⟨_, rfl, wpAny_pure h⟩) room)
    | exact wpAny_bind (m := Builtin.Tuple.tupleExact _) (wpAny_newObj_type (wpAny_bind (wpAny_pure (wpAny_pure ⟨_, rfl, wpAny_pure h⟩))) room)
    | exact wpAny_bind (wpAny_bind (m := Builtin.Tuple.tupleExact _) (wpAny_newObj_type (wpAny_pure (wpAny_pure ⟨_, rfl, wpAny_pure h⟩)) room))
    | exact wpAny_bind (wpAny_bind (m := Builtin.Tuple.tupleExact _) (wpAny_newObj_type (wpAny_pure ⟨_, rfl, wpAny_pure h⟩) room))
end
def tRevT (K : PySem.W.Frag) (te : TE) : TE := fun σ H Q => te σ H fun x H1 => ∃ a xs, x = .ref a ∧ SqT K H1 a xs ∧ ∀ p, H1 p = none → Q (.ref p) (upd H1 p (.tup xs.reverse))
theorem pe_revT {X : Cx} {e : Expr} {te : TE} {k : Nat} {p1 p2 p3 pos : Pos} (he : PE X e te) : PE X (.Subscript e (.Slice none none (some (.UnaryOp .USub (.Constant (.int 1) k p1) p2)) p3) pos) (tRevT X.K te) := by
  refine ⟨fun pins s σ H Q I h => Subscript_ (thn (he.run pins s σ H _ I h) fun v s1 hh => ?_)⟩
  obtain ⟨x, H1, I1, r1, a, xs, ex, hx, q⟩ := hh
  subst ex
  cases r1
  have step : PO X (some (.UnaryOp .USub (.Constant (.int 1) k p1) p2)) (tPart (tUn (rU fun i => .int (-i)) (tC (.int 1)))) := po_some (pe_un un_neg pe_int)
  refine wpAny_Slice (thn (po_none.run pins s1 σ H1 (fun o H2 => o = none ∧ H2 = H1) I1 ⟨rfl, rfl⟩) fun vl s2 hh => ?_)
  obtain ⟨l, H2, I2, pl, el, e2⟩ := hh
  subst el e2
  refine thn (po_none.run pins s2 σ H2 (fun o H3 => o = none ∧ H3 = H2) I2 ⟨rfl, rfl⟩) fun vu s3 hh => ?_
  obtain ⟨u, H3, I3, pu, eu, e3⟩ := hh
  subst eu e3
  refine thn (step.run pins s3 σ H3 (fun o H4 => o = some (-1) ∧ H4 = H3) I3 ⟨1, rfl, -1, rfl, rfl, rfl⟩) fun vs s4 hh => ?_
  obtain ⟨o, H4, I4, ps, eo, e4⟩ := hh
  subst eo e4
  have I5 := I4.kept (h' := s4.heap.push { cls := .type "slice", data := .fields #[vl, vu, vs] }) (t' := s4.toks) fun b ob q => Heap.get?_push_of_some _ q
  obtain ⟨its, r, ht, hz⟩ := I5.tuple hx
  have hlen := r.length
  show wpAny (model X.prog X.w) X.A (subscriptTail e (.Slice none none (some (.UnaryOp .USub (.Constant (.int 1) k p1) p2)) p3) (.ref a) (.ref s4.heap.objs.size)) (EP X pins σ Q) X.xe { s4 with heap := s4.heap.push { cls := .type "slice", data := .fields #[vl, vu, vs] } }
  refine tail_any (ops := [.ref a, .ref s4.heap.objs.size]) ht.typeIs PyProof.Rows.slot_tuple_getitem.lookup ?_ (by with_unfolding_all rfl)
  refine getItem_tuple_back ht (Heap.IsSliceOf.new _ vl vu vs) pl pu ps ?_ (by rw [List.size_toArray, ← hlen]; exact hz)
  refine ⟨.ref _, _, I5.laid (t' := s4.toks) (o := .tup xs.reverse) (fun b ob q => Heap.get?_push_of_some _ q) (Nat.le_refl _) ?_, rfl, q _ (I5.hok.fresh (Nat.le_refl _))⟩
  exact ⟨by rw [List.length_reverse]; exact hz, _, r.reverse, IsTup.new _ _⟩

/-! ### the law's odd values -/
def oddA : List PyData := [.none, .bool true, .bool false, .int 0, .int 1, .int (-1), .int (10 ^ (29 : Int).toNat), .str "", .str "0 1", .tuple [], .list [], .dict [], .tuple [.int 0], .list [.int 0], .tuple [.bool true], .tuple [.tuple []], .dict [(.str "a", .int 0)]]
def oddB : List PyData := [.tuple [.tuple [.int 0, .int 1]], .tuple [.tuple [.int 0, .int 1], .tuple [.int 2, .int 3]], .tuple [.str "0", .str "1"], .tuple [.none, .none]]
def valB (d : PyData) : Bool := okB 140 3 d && (!d.hasDict || noL d)
theorem val_odd {d : PyData} (h : d ∈ oddA ++ oddB) : Bd 140 3 d ∧ Nx d := by
  have all : (oddA ++ oddB).all valB = true := by decide +kernel
  have h := List.all_eq_true.mp all d h
  unfold valB at h
  rw [Bool.and_eq_true] at h
  refine ⟨bd_of h.1, fun e => ?_⟩
  have := h.2
  rw [e] at this
  simpa using this
theorem scOdd : FnScope ["_law_deck_here", "_law_items"] ["_law_deck_here"] (defScope sOdd) := ⟨rfl, rfl, rfl, by decide +kernel, rfl, by decide +kernel, by decide +kernel⟩
section
variable {P : Program} {w : World} {K : PySem.W.Frag} {mg : Str → Option Value} {base : Heap}

def spOdd : Sp := fun vs H Q _ => ∃ (X : Addr → Prop) (dk c : Addr) (B : Nat), vs = [.ref dk] ∧ LX X dk c H ∧ Deck H dk c B ∧ B ≤ 1000000 ∧
  ∀ v d H', d ∈ oddA ++ oddB → Kp2 dk c H H' → Deck H' dk c (B + 1) → Dq (Wo X H') v d → Q v H'
theorem ok_odd {f fN fU fTu fAu fIr fTk fDk fD fS fPl fNu fId fAy fOo fRp fNr : Addr} {fd dN dU dTu dAu dIr dTk dDk dD dS dPl dNu dId dAy dOo dRp dNr : FuncData} {k : Nat} (F : Fun K "_law_odd" "_law_odd" sOdd f fd) (T : Tx K mg fN fU fTu fAu fIr fTk fDk fD fS fPl fNu fId fAy fOo fRp fNr dN dU dTu dAu dIr dTk dDk dD dS dPl dNu dId dAy dOo dRp dNr) :
    FnOk P w K mg base CX0 (k + 2) f fd ["_law_deck_here"] spOdd := by
  have GD : FnOk P w K mg base CX0 (k + 1) fD dD ["_law_deck_here", "_law_bound"] spDraw := ok_draw T.D T.m_len T.m_max
  refine F.ok scOdd (fun vs H Q E h => ?_) (fun cdv A outer s H vs Q E hr h => ?_)
  · obtain ⟨X, dk, c, B, rfl, _⟩ := h
    rfl
  · obtain ⟨X, dk, c, B, rfl, hX, dek, hB, q⟩ := h
    refine ⟨_, (pss_cons (ps_set (i := 1) scOdd.nd rfl (.inl rfl) (pe_lst (pa_cons pe_non (pa_cons pe_bl (pa_cons pe_bl (pa_cons pe_int (pa_cons pe_int (pa_cons (pe_un un_neg pe_int) (pa_cons (pe_op op_pow pe_int pe_int) (pa_cons pe_str (pa_cons pe_str (pa_cons (pe_tup pa_nil) (pa_cons (pe_lst pa_nil) (pa_cons pe_dnewK (pa_cons (pe_tup (pa_cons pe_int pa_nil)) (pa_cons (pe_lst (pa_cons pe_int pa_nil)) (pa_cons (pe_tup (pa_cons pe_bl pa_nil)) (pa_cons (pe_tup (pa_cons (pe_tup pa_nil) pa_nil)) (pa_cons (pe_disp (pps_cons pe_str pe_int pps_nil) (by rfl) (by rfl) (fun z => by cases z) (by decide)) pa_nil)))))))))))))))))))
      (pss_one (ps_ret (pe_ix (show IxR _ (rIxL K) from ix_list) (pe_op op_cat (pv 1) (pe_lst (pa_cons (pe_tup (pa_cons (pe_tup (pa_cons pe_int (pa_cons pe_int pa_nil))) pa_nil)) (pa_cons (pe_tup (pa_cons (pe_tup (pa_cons pe_int (pa_cons pe_int pa_nil))) (pa_cons (pe_tup (pa_cons pe_int (pa_cons pe_int pa_nil))) pa_nil))) (pa_cons (pe_tup (pa_cons pe_str (pa_cons pe_str pa_nil))) (pa_cons (pe_tup (pa_cons pe_non (pa_cons pe_non pa_nil))) pa_nil)))))) (pe_call GD (hr.mono (by omega)) (by rfl) T.gD T.D.kp T.bD .nil pass0 (pa_cons (pv 0) (pa_cons pe_int pa_nil))) (fun _ _ => rfl))))), ?_⟩
    have LA : ∀ σ, Lit X σ H (tLst _) (.list oddA) := fun σ => (lit_lst hX (litA_cons (lit_c fun _ => .non) (litA_cons (lit_c fun _ => .bl true) (litA_cons (lit_c fun _ => .bl false) (litA_cons (lit_c fun _ => .int 0) (litA_cons (lit_c fun _ => .int 1) (litA_cons (lit_neg (lit_c fun _ => .int 1)) (litA_cons (lit_pow (lit_c fun _ => .int 10) (lit_c fun _ => .int 29) ⟨by decide, by decide, by decide⟩) (litA_cons (lit_c fun _ => .str "") (litA_cons (lit_c fun _ => .str "0 1") (litA_cons (lit_tup hX litA_nil (by decide)) (litA_cons (lit_lst hX litA_nil (by decide)) (litA_cons (lit_d0 hX) (litA_cons (lit_tup hX (litA_cons (lit_c fun _ => .int 0) litA_nil) (by decide)) (litA_cons (lit_lst hX (litA_cons (lit_c fun _ => .int 0) litA_nil) (by decide)) (litA_cons (lit_tup hX (litA_cons (lit_c fun _ => .bl true) litA_nil) (by decide)) (litA_cons (lit_tup hX (litA_cons (lit_tup hX litA_nil (by decide)) litA_nil) (by decide)) (litA_cons (lit_d1 hX) litA_nil))))))))))))))))) (by decide))
    have LB : ∀ σ, Lit X σ H (tLst _) (.list oddB) := fun σ => (lit_lst hX (litA_cons (lit_tup hX (litA_cons (lit_tup hX (litA_cons (lit_c fun _ => .int 0) (litA_cons (lit_c fun _ => .int 1) litA_nil)) (by decide)) litA_nil) (by decide)) (litA_cons (lit_tup hX (litA_cons (lit_tup hX (litA_cons (lit_c fun _ => .int 0) (litA_cons (lit_c fun _ => .int 1) litA_nil)) (by decide)) (litA_cons (lit_tup hX (litA_cons (lit_c fun _ => .int 2) (litA_cons (lit_c fun _ => .int 3) litA_nil)) (by decide)) litA_nil)) (by decide)) (litA_cons (lit_tup hX (litA_cons (lit_c fun _ => .str "0") (litA_cons (lit_c fun _ => .str "1") litA_nil)) (by decide)) (litA_cons (lit_tup hX (litA_cons (lit_c fun _ => .non) (litA_cons (lit_c fun _ => .non) litA_nil)) (by decide)) litA_nil)))) (by decide))
    unfold tSeq tAsg
    refine LA _ H _ (Same.refl _) fun v H1 s1 q1 => ?_
    cases q1 with
    | @lst a xs _ ha hs =>
      refine ⟨.ref a, rfl, LB _ H1 _ s1 fun u H2 s2 q2 => ?_⟩
      cases q2 with
      | @lst b ys _ hb hs2 =>
        have hlA : xs.length = 17 := hs.len
        have hlB : ys.length = 4 := hs2.len
        refine ⟨a, b, xs, ys, rfl, rfl, s2 _ _ (wo_some ha).1, (wo_some hb).1, Nat.le_of_lt (len_lt (by omega)), fun p np => ?_⟩
        have s3 : Same H (upd H2 p (.lst (xs ++ ys))) := s1.trans (s2.trans (same_new np))
        refine ⟨_, rfl, dk, c, B, 21, rfl, dek.keep s3, hB, by decide, by decide, fun r H3 r0 r1 k3 d3 => ?_⟩
        obtain ⟨n1, n2⟩ := hX.no (new_ne hX (s1.trans s2) np)
        have hp3 : H3 p = some (.lst (xs ++ ys)) := k3 _ _ n1 n2 upd_same
        obtain ⟨j, rfl⟩ : ∃ j : Nat, r = (j : Int) := ⟨r.toNat, by omega⟩
        have hj : j < (xs ++ ys).length := by
          rw [List.length_append]
          omega
        have hx : (xs ++ ys)[j]? = some (xs ++ ys)[j] := List.getElem?_eq_getElem hj
        have all : DqAll (Wo X H3) (xs ++ ys) (oddA ++ oddB) := DqAll.same ((wo_same (same_new np)).trans (wo_kp hX k3)) _ _ ((DqAll.same (wo_same s2) _ _ hs).app hs2)
        obtain ⟨d, hd', hq⟩ := all.get hx
        exact ⟨p, _, (j : Int), _, rfl, rfl, SqL.of hp3, atI_nat hx, q _ d H3 (List.mem_of_getElem? hd') ((kps s3).trans k3) d3 hq⟩

/-! ### plain values: numbers, short texts, tuples of such -/
mutual
def plainD : PyData → Bool
  | .int i => decide (-1000 ≤ i) && decide (i ≤ 1000)
  | .str x => decide (x.cps.size ≤ 10) && PyData.strOk x
  | .tuple ds => plainDs ds
  | _ => false
def plainDs : List PyData → Bool
  | [] => true
  | d :: ds => plainD d && plainDs ds
end
theorem plain_mem : ∀ {ds : List PyData}, plainDs ds = true → ∀ d ∈ ds, plainD d = true
  | d :: ds, h, x, hx => by
    have h : (plainD d && plainDs ds) = true := h
    rw [Bool.and_eq_true] at h
    rcases List.mem_cons.mp hx with rfl | hx
    · exact h.1
    · exact plain_mem h.2 x hx
theorem plain_int {i : Int} (h : plainD (.int i) = true) : -1000 ≤ i ∧ i ≤ 1000 := by
  have h : (decide (-1000 ≤ i) && decide (i ≤ 1000)) = true := h
  rw [Bool.and_eq_true] at h
  exact ⟨of_decide_eq_true h.1, of_decide_eq_true h.2⟩
theorem log_1001 {i : Int} (h0 : -1002 ≤ i) (h : i ≤ 1002) : i.natAbs.log2 ≤ 11 := log2_lt_of (by omega)
theorem sint {i : Int} (h0 : -1002 ≤ i) (h : i ≤ 1002) : (PyData.int i).leavesShort 48 = true ∧ (PyData.int i).showable = true ∧ (PyData.int i).weight ≤ 12 := by
  have h11 := log_1001 h0 h
  have hl : (toString i).length ≤ 48 := Nat.le_trans (int_text_length_le (a := i) (k := 12) (by decide) (by omega)) (by decide)
  refine ⟨decide_eq_true ?_, decide_eq_true (by omega), ?_⟩
  · show (Str.ofString (toString i)).length ≤ 48
    rw [PySem.ofString_length]
    exact hl
  · show (if i == 0 then 0 else i.natAbs.log2 + 1) ≤ 12
    split
    · omega
    · omega
theorem bd_sint {i : Int} (h0 : -1002 ≤ i) (h : i ≤ 1002) : Bd 12 0 (.int i) := ⟨(sint h0 h).1, (sint h0 h).2.1, (sint h0 h).2.2, Nat.le_refl _⟩
theorem strOk_short {x : Str} (h : PyData.strOk x = true) : (PyData.str x).leavesShort 48 = true := by
  unfold PyData.strOk at h
  show (x.cps.toList.all fun c => decide (c < 16 ^ 8)) = true
  rw [← Array.all_toList, List.all_eq_true] at h
  rw [List.all_eq_true]
  intro c hc
  have := of_decide_eq_true (h c hc)
  exact decide_eq_true (by omega)
mutual
theorem plain_ok : ∀ d : PyData, plainD d = true → d.leavesShort 48 = true ∧ d.showable = true ∧ d.canLay0 = true ∧ Pl d
  | .int i, h => by
    obtain ⟨h0, h1⟩ := plain_int h
    have s := sint (i := i) (by omega) (by omega)
    exact ⟨s.1, s.2.1, rfl, rfl, rfl⟩
  | .str x, h => by
    have h : (decide (x.cps.size ≤ 10) && PyData.strOk x) = true := h
    rw [Bool.and_eq_true] at h
    exact ⟨strOk_short h.2, rfl, h.2, rfl, rfl⟩
  | .tuple ds, h => by
    obtain ⟨h1, h2, h3, h4, h5⟩ := plains_ok ds h
    exact ⟨h1, h2, h3, h4, h5⟩
  | .none, h => by cases h
  | .bool _, h => by cases h
  | .list _, h => by cases h
  | .dict _, h => by cases h
theorem plains_ok : ∀ ds : List PyData, plainDs ds = true → PyData.leavesShortAll 48 ds = true ∧ PyData.showableAll ds = true ∧ PyData.canLayAll0 ds = true ∧ PyData.hasDictAll ds = false ∧ noLs ds = true
  | [], _ => ⟨rfl, rfl, rfl, rfl, rfl⟩
  | d :: ds, h => by
    have h : (plainD d && plainDs ds) = true := h
    rw [Bool.and_eq_true] at h
    obtain ⟨a1, a2, a3, a4, a5⟩ := plain_ok d h.1
    obtain ⟨b1, b2, b3, b4, b5⟩ := plains_ok ds h.2
    refine ⟨?_, ?_, ?_, ?_, ?_⟩
    · show (d.leavesShort 48 && PyData.leavesShortAll 48 ds) = true
      rw [a1, b1]; rfl
    · show (d.showable && PyData.showableAll ds) = true
      rw [a2, b2]; rfl
    · show (d.canLay0 && PyData.canLayAll0 ds) = true
      rw [a3, b3]; rfl
    · show (d.hasDict || PyData.hasDictAll ds) = false
      rw [a4, b4]; rfl
    · show (noL d && noLs ds) = true
      rw [a5, b5]; rfl
end
mutual
theorem plain_dp {K : PySem.W.Frag} {H : Hp} : ∀ (d : PyData) (v : V), plainD d = true → Dq H v d → Dp K H v d
  | .int i, _, _, h => by cases h; exact .int i
  | .str x, _, _, h => by cases h; exact .str x
  | .tuple ds, _, p, h => by
    cases h with
    | tup a b => exact .tup (SqT.of a) (plain_dps ds _ p b)
  | .none, _, p, _ => by cases p
  | .bool _, _, p, _ => by cases p
  | .list _, _, p, _ => by cases p
  | .dict _, _, p, _ => by cases p
theorem plain_dps {K : PySem.W.Frag} {H : Hp} : ∀ (ds : List PyData) (vs : List V), plainDs ds = true → DqAll H vs ds → DpAll K H vs ds
  | [], _, _, h => by cases h; exact .nil
  | d :: ds, _, p, h => by
    have p : (plainD d && plainDs ds) = true := p
    rw [Bool.and_eq_true] at p
    cases h with
    | cons a b => exact .cons (plain_dp d _ p.1 a) (plain_dps ds _ p.2 b)
end
/-- how great a plain value is -/
structure Pv (w m : Nat) (d : PyData) : Prop where
  pl : plainD d = true
  wt : d.weight ≤ w
  dp : d.depth ≤ m
theorem Pv.bd {w m : Nat} {d : PyData} (a : Pv w m d) : Bd w m d := ⟨(plain_ok d a.pl).1, (plain_ok d a.pl).2.1, a.wt, a.dp⟩
theorem weight_app : ∀ a b : List PyData, PyData.weightAll (a ++ b) = PyData.weightAll a + PyData.weightAll b
  | [], b => by rw [List.nil_append]; exact (Nat.zero_add _).symm
  | x :: a, b => by
    show x.weight + 1 + PyData.weightAll (a ++ b) = x.weight + 1 + PyData.weightAll a + PyData.weightAll b
    rw [weight_app a b]
    omega
theorem depth_app : ∀ a b : List PyData, PyData.depthAll (a ++ b) = max (PyData.depthAll a) (PyData.depthAll b)
  | [], b => by
    rw [List.nil_append]
    exact (Nat.max_eq_right (Nat.zero_le _)).symm
  | x :: a, b => by
    show max x.depth (PyData.depthAll (a ++ b)) = max (max x.depth (PyData.depthAll a)) (PyData.depthAll b)
    rw [depth_app a b, Nat.max_assoc]
theorem short_app : ∀ a b : List PyData, PyData.leavesShortAll 48 (a ++ b) = (PyData.leavesShortAll 48 a && PyData.leavesShortAll 48 b)
  | [], b => rfl
  | x :: a, b => by
    show (x.leavesShort 48 && PyData.leavesShortAll 48 (a ++ b)) = (x.leavesShort 48 && PyData.leavesShortAll 48 a && PyData.leavesShortAll 48 b)
    rw [short_app a b, Bool.and_assoc]
theorem show_app : ∀ a b : List PyData, PyData.showableAll (a ++ b) = (PyData.showableAll a && PyData.showableAll b)
  | [], b => rfl
  | x :: a, b => by
    show (x.showable && PyData.showableAll (a ++ b)) = (x.showable && PyData.showableAll a && PyData.showableAll b)
    rw [show_app a b, Bool.and_assoc]
theorem wt_mem : ∀ {ds : List PyData} {d : PyData}, d ∈ ds → d.weight + 1 ≤ PyData.weightAll ds
  | x :: ds, d, h => by
    show d.weight + 1 ≤ x.weight + 1 + PyData.weightAll ds
    rcases List.mem_cons.mp h with rfl | h
    · omega
    · have := wt_mem h
      omega
theorem dp_mem : ∀ {ds : List PyData} {d : PyData}, d ∈ ds → d.depth ≤ PyData.depthAll ds
  | x :: ds, d, h => by
    show d.depth ≤ max x.depth (PyData.depthAll ds)
    rcases List.mem_cons.mp h with rfl | h
    · exact Nat.le_max_left _ _
    · exact Nat.le_trans (dp_mem h) (Nat.le_max_right _ _)
theorem len_wt : ∀ ds : List PyData, ds.length ≤ PyData.weightAll ds
  | [] => Nat.le_refl _
  | d :: ds => by
    have := len_wt ds
    show ds.length + 1 ≤ d.weight + 1 + PyData.weightAll ds
    omega
theorem Pv.item {w m : Nat} {ds : List PyData} {d : PyData} (a : Pv w m (.tuple ds)) (h : d ∈ ds) : Pv (w - 1) (m - 1) d := by
  have h1 := wt_mem h
  have h2 := a.wt
  have h3 := dp_mem h
  have h4 : PyData.depthAll ds + 1 ≤ m := a.dp
  have h5 : PyData.weightAll ds ≤ w := h2
  exact ⟨plain_mem a.pl d h, by omega, by omega⟩
/-- a plain tuple with one item replaced by any value -/
theorem bd_put {w m w2 m2 : Nat} {ds : List PyData} {j : Nat} {x y : PyData} (a : Pv w m (.tuple ds)) (hj : ds[j]? = some y) (hx : Bd w2 m2 x) (nx : Nx x) : Bd (w + w2) (max m (m2 + 1)) (.tuple (ds.take j ++ [x] ++ ds.drop (j + 1))) ∧ Nx (.tuple (ds.take j ++ [x] ++ ds.drop (j + 1))) := by
  obtain ⟨p1, p2, _, p4, p5⟩ := plains_ok ds a.pl
  have ha : PyData.weightAll ds ≤ w := a.wt
  have hd : PyData.depthAll ds + 1 ≤ m := a.dp
  have hjl := (List.getElem?_eq_some_iff.mp hj).1
  have e : ds = ds.take j ++ ([y] ++ ds.drop (j + 1)) := by
    conv => lhs; rw [← List.take_append_drop j ds]
    congr 1
    rw [List.drop_eq_getElem_cons hjl]
    have : ds[j] = y := Option.some.inj ((List.getElem?_eq_getElem hjl).symm.trans hj)
    rw [this]
    rfl
  have sub1 : ∀ z ∈ ds.take j, z ∈ ds := fun z hz => List.mem_of_mem_take hz
  have sub2 : ∀ z ∈ ds.drop (j + 1), z ∈ ds := fun z hz => List.mem_of_mem_drop hz
  have e1 := congrArg PyData.weightAll e
  rw [weight_app, weight_app] at e1
  have e2 := congrArg PyData.depthAll e
  rw [depth_app, depth_app] at e2
  have e3 := congrArg (PyData.leavesShortAll 48) e
  rw [short_app, short_app, p1] at e3
  have e4 := congrArg PyData.showableAll e
  rw [show_app, show_app, p2] at e4
  have e3 := e3.symm
  have e4 := e4.symm
  simp only [Bool.and_eq_true] at e3 e4
  have w1 : PyData.weightAll [y] = y.weight + 1 := rfl
  have w3 : PyData.weightAll [x] = x.weight + 1 := rfl
  have d3 : PyData.depthAll [x] = max x.depth 0 := rfl
  have hxw := hx.wt
  have hxd := hx.dp
  refine ⟨⟨?_, ?_, ?_, ?_⟩, ?_⟩
  · show PyData.leavesShortAll 48 (ds.take j ++ [x] ++ ds.drop (j + 1)) = true
    rw [short_app, short_app, e3.1, e3.2.2]
    show ((true && (x.leavesShort 48 && true)) && true) = true
    rw [hx.short]
    rfl
  · show PyData.showableAll (ds.take j ++ [x] ++ ds.drop (j + 1)) = true
    rw [show_app, show_app, e4.1, e4.2.2]
    show ((true && (x.showable && true)) && true) = true
    rw [hx.show_]
    rfl
  · show PyData.weightAll (ds.take j ++ [x] ++ ds.drop (j + 1)) ≤ w + w2
    rw [weight_app, weight_app, w3]
    omega
  · show PyData.depthAll (ds.take j ++ [x] ++ ds.drop (j + 1)) + 1 ≤ max m (m2 + 1)
    rw [depth_app, depth_app, d3]
    omega
  · refine nx_mem nx fun z hz => ?_
    rcases List.mem_append.mp hz with h | h
    · rcases List.mem_append.mp h with h | h
      · exact .inr (plain_ok z (plain_mem a.pl z (sub1 z h))).2.2.2
      · exact .inl (List.mem_singleton.mp h)
    · exact .inr (plain_ok z (plain_mem a.pl z (sub2 z h))).2.2.2
/-- a list of items of a plain tuple -/
theorem bd_sub {w m n : Nat} {ds es : List PyData} (a : Pv w m (.tuple ds)) (h : ∀ z ∈ es, z ∈ ds) (hw : PyData.weightAll es ≤ n) : Bd n m (.tuple es) ∧ Bd n m (.list es) ∧ Nx (.tuple es) ∧ Nx (.list es) := by
  have pl : ∀ z ∈ es, plainD z = true := fun z hz => plain_mem a.pl z (h z hz)
  have b : ∀ z ∈ es, Bd z.weight (m - 1) z := fun z hz => by
    have q := a.item (h z hz)
    exact ⟨(plain_ok z q.pl).1, (plain_ok z q.pl).2.1, Nat.le_refl _, q.dp⟩
  have hm : 1 ≤ m := by
    have : PyData.depthAll ds + 1 ≤ m := a.dp
    omega
  have all : ∀ {es : List PyData}, (∀ z ∈ es, Bd z.weight (m - 1) z) → PyData.leavesShortAll 48 es = true ∧ PyData.showableAll es = true ∧ PyData.depthAll es ≤ m - 1 := fun {es} => by
    induction es with
    | nil => intro _; exact ⟨rfl, rfl, Nat.zero_le _⟩
    | cons x es ih =>
      intro hb
      obtain ⟨i1, i2, i3⟩ := ih fun z hz => hb z (List.mem_cons_of_mem _ hz)
      have hx := hb x List.mem_cons_self
      refine ⟨?_, ?_, Nat.max_le.mpr ⟨hx.dp, i3⟩⟩
      · show (x.leavesShort 48 && PyData.leavesShortAll 48 es) = true
        rw [hx.short, i1]
        rfl
      · show (x.showable && PyData.showableAll es) = true
        rw [hx.show_, i2]
        rfl
  obtain ⟨h1, h2, h3⟩ := all b
  have hpl : ∀ z ∈ es, Pl z := fun z hz => (plain_ok z (pl z hz)).2.2.2
  exact ⟨⟨h1, h2, hw, by show PyData.depthAll es + 1 ≤ m; omega⟩, ⟨h1, h2, hw, by show PyData.depthAll es + 1 ≤ m; omega⟩, (nx_pl hpl).nx, nx_lst hpl⟩
end
end DD
namespace DD
open PySem PySem.Spec PyProof.Rows L2 RZ
abbrev NRp : List Str := ["_law_deck_here", "_law_value", "_law_depth", "_law_at", "_law_part", "_law_way"]
theorem scRepl : FnScope NRp ["_law_deck_here", "_law_value", "_law_depth"] (defScope sRepl) := ⟨rfl, rfl, rfl, by decide +kernel, rfl, by decide +kernel, by decide +kernel⟩
theorem lay_ofString (s : String) (h : s.length ≤ 40) : Bd 40 0 (.str (Str.ofString s)) := by
  refine ⟨?_, rfl, ?_, Nat.le_refl _⟩
  · show ((Str.ofString s).cps.toList.all fun c => decide (c < 16 ^ 8)) = true
    rw [Str.ofString_eq_toList, List.all_eq_true]
    intro c hc
    have hc : c ∈ s.toList.map Char.toNat := by simpa using hc
    obtain ⟨ch, _, rfl⟩ := List.mem_map.mp hc
    have := ch.val.toNat_lt
    exact decide_eq_true (by show ch.val.toNat < _; omega)
  · have e := PySem.ofString_length s
    show (Str.ofString s).cps.size ≤ 40
    have e2 : (Str.ofString s).length = (Str.ofString s).cps.size := rfl
    omega
theorem wt_take : ∀ (ds : List PyData) (n : Nat), PyData.weightAll (ds.take n) ≤ PyData.weightAll ds
  | [], n => by rw [List.take_nil]; exact Nat.le_refl _
  | d :: ds, 0 => Nat.zero_le _
  | d :: ds, n + 1 => by
    have := wt_take ds n
    show d.weight + 1 + PyData.weightAll (ds.take n) ≤ d.weight + 1 + PyData.weightAll ds
    omega
theorem wt_drop : ∀ (ds : List PyData) (n : Nat), PyData.weightAll (ds.drop n) ≤ PyData.weightAll ds
  | [], n => by rw [List.drop_nil]; exact Nat.le_refl _
  | d :: ds, 0 => Nat.le_refl _
  | d :: ds, n + 1 => by
    have := wt_drop ds n
    show PyData.weightAll (ds.drop n) ≤ d.weight + 1 + PyData.weightAll ds
    omega
theorem wt_rev : ∀ ds : List PyData, PyData.weightAll ds.reverse = PyData.weightAll ds
  | [] => rfl
  | d :: ds => by
    rw [List.reverse_cons, weight_app, wt_rev ds]
    show PyData.weightAll ds + (d.weight + 1 + 0) = d.weight + 1 + PyData.weightAll ds
    omega
theorem dq_rev {H : Hp} : ∀ {vs : List V} {ds : List PyData}, DqAll H vs ds → DqAll H vs.reverse ds.reverse
  | _, _, .nil => .nil
  | _, _, .cons a b => by
    rw [List.reverse_cons, List.reverse_cons]
    exact (dq_rev b).app (.cons a .nil)
theorem cons_one {ds : List PyData} (h : ds ≠ []) : (ds.take 1).length = 1 := by
  cases ds with
  | nil => exact absurd rfl h
  | cons a b => rfl
section
variable {P : Program} {w : World} {K : PySem.W.Frag} {mg : Str → Option Value} {base : Heap}

def spRp (e : Nat) : Sp := fun vs H Q _ => ∃ (X : Addr → Prop) (dk c : Addr) (B : Nat) (v : V) (d : PyData) (w m : Nat), vs = [.ref dk, v, .int (e : Int)] ∧ LX X dk c H ∧ Deck H dk c B ∧ B + 10 * (e + 1) ≤ 1000000 ∧ Dq (Wo X H) v d ∧ Pv w m d ∧ w ≤ 900 ∧ 1 ≤ m ∧ m ≤ 40 ∧
  ∀ v' d' H', Bd ((e + 2) * w + 200) (m + 3 + e) d' → Nx d' → Kp2 dk c H H' → Deck H' dk c (B + 10 * (e + 1)) → Dq (Wo X H') v' d' → Q v' H'
def spG : Nat → Sp
  | 0 => fun _ _ _ _ => False
  | e + 1 => spRp e
theorem spG_e {e : Nat} {vs : List V} {H : Hp} {Q : VK} {E : XK} (h : 1 ≤ e) (q : spRp (e - 1) vs H Q E) : spG e vs H Q E := by
  cases e with
  | zero => omega
  | succ e => exact q
set_option maxHeartbeats 1600000 in
theorem repl_body {fN fU fTu fAu fIr fTk fDk fD fS fPl fNu fId fAy fOo fRp fNr : Addr} {dN dU dTu dAu dIr dTk dDk dD dS dPl dNu dId dAy dOo dRp dNr : FuncData} {k : Nat} (T : Tx K mg fN fU fTu fAu fIr fTk fDk fD fS fPl fNu fId fAy fOo fRp fNr dN dU dTu dAu dIr dTk dDk dD dS dPl dNu dId dAy dOo dRp dNr) (e : Nat) (G : FnOk P w K mg base CX0 (k + 2 + e) fRp dRp ["_law_deck_here", "_law_value", "_law_depth"] (spG e)) :
    FnOk P w K mg base CX0 (k + 2 + e + 1) fRp dRp ["_law_deck_here", "_law_value", "_law_depth"] (spRp e) := by
  have GD : FnOk P w K mg base CX0 (k + 1) fD dD ["_law_deck_here", "_law_bound"] spDraw := ok_draw T.D T.m_len T.m_max
  have GO : FnOk P w K mg base CX0 (k + 2) fOo dOo ["_law_deck_here"] spOdd := ok_odd T.Oo T
  refine T.Rp.ok scRepl (fun vs H Q E h => ?_) (fun cdv A outer s H vs Q E hr h => ?_)
  · obtain ⟨X, dk, c, B, v, d, w, m, rfl, _⟩ := h
    rfl
  · obtain ⟨X, dk, c, B, v, d, w, m, rfl, hX, dek, hB, hd, hpv, hw, hm, hm40, q⟩ := h
    refine ⟨_, (C8.pss_cut (ps_if (PW.pt (pw_and (pt_val (pe_callB (show CallR _ _ (rIsi K) from call_isi) (by rfl) T.m_isinstance (by decide +kernel) (pa_cons (pv 1) (pa_cons (pe_bltn (v := .ty "tuple") (by rfl) T.m_tuple (by decide +kernel) rfl) pa_nil)))) (pw_and (pt_cmpR (op_neD hr.units) (pv 1) (pe_tup pa_nil) (nomark _)) (pw_and (pt_cmpR op_gt (pv 2) pe_int (nomark _)) (pw_and1 (pt_cmpR op_gt (pe_call GD (hr.mono (by omega)) (by rfl) T.gD T.D.kp T.bD .nil pass0 (pa_cons (pv 0) (pa_cons pe_int pa_nil))) pe_int (nomark _))))))) (pss_cons (ps_set (i := 3) scRepl.nd rfl (.inl rfl) (pe_call GD (hr.mono (by omega)) (by rfl) T.gD T.D.kp T.bD .nil pass0 (pa_cons (pv 0) (pa_cons (pe_callB call_len_seq (by rfl) T.m_len PySem.boot_len (pa_cons (pv 1) pa_nil)) pa_nil))))
      (pss_cons (ps_set (i := 4) scRepl.nd rfl (.inl rfl) (pe_call G (hr.mono (by omega)) (by rfl) T.gRp T.Rp.kp T.bRp .nil pass0 (pa_cons (pv 0) (pa_cons (pe_ix (show IxR _ (rIxT K) from ix_tup) (pv 1) (pv 3) (fun _ _ => rfl)) (pa_cons (pe_op op_sub (pv 2) pe_int) pa_nil)))))
      (pss_one (ps_ret (pe_op op_catQ (pe_op op_catQ (pe_slice sl_tupQ (pv 1) po_none (po_some (pv 3))) (pe_tup (pa_cons (pv 4) pa_nil))) (pe_slice sl_tupQ (pv 1) (po_some (pe_op op_add (pv 3) pe_int)) po_none)))))) pss_nil)
      (pss_cons (ps_set (i := 5) scRepl.nd rfl (.inl rfl) (pe_call GD (hr.mono (by omega)) (by rfl) T.gD T.D.kp T.bD .nil pass0 (pa_cons (pv 0) (pa_cons pe_int pa_nil))))
      (pss_cons (ps_if (pt_val (pe_callB (show CallR _ _ (rIsi K) from call_isi) (by rfl) T.m_isinstance (by decide +kernel) (pa_cons (pv 1) (pa_cons (pe_bltn (v := .ty "tuple") (by rfl) T.m_tuple (by decide +kernel) rfl) pa_nil)))) (pss_one (ps_ret (pe_ix (show IxR _ (rIxL K) from ix_list) (pe_lst (pa_cons (pe_op op_catQ (pv 1) (pe_slice sl_tupQ (pv 1) po_none (po_some pe_int))) (pa_cons (pe_slice sl_tupQ (pv 1) (po_some pe_int) po_none) (pa_cons (pe_revT (pv 1)) (pa_cons (pe_callTy (T := "list") (show CallR _ _ (rLstQ K) from call_list_of) (by rfl) T.m_list (by decide +kernel) (pa_cons (pv 1) pa_nil)) (pa_cons (pe_call GO (hr.mono (by omega)) (by rfl) T.gOo T.Oo.kp T.bOo .nil pass0 (pa_cons (pv 0) pa_nil)) pa_nil)))))) (pv 5) (fun _ _ => rfl)))) pss_nil)
      (pss_cons (ps_if (PW.pt (pw_and (pt_val (pe_callB (show CallR _ _ (rIsi K) from call_isi) (by rfl) T.m_isinstance (by decide +kernel) (pa_cons (pv 1) (pa_cons (pe_bltn (v := .ty "int") (by rfl) T.m_int (by decide +kernel) rfl) pa_nil)))) (pw_and1 (pt_not (pt_val (pe_callB (show CallR _ _ (rIsi K) from call_isi) (by rfl) T.m_isinstance (by decide +kernel) (pa_cons (pv 1) (pa_cons (pe_bltn (v := .ty "bool") (by rfl) T.m_bool (by decide +kernel) rfl) pa_nil)))))))) (pss_one (ps_ret (pe_ix (show IxR _ (rIxL K) from ix_list) (pe_lst (pa_cons (pe_op op_add (pv 1) pe_int) (pa_cons (pe_op op_sub (pv 1) pe_int) (pa_cons (pe_cmpR op_eq (pv 1) pe_int (nomark _)) (pa_cons (pe_callTy call_str_int (by rfl) T.m_str (by decide +kernel) (pa_cons (pv 1) pa_nil)) (pa_cons (pe_call GO (hr.mono (by omega)) (by rfl) T.gOo T.Oo.kp T.bOo .nil pass0 (pa_cons (pv 0) pa_nil)) pa_nil)))))) (pv 5) (fun _ _ => rfl)))) pss_nil)
      (pss_one (ps_ret (pe_call GO (hr.mono (by omega)) (by rfl) T.gOo T.Oo.kp T.bOo .nil pass0 (pa_cons (pv 0) pa_nil)))))))), ?_⟩
    obtain ⟨T0, t0, kT, kI, kB⟩ := dq_ty (K := K) (Dq.same wo_in _ _ hd)
    have hw2 : 2 * w ≤ (e + 2) * w := Nat.mul_le_mul_right _ (by omega)
    have hdb := hpv.bd
    have hd0 := Dq.same wo_in _ _ hd
    refine ⟨fun σ' H' => σ' = [some (.ref dk), some v, some (.int (e : Int)), none, none, none] ∧ Kp2 dk c H H' ∧ Deck H' dk c (B + 1), ?_, fun σ' H' h => ?_⟩
    · -- a part is replaced
      refine ⟨v, rfl, _, _, _, _, _, rfl, .ty _, t0, kT, _, rfl, ite2 (fun eT => ?_) (fun eT => ⟨rfl, Kp2.refl, dek.up (by omega)⟩)⟩
      have hdX := hd
      cases hd with
      | @tup a xs ds ha hs =>
        obtain ⟨haH, haX⟩ := wo_some ha
        have hlen := hs.len
        have hlw := len_wt ds
        have hwd : PyData.weightAll ds ≤ w := hpv.wt
        refine ⟨_, rfl, Nat.zero_le _, fun e1 ne1 => ?_⟩
        have s1 := same_new (o := .tup []) ne1
        have he1 : (upd H e1 (.tup [])) e1 = some (.tup []) := upd_same
        generalize upd H e1 (.tup []) = H1 at s1 he1 ⊢
        have dp : Dp K H1 (.ref a) (.tuple ds) := plain_dp _ _ hpv.pl (Dq.same s1 _ _ hd0)
        refine ⟨.tuple ds, .tuple [], dp, .tup (SqT.of he1) .nil, ?_, by decide +kernel, _, rfl, ite2 (fun e2 => ?_) (fun e2 => ⟨rfl, kps s1, (dek.keep s1).up (by omega)⟩)⟩
        · show ((PyData.tuple ds).canLay0 && decide ((PyData.tuple ds).depth ≤ 64)) = true
          rw [(plain_ok _ hpv.pl).2.2.1, decide_eq_true (Nat.le_trans hpv.dp (by omega))]
          rfl
        have hne : 1 ≤ ds.length := by
          cases ds with
          | nil => cases e2
          | cons x y => exact Nat.succ_le_succ (Nat.zero_le _)
        refine ⟨_, rfl, (e : Int), 0, rfl, rfl, _, rfl, ite2 (fun e3 => ?_) (fun e3 => ⟨rfl, kps s1, (dek.keep s1).up (by omega)⟩)⟩
        have he : 1 ≤ e := by
          have := of_decide_eq_true e3
          omega
        refine ⟨_, rfl, dk, c, B, 5, rfl, dek.keep s1, by omega, by decide, by decide, fun r0 H2 r00 r01 k2 d2 => ?_⟩
        have k12 := (kps s1).trans k2
        refine ⟨r0, 0, rfl, rfl, _, rfl, ite2 (fun e4 => ?_) (fun e4 => ⟨rfl, k12, d2⟩)⟩
        have hX2 := hX.kp k12 d2
        have hd2 := Dq.same (wo_kp hX k12) _ _ hdX
        have ha2 : H2 a = some (.tup xs) := (TK.kp dek k12) _ _ haH
        refine ⟨_, rfl, _, rfl, a, _, rfl, .inr (SqT.of ha2), dk, c, _, (xs.length : Int), rfl, d2, by omega, by omega, by omega, fun r1 H3 r10 r11 k3 d3 => ?_⟩
        obtain ⟨j, rfl⟩ : ∃ j : Nat, r1 = (j : Int) := ⟨r1.toNat, by omega⟩
        have hjx : j < xs.length := by omega
        have k13 := k12.trans k3
        have hX3 := hX.kp k13 d3
        have hx : xs[j]? = some xs[j] := List.getElem?_eq_getElem hjx
        have hs3 := DqAll.same (wo_kp hX k13) _ _ hs
        obtain ⟨y, hy, hq⟩ := hs3.get hx
        generalize xs[j] = x at hx hq
        have ha3 : H3 a = some (.tup xs) := (TK.kp dek k13) _ _ haH
        refine ⟨_, rfl, .ref a, rfl, .int (j : Int), rfl, a, _, (j : Int), x, rfl, rfl, SqT.of ha3, atI_nat hx, _, rfl, (e : Int), 1, rfl, rfl, spG_e he ?_⟩
        obtain ⟨e', rfl⟩ : ∃ e', e = e' + 1 := ⟨e - 1, by omega⟩
        have hy2 := hpv.item (List.mem_of_getElem? hy)
        have hyd := wt_mem (List.mem_of_getElem? hy)
        refine ⟨X, dk, c, _, x, y, w - 1, m - 1 + 1, congrArg (fun z => [V.ref dk, x, V.int z]) (by show ((e' : Int) + 1) - 1 = ((e' + 1 - 1 : Nat) : Int); omega), hX3, d3, by omega, hq, ⟨hy2.pl, hy2.wt, by have := hy2.dp; omega⟩, by omega, by omega, by omega, fun pv' pd H4 b4 n4 k4 d4 q4 => ?_⟩
        -- the tuple with the new part
        have k14 := k13.trans k4
        have hX4 := hX.kp k14 d4
        have ha4 : H4 a = some (.tup xs) := (TK.kp dek k14) _ _ haH
        refine ⟨_, rfl, ?_⟩
        dsimp only [tNoPart]
        refine ⟨_, rfl, (j : Int), rfl, a, _, rfl, ha4, fun p1 H5 s5 h1 => ?_⟩
        rw [cutV_to] at h1
        refine ⟨_, rfl, by show 1 ≤ sizeLine; decide, fun p2 n2 => ?_⟩
        have s6 := same_new (o := .tup [pv']) n2
        refine ⟨p1, p2, _, _, rfl, rfl, s6 _ _ h1, upd_same, by rw [List.length_take]; simp only [List.length_cons, List.length_nil]; omega, fun p3 H7 s7 h3 => ?_⟩
        have s57 := s5.trans (s6.trans s7)
        refine ⟨_, rfl, ?_⟩
        refine ⟨_, rfl, (j : Int), 1, rfl, rfl, (j : Int) + 1, rfl, ?_⟩
        refine ⟨a, _, rfl, s57 _ _ ha4, fun p4 H8 s8 h4 => ?_⟩
        rw [show ((j : Int) + 1) = ((j + 1 : Nat) : Int) by omega, cutV_from] at h4
        refine ⟨p3, p4, _, _, rfl, rfl, s8 _ _ h3, h4, by simp only [List.length_append, List.length_take, List.length_drop, List.length_cons, List.length_nil]; omega, fun p5 H9 s9 h5 => ?_⟩
        have s49 := s57.trans (s8.trans s9)
        have k19 := k14.trans (kps s49)
        have d9 := d4.keep s49
        have hX9 := hX.kp k19 d9
        obtain ⟨bb, nn⟩ := bd_put hpv hy b4 n4
        have hxs := DqAll.same (wo_kp hX k19) _ _ hs
        have hpq := Dq.same (wo_same s49) _ _ q4
        refine q (.ref p5) (.tuple (ds.take j ++ [pd] ++ ds.drop (j + 1))) H9 (bb.up ?_ ?_) nn k19 (d9.up (by omega)) (.tup (wo_of h5 (tup_ne hX9 (Same.refl _) h5)) (((hxs.take j).app (.cons hpq .nil)).app (hxs.drop (j + 1))))
        · refine Nat.le_trans (m := w + ((e' + 1 + 1) * w + 200)) (Nat.add_le_add_left (Nat.add_le_add_right (Nat.mul_le_mul_left _ (by omega)) _) _) ?_
          rw [show e' + 1 + 2 = (e' + 1 + 1) + 1 from rfl, Nat.succ_mul (e' + 1 + 1)]
          generalize (e' + 1 + 1) * w = z
          omega
        · omega
      | non => cases eT
      | bl _ => cases eT
      | int _ => cases eT
      | str _ => cases eT
      | lst _ _ => cases eT
      | d0 _ => cases eT
      | d1 _ => cases eT
    · obtain ⟨rfl, kp, d1⟩ := h
      have hX1 := hX.kp kp d1
      refine ⟨_, rfl, dk, c, _, 5, rfl, d1, by omega, by decide, by decide, fun wy H2 w0 w1 k2 d2 => ?_⟩
      have kp2 := kp.trans k2
      have hX2 := hX.kp kp2 d2
      have hq2 := Dq.same (wo_kp hX kp2) _ _ hd
      obtain ⟨j, rfl⟩ : ∃ j : Nat, wy = (j : Int) := ⟨wy.toNat, by omega⟩
      have hj5 : j < 5 := by omega
      obtain ⟨T2, t2, kT2, kI2, kB2⟩ := dq_ty (K := K) (Dq.same wo_in _ _ hq2)
      have odd1 : ∀ {d : PyData}, d ∈ oddA ++ oddB → Bd ((e + 2) * w + 200) (m + 3 + e) d ∧ Nx d := fun h => ⟨(val_odd h).1.up (by omega) (by omega), (val_odd h).2⟩
      refine ⟨v, rfl, _, _, _, _, _, rfl, .ty _, t2, kT2, _, rfl, ite2 (fun eT => ?_) (fun eT => ?_)⟩
      · cases hq2 with
        | @tup a xs ds ha hs =>
          have haH := (wo_some ha).1
          have hlen := hs.len
          have hlw := len_wt ds
          have hwd : PyData.weightAll ds ≤ w := hpv.wt
          refine ⟨_, rfl, _, rfl, ?_⟩
          dsimp only [tNoPart]
          refine ⟨1, rfl, a, _, rfl, haH, fun p1 H3 s3 h1 => ?_⟩
          have h1 : H3 p1 = some (.tup (xs.take 1)) := by
            have e := cutV_to (xs := xs) (s := 1)
            rw [← e]
            exact h1
          refine ⟨a, p1, _, _, rfl, rfl, s3 _ _ haH, h1, by rw [List.length_take]; omega, fun p2 H4 s4 h2 => ?_⟩
          have s24 := s3.trans s4
          refine ⟨_, rfl, 1, rfl, a, _, rfl, s24 _ _ haH, fun p3 H5 s5 h3 => ?_⟩
          have h3 : H5 p3 = some (.tup (xs.drop 1)) := by
            have e := cutV_from (xs := xs) (s := 1)
            rw [← e]
            exact h3
          have s25 := s24.trans s5
          refine ⟨_, rfl, a, _, rfl, SqT.of (s25 _ _ haH), fun p4 n4 => ?_⟩
          have s6 := same_new (o := .tup xs.reverse) n4
          have h4 : (upd H5 p4 (.tup xs.reverse)) p4 = some (.tup xs.reverse) := upd_same
          have m4 := new_ne hX2 s25 n4
          generalize upd H5 p4 (.tup xs.reverse) = H6 at s6 h4 ⊢
          have s26 := s25.trans s6
          refine ⟨_, rfl, a, _, rfl, .inr (SqT.of (s26 _ _ haH)), fun p5 n5 => ?_⟩
          have s7 := same_new (o := .lst xs) n5
          have h5 : (upd H6 p5 (.lst xs)) p5 = some (.lst xs) := upd_same
          have m5 := new_ne hX2 s26 n5
          generalize upd H6 p5 (.lst xs) = H7 at s7 h5 ⊢
          have s27 := s26.trans s7
          have kp7 := kp2.trans (kps s27)
          have d7 := d2.keep s27
          have hX7 := hX.kp kp7 d7
          refine ⟨_, rfl, X, dk, c, _, rfl, hX7, d7, by omega, fun ov od H8 hod k8 d8 hoq => ?_⟩
          have kp8 := kp7.trans k8
          refine ⟨by show 5 ≤ sizeLine; decide, fun L nL => ?_⟩
          have s9 := same_new (o := .lst [.ref p2, .ref p3, .ref p4, .ref p5, ov]) nL
          have kp9 := kp8.trans (kps s9)
          have d9 := d8.keep s9
          have hX9 := hX.kp kp9 d9
          have up79 : Same (Wo X H7) (Wo X (upd H8 L (.lst [.ref p2, .ref p3, .ref p4, .ref p5, ov]))) := (wo_kp hX7 k8).trans (wo_same s9)
          have hs7 := DqAll.same (wo_same s27) _ _ hs
          have t2' : Dq (Wo X H7) (.ref p2) (.tuple (ds ++ ds.take 1)) := by
            have z := s7 _ _ (s6 _ _ (s5 _ _ h2))
            exact .tup (wo_of z (tup_ne hX7 (Same.refl _) z)) (hs7.app (hs7.take 1))
          have t3' : Dq (Wo X H7) (.ref p3) (.tuple (ds.drop 1)) := by
            have z := s7 _ _ (s6 _ _ h3)
            exact .tup (wo_of z (tup_ne hX7 (Same.refl _) z)) (hs7.drop 1)
          have t4' : Dq (Wo X H7) (.ref p4) (.tuple ds.reverse) := .tup (wo_of (s7 _ _ h4) m4) (dq_rev hs7)
          have t5' : Dq (Wo X H7) (.ref p5) (.list ds) := .lst (wo_of h5 m5) hs7
          have all : DqAll (Wo X (upd H8 L (.lst [.ref p2, .ref p3, .ref p4, .ref p5, ov]))) [.ref p2, .ref p3, .ref p4, .ref p5, ov] [.tuple (ds ++ ds.take 1), .tuple (ds.drop 1), .tuple ds.reverse, .list ds, od] :=
            .cons (Dq.same up79 _ _ t2') (.cons (Dq.same up79 _ _ t3') (.cons (Dq.same up79 _ _ t4') (.cons (Dq.same up79 _ _ t5') (.cons (Dq.same (wo_same s9) _ _ hoq) .nil))))
          have hx : ([V.ref p2, .ref p3, .ref p4, .ref p5, ov] : List V)[j]? = some ([V.ref p2, .ref p3, .ref p4, .ref p5, ov] : List V)[j] := List.getElem?_eq_getElem (by show j < 5; exact hj5)
          obtain ⟨d', hd', hq'⟩ := all.get hx
          refine ⟨_, rfl, L, _, (j : Int), _, rfl, rfl, SqL.of upd_same, atI_nat hx, ?_⟩
          have hmem := List.mem_of_getElem? hd'
          have wt1 : PyData.weightAll (ds ++ ds.take 1) ≤ (e + 2) * w + 200 := by
            have := wt_take ds 1
            rw [weight_app]
            omega
          have wt2 : PyData.weightAll (ds.drop 1) ≤ (e + 2) * w + 200 := by
            have := wt_drop ds 1
            omega
          have wt3 : PyData.weightAll ds.reverse ≤ (e + 2) * w + 200 := by
            rw [wt_rev]
            omega
          have key : Bd ((e + 2) * w + 200) (m + 3 + e) d' ∧ Nx d' := by
            simp only [List.mem_cons, List.not_mem_nil, or_false] at hmem
            rcases hmem with rfl | rfl | rfl | rfl | rfl
            · obtain ⟨b1, _, n1, _⟩ := bd_sub hpv (es := ds ++ ds.take 1) (fun z hz => by
                rcases List.mem_append.mp hz with h | h
                · exact h
                · exact List.mem_of_mem_take h) wt1
              exact ⟨b1.up (Nat.le_refl _) (by omega), n1⟩
            · obtain ⟨b1, _, n1, _⟩ := bd_sub hpv (es := ds.drop 1) (fun z hz => List.mem_of_mem_drop hz) wt2
              exact ⟨b1.up (Nat.le_refl _) (by omega), n1⟩
            · obtain ⟨b1, _, n1, _⟩ := bd_sub hpv (es := ds.reverse) (fun z hz => List.mem_reverse.mp hz) wt3
              exact ⟨b1.up (Nat.le_refl _) (by omega), n1⟩
            · obtain ⟨_, b1, _, n1⟩ := bd_sub hpv (es := ds) (n := (e + 2) * w + 200) (fun z hz => hz) (by omega)
              exact ⟨b1.up (Nat.le_refl _) (by omega), n1⟩
            · exact odd1 hod
          exact q _ d' _ key.1 key.2 kp9 (d9.up (by omega)) hq'
        | non => cases eT
        | bl _ => cases eT
        | int _ => cases eT
        | str _ => cases eT
        | lst _ _ => cases eT
        | d0 _ => cases eT
        | d1 _ => cases eT
      · refine ⟨v, rfl, _, _, _, _, _, rfl, .ty _, t2, kI2, _, rfl, ite2 (fun eI => ?_) (fun eI => ?_)⟩
        · cases hq2 with
          | int i =>
            obtain ⟨i0, i1⟩ := plain_int hpv.pl
            refine ⟨_, rfl, _, _, _, _, _, rfl, .ty _, t2, kB2, _, rfl, iteT ?_⟩
            refine ⟨_, rfl, i, 1, rfl, rfl, ?_⟩
            refine ⟨_, rfl, i, 1, rfl, rfl, ?_⟩
            refine ⟨_, rfl, rfl, ?_⟩
            refine ⟨_, rfl, i, rfl, by have := log_1001 (i := i) (by omega) (by omega); omega, ?_⟩
            refine ⟨_, rfl, X, dk, c, _, rfl, hX2, d2, by omega, fun ov od H8 hod k8 d8 hoq => ?_⟩
            have kp8 := kp2.trans k8
            refine ⟨by show 5 ≤ sizeLine; decide, fun L nL => ?_⟩
            have s9 := same_new (o := .lst [.int (i + 1), .int (i - 1), .bl (decide (V.int i = V.int 1)), .str (Str.ofString (toString i)), ov]) nL
            have kp9 := kp8.trans (kps s9)
            have d9 := d8.keep s9
            have all : DqAll (Wo X (upd H8 L (.lst [.int (i + 1), .int (i - 1), .bl (decide (V.int i = V.int 1)), .str (Str.ofString (toString i)), ov]))) [.int (i + 1), .int (i - 1), .bl (decide (V.int i = V.int 1)), .str (Str.ofString (toString i)), ov] [.int (i + 1), .int (i - 1), .bool (decide (V.int i = V.int 1)), .str (Str.ofString (toString i)), od] :=
              .cons (.int _) (.cons (.int _) (.cons (.bl _) (.cons (.str _) (.cons (Dq.same (wo_same s9) _ _ hoq) .nil))))
            have hx : ([V.int (i + 1), .int (i - 1), .bl (decide (V.int i = V.int 1)), .str (Str.ofString (toString i)), ov] : List V)[j]? = some ([V.int (i + 1), .int (i - 1), .bl (decide (V.int i = V.int 1)), .str (Str.ofString (toString i)), ov] : List V)[j] := List.getElem?_eq_getElem (by show j < 5; exact hj5)
            obtain ⟨d', hd', hq'⟩ := all.get hx
            refine ⟨_, rfl, L, _, (j : Int), _, rfl, rfl, SqL.of upd_same, atI_nat hx, ?_⟩
            have hmem := List.mem_of_getElem? hd'
            have key : Bd ((e + 2) * w + 200) (m + 3 + e) d' ∧ Nx d' := by
              simp only [List.mem_cons, List.not_mem_nil, or_false] at hmem
              rcases hmem with rfl | rfl | rfl | rfl | rfl
              · exact ⟨(bd_sint (by omega) (by omega)).up (by omega) (by omega), fun z => by cases z⟩
              · exact ⟨(bd_sint (by omega) (by omega)).up (by omega) (by omega), fun z => by cases z⟩
              · exact ⟨(bd_bool _).up (by omega) (by omega), fun z => by cases z⟩
              · exact ⟨(lay_ofString _ (Nat.le_trans (int_text_length_le (a := i) (k := 12) (by decide) (by have := log_1001 (i := i) (by omega) (by omega); omega)) (by decide))).up (by omega) (by omega), fun z => by cases z⟩
              · exact odd1 hod
            exact q _ d' _ key.1 key.2 kp9 (d9.up (by omega)) hq'
          | bl b => exact absurd hpv.pl Bool.false_ne_true
          | non => cases eI
          | str _ => cases eI
          | lst _ _ => cases eI
          | tup _ _ => cases eI
          | d0 _ => cases eI
          | d1 _ => cases eI
        · refine ⟨_, rfl, X, dk, c, _, rfl, hX2, d2, by omega, fun ov od H8 hod k8 d8 hoq => ?_⟩
          exact q _ od _ (odd1 hod).1 (odd1 hod).2 (kp2.trans k8) (d8.up (by omega)) hoq
theorem ok_repl {fN fU fTu fAu fIr fTk fDk fD fS fPl fNu fId fAy fOo fRp fNr : Addr} {dN dU dTu dAu dIr dTk dDk dD dS dPl dNu dId dAy dOo dRp dNr : FuncData} {k : Nat} (T : Tx K mg fN fU fTu fAu fIr fTk fDk fD fS fPl fNu fId fAy fOo fRp fNr dN dU dTu dAu dIr dTk dDk dD dS dPl dNu dId dAy dOo dRp dNr) : ∀ e : Nat, FnOk P w K mg base CX0 (k + 2 + e + 1) fRp dRp ["_law_deck_here", "_law_value", "_law_depth"] (spRp e)
  | 0 => repl_body (k := k) T 0 ⟨fun _ _ _ _ h => h.elim, fun _ _ _ _ _ _ _ _ _ _ _ _ _ h => h.elim⟩
  | e + 1 => repl_body (k := k) T (e + 1) ((ok_repl (k := k) T e).mono (by omega))
end
end DD
namespace DD
open PySem PySem.Spec PyProof.Rows L2 RZ DM
def sN : Nat → (Nat → Int) → Int
  | 0, _ => 0
  | n + 1, f => sN n f + f n
theorem sN_le {f g : Nat → Int} : ∀ {n : Nat}, (∀ k, k < n → f k ≤ g k) → sN n f ≤ sN n g
  | 0, _ => Int.le_refl _
  | n + 1, h => by
    have := sN_le (n := n) fun k hk => h k (by omega)
    have := h n (by omega)
    show sN n f + f n ≤ sN n g + g n
    omega
theorem sN_congr {f g : Nat → Int} : ∀ {n : Nat}, (∀ k, k < n → f k = g k) → sN n f = sN n g
  | 0, _ => rfl
  | n + 1, h => by
    have := sN_congr (n := n) fun k hk => h k (by omega)
    have := h n (by omega)
    show sN n f + f n = sN n g + g n
    omega
theorem sN_add {f g : Nat → Int} : ∀ {n : Nat}, sN n (fun k => f k + g k) = sN n f + sN n g
  | 0 => rfl
  | n + 1 => by
    have := sN_add (f := f) (g := g) (n := n)
    show sN n (fun k => f k + g k) + (f n + g n) = sN n f + f n + (sN n g + g n)
    omega
theorem sN_zero {n : Nat} : sN n (fun _ => 0) = 0 := by
  induction n with
  | zero => rfl
  | succ n ih => show sN n (fun _ => 0) + 0 = 0; omega
theorem sN_range (n : Nat) (f : Nat → Int) : ((List.range n).map f).sum = sN n f := by
  induction n with
  | zero => rfl
  | succ n ih =>
    rw [List.range_succ, List.map_append, List.sum_append, ih]
    simp [sN]
def plF (ps : List Int) (j : Nat) : Int := ps.getD j 0
def lfF (l : List Int) (k : Nat) : Int := l.getD k 0
structure Dr (r : List Int) (n : Nat) (pd : Int) (cts : List Int) : Prop where
  len : cts.length = n
  bd : ∀ k, 0 ≤ lfF cts k ∧ (k < n → lfF cts k ≤ lfF r k)
  sum : cts.sum = pd
theorem sum_lfF {l : List Int} {n : Nat} (h : l.length = n) : l.sum = sN n (lfF l) := by
  rw [← sN_range]
  congr 1
  refine List.ext_getElem? fun i => ?_
  rw [List.getElem?_map]
  by_cases hi : i < n
  · rw [List.getElem?_range hi, getD_of (d := 0) (by omega)]
    rfl
  · rw [List.getElem?_eq_none (by omega), List.getElem?_eq_none (by rw [List.length_range]; omega)]
    rfl
structure IsDr (rows : List (List Int)) (ps : List Int) (n : Nat) (D : List (List Int)) : Prop where
  len : D.length = rows.length
  dr : ∀ j, j < rows.length → Dr (rows.getD j []) n (plF ps j) (D.getD j [])
def posAt (row : List Int) (j : Nat) : Bool := decide (row.getD j 0 > 0)
def kindsUp (row : List Int) (m : Nat) : List Int := ((List.range m).filter (posAt row)).map fun j => (0 : Int) + (j : Nat)
def kindsOf (row : List Int) : List Int := kindsUp row row.length
theorem kinds_succ (row : List Int) (m : Nat) : kindsUp row (m + 1) = kindsUp row m ++ (if posAt row m = true then [(0 : Int) + (m : Nat)] else []) := by
  unfold kindsUp
  rw [List.range_succ, List.filter_append, List.map_append]
  congr 1
  by_cases e : posAt row m = true
  · rw [if_pos e, List.filter_cons_of_pos e]
    rfl
  · rw [if_neg e, List.filter_cons_of_neg e]
    rfl
theorem kinds_len (row : List Int) (m : Nat) : (kindsUp row m).length ≤ m := by
  unfold kindsUp
  rw [List.length_map]
  exact Nat.le_trans (List.length_filter_le _ _) (by rw [List.length_range]; exact Nat.le_refl _)
theorem kinds_bd (row : List Int) (m : Nat) : ∀ x ∈ kindsUp row m, 0 ≤ x ∧ x < (m : Int) := by
  intro x hx
  obtain ⟨j, hj, rfl⟩ := List.mem_map.mp hx
  have := List.mem_range.mp (List.mem_filter.mp hj).1
  omega
end DD
namespace DD
open PySem PySem.Spec PyProof.Rows L2 RZ DM
theorem sum_set {v : Int} : ∀ {l : List Int} {i : Nat}, i < l.length → (l.set i v).sum = l.sum - l.getD i 0 + v
  | [], i, h => by simp at h
  | a :: l, 0, _ => by
    show v + l.sum = a + l.sum - a + v
    omega
  | a :: l, i + 1, h => by
    have := sum_set (v := v) (l := l) (i := i) (by simpa using h)
    show a + (l.set i v).sum = a + l.sum - l.getD i 0 + v
    omega
theorem getD_set {v : Int} {l : List Int} {i j : Nat} (h : i < l.length) : (l.set i v).getD j 0 = if j = i then v else l.getD j 0 := by
  by_cases e : j = i
  · subst e
    rw [if_pos rfl, List.getD_eq_getElem?_getD, List.getElem?_set_self h]
    rfl
  · rw [if_neg e, List.getD_eq_getElem?_getD, List.getElem?_set_ne (fun z => e z.symm), List.getD_eq_getElem?_getD]
/-- what is left of a drawer and what was taken, after q things -/
structure An (r lf ow : List Int) (n : Nat) (q : Nat) : Prop where
  lr : r.length = n
  ll : lf.length = n
  lo : ow.length = n
  nl : ∀ k, 0 ≤ lf.getD k 0
  no : ∀ k, 0 ≤ ow.getD k 0
  ad : ∀ k, lf.getD k 0 + ow.getD k 0 = r.getD k 0
  sm : ow.sum = q
theorem An.start {r : List Int} {n : Nat} (h : r.length = n) (h0 : ∀ k, 0 ≤ r.getD k 0) : An r r (List.replicate n 0) n 0 := by
  have e : ∀ k, (List.replicate n (0 : Int)).getD k 0 = 0 := fun k => by
    rw [List.getD_eq_getElem?_getD, List.getElem?_replicate]
    split <;> rfl
  have e2 : ∀ m : Nat, (List.replicate m (0 : Int)).sum = 0 := fun m => by
    induction m with
    | zero => rfl
    | succ m ih => rw [List.replicate_succ, List.sum_cons, ih]; rfl
  exact ⟨h, h, List.length_replicate, h0, fun k => by rw [e]; exact Int.le_refl _, fun k => by rw [e, Int.add_zero], e2 n⟩
theorem An.step {r lf ow : List Int} {n q k : Nat} (a : An r lf ow n q) (hk : k < n) (hp : 0 < lf.getD k 0) : An r (lf.set k (lf.getD k 0 - 1)) (ow.set k (ow.getD k 0 + 1)) n (q + 1) := by
  have hl := a.ll
  have ho := a.lo
  refine ⟨a.lr, by rw [List.length_set]; exact hl, by rw [List.length_set]; exact ho, fun j => ?_, fun j => ?_, fun j => ?_, ?_⟩
  · rw [getD_set (by omega)]
    have := a.nl j
    split <;> omega
  · rw [getD_set (by omega)]
    have := a.no k
    have := a.no j
    split <;> omega
  · rw [getD_set (by omega), getD_set (by omega)]
    have h1 := a.ad j
    by_cases e : j = k
    · rw [if_pos e, if_pos e]
      subst e
      omega
    · rw [if_neg e, if_neg e]
      exact h1
  · rw [sum_set (by omega), a.sm]
    omega
theorem An.sum {r lf ow : List Int} {n q : Nat} (a : An r lf ow n q) : lf.sum + q = r.sum := by
  rw [← a.sm, sum_lfF a.ll, sum_lfF a.lo, sum_lfF a.lr, ← sN_add]
  exact sN_congr fun k _ => a.ad k
theorem An.dr {r lf ow : List Int} {n q : Nat} (a : An r lf ow n q) : Dr r n q ow :=
  ⟨a.lo, fun k => ⟨a.no k, fun _ => by
    have := a.nl k
    have := a.ad k
    unfold lfF
    omega⟩, a.sm⟩
theorem An.some {r lf ow : List Int} {n q : Nat} (a : An r lf ow n q) (h : (q : Int) < r.sum) : kindsUp lf n ≠ [] := fun z => by
  have h1 := a.sum
  have h2 : lf.sum ≤ 0 := by
    rw [sum_lfF a.ll, ← sN_zero (n := n)]
    refine sN_le fun k hk => ?_
    show lf.getD k 0 ≤ 0
    rcases Int.lt_or_le 0 (lf.getD k 0) with h | h
    · have hm : ((0 : Int) + (k : Nat)) ∈ kindsUp lf n := List.mem_map.mpr ⟨k, List.mem_filter.mpr ⟨List.mem_range.mpr hk, decide_eq_true h⟩, rfl⟩
      rw [z] at hm
      cases hm
    · exact h
  omega
theorem kinds_at {lf : List Int} {n : Nat} {j : Nat} {v : Int} (h : (kindsUp lf n)[j]? = some v) : ∃ k : Nat, v = (k : Int) ∧ k < n ∧ 0 < lf.getD k 0 := by
  obtain ⟨k, hk, rfl⟩ := List.mem_map.mp (List.mem_of_getElem? h)
  obtain ⟨h1, h2⟩ := List.mem_filter.mp hk
  exact ⟨k, by omega, List.mem_range.mp h1, of_decide_eq_true h2⟩
theorem kp_none {dk c F : Addr} {H H' : Hp} {B : Nat} (kp : Kp2 dk c H H') (d : Deck H' dk c B) (n : H' F = none) : H F = none := kp_free kp d n
/-- the draws so far -/
structure Fo (H : Hp) (rows : List (List Int)) (ps : List Int) (n : Nat) (fs : List Addr) (Ds : List (List Int)) (i : Nat) : Prop where
  l1 : fs.length = i
  l2 : Ds.length = i
  at_ : ∀ (j : Nat) (a : Addr) (D : List Int), fs[j]? = some a → Ds[j]? = some D → H a = some (.tup (D.map V.int)) ∧ Dr (rows.getD j []) n (ps.getD j 0) D
theorem Fo.tk {H H' : Hp} {rows : List (List Int)} {ps : List Int} {n : Nat} {fs : List Addr} {Ds : List (List Int)} {i : Nat} (a : Fo H rows ps n fs Ds i) (k : TK H H') : Fo H' rows ps n fs Ds i :=
  ⟨a.l1, a.l2, fun j x D e1 e2 => ⟨k _ _ (a.at_ j x D e1 e2).1, (a.at_ j x D e1 e2).2⟩⟩
theorem Fo.snoc {H : Hp} {rows : List (List Int)} {ps : List Int} {n : Nat} {fs : List Addr} {Ds : List (List Int)} {i : Nat} {x : Addr} {D : List Int} (a : Fo H rows ps n fs Ds i) (h : H x = some (.tup (D.map V.int))) (d : Dr (rows.getD i []) n (ps.getD i 0) D) : Fo H rows ps n (fs ++ [x]) (Ds ++ [D]) (i + 1) := by
  refine ⟨by rw [List.length_append, a.l1]; rfl, by rw [List.length_append, a.l2]; rfl, fun j y E e1 e2 => ?_⟩
  by_cases hj : j < fs.length
  · rw [List.getElem?_append_left hj] at e1
    rw [List.getElem?_append_left (by rw [a.l2, ← a.l1]; exact hj)] at e2
    exact a.at_ j y E e1 e2
  · have hj2 : j = fs.length := by
      have := (List.getElem?_eq_some_iff.mp e1).1
      rw [List.length_append] at this
      simp at this
      omega
    subst hj2
    rw [List.getElem?_append_right (Nat.le_refl _), Nat.sub_self] at e1
    rw [a.l1, ← a.l2, List.getElem?_append_right (Nat.le_refl _), Nat.sub_self] at e2
    obtain rfl : x = y := Option.some.inj e1
    obtain rfl : D = E := Option.some.inj e2
    rw [a.l1]
    exact ⟨h, d⟩
abbrev NAy : List Str := ["_law_deck_here", "_law_stock_here", "_law_plan_here", "_law_kind_first", "_law_found", "_law_style", "_law_row", "_law_many", "_law_left", "_law_own", "_law_turn", "_law_kind", "_law_kinds"]
theorem scAy : FnScope NAy ["_law_deck_here", "_law_stock_here", "_law_plan_here"] (defScope sAnyDr) := ⟨rfl, rfl, rfl, by decide +kernel, rfl, by decide +kernel, by decide +kernel⟩
section
variable {P : Program} {w : World} {K : PySem.W.Frag} {mg : Str → Option Value} {base : Heap}
def spAny : Sp := fun vs H Q _ => ∃ (dk c t p : Addr) (B : Nat) (ls : List Addr) (rows : List (List Int)) (ps : List Int) (n : Nat), vs = [.ref dk, .ref t, .ref p] ∧ Deck H dk c B ∧ B + 1000 ≤ 1000000 ∧ StockAt H t ls rows ∧ Rb rows n ∧ H p = some (.tup (ps.map V.int)) ∧ ps.length = rows.length ∧
  (∀ j, j < rows.length → 0 ≤ ps.getD j 0 ∧ ps.getD j 0 ≤ sizeAt rows j) ∧ ∀ (d : Addr) (dl : List Addr) (D : List (List Int)) H', StockAt H' d dl D → IsDr rows ps n D → Kp2 dk c H H' → Deck H' dk c (B + 1000) → Q (.ref d) H'
set_option maxHeartbeats 1600000 in
theorem ok_any {f fN fU fTu fAu fIr fTk fDk fD fS fPl fNu fId fAy fOo fRp fNr : Addr} {fd dN dU dTu dAu dIr dTk dDk dD dS dPl dNu dId dAy dOo dRp dNr : FuncData} {k : Nat} (F : Fun K "_law_any_draw" "_law_any_draw" sAnyDr f fd) (T : Tx K mg fN fU fTu fAu fIr fTk fDk fD fS fPl fNu fId fAy fOo fRp fNr dN dU dTu dAu dIr dTk dDk dD dS dPl dNu dId dAy dOo dRp dNr) :
    FnOk P w K mg base CX0 (k + 2) f fd ["_law_deck_here", "_law_stock_here", "_law_plan_here"] spAny := by
  have GD : FnOk P w K mg base CX0 (k + 1) fD dD ["_law_deck_here", "_law_bound"] spDraw := ok_draw T.D T.m_len T.m_max
  refine F.ok scAy (fun vs H Q E h => ?_) (fun cdv A outer s H vs Q E hr h => ?_)
  · obtain ⟨dk, c, t, p, B, ls, rows, ps, n, rfl, _⟩ := h
    rfl
  · obtain ⟨dk, c, t, p, B, ls, rows, ps, n, rfl, dek, hB, st, rb, hp, hpl, hbd, q⟩ := h
    refine ⟨_, (pss_cons (ps_par (i := 3) (j := 4) (by rfl) scAy.nd rfl rfl (by decide) rfl rfl (pa_cons (pe_call GD (hr.mono (by omega)) (by rfl) T.gD T.D.kp T.bD .nil pass0 (pa_cons (pv 0) (pa_cons (pe_callB call_len_seq (by rfl) T.m_len PySem.boot_len (pa_cons (pe_ix (show IxR _ (rIxT K) from ix_tup) (pv 1) pe_int (fun _ _ => rfl)) pa_nil)) pa_nil))) (pa_cons (pe_lst pa_nil) pa_nil)) (by rfl))
      (pss_cons (ps_set (i := 5) scAy.nd rfl (.inl rfl) (pe_call GD (hr.mono (by omega)) (by rfl) T.gD T.D.kp T.bD .nil pass0 (pa_cons (pv 0) (pa_cons pe_int pa_nil))))
      (pss_cons (ps_for PassesOwn.never rfl (pi_zipA (by rfl) T.m_zip (pa_cons (pv 1) (pa_cons (pv 2) pa_nil))) (pg_tup rfl (pgs_cons (pg_name (i := 6) scAy.nd rfl (Or.inl rfl)) (pgs_cons (pg_name (i := 7) scAy.nd rfl (Or.inl rfl)) pgs_nil))) (pss_cons (ps_asg (pe_tup (pa_cons (pe_callTy call_list_of (by rfl) T.m_list (by decide +kernel) (pa_cons (pv 6) pa_nil)) (pa_cons (pe_op op_rep (pe_lst (pa_cons pe_int pa_nil)) (pe_callB call_len_seq (by rfl) T.m_len PySem.boot_len (pa_cons (pv 6) pa_nil))) pa_nil))) (pg_tup rfl (pgs_cons (pg_name (i := 8) scAy.nd rfl (Or.inr rfl)) (pgs_cons (pg_name (i := 9) scAy.nd rfl (Or.inl rfl)) pgs_nil))))
      (pss_cons (ps_for PassesOwn.never rfl (pi_range1 (by rfl) T.m_range (pa_cons (pv 7) pa_nil)) (pg_name (i := 10) scAy.nd rfl (Or.inl rfl)) (pss_cons (ps_setLc (i := 12) (own := [("_law_kind", 11)]) (g := gName 11) rfl scAy.nd rfl rfl (sw_true rfl rfl rfl (by decide +kernel)) (pi_range1 (by rfl) T.m_range (pa_cons (pe_callB call_len_seq (by rfl) T.m_len PySem.boot_len (pa_cons (pv 6) pa_nil)) pa_nil)) (blkOk_by (own := [("_law_kind", 11)]) (N := NAy) (sc := defScope sAnyDr) (by decide +kernel)) (fun _ _ _ _ _ => (pg_name (i := 11) scAy.nd rfl (Or.inl rfl))) (fun _ _ _ _ _ => pts_one (pt_cmpR op_gt (pe_ix (show IxR _ (rIxL K) from ix_list) (pv 8) (pv 11) (fun _ _ => rfl)) pe_int (nomark _))) (fun _ _ _ _ _ => (pv 11)))
      (pss_cons (ps_set (i := 11) scAy.nd rfl (.inl rfl) (pe_ix (show IxR _ (rIxL K) from ix_list) (pv 12) (pe_call GD (hr.mono (by omega)) (by rfl) T.gD T.D.kp T.bD .nil pass0 (pa_cons (pv 0) (pa_cons (pe_callB call_len_seq (by rfl) T.m_len PySem.boot_len (pa_cons (pv 12) pa_nil)) pa_nil))) (fun _ _ => rfl)))
      (C8.pss_cut (ps_if (PW.pt (pw_and (pt_cmpR op_eq (pv 5) pe_int (nomark _)) (pw_and1 (pt_cmpR op_gt (pe_ix (show IxR _ (rIxL K) from ix_list) (pv 8) (pv 3) (fun _ _ => rfl)) pe_int (nomark _))))) (pss_one (ps_set (i := 11) scAy.nd rfl (.inl rfl) (pv 3))) pss_nil)
      (pss_cons (ps_asg (pe_op op_sub (pe_ix (show IxR _ (rIxL K) from ix_list) (pv 8) (pv 11) (fun _ _ => rfl)) pe_int) (pg_sub (pv 8) (pv 11) set_list))
      (pss_one (ps_asg (pe_op op_add (pe_ix (show IxR _ (rIxL K) from ix_list) (pv 9) (pv 11) (fun _ _ => rfl)) pe_int) (pg_sub (pv 9) (pv 11) set_list))))))))
      (pss_one (ps_expr (pe_bm PySem.F.plainAttrs_list PySem.F.slot_list_append PySem.F.type_list_append mt_append (pv 4) (pa_cons (pe_callTy call_tuple_of (by rfl) T.m_tuple (by decide +kernel) (pa_cons (pv 9) pa_nil)) pa_nil)))))))
      (pss_one (ps_ret (pe_callTy call_tuple_of (by rfl) T.m_tuple (by decide +kernel) (pa_cons (pv 4) pa_nil))))))), ?_⟩
    have hr1 := rb.r1
    have hr4 := rb.r4
    have hn1 := rb.n1
    have hn4 := rb.n4
    have hll := st.len
    have hl0 := getD_of (d := 0) (show 0 < ls.length by omega)
    have hr0 := getD_of (d := ([] : List Int)) hr1
    have g0 : (ls.map V.ref)[0]? = some (.ref (ls.getD 0 0)) := by
      rw [List.getElem?_map, hl0]
      rfl
    have hrl0 := (rb.rw _ (List.mem_of_getElem? hr0)).1
    refine ⟨_, rfl, _, rfl, t, _, 0, .ref (ls.getD 0 0), rfl, rfl, SqT.of st.top, atI_nat (j := 0) g0, ls.getD 0 0, _, rfl, .inr (SqT.of (st.row 0 _ _ hl0 hr0)), ?_⟩
    rw [List.length_map, hrl0]
    refine ⟨dk, c, B, n, rfl, dek, by omega, by omega, by omega, fun kf H1 kf0 kf1 k1 d1 => ?_⟩
    refine ⟨Nat.zero_le _, fun F nF => ?_⟩
    have nHF : H F = none := kp_free k1 d1 nF
    have fne := d1.nedk nF
    have k1 := k1.updF (o := .lst []) nHF
    have d1 := d1.kp (o := .lst []) nF
    have hF : (upd H1 F (.lst [])) F = some (.lst (([] : List Addr).map V.ref)) := upd_same
    generalize upd H1 F (.lst []) = H2 at k1 d1 hF ⊢
    refine ⟨_, _, rfl, ?_⟩
    refine ⟨_, rfl, dk, c, _, 2, rfl, d1, by omega, by decide, by decide, fun sty H3 _ _ k3 d3 => ?_⟩
    have hF := k3 _ _ fne.1 fne.2 hF
    have k3 := k1.trans k3
    have tk0 : ∀ {H' : Hp}, Kp2 dk c H H' → TK H H' := fun k => TK.kp dek k
    refine ⟨_, rfl, _, rfl, t, p, ls.map V.ref, ps.map V.int, rfl, .inr ⟨SqT.of (tk0 k3 _ _ st.top), SqT.of (tk0 k3 _ _ hp), ?_⟩⟩
    refine for_it (walk_zipT (xs := ls.map V.ref) (ys := ps.map V.int) (by rw [List.length_map, List.length_map]; omega)) (fun i σ H' => ∃ (fs : List Addr) (Ds : List (List Int)) (y6 y7 y8 y9 ya yb yc : Option V), σ = [some (.ref dk), some (.ref t), some (.ref p), some (.int kf), some (.ref F), some (.int sty), y6, y7, y8, y9, ya, yb, yc] ∧
        Fo H' rows ps n fs Ds i ∧ H' F = some (.lst (fs.map V.ref)) ∧ Kp2 dk c H H' ∧ Deck H' dk c (B + 2 + 205 * i))
      ⟨[], [], _, _, _, _, _, _, _, rfl, ⟨rfl, rfl, fun j a D e => by simp at e⟩, hF, k3, d3.up (by omega)⟩
      (fun i σ H' _ h => by obtain ⟨_, _, _, _, _, _, _, _, _, _, _, _, k', _⟩ := h; exact ⟨SqT.of (tk0 k' _ _ st.top), SqT.of (tk0 k' _ _ hp)⟩) (fun i x σ H' H4 hi h y => ?_) (fun σ H' h => ?_)
    · obtain ⟨fs, Ds, y6, y7, y8, y9, ya, yb, yc, rfl, fo, hF, kp, d⟩ := h
      obtain ⟨T1, x1, x2, rfl, nT, rfl, e1, e2⟩ := y
      obtain ⟨l, hl, rfl⟩ := get_map e1
      obtain ⟨m, hm, rfl⟩ := get_map e2
      rw [List.length_map] at hi
      have hil : i < rows.length := by omega
      have hri := getD_of (d := []) hil
      have hmi : ps.getD i 0 = m := by rw [List.getD_eq_getElem?_getD, hm]; rfl
      have hrow := tk0 kp _ _ (st.row i l _ hl hri)
      have hb := hbd i hil
      have hsz := rb.at_ hil
      have hrw := rb.rw _ (List.mem_of_getElem? hri)
      rw [hmi] at hb
      have hsd : sizeAt rows i = (rows.getD i []).sum := rfl
      have fo1 := fo
      obtain ⟨mn, rfl⟩ : ∃ mn : Nat, m = (mn : Int) := ⟨m.toNat, by omega⟩
      have snoc0 : ∀ {Hx : Hp} {x : Addr} {D : List Int}, Fo Hx rows ps n fs Ds i → Hx x = some (.tup (D.map V.int)) → Dr (rows.getD i []) n (mn : Int) D → Fo Hx rows ps n (fs ++ [x]) (Ds ++ [D]) (i + 1) := fun a h d => a.snoc h (by rw [hmi]; exact d)
      have hr0' : ∀ k, 0 ≤ (rows.getD i []).getD k 0 := fun k => (getD_bd (fun x hx => hrw.2 x hx) (by decide) k).1
      rw [hsd] at hb hsz
      generalize rows.getD i [] = r at hrow hb hrw hsz hr0' snoc0
      have nHT := kp_free kp d nT
      have k5 := kp.updF (o := .tup [.ref l, .int (mn : Int)]) nHT
      have d5 := d.kp (o := .tup [.ref l, .int (mn : Int)]) nT
      have sT : Same H' (upd H' T1 (.tup [.ref l, .int (mn : Int)])) := same_new nT
      have fo5 := fo.tk (TK.same sT)
      have hF5 := sT _ _ hF
      have hrow5 := sT _ _ hrow
      refine ⟨T1, [.ref l, .int (mn : Int)], rfl, .inl (.inl upd_same), rfl, .ref l, [.int (mn : Int)], rfl, .int (mn : Int), [], rfl, rfl, ?_⟩
      generalize upd H' T1 (.tup [V.ref l, V.int (mn : Int)]) = H5 at k5 d5 fo5 hF5 hrow5 ⊢
      -- list(row), [0] * len(row)
      refine ⟨_, rfl, l, r.map V.int, rfl, .inr (SqT.of hrow5), fun L nL => ?_⟩
      have nHL := kp_free k5 d5 nL
      have lne := d5.nedk nL
      have k6 := k5.updF (o := .lst (r.map V.int)) nHL
      have d6 := d5.kp (o := .lst (r.map V.int)) nL
      have sL : Same H5 (upd H5 L (.lst (r.map V.int))) := same_new nL
      have hL6 : (upd H5 L (.lst (r.map V.int))) L = some (.lst (r.map V.int)) := upd_same
      have fo6 := fo5.tk (TK.same sL)
      have hF6 := sL _ _ hF5
      have hrow6 := sL _ _ hrow5
      generalize upd H5 L (.lst (r.map V.int)) = H6 at k6 d6 hL6 fo6 hF6 hrow6 ⊢
      refine ⟨by show 1 ≤ sizeLine; decide, fun z nz => ?_⟩
      have sz : Same H6 (upd H6 z (.lst [.int 0])) := same_new nz
      have k7 := k6.updF (o := .lst [.int 0]) (kp_free k6 d6 nz)
      have d7 := d6.kp (o := .lst [.int 0]) nz
      have hz7 : (upd H6 z (.lst [V.int 0])) z = some (.lst [.int 0]) := upd_same
      have fo7 := fo6.tk (TK.same sz)
      have hF7 := sz _ _ hF6
      have hL7 := sz _ _ hL6
      have hrow7 := sz _ _ hrow6
      generalize upd H6 z (.lst [V.int 0]) = H7 at k7 d7 hz7 fo7 hF7 hL7 hrow7 ⊢
      refine ⟨_, rfl, l, _, rfl, .inr (SqT.of hrow7), ?_⟩
      refine ⟨z, (n : Int), [.int 0], rfl, by rw [List.length_map, hrw.1], hz7, by omega, by omega, ?_, fun O nO => ?_⟩
      · rw [Int.toNat_natCast]
        exact Nat.le_of_lt (len_lt (by show 1 * n ≤ 1000; omega))
      rw [Int.toNat_natCast]
      have hfl : (List.replicate n [V.int 0]).flatten = (List.replicate n (0 : Int)).map V.int := by
        have e1 : ∀ m : Nat, (List.replicate m [V.int 0]).flatten = (List.replicate m (0 : Int)).map V.int := fun m => by
          induction m with
          | zero => rfl
          | succ m ih =>
            rw [List.replicate_succ, List.flatten_cons, ih, List.replicate_succ]
            rfl
        exact e1 n
      rw [hfl]
      have one := d7.nedk nO
      have nHO := kp_free k7 d7 nO
      have sO : Same H7 (upd H7 O (.lst ((List.replicate n (0 : Int)).map V.int))) := same_new nO
      have k8 := k7.updF (o := .lst ((List.replicate n (0 : Int)).map V.int)) nHO
      have d8 := d7.kp (o := .lst ((List.replicate n (0 : Int)).map V.int)) nO
      have hO8 : (upd H7 O (.lst ((List.replicate n (0 : Int)).map V.int))) O = some (.lst ((List.replicate n (0 : Int)).map V.int)) := upd_same
      have fo8 := fo7.tk (TK.same sO)
      have hF8 := sO _ _ hF7
      have hL8 := sO _ _ hL7
      have hrow8 := sO _ _ hrow7
      have hLO : L ≠ O := fun e => by rw [e, nO] at hL7; cases hL7
      have hFL : F ≠ L := fun e => by rw [e, nL] at hF5; cases hF5
      have hFO : F ≠ O := fun e => by rw [e, nO] at hF7; cases hF7
      generalize upd H7 O (.lst ((List.replicate n (0 : Int)).map V.int)) = H8 at k8 d8 hO8 fo8 hF8 hL8 hrow8 ⊢
      refine ⟨by show 2 ≤ sizeLine; decide, fun T2 nT2 => ?_⟩
      have s9 : Same H8 (upd H8 T2 (.tup [.ref L, .ref O])) := same_new nT2
      have k9 := k8.updF (o := .tup [.ref L, .ref O]) (kp_free k8 d8 nT2)
      have d9 := d8.kp (o := .tup [.ref L, .ref O]) nT2
      have fo9 := fo8.tk (TK.same s9)
      have hF9 := s9 _ _ hF8
      have hL9 := s9 _ _ hL8
      have hO9 := s9 _ _ hO8
      have hrow9 := s9 _ _ hrow8
      refine ⟨T2, [.ref L, .ref O], rfl, .inl (.inl upd_same), rfl, .ref L, [.ref O], rfl, .ref O, [], rfl, rfl, ?_⟩
      generalize upd H8 T2 (.tup [V.ref L, V.ref O]) = H9 at k9 d9 fo9 hF9 hL9 hO9 hrow9 ⊢
      -- the turns
      refine ⟨_, rfl, (mn : Int), rfl, by omega, by omega, ?_⟩
      refine for_range (lo := 0) (n := mn) (fun j σ H' => ∃ (lf ow : List Int) (ya yb yc : Option V), σ = [some (.ref dk), some (.ref t), some (.ref p), some (.int kf), some (.ref F), some (.int sty), some (.ref l), some (.int (mn : Int)), some (.ref L), some (.ref O), ya, yb, yc] ∧
          An r lf ow n j ∧ H' L = some (.lst (lf.map V.int)) ∧ H' O = some (.lst (ow.map V.int)) ∧ H' F = some (.lst (fs.map V.ref)) ∧ Fo H' rows ps n fs Ds i ∧ Kp2 dk c H H' ∧ Deck H' dk c (B + 2 + 205 * i + j))
        ⟨r, List.replicate n 0, _, _, _, rfl, An.start hrw.1 hr0', hL9, hO9, hF9, fo9, k9, d9⟩ (fun j σ Ha hj h => ?_) (fun σ Ha h => ?_)
      · obtain ⟨lf, ow, ya, yb, yc, rfl, an, hL, hO, hF, fo, kp, d⟩ := h
        have hlf := an.ll
        have how := an.lo
        have hne := an.some (by omega)
        have hrw2 := tk0 kp _ _ (st.row i l _ hl hri)
        have hlen2 := (rb.rw _ (List.mem_of_getElem? hri)).1
        -- the kinds
        refine ⟨_, rfl, l, _, rfl, .inr (SqT.of hrw2), (n : Int), by rw [List.length_map, hlen2], by omega, by omega, fun B2 nB2 => ?_⟩
        refine lc_range (lo := 0) (n := n) (fun u H' => H' B2 = some (.lst ((kindsUp lf u).map V.int)) ∧ Same Ha H') ⟨upd_same, same_new nB2⟩ (fun u H' hu h => ?_) (fun H' h => ?_)
        · obtain ⟨hB2, sm⟩ := h
          have gu : (lf.map V.int)[u]? = some (.int (lf.getD u 0)) := by
            rw [List.getElem?_map, getD_of (d := 0) (by omega)]
            rfl
          refine ⟨rfl, _, rfl, _, rfl, L, _, _, .int (lf.getD u 0), rfl, rfl, SqL.of (sm _ _ hL), ?_, lf.getD u 0, 0, rfl, rfl, _, rfl, ?_⟩
          · rw [Int.zero_add]
            exact atI_nat gu
          rw [kinds_succ]
          refine ite2 (fun e => ?_) (fun e => ?_)
          · have e' : posAt lf u = true := e
            rw [if_pos e']
            refine ⟨_, rfl, _, hB2, ?_, ?_, fun b' o e => ?_⟩
            · rw [List.length_map]
              have := kinds_len lf u
              exact len_lt (by omega)
            · rw [upd_same, List.map_append]
              rfl
            · rw [upd_ne (ne_of_none e nB2)]
              exact sm _ _ e
          · have e' : ¬ posAt lf u = true := e
            rw [if_neg e', List.append_nil]
            exact ⟨hB2, sm⟩
        · obtain ⟨hB2, sm⟩ := h
          have bne := d.nedk nB2
          have nHB := kp_free kp d nB2
          have kpb := kp.trans (kps sm)
          have db := d.keep sm
          have hL := sm _ _ hL
          have hO := sm _ _ hO
          have hF := sm _ _ hF
          have fo := fo.tk (TK.same sm)
          have hkl := kinds_len lf n
          have hk1 : 1 ≤ (kindsUp lf n).length := by
            rcases Nat.eq_zero_or_pos (kindsUp lf n).length with z | z
            · exact absurd (List.eq_nil_of_length_eq_zero z) hne
            · exact z
          clear kp d
          refine ⟨_, rfl, _, rfl, _, rfl, B2, _, rfl, .inl (SqL.of hB2), ?_⟩
          rw [List.length_map]
          refine ⟨dk, c, _, ((kindsUp lf n).length : Int), rfl, db, by omega, by omega, by omega, fun v Hb v0 v1 kb db => ?_⟩
          have kpc := kpb.trans kb
          have hL := kb _ _ lne.1 lne.2 hL
          have hO := kb _ _ one.1 one.2 hO
          have hF := kb _ _ fne.1 fne.2 hF
          have hB3 := kb _ _ bne.1 bne.2 hB2
          have fo := fo.tk (TK.kp (by assumption) kb)
          obtain ⟨jn, rfl⟩ : ∃ jn : Nat, v = (jn : Int) := ⟨v.toNat, by omega⟩
          have hjn : (kindsUp lf n)[jn]? = some ((kindsUp lf n)[jn]'(by omega)) := List.getElem?_eq_getElem _
          obtain ⟨kd, hkd, hkn, hkp⟩ := kinds_at hjn
          rw [hkd] at hjn
          refine ⟨B2, _, (jn : Int), .int (kd : Int), rfl, rfl, SqL.of hB3, atI_nat (by rw [List.getElem?_map, hjn]; rfl), ?_⟩
          clear hjn hkd
          refine ⟨fun σ' H' => ∃ kd : Nat, σ' = [some (.ref dk), some (.ref t), some (.ref p), some (.int kf), some (.ref F), some (.int sty), some (.ref l), some (.int (mn : Int)), some (.ref L), some (.ref O), some (.int ((0 : Int) + (j : Nat))), some (.int (kd : Int)), some (.ref B2)] ∧ H' = Hb ∧ kd < n ∧ 0 < lf.getD kd 0, ?_, fun σ' H' h => ?_⟩
          · refine ⟨_, rfl, rfl, _, rfl, ite2 (fun e => ?_) (fun e => ?_)⟩
            · obtain ⟨kn, rfl⟩ : ∃ kn : Nat, kf = (kn : Int) := ⟨kf.toNat, by omega⟩
              have gk : (lf.map V.int)[kn]? = some (.int (lf.getD kn 0)) := by
                rw [List.getElem?_map, getD_of (d := 0) (by omega)]
                rfl
              refine ⟨_, rfl, _, rfl, L, _, (kn : Int), .int (lf.getD kn 0), rfl, rfl, SqL.of hL, atI_nat gk, lf.getD kn 0, 0, rfl, rfl, _, rfl, ite2 (fun e2 => ?_) (fun e2 => ?_)⟩
              · exact ⟨_, rfl, kn, rfl, rfl, by omega, of_decide_eq_true e2⟩
              · exact ⟨kd, rfl, rfl, hkn, hkp⟩
            · exact ⟨kd, rfl, rfl, hkn, hkp⟩
          · clear hkn hkp kd
            obtain ⟨kd, rfl, rfl, hkn, hkp⟩ := h
            have gk : (lf.map V.int)[kd]? = some (.int (lf.getD kd 0)) := by
              rw [List.getElem?_map, getD_of (d := 0) (by omega)]
              rfl
            have hix : ∀ xs : List Int, xs.length = n → ixN (xs.map V.int).length ((kd : Nat) : Int) = some kd := fun xs hx => by
              unfold ixN
              rw [if_pos (by omega), if_pos (by rw [List.length_map]; omega)]
              simp
            have an2 := an.step hkn hkp
            refine ⟨_, rfl, _, rfl, L, _, (kd : Int), .int (lf.getD kd 0), rfl, rfl, SqL.of hL, atI_nat gk, lf.getD kd 0, 1, rfl, rfl, _, rfl, _, rfl, L, _, (kd : Int), kd, rfl, rfl, hL, hix lf hlf, ?_⟩
            rw [← List.map_set]
            have hLc : (upd H' L (.lst ((lf.set kd (lf.getD kd 0 - 1)).map V.int))) L = some (.lst ((lf.set kd (lf.getD kd 0 - 1)).map V.int)) := upd_same
            have hOc : (upd H' L (.lst ((lf.set kd (lf.getD kd 0 - 1)).map V.int))) O = some (.lst (ow.map V.int)) := by
              rw [upd_ne hLO.symm]
              exact hO
            have hFc : (upd H' L (.lst ((lf.set kd (lf.getD kd 0 - 1)).map V.int))) F = some (.lst (fs.map V.ref)) := by
              rw [upd_ne hFL]
              exact hF
            have foc := fo.tk (TK.lst (o := .lst ((lf.set kd (lf.getD kd 0 - 1)).map V.int)) hL)
            have kpd := kpc.updF (o := .lst ((lf.set kd (lf.getD kd 0 - 1)).map V.int)) nHL
            have dc := db.updD (o := .lst ((lf.set kd (lf.getD kd 0 - 1)).map V.int)) lne.1 lne.2
            generalize upd H' L (.lst ((lf.set kd (lf.getD kd 0 - 1)).map V.int)) = Hc at hLc hOc hFc foc kpd dc ⊢
            have go : (ow.map V.int)[kd]? = some (.int (ow.getD kd 0)) := by
              rw [List.getElem?_map, getD_of (d := 0) (by omega)]
              rfl
            refine ⟨_, rfl, _, rfl, O, _, (kd : Int), .int (ow.getD kd 0), rfl, rfl, SqL.of hOc, atI_nat go, ow.getD kd 0, 1, rfl, rfl, _, rfl, _, rfl, O, _, (kd : Int), kd, rfl, rfl, hOc, hix ow how, ?_⟩
            rw [← List.map_set]
            refine ⟨_, _, _, _, _, rfl, an2, ?_, upd_same, ?_, foc.tk (TK.lst hOc), kpd.updF nHO, (dc.updD one.1 one.2).up (by omega)⟩
            · rw [upd_ne hLO]
              exact hLc
            · rw [upd_ne hFO]
              exact hFc
      · obtain ⟨lf, ow, ya, yb, yc, rfl, an, hL, hO, hF, fo, kp, d⟩ := h
        refine ⟨.ref F, rfl, .inl ⟨rfl, _, SqL.of hF⟩, _, rfl, O, _, rfl, .inl ⟨SqL.of hO, fun zt nzt => ?_⟩⟩
        have st9 : Same Ha (upd Ha zt (.tup (ow.map V.int))) := same_new nzt
        have hFt := st9 _ _ hF
        have fot := snoc0 (fo.tk (TK.same st9)) upd_same an.dr
        have kpt := kp.updF (o := .tup (ow.map V.int)) (kp_free kp d nzt)
        have dt := d.kp (o := .tup (ow.map V.int)) nzt
        have hfl1 := fo.l1
        generalize upd Ha zt (.tup (ow.map V.int)) = Hb at hFt fot kpt dt ⊢
        refine ⟨F, fs.map V.ref, .ref zt, rfl, rfl, hFt, ?_, fs ++ [zt], Ds ++ [ow], _, _, _, _, _, _, _, rfl, fot.tk (TK.lst hFt), ?_, kpt.updF nHF, (dt.updD fne.1 fne.2).up (by omega)⟩
        · rw [List.length_map]
          exact len_lt (by omega)
        · rw [upd_same, List.map_append]
          rfl
    · obtain ⟨fs, Ds, y6, y7, y8, y9, ya, yb, yc, rfl, fo, hF, kp, d⟩ := h
      rw [List.length_map, hll] at fo d
      have hl1 := fo.l1
      have hl2 := fo.l2
      refine ⟨_, rfl, F, _, rfl, .inl ⟨SqL.of hF, fun dd nd => ?_⟩⟩
      have sd : Same H' (upd H' dd (.tup (fs.map V.ref))) := same_new nd
      have fod := fo.tk (TK.same sd)
      refine q dd fs Ds _ ⟨upd_same, by omega, fun j a D e1 e2 => (fod.at_ j a D e1 e2).1⟩ ⟨hl2, fun j hj => ?_⟩ (kp.updF (kp_free kp d nd)) ((d.kp nd).up (by omega))
      have e1 := getD_of (d := 0) (show j < fs.length by omega)
      have e2 := getD_of (d := []) (show j < Ds.length by omega)
      exact (fo.at_ j _ _ e1 e2).2
end
end DD
namespace DD
open PySem PySem.Spec PyProof.Rows L2 RZ
theorem scLNum : FnScope ["_law_value", "_law_low", "_law_high"] ["_law_value", "_law_low", "_law_high"] (defScope sNum) := ⟨rfl, rfl, rfl, by decide +kernel, rfl, by decide +kernel, by decide +kernel⟩
section
variable {P : Program} {w : World} {K : PySem.W.Frag} {mg : Str → Option Value} {base : Heap}
def spLNum : Sp := fun vs H Q _ => ∃ v d m, vs = [v, .int 0, .int m] ∧ Dq H v d ∧ Q (.bl (numOk m d)) H
theorem ok_lnum {f : Addr} {fd : FuncData} {k : Nat} (F : Fun K "_law_number" "_law_number" sNum f fd) (mI : mg "isinstance" = none) (mi : mg "int" = none) (mb : mg "bool" = none) : FnOk P w K mg base CX0 (k + 1) f fd ["_law_value", "_law_low", "_law_high"] spLNum := by
  refine F.ok scLNum (fun vs H Q E h => ?_) (fun cdv A outer s H vs Q E hr h => ?_)
  · obtain ⟨v, d, m, rfl, _⟩ := h
    rfl
  · obtain ⟨v, d, m, rfl, hd, q⟩ := h
    refine ⟨_, pss_one (ps_ret (pe_and (pe_callB (show CallR _ _ (rIsi K) from call_isi) (by rfl) mI (by decide +kernel) (pa_cons (pv 0) (pa_cons (pe_bltn (v := .ty "int") (by rfl) mi (by decide +kernel) rfl) pa_nil)))
      (pe_and (pe_not (pe_callB (show CallR _ _ (rIsi K) from call_isi) (by rfl) mI (by decide +kernel) (pa_cons (pv 0) (pa_cons (pe_bltn (v := .ty "bool") (by rfl) mb (by decide +kernel) rfl) pa_nil))))
      (pe_one (pe_chain op_le op_le (pv 1) (pv 0) (pv 2)))))), ?_⟩
    obtain ⟨T, t, kT, kI, kB⟩ := dq_ty (K := K) hd
    refine ⟨v, rfl, _, _, _, _, _, rfl, .ty _, t, kI, _, rfl, ?_⟩
    cases hd with
    | int i =>
      refine iteT ⟨_, rfl, _, _, _, _, _, rfl, .ty _, t, kB, _, rfl, _, rfl, iteT ⟨_, rfl, _, rfl, _, _, rfl, rfl, _, rfl, ?_⟩⟩
      have q : Q (.bl (decide (0 ≤ i) && decide (i ≤ m))) H := q
      by_cases c : (0 : Int) ≤ i
      · rw [decide_eq_true c, Bool.true_and] at q
        refine iteT2 (decide_eq_true c) ⟨_, rfl, _, _, rfl, rfl, q⟩
      · rw [decide_eq_false c, Bool.false_and] at q
        exact iteF2 (decide_eq_false c) q
    | bl b => exact iteT ⟨_, rfl, _, _, _, _, _, rfl, .ty _, t, kB, _, rfl, _, rfl, iteF q⟩
    | non => exact iteF q
    | str _ => exact iteF q
    | lst _ _ => exact iteF q
    | tup _ _ => exact iteF q
    | d0 _ => exact iteF q
    | d1 _ => exact iteF q
end
def rEqE : R2 := fun x y H Q => ∃ a b xs, x = .ref a ∧ y = .ref b ∧ H a = some (.lst xs) ∧ H b = some (.lst []) ∧ Q (.bl xs.isEmpty) H
theorem op_eqE {X : Cx} (hu : X.A.units + 64 < cLine) : OpR X (compareOp .Eq) rEqE := by
  intro pins s σ H x y v u Q I rx ry h
  obtain ⟨a, b, xs, rfl, rfl, ha, hb, q⟩ := h
  by_cases hx : xs = []
  · subst hx
    refine op_eqD hu pins s σ H _ _ v u Q I rx ry ⟨.list [], .list [], .lst (SqL.of ha) .nil, .lst (SqL.of hb) .nil, by decide +kernel, by decide +kernel, ?_⟩
    rw [show PyData.eqv (.list []) (.list []) = true by decide +kernel]
    exact q
  · cases rx
    cases ry
    obtain ⟨its, rv, ⟨o, n, h1, h2, _, h3⟩, _⟩ := I.list (SqL.of (K := X.K) ha)
    obtain ⟨its2, rv2, ⟨o2, n2, k1, k2, _, k3⟩, _⟩ := I.list (SqL.of (K := X.K) hb)
    cases rv2
    have hs : (its.toArray.size != ([] : List Value).toArray.size) = true := by
      have := rv.length
      cases xs with
      | nil => exact absurd rfl hx
      | cons _ _ =>
        cases its with
        | nil => simp at this
        | cons _ _ => simp
    have e : xs.isEmpty = false := by
      cases xs with
      | nil => exact absurd rfl hx
      | cons _ _ => rfl
    rw [e] at q
    exact SeqAt.RcAt.lists_lengths (A := X.A) (s := s) ⟨o, h1, h2, n, h3⟩ ⟨o2, k1, k2, n2, k3⟩ hs (by omega) _ _ _ _ ⟨.bl false, H, I, rfl, q⟩
theorem scAuD : FnScope ["value", "limits", "number", "limit"] ["value", "limits"] (defScope sNumsUp) := ⟨rfl, rfl, rfl, by decide +kernel, rfl, by decide +kernel, by decide +kernel⟩
/-- a tuple with a number from 0 to the limit for each limit -/
def upOk (ls : List Int) : PyData → Bool
  | .tuple ds => decide (ds.length = ls.length) && (List.zipWith (fun d l => numOk l d) ds ls).all id
  | _ => false
def badUp (ds : List PyData) (ls : List Int) (i : Nat) : List Int := (((List.zipWith (fun d l => numOk l d) ds ls).take i).filter fun b => !b).map fun _ => 1
theorem bad_succ {ds : List PyData} {ls : List Int} {i : Nat} {d : PyData} {l : Int} (h1 : ds[i]? = some d) (h2 : ls[i]? = some l) : badUp ds ls (i + 1) = badUp ds ls i ++ (if numOk l d = true then [] else [1]) := by
  unfold badUp
  have hz : (List.zipWith (fun d l => numOk l d) ds ls)[i]? = some (numOk l d) := by rw [List.getElem?_zipWith, h1, h2]
  rw [List.take_add_one, hz, List.filter_append, List.map_append]
  congr 1
  cases e : numOk l d with
  | true => rfl
  | false => rfl
theorem bad_nil {ds : List PyData} {ls : List Int} {i : Nat} (hi : (List.zipWith (fun d l => numOk l d) ds ls).length ≤ i) : ((badUp ds ls i).map V.int).isEmpty = (List.zipWith (fun d l => numOk l d) ds ls).all id := by
  unfold badUp
  rw [List.take_of_length_le hi]
  generalize List.zipWith (fun d l => numOk l d) ds ls = bs
  induction bs with
  | nil => rfl
  | cons b bs ih =>
    cases b with
    | true =>
      show ((((bs.filter fun b => !b)).map fun _ => (1 : Int)).map V.int).isEmpty = (true && bs.all id)
      rw [Bool.true_and]
      exact ih
    | false => rfl
theorem bad_len (ds : List PyData) (ls : List Int) (i : Nat) : (badUp ds ls i).length ≤ i := by
  unfold badUp
  rw [List.length_map]
  refine Nat.le_trans (List.length_filter_le _ _) ?_
  rw [List.length_take]
  exact Nat.min_le_left _ _
section
variable {P : Program} {w : World} {K : PySem.W.Frag} {mg : Str → Option Value} {base : Heap}
def spAuD : Sp := fun vs H Q _ => ∃ (v : V) (d : PyData) (b : Addr) (ls : List Int), vs = [v, .ref b] ∧ Dq H v d ∧ H b = some (.tup (ls.map V.int)) ∧ ls.length ≤ 900 ∧ ∀ H', Same H H' → Q (.bl (upOk ls d)) H'
theorem ok_auD {f fN fU fTu fAu fIr fTk fDk fD fS fPl fNu fId fAy fOo fRp fNr : Addr} {fd dN dU dTu dAu dIr dTk dDk dD dS dPl dNu dId dAy dOo dRp dNr : FuncData} {k : Nat} (F : Fun K "are_numbers_up_to" "are_numbers_up_to" sNumsUp f fd) (T : Tx K mg fN fU fTu fAu fIr fTk fDk fD fS fPl fNu fId fAy fOo fRp fNr dN dU dTu dAu dIr dTk dDk dD dS dPl dNu dId dAy dOo dRp dNr) :
    FnOk P w K mg base CX0 (k + 3) f fd ["value", "limits"] spAuD := by
  have GU : FnOk P w K mg base CX0 (k + 2) fU dU ["value", "most"] spUpTo := ok_upto T.U T.N T.bN T.gN T.m_isinstance T.m_int T.m_bool
  have GTu : FnOk P w K mg base CX0 (k + 1) fTu dTu ["value", "fewest", "most"] (spTupOf K) := ok_tupof T.Tu T.m_isinstance T.m_tuple T.m_len
  refine F.ok scAuD (fun vs H Q E h => ?_) (fun cdv A outer s H vs Q E hr h => ?_)
  · obtain ⟨v, d, b, ls, rfl, _⟩ := h
    rfl
  · obtain ⟨v, d, b, ls, rfl, hd, hb, hl, q⟩ := h
    refine ⟨_, (pss_cons (ps_if (pt_not (pt_val (pe_call GTu (hr.mono (by omega)) (by rfl) T.gTu T.Tu.kp T.bTu .nil pass0 (pa_cons (pv 0) (pa_cons (pe_callB call_len_seq (by rfl) T.m_len PySem.boot_len (pa_cons (pv 1) pa_nil)) (pa_cons (pe_callB call_len_seq (by rfl) T.m_len PySem.boot_len (pa_cons (pv 1) pa_nil)) pa_nil)))))) (pss_one (ps_ret pe_bl)) pss_nil)
      (pss_one (ps_ret (pe_callB (cr_all rfl) (by rfl) T.m_all (by decide +kernel) (pa_cons (pe_lc (own := [("number", 2), ("limit", 3)]) (g := gTup K 2 (gCons (gName 2) (gCons (gName 3) gNil))) rfl scAuD.nd (pi_zipA (by rfl) T.m_zip (pa_cons (pv 0) (pa_cons (pv 1) pa_nil))) (blkOk_by (own := [("number", 2), ("limit", 3)]) (N := ["value", "limits", "number", "limit"]) (sc := defScope sNumsUp) (by decide +kernel)) (fun _ _ _ _ _ => (pg_tup rfl (pgs_cons (pg_name (i := 2) scAuD.nd rfl (Or.inl rfl)) (pgs_cons (pg_name (i := 3) scAuD.nd rfl (Or.inl rfl)) pgs_nil)))) (fun _ _ _ _ _ => pts_nil) (fun _ _ _ _ _ => (pe_call GU (hr.mono (by omega)) (by rfl) T.gU T.U.kp T.bU .nil pass0 (pa_cons (pv 2) (pa_cons (pv 3) pa_nil))))) pa_nil))))), ?_⟩
    refine ⟨_, rfl, _, rfl, b, _, rfl, .inr (SqT.of hb), _, rfl, b, _, rfl, .inr (SqT.of hb), v, d, _, _, rfl, hd, _, rfl, ?_⟩
    rw [List.length_map]
    cases hd with
    | @tup a xs ds ha hs =>
      have hlen := hs.len
      show if (!(true && (decide ((ls.length : Int) ≤ (ds.length : Int)) && decide ((ds.length : Int) ≤ (ls.length : Int))))) = true then _ else _
      have q : ∀ H', Same H H' → Q (.bl (decide (ds.length = ls.length) && (List.zipWith (fun d l => numOk l d) ds ls).all id)) H' := q
      by_cases e : ds.length = ls.length
      · rw [show (decide ((ls.length : Int) ≤ (ds.length : Int)) && decide ((ds.length : Int) ≤ (ls.length : Int))) = true by simp [e]]
        rw [decide_eq_true e, Bool.true_and] at q
        refine iteF (A := False) ?_
        refine ⟨_, rfl, _, rfl, a, b, xs, _, rfl, .inr ⟨SqT.of ha, SqT.of hb, fun D nD => ?_⟩⟩
        refine lc_zipT (xs := xs) (ys := ls.map V.int) (by rw [List.length_map]; omega) (fun i H' => H' D = some (.lst (((List.zipWith (fun d l => numOk l d) ds ls).take i).map V.bl)) ∧ Same H H') ⟨upd_same, same_new nD⟩
          (fun i H' _ h => ⟨SqT.of (h.2 _ _ ha), SqT.of (h.2 _ _ hb)⟩) (fun i x y T H' hx hy h nT => ?_) (fun H' h => ?_)
        · obtain ⟨hD, sm⟩ := h
          obtain ⟨dx, hdx, hq⟩ := hs.get hx
          obtain ⟨n, hn, rfl⟩ := get_map hy
          have hz : (List.zipWith (fun d l => numOk l d) ds ls)[i]? = some (numOk n dx) := by
            rw [List.getElem?_zipWith, hdx, hn]
          have sT : Same H' (upd H' T (.tup [x, .int n])) := same_new nT
          refine ⟨T, [x, .int n], rfl, .inl (.inl upd_same), rfl, x, [.int n], rfl, .int n, [], rfl, rfl, rfl, _, rfl, _, rfl, x, dx, n, rfl, Dq.same (sm.trans sT) _ _ hq, _, sT _ _ hD, ?_, ?_, fun b' o e => ?_⟩
          · rw [List.length_map, List.length_take]
            have : (List.zipWith (fun d l => numOk l d) ds ls).length ≤ ls.length := by rw [List.length_zipWith]; omega
            exact len_lt (by omega)
          · rw [upd_same, take_succ_map hz]
          · rw [upd_ne (ne_of_none e nD)]
            exact sT _ _ (sm b' o e)
        · obtain ⟨hD, sm⟩ := h
          rw [List.take_of_length_le (by rw [List.length_zipWith]; omega)] at hD
          exact ⟨D, _, rfl, SqL.of hD, q _ sm⟩
      · rw [show (decide ((ls.length : Int) ≤ (ds.length : Int)) && decide ((ds.length : Int) ≤ (ls.length : Int))) = false by
          rw [Bool.and_eq_false_iff, decide_eq_false_iff_not, decide_eq_false_iff_not]
          omega]
        rw [decide_eq_false e, Bool.false_and] at q
        exact iteT (q _ (Same.refl _))
    | non => exact iteT (q _ (Same.refl _))
    | bl _ => exact iteT (q _ (Same.refl _))
    | int _ => exact iteT (q _ (Same.refl _))
    | str _ => exact iteT (q _ (Same.refl _))
    | lst _ _ => exact iteT (q _ (Same.refl _))
    | d0 _ => exact iteT (q _ (Same.refl _))
    | d1 _ => exact iteT (q _ (Same.refl _))
end
end DD
namespace DD
open PySem PySem.Spec PyProof.Rows L2 RZ DM
theorem rwm3 {K : PySem.W.Frag} {H : Hp} {a b c : Addr} {xs ys zs : List V} (h1 : SqT K H a xs) (h2 : SqT K H b ys) (h3 : SqT K H c zs) (l1 : xs.length ≤ ys.length) (l2 : xs.length ≤ zs.length) : Rwm K (fun _ => true) H [a, b, c] [xs, ys, zs] xs.length := by
  refine ⟨rfl, fun j x r e1 e2 => ?_⟩
  match j with
  | 0 =>
    obtain rfl : a = x := Option.some.inj e1
    obtain rfl : xs = r := Option.some.inj e2
    exact ⟨h1, Nat.le_refl _⟩
  | 1 =>
    obtain rfl : b = x := Option.some.inj e1
    obtain rfl : ys = r := Option.some.inj e2
    exact ⟨h2, l1⟩
  | 2 =>
    obtain rfl : c = x := Option.some.inj e1
    obtain rfl : zs = r := Option.some.inj e2
    exact ⟨h3, l2⟩
  | j + 3 => simp at e1
theorem col3 {xs ys zs : List V} {i : Nat} {x y z : V} (h1 : xs[i]? = some x) (h2 : ys[i]? = some y) (h3 : zs[i]? = some z) : colV [xs, ys, zs] i = [x, y, z] := by
  unfold colV
  simp [h1, h2, h3]
def rNeE : R2 := fun x y H Q => ∃ a b xs, x = .ref a ∧ y = .ref b ∧ H a = some (.lst xs) ∧ H b = some (.lst []) ∧ Q (.bl (!xs.isEmpty)) H
theorem op_neE {X : Cx} (hu : X.A.units + 64 < cLine) : OpR X (compareOp .NotEq) rNeE := by
  intro pins s σ H x y v u Q I rx ry h
  obtain ⟨a, b, xs, rfl, rfl, ha, hb, q⟩ := h
  by_cases hx : xs = []
  · subst hx
    refine op_neD hu pins s σ H _ _ v u Q I rx ry ⟨.list [], .list [], .lst (SqL.of ha) .nil, .lst (SqL.of hb) .nil, by decide +kernel, by decide +kernel, ?_⟩
    rw [show PyData.eqv (.list []) (.list []) = true by decide +kernel]
    exact q
  · cases rx
    cases ry
    obtain ⟨its, rv, ⟨o, n, h1, h2, _, h3⟩, _⟩ := I.list (SqL.of (K := X.K) ha)
    obtain ⟨its2, rv2, ⟨o2, n2, k1, k2, _, k3⟩, _⟩ := I.list (SqL.of (K := X.K) hb)
    cases rv2
    have hs : (its.toArray.size != ([] : List Value).toArray.size) = true := by
      have := rv.length
      cases xs with
      | nil => exact absurd rfl hx
      | cons _ _ =>
        cases its with
        | nil => simp at this
        | cons _ _ => simp
    have e : (!xs.isEmpty) = true := by
      cases xs with
      | nil => exact absurd rfl hx
      | cons _ _ => rfl
    rw [e] at q
    exact SeqAt.RcNeAt.lists_lengths (A := X.A) (s := s) ⟨o, h1, h2, n, h3⟩ ⟨o2, k1, k2, n2, k3⟩ hs (by omega) _ _ _ _ ⟨.bl true, H, I, rfl, q⟩


def intD : PyData → Int
  | .int i => i
  | _ => 0
def sumD : PyData → Int
  | .tuple ds => (ds.map intD).sum
  | _ => 0
theorem sum_row (r : List Int) : sumD (rowD r) = r.sum := by
  show ((r.map PyData.int).map intD).sum = r.sum
  rw [List.map_map]
  have : (intD ∘ PyData.int) = id := rfl
  rw [this, List.map_id]
theorem num_int {m : Int} {d : PyData} (h : numOk m d = true) : ∃ i, d = .int i := by
  cases d with
  | int i => exact ⟨i, rfl⟩
  | _ => cases h
theorem up_row {ls : List Int} {d : PyData} (h : upOk ls d = true) : ∃ r : List Int, d = rowD r ∧ r.length = ls.length := by
  cases d with
  | tuple ds =>
    have h : (decide (ds.length = ls.length) && (List.zipWith (fun d l => numOk l d) ds ls).all id) = true := h
    rw [Bool.and_eq_true] at h
    have hl := of_decide_eq_true h.1
    have gen : ∀ {ds : List PyData} {ls : List Int}, ds.length = ls.length → (List.zipWith (fun d l => numOk l d) ds ls).all id = true → ∃ r : List Int, ds = r.map PyData.int := fun {ds} => by
      induction ds with
      | nil => intro ls _ _; exact ⟨[], rfl⟩
      | cons x ds ih =>
        intro ls hl ha
        cases ls with
        | nil => simp at hl
        | cons l ls =>
          have ha : (numOk l x && (List.zipWith (fun d l => numOk l d) ds ls).all id) = true := ha
          rw [Bool.and_eq_true] at ha
          obtain ⟨i, rfl⟩ := num_int ha.1
          obtain ⟨r, rfl⟩ := ih (by simpa using hl) ha.2
          exact ⟨i :: r, rfl⟩
    obtain ⟨r, rfl⟩ := gen hl h.2
    exact ⟨r, rfl, by rw [← hl, List.length_map]⟩
  | _ => cases h
theorem dqs_ints {H : Hp} : ∀ {xs : List V} {r : List Int}, DqAll H xs (r.map PyData.int) → xs = r.map V.int
  | _, [], h => by cases h; rfl
  | _, x :: r, h => by
    cases h with
    | cons a b =>
      cases a
      rw [dqs_ints b]
      rfl
theorem dq_row {H : Hp} {v : V} {r : List Int} (h : Dq H v (rowD r)) : ∃ a, v = .ref a ∧ H a = some (.tup (r.map V.int)) := by
  cases h with
  | tup a b => exact ⟨_, rfl, by rw [a, dqs_ints b]⟩
def takenOk (row : List Int) (m : Int) (d : PyData) : Bool := upOk row d && decide (sumD d = m)
def drOk (rows : List (List Int)) (ps : List Int) : PyData → Bool
  | .tuple ds => decide (ds.length = rows.length) && (List.range rows.length).all fun j => takenOk (rows.getD j []) (ps.getD j 0) (ds.getD j .none)
  | _ => false
theorem dr_no {rows : List (List Int)} {ps : List Int} {ds : List PyData} {i : Nat} (hi : i < rows.length) (h : takenOk (rows.getD i []) (ps.getD i 0) (ds.getD i .none) = false) : drOk rows ps (.tuple ds) = false := by
  show (decide (ds.length = rows.length) && (List.range rows.length).all fun j => takenOk (rows.getD j []) (ps.getD j 0) (ds.getD j .none)) = false
  rw [Bool.and_eq_false_iff]
  refine .inr (Bool.eq_false_iff.mpr fun z => ?_)
  have := List.all_eq_true.mp z i (List.mem_range.mpr hi)
  rw [h] at this
  cases this
theorem dr_yes {rows : List (List Int)} {ps : List Int} {ds : List PyData} (hl : ds.length = rows.length) (h : ∀ j, j < rows.length → takenOk (rows.getD j []) (ps.getD j 0) (ds.getD j .none) = true) : drOk rows ps (.tuple ds) = true := by
  show (decide (ds.length = rows.length) && (List.range rows.length).all fun j => takenOk (rows.getD j []) (ps.getD j 0) (ds.getD j .none)) = true
  rw [decide_eq_true hl, Bool.true_and]
  exact List.all_eq_true.mpr fun j hj => h j (List.mem_range.mp hj)
theorem scTkD : FnScope ["drawer", "number", "value"] ["drawer", "number", "value"] (defScope sTaken) := ⟨rfl, rfl, rfl, by decide +kernel, rfl, by decide +kernel, by decide +kernel⟩
theorem scIrD : FnScope ["stock", "plan", "value", "drawer", "number", "counts"] ["stock", "plan", "value"] (defScope sIsDr) := ⟨rfl, rfl, rfl, by decide +kernel, rfl, by decide +kernel, by decide +kernel⟩
theorem scIdD : FnScope ["_law_stock_here", "_law_plan_here", "_law_value", "_law_counts", "_law_row", "_law_many", "_law_count", "_law_most"] ["_law_stock_here", "_law_plan_here", "_law_value"] (defScope sIsDraw) := ⟨rfl, rfl, rfl, by decide +kernel, rfl, by decide +kernel, by decide +kernel⟩
section
variable {P : Program} {w : World} {K : PySem.W.Frag} {mg : Str → Option Value} {base : Heap}
def spTkD : Sp := fun vs H Q _ => ∃ (b : Addr) (v : V) (d : PyData) (r : List Int) (m : Int), vs = [.ref b, .int m, v] ∧ H b = some (.tup (r.map V.int)) ∧ r.length ≤ 900 ∧ Dq H v d ∧ ∀ H', Same H H' → Q (.bl (takenOk r m d)) H'
theorem ok_tkD {f fN fU fTu fAu fIr fTk fDk fD fS fPl fNu fId fAy fOo fRp fNr : Addr} {fd dN dU dTu dAu dIr dTk dDk dD dS dPl dNu dId dAy dOo dRp dNr : FuncData} {k : Nat} (F : Fun K "is_taken_from" "is_taken_from" sTaken f fd) (T : Tx K mg fN fU fTu fAu fIr fTk fDk fD fS fPl fNu fId fAy fOo fRp fNr dN dU dTu dAu dIr dTk dDk dD dS dPl dNu dId dAy dOo dRp dNr) :
    FnOk P w K mg base CX0 (k + 4) f fd ["drawer", "number", "value"] spTkD := by
  have GAu : FnOk P w K mg base CX0 (k + 3) fAu dAu ["value", "limits"] spAuD := ok_auD T.Au T
  refine F.ok scTkD (fun vs H Q E h => ?_) (fun cdv A outer s H vs Q E hr h => ?_)
  · obtain ⟨b, v, d, r, m, rfl, _⟩ := h
    rfl
  · obtain ⟨b, v, d, r, m, rfl, hb, hl, hd, q⟩ := h
    refine ⟨_, (pss_one (ps_ret (pe_and (pe_call GAu (hr.mono (by omega)) (by rfl) T.gAu T.Au.kp T.bAu .nil pass0 (pa_cons (pv 2) (pa_cons (pv 0) pa_nil))) (pe_one (pe_cmpR op_eq (pe_callB (show CallR _ _ (fun vs H Q => ∃ (a : Addr) (ns : List Int), vs = [V.ref a] ∧ SqT K H a (ns.map V.int) ∧ Q (.int ns.sum) H) from cr_sumT rfl) (by rfl) T.m_sum (by decide +kernel) (pa_cons (pv 2) pa_nil)) (pv 1) (nomark _)))))), ?_⟩
    refine ⟨_, rfl, _, rfl, v, d, b, r, rfl, hd, hb, hl, fun H1 s1 => ?_⟩
    refine ⟨_, rfl, ite2 (fun e => ?_) (fun e => ?_)⟩
    · obtain ⟨cs, rfl, hcl⟩ := up_row e
      obtain ⟨a, rfl, ha⟩ := dq_row (Dq.same s1 _ _ hd)
      refine ⟨_, rfl, a, cs, rfl, SqT.of ha, _, rfl, rfl, ?_⟩
      have q := q _ s1
      unfold takenOk at q
      rw [e, Bool.true_and, sum_row] at q
      rw [dec_int]
      rw [show (cs.sum == m) = decide (cs.sum = m) from rfl]
      exact q
    · have q := q _ s1
      unfold takenOk at q
      rw [Bool.eq_false_iff.mpr e, Bool.false_and] at q
      exact q
def spIrD : Sp := fun vs H Q _ => ∃ (t p : Addr) (v : V) (d : PyData) (ls : List Addr) (rows : List (List Int)) (ps : List Int), vs = [.ref t, .ref p, v] ∧ StockAt H t ls rows ∧ rows.length ≤ 4 ∧ (∀ r ∈ rows, r.length ≤ 900) ∧ H p = some (.tup (ps.map V.int)) ∧ ps.length = rows.length ∧ Dq H v d ∧ ∀ H', Same H H' → Q (.bl (drOk rows ps d)) H'
theorem ok_irD {f fN fU fTu fAu fIr fTk fDk fD fS fPl fNu fId fAy fOo fRp fNr : Addr} {fd dN dU dTu dAu dIr dTk dDk dD dS dPl dNu dId dAy dOo dRp dNr : FuncData} {k : Nat} (F : Fun K "is_draw" "is_draw" sIsDr f fd) (T : Tx K mg fN fU fTu fAu fIr fTk fDk fD fS fPl fNu fId fAy fOo fRp fNr dN dU dTu dAu dIr dTk dDk dD dS dPl dNu dId dAy dOo dRp dNr) :
    FnOk P w K mg base CX0 (k + 5) f fd ["stock", "plan", "value"] spIrD := by
  have GTk : FnOk P w K mg base CX0 (k + 4) fTk dTk ["drawer", "number", "value"] spTkD := ok_tkD T.Tk T
  have GTu : FnOk P w K mg base CX0 (k + 1) fTu dTu ["value", "fewest", "most"] (spTupOf K) := ok_tupof T.Tu T.m_isinstance T.m_tuple T.m_len
  refine F.ok scIrD (fun vs H Q E h => ?_) (fun cdv A outer s H vs Q E hr h => ?_)
  · obtain ⟨t, p, v, d, ls, rows, ps, rfl, _⟩ := h
    rfl
  · obtain ⟨t, p, v, d, ls, rows, ps, rfl, st, hr4, hrl, hp, hpl, hd, q⟩ := h
    refine ⟨_, (pss_cons (ps_if (pt_not (pt_val (pe_call GTu (hr.mono (by omega)) (by rfl) T.gTu T.Tu.kp T.bTu .nil pass0 (pa_cons (pv 2) (pa_cons (pe_callB call_len_seq (by rfl) T.m_len PySem.boot_len (pa_cons (pv 0) pa_nil)) (pa_cons (pe_callB call_len_seq (by rfl) T.m_len PySem.boot_len (pa_cons (pv 0) pa_nil)) pa_nil)))))) (pss_one (ps_ret pe_bl)) pss_nil)
      (pss_one (ps_ret (pe_callB (cr_all rfl) (by rfl) T.m_all (by decide +kernel) (pa_cons (pe_lc (own := [("drawer", 3), ("number", 4), ("counts", 5)]) (g := gTup K 3 (gCons (gName 3) (gCons (gName 4) (gCons (gName 5) gNil)))) rfl scIrD.nd (pi_zipM (by rfl) T.m_zip (pa_cons (pv 0) (pa_cons (pv 1) (pa_cons (pv 2) pa_nil)))) (blkOk_by (own := [("drawer", 3), ("number", 4), ("counts", 5)]) (N := ["stock", "plan", "value", "drawer", "number", "counts"]) (sc := defScope sIsDr) (by decide +kernel)) (fun _ _ _ _ _ => (pg_tup rfl (pgs_cons (pg_name (i := 3) scIrD.nd rfl (Or.inl rfl)) (pgs_cons (pg_name (i := 4) scIrD.nd rfl (Or.inl rfl)) (pgs_cons (pg_name (i := 5) scIrD.nd rfl (Or.inl rfl)) pgs_nil))))) (fun _ _ _ _ _ => pts_nil) (fun _ _ _ _ _ => (pe_call GTk (hr.mono (by omega)) (by rfl) T.gTk T.Tk.kp T.bTk .nil pass0 (pa_cons (pv 3) (pa_cons (pv 4) (pa_cons (pv 5) pa_nil)))))) pa_nil))))), ?_⟩
    have hll := st.len
    refine ⟨_, rfl, _, rfl, t, _, rfl, .inr (SqT.of st.top), _, rfl, t, _, rfl, .inr (SqT.of st.top), v, d, _, _, rfl, hd, _, rfl, ?_⟩
    rw [List.length_map, hll]
    cases hd with
    | @tup a xs ds ha hs =>
      have hlen := hs.len
      show if (!(true && (decide ((rows.length : Int) ≤ (ds.length : Int)) && decide ((ds.length : Int) ≤ (rows.length : Int))))) = true then _ else _
      by_cases e : ds.length = rows.length
      · rw [show (decide ((rows.length : Int) ≤ (ds.length : Int)) && decide ((ds.length : Int) ≤ (rows.length : Int))) = true by simp [e]]
        refine iteF (A := False) ?_
        refine ⟨_, rfl, _, rfl, _, rfl, fun _ => true, [t, p, a], [ls.map V.ref, ps.map V.int, xs], (ls.map V.ref).length, rfl, by simp, by simp, fun r e => by cases e; rfl, rwm3 (SqT.of st.top) (SqT.of hp) (SqT.of ha) (by simp; omega) (by simp; omega), fun B nB => ?_⟩
        refine lc_it walk_zm (fun i H' => H' B = some (.lst ((((List.range rows.length).map fun j => takenOk (rows.getD j []) (ps.getD j 0) (ds.getD j .none)).take i).map V.bl)) ∧ Same H H') ⟨upd_same, same_new nB⟩
          (fun i H' _ h => rwm3 (SqT.of (h.2 _ _ st.top)) (SqT.of (h.2 _ _ hp)) (SqT.of (h.2 _ _ ha)) (by simp; omega) (by simp; omega)) (fun i x H' H2 hi h y => ?_) (fun H' h => ?_)
        · obtain ⟨hB, sm⟩ := h
          obtain ⟨T1, rfl, nT, rfl⟩ := y
          rw [List.length_map] at hi
          have hir : i < rows.length := by omega
          have h2 := getD_of (d := 0) hi
          have h3 := getD_of (d := (0 : Int)) (show i < ps.length by omega)
          have h1 : xs[i]? = some (xs[i]'(by omega)) := List.getElem?_eq_getElem (by omega)
          obtain ⟨dx, hdx, hq⟩ := hs.get h1
          generalize xs[i]'(by omega) = x at h1 hq
          have hdg : ds.getD i .none = dx := by rw [List.getD_eq_getElem?_getD, hdx]; rfl
          have hri := getD_of (d := []) hir
          rw [col3 (x := V.ref (ls.getD i 0)) (y := V.int (ps.getD i 0)) (z := x) (by rw [List.getElem?_map, h2]; rfl) (by rw [List.getElem?_map, h3]; rfl) h1]
          have sT := sm.trans (same_new (o := .tup [.ref (ls.getD i 0), .int (ps.getD i 0), x]) nT)
          have hBT := same_new (o := .tup [V.ref (ls.getD i 0), V.int (ps.getD i 0), x]) nT _ _ hB
          have hrw := sT _ _ (st.row i _ _ h2 hri)
          refine ⟨T1, [.ref (ls.getD i 0), .int (ps.getD i 0), x], rfl, .inl (.inl upd_same), rfl, .ref (ls.getD i 0), [.int (ps.getD i 0), x], rfl, .int (ps.getD i 0), [x], rfl, x, [], rfl, rfl, rfl, ?_⟩
          refine ⟨_, rfl, _, rfl, _, rfl, ls.getD i 0, x, dx, rows.getD i [], ps.getD i 0, rfl, hrw, hrl _ (List.mem_of_getElem? hri), Dq.same sT _ _ hq, fun H3 s3 => ?_⟩
          refine ⟨_, s3 _ _ hBT, ?_, ?_, fun b' o e => ?_⟩
          · rw [List.length_map, List.length_take, List.length_map, List.length_range]
            exact len_lt (by omega)
          · rw [upd_same, take_succ_map (by rw [List.getElem?_map, List.getElem?_range hir]; rfl), ← hdg]
          · rw [upd_ne (ne_of_none e nB)]
            exact s3 _ _ (sT _ _ e)
        · obtain ⟨hB, sm⟩ := h
          rw [List.length_map, hll, List.take_of_length_le (by rw [List.length_map, List.length_range]; exact Nat.le_refl _)] at hB
          refine ⟨B, _, rfl, SqL.of hB, ?_⟩
          have q : Q (.bl (decide (ds.length = rows.length) && (List.range rows.length).all fun j => takenOk (rows.getD j []) (ps.getD j 0) (ds.getD j .none))) H' := q _ sm
          rw [decide_eq_true e, Bool.true_and] at q
          rw [List.all_map]
          exact q
      · rw [show (decide ((rows.length : Int) ≤ (ds.length : Int)) && decide ((ds.length : Int) ≤ (rows.length : Int))) = false by
          rw [Bool.and_eq_false_iff, decide_eq_false_iff_not, decide_eq_false_iff_not]
          omega]
        have q : Q (.bl (decide (ds.length = rows.length) && (List.range rows.length).all fun j => takenOk (rows.getD j []) (ps.getD j 0) (ds.getD j .none))) H := q _ (Same.refl _)
        rw [decide_eq_false e, Bool.false_and] at q
        exact iteT q
    | non => exact iteT (q _ (Same.refl _))
    | bl _ => exact iteT (q _ (Same.refl _))
    | int _ => exact iteT (q _ (Same.refl _))
    | str _ => exact iteT (q _ (Same.refl _))
    | lst _ _ => exact iteT (q _ (Same.refl _))
    | d0 _ => exact iteT (q _ (Same.refl _))
    | d1 _ => exact iteT (q _ (Same.refl _))
set_option maxHeartbeats 800000 in
theorem ok_idD {f fN fU fTu fAu fIr fTk fDk fD fS fPl fNu fId fAy fOo fRp fNr : Addr} {fd dN dU dTu dAu dIr dTk dDk dD dS dPl dNu dId dAy dOo dRp dNr : FuncData} {k : Nat} (F : Fun K "_law_is_draw" "_law_is_draw" sIsDraw f fd) (T : Tx K mg fN fU fTu fAu fIr fTk fDk fD fS fPl fNu fId fAy fOo fRp fNr dN dU dTu dAu dIr dTk dDk dD dS dPl dNu dId dAy dOo dRp dNr) :
    FnOk P w K mg base CX0 (k + 2) f fd ["_law_stock_here", "_law_plan_here", "_law_value"] spIrD := by
  have GNu : FnOk P w K mg base CX0 (k + 1) fNu dNu ["_law_value", "_law_low", "_law_high"] spLNum := ok_lnum T.Nu T.m_isinstance T.m_int T.m_bool
  refine F.ok scIdD (fun vs H Q E h => ?_) (fun cdv A outer s H vs Q E hr h => ?_)
  · obtain ⟨t, p, v, d, ls, rows, ps, rfl, _⟩ := h
    rfl
  · obtain ⟨t, p, v, d, ls, rows, ps, rfl, st, hr4, hrl, hp, hpl, hd, q⟩ := h
    refine ⟨_, (pss_cons (ps_if (PW.pt (pw_or (pt_not (pt_val (pe_callB (show CallR _ _ (rIsi K) from call_isi) (by rfl) T.m_isinstance (by decide +kernel) (pa_cons (pv 2) (pa_cons (pe_bltn (v := .ty "tuple") (by rfl) T.m_tuple (by decide +kernel) rfl) pa_nil))))) (pw_or1 (pt_cmpR op_ne (pe_callB call_len_seq (by rfl) T.m_len PySem.boot_len (pa_cons (pv 2) pa_nil)) (pe_callB call_len_seq (by rfl) T.m_len PySem.boot_len (pa_cons (pv 0) pa_nil)) (nomark _))))) (pss_one (ps_ret pe_bl)) pss_nil)
      (pss_cons (ps_for PassesOwn.never rfl (pi_zipM (by rfl) T.m_zip (pa_cons (pv 2) (pa_cons (pv 0) (pa_cons (pv 1) pa_nil)))) (pg_tup rfl (pgs_cons (pg_name (i := 3) scIdD.nd rfl (Or.inl rfl)) (pgs_cons (pg_name (i := 4) scIdD.nd rfl (Or.inl rfl)) (pgs_cons (pg_name (i := 5) scIdD.nd rfl (Or.inl rfl)) pgs_nil)))) (pss_cons (ps_if (PW.pt (pw_or (pt_not (pt_val (pe_callB (show CallR _ _ (rIsi K) from call_isi) (by rfl) T.m_isinstance (by decide +kernel) (pa_cons (pv 3) (pa_cons (pe_bltn (v := .ty "tuple") (by rfl) T.m_tuple (by decide +kernel) rfl) pa_nil))))) (pw_or1 (pt_cmpR op_ne (pe_callB call_len_seq (by rfl) T.m_len PySem.boot_len (pa_cons (pv 3) pa_nil)) (pe_callB call_len_seq (by rfl) T.m_len PySem.boot_len (pa_cons (pv 4) pa_nil)) (nomark _))))) (pss_one (ps_ret pe_bl)) pss_nil)
      (pss_cons (ps_if (pt_cmpR (op_neE hr.units) (pe_lc (own := [("_law_count", 6), ("_law_most", 7)]) (g := gTup K 2 (gCons (gName 6) (gCons (gName 7) gNil))) rfl scIdD.nd (pi_zipA (by rfl) T.m_zip (pa_cons (pv 3) (pa_cons (pv 4) pa_nil))) (blkOk_by (own := [("_law_count", 6), ("_law_most", 7)]) (N := ["_law_stock_here", "_law_plan_here", "_law_value", "_law_counts", "_law_row", "_law_many", "_law_count", "_law_most"]) (sc := defScope sIsDraw) (by decide +kernel)) (fun _ _ _ _ _ => (pg_tup rfl (pgs_cons (pg_name (i := 6) scIdD.nd rfl (Or.inl rfl)) (pgs_cons (pg_name (i := 7) scIdD.nd rfl (Or.inl rfl)) pgs_nil)))) (fun _ _ _ _ _ => pts_one (pt_not (pt_val (pe_call GNu (hr.mono (by omega)) (by rfl) T.gNu T.Nu.kp T.bNu .nil pass0 (pa_cons (pv 6) (pa_cons pe_int (pa_cons (pv 7) pa_nil))))))) (fun _ _ _ _ _ => pe_int)) (pe_lst pa_nil) (nomark _)) (pss_one (ps_ret pe_bl)) pss_nil)
      (pss_one (ps_if (pt_cmpR op_ne (pe_callB (show CallR _ _ (fun vs H Q => ∃ (a : Addr) (ns : List Int), vs = [V.ref a] ∧ SqT K H a (ns.map V.int) ∧ Q (.int ns.sum) H) from cr_sumT rfl) (by rfl) T.m_sum (by decide +kernel) (pa_cons (pv 3) pa_nil)) (pv 5) (nomark _)) (pss_one (ps_ret pe_bl)) pss_nil)))))
      (pss_one (ps_ret pe_bl)))), ?_⟩
    have hll := st.len
    obtain ⟨T0, t0, kT, kI, kB⟩ := dq_ty (K := K) hd
    refine ⟨v, rfl, _, _, _, _, _, rfl, .ty _, t0, kT, _, rfl, ?_⟩
    cases hd with
    | @tup a xs ds ha hs =>
      have hlen := hs.len
      refine iteNx rfl ?_
      refine ⟨_, rfl, a, _, rfl, .inr (SqT.of ha), _, rfl, t, _, rfl, .inr (SqT.of st.top), rfl, _, rfl, ?_⟩
      rw [List.length_map, dec_int]
      by_cases e : ds.length = rows.length
      · refine iteNx (by simp; omega) ?_
        refine ⟨_, rfl, _, rfl, _, rfl, fun _ => true, [a, t, p], [xs, ls.map V.ref, ps.map V.int], xs.length, rfl, by simp, by simp, fun r e => by cases e; rfl, rwm3 (SqT.of ha) (SqT.of st.top) (SqT.of hp) (by simp; omega) (by simp; omega), ?_⟩
        refine for_it walk_zm (fun i σ H' => ∃ y3 y4 y5 : Option V, σ = [some (.ref t), some (.ref p), some (.ref a), y3, y4, y5, none, none] ∧ Same H H' ∧ ∀ j, j < i → takenOk (rows.getD j []) (ps.getD j 0) (ds.getD j .none) = true) ⟨_, _, _, rfl, Same.refl _, fun j h => absurd h (Nat.not_lt_zero _)⟩
          (fun i σ H' _ h => by
            obtain ⟨_, _, _, _, sm, _⟩ := h
            exact rwm3 (SqT.of (sm _ _ ha)) (SqT.of (sm _ _ st.top)) (SqT.of (sm _ _ hp)) (by simp; omega) (by simp; omega)) (fun i x σ H' H2 hi h y => ?_) (fun σ H' h => ?_)
        · obtain ⟨y3, y4, y5, rfl, sm, hok⟩ := h
          obtain ⟨T1, rfl, nT, rfl⟩ := y
          have hir : i < rows.length := by omega
          have h1 : xs[i]? = some (xs[i]'(by omega)) := List.getElem?_eq_getElem (by omega)
          obtain ⟨dx, hdx, hq⟩ := hs.get h1
          generalize xs[i]'(by omega) = x at h1 hq
          have hdg : ds.getD i .none = dx := by rw [List.getD_eq_getElem?_getD, hdx]; rfl
          have h2 := getD_of (d := 0) (show i < ls.length by omega)
          have h3 := getD_of (d := (0 : Int)) (show i < ps.length by omega)
          have hri := getD_of (d := []) hir
          rw [col3 (x := x) (y := V.ref (ls.getD i 0)) (z := V.int (ps.getD i 0)) h1 (by rw [List.getElem?_map, h2]; rfl) (by rw [List.getElem?_map, h3]; rfl)]
          have sT := sm.trans (same_new (o := .tup [x, .ref (ls.getD i 0), .int (ps.getD i 0)]) nT)
          have hT : (upd H' T1 (.tup [x, .ref (ls.getD i 0), .int (ps.getD i 0)])) T1 = some (.tup [x, .ref (ls.getD i 0), .int (ps.getD i 0)]) := upd_same
          generalize upd H' T1 (.tup [x, .ref (ls.getD i 0), .int (ps.getD i 0)]) = H3 at sT hT ⊢
          have hrw := sT _ _ (st.row i _ _ h2 hri)
          have hq3 := Dq.same sT _ _ hq
          have hrl1 := hrl _ (List.mem_of_getElem? hri)
          have no : takenOk (rows.getD i []) (ps.getD i 0) dx = false → ∀ {H4 : Hp}, Same H3 H4 → Q (.bl false) H4 := fun h {H4} s4 => by
            have q := q _ (sT.trans s4)
            rw [dr_no hir (by rw [hdg]; exact h)] at q
            exact q
          have yes : takenOk (rows.getD i []) (ps.getD i 0) dx = true → ∀ j, j < i + 1 → takenOk (rows.getD j []) (ps.getD j 0) (ds.getD j .none) = true := fun h j hj => by
            by_cases e : j = i
            · subst e
              rw [hdg]
              exact h
            · exact hok j (by omega)
          clear hok
          generalize ps.getD i 0 = many at hT no yes ⊢
          generalize rows.getD i [] = row at hrw hrl1 no yes
          generalize ls.getD i 0 = ra at hrw hT ⊢
          refine ⟨T1, [x, .ref ra, .int many], rfl, .inl (.inl hT), rfl, x, [.ref ra, .int many], rfl, .ref ra, [.int many], rfl, .int many, [], rfl, rfl, ?_⟩
          obtain ⟨T9, t9, kT9, _, _⟩ := dq_ty (K := K) hq3
          refine ⟨x, rfl, _, _, _, _, _, rfl, .ty _, t9, kT9, _, rfl, ?_⟩
          cases hq3 with
          | @tup ca cs es hc hcs =>
            have hcl := hcs.len
            refine iteNx rfl ?_
            refine ⟨_, rfl, ca, _, rfl, .inr (SqT.of hc), _, rfl, ra, _, rfl, .inr (SqT.of hrw), rfl, _, rfl, ?_⟩
            rw [List.length_map, dec_int]
            by_cases e5 : es.length = row.length
            · refine iteNx (by simp; omega) ?_
              refine ⟨_, rfl, _, rfl, ca, ra, cs, _, rfl, .inr ⟨SqT.of hc, SqT.of hrw, fun B nB => ?_⟩⟩
              refine lc_it (walk_zipT (xs := cs) (ys := row.map V.int) (by rw [List.length_map]; omega)) (fun j H4 => H4 B = some (.lst ((badUp es row j).map V.int)) ∧ Same H3 H4) ⟨upd_same, same_new nB⟩ (fun j H4 _ h => ⟨SqT.of (h.2 _ _ hc), SqT.of (h.2 _ _ hrw)⟩) (fun j z H4 H5 hj h y => ?_) (fun H4 h => ?_)
              · obtain ⟨hB, s4⟩ := h
                obtain ⟨T2, z1, z2, rfl, nT2, rfl, f1, f2⟩ := y
                obtain ⟨dz, hdz, hqz⟩ := hcs.get f1
                obtain ⟨l, hl, rfl⟩ := get_map f2
                have s5 := s4.trans (same_new (o := .tup [z1, .int l]) nT2)
                have hB5 := same_new (o := .tup [z1, V.int l]) nT2 _ _ hB
                refine ⟨T2, [z1, .int l], rfl, .inl (.inl upd_same), rfl, z1, [.int l], rfl, .int l, [], rfl, rfl, rfl, ?_⟩
                refine ⟨_, rfl, _, rfl, z1, dz, l, rfl, Dq.same s5 _ _ hqz, _, rfl, ?_⟩
                rw [bad_succ hdz hl]
                cases en : numOk l dz with
                | true =>
                  rw [if_pos rfl, List.append_nil]
                  exact iteF (A := False) ⟨hB5, s5⟩
                | false =>
                  refine iteT ⟨_, hB5, ?_, ?_, fun b' o e => ?_⟩
                  · have := bad_len es row j
                    rw [List.length_map]
                    exact len_lt (by omega)
                  · rw [upd_same, List.map_append]
                    rfl
                  · rw [upd_ne (ne_of_none e nB)]
                    exact s5 _ _ e
              · obtain ⟨hB, s4⟩ := h
                refine ⟨Nat.zero_le _, fun e1 ne1 => ?_⟩
                have s5 := s4.trans (same_new (o := .lst []) ne1)
                refine ⟨B, e1, _, rfl, rfl, same_new ne1 _ _ hB, upd_same, _, rfl, ?_⟩
                rw [bad_nil (by rw [List.length_zipWith]; omega)]
                have hup : upOk row (.tuple es) = (List.zipWith (fun d l => numOk l d) es row).all id := by
                  show (decide (es.length = row.length) && _) = _
                  rw [decide_eq_true e5, Bool.true_and]
                rw [← hup]
                cases eu : upOk row (.tuple es) with
                | false =>
                  refine iteT (no ?_ s5)
                  unfold takenOk
                  rw [eu, Bool.false_and]
                | true =>
                  refine iteF (A := False) ?_
                  obtain ⟨ci, ei, hcil⟩ := up_row eu
                  obtain ⟨ca2, e8, hc2⟩ := dq_row (H := H3) (v := .ref ca) (r := ci) (by rw [← ei]; exact .tup hc hcs)
                  cases e8
                  refine ⟨_, rfl, ca, ci, rfl, SqT.of (s5 _ _ hc2), _, rfl, rfl, _, rfl, ?_⟩
                  rw [dec_int]
                  have htk : takenOk row many (.tuple es) = (ci.sum == many) := by
                    unfold takenOk
                    rw [eu, Bool.true_and, ei, sum_row]
                    rfl
                  cases eb : (ci.sum == many) with
                  | true => exact iteF (A := False) ⟨_, _, _, rfl, sT.trans s5, yes (htk.trans eb)⟩
                  | false => exact iteT (no (htk.trans eb) s5)
            · refine iteT2 (by simp; omega) (no ?_ (Same.refl _))
              unfold takenOk
              rw [show upOk row (.tuple es) = false by show (decide (es.length = row.length) && _) = false; rw [decide_eq_false e5]; rfl]
              rfl
          | non => exact iteT (no rfl (Same.refl _))
          | bl _ => exact iteT (no rfl (Same.refl _))
          | int _ => exact iteT (no rfl (Same.refl _))
          | str _ => exact iteT (no rfl (Same.refl _))
          | lst _ _ => exact iteT (no rfl (Same.refl _))
          | d0 _ => exact iteT (no rfl (Same.refl _))
          | d1 _ => exact iteT (no rfl (Same.refl _))
        · obtain ⟨y3, y4, y5, rfl, sm, hok⟩ := h
          have q := q _ sm
          rw [dr_yes e (by rw [← e, ← hlen]; exact hok)] at q
          exact q
      · refine iteT2 (by simp; omega) ?_
        have q : Q (.bl (decide (ds.length = rows.length) && (List.range rows.length).all fun j => takenOk (rows.getD j []) (ps.getD j 0) (ds.getD j .none))) H := q _ (Same.refl _)
        rw [decide_eq_false e, Bool.false_and] at q
        exact q
    | non => exact iteT (q _ (Same.refl _))
    | bl _ => exact iteT (q _ (Same.refl _))
    | int _ => exact iteT (q _ (Same.refl _))
    | str _ => exact iteT (q _ (Same.refl _))
    | lst _ _ => exact iteT (q _ (Same.refl _))
    | d0 _ => exact iteT (q _ (Same.refl _))
    | d1 _ => exact iteT (q _ (Same.refl _))
end
end DD
namespace DD
open PySem PySem.Spec PyProof.Rows L2 RZ DM
theorem wo_add {X : Addr → Prop} {H : Hp} {p : Addr} {o : HO} (n : H p = none) : Same (Wo X H) (Wo (fun a => X a ∨ a = p) (upd H p o)) := fun b u e => by
  obtain ⟨h, h1⟩ := wo_some e
  have hne : b ≠ p := fun z => by rw [z, n] at h; cases h
  exact wo_of (by rw [upd_ne hne]; exact h) (fun z => z.elim h1 hne)
theorem LX.add {X : Addr → Prop} {dk c : Addr} {H : Hp} {p : Addr} {xs : List V} (hX : LX X dk c H) (n : H p = none) : LX (fun a => X a ∨ a = p) dk c (upd H p (.lst xs)) := ⟨.inl hX.d, .inl hX.c, fun a x => by
  rcases x with x | rfl
  · obtain ⟨l, h⟩ := hX.all a x
    exact ⟨l, by rw [upd_ne (fun z => by rw [z, n] at h; cases h)]; exact h⟩
  · exact ⟨xs, upd_same⟩⟩
theorem wo_upd {X : Addr → Prop} {H : Hp} {p : Addr} {o : HO} (h : X p) : Same (Wo X H) (Wo X (upd H p o)) := fun b u e => by
  obtain ⟨h1, h2⟩ := wo_some e
  exact wo_of (by rw [upd_ne (fun z => h2 (by rw [z]; exact h))]; exact h1) h2
theorem LX.upd {X : Addr → Prop} {dk c : Addr} {H : Hp} {p : Addr} {xs : List V} (hX : LX X dk c H) : LX X dk c (upd H p (.lst xs)) := ⟨hX.d, hX.c, fun a x => by
  by_cases e : a = p
  · subst e
    exact ⟨xs, upd_same⟩
  · obtain ⟨l, h⟩ := hX.all a x
    exact ⟨l, by rw [upd_ne e]; exact h⟩⟩
/-- the deck alone -/
def X0 (dk c : Addr) : Addr → Prop := fun a => a = dk ∨ a = c
theorem lx0 {H : Hp} {dk c : Addr} {B : Nat} (d : Deck H dk c B) : LX (X0 dk c) dk c H := by
  obtain ⟨ns, t, h1, h2, _⟩ := d.ex
  refine ⟨.inl rfl, .inr rfl, fun a x => ?_⟩
  rcases x with rfl | rfl
  · exact ⟨_, h1⟩
  · exact ⟨_, h2⟩
/-- what a value of the law may be -/
def Vok (d : PyData) : Prop := Bd 20000 30 d ∧ Nx d
/-- the list of values -/
structure Vs (X : Addr → Prop) (H : Hp) (L : Addr) (xs : List V) (ds : List PyData) : Prop where
  top : H L = some (.lst xs)
  all : DqAll (Wo X H) xs ds
  ok : ∀ d ∈ ds, Vok d
theorem plain_row {r : List Int} {n : Nat} (hl : r.length ≤ n) (h : ∀ x ∈ r, -1000 ≤ x ∧ x ≤ 1000) : Pv (n * 13) 1 (rowD r) := by
  have all : ∀ {r : List Int}, (∀ x ∈ r, -1000 ≤ x ∧ x ≤ 1000) → plainDs (r.map PyData.int) = true ∧ PyData.weightAll (r.map PyData.int) ≤ r.length * 13 ∧ PyData.depthAll (r.map PyData.int) = 0 := fun {r} => by
    induction r with
    | nil => intro _; exact ⟨rfl, Nat.zero_le _, rfl⟩
    | cons x r ih =>
      intro h
      obtain ⟨i1, i2, i3⟩ := ih fun y hy => h y (List.mem_cons_of_mem _ hy)
      have hx := h x List.mem_cons_self
      have hw := (sint (i := x) (by omega) (by omega)).2.2
      refine ⟨?_, ?_, ?_⟩
      · show ((decide (-1000 ≤ x) && decide (x ≤ 1000)) && plainDs (r.map PyData.int)) = true
        rw [decide_eq_true hx.1, decide_eq_true hx.2, i1]
        rfl
      · show (PyData.int x).weight + 1 + PyData.weightAll (r.map PyData.int) ≤ (r.length + 1) * 13
        omega
      · show max 0 (PyData.depthAll (r.map PyData.int)) = 0
        rw [i3]
        rfl
  obtain ⟨h1, h2, h3⟩ := all h
  refine ⟨h1, ?_, ?_⟩
  · have := Nat.mul_le_mul_right 13 hl
    show PyData.weightAll (r.map PyData.int) ≤ n * 13
    omega
  · show PyData.depthAll (r.map PyData.int) + 1 ≤ 1
    rw [h3]
    exact Nat.le_refl _
theorem plain_stock {rows : List (List Int)} (h4 : rows.length ≤ 4) (h : ∀ r ∈ rows, r.length ≤ 4 ∧ ∀ x ∈ r, -1000 ≤ x ∧ x ≤ 1000) : Pv 212 2 (stockD rows) := by
  have all : ∀ {rows : List (List Int)}, (∀ r ∈ rows, r.length ≤ 4 ∧ ∀ x ∈ r, -1000 ≤ x ∧ x ≤ 1000) → plainDs (rows.map rowD) = true ∧ PyData.weightAll (rows.map rowD) ≤ rows.length * 53 ∧ PyData.depthAll (rows.map rowD) ≤ 1 := fun {rows} => by
    induction rows with
    | nil => intro _; exact ⟨rfl, Nat.zero_le _, Nat.zero_le _⟩
    | cons x r ih =>
      intro h
      obtain ⟨i1, i2, i3⟩ := ih fun y hy => h y (List.mem_cons_of_mem _ hy)
      have hx := h x List.mem_cons_self
      have p := plain_row hx.1 hx.2
      have hw := p.wt
      refine ⟨?_, ?_, Nat.max_le.mpr ⟨p.dp, i3⟩⟩
      · show (plainD (rowD x) && plainDs (r.map rowD)) = true
        rw [p.pl, i1]
        rfl
      · show (rowD x).weight + 1 + PyData.weightAll (r.map rowD) ≤ (r.length + 1) * 53
        omega
  obtain ⟨h1, h2, h3⟩ := all h
  exact ⟨h1, by show PyData.weightAll (rows.map rowD) ≤ 212; omega, Nat.succ_le_succ h3⟩
theorem Pv.vok {w m : Nat} {d : PyData} (a : Pv w m d) (hw : w ≤ 20000) (hm : m ≤ 30) : Vok d := ⟨a.bd.up hw hm, (plain_ok d a.pl).2.2.2.nx⟩
section
variable {te tb : TE} {ta : TA} {g : TG} {t u : TS} {σ : L2.St} {H : Hp} {D : Ends} {i : Nat} {v : V} {r : R2}
theorem at_seq (h : t { D with nx := u D } σ H) : tSeq t u D σ H := h
theorem at_asg (h : te σ H fun x H1 => g x σ H1 D.nx) : tAsg te g D σ H := h
theorem at_name {Q : L2.St → Hp → Prop} (h : Q (σ.set i (some v)) H) : gName i v σ H Q := h
end
theorem at_forL {K : PySem.W.Frag} {te : TE} {g : TG} {tb : TS} {σ : L2.St} {H : Hp} {D : Ends} (h : te σ H fun x H1 => ∃ a, x = .ref a ∧ (∃ xs, SqL K H1 a xs) ∧ ∃ W : Nat → Nat → L2.St → Hp → Prop, (∃ m, W 0 m σ H1) ∧ ∀ i m σ H, W i m σ H →
  ((Itl K a).stop i H ∧ D.nx σ H) ∨ ((Itl K a).go i H ∧ ∃ N : L2.St → Hp → Prop, (∀ σ' H', N σ' H' → ∃ m', m' < m ∧ W (i + 1) m' σ' H') ∧ ∀ x H', (Itl K a).yld i H x H' → g x σ H' fun σ2 H2 => tb { D with nx := N, ct := N, bk := D.nx } σ2 H2)) : tFor (iList K te) g tb D σ H := h
theorem ints_ok {ds : List PyData} (h : ∀ y ∈ ds, ∃ i : Int, y = .int i ∧ -1000 ≤ i ∧ i ≤ 1000) (hl : ds.length ≤ 10) : Vok (.tuple ds) ∧ Vok (.list ds) := by
  have hb : ∀ d ∈ ds, Bd 12 0 d := fun d hd => by
    obtain ⟨i, rfl, h0, h1⟩ := h d hd
    exact bd_sint (by omega) (by omega)
  have hp : ∀ d ∈ ds, Pl d := fun d hd => by
    obtain ⟨i, rfl, h0, h1⟩ := h d hd
    exact ⟨rfl, rfl⟩
  exact ⟨⟨(Bd.tup hb hl).up (by decide) (by decide), (nx_pl hp).nx⟩, ⟨(Bd.lst hb hl).up (by decide) (by decide), nx_lst hp⟩⟩
theorem gen_list {Pr : PyData → Prop} {Hw : Hp} {v : V} {ds : List PyData} (h : Dq Hw v (.list ds)) (n : Nat) (hn : ds.length = n) (hp : ∀ d ∈ ds, Pr d) : ∃ bl, Dq Hw v (.list bl) ∧ bl.length = n ∧ ∀ d ∈ bl, Pr d := ⟨ds, h, hn, hp⟩
theorem dq_lst {H : Hp} {v : V} {ds : List PyData} (h : Dq H v (.list ds)) : ∃ a xs, v = .ref a ∧ H a = some (.lst xs) ∧ DqAll H xs ds := by
  cases h with
  | lst a b => exact ⟨_, _, rfl, a, b⟩
theorem mem_cut {α : Type} {ds : List α} {a b : Nat} {y : α} (h : y ∈ (ds.drop a).take b) : y ∈ ds := List.mem_of_mem_drop (List.mem_of_mem_take h)
theorem len_cut {α : Type} (ds : List α) (a b : Nat) : ((ds.drop a).take b).length ≤ ds.length := by
  rw [List.length_take, List.length_drop]
  omega
theorem mem_rep {α : Type} {ds : List α} {n : Nat} {y : α} (h : y ∈ (List.replicate n ds).flatten) : y ∈ ds := by
  obtain ⟨l, hl, hy⟩ := List.mem_flatten.mp h
  rw [(List.mem_replicate.mp hl).2] at hy
  exact hy
theorem len_rep {α : Type} (n : Nat) (ds : List α) : (List.replicate n ds).flatten.length = n * ds.length := by
  simp
theorem dqs_rows {X : Addr → Prop} {H : Hp} : ∀ (ls : List Addr) (rows : List (List Int)), ls.length = rows.length →
    (∀ (j : Nat) (l : Addr) (r : List Int), ls[j]? = some l → rows[j]? = some r → Wo X H l = some (.tup (r.map V.int))) → DqAll (Wo X H) (ls.map V.ref) (rows.map rowD)
  | [], [], _, _ => .nil
  | [], _ :: _, h, _ => by simp at h
  | _ :: _, [], h, _ => by simp at h
  | l :: ls, r :: rows, h, hat => .cons (.tup (hat 0 l r rfl rfl) (dq_ints r)) (dqs_rows ls rows (by simpa using h) fun j l' r' e1 e2 => hat (j + 1) l' r' e1 e2)
theorem stock_dq {X : Addr → Prop} {dk c t : Addr} {H : Hp} {ls : List Addr} {rows : List (List Int)} (hX : LX X dk c H) (st : StockAt H t ls rows) : Dq (Wo X H) (.ref t) (stockD rows) := by
  have ne : ∀ b xs, H b = some (.tup xs) → Wo X H b = some (.tup xs) := fun b xs e => wo_of e (tup_ne hX (Same.refl _) e)
  exact .tup (ne _ _ st.top) (dqs_rows ls rows st.len fun j l r e1 e2 => ne _ _ (st.row j l r e1 e2))
theorem set_cut {α : Type} {xs : List α} {j : Nat} {v : α} (h : j < xs.length) : xs.take j ++ [v] ++ xs.drop (j + 1) = xs.set j v := by
  rw [List.set_eq_take_append_cons_drop, if_pos h, List.append_assoc]
  rfl

theorem wo_less {X : Addr → Prop} {R : Addr} {H : Hp} : Same (Wo (fun a => X a ∨ a = R) H) (Wo X H) := fun b u e => by
  obtain ⟨h1, h2⟩ := wo_some e
  exact wo_of h1 fun z => h2 (.inl z)
theorem plain_rows {rows : List (List Int)} {n m : Nat} (h4 : rows.length ≤ n) (h : ∀ r ∈ rows, r.length ≤ m ∧ ∀ x ∈ r, -1000 ≤ x ∧ x ≤ 1000) : Pv (n * (m * 13 + 1)) 2 (stockD rows) := by
  have all : ∀ {rows : List (List Int)}, (∀ r ∈ rows, r.length ≤ m ∧ ∀ x ∈ r, -1000 ≤ x ∧ x ≤ 1000) → plainDs (rows.map rowD) = true ∧ PyData.weightAll (rows.map rowD) ≤ rows.length * (m * 13 + 1) ∧ PyData.depthAll (rows.map rowD) ≤ 1 := fun {rows} => by
    induction rows with
    | nil => intro _; exact ⟨rfl, Nat.zero_le _, Nat.zero_le _⟩
    | cons x r ih =>
      intro h
      obtain ⟨i1, i2, i3⟩ := ih fun y hy => h y (List.mem_cons_of_mem _ hy)
      have hx := h x List.mem_cons_self
      have p := plain_row hx.1 hx.2
      have hw := p.wt
      refine ⟨?_, ?_, Nat.max_le.mpr ⟨p.dp, i3⟩⟩
      · show (plainD (rowD x) && plainDs (r.map rowD)) = true
        rw [p.pl, i1]
        rfl
      · show (rowD x).weight + 1 + PyData.weightAll (r.map rowD) ≤ (r.length + 1) * (m * 13 + 1)
        rw [Nat.succ_mul]
        omega
  obtain ⟨h1, h2, h3⟩ := all h
  exact ⟨h1, Nat.le_trans h2 (Nat.mul_le_mul_right _ h4), Nat.succ_le_succ h3⟩
/-- rows of small numbers -/
def Rw4 (D : List (List Int)) : Prop := ∀ r ∈ D, r.length ≤ 4 ∧ ∀ x ∈ r, -1000 ≤ x ∧ x ≤ 1000
theorem rw4_tup {D : List (List Int)} (h : Rw4 D) (hl : D.length ≤ 8) : Vok (stockD D) := (plain_rows hl h).vok (by decide) (by decide)
theorem rw4_lst {D : List (List Int)} (h : Rw4 D) (hl : D.length ≤ 8) : Vok (.list (D.map rowD)) := by
  have p := plain_rows hl h
  obtain ⟨_, b, _, n⟩ := bd_sub p (es := D.map rowD) (fun z hz => hz) p.wt
  exact ⟨b.up (by decide) (by decide), n⟩
theorem rw4_set {D : List (List Int)} {j : Nat} {r : List Int} (h : Rw4 D) (hr : r.length ≤ 4 ∧ ∀ x ∈ r, -1000 ≤ x ∧ x ≤ 1000) : Rw4 (D.set j r) := fun z hz => by
  rcases List.mem_or_eq_of_mem_set hz with h1 | h1
  · exact h z h1
  · rw [h1]
    exact hr
theorem dq_rowsN {H : Hp} {p : Addr} {ls : List Addr} {D : List (List Int)} (h : H p = some (.tup (ls.map V.ref))) (hr : DqAll H (ls.map V.ref) (D.map rowD)) : Dq H (.ref p) (stockD D) := .tup h hr
theorem dqa_set {H : Hp} : ∀ {xs : List V} {ds : List PyData} {j : Nat} {v : V} {d : PyData}, DqAll H xs ds → Dq H v d → DqAll H (xs.set j v) (ds.set j d)
  | _, _, _, _, _, .nil, _ => .nil
  | _, _, 0, _, _, .cons _ b, h => .cons h b
  | _, _, j + 1, _, _, .cons a b, h => .cons a (dqa_set b h)
abbrev NNr : List Str := ["_law_deck_here", "_law_draw_here", "_law_one", "_law_two", "_law_row", "_law_spot", "_law_other", "_law_more", "_law_found", "_law_rows", "_law_some"]
theorem scNear : FnScope NNr ["_law_deck_here", "_law_draw_here"] (defScope sNear) := ⟨rfl, rfl, rfl, by decide +kernel, rfl, by decide +kernel, by decide +kernel⟩
section
variable {P : Program} {w : World} {K : PySem.W.Frag} {mg : Str → Option Value} {base : Heap}

/-- a draw that was made: rows of numbers from 0 to 50 -/
structure DrAt (H : Hp) (d : Addr) (dl : List Addr) (D : List (List Int)) (n : Nat) : Prop where
  st : StockAt H d dl D
  l1 : 1 ≤ D.length
  l4 : D.length ≤ 4
  n1 : 1 ≤ n
  n4 : n ≤ 4
  rw : ∀ r ∈ D, r.length = n ∧ ∀ x ∈ r, 0 ≤ x ∧ x ≤ 50
def spNear : Sp := fun vs H Q _ => ∃ (X : Addr → Prop) (dk c d : Addr) (B : Nat) (dl : List Addr) (D : List (List Int)) (n : Nat), vs = [.ref dk, .ref d] ∧ LX X dk c H ∧ Deck H dk c B ∧ B + 10 ≤ 1000000 ∧ DrAt H d dl D n ∧
  ∀ L xs ds H', Kp2 dk c H H' → Deck H' dk c (B + 10) → H' L = some (.lst xs) → ¬ X L → DqAll (Wo X H') xs ds → xs.length = 9 → (∀ d ∈ ds, Vok d) → Q (.ref L) H'
set_option maxHeartbeats 2000000 in
theorem ok_near {f fN fU fTu fAu fIr fTk fDk fD fS fPl fNu fId fAy fOo fRp fNr : Addr} {fd dN dU dTu dAu dIr dTk dDk dD dS dPl dNu dId dAy dOo dRp dNr : FuncData} {k : Nat} (F : Fun K "_law_near" "_law_near" sNear f fd) (T : Tx K mg fN fU fTu fAu fIr fTk fDk fD fS fPl fNu fId fAy fOo fRp fNr dN dU dTu dAu dIr dTk dDk dD dS dPl dNu dId dAy dOo dRp dNr) :
    FnOk P w K mg base CX0 (k + 2) f fd ["_law_deck_here", "_law_draw_here"] spNear := by
  have GD : FnOk P w K mg base CX0 (k + 1) fD dD ["_law_deck_here", "_law_bound"] spDraw := ok_draw T.D T.m_len T.m_max
  refine F.ok scNear (fun vs H Q E h => ?_) (fun cdv A outer s H vs Q E hr h => ?_)
  · obtain ⟨X, dk, c, d, B, dl, D, n, rfl, _⟩ := h
    rfl
  · obtain ⟨X, dk, c, d, B, dl, D, n, rfl, hX, dek, hB, ⟨st, h1, h4, hn1, hn4, hrw⟩, q⟩ := h
    refine ⟨_, (pss_cons (ps_par (i := 2) (j := 3) (by rfl) scNear.nd rfl rfl (by decide) rfl rfl (pa_cons (pe_call GD (hr.mono (by omega)) (by rfl) T.gD T.D.kp T.bD .nil pass0 (pa_cons (pv 0) (pa_cons (pe_callB call_len_seq (by rfl) T.m_len PySem.boot_len (pa_cons (pv 1) pa_nil)) pa_nil))) (pa_cons (pe_call GD (hr.mono (by omega)) (by rfl) T.gD T.D.kp T.bD .nil pass0 (pa_cons (pv 0) (pa_cons (pe_callB call_len_seq (by rfl) T.m_len PySem.boot_len (pa_cons (pv 1) pa_nil)) pa_nil))) pa_nil)) (by rfl))
      (pss_cons (ps_par3 (i := 4) (j := 5) (l := 6) (by rfl) scNear.nd rfl rfl rfl (by decide) (by decide) (by decide) rfl rfl rfl (pa_cons (pe_callTy call_list_of (by rfl) T.m_list (by decide +kernel) (pa_cons (pe_ix (show IxR _ (rIxT K) from ix_tup) (pv 1) (pv 2) (fun _ _ => rfl)) pa_nil)) (pa_cons (pe_call GD (hr.mono (by omega)) (by rfl) T.gD T.D.kp T.bD .nil pass0 (pa_cons (pv 0) (pa_cons (pe_callB call_len_seq (by rfl) T.m_len PySem.boot_len (pa_cons (pe_ix (show IxR _ (rIxT K) from ix_tup) (pv 1) (pv 2) (fun _ _ => rfl)) pa_nil)) pa_nil))) (pa_cons (pe_call GD (hr.mono (by omega)) (by rfl) T.gD T.D.kp T.bD .nil pass0 (pa_cons (pv 0) (pa_cons (pe_callB call_len_seq (by rfl) T.m_len PySem.boot_len (pa_cons (pe_ix (show IxR _ (rIxT K) from ix_tup) (pv 1) (pv 2) (fun _ _ => rfl)) pa_nil)) pa_nil))) pa_nil))) (by rfl))
      (pss_cons (ps_asg (pe_op op_add (pe_ix (show IxR _ (rIxL K) from ix_list) (pv 4) (pv 5) (fun _ _ => rfl)) pe_int) (pg_sub (pv 4) (pv 5) set_list))
      (pss_cons (ps_set (i := 7) scNear.nd rfl (.inl rfl) (pe_op op_catQ (pe_op op_catQ (pe_slice sl_tupQ (pv 1) po_none (po_some (pv 2))) (pe_tup (pa_cons (pe_callTy call_tuple_of (by rfl) T.m_tuple (by decide +kernel) (pa_cons (pv 4) pa_nil)) pa_nil))) (pe_slice sl_tupQ (pv 1) (po_some (pe_op op_add (pv 2) pe_int)) po_none)))
      (pss_cons (ps_asg (pe_op op_sub (pe_ix (show IxR _ (rIxL K) from ix_list) (pv 4) (pv 6) (fun _ _ => rfl)) pe_int) (pg_sub (pv 4) (pv 6) set_list))
      (pss_cons (ps_set (i := 8) scNear.nd rfl (.inl rfl) (pe_lst (pa_cons (pv 7) (pa_cons (pe_op op_catQ (pe_op op_catQ (pe_slice sl_tupQ (pv 1) po_none (po_some (pv 2))) (pe_tup (pa_cons (pe_callTy call_tuple_of (by rfl) T.m_tuple (by decide +kernel) (pa_cons (pv 4) pa_nil)) pa_nil))) (pe_slice sl_tupQ (pv 1) (po_some (pe_op op_add (pv 2) pe_int)) po_none)) (pa_cons (pe_slice sl_tupQ (pv 1) (po_some pe_int) po_none) (pa_cons (pe_op op_catQ (pv 1) (pe_slice sl_tupQ (pv 1) po_none (po_some pe_int))) (pa_cons (pe_revT (pv 1)) (pa_cons (pe_callTy call_list_of (by rfl) T.m_list (by decide +kernel) (pa_cons (pv 1) pa_nil)) pa_nil))))))))
      (pss_cons (ps_set (i := 9) scNear.nd rfl (.inl rfl) (pe_callTy call_list_of (by rfl) T.m_list (by decide +kernel) (pa_cons (pv 1) pa_nil)))
      (pss_cons (ps_asg (pe_tup (pa_cons (pe_ix (show IxR _ (rIxT K) from ix_tup) (pv 1) (pv 3) (fun _ _ => rfl)) (pa_cons (pe_ix (show IxR _ (rIxT K) from ix_tup) (pv 1) (pv 2) (fun _ _ => rfl)) pa_nil))) (pg_tup rfl (pgs_cons (pg_sub (pv 9) (pv 2) set_list) (pgs_cons (pg_sub (pv 9) (pv 3) set_list) pgs_nil))))
      (pss_one (ps_ret (pe_op op_cat (pv 8) (pe_lst (pa_cons (pe_callTy call_tuple_of (by rfl) T.m_tuple (by decide +kernel) (pa_cons (pv 9) pa_nil)) (pa_cons (pe_op op_catQ (pe_op op_catQ (pe_slice sl_tupQ (pv 1) po_none (po_some (pv 2))) (pe_tup (pa_cons (pe_callTy call_list_of (by rfl) T.m_list (by decide +kernel) (pa_cons (pe_ix (show IxR _ (rIxT K) from ix_tup) (pv 1) (pv 2) (fun _ _ => rfl)) pa_nil)) pa_nil))) (pe_slice sl_tupQ (pv 1) (po_some (pe_op op_add (pv 2) pe_int)) po_none)) (pa_cons (pe_callTy call_tuple_of (by rfl) T.m_tuple (by decide +kernel) (pa_cons (pe_lc (own := [("_law_some", 10)]) (g := gName 10) rfl scNear.nd (pi_tup (pv 1)) (blkOk_by (own := [("_law_some", 10)]) (N := NNr) (sc := defScope sNear) (by decide +kernel)) (fun _ _ _ _ _ => (pg_name (i := 10) scNear.nd rfl (Or.inl rfl))) (fun _ _ _ _ _ => pts_nil) (fun _ _ _ _ _ => (pe_callB (show CallR _ _ (fun vs H Q => ∃ (a : Addr) (ns : List Int), vs = [V.ref a] ∧ SqT K H a (ns.map V.int) ∧ Q (.int ns.sum) H) from cr_sumT rfl) (by rfl) T.m_sum (by decide +kernel) (pa_cons (pv 10) pa_nil)))) pa_nil)) pa_nil))))))))))))))), ?_⟩
    have hll := st.len
    have hdl : ((dl.map V.ref).length : Int) = (D.length : Int) := by rw [List.length_map, hll]
    refine ⟨_, rfl, _, rfl, d, _, rfl, .inr (SqT.of st.top), ?_⟩
    rw [hdl]
    refine ⟨dk, c, B, _, rfl, dek, by omega, by omega, by omega, fun one H1 o0 o1 k1 d1 => ?_⟩
    have st1 := st.kp k1 dek
    refine ⟨_, rfl, _, rfl, d, _, rfl, .inr (SqT.of st1.top), ?_⟩
    rw [hdl]
    refine ⟨dk, c, _, _, rfl, d1, by omega, by omega, by omega, fun two H2 t0 t1 k2 d2 => ?_⟩
    have k02 := k1.trans k2
    have st2 := st.kp k02 dek
    obtain ⟨oj, rfl⟩ : ∃ j : Nat, one = (j : Int) := ⟨one.toNat, by omega⟩
    obtain ⟨tj, rfl⟩ : ∃ j : Nat, two = (j : Int) := ⟨two.toNat, by omega⟩
    have hoj : oj < D.length := by omega
    have htj : tj < D.length := by omega
    refine ⟨_, _, rfl, ?_⟩
    have go : (dl.map V.ref)[oj]? = some (.ref (dl.getD oj 0)) := by
      rw [List.getElem?_map, getD_of (d := 0) (by omega)]
      rfl
    have gt : (dl.map V.ref)[tj]? = some (.ref (dl.getD tj 0)) := by
      rw [List.getElem?_map, getD_of (d := 0) (by omega)]
      rfl
    have hro := getD_of (d := []) hoj
    have hlo := getD_of (d := 0) (show oj < dl.length by omega)
    have hrt := getD_of (d := []) htj
    have hlt := getD_of (d := 0) (show tj < dl.length by omega)
    obtain ⟨hrn, hrb⟩ := hrw _ (List.mem_of_getElem? hro)
    -- row, spot, other
    refine ⟨_, rfl, _, rfl, d, _, (oj : Int), .ref (dl.getD oj 0), rfl, rfl, SqT.of st2.top, atI_nat go, dl.getD oj 0, _, rfl, .inr (SqT.of (st2.row oj _ _ hlo hro)), fun R nR => ?_⟩
    have hR : (upd H2 R (.lst ((D.getD oj []).map V.int))) R = some (.lst ((D.getD oj []).map V.int)) := upd_same
    have sR := same_new (o := .lst ((D.getD oj []).map V.int)) nR
    have nHR := kp_free k02 d2 nR
    have rne := d2.nedk nR
    have k3 := k02.updF (o := .lst ((D.getD oj []).map V.int)) nHR
    have d3 := d2.kp (o := .lst ((D.getD oj []).map V.int)) nR
    have hXR := (hX.kp k02 d2).add (xs := (D.getD oj []).map V.int) nR
    generalize upd H2 R (.lst ((D.getD oj []).map V.int)) = H3 at hR sR k3 d3 hXR ⊢
    have st3 := st2.same sR
    have hXR3 : LX (fun a => X a ∨ a = R) dk c H3 := hXR
    refine ⟨_, rfl, _, rfl, _, rfl, d, _, (oj : Int), .ref (dl.getD oj 0), rfl, rfl, SqT.of st3.top, atI_nat go, dl.getD oj 0, _, rfl, .inr (SqT.of (st3.row oj _ _ hlo hro)), ?_⟩
    rw [List.length_map, hrn]
    refine ⟨dk, c, _, (n : Int), rfl, d3, by omega, by omega, by omega, fun spot H4 p0 p1 k4 d4 => ?_⟩
    have hR4 := k4 _ _ rne.1 rne.2 hR
    have k04 := k3.trans k4
    have st4 := st.kp k04 dek
    have hXR4 := hXR3.kp k4 d4
    refine ⟨_, rfl, _, rfl, _, rfl, d, _, (oj : Int), .ref (dl.getD oj 0), rfl, rfl, SqT.of st4.top, atI_nat go, dl.getD oj 0, _, rfl, .inr (SqT.of (st4.row oj _ _ hlo hro)), ?_⟩
    rw [List.length_map, hrn]
    refine ⟨dk, c, _, (n : Int), rfl, d4, by omega, by omega, by omega, fun other H5 u0 u1 k5 d5 => ?_⟩
    have hR5 := k5 _ _ rne.1 rne.2 hR4
    have k05 := k04.trans k5
    have hXR5 := hXR4.kp k5 d5
    obtain ⟨sj, rfl⟩ : ∃ j : Nat, spot = (j : Int) := ⟨spot.toNat, by omega⟩
    obtain ⟨uj, rfl⟩ : ∃ j : Nat, other = (j : Int) := ⟨other.toNat, by omega⟩
    refine ⟨_, _, _, rfl, ?_⟩
    clear k1 k2 k4 k5 st1 st2 st3 st4 hR hR4 d1 d2 d3 d4 sR k02 k3 k04
    have hrow0 : ∀ x ∈ D.getD oj [], -1000 ≤ x ∧ x ≤ 1000 := fun x hx => by have := hrb x hx; omega
    have hD4 : Rw4 D := fun r hr => ⟨by have := (hrw r hr).1; omega, fun x hx => by have := (hrw r hr).2 x hx; omega⟩
    have hix : ∀ (xs : List Int) (j : Nat), xs.length = n → j < n → ixN (xs.map V.int).length ((j : Nat) : Int) = some j := fun xs j hx hj => by
      unfold ixN
      rw [if_pos (by omega), if_pos (by rw [List.length_map]; omega)]
      simp
    have gix : ∀ (xs : List Int) (j : Nat), xs.length = n → j < n → (xs.map V.int)[j]? = some (.int (xs.getD j 0)) := fun xs j hx hj => by
      rw [List.getElem?_map, getD_of (d := 0) (by omega)]
      rfl
    -- row[spot] + 1
    refine ⟨_, rfl, _, rfl, R, _, (sj : Int), .int ((D.getD oj []).getD sj 0), rfl, rfl, SqL.of hR5, atI_nat (gix _ sj hrn (by omega)), (D.getD oj []).getD sj 0, 1, rfl, rfl, _, rfl, _, rfl, R, _, (sj : Int), sj, rfl, rfl, hR5, hix _ sj hrn (by omega), ?_⟩
    rw [← List.map_set]
    have hr1l : ((D.getD oj []).set sj ((D.getD oj []).getD sj 0 + 1)).length = n := by rw [List.length_set]; exact hrn
    have hsb := getD_bd (b := 50) hrb (by decide) sj
    have hr1 : ∀ x ∈ (D.getD oj []).set sj ((D.getD oj []).getD sj 0 + 1), -999 ≤ x ∧ x ≤ 1000 := fun x hx => by
      rcases List.mem_or_eq_of_mem_set hx with h | h
      · have := hrb x h
        omega
      · omega
    generalize (D.getD oj []).set sj ((D.getD oj []).getD sj 0 + 1) = r1 at hr1l hr1 ⊢
    have hR6 : (upd H5 R (.lst (r1.map V.int))) R = some (.lst (r1.map V.int)) := upd_same
    have k06 := k05.updF (o := .lst (r1.map V.int)) nHR
    have d6 := d5.updD (o := .lst (r1.map V.int)) rne.1 rne.2
    have hXR6 : LX (fun a => X a ∨ a = R) dk c (upd H5 R (.lst (r1.map V.int))) := hXR5.upd
    generalize upd H5 R (.lst (r1.map V.int)) = H6 at hR6 k06 d6 hXR6 ⊢
    have st6 := st.kp k06 dek
    have hX6 : LX (fun a => X a ∨ a = R) dk c H6 := hXR6
    have rows6 : DqAll (Wo (fun a => X a ∨ a = R) H6) (dl.map V.ref) (D.map rowD) := by
      have z := stock_dq hX6 st6
      cases z with
      | tup a b =>
        obtain ⟨a1, _⟩ := wo_some a
        rw [st6.top] at a1
        cases a1
        exact b
    -- more
    refine ⟨_, rfl, ?_⟩
    dsimp only [tNoPart]
    refine ⟨_, rfl, (oj : Int), rfl, d, _, rfl, st6.top, fun p1a Haa saa h1a => ?_⟩
    rw [cutV_to] at h1a
    refine ⟨_, rfl, R, _, rfl, .inl ⟨SqL.of (saa _ _ hR6), fun qqa nqa => ?_⟩⟩
    have sba := same_new (o := .tup (r1.map V.int)) nqa
    have hqa : (upd Haa qqa (.tup (r1.map V.int))) qqa = some (.tup (r1.map V.int)) := upd_same
    generalize upd Haa qqa (.tup (r1.map V.int)) = Hba at sba hqa ⊢
    refine ⟨by show 1 ≤ sizeLine; decide, fun p2a n2a => ?_⟩
    have sca := same_new (o := .tup [.ref qqa]) n2a
    refine ⟨p1a, p2a, _, _, rfl, rfl, sca _ _ (sba _ _ h1a), upd_same, by rw [List.length_take, List.length_map]; simp only [List.length_cons, List.length_nil]; omega, fun p3a Hda sda h3a => ?_⟩
    have sada := saa.trans (sba.trans (sca.trans sda))
    refine ⟨_, rfl, ?_⟩
    refine ⟨_, rfl, (oj : Int), 1, rfl, rfl, (oj : Int) + 1, rfl, ?_⟩
    refine ⟨d, _, rfl, sada _ _ st6.top, fun p4a Hea sea h4a => ?_⟩
    rw [show ((oj : Int) + 1) = ((oj + 1 : Nat) : Int) by omega, cutV_from] at h4a
    refine ⟨p3a, p4a, _, _, rfl, rfl, sea _ _ h3a, h4a, by simp only [List.length_append, List.length_take, List.length_drop, List.length_cons, List.length_nil, List.length_map]; omega, fun p5a Hfa sfa h5a => ?_⟩
    rw [set_cut (by rw [List.length_map]; omega)] at h5a
    have sbfa := sca.trans (sda.trans (sea.trans sfa))
    have safa := saa.trans (sba.trans sbfa)
    have dqA : Dq (Wo (fun a => X a ∨ a = R) Hfa) (.ref p5a) (stockD (D.set oj r1)) := by
      have hq' := sbfa _ _ hqa
      have rows := DqAll.same (wo_same safa) _ _ rows6
      refine .tup (wo_of h5a (tup_ne (hX6.same safa) (Same.refl _) h5a)) ?_
      show DqAll _ _ ((D.set oj r1).map rowD)
      rw [List.map_set]
      exact dqa_set rows (.tup (wo_of hq' (tup_ne (hX6.same safa) (Same.refl _) hq')) (dq_ints _))
    clear h1a h3a h4a hqa
    have hR7 := safa _ _ hR6
    have k07 := k06.trans (kps safa)
    have d7 := d6.keep safa
    have hX7 := hX6.same safa
    have rows7 := DqAll.same (wo_same safa) _ _ rows6
    -- row[other] - 1
    refine ⟨_, rfl, _, rfl, R, _, (uj : Int), .int (r1.getD uj 0), rfl, rfl, SqL.of hR7, atI_nat (gix _ uj hr1l (by omega)), r1.getD uj 0, 1, rfl, rfl, _, rfl, _, rfl, R, _, (uj : Int), uj, rfl, rfl, hR7, hix _ uj hr1l (by omega), ?_⟩
    rw [← List.map_set]
    have hr2l : (r1.set uj (r1.getD uj 0 - 1)).length = n := by rw [List.length_set]; exact hr1l
    have hr2 : ∀ x ∈ r1.set uj (r1.getD uj 0 - 1), -1000 ≤ x ∧ x ≤ 1000 := fun x hx => by
      rcases List.mem_or_eq_of_mem_set hx with h | h
      · have := hr1 x h
        omega
      · have := hr1 _ (List.mem_of_getElem? (getD_of (d := 0) (show uj < r1.length by omega)))
        omega
    have hrr1 : ∀ x ∈ r1, -1000 ≤ x ∧ x ≤ 1000 := fun x hx => by have := hr1 x hx; omega
    generalize r1.set uj (r1.getD uj 0 - 1) = r2 at hr2l hr2 ⊢
    have hR8 : (upd Hfa R (.lst (r2.map V.int))) R = some (.lst (r2.map V.int)) := upd_same
    have k08 := k07.updF (o := .lst (r2.map V.int)) nHR
    have d8 := d7.updD (o := .lst (r2.map V.int)) rne.1 rne.2
    have hX8 : LX (fun a => X a ∨ a = R) dk c (upd Hfa R (.lst (r2.map V.int))) := hX7.upd
    have rows8 := DqAll.same (wo_upd (X := fun a => X a ∨ a = R) (H := Hfa) (p := R) (o := .lst (r2.map V.int)) (.inr rfl)) _ _ rows7
    have dqA8 := Dq.same (wo_upd (X := fun a => X a ∨ a = R) (H := Hfa) (p := R) (o := .lst (r2.map V.int)) (.inr rfl)) _ _ dqA
    generalize upd Hfa R (.lst (r2.map V.int)) = H8 at hR8 k08 d8 hX8 rows8 dqA8 ⊢
    have st8 := st.kp k08 dek
    -- found
    refine ⟨_, rfl, ?_⟩
    refine ⟨_, rfl, ?_⟩
    dsimp only [tNoPart]
    refine ⟨_, rfl, (oj : Int), rfl, d, _, rfl, st8.top, fun p1b Hab sab h1b => ?_⟩
    rw [cutV_to] at h1b
    refine ⟨_, rfl, R, _, rfl, .inl ⟨SqL.of (sab _ _ hR8), fun qqb nqb => ?_⟩⟩
    have sbb := same_new (o := .tup (r2.map V.int)) nqb
    have hqb : (upd Hab qqb (.tup (r2.map V.int))) qqb = some (.tup (r2.map V.int)) := upd_same
    generalize upd Hab qqb (.tup (r2.map V.int)) = Hbb at sbb hqb ⊢
    refine ⟨by show 1 ≤ sizeLine; decide, fun p2b n2b => ?_⟩
    have scb := same_new (o := .tup [.ref qqb]) n2b
    refine ⟨p1b, p2b, _, _, rfl, rfl, scb _ _ (sbb _ _ h1b), upd_same, by rw [List.length_take, List.length_map]; simp only [List.length_cons, List.length_nil]; omega, fun p3b Hdb sdb h3b => ?_⟩
    have sadb := sab.trans (sbb.trans (scb.trans sdb))
    refine ⟨_, rfl, ?_⟩
    refine ⟨_, rfl, (oj : Int), 1, rfl, rfl, (oj : Int) + 1, rfl, ?_⟩
    refine ⟨d, _, rfl, sadb _ _ st8.top, fun p4b Heb seb h4b => ?_⟩
    rw [show ((oj : Int) + 1) = ((oj + 1 : Nat) : Int) by omega, cutV_from] at h4b
    refine ⟨p3b, p4b, _, _, rfl, rfl, seb _ _ h3b, h4b, by simp only [List.length_append, List.length_take, List.length_drop, List.length_cons, List.length_nil, List.length_map]; omega, fun p5b Hfb sfb h5b => ?_⟩
    rw [set_cut (by rw [List.length_map]; omega)] at h5b
    have sbfb := scb.trans (sdb.trans (seb.trans sfb))
    have safb := sab.trans (sbb.trans sbfb)
    have dqB : Dq (Wo (fun a => X a ∨ a = R) Hfb) (.ref p5b) (stockD (D.set oj r2)) := by
      have hq' := sbfb _ _ hqb
      have rows := DqAll.same (wo_same safb) _ _ rows8
      refine .tup (wo_of h5b (tup_ne (hX8.same safb) (Same.refl _) h5b)) ?_
      show DqAll _ _ ((D.set oj r2).map rowD)
      rw [List.map_set]
      exact dqa_set rows (.tup (wo_of hq' (tup_ne (hX8.same safb) (Same.refl _) hq')) (dq_ints _))
    have stb := st8.same safb
    have hXb := hX8.same safb
    have rowsb := DqAll.same (wo_same safb) _ _ rows8
    have dqAb := Dq.same (wo_same safb) _ _ dqA8
    have hRb := safb _ _ hR8
    have k0b := k08.trans (kps safb)
    have db := d8.keep safb
    clear h1b h3b h4b hqb
    -- d[1:]
    refine ⟨_, rfl, 1, rfl, d, _, rfl, stb.top, fun c1 Hc sc1 hc1 => ?_⟩
    have hc1 : Hc c1 = some (.tup ((dl.map V.ref).drop 1)) := by
      have e := cutV_from (xs := dl.map V.ref) (s := 1)
      rw [← e]
      exact hc1
    have hXc := hXb.same sc1
    have rowsc := DqAll.same (wo_same sc1) _ _ rowsb
    have dqC : Dq (Wo (fun a => X a ∨ a = R) Hc) (.ref c1) (stockD (D.drop 1)) := .tup (wo_of hc1 (tup_ne hXc (Same.refl _) hc1)) (by rw [List.map_drop]; exact rowsc.drop 1)
    have stc := stb.same sc1
    -- d + d[:1]
    refine ⟨_, rfl, _, rfl, ?_⟩
    dsimp only [tNoPart]
    refine ⟨1, rfl, d, _, rfl, stc.top, fun c2 Hd sc2 hc2 => ?_⟩
    have hc2 : Hd c2 = some (.tup ((dl.map V.ref).take 1)) := by
      have e := cutV_to (xs := dl.map V.ref) (s := 1)
      rw [← e]
      exact hc2
    refine ⟨d, c2, _, _, rfl, rfl, sc2 _ _ stc.top, hc2, by rw [List.length_take, List.length_map]; omega, fun c3 He sc3 hc3 => ?_⟩
    have sce := sc2.trans sc3
    have hXe := hXc.same sce
    have rowse := DqAll.same (wo_same sce) _ _ rowsc
    have dqE : Dq (Wo (fun a => X a ∨ a = R) He) (.ref c3) (stockD (D ++ D.take 1)) := .tup (wo_of hc3 (tup_ne hXe (Same.refl _) hc3)) (by rw [List.map_append, List.map_take]; exact rowse.app (rowse.take 1))
    have ste := stc.same sce
    -- d[::-1]
    refine ⟨_, rfl, d, _, rfl, SqT.of ste.top, fun c4 nc4 => ?_⟩
    have sc4 := same_new (o := .tup (dl.map V.ref).reverse) nc4
    have hc4 : (upd He c4 (.tup (dl.map V.ref).reverse)) c4 = some (.tup (dl.map V.ref).reverse) := upd_same
    generalize upd He c4 (.tup (dl.map V.ref).reverse) = Hg at sc4 hc4 ⊢
    have hXg := hXe.same sc4
    have rowsg := DqAll.same (wo_same sc4) _ _ rowse
    have dqG : Dq (Wo (fun a => X a ∨ a = R) Hg) (.ref c4) (stockD D.reverse) := .tup (wo_of hc4 (tup_ne hXg (Same.refl _) hc4)) (by rw [List.map_reverse]; exact dq_rev rowsg)
    have stg := ste.same sc4
    -- list(d)
    refine ⟨_, rfl, d, dl.map V.ref, rfl, .inr (SqT.of stg.top), fun c5 nc5 => ?_⟩
    have sc5 := same_new (o := .lst (dl.map V.ref)) nc5
    have hc5 : (upd Hg c5 (.lst (dl.map V.ref))) c5 = some (.lst (dl.map V.ref)) := upd_same
    have mc5 := new_ne hXg (Same.refl _) nc5
    generalize upd Hg c5 (.lst (dl.map V.ref)) = Hh at sc5 hc5 ⊢
    have hXh := hXg.same sc5
    have rowsh := DqAll.same (wo_same sc5) _ _ rowsg
    have dqH : Dq (Wo (fun a => X a ∨ a = R) Hh) (.ref c5) (.list (D.map rowD)) := .lst (wo_of hc5 mc5) rowsh
    have sth := stg.same sc5
    refine ⟨by show 6 ≤ sizeLine; decide, fun F nF => ?_⟩
    have sF := same_new (o := .lst [.ref p5a, .ref p5b, .ref c1, .ref c3, .ref c4, .ref c5]) nF
    have sbF := sc1.trans (sce.trans (sc4.trans (sc5.trans sF)))
    have mF := new_ne hXh (Same.refl _) nF
    have hF : (upd Hh F (.lst [V.ref p5a, .ref p5b, .ref c1, .ref c3, .ref c4, .ref c5])) F = some (.lst [.ref p5a, .ref p5b, .ref c1, .ref c3, .ref c4, .ref c5]) := upd_same
    have foundq : DqAll (Wo (fun a => X a ∨ a = R) (upd Hh F (.lst [V.ref p5a, .ref p5b, .ref c1, .ref c3, .ref c4, .ref c5]))) [.ref p5a, .ref p5b, .ref c1, .ref c3, .ref c4, .ref c5] [stockD (D.set oj r1), stockD (D.set oj r2), stockD (D.drop 1), stockD (D ++ D.take 1), stockD D.reverse, .list (D.map rowD)] :=
      .cons (Dq.same (wo_same sbF) _ _ dqAb) (.cons (Dq.same (wo_same sbF) _ _ dqB) (.cons (Dq.same (wo_same (sce.trans (sc4.trans (sc5.trans sF)))) _ _ dqC) (.cons (Dq.same (wo_same (sc4.trans (sc5.trans sF))) _ _ dqE) (.cons (Dq.same (wo_same (sc5.trans sF)) _ _ dqG) (.cons (Dq.same (wo_same sF) _ _ dqH) .nil)))))
    have hXF := hXh.same sF
    have stF := sth.same sF
    have k0F := k0b.trans (kps sbF)
    have dF := db.keep sbF
    have rowsF := DqAll.same (wo_same sF) _ _ rowsh
    generalize upd Hh F (.lst [V.ref p5a, .ref p5b, .ref c1, .ref c3, .ref c4, .ref c5]) = HF at hF foundq hXF stF k0F dF rowsF ⊢
    clear dqA dqA8 dqAb dqB dqC dqE dqG dqH rows6 rows7 rows8 rowsb rowsc rowse rowsg rowsh
    -- rows = list(d)
    refine ⟨_, rfl, d, dl.map V.ref, rfl, .inr (SqT.of stF.top), fun G nG => ?_⟩
    have hG : (upd HF G (.lst (dl.map V.ref))) G = some (.lst (dl.map V.ref)) := upd_same
    have gne := dF.nedk nG
    have nHG := kp_free k0F dF nG
    have sG := same_new (o := .lst (dl.map V.ref)) nG
    have hXG := hXF.add (xs := dl.map V.ref) nG
    have foundG := DqAll.same (wo_add (o := .lst (dl.map V.ref)) nG) _ _ foundq
    have rowsG := DqAll.same (wo_add (o := .lst (dl.map V.ref)) nG) _ _ rowsF
    have hFG := sG _ _ hF
    have k0G := k0F.trans (kps sG)
    have dG := dF.keep sG
    have hFne : F ≠ G := fun e => by rw [e, nG] at hF; cases hF
    have stG := stF.same sG
    generalize upd HF G (.lst (dl.map V.ref)) = HG at hG hXG foundG rowsG hFG k0G dG stG ⊢
    -- rows[one], rows[two] = d[two], d[one]
    have hixd : ∀ (xs : List V) (j : Nat), xs.length = D.length → j < D.length → ixN xs.length ((j : Nat) : Int) = some j := fun xs j hx hj => by
      unfold ixN
      rw [if_pos (by omega), if_pos (by omega)]
      simp
    refine ⟨_, rfl, _, rfl, d, _, (tj : Int), .ref (dl.getD tj 0), rfl, rfl, SqT.of stG.top, atI_nat gt, ?_⟩
    refine ⟨_, rfl, _, rfl, d, _, (oj : Int), .ref (dl.getD oj 0), rfl, rfl, SqT.of stG.top, atI_nat go, ?_⟩
    refine ⟨by show 2 ≤ sizeLine; decide, fun T5 nT5 => ?_⟩
    have sT := same_new (o := .tup [.ref (dl.getD tj 0), .ref (dl.getD oj 0)]) nT5
    have hT5 : (upd HG T5 (.tup [V.ref (dl.getD tj 0), .ref (dl.getD oj 0)])) T5 = some (.tup [.ref (dl.getD tj 0), .ref (dl.getD oj 0)]) := upd_same
    have hGT := sT _ _ hG
    have hFT := sT _ _ hFG
    have hXT := hXG.same sT
    have foundT := DqAll.same (wo_same sT) _ _ foundG
    have rowsT := DqAll.same (wo_same sT) _ _ rowsG
    have k0T := k0G.trans (kps sT)
    have dT := dG.keep sT
    refine ⟨T5, [.ref (dl.getD tj 0), .ref (dl.getD oj 0)], rfl, .inl (.inl hT5), rfl, .ref (dl.getD tj 0), [.ref (dl.getD oj 0)], rfl, ?_⟩
    generalize upd HG T5 (.tup [V.ref (dl.getD tj 0), .ref (dl.getD oj 0)]) = HT at hGT hFT hXT foundT rowsT k0T dT ⊢
    have hlm : (dl.map V.ref).length = D.length := by rw [List.length_map, hll]
    refine ⟨_, rfl, _, rfl, G, _, (oj : Int), oj, rfl, rfl, hGT, hixd _ oj hlm hoj, ?_⟩
    refine ⟨.ref (dl.getD oj 0), [], rfl, ?_⟩
    refine ⟨_, rfl, _, rfl, G, _, (tj : Int), tj, rfl, rfl, upd_same, hixd _ tj (by rw [List.length_set]; exact hlm) htj, rfl, ?_⟩
    have hGU : (upd (upd HT G (.lst ((dl.map V.ref).set oj (.ref (dl.getD tj 0))))) G (.lst (((dl.map V.ref).set oj (.ref (dl.getD tj 0))).set tj (.ref (dl.getD oj 0))))) G = some (.lst (((dl.map V.ref).set oj (.ref (dl.getD tj 0))).set tj (.ref (dl.getD oj 0)))) := upd_same
    have hFU : (upd (upd HT G (.lst ((dl.map V.ref).set oj (.ref (dl.getD tj 0))))) G (.lst (((dl.map V.ref).set oj (.ref (dl.getD tj 0))).set tj (.ref (dl.getD oj 0))))) F = some (.lst [.ref p5a, .ref p5b, .ref c1, .ref c3, .ref c4, .ref c5]) := by
      rw [upd_ne hFne, upd_ne hFne]
      exact hFT
    have wu : Same (Wo (fun a => (X a ∨ a = R) ∨ a = G) HT) (Wo (fun a => (X a ∨ a = R) ∨ a = G) (upd (upd HT G (.lst ((dl.map V.ref).set oj (.ref (dl.getD tj 0))))) G (.lst (((dl.map V.ref).set oj (.ref (dl.getD tj 0))).set tj (.ref (dl.getD oj 0)))))) := (wo_upd (.inr rfl)).trans (wo_upd (.inr rfl))
    have foundU := DqAll.same wu _ _ foundT
    have rowsU := DqAll.same wu _ _ rowsT
    have hXU : LX (fun a => (X a ∨ a = R) ∨ a = G) dk c (upd (upd HT G (.lst ((dl.map V.ref).set oj (.ref (dl.getD tj 0))))) G (.lst (((dl.map V.ref).set oj (.ref (dl.getD tj 0))).set tj (.ref (dl.getD oj 0))))) := hXT.upd.upd
    have k0U := (k0T.updF (o := .lst ((dl.map V.ref).set oj (.ref (dl.getD tj 0)))) nHG).updF (o := .lst (((dl.map V.ref).set oj (.ref (dl.getD tj 0))).set tj (.ref (dl.getD oj 0)))) nHG
    have dU := (dT.updD (o := .lst ((dl.map V.ref).set oj (.ref (dl.getD tj 0)))) gne.1 gne.2).updD (o := .lst (((dl.map V.ref).set oj (.ref (dl.getD tj 0))).set tj (.ref (dl.getD oj 0)))) gne.1 gne.2
    generalize upd (upd HT G (.lst ((dl.map V.ref).set oj (.ref (dl.getD tj 0))))) G (.lst (((dl.map V.ref).set oj (.ref (dl.getD tj 0))).set tj (.ref (dl.getD oj 0)))) = HU at hGU hFU foundU rowsU hXU k0U dU ⊢
    clear foundT rowsT hXT k0T dT hGT hFT hG hFG foundG rowsG hXG k0G dG hF foundq rowsF hXF k0F dF
    have stU := st.kp k0U dek
    -- found + [tuple(rows), ..]
    refine ⟨_, rfl, _, rfl, G, _, rfl, .inl ⟨SqL.of hGU, fun z1 nz1 => ?_⟩⟩
    have sz1 := same_new (o := .tup (((dl.map V.ref).set oj (.ref (dl.getD tj 0))).set tj (.ref (dl.getD oj 0)))) nz1
    have hz1 : (upd HU z1 (.tup (((dl.map V.ref).set oj (.ref (dl.getD tj 0))).set tj (.ref (dl.getD oj 0))))) z1 = some (.tup (((dl.map V.ref).set oj (.ref (dl.getD tj 0))).set tj (.ref (dl.getD oj 0)))) := upd_same
    generalize upd HU z1 (.tup (((dl.map V.ref).set oj (.ref (dl.getD tj 0))).set tj (.ref (dl.getD oj 0)))) = HV at sz1 hz1 ⊢
    have hXV := hXU.same sz1
    have rowsV := DqAll.same (wo_same sz1) _ _ rowsU
    have stV := stU.same sz1
    have rat : ∀ j, j < D.length → Dq (Wo (fun a => (X a ∨ a = R) ∨ a = G) HV) (.ref (dl.getD j 0)) (rowD (D.getD j [])) := fun j hj => by
      have z := stV.row j _ _ (getD_of (d := 0) (show j < dl.length by omega)) (getD_of (d := []) hj)
      exact .tup (wo_of z (tup_ne hXV (Same.refl _) z)) (dq_ints _)
    have dqS : Dq (Wo (fun a => (X a ∨ a = R) ∨ a = G) HV) (.ref z1) (stockD ((D.set oj (D.getD tj [])).set tj (D.getD oj []))) := by
      refine .tup (wo_of hz1 (tup_ne hXV (Same.refl _) hz1)) ?_
      show DqAll _ _ (((D.set oj (D.getD tj [])).set tj (D.getD oj [])).map rowD)
      rw [List.map_set, List.map_set]
      exact dqa_set (dqa_set rowsV (rat tj htj)) (rat oj hoj)
    refine ⟨_, rfl, ?_⟩
    dsimp only [tNoPart]
    refine ⟨_, rfl, (oj : Int), rfl, d, _, rfl, stV.top, fun p1e Hae sae h1e => ?_⟩
    rw [cutV_to] at h1e
    refine ⟨_, rfl, _, rfl, d, _, (oj : Int), .ref (dl.getD oj 0), rfl, rfl, SqT.of (sae _ _ stV.top), atI_nat go, dl.getD oj 0, (D.getD oj []).map V.int, rfl, .inr (SqT.of ((stV.same sae).row oj _ _ hlo hro)), fun qqe nqe => ?_⟩
    have sbe := same_new (o := .lst ((D.getD oj []).map V.int)) nqe
    have hqe : (upd Hae qqe (.lst ((D.getD oj []).map V.int))) qqe = some (.lst ((D.getD oj []).map V.int)) := upd_same
    have mqe := new_ne (hXV.same sae) (Same.refl _) nqe
    generalize upd Hae qqe (.lst ((D.getD oj []).map V.int)) = Hbe at sbe hqe ⊢
    refine ⟨by show 1 ≤ sizeLine; decide, fun p2e n2e => ?_⟩
    have sce := same_new (o := .tup [.ref qqe]) n2e
    refine ⟨p1e, p2e, _, _, rfl, rfl, sce _ _ (sbe _ _ h1e), upd_same, by rw [List.length_take, List.length_map]; simp only [List.length_cons, List.length_nil]; omega, fun p3e Hde sde h3e => ?_⟩
    have sade := sae.trans (sbe.trans (sce.trans sde))
    refine ⟨_, rfl, ?_⟩
    refine ⟨_, rfl, (oj : Int), 1, rfl, rfl, (oj : Int) + 1, rfl, ?_⟩
    refine ⟨d, _, rfl, sade _ _ stV.top, fun p4e Hee see h4e => ?_⟩
    rw [show ((oj : Int) + 1) = ((oj + 1 : Nat) : Int) by omega, cutV_from] at h4e
    refine ⟨p3e, p4e, _, _, rfl, rfl, see _ _ h3e, h4e, by simp only [List.length_append, List.length_take, List.length_drop, List.length_cons, List.length_nil, List.length_map]; omega, fun p5e Hfe sfe h5e => ?_⟩
    rw [set_cut (by rw [List.length_map]; omega)] at h5e
    have sbfe := sce.trans (sde.trans (see.trans sfe))
    have safe := sae.trans (sbe.trans sbfe)
    have hXe' := hXV.same safe
    have dqL : Dq (Wo (fun a => (X a ∨ a = R) ∨ a = G) Hfe) (.ref p5e) (.tuple ((D.map rowD).set oj (.list ((D.getD oj []).map PyData.int)))) := by
      refine .tup (wo_of h5e (tup_ne hXe' (Same.refl _) h5e)) ?_
      exact dqa_set (DqAll.same (wo_same safe) _ _ rowsV) (.lst (wo_of (sbfe _ _ hqe) mqe) (dq_ints _))
    have ste' := stV.same safe
    -- the sums
    refine ⟨.ref d, rfl, d, rfl, ⟨_, SqT.of ste'.top⟩, fun Z nZ => ?_⟩
    refine lc_it (walk_tup (xs := dl.map V.ref)) (fun i H' => H' Z = some (.lst (((D.map List.sum).take i).map V.int)) ∧ Same Hfe H') ⟨upd_same, same_new nZ⟩ (fun i H' _ h => SqT.of (h.2 _ _ ste'.top)) (fun i x H' H7 hi h y => ?_) (fun H7 h => ?_)
    · obtain ⟨hD, sm⟩ := h
      obtain ⟨rfl, hx⟩ := y
      obtain ⟨l, hli, rfl⟩ := get_map hx
      rw [List.length_map] at hi
      have hri := getD_of (d := []) (show i < D.length by omega)
      have hrl := sm _ _ (ste'.row i l _ hli hri)
      refine ⟨rfl, _, rfl, l, D.getD i [], rfl, SqT.of hrl, _, hD, ?_, ?_, fun b' o e => ?_⟩
      · rw [List.length_map, List.length_take]
        exact len_lt (by omega)
      · rw [upd_same, take_succ_map (by rw [List.getElem?_map, hri]; rfl)]
      · rw [upd_ne (ne_of_none e nZ)]
        exact sm _ _ e
    obtain ⟨hZ, sZ⟩ := h
    rw [List.length_map, List.take_of_length_le (by rw [List.length_map]; omega)] at hZ
    refine ⟨Z, _, rfl, .inl ⟨SqL.of hZ, fun z3 nz3 => ?_⟩⟩
    have sz3 := sZ.trans (same_new (o := .tup ((D.map List.sum).map V.int)) nz3)
    have hz3 : (upd H7 z3 (.tup ((D.map List.sum).map V.int))) z3 = some (.tup ((D.map List.sum).map V.int)) := upd_same
    generalize upd H7 z3 (.tup ((D.map List.sum).map V.int)) = H8' at sz3 hz3 ⊢
    have hXW := hXe'.same sz3
    have dqM : Dq (Wo (fun a => (X a ∨ a = R) ∨ a = G) H8') (.ref z3) (rowD (D.map List.sum)) := .tup (wo_of hz3 (tup_ne hXW (Same.refl _) hz3)) (dq_ints _)
    refine ⟨by show 3 ≤ sizeLine; decide, fun F2 nF2 => ?_⟩
    have sF2 := same_new (o := .lst [.ref z1, .ref p5e, .ref z3]) nF2
    have hF2 : (upd H8' F2 (.lst [V.ref z1, .ref p5e, .ref z3])) F2 = some (.lst [.ref z1, .ref p5e, .ref z3]) := upd_same
    have sUF := sz1.trans (safe.trans (sz3.trans sF2))
    refine ⟨F, F2, _, _, rfl, rfl, sUF _ _ hFU, hF2, by show 9 ≤ sizeLine; decide, fun L nL => ?_⟩
    have sL := same_new (o := .lst ([V.ref p5a, .ref p5b, .ref c1, .ref c3, .ref c4, .ref c5] ++ [.ref z1, .ref p5e, .ref z3])) nL
    have sUL := sUF.trans sL
    have kL := k0U.trans (kps sUL)
    have dL := dU.keep sUL
    have mL := new_ne (hXW.same sF2) (Same.refl _) nL
    refine q L _ ([stockD (D.set oj r1), stockD (D.set oj r2), stockD (D.drop 1), stockD (D ++ D.take 1), stockD D.reverse, .list (D.map rowD)] ++ [stockD ((D.set oj (D.getD tj [])).set tj (D.getD oj [])), .tuple ((D.map rowD).set oj (.list ((D.getD oj []).map PyData.int))), rowD (D.map List.sum)]) _ kL (dL.up (by omega)) upd_same (fun z => mL (.inl (.inl z))) ?_ rfl fun dd hdd => ?_
    · refine DqAll.same ((wo_less (X := fun a => X a ∨ a = R) (R := G)).trans (wo_less (R := R))) _ _ ?_
      exact (DqAll.same (wo_same sUL) _ _ foundU).app (.cons (Dq.same (wo_same (safe.trans (sz3.trans (sF2.trans sL)))) _ _ dqS) (.cons (Dq.same (wo_same (sz3.trans (sF2.trans sL))) _ _ dqL) (.cons (Dq.same (wo_same (sF2.trans sL)) _ _ dqM) .nil)))
    · have hr1o : r1.length ≤ 4 ∧ ∀ x ∈ r1, -1000 ≤ x ∧ x ≤ 1000 := ⟨by omega, hrr1⟩
      have hr2o : r2.length ≤ 4 ∧ ∀ x ∈ r2, -1000 ≤ x ∧ x ≤ 1000 := ⟨by omega, hr2⟩
      have gD : ∀ j, j < D.length → (D.getD j []).length ≤ 4 ∧ ∀ x ∈ D.getD j [], -1000 ≤ x ∧ x ≤ 1000 := fun j hj => hD4 _ (List.mem_of_getElem? (getD_of (d := []) hj))
      rcases List.mem_append.mp hdd with h | h
      · simp only [List.mem_cons, List.not_mem_nil, or_false] at h
        rcases h with rfl | rfl | rfl | rfl | rfl | rfl
        · exact rw4_tup (rw4_set hD4 hr1o) (by rw [List.length_set]; omega)
        · exact rw4_tup (rw4_set hD4 hr2o) (by rw [List.length_set]; omega)
        · exact rw4_tup (fun r hr => hD4 r (List.mem_of_mem_drop hr)) (by rw [List.length_drop]; omega)
        · exact rw4_tup (fun r hr => (List.mem_append.mp hr).elim (hD4 r) fun h => hD4 r (List.mem_of_mem_take h)) (by rw [List.length_append, List.length_take]; omega)
        · exact rw4_tup (fun r hr => hD4 r (List.mem_reverse.mp hr)) (by rw [List.length_reverse]; omega)
        · exact rw4_lst hD4 (by omega)
      · simp only [List.mem_cons, List.not_mem_nil, or_false] at h
        rcases h with rfl | rfl | rfl
        · exact rw4_tup (rw4_set (rw4_set hD4 (gD tj htj)) (gD oj hoj)) (by rw [List.length_set, List.length_set]; omega)
        · have hcell : (D.map rowD)[oj]? = some (rowD (D.getD oj [])) := by rw [List.getElem?_map, hro]; rfl
          have li := ints_ok (ds := (D.getD oj []).map PyData.int) (fun y hy => by
            obtain ⟨x, hx, rfl⟩ := List.mem_map.mp hy
            exact ⟨x, rfl, hrow0 x hx⟩) (by rw [List.length_map]; omega)
          have p := plain_rows (n := 4) (m := 4) (by omega) hD4
          have lb : Bd 53 1 (.list ((D.getD oj []).map PyData.int)) := (Bd.lst (w := 12) (k := 0) (n := 4) (fun y hy => by
            obtain ⟨x, hx, rfl⟩ := List.mem_map.mp hy
            have := hrow0 x hx
            exact bd_sint (by omega) (by omega)) (by rw [List.length_map]; omega)).up (by decide) (by decide)
          obtain ⟨b1, n1⟩ := bd_put p hcell lb li.2.2
          rw [set_cut (by rw [List.length_map]; exact hoj)] at b1 n1
          exact ⟨b1.up (by decide) (by decide), n1⟩
        · refine (plain_row (n := 4) (by rw [List.length_map]; omega) fun x hx => ?_).vok (by decide) (by decide)
          obtain ⟨r, hr, rfl⟩ := List.mem_map.mp hx
          have h2 := sum_bd (hrw r hr).2
          have h3 := (hrw r hr).1
          rw [h3] at h2
          omega
end
end DD
namespace DD
open PySem PySem.Spec PyProof.Rows L2 RZ DM
def tw (x : Int) : PyData := if x < 2 then .bool (decide (x = 1)) else .int x
def twV (x : Int) : V := if x < 2 then .bl (decide (x = 1)) else .int x
def twD (rows : List (List Int)) : PyData := .tuple (rows.map fun r => .tuple (r.map tw))
theorem dq_tw {H : Hp} (x : Int) : Dq H (twV x) (tw x) := by
  unfold twV tw
  split
  · exact .bl _
  · exact .int _
theorem dq_tws {H : Hp} : ∀ r : List Int, DqAll H (r.map twV) (r.map tw)
  | [] => .nil
  | x :: r => .cons (dq_tw x) (dq_tws r)
def rTupQ (K : PySem.W.Frag) : List V → Hp → VK → Prop := fun xs H Q => ∃ p ys, xs = [V.ref p] ∧ ((SqL K H p ys ∧ ∀ (l : Addr), H l = none → Q (V.ref l) (upd H l (HO.tup ys))) ∨ SqT K H p ys ∧ Q (V.ref p) H)
def scRow : Scope := { kind := .function, names := [(".0", .local), ("_law_row", .local), ("tuple", .globalImplicit)], isGenerator := false, isCoroutine := false, more := [] }

theorem mod_at {a b : Int} (i : Nat) : ∃ z : Int, (z = a ∨ z = b) ∧ atI [V.int a, V.int b] (((0 : Int) + i).fmod 2) = some (.int z) :=
  two_at (Int.fmod_nonneg_of_pos _ (by decide)) (Int.fmod_lt_of_pos _ (by decide))
theorem Vs.kp {X : Addr → Prop} {dk c L : Addr} {H H' H1 : Hp} {xs : List V} {ds : List PyData} (v : Vs X H L xs ds) (hX : LX X dk c H1) (h1 : L ≠ dk) (h2 : L ≠ c) (k : Kp2 dk c H H') : Vs X H' L xs ds :=
  ⟨k _ _ h1 h2 v.top, DqAll.same (wo_kp hX k) _ _ v.all, v.ok⟩
theorem Vs.same {X : Addr → Prop} {L : Addr} {H H' : Hp} {xs : List V} {ds : List PyData} (v : Vs X H L xs ds) (k : Same H H') : Vs X H' L xs ds :=
  ⟨k _ _ v.top, DqAll.same (wo_same k) _ _ v.all, v.ok⟩
theorem Vs.cat {X : Addr → Prop} {L p : Addr} {H : Hp} {xs ys : List V} {ds es : List PyData} (v : Vs X H L xs ds) (q : DqAll (Wo X H) ys es) (ok : ∀ d ∈ es, Vok d) (n : H p = none) : Vs X (upd H p (.lst (xs ++ ys))) p (xs ++ ys) (ds ++ es) :=
  ⟨upd_same, DqAll.same (wo_same (same_new n)) _ _ (v.all.app q), fun d hd => (List.mem_append.mp hd).elim (v.ok d) (ok d)⟩
theorem tw_ok {x : Int} (h0 : 0 ≤ x) (h : x ≤ 1000) : Bd 12 0 (tw x) ∧ Pl (tw x) := by
  unfold tw
  by_cases e : x < 2
  · rw [if_pos e]
    exact ⟨(bd_bool _).up (by decide) (by decide), rfl, rfl⟩
  · rw [if_neg e]
    exact ⟨bd_sint (by omega) (by omega), rfl, rfl⟩
theorem twd_ok {rows : List (List Int)} (h4 : rows.length ≤ 4) (h : ∀ r ∈ rows, r.length ≤ 4 ∧ ∀ x ∈ r, 0 ≤ x ∧ x ≤ 1000) : Vok (twD rows) := by
  have hr : ∀ d ∈ rows.map (fun r => PyData.tuple (r.map tw)), Bd 52 1 d ∧ Pl d := fun d hd => by
    obtain ⟨r, hr, rfl⟩ := List.mem_map.mp hd
    have hx : ∀ y ∈ r.map tw, Bd 12 0 y ∧ Pl y := fun y hy => by
      obtain ⟨x, hx, rfl⟩ := List.mem_map.mp hy
      have := (h r hr).2 x hx
      exact tw_ok this.1 this.2
    exact ⟨Bd.tup (n := 4) (fun y hy => (hx y hy).1) (by rw [List.length_map]; exact (h r hr).1), nx_pl fun y hy => (hx y hy).2⟩
  exact ⟨(Bd.tup (n := 4) (fun y hy => (hr y hy).1) (by rw [List.length_map]; exact h4)).up (by decide) (by decide), (nx_pl fun y hy => (hr y hy).2).nx⟩
theorem zero_rows {X : Addr → Prop} {H : Hp} {p z : Addr} {n m : Nat} (hp : H p = some (.tup ((List.replicate m (0 : Int)).map V.int))) (hz : H z = some (.tup (List.replicate n [V.ref p]).flatten)) (xp : ¬ X p) (xz : ¬ X z) : Dq (Wo X H) (.ref z) (stockD (List.replicate n (List.replicate m 0))) := by
  refine .tup (wo_of hz xz) ?_
  have dp : Dq (Wo X H) (.ref p) (rowD (List.replicate m 0)) := .tup (wo_of hp xp) (dq_ints _)
  have gen : ∀ n : Nat, DqAll (Wo X H) (List.replicate n [V.ref p]).flatten ((List.replicate n (List.replicate m (0 : Int))).map rowD) := fun n => by
    induction n with
    | zero => exact .nil
    | succ n ih =>
      rw [List.replicate_succ, List.flatten_cons, List.replicate_succ, List.map_cons]
      exact .cons dp ih
  exact gen n
theorem dr_rows {rows : List (List Int)} {ps : List Int} {n : Nat} {D : List (List Int)} (rb : Rb rows n) (d : IsDr rows ps n D) : D.length = rows.length ∧ ∀ r ∈ D, r.length = n ∧ ∀ x ∈ r, 0 ≤ x ∧ x ≤ 50 := by
  refine ⟨d.len, fun r hr => ?_⟩
  obtain ⟨j, hj⟩ := List.mem_iff_getElem?.mp hr
  have hjl := (List.getElem?_eq_some_iff.mp hj).1
  have hl := d.len
  have e1 : D.getD j [] = r := by rw [List.getD_eq_getElem?_getD, hj]; rfl
  have hd := d.dr j (by omega)
  rw [e1] at hd
  have hdl := hd.len
  refine ⟨hdl, fun x hx => ?_⟩
  obtain ⟨k, hk⟩ := List.mem_iff_getElem?.mp hx
  have hkl := (List.getElem?_eq_some_iff.mp hk).1
  have e2 : r.getD k 0 = x := by rw [List.getD_eq_getElem?_getD, hk]; rfl
  have hb : 0 ≤ r.getD k 0 ∧ (k < n → r.getD k 0 ≤ (rows.getD j []).getD k 0) := hd.bd k
  have h50 := getD_bd (b := 50) (rb.rw _ (List.mem_of_getElem? (getD_of (d := []) (show j < rows.length by omega)))).2 (by decide) k
  have := hb.2 (by omega)
  omega
abbrev NL : List Str := ["_law_script", "_law_deck_here", "_law_turn", "_law_stock_here", "_law_plan_here", "_law_draw_here", "_law_other", "_law_values", "_law_value", "_law_shown", "_law_k", "_law_row", "_law_count"]
theorem scLaw : FnScope NL ["_law_script"] (defScope sLaw) := ⟨rfl, rfl, rfl, by decide +kernel, rfl, by decide +kernel, by decide +kernel⟩
section
variable {P : Program} {w : World} {K : PySem.W.Frag} {mg : Str → Option Value} {base : Heap}

def spLaw (K : PySem.W.Frag) : Sp := fun vs H Q _ => ∃ (a : Addr) (ns : List Int), vs = [.ref a] ∧ SqL K H a (ns.map V.int) ∧ ns.length ≤ 63 ∧ ∀ H', Q (.bl true) H'
set_option maxHeartbeats 2000000 in
theorem ok_law {f fN fU fTu fAu fIr fTk fDk fD fS fPl fNu fId fAy fOo fRp fNr : Addr} {fd dN dU dTu dAu dIr dTk dDk dD dS dPl dNu dId dAy dOo dRp dNr : FuncData} (F : Fun K "law" "law" sLaw f fd) (T : Tx K mg fN fU fTu fAu fIr fTk fDk fD fS fPl fNu fId fAy fOo fRp fNr dN dU dTu dAu dIr dTk dDk dD dS dPl dNu dId dAy dOo dRp dNr) :
    FnG P w K mg base 9 f fd ["_law_script"] (spLaw K) := by
  have GDk : FnOk P w K mg base CX0 1 fDk dDk ["_law_script"] (spDeck K) := ok_deck T.Dk T.m_abs
  have GS : FnOk P w K mg base CX0 2 fS dS ["_law_deck_here", "_law_drawers", "_law_kinds", "_law_most"] spStock := ok_stock T.S T
  have GPl : FnOk P w K mg base CX0 2 fPl dPl ["_law_deck_here", "_law_stock_here"] spLPlan := ok_lplan T.Pl T
  have GAy : FnOk P w K mg base CX0 2 fAy dAy ["_law_deck_here", "_law_stock_here", "_law_plan_here"] spAny := ok_any (k := 0) T.Ay T
  have GO : FnOk P w K mg base CX0 2 fOo dOo ["_law_deck_here"] spOdd := ok_odd (k := 0) T.Oo T
  have GRp : FnOk P w K mg base CX0 6 fRp dRp ["_law_deck_here", "_law_value", "_law_depth"] (spRp 3) := ok_repl (k := 0) T 3
  have GNr : FnOk P w K mg base CX0 2 fNr dNr ["_law_deck_here", "_law_draw_here"] spNear := ok_near (k := 0) T.Nr T
  have GIr : FnOk P w K mg base CX0 5 fIr dIr ["stock", "plan", "value"] spIrD := ok_irD (k := 0) T.Ir T
  have GId : FnOk P w K mg base CX0 2 fId dId ["_law_stock_here", "_law_plan_here", "_law_value"] spIrD := ok_idD (k := 0) T.Id T
  refine fnG_of F scLaw (fun vs H Q E h => ?_) (fun cdv A hgu outer s H vs Q E hr h => ?_)
  · obtain ⟨a, ns, rfl, _⟩ := h
    rfl
  · obtain ⟨a, ns, rfl, hS, hlen, q⟩ := h
    have hu : (A.deeper (envOfC "law" (defScope sLaw) s.heap.objs.size f cdv)).units + 66 < cLine := by
      have := hr.un
      omega
    refine ⟨_, (pss_cons (ps_set (i := 1) scLaw.nd rfl (.inr rfl) (pe_call GDk (hr.mono (by omega)) (by rfl) T.gDk T.Dk.kp T.bDk .nil pass0 (pa_cons (pv 0) pa_nil)))
      (pss_cons (ps_for PassesOwn.never rfl (pi_range1 (by rfl) T.m_range (pa_cons pe_int pa_nil)) (pg_name (i := 2) scLaw.nd rfl (Or.inl rfl)) (pss_cons (ps_set (i := 3) scLaw.nd rfl (.inl rfl) (pe_call GS (hr.mono (by omega)) (by rfl) T.gS T.S.kp T.bS .nil pass0 (pa_cons (pv 1) (pa_cons pe_int (pa_cons pe_int (pa_cons (pe_ix (show IxR _ (rIxL K) from ix_list) (pe_lst (pa_cons pe_int (pa_cons pe_int pa_nil))) (pe_op op_modN (pv 2) pe_int) (fun _ _ => rfl)) pa_nil))))))
      (pss_cons (ps_set (i := 4) scLaw.nd rfl (.inl rfl) (pe_call GPl (hr.mono (by omega)) (by rfl) T.gPl T.Pl.kp T.bPl .nil pass0 (pa_cons (pv 1) (pa_cons (pv 3) pa_nil))))
      (pss_cons (ps_asg (pe_tup (pa_cons (pe_call GAy (hr.mono (by omega)) (by rfl) T.gAy T.Ay.kp T.bAy .nil pass0 (pa_cons (pv 1) (pa_cons (pv 3) (pa_cons (pv 4) pa_nil)))) (pa_cons (pe_call GAy (hr.mono (by omega)) (by rfl) T.gAy T.Ay.kp T.bAy .nil pass0 (pa_cons (pv 1) (pa_cons (pv 3) (pa_cons (pe_call GPl (hr.mono (by omega)) (by rfl) T.gPl T.Pl.kp T.bPl .nil pass0 (pa_cons (pv 1) (pa_cons (pv 3) pa_nil))) pa_nil)))) pa_nil))) (pg_tup rfl (pgs_cons (pg_name (i := 5) scLaw.nd rfl (Or.inr rfl)) (pgs_cons (pg_name (i := 6) scLaw.nd rfl (Or.inl rfl)) pgs_nil))))
      (pss_cons (ps_set (i := 7) scLaw.nd rfl (.inl rfl) (pe_lst (pa_cons (pv 5) (pa_cons (pv 6) (pa_cons (pv 3) (pa_cons (pe_tup pa_nil) (pa_cons pe_non (pa_cons (pe_call GO (hr.mono (by omega)) (by rfl) T.gOo T.Oo.kp T.bOo .nil pass0 (pa_cons (pv 1) pa_nil)) (pa_cons (pe_callTy call_tuple_of (by rfl) T.m_tuple (by decide +kernel) (pa_cons (pe_op op_rep (pe_lst (pa_cons (pe_op op_repQ (pe_tup (pa_cons pe_int pa_nil)) (pe_callB call_len_seq (by rfl) T.m_len PySem.boot_len (pa_cons (pe_ix (show IxR _ (rIxT K) from ix_tup) (pv 3) pe_int (fun _ _ => rfl)) pa_nil))) pa_nil)) (pe_callB call_len_seq (by rfl) T.m_len PySem.boot_len (pa_cons (pv 3) pa_nil))) pa_nil)) pa_nil)))))))))
      (pss_cons (ps_set (i := 7) scLaw.nd rfl (.inl rfl) (pe_op op_cat (pe_op op_cat (pv 7) (pe_call GNr (hr.mono (by omega)) (by rfl) T.gNr T.Nr.kp T.bNr .nil pass0 (pa_cons (pv 1) (pa_cons (pv 5) pa_nil)))) (pe_call GNr (hr.mono (by omega)) (by rfl) T.gNr T.Nr.kp T.bNr .nil pass0 (pa_cons (pv 1) (pa_cons (pv 6) pa_nil)))))
      (pss_cons (ps_set (i := 7) scLaw.nd rfl (.inl rfl) (pe_op op_cat (pv 7) (pe_lc (own := [("_law_k", 10)]) (g := gName 10) rfl scLaw.nd (pi_range1 (by rfl) T.m_range (pa_cons pe_int pa_nil)) (blkOk_by (own := [("_law_k", 10)]) (N := NL) (sc := defScope sLaw) (by decide +kernel)) (fun _ _ _ _ _ => (pg_name (i := 10) scLaw.nd rfl (Or.inl rfl))) (fun _ _ _ _ _ => pts_nil) (fun _ _ _ _ _ => (pe_call GRp (hr.mono (by omega)) (by rfl) T.gRp T.Rp.kp T.bRp .nil pass0 (pa_cons (pv 1) (pa_cons (pv 5) (pa_cons pe_int pa_nil))))))))
      (pss_cons (ps_expr (pe_bm PySem.F.plainAttrs_list PySem.F.slot_list_append PySem.F.type_list_append mt_append (pv 7) (pa_cons (pe_callTy call_tuple_of (by rfl) T.m_tuple (by decide +kernel) (pa_cons (pe_lc (own := [("_law_row", 11)]) (g := gName 11) rfl scLaw.nd (pi_tup (pv 5)) (blkOk_by (own := [("_law_row", 11)]) (N := NL) (sc := defScope sLaw) (by decide +kernel)) (fun _ _ _ _ _ => (pg_name (i := 11) scLaw.nd rfl (Or.inl rfl))) (fun _ _ _ _ _ => pts_nil) (fun _ _ _ _ _ => (pe_callTy (T := "tuple") (show CallR _ _ (rTupQ K) from call_tuple_of) (by rfl) T.m_tuple (by decide +kernel) (by exact (pa_cons (pe_lc (own := [("_law_count", 12)]) (g := gName 12) rfl scLaw.nd (show PI _ _ _ (iTup K (tVar 11)) from pi_tup (pv 11)) (blkOk_by (own := [("_law_count", 12)]) (N := NL) (sc := scRow) (by decide +kernel)) (fun _ _ _ _ _ => (pg_name (i := 12) scLaw.nd rfl (Or.inl rfl))) (fun _ _ _ _ _ => pts_nil) (fun _ _ _ _ _ => (pe_ix (show IxR _ (rIxL K) from ix_list) (pe_lst (pa_cons (pv 12) (pa_cons (pe_cmpR op_eq (pv 12) pe_int (nomark _)) pa_nil))) (pe_callTy call_int1 (by rfl) T.m_int (by decide +kernel) (pa_cons (pe_cmpR op_lt (pv 12) pe_int (nomark _)) pa_nil)) (fun _ _ => rfl)))) pa_nil))))) pa_nil)) pa_nil)))
      (pss_one (ps_for PassesOwn.never rfl (pi_list (pv 7)) (pg_name (i := 8) scLaw.nd rfl (Or.inl rfl)) (pss_cons (ps_set (i := 9) scLaw.nd rfl (.inl rfl) (pe_callB (call_reprL hgu hu) (by rfl) T.m_repr (by decide +kernel) (pa_cons (pe_lstN (pa_cons (pv 3) (pa_cons (pv 4) (pa_cons (pv 8) pa_nil)))) pa_nil)))
      (pss_cons (ps_if (pt_cmpR op_ne (pe_callB (call_reprQ hgu hu) (by rfl) T.m_repr (by decide +kernel) (pa_cons (pe_call GIr (hr.mono (by omega)) (by rfl) T.gIr T.Ir.kp T.bIr .nil pass0 (pa_cons (pv 3) (pa_cons (pv 4) (pa_cons (pv 8) pa_nil)))) pa_nil)) (pe_callB (call_reprQ hgu hu) (by rfl) T.m_repr (by decide +kernel) (pa_cons (pe_call GId (hr.mono (by omega)) (by rfl) T.gId T.Id.kp T.bId .nil pass0 (pa_cons (pv 3) (pa_cons (pv 4) (pa_cons (pv 8) pa_nil)))) pa_nil)) (nomark _)) (pss_one (ps_ret pe_bl)) pss_nil)
      (pss_one (ps_if (pt_cmpR op_ne (pe_callB (call_reprL hgu hu) (by rfl) T.m_repr (by decide +kernel) (pa_cons (pe_lstN (pa_cons (pv 3) (pa_cons (pv 4) (pa_cons (pv 8) pa_nil)))) pa_nil)) (pv 9) (nomark _)) (pss_one (ps_ret pe_bl)) pss_nil))))))))))))))
      (pss_one (ps_ret pe_bl)))), ?_⟩
    refine ⟨.ref a, rfl, a, ns, rfl, hS, hlen, fun dk c H1 s1 ndk nc d1 => ?_⟩
    refine ⟨10, rfl, by decide, by decide, ?_⟩
    refine for_range (lo := 0) (n := 10) (fun i σ H' => ∃ y2 y3 y4 y5 y6 y7 y8 y9 : Option V, σ = [some (.ref a), some (.ref dk), y2, y3, y4, y5, y6, y7, y8, y9, none, none, none] ∧ Deck H' dk c (i * 5000))
      ⟨_, _, _, _, _, _, _, _, rfl, d1⟩ (fun i σ H2 hi h => ?_) (fun σ H2 h => ?_)
    · obtain ⟨y2, y3, y4, y5, y6, y7, y8, y9, rfl, d2⟩ := h
      obtain ⟨z2, hz2, ez2⟩ := mod_at (a := 5) (b := 50) i
      have hz : 1 ≤ z2 ∧ z2 ≤ 50 := by rcases hz2 with rfl | rfl <;> decide
      refine ⟨_, rfl, by show 2 ≤ sizeLine; decide, fun l1 nl1 => ?_⟩
      have dl1 := d2.kp (o := .lst [.int 5, .int 50]) nl1
      refine ⟨_, rfl, _, 2, rfl, rfl, (by show (2 : Int) ≠ 0; decide), l1, _, _, .int z2, rfl, rfl, SqL.of upd_same, ez2, ?_⟩
      refine ⟨dk, c, i * 5000, 4, 4, z2, rfl, dl1, by decide, by decide, by decide, by decide, by omega, by omega, by omega, fun t ls rows n H3 e1 e2 e3 e4 hrow st3 k3 d3 => ?_⟩
      have hb50 : ∀ r ∈ rows, ∀ x ∈ r, 0 ≤ x ∧ x ≤ 50 := fun r hr x hx => by
        have := (hrow r hr).2 x hx
        omega
      have rb : Rb rows n := ⟨e1, by omega, e3, by omega, fun r hr => ⟨(hrow r hr).1, hb50 r hr⟩⟩
      refine ⟨_, rfl, _, rfl, dk, c, t, _, ls, rows, n, rfl, d3, by omega, st3, rb, fun p ps H4 pl hbd hp k4 d4 => ?_⟩
      have st4 := st3.kp k4 d3
      have hll := st3.len
      -- two draws
      refine ⟨_, rfl, _, rfl, _, rfl, dk, c, t, p, _, ls, rows, ps, n, rfl, d4, by omega, st4, rb, hp, pl, hbd, fun g1 dl1' D1 H5 sd1 di1 k5 d5 => ?_⟩
      have st5 := st4.kp k5 d4
      have hp5 := (TK.kp d4 k5) _ _ hp
      refine ⟨_, rfl, _, rfl, _, rfl, _, rfl, dk, c, t, _, ls, rows, n, rfl, d5, by omega, st5, rb, fun p2 ps2 H6 pl2 hbd2 hp2 k6 d6 => ?_⟩
      have st6 := st5.kp k6 d5
      have hp6 := (TK.kp d5 k6) _ _ hp5
      have sd6 := sd1.tk (TK.kp d5 k6)
      refine ⟨dk, c, t, p2, _, ls, rows, ps2, n, rfl, d6, by omega, st6, rb, hp2, pl2, hbd2, fun g2 dl2' D2 H7 sd2 di2 k7 d7 => ?_⟩
      have st7 := st6.kp k7 d6
      have hp7 := (TK.kp d6 k7) _ _ hp6
      have sd7 := sd6.tk (TK.kp d6 k7)
      refine ⟨by show 2 ≤ sizeLine; decide, fun T8 nT8 => ?_⟩
      have s8 := same_new (o := .tup [.ref g1, .ref g2]) nT8
      refine ⟨T8, [.ref g1, .ref g2], rfl, .inl (.inl upd_same), rfl, .ref g1, [.ref g2], rfl, .ref g2, [], rfl, rfl, ?_⟩
      generalize upd H7 T8 (.tup [V.ref g1, V.ref g2]) = H8 at s8 ⊢
      have st8 := st7.same s8
      have hp8 := s8 _ _ hp7
      have sda := sd7.same s8
      have sdb := sd2.same s8
      have d8 := d7.keep s8
      clear st3 st4 st5 st6 st7 hp hp5 hp6 hp7 hp2 sd1 sd6 sd7 sd2 k3 k4 k5 k6 k7 d3 d4 d5 d6 d7 dl1
      obtain ⟨dn1, dr1⟩ := dr_rows rb di1
      obtain ⟨dn2, dr2⟩ := dr_rows rb di2
      have hR1 : Rw4 D1 := fun r hr => ⟨by have := (dr1 r hr).1; omega, fun x hx => by have := (dr1 r hr).2 x hx; omega⟩
      have hR2 : Rw4 D2 := fun r hr => ⟨by have := (dr2 r hr).1; omega, fun x hx => by have := (dr2 r hr).2 x hx; omega⟩
      have hR0 : Rw4 rows := fun r hr => ⟨by have := (hrow r hr).1; omega, fun x hx => by have := hb50 r hr x hx; omega⟩
      have hX8 := lx0 d8
      -- the first seven
      refine ⟨_, rfl, _, rfl, _, rfl, Nat.zero_le _, fun r2 nr2 => ?_⟩
      have sr2 := same_new (o := .tup []) nr2
      have hr2 : (upd H8 r2 (.tup [])) r2 = some (.tup []) := upd_same
      have mr2 := new_ne hX8 (Same.refl _) nr2
      generalize upd H8 r2 (.tup []) = Hb at sr2 hr2 ⊢
      have db := d8.keep sr2
      have hXb := lx0 db
      refine ⟨_, rfl, X0 dk c, dk, c, _, rfl, hXb, db, by omega, fun ov od Hc hod kc dc hoq => ?_⟩
      have tkc : TK H8 Hc := (TK.same sr2).trans (TK.kp db kc)
      have hXc := lx0 dc
      have stc := st8.tk tkc
      have hl0 := getD_of (d := 0) (show 0 < ls.length by omega)
      have hr0 := getD_of (d := ([] : List Int)) e1
      have g0 : (ls.map V.ref)[0]? = some (.ref (ls.getD 0 0)) := by
        rw [List.getElem?_map, hl0]
        rfl
      have hrl0 := (hrow _ (List.mem_of_getElem? hr0)).1
      refine ⟨by show 1 ≤ sizeLine; decide, fun a3 na3 => ?_⟩
      have sa3 := same_new (o := .tup [.int 0]) na3
      have ha3 : (upd Hc a3 (.tup [V.int 0])) a3 = some (.tup [.int 0]) := upd_same
      generalize upd Hc a3 (.tup [V.int 0]) = Hd at sa3 ha3 ⊢
      refine ⟨_, rfl, t, _, 0, .ref (ls.getD 0 0), rfl, rfl, SqT.of (sa3 _ _ stc.top), atI_nat (j := 0) g0, ls.getD 0 0, _, rfl, .inr (SqT.of (sa3 _ _ (stc.row 0 _ _ hl0 hr0))), ?_⟩
      rw [List.length_map, hrl0]
      refine ⟨a3, (n : Int), [.int 0], rfl, rfl, ha3, (fun z => nomatch z), by omega, by omega, by decide, fun z4 He se hz4 => ?_⟩
      have hz4 : He z4 = some (.tup ((List.replicate n (0 : Int)).map V.int)) := by
        rw [hz4, Int.toNat_natCast]
        have e1 : ∀ m : Nat, (List.replicate m [V.int 0]).flatten = (List.replicate m (0 : Int)).map V.int := fun m => by
          induction m with
          | zero => rfl
          | succ m ih =>
            rw [List.replicate_succ, List.flatten_cons, ih, List.replicate_succ]
            rfl
        rw [e1]
      have sce := sa3.trans se
      refine ⟨by show 1 ≤ sizeLine; decide, fun l5 nl5 => ?_⟩
      have s5 := same_new (o := .lst [.ref z4]) nl5
      have hl5 : (upd He l5 (.lst [V.ref z4])) l5 = some (.lst [.ref z4]) := upd_same
      generalize upd He l5 (.lst [V.ref z4]) = Hf at s5 hl5 ⊢
      have scf := sce.trans s5
      refine ⟨_, rfl, t, _, rfl, .inr (SqT.of (scf _ _ stc.top)), ?_⟩
      refine ⟨l5, (rows.length : Int), [.ref z4], rfl, congrArg (fun x : Nat => V.int (x : Int)) (by rw [List.length_map, hll]), hl5, by omega, by omega, ?_, fun l6 nl6 => ?_⟩
      · rw [Int.toNat_natCast]
        exact Nat.le_of_lt (len_lt (by show 1 * rows.length ≤ 1000; omega))
      rw [Int.toNat_natCast]
      have s6 := same_new (o := .lst (List.replicate rows.length [V.ref z4]).flatten) nl6
      have hl6 : (upd Hf l6 (.lst (List.replicate rows.length [V.ref z4]).flatten)) l6 = some (.lst (List.replicate rows.length [V.ref z4]).flatten) := upd_same
      generalize upd Hf l6 (.lst (List.replicate rows.length [V.ref z4]).flatten) = Hg at s6 hl6 ⊢
      refine ⟨l6, _, rfl, .inl ⟨SqL.of hl6, fun z7 nz7 => ?_⟩⟩
      have s7 := same_new (o := .tup (List.replicate rows.length [V.ref z4]).flatten) nz7
      have hz7 : (upd Hg z7 (.tup (List.replicate rows.length [V.ref z4]).flatten)) z7 = some (.tup (List.replicate rows.length [V.ref z4]).flatten) := upd_same
      generalize upd Hg z7 (.tup (List.replicate rows.length [V.ref z4]).flatten) = Hh at s7 hz7 ⊢
      have sch := scf.trans (s6.trans s7)
      have hz4h := (s5.trans (s6.trans s7)) _ _ hz4
      refine ⟨by show 7 ≤ sizeLine; decide, fun L1 nL1 => ?_⟩
      have sL1 := same_new (o := .lst [.ref g1, .ref g2, .ref t, .ref r2, .non, ov, .ref z7]) nL1
      have hL1 : (upd Hh L1 (.lst [V.ref g1, .ref g2, .ref t, .ref r2, .non, ov, .ref z7])) L1 = some (.lst [.ref g1, .ref g2, .ref t, .ref r2, .non, ov, .ref z7]) := upd_same
      have scL := sch.trans sL1
      have dL := dc.keep scL
      have hXL := lx0 dL
      have lne1 := (dc.keep sch).nedk nL1
      have stL := stc.same scL
      have sdaL := (sda.tk tkc).same scL
      have sdbL := (sdb.tk tkc).same scL
      have hpL := scL _ _ (tkc _ _ hp8)
      have hr2L := scL _ _ ((TK.kp db kc) _ _ hr2)
      have vs0 : Vs (X0 dk c) (upd Hh L1 (.lst [V.ref g1, .ref g2, .ref t, .ref r2, .non, ov, .ref z7])) L1 [.ref g1, .ref g2, .ref t, .ref r2, .non, ov, .ref z7] [stockD D1, stockD D2, stockD rows, .tuple [], .none, od, stockD (List.replicate rows.length (List.replicate n 0))] := by
        refine ⟨hL1, .cons (stock_dq hXL sdaL) (.cons (stock_dq hXL sdbL) (.cons (stock_dq hXL stL) (.cons (.tup (wo_of hr2L (tup_ne hXL (Same.refl _) hr2L)) .nil) (.cons .non (.cons (Dq.same (wo_same scL) _ _ hoq) (.cons (zero_rows (sL1 _ _ hz4h) (sL1 _ _ hz7) (tup_ne hXL (Same.refl _) (sL1 _ _ hz4h)) (tup_ne hXL (Same.refl _) (sL1 _ _ hz7))) .nil)))))), fun d hd => ?_⟩
        simp only [List.mem_cons, List.not_mem_nil, or_false] at hd
        rcases hd with rfl | rfl | rfl | rfl | rfl | rfl | rfl
        · exact rw4_tup hR1 (by omega)
        · exact rw4_tup hR2 (by omega)
        · exact rw4_tup hR0 (by omega)
        · exact (ints_ok (fun y hy => by cases hy) (by decide)).1
        · exact ⟨bd_of (by decide +kernel), fun z => by cases z⟩
        · exact ⟨(val_odd hod).1.up (by decide) (by decide), (val_odd hod).2⟩
        · refine rw4_tup (fun r hr => ?_) (by rw [List.length_replicate]; omega)
          rw [(List.mem_replicate.mp hr).2]
          exact ⟨by rw [List.length_replicate]; omega, fun x hx => by rw [(List.mem_replicate.mp hx).2]; decide⟩
      generalize upd Hh L1 (.lst [V.ref g1, .ref g2, .ref t, .ref r2, .non, ov, .ref z7]) = Hi at vs0 dL hXL stL sdaL sdbL hpL ⊢
      clear hoq hz7 hz4 hz4h hl5 hl6 sch scf sce s5 s6 s7 sL1 scL hL1 hr2L ha3
      obtain ⟨x7, hx7⟩ : ∃ xs : List V, xs = [V.ref g1, .ref g2, .ref t, .ref r2, .non, ov, .ref z7] := ⟨_, rfl⟩
      rw [← hx7] at vs0
      have hxl7 : x7.length = 7 := by rw [hx7]; rfl
      clear hx7
      generalize [stockD D1, stockD D2, stockD rows, .tuple [], .none, od, stockD (List.replicate rows.length (List.replicate n 0))] = b7 at vs0
      have dat1 : ∀ {H' : Hp}, StockAt H' g1 dl1' D1 → DrAt H' g1 dl1' D1 n := fun st => ⟨st, by omega, by omega, e3, by omega, dr1⟩
      have dat2 : ∀ {H' : Hp}, StockAt H' g2 dl2' D2 → DrAt H' g2 dl2' D2 n := fun st => ⟨st, by omega, by omega, e3, by omega, dr2⟩
      -- near, twice
      refine ⟨_, rfl, _, rfl, _, rfl, X0 dk c, dk, c, g1, _, dl1', D1, n, rfl, hXL, dL, by omega, dat1 sdaL, fun L2 x9 b9 Hj kj dj h2 m2 q2 l2 o2 => ?_⟩
      have vsj := vs0.kp hXL lne1.1 lne1.2 kj
      refine ⟨L1, L2, x7, x9, rfl, rfl, vsj.top, h2, by rw [hxl7, l2]; show 16 ≤ sizeLine; decide, fun M1 nM1 => ?_⟩
      have vs1 := vsj.cat q2 o2 nM1
      have sM1 := same_new (o := .lst (x7 ++ x9)) nM1
      have mne1 := dj.nedk nM1
      have dM1 := dj.kp (o := .lst (x7 ++ x9)) nM1
      have tk1 : TK Hi (upd Hj M1 (.lst (x7 ++ x9))) := (TK.kp dL kj).trans (TK.same sM1)
      have hl16 : (x7 ++ x9).length = 16 := by rw [List.length_append, hxl7, l2]
      generalize x7 ++ x9 = x16 at vs1 dM1 tk1 hl16 sM1 ⊢
      generalize b7 ++ b9 = b16 at vs1
      generalize upd Hj M1 (.lst x16) = Hk at vs1 dM1 tk1 sM1 ⊢
      have hXk := lx0 dM1
      have stk := stL.tk tk1
      have sdak := sdaL.tk tk1
      have sdbk := sdbL.tk tk1
      have hpk := tk1 _ _ hpL
      refine ⟨_, rfl, _, rfl, X0 dk c, dk, c, g2, _, dl2', D2, n, rfl, hXk, dM1, by omega, dat2 sdbk, fun L3 y9 c9 Hl kl dl' h3 m3 q3 l3 o3 => ?_⟩
      have vsl := vs1.kp hXk mne1.1 mne1.2 kl
      refine ⟨M1, L3, x16, y9, rfl, rfl, vsl.top, h3, by rw [hl16, l3]; show 25 ≤ sizeLine; decide, fun M2 nM2 => ?_⟩
      have vs2 := vsl.cat q3 o3 nM2
      have sM2 := same_new (o := .lst (x16 ++ y9)) nM2
      have mne2 := dl'.nedk nM2
      have dM2 := dl'.kp (o := .lst (x16 ++ y9)) nM2
      have tk2 : TK Hk (upd Hl M2 (.lst (x16 ++ y9))) := (TK.kp dM1 kl).trans (TK.same sM2)
      have hl25 : (x16 ++ y9).length = 25 := by rw [List.length_append, hl16, l3]
      generalize x16 ++ y9 = x25 at vs2 dM2 tk2 hl25 sM2 ⊢
      generalize b16 ++ c9 = b25 at vs2
      generalize upd Hl M2 (.lst x25) = Hm at vs2 dM2 tk2 sM2 ⊢
      have hXm := lx0 dM2
      have stm := stk.tk tk2
      have sdam := sdak.tk tk2
      have hpm := tk2 _ _ hpk
      -- the replaced ones
      refine ⟨_, rfl, 8, rfl, by decide, by decide, fun C nC => ?_⟩
      have cne := dM2.nedk nC
      have hLC : M2 ≠ C := fun e => by have := vs2.top; rw [e, nC] at this; cases this
      have pv1 := plain_rows (n := 4) (m := 4) (by omega) hR1
      refine lc_range (lo := 0) (n := 8) (fun m H' => ∃ (cs : List V) (cd : List PyData), H' C = some (.lst cs) ∧ cs.length = m ∧ DqAll (Wo (fun a => X0 dk c a ∨ a = C) H') cs cd ∧ (∀ d ∈ cd, Vok d) ∧ Vs (fun a => X0 dk c a ∨ a = C) H' M2 x25 b25 ∧ StockAt H' t ls rows ∧ StockAt H' g1 dl1' D1 ∧ H' p = some (.tup (ps.map V.int)) ∧ Deck H' dk c (i * 5000 + 3000 + 40 * m) ∧ LX (fun a => X0 dk c a ∨ a = C) dk c H')
        ⟨[], [], upd_same, rfl, .nil, fun d hd => (by cases hd), ⟨by rw [upd_ne hLC]; exact vs2.top, DqAll.same (wo_add nC) _ _ vs2.all, vs2.ok⟩, stm.same (same_new nC), sdam.same (same_new nC), same_new nC _ _ hpm, (dM2.kp nC).up (by omega), hXm.add nC⟩ (fun m H' hm h => ?_) (fun Hh h => ?_)
      · obtain ⟨cs, cd, hC, hcl, hcq, hcok, vs2, st2, sd2, hp2, d2', hX2⟩ := h
        have dpp : Dq (Wo (fun a => X0 dk c a ∨ a = C) H') (.ref g1) (stockD D1) := stock_dq hX2 sd2
        refine ⟨rfl, _, rfl, _, rfl, fun a => X0 dk c a ∨ a = C, dk, c, _, .ref g1, stockD D1, 4 * (4 * 13 + 1), 2, rfl, hX2, d2', by omega, dpp, pv1, by decide, by decide, by decide, fun v' dv Hi' bv nv kv dvk qv => ?_⟩
        have hC2 := kv _ _ cne.1 cne.2 hC
        have hX3 := hX2.kp kv dvk
        have upk := wo_kp hX2 kv
        have tkv := (TK.kp d2' kv).trans (TK.lst (o := .lst (cs ++ [v'])) hC2)
        refine ⟨cs, hC2, by rw [hcl]; exact len_lt (by omega), cs ++ [v'], cd ++ [dv], upd_same, by rw [List.length_append, hcl]; rfl, DqAll.same (wo_upd (.inr rfl)) _ _ ((DqAll.same upk _ _ hcq).app (.cons qv .nil)), fun d hd => ?_, ⟨?_, DqAll.same (upk.trans (wo_upd (.inr rfl))) _ _ vs2.all, vs2.ok⟩, st2.tk tkv, sd2.tk tkv, tkv _ _ hp2, (dvk.updD cne.1 cne.2).up (by omega), hX3.upd⟩
        · rcases List.mem_append.mp hd with h | h
          · exact hcok d h
          · rw [List.mem_singleton.mp h]
            exact ⟨bv.up (by decide) (by decide), nv⟩
        · rw [upd_ne hLC]
          exact kv _ _ mne2.1 mne2.2 vs2.top
      · obtain ⟨cs, cd, hC, hcl, hcq, hcok, vs3, st3, sd3, hp3, d3, hX3⟩ := h
        refine ⟨M2, C, x25, cs, rfl, rfl, vs3.top, hC, by rw [hl25, hcl]; show 33 ≤ sizeLine; decide, fun M nM => ?_⟩
        have vs4 := vs3.cat hcq hcok nM
        have sM := same_new (o := .lst (x25 ++ cs)) nM
        have mne := d3.nedk nM
        have d4 := d3.kp (o := .lst (x25 ++ cs)) nM
        have st4 := st3.same sM
        have sd4 := sd3.same sM
        have hp4 := sM _ _ hp3
        have hl33 : (x25 ++ cs).length = 33 := by rw [List.length_append, hl25, hcl]
        have all4 : DqAll (Wo (fun a => X0 dk c a ∨ a = M) (upd Hh M (.lst (x25 ++ cs)))) (x25 ++ cs) (b25 ++ cd) := DqAll.same ((wo_less (X := X0 dk c) (R := C) (H := Hh)).trans (wo_add nM)) _ _ (vs3.all.app hcq)
        have ok4 := vs4.ok
        have hX4 : LX (fun a => X0 dk c a ∨ a = M) dk c (upd Hh M (.lst (x25 ++ cs))) := (lx0 d3).add nM
        have hM4 : (upd Hh M (.lst (x25 ++ cs))) M = some (.lst (x25 ++ cs)) := upd_same
        clear vs4 vs3 hC hcq hcok hX3
        generalize x25 ++ cs = xs at all4 hX4 hM4 st4 sd4 hp4 d4 hl33 sM ⊢
        generalize b25 ++ cd = bl at all4 ok4
        generalize upd Hh M (.lst xs) = H4 at all4 hX4 hM4 st4 sd4 hp4 d4 sM ⊢
        -- the twin
        have hdl1 := sd4.len
        refine ⟨.ref M, rfl, .inl ⟨rfl, _, SqL.of hM4⟩, ?_⟩
        refine ⟨.ref g1, rfl, g1, rfl, ⟨_, SqT.of sd4.top⟩, fun D nD => ?_⟩
        refine lc_it (walk_tup (xs := dl1'.map V.ref)) (fun i H' => ∃ vs : List V, H' D = some (.lst vs) ∧ vs.length = i ∧ DqAll (Wo (fun b => b = D) (Wo (fun a => X0 dk c a ∨ a = M) H')) vs ((D1.take i).map fun r => PyData.tuple (r.map tw)) ∧ Same H4 H') ⟨[], upd_same, rfl, .nil, same_new nD⟩
          (fun i H' _ h => by obtain ⟨_, _, _, _, s⟩ := h; exact SqT.of (s _ _ sd4.top)) (fun i x H' H9 hi h y => ?_) (fun H' h => ?_)
        · obtain ⟨vs, hD, hvl, hvs, sm⟩ := h
          obtain ⟨rfl, hx⟩ := y
          obtain ⟨l, hl, rfl⟩ := get_map hx
          rw [List.length_map] at hi
          have hil : i < D1.length := by omega
          have hrw : D1[i]? = some D1[i] := List.getElem?_eq_getElem hil
          have hrl := dr1 _ (List.getElem_mem hil)
          have hlr := sm _ _ (sd4.row i l _ hl hrw)
          refine ⟨rfl, .ref l, rfl, l, rfl, ⟨_, SqT.of hlr⟩, fun E2 nD2 => ?_⟩
          have nD2D : E2 ≠ D := (ne_of_none hD nD2).symm
          refine lc_it (walk_tup (xs := D1[i].map V.int)) (fun j H2 => H2 E2 = some (.lst ((D1[i].take j).map twV)) ∧ Same H9 H2) ⟨upd_same, same_new nD2⟩ (fun j H2 _ h => SqT.of (h.2 _ _ hlr)) (fun j x H2 Hq hj h y => ?_) (fun H2 h => ?_)
          · obtain ⟨hD2, s2⟩ := h
            obtain ⟨rfl, hx⟩ := y
            obtain ⟨z, hz, rfl⟩ := get_map hx
            have hz0 := hrl.2 z (List.mem_of_getElem? hz)
            refine ⟨rfl, _, rfl, _, rfl, rfl, by show 2 ≤ sizeLine; decide, fun pp np => ?_⟩
            have nDp : E2 ≠ pp := ne_of_none hD2 np
            refine ⟨_, rfl, _, _, rfl, rfl, .inr ⟨_, rfl, ?_⟩⟩
            have at_ : atI [V.int z, V.bl (decide (V.int z = V.int 1))] (if decide (z < 2) = true then 1 else 0) = some (twV z) := by
              unfold twV
              by_cases c1 : z < 2
              · rw [decide_eq_true c1, if_pos rfl, if_pos c1]
                by_cases c2 : z = 1
                · rw [c2]
                  rfl
                · rw [decide_eq_false c2, decide_eq_false (fun e => c2 (V.int.inj e))]
                  rfl
              · rw [decide_eq_false c1, if_neg Bool.false_ne_true, if_neg c1]
                rfl
            refine ⟨pp, _, _, twV z, rfl, rfl, SqL.of upd_same, at_, _, (by rw [upd_ne nDp]; exact hD2), ?_, ?_, fun b o e => ?_⟩
            · rw [List.length_map, List.length_take]
              exact len_lt (by omega)
            · rw [upd_same, take_succ_map hz]
            · rw [upd_ne (ne_of_none e nD2)]
              exact same_new np _ _ (s2 _ _ e)
          · obtain ⟨hD2, s2⟩ := h
            rw [List.length_map, List.take_length] at hD2
            refine ⟨E2, _, rfl, .inl ⟨SqL.of hD2, fun pp np => ?_⟩⟩
            have s3 : Same H9 (upd H2 pp (.tup (D1[i].map twV))) := s2.trans (same_new np)
            have hD3 := s3 _ _ hD
            have npD : pp ≠ D := fun z => by
              rw [z, upd_same] at hD3
              cases hD3
            have np1 := new_ne hX4 (sm.trans s2) np
            refine ⟨vs, hD3, len_lt (by omega), vs ++ [.ref pp], upd_same, by rw [List.length_append, hvl]; rfl, ?_, fun b o e => ?_⟩
            · have mv : ∀ (H4 : Hp), Same (Wo (fun b => b = D) (Wo (fun a => X0 dk c a ∨ a = M) H4)) (Wo (fun b => b = D) (Wo (fun a => X0 dk c a ∨ a = M) (upd H4 D (.lst (vs ++ [.ref pp]))))) := fun H4 b o e => by
                obtain ⟨e1, b1⟩ := wo_some e
                obtain ⟨e2, b2⟩ := wo_some e1
                exact wo_of (wo_of (by rw [upd_ne b1]; exact e2) b2) b1
              rw [take_succ_map hrw]
              refine (DqAll.same ((wo_same (wo_same s3)).trans (mv _)) _ _ hvs).app (.cons (.tup (xs := D1[i].map twV) (wo_of (wo_of ?_ np1) npD) (dq_tws _)) .nil)
              rw [upd_ne npD, upd_same]
            · rw [upd_ne (ne_of_none e nD)]
              exact s3 _ _ (sm _ _ e)
        · obtain ⟨vs, hD, hvl, hvs, sm⟩ := h
          refine ⟨D, _, rfl, .inl ⟨SqL.of hD, fun pt np => ?_⟩⟩
          have np1 := new_ne hX4 sm np
          rw [List.length_map, hdl1, List.take_length] at hvs
          have s5 := sm.trans (same_new (o := .tup vs) np)
          have dqT : Dq (Wo (fun a => X0 dk c a ∨ a = M) (upd H' pt (.tup vs))) (.ref pt) (twD D1) := .tup (wo_of upd_same np1) (DqAll.same (Same.trans wo_in (wo_same (same_new np))) _ _ hvs)
          have hM5 := s5 _ _ hM4
          have all5 := DqAll.same (wo_same s5) _ _ all4
          have st5 := st4.same s5
          have hp5 := s5 _ _ hp4
          have d5 := d4.keep s5
          generalize upd H' pt (.tup vs) = H5 at s5 dqT hM5 all5 st5 hp5 d5 ⊢
          refine ⟨M, xs, .ref pt, rfl, rfl, hM5, by rw [hl33]; exact len_lt (by decide), ?_⟩
          have hM6 : (upd H5 M (.lst (xs ++ [.ref pt]))) M = some (.lst (xs ++ [.ref pt])) := upd_same
          have all6 : DqAll (upd H5 M (.lst (xs ++ [.ref pt]))) (xs ++ [.ref pt]) (bl ++ [twD D1]) := DqAll.same ((wo_upd (X := fun a => X0 dk c a ∨ a = M) (.inr rfl)).trans wo_in) _ _ (all5.app (.cons dqT .nil))
          have ok6 : ∀ d ∈ bl ++ [twD D1], Vok d := fun d hd => (List.mem_append.mp hd).elim (ok4 d) fun h => by
            rw [List.mem_singleton.mp h]
            exact twd_ok (by omega) fun r hr => ⟨by have := (dr1 r hr).1; omega, fun x hx => by have := (dr1 r hr).2 x hx; omega⟩
          have st6 := st5.tk (TK.lst (o := .lst (xs ++ [.ref pt])) hM5)
          have hp6 := TK.lst (o := .lst (xs ++ [.ref pt])) hM5 _ _ hp5
          have d6 := d5.updD (o := .lst (xs ++ [.ref pt])) mne.1 mne.2
          generalize xs ++ [.ref pt] = zs at hM6 all6 st6 hp6 d6 ⊢
          generalize bl ++ [twD D1] = zd at all6 ok6
          generalize upd H5 M (.lst zs) = H6 at hM6 all6 st6 hp6 d6 ⊢
          refine ⟨_, rfl, M, rfl, ⟨_, SqL.of hM6⟩, ?_⟩
          refine for_it (walk_list (xs := zs)) (fun m σ H' => ∃ y8 y9 : Option V, σ = [some (.ref a), some (.ref dk), some (.int ((0 : Int) + (i : Nat))), some (.ref t), some (.ref p), some (.ref g1), some (.ref g2), some (.ref M), y8, y9, none, none, none] ∧ Same H6 H')
            ⟨_, _, rfl, Same.refl _⟩ (fun m σ H' _ h => by obtain ⟨_, _, _, sm⟩ := h; exact SqL.of (sm _ _ hM6)) (fun m x σ H' H2 hm h y => ?_) (fun σ Hn h => ?_)
          · obtain ⟨y8, y9, rfl, sm⟩ := h
            obtain ⟨rfl, hx⟩ := y
            obtain ⟨dx, hdx, hqx⟩ := all6.get hx
            obtain ⟨bx, nx⟩ := ok6 dx (List.mem_of_getElem? hdx)
            have pvt := plain_rows (n := 4) (m := 4) (rows := rows) (by omega) hR0
            have hps : ∀ x ∈ ps, -1000 ≤ x ∧ x ≤ 1000 := fun x hx => by
              obtain ⟨j, hj⟩ := List.mem_iff_getElem?.mp hx
              have hjl := (List.getElem?_eq_some_iff.mp hj).1
              have h1 := hbd j (by omega)
              have h2 := rb.at_ (show j < rows.length by omega)
              have e : ps.getD j 0 = x := by rw [List.getD_eq_getElem?_getD, hj]; rfl
              omega
            have pvp := plain_row (n := 4) (r := ps) (by omega) hps
            have hpt := (plain_ok _ pvt.pl).2.2.2
            have hpp := (plain_ok _ pvp.pl).2.2.2
            have gd2 : GdL [stockD rows, rowD ps, dx] := gdl_of (x := dx) (fun d hd => by
              simp only [List.mem_cons, List.not_mem_nil, or_false] at hd
              rcases hd with rfl | rfl | rfl
              · exact pvt.bd.up (by decide) (by decide)
              · exact pvp.bd.up (by decide) (by decide)
              · exact bx) (by show 3 ≤ 5; decide) nx (fun d hd => by
              simp only [List.mem_cons, List.not_mem_nil, or_false] at hd
              rcases hd with rfl | rfl | rfl
              · exact .inr hpt
              · exact .inr hpp
              · exact .inl rfl)
            have data : ∀ {H' : Hp}, Same H6 H' → DqAll H' [.ref t, .ref p, x] [stockD rows, rowD ps, dx] := fun {H'} s => .cons (Dq.same wo_in _ _ (stock_dq (X := X0 dk c) (lx0 (d6.keep s)) (st6.same s))) (.cons (.tup (s _ _ hp6) (dq_ints _)) (.cons (Dq.same s _ _ hqx) .nil))
            refine ⟨_, rfl, _, rfl, _, rfl, by show 3 ≤ sizeLine; decide, fun q1 nq1 hq1 => ?_⟩
            have t1 := sm.trans (same_new (o := .lst [.ref t, .ref p, x]) nq1)
            refine ⟨q1, _, _, rfl, hq1, upd_same, data t1, gd2, ?_⟩
            generalize upd H2 q1 (.lst [.ref t, .ref p, x]) = Hp at t1 ⊢
            have hrl9 : ∀ r ∈ rows, r.length ≤ 900 := fun r hr => by have := (hrow r hr).1; omega
            refine ⟨_, rfl, _, rfl, _, rfl, t, p, x, dx, ls, rows, ps, rfl, st6.same t1, by omega, hrl9, t1 _ _ hp6, pl, Dq.same t1 _ _ hqx, fun H11 s11 => ?_⟩
            refine ⟨_, _, rfl, .bl _, gd_bl _, ?_⟩
            have t2 := t1.trans s11
            refine ⟨_, rfl, _, rfl, _, rfl, t, p, x, dx, ls, rows, ps, rfl, st6.same t2, by omega, hrl9, t2 _ _ hp6, pl, Dq.same t2 _ _ hqx, fun H12 s12 => ?_⟩
            refine ⟨_, _, rfl, .bl _, gd_bl _, ?_⟩
            have t3 := t2.trans s12
            refine ⟨rfl, _, rfl, ?_⟩
            rw [decide_eq_true rfl]
            refine iteNx rfl ?_
            refine ⟨_, rfl, _, rfl, _, rfl, by show 3 ≤ sizeLine; decide, fun q2 nq2 hq2 => ?_⟩
            have t4 := t3.trans (same_new (o := .lst [.ref t, .ref p, x]) nq2)
            refine ⟨q2, _, _, rfl, hq2, upd_same, data t4, gd2, ?_⟩
            refine ⟨_, rfl, rfl, _, rfl, ?_⟩
            rw [decide_eq_true rfl]
            exact iteNx rfl ⟨_, _, rfl, t4⟩
          · obtain ⟨y8, y9, rfl, sm⟩ := h
            exact ⟨_, _, _, _, _, _, _, _, rfl, (d6.keep sm).up (by omega)⟩
    · obtain ⟨y2, y3, y4, y5, y6, y7, y8, y9, rfl, d2⟩ := h
      exact q _
end
end DD
namespace DD
open PySem PySem.Spec PyProof.Rows L2
set_option maxHeartbeats 0 in
theorem all_mk {l : PySem.W.OpenLaw} {w : World} {K : PySem.W.Frag} {h : Heap} {mg : Str → Option Value} {fa f1 f2 f3 f4 f5 f6 f7 f8 f9 f10 f11 f12 f13 f14 f15 f16 f17 : Addr} (kin : K.In h) (nsG : h.Ns mainGlobals mg) (hfa : mg "law" = some (.ref fa))
    {od1 an1 : Option Addr} {sl1 : Array (Option Value)} {oc1 kV1 dc1 pm1 cd1 ct1 : Value}
    {od2 an2 : Option Addr} {sl2 : Array (Option Value)} {oc2 kV2 dc2 pm2 cd2 ct2 : Value}
    {od3 an3 : Option Addr} {sl3 : Array (Option Value)} {oc3 kV3 dc3 pm3 cd3 ct3 : Value}
    {od4 an4 : Option Addr} {sl4 : Array (Option Value)} {oc4 kV4 dc4 pm4 cd4 ct4 : Value}
    {od5 an5 : Option Addr} {sl5 : Array (Option Value)} {oc5 kV5 dc5 pm5 cd5 ct5 : Value}
    {od6 an6 : Option Addr} {sl6 : Array (Option Value)} {oc6 kV6 dc6 pm6 cd6 ct6 : Value}
    {od7 an7 : Option Addr} {sl7 : Array (Option Value)} {oc7 kV7 dc7 pm7 cd7 ct7 : Value}
    {od8 an8 : Option Addr} {sl8 : Array (Option Value)} {oc8 kV8 dc8 pm8 cd8 ct8 : Value}
    {od9 an9 : Option Addr} {sl9 : Array (Option Value)} {oc9 kV9 dc9 pm9 cd9 ct9 : Value}
    {od10 an10 : Option Addr} {sl10 : Array (Option Value)} {oc10 kV10 dc10 pm10 cd10 ct10 : Value}
    {od11 an11 : Option Addr} {sl11 : Array (Option Value)} {oc11 kV11 dc11 pm11 cd11 ct11 : Value}
    {od12 an12 : Option Addr} {sl12 : Array (Option Value)} {oc12 kV12 dc12 pm12 cd12 ct12 : Value}
    {od13 an13 : Option Addr} {sl13 : Array (Option Value)} {oc13 kV13 dc13 pm13 cd13 ct13 : Value}
    {od14 an14 : Option Addr} {sl14 : Array (Option Value)} {oc14 kV14 dc14 pm14 cd14 ct14 : Value}
    {od15 an15 : Option Addr} {sl15 : Array (Option Value)} {oc15 kV15 dc15 pm15 cd15 ct15 : Value}
    {od16 an16 : Option Addr} {sl16 : Array (Option Value)} {oc16 kV16 dc16 pm16 cd16 ct16 : Value}
    {od17 an17 : Option Addr} {sl17 : Array (Option Value)} {oc17 kV17 dc17 pm17 cd17 ct17 : Value}
    (a1 : PySem.W.nsIn K mainGlobals "is_number" = some (some (.ref f1)))
    (l1 : K.lookup f1 = some ⟨oc1, od1, .func (PySem.W.fnOf "is_number" "is_number" (defArgs sIsNum) (defBody sIsNum) (defScope sIsNum) .none kV1 dc1 pm1 an1 cd1 ct1), sl1⟩)
    (c1 : PySem.W.codeIn K cd1 "is_number" = true)
    (k1 : PySem.W.keepIn K (.ref f1) = true)
    (a2 : PySem.W.nsIn K mainGlobals "is_number_up_to" = some (some (.ref f2)))
    (l2 : K.lookup f2 = some ⟨oc2, od2, .func (PySem.W.fnOf "is_number_up_to" "is_number_up_to" (defArgs sUpTo) (defBody sUpTo) (defScope sUpTo) .none kV2 dc2 pm2 an2 cd2 ct2), sl2⟩)
    (c2 : PySem.W.codeIn K cd2 "is_number_up_to" = true)
    (k2 : PySem.W.keepIn K (.ref f2) = true)
    (a3 : PySem.W.nsIn K mainGlobals "is_tuple_of" = some (some (.ref f3)))
    (l3 : K.lookup f3 = some ⟨oc3, od3, .func (PySem.W.fnOf "is_tuple_of" "is_tuple_of" (defArgs sTupOf) (defBody sTupOf) (defScope sTupOf) .none kV3 dc3 pm3 an3 cd3 ct3), sl3⟩)
    (c3 : PySem.W.codeIn K cd3 "is_tuple_of" = true)
    (k3 : PySem.W.keepIn K (.ref f3) = true)
    (a4 : PySem.W.nsIn K mainGlobals "are_numbers_up_to" = some (some (.ref f4)))
    (l4 : K.lookup f4 = some ⟨oc4, od4, .func (PySem.W.fnOf "are_numbers_up_to" "are_numbers_up_to" (defArgs sNumsUp) (defBody sNumsUp) (defScope sNumsUp) .none kV4 dc4 pm4 an4 cd4 ct4), sl4⟩)
    (c4 : PySem.W.codeIn K cd4 "are_numbers_up_to" = true)
    (k4 : PySem.W.keepIn K (.ref f4) = true)
    (a5 : PySem.W.nsIn K mainGlobals "is_draw" = some (some (.ref f5)))
    (l5 : K.lookup f5 = some ⟨oc5, od5, .func (PySem.W.fnOf "is_draw" "is_draw" (defArgs sIsDr) (defBody sIsDr) (defScope sIsDr) .none kV5 dc5 pm5 an5 cd5 ct5), sl5⟩)
    (c5 : PySem.W.codeIn K cd5 "is_draw" = true)
    (k5 : PySem.W.keepIn K (.ref f5) = true)
    (a6 : PySem.W.nsIn K mainGlobals "is_taken_from" = some (some (.ref f6)))
    (l6 : K.lookup f6 = some ⟨oc6, od6, .func (PySem.W.fnOf "is_taken_from" "is_taken_from" (defArgs sTaken) (defBody sTaken) (defScope sTaken) .none kV6 dc6 pm6 an6 cd6 ct6), sl6⟩)
    (c6 : PySem.W.codeIn K cd6 "is_taken_from" = true)
    (k6 : PySem.W.keepIn K (.ref f6) = true)
    (a7 : PySem.W.nsIn K mainGlobals "_law_deck" = some (some (.ref f7)))
    (l7 : K.lookup f7 = some ⟨oc7, od7, .func (PySem.W.fnOf "_law_deck" "_law_deck" (defArgs sDeck) (defBody sDeck) (defScope sDeck) .none kV7 dc7 pm7 an7 cd7 ct7), sl7⟩)
    (c7 : PySem.W.codeIn K cd7 "_law_deck" = true)
    (k7 : PySem.W.keepIn K (.ref f7) = true)
    (a8 : PySem.W.nsIn K mainGlobals "_law_draw" = some (some (.ref f8)))
    (l8 : K.lookup f8 = some ⟨oc8, od8, .func (PySem.W.fnOf "_law_draw" "_law_draw" (defArgs sDraw) (defBody sDraw) (defScope sDraw) .none kV8 dc8 pm8 an8 cd8 ct8), sl8⟩)
    (c8 : PySem.W.codeIn K cd8 "_law_draw" = true)
    (k8 : PySem.W.keepIn K (.ref f8) = true)
    (a9 : PySem.W.nsIn K mainGlobals "_law_stock" = some (some (.ref f9)))
    (l9 : K.lookup f9 = some ⟨oc9, od9, .func (PySem.W.fnOf "_law_stock" "_law_stock" (defArgs sStock) (defBody sStock) (defScope sStock) .none kV9 dc9 pm9 an9 cd9 ct9), sl9⟩)
    (c9 : PySem.W.codeIn K cd9 "_law_stock" = true)
    (k9 : PySem.W.keepIn K (.ref f9) = true)
    (a10 : PySem.W.nsIn K mainGlobals "_law_plan" = some (some (.ref f10)))
    (l10 : K.lookup f10 = some ⟨oc10, od10, .func (PySem.W.fnOf "_law_plan" "_law_plan" (defArgs sLPlan) (defBody sLPlan) (defScope sLPlan) .none kV10 dc10 pm10 an10 cd10 ct10), sl10⟩)
    (c10 : PySem.W.codeIn K cd10 "_law_plan" = true)
    (k10 : PySem.W.keepIn K (.ref f10) = true)
    (a11 : PySem.W.nsIn K mainGlobals "_law_number" = some (some (.ref f11)))
    (l11 : K.lookup f11 = some ⟨oc11, od11, .func (PySem.W.fnOf "_law_number" "_law_number" (defArgs sNum) (defBody sNum) (defScope sNum) .none kV11 dc11 pm11 an11 cd11 ct11), sl11⟩)
    (c11 : PySem.W.codeIn K cd11 "_law_number" = true)
    (k11 : PySem.W.keepIn K (.ref f11) = true)
    (a12 : PySem.W.nsIn K mainGlobals "_law_is_draw" = some (some (.ref f12)))
    (l12 : K.lookup f12 = some ⟨oc12, od12, .func (PySem.W.fnOf "_law_is_draw" "_law_is_draw" (defArgs sIsDraw) (defBody sIsDraw) (defScope sIsDraw) .none kV12 dc12 pm12 an12 cd12 ct12), sl12⟩)
    (c12 : PySem.W.codeIn K cd12 "_law_is_draw" = true)
    (k12 : PySem.W.keepIn K (.ref f12) = true)
    (a13 : PySem.W.nsIn K mainGlobals "_law_any_draw" = some (some (.ref f13)))
    (l13 : K.lookup f13 = some ⟨oc13, od13, .func (PySem.W.fnOf "_law_any_draw" "_law_any_draw" (defArgs sAnyDr) (defBody sAnyDr) (defScope sAnyDr) .none kV13 dc13 pm13 an13 cd13 ct13), sl13⟩)
    (c13 : PySem.W.codeIn K cd13 "_law_any_draw" = true)
    (k13 : PySem.W.keepIn K (.ref f13) = true)
    (a14 : PySem.W.nsIn K mainGlobals "_law_odd" = some (some (.ref f14)))
    (l14 : K.lookup f14 = some ⟨oc14, od14, .func (PySem.W.fnOf "_law_odd" "_law_odd" (defArgs sOdd) (defBody sOdd) (defScope sOdd) .none kV14 dc14 pm14 an14 cd14 ct14), sl14⟩)
    (c14 : PySem.W.codeIn K cd14 "_law_odd" = true)
    (k14 : PySem.W.keepIn K (.ref f14) = true)
    (a15 : PySem.W.nsIn K mainGlobals "_law_replaced" = some (some (.ref f15)))
    (l15 : K.lookup f15 = some ⟨oc15, od15, .func (PySem.W.fnOf "_law_replaced" "_law_replaced" (defArgs sRepl) (defBody sRepl) (defScope sRepl) .none kV15 dc15 pm15 an15 cd15 ct15), sl15⟩)
    (c15 : PySem.W.codeIn K cd15 "_law_replaced" = true)
    (k15 : PySem.W.keepIn K (.ref f15) = true)
    (a16 : PySem.W.nsIn K mainGlobals "_law_near" = some (some (.ref f16)))
    (l16 : K.lookup f16 = some ⟨oc16, od16, .func (PySem.W.fnOf "_law_near" "_law_near" (defArgs sNear) (defBody sNear) (defScope sNear) .none kV16 dc16 pm16 an16 cd16 ct16), sl16⟩)
    (c16 : PySem.W.codeIn K cd16 "_law_near" = true)
    (k16 : PySem.W.keepIn K (.ref f16) = true)
    (a17 : PySem.W.nsIn K mainGlobals "law" = some (some (.ref f17)))
    (l17 : K.lookup f17 = some ⟨oc17, od17, .func (PySem.W.fnOf "law" "law" (defArgs sLaw) (defBody sLaw) (defScope sLaw) .none kV17 dc17 pm17 an17 cd17 ct17), sl17⟩)
    (c17 : PySem.W.codeIn K cd17 "law" = true)
    (k17 : PySem.W.keepIn K (.ref f17) = true)
    (z1 : PySem.W.nsIn K mainGlobals "all" = some none)
    (z2 : PySem.W.nsIn K mainGlobals "range" = some none)
    (z3 : PySem.W.nsIn K mainGlobals "tuple" = some none)
    (z4 : PySem.W.nsIn K mainGlobals "zip" = some none)
    (z5 : PySem.W.nsIn K mainGlobals "isinstance" = some none)
    (z6 : PySem.W.nsIn K mainGlobals "list" = some none)
    (z7 : PySem.W.nsIn K mainGlobals "int" = some none)
    (z8 : PySem.W.nsIn K mainGlobals "max" = some none)
    (z9 : PySem.W.nsIn K mainGlobals "sum" = some none)
    (z10 : PySem.W.nsIn K mainGlobals "bool" = some none)
    (z11 : PySem.W.nsIn K mainGlobals "len" = some none)
    (z12 : PySem.W.nsIn K mainGlobals "abs" = some none)
    (z13 : PySem.W.nsIn K mainGlobals "repr" = some none)
    (z14 : PySem.W.nsIn K mainGlobals "str" = some none)
    : ∃ fd : FuncData, (∀ (s : Shared) (v : Value), BindsTo s fd ⟨[v], []⟩ [("_law_script", v)]) ∧ ∀ base : Heap, K.In base → base.Ns mainGlobals mg → FnG l.prog w K mg base 9 fa fd ["_law_script"] (spLaw K) := by
  cases hfa.symm.trans (PySem.W.mg_of kin nsG a17)
  have F1 := fun_mk (st := sIsNum) l1 c1 k1
  have F2 := fun_mk (st := sUpTo) l2 c2 k2
  have F3 := fun_mk (st := sTupOf) l3 c3 k3
  have F4 := fun_mk (st := sNumsUp) l4 c4 k4
  have F5 := fun_mk (st := sIsDr) l5 c5 k5
  have F6 := fun_mk (st := sTaken) l6 c6 k6
  have F7 := fun_mk (st := sDeck) l7 c7 k7
  have F8 := fun_mk (st := sDraw) l8 c8 k8
  have F9 := fun_mk (st := sStock) l9 c9 k9
  have F10 := fun_mk (st := sLPlan) l10 c10 k10
  have F11 := fun_mk (st := sNum) l11 c11 k11
  have F12 := fun_mk (st := sIsDraw) l12 c12 k12
  have F13 := fun_mk (st := sAnyDr) l13 c13 k13
  have F14 := fun_mk (st := sOdd) l14 c14 k14
  have F15 := fun_mk (st := sRepl) l15 c15 k15
  have F16 := fun_mk (st := sNear) l16 c16 k16
  have F17 := fun_mk (st := sLaw) l17 c17 k17
  have b1 := F1.binds (ps := ["value"]) fun _ _ _ _ _ _ us hl => match us, hl with | [_], _ => rfl
  have b2 := F2.binds (ps := ["value", "most"]) fun _ _ _ _ _ _ us hl => match us, hl with | [_, _], _ => rfl
  have b3 := F3.binds (ps := ["value", "fewest", "most"]) fun _ _ _ _ _ _ us hl => match us, hl with | [_, _, _], _ => rfl
  have b4 := F4.binds (ps := ["value", "limits"]) fun _ _ _ _ _ _ us hl => match us, hl with | [_, _], _ => rfl
  have b5 := F5.binds (ps := ["stock", "plan", "value"]) fun _ _ _ _ _ _ us hl => match us, hl with | [_, _, _], _ => rfl
  have b6 := F6.binds (ps := ["drawer", "number", "value"]) fun _ _ _ _ _ _ us hl => match us, hl with | [_, _, _], _ => rfl
  have b7 := F7.binds (ps := ["_law_script"]) fun _ _ _ _ _ _ us hl => match us, hl with | [_], _ => rfl
  have b8 := F8.binds (ps := ["_law_deck_here", "_law_bound"]) fun _ _ _ _ _ _ us hl => match us, hl with | [_, _], _ => rfl
  have b9 := F9.binds (ps := ["_law_deck_here", "_law_drawers", "_law_kinds", "_law_most"]) fun _ _ _ _ _ _ us hl => match us, hl with | [_, _, _, _], _ => rfl
  have b10 := F10.binds (ps := ["_law_deck_here", "_law_stock_here"]) fun _ _ _ _ _ _ us hl => match us, hl with | [_, _], _ => rfl
  have b11 := F11.binds (ps := ["_law_value", "_law_low", "_law_high"]) fun _ _ _ _ _ _ us hl => match us, hl with | [_, _, _], _ => rfl
  have b12 := F12.binds (ps := ["_law_stock_here", "_law_plan_here", "_law_value"]) fun _ _ _ _ _ _ us hl => match us, hl with | [_, _, _], _ => rfl
  have b13 := F13.binds (ps := ["_law_deck_here", "_law_stock_here", "_law_plan_here"]) fun _ _ _ _ _ _ us hl => match us, hl with | [_, _, _], _ => rfl
  have b14 := F14.binds (ps := ["_law_deck_here"]) fun _ _ _ _ _ _ us hl => match us, hl with | [_], _ => rfl
  have b15 := F15.binds (ps := ["_law_deck_here", "_law_value", "_law_depth"]) fun _ _ _ _ _ _ us hl => match us, hl with | [_, _, _], _ => rfl
  have b16 := F16.binds (ps := ["_law_deck_here", "_law_draw_here"]) fun _ _ _ _ _ _ us hl => match us, hl with | [_, _], _ => rfl
  refine ⟨PySem.W.fnOf "law" "law" (defArgs sLaw) (defBody sLaw) (defScope sLaw) .none kV17 dc17 pm17 an17 cd17 ct17, fun s v => .of_eq rfl, fun base _ _ => ?_⟩
  exact ok_law F17 { N := F1, bN := b1, gN := PySem.W.mg_of kin nsG a1, U := F2, bU := b2, gU := PySem.W.mg_of kin nsG a2, Tu := F3, bTu := b3, gTu := PySem.W.mg_of kin nsG a3, Au := F4, bAu := b4, gAu := PySem.W.mg_of kin nsG a4, Ir := F5, bIr := b5, gIr := PySem.W.mg_of kin nsG a5, Tk := F6, bTk := b6, gTk := PySem.W.mg_of kin nsG a6, Dk := F7, bDk := b7, gDk := PySem.W.mg_of kin nsG a7, D := F8, bD := b8, gD := PySem.W.mg_of kin nsG a8, S := F9, bS := b9, gS := PySem.W.mg_of kin nsG a9, Pl := F10, bPl := b10, gPl := PySem.W.mg_of kin nsG a10, Nu := F11, bNu := b11, gNu := PySem.W.mg_of kin nsG a11, Id := F12, bId := b12, gId := PySem.W.mg_of kin nsG a12, Ay := F13, bAy := b13, gAy := PySem.W.mg_of kin nsG a13, Oo := F14, bOo := b14, gOo := PySem.W.mg_of kin nsG a14, Rp := F15, bRp := b15, gRp := PySem.W.mg_of kin nsG a15, Nr := F16, bNr := b16, gNr := PySem.W.mg_of kin nsG a16, m_all := PySem.W.mg_none_of kin nsG z1, m_range := PySem.W.mg_none_of kin nsG z2, m_tuple := PySem.W.mg_none_of kin nsG z3, m_zip := PySem.W.mg_none_of kin nsG z4, m_isinstance := PySem.W.mg_none_of kin nsG z5, m_list := PySem.W.mg_none_of kin nsG z6, m_int := PySem.W.mg_none_of kin nsG z7, m_max := PySem.W.mg_none_of kin nsG z8, m_sum := PySem.W.mg_none_of kin nsG z9, m_bool := PySem.W.mg_none_of kin nsG z10, m_len := PySem.W.mg_none_of kin nsG z11, m_abs := PySem.W.mg_none_of kin nsG z12, m_repr := PySem.W.mg_none_of kin nsG z13, m_str := PySem.W.mg_none_of kin nsG z14 }
end DD
open PySem PySem.W PyProof.Rows
set_option maxHeartbeats 0 in
theorem PySem.Challenge.cw_darkdrawers_k10_draws_judged_holds : PySem.Challenge.rw_darkdrawers_k10_draws_judged.Holds := by
  w_on; o_law; k_head; (case hw => w_witness2)
  k_fill
  refine DD.walk_ofG (l := PySem.Challenge.rw_darkdrawers_k10_draws_judged) (n := 63) (k := 9) (x := "_law_script") (sp := fun w => DD.spLaw _) rfl (by decide) rfl ⟨rfl, by decide, by decide⟩ (fun w h Y => PySem.W.kIn_of Y) ?F
    (fun _ _ a ns hl _ hS => ⟨a, ns, rfl, hS, hl, fun _ => rfl⟩)
  case F =>
    intro w mg fa h KX G hmg
    refine' DD.all_mk KX G hmg ?a1 ?l1 ?c1 ?k1 ?a2 ?l2 ?c2 ?k2 ?a3 ?l3 ?c3 ?k3 ?a4 ?l4 ?c4 ?k4 ?a5 ?l5 ?c5 ?k5 ?a6 ?l6 ?c6 ?k6 ?a7 ?l7 ?c7 ?k7 ?a8 ?l8 ?c8 ?k8 ?a9 ?l9 ?c9 ?k9 ?a10 ?l10 ?c10 ?k10 ?a11 ?l11 ?c11 ?k11 ?a12 ?l12 ?c12 ?k12 ?a13 ?l13 ?c13 ?k13 ?a14 ?l14 ?c14 ?k14 ?a15 ?l15 ?c15 ?k15 ?a16 ?l16 ?c16 ?k16 ?a17 ?l17 ?c17 ?k17 ?z1 ?z2 ?z3 ?z4 ?z5 ?z6 ?z7 ?z8 ?z9 ?z10 ?z11 ?z12 ?z13 ?z14
    (case a1 => k_is); (case l1 => k_is); (case c1 => k_is); (case k1 => k_is); (case a2 => k_is); (case l2 => k_is); (case c2 => k_is); (case k2 => k_is); (case a3 => k_is); (case l3 => k_is); (case c3 => k_is); (case k3 => k_is); (case a4 => k_is); (case l4 => k_is); (case c4 => k_is); (case k4 => k_is); (case a5 => k_is); (case l5 => k_is); (case c5 => k_is); (case k5 => k_is); (case a6 => k_is); (case l6 => k_is); (case c6 => k_is); (case k6 => k_is); (case a7 => k_is); (case l7 => k_is); (case c7 => k_is); (case k7 => k_is); (case a8 => k_is); (case l8 => k_is); (case c8 => k_is); (case k8 => k_is); (case a9 => k_is); (case l9 => k_is); (case c9 => k_is); (case k9 => k_is); (case a10 => k_is); (case l10 => k_is); (case c10 => k_is); (case k10 => k_is); (case a11 => k_is); (case l11 => k_is); (case c11 => k_is); (case k11 => k_is); (case a12 => k_is); (case l12 => k_is); (case c12 => k_is); (case k12 => k_is); (case a13 => k_is); (case l13 => k_is); (case c13 => k_is); (case k13 => k_is); (case a14 => k_is); (case l14 => k_is); (case c14 => k_is); (case k14 => k_is); (case a15 => k_is); (case l15 => k_is); (case c15 => k_is); (case k15 => k_is); (case a16 => k_is); (case l16 => k_is); (case c16 => k_is); (case k16 => k_is); (case a17 => k_is); (case l17 => k_is); (case c17 => k_is); (case k17 => k_is); (case z1 => k_is); (case z2 => k_is); (case z3 => k_is); (case z4 => k_is); (case z5 => k_is); (case z6 => k_is); (case z7 => k_is); (case z8 => k_is); (case z9 => k_is); (case z10 => k_is); (case z11 => k_is); (case z12 => k_is); (case z13 => k_is); (case z14 => k_is)
