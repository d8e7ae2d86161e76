import PyProof.Rows.All
import Wide.All
import OpenK.AllK
import Wide.FinOn
import HandS.Base
import HandS.Call
import HandS.List
import HandS.Comp
import HandS.Ends
import HandS.Words
import HandS.Star
import PyProof.Rows.RegFStrParts
import HandS.Zip
import KE.GoesEnum
import KE.KTupSum
import HandS.Walk
import HandS.ForMost
import HandS.ForExc
import HandS.Codes
import HandS.Style
import HandS.TupAny
import HandS.TupMul
import HandS.Conv
import HandS.Deep
import HandS.IsInst
import HandS.More
import HandS.ExcInit
import HandS.ExcField
import HandS.ExcIs
import KE.KExcIs
import PySem.Challenge.RW_darkdrawers_k46_hands
set_option Elab.async false
set_option linter.all false
set_option maxRecDepth 100000
namespace DD
open PySem PySem.Spec PyProof.Rows L2

/-! ### a def's promise where no repr is under way (A.guards = some []) -/
structure FnG (P : Program) (w : World) (K : PySem.W.Frag) (mg : Str → Option Value) (base : Heap) (k : Nat) (f : Addr)
    (fd : FuncData) (ps : List Str) (sp : Sp) : Prop where
  arity : ∀ vs H Q E, sp vs H Q E → vs.length = ps.length
  go : ∀ (A : Around), A.guards = some [] → Room k A → ∀ (outer : List Env) (s : Shared) (H : Hp) (args : Args) (us : List Value)
    (vs : List V) (Q : VK) (E : XK), Env0 P w K mg base A outer s H → BindsTo s fd args (ps.zip us) → Vals vs us → sp vs H Q E →
    codeAny (model P w) A (.call (.ref f) args) (CR CX0 outer P w H s Q E) s

section
variable {P : Program} {w : World} {K : PySem.W.Frag} {mg : Str → Option Value} {base : Heap} {k : Nat} {f : Addr} {fd : FuncData}
  {ps : List Str} {sp : Sp}
theorem FnG.up {j : Nat} (F : FnG P w K mg base j f fd ps sp) (h : j ≤ k) : FnG P w K mg base k f fd ps sp :=
  ⟨F.arity, fun A hg hr => F.go A hg (hr.mono h)⟩

theorem fnG_of {x qual : Str} {st : Stmt} {N : List Str} (F : Fun K x qual st f fd) (S : FnScope N ps (defScope st))
    (ar : ∀ vs H Q E, sp vs H Q E → vs.length = ps.length)
    (bd : ∀ (cdv : Value) (A : Around), A.guards = some [] → ∀ (outer : List Env) (s : Shared) (H : Hp) (vs : List V) (Q : VK) (E : XK),
      Room k (A.deeper (envOfC qual (defScope st) s.heap.objs.size f cdv)) → sp vs H Q E →
      ∃ t, PSs (cxOf CX0 P w K mg base N qual (defScope st) f cdv A outer s H E).nox (defBody st) t ∧
        t { nx := fun _ H' => Q .non H', rt := Q } (start N vs) H) : FnG P w K mg base (k + 1) f fd ps sp := by
  obtain ⟨oc, od, kV, doc, pm, an, cdv, ct, osl, rfl, lk, hcd⟩ := F.ex
  refine ⟨ar, fun A hgu hr outer s H args us vs Q E e0 hb rv hsp => ?_⟩
  have nl := ar _ _ _ _ hsp
  have kin : K.In s.heap := e0.mod.kin.keeps fun b o e => (e0.bs b o e).1
  have nolim : s.heap.NoLimit := e0.mod.nolimit.keeps fun b o e => (e0.bs b o e).1
  have kinds : ∀ y ∈ ps.zip us, (defScope st).names.lookup y.1 = some .local ∨ ((defScope st).names.lookup y.1 = some .cell ∧
      ((cellsFrom (s.heap.objs.size + 1) (defScope st).names []).lookup y.1).isSome = true) := by
    rintro ⟨n, v⟩ hy
    rcases S.par n (List.of_mem_zip hy).1 with q | q
    · exact .inl q
    · exact .inr ⟨q, PySem.W.cellsFrom_some _ _ _ (.inl q)⟩
  refine codeAny_call_function hr.depth (kin _ _ lk) rfl S.co S.gen rfl (PySem.W.codeRec_of kin hcd) (hb _ _ _ _ ?_)
  refine wpAny_newFunctionEnv_cells S.kind kinds fun env he s1 xx => ?_
  subst he
  refine ⟨nolim.keeps xx.toInCall.keep, codeAny_func ?_⟩
  obtain ⟨t, ht0, hq⟩ := bd cdv A hgu outer s H vs Q E (hr.deeper _) hsp
  have ht := ht0.nox
  have I0 := inv_start (CX := CX0) (E := E) S hr.hd e0 nl rv xx
  refine wpAny_mono (ht.run [] s1 (start N vs) H _ I0 hq) (fun fl s' hs => ?_) fun e s' hs => hs
  cases fl with
  | ret u =>
    obtain ⟨v, σ', H', J, r2, q⟩ := hs
    exact ⟨v, H', J.os, J.bare, J.base, J.hok, r2, q⟩
  | next =>
    obtain ⟨σ', H', J, q⟩ := hs
    exact ⟨V.non, H', J.os, J.bare, J.base, J.hok, rfl, q⟩
  | brk =>
    obtain ⟨_, _, _, q⟩ := hs
    exact q.elim
  | cont =>
    obtain ⟨_, _, _, q⟩ := hs
    exact q.elim
end

section
variable {X : Cx} {k : Nat} {f : Addr} {fd : FuncData} {ps : List Str} {sp : Sp} {x : Str} {p pos : Pos} {e : Expr} {es : List Expr} {t : TA}
theorem pe_callG (F : FnG X.prog X.w X.K X.mg X.base k f fd ps sp) (hgu : X.A.guards = some []) (hr : Room k X.A) (hg : Gl X x)
    (hm : X.mg x = some (.ref f)) (hk : PySem.W.keepIn X.K (.ref f) = true) (hb : Binds X.K fd ps [])
    (ha : PA X (e :: es) t) (hdb : (x == ("__debug__" : Str)) = false := by decide)
    (he : starEach (e :: es) X.env = (false, eval e X.env) :: starEach es X.env := by rfl)
    (hpl : (backTo pos (starEach es X.env)).any (·.1) = false := by rfl) :
    PE X (.Call (.Name x p) (e :: es) [] pos) (tCall sp [] E0 t) := by
  refine ⟨fun pins s σ H Q I h => wpAny_Call_Name_kw (ld_glob I hg hm ?_ hdb)⟩
  refine PySem.W.callWith_K (h₀ := X.base) I.ok.mod.kin hk
    (thn (ha.run pos pins s σ H _ I h) fun us s1 ⟨vs, H1, I1, r, q⟩ => ⟨I1.kIn, ?_⟩) he hpl
  have q : sp (vs ++ []) H1 Q E0 := q
  rw [List.append_nil] at q
  have hl : (us ++ []).length = ps.length := by rw [List.append_nil, ← r.length]; exact F.arity _ _ _ _ q
  have hbb := hb s1 us I1.kIn hl
  rw [List.append_nil] at hbb
  refine wpAny_call (codeAny_mono (F.go X.A hgu hr X.stack s1 H1 ⟨us, []⟩ us vs Q E0 I1.env0 hbb r q) fun r s' hq => ?_)
  cases r with
  | error e => exact hq.elim
  | ok fl =>
    cases fl with
    | ret u => exact I1.after hq
    | next => exact hq.elim
    | brk => exact hq.elim
    | cont => exact hq.elim
end

/-! ### repr of data -/
mutual
theorem dp_nodict {K : PySem.W.Frag} {H : Hp} : ∀ (d : PyData) (v : V), Dp K H v d → d.hasDict = false
  | .none, _, _ => rfl
  | .bool _, _, _ => rfl
  | .int _, _, _ => rfl
  | .str _, _, _ => rfl
  | .list ds, _, h => by
    cases h with
    | lst _ a => exact dps_nodict ds _ a
  | .tuple ds, _, h => by
    cases h with
    | tup _ a => exact dps_nodict ds _ a
  | .dict _, _, h => by cases h
theorem dps_nodict {K : PySem.W.Frag} {H : Hp} : ∀ (ds : List PyData) (vs : List V), DpAll K H vs ds → PyData.hasDictAll ds = false
  | [], _, _ => rfl
  | d :: ds, _, h => by
    cases h with
    | cons a b =>
      show (d.hasDict || PyData.hasDictAll ds) = false
      rw [dp_nodict d _ a, dps_nodict ds _ b]
      rfl
end

/-- data that is small: what repr and == ask of it -/
structure Sm (wt dp : Nat) (d : PyData) : Prop where
  lay : d.canLay0 = true
  short : d.intsShort 13 = true
  show_ : d.showable = true
  wt : d.weight ≤ wt
  dp : d.depth ≤ dp
structure SmA (n wt dp : Nat) (ds : List PyData) : Prop where
  len : ds.length ≤ n
  lay : PyData.canLayAll0 ds = true
  short : PyData.intsShortAll 13 ds = true
  show_ : PyData.showableAll ds = true
  wt : PyData.weightAll ds ≤ ds.length * (wt + 1)
  dp : PyData.depthAll ds ≤ dp
theorem SmA.nil {n wt dp : Nat} : SmA n wt dp [] := ⟨Nat.zero_le _, rfl, rfl, rfl, by simp [PyData.weightAll], Nat.zero_le _⟩
theorem SmA.cons {n wt dp : Nat} {d : PyData} {ds : List PyData} (a : Sm wt dp d) (b : SmA n wt dp ds) : SmA (n + 1) wt dp (d :: ds) where
  len := Nat.succ_le_succ b.len
  lay := by show (d.canLay0 && _) = true; rw [a.lay, b.lay]; rfl
  short := by show (d.intsShort 13 && _) = true; rw [a.short, b.short]; rfl
  show_ := by show (d.showable && _) = true; rw [a.show_, b.show_]; rfl
  wt := by
    have h1 := a.wt
    have h2 := b.wt
    show d.weight + 1 + PyData.weightAll ds ≤ (ds.length + 1) * (wt + 1)
    rw [Nat.succ_mul]
    omega
  dp := Nat.max_le.mpr ⟨a.dp, b.dp⟩
theorem SmA.all {wt dp : Nat} : ∀ {ds : List PyData}, (∀ d ∈ ds, Sm wt dp d) → SmA ds.length wt dp ds
  | [], _ => .nil
  | d :: ds, h => .cons (h d List.mem_cons_self) (SmA.all fun x hx => h x (List.mem_cons_of_mem _ hx))
theorem Sm.up {w1 w2 k1 k2 : Nat} {d : PyData} (a : Sm w1 k1 d) (h : w1 ≤ w2) (hk : k1 ≤ k2) : Sm w2 k2 d :=
  ⟨a.lay, a.short, a.show_, Nat.le_trans a.wt h, Nat.le_trans a.dp hk⟩
theorem SmA.len_le {n wt dp : Nat} {ds : List PyData} (b : SmA n wt dp ds) : PyData.weightAll ds ≤ n * (wt + 1) :=
  Nat.le_trans b.wt (Nat.mul_le_mul_right _ b.len)
theorem SmA.tup {n wt dp : Nat} {ds : List PyData} (b : SmA n wt dp ds) : Sm (n * (wt + 1)) (dp + 1) (.tuple ds) :=
  ⟨b.lay, b.short, b.show_, b.len_le, Nat.succ_le_succ b.dp⟩
theorem SmA.lst {n wt dp : Nat} {ds : List PyData} (b : SmA n wt dp ds) : Sm (n * (wt + 1)) (dp + 1) (.list ds) :=
  ⟨b.lay, b.short, b.show_, b.len_le, Nat.succ_le_succ b.dp⟩
theorem log2_lt_of {n : Nat} (h : n < 4096) : n.log2 ≤ 11 := by
  by_cases h0 : n = 0
  · subst h0; decide
  · have := (Nat.log2_lt h0 (k := 12)).mpr (by omega)
    omega
theorem Sm.int {i : Int} (h0 : 0 ≤ i) (h : i < 4096) : Sm 13 0 (.int i) where
  lay := rfl
  short := by
    refine decide_eq_true ?_
    have e := int_text_length_le (a := i) (k := 12) (by decide) (by have := log2_lt_of (n := i.natAbs) (by omega); omega)
    show (Str.ofString (toString i)).length ≤ 13
    rw [PySem.ofString_length]
    omega
  show_ := decide_eq_true (by have := log2_lt_of (n := i.natAbs) (by omega); omega)
  wt := by
    have := log2_lt_of (n := i.natAbs) (by omega)
    show (if i == 0 then 0 else i.natAbs.log2 + 1) ≤ 13
    split
    · omega
    · omega
  dp := Nat.le_refl _
theorem Sm.size {wt dp : Nat} {d : PyData} (a : Sm wt dp d) (h : wt ≤ 1048576) : d.shown.length ≤ sizeLine := by
  have h2 := PyData.shown_le 13 (by decide) d (PyData.leavesShort_of_canLay0 13 d a.lay a.short)
  have h3 := a.wt
  rw [sizeLine_eq]
  omega
theorem Sm.shaped {wt dp : Nat} {d : PyData} (a : Sm wt dp d) (h : dp ≤ 64) : SeqAt.shaped d = true := by
  show (d.canLay0 && decide (d.depth ≤ 64)) = true
  rw [a.lay, decide_eq_true (Nat.le_trans a.dp h)]
  rfl

/-- repr of a list or tuple of data: its text -/
theorem call_reprD {X : Cx} (hg : X.A.guards = some []) (hu : X.A.units + 66 < cLine) : CallR X (.builtin "repr") (fun xs H Q =>
    ∃ a d wt, xs = [.ref a] ∧ Dp X.K H (.ref a) d ∧ Sm wt 64 d ∧ wt ≤ 1048576 ∧ Q (.str d.shown) H) := by
  intro pins s σ H xs us Q I r h
  obtain ⟨a, d, wt, rfl, hd, sm, hw, q⟩ := h
  obtain ⟨u, rfl, ru⟩ := vals1 r
  cases ru
  obtain ⟨as, rd⟩ := Dp.reads I d _ _ hd rfl
  have hdp := sm.dp
  exact repr_of_reads' rd sm.show_ (PyData.noDict_hsm (dp_nodict d _ hd)) hg (by omega) (fun _ _ e => e)
    (fun h' u tk hk => ⟨.str d.shown, H, I.kept hk, ⟨_, rfl⟩, q⟩) (sm.size hw)
end DD
namespace DD
open PySem PySem.Spec PyProof.Rows L2

/-! ### the end of a law whose def keeps its promise where no repr is under way -/
section
variable {P : Program} {w : World} {K : PySem.W.Frag} {mg mb : Str → Option Value} {k : Nat} {fa a : Addr} {fd : FuncData} {x : Str} {sp : Sp}
  {s1 : Shared} {vs : List Value} {ns : List Int}
theorem law_goG (kin : K.In s1.heap) (nsG : s1.heap.Ns mainGlobals mg) (nsB : s1.heap.Ns builtinsNs mb)
    (blt : ∀ x : Str, x ≠ "__name__" → mb x = bootBuiltins x) (nolim : s1.heap.NoLimit) (ng : s1.gens = #[])
    (oa : s1.heap.get? a = some { cls := .type "list", data := .seq vs.toArray }) (ia : IntsAre vs ns) (len : ns.length ≤ sizeLine)
    (room : Room k callerA) (F : ∀ base : Heap, K.In base → base.Ns mainGlobals mg → FnG P w K mg base k fa fd [x] sp)
    (bind : ∀ (s : Shared) (u : Value), BindsTo s fd ⟨[u], []⟩ [(x, u)])
    (wish : ∀ H : Hp, Only H → SqL K H a (ns.map V.int) → sp [.ref a] H (fun v _ => v = .bl true) fun _ _ _ => False) :
    codeAny (model P w) callerA (.call (.ref fa) ⟨[.ref a], []⟩)
      (fun r s' => r = .ok (.ret (.bool true)) ∧ OldK s1.heap s'.heap ∧ s'.os = s1.os ∧ AllBare s'.gens) s1 := by
  have rv := vals_ints ia
  have lv := ia.length
  -- the run, from an abstract heap that tracks at most the script
  have main : ∀ H : Hp, Only H → SqL K H a (ns.map V.int) → HOk P w H s1.heap → (∀ b, H b ≠ none → b = a) → (H a ≠ none → K.lookup a = none) →
      codeAny (model P w) callerA (.call (.ref fa) ⟨[.ref a], []⟩)
        (fun r s' => r = .ok (.ret (.bool true)) ∧ OldK s1.heap s'.heap ∧ s'.os = s1.os ∧ AllBare s'.gens) s1 := by
    intro H onl hS ok only noK
    have free : ∀ {b : Addr} {o : Obj} {es : Array DictEntry} {ep : Nat}, s1.heap.get? b = some o → o.data = .dict es ep → H b = none := by
      intro b o es ep e d
      cases q : H b with
      | none => rfl
      | some u =>
        obtain rfl := only b (by rw [q]; simp)
        rw [oa] at e
        cases e
        exact nomatch (show Data.seq vs.toArray _ = Data.dict es ep from d)
    have nsOf : ∀ {b : Addr} {m : Str → Option Value}, s1.heap.Ns b m → (hidT s1.heap H).Ns b m := by
      rintro b m ⟨o, es, ep, e, d, r⟩
      exact ⟨o, es, ep, hidT_get e (free e d), d, r⟩
    have kin0 : K.In (hidT s1.heap H) := fun b o e => hidT_get (kin b o e) (by
      cases q : H b with
      | none => rfl
      | some u =>
        obtain rfl := only b (by rw [q]; simp)
        rw [noK (by rw [q]; simp)] at e
        cases e)
    obtain ⟨mc, c1, c2⟩ := nolim
    have md : Mod K mg (hidT s1.heap H) := ⟨kin0, nsOf nsG, ⟨mb, nsOf nsB, blt⟩, mc, nsOf c1, c2⟩
    have e0 : Env0 P w K mg (hidT s1.heap H) callerA [] s1 H :=
      ⟨rfl, md, fun b o e => of_hidT e, Nat.le_of_eq (hidT_size _ _), trivial, fun b z => (nomatch (show b ∈ ([] : List Addr) from z)), ok, .of_eq ng⟩
    have ran := (F _ kin0 (nsOf nsG)).go callerA rfl room [] s1 H ⟨[.ref a], []⟩ [.ref a] [.ref a] _ _ e0 (bind s1 (.ref a)) (.cons rfl .nil) (wish H onl hS)
    refine codeAny_mono ran fun r s' h => ?_
    match r, h with
    | .ok (.ret u), h =>
      obtain ⟨v, H', eos, br, un, ok', r', q⟩ := h
      obtain rfl : v = .bl true := q
      obtain rfl : u = Value.bool true := r'
      refine ⟨rfl, OldK.of_keep fun b o e => ?_, eos, br⟩
      cases q : H b with
      | none => exact un.keep b o e q (fun z => nomatch (show b ∈ ([] : List Addr) from z)) (by simp)
      | some u =>
        rcases onl b with z | ⟨ob, xs, z⟩
        · rw [q] at z
          cases z
        · have e1 := (ok b _ z).1
          rw [e] at e1
          cases e1
          exact (ok' b _ (un.frzs b _ _ z)).1
  cases hk : K.lookup a with
  | some o =>
    -- the script is one of the module's own objects
    have e := kin a o hk
    rw [oa] at e
    cases e
    have hsz : vs.toArray.size ≤ sizeLine := by
      rw [List.size_toArray, lv]
      exact len
    exact main (fun _ => none) (fun _ => .inl rfl) (.inr ⟨_, vs.toArray, _, hk, rfl, rfl, rfl, hsz, by simpa using rv⟩)
      (fun b u z => nomatch (show (none : Option HO) = some u from z)) (fun b z => absurd rfl z) fun z => absurd rfl z
  | none =>
    let fr : HO := .frz { cls := .type "list", data := .seq vs.toArray } (.lst (ns.map V.int))
    have at_ : (fun b => if b = a then some fr else none : Hp) a = some fr := if_pos rfl
    have else_ : ∀ b, b ≠ a → (fun b => if b = a then some fr else none : Hp) b = none := fun b hb => if_neg hb
    refine main (fun b => if b = a then some fr else none) (fun b => ?_) (.inl (.inr ⟨_, at_⟩)) (fun b u z => ?_) (fun b z => ?_) fun _ => hk
    · by_cases hb : b = a
      · exact .inr ⟨_, _, if_pos hb⟩
      · exact .inl (else_ b hb)
    · by_cases hb : b = a
      · subst hb
        cases at_.symm.trans z
        exact ⟨oa, by rw [List.length_map]; exact len, vs, _, rv, oa⟩
      · exact nomatch (else_ b hb).symm.trans z
    · by_cases hb : b = a
      · exact hb
      · exact absurd (else_ b hb) z
end

theorem walk_ofG {l : PySem.W.OpenLaw} {n k : Nat} {q : Program} {loose : List Str} {XP : (Str → Option Value) → Heap → Prop} {YP : World → Heap → Prop}
    {d : DefRec} {K : Params → PySem.W.Frag} {sp : World → Sp} {x : Str} (most : l.most = some n) (n_le : n ≤ sizeLine) (nodef : d.params.defaults = [])
    (room : Room k callerA) (kin : ∀ (w : World) (h : Heap), YP w h → (K w.params).In h)
    (F : ∀ (w : World) (mg : Str → Option Value) (fa : Addr) (h : Heap), (K w.params).In h → h.Ns mainGlobals mg → mg d.name = some (.ref fa) →
      ∃ fd : FuncData, (∀ (s : Shared) (u : Value), BindsTo s fd ⟨[u], []⟩ [(x, u)]) ∧
        ∀ base : Heap, (K w.params).In base → base.Ns mainGlobals mg → FnG l.prog w (K w.params) mg base k fa fd [x] (sp w))
    (wish : ∀ (w : World) (H : Hp) (a : Addr) (ns : List Int), ns.length ≤ n → Only H → SqL (K w.params) H a (ns.map V.int) →
      sp w [.ref a] H (fun v _ => v = .bl true) fun _ _ _ => False) :
    PySem.W.WalkO q loose XP YP l.row.toRowW d [] (fun f vs => PySem.call f vs) := by
  refine Att.attach_call most nodef fun w s0 s1 mg mb fa o pm cd doc a vs ns G Y ho hd hcd hmg hobj hints hlen hg => ?_
  obtain ⟨fd, hb, hF⟩ := F w mg fa _ (kin w _ Y) G.T.g hmg
  exact law_goG (kin w _ Y) G.T.g G.T.b G.T.builtins G.T.nolimit hg hobj hints (Nat.le_trans hlen n_le) room hF hb
    fun H hO hS => wish w H a ns hlen hO hS
end DD
namespace DD
open PySem PySem.Spec PyProof.Rows L2
section
variable {M : Model} {A : Around} {E : Value → Shared → Prop}
theorem wp_forIn {α β : Type} (f : α → β → Sem (ForInStep β)) : ∀ (l : List α) (J : Nat → β → Shared → Prop),
    (∀ j x b s, l[j]? = some x → J j b s → wpAny M A (f x b) (fun r s' => ∃ b', r = .yield b' ∧ J (j + 1) b' s') E s) →
    ∀ (b : β) (s : Shared), J 0 b s → wpAny M A (forIn l b f) (fun b' s' => J l.length b' s') E s
  | [], J, step, b, s, h => by
    rw [List.forIn_nil]
    exact wpAny_pure h
  | x :: l, J, step, b, s, h => by
    rw [List.forIn_cons]
    refine wpAny_bind (wpAny_mono (step 0 x b s rfl h) (fun r s' hr => ?_) (fun _ _ e => e))
    obtain ⟨b', rfl, hJ⟩ := hr
    exact wp_forIn f l (fun j => J (j + 1)) (fun j y c s'' e hj => step (j + 1) y c s'' e hj) b' s' hJ
end

abbrev zObj (f0 f1 : Value) (TI TO : Addr) : Obj :=
  { cls := .type "zip", dict := none, data := .fields #[f0, f1, .bool false, .ref TI, .ref TO], slots := #[] }
abbrev tObj (vs : Array Value) : Obj := { cls := .type "tuple", data := .seq vs }
structure ZApart (z TI TO : Addr) (ps : List (Addr × Addr)) : Prop where
  tz : TI ≠ z
  oz : TO ≠ z
  it : TI ≠ TO
  nd : (ps.map (·.1)).Nodup
  pz : ∀ p ∈ ps, p.1 ≠ z ∧ p.1 ≠ TI ∧ p.1 ≠ TO ∧ p.2 ≠ z ∧ p.2 ≠ TO
  px : ∀ p ∈ ps, ∀ q ∈ ps, p.2 ≠ q.1
structure ZSt (h : Heap) (z TI TO : Addr) (ps : List (Addr × Addr)) (k : Nat) : Prop where
  zz : ∃ f0 f1, h.get? z = some (zObj f0 f1 TI TO) ∧ (f0 = .none ∨ ∃ a t, f0 = .int a t)
  ti : h.get? TI = some (tObj (ps.map fun p => Value.ref p.1).toArray)
  to : ∃ arr : Array Value, arr.size = ps.length ∧ h.get? TO = some (tObj arr)
  its : ∀ p ∈ ps, h.IsTupleIter p.1 p.2 k


/-- the objects but z, TO and the iterators stand; the first j iterators have turned -/
structure ZMid (g h : Heap) (z TO : Addr) (ps : List (Addr × Addr)) (k j : Nat) : Prop where
  size : h.objs.size = g.objs.size
  keep : ∀ c o, c ≠ z → c ≠ TO → (∀ p ∈ ps, c ≠ p.1) → g.get? c = some o → h.get? c = some o
  its : ∀ (i : Nat) (p : Addr × Addr), ps[i]? = some p → h.IsTupleIter p.1 p.2 (if i < j then k + 1 else k)

section
variable {prog : Program} {w : World} {A : Around} {E : Value → Shared → Prop} {s : Shared} {z TI TO : Addr} {ps : List (Addr × Addr)} {k : Nat}
theorem wp_alive {M : Model} {a : Addr} {Q : Option Obj → Shared → Prop} (h : Q (s.heap.get? a) s) : wpAny M A (loadIfAlive a) Q E s := fun _ _ _ => h
theorem ptr_ne {ps : List (Addr × Addr)} (nd : (ps.map (·.1)).Nodup) {i j : Nat} {p q : Addr × Addr} (hp : ps[i]? = some p) (hq : ps[j]? = some q) (h : i ≠ j) : p.1 ≠ q.1 := by
  intro e
  have e1 : (ps.map (·.1))[i]? = some p.1 := by rw [List.getElem?_map, hp] <;> rfl
  have e2 : (ps.map (·.1))[j]? = some p.1 := by rw [List.getElem?_map, hq, e] <;> rfl
  obtain ⟨l1, g1⟩ := List.getElem?_eq_some_iff.mp e1
  obtain ⟨l2, g2⟩ := List.getElem?_eq_some_iff.mp e2
  exact h ((List.getElem_inj nd).mp (g1.trans g2.symm))
theorem free_or {f0 f1 : Value} (hz : s.heap.get? z = some (zObj f0 f1 TI TO)) (hf0 : f0 = .none ∨ ∃ a t, f0 = .int a t) :
    wpAny (model prog w) A (Builtin.SmallTypes.ownedTupleIsFree (.ref z)) (fun b s' => (b = true ∧ s' = s) ∨
      (b = false ∧ ∃ h' f2, s' = { s with heap := h' } ∧ h'.get? z = some (zObj f0 f2 TI TO) ∧ Heap.SameBut z s.heap h')) E s := by
  unfold Builtin.SmallTypes.ownedTupleIsFree
  refine wpAny_bind (wpAny_field hz rfl (x := f0) rfl ?_)
  rcases hf0 with rfl | ⟨a, t, rfl⟩
  · exact wpAny_pure (.inl ⟨rfl, rfl⟩)
  · refine wpAny_bind (wp_alive ?_)
    cases ha : s.heap.get? a.toNat with
    | none => exact wpAny_pure (.inl ⟨rfl, rfl⟩)
    | some o =>
      simp only [Option.isNone_some, Bool.false_eq_true, if_false]
      refine wpAny_bind (wpAny_field hz rfl (x := f1) rfl ?_)
      by_cases hb : (f1 != Value.bool true) = true
      · rw [if_pos hb]
        refine wpAny_bind (wpAny_setField_rec hz (by simp) fun h1 hz1 hs1 => wpAny_pure (.inr ⟨rfl, h1, .bool true, rfl, hz1, hs1⟩))
      · rw [if_neg hb]
        exact wpAny_pure (.inr ⟨rfl, s.heap, f1, rfl, hz, Heap.SameBut.refl _ _⟩)
/-- one iterator's turn -/
theorem draw_one {g h : Heap} {j : Nat} {p : Addr × Addr} {xs : Array Value} {v : Value} {Q : Value → Shared → Prop} (D : ZApart z TI TO ps) (m : ZMid g h z TO ps k j)
    (hp : ps[j]? = some p) (hl : g.IsTuple p.2 xs) (hx : xs[k]? = some v)
    (hQ : ∀ h', ZMid g h' z TO ps k (j + 1) → Heap.SameBut p.1 h h' → Q v { s with heap := h' }) :
    wpAny (model prog w) A (Builtin.SmallTypes.nextOf (.ref p.1)) Q E { s with heap := h } := by
  have hm : p ∈ ps := List.mem_of_getElem? hp
  have h1 : h.IsTupleIter p.1 p.2 k := by
    have := m.its j p hp
    rwa [if_neg (Nat.lt_irrefl j)] at this
  have h2 : h.IsTuple p.2 xs := by
    obtain ⟨o, e, c⟩ := hl
    exact ⟨o, m.keep _ _ (D.pz p hm).2.2.2.1 (D.pz p hm).2.2.2.2 (fun q hq => D.px p hm q hq) e, c⟩
  refine RZ.nextOf_tuple_item (s := { s with heap := h }) h1 h2 hx fun h' hi hs => hQ h' ⟨hs.1.trans m.size, fun c o c1 c2 c3 e => ?_, fun i q hq => ?_⟩ hs
  · rw [hs.2 c (c3 p hm)]
    exact m.keep c o c1 c2 c3 e
  · by_cases hij : i = j
    · subst hij
      rw [hp] at hq
      cases hq
      rw [if_pos (Nat.lt_succ_self _)]
      exact hi
    · have hqi := m.its i q hq
      have hne := ptr_ne D.nd hq hp hij
      rw [show (if i < j + 1 then k + 1 else k) = (if i < j then k + 1 else k) by
        by_cases hlt : i < j
        · rw [if_pos hlt, if_pos (by omega)]
        · rw [if_neg hlt, if_neg (by omega)]]
      obtain ⟨o, e, c⟩ := hqi
      exact ⟨o, (hs.2 _ hne).trans e, c⟩
theorem ZMid.full {g h : Heap} (m : ZMid g h z TO ps k ps.length) : ∀ p ∈ ps, h.IsTupleIter p.1 p.2 (k + 1) := fun p hp => by
  obtain ⟨i, hi⟩ := List.mem_iff_getElem?.mp hp
  obtain ⟨hl, _⟩ := List.getElem?_eq_some_iff.mp hi
  have := m.its i p hi
  rwa [if_pos hl] at this

theorem zn_item {vs : List Value} {Q : Value → Shared → Prop} (D : ZApart z TI TO ps) (hn : 1 ≤ ps.length) (hn2 : ps.length ≤ 1000) (S : ZSt s.heap z TI TO ps k)
    (hv : vs.length = ps.length) (hi : ∀ (j : Nat) (p : Addr × Addr), ps[j]? = some p → ∃ xs, s.heap.IsTuple p.2 xs ∧ xs[k]? = vs[j]?)
    (hQ : ∀ h', ZSt h' z TI TO ps (k + 1) → h'.get? s.heap.objs.size = some (tObj vs.toArray) → h'.objs.size = s.heap.objs.size + 1 →
      (∀ c o, c ≠ z → c ≠ TO → (∀ p ∈ ps, c ≠ p.1) → s.heap.get? c = some o → h'.get? c = some o) → Q (.ref s.heap.objs.size) { s with heap := h' }) :
    wpAny (model prog w) A (Builtin.«zip.__next__» ⟨[.ref z], []⟩) (fun fin s' => ∃ v, fin = .done (.ret v) ∧ Q v s') E s := by
  obtain ⟨⟨f0, f1, hz, hf0⟩, hTI, ⟨arr, ha, hTO⟩, hits⟩ := S
  show wpAny _ _ (field (.ref z) 2 >>= _) _ _ _
  refine wpAny_bind (wpAny_field hz rfl (x := .bool false) rfl ?_)
  show wpAny _ _ (field (.ref z) 3 >>= _) _ _ _
  refine wpAny_bind (wpAny_field hz rfl (x := .ref TI) rfl ?_)
  refine wpAny_bind (wpAny_seqItems hTI rfl ?_)
  have hne : (ps.map fun p => Value.ref p.1).toArray.isEmpty = false := by
    cases ps with
    | nil => simp at hn
    | cons p r => rfl
  simp only [hne, Bool.false_eq_true, if_false]
  have m0 : ∀ h, Heap.SameBut z s.heap h → ZMid s.heap h z TO ps k 0 := fun h hs =>
    ⟨hs.1, fun c o c1 _ _ e => (hs.2 c c1).trans e, fun i p hp => by
      rw [if_neg (Nat.not_lt_zero _)]
      have hm := List.mem_of_getElem? hp
      obtain ⟨o, e, c⟩ := hits p hm
      exact ⟨o, (hs.2 _ (D.pz p hm).1).trans e, c⟩⟩
  refine wpAny_bind (wpAny_mono (free_or hz hf0) (fun b s' hb => ?_) fun _ _ e => e)
  rcases hb with ⟨rfl, rfl⟩ | ⟨rfl, h1, f2, rfl, hz1, hs1⟩
  · simp only [if_true]
    refine wpAny_bind (wpAny_rule ?_)
    refine wpAny_bind (wpAny_field hz rfl (x := .ref TO) rfl ?_)
    refine wpAny_bind (wpAny_setField_rec hz (by simp) fun h1 hz1 hs1 => ?_)
    replace hz1 : h1.get? z = some (zObj .ellipsis f1 TI TO) := hz1
    have nTI : ∀ p ∈ ps, TI ≠ p.1 := fun p hp q => (D.pz p hp).2.1 q.symm
    refine wpAny_bind (thn (wp_forIn _ _ (fun j b s2 => b = (none, ()) ∧ ∃ (h : Heap) (a2 : Array Value), s2 = { s' with heap := h } ∧ ZMid s'.heap h z TO ps k j ∧
      h.get? z = some (zObj .ellipsis f1 TI TO) ∧ a2.size = ps.length ∧ (∀ i, i < j → a2[i]? = vs[i]?) ∧ h.get? TO = some (tObj a2)) ?step _ _ ?init) fun b s2 hb => ?last)
    case init => exact ⟨rfl, h1, arr, rfl, m0 h1 hs1, hz1, ha, fun i hi => absurd hi (Nat.not_lt_zero _), (hs1.2 _ D.oz).trans hTO⟩
    case step =>
      rintro j x b s2 hx ⟨rfl, h, a2, rfl, m, hz2, hs2, pre, hTO2⟩
      rw [List.getElem?_zipIdx, List.getElem?_map] at hx
      cases hp : ps[j]? with
      | none =>
        rw [hp] at hx
        cases hx
      | some p =>
        rw [hp] at hx
        obtain rfl : (Value.ref p.1, 0 + j) = x := Option.some.inj hx
        obtain ⟨xs, hl, hxk⟩ := hi j p hp
        have hm : p ∈ ps := List.mem_of_getElem? hp
        have hj : j < ps.length := (List.getElem?_eq_some_iff.mp hp).1
        have hjv : vs[j]? = some (vs[j]'(by omega)) := List.getElem?_eq_getElem (by omega)
        refine wpAny_bind (wpAny_onRaise ?_)
        show wpAny _ _ (Builtin.SmallTypes.nextOf (.ref p.1) >>= _) _ _ _
        refine wpAny_bind (draw_one D m hp hl (hxk.trans hjv) fun h' m' hs' => wpAny_pure ?_)
        have hTO' : h'.get? TO = some (tObj a2) := (hs'.2 _ (D.pz p hm).2.2.1.symm).trans hTO2
        refine wpAny_bind (wpAny_seqItems hTO' rfl ?_)
        have hb1 : a2.size ≤ sizeLine := by rw [hs2, sizeLine_eq]; omega
        refine wpAny_bind (wpAny_updateSeq hTO' rfl ?_ hb1 (by rw [Array.size_setIfInBounds, hs2, sizeLine_eq]; omega))
        have sb := Heap.SameBut.update h' TO (Obj.mapSeq fun x => x.setIfInBounds (0 + j) (vs[j]'(by omega)))
        refine wpAny_bind (wpAny_letGo (wpAny_pure ⟨_, rfl, rfl, _, a2.setIfInBounds j (vs[j]'(by omega)), rfl, ⟨sb.1.trans m'.size, fun c o c1 c2 c3 e => (sb.2 c c2).trans (m'.keep c o c1 c2 c3 e), fun i q hq => ?_⟩, ?_, ?_, fun i hij => ?_, ?_⟩))
        · obtain ⟨o, e, c⟩ := m'.its i q hq
          exact ⟨o, (sb.2 _ (D.pz q (List.mem_of_getElem? hq)).2.2.1).trans e, c⟩
        · rw [sb.2 z D.oz.symm, hs'.2 z (D.pz p hm).1.symm]
          exact hz2
        · rw [Array.size_setIfInBounds]
          exact hs2
        · rw [Array.getElem?_setIfInBounds]
          by_cases e : j = i
          · subst e
            rw [if_pos rfl, if_pos (by omega)]
            exact hjv.symm
          · rw [if_neg e]
            exact pre i (by omega)
        · rw [Heap.get?_update_self _ hTO' rfl, Nat.zero_add]
          simp [Obj.mapSeq]
    case last =>
      obtain ⟨rfl, h, a2, rfl, m, hz2, hs2, pre, hTO2⟩ := hb
      rw [List.length_zipIdx, List.length_map] at m pre
      have ea : a2 = vs.toArray := by
        refine Array.ext_getElem? fun i => ?_
        by_cases hlt : i < ps.length
        · rw [pre i hlt, List.getElem?_toArray]
        · rw [Array.getElem?_eq_none (by omega), List.getElem?_toArray, List.getElem?_eq_none (by omega)]
      subst ea
      show wpAny _ _ (seqItems? (.ref TO) >>= _) _ _ _
      refine wpAny_bind (wpAny_seqItems hTO2 rfl ?_)
      refine wpAny_bind (wpAny_newTuple ?_ (by show vs.length ≤ _; rw [sizeLine_eq]; omega))
      show wpAny _ _ (Builtin.SmallTypes.ownedTupleHandOut (.ref z) (.ref h.objs.size) >>= _) _ _ _
      refine wpAny_bind ?_
      unfold Builtin.SmallTypes.ownedTupleHandOut
      have hzp : (h.push (tObj vs.toArray)).get? z = some (zObj .ellipsis f1 TI TO) := Heap.get?_push_of_some _ hz2
      refine wpAny_bind (wpAny_setField_rec hzp (by simp) fun h3 hz3 hs3 => ?_)
      replace hz3 : h3.get? z = some (zObj (rawInt h.objs.size) f1 TI TO) := hz3
      refine wpAny_setField_rec hz3 (by simp) fun h4 hz4 hs4 => ?_
      replace hz4 : h4.get? z = some (zObj (rawInt h.objs.size) (.bool false) TI TO) := hz4
      have hzlt : z < h.objs.size := Heap.lt_size hz2
      have up : ∀ c o, c ≠ z → h.get? c = some o → h4.get? c = some o := fun c o c1 e =>
        (hs4.2 c c1).trans ((hs3.2 c c1).trans (Heap.get?_push_of_some _ e))
      refine wpAny_pure ⟨_, rfl, ?_⟩
      show Q (.ref h.objs.size) _
      have key := hQ h4 ⟨⟨_, _, hz4, .inr ⟨_, _, rfl⟩⟩, up _ _ D.tz (m.keep TI _ D.tz D.it nTI hTI), ⟨_, hs2, up _ _ D.oz hTO2⟩, fun p hp => ?_⟩ ?_ ?_ fun c o c1 c2 c3 e => up c o c1 (m.keep c o c1 c2 c3 e)
      · rw [m.size]
        exact key
      · obtain ⟨o, e, c⟩ := m.full p hp
        exact ⟨o, up _ _ (D.pz p hp).1 e, c⟩
      · rw [← m.size, hs4.2 _ (Nat.ne_of_gt hzlt), hs3.2 _ (Nat.ne_of_gt hzlt)]
        exact Heap.get?_push_size _ rfl
      · rw [hs4.1, hs3.1, Heap.size_push, m.size]
  · simp only [Bool.false_eq_true, if_false, List.forIn_toArray]
    have nTI : ∀ p ∈ ps, TI ≠ p.1 := fun p hp q => (D.pz p hp).2.1 q.symm
    refine wpAny_bind (thn (wp_forIn _ _ (fun j b s2 => b = (none, (vs.take j).toArray) ∧ ∃ (h : Heap), s2 = { s with heap := h } ∧ ZMid s.heap h z TO ps k j ∧
      h.get? z = some (zObj f0 f2 TI TO) ∧ h.get? TO = some (tObj arr)) ?step _ _ ?init) fun b s2 hb => ?last)
    case init => exact ⟨rfl, h1, rfl, m0 h1 hs1, hz1, (hs1.2 _ D.oz).trans hTO⟩
    case step =>
      rintro j x b s2 hx ⟨rfl, h, rfl, m, hz2, hTO2⟩
      rw [List.getElem?_map] at hx
      cases hp : ps[j]? with
      | none =>
        rw [hp] at hx
        cases hx
      | some p =>
        rw [hp] at hx
        obtain rfl : Value.ref p.1 = x := Option.some.inj hx
        obtain ⟨xs, hl, hxk⟩ := hi j p hp
        have hm : p ∈ ps := List.mem_of_getElem? hp
        have hj : j < ps.length := (List.getElem?_eq_some_iff.mp hp).1
        have hjv : vs[j]? = some (vs[j]'(by omega)) := List.getElem?_eq_getElem (by omega)
        refine wpAny_bind (wpAny_holding ?_)
        show wpAny _ _ (Builtin.SmallTypes.nextOf (.ref p.1) >>= _) _ _ _
        refine wpAny_bind (draw_one D m hp hl (hxk.trans hjv) fun h' m' hs' => wpAny_pure (wpAny_pure ⟨_, rfl, ?_, h', rfl, m', ?_, ?_⟩))
        · rw [List.take_add_one, hjv]
          simp
        · exact (hs'.2 z (D.pz p hm).1.symm).trans hz2
        · exact (hs'.2 _ (D.pz p hm).2.2.1.symm).trans hTO2
    case last =>
      obtain ⟨rfl, h, rfl, m, hz2, hTO2⟩ := hb
      rw [List.length_map] at m
      rw [List.length_map, List.take_of_length_le (by omega)]
      have hsz : vs.length ≤ sizeLine := by rw [sizeLine_eq]; omega
      show wpAny _ _ (newTuple vs.toArray.toList >>= _) _ _ _
      refine wpAny_bind (wpAny_newTuple ?_ (by simpa using hsz))
      refine wpAny_pure ⟨_, rfl, ?_⟩
      have up : ∀ c o, h.get? c = some o → (h.push (tObj vs.toArray)).get? c = some o := fun c o e => Heap.get?_push_of_some _ e
      have key := hQ (h.push (tObj vs.toArray)) ⟨⟨_, _, up _ _ hz2, hf0⟩, up _ _ (m.keep TI _ D.tz D.it nTI hTI), ⟨_, ha, up _ _ hTO2⟩, fun p hp => ?_⟩ ?_ ?_ fun c o c1 c2 c3 e => up c o (m.keep c o c1 c2 c3 e)
      · show Q (.ref h.objs.size) _
        rw [m.size]
        exact key
      · obtain ⟨o, e, c⟩ := m.full p hp
        exact ⟨o, up _ _ e, c⟩
      · rw [← m.size]
        exact Heap.get?_push_size _ rfl
      · rw [Heap.size_push, m.size]
end
end DD
namespace DD
open PySem PySem.Spec PyProof.Rows L2
section
variable {prog : Program} {w : World} {A : Around} {E : Value → Shared → Prop} {s : Shared} {z TI TO : Addr} {ps : List (Addr × Addr)} {k : Nat}
theorem zn_end {Q : Fin → Shared → Prop} (hh : A.handled = none) (D : ZApart z TI TO ps) (S : ZSt s.heap z TI TO ps k) {p : Addr × Addr} {r : List (Addr × Addr)} {xs : Array Value}
    (hps : ps = p :: r) (hl : s.heap.IsTuple p.2 xs) (hx : xs[k]? = none)
    (hE : ∀ h' e, (∀ c o, c ≠ z → c ≠ TO → (∀ p ∈ ps, c ≠ p.1) → s.heap.get? c = some o → h'.get? c = some o) →
      (∃ o, h'.get? e = some o ∧ o.cls = .type "StopIteration") → E (.ref e) { s with heap := h' }) :
    wpAny (model prog w) A (Builtin.«zip.__next__» ⟨[.ref z], []⟩) Q E s := by
  obtain ⟨⟨f0, f1, hz, hf0⟩, hTI, ⟨arr, ha, hTO⟩, hits⟩ := S
  have hm : p ∈ ps := by rw [hps]; exact List.mem_cons_self
  show wpAny _ _ (field (.ref z) 2 >>= _) _ _ _
  refine wpAny_bind (wpAny_field hz rfl (x := .bool false) rfl ?_)
  show wpAny _ _ (field (.ref z) 3 >>= _) _ _ _
  refine wpAny_bind (wpAny_field hz rfl (x := .ref TI) rfl ?_)
  refine wpAny_bind (wpAny_seqItems hTI rfl ?_)
  have hne : (ps.map fun p => Value.ref p.1).toArray.isEmpty = false := by
    rw [hps]
    rfl
  simp only [hne, Bool.false_eq_true, if_false]
  have it1 := hits p hm
  have kz : ∀ h1, Heap.SameBut z s.heap h1 → h1.IsTupleIter p.1 p.2 k ∧ h1.IsTuple p.2 xs := fun h1 hs1 =>
    ⟨by obtain ⟨o, e, c⟩ := it1; exact ⟨o, (hs1.2 _ (D.pz p hm).1).trans e, c⟩, by obtain ⟨o, e, c⟩ := hl; exact ⟨o, (hs1.2 _ (D.pz p hm).2.2.2.1).trans e, c⟩⟩
  refine wpAny_bind (wpAny_mono (free_or hz hf0) (fun b s' hb => ?_) fun _ _ e => e)
  rcases hb with ⟨rfl, rfl⟩ | ⟨rfl, h1, f2, rfl, hz1, hs1⟩
  · simp only [if_true]
    refine wpAny_bind (wpAny_rule ?_)
    refine wpAny_bind (wpAny_field hz rfl (x := .ref TO) rfl ?_)
    refine wpAny_bind (wpAny_setField_rec hz (by simp) fun h1 hz1 hs1 => ?_)
    replace hz1 : h1.get? z = some (zObj .ellipsis f1 TI TO) := hz1
    obtain ⟨q1, q2⟩ := kz h1 hs1
    refine wpAny_bind ?_
    simp only [hps, List.map_cons, List.zipIdx_cons, List.forIn_cons]
    refine wpAny_bind (wpAny_bind (wpAny_onRaise ?_))
    show wpAny _ _ (Builtin.SmallTypes.nextOf (.ref p.1) >>= _) _ _ _
    refine wpAny_bind (RZ.nextOf_tuple_end (s := { s' with heap := h1 }) hh q1 q2 hx fun h2 e hs2 he => ?_)
    obtain ⟨oe, hoe, hce⟩ := he
    have hz2 : h2.get? z = some (zObj .ellipsis f1 TI TO) := hs2 _ _ (D.pz p hm).1.symm hz1
    have hez : e ≠ z := fun x => by
      subst x
      rw [hz2] at hoe
      cases hoe
      simp at hce
    refine wpAny_setField_rec hz2 (by simp) fun h3 _ hs3 => hE h3 e (fun c o c1 _ c3 x => (hs3.2 _ c1).trans (hs2 _ _ (c3 p hm) ((hs1.2 _ c1).trans x))) ⟨oe, (hs3.2 _ hez).trans hoe, hce⟩
  · simp only [Bool.false_eq_true, if_false, List.forIn_toArray]
    obtain ⟨q1, q2⟩ := kz h1 hs1
    refine wpAny_bind ?_
    simp only [hps, List.map_cons, List.forIn_cons]
    refine wpAny_bind (wpAny_bind (wpAny_holding ?_))
    show wpAny _ _ (Builtin.SmallTypes.nextOf (.ref p.1) >>= _) _ _ _
    refine wpAny_bind (RZ.nextOf_tuple_end (s := { s with heap := h1 }) hh q1 q2 hx fun h2 e hs2 he => hE h2 e (fun c o c1 _ c3 x => hs2 _ _ (c3 p hm) ((hs1.2 _ c1).trans x)) he)

theorem pyNext_zn_item {vs : List Value} {Q : Option Value → Shared → Prop} (D : ZApart z TI TO ps) (hn : 1 ≤ ps.length) (hn2 : ps.length ≤ 1000) (S : ZSt s.heap z TI TO ps k)
    (hv : vs.length = ps.length) (hi : ∀ (j : Nat) (p : Addr × Addr), ps[j]? = some p → ∃ xs, s.heap.IsTuple p.2 xs ∧ xs[k]? = vs[j]?)
    (hQ : ∀ h', ZSt h' z TI TO ps (k + 1) → h'.get? s.heap.objs.size = some (tObj vs.toArray) → h'.objs.size = s.heap.objs.size + 1 →
      (∀ c o, c ≠ z → c ≠ TO → (∀ p ∈ ps, c ≠ p.1) → s.heap.get? c = some o → h'.get? c = some o) → Q (some (.ref s.heap.objs.size)) { s with heap := h' }) :
    wpAny (model prog w) A (pyNext (.ref z)) Q E s := by
  obtain ⟨f0, f1, hz, hf0⟩ := S.zz
  have hT : s.TypeIs (.ref z) "zip" := ⟨_, hz, rfl⟩
  unfold pyNext
  exact wpAny_bind (wpAny_attempt (wpAny_callSpecial?_slot (name := Str.ofString "__next__") hT F.slot_zip_next
    (wpAny_call_entry F.slot_zip_next hT F.entry_zip_next (zn_item D hn hn2 S hv hi fun h' a1 a2 a3 a4 => wpAny_pure (hQ h' a1 a2 a3 a4)) (F.args_zip_next_1 _))))
theorem pyNext_zn_end {Q : Option Value → Shared → Prop} (hh : A.handled = none) (D : ZApart z TI TO ps) (S : ZSt s.heap z TI TO ps k) {p : Addr × Addr} {r : List (Addr × Addr)} {xs : Array Value}
    (hps : ps = p :: r) (hl : s.heap.IsTuple p.2 xs) (hx : xs[k]? = none)
    (hQ : ∀ h', (∀ c o, c ≠ z → c ≠ TO → (∀ p ∈ ps, c ≠ p.1) → s.heap.get? c = some o → h'.get? c = some o) → Q none { s with heap := h' }) :
    wpAny (model prog w) A (pyNext (.ref z)) Q E s := by
  obtain ⟨f0, f1, hz, hf0⟩ := S.zz
  have hT : s.TypeIs (.ref z) "zip" := ⟨_, hz, rfl⟩
  unfold pyNext
  refine wpAny_bind (wpAny_attempt (wpAny_callSpecial?_slot (name := Str.ofString "__next__") hT F.slot_zip_next
    (wpAny_call_entry F.slot_zip_next hT F.entry_zip_next (zn_end hh D S hps hl hx fun h' e hk he => ?_) (F.args_zip_next_1 _))))
  obtain ⟨o, ho, hc⟩ := he
  exact wpAny_bind (wpAny_isInstance (T := "StopIteration") (b := true) ⟨o, ho, hc⟩ isSubtype_stop (wpAny_pure (hQ _ hk)))

/-! ### zip of one to four tuples made -/
theorem typeCall_zipN : ∀ vs : List Value, 1 ≤ vs.length → vs.length ≤ 4 → checkTypeCall "zip" ⟨vs, []⟩ = pure ()
  | [a], _, _ => by kernel_rfl
  | [a, b], _, _ => by kernel_rfl
  | [a, b, c], _, _ => by kernel_rfl
  | [a, b, c, d], _, _ => by kernel_rfl
  | [], h, _ => by simp at h
  | _ :: _ :: _ :: _ :: _ :: _, _, h => by simp at h
theorem newCall_zipN : ∀ vs : List Value, 1 ≤ vs.length → vs.length ≤ 4 → checkBuiltinCall "zip.__new__" ⟨.type "zip" :: vs, []⟩ = pure ()
  | [a], _, _ => by kernel_rfl
  | [a, b], _, _ => by kernel_rfl
  | [a, b, c], _, _ => by kernel_rfl
  | [a, b, c, d], _, _ => by kernel_rfl
  | [], h, _ => by simp at h
  | _ :: _ :: _ :: _ :: _ :: _, _, h => by simp at h
theorem args_object_initN (o : Value) : ∀ vs : List Value, 1 ≤ vs.length → vs.length ≤ 4 → argsOk "object.__init__" ⟨o :: vs, []⟩
  | [a], _, _ => by
    unfold argsOk
    rw [signature?_of (id := "object.__init__") (n := ['_', '_', 't', 'i', 'n', 'i', '_', '_']) (o := ['t', 'c', 'e', 'j', 'b', 'o']) (by kernel_rfl) F.owner_object]
    kernel_rfl
  | [a, b], _, _ => by
    unfold argsOk
    rw [signature?_of (id := "object.__init__") (n := ['_', '_', 't', 'i', 'n', 'i', '_', '_']) (o := ['t', 'c', 'e', 'j', 'b', 'o']) (by kernel_rfl) F.owner_object]
    kernel_rfl
  | [a, b, c], _, _ => by
    unfold argsOk
    rw [signature?_of (id := "object.__init__") (n := ['_', '_', 't', 'i', 'n', 'i', '_', '_']) (o := ['t', 'c', 'e', 'j', 'b', 'o']) (by kernel_rfl) F.owner_object]
    kernel_rfl
  | [a, b, c, d], _, _ => by
    unfold argsOk
    rw [signature?_of (id := "object.__init__") (n := ['_', '_', 't', 'i', 'n', 'i', '_', '_']) (o := ['t', 'c', 'e', 'j', 'b', 'o']) (by kernel_rfl) F.owner_object]
    kernel_rfl
  | [], h, _ => by simp at h
  | _ :: _ :: _ :: _ :: _ :: _, _, h => by simp at h

theorem iterAll_tups {ls : List Addr} {Q : List Value → Shared → Prop} (hl : ∀ l ∈ ls, ∃ xs, s.heap.IsTuple l xs)
    (hQ : ∀ h' its, its.length = ls.length → (∀ i, i < ls.length → its[i]? = some (.ref (s.heap.objs.size + i))) → h'.objs.size = s.heap.objs.size + ls.length →
      (∀ c o, s.heap.get? c = some o → h'.get? c = some o) → (∀ (i : Nat) (l : Addr), ls[i]? = some l → h'.IsTupleIter (s.heap.objs.size + i) l 0) → Q its { s with heap := h' }) :
    wpAny (model prog w) A (Builtin.SmallTypes.iterAll (ls.map Value.ref)) Q E s := by
  unfold Builtin.SmallTypes.iterAll
  refine wpAny_bind (thn (wp_forIn _ _ (fun j (b : Array Value) s2 => b.size = j ∧ (∀ i, i < j → b[i]? = some (.ref (s.heap.objs.size + i))) ∧ ∃ h, s2 = { s with heap := h } ∧ h.objs.size = s.heap.objs.size + j ∧
    (∀ c o, s.heap.get? c = some o → h.get? c = some o) ∧ ∀ (i : Nat) (l : Addr), i < j → ls[i]? = some l → h.IsTupleIter (s.heap.objs.size + i) l 0) ?step _ _ ?init) fun b s2 hb => ?last)
  case init => exact ⟨rfl, fun i hi => absurd hi (Nat.not_lt_zero _), s.heap, rfl, rfl, fun _ _ e => e, fun i _ hi => absurd hi (Nat.not_lt_zero _)⟩
  case step =>
    rintro j x b s2 hx ⟨hbs, hb, h, rfl, hsz, hk, hit⟩
    rw [List.getElem?_map] at hx
    cases hp : ls[j]? with
    | none =>
      rw [hp] at hx
      cases hx
    | some l =>
      rw [hp] at hx
      obtain rfl : Value.ref l = x := Option.some.inj hx
      obtain ⟨xs, ol, e, c⟩ := hl l (List.mem_of_getElem? hp)
      refine wpAny_bind (wpAny_holding (wpAny_pyIter_tuple (s := { s with heap := h }) ⟨ol, hk _ _ e, c⟩ ?_))
      refine wpAny_pure ⟨_, rfl, by rw [Array.size_push, hbs], fun i hij => ?_, _, rfl, by rw [Heap.size_push, hsz]; omega, fun c o e => Heap.get?_push_of_some _ (hk c o e), fun i l' hij hl' => ?_⟩
      · show (b.push (Value.ref h.objs.size))[i]? = _
        rw [Array.getElem?_push]
        by_cases e : i = b.size
        · rw [if_pos e, hsz, e, hbs]
        · rw [if_neg e]
          exact hb i (by omega)
      · by_cases e : i = j
        · subst e
          rw [hp] at hl'
          cases hl'
          refine ⟨{ cls := .type "tuple_iterator", data := .fields #[.ref l, .int 0 0] }, ?_, rfl, rfl⟩
          rw [← hsz]
          exact Heap.get?_push_size _ rfl
        · obtain ⟨o, e1, c⟩ := hit i l' (by omega) hl'
          exact ⟨o, Heap.get?_push_of_some _ e1, c⟩
  case last =>
    obtain ⟨hbs, hb, h, rfl, hsz, hk, hit⟩ := hb
    rw [List.length_map] at hbs hb hsz hit
    refine wpAny_pure (hQ h b.toList (by rw [Array.length_toList]; exact hbs) (fun i hi => by rw [Array.getElem?_toList]; exact hb i hi) hsz hk fun i l e => ?_)
    exact hit i l (List.getElem?_eq_some_iff.mp e).1 e

theorem zip_newN {ls : List Addr} {Q : Value → Shared → Prop} (h1 : 1 ≤ ls.length) (h2 : ls.length ≤ 4) (hl : ∀ l ∈ ls, ∃ xs, s.heap.IsTuple l xs)
    (hQ : ∀ h' n, n = s.heap.objs.size → ZSt h' (n + ls.length + 2) (n + ls.length) (n + ls.length + 1) (ls.zipIdx.map fun x => (n + x.2, x.1)) 0 → h'.objs.size = n + ls.length + 3 →
      (∀ c o, s.heap.get? c = some o → h'.get? c = some o) → Q (.ref (n + ls.length + 2)) { s with heap := h' }) :
    wpAny (model prog w) A (Builtin.«zip.__new__» ⟨.type "zip" :: ls.map Value.ref, []⟩) (fun fin s' => ∃ v, fin = .done (.ret v) ∧ Q v s') E s := by
  have hsub := sub_zip
  have hc : wpAny (model prog w) A (Builtin.SmallTypes.newClass "zip" ⟨.type "zip" :: ls.map Value.ref, []⟩) (fun r s' => r = (.type "zip", ls.map Value.ref) ∧ s' = s) E s := by
    unfold Builtin.SmallTypes.newClass
    wp_walk
    exact ⟨rfl, rfl⟩
  unfold Builtin.«zip.__new__»
  refine wpAny_bind (thn hc ?_)
  rintro _ _s ⟨rfl, rfl⟩
  show wpAny _ _ (Builtin.SmallTypes.iterAll (ls.map Value.ref) >>= _) _ _ _
  refine wpAny_bind (iterAll_tups hl fun h1' its hil hi hsz hk hit => ?_)
  have hsl : its.length ≤ sizeLine := by rw [hil, sizeLine_eq]; omega
  refine wpAny_bind (wpAny_newTuple ?_ hsl)
  refine wpAny_bind (wpAny_newTuple ?_ (by rw [List.length_map]; exact hsl))
  refine wpAny_bind ?_
  unfold Builtin.SmallTypes.newRecord
  refine wpAny_newObj_type ?_ (show (5 : Nat) ≤ sizeLine + 2 by rw [sizeLine_eq]; omega)
  refine wpAny_pure ⟨_, rfl, ?_⟩
  have z1 : (h1'.push (tObj its.toArray)).objs.size = h1'.objs.size + 1 := Heap.size_push ..
  have z2 : ((h1'.push (tObj its.toArray)).push (tObj (its.map fun _ => Value.none).toArray)).objs.size = h1'.objs.size + 2 := by rw [Heap.size_push, z1]
  have fin : Q (.ref ((h1'.push (tObj its.toArray)).push (tObj (its.map fun _ => Value.none).toArray)).objs.size)
      { _s with heap := ((h1'.push (tObj its.toArray)).push (tObj (its.map fun _ => Value.none).toArray)).push (zObj .none (.bool false) h1'.objs.size (h1'.push (tObj its.toArray)).objs.size) } := by
    rw [z2, z1, hsz]
    refine hQ _ _ rfl ⟨⟨.none, .bool false, ?_, .inl rfl⟩, ?_, ⟨(its.map fun _ => Value.none).toArray, ?_, ?_⟩, fun p hp => ?_⟩ ?_ fun c o e => Heap.get?_push_of_some _ (Heap.get?_push_of_some _ (Heap.get?_push_of_some _ (hk c o e)))
    · rw [← hsz, ← z2]
      exact Heap.get?_push_size _ rfl
    · have e : its = (ls.zipIdx.map fun x => (_s.heap.objs.size + x.2, x.1)).map fun p => Value.ref p.1 := by
        refine List.ext_getElem? fun i => ?_
        rw [List.map_map, List.getElem?_map, List.getElem?_zipIdx]
        by_cases hlt : i < ls.length
        · rw [hi i hlt, List.getElem?_eq_getElem hlt]
          simp
        · rw [List.getElem?_eq_none (by omega), List.getElem?_eq_none (by omega)]
          rfl
      rw [← e, ← hsz]
      exact Heap.get?_push_of_some _ (Heap.get?_push_of_some _ (Heap.get?_push_size _ rfl))
    · simp [hil]
    · rw [← hsz, ← z1]
      exact Heap.get?_push_of_some _ (Heap.get?_push_size _ rfl)
    · obtain ⟨x, hx, rfl⟩ := List.mem_map.mp hp
      obtain ⟨i, hxi⟩ := List.mem_iff_getElem?.mp hx
      rw [List.getElem?_zipIdx] at hxi
      cases hl' : ls[i]? with
      | none =>
        rw [hl'] at hxi
        cases hxi
      | some l =>
        rw [hl'] at hxi
        obtain rfl : (l, 0 + i) = x := Option.some.inj hxi
        obtain ⟨o, e, c⟩ := hit i l hl'
        refine ⟨o, ?_, c⟩
        show Heap.get? _ (_s.heap.objs.size + (0 + i)) = some o
        rw [Nat.zero_add]
        exact Heap.get?_push_of_some _ (Heap.get?_push_of_some _ (Heap.get?_push_of_some _ e))
    · rw [Heap.size_push, z2, hsz]
  exact fin
end
end DD
namespace DD
open PySem PySem.Spec PyProof.Rows L2

/-- the iterators that zip(*ls) makes at n -/
def zps (n : Nat) (ls : List Addr) : List (Addr × Addr) := ls.zipIdx.map fun x => (n + x.2, x.1)
theorem zps_length (n : Nat) (ls : List Addr) : (zps n ls).length = ls.length := by simp [zps]
theorem zps_get (n : Nat) (ls : List Addr) (j : Nat) : (zps n ls)[j]? = (ls[j]?).map fun a => (n + j, a) := by
  unfold zps
  rw [List.getElem?_map, List.getElem?_zipIdx]
  cases ls[j]? with
  | none => rfl
  | some a => simp
theorem zps_mem {n : Nat} {ls : List Addr} {p : Addr × Addr} (h : p ∈ zps n ls) : ∃ j, j < ls.length ∧ ls[j]? = some p.2 ∧ p.1 = n + j := by
  obtain ⟨j, hj⟩ := List.mem_iff_getElem?.mp h
  rw [zps_get] at hj
  cases e : ls[j]? with
  | none => rw [e] at hj; cases hj
  | some a =>
    rw [e] at hj
    obtain rfl : (n + j, a) = p := Option.some.inj hj
    exact ⟨j, (List.getElem?_eq_some_iff.mp e).1, e, rfl⟩
theorem nat5 {a b n j L : Nat} (h3 : b < n) (h4 : a = n + j) (hj : j < L) : a ≠ n + L + 2 ∧ a ≠ n + L ∧ a ≠ n + L + 1 ∧ b ≠ n + L + 2 ∧ b ≠ n + L + 1 := by omega
theorem nat6 {a b n i : Nat} (h3 : b < n) (h4 : a = n + i) : b ≠ a := by omega
theorem zapart {n : Nat} {ls : List Addr} (h : ∀ l ∈ ls, l < n) : ZApart (n + ls.length + 2) (n + ls.length) (n + ls.length + 1) (zps n ls) where
  tz := Nat.ne_of_lt (show (n : Nat) + ls.length < n + ls.length + 2 by omega)
  oz := Nat.ne_of_lt (show (n : Nat) + ls.length + 1 < n + ls.length + 2 by omega)
  it := Nat.ne_of_lt (show (n : Nat) + ls.length < n + ls.length + 1 by omega)
  nd := by
    have e : (zps n ls).map (·.1) = (List.range ls.length).map (n + ·) := by
      refine List.ext_getElem? fun i => ?_
      rw [List.getElem?_map, zps_get, List.getElem?_map]
      by_cases hi : i < ls.length
      · rw [List.getElem?_eq_getElem hi, List.getElem?_range hi]
        rfl
      · rw [List.getElem?_eq_none (by omega), List.getElem?_eq_none (by simp; omega)]
        rfl
    rw [e]
    exact List.Pairwise.map _ (fun a b h e => h (Nat.add_left_cancel e)) List.nodup_range
  pz := fun p hp => by
    obtain ⟨j, hj, e, ep⟩ := zps_mem hp
    exact nat5 (h p.2 (List.mem_of_getElem? e)) ep hj
  px := fun p hp q hq => by
    obtain ⟨j, hj, e, ep⟩ := zps_mem hp
    obtain ⟨i, hi, e2, ep2⟩ := zps_mem hq
    exact nat6 (h p.2 (List.mem_of_getElem? e)) ep2

section
variable {prog : Program} {w : World} {A : Around} {E : Value → Shared → Prop} {s : Shared}
theorem call_zipN {ls : List Addr} {Q : Value → Shared → Prop} (h1 : 1 ≤ ls.length) (h2 : ls.length ≤ 4) (hl : ∀ l ∈ ls, ∃ xs, s.heap.IsTuple l xs)
    (hQ : ∀ h' n, n = s.heap.objs.size → ZSt h' (n + ls.length + 2) (n + ls.length) (n + ls.length + 1) (zps n ls) 0 → h'.objs.size = n + ls.length + 3 →
      (∀ c o, s.heap.get? c = some o → h'.get? c = some o) → Q (.ref (n + ls.length + 2)) { s with heap := h' }) :
    wpAny (model prog w) A (call (.type "zip") (ls.map Value.ref)) Q E s := by
  have m : Meets (Builtin.«zip.__new__» ⟨.type "zip" :: ls.map Value.ref, []⟩) (fun _ R s => (∀ l ∈ ls, ∃ xs, s.heap.IsTuple l xs) ∧
      ∀ h' n, n = s.heap.objs.size → ZSt h' (n + ls.length + 2) (n + ls.length) (n + ls.length + 1) (zps n ls) 0 → h'.objs.size = n + ls.length + 3 →
        (∀ c o, s.heap.get? c = some o → h'.get? c = some o) → R (.ok (.ret (.ref (n + ls.length + 2)))) { s with heap := h' }) :=
    .of_wp fun prog w A R s h => zip_newN h1 h2 h.1 h.2
  refine callType_new F.called_zip (by decide) (typeCall_zipN _ (by simpa using h1) (by simpa using h2)) (newCall_zipN _ (by simpa using h1) (by simpa using h2))
    (fun obj => args_object_initN obj _ (by simpa using h1) (by simpa using h2)) F.entry_zip_new m ⟨hl, fun h' n e1 e2 e3 e4 => ?_⟩
  obtain ⟨f0, f1, hz, _⟩ := e2.zz
  exact ⟨⟨_, hz, rfl⟩, hQ h' n e1 e2 e3 e4⟩
theorem pyIter_zn {z TI TO : Addr} {ps : List (Addr × Addr)} {k : Nat} {Q : Value → Shared → Prop} (S : ZSt s.heap z TI TO ps k) (h : Q (.ref z) s) : wpAny (model prog w) A (pyIter (.ref z)) Q E s := by
  obtain ⟨f0, f1, hz, _⟩ := S.zz
  have hT : s.TypeIs (.ref z) "zip" := ⟨_, hz, rfl⟩
  refine wpAny_pyIter_slot hT F.slot_zip_iter (wpAny_call_entry F.slot_zip_iter hT F.entry_zip_iter ?_ (F.args_zip_iter_1 _))
  exact (show wpAny _ _ (ret (.ref z)) _ _ s from wpAny_pure ⟨_, rfl, "zip", _, hT, F.slot_zip_next.lookup, h⟩)
end

/-- the tuples at ls hold rows, all of length m -/
structure Rws (K : PySem.W.Frag) (H : Hp) (ls : List Addr) (rows : List (List V)) (m : Nat) : Prop where
  len : ls.length = rows.length
  at_ : ∀ (j : Nat) (a : Addr) (r : List V), ls[j]? = some a → rows[j]? = some r → SqT K H a r ∧ r.length = m
def colV (rows : List (List V)) (i : Nat) : List V := rows.map fun r => r.getD i .non
def ItzN (K : PySem.W.Frag) (ls : List Addr) (rows : List (List V)) (m : Nat) : It :=
  ⟨fun i H => i < m ∧ Rws K H ls rows m, fun i H v H' => ∃ T, v = .ref T ∧ H T = none ∧ H' = upd H T (.tup (colV rows i)), fun i H => i = m ∧ Rws K H ls rows m⟩

theorem Rws.vals {X : Cx} {pins : List (Addr × Obj)} {σ : L2.St} {H : Hp} {s : Shared} {m i : Nat} (I : Inv X pins σ H s) (hi : i < m) : ∀ {ls : List Addr} {rows : List (List V)}, Rws X.K H ls rows m →
    ∃ us : List Value, Vals (colV rows i) us ∧ ∀ (j : Nat) (a : Addr), ls[j]? = some a → ∃ xs, s.heap.IsTuple a xs ∧ xs[i]? = us[j]?
  | [], [], _ => ⟨[], .nil, fun j a e => by simp at e⟩
  | [], _ :: _, R => by have := R.len; simp at this
  | _ :: _, [], R => by have := R.len; simp at this
  | a :: ls, r :: rows, R => by
    obtain ⟨us, h1, h2⟩ := Rws.vals I hi (ls := ls) (rows := rows) ⟨by have := R.len; simpa using this, fun j a' r' e1 e2 => R.at_ (j + 1) a' r' e1 e2⟩
    obtain ⟨q, hl⟩ := R.at_ 0 a r rfl rfl
    obtain ⟨its, rv, p, _⟩ := I.tuple q
    have hr : r[i]? = some (r.getD i .non) := by
      rw [List.getD_eq_getElem?_getD, List.getElem?_eq_getElem (by omega)]
      rfl
    obtain ⟨u, hu, ru⟩ := rv.get hr
    obtain ⟨o, ho, hc, n, hd⟩ := p
    refine ⟨u :: us, .cons ru h1, fun j a' e => ?_⟩
    cases j with
    | zero =>
      obtain rfl : a = a' := Option.some.inj e
      exact ⟨its.toArray, ⟨o, ho, hc, n, hd⟩, by simpa using hu⟩
    | succ j => exact h2 j a' e

theorem turn_zn {P : Program} {w : World} {K : PySem.W.Frag} {x : Str} {xp : Pos} {n m : Nat} {ls : List Addr} {rows : List (List V)} (h1 : 1 ≤ ls.length) (h2 : ls.length ≤ 4) (hlt : ∀ l ∈ ls, l < n) :
    Turn P w K (.Name x xp) (ItzN K ls rows m) ((n + ls.length + 2) :: (n + ls.length) :: (n + ls.length + 1) :: (zps n ls).map (·.1)) (n + ls.length + 2)
      (fun i h => ZSt h (n + ls.length + 2) (n + ls.length) (n + ls.length + 1) (zps n ls) i) where
  mem := List.mem_cons_self
  obj := fun i h S b hb => by
    obtain ⟨⟨f0, f1, hz, _⟩, hTI, ⟨arr, _, hTO⟩, hits⟩ := S
    rcases List.mem_cons.mp hb with rfl | hb
    · exact ⟨_, hz, fun v q => nomatch q⟩
    rcases List.mem_cons.mp hb with rfl | hb
    · exact ⟨_, hTI, fun v q => nomatch q⟩
    rcases List.mem_cons.mp hb with rfl | hb
    · exact ⟨_, hTO, fun v q => nomatch q⟩
    obtain ⟨p, hp, rfl⟩ := List.mem_map.mp hb
    obtain ⟨o, e, _, d⟩ := hits p hp
    exact ⟨o, e, fun v q => by rw [d] at q; cases q⟩
  keep := fun i h h' S k => by
    obtain ⟨⟨f0, f1, hz, hf⟩, hTI, ⟨arr, ha, hTO⟩, hits⟩ := S
    refine ⟨⟨f0, f1, k _ (by simp) _ hz, hf⟩, k _ (by simp) _ hTI, ⟨arr, ha, k _ (by simp) _ hTO⟩, fun p hp => ?_⟩
    obtain ⟨o, e, c⟩ := hits p hp
    exact ⟨o, k _ (by
      refine List.mem_cons_of_mem _ (List.mem_cons_of_mem _ (List.mem_cons_of_mem _ ?_))
      exact List.mem_map_of_mem hp) _ e, c⟩
  item := by
    intro X hP hw hK hc i pins s σ H E I hf S hg
    subst hP hw hK
    obtain ⟨hi, R⟩ := hg
    obtain ⟨us, hv, hx⟩ := R.vals I hi
    have hul : us.length = ls.length := by rw [← hv.length, R.len]; simp [colV]
    have D := zapart hlt
    refine pyNext_zn_item D (by rw [zps_length]; exact h1) (by rw [zps_length]; omega) S (vs := us) (by rw [zps_length]; exact hul) (fun j p e => ?_) fun h' S' hT hsz hk => ?_
    · rw [zps_get] at e
      cases ea : ls[j]? with
      | none => rw [ea] at e; cases e
      | some a =>
        rw [ea] at e
        obtain rfl : (n + j, a) = p := Option.some.inj e
        exact hx j a ea
    · refine ⟨_, rfl, ?_⟩
      have hcl : (colV rows i).length ≤ sizeLine := by
        rw [hv.length, hul, sizeLine_eq]
        omega
      have new : ObjOk X.prog X.w (upd H s.heap.objs.size (.tup (colV rows i))) h' s.heap.objs.size (.tup (colV rows i)) := ⟨hcl, us, hv, ⟨_, hT, rfl, _, rfl⟩⟩
      have I1 : Inv X pins σ (upd H s.heap.objs.size (.tup (colV rows i))) { s with heap := h' } :=
        I.turnedNew (t' := s.toks) (fun c o hb q => hk c o (fun z => hb (by simp [z])) (fun z => hb (by simp [z])) (fun p hp z => hb (by
          refine List.mem_cons_of_mem _ (List.mem_cons_of_mem _ (List.mem_cons_of_mem _ ?_))
          rw [z]
          exact List.mem_map_of_mem hp)) q) hf (Nat.le_refl _) new
      show wpAny _ _ (pure ()) _ _ _
      refine wpAny_pure ⟨.ref s.heap.objs.size, _, I1, rfl, ⟨_, rfl, I.hok.fresh (Nat.le_refl _), rfl⟩, S', fun c hcm => ?_⟩
      obtain ⟨o, ho, _⟩ : ∃ o, s.heap.get? c = some o ∧ True := by
        obtain ⟨⟨f0, f1, hz, _⟩, hTI, ⟨arr, _, hTO⟩, hits⟩ := S
        rcases List.mem_cons.mp hcm with rfl | hcm
        · exact ⟨_, hz, trivial⟩
        rcases List.mem_cons.mp hcm with rfl | hcm
        · exact ⟨_, hTI, trivial⟩
        rcases List.mem_cons.mp hcm with rfl | hcm
        · exact ⟨_, hTO, trivial⟩
        obtain ⟨p, hp, rfl⟩ := List.mem_map.mp hcm
        obtain ⟨o, e, _⟩ := hits p hp
        exact ⟨o, e, trivial⟩
      rw [upd_ne (Nat.ne_of_lt (Heap.lt_size ho))]
      exact (hf c hcm).1
  done := by
    intro X hP hw hK hc i pins s σ H E I hf S hg
    subst hP hw hK
    obtain ⟨rfl, R⟩ := hg
    cases hls : ls with
    | nil => rw [hls] at h1; simp at h1
    | cons a r =>
      cases hrw : rows with
      | nil => have := R.len; rw [hls, hrw] at this; simp at this
      | cons q rr =>
        obtain ⟨hq, hl⟩ := R.at_ 0 a q (by rw [hls]; rfl) (by rw [hrw]; rfl)
        obtain ⟨its, rv, ⟨o, ho, hc', n', hd⟩, _⟩ := I.tuple hq
        have hps : zps n ls = (n, a) :: (zps n ls).tail := by
          rw [hls]
          simp [zps]
        rw [← hls]
        refine pyNext_zn_end (I.ok.hd hc) (zapart hlt) S hps (xs := its.toArray) ⟨o, ho, hc', n', hd⟩ ?_ fun h' hk => ⟨rfl, ?_⟩
        · have := rv.length
          rw [List.getElem?_toArray, List.getElem?_eq_none (by omega)]
        · exact I.turnedL (t' := s.toks) (fun c o hb q => hk c o (fun z => hb (by simp [z])) (fun z => hb (by simp [z])) (fun p hp z => hb (by
            refine List.mem_cons_of_mem _ (List.mem_cons_of_mem _ (List.mem_cons_of_mem _ ?_))
            rw [z]
            exact List.mem_map_of_mem hp)) q) hf
  self := fun A i s Q E S h => pyIter_zn S h

/-- for x in zip(*e), e a list or tuple of one to four tuples of one length -/
def iZipS (K : PySem.W.Frag) (te : TE) : TI := fun σ H R => te σ H fun y H1 => ∃ (a : Addr) (ls : List Addr) (rows : List (List V)) (m : Nat), y = .ref a ∧ (SqT K H1 a (ls.map V.ref) ∨ SqL K H1 a (ls.map V.ref)) ∧
  1 ≤ ls.length ∧ ls.length ≤ 4 ∧ Rws K H1 ls rows m ∧ R (ItzN K ls rows m) H1
theorem vals_refs : ∀ {ls : List Addr} {us : List Value}, Vals (ls.map V.ref) us → us = ls.map Value.ref
  | [], _, .nil => rfl
  | a :: ls, _, .cons r t => by
    cases r
    rw [vals_refs t]
    rfl
theorem pi_zipS {X : Cx} {e : Expr} {te : TE} {p pos spos xp : Pos} {x : Str} (hg : Gl X "zip") (hm : X.mg "zip" = none) (he : PE X e te)
    (hst : starEach [.Starred e spos] X.env = [(true, eval e X.env)] := by rfl) :
    PI X (.Name x xp) (.Call (.Name "zip" p) [.Starred e spos] [] pos) (iZipS X.K te) := by
  refine ⟨fun pins s σ H R I h => ?_⟩
  refine wpAny_Call_Name_kw (ld_blt I hg hm PyProof.Rows.boot_zip ?_)
  rw [hst]
  refine PySem.W.ks_call (P := fun _ => True) rfl (fun h _ => ⟨.machine, .inr (.inl rfl), fun A Q E s _ q => wpAny_pure q⟩) (PySem.W.ks_lone ?_)
  refine thn (he.run pins s σ H _ I h) fun v s1 ⟨y, H1, I1, ry, a, ls, rows, m, ey, hx, h1, h2, Rw, q⟩ => ?_
  subst ey
  obtain rfl : v = Value.ref a := ry
  refine StX.star_any I1 hx fun us s2 I2 rv => ⟨trivial, ?_⟩
  obtain rfl := vals_refs rv
  have tup : ∀ l ∈ ls, ∃ xs, s2.heap.IsTuple l xs := fun l hl => by
    obtain ⟨j, hj⟩ := List.mem_iff_getElem?.mp hl
    have hjl := (List.getElem?_eq_some_iff.mp hj).1
    have hjr : rows[j]? = some (rows[j]'(by have := Rw.len; omega)) := List.getElem?_eq_getElem (by have := Rw.len; omega)
    obtain ⟨its, _, ⟨o, ho, hc, n, hd⟩, _⟩ := I2.tuple (Rw.at_ j l _ hj hjr).1
    exact ⟨its.toArray, o, ho, hc, n, hd⟩
  refine call_zipN h1 h2 tup fun h' n en S hsz hk => ?_
  have I3 : Inv X pins σ H1 { s2 with heap := h' } := I2.kept (t' := s2.toks) hk
  have hlt : ∀ l ∈ ls, l < n := fun l hl => by
    obtain ⟨xs, o, ho, _⟩ := tup l hl
    rw [en]
    exact Heap.lt_size ho
  refine pyIter_zn (s := { s2 with heap := h' }) S ⟨n + ls.length + 2, _, _, _, H1, rfl, I3, turn_zn h1 h2 hlt, S, fun b hb => ?_, q⟩
  have hle : s2.heap.objs.size ≤ b := by
    rw [← en]
    rcases List.mem_cons.mp hb with rfl | hb
    · omega
    rcases List.mem_cons.mp hb with rfl | hb
    · omega
    rcases List.mem_cons.mp hb with rfl | hb
    · omega
    obtain ⟨p, hp, rfl⟩ := List.mem_map.mp hb
    obtain ⟨j, _, _, e⟩ := zps_mem hp
    exact Nat.le_trans (Nat.le_add_right n j) (Nat.le_of_eq e.symm)
  have F := I2.fpOk hle (I2.hok.fresh hle)
  exact F
end DD
namespace DD
open PySem PySem.Spec PyProof.Rows L2
theorem draws_tup {prog : Program} {w : World} {A : Around} (hh : A.handled = none) (it t : Addr) (items : Array Value) (hne : t ≠ it) :
    Draws prog w A it [it, t] items.size (fun i v => items[i]? = some v) (fun i h => h.IsTupleIter it t i ∧ h.IsTuple t items) where
  live := fun i h S => by
    obtain ⟨⟨o, e, _⟩, _⟩ := S
    exact ⟨o, e⟩
  frame := fun i h h' S k => by
    obtain ⟨⟨o, e, c⟩, ⟨o2, e2, c2⟩⟩ := S
    exact ⟨⟨o, k it (by simp) o e, c⟩, ⟨o2, k t (by simp) o2 e2, c2⟩⟩
  item := fun i s Q E hi S hQ => by
    obtain ⟨S1, S2⟩ := S
    refine RZ.nextOf_tuple_item S1 S2 (x := items[i]) (by simp [hi]) fun h' hit hs => hQ _ h' s.toks (by simp [hi]) ⟨hit, ?_⟩ hs
    obtain ⟨o, e, c⟩ := S2
    exact ⟨o, (hs.2 _ hne).trans e, c⟩
  done := fun s Q E S hE => by
    obtain ⟨S1, S2⟩ := S
    exact RZ.nextOf_tuple_end hh S1 S2 (by simp) hE
theorem meets_enum_newT (l : Addr) (items : Array Value) : Meets (Builtin.«enumerate.__new__» ⟨[.type "enumerate", .ref l], []⟩) (fun _ R s => s.heap.IsTuple l items ∧
      R (.ok (.ret (.ref (s.heap.push { cls := .type "tuple_iterator", data := .fields #[.ref l, .int 0 0] }).objs.size)))
        { s with heap := (s.heap.push { cls := .type "tuple_iterator", data := .fields #[.ref l, .int 0 0] }).push { cls := .type "enumerate", data := .fields #[.none, .bool false, .ref s.heap.objs.size, rawInt 0, .none, .none] } }) :=
  .of_wp fun prog w A R s h => by
    obtain ⟨hp, g, d, tk, os⟩ := s
    obtain ⟨hT, h⟩ := h
    obtain ⟨oL, hoL, hcL, nL, hdL⟩ := id hT
    have hsub := sub_enumerate
    have hT' : Heap.IsTuple (Shared.heap ⟨hp, g, d, tk, os⟩) l items := hT
    wp_walk
    refine wpAny_stack_any fun st => wpAny_pure ?_
    split
    · rename_i c _ _ _ _ _
      cases (c == Value.type "enumerate")
      · wp_walk using wpAny_pyIter_tuple hT'
        exact ⟨_, rfl, h⟩
      · wp_walk using wpAny_pyIter_tuple hT'
        exact ⟨_, rfl, h⟩
    · wp_walk using wpAny_pyIter_tuple hT'
      exact ⟨_, rfl, h⟩
section
variable {prog : Program} {w : World} {A : Around} {E : Value → Shared → Prop} {s : Shared}
theorem call_enumT {l : Addr} {items : Array Value} {Q : Value → Shared → Prop} (hT : s.heap.IsTuple l items)
    (h : ∀ h', IsEnum h' (s.heap.objs.size + 1) s.heap.objs.size 0 .none → h'.IsTupleIter s.heap.objs.size l 0 →
      (∀ b o, s.heap.get? b = some o → h'.get? b = some o) → Q (.ref (s.heap.objs.size + 1)) { s with heap := h' }) :
    wpAny (model prog w) A (call (.type "enumerate") [.ref l]) Q E s := by
  refine callType_new F.called_enumerate (by decide) (F.typeCall_enumerate_1 _) (F.newCall_enumerate_1 _) (fun obj => F.args_object_init_2 obj _) F.entry_enumerate_new
    (meets_enum_newT l items) ⟨hT, ?_⟩
  have hz : (s.heap.push { cls := .type "tuple_iterator", data := .fields #[.ref l, .int 0 0] }).objs.size = s.heap.objs.size + 1 := Heap.size_push ..
  have he : IsEnum ((s.heap.push { cls := .type "tuple_iterator", data := .fields #[.ref l, .int 0 0] }).push
      { cls := .type "enumerate", data := .fields #[.none, .bool false, .ref s.heap.objs.size, rawInt 0, .none, .none] }) (s.heap.objs.size + 1) s.heap.objs.size 0 .none := by
    have q := Heap.get?_push_size (s.heap.push { cls := .type "tuple_iterator", data := .fields #[.ref l, .int 0 0] })
      (o := { cls := .type "enumerate", data := .fields #[.none, .bool false, .ref s.heap.objs.size, rawInt 0, .none, .none] }) rfl
    rw [hz] at q
    exact q
  show _ ∧ _
  rw [hz]
  exact ⟨⟨_, he, rfl⟩, h _ he ⟨_, Heap.get?_push_of_some _ (Heap.get?_push_size _ rfl), rfl, rfl⟩ fun b o x => Heap.get?_push_of_some _ (Heap.get?_push_of_some _ x)⟩
end

/-- the tuple at a, its items in new pairs, counted from c -/
def ItEnT (K : PySem.W.Frag) (a : Addr) (c : Int) : It :=
  ⟨fun i H => ∃ (xs : List V) (x : V), SqT K H a xs ∧ xs[i]? = some x,
    fun i H v H' => ∃ T x, v = .ref T ∧ H T = none ∧ H' = upd H T (.tup [.int (c + (i : Nat)), x]) ∧ ∀ xs, SqT K H a xs → xs[i]? = some x,
    fun i H => ∃ xs : List V, SqT K H a xs ∧ xs.length ≤ i⟩
theorem turn_enT {P : Program} {w : World} {K : PySem.W.Frag} {elts : List Expr} {kk : Nat} {tpos : Pos} (a e it : Addr) (c : Int) :
    Turn P w K (.Tuple elts kk tpos) (ItEnT K a c) [e, it] e (fun i h => (∃ old, IsEnum h e it (c + ((i : Nat) : Int)) old) ∧ h.IsTupleIter it a i ∧ e ≠ it) where
  mem := by simp
  obj := fun i h S b hb => by
    obtain ⟨⟨old, he⟩, ⟨o, ho, hc, hd⟩, _⟩ := S
    rcases List.mem_cons.mp hb with rfl | hb
    · exact ⟨_, he, fun v q => nomatch q⟩
    · rw [List.mem_singleton.mp hb]
      exact ⟨o, ho, fun v q => by rw [hd] at q; cases q⟩
  keep := fun i h h' S k => by
    obtain ⟨⟨old, he⟩, ⟨o, ho, r⟩, hne⟩ := S
    exact ⟨⟨old, k e (by simp) _ he⟩, ⟨o, k it (by simp) _ ho, r⟩, hne⟩
  item := by
    intro X hP hw hK hcalm i pins s σ H E I hf S hg
    subst hP hw hK
    obtain ⟨⟨old, he⟩, hit, hne⟩ := S
    obtain ⟨xs, x, hq, hx⟩ := hg
    obtain ⟨its, rv, ⟨oa, hoa, hca, na, hda⟩, _⟩ := I.tuple hq
    obtain ⟨u, hu, ru⟩ := rv.get hx
    obtain ⟨oi, hoi, hci, hdi⟩ := id hit
    have hai : a ≠ it := fun z => by
      rw [z, hoi] at hoa
      cases hoa
      rw [hca] at hci
      simp at hci
    have hea : e ≠ a := fun z => by
      have he2 := he
      unfold IsEnum at he2
      rw [z, hoa] at he2
      cases he2
      simp at hca
    have hef : e ∉ [it, a] := fun z => by
      rcases List.mem_cons.mp z with z | z
      · exact hne z
      · exact hea (List.mem_singleton.mp z)
    have hel : e < s.heap.objs.size := Heap.lt_size he
    have hil : it < s.heap.objs.size := Heap.lt_size hoi
    have D := draws_tup (prog := X.prog) (w := X.w) (A := X.A.in1) (I.ok.hd hcalm) it a its.toArray hai
    have hlt : i < its.toArray.size := by
      have := (List.getElem?_eq_some_iff.mp hu).1
      simpa using this
    refine wpAny_pyNext_enum_itemC D he ⟨hit, ⟨oa, hoa, hca, na, hda⟩⟩ hlt hne hef fun y h' tk hy ho hit' hT hsz hk => ?_
    obtain rfl : u = y := by
      have : its.toArray[i]? = some u := by simpa using hu
      rw [this] at hy
      exact Option.some.inj hy
    refine ⟨_, rfl, wpAny_letOwnedTupleGo_enum (s := { s with heap := h', toks := tk + 1 }) ho fun h'' he' sb => ?_⟩
    have hT2 : h''.get? s.heap.objs.size = some { cls := .type "tuple", data := .seq #[.int (c + (i : Nat)) tk, u] } := (sb.2 _ (Nat.ne_of_gt hel)).trans hT
    have new : ObjOk X.prog X.w (upd H s.heap.objs.size (.tup [.int (c + (i : Nat)), x])) h'' s.heap.objs.size (.tup [.int (c + (i : Nat)), x]) :=
      ⟨by show 2 ≤ sizeLine; decide, [.int (c + (i : Nat)) tk, u], .cons ⟨_, rfl⟩ (.cons ru .nil), ⟨_, hT2, rfl, _, rfl⟩⟩
    have I1 : Inv X pins σ (upd H s.heap.objs.size (.tup [.int (c + (i : Nat)), x])) { s with heap := h'', toks := tk + 1 } :=
      I.turnedNew (ch := [e, it]) (fun b ob hb q => (sb.2 b (fun z => hb (by simp [z]))).trans (hk b ob (fun z => hb (by simp [z])) (fun z => hb (by simp [z])) q)) hf (Nat.le_refl _) new
    obtain ⟨oi', hoi', r'⟩ := hit'.1
    refine ⟨.ref s.heap.objs.size, _, I1, rfl, ⟨_, x, rfl, I.hok.fresh (Nat.le_refl _), rfl, fun ys hy => by rw [I.tuple_inj hy hq]; exact hx⟩, ⟨⟨u, ?_⟩, ⟨oi', (sb.2 it (Ne.symm hne)).trans hoi', r'⟩, hne⟩, fun b hb => ?_⟩
    · have e1 : c + ((i + 1 : Nat) : Int) = c + (i : Int) + 1 := by omega
      rw [e1]
      exact he'
    · have hb' : b < s.heap.objs.size := by
        rcases List.mem_cons.mp hb with z | hb
        · rw [z]
          exact hel
        · rw [List.mem_singleton.mp hb]
          exact hil
      rw [upd_ne (Nat.ne_of_lt hb')]
      exact (hf b hb).1
  done := by
    intro X hP hw hK hcalm i pins s σ H E I hf S hg
    subst hP hw hK
    obtain ⟨⟨old, he⟩, hit, hne⟩ := S
    obtain ⟨xs, hq, hx⟩ := hg
    obtain ⟨its, rv, ⟨oa, hoa, hca, na, hda⟩, _⟩ := I.tuple hq
    obtain ⟨oi, hoi, hci, hdi⟩ := id hit
    have hl := rv.length
    obtain ⟨f0, f1, f2, f3, f4, f5⟩ := hf it (by simp)
    have hT : s.TypeIs (.ref e) "enumerate" := ⟨_, he, rfl⟩
    unfold pyNext
    refine wpAny_bind (wpAny_attempt (wpAny_callSpecial?_slot (name := Str.ofString "__next__") hT F.slot_enumerate_next
      (wpAny_call_entry F.slot_enumerate_next hT F.entry_enumerate_next ?_ (F.args_enumerate_next_1 _))))
    show wpAny _ _ (field (.ref e) 2 >>= _) _ _ _
    refine wpAny_bind (wpAny_field he rfl (x := .ref it) rfl ?_)
    refine wpAny_bind (RZ.nextOf_tuple_end (I.ok.hd hcalm) hit (show s.heap.IsTuple a its.toArray from ⟨oa, hoa, hca, na, hda⟩) (by simp; omega) fun h' y hy1 hy2 => ?_)
    obtain ⟨o, ho, hc⟩ := hy2
    exact wpAny_bind (wpAny_isInstance (T := "StopIteration") (b := true) ⟨o, ho, hc⟩ isSubtype_stop (wpAny_pure ⟨rfl, I.turned (t' := s.toks) (fun b o hb q => hy1 b o hb q) f0 f1 f3 f4 f5⟩))
  self := fun A i s Q E S h => by
    obtain ⟨⟨_, he⟩, _⟩ := S
    exact wpAny_pyIter_enum he h
def iEnumT (K : PySem.W.Frag) (ta : TA) : TI := fun σ H R => ta σ H fun vs H1 => ∃ a xs, vs = [.ref a] ∧ SqT K H1 a xs ∧ R (ItEnT K a 0) H1
theorem pi_enumT {X : Cx} {e : Expr} {ta : TA} {p pos tpos : Pos} {elts : List Expr} {kk : Nat} (hg : Gl X "enumerate") (hm : X.mg "enumerate" = none) (ha : PA X [e] ta)
    (hs : starEach [e] X.env = [(false, eval e X.env)] := by rfl) : PI X (.Tuple elts kk tpos) (.Call (.Name "enumerate" p) [e] [] pos) (iEnumT X.K ta) := by
  refine ⟨fun pins s σ H R I h => Call_ (ld_blt I hg hm boot_enumerate (PyProof.Rows.callWith_type1 (thn (ha.run pos pins s σ H _ I h) fun us s1 ⟨vs, H1, I1, r1, q1⟩ => ?_) hs rfl))⟩
  obtain ⟨a, xs, ex, hq, q⟩ := q1
  subst ex
  obtain ⟨u, rfl, ru⟩ := vals1 r1
  cases ru
  obtain ⟨its, rv, ⟨oa, hoa, hca, na, hda⟩, _⟩ := I1.tuple hq
  refine call_enumT (items := its.toArray) ⟨oa, hoa, hca, na, hda⟩ fun h' he hit hk => wpAny_pyIter_enum he ?_
  have I2 : Inv X pins σ H1 { s1 with heap := h' } := I1.kept (t' := s1.toks) hk
  refine ⟨s1.heap.objs.size + 1, [s1.heap.objs.size + 1, s1.heap.objs.size], _, _, H1, rfl, I2, turn_enT a (s1.heap.objs.size + 1) s1.heap.objs.size 0, ⟨⟨.none, he⟩, hit, Nat.succ_ne_self _⟩, fun b hb => ?_, q⟩
  have hle : s1.heap.objs.size ≤ b := by
    rcases List.mem_cons.mp hb with z | hb
    · rw [z]
      exact Nat.le_succ _
    · exact Nat.le_of_eq (List.mem_singleton.mp hb).symm
  exact I1.fpOk hle (I1.hok.fresh hle)
/-- a loop over enumerate(t) -/
theorem for_enT {K : PySem.W.Frag} {a : Addr} {xs : List V} {c : Int} {g : TG} {tb : TS} {D : Ends} {σ : L2.St} {H : Hp} (Pv : Nat → L2.St → Hp → Prop) (h0 : Pv 0 σ H) (hq : ∀ i σ H, i ≤ xs.length → Pv i σ H → SqT K H a xs)
    (hs : ∀ (i : Nat) (x : V) (T : Addr) (σ : L2.St) (H : Hp), xs[i]? = some x → Pv i σ H → H T = none →
      g (.ref T) σ (upd H T (.tup [.int (c + (i : Nat)), x])) fun σ2 H2 => tb { D with nx := Pv (i + 1), ct := Pv (i + 1), bk := D.nx } σ2 H2) (hd : ∀ σ H, Pv xs.length σ H → D.nx σ H) :
    ∃ W : Nat → Nat → L2.St → Hp → Prop, (∃ m, W 0 m σ H) ∧ ∀ i m σ H, W i m σ H → ((ItEnT K a c).stop i H ∧ D.nx σ H) ∨ ((ItEnT K a c).go i H ∧
      ∃ N : L2.St → Hp → Prop, (∀ σ' H', N σ' H' → ∃ m', m' < m ∧ W (i + 1) m' σ' H') ∧ ∀ v H', (ItEnT K a c).yld i H v H' →
        g v σ H' fun σ2 H2 => tb { D with nx := N, ct := N, bk := D.nx } σ2 H2) := by
  refine ⟨fun i m σ H => m = xs.length - i ∧ i ≤ xs.length ∧ Pv i σ H, ⟨xs.length, rfl, Nat.zero_le _, h0⟩, ?_⟩
  rintro i _ σ H ⟨rfl, hi, p⟩
  have q := hq i σ H hi p
  by_cases hlt : i < xs.length
  · have hx : xs[i]? = some xs[i] := List.getElem?_eq_getElem hlt
    refine .inr ⟨⟨xs, _, q, hx⟩, Pv (i + 1), fun σ' H' p' => ⟨xs.length - (i + 1), by omega, rfl, hlt, p'⟩, fun v H' y => ?_⟩
    obtain ⟨T, x', rfl, nT, rfl, f1⟩ := y
    exact hs i x' T σ H (f1 xs q) p nT
  · obtain rfl : i = xs.length := by omega
    exact .inl ⟨⟨xs, q, Nat.le_refl _⟩, hd σ H p⟩
end DD
namespace DD
open PySem PySem.Spec PyProof.Rows L2

/-! ### max and min of a tuple of ints -/
section
variable {prog : Program} {w : World} {A : Around} {E : Value → Shared → Prop} {s : Shared} {l : Addr} {xs : Array (Int × Tok)}
theorem max_intTup {Q : Value → Shared → Prop} (hh : A.handled = none) (hl : s.heap.IsTuple l (intItems xs)) (hne : 0 < xs.size)
    (h : ∀ v h' tk, (intItems xs)[argBest (fun i j => decide (numAt xs i > numAt xs j)) (xs.size - 1)]? = some v → (∀ b o, s.heap.get? b = some o → h'.get? b = some o) → Q v { s with heap := h', toks := tk }) :
    wpAny (model prog w) A (call (.builtin "max") [.ref l]) Q E s := by
  have hlt : l < s.heap.objs.size := by obtain ⟨_, e, _⟩ := hl; exact Heap.lt_size e
  refine call_max_walk (wpAny_pyIter_tuple hl ?_)
  refine ⟨_, _, _, _, _, _, _, rfl, Walks.tuple (A := A.in1) hh _ l (Nat.ne_of_lt hlt) (intItems xs), ⟨⟨_, Heap.get?_push_size _ rfl, rfl, rfl⟩, hl.push _⟩, fun b hb => ?_, by simpa [intItems] using hne, CmpOf.ints_gt (numAt xs) (fun _ _ => intItems_at), fun v h' tk hP hk => ?_⟩
  · show b < (s.heap.push _).objs.size
    rw [Heap.size_push]
    rcases List.mem_cons.mp hb with rfl | hb
    · exact Nat.lt_succ_self _
    · rcases List.mem_cons.mp hb with rfl | hb
      · exact Nat.lt_succ_of_lt hlt
      · cases hb
  · refine h v h' tk (by simpa [intItems] using hP) fun b o e => hk b o (fun hm => ?_) (Heap.get?_push_of_some _ e)
    rcases List.mem_cons.mp hm with e1 | hm
    · exact absurd (e1 ▸ Heap.lt_size e) (Nat.lt_irrefl _)
    · cases hm
theorem min_intTup {Q : Value → Shared → Prop} (hh : A.handled = none) (hl : s.heap.IsTuple l (intItems xs)) (hne : 0 < xs.size)
    (h : ∀ v h' tk, (intItems xs)[argBest (fun i j => decide (numAt xs i < numAt xs j)) (xs.size - 1)]? = some v → (∀ b o, s.heap.get? b = some o → h'.get? b = some o) → Q v { s with heap := h', toks := tk }) :
    wpAny (model prog w) A (call (.builtin "min") [.ref l]) Q E s := by
  have hlt : l < s.heap.objs.size := by obtain ⟨_, e, _⟩ := hl; exact Heap.lt_size e
  refine call_min_walk (wpAny_pyIter_tuple hl ?_)
  refine ⟨_, _, _, _, _, _, _, rfl, Walks.tuple (A := A.in1) hh _ l (Nat.ne_of_lt hlt) (intItems xs), ⟨⟨_, Heap.get?_push_size _ rfl, rfl, rfl⟩, hl.push _⟩, fun b hb => ?_, by simpa [intItems] using hne, CmpOf.ints_lt (numAt xs) (fun _ _ => intItems_at), fun v h' tk hP hk => ?_⟩
  · show b < (s.heap.push _).objs.size
    rw [Heap.size_push]
    rcases List.mem_cons.mp hb with rfl | hb
    · exact Nat.lt_succ_self _
    · rcases List.mem_cons.mp hb with rfl | hb
      · exact Nat.lt_succ_of_lt hlt
      · cases hb
  · refine h v h' tk (by simpa [intItems] using hP) fun b o e => hk b o (fun hm => ?_) (Heap.get?_push_of_some _ e)
    rcases List.mem_cons.mp hm with e1 | hm
    · exact absurd (e1 ▸ Heap.lt_size e) (Nat.lt_irrefl _)
    · cases hm
end
theorem ints_of_valsT : ∀ {ns : List Int} {us : List Value}, Vals (ns.map V.int) us → PyProof.Rows.IntsAre us ns
  | [], _, h => by
    cases h
    exact .nil
  | n :: ns, _, h => by
    cases h with
    | cons r t =>
      obtain ⟨k, rfl⟩ := r
      exact .cons n k (ints_of_valsT t)
def rMaxT (K : PySem.W.Frag) : List V → Hp → VK → Prop := fun vs H Q => ∃ (a : Addr) (ns : List Int), vs = [V.ref a] ∧ SqT K H a (ns.map V.int) ∧ 0 < ns.length ∧ ∀ m, m ∈ ns → (∀ y, y ∈ ns → y ≤ m) → Q (.int m) H
def rMinT (K : PySem.W.Frag) : List V → Hp → VK → Prop := fun vs H Q => ∃ (a : Addr) (ns : List Int), vs = [V.ref a] ∧ SqT K H a (ns.map V.int) ∧ 0 < ns.length ∧ ∀ m, m ∈ ns → (∀ y, y ∈ ns → m ≤ y) → Q (.int m) H
theorem cr_maxT {X : Cx} (hc : X.calm = true) : CallR X (.builtin "max") (rMaxT X.K) := by
  intro pins s σ H vs us Q I r h
  obtain ⟨a, ns, rfl, hq, hne, q⟩ := h
  obtain ⟨u, rfl, ru⟩ := vals1 r
  cases ru
  obtain ⟨its, rv, ⟨o, ho, hcl, n, hd⟩, _⟩ := I.tuple hq
  have ia := ints_of_valsT rv
  obtain ⟨xs, e⟩ := ia.allInts.items
  have hn : numsOf (intItems xs).toList = ns := by rw [← e]; exact ia.numsOf
  rw [nums_intItems] at hn
  have ht : s.heap.IsTuple a (intItems xs) := by rw [← e]; exact ⟨o, ho, hcl, n, hd⟩
  subst hn
  have hsz : 0 < xs.size := by simpa using hne
  refine max_intTup (I.ok.hd hc) ht hsz fun v h' tk hv hk => ?_
  obtain ⟨t, rfl⟩ := intItems_at hv
  obtain ⟨h1, h2⟩ := argBest_gt (numAt xs) (xs.size - 1)
  refine ⟨.int _, H, I.kept hk, ⟨_, rfl⟩, q _ ?_ fun a ha => ?_⟩
  · rw [numAt_eq]; exact PySem.getD_mem (by rw [List.length_map, Array.length_toList]; omega)
  · obtain ⟨j, hj, rfl⟩ := mem_getD ha
    rw [List.length_map, Array.length_toList] at hj
    rw [← numAt_eq]; exact h2 j (by omega)
theorem cr_minT {X : Cx} (hc : X.calm = true) : CallR X (.builtin "min") (rMinT X.K) := by
  intro pins s σ H vs us Q I r h
  obtain ⟨a, ns, rfl, hq, hne, q⟩ := h
  obtain ⟨u, rfl, ru⟩ := vals1 r
  cases ru
  obtain ⟨its, rv, ⟨o, ho, hcl, n, hd⟩, _⟩ := I.tuple hq
  have ia := ints_of_valsT rv
  obtain ⟨xs, e⟩ := ia.allInts.items
  have hn : numsOf (intItems xs).toList = ns := by rw [← e]; exact ia.numsOf
  rw [nums_intItems] at hn
  have ht : s.heap.IsTuple a (intItems xs) := by rw [← e]; exact ⟨o, ho, hcl, n, hd⟩
  subst hn
  have hsz : 0 < xs.size := by simpa using hne
  refine min_intTup (I.ok.hd hc) ht hsz fun v h' tk hv hk => ?_
  obtain ⟨t, rfl⟩ := intItems_at hv
  obtain ⟨h1, h2⟩ := argBest_lt (numAt xs) (xs.size - 1)
  refine ⟨.int _, H, I.kept hk, ⟨_, rfl⟩, q _ ?_ fun a ha => ?_⟩
  · rw [numAt_eq]; exact PySem.getD_mem (by rw [List.length_map, Array.length_toList]; omega)
  · obtain ⟨j, hj, rfl⟩ := mem_getD ha
    rw [List.length_map, Array.length_toList] at hj
    rw [← numAt_eq]; exact h2 j (by omega)
end DD
namespace DD
open PySem PySem.Spec PyProof.Rows L2 RZ

/-! ### for x in zip(a, b), two tuples of one length, the pair taken whole -/
def iZipP (K : PySem.W.Frag) (ta : TA) : TI := fun σ H R => ta σ H fun vs H1 => ∃ (a b : Addr) (xs ys : List V), vs = [.ref a, .ref b] ∧ SqT K H1 a xs ∧ SqT K H1 b ys ∧ xs.length = ys.length ∧ R (ItzN K [a, b] [xs, ys] xs.length) H1
theorem pi_zipP {X : Cx} {e e2 : Expr} {ta : TA} {p pos xp : Pos} {x : Str} (hg : Gl X "zip") (hm : X.mg "zip" = none) (ha : PA X [e, e2] ta)
    (hs : starEach [e, e2] X.env = (false, eval e X.env) :: starEach [e2] X.env := by rfl) (hpl : (backTo pos (starEach [e2] X.env)).any (·.1) = false := by rfl) :
    PI X (.Name x xp) (.Call (.Name "zip" p) [e, e2] [] pos) (iZipP X.K ta) := by
  refine ⟨fun pins s σ H R I h => ?_⟩
  refine Call_ (ld_blt I hg hm PyProof.Rows.boot_zip (PyProof.Rows.callWith_type1 (thn (ha.run pos pins s σ H _ I h) fun us s2 ⟨vs, H1, I2, r1, q1⟩ => ?_) hs hpl))
  obtain ⟨a, b, xs, ys, ex, hx, hy, hl, q⟩ := q1
  subst ex
  obtain rfl := vals_refs (ls := [a, b]) r1
  have Rw : Rws X.K H1 [a, b] [xs, ys] xs.length := ⟨rfl, fun j l r e1 e2 => by
    match j, e1, e2 with
    | 0, e1, e2 => cases e1; cases e2; exact ⟨hx, rfl⟩
    | 1, e1, e2 => cases e1; cases e2; exact ⟨hy, hl.symm⟩⟩
  have h1 : 1 ≤ [a, b].length := by simp
  have h2 : [a, b].length ≤ 4 := by simp
  have tup : ∀ l ∈ [a, b], ∃ xs, s2.heap.IsTuple l xs := fun l hl => by
    obtain ⟨j, hj⟩ := List.mem_iff_getElem?.mp hl
    have hjl := (List.getElem?_eq_some_iff.mp hj).1
    have hjr : [xs, ys][j]? = some ([xs, ys][j]'(by have := Rw.len; omega)) := List.getElem?_eq_getElem (by have := Rw.len; omega)
    obtain ⟨its, _, ⟨o, ho, hc, n, hd⟩, _⟩ := I2.tuple (Rw.at_ j l _ hj hjr).1
    exact ⟨its.toArray, o, ho, hc, n, hd⟩
  refine call_zipN h1 h2 tup fun h' n en S hsz hk => ?_
  have I3 : Inv X pins σ H1 { s2 with heap := h' } := I2.kept (t' := s2.toks) hk
  have hlt : ∀ l ∈ [a, b], l < n := fun l hl => by
    obtain ⟨xs, o, ho, _⟩ := tup l hl
    rw [en]
    exact Heap.lt_size ho
  refine pyIter_zn (s := { s2 with heap := h' }) S ⟨n + [a, b].length + 2, _, _, _, H1, rfl, I3, turn_zn h1 h2 hlt, S, fun b' hb => ?_, q⟩
  have hle : s2.heap.objs.size ≤ b' := by
    rw [← en]
    rcases List.mem_cons.mp hb with rfl | hb
    · omega
    rcases List.mem_cons.mp hb with rfl | hb
    · omega
    rcases List.mem_cons.mp hb with rfl | hb
    · omega
    obtain ⟨p, hp, rfl⟩ := List.mem_map.mp hb
    obtain ⟨j, _, _, e⟩ := zps_mem hp
    exact Nat.le_trans (Nat.le_add_right n j) (Nat.le_of_eq e.symm)
  exact I2.fpOk hle (I2.hok.fresh hle)

/-- a comprehension over zip of two tuples of one length -/
theorem lc_zipT {K : PySem.W.Frag} {a b : Addr} {xs ys : List V} {g : TG} {tt : TT} {te : TE} {vs : List Nat} {σ : L2.St} {H1 : Hp} {D : Addr} {Qd : Hp → Prop} (hl : xs.length = ys.length)
    (Pv : Nat → Hp → Prop) (h0 : Pv 0 (upd H1 D (.lst []))) (hq : ∀ i H, i ≤ xs.length → Pv i H → SqT K H a xs ∧ SqT K H b ys)
    (hs : ∀ i x y T H, xs[i]? = some x → ys[i]? = some y → Pv i H → H T = none → g (.ref T) (wipe σ vs) (upd H T (.tup [x, y])) fun σ2 H2 => wipe σ2 vs = wipe σ vs ∧ tt σ2 H2 fun b H3 =>
      if b = true then (te σ2 H3 fun y H4 => ∃ acc, H4 D = some (.lst acc) ∧ acc.length < sizeLine ∧ Pv (i + 1) (upd H4 D (.lst (acc ++ [y])))) else Pv (i + 1) H3) (hd : ∀ H, Pv xs.length H → Qd H) :
    ∃ W : Nat → Nat → Hp → Prop, (∃ m, W 0 m (upd H1 D (.lst []))) ∧ ∀ i m0 H, W i m0 H → ((ItzT K a b).stop i H ∧ Qd H) ∨ ((ItzT K a b).go i H ∧
      ∃ Nx : Hp → Prop, (∀ H', Nx H' → ∃ m', m' < m0 ∧ W (i + 1) m' H') ∧ ∀ x H', (ItzT K a b).yld i H x H' → g x (wipe σ vs) H' fun σ2 H2 => wipe σ2 vs = wipe σ vs ∧
        tt σ2 H2 fun b H3 => if b = true then (te σ2 H3 fun y H4 => ∃ acc, H4 D = some (.lst acc) ∧ acc.length < sizeLine ∧ Nx (upd H4 D (.lst (acc ++ [y])))) else Nx H3) := by
  refine ⟨fun i m0 H => m0 = xs.length - i ∧ i ≤ xs.length ∧ Pv i H, ⟨xs.length, by simp, Nat.zero_le _, h0⟩, ?_⟩
  rintro i _ H ⟨rfl, hi, p⟩
  obtain ⟨qx, qy⟩ := hq i H hi p
  by_cases hlt : i < xs.length
  · have hx : xs[i]? = some xs[i] := List.getElem?_eq_getElem hlt
    have hlt2 : i < ys.length := by omega
    have hy : ys[i]? = some ys[i] := List.getElem?_eq_getElem hlt2
    refine .inr ⟨⟨xs, ys, _, _, qx, qy, hx, hy⟩, Pv (i + 1), fun H' p' => ⟨xs.length - (i + 1), by omega, rfl, hlt, p'⟩, fun v H' y => ?_⟩
    obtain ⟨T, x', y', rfl, hT, rfl, f1, f2⟩ := y
    exact hs i x' y' T H (f1 xs qx) (f2 ys qy) p hT
  · have e : i = xs.length := by omega
    subst e
    exact .inl ⟨⟨xs, ys, qx, qy, Or.inl (Nat.le_refl _)⟩, hd H p⟩
/-- a comprehension over zip(*..) of tuples of one length -/
theorem lc_zipN {K : PySem.W.Frag} {ls : List Addr} {rows : List (List V)} {m : Nat} {g : TG} {tt : TT} {te : TE} {vs : List Nat} {σ : L2.St} {H1 : Hp} {D : Addr} {Qd : Hp → Prop}
    (Pv : Nat → Hp → Prop) (h0 : Pv 0 (upd H1 D (.lst []))) (hl : ∀ i H, i ≤ m → Pv i H → Rws K H ls rows m)
    (hs : ∀ i T H, i < m → Pv i H → H T = none → g (.ref T) (wipe σ vs) (upd H T (.tup (colV rows i))) fun σ2 H2 => wipe σ2 vs = wipe σ vs ∧ tt σ2 H2 fun b H3 =>
      if b = true then (te σ2 H3 fun y H4 => ∃ acc, H4 D = some (.lst acc) ∧ acc.length < sizeLine ∧ Pv (i + 1) (upd H4 D (.lst (acc ++ [y])))) else Pv (i + 1) H3) (hd : ∀ H, Pv m H → Qd H) :
    ∃ W : Nat → Nat → Hp → Prop, (∃ m, W 0 m (upd H1 D (.lst []))) ∧ ∀ i m0 H, W i m0 H → ((ItzN K ls rows m).stop i H ∧ Qd H) ∨ ((ItzN K ls rows m).go i H ∧
      ∃ Nx : Hp → Prop, (∀ H', Nx H' → ∃ m', m' < m0 ∧ W (i + 1) m' H') ∧ ∀ x H', (ItzN K ls rows m).yld i H x H' → g x (wipe σ vs) H' fun σ2 H2 => wipe σ2 vs = wipe σ vs ∧
        tt σ2 H2 fun b H3 => if b = true then (te σ2 H3 fun y H4 => ∃ acc, H4 D = some (.lst acc) ∧ acc.length < sizeLine ∧ Nx (upd H4 D (.lst (acc ++ [y])))) else Nx H3) := by
  refine ⟨fun i m0 H => m0 = m - i ∧ i ≤ m ∧ Pv i H, ⟨m, by simp, Nat.zero_le _, h0⟩, ?_⟩
  rintro i _ H ⟨rfl, hi, p⟩
  have q := hl i H hi p
  by_cases hlt : i < m
  · refine .inr ⟨⟨hlt, q⟩, Pv (i + 1), fun H' p' => ⟨m - (i + 1), by omega, rfl, hlt, p'⟩, fun x H' y => ?_⟩
    obtain ⟨T, rfl, nT, rfl⟩ := y
    exact hs i T H hlt p nT
  · obtain rfl : i = m := by omega
    exact .inl ⟨⟨rfl, q⟩, hd H p⟩

end DD
namespace DD
open PySem PySem.Spec PyProof.Rows L2 RZ
theorem walk_enT {K : PySem.W.Frag} {a : Addr} {xs : List V} {c : Int} : Walk (ItEnT K a c) xs.length (fun H => SqT K H a xs) (YPair (fun i => some (.int (c + (i : Nat)))) (fun i => xs[i]?)) := by
  refine ⟨fun i _ hi q => ⟨xs, xs[i], q, by simp [hi]⟩, fun _ q => ⟨xs, q, Nat.le_refl _⟩, fun i H v H' _ q y => ?_⟩
  obtain ⟨T, x, h1, h2, h3, h4⟩ := y
  exact ⟨T, .int (c + (i : Nat)), x, h1, h2, h3, rfl, h4 xs q⟩

/-! ### two clauses in one comprehension -/
section
variable {J J1 : It} {n n1 : Nat} {G G1 : Hp → Prop} {Y Y1 : Nat → Hp → V → Hp → Prop}
theorem lc2_it (w : Walk J n G Y) {g g1 : TG} {tt tt1 : TT} {te : TE} {wi1 : TI} {vs vs1 : List Nat} {σ : L2.St} {H1 : Hp} {D : Addr} {Qd : Hp → Prop} (Pv : Nat → Hp → Prop) (h0 : Pv 0 (upd H1 D (.lst []))) (hG : ∀ i H, i ≤ n → Pv i H → G H)
    (hs : ∀ i x H H', i < n → Pv i H → Y i H x H' → g x (wipe σ vs) H' fun σ2 H2 => wipe σ2 vs = wipe σ vs ∧ tt σ2 H2 fun b H3 =>
      if b = true then wi1 σ2 H3 fun J1 H4 => ∃ W1 : Nat → Nat → Hp → Prop, (∃ m, W1 0 m H4) ∧ ∀ j k H, W1 j k H →
      (J1.stop j H ∧ Pv (i + 1) H) ∨ (J1.go j H ∧ ∃ Nx1 : Hp → Prop, (∀ H', Nx1 H' → ∃ k', k' < k ∧ W1 (j + 1) k' H') ∧ ∀ x H', J1.yld j H x H' → g1 x (wipe σ2 vs1) H' fun σ3 H5 => wipe σ3 vs1 = wipe σ2 vs1 ∧ tt1 σ3 H5 fun b H6 =>
        if b = true then te σ3 H6 fun y H7 => ∃ acc, H7 D = some (.lst acc) ∧ acc.length < sizeLine ∧ Nx1 (upd H7 D (.lst (acc ++ [y]))) else Nx1 H6)
      else Pv (i + 1) H3) (hd : ∀ H, Pv n H → Qd H) :
    ∃ W : Nat → Nat → Hp → Prop, (∃ m, W 0 m (upd H1 D (.lst []))) ∧ ∀ i m H, W i m H →
  (J.stop i H ∧ Qd H) ∨ (J.go i H ∧ ∃ Nx : Hp → Prop, (∀ H', Nx H' → ∃ m', m' < m ∧ W (i + 1) m' H') ∧ ∀ x H', J.yld i H x H' → g x (wipe σ vs) H' fun σ2 H2 => wipe σ2 vs = wipe σ vs ∧ tt σ2 H2 fun b H3 =>
    if b = true then wi1 σ2 H3 fun J1 H4 => ∃ W1 : Nat → Nat → Hp → Prop, (∃ m, W1 0 m H4) ∧ ∀ j k H, W1 j k H →
      (J1.stop j H ∧ Nx H) ∨ (J1.go j H ∧ ∃ Nx1 : Hp → Prop, (∀ H', Nx1 H' → ∃ k', k' < k ∧ W1 (j + 1) k' H') ∧ ∀ x H', J1.yld j H x H' → g1 x (wipe σ2 vs1) H' fun σ3 H5 => wipe σ3 vs1 = wipe σ2 vs1 ∧ tt1 σ3 H5 fun b H6 =>
        if b = true then te σ3 H6 fun y H7 => ∃ acc, H7 D = some (.lst acc) ∧ acc.length < sizeLine ∧ Nx1 (upd H7 D (.lst (acc ++ [y]))) else Nx1 H6)
    else Nx H3) := by
  refine ⟨fun i m H => m = n - i ∧ i ≤ n ∧ Pv i H, ⟨n, by simp, Nat.zero_le _, h0⟩, ?_⟩
  rintro i m H ⟨rfl, hi, p⟩
  have q := hG i H hi p
  by_cases hlt : i < n
  · refine .inr ⟨w.goes i H hlt q, Pv (i + 1), fun H' p' => ⟨n - (i + 1), by omega, rfl, hlt, p'⟩, fun x H' y => hs i x H H' hlt p (w.yields i H x H' hlt q y)⟩
  · have e : i = n := by omega
    subst e
    exact .inl ⟨w.stops H q, hd H p⟩
theorem lci_it (w : Walk J1 n1 G1 Y1) {g1 : TG} {tt1 : TT} {te : TE} {vs1 : List Nat} {σ2 : L2.St} {H4 : Hp} {D : Addr} {Nx : Hp → Prop} (Pv : Nat → Hp → Prop) (h0 : Pv 0 H4) (hG : ∀ i H, i ≤ n1 → Pv i H → G1 H)
    (hs : ∀ j x H H', j < n1 → Pv j H → Y1 j H x H' → g1 x (wipe σ2 vs1) H' fun σ3 H5 => wipe σ3 vs1 = wipe σ2 vs1 ∧ tt1 σ3 H5 fun b H6 =>
        if b = true then te σ3 H6 fun y H7 => ∃ acc, H7 D = some (.lst acc) ∧ acc.length < sizeLine ∧ Pv (j + 1) (upd H7 D (.lst (acc ++ [y]))) else Pv (j + 1) H6) (hd : ∀ H, Pv n1 H → Nx H) :
    ∃ W1 : Nat → Nat → Hp → Prop, (∃ m, W1 0 m H4) ∧ ∀ j k H, W1 j k H →
      (J1.stop j H ∧ Nx H) ∨ (J1.go j H ∧ ∃ Nx1 : Hp → Prop, (∀ H', Nx1 H' → ∃ k', k' < k ∧ W1 (j + 1) k' H') ∧ ∀ x H', J1.yld j H x H' → g1 x (wipe σ2 vs1) H' fun σ3 H5 => wipe σ3 vs1 = wipe σ2 vs1 ∧ tt1 σ3 H5 fun b H6 =>
        if b = true then te σ3 H6 fun y H7 => ∃ acc, H7 D = some (.lst acc) ∧ acc.length < sizeLine ∧ Nx1 (upd H7 D (.lst (acc ++ [y]))) else Nx1 H6) := by
  refine ⟨fun i m H => m = n1 - i ∧ i ≤ n1 ∧ Pv i H, ⟨n1, by simp, Nat.zero_le _, h0⟩, ?_⟩
  rintro i m H ⟨rfl, hi, p⟩
  have q := hG i H hi p
  by_cases hlt : i < n1
  · refine .inr ⟨w.goes i H hlt q, Pv (i + 1), fun H' p' => ⟨n1 - (i + 1), by omega, rfl, hlt, p'⟩, fun x H' y => hs i x H H' hlt p (w.yields i H x H' hlt q y)⟩
  · have e : i = n1 := by omega
    subst e
    exact .inl ⟨w.stops H q, hd H p⟩
end
end DD
namespace DD
open PySem PySem.Spec PyProof.Rows L2 RZ
/-! ### enumerate(zip(*rows)) -/
theorem nat7 {p n j L : Nat} (h1 : p = n + L + 3) (h2 : p = n + j) (h3 : j < L) : False := by omega
def zfp (z TI TO : Addr) (ps : List (Addr × Addr)) : List Addr := z :: TI :: TO :: ps.map (·.1)
theorem ZSt.keeps {h h' : Heap} {z TI TO : Addr} {ps : List (Addr × Addr)} {k : Nat} (S : ZSt h z TI TO ps k) (q : ∀ b ∈ zfp z TI TO ps, ∀ o, h.get? b = some o → h'.get? b = some o) : ZSt h' z TI TO ps k := by
  obtain ⟨⟨f0, f1, hz, hf⟩, hTI, ⟨arr, ha, hTO⟩, hits⟩ := S
  refine ⟨⟨f0, f1, q _ (by simp [zfp]) _ hz, hf⟩, q _ (by simp [zfp]) _ hTI, ⟨arr, ha, q _ (by simp [zfp]) _ hTO⟩, fun p hp => ?_⟩
  obtain ⟨o, e, c⟩ := hits p hp
  exact ⟨o, q _ (by
    refine List.mem_cons_of_mem _ (List.mem_cons_of_mem _ (List.mem_cons_of_mem _ ?_))
    exact List.mem_map_of_mem hp) _ e, c⟩
section
variable {prog : Program} {w : World} {A : Around} {E : Value → Shared → Prop} {s : Shared} {z TI TO : Addr} {ps : List (Addr × Addr)} {k : Nat}
theorem nextOf_zn_item {vs : List Value} {Q : Value → Shared → Prop} (D : ZApart z TI TO ps) (hn : 1 ≤ ps.length) (hn2 : ps.length ≤ 1000) (S : ZSt s.heap z TI TO ps k)
    (hv : vs.length = ps.length) (hi : ∀ (j : Nat) (p : Addr × Addr), ps[j]? = some p → ∃ xs, s.heap.IsTuple p.2 xs ∧ xs[k]? = vs[j]?)
    (hQ : ∀ h', ZSt h' z TI TO ps (k + 1) → h'.get? s.heap.objs.size = some (tObj vs.toArray) → h'.objs.size = s.heap.objs.size + 1 →
      (∀ c o, c ≠ z → c ≠ TO → (∀ p ∈ ps, c ≠ p.1) → s.heap.get? c = some o → h'.get? c = some o) → Q (.ref s.heap.objs.size) { s with heap := h' }) :
    wpAny (model prog w) A (Builtin.SmallTypes.nextOf (.ref z)) Q E s := by
  obtain ⟨f0, f1, hz, hf0⟩ := S.zz
  have hT : s.TypeIs (.ref z) "zip" := ⟨_, hz, rfl⟩
  unfold Builtin.SmallTypes.nextOf
  exact wpAny_bind (wpAny_callSpecial?_slot (name := Str.ofString "__next__") hT F.slot_zip_next
    (wpAny_call_entry F.slot_zip_next hT F.entry_zip_next (zn_item D hn hn2 S hv hi fun h' a1 a2 a3 a4 => wpAny_pure (hQ h' a1 a2 a3 a4)) (F.args_zip_next_1 _)))
theorem nextOf_zn_end {Q : Value → Shared → Prop} (hh : A.handled = none) (D : ZApart z TI TO ps) (S : ZSt s.heap z TI TO ps k) {p : Addr × Addr} {r : List (Addr × Addr)} {xs : Array Value}
    (hps : ps = p :: r) (hl : s.heap.IsTuple p.2 xs) (hx : xs[k]? = none)
    (hE : ∀ h' e, (∀ c o, c ≠ z → c ≠ TO → (∀ p ∈ ps, c ≠ p.1) → s.heap.get? c = some o → h'.get? c = some o) →
      (∃ o, h'.get? e = some o ∧ o.cls = .type "StopIteration") → E (.ref e) { s with heap := h' }) :
    wpAny (model prog w) A (Builtin.SmallTypes.nextOf (.ref z)) Q E s := by
  obtain ⟨f0, f1, hz, hf0⟩ := S.zz
  have hT : s.TypeIs (.ref z) "zip" := ⟨_, hz, rfl⟩
  unfold Builtin.SmallTypes.nextOf
  exact wpAny_bind (wpAny_callSpecial?_slot (name := Str.ofString "__next__") hT F.slot_zip_next
    (wpAny_call_entry F.slot_zip_next hT F.entry_zip_next (zn_end hh D S hps hl hx hE) (F.args_zip_next_1 _)))

theorem ez_next_item {e : Addr} {c : Int} {old : Value} {vs : List Value} {Q : Value → Shared → Prop} (D : ZApart z TI TO ps) (hn : 1 ≤ ps.length) (hn2 : ps.length ≤ 1000)
    (he : IsEnum s.heap e z c old) (S : ZSt s.heap z TI TO ps k) (hv : vs.length = ps.length) (hi : ∀ (j : Nat) (p : Addr × Addr), ps[j]? = some p → ∃ xs, s.heap.IsTuple p.2 xs ∧ xs[k]? = vs[j]?)
    (hef : e ∉ zfp z TI TO ps)
    (hQ : ∀ h' tk, IsEnumOut h' e z (c + 1) (.ref s.heap.objs.size) (s.heap.objs.size + 1) → ZSt h' z TI TO ps (k + 1) → h'.get? s.heap.objs.size = some (tObj vs.toArray) →
      h'.get? (s.heap.objs.size + 1) = some { cls := .type "tuple", data := .seq #[.int c tk, .ref s.heap.objs.size] } → h'.objs.size = s.heap.objs.size + 2 →
      (∀ b o, b ≠ e → b ≠ z → b ≠ TO → (∀ p ∈ ps, b ≠ p.1) → s.heap.get? b = some o → h'.get? b = some o) → Q (.ref (s.heap.objs.size + 1)) { s with heap := h', toks := tk + 1 }) :
    wpAny (model prog w) A (Builtin.«enumerate.__next__» ⟨[.ref e], []⟩) (fun fin s' => ∃ v, fin = .done (.ret v) ∧ Q v s') E s := by
  obtain ⟨hp, g, d, tk, os⟩ := s
  have e1 : e ≠ z := fun q => hef (by rw [q]; simp [zfp])
  have e2 : e ≠ TO := fun q => hef (by rw [q]; simp [zfp])
  have e3 : ∀ p ∈ ps, e ≠ p.1 := fun p hpp q => hef (by
    rw [q]
    refine List.mem_cons_of_mem _ (List.mem_cons_of_mem _ (List.mem_cons_of_mem _ ?_))
    exact List.mem_map_of_mem hpp)
  show wpAny _ _ (field (.ref e) 2 >>= _) _ _ _
  refine wpAny_bind (wpAny_field he rfl (x := .ref z) rfl ?_)
  refine wpAny_bind (nextOf_zn_item D hn hn2 S hv hi fun h₁ S₁ hT₁ hz₁ hk₁ => ?_)
  replace hT₁ : h₁.get? hp.objs.size = some (tObj vs.toArray) := hT₁
  replace hz₁ : h₁.objs.size = hp.objs.size + 1 := hz₁
  replace hk₁ : ∀ c o, c ≠ z → c ≠ TO → (∀ p ∈ ps, c ≠ p.1) → hp.get? c = some o → h₁.get? c = some o := hk₁
  have he₁ : IsEnum h₁ e z c old := hk₁ e _ e1 e2 e3 he
  have hel : e < hp.objs.size := Heap.lt_size he
  show wpAny _ _ (field (.ref e) 3 >>= _) _ _ ⟨h₁, g, d, tk, os⟩
  refine wpAny_bind (wpAny_field he₁ rfl (x := rawInt c) rfl ?_)
  show wpAny _ _ (field (.ref e) 4 >>= _) _ _ ⟨h₁, g, d, tk, os⟩
  refine wpAny_bind (wpAny_field he₁ rfl (x := .none) rfl ?_)
  show wpAny _ _ (mkInt c >>= _) _ _ ⟨h₁, g, d, tk, os⟩
  refine wpAny_bind (wpAny_mkInt ?_)
  show wpAny _ _ (setField (.ref e) 3 (rawInt (c + 1)) >>= _) _ _ ⟨h₁, g, d, tk + 1, os⟩
  refine wpAny_bind (wpAny_setField_rec he₁ (by simp) fun h₂ he₂ hs₂ => ?_)
  replace hs₂ : Heap.SameBut e h₁ h₂ := hs₂
  replace he₂ : IsEnum h₂ e z (c + 1) old := he₂
  show wpAny _ _ (setField (.ref e) 4 .none >>= _) _ _ ⟨h₂, g, d, tk + 1, os⟩
  refine wpAny_bind (wpAny_setField_rec he₂ (by simp) fun h₃ he₃ hs₃ => ?_)
  replace hs₃ : Heap.SameBut e h₂ h₃ := hs₃
  replace he₃ : IsEnum h₃ e z (c + 1) old := he₃
  show wpAny _ _ (newTuple [.int c tk, .ref hp.objs.size] >>= _) _ _ ⟨h₃, g, d, tk + 1, os⟩
  refine wpAny_bind (wpAny_newTuple ?_)
  have he₄ : IsEnum (h₃.push { cls := .type "tuple", data := .seq #[.int c tk, .ref hp.objs.size] }) e z (c + 1) old := Heap.get?_push_of_some _ he₃
  generalize hh₄ : h₃.push { cls := .type "tuple", data := .seq #[.int c tk, .ref hp.objs.size] } = h₄ at he₄
  have hsz : h₃.objs.size = hp.objs.size + 1 := by rw [hs₃.1, hs₂.1, hz₁]
  have ht₄ : h₄.get? (hp.objs.size + 1) = some { cls := .type "tuple", data := .seq #[.int c tk, .ref hp.objs.size] } := by rw [← hh₄, ← hsz]; exact Heap.get?_push_size _ rfl
  have hz₄ : h₄.objs.size = hp.objs.size + 2 := by rw [← hh₄, Heap.size_push, hsz]
  have hk₁₄ : ∀ b o, b ≠ e → h₁.get? b = some o → h₄.get? b = some o := fun b o hbe hb => by
    rw [← hh₄]; exact Heap.get?_push_of_some _ (hs₃.extBut b o hbe (hs₂.extBut b o hbe hb))
  have S₄ : ZSt h₄ z TI TO ps (k + 1) := S₁.keeps fun b hb o y => hk₁₄ b o (fun q => hef (q ▸ hb)) y
  have hT₄ := hk₁₄ hp.objs.size _ (Nat.ne_of_gt hel) hT₁
  have hk₄ : ∀ b o, b ≠ e → b ≠ z → b ≠ TO → (∀ p ∈ ps, b ≠ p.1) → hp.get? b = some o → h₄.get? b = some o := fun b o c1 c2 c3 c4 y => hk₁₄ b o c1 (hk₁ b o c2 c3 c4 y)
  show wpAny _ _ (Builtin.SmallTypes.ownedTupleIsFree (.ref e) >>= _) _ _ ⟨h₄, g, d, tk + 1, os⟩
  rw [hsz]
  clear hh₄ he₃ hs₃ he₂ hs₂ he₁ hsz hk₁₄ S₁ hT₁ hz₁ hk₁ h₃ h₂ h₁
  refine wpAny_bind ?_
  · unfold Builtin.SmallTypes.ownedTupleIsFree
    refine wpAny_bind (wpAny_field he₄ rfl (x := .none) rfl (wpAny_pure ?_))
    simp only [if_true]
    refine wpAny_bind (wpAny_rule ?_)
    refine wpAny_bind (wpAny_field he₄ rfl (x := old) rfl ?_)
    refine wpAny_bind (wpAny_setField_rec he₄ (by simp) fun h₅ he₅ hs₅ => ?_)
    replace hs₅ : Heap.SameBut e h₄ h₅ := hs₅
    replace he₅ : IsEnum h₅ e z (c + 1) (.ref hp.objs.size) := he₅
    show wpAny _ _ (Builtin.SmallTypes.ownedTupleHandOut (.ref e) (.ref (hp.objs.size + 1)) >>= _) _ _ ⟨h₅, g, d, tk + 1, os⟩
    refine wpAny_bind ?_
    · unfold Builtin.SmallTypes.ownedTupleHandOut
      refine wpAny_bind (wpAny_setField_rec he₅ (by simp) fun h₆ he₆ hs₆ => ?_)
      replace hs₆ : Heap.SameBut e h₅ h₆ := hs₆
      replace he₆ : IsEnumOut h₆ e z (c + 1) (.ref hp.objs.size) (hp.objs.size + 1) := he₆
      refine wpAny_setField_rec he₆ (by simp) fun h₇ he₇ hs₇ => ?_
      replace hs₇ : Heap.SameBut e h₆ h₇ := hs₇
      replace he₇ : IsEnumOut h₇ e z (c + 1) (.ref hp.objs.size) (hp.objs.size + 1) := he₇
      have hk₇ : ∀ b o, b ≠ e → h₄.get? b = some o → h₇.get? b = some o := fun b o hbe y => hs₇.extBut b o hbe (hs₆.extBut b o hbe (hs₅.extBut b o hbe y))
      refine wpAny_bind (wpAny_letGo (wpAny_pure ⟨_, rfl, hQ h₇ tk he₇ ?_ ?_ ?_ ?_ ?_⟩))
      · exact S₄.keeps fun b hb o y => hk₇ b o (fun q => hef (q ▸ hb)) y
      · exact hk₇ _ _ (Nat.ne_of_gt hel) hT₄
      · exact hk₇ _ _ (by have : e < hp.objs.size := hel; exact Nat.ne_of_gt (Nat.lt_succ_of_lt this)) ht₄
      · rw [hs₇.1, hs₆.1, hs₅.1, hz₄]
      · exact fun b o c1 c2 c3 c4 hb => hk₇ b o c1 (hk₄ b o c1 c2 c3 c4 hb)
end

theorem meets_enum_newZ (z TI TO : Addr) (ps : List (Addr × Addr)) (k : Nat) : Meets (Builtin.«enumerate.__new__» ⟨[.type "enumerate", .ref z], []⟩) (fun _ R s => ZSt s.heap z TI TO ps k ∧
      R (.ok (.ret (.ref s.heap.objs.size))) { s with heap := s.heap.push { cls := .type "enumerate", data := .fields #[.none, .bool false, .ref z, rawInt 0, .none, .none] } }) :=
  .of_wp fun prog w A R s h => by
    obtain ⟨hp, g, d, tk, os⟩ := s
    obtain ⟨hS, h⟩ := h
    have hsub := sub_enumerate
    have hS' : ZSt (Shared.heap ⟨hp, g, d, tk, os⟩) z TI TO ps k := hS
    wp_walk
    refine wpAny_stack_any fun st => wpAny_pure ?_
    split
    · rename_i c _ _ _ _ _
      cases (c == Value.type "enumerate")
      · wp_walk using pyIter_zn hS'
        exact ⟨_, rfl, h⟩
      · wp_walk using pyIter_zn hS'
        exact ⟨_, rfl, h⟩
    · wp_walk using pyIter_zn hS'
      exact ⟨_, rfl, h⟩
section
variable {prog : Program} {w : World} {A : Around} {E : Value → Shared → Prop} {s : Shared}
theorem call_enumZ {z TI TO : Addr} {ps : List (Addr × Addr)} {k : Nat} {Q : Value → Shared → Prop} (hS : ZSt s.heap z TI TO ps k)
    (h : ∀ h', IsEnum h' s.heap.objs.size z 0 .none → (∀ b o, s.heap.get? b = some o → h'.get? b = some o) → Q (.ref s.heap.objs.size) { s with heap := h' }) :
    wpAny (model prog w) A (call (.type "enumerate") [.ref z]) Q E s := by
  refine callType_new F.called_enumerate (by decide) (F.typeCall_enumerate_1 _) (F.newCall_enumerate_1 _) (fun obj => F.args_object_init_2 obj _) F.entry_enumerate_new
    (meets_enum_newZ z TI TO ps k) ⟨hS, ?_⟩
  have he : IsEnum (s.heap.push { cls := .type "enumerate", data := .fields #[.none, .bool false, .ref z, rawInt 0, .none, .none] }) s.heap.objs.size z 0 .none := Heap.get?_push_size _ rfl
  exact ⟨⟨_, he, rfl⟩, h _ he fun b o x => Heap.get?_push_of_some _ x⟩
end

def ItEz (K : PySem.W.Frag) (ls : List Addr) (rows : List (List V)) (m : Nat) : It :=
  ⟨fun i H => i < m ∧ Rws K H ls rows m, fun i H v H' => ∃ T U, v = .ref U ∧ H T = none ∧ T ≠ U ∧ H U = none ∧ H' = upd (upd H T (.tup (colV rows i))) U (.tup [.int ((0 : Int) + (i : Nat)), .ref T]), fun i H => i = m ∧ Rws K H ls rows m⟩
theorem turn_ez {P : Program} {w : World} {K : PySem.W.Frag} {elts : List Expr} {kk : Nat} {tpos : Pos} {n m : Nat} {ls : List Addr} {rows : List (List V)} (h1 : 1 ≤ ls.length) (h2 : ls.length ≤ 4) (hlt : ∀ l ∈ ls, l < n) {e : Addr}
    (hef : e ∉ zfp (n + ls.length + 2) (n + ls.length) (n + ls.length + 1) (zps n ls)) :
    Turn P w K (.Tuple elts kk tpos) (ItEz K ls rows m) (e :: zfp (n + ls.length + 2) (n + ls.length) (n + ls.length + 1) (zps n ls)) e
      (fun i h => (∃ old, IsEnum h e (n + ls.length + 2) ((0 : Int) + (i : Nat)) old) ∧ ZSt h (n + ls.length + 2) (n + ls.length) (n + ls.length + 1) (zps n ls) i) where
  mem := List.mem_cons_self
  obj := fun i h S b hb => by
    obtain ⟨⟨old, he⟩, ⟨⟨f0, f1, hz, _⟩, hTI, ⟨arr, _, hTO⟩, hits⟩⟩ := S
    rcases List.mem_cons.mp hb with rfl | hb
    · exact ⟨_, he, fun v q => nomatch q⟩
    rcases List.mem_cons.mp hb with rfl | hb
    · exact ⟨_, hz, fun v q => nomatch q⟩
    rcases List.mem_cons.mp hb with rfl | hb
    · exact ⟨_, hTI, fun v q => nomatch q⟩
    rcases List.mem_cons.mp hb with rfl | hb
    · exact ⟨_, hTO, fun v q => nomatch q⟩
    obtain ⟨p, hp, rfl⟩ := List.mem_map.mp hb
    obtain ⟨o, e, _, d⟩ := hits p hp
    exact ⟨o, e, fun v q => by rw [d] at q; cases q⟩
  keep := fun i h h' S k => by
    obtain ⟨⟨old, he⟩, S⟩ := S
    exact ⟨⟨old, k e (by simp) _ he⟩, S.keeps fun b hb o y => k b (List.mem_cons_of_mem _ hb) o y⟩
  item := by
    intro X hP hw hK hc i pins s σ H E I hf S hg
    subst hP hw hK
    obtain ⟨⟨old, he⟩, S⟩ := S
    obtain ⟨hi, R⟩ := hg
    obtain ⟨us, hv, hx⟩ := R.vals I hi
    have hul : us.length = ls.length := by rw [← hv.length, R.len]; simp [colV]
    have D := zapart hlt
    have hT : s.TypeIs (.ref e) "enumerate" := ⟨_, he, rfl⟩
    have hfz : ∀ b ∈ e :: zfp (n + ls.length + 2) (n + ls.length) (n + ls.length + 1) (zps n ls), b < s.heap.objs.size := fun b hb => by
      rcases List.mem_cons.mp hb with rfl | hb
      · exact Heap.lt_size he
      obtain ⟨⟨f0, f1, hz, _⟩, hTI, ⟨arr, _, hTO⟩, hits⟩ := S
      rcases List.mem_cons.mp hb with rfl | hb
      · exact Heap.lt_size hz
      rcases List.mem_cons.mp hb with rfl | hb
      · exact Heap.lt_size hTI
      rcases List.mem_cons.mp hb with rfl | hb
      · exact Heap.lt_size hTO
      obtain ⟨p, hp, rfl⟩ := List.mem_map.mp hb
      obtain ⟨o, e, _⟩ := hits p hp
      exact Heap.lt_size e
    unfold pyNext
    refine wpAny_bind (wpAny_attempt (wpAny_callSpecial?_slot (name := Str.ofString "__next__") hT F.slot_enumerate_next
      (wpAny_call_entry F.slot_enumerate_next hT F.entry_enumerate_next
        (ez_next_item D (by rw [zps_length]; exact h1) (by rw [zps_length]; omega) he S (vs := us) (by rw [zps_length]; exact hul) (fun j p e => ?_) hef fun h' tk ho S' hTu hU hsz hk => wpAny_pure ?_) (F.args_enumerate_next_1 _))))
    · rw [zps_get] at e
      cases ea : ls[j]? with
      | none => rw [ea] at e; cases e
      | some a =>
        rw [ea] at e
        obtain rfl : (n + j, a) = p := Option.some.inj e
        exact hx j a ea
    · refine ⟨_, rfl, wpAny_letOwnedTupleGo_enum (s := { s with heap := h', toks := tk + 1 }) ho fun h'' he' sb => ?_⟩
      have hcl : (colV rows i).length ≤ sizeLine := by
        rw [hv.length, hul, sizeLine_eq]
        omega
      have hel : e < s.heap.objs.size := hfz e List.mem_cons_self
      have hk2 : ∀ b o, b ∉ e :: zfp (n + ls.length + 2) (n + ls.length) (n + ls.length + 1) (zps n ls) → s.heap.get? b = some o → h''.get? b = some o := fun b o hb q =>
        (sb.2 b (fun z => hb (by simp [z]))).trans (hk b o (fun z => hb (by simp [z])) (fun z => hb (by simp [z, zfp])) (fun z => hb (by simp [z, zfp])) (fun p hp z => hb (by
          refine List.mem_cons_of_mem _ (List.mem_cons_of_mem _ (List.mem_cons_of_mem _ (List.mem_cons_of_mem _ ?_)))
          rw [z]
          exact List.mem_map_of_mem hp)) q)
      have hTu2 : h''.get? s.heap.objs.size = some (tObj us.toArray) := (sb.2 _ (Nat.ne_of_gt hel)).trans hTu
      have hU2 : h''.get? (s.heap.objs.size + 1) = some { cls := .type "tuple", data := .seq #[.int ((0 : Int) + (i : Nat)) tk, .ref s.heap.objs.size] } := (sb.2 _ (Nat.ne_of_gt (Nat.lt_succ_of_lt hel))).trans hU
      have new1 : ObjOk X.prog X.w (upd H s.heap.objs.size (.tup (colV rows i))) (s.heap.push (tObj us.toArray)) s.heap.objs.size (.tup (colV rows i)) := ⟨hcl, us, hv, ⟨_, Heap.get?_push_size _ rfl, rfl, _, rfl⟩⟩
      have I1 : Inv X pins σ (upd H s.heap.objs.size (.tup (colV rows i))) { s with heap := s.heap.push (tObj us.toArray), toks := s.toks } :=
        I.laid (fun b o q => Heap.get?_push_of_some _ q) (Nat.le_refl _) new1
      have hz1 : (s.heap.push (tObj us.toArray)).objs.size = s.heap.objs.size + 1 := Heap.size_push ..
      have new2 : ObjOk X.prog X.w (upd (upd H s.heap.objs.size (.tup (colV rows i))) (s.heap.objs.size + 1) (.tup [.int ((0 : Int) + (i : Nat)), .ref s.heap.objs.size])) h'' (s.heap.objs.size + 1) (.tup [.int ((0 : Int) + (i : Nat)), .ref s.heap.objs.size]) :=
        ⟨by show 2 ≤ sizeLine; decide, [.int ((0 : Int) + (i : Nat)) tk, .ref s.heap.objs.size], .cons ⟨_, rfl⟩ (.cons rfl .nil), ⟨_, hU2, rfl, _, rfl⟩⟩
      have hf1 : ∀ b ∈ e :: zfp (n + ls.length + 2) (n + ls.length) (n + ls.length + 1) (zps n ls), FpOk X pins (upd H s.heap.objs.size (.tup (colV rows i))) b := fun b hb => by
        refine ⟨?_, (hf b hb).2⟩
        rw [upd_ne (Nat.ne_of_lt (hfz b hb))]
        exact (hf b hb).1
      have I2 : Inv X pins σ (upd (upd H s.heap.objs.size (.tup (colV rows i))) (s.heap.objs.size + 1) (.tup [.int ((0 : Int) + (i : Nat)), .ref s.heap.objs.size])) { s with heap := h'', toks := tk + 1 } := by
        refine I1.turnedNew (t' := tk + 1) (fun b o hb q => ?_) hf1 (Nat.le_of_eq hz1) new2
        rcases Heap.get?_push_cases q with ⟨hbN, ho2⟩ | q3
        · rw [hbN, ho2]
          exact hTu2
        · exact hk2 b o hb q3
      have hT0 : H s.heap.objs.size = none := I.hok.fresh (Nat.le_refl _)
      have hU0 : H (s.heap.objs.size + 1) = none := I.hok.fresh (Nat.le_succ _)
      have S2 : ZSt h'' (n + ls.length + 2) (n + ls.length) (n + ls.length + 1) (zps n ls) (i + 1) := S'.keeps fun b hb o y => (sb.2 b (fun z => hef (z ▸ hb))).trans y
      refine ⟨.ref (s.heap.objs.size + 1), _, I2, rfl, ⟨_, _, rfl, hT0, Nat.ne_of_lt (Nat.lt_succ_self _), hU0, rfl⟩, ⟨⟨.ref s.heap.objs.size, ?_⟩, S2⟩, fun b hb => ?_⟩
      · have e1 : (0 : Int) + ((i + 1 : Nat) : Int) = (0 : Int) + (i : Int) + 1 := by omega
        rw [e1]
        exact he'
      · have hb' := hfz b hb
        rw [upd_ne (Nat.ne_of_lt (Nat.lt_succ_of_lt hb')), upd_ne (Nat.ne_of_lt hb')]
        exact (hf b hb).1
  done := by
    intro X hP hw hK hc i pins s σ H E I hf S hg
    subst hP hw hK
    obtain ⟨⟨old, he⟩, S⟩ := S
    obtain ⟨rfl, R⟩ := hg
    have hT : s.TypeIs (.ref e) "enumerate" := ⟨_, he, rfl⟩
    cases hls : ls with
    | nil => rw [hls] at h1; simp at h1
    | cons a r =>
      cases hrw : rows with
      | nil => have := R.len; rw [hls, hrw] at this; simp at this
      | cons q rr =>
        obtain ⟨hq, hl⟩ := R.at_ 0 a q (by rw [hls]; rfl) (by rw [hrw]; rfl)
        obtain ⟨its, rv, ⟨o, ho, hc', n', hd⟩, _⟩ := I.tuple hq
        have hps : zps n ls = (n, a) :: (zps n ls).tail := by
          rw [hls]
          simp [zps]
        unfold pyNext
        refine wpAny_bind (wpAny_attempt (wpAny_callSpecial?_slot (name := Str.ofString "__next__") hT F.slot_enumerate_next
          (wpAny_call_entry F.slot_enumerate_next hT F.entry_enumerate_next ?_ (F.args_enumerate_next_1 _))))
        show wpAny _ _ (field (.ref e) 2 >>= _) _ _ _
        refine wpAny_bind (wpAny_field he rfl (x := .ref (n + ls.length + 2)) rfl ?_)
        refine wpAny_bind (nextOf_zn_end (I.ok.hd hc) (zapart hlt) S hps (xs := its.toArray) ⟨o, ho, hc', n', hd⟩ ?_ fun h' e' hk he' => ?_)
        · have := rv.length
          rw [List.getElem?_toArray, List.getElem?_eq_none (by omega)]
        · obtain ⟨o2, ho2, hc2⟩ := he'
          refine wpAny_bind (wpAny_isInstance (T := "StopIteration") (b := true) ⟨o2, ho2, hc2⟩ isSubtype_stop (wpAny_pure ⟨rfl, ?_⟩))
          exact I.turnedL (t' := s.toks) (fun c o hb q => hk c o (fun z => hb (by simp [z, zfp])) (fun z => hb (by simp [z, zfp])) (fun p hp z => hb (by
            refine List.mem_cons_of_mem _ (List.mem_cons_of_mem _ (List.mem_cons_of_mem _ (List.mem_cons_of_mem _ ?_)))
            rw [z]
            exact List.mem_map_of_mem hp)) q) hf
  self := fun A i s Q E S h => by
    obtain ⟨⟨_, he⟩, _⟩ := S
    exact wpAny_pyIter_enum he h

/-- for i, x in enumerate(zip(*e)), e a list or tuple of one to four tuples of one length -/
def iEnumZ (K : PySem.W.Frag) (te : TE) : TI := fun σ H R => te σ H fun y H1 => ∃ (a : Addr) (ls : List Addr) (rows : List (List V)) (m : Nat), y = .ref a ∧ (SqT K H1 a (ls.map V.ref) ∨ SqL K H1 a (ls.map V.ref)) ∧
  1 ≤ ls.length ∧ ls.length ≤ 4 ∧ Rws K H1 ls rows m ∧ R (ItEz K ls rows m) H1
theorem pi_enumZ {X : Cx} {e : Expr} {te : TE} {p p2 pos pos2 spos tpos : Pos} {elts : List Expr} {kk : Nat} (hge : Gl X "enumerate") (hme : X.mg "enumerate" = none) (hg : Gl X "zip") (hm : X.mg "zip" = none) (he : PE X e te)
    (hst : starEach [.Starred e spos] X.env = [(true, eval e X.env)] := by rfl)
    (hs : starEach [.Call (.Name "zip" p) [.Starred e spos] [] pos] X.env = [(false, eval (.Call (.Name "zip" p) [.Starred e spos] [] pos) X.env)] := by rfl) :
    PI X (.Tuple elts kk tpos) (.Call (.Name "enumerate" p2) [.Call (.Name "zip" p) [.Starred e spos] [] pos] [] pos2) (iEnumZ X.K te) := by
  refine ⟨fun pins s σ H R I h => Call_ (ld_blt I hge hme boot_enumerate (PyProof.Rows.callWith_type1 ?_ hs rfl))⟩
  rw [hs]
  refine Calls.spliced_cons ?_
  refine wpAny_Call_Name_kw (ld_blt I hg hm PyProof.Rows.boot_zip ?_)
  rw [hst]
  refine PySem.W.ks_call (P := fun _ => True) rfl (fun h _ => ⟨.machine, .inr (.inl rfl), fun A Q E s _ q => wpAny_pure q⟩) (PySem.W.ks_lone ?_)
  refine thn (he.run pins s σ H _ I h) fun v s1 ⟨y, H1, I1, ry, a, ls, rows, m, ey, hx, h1, h2, Rw, q⟩ => ?_
  subst ey
  obtain rfl : v = Value.ref a := ry
  refine StX.star_any I1 hx fun us s2 I2 rv => ⟨trivial, ?_⟩
  obtain rfl := vals_refs rv
  have tup : ∀ l ∈ ls, ∃ xs, s2.heap.IsTuple l xs := fun l hl => by
    obtain ⟨j, hj⟩ := List.mem_iff_getElem?.mp hl
    have hjl := (List.getElem?_eq_some_iff.mp hj).1
    have hjr : rows[j]? = some (rows[j]'(by have := Rw.len; omega)) := List.getElem?_eq_getElem (by have := Rw.len; omega)
    obtain ⟨its, _, ⟨o, ho, hc, n, hd⟩, _⟩ := I2.tuple (Rw.at_ j l _ hj hjr).1
    exact ⟨its.toArray, o, ho, hc, n, hd⟩
  refine call_zipN h1 h2 tup fun h' n en S hsz hk => ?_
  have I3 : Inv X pins σ H1 { s2 with heap := h' } := I2.kept (t' := s2.toks) hk
  have hlt : ∀ l ∈ ls, l < n := fun l hl => by
    obtain ⟨xs, o, ho, _⟩ := tup l hl
    rw [en]
    exact Heap.lt_size ho
  refine Calls.spliced_nil ?_
  refine call_enumZ (s := { s2 with heap := h' }) S fun h3 hE3 hk3 => wpAny_pyIter_enum hE3 ?_
  have I4 : Inv X pins σ H1 { s2 with heap := h3 } := I3.kept (t' := s2.toks) hk3
  have hef : h'.objs.size ∉ zfp (n + ls.length + 2) (n + ls.length) (n + ls.length + 1) (zps n ls) := fun hb => by
    rw [hsz] at hb
    rcases List.mem_cons.mp hb with hb | hb
    · omega
    rcases List.mem_cons.mp hb with hb | hb
    · omega
    rcases List.mem_cons.mp hb with hb | hb
    · omega
    obtain ⟨p, hp, e⟩ := List.mem_map.mp hb
    obtain ⟨j, hj, _, ep⟩ := zps_mem hp
    exact nat7 e ep hj
  have S3 : ZSt h3 (n + ls.length + 2) (n + ls.length) (n + ls.length + 1) (zps n ls) 0 := S.keeps fun b _ o y => hk3 b o y
  refine ⟨h'.objs.size, _, _, _, H1, rfl, I4, turn_ez h1 h2 hlt hef, ⟨⟨_, hE3⟩, S3⟩, fun b hb => ?_, q⟩
  have hle : s2.heap.objs.size ≤ b := by
    rw [← en]
    rcases List.mem_cons.mp hb with rfl | hb
    · omega
    rcases List.mem_cons.mp hb with rfl | hb
    · omega
    rcases List.mem_cons.mp hb with rfl | hb
    · omega
    rcases List.mem_cons.mp hb with rfl | hb
    · omega
    obtain ⟨p, hp, rfl⟩ := List.mem_map.mp hb
    obtain ⟨j, _, _, e⟩ := zps_mem hp
    exact Nat.le_trans (Nat.le_add_right n j) (Nat.le_of_eq e.symm)
  exact I2.fpOk hle (I2.hok.fresh hle)
theorem walk_ez {K : PySem.W.Frag} {ls : List Addr} {rows : List (List V)} {m : Nat} : Walk (ItEz K ls rows m) m (fun H => Rws K H ls rows m)
    (fun i H v H' => ∃ T U, v = .ref U ∧ H T = none ∧ T ≠ U ∧ H U = none ∧ H' = upd (upd H T (.tup (colV rows i))) U (.tup [.int ((0 : Int) + (i : Nat)), .ref T])) :=
  ⟨fun _ _ hi q => ⟨hi, q⟩, fun _ q => ⟨rfl, q⟩, fun _ _ _ _ _ _ y => y⟩
end DD
namespace DD
open PySem PySem.Spec PyProof.Rows L2 RZ
/-! ### zip() of nothing -/
theorem typeCall_zipM : ∀ vs : List Value, vs.length ≤ 4 → checkTypeCall "zip" ⟨vs, []⟩ = pure ()
  | [], _ => by kernel_rfl
  | a :: vs, h => typeCall_zipN (a :: vs) (Nat.succ_pos _) h
theorem newCall_zipM : ∀ vs : List Value, vs.length ≤ 4 → checkBuiltinCall "zip.__new__" ⟨.type "zip" :: vs, []⟩ = pure ()
  | [], _ => by kernel_rfl
  | a :: vs, h => newCall_zipN (a :: vs) (Nat.succ_pos _) h
theorem args_object_initM (o : Value) : ∀ vs : List Value, vs.length ≤ 4 → argsOk "object.__init__" ⟨o :: vs, []⟩
  | [], _ => by
    unfold argsOk
    rw [signature?_of (id := "object.__init__") (n := ['_', '_', 't', 'i', 'n', 'i', '_', '_']) (o := ['t', 'c', 'e', 'j', 'b', 'o']) (by kernel_rfl) F.owner_object]
    kernel_rfl
  | a :: vs, h => args_object_initN o (a :: vs) (Nat.succ_pos _) h
section
variable {prog : Program} {w : World} {A : Around} {E : Value → Shared → Prop} {s : Shared}
theorem zip_newM {ls : List Addr} {Q : Value → Shared → Prop} (h2 : ls.length ≤ 4) (hl : ∀ l ∈ ls, ∃ xs, s.heap.IsTuple l xs)
    (hQ : ∀ h' n, n = s.heap.objs.size → ZSt h' (n + ls.length + 2) (n + ls.length) (n + ls.length + 1) (ls.zipIdx.map fun x => (n + x.2, x.1)) 0 → h'.objs.size = n + ls.length + 3 →
      (∀ c o, s.heap.get? c = some o → h'.get? c = some o) → Q (.ref (n + ls.length + 2)) { s with heap := h' }) :
    wpAny (model prog w) A (Builtin.«zip.__new__» ⟨.type "zip" :: ls.map Value.ref, []⟩) (fun fin s' => ∃ v, fin = .done (.ret v) ∧ Q v s') E s := by
  have hsub := sub_zip
  have hc : wpAny (model prog w) A (Builtin.SmallTypes.newClass "zip" ⟨.type "zip" :: ls.map Value.ref, []⟩) (fun r s' => r = (.type "zip", ls.map Value.ref) ∧ s' = s) E s := by
    unfold Builtin.SmallTypes.newClass
    wp_walk
    exact ⟨rfl, rfl⟩
  unfold Builtin.«zip.__new__»
  refine wpAny_bind (thn hc ?_)
  rintro _ _s ⟨rfl, rfl⟩
  show wpAny _ _ (Builtin.SmallTypes.iterAll (ls.map Value.ref) >>= _) _ _ _
  refine wpAny_bind (iterAll_tups hl fun h1' its hil hi hsz hk hit => ?_)
  have hsl : its.length ≤ sizeLine := by rw [hil, sizeLine_eq]; omega
  refine wpAny_bind (wpAny_newTuple ?_ hsl)
  refine wpAny_bind (wpAny_newTuple ?_ (by rw [List.length_map]; exact hsl))
  refine wpAny_bind ?_
  unfold Builtin.SmallTypes.newRecord
  refine wpAny_newObj_type ?_ (show (5 : Nat) ≤ sizeLine + 2 by rw [sizeLine_eq]; omega)
  refine wpAny_pure ⟨_, rfl, ?_⟩
  have z1 : (h1'.push (tObj its.toArray)).objs.size = h1'.objs.size + 1 := Heap.size_push ..
  have z2 : ((h1'.push (tObj its.toArray)).push (tObj (its.map fun _ => Value.none).toArray)).objs.size = h1'.objs.size + 2 := by rw [Heap.size_push, z1]
  have fin : Q (.ref ((h1'.push (tObj its.toArray)).push (tObj (its.map fun _ => Value.none).toArray)).objs.size)
      { _s with heap := ((h1'.push (tObj its.toArray)).push (tObj (its.map fun _ => Value.none).toArray)).push (zObj .none (.bool false) h1'.objs.size (h1'.push (tObj its.toArray)).objs.size) } := by
    rw [z2, z1, hsz]
    refine hQ _ _ rfl ⟨⟨.none, .bool false, ?_, .inl rfl⟩, ?_, ⟨(its.map fun _ => Value.none).toArray, ?_, ?_⟩, fun p hp => ?_⟩ ?_ fun c o e => Heap.get?_push_of_some _ (Heap.get?_push_of_some _ (Heap.get?_push_of_some _ (hk c o e)))
    · rw [← hsz, ← z2]
      exact Heap.get?_push_size _ rfl
    · have e : its = (ls.zipIdx.map fun x => (_s.heap.objs.size + x.2, x.1)).map fun p => Value.ref p.1 := by
        refine List.ext_getElem? fun i => ?_
        rw [List.map_map, List.getElem?_map, List.getElem?_zipIdx]
        by_cases hlt : i < ls.length
        · rw [hi i hlt, List.getElem?_eq_getElem hlt]
          simp
        · rw [List.getElem?_eq_none (by omega), List.getElem?_eq_none (by omega)]
          rfl
      rw [← e, ← hsz]
      exact Heap.get?_push_of_some _ (Heap.get?_push_of_some _ (Heap.get?_push_size _ rfl))
    · simp [hil]
    · rw [← hsz, ← z1]
      exact Heap.get?_push_of_some _ (Heap.get?_push_size _ rfl)
    · obtain ⟨x, hx, rfl⟩ := List.mem_map.mp hp
      obtain ⟨i, hxi⟩ := List.mem_iff_getElem?.mp hx
      rw [List.getElem?_zipIdx] at hxi
      cases hl' : ls[i]? with
      | none =>
        rw [hl'] at hxi
        cases hxi
      | some l =>
        rw [hl'] at hxi
        obtain rfl : (l, 0 + i) = x := Option.some.inj hxi
        obtain ⟨o, e, c⟩ := hit i l hl'
        refine ⟨o, ?_, c⟩
        show Heap.get? _ (_s.heap.objs.size + (0 + i)) = some o
        rw [Nat.zero_add]
        exact Heap.get?_push_of_some _ (Heap.get?_push_of_some _ (Heap.get?_push_of_some _ e))
    · rw [Heap.size_push, z2, hsz]
  exact fin
end
section
variable {prog : Program} {w : World} {A : Around} {E : Value → Shared → Prop} {s : Shared}
theorem call_zipM {ls : List Addr} {Q : Value → Shared → Prop} (h2 : ls.length ≤ 4) (hl : ∀ l ∈ ls, ∃ xs, s.heap.IsTuple l xs)
    (hQ : ∀ h' n, n = s.heap.objs.size → ZSt h' (n + ls.length + 2) (n + ls.length) (n + ls.length + 1) (zps n ls) 0 → h'.objs.size = n + ls.length + 3 →
      (∀ c o, s.heap.get? c = some o → h'.get? c = some o) → Q (.ref (n + ls.length + 2)) { s with heap := h' }) :
    wpAny (model prog w) A (call (.type "zip") (ls.map Value.ref)) Q E s := by
  have m : Meets (Builtin.«zip.__new__» ⟨.type "zip" :: ls.map Value.ref, []⟩) (fun _ R s => (∀ l ∈ ls, ∃ xs, s.heap.IsTuple l xs) ∧
      ∀ h' n, n = s.heap.objs.size → ZSt h' (n + ls.length + 2) (n + ls.length) (n + ls.length + 1) (zps n ls) 0 → h'.objs.size = n + ls.length + 3 →
        (∀ c o, s.heap.get? c = some o → h'.get? c = some o) → R (.ok (.ret (.ref (n + ls.length + 2)))) { s with heap := h' }) :=
    .of_wp fun prog w A R s h => zip_newM h2 h.1 h.2
  refine callType_new F.called_zip (by decide) (typeCall_zipM _ (by simpa using h2)) (newCall_zipM _ (by simpa using h2))
    (fun obj => args_object_initM obj _ (by simpa using h2)) F.entry_zip_new m ⟨hl, fun h' n e1 e2 e3 e4 => ?_⟩
  obtain ⟨f0, f1, hz, _⟩ := e2.zz
  exact ⟨⟨_, hz, rfl⟩, hQ h' n e1 e2 e3 e4⟩

theorem zn_end0 {z TI TO : Addr} {k : Nat} {Q : Fin → Shared → Prop} (hh : A.handled = none) (S : ZSt s.heap z TI TO [] k)
    (hE : ∀ h' e, (∀ c o, s.heap.get? c = some o → h'.get? c = some o) → (∃ o, h'.get? e = some o ∧ o.cls = .type "StopIteration") → E (.ref e) { s with heap := h' }) :
    wpAny (model prog w) A (Builtin.«zip.__next__» ⟨[.ref z], []⟩) Q E s := by
  obtain ⟨⟨f0, f1, hz, hf0⟩, hTI, ⟨arr, ha, hTO⟩, hits⟩ := S
  show wpAny _ _ (field (.ref z) 2 >>= _) _ _ _
  refine wpAny_bind (wpAny_field hz rfl (x := .bool false) rfl ?_)
  show wpAny _ _ (field (.ref z) 3 >>= _) _ _ _
  refine wpAny_bind (wpAny_field hz rfl (x := .ref TI) rfl ?_)
  refine wpAny_bind (wpAny_seqItems hTI rfl ?_)
  have hne : (([] : List (Addr × Addr)).map fun p => Value.ref p.1).toArray.isEmpty = true := rfl
  simp only [hne, if_true]
  refine wpAny_bind (wpAny_rule ?_)
  refine wpAny_bind ?_
  unfold Builtin.SmallTypes.stopIteration
  show wpAny _ _ (newExc (.type "StopIteration") [] >>= _) _ _ _
  refine wpAny_bind ?_
  simp only [newExc, newTuple]
  refine wpAny_bind (wpAny_newObj_type ?_ (by size_fits))
  refine wpAny_bind (m := firstArgMember _ _) (wpAny_of_eq (a := Value.none) (by first | rfl | (simp only [firstArgMember]; rfl)) ?_)
  refine wpAny_newObj_type ?_ (by size_fits)
  simp only [raiseNew]
  refine wpAny_bind (wpAny_handled ?_)
  first | rw [show A.in1.handled = none from hh] | rw [hh]
  refine wpAny_bind (wpAny_pure (wpAny_throw ?_))
  exact hE _ _ (fun c o e => Heap.get?_push_of_some _ (Heap.get?_push_of_some _ e)) ⟨_, Heap.get?_push_size _ rfl, rfl⟩
theorem pyNext_zn_end0 {z TI TO : Addr} {k : Nat} {Q : Option Value → Shared → Prop} (hh : A.handled = none) (S : ZSt s.heap z TI TO [] k)
    (hQ : ∀ h', (∀ c o, s.heap.get? c = some o → h'.get? c = some o) → Q none { s with heap := h' }) :
    wpAny (model prog w) A (pyNext (.ref z)) Q E s := by
  obtain ⟨f0, f1, hz, hf0⟩ := S.zz
  have hT : s.TypeIs (.ref z) "zip" := ⟨_, hz, rfl⟩
  unfold pyNext
  refine wpAny_bind (wpAny_attempt (wpAny_callSpecial?_slot (name := Str.ofString "__next__") hT F.slot_zip_next
    (wpAny_call_entry F.slot_zip_next hT F.entry_zip_next (zn_end0 hh S fun h' e hk he => ?_) (F.args_zip_next_1 _))))
  obtain ⟨o, ho, hc⟩ := he
  exact wpAny_bind (wpAny_isInstance (T := "StopIteration") (b := true) ⟨o, ho, hc⟩ isSubtype_stop (wpAny_pure (hQ _ hk)))
end
theorem turn_z0 {P : Program} {w : World} {K : PySem.W.Frag} {x : Str} {xp : Pos} {n : Nat} :
    Turn P w K (.Name x xp) (ItzN K [] [] 0) [n + 2, n, n + 1] (n + 2) (fun i h => ZSt h (n + 2) n (n + 1) [] i) where
  mem := List.mem_cons_self
  obj := fun i h S b hb => by
    obtain ⟨⟨f0, f1, hz, _⟩, hTI, ⟨arr, _, hTO⟩, hits⟩ := S
    rcases List.mem_cons.mp hb with rfl | hb
    · exact ⟨_, hz, fun v q => nomatch q⟩
    rcases List.mem_cons.mp hb with rfl | hb
    · exact ⟨_, hTI, fun v q => nomatch q⟩
    rcases List.mem_cons.mp hb with rfl | hb
    · exact ⟨_, hTO, fun v q => nomatch q⟩
    · cases hb
  keep := fun i h h' S k => S.keeps fun b hb o y => k b (by simpa [zfp] using hb) o y
  item := by
    intro X hP hw hK hc i pins s σ H E I hf S hg
    exact absurd hg.1 (Nat.not_lt_zero _)
  done := by
    intro X hP hw hK hc i pins s σ H E I hf S hg
    subst hP hw hK
    exact pyNext_zn_end0 (I.ok.hd hc) S fun h' hk => ⟨rfl, I.kept (t' := s.toks) hk⟩
  self := fun A i s Q E S h => pyIter_zn S h
/-- for x in zip(*e), e a list or tuple of at most four tuples of one length -/
def iZipO (K : PySem.W.Frag) (te : TE) : TI := fun σ H R => te σ H fun y H1 => ∃ (a : Addr) (ls : List Addr) (rows : List (List V)) (m : Nat), y = .ref a ∧ (SqT K H1 a (ls.map V.ref) ∨ SqL K H1 a (ls.map V.ref)) ∧
  ls.length ≤ 4 ∧ (ls = [] → m = 0) ∧ Rws K H1 ls rows m ∧ R (ItzN K ls rows m) H1
theorem pi_zipO {X : Cx} {e : Expr} {te : TE} {p pos spos xp : Pos} {x : Str} (hg : Gl X "zip") (hm : X.mg "zip" = none) (he : PE X e te)
    (hst : starEach [.Starred e spos] X.env = [(true, eval e X.env)] := by rfl) :
    PI X (.Name x xp) (.Call (.Name "zip" p) [.Starred e spos] [] pos) (iZipO X.K te) := by
  refine ⟨fun pins s σ H R I h => ?_⟩
  refine wpAny_Call_Name_kw (ld_blt I hg hm PyProof.Rows.boot_zip ?_)
  rw [hst]
  refine PySem.W.ks_call (P := fun _ => True) rfl (fun h _ => ⟨.machine, .inr (.inl rfl), fun A Q E s _ q => wpAny_pure q⟩) (PySem.W.ks_lone ?_)
  refine thn (he.run pins s σ H _ I h) fun v s1 ⟨y, H1, I1, ry, a, ls, rows, m, ey, hx, h2, hm0, Rw, q⟩ => ?_
  subst ey
  obtain rfl : v = Value.ref a := ry
  refine StX.star_any I1 hx fun us s2 I2 rv => ⟨trivial, ?_⟩
  obtain rfl := vals_refs rv
  have tup : ∀ l ∈ ls, ∃ xs, s2.heap.IsTuple l xs := fun l hl => by
    obtain ⟨j, hj⟩ := List.mem_iff_getElem?.mp hl
    have hjl := (List.getElem?_eq_some_iff.mp hj).1
    have hjr : rows[j]? = some (rows[j]'(by have := Rw.len; omega)) := List.getElem?_eq_getElem (by have := Rw.len; omega)
    obtain ⟨its, _, ⟨o, ho, hc, n, hd⟩, _⟩ := I2.tuple (Rw.at_ j l _ hj hjr).1
    exact ⟨its.toArray, o, ho, hc, n, hd⟩
  refine call_zipM h2 tup fun h' n en S hsz hk => ?_
  have I3 : Inv X pins σ H1 { s2 with heap := h' } := I2.kept (t' := s2.toks) hk
  have hlt : ∀ l ∈ ls, l < n := fun l hl => by
    obtain ⟨xs, o, ho, _⟩ := tup l hl
    rw [en]
    exact Heap.lt_size ho
  cases ls with
  | nil =>
    obtain rfl := hm0 rfl
    obtain rfl : rows = [] := List.eq_nil_of_length_eq_zero Rw.len.symm
    refine pyIter_zn (s := { s2 with heap := h' }) S ⟨n + 2, _, _, _, H1, rfl, I3, turn_z0, S, fun b hb => ?_, q⟩
    have hle : s2.heap.objs.size ≤ b := by
      rw [← en]
      rcases List.mem_cons.mp hb with rfl | hb
      · omega
      rcases List.mem_cons.mp hb with rfl | hb
      · omega
      rcases List.mem_cons.mp hb with rfl | hb
      · omega
      · cases hb
    exact I2.fpOk hle (I2.hok.fresh hle)
  | cons l0 ls =>
    refine pyIter_zn (s := { s2 with heap := h' }) S ⟨n + (l0 :: ls).length + 2, _, _, _, H1, rfl, I3, turn_zn (Nat.succ_pos _) h2 hlt, S, fun b hb => ?_, q⟩
    have hle : s2.heap.objs.size ≤ b := by
      rw [← en]
      rcases List.mem_cons.mp hb with rfl | hb
      · omega
      rcases List.mem_cons.mp hb with rfl | hb
      · omega
      rcases List.mem_cons.mp hb with rfl | hb
      · omega
      obtain ⟨p, hp, rfl⟩ := List.mem_map.mp hb
      obtain ⟨j, _, _, e⟩ := zps_mem hp
      exact Nat.le_trans (Nat.le_add_right n j) (Nat.le_of_eq e.symm)
    exact I2.fpOk hle (I2.hok.fresh hle)
theorem walk_zn {K : PySem.W.Frag} {ls : List Addr} {rows : List (List V)} {m : Nat} : Walk (ItzN K ls rows m) m (fun H => Rws K H ls rows m) (fun i H v H' => ∃ T, v = .ref T ∧ H T = none ∧ H' = upd H T (.tup (colV rows i))) :=
  ⟨fun _ _ hi q => ⟨hi, q⟩, fun _ q => ⟨rfl, q⟩, fun _ _ _ _ _ _ y => y⟩
/-- zip of two tuples, the first no longer than the second -/
theorem walk_zipT {K : PySem.W.Frag} {a b : Addr} {xs ys : List V} (hl : xs.length ≤ ys.length) : Walk (ItzT K a b) xs.length (fun H => SqT K H a xs ∧ SqT K H b ys) (YPair (fun i => xs[i]?) (fun i => ys[i]?)) := by
  refine ⟨fun i H hi q => ⟨xs, ys, xs[i], ys[i]'(by omega), q.1, q.2, by simp [hi], List.getElem?_eq_getElem (by omega)⟩, fun H q => ⟨xs, ys, q.1, q.2, .inl (Nat.le_refl _)⟩, fun i H v H' _ q y => ?_⟩
  obtain ⟨T, x', y', rfl, hT, rfl, f1, f2⟩ := y
  exact ⟨T, x', y', rfl, hT, rfl, f1 xs q.1, f2 ys q.2⟩
end DD
namespace DD
open PySem PySem.Spec PyProof.Rows L2
/-! ### small words about heaps -/
def Kp2 (a b : Addr) (H H' : Hp) : Prop := ∀ c o, c ≠ a → c ≠ b → H c = some o → H' c = some o
theorem Kp2.refl {a b : Addr} {H : Hp} : Kp2 a b H H := fun _ _ _ _ e => e
theorem Kp2.trans {a b : Addr} {H H1 H2 : Hp} (x : Kp2 a b H H1) (y : Kp2 a b H1 H2) : Kp2 a b H H2 := fun c o h1 h2 e => y c o h1 h2 (x c o h1 h2 e)
theorem kps {a b : Addr} {H H' : Hp} (x : Same H H') : Kp2 a b H H' := fun c o _ _ e => x c o e
theorem same_new {H : Hp} {p : Addr} {o : HO} (h : H p = none) : Same H (upd H p o) := fun b x e => by
  rw [upd_ne (ne_of_none e h)]
  exact e
theorem kp2_upd1 {a b : Addr} {H : Hp} {o : HO} : Kp2 a b H (upd H a o) := fun c x h1 _ e => by rw [upd_ne h1]; exact e
theorem kp2_upd2 {a b : Addr} {H : Hp} {o : HO} : Kp2 a b H (upd H b o) := fun c x _ h2 e => by rw [upd_ne h2]; exact e

/-- the deck at dk: its cells at c, none below 0; at most B draws so far -/
structure Deck (H : Hp) (dk c : Addr) (B : Nat) : Prop where
  ex : ∃ (ns : List Int) (t : Int), H dk = some (.lst [.ref c, .int t]) ∧ H c = some (.lst (ns.map V.int)) ∧ (∀ n ∈ ns, 0 ≤ n) ∧ ns.length ≤ 63 ∧ 0 ≤ t ∧ t ≤ (B : Int)
  ne : dk ≠ c
theorem Deck.up {H : Hp} {dk c : Addr} {B B' : Nat} (d : Deck H dk c B) (h : B ≤ B') : Deck H dk c B' := by
  obtain ⟨⟨ns, t, h1, h2, h3, h4, h5, h6⟩, ne⟩ := d
  exact ⟨⟨ns, t, h1, h2, h3, h4, h5, by omega⟩, ne⟩
theorem Deck.keep {H H' : Hp} {dk c : Addr} {B : Nat} (d : Deck H dk c B) (k : Same H H') : Deck H' dk c B := by
  obtain ⟨⟨ns, t, h1, h2, h3⟩, ne⟩ := d
  exact ⟨⟨ns, t, k _ _ h1, k _ _ h2, h3⟩, ne⟩

theorem len_ltD {n : Nat} (h : n ≤ 1000) : n < sizeLine := small1000 h
theorem get_map {α β : Type} {f : α → β} {xs : List α} {i : Nat} {y : β} (h : (xs.map f)[i]? = some y) : ∃ x, xs[i]? = some x ∧ y = f x := by
  rw [List.getElem?_map] at h
  cases e : xs[i]? with
  | none => rw [e] at h; cases h
  | some x => rw [e] at h; exact ⟨x, rfl, (Option.some.inj h).symm⟩
theorem take_succ_map {α β : Type} {f : α → β} {xs : List α} {i : Nat} {x : α} (h : xs[i]? = some x) : (xs.take (i + 1)).map f = (xs.take i).map f ++ [f x] := by
  rw [List.take_add_one, h, List.map_append]
  rfl
theorem cutV_map {ns : List Int} {lo hi : Option Int} : ∃ ms : List Int, cutV (ns.map V.int) lo hi = ms.map V.int ∧ ms.length ≤ ns.length := by
  refine ⟨(ns.drop (HT.sIx ns.length 0 lo)).take (HT.sIx ns.length ns.length hi - HT.sIx ns.length 0 lo), ?_, ?_⟩
  · unfold cutV
    rw [List.length_map, List.map_take, List.map_drop]
  · rw [List.length_take, List.length_drop]
    omega
theorem len_lt {n : Nat} (h : n ≤ 1000) : n < sizeLine := small1000 h
def absI (i : Int) : Int := if i < 0 then -i else i
theorem absI_pos (i : Int) : 0 ≤ absI i := by
  unfold absI
  split <;> omega

theorem Deck.kp {H : Hp} {dk c l : Addr} {B : Nat} {o : HO} (d : Deck H dk c B) (n : H l = none) : Deck (upd H l o) dk c B := d.keep (same_new n)
theorem Deck.nedk {H : Hp} {dk c l : Addr} {B : Nat} (d : Deck H dk c B) (n : H l = none) : l ≠ dk ∧ l ≠ c := by
  obtain ⟨ns, t, h1, h2, _⟩ := d.ex
  exact ⟨(ne_of_none h1 n).symm, (ne_of_none h2 n).symm⟩
theorem two_at {r a b : Int} (h0 : 0 ≤ r) (h : r < 2) : ∃ z : Int, (z = a ∨ z = b) ∧ atI [V.int a, V.int b] r = some (.int z) := by
  have e : r = 0 ∨ r = 1 := by omega
  rcases e with rfl | rfl
  · exact ⟨a, .inl rfl, rfl⟩
  · exact ⟨b, .inr rfl, rfl⟩
theorem kp_free {dk c t : Addr} {H H' : Hp} {B : Nat} (kp : Kp2 dk c H H') (d : Deck H' dk c B) (nt : H' t = none) : H t = none := by
  have tne := d.nedk nt
  cases e : H t with
  | none => rfl
  | some o =>
    have := kp t o tne.1 tne.2 e
    rw [nt] at this
    cases this
theorem Deck.updD {H : Hp} {dk c D : Addr} {B : Nat} {o : HO} (d : Deck H dk c B) (h1 : D ≠ dk) (h2 : D ≠ c) : Deck (upd H D o) dk c B := by
  obtain ⟨⟨ns, t, a1, a2, a3⟩, a4⟩ := d
  refine ⟨⟨ns, t, ?_, ?_, a3⟩, a4⟩
  · rw [upd_ne h1.symm]
    exact a1
  · rw [upd_ne h2.symm]
    exact a2
/-- the tuple at t holds tuples of ints: the rows -/
structure StockAt (H : Hp) (t : Addr) (ls : List Addr) (rows : List (List Int)) : Prop where
  top : H t = some (.tup (ls.map V.ref))
  len : ls.length = rows.length
  row : ∀ (j : Nat) (l : Addr) (r : List Int), ls[j]? = some l → rows[j]? = some r → H l = some (.tup (r.map V.int))
theorem StockAt.kp {H H' : Hp} {dk c t : Addr} {ls : List Addr} {rows : List (List Int)} {B : Nat} (a : StockAt H t ls rows) (k : Kp2 dk c H H') (d : Deck H dk c B) : StockAt H' t ls rows := by
  obtain ⟨ns, t', h1, h2, _⟩ := d.ex
  have n1 : ∀ b xs, H b = some (.tup xs) → b ≠ dk ∧ b ≠ c := fun b xs e =>
    ⟨fun z => (by rw [z, h1] at e; cases e), fun z => (by rw [z, h2] at e; cases e)⟩
  refine ⟨k _ _ (n1 _ _ a.top).1 (n1 _ _ a.top).2 a.top, a.len, fun j l r e1 e2 => ?_⟩
  have h := a.row j l r e1 e2
  exact k _ _ (n1 _ _ h).1 (n1 _ _ h).2 h
theorem StockAt.same {H H' : Hp} {t : Addr} {ls : List Addr} {rows : List (List Int)} (a : StockAt H t ls rows) (k : Same H H') : StockAt H' t ls rows :=
  ⟨k _ _ a.top, a.len, fun j l r e1 e2 => k _ _ (a.row j l r e1 e2)⟩
/-! ### data of stocks and rows -/
def rowD (r : List Int) : PyData := .tuple (r.map PyData.int)
def stockD (rows : List (List Int)) : PyData := .tuple (rows.map rowD)
theorem dps_ints {K : PySem.W.Frag} {H : Hp} : ∀ r : List Int, DpAll K H (r.map V.int) (r.map PyData.int)
  | [] => .nil
  | x :: r => .cons (.int x) (dps_ints r)
theorem dp_row {K : PySem.W.Frag} {H : Hp} {p : Addr} {r : List Int} (h : H p = some (.tup (r.map V.int))) : Dp K H (.ref p) (rowD r) := .tup (SqT.of h) (dps_ints r)
theorem dps_rows {K : PySem.W.Frag} {H : Hp} : ∀ (ls : List Addr) (rows : List (List Int)), ls.length = rows.length →
    (∀ (j : Nat) (l : Addr) (r : List Int), ls[j]? = some l → rows[j]? = some r → H l = some (.tup (r.map V.int))) → DpAll K H (ls.map V.ref) (rows.map rowD)
  | [], [], _, _ => .nil
  | [], _ :: _, h, _ => by simp at h
  | _ :: _, [], h, _ => by simp at h
  | l :: ls, r :: rows, h, hat => .cons (dp_row (hat 0 l r rfl rfl)) (dps_rows ls rows (by simpa using h) fun j l' r' e1 e2 => hat (j + 1) l' r' e1 e2)
theorem StockAt.dp {K : PySem.W.Frag} {H : Hp} {t : Addr} {ls : List Addr} {rows : List (List Int)} (a : StockAt H t ls rows) : Dp K H (.ref t) (stockD rows) :=
  .tup (SqT.of a.top) (dps_rows ls rows a.len a.row)
theorem sm_row {r : List Int} (h : ∀ x ∈ r, 0 ≤ x ∧ x < 4096) (hl : r.length ≤ 4) : Sm 56 1 (rowD r) := by
  have a : SmA (r.map PyData.int).length 13 0 (r.map PyData.int) := SmA.all fun d hd => by
    obtain ⟨x, hx, rfl⟩ := List.mem_map.mp hd
    exact Sm.int (h x hx).1 (h x hx).2
  refine a.tup.up ?_ (Nat.le_refl _)
  rw [List.length_map]
  omega
theorem sm_stock {rows : List (List Int)} (h : ∀ r ∈ rows, r.length ≤ 4 ∧ ∀ x ∈ r, 0 ≤ x ∧ x < 4096) (hl : rows.length ≤ 4) : Sm 228 2 (stockD rows) := by
  have a : SmA (rows.map rowD).length 56 1 (rows.map rowD) := SmA.all fun d hd => by
    obtain ⟨r, hr, rfl⟩ := List.mem_map.mp hd
    exact sm_row (h r hr).2 (h r hr).1
  refine a.tup.up ?_ (Nat.le_refl _)
  rw [List.length_map]
  omega
theorem sm_pair {a b : List Int} (ha : ∀ x ∈ a, 0 ≤ x ∧ x < 4096) (hal : a.length ≤ 4) (hb : ∀ x ∈ b, 0 ≤ x ∧ x < 4096) (hbl : b.length ≤ 4) : Sm 114 2 (.list [rowD a, rowD b]) := by
  have q : SmA (0 + 1 + 1) 56 1 [rowD a, rowD b] := SmA.cons (sm_row ha hal) (SmA.cons (sm_row hb hbl) SmA.nil)
  exact q.lst.up (by omega) (by omega)
theorem sum_bd {b : Int} : ∀ {xs : List Int}, (∀ x ∈ xs, 0 ≤ x ∧ x ≤ b) → 0 ≤ xs.sum ∧ xs.sum ≤ (xs.length : Int) * b
  | [], _ => by simp
  | x :: xs, h => by
    have h1 := h x List.mem_cons_self
    have h2 := sum_bd (xs := xs) fun y hy => h y (List.mem_cons_of_mem _ hy)
    rw [List.sum_cons, List.length_cons, Int.natCast_add, Int.add_mul]
    omega
theorem getD_bd {r : List Int} {b : Int} (h : ∀ x ∈ r, 0 ≤ x ∧ x ≤ b) (hb : 0 ≤ b) (i : Nat) : 0 ≤ r.getD i 0 ∧ r.getD i 0 ≤ b := by
  rw [List.getD_eq_getElem?_getD]
  cases e : r[i]? with
  | none => exact ⟨Int.le_refl _, hb⟩
  | some x => exact h x (List.mem_of_getElem? e)
theorem cat_gen {K : PySem.W.Frag} {H : Hp} {a b : Addr} {xs ys : List V} {Q : VK} (ha : H a = some (.tup xs)) (hb : H b = some (.tup ys)) (hl : xs.length + ys.length ≤ 1000)
    (q : ∀ p H', Same H H' → H' p = some (.tup (xs ++ ys)) → Q (.ref p) H') : rCatA K (.ref a) (.ref b) H Q := by
  refine ⟨a, b, xs, ys, rfl, rfl, SqT.of ha, SqT.of hb, Nat.le_of_lt (len_lt hl), fun e => ?_, fun _ e => ?_, fun _ _ p np => ?_⟩
  · subst e
    exact q b H (fun _ _ e => e) hb
  · subst e
    exact q a H (fun _ _ e => e) (by rw [List.append_nil]; exact ha)
  · exact q p _ (same_new np) upd_same
theorem sl_gen {K : PySem.W.Frag} {H : Hp} {a : Addr} {xs : List V} {lo hi : Option Int} {Q : VK} (ha : H a = some (.tup xs))
    (q : ∀ p H', Same H H' → H' p = some (.tup (cutV xs lo hi)) → Q (.ref p) H') : rSlA K (.ref a) lo hi H Q := by
  refine ⟨a, xs, rfl, SqT.of ha, fun e => ?_, fun _ p np => ?_⟩
  · refine q a H (fun _ _ e => e) ?_
    unfold cutV
    rw [e.1, e.2, Nat.sub_zero, List.drop_zero, List.take_length]
    exact ha
  · exact q p _ (same_new np) upd_same
theorem cut_to {r : List Int} {s : Nat} : cutV (r.map V.int) none (some (s : Int)) = (r.take s).map V.int := by
  unfold cutV
  rw [HT.sIx_none, HT.sIx_nat, List.drop_zero, Nat.sub_zero, List.length_map, ← List.map_take]
  congr 1
  by_cases h : s ≤ r.length
  · rw [Nat.min_eq_left h]
  · rw [Nat.min_eq_right (by omega), List.take_length, List.take_of_length_le (by omega)]
theorem cut_from {r : List Int} {s : Nat} : cutV (r.map V.int) (some (s : Int)) none = (r.drop s).map V.int := by
  unfold cutV
  rw [HT.sIx_none, HT.sIx_nat, List.length_map, ← List.map_drop, ← List.map_take]
  congr 1
  by_cases h : s ≤ r.length
  · rw [Nat.min_eq_left h, List.take_of_length_le (by rw [List.length_drop]; omega)]
  · rw [Nat.min_eq_right (by omega), List.drop_of_length_le (Nat.le_refl _), List.drop_of_length_le (by omega), List.take_nil]

/-! ### facts that stay while the deck turns -/
theorem tup_kp {H H' : Hp} {dk c p : Addr} {B : Nat} {xs : List V} (h : H p = some (.tup xs)) (d : Deck H dk c B) (k : Kp2 dk c H H') : H' p = some (.tup xs) := by
  obtain ⟨ns, t', h1, h2, _⟩ := d.ex
  exact k _ _ (fun z => by rw [z, h1] at h; cases h) (fun z => by rw [z, h2] at h; cases h) h
/-- a collection: n numbers from 0 to hi, one of them above 0 -/
structure Good (n : Nat) (hi : Int) (r : List Int) : Prop where
  len : r.length = n
  bd : ∀ x ∈ r, 0 ≤ x ∧ x ≤ hi
  pos : ∃ x ∈ r, 0 < x
/-- addresses of tuples of ints, row by row -/
def RowsAt (H : Hp) (ls : List Addr) (rows : List (List Int)) : Prop := ∀ (j : Nat) (l : Addr) (r : List Int), ls[j]? = some l → rows[j]? = some r → H l = some (.tup (r.map V.int))
theorem RowsAt.kp {H H' : Hp} {dk c : Addr} {B : Nat} {ls : List Addr} {rows : List (List Int)} (a : RowsAt H ls rows) (d : Deck H dk c B) (k : Kp2 dk c H H') : RowsAt H' ls rows :=
  fun j l r e1 e2 => tup_kp (a j l r e1 e2) d k
theorem RowsAt.same {H H' : Hp} {ls : List Addr} {rows : List (List Int)} (a : RowsAt H ls rows) (k : Same H H') : RowsAt H' ls rows := fun j l r e1 e2 => k _ _ (a j l r e1 e2)
/-- a list that changes is none of the rows -/
theorem RowsAt.updL {H : Hp} {F : Addr} {xs : List V} {o : HO} {ls : List Addr} {rows : List (List Int)} (a : RowsAt H ls rows) (h : H F = some (.lst xs)) : RowsAt (upd H F o) ls rows := fun j l r e1 e2 => by
  have h2 := a j l r e1 e2
  rw [upd_ne (fun z => by rw [z, h] at h2; cases h2)]
  exact h2
theorem RowsAt.snoc {H : Hp} {ls : List Addr} {rows : List (List Int)} {l : Addr} {r : List Int} (a : RowsAt H ls rows) (hl : ls.length = rows.length) (h : H l = some (.tup (r.map V.int))) : RowsAt H (ls ++ [l]) (rows ++ [r]) := by
  intro j l' r' x1 x2
  by_cases hj : j < ls.length
  · rw [List.getElem?_append_left hj] at x1
    rw [List.getElem?_append_left (by omega)] at x2
    exact a j l' r' x1 x2
  · have hj2 : j = ls.length := by
      have := (List.getElem?_eq_some_iff.mp x1).1
      rw [List.length_append] at this
      simp at this
      omega
    subst hj2
    rw [List.getElem?_append_right (Nat.le_refl _), Nat.sub_self] at x1
    rw [hl, List.getElem?_append_right (Nat.le_refl _), Nat.sub_self] at x2
    obtain rfl : l = l' := Option.some.inj x1
    obtain rfl : r = r' := Option.some.inj x2
    exact h
theorem RowsAt.init {H : Hp} {ls : List Addr} {rows : List (List Int)} {l : Addr} {r : List Int} (a : RowsAt H (ls ++ [l]) (rows ++ [r])) : RowsAt H ls rows := fun j l' r' x1 x2 =>
  a j l' r' (by rw [List.getElem?_append_left (List.getElem?_eq_some_iff.mp x1).1]; exact x1) (by rw [List.getElem?_append_left (List.getElem?_eq_some_iff.mp x2).1]; exact x2)
theorem Kp2.updF {H H' : Hp} {dk c F : Addr} {o : HO} (k : Kp2 dk c H H') (n : H F = none) : Kp2 dk c H (upd H' F o) := fun b o' h1 h2 e => by
  rw [upd_ne (ne_of_none e n)]
  exact k b o' h1 h2 e

theorem cutV_all {xs : List V} {lo hi : Option Int} (h : HT.sIx xs.length 0 lo = 0 ∧ HT.sIx xs.length xs.length hi = xs.length) : cutV xs lo hi = xs := by
  unfold cutV
  rw [h.1, h.2, List.drop_zero, Nat.sub_zero, List.take_length]
def rSlQ : V → Option Int → Option Int → Hp → VK → Prop := fun x lo hi H Q => ∃ a xs, x = .ref a ∧ H a = some (.tup xs) ∧ ∀ p H', Same H H' → H' p = some (.tup (cutV xs lo hi)) → Q (.ref p) H'
theorem sl_tupQ {X : Cx} : SlR X rSlQ := by
  intro pins s σ H x v vl vu lo hi sl Q I rx h1 h2 h3 h
  obtain ⟨a, xs, rfl, ha, q⟩ := h
  refine sl_tupA pins s σ H _ v vl vu lo hi sl Q I rx h1 h2 h3 ⟨a, xs, rfl, SqT.of ha, fun e => q a H (Same.refl _) (by rw [cutV_all e]; exact ha), fun _ p np => q p _ (same_new np) upd_same⟩
def rCatQ : R2 := fun x y H Q => ∃ a b xs ys, x = .ref a ∧ y = .ref b ∧ H a = some (.tup xs) ∧ H b = some (.tup ys) ∧ xs.length + ys.length ≤ 1000 ∧ ∀ p H', Same H H' → H' p = some (.tup (xs ++ ys)) → Q (.ref p) H'
theorem op_catQ {X : Cx} : OpR X (binaryOp .Add) rCatQ := by
  intro pins s σ H x y v u Q I rx ry h
  obtain ⟨a, b, xs, ys, rfl, rfl, ha, hb, hl, q⟩ := h
  refine op_catA pins s σ H _ _ v u Q I rx ry ⟨a, b, xs, ys, rfl, rfl, SqT.of ha, SqT.of hb, Nat.le_of_lt (len_lt hl), fun e => q b H (Same.refl _) ?_, fun _ e => q a H (Same.refl _) ?_, fun _ _ p np => q p _ (same_new np) upd_same⟩
  · rw [e]
    exact hb
  · rw [e, List.append_nil]
    exact ha
theorem meets_mul1 (l : Addr) (items : Array Value) (n : Nat) (dd : Option Addr) (sl : Array (Option Value)) (u : Tok) (hi : items.isEmpty = false) : Meets (Builtin.«tuple.__mul__» { pos := [Value.ref l, Value.int 1 u] })
    (fun _ R s => s.heap.get? l = some { cls := Value.type "tuple", dict := dd, data := Data.seq items n, slots := sl } ∧ R (Except.ok (Flow.ret (Value.ref l))) s) :=
  .of_wp fun prog w A R s h => by
    obtain ⟨hp, g, d, tk, os⟩ := s
    obtain ⟨h1, h⟩ := h
    have h2 : hp.get? l = some { cls := Value.type "tuple", dict := dd, data := Data.seq items n, slots := sl } := h1
    wp_walk
    exact ⟨_, rfl, h⟩
def rRepQ : R2 := fun x y H Q => ∃ l k xs, x = .ref l ∧ y = .int k ∧ H l = some (.tup xs) ∧ xs ≠ [] ∧ 1 ≤ k ∧ k ≤ 1000 ∧ xs.length ≤ 1000 ∧ ∀ p H', Same H H' → H' p = some (.tup (List.replicate k.toNat xs).flatten) → Q (.ref p) H'
theorem op_repQ {X : Cx} : OpR X (binaryOp .Mult) rRepQ := by
  intro pins s σ H x y v u Q I rx ry h
  obtain ⟨l, k, xs, rfl, rfl, hl, hx, k1, k2, hn, q⟩ := h
  by_cases hk : 2 ≤ k
  · exact op_repT pins s σ H _ _ v u Q I rx ry ⟨l, k, xs, rfl, rfl, SqT.of hl, hx, hk, k2, hn, fun p np => q p _ (same_new np) upd_same⟩
  · obtain rfl : k = 1 := by omega
    cases rx
    obtain ⟨t, rfl⟩ := ry
    obtain ⟨its, rv, ⟨o, h1, h2, n, h3⟩, hz⟩ := I.tuple (SqT.of (K := X.K) hl)
    obtain ⟨oc, od, oda, osl⟩ := o
    simp only at h2 h3
    subst h2 h3
    have he : its.toArray.isEmpty = false := by
      cases rv with
      | nil => exact absurd rfl hx
      | cons _ _ => rfl
    refine wpAny_binaryOp_repeat_ref (T := "tuple") (U := "int") (by decide) ⟨_, h1, rfl⟩ (fun s' => typeIs_int s' _ _) noFill_tuple_mul F.fills_int_mul F.slot_int_rmul repeat_tuple (F.slot_int_index.lookup) ?_
    refine call_meets F.slot_int_rmul (typeIs_int _ _ _) F.entry_int_rmul (F.args_int_rmul_2 _ _) (int_rmul_tuple _ _ _ _ _ _ _) ⟨h1, rfl, ⟨_, h1, rfl⟩, ?_⟩
    refine call_meets F.slot_tuple_mul ⟨_, h1, rfl⟩ F.entry_tuple_mul (F.args_tuple_mul_2 _ _) (meets_mul1 l its.toArray n od osl t he) ⟨h1, ⟨.ref l, H, I, rfl, q l H (Same.refl _) ?_⟩⟩
    rw [hl]
    show _ = some (HO.tup (List.replicate 1 xs).flatten)
    rw [List.replicate_one, List.flatten_singleton]

theorem rep_one {z : Int} {n : Nat} : (List.replicate n [V.int z]).flatten = (List.replicate n z).map V.int := by
  induction n with
  | zero => rfl
  | succ n ih => rw [List.replicate_succ, List.flatten_cons, ih, List.replicate_succ]; rfl
theorem three_at {r a b c : Int} (h0 : 0 ≤ r) (h : r < 3) : ∃ z : Int, (z = a ∨ z = b ∨ z = c) ∧ atI [V.int a, V.int b, V.int c] r = some (.int z) := by
  have e : r = 0 ∨ r = 1 ∨ r = 2 := by omega
  rcases e with rfl | rfl | rfl
  · exact ⟨a, .inl rfl, rfl⟩
  · exact ⟨b, .inr (.inl rfl), rfl⟩
  · exact ⟨c, .inr (.inr rfl), rfl⟩
def TK (H H' : Hp) : Prop := ∀ b xs, H b = some (.tup xs) → H' b = some (.tup xs)
theorem TK.refl {H : Hp} : TK H H := fun _ _ e => e
theorem TK.trans {H H1 H2 : Hp} (a : TK H H1) (b : TK H1 H2) : TK H H2 := fun c xs e => b c xs (a c xs e)
theorem TK.same {H H' : Hp} (s : Same H H') : TK H H' := fun b xs e => s _ _ e
theorem TK.kp {H H' : Hp} {dk c : Addr} {B : Nat} (d : Deck H dk c B) (k : Kp2 dk c H H') : TK H H' := fun b xs e => tup_kp e d k
theorem TK.lst {H : Hp} {D : Addr} {xs : List V} {o : HO} (h : H D = some (.lst xs)) : TK H (upd H D o) := fun b ys e => by
  rw [upd_ne (fun z => by rw [z, h] at e; cases e)]
  exact e
theorem StockAt.tk {H H' : Hp} {t : Addr} {ls : List Addr} {rows : List (List Int)} (a : StockAt H t ls rows) (k : TK H H') : StockAt H' t ls rows :=
  ⟨k _ _ a.top, a.len, fun j l r e1 e2 => k _ _ (a.row j l r e1 e2)⟩

theorem log2_lt_20 {n : Nat} (h : n < 1048576) : n.log2 ≤ 19 := by
  by_cases h0 : n = 0
  · subst h0; decide
  · have := (Nat.log2_lt h0 (k := 20)).mpr (by omega)
    omega
theorem Sm.intM {i : Int} (h0 : 0 ≤ i) (h : i < 1048576) : Sm 21 0 (.int i) where
  lay := rfl
  short := by
    refine decide_eq_true ?_
    have e := PyProof.Rows.toString_length_le (v := i) (k := 7) h0 (by decide) (by omega)
    exact Nat.le_trans e (by decide)
  show_ := decide_eq_true (by have := log2_lt_20 (n := i.natAbs) (by omega); omega)
  wt := by
    have := log2_lt_20 (n := i.natAbs) (by omega)
    show (if i == 0 then 0 else i.natAbs.log2 + 1) ≤ 21
    split
    · omega
    · omega
  dp := Nat.le_refl _
theorem getD_of {α : Type} {xs : List α} {i : Nat} {d : α} (h : i < xs.length) : xs[i]? = some (xs.getD i d) := by
  rw [List.getD_eq_getElem?_getD, List.getElem?_eq_getElem h]
  rfl
theorem RowsAt.nil {H : Hp} : RowsAt H [] [] := fun j l r e => by simp at e
theorem RowsAt.tk {H H' : Hp} {ls : List Addr} {rows : List (List Int)} (a : RowsAt H ls rows) (k : TK H H') : RowsAt H' ls rows := fun j l r e1 e2 => k _ _ (a j l r e1 e2)
/-! ### data made of tuples -/
mutual
inductive Td (H : Hp) : V → PyData → Prop
  | non : Td H .non .none
  | bl (b : Bool) : Td H (.bl b) (.bool b)
  | int (i : Int) : Td H (.int i) (.int i)
  | str (x : Str) : Td H (.str x) (.str x)
  | tup {a : Addr} {xs : List V} {ds : List PyData} : H a = some (.tup xs) → TdAll H xs ds → Td H (.ref a) (.tuple ds)
inductive TdAll (H : Hp) : List V → List PyData → Prop
  | nil : TdAll H [] []
  | cons {v : V} {d : PyData} {vs : List V} {ds : List PyData} : Td H v d → TdAll H vs ds → TdAll H (v :: vs) (d :: ds)
end
mutual
theorem Td.tkD {H H' : Hp} (k : TK H H') : ∀ (d : PyData) (v : V), Td H v d → Td H' v d
  | .none, _, h => by cases h; exact .non
  | .bool b, _, h => by cases h; exact .bl b
  | .int i, _, h => by cases h; exact .int i
  | .str x, _, h => by cases h; exact .str x
  | .list ds, _, h => by cases h
  | .tuple ds, _, h => by
    cases h with
    | tup a b => exact .tup (k _ _ a) (TdAll.tkD k ds _ b)
  | .dict kvs, _, h => by cases h
theorem TdAll.tkD {H H' : Hp} (k : TK H H') : ∀ (ds : List PyData) (vs : List V), TdAll H vs ds → TdAll H' vs ds
  | [], _, h => by cases h; exact .nil
  | d :: ds, _, h => by
    cases h with
    | cons a b => exact .cons (Td.tkD k d _ a) (TdAll.tkD k ds _ b)
end
theorem Td.tk {H H' : Hp} {v : V} {d : PyData} (h : Td H v d) (k : TK H H') : Td H' v d := Td.tkD k d v h
theorem TdAll.tk {H H' : Hp} {vs : List V} {ds : List PyData} (h : TdAll H vs ds) (k : TK H H') : TdAll H' vs ds := TdAll.tkD k ds vs h
theorem Td.same {H H' : Hp} {v : V} {d : PyData} (h : Td H v d) (k : Same H H') : Td H' v d := h.tk (TK.same k)
theorem TdAll.same {H H' : Hp} {vs : List V} {ds : List PyData} (h : TdAll H vs ds) (k : Same H H') : TdAll H' vs ds := h.tk (TK.same k)
mutual
theorem Td.dpD {K : PySem.W.Frag} {H : Hp} : ∀ (d : PyData) (v : V), Td H v d → Dp K H v d
  | .none, _, h => by cases h; exact .non
  | .bool b, _, h => by cases h; exact .bl b
  | .int i, _, h => by cases h; exact .int i
  | .str x, _, h => by cases h; exact .str x
  | .list ds, _, h => by cases h
  | .tuple ds, _, h => by
    cases h with
    | tup a b => exact .tup (SqT.of a) (TdAll.dpD ds _ b)
  | .dict kvs, _, h => by cases h
theorem TdAll.dpD {K : PySem.W.Frag} {H : Hp} : ∀ (ds : List PyData) (vs : List V), TdAll H vs ds → DpAll K H vs ds
  | [], _, h => by cases h; exact .nil
  | d :: ds, _, h => by
    cases h with
    | cons a b => exact .cons (Td.dpD d _ a) (TdAll.dpD ds _ b)
end
theorem Td.dp {K : PySem.W.Frag} {H : Hp} {v : V} {d : PyData} (h : Td H v d) : Dp K H v d := Td.dpD d v h
theorem TdAll.dp {K : PySem.W.Frag} {H : Hp} {vs : List V} {ds : List PyData} (h : TdAll H vs ds) : DpAll K H vs ds := TdAll.dpD ds vs h
theorem TdAll.len {H : Hp} : ∀ {vs : List V} {ds : List PyData}, TdAll H vs ds → vs.length = ds.length
  | _, _, .nil => rfl
  | _, _, .cons _ b => congrArg (· + 1) b.len
theorem TdAll.app {H : Hp} : ∀ {vs : List V} {ds : List PyData} {ws : List V} {es : List PyData}, TdAll H vs ds → TdAll H ws es → TdAll H (vs ++ ws) (ds ++ es)
  | _, _, _, _, .nil, b => b
  | _, _, _, _, .cons a c, b => .cons a (c.app b)
theorem TdAll.get {H : Hp} : ∀ {vs : List V} {ds : List PyData}, TdAll H vs ds → ∀ {i : Nat} {v : V}, vs[i]? = some v → ∃ d, ds[i]? = some d ∧ Td H v d
  | _, _, .nil, _, _, e => by simp at e
  | _, _, .cons a _, 0, _, e => by
    obtain rfl := Option.some.inj e
    exact ⟨_, rfl, a⟩
  | _, _, .cons _ b, i + 1, _, e => b.get (i := i) e
theorem TdAll.getD {H : Hp} : ∀ {vs : List V} {ds : List PyData}, TdAll H vs ds → ∀ {i : Nat} {d : PyData}, ds[i]? = some d → ∃ v, vs[i]? = some v ∧ Td H v d
  | _, _, .nil, _, _, e => by simp at e
  | _, _, .cons a _, 0, _, e => by
    obtain rfl := Option.some.inj e
    exact ⟨_, rfl, a⟩
  | _, _, .cons _ b, i + 1, _, e => b.getD (i := i) e
theorem TdAll.take {H : Hp} : ∀ {vs : List V} {ds : List PyData} (n : Nat), TdAll H vs ds → TdAll H (vs.take n) (ds.take n)
  | _, _, 0, _ => .nil
  | _, _, n + 1, .nil => .nil
  | _, _, n + 1, .cons a b => .cons a (b.take n)
theorem TdAll.drop {H : Hp} : ∀ {vs : List V} {ds : List PyData} (n : Nat), TdAll H vs ds → TdAll H (vs.drop n) (ds.drop n)
  | _, _, 0, h => h
  | _, _, n + 1, .nil => .nil
  | _, _, n + 1, .cons a b => b.drop n
theorem TdAll.cut {H : Hp} {xs : List V} {ds : List PyData} (h : TdAll H xs ds) {lo hi : Option Int} : TdAll H (cutV xs lo hi) ((ds.drop (HT.sIx ds.length 0 lo)).take (HT.sIx ds.length ds.length hi - HT.sIx ds.length 0 lo)) := by
  unfold cutV
  rw [h.len]
  exact (h.drop _).take _
theorem TdAll.rep {H : Hp} {xs : List V} {ds : List PyData} (h : TdAll H xs ds) : ∀ n : Nat, TdAll H (List.replicate n xs).flatten (List.replicate n ds).flatten
  | 0 => .nil
  | n + 1 => by
    rw [List.replicate_succ, List.replicate_succ, List.flatten_cons, List.flatten_cons]
    exact h.app (h.rep n)
theorem td_ints {H : Hp} : ∀ r : List Int, TdAll H (r.map V.int) (r.map PyData.int)
  | [] => .nil
  | x :: r => .cons (.int x) (td_ints r)
theorem td_row {H : Hp} {p : Addr} {r : List Int} (h : H p = some (.tup (r.map V.int))) : Td H (.ref p) (rowD r) := .tup h (td_ints r)
theorem td_rows {H : Hp} : ∀ (ls : List Addr) (rows : List (List Int)), ls.length = rows.length → RowsAt H ls rows → TdAll H (ls.map V.ref) (rows.map rowD)
  | [], [], _, _ => .nil
  | [], _ :: _, h, _ => by simp at h
  | _ :: _, [], h, _ => by simp at h
  | l :: ls, r :: rows, h, hat => .cons (td_row (hat 0 l r rfl rfl)) (td_rows ls rows (by simpa using h) fun j l' r' e1 e2 => hat (j + 1) l' r' e1 e2)
theorem StockAt.td {H : Hp} {t : Addr} {ls : List Addr} {rows : List (List Int)} (a : StockAt H t ls rows) : Td H (.ref t) (stockD rows) := .tup a.top (td_rows ls rows a.len a.row)
theorem td_intsI {H : Hp} : ∀ {r : List Int} {xs : List V}, TdAll H xs (r.map PyData.int) → xs = r.map V.int
  | [], xs, h => by cases h; rfl
  | x :: r, xs, h => by
    cases h with
    | cons a b =>
      cases a
      rw [td_intsI b]
      rfl
theorem td_rowI {H : Hp} {v : V} {r : List Int} (h : Td H v (rowD r)) : ∃ p, v = .ref p ∧ H p = some (.tup (r.map V.int)) := by
  cases h with
  | tup a b =>
    rw [td_intsI b] at a
    exact ⟨_, rfl, a⟩
theorem td_rowsI {H : Hp} : ∀ {rows : List (List Int)} {xs : List V}, TdAll H xs (rows.map rowD) → ∃ ls : List Addr, xs = ls.map V.ref ∧ ls.length = rows.length ∧ RowsAt H ls rows
  | [], xs, h => by cases h; exact ⟨[], rfl, rfl, RowsAt.nil⟩
  | r :: rows, xs, h => by
    cases h with
    | cons a b =>
      obtain ⟨p, rfl, hp⟩ := td_rowI a
      obtain ⟨ls, rfl, hl, hr⟩ := td_rowsI b
      refine ⟨p :: ls, rfl, by simp [hl], fun j l r' e1 e2 => ?_⟩
      cases j with
      | zero =>
        obtain rfl := Option.some.inj e1
        obtain rfl := Option.some.inj e2
        exact hp
      | succ j => exact hr j l r' e1 e2
theorem td_stockI {H : Hp} {v : V} {rows : List (List Int)} (h : Td H v (stockD rows)) : ∃ t ls, v = .ref t ∧ StockAt H t ls rows := by
  cases h with
  | tup a b =>
    obtain ⟨ls, rfl, hl, hr⟩ := td_rowsI b
    exact ⟨_, ls, rfl, a, hl, hr⟩

/-! ### written data: what its reading gives -/
def Lt (σ : L2.St) (H0 : Hp) (te : TE) (d : PyData) : Prop := ∀ (H : Hp) (Q : VK), Same H0 H → (∀ v H', Same H H' → Td H' v d → Q v H') → te σ H Q
def LtA (σ : L2.St) (H0 : Hp) (ta : TA) (ds : List PyData) : Prop := ∀ (H : Hp) (Q : List V → Hp → Prop), Same H0 H → (∀ vs H', Same H H' → TdAll H' vs ds → Q vs H') → ta σ H Q
def LtO (σ : L2.St) (H0 : Hp) (to : TO) (i : Option Int) : Prop := ∀ (H : Hp) (Q : Option Int → Hp → Prop), Same H0 H → Q i H → to σ H Q
section
variable {σ : L2.St} {H0 : Hp}
theorem lt_c {v : V} {d : PyData} (h : ∀ H, Td H v d) : Lt σ H0 (tC v) d := fun H Q s k => k v H (Same.refl _) (h _)
theorem lt_i {n : Int} : Lt σ H0 (tC (.int n)) (.int n) := lt_c fun _ => .int _
theorem lt_s {x : Str} : Lt σ H0 (tC (.str x)) (.str x) := lt_c fun _ => .str _
theorem lt_b {b : Bool} : Lt σ H0 (tC (.bl b)) (.bool b) := lt_c fun _ => .bl _
theorem lt_n : Lt σ H0 (tC .non) .none := lt_c fun _ => .non
theorem lt_var {i : Nat} {v : V} {d : PyData} (h : σ[i]? = some (some v)) (hv : Td H0 v d) : Lt σ H0 (tVar i) d := fun H Q s k => ⟨v, h, k v H (Same.refl _) (hv.same s)⟩
theorem ltA_nil : LtA σ H0 tNil [] := fun H Q s k => k [] H (Same.refl _) .nil
theorem ltA_cons {te : TE} {ta : TA} {d : PyData} {ds : List PyData} (a : Lt σ H0 te d) (b : LtA σ H0 ta ds) : LtA σ H0 (tCons te ta) (d :: ds) :=
  fun H Q s k => a H _ s fun v H1 s1 q1 => b H1 _ (s.trans s1) fun vs H2 s2 q2 => k (v :: vs) H2 (s1.trans s2) (.cons (q1.same s2) q2)
theorem lt_tup {ta : TA} {ds : List PyData} (a : LtA σ H0 ta ds) (hl : ds.length ≤ 1000) : Lt σ H0 (tTup ta) (.tuple ds) :=
  fun H Q s k => a H _ s fun vs H1 s1 q1 => ⟨Nat.le_of_lt (len_lt (by rw [q1.len]; exact hl)), fun p np => k _ _ (s1.trans (same_new np)) (.tup upd_same (q1.same (same_new np)))⟩
theorem lt_neg {i : Int} {te : TE} (a : Lt σ H0 te (.int i)) : Lt σ H0 (tUn (rU fun i => V.int (-i)) te) (.int (-i)) :=
  fun H Q s k => a H _ s fun v H1 s1 q1 => by
    cases q1
    exact ⟨_, rfl, k _ _ s1 (.int _)⟩
theorem lt_add {i j : Int} {ta tb : TE} (a : Lt σ H0 ta (.int i)) (b : Lt σ H0 tb (.int j)) : Lt σ H0 (tOp (rI0 fun i j => V.int (i + j)) ta tb) (.int (i + j)) :=
  fun H Q s k => a H _ s fun v H1 s1 q1 => b H1 _ (s.trans s1) fun u H2 s2 q2 => by
    cases q1
    cases q2
    exact ⟨_, _, rfl, rfl, k _ _ (s1.trans s2) (.int _)⟩
theorem lto_none : LtO σ H0 tNoPart none := fun H Q s k => k
theorem lto_var {i : Nat} {n : Int} (h : σ[i]? = some (some (.int n))) : LtO σ H0 (tPart (tVar i)) (some n) := fun H Q s k => ⟨_, h, n, rfl, k⟩
theorem lto_c {n : Int} : LtO σ H0 (tPart (tC (.int n))) (some n) := fun H Q s k => ⟨n, rfl, k⟩
theorem lto_var1 {i : Nat} {n : Int} (h : σ[i]? = some (some (.int n))) : LtO σ H0 (tPart (tOp (rI0 fun i j => V.int (i + j)) (tVar i) (tC (.int 1)))) (some (n + 1)) := fun H Q s k => ⟨_, h, _, _, rfl, rfl, _, rfl, k⟩
theorem lt_sl {te : TE} {tl th : TO} {ds : List PyData} {lo hi : Option Int} (a : Lt σ H0 te (.tuple ds)) (l : LtO σ H0 tl lo) (h : LtO σ H0 th hi) :
    Lt σ H0 (tSl rSlQ te tl th) (.tuple ((ds.drop (HT.sIx ds.length 0 lo)).take (HT.sIx ds.length ds.length hi - HT.sIx ds.length 0 lo))) :=
  fun H Q s k => a H _ s fun v H1 s1 q1 => l H1 _ (s.trans s1) (h H1 _ (s.trans s1) (by
    cases q1 with
    | @tup p xs _ hp hs => exact ⟨p, xs, rfl, hp, fun p2 H2 s2 h2 => k _ _ (s1.trans s2) (.tup h2 (hs.same s2).cut)⟩))
theorem lt_cat {ta tb : TE} {ds es : List PyData} (a : Lt σ H0 ta (.tuple ds)) (b : Lt σ H0 tb (.tuple es)) (hl : ds.length + es.length ≤ 1000) :
    Lt σ H0 (tOp rCatQ ta tb) (.tuple (ds ++ es)) :=
  fun H Q s k => a H _ s fun v H1 s1 q1 => b H1 _ (s.trans s1) fun u H2 s2 q2 => by
    have q1 := q1.same s2
    cases q1 with
    | @tup p xs _ hp hs =>
      cases q2 with
      | @tup p2 ys _ hp2 hs2 =>
        exact ⟨p, p2, xs, ys, rfl, rfl, hp, hp2, by rw [hs.len, hs2.len]; exact hl, fun p3 H3 s3 h3 => k _ _ (s1.trans (s2.trans s3)) (.tup h3 ((hs.same s3).app (hs2.same s3)))⟩
theorem lt_rep {ta tb : TE} {ds : List PyData} {n : Int} (a : Lt σ H0 ta (.tuple ds)) (b : Lt σ H0 tb (.int n)) (h0 : ds ≠ []) (hl : ds.length ≤ 1000) (hn : 1 ≤ n) (hn2 : n ≤ 1000) :
    Lt σ H0 (tOp rRepQ ta tb) (.tuple (List.replicate n.toNat ds).flatten) :=
  fun H Q s k => a H _ s fun v H1 s1 q1 => b H1 _ (s.trans s1) fun u H2 s2 q2 => by
    have q1 := q1.same s2
    cases q1 with
    | @tup p xs _ hp hs =>
      cases q2
      refine ⟨p, n, xs, rfl, rfl, hp, ?_, hn, hn2, by rw [hs.len]; exact hl, fun p3 H3 s3 h3 => k _ _ (s1.trans (s2.trans s3)) (.tup h3 ((hs.same s3).rep _))⟩
      intro z
      subst z
      cases hs
      exact h0 rfl
end
/-! ### equal data -/
theorem eqv_ints : ∀ r s : List Int, PyData.eqvAll (r.map PyData.int) (s.map PyData.int) = decide (r = s)
  | [], [] => by simp [PyData.eqvAll]
  | [], _ :: _ => by simp [PyData.eqvAll]
  | _ :: _, [] => by simp [PyData.eqvAll]
  | x :: r, y :: s => by
    show (PyData.eqv (.int x) (.int y) && PyData.eqvAll (r.map PyData.int) (s.map PyData.int)) = _
    rw [eqv_ints r s]
    simp only [PyData.eqv]
    by_cases h1 : x = y
    · by_cases h2 : r = s <;> simp [h1, h2]
    · simp [h1]
theorem eqv_row (r s : List Int) : PyData.eqv (rowD r) (rowD s) = decide (r = s) := by
  show PyData.eqv (.tuple _) (.tuple _) = _
  simp only [PyData.eqv]
  exact eqv_ints r s
theorem eqv_rows : ∀ r s : List (List Int), PyData.eqvAll (r.map rowD) (s.map rowD) = decide (r = s)
  | [], [] => by simp [PyData.eqvAll]
  | [], _ :: _ => by simp [PyData.eqvAll]
  | _ :: _, [] => by simp [PyData.eqvAll]
  | x :: r, y :: s => by
    show (PyData.eqv (rowD x) (rowD y) && PyData.eqvAll (r.map rowD) (s.map rowD)) = _
    rw [eqv_rows r s, eqv_row]
    by_cases h1 : x = y
    · by_cases h2 : r = s <;> simp [h1, h2]
    · simp [h1]
theorem eqv_stock (r s : List (List Int)) : PyData.eqv (stockD r) (stockD s) = decide (r = s) := by
  show PyData.eqv (.tuple _) (.tuple _) = _
  simp only [PyData.eqv]
  exact eqv_rows r s
theorem eqv_bools : ∀ r : List Bool, PyData.eqvAll (r.map PyData.bool) (r.map PyData.bool) = true
  | [] => by simp [PyData.eqvAll]
  | x :: r => by
    show (PyData.eqv (.bool x) (.bool x) && PyData.eqvAll (r.map PyData.bool) (r.map PyData.bool)) = _
    rw [eqv_bools r]
    simp [PyData.eqv]
theorem dps_bools {K : PySem.W.Frag} {H : Hp} : ∀ r : List Bool, DpAll K H (r.map V.bl) (r.map PyData.bool)
  | [] => .nil
  | x :: r => .cons (.bl x) (dps_bools r)
end DD
namespace DD
open PySem PySem.Spec PyProof.Rows L2
/-! ### texts of numbers, rows and cabinets -/
def numT (x : Int) : Str := Str.ofString (toString x)
def rowT (r : List Int) : Str := Txt.join "," (r.map numT)
def cabW (S C : List (List Int)) : List Str := S.map rowT ++ ("for" : Str) :: C.map rowT
def cabT (S C : List (List Int)) : Str := Txt.join " " (cabW S C)
theorem tl_numT {x : Int} (h : 0 ≤ x) : TL.tl (numT x) = TL.numL x.toNat := by
  obtain ⟨n, rfl⟩ := Int.eq_ofNat_of_zero_le h
  exact TL.tl_num n
theorem numT_inj {x y : Int} (hx : 0 ≤ x) (hy : 0 ≤ y) (h : numT x = numT y) : x = y := by
  have e := congrArg TL.tl h
  rw [tl_numT hx, tl_numT hy] at e
  have := TL.numL_inj e
  omega
theorem numT_inj' : ∀ {r s : List Int}, (∀ x ∈ r, 0 ≤ x) → (∀ x ∈ s, 0 ≤ x) → r.map numT = s.map numT → r = s
  | [], [], _, _, _ => rfl
  | [], _ :: _, _, _, h => by simp at h
  | _ :: _, [], _, _, h => by simp at h
  | x :: r, y :: s, h1, h2, h => by
    rw [List.map_cons, List.map_cons] at h
    injection h with a b
    rw [numT_inj (h1 x List.mem_cons_self) (h2 y List.mem_cons_self) a, numT_inj' (fun z hz => h1 z (List.mem_cons_of_mem _ hz)) (fun z hz => h2 z (List.mem_cons_of_mem _ hz)) b]
theorem joinL_mem {S : List Nat} {c : Nat} : ∀ {ps : List (List Nat)}, c ∈ TL.joinL S ps → c ∈ S ∨ ∃ p ∈ ps, c ∈ p
  | [], h => by cases h
  | [p], h => .inr ⟨p, List.mem_singleton.mpr rfl, h⟩
  | p :: q :: r, h => by
    have h : c ∈ p ++ (S ++ TL.joinL S (q :: r)) := h
    rcases List.mem_append.mp h with h | h
    · exact .inr ⟨p, List.mem_cons_self, h⟩
    · rcases List.mem_append.mp h with h | h
      · exact .inl h
      · rcases joinL_mem h with h | ⟨p', hp, hc⟩
        · exact .inl h
        · exact .inr ⟨p', List.mem_cons_of_mem _ hp, hc⟩
theorem tl_comma : TL.tl ("," : Str) = [44] := by decide +kernel
theorem tl_blank : TL.tl (" " : Str) = [32] := by decide +kernel
theorem tl_for : TL.tl ("for" : Str) = [102, 111, 114] := by decide +kernel
theorem rowT_mem {r : List Int} (h : ∀ x ∈ r, 0 ≤ x) {c : Nat} (hc : c ∈ TL.tl (rowT r)) : c = 44 ∨ (48 ≤ c ∧ c ≤ 57) := by
  unfold rowT at hc
  rw [TL.join_eq, TL.tl_join, tl_comma] at hc
  rcases joinL_mem hc with hc | ⟨p, hp, hc⟩
  · exact .inl (List.mem_singleton.mp hc)
  · rw [List.map_map] at hp
    obtain ⟨x, hx, rfl⟩ := List.mem_map.mp hp
    rw [Function.comp_apply, tl_numT (h x hx)] at hc
    exact .inr (TL.numL_digits _ c hc)
theorem rowT_for {r : List Int} (h : ∀ x ∈ r, 0 ≤ x) : rowT r ≠ "for" := fun e => by
  have hc : (102 : Nat) ∈ TL.tl (rowT r) := by
    rw [e, tl_for]
    simp
  have := rowT_mem h hc
  omega
theorem rowT_inj {r s : List Int} (hr : ∀ x ∈ r, 0 ≤ x) (hs : ∀ x ∈ s, 0 ≤ x) (nr : r ≠ []) (ns : s ≠ []) (h : rowT r = rowT s) : r = s := by
  have k : ∀ {r : List Int}, (∀ x ∈ r, 0 ≤ x) → r ≠ [] → Txt.split (rowT r) "," = r.map numT := fun {r} hr nr =>
    TL.split_join tl_comma (by decide +kernel) (fun e => nr (List.map_eq_nil_iff.mp e)) fun p hp => by
      obtain ⟨x, hx, rfl⟩ := List.mem_map.mp hp
      rw [tl_numT (hr x hx)]
      exact TL.numL_free (by omega)
  refine numT_inj' hr hs ?_
  rw [← k hr nr, ← k hs ns, h]
/-- rows whose texts may be told apart -/
def Plain (S : List (List Int)) : Prop := ∀ r ∈ S, r ≠ [] ∧ ∀ x ∈ r, 0 ≤ x
theorem rows_inj : ∀ {S T : List (List Int)}, Plain S → Plain T → S.map rowT = T.map rowT → S = T
  | [], [], _, _, _ => rfl
  | [], _ :: _, _, _, h => by simp at h
  | _ :: _, [], _, _, h => by simp at h
  | x :: r, y :: s, h1, h2, h => by
    rw [List.map_cons, List.map_cons] at h
    injection h with a b
    rw [rowT_inj (h1 x List.mem_cons_self).2 (h2 y List.mem_cons_self).2 (h1 x List.mem_cons_self).1 (h2 y List.mem_cons_self).1 a, rows_inj (fun z hz => h1 z (List.mem_cons_of_mem _ hz)) (fun z hz => h2 z (List.mem_cons_of_mem _ hz)) b]
theorem cut_at {α : Type} {x : α} : ∀ {a a' b b' : List α}, x ∉ a → x ∉ a' → a ++ x :: b = a' ++ x :: b' → a = a' ∧ b = b'
  | [], [], b, b', _, _, h => by
    injection h with _ h
    exact ⟨rfl, h⟩
  | [], y :: a', b, b', _, h2, h => by
    injection h with e _
    exact absurd (by rw [e]; exact List.mem_cons_self) h2
  | y :: a, [], b, b', h1, _, h => by
    injection h with e _
    exact absurd (by rw [← e]; exact List.mem_cons_self) h1
  | y :: a, z :: a', b, b', h1, h2, h => by
    injection h with e h
    obtain ⟨rfl, rfl⟩ := cut_at (fun z => h1 (List.mem_cons_of_mem _ z)) (fun z => h2 (List.mem_cons_of_mem _ z)) h
    rw [e]
    exact ⟨rfl, rfl⟩
theorem for_notin {S : List (List Int)} (h : Plain S) : ("for" : Str) ∉ S.map rowT := fun e => by
  obtain ⟨r, hr, e⟩ := List.mem_map.mp e
  exact rowT_for (h r hr).2 e
theorem cabW_free {S C : List (List Int)} (hS : Plain S) (hC : Plain C) : ∀ p ∈ cabW S C, (32 : Nat) ∉ TL.tl p := fun p hp hc => by
  unfold cabW at hp
  have key : ∀ {T : List (List Int)}, Plain T → p ∈ T.map rowT → False := fun {T} hT h => by
    obtain ⟨r, hr, rfl⟩ := List.mem_map.mp h
    have := rowT_mem (hT r hr).2 hc
    omega
  rcases List.mem_append.mp hp with h | h
  · exact key hS h
  · rcases List.mem_cons.mp h with rfl | h
    · rw [tl_for] at hc
      simp at hc
    · exact key hC h
theorem cabT_inj {S C S' C' : List (List Int)} (hS : Plain S) (hC : Plain C) (hS' : Plain S') (hC' : Plain C') (h : cabT S C = cabT S' C') : S = S' ∧ C = C' := by
  have k : ∀ {S C : List (List Int)}, Plain S → Plain C → Txt.split (cabT S C) " " = cabW S C := fun {S C} hS hC =>
    TL.split_join tl_blank (by decide +kernel) (fun e => by unfold cabW at e; simp at e) (cabW_free hS hC)
  have e : cabW S C = cabW S' C' := by rw [← k hS hC, ← k hS' hC', h]
  obtain ⟨e1, e2⟩ := cut_at (for_notin hS) (for_notin hS') e
  exact ⟨rows_inj hS hS' e1, rows_inj hC hC' e2⟩
theorem numT_len {x : Int} (h0 : 0 ≤ x) (h : x < 4096) : (numT x).length ≤ 13 := by
  have e := int_text_length_le (a := x) (k := 12) (by decide) (by have := log2_lt_of (n := x.natAbs) (by omega); omega)
  unfold numT
  rw [PySem.ofString_length]
  omega
theorem num_log {x : Int} (h0 : 0 ≤ x) (h : x < 4096) : x.natAbs.log2 < 1920 := by
  have := log2_lt_of (n := x.natAbs) (by omega)
  omega
theorem sum_le_mul {m : Nat} : ∀ {xs : List Nat}, (∀ x ∈ xs, x ≤ m) → xs.sum ≤ xs.length * m
  | [], _ => by simp
  | x :: xs, h => by
    have h1 := h x List.mem_cons_self
    have h2 := sum_le_mul (xs := xs) fun y hy => h y (List.mem_cons_of_mem _ hy)
    rw [List.sum_cons, List.length_cons, Nat.succ_mul]
    omega
theorem join_len (y : Str) : ∀ ps : List Str, (Txt.join y ps).length ≤ (ps.map (·.length)).sum + ps.length * y.length := fun ps => by
  rw [TL.join_eq, TL.len_tl, TL.tl_join]
  induction ps with
  | nil => simp [TL.joinL]
  | cons p r ih =>
    cases r with
    | nil =>
      show (TL.tl p).length ≤ _
      rw [← TL.len_tl]
      simp
    | cons q r =>
      show (TL.tl p ++ (TL.tl y ++ TL.joinL (TL.tl y) ((q :: r).map TL.tl))).length ≤ _
      rw [List.length_append, List.length_append, ← TL.len_tl, ← TL.len_tl, List.map_cons (f := fun x : Str => x.length), List.sum_cons, List.length_cons, Nat.succ_mul]
      omega
theorem rowT_size {r : List Int} (h : ∀ x ∈ r, 0 ≤ x ∧ x < 4096) (hl : r.length ≤ 4) : ((r.map numT).map (·.length)).sum + (r.map numT).length * ("," : Str).length ≤ 60 := by
  have h1 : ((r.map numT).map (·.length)).sum ≤ ((r.map numT).map (·.length)).length * 13 := sum_le_mul fun x hx => by
    obtain ⟨y, hy, rfl⟩ := List.mem_map.mp hx
    obtain ⟨z, hz, rfl⟩ := List.mem_map.mp hy
    exact numT_len (h z hz).1 (h z hz).2
  have h2 : ("," : Str).length = 1 := by decide +kernel
  rw [h2]
  simp only [List.length_map] at h1 ⊢
  omega
theorem rowT_len {r : List Int} (h : ∀ x ∈ r, 0 ≤ x ∧ x < 4096) (hl : r.length ≤ 4) : (rowT r).length ≤ 60 := Nat.le_trans (join_len _ _) (rowT_size h hl)
/-- rows of a cabinet: one to four numbers each -/
def Rows4 (S : List (List Int)) : Prop := ∀ r ∈ S, (1 ≤ r.length ∧ r.length ≤ 4) ∧ ∀ x ∈ r, 0 ≤ x ∧ x < 4096
theorem Rows4.plain {S : List (List Int)} (h : Rows4 S) : Plain S := fun r hr => ⟨fun e => by have := (h r hr).1.1; rw [e] at this; simp at this, fun x hx => ((h r hr).2 x hx).1⟩
theorem cabW_size {S C : List (List Int)} (hS : Rows4 S) (hC : Rows4 C) (h1 : S.length ≤ 4) (h2 : C.length ≤ 4) : ((cabW S C).map (·.length)).sum + (cabW S C).length * (" " : Str).length ≤ 16777216 := by
  have h3 : ((cabW S C).map (·.length)).sum ≤ ((cabW S C).map (·.length)).length * 60 := sum_le_mul fun x hx => by
    obtain ⟨p, hp, rfl⟩ := List.mem_map.mp hx
    unfold cabW at hp
    have key : ∀ {T : List (List Int)}, Rows4 T → p ∈ T.map rowT → p.length ≤ 60 := fun {T} hT h => by
      obtain ⟨r, hr, rfl⟩ := List.mem_map.mp h
      exact rowT_len (hT r hr).2 (hT r hr).1.2
    rcases List.mem_append.mp hp with h | h
    · exact key hS h
    · rcases List.mem_cons.mp h with rfl | h
      · decide +kernel
      · exact key hC h
  have h4 : (" " : Str).length = 1 := by decide +kernel
  have h5 : (cabW S C).length ≤ 9 := by
    unfold cabW
    simp
    omega
  rw [h4]
  simp only [List.length_map] at h3 ⊢
  omega
end DD
namespace DD
open PySem PySem.Spec PyProof.Rows L2
theorem iteT2 {c : Bool} {A B : Prop} (e : c = true) (h : A) : if c = true then A else B := by rw [if_pos e]; exact h
theorem iteF2 {c : Bool} {A B : Prop} (e : c = false) (h : B) : if c = true then A else B := by rw [e, if_neg Bool.false_ne_true]; exact h
/-! ### one step of a reading, by name -/
section
variable {t u : TS} {D : Ends} {σ : L2.St} {H : Hp} {te tb : TE} {ta : TA} {g : TG} {i : Nat} {v : V} {r : R2}
theorem at_seq (h : t { D with nx := u D } σ H) : tSeq t u D σ H := h
theorem at_asg (h : te σ H fun x H1 => g x σ H1 D.nx) : tAsg te g D σ H := h
theorem at_name {Q : L2.St → Hp → Prop} (h : Q (σ.set i (some v)) H) : gName i v σ H Q := h
theorem at_ret (h : te σ H D.rt) : tRet te D σ H := h
theorem at_lst {Q : VK} (h : ta σ H fun vs H1 => vs.length ≤ sizeLine ∧ ∀ p, H1 p = none → Q (.ref p) (upd H1 p (.lst vs))) : tLst ta σ H Q := h
theorem at_tup {Q : VK} (h : ta σ H fun vs H1 => vs.length ≤ sizeLine ∧ ∀ p, H1 p = none → Q (.ref p) (upd H1 p (.tup vs))) : tTup ta σ H Q := h
theorem at_op {Q : VK} (h : te σ H fun x H1 => tb σ H1 fun y H2 => r x y H2 Q) : tOp r te tb σ H Q := h
theorem at_cons {Q : List V → Hp → Prop} (h : te σ H fun x H1 => ta σ H1 fun xs H2 => Q (x :: xs) H2) : tCons te ta σ H Q := h
theorem at_nil {Q : List V → Hp → Prop} (h : Q [] H) : tNil σ H Q := h
theorem at_var {Q : VK} (h1 : σ[i]? = some (some v)) (h : Q v H) : tVar i σ H Q := ⟨v, h1, h⟩
end
end DD
namespace DD
open PySem PySem.Spec PyProof.Rows L2

/-! ### data of any value of a law: also dicts, {} and {"a": 0} -/
mutual
inductive Dq (H : Hp) : V → PyData → Prop
  | non : Dq H .non .none
  | bl (b : Bool) : Dq H (.bl b) (.bool b)
  | int (i : Int) : Dq H (.int i) (.int i)
  | str (x : Str) : Dq H (.str x) (.str x)
  | lst {a : Addr} {xs : List V} {ds : List PyData} : H a = some (.lst xs) → DqAll H xs ds → Dq H (.ref a) (.list ds)
  | tup {a : Addr} {xs : List V} {ds : List PyData} : H a = some (.tup xs) → DqAll H xs ds → Dq H (.ref a) (.tuple ds)
  | d0 {a : Addr} : H a = some (.dK []) → Dq H (.ref a) (.dict [])
  | d1 {a : Addr} : H a = some (.dK [(.inr "a", .int 0)]) → Dq H (.ref a) (.dict [(.str "a", .int 0)])
inductive DqAll (H : Hp) : List V → List PyData → Prop
  | nil : DqAll H [] []
  | cons {v : V} {d : PyData} {vs : List V} {ds : List PyData} : Dq H v d → DqAll H vs ds → DqAll H (v :: vs) (d :: ds)
end
mutual
theorem Dq.same {H H' : Hp} (k : Same H H') : ∀ (d : PyData) (v : V), Dq H v d → Dq H' v d
  | .none, _, h => by cases h; exact .non
  | .bool b, _, h => by cases h; exact .bl b
  | .int i, _, h => by cases h; exact .int i
  | .str x, _, h => by cases h; exact .str x
  | .list ds, _, h => by
    cases h with
    | lst a b => exact .lst (k _ _ a) (DqAll.same k ds _ b)
  | .tuple ds, _, h => by
    cases h with
    | tup a b => exact .tup (k _ _ a) (DqAll.same k ds _ b)
  | .dict kvs, _, h => by
    cases h with
    | d0 a => exact .d0 (k _ _ a)
    | d1 a => exact .d1 (k _ _ a)
theorem DqAll.same {H H' : Hp} (k : Same H H') : ∀ (ds : List PyData) (vs : List V), DqAll H vs ds → DqAll H' vs ds
  | [], _, h => by cases h; exact .nil
  | d :: ds, _, h => by
    cases h with
    | cons a b => exact .cons (Dq.same k d _ a) (DqAll.same k ds _ b)
end
theorem DqAll.len {H : Hp} : ∀ {vs : List V} {ds : List PyData}, DqAll H vs ds → vs.length = ds.length
  | _, _, .nil => rfl
  | _, _, .cons _ b => congrArg (· + 1) b.len
theorem DqAll.app {H : Hp} : ∀ {vs : List V} {ds : List PyData} {ws : List V} {es : List PyData}, DqAll H vs ds → DqAll H ws es → DqAll H (vs ++ ws) (ds ++ es)
  | _, _, _, _, .nil, b => b
  | _, _, _, _, .cons a c, b => .cons a (c.app b)
theorem DqAll.get {H : Hp} : ∀ {vs : List V} {ds : List PyData}, DqAll H vs ds → ∀ {i : Nat} {v : V}, vs[i]? = some v → ∃ d, ds[i]? = some d ∧ Dq H v d
  | _, _, .nil, _, _, e => by simp at e
  | _, _, .cons a _, 0, _, e => by
    obtain rfl := Option.some.inj e
    exact ⟨_, rfl, a⟩
  | _, _, .cons _ b, i + 1, _, e => b.get (i := i) e
theorem DqAll.take {H : Hp} : ∀ {vs : List V} {ds : List PyData} (n : Nat), DqAll H vs ds → DqAll H (vs.take n) (ds.take n)
  | _, _, 0, _ => .nil
  | _, _, n + 1, .nil => .nil
  | _, _, n + 1, .cons a b => .cons a (b.take n)
theorem DqAll.drop {H : Hp} : ∀ {vs : List V} {ds : List PyData} (n : Nat), DqAll H vs ds → DqAll H (vs.drop n) (ds.drop n)
  | _, _, 0, h => h
  | _, _, n + 1, .nil => .nil
  | _, _, n + 1, .cons _ b => b.drop n
theorem dq_ints {H : Hp} : ∀ r : List Int, DqAll H (r.map V.int) (r.map PyData.int)
  | [] => .nil
  | x :: r => .cons (.int x) (dq_ints r)

/-! noL: no list in it -/
mutual
def noL : PyData → Bool
  | .list _ => false
  | .tuple ds => noLs ds
  | _ => true
def noLs : List PyData → Bool
  | [] => true
  | d :: ds => noL d && noLs ds
end
theorem reads_d0 {X : Cx} {pins : List (Addr × Obj)} {σ : L2.St} {H : Hp} {s : Shared} (I : Inv X pins σ H s) {a : Addr} (h : H a = some (.dK [])) : ∃ as, Reads s.heap (.ref a) (.dict []) as ∧ sysModules ∉ as := by
  have q : ObjOk X.prog X.w H s.heap a (.dK []) := I.hok a _ h
  unfold ObjOk at q
  obtain ⟨_, hs, vs, kv, o, es, ep, ho, hx, hd, hk, hp, _⟩ := q
  cases kv
  obtain ⟨l⟩ := es
  cases hp
  refine ⟨_, .dict ho hx.1 hd (.nil) (.nil), fun z => ?_⟩
  have : sysModules = a := by simpa using z
  rw [this] at hs
  simp at hs
theorem reads_d1 {X : Cx} {pins : List (Addr × Obj)} {σ : L2.St} {H : Hp} {s : Shared} (I : Inv X pins σ H s) {a : Addr} (h : H a = some (.dK [(.inr "a", .int 0)])) : ∃ as, Reads s.heap (.ref a) (.dict [(.str "a", .int 0)]) as ∧ sysModules ∉ as := by
  have q : ObjOk X.prog X.w H s.heap a (.dK [(.inr "a", .int 0)]) := I.hok a _ h
  unfold ObjOk at q
  obtain ⟨_, hs, vs, kv, o, es, ep, ho, hx, hd, hk, hp, _⟩ := q
  cases kv with
  | cons r n =>
    cases n
    obtain ⟨l⟩ := es
    cases hp with
    | cons hi hv hr =>
      cases hr
      obtain ⟨rk, tk, rv⟩ := r
      rename_i kv _ e
      rw [← rk] at hi
      rw [rv] at hv
      obtain ⟨tk2, hk2⟩ : ∃ t, e.key = .str "a" t := by
        have z : keyIs (.inr "a") e.key = true := hi
        cases q : e.key <;> rw [q] at z <;> first | (exact absurd z Bool.false_ne_true) | (obtain rfl : "a" = _ := of_decide_eq_true z; exact ⟨_, rfl⟩) | (have z2 := eq_of_beq z; subst z2; exact ⟨_, rfl⟩)
      refine ⟨_, .dict ho hx.1 hd (.cons (show Reads s.heap e.key (.str "a") _ by rw [hk2]; exact .str _ _) .nil) (.cons (show Reads s.heap e.val (.int 0) _ by rw [hv]; exact .int _ _) .nil), fun z => ?_⟩
      have : sysModules = a := by simpa using z
      rw [this] at hs
      simp at hs
mutual
theorem Dq.reads {X : Cx} {pins : List (Addr × Obj)} {σ : L2.St} {H : Hp} {s : Shared} (I : Inv X pins σ H s) : ∀ (d : PyData) (v : V) (u : Value), Dq H v d → RelV v u → ∃ as, Reads s.heap u d as ∧ (noL d = true → sysModules ∉ as)
  | .none, _, u, h, r => by
    cases h
    obtain rfl : u = .none := r
    exact ⟨_, .none, fun _ => by simp⟩
  | .bool b, _, u, h, r => by
    cases h
    obtain rfl : u = .bool b := r
    exact ⟨_, .bool b, fun _ => by simp⟩
  | .int i, _, u, h, r => by
    cases h
    obtain ⟨t, rfl⟩ := r
    exact ⟨_, .int i t, fun _ => by simp⟩
  | .str x, _, u, h, r => by
    cases h
    obtain ⟨t, rfl⟩ := r
    exact ⟨_, .str x t, fun _ => by simp⟩
  | .list ds, _, u, h, r => by
    cases h with
    | lst a b =>
      cases r
      obtain ⟨its, rv, ⟨o, n, h1, h2, _, h3⟩, _⟩ := I.list (SqL.of (K := X.K) a)
      obtain ⟨as, ra, _⟩ := DqAll.reads I ds _ _ b rv
      exact ⟨_, .list (vs := its.toArray) h1 h2 h3 ra, fun z => by cases z⟩
  | .tuple ds, _, u, h, r => by
    cases h with
    | tup a b =>
      cases r
      obtain ⟨its, rv, ⟨o, ho, hc, n, hd⟩, _⟩ := I.tuple (SqT.of (K := X.K) a)
      obtain ⟨as, ra, hn⟩ := DqAll.reads I ds _ _ b rv
      exact ⟨_, .tuple (vs := its.toArray) ho hc hd ra, fun z => hn z⟩
  | .dict kvs, _, u, h, r => by
    cases h with
    | d0 a =>
      cases r
      obtain ⟨as, q, n⟩ := reads_d0 I a
      exact ⟨as, q, fun _ => n⟩
    | d1 a =>
      cases r
      obtain ⟨as, q, n⟩ := reads_d1 I a
      exact ⟨as, q, fun _ => n⟩
theorem DqAll.reads {X : Cx} {pins : List (Addr × Obj)} {σ : L2.St} {H : Hp} {s : Shared} (I : Inv X pins σ H s) : ∀ (ds : List PyData) (vs : List V) (us : List Value), DqAll H vs ds → Vals vs us → ∃ as, ReadsAll s.heap us ds as ∧ (noLs ds = true → sysModules ∉ as)
  | [], _, _, h, r => by
    cases h
    cases r
    exact ⟨_, .nil, fun _ => by simp⟩
  | d :: ds, _, _, h, r => by
    cases h with
    | cons a b =>
      cases r with
      | cons r1 r2 =>
        obtain ⟨as, q1, n1⟩ := Dq.reads I d _ _ a r1
        obtain ⟨bs, q2, n2⟩ := DqAll.reads I ds _ _ b r2
        refine ⟨_, .cons q1 q2, fun z => ?_⟩
        have z' : (noL d && noLs ds) = true := z
        rw [Bool.and_eq_true] at z'
        intro m
        rcases List.mem_append.mp m with m | m
        · exact n1 z'.1 m
        · exact n2 z'.2 m
end

/-! ### repr of any such value -/
structure Gd (d : PyData) : Prop where
  show_ : d.showable = true
  dp : d.depth ≤ 64
  sz : d.shown.length ≤ sizeLine
  nl : d.hasDict = true → noL d = true
theorem call_reprQ {X : Cx} (hg : X.A.guards = some []) (hu : X.A.units + 66 < cLine) : CallR X (.builtin "repr") (fun xs H Q =>
    ∃ v d, xs = [v] ∧ Dq H v d ∧ Gd d ∧ Q (.str d.shown) H) := by
  intro pins s σ H xs us Q I r h
  obtain ⟨v, d, rfl, hd, g, q⟩ := h
  obtain ⟨u, rfl, ru⟩ := vals1 r
  obtain ⟨as, rd, nm⟩ := Dq.reads I d _ _ hd ru
  have hdp := g.dp
  have big : ∀ (a : Addr), u = .ref a → wpAny (model X.prog X.w) X.A (call (.builtin "repr") [u]) (fun u s1 => ∃ x H1, Inv X pins σ H1 s1 ∧ RelV x u ∧ Q x H1) X.xe s := fun a e => by
    subst e
    exact repr_of_reads' (Q := fun u s1 => ∃ x H1, Inv X pins σ H1 s1 ∧ RelV x u ∧ Q x H1) rd g.show_ (fun z => nm (g.nl z)) hg (by omega) (fun _ _ e => e)
      (fun h' u tk hk => ⟨.str d.shown, H, I.kept hk, ⟨_, rfl⟩, q⟩) g.sz
  cases hd with
  | non =>
    obtain rfl : u = .none := ru
    exact P.repr_of_none ⟨.str PyData.none.shown, H, I.tok _, ⟨_, rfl⟩, q⟩
  | bl b =>
    obtain rfl : u = .bool b := ru
    exact P.repr_of_bool ⟨.str (PyData.bool b).shown, H, I.tok _, ⟨_, rfl⟩, q⟩
  | int i =>
    obtain ⟨t, rfl⟩ := ru
    exact P.repr_of_int (of_decide_eq_true g.show_) ⟨.str (PyData.int i).shown, H, I.tok _, ⟨_, rfl⟩, q⟩
  | str x =>
    obtain ⟨t, rfl⟩ := ru
    exact P.repr_of_str ⟨.str (PyData.str x).shown, H, I.tok _, ⟨_, rfl⟩, q⟩ g.sz
  | lst _ _ => exact big _ ru
  | tup _ _ => exact big _ ru
  | d0 _ => exact big _ ru
  | d1 _ => exact big _ ru

/-! ### its kind -/
def isTup : PyData → Bool
  | .tuple _ => true
  | _ => false
def isI : PyData → Bool
  | .int _ => true
  | .bool _ => true
  | _ => false
def isB : PyData → Bool
  | .bool _ => true
  | _ => false
theorem dq_ty {K : PySem.W.Frag} {H : Hp} {v : V} {d : PyData} (h : Dq H v d) : ∃ T : String, TyX K H v (.type T) ∧ PySem.W.kitOne K (.type T) (.type "tuple") = some (isTup d) ∧ PySem.W.kitOne K (.type T) (.type "int") = some (isI d) ∧ PySem.W.kitOne K (.type T) (.type "bool") = some (isB d) := by
  cases h with
  | non => exact ⟨_, .base .non, kit_ty (by decide +kernel), kit_ty (by decide +kernel), kit_ty (by decide +kernel)⟩
  | bl b => exact ⟨_, .base (.bl b), kit_ty (a := "bool") (r := false) (by decide +kernel), kit_ty (a := "bool") (r := true) (by decide +kernel), kit_ty (a := "bool") (r := true) (by decide +kernel)⟩
  | int i => exact ⟨_, .base (.int i), kit_ty (a := "int") (r := false) (by decide +kernel), kit_ty (a := "int") (r := true) (by decide +kernel), kit_ty (a := "int") (r := false) (by decide +kernel)⟩
  | str x => exact ⟨_, .base (.str x), kit_ty (a := "str") (r := false) (by decide +kernel), kit_ty (a := "str") (r := false) (by decide +kernel), kit_ty (a := "str") (r := false) (by decide +kernel)⟩
  | lst a _ => exact ⟨_, .base (.lst a), kit_ty (a := "list") (r := false) (by decide +kernel), kit_ty (a := "list") (r := false) (by decide +kernel), kit_ty (a := "list") (r := false) (by decide +kernel)⟩
  | tup a _ => exact ⟨_, .base (.tup a), kit_ty (a := "tuple") (r := true) (by decide +kernel), kit_ty (a := "tuple") (r := false) (by decide +kernel), kit_ty (a := "tuple") (r := false) (by decide +kernel)⟩
  | d0 a => exact ⟨_, .base (.dK a), kit_ty (a := "dict") (r := false) (by decide +kernel), kit_ty (a := "dict") (r := false) (by decide +kernel), kit_ty (a := "dict") (r := false) (by decide +kernel)⟩
  | d1 a => exact ⟨_, .base (.dK a), kit_ty (a := "dict") (r := false) (by decide +kernel), kit_ty (a := "dict") (r := false) (by decide +kernel), kit_ty (a := "dict") (r := false) (by decide +kernel)⟩
/-- isinstance(v, tuple), isinstance(v, int), isinstance(v, bool) -/
theorem rIsi_tup {K : PySem.W.Frag} {H : Hp} {v : V} {d : PyData} (h : Dq H v d) {Q : VK} (q : Q (.bl (isTup d)) H) : rIsi K [v, .ty "tuple"] H Q := by
  obtain ⟨T, t, k, _, _⟩ := dq_ty (K := K) h
  exact ⟨_, _, _, _, _, rfl, .ty _, t, k, q⟩
theorem rIsi_int {K : PySem.W.Frag} {H : Hp} {v : V} {d : PyData} (h : Dq H v d) {Q : VK} (q : Q (.bl (isI d)) H) : rIsi K [v, .ty "int"] H Q := by
  obtain ⟨T, t, _, k, _⟩ := dq_ty (K := K) h
  exact ⟨_, _, _, _, _, rfl, .ty _, t, k, q⟩
theorem rIsi_bool {K : PySem.W.Frag} {H : Hp} {v : V} {d : PyData} (h : Dq H v d) {Q : VK} (q : Q (.bl (isB d)) H) : rIsi K [v, .ty "bool"] H Q := by
  obtain ⟨T, t, _, _, k⟩ := dq_ty (K := K) h
  exact ⟨_, _, _, _, _, rfl, .ty _, t, k, q⟩

/-! ### numbers, rows -/
/-- an int that is no bool, from 0 to m -/
def numOk (m : Int) : PyData → Bool
  | .int i => decide (0 ≤ i) && decide (i ≤ m)
  | _ => false
/-- a tuple of n numbers from 0 to 50 -/
def rowOk (n : Nat) : PyData → Bool
  | .tuple xs => decide (xs.length = n) && xs.all (numOk 50)
  | _ => false

/-! ### calls whose errors are wished for at the caller's slots -/
section
variable {X : Cx} {CX : CXT} {k : Nat} {f C : Addr} {sp : Sp} {E : L2.St → XK} {x m : Str} {p pos apos : Pos} {e o : Expr} {es : List Expr} {ta : TE} {t : TA}
theorem run_fnRS {pins : List (Addr × Obj)} {σ : L2.St} {H : Hp} {s : Shared} {Q : VK} {us : List Value} {vs : List V} (F : FnR X.prog X.w X.K X.mg X.base CX k f sp) (hr : Room k X.A) (hx : PassesAt CX X σ (E σ))
    (I : Inv X pins σ H s) (r : Vals vs us) (h : sp vs H Q (E σ)) : wpAny (model X.prog X.w) X.A (call (.ref f) us) (EP X pins σ Q) X.xe s := by
  refine wpAny_call (codeAny_mono (F X.A X.stack s H us vs Q (E σ) hr I.env0 r h) fun r s' hq => ?_)
  cases r with
  | error e => exact hx pins H s e s' I hq
  | ok fl =>
    cases fl with
    | ret u => exact I.after hq
    | next => exact hq.elim
    | brk => exact hq.elim
    | cont => exact hq.elim
def tMakeRS (C : Addr) (sp : Sp) (E : L2.St → XK) (t : TA) : TE := fun σ H Q => t σ H fun vs H1 => ∀ x dx, H1 x = Option.none → H1 dx = Option.none → dx ≠ x →
  sp (V.ref x :: vs) (upd (upd H1 dx (.own x)) x (.ins C dx [])) (fun v H2 => v = .non ∧ Q (.ref x) H2) (E σ)
theorem pe_makeRS (M : Mk X.K C f) (F : FnR X.prog X.w X.K X.mg X.base CX k f sp) (hr : Room (k + 1) X.A) (hg : Gl X x) (hm : X.mg x = some (.ref C)) (hx : ∀ σ, PassesAt CX X σ (E σ)) (ha : PA X (e :: es) t) (hdb : (x == ("__debug__" : Str)) = false := by decide)
    (he : starEach (e :: es) X.env = (false, eval e X.env) :: starEach es X.env := by rfl) (hpl : (backTo pos (starEach es X.env)).any (·.1) = false := by rfl) : PE X (.Call (.Name x p) (e :: es) [] pos) (tMakeRS C sp E t) := by
  refine ⟨fun pins s σ H Q I h => ?_⟩
  refine wpAny_Call_Name_kw (ld_glob I hg hm ?_ hdb)
  refine PySem.W.callWith_K (h₀ := X.base) I.ok.mod.kin M.kp (thn (ha.run pos pins s σ H _ I h) fun us s ⟨vs, H, I, r, h⟩ => ⟨I.kIn, ?_⟩) he hpl
  have hq := h (s.heap.objs.size + 1) s.heap.objs.size (I.hok.fresh (Nat.le_succ _)) (I.hok.fresh (Nat.le_refl _)) (Nat.ne_of_lt (Nat.lt_succ_self _))
  have I2 := Inv.made (C := C) I
  have r2 : Vals (V.ref (s.heap.objs.size + 1) :: vs) (Value.ref (s.heap.objs.size + 1) :: us) := .cons rfl r
  refine wpAny_call (make_map (f := f) I.kIn M.makes M.init (beq_iff_eq.mp M.fn) (codeAny_mono (F _ X.stack _ _ (Value.ref (s.heap.objs.size + 1) :: us) _ _ (E σ) (hr.make C us []) (I2.env0.make C us []) r2 hq) fun r s' hq' => ?_))
  cases r with
  | error e => exact hx σ pins _ _ e s' I2 hq'
  | ok fl =>
    cases fl with
    | ret u =>
      obtain ⟨v, H', I3, rv, ev, q3⟩ := I2.after hq'
      subst ev
      exact ⟨rv, ⟨V.ref (s.heap.objs.size + 1), H', I3, rfl, q3⟩⟩
    | next => exact False.elim hq'
    | brk => exact False.elim hq'
    | cont => exact False.elim hq'
def tMethRS (C : Addr) (m : Str) (sp : Sp) (E : L2.St → XK) (ta : TE) (t : TA) : TE := fun σ H Q => ta σ H fun x H1 => ∃ a dx fs, x = .ref a ∧ H1 a = some (.ins C dx fs) ∧ fs.lookup m = none ∧ t σ H1 fun vs H2 => sp (x :: vs) H2 Q (E σ)
theorem pe_methRS {pl : Sem Bool} (he : PE X o ta) (c : Cls X.K C) (hm : Meth X.K C m f)
    (F : FnR X.prog X.w X.K X.mg X.base CX k f sp) (hr : Room k X.A) (hx : ∀ σ, PassesAt CX X σ (E σ)) (ha : PA X (e :: es) t)
    (hst : starEach (e :: es) X.env = (false, eval e X.env) :: starEach es X.env := by rfl) (hpl : (backTo pos (starEach es X.env)).any (·.1) = false := by rfl)
    (ht : eval (.Call (.Attribute o m apos) (e :: es) [] pos) X.env = (do
      let ov ← eval o X.env
      standAt apos.atName
      let (f, first) ← holding [ov] (getMethod ov m pl)
      callWith pos f first (backTo pos (starEach (e :: es) X.env)) (backToKw pos (keywordEach [] X.env))) := by rfl) :
    PE X (.Call (.Attribute o m apos) (e :: es) [] pos) (tMethRS C m sp E ta t) := by
  refine ⟨fun pins s σ H Q I h => ?_⟩
  refine PySem.W.methodCall_KW (pl := pl) (thn (he.run pins s σ H _ I h) fun u s1 ⟨x, H1, I1, rx, a, dx, fs, ex, ea, l, q⟩ => ?_) ht
  subst ex
  obtain rfl : u = Value.ref a := rx
  refine getmeth_ok I1 ea c hm l ?_
  refine PySem.W.callWith_K (first := [.ref a]) (h₀ := X.base) I.ok.mod.kin hm.kp (thn (ha.run pos pins s1 σ H1 _ I1 q) fun us s2 ⟨vs, H2, I2, r, q2⟩ => ⟨I2.kIn, ?_⟩) hst hpl
  exact run_fnRS (us := .ref a :: us) (vs := .ref a :: vs) F hr (hx σ) I2 (.cons rfl r) q2
end
/-! ### how often a truth value stands in a list of them -/
def rCntB (K : PySem.W.Frag) : V → List V → Hp → VK → Prop := fun x xs H Q => ∃ (p : Addr) (bs : List Bool) (k : Bool), x = .ref p ∧ xs = [.bl k] ∧ SqL K H p (bs.map V.bl) ∧ Q (.int (bs.count k : Nat)) H
theorem countIn_bools (k : Bool) : ∀ bs : List Bool, countIn (.bool k) (bs.map PyData.bool) = (bs.count k : Nat)
  | [] => rfl
  | b :: bs => by
    rw [List.map_cons, countIn, countIn_bools k bs, List.count_cons]
    simp only [same]
    rcases Bool.eq_false_or_eq_true (b == k) with hb | hb <;> simp only [hb, Bool.false_eq_true, if_true, if_false] <;> push_cast <;> omega
theorem mt_countB {X : Cx} : MtR X "list.count" (rCntB X.K) := by
  intro pins s σ H x xs v us Q I rx rxs h
  obtain ⟨p, bs, k, rfl, rfl, hs, q⟩ := h
  cases rx
  obtain ⟨u, rfl, ru⟩ := rxs.one
  cases ru
  obtain ⟨its, rv, ⟨o, n, ho, hc, hdn, hd⟩, hlen⟩ := I.list hs
  obtain ⟨as, h4⟩ := Dp.readsAll I (bs.map PyData.bool) _ its (dps_bools bs) rv
  refine PyProof.Rows.count_list_bools (vs := its) ⟨o, ho, hc, n, hd⟩ h4 (by simp [Shape.has]) ?_
  rw [countIn_bools]
  exact ⟨.int (bs.count k : Nat), H, I.tok _, ⟨_, rfl⟩, q⟩
end DD
namespace DD
open PySem PySem.Spec PyProof.Rows L2
def topS (i : Nat) : Stmt := PySem.Challenge.pw_darkdrawers_k46_hands.main.body.getD i (.Pass ⟨0, 0, 0, 0⟩)
abbrev sIsNum : Stmt := topS 2
abbrev sUpTo : Stmt := topS 3
abbrev sDeck : Stmt := topS 14
abbrev sDraw : Stmt := topS 15
abbrev sLNum : Stmt := topS 16
abbrev sMade : Stmt := topS 17
abbrev sLFree : Stmt := topS 18
abbrev sLaw : Stmt := topS 19
abbrev cBadMost : Stmt := topS 9
abbrev cTooFull : Stmt := topS 10
abbrev cHand : Stmt := topS 12
abbrev sInitM : Stmt := inClass cBadMost 0
abbrev sInitT : Stmt := inClass cTooFull 0
abbrev sHInit : Stmt := inClass cHand 0
abbrev sFree : Stmt := inClass cHand 1
end DD
namespace DD
open PySem PySem.Spec PyProof.Rows L2
theorem scDraw : FnScope ["_law_deck_here", "_law_many", "_law_cell", "_law_place"] ["_law_deck_here", "_law_many"] (defScope sDraw) := ⟨rfl, rfl, rfl, by decide +kernel, rfl, by decide +kernel, by decide +kernel⟩

section
variable {P : Program} {w : World} {K : PySem.W.Frag} {mg : Str → Option Value} {base : Heap}
/-- a drawn number from 0 to L - 1: the deck turns, all else stands -/
def spDraw : Sp := fun vs H Q _ => ∃ (dk c : Addr) (B : Nat) (L : Int), vs = [.ref dk, .int L] ∧ Deck H dk c B ∧ B ≤ 1000000 ∧ 1 ≤ L ∧ L ≤ 10000000 ∧
  ∀ r H', 0 ≤ r → r < L → Kp2 dk c H H' → Deck H' dk c (B + 1) → Q (.int r) H'
theorem ok_draw {f : Addr} {fd : FuncData} {k : Nat} (F : Fun K "_law_draw" "_law_draw" sDraw f fd) (ml : mg "len" = none) : FnOk P w K mg base CX0 (k + 1) f fd ["_law_deck_here", "_law_many"] spDraw := by
  refine F.ok scDraw (fun vs H Q E h => ?_) (fun cdv A outer s H vs Q E hr h => ?_)
  · obtain ⟨dk, c, B, L, rfl, _⟩ := h
    rfl
  · obtain ⟨dk, c, B, L, rfl, ⟨⟨ns, t, hdk, hc, hpos, hlen, t0, tB⟩, dne⟩, hB, hL1, hL2, q⟩ := h
    refine ⟨_, pss_cons (ps_asg (pe_op op_add (pe_ix ix_list (pv 0) pe_int (fun _ _ => rfl)) pe_int) (pg_sub (pv 0) pe_int set_list))
      (pss_cons (ps_set (i := 2) scDraw.nd rfl (.inl rfl) pe_int)
      (pss_cons (ps_set (i := 3) scDraw.nd rfl (.inl rfl) (pe_un un_neg pe_int))
      (C8.pss_cut (ps_if (pt_cmpR op_gt (pe_callB call_len_seq (by rfl) ml PySem.boot_len (pa_cons (pe_ix ix_list (pv 0) pe_int (fun _ _ => rfl)) pa_nil)) pe_int (nomark _))
          (pss_cons (ps_set (i := 3) scDraw.nd rfl (.inl rfl) (pe_op op_modN (pe_ix ix_list (pv 0) pe_int (fun _ _ => rfl)) (pe_callB call_len_seq (by rfl) ml PySem.boot_len (pa_cons (pe_ix ix_list (pv 0) pe_int (fun _ _ => rfl)) pa_nil))))
          (pss_one (ps_set (i := 2) scDraw.nd rfl (.inl rfl) (pe_ix ix_list (pe_ix ix_list (pv 0) pe_int (fun _ _ => rfl)) (pv 3) (fun _ _ => rfl)))))
          pss_nil)
      (pss_cons (ps_if (pt_cmpR op_ge (pv 2) (pe_op op_pow pe_int pe_int) (nomark _))
          (pss_cons (ps_asg (pe_op op_fdivN (pv 2) (pv 1)) (pg_sub (pe_ix ix_list (pv 0) pe_int (fun _ _ => rfl)) (pv 3) set_list))
          (pss_one (ps_ret (pe_op op_modN (pv 2) (pv 1)))))
          pss_nil)
      (pss_one (ps_ret (pe_op op_modN (pe_op op_modN (pe_op op_pow (pe_op op_add (pe_op op_add (pe_op op_modN (pv 2) pe_int) (pe_op op_mul pe_int (pe_ix ix_list (pv 0) pe_int (fun _ _ => rfl)))) pe_int) pe_int) pe_int) (pv 1)))))))), ?_⟩
    -- _law_deck_here[1] = _law_deck_here[1] + 1
    refine ⟨.ref dk, rfl, dk, _, 1, .int t, rfl, rfl, SqL.of hdk, atI_nat (j := 1) rfl, t, 1, rfl, rfl, .ref dk, rfl, dk, _, 1, 1, rfl, rfl, hdk, rfl, ?_⟩
    have hdk1 : (upd H dk (.lst [.ref c, .int (t + 1)])) dk = some (.lst [.ref c, .int (t + 1)]) := upd_same
    have hc1 : (upd H dk (.lst [.ref c, .int (t + 1)])) c = some (.lst (ns.map V.int)) := by
      rw [upd_ne dne.symm]
      exact hc
    refine ⟨1, rfl, ?_⟩
    have hdk2 := hdk1
    have hc2 := hc1
    have k2 : Kp2 dk c H (upd H dk (.lst [.ref c, .int (t + 1)])) := kp2_upd1
    refine ⟨fun σ' H' => ∃ cell idx : Int, σ' = [some (.ref dk), some (.int L), some (.int cell), some (.int idx)] ∧ Kp2 dk c H H' ∧ H' dk = some (.lst [.ref c, .int (t + 1)]) ∧ H' c = some (.lst (ns.map V.int)) ∧ 0 ≤ cell ∧
      (10 ^ 18 ≤ cell → ∃ j : Nat, idx = j ∧ j < ns.length), ?_, ?_⟩
    · -- if len(_law_deck_here[0]) > 0
      refine ⟨.ref dk, rfl, dk, _, 0, .ref c, rfl, rfl, SqL.of hdk2, atI_nat (j := 0) rfl, c, _, rfl, .inl (SqL.of hc2), _, _, rfl, rfl, _, rfl, ite2 (fun e => ?_) (fun e => ?_)⟩
      · have e0 : (0 : Int) < ((ns.map V.int).length : Int) := of_decide_eq_true e
        rw [List.length_map] at e0
        have b1 := Int.fmod_nonneg_of_pos (t + 1) e0
        have b2 := Int.fmod_lt_of_pos (t + 1) e0
        obtain ⟨j, hj⟩ : ∃ j : Nat, (t + 1).fmod (ns.length : Int) = j := ⟨((t + 1).fmod (ns.length : Int)).toNat, by omega⟩
        have hjl : j < ns.length := by omega
        have gj : (ns.map V.int)[j]? = some (.int ns[j]) := by
          rw [List.getElem?_map, List.getElem?_eq_getElem hjl]
          rfl
        refine ⟨.ref dk, rfl, dk, _, 1, .int (t + 1), rfl, rfl, SqL.of hdk2, atI_nat (j := 1) rfl, .ref dk, rfl, dk, _, 0, .ref c, rfl, rfl, SqL.of hdk2, atI_nat (j := 0) rfl, c, _, rfl, .inl (SqL.of hc2), t + 1, _, rfl, rfl, ?_, ?_⟩
        · rw [List.length_map]
          omega
        · refine ⟨.ref dk, rfl, dk, _, 0, .ref c, rfl, rfl, SqL.of hdk2, atI_nat (j := 0) rfl, _, rfl, c, _, (j : Int), .int ns[j], rfl, ?_, SqL.of hc2, atI_nat gj, ?_⟩
          · show V.int ((t + 1).fmod _) = _
            rw [List.length_map, hj]
          · refine ⟨ns[j], j, ?_, k2, hdk2, hc2, hpos _ (List.getElem_mem hjl), fun _ => ⟨j, rfl, hjl⟩⟩
            show [some (V.ref dk), some (V.int L), some (V.int ns[j]), some (V.int ((t + 1).fmod _))] = _
            rw [List.length_map, hj]
      · exact ⟨0, -1, rfl, k2, hdk2, hc2, Int.le_refl _, fun z => absurd z (by decide)⟩
    · rintro σ' H' ⟨cell, idx, rfl, k2, hdk2, hc2, hcell, hidx⟩
      have hB1 : t + 1 ≤ ((B + 1 : Nat) : Int) := by omega
      -- if _law_cell >= 10 ** 18
      refine ⟨_, rfl, 10, 18, rfl, rfl, ⟨by decide, by decide, by decide⟩, _, _, rfl, rfl, _, rfl, ite2 (fun e => ?_) (fun e => ?_)⟩
      · have e0 : (10 : Int) ^ (18 : Int).toNat ≤ cell := of_decide_eq_true e
        obtain ⟨j, rfl, hjl⟩ := hidx e0
        have hix : ixN (ns.map V.int).length (j : Int) = some j := by
          unfold ixN
          rw [if_pos (by omega), if_pos (by rw [List.length_map]; omega)]
          simp
        refine ⟨_, rfl, _, rfl, cell, L, rfl, rfl, ⟨by omega, by omega⟩, .ref dk, rfl, dk, _, 0, .ref c, rfl, rfl, SqL.of hdk2, atI_nat (j := 0) rfl, _, rfl, c, _, (j : Int), j, rfl, rfl, hc2, hix, ?_⟩
        refine ⟨_, rfl, _, rfl, cell, L, rfl, rfl, by omega, ?_⟩
        refine q _ _ (Int.fmod_nonneg_of_pos _ (by omega)) (Int.fmod_lt_of_pos _ (by omega)) (k2.trans kp2_upd2) ⟨⟨ns.set j (cell.fdiv L), t + 1, ?_, ?_, ?_, ?_, by omega, hB1⟩, dne⟩
        · rw [upd_ne dne]
          exact hdk2
        · rw [upd_same, List.map_set]
        · intro n hn
          rcases List.mem_or_eq_of_mem_set hn with h | h
          · exact hpos n h
          · rw [h]
            exact Int.fdiv_nonneg hcell (by omega)
        · rw [List.length_set]
          exact hlen
      · have b1 := Int.fmod_nonneg_of_pos cell (show (0 : Int) < 2147483587 by decide)
        have b2 := Int.fmod_lt_of_pos cell (show (0 : Int) < 2147483587 by decide)
        refine ⟨_, rfl, cell, 2147483587, rfl, rfl, (by show (2147483587 : Int) ≠ 0; decide), .ref dk, rfl, dk, _, 1, .int (t + 1), rfl, rfl, SqL.of hdk2, atI_nat (j := 1) rfl, 7919, t + 1, rfl, rfl, .inl ⟨by decide, by decide⟩,
          _, _, rfl, rfl, _, _, rfl, rfl, _, 5, rfl, rfl, ⟨by decide, by decide, by omega⟩, _, 2147483647, rfl, rfl, (by show (2147483647 : Int) ≠ 0; decide), _, rfl, _, L, rfl, rfl, by omega, ?_⟩
        exact q _ _ (Int.fmod_nonneg_of_pos _ (by omega)) (Int.fmod_lt_of_pos _ (by omega)) k2 ⟨⟨ns, t + 1, hdk2, hc2, hpos, hlen, by omega, hB1⟩, dne⟩
end
end DD
namespace DD
open PySem PySem.Spec PyProof.Rows L2
theorem scDeck : FnScope ["_law_script", "_law_cell"] ["_law_script"] (defScope sDeck) := ⟨rfl, rfl, rfl, by decide +kernel, rfl, by decide +kernel, by decide +kernel⟩
section
variable {P : Program} {w : World} {K : PySem.W.Frag} {mg : Str → Option Value} {base : Heap}
def spDeck (K : PySem.W.Frag) : Sp := fun vs H Q _ => ∃ (a : Addr) (ns : List Int), vs = [.ref a] ∧ SqL K H a (ns.map V.int) ∧ ns.length ≤ 63 ∧
  ∀ dk c H', Same H H' → H dk = none → H c = none → Deck H' dk c 0 → Q (.ref dk) H'
theorem ok_deck {f : Addr} {fd : FuncData} {k : Nat} (F : Fun K "_law_deck" "_law_deck" sDeck f fd) (ma : mg "abs" = none) : FnOk P w K mg base CX0 (k + 1) f fd ["_law_script"] (spDeck K) := by
  refine F.ok scDeck (fun vs H Q E h => ?_) (fun cdv A outer s H vs Q E hr h => ?_)
  · obtain ⟨a, ns, rfl, _⟩ := h
    rfl
  · obtain ⟨a, ns, rfl, hS, hlen, q⟩ := h
    refine ⟨_, pss_one (ps_ret (pe_lst (pa_cons (pe_lc (own := [("_law_cell", 1)]) (g := gName 1) rfl scDeck.nd (pi_list (pe_slice sl_list (pv 0) po_none (po_some pe_int)))
      (blkOk_by (own := [("_law_cell", 1)]) (N := ["_law_script", "_law_cell"]) (sc := defScope sDeck) (by decide +kernel)) (fun _ _ _ _ _ => pg_name (i := 1) scDeck.nd rfl (Or.inl rfl)) (fun _ _ _ _ _ => pts_nil)
      (fun _ _ _ _ _ => pe_callB call_abs (by rfl) ma (by decide +kernel) (pa_cons (pv 1) pa_nil))) (pa_cons pe_int pa_nil)))), ?_⟩
    refine ⟨.ref a, rfl, 63, rfl, a, _, rfl, hS, fun p np => ?_⟩
    obtain ⟨ms, em, hml⟩ := cutV_map (ns := ns) (lo := none) (hi := some 63)
    rw [em]
    refine ⟨p, rfl, ⟨_, SqL.of upd_same⟩, fun D nD => ?_⟩
    have hp0 : Same H (upd H p (.lst (ms.map V.int))) := same_new np
    refine lc_list (xs := ms.map V.int) (fun i H' => H' D = some (.lst ((ms.take i).map fun n => V.int (absI n))) ∧ Same (upd H p (.lst (ms.map V.int))) H') ⟨upd_same, same_new nD⟩
      (fun i H' _ h => SqL.of (h.2 _ _ upd_same)) (fun i x H' hx h => ?_) (fun H' h => ?_)
    · obtain ⟨n, hn, rfl⟩ := get_map hx
      obtain ⟨hD, sm⟩ := h
      refine ⟨rfl, _, rfl, n, rfl, _, hD, ?_, ?_, fun b o e => ?_⟩
      · rw [List.length_map, List.length_take]
        exact len_lt (by omega)
      · rw [upd_same, take_succ_map hn]
        rfl
      · have hne : b ≠ D := ne_of_none e nD
        rw [upd_ne hne]
        exact sm b o e
    · obtain ⟨hD, sm⟩ := h
      rw [List.length_map, List.take_length] at hD
      refine ⟨by show 2 ≤ sizeLine; decide, fun dk nk => ?_⟩
      have ndk : D ≠ dk := ne_of_none hD nk
      refine q dk D _ (hp0.trans (sm.trans (same_new nk))) ?_ ?_ ⟨⟨ms.map absI, 0, upd_same, ?_, ?_, ?_, Int.le_refl _, Int.le_refl _⟩, ndk.symm⟩
      · exact hp0.free (sm.free nk)
      · exact hp0.free nD
      · rw [upd_ne ndk, hD, List.map_map]
        rfl
      · intro n hn
        obtain ⟨m, _, rfl⟩ := List.mem_map.mp hn
        exact absI_pos m
      · rw [List.length_map]
        omega
end
end DD
namespace DD
open PySem PySem.Spec PyProof.Rows L2
structure Tx (K : PySem.W.Frag) (mg : Str → Option Value) (fN fU fDk fD fW fMd fFr : Addr) (dN dU dDk dD dW dMd dFr : FuncData) : Prop where
  N : Fun K "is_number" "is_number" sIsNum fN dN
  bN : Binds K dN ["value"] []
  gN : mg "is_number" = some (.ref fN)
  U : Fun K "is_number_up_to" "is_number_up_to" sUpTo fU dU
  bU : Binds K dU ["value", "most"] []
  gU : mg "is_number_up_to" = some (.ref fU)
  Dk : Fun K "_law_deck" "_law_deck" sDeck fDk dDk
  bDk : Binds K dDk ["_law_script"] []
  gDk : mg "_law_deck" = some (.ref fDk)
  D : Fun K "_law_draw" "_law_draw" sDraw fD dD
  bD : Binds K dD ["_law_deck_here", "_law_many"] []
  gD : mg "_law_draw" = some (.ref fD)
  W : Fun K "_law_is_within" "_law_is_within" sLNum fW dW
  bW : Binds K dW ["_law_value", "_law_low", "_law_high"] []
  gW : mg "_law_is_within" = some (.ref fW)
  Md : Fun K "_law_made" "_law_made" sMade fMd dMd
  bMd : Binds K dMd ["_law_most"] []
  gMd : mg "_law_made" = some (.ref fMd)
  Fr : Fun K "_law_free" "_law_free" sLFree fFr dFr
  bFr : Binds K dFr ["_law_hand", "_law_number"] []
  gFr : mg "_law_free" = some (.ref fFr)
  m_len : mg "len" = none
  m_range : mg "range" = none
  m_abs : mg "abs" = none
  m_repr : mg "repr" = none
  m_max : mg "max" = none
  m_int : mg "int" = none
  m_bool : mg "bool" = none
  m_isinstance : mg "isinstance" = none
  m_ValueError : mg "ValueError" = none
  m_list : mg "list" = none

/-- what the top says of a class of errors -/
structure ErrC (K : PySem.W.Frag) (mg : Str → Option Value) (nm fld qual : Str) (sI : Stmt) (C fI : Addr) (dI : FuncData) : Prop where
  o : OexC K C
  iC : PySem.W.findIn K (.ref C) "__init__" = some (some (.ref fI))
  tI : PySem.W.typeIn K (.ref fI) = some (.type "function")
  noT : PySem.W.findIn K (.ref C) fld = some none
  gC : mg nm = some (.ref C)
  FI : Fun K "__init__" qual sI fI dI
  bI : Binds K dI ["self", fld] []
/-! ### isinstance of a caught error that has a dict of its own -/
structure IsTx (K : PySem.W.Frag) (D : Addr) : Prop where
  cl : (PySem.W.clsIn K D).isSome = true
  ga : PySem.W.findIn K (.ref D) "__getattribute__" = some (some (.builtin "BaseException.__getattribute__"))
  gt : PySem.W.findIn K (.ref D) "__getattr__" = some none
  sub : PySem.W.subIn K (.ref D) (.type "BaseException") = some true
  hc : PySem.W.findIn K (.ref D) "__class__" = some (some (.builtin "object.__class__"))
  gn : PySem.W.specialIn K (.builtin "object.__class__") "__get__" = some (some (.builtin "getset_descriptor.__get__"))
  tk : PySem.W.takesIn K (.builtin "object.__class__") = some true
  mo : PySem.W.mroIn K D (.type "object") = some true
/-- the asked class, or the tuple of asked classes -/
def rIsD (K : PySem.W.Frag) (cls : Value) (d : Option Addr) (a : Addr) : List V → Hp → VK → Prop := fun xs H Q => ∃ (c : V) (D dd : Addr) (fs : List (Str × V)) (b : Bool), xs = [.ref a, c] ∧ cls = .ref D ∧ d = some dd ∧ H dd = some (.xd fs) ∧ IsTx K D ∧
  ((∃ cv, (∀ u, RelV c u → u = cv) ∧ PySem.W.kitOne K (.ref D) cv = some b) ∨ ∃ (p : Addr) (cs : List Addr), c = .ref p ∧ SqT K H p (cs.map V.ref) ∧ PySem.W.kitAny K (.ref D) (cs.map Value.ref) = some b) ∧ Q (.bl b) H
theorem call_isD {X : Cx} {a : Addr} {oe : Obj} {cls : Value} {d : Option Addr} {pn : List (Addr × Obj)} (hz : Zc cls d oe) (hf : ∃ vs, oe.data = .fields vs) :
    CallR (X.suite a ((a, oe) :: pn)) (.builtin "isinstance") (rIsD X.K cls d a) := by
  intro pins s σ H xs us Q I r h
  obtain ⟨c, D, dd, fs, b, rfl, rfl, rfl, hdd, T, how, q⟩ := h
  cases r with
  | cons rx rr =>
    cases rr with
    | cons rt rr =>
      cases rr
      cases rx
      obtain ⟨hget, _⟩ := I.pin (a, oe) (List.mem_append.mpr (.inl List.mem_cons_self))
      obtain ⟨vs, hv⟩ := hf
      obtain ⟨mA, hns, _⟩ : ObjOk X.prog X.w H s.heap dd (.xd fs) := I.hok dd _ hdd
      obtain ⟨od, ho, _⟩ := lookIn_ns hns
      have J : PySem.W.InstAt s.heap a oe D (some od) := ⟨hget, hz.1, by unfold PySem.W.notCls; rw [hv] <;> rfl, by rw [hz.2]; exact ho⟩
      have Z := PySem.W.kitx_exc (x := a) (ox := oe) (od := some od) T.cl T.ga T.gt T.sub T.hc T.gn T.tk T.mo
      rcases how with ⟨cv, hcv, e⟩ | ⟨p, cs, rfl, hq, e⟩
      · have ec := hcv _ rt
        subst ec
        exact PySem.W.kia_one Z I.kIn J e (fun z => nomatch z) fun tk => ⟨.bl b, H, I.kept (t' := tk) fun _ _ z => z, rfl, q⟩
      · cases rt
        obtain ⟨its, rv, ⟨⟨oc, od2, oda, osl⟩, hp, hpc, n, hpd⟩, _⟩ := I.tuple hq
        obtain rfl := vals_refs rv
        simp only at hpc hpd
        subst hpc hpd
        exact PySem.W.kia_tup Z I.kIn J hp e (fun z => nomatch z) fun tk => ⟨.bl b, H, I.kept (t' := tk) fun _ _ z => z, rfl, q⟩

structure HT (K : PySem.W.Frag) (mg : Str → Option Value) (B CM CT C1 C2 C3 fIM fIT CH fHI fHF : Addr) (dIM dIT dHI dHF : FuncData) : Prop where
  eM : ErrC K mg "BadMost" "value" "BadMost.__init__" sInitM CM fIM dIM
  eT : ErrC K mg "TooFull" "number" "TooFull.__init__" sInitT CT fIT dIT
  isM : IsTx K CM
  isT : IsTx K CT
  xfM : XfC K CM
  xfT : XfC K CT
  exM : PySem.W.exmOne K (.ref CM) (.ref B) = some true
  exT : PySem.W.exmOne K (.ref CT) (.ref B) = some true
  gB : mg "DrawerError" = some (.ref B)
  g1 : mg "BadCount" = some (.ref C1)
  g2 : mg "BadCounts" = some (.ref C2)
  g3 : mg "TooMuch" = some (.ref C3)
  vM : PySem.W.kitOne K (.ref CM) (.type "ValueError") = some true
  vT : PySem.W.kitOne K (.ref CT) (.type "ValueError") = some true
  mt : PySem.W.kitOne K (.ref CM) (.ref CT) = some false
  tm : PySem.W.kitOne K (.ref CT) (.ref CM) = some false
  aM3 : PySem.W.kitAny K (.ref CM) [.ref C1, .ref C2, .ref CT] = some false
  aM2 : PySem.W.kitAny K (.ref CM) [.ref C1, .ref C3] = some false
  aT2 : PySem.W.kitAny K (.ref CT) [.ref C1, .ref C3] = some false
  cl : Cls K CH
  nM : NoAttr K CH "most"
  mkH : Mk K CH fHI
  mF : Meth K CH "free" fHF
  FI : Fun K "__init__" "Hand.__init__" sHInit fHI dHI
  bI : Binds K dHI ["self", "most"] []
  FF : Fun K "free" "Hand.free" sFree fHF dHF
  bF : Binds K dHF ["self", "number"] []
  gH : mg "Hand" = some (.ref CH)
  lim : ∃ tk, mg "LIMIT" = some (.int 1000000 tk)
theorem scInitM : FnScope ["self", "value"] ["self", "value"] (defScope sInitM) := ⟨rfl, rfl, rfl, by decide +kernel, rfl, by decide +kernel, by decide +kernel⟩
section
variable {P : Program} {w : World} {K : PySem.W.Frag} {mg : Str → Option Value} {base : Heap}
def spInitM (K : PySem.W.Frag) (C : Addr) : Sp := fun vs H Q _ => ∃ (a : Addr) (y : V), vs = [.ref a, y] ∧ OexC K C ∧ PySem.W.findIn K (.ref C) "value" = some none ∧ H a = some (exo a C none) ∧
  ∀ dx, H dx = none → dx ≠ a → Q .non (upd (upd H dx (exd dx [("value", y)])) a (exo a C (some dx)))
theorem ok_initM {C f : Addr} {fd : FuncData} {k : Nat} (F : Fun K "__init__" "BadMost.__init__" sInitM f fd) : FnOk P w K mg base CX0 (k + 1) f fd ["self", "value"] (spInitM K C) := by
  refine F.ok scInitM (fun vs H Q E h => ?_) (fun cdv A outer s H vs Q E hr h => ?_)
  · obtain ⟨a, y, rfl, _⟩ := h
    rfl
  · obtain ⟨a, y, rfl, o, no, ha, q⟩ := h
    refine ⟨_, pss_one (ps_ost (pv 0) (pv 1)), ?_⟩
    exact ⟨y, rfl, .ref a, rfl, a, C, rfl, o, no, .inl ⟨ha, fun dx n1 n2 => q dx n1 n2⟩⟩
end
theorem scInitT : FnScope ["self", "number"] ["self", "number"] (defScope sInitT) := ⟨rfl, rfl, rfl, by decide +kernel, rfl, by decide +kernel, by decide +kernel⟩
section
variable {P : Program} {w : World} {K : PySem.W.Frag} {mg : Str → Option Value} {base : Heap}
def spInitT (K : PySem.W.Frag) (C : Addr) : Sp := fun vs H Q _ => ∃ (a : Addr) (y : V), vs = [.ref a, y] ∧ OexC K C ∧ PySem.W.findIn K (.ref C) "number" = some none ∧ H a = some (exo a C none) ∧
  ∀ dx, H dx = none → dx ≠ a → Q .non (upd (upd H dx (exd dx [("number", y)])) a (exo a C (some dx)))
theorem ok_initT {C f : Addr} {fd : FuncData} {k : Nat} (F : Fun K "__init__" "TooFull.__init__" sInitT f fd) : FnOk P w K mg base CX0 (k + 1) f fd ["self", "number"] (spInitT K C) := by
  refine F.ok scInitT (fun vs H Q E h => ?_) (fun cdv A outer s H vs Q E hr h => ?_)
  · obtain ⟨a, y, rfl, _⟩ := h
    rfl
  · obtain ⟨a, y, rfl, o, no, ha, q⟩ := h
    refine ⟨_, pss_one (ps_ost (pv 0) (pv 1)), ?_⟩
    exact ⟨y, rfl, .ref a, rfl, a, C, rfl, o, no, .inl ⟨ha, fun dx n1 n2 => q dx n1 n2⟩⟩
end
end DD
namespace DD
open PySem PySem.Spec PyProof.Rows L2
theorem scIsNum : FnScope ["value"] ["value"] (defScope sIsNum) := ⟨rfl, rfl, rfl, by decide +kernel, rfl, by decide +kernel, by decide +kernel⟩
theorem scUpTo : FnScope ["value", "most"] ["value", "most"] (defScope sUpTo) := ⟨rfl, rfl, rfl, by decide +kernel, rfl, by decide +kernel, by decide +kernel⟩
theorem scLNum : FnScope ["_law_value", "_law_low", "_law_high"] ["_law_value", "_law_low", "_law_high"] (defScope sLNum) := ⟨rfl, rfl, rfl, by decide +kernel, rfl, by decide +kernel, by decide +kernel⟩
section
variable {P : Program} {w : World} {K : PySem.W.Frag} {mg : Str → Option Value} {base : Heap}
def spIsNum : Sp := fun vs H Q _ => ∃ v d, vs = [v] ∧ Dq H v d ∧ Q (.bl (isI d && !isB d)) H
theorem ok_isnum {f : Addr} {fd : FuncData} {k : Nat} (F : Fun K "is_number" "is_number" sIsNum f fd) (mI : mg "isinstance" = none) (mi : mg "int" = none) (mb : mg "bool" = none) : FnOk P w K mg base CX0 (k + 1) f fd ["value"] spIsNum := by
  refine F.ok scIsNum (fun vs H Q E h => ?_) (fun cdv A outer s H vs Q E hr h => ?_)
  · obtain ⟨v, d, rfl, _⟩ := h
    rfl
  · obtain ⟨v, d, rfl, hd, q⟩ := h
    refine ⟨_, pss_one (ps_ret (pe_and (pe_callB (show CallR _ _ (rIsi K) from call_isi) (by rfl) mI (by decide +kernel) (pa_cons (pv 0) (pa_cons (pe_bltn (v := .ty "int") (by rfl) mi (by decide +kernel) rfl) pa_nil)))
      (pe_one (pe_not (pe_callB (show CallR _ _ (rIsi K) from call_isi) (by rfl) mI (by decide +kernel) (pa_cons (pv 0) (pa_cons (pe_bltn (v := .ty "bool") (by rfl) mb (by decide +kernel) rfl) pa_nil))))))), ?_⟩
    obtain ⟨T, t, kT, kI, kB⟩ := dq_ty (K := K) hd
    refine ⟨v, rfl, _, _, _, _, _, rfl, .ty _, t, kI, _, rfl, ?_⟩
    by_cases c : isI d = true
    · rw [if_pos c]
      refine ⟨v, rfl, _, _, _, _, _, rfl, .ty _, t, kB, _, rfl, ?_⟩
      rw [c, Bool.true_and] at q
      exact q
    · rw [if_neg c]
      rw [Bool.eq_false_iff.mpr c, Bool.false_and] at q
      exact q
def spUpTo : Sp := fun vs H Q _ => ∃ v d m, vs = [v, .int m] ∧ Dq H v d ∧ Q (.bl (numOk m d)) H
theorem ok_upto {f fN : Addr} {fd fdN : FuncData} {k : Nat} (F : Fun K "is_number_up_to" "is_number_up_to" sUpTo f fd) (FN : Fun K "is_number" "is_number" sIsNum fN fdN) (bN : Binds K fdN ["value"] []) (gN : mg "is_number" = some (.ref fN))
    (mI : mg "isinstance" = none) (mi : mg "int" = none) (mb : mg "bool" = none) : FnOk P w K mg base CX0 (k + 2) f fd ["value", "most"] spUpTo := by
  have GN : FnOk P w K mg base CX0 (k + 1) fN fdN ["value"] spIsNum := ok_isnum FN mI mi mb
  refine F.ok scUpTo (fun vs H Q E h => ?_) (fun cdv A outer s H vs Q E hr h => ?_)
  · obtain ⟨v, d, m, rfl, _⟩ := h
    rfl
  · obtain ⟨v, d, m, rfl, hd, q⟩ := h
    refine ⟨_, pss_one (ps_ret (pe_and (pe_call GN hr (by rfl) gN FN.kp bN .nil pass0 (pa_cons (pv 0) pa_nil)) (pe_one (pe_chain op_le op_le pe_int (pv 0) (pv 1))))), ?_⟩
    refine ⟨v, rfl, v, d, rfl, hd, _, rfl, ?_⟩
    cases hd with
    | int i =>
      refine iteT ⟨_, rfl, _, _, rfl, rfl, _, rfl, ?_⟩
      have q : Q (.bl (decide (0 ≤ i) && decide (i ≤ m))) H := q
      by_cases c : (0 : Int) ≤ i
      · rw [decide_eq_true c, Bool.true_and] at q
        refine iteT2 (decide_eq_true c) ⟨_, rfl, _, _, rfl, rfl, q⟩
      · rw [decide_eq_false c, Bool.false_and] at q
        exact iteF2 (decide_eq_false c) q
    | bl b => exact iteF q
    | non => exact iteF q
    | str _ => exact iteF q
    | lst _ _ => exact iteF q
    | tup _ _ => exact iteF q
    | d0 _ => exact iteF q
    | d1 _ => exact iteF q
def spLNum : Sp := fun vs H Q _ => ∃ v d m, vs = [v, .int 0, .int m] ∧ Dq H v d ∧ Q (.bl (numOk m d)) H
theorem ok_lnum {f : Addr} {fd : FuncData} {k : Nat} (F : Fun K "_law_is_within" "_law_is_within" sLNum f fd) (mI : mg "isinstance" = none) (mi : mg "int" = none) (mb : mg "bool" = none) : FnOk P w K mg base CX0 (k + 1) f fd ["_law_value", "_law_low", "_law_high"] spLNum := by
  refine F.ok scLNum (fun vs H Q E h => ?_) (fun cdv A outer s H vs Q E hr h => ?_)
  · obtain ⟨v, d, m, rfl, _⟩ := h
    rfl
  · obtain ⟨v, d, m, rfl, hd, q⟩ := h
    refine ⟨_, pss_one (ps_ret (pe_and (pe_callB (show CallR _ _ (rIsi K) from call_isi) (by rfl) mI (by decide +kernel) (pa_cons (pv 0) (pa_cons (pe_bltn (v := .ty "int") (by rfl) mi (by decide +kernel) rfl) pa_nil)))
      (pe_and (pe_not (pe_callB (show CallR _ _ (rIsi K) from call_isi) (by rfl) mI (by decide +kernel) (pa_cons (pv 0) (pa_cons (pe_bltn (v := .ty "bool") (by rfl) mb (by decide +kernel) rfl) pa_nil))))
      (pe_one (pe_chain op_le op_le (pv 1) (pv 0) (pv 2)))))), ?_⟩
    obtain ⟨T, t, kT, kI, kB⟩ := dq_ty (K := K) hd
    refine ⟨v, rfl, _, _, _, _, _, rfl, .ty _, t, kI, _, rfl, ?_⟩
    cases hd with
    | int i =>
      refine iteT ⟨_, rfl, _, _, _, _, _, rfl, .ty _, t, kB, _, rfl, _, rfl, iteT ⟨_, rfl, _, rfl, _, _, rfl, rfl, _, rfl, ?_⟩⟩
      have q : Q (.bl (decide (0 ≤ i) && decide (i ≤ m))) H := q
      by_cases c : (0 : Int) ≤ i
      · rw [decide_eq_true c, Bool.true_and] at q
        refine iteT2 (decide_eq_true c) ⟨_, rfl, _, _, rfl, rfl, q⟩
      · rw [decide_eq_false c, Bool.false_and] at q
        exact iteF2 (decide_eq_false c) q
    | bl b => exact iteT ⟨_, rfl, _, _, _, _, _, rfl, .ty _, t, kB, _, rfl, _, rfl, iteF q⟩
    | non => exact iteF q
    | str _ => exact iteF q
    | lst _ _ => exact iteF q
    | tup _ _ => exact iteF q
    | d0 _ => exact iteF q
    | d1 _ => exact iteF q
end
end DD
namespace DD
open PySem PySem.Spec PyProof.Rows L2
section
variable {P : Program} {w : World} {K : PySem.W.Frag} {mg : Str → Option Value} {base : Heap}
/-- what a raise of an own error gives -/
theorem raised {C : Addr} {fld : Str} {H : Hp} {v : V} {E : XK} (q : ∀ dd H', Same H H' → H' dd = some (.xd [(fld, v)]) → E (.ref C) (some dd) H') {a dx : Addr} (na : H a = none) (nx : (upd H a (exo a C none)) dx = none) (ne : dx ≠ a) :
    E (.ref C) (some dx) (upd (del (upd (upd (upd H a (exo a C none)) dx (exd dx [(fld, v)])) a (exo a C (some dx))) a) dx (.xd [(fld, v)])) := by
  have nx' := nx
  rw [upd_ne ne] at nx'
  refine q dx _ (fun b o e => ?_) upd_same
  have nb1 := ne_of_none e na
  have nb2 := ne_of_none e nx'
  rw [upd_ne nb2, del_ne nb1, upd_ne nb1, upd_ne nb2, upd_ne nb1]
  exact e
end
theorem scHI : FnScope ["self", "most"] ["self", "most"] (defScope sHInit) := ⟨rfl, rfl, rfl, by decide +kernel, rfl, by decide +kernel, by decide +kernel⟩
theorem scHF : FnScope ["self", "number"] ["self", "number"] (defScope sFree) := ⟨rfl, rfl, rfl, by decide +kernel, rfl, by decide +kernel, by decide +kernel⟩
section
variable {P : Program} {w : World} {K : PySem.W.Frag} {mg : Str → Option Value} {base : Heap}
def spHI (CH CM : Addr) : Sp := fun vs H Q E => ∃ (x dx : Addr) (v : V) (d : PyData), vs = [.ref x, v] ∧ H x = some (.ins CH dx []) ∧ Dq H v d ∧
  (numOk 1000000 d = true → Q .non (upd H x (.ins CH dx [("most", v)]))) ∧ (numOk 1000000 d = false → ∀ dd H', Same H H' → H' dd = some (.xd [("value", v)]) → E (.ref CM) (some dd) H')
theorem ok_hi {f fN fU fDk fD fW fMd fFr : Addr} {fd dN dU dDk dD dW dMd dFr : FuncData} {B CM CT C1 C2 C3 fIM fIT CH fHI fHF : Addr} {dIM dIT dHI dHF : FuncData} (F : Fun K "__init__" "Hand.__init__" sHInit f fd) (T : Tx K mg fN fU fDk fD fW fMd fFr dN dU dDk dD dW dMd dFr) (X : HT K mg B CM CT C1 C2 C3 fIM fIT CH fHI fHF dIM dIT dHI dHF) :
    FnOk P w K mg base (L2.CX P w) 4 f fd ["self", "most"] (spHI CH CM) := by
  have GU : FnOk P w K mg base CX0 2 fU dU ["value", "most"] spUpTo := ok_upto T.U T.N T.bN T.gN T.m_isinstance T.m_int T.m_bool
  have GM : FnOk P w K mg base CX0 1 fIM dIM ["self", "value"] (spInitM K CM) := ok_initM X.eM.FI
  obtain ⟨tkM, hM⟩ := X.lim
  refine F.okX scHI (fun vs H Q E h => ?_) (fun cdv A outer s H vs Q E hr h => ?_)
  · obtain ⟨x, dx, v, d, rfl, _⟩ := h
    rfl
  · obtain ⟨x, dx, v, d, rfl, hx, hd, q1, q2⟩ := h
    refine ⟨_, (pss_cons (ps_if (pt_not (pt_val (pe_call GU (hr.mono (by omega)) (by rfl) T.gU T.U.kp T.bU .nil pass0 (pa_cons (pv 1) (pa_cons (pe_glob (v := .int 1000000) rfl hM ⟨_, rfl⟩) pa_nil))))) (pss_one (ps_raise rfl (takes_of rfl rfl rfl rfl) (pmk_oex X.eM.o X.eM.iC X.eM.tI GM (hr.mono (by decide)) X.eM.bI .nil pass0 (by rfl) X.eM.gC (pa_cons (pv 1) pa_nil)))) pss_nil)
      (pss_one (ps_fld (pv 0) (pv 1) rfl))), ?_⟩
    refine ⟨_, rfl, v, d, _, rfl, hd, _, rfl, ?_⟩
    by_cases c : numOk 1000000 d = true
    · refine iteF2 (by rw [c]; rfl) ?_
      exact ⟨_, rfl, _, rfl, x, CH, dx, _, rfl, hx, X.cl, X.nM, by decide, q1 c⟩
    · have c := Bool.eq_false_iff.mpr c
      refine iteT2 (by rw [c]; rfl) ?_
      refine ⟨_, rfl, by show 1 ≤ 1000; decide, fun a na => ⟨a, v, rfl, X.eM.o, X.eM.noT, upd_same, fun dx' nx ne => ⟨rfl, dx', [("value", v)], upd_same, ?_, ?_, ?_⟩⟩⟩
      · rw [upd_ne ne, upd_same]
      · rw [upd_ne ne] at nx
        exact nx
      · exact raised (q2 c) na nx ne
def spHF (CH CM CT : Addr) : Sp := fun vs H Q E => ∃ (x dx : Addr) (v : V) (d : PyData) (m : Int), vs = [.ref x, v] ∧ H x = some (.ins CH dx [("most", .int m)]) ∧ Dq H v d ∧
  (numOk 1000000 d = false → ∀ dd H', Same H H' → H' dd = some (.xd [("value", v)]) → E (.ref CM) (some dd) H') ∧
  (∀ n, d = .int n → numOk 1000000 d = true → m < n → ∀ dd H', Same H H' → H' dd = some (.xd [("number", v)]) → E (.ref CT) (some dd) H') ∧
  (∀ n, d = .int n → numOk 1000000 d = true → n ≤ m → Q (.int (m - n)) H)
theorem numOk_int {m : Int} {d : PyData} (h : numOk m d = true) : ∃ n, d = .int n ∧ 0 ≤ n ∧ n ≤ m := by
  cases d with
  | int n =>
    have h : (decide (0 ≤ n) && decide (n ≤ m)) = true := h
    rw [Bool.and_eq_true, decide_eq_true_eq, decide_eq_true_eq] at h
    exact ⟨n, rfl, h⟩
  | _ => cases h
theorem ok_hf {f fN fU fDk fD fW fMd fFr : Addr} {fd dN dU dDk dD dW dMd dFr : FuncData} {B CM CT C1 C2 C3 fIM fIT CH fHI fHF : Addr} {dIM dIT dHI dHF : FuncData} (F : Fun K "free" "Hand.free" sFree f fd) (T : Tx K mg fN fU fDk fD fW fMd fFr dN dU dDk dD dW dMd dFr) (X : HT K mg B CM CT C1 C2 C3 fIM fIT CH fHI fHF dIM dIT dHI dHF) :
    FnOk P w K mg base (L2.CX P w) 4 f fd ["self", "number"] (spHF CH CM CT) := by
  have GU : FnOk P w K mg base CX0 2 fU dU ["value", "most"] spUpTo := ok_upto T.U T.N T.bN T.gN T.m_isinstance T.m_int T.m_bool
  have GM : FnOk P w K mg base CX0 1 fIM dIM ["self", "value"] (spInitM K CM) := ok_initM X.eM.FI
  have GT : FnOk P w K mg base CX0 1 fIT dIT ["self", "number"] (spInitT K CT) := ok_initT X.eT.FI
  obtain ⟨tkM, hM⟩ := X.lim
  refine F.okX scHF (fun vs H Q E h => ?_) (fun cdv A outer s H vs Q E hr h => ?_)
  · obtain ⟨x, dx, v, d, m, rfl, _⟩ := h
    rfl
  · obtain ⟨x, dx, v, d, m, rfl, hx, hd, q1, q2, q3⟩ := h
    refine ⟨_, (pss_cons (ps_if (pt_not (pt_val (pe_call GU (hr.mono (by omega)) (by rfl) T.gU T.U.kp T.bU .nil pass0 (pa_cons (pv 1) (pa_cons (pe_glob (v := .int 1000000) rfl hM ⟨_, rfl⟩) pa_nil))))) (pss_one (ps_raise rfl (takes_of rfl rfl rfl rfl) (pmk_oex X.eM.o X.eM.iC X.eM.tI GM (hr.mono (by decide)) X.eM.bI .nil pass0 (by rfl) X.eM.gC (pa_cons (pv 1) pa_nil)))) pss_nil)
      (pss_cons (ps_if (pt_cmpR op_gt (pv 1) (pe_fld (pv 0) rfl) (nomark _)) (pss_one (ps_raise rfl (takes_of rfl rfl rfl rfl) (pmk_oex X.eT.o X.eT.iC X.eT.tI GT (hr.mono (by decide)) X.eT.bI .nil pass0 (by rfl) X.eT.gC (pa_cons (pv 1) pa_nil)))) pss_nil)
      (pss_one (ps_ret (pe_op op_sub (pe_fld (pv 0) rfl) (pv 1)))))), ?_⟩
    refine ⟨_, rfl, v, d, _, rfl, hd, _, rfl, ?_⟩
    by_cases c : numOk 1000000 d = true
    · refine iteF2 (by rw [c]; rfl) ?_
      obtain ⟨n, rfl, n0, n1⟩ := numOk_int c
      cases hd
      refine ⟨_, rfl, _, rfl, x, CH, dx, _, .int m, rfl, hx, X.cl, X.nM, rfl, n, m, rfl, rfl, _, rfl, ite2 (fun e => ?_) (fun e => ?_)⟩
      · have e : m < n := of_decide_eq_true e
        refine ⟨_, rfl, by show 1 ≤ 1000; decide, fun a na => ⟨a, .int n, rfl, X.eT.o, X.eT.noT, upd_same, fun dx' nx ne => ⟨rfl, dx', [("number", .int n)], upd_same, ?_, ?_, ?_⟩⟩⟩
        · rw [upd_ne ne, upd_same]
        · rw [upd_ne ne] at nx
          exact nx
        · exact raised (q2 n rfl c e) na nx ne
      · have e : ¬ m < n := fun z => e (decide_eq_true z)
        exact ⟨_, rfl, x, CH, dx, _, .int m, rfl, hx, X.cl, X.nM, rfl, _, rfl, m, n, rfl, rfl, q3 n rfl c (by omega)⟩
    · have c := Bool.eq_false_iff.mpr c
      refine iteT2 (by rw [c]; rfl) ?_
      refine ⟨_, rfl, by show 1 ≤ 1000; decide, fun a na => ⟨a, v, rfl, X.eM.o, X.eM.noT, upd_same, fun dx' nx ne => ⟨rfl, dx', [("value", v)], upd_same, ?_, ?_, ?_⟩⟩⟩
      · rw [upd_ne ne, upd_same]
      · rw [upd_ne ne] at nx
        exact nx
      · exact raised (q1 c) na nx ne
end
end DD
namespace DD
open PySem PySem.Spec PyProof.Rows L2
def rReprQ : List V → Hp → VK → Prop := fun xs H Q => ∃ v d, xs = [v] ∧ Dq H v d ∧ Gd d ∧ Q (.str d.shown) H
abbrev NMd : List Str := ["_law_most", "e"]
abbrev NFr : List Str := ["_law_hand", "_law_number", "e", "_law_flags"]
theorem scMade : FnScope NMd ["_law_most"] (defScope sMade) := ⟨rfl, rfl, rfl, by decide +kernel, rfl, by decide +kernel, by decide +kernel⟩
theorem scLFree : FnScope NFr ["_law_hand", "_law_number"] (defScope sLFree) := ⟨rfl, rfl, rfl, by decide +kernel, rfl, by decide +kernel, by decide +kernel⟩
section
variable {P : Program} {w : World} {K : PySem.W.Frag} {mg : Str → Option Value} {base : Heap}
def spR (sp : Sp) : Sp := fun vs H Q E => sp (vs ++ []) H Q E
abbrev tIs (K : PySem.W.Frag) (cls : Value) (d : Option Addr) (a : Addr) (i : Nat) (c : V) : TE := tCB (rIsD K cls d a) (tCons (tVar i) (tCons (tC c) tNil))
def tMadeSuite (K : PySem.W.Frag) (CM CT C1 C2 : Addr) : Addr → Value → Option Addr → TS := fun a cls d =>
  tIfS (tAnd (tB (tIs K cls d a 1 (.ref CM))) (tAnd (tB (tIs K cls d a 1 (.ty "ValueError")))
      (tNot (tB (tCB (rIsD K cls d a) (tCons (tVar 1) (tCons (tTup (tCons (tC (.ref C1)) (tCons (tC (.ref C2)) (tCons (tC (.ref CT)) tNil)))) tNil)))))))
    (tRet (tLst (tCons (tC (.str "most")) (tCons (tCB rReprQ (tCons (tXf a cls d CM "value" (tVar 1)) tNil)) tNil)))) tNext
def spMade (CH : Addr) : Sp := fun vs H Q _ => ∃ (v : V) (d : PyData), vs = [v] ∧ Dq H v d ∧ Gd d ∧
  (numOk 1000000 d = true → ∀ x dx H', Same H H' → H x = none → H' x = some (.ins CH dx [("most", v)]) → Q (.ref x) H') ∧
  (numOk 1000000 d = false → ∀ p H', Same H H' → H' p = some (.lst [.str "most", .str d.shown]) → Q (.ref p) H')
theorem ok_made {f fN fU fDk fD fW fMd fFr : Addr} {fd dN dU dDk dD dW dMd dFr : FuncData} {B CM CT C1 C2 C3 fIM fIT CH fHI fHF : Addr} {dIM dIT dHI dHF : FuncData} (F : Fun K "_law_made" "_law_made" sMade f fd) (T : Tx K mg fN fU fDk fD fW fMd fFr dN dU dDk dD dW dMd dFr) (X : HT K mg B CM CT C1 C2 C3 fIM fIT CH fHI fHF dIM dIT dHI dHF) :
    FnG P w K mg base 6 f fd ["_law_most"] (spMade CH) := by
  have GH : FnR P w K mg base (L2.CX P w) 4 fHI (spR (spHI CH CM)) := (ok_hi X.FI T X).raw X.bI .nil
  refine fnG_of F scMade (fun vs H Q E h => ?_) (fun cdv A hgu outer s H vs Q E hr h => ?_)
  · obtain ⟨v, d, rfl, _⟩ := h
    rfl
  · obtain ⟨v, d, rfl, hd, gd, q1, q2⟩ := h
    have hu : (A.deeper (envOfC "_law_made" (defScope sMade) s.heap.objs.size f cdv)).units + 66 < cLine := by
      have := hr.un
      omega
    refine ⟨_, pss_cons (ps_try_as (i := 1) (tb := fun W => tRet (tMakeRS CH (spR (spHI CH CM)) (WE W) (tCons (tVar 0) tNil))) (ts := tMadeSuite K CM CT C1 C2) (Wout := fun _ _ _ _ => False) rfl rfl scMade.nd rfl rfl ⟨rfl, by decide, Or.inl X.gB⟩ takes0
        (fun W pn xe tk _ => pss_one (ps_ret (by exact (pe_makeRS X.mkH GH (hr.mono (by decide)) rfl X.gH (fun σ => passAt tk σ) (by exact (pa_cons (pv 0) pa_nil))))))
        (fun a oe cls d pn hz hf => pss_one (ps_if (PW.pt (pw_and (pt_val (by exact (pe_callB (show CallR _ _ (rIsD K cls d a) from call_isD hz hf) (by rfl) T.m_isinstance (by decide +kernel) (pa_cons (pv 1) (pa_cons (pe_glob (v := .ref CM) rfl X.eM.gC rfl) pa_nil)))))
            (pw_and (pt_val (by exact (pe_callB (show CallR _ _ (rIsD K cls d a) from call_isD hz hf) (by rfl) T.m_isinstance (by decide +kernel) (pa_cons (pv 1) (pa_cons (pe_bltn (v := .ty "ValueError") (by rfl) T.m_ValueError PyProof.Rows.Boot.«ValueError» rfl) pa_nil)))))
            (pw_and1 (pt_not (pt_val (by exact (pe_callB (show CallR _ _ (rIsD K cls d a) from call_isD hz hf) (by rfl) T.m_isinstance (by decide +kernel) (pa_cons (pv 1) (pa_cons (pe_tup (pa_cons (pe_glob (v := .ref C1) rfl X.g1 rfl) (pa_cons (pe_glob (v := .ref C2) rfl X.g2 rfl) (pa_cons (pe_glob (v := .ref CT) rfl X.eT.gC rfl) pa_nil)))) pa_nil))))))))))
          (pss_one (ps_ret (pe_lst (pa_cons pe_str (pa_cons (by exact (pe_callB (show CallR _ _ rReprQ from call_reprQ hgu hu) (by rfl) T.m_repr (by decide +kernel) (pa_cons (pe_xf X.xfM X.eM.noT hz hf (pv 1)) pa_nil))) pa_nil))))) pss_nil)))
      (pss_one (ps_ret (pe_lst (pa_cons pe_str pa_nil)))), ?_⟩
    refine ⟨v, rfl, fun x dx nx ndx nex => ?_⟩
    have hx0 : (upd (upd H dx (.own x)) x (.ins CH dx [])) x = some (.ins CH dx []) := upd_same
    have s0 : Same H (upd (upd H dx (.own x)) x (.ins CH dx [])) := fun b o e => by
      rw [upd_ne (ne_of_none e nx), upd_ne (ne_of_none e ndx)]
      exact e
    refine ⟨x, dx, v, d, rfl, hx0, Dq.same s0 _ _ hd, fun c => ⟨rfl, q1 c x dx _ (fun b o e => ?_) nx upd_same⟩, fun c dd H' s1 hdd => ?_⟩
    · rw [upd_ne (ne_of_none e nx)]
      exact s0 b o e
    · have s01 := s0.trans s1
      refine ⟨true, X.exM, fun _ a na => ?_, fun e => Bool.noConfusion e⟩
      have k1 : PySem.W.kitOne K (.ref CM) (.ref CM) = some true := if_pos (beq_self_eq_true _)
      refine ⟨.ref a, rfl, .ref CM, CM, dd, _, true, rfl, rfl, rfl, hdd, X.isM, .inl ⟨.ref CM, fun u h => h, k1⟩, true, rfl, iteT ?_⟩
      refine ⟨.ref a, rfl, .ty "ValueError", CM, dd, _, true, rfl, rfl, rfl, hdd, X.isM, .inl ⟨.type "ValueError", fun u h => h, X.vM⟩, true, rfl, iteT ?_⟩
      refine ⟨.ref a, rfl, by show 3 ≤ sizeLine; decide, fun p np => ?_⟩
      have s2 : Same H' (upd H' p (.tup [.ref C1, .ref C2, .ref CT])) := same_new np
      refine ⟨.ref p, CM, dd, _, false, rfl, rfl, rfl, s2 _ _ hdd, X.isM, .inr ⟨p, [C1, C2, CT], rfl, SqT.of upd_same, X.aM3⟩, false, rfl, iteT ?_⟩
      refine ⟨.ref a, rfl, rfl, rfl, dd, _, v, rfl, s2 _ _ hdd, by simp [List.lookup], v, d, rfl, Dq.same (s01.trans s2) _ _ hd, gd, by show 2 ≤ sizeLine; decide, fun p2 n2 => q2 c p2 _ (s01.trans (s2.trans (same_new n2))) upd_same⟩
end
end DD
namespace DD
open PySem PySem.Spec PyProof.Rows L2
section
variable {P : Program} {w : World} {K : PySem.W.Frag} {mg : Str → Option Value} {base : Heap}
def tFreeSuite (K : PySem.W.Frag) (CM CT C1 C3 : Addr) : Addr → Value → Option Addr → TS := fun a cls d =>
  tSeq (tAsg (tLst (tCons (tIs K cls d a 2 (.ref CM)) (tCons (tIs K cls d a 2 (.ref CT)) tNil))) (gName 3))
  (tIfS (tAnd (tTest (tOp rEq (tBM K "list" (rCntB K) (tVar 3) (tCons (tC (.bl true)) tNil)) (tC (.int 1)))) (tAnd (tB (tIs K cls d a 2 (.ty "ValueError")))
      (tNot (tB (tCB (rIsD K cls d a) (tCons (tVar 2) (tCons (tTup (tCons (tC (.ref C1)) (tCons (tC (.ref C3)) tNil))) tNil)))))))
    (tRet (tIf (tB (tOp (rIxL K) (tVar 3) (tC (.int 0)))) (tLst (tCons (tC (.str "most")) (tCons (tCB rReprQ (tCons (tXf a cls d CM "value" (tVar 2)) tNil)) tNil)))
      (tLst (tCons (tC (.str "full")) (tCons (tCB rReprQ (tCons (tXf a cls d CT "number" (tVar 2)) tNil)) tNil))))) tNext)
theorem look_free {v : V} : List.lookup ("free" : Str) [(("most" : Str), v)] = none := by
  show (match (("free" : Str) == ("most" : Str)) with | true => some v | false => none) = none
  rw [show (("free" : Str) == ("most" : Str)) = false by decide +kernel]
def spLFree (CH : Addr) : Sp := fun vs H Q _ => ∃ (x dx : Addr) (v : V) (d : PyData) (m : Int), vs = [.ref x, v] ∧ H x = some (.ins CH dx [("most", .int m)]) ∧ Dq H v d ∧ Gd d ∧
  (numOk 1000000 d = false → ∀ p H', Same H H' → H' p = some (.lst [.str "most", .str d.shown]) → Q (.ref p) H') ∧
  (∀ n, d = .int n → numOk 1000000 d = true → m < n → ∀ p H', Same H H' → H' p = some (.lst [.str "full", .str d.shown]) → Q (.ref p) H') ∧
  (∀ n, d = .int n → numOk 1000000 d = true → n ≤ m → Q (.int (m - n)) H)
theorem ok_lfree {f fN fU fDk fD fW fMd fFr : Addr} {fd dN dU dDk dD dW dMd dFr : FuncData} {B CM CT C1 C2 C3 fIM fIT CH fHI fHF : Addr} {dIM dIT dHI dHF : FuncData} (F : Fun K "_law_free" "_law_free" sLFree f fd) (T : Tx K mg fN fU fDk fD fW fMd fFr dN dU dDk dD dW dMd dFr) (X : HT K mg B CM CT C1 C2 C3 fIM fIT CH fHI fHF dIM dIT dHI dHF) :
    FnG P w K mg base 6 f fd ["_law_hand", "_law_number"] (spLFree CH) := by
  have GH : FnR P w K mg base (L2.CX P w) 4 fHF (spR (spHF CH CM CT)) := (ok_hf X.FF T X).raw X.bF .nil
  refine fnG_of F scLFree (fun vs H Q E h => ?_) (fun cdv A hgu outer s H vs Q E hr h => ?_)
  · obtain ⟨x, dx, v, d, m, rfl, _⟩ := h
    rfl
  · obtain ⟨x, dx, v, d, m, rfl, hx, hd, gd, q1, q2, q3⟩ := h
    have hu : (A.deeper (envOfC "_law_free" (defScope sLFree) s.heap.objs.size f cdv)).units + 66 < cLine := by
      have := hr.un
      omega
    refine ⟨_, pss_cons (ps_try_as (i := 2) (tb := fun W => tRet (tMethRS CH "free" (spR (spHF CH CM CT)) (WE W) (tVar 0) (tCons (tVar 1) tNil))) (ts := tFreeSuite K CM CT C1 C3) (Wout := fun _ _ _ _ => False) rfl rfl scLFree.nd rfl rfl ⟨rfl, by decide, Or.inl X.gB⟩ takes0
        (fun W pn xe tk _ => pss_one (ps_ret (by exact (pe_methRS (pv 0) X.cl X.mF GH (hr.mono (by decide)) (fun σ => passAt tk σ) (by exact (pa_cons (pv 1) pa_nil))))))
        (fun a oe cls d pn hz hf => pss_cons (ps_set (i := 3) scLFree.nd rfl (.inl rfl) (pe_lst (pa_cons (by exact (pe_callB (show CallR _ _ (rIsD K cls d a) from call_isD hz hf) (by rfl) T.m_isinstance (by decide +kernel) (pa_cons (pv 2) (pa_cons (pe_glob (v := .ref CM) rfl X.eM.gC rfl) pa_nil))))
              (pa_cons (by exact (pe_callB (show CallR _ _ (rIsD K cls d a) from call_isD hz hf) (by rfl) T.m_isinstance (by decide +kernel) (pa_cons (pv 2) (pa_cons (pe_glob (v := .ref CT) rfl X.eT.gC rfl) pa_nil)))) pa_nil))))
          (pss_one (ps_if (PW.pt (pw_and (pt_cmpR op_eq (pe_bm PySem.F.plainAttrs_list PySem.F.slot_list_count PySem.F.type_list_count mt_countB (pv 3) (pa_cons pe_bl pa_nil)) pe_int (nomark _))
            (pw_and (pt_val (by exact (pe_callB (show CallR _ _ (rIsD K cls d a) from call_isD hz hf) (by rfl) T.m_isinstance (by decide +kernel) (pa_cons (pv 2) (pa_cons (pe_bltn (v := .ty "ValueError") (by rfl) T.m_ValueError PyProof.Rows.Boot.«ValueError» rfl) pa_nil)))))
            (pw_and1 (pt_not (pt_val (by exact (pe_callB (show CallR _ _ (rIsD K cls d a) from call_isD hz hf) (by rfl) T.m_isinstance (by decide +kernel) (pa_cons (pv 2) (pa_cons (pe_tup (pa_cons (pe_glob (v := .ref C1) rfl X.g1 rfl) (pa_cons (pe_glob (v := .ref C3) rfl X.g3 rfl) pa_nil))) pa_nil))))))))))
          (pss_one (ps_ret (pe_ifExp (pt_val (pe_ix (show IxR _ (rIxL K) from ix_list) (pv 3) pe_int (fun _ _ => rfl)))
            (pe_lst (pa_cons pe_str (pa_cons (by exact (pe_callB (show CallR _ _ rReprQ from call_reprQ hgu hu) (by rfl) T.m_repr (by decide +kernel) (pa_cons (pe_xf X.xfM X.eM.noT hz hf (pv 2)) pa_nil))) pa_nil)))
            (pe_lst (pa_cons pe_str (pa_cons (by exact (pe_callB (show CallR _ _ rReprQ from call_reprQ hgu hu) (by rfl) T.m_repr (by decide +kernel) (pa_cons (pe_xf X.xfT X.eT.noT hz hf (pv 2)) pa_nil))) pa_nil)))))) pss_nil))))
      (pss_one (ps_ret (pe_lst (pa_cons pe_str pa_nil)))), ?_⟩
    refine ⟨.ref x, rfl, x, dx, _, rfl, hx, look_free, v, rfl, ?_⟩
    have k1 : PySem.W.kitOne K (.ref CM) (.ref CM) = some true := if_pos (beq_self_eq_true _)
    have k2 : PySem.W.kitOne K (.ref CT) (.ref CT) = some true := if_pos (beq_self_eq_true _)
    refine ⟨x, dx, v, d, m, rfl, hx, hd, fun c dd H' s1 hdd => ?_, fun n e c hn dd H' s1 hdd => ?_, fun n e c hn => q3 n e c hn⟩
    · refine ⟨true, X.exM, fun _ a na => ?_, fun e => Bool.noConfusion e⟩
      refine ⟨.ref a, rfl, .ref CM, CM, dd, _, true, rfl, rfl, rfl, hdd, X.isM, .inl ⟨.ref CM, fun u h => h, k1⟩, ?_⟩
      refine ⟨.ref a, rfl, .ref CT, CM, dd, _, false, rfl, rfl, rfl, hdd, X.isM, .inl ⟨.ref CT, fun u h => h, X.mt⟩, by show 2 ≤ sizeLine; decide, fun l nl => ?_⟩
      have sl : Same H' (upd H' l (.lst [.bl true, .bl false])) := same_new nl
      have hl : (upd H' l (.lst [.bl true, .bl false])) l = some (.lst [.bl true, .bl false]) := upd_same
      generalize upd H' l (.lst [.bl true, .bl false]) = H2 at sl hl ⊢
      have hdd2 := sl _ _ hdd
      refine ⟨.ref l, rfl, .inl ⟨rfl, _, SqL.of hl⟩, l, [true, false], true, rfl, rfl, SqL.of hl, rfl, true, rfl, iteT ?_⟩
      refine ⟨.ref a, rfl, .ty "ValueError", CM, dd, _, true, rfl, rfl, rfl, hdd2, X.isM, .inl ⟨.type "ValueError", fun u h => h, X.vM⟩, true, rfl, iteT ?_⟩
      refine ⟨.ref a, rfl, by show 2 ≤ sizeLine; decide, fun p np => ?_⟩
      have s2 : Same H2 (upd H2 p (.tup [.ref C1, .ref C3])) := same_new np
      refine ⟨.ref p, CM, dd, _, false, rfl, rfl, rfl, s2 _ _ hdd2, X.isM, .inr ⟨p, [C1, C3], rfl, SqT.of upd_same, X.aM2⟩, false, rfl, iteT ?_⟩
      have s03 := s1.trans (sl.trans s2)
      refine ⟨.ref l, rfl, l, _, 0, .bl true, rfl, rfl, SqL.of (s2 _ _ hl), atI_nat (j := 0) rfl, true, rfl, iteT ?_⟩
      refine ⟨.ref a, rfl, rfl, rfl, dd, _, v, rfl, s2 _ _ hdd2, by simp [List.lookup], v, d, rfl, Dq.same s03 _ _ hd, gd, by show 2 ≤ sizeLine; decide, fun p2 n2 => q1 c p2 _ (s03.trans (same_new n2)) upd_same⟩
    · refine ⟨true, X.exT, fun _ a na => ?_, fun e => Bool.noConfusion e⟩
      refine ⟨.ref a, rfl, .ref CM, CT, dd, _, false, rfl, rfl, rfl, hdd, X.isT, .inl ⟨.ref CM, fun u h => h, X.tm⟩, ?_⟩
      refine ⟨.ref a, rfl, .ref CT, CT, dd, _, true, rfl, rfl, rfl, hdd, X.isT, .inl ⟨.ref CT, fun u h => h, k2⟩, by show 2 ≤ sizeLine; decide, fun l nl => ?_⟩
      have sl : Same H' (upd H' l (.lst [.bl false, .bl true])) := same_new nl
      have hl : (upd H' l (.lst [.bl false, .bl true])) l = some (.lst [.bl false, .bl true]) := upd_same
      generalize upd H' l (.lst [.bl false, .bl true]) = H2 at sl hl ⊢
      have hdd2 := sl _ _ hdd
      refine ⟨.ref l, rfl, .inl ⟨rfl, _, SqL.of hl⟩, l, [false, true], true, rfl, rfl, SqL.of hl, rfl, true, rfl, iteT ?_⟩
      refine ⟨.ref a, rfl, .ty "ValueError", CT, dd, _, true, rfl, rfl, rfl, hdd2, X.isT, .inl ⟨.type "ValueError", fun u h => h, X.vT⟩, true, rfl, iteT ?_⟩
      refine ⟨.ref a, rfl, by show 2 ≤ sizeLine; decide, fun p np => ?_⟩
      have s2 : Same H2 (upd H2 p (.tup [.ref C1, .ref C3])) := same_new np
      refine ⟨.ref p, CT, dd, _, false, rfl, rfl, rfl, s2 _ _ hdd2, X.isT, .inr ⟨p, [C1, C3], rfl, SqT.of upd_same, X.aT2⟩, false, rfl, iteT ?_⟩
      have s03 := s1.trans (sl.trans s2)
      refine ⟨.ref l, rfl, l, _, 0, .bl false, rfl, rfl, SqL.of (s2 _ _ hl), atI_nat (j := 0) rfl, false, rfl, iteF ?_⟩
      refine ⟨.ref a, rfl, rfl, rfl, dd, _, v, rfl, s2 _ _ hdd2, by simp [List.lookup], v, d, rfl, Dq.same s03 _ _ hd, gd, by show 2 ≤ sizeLine; decide, fun p2 n2 => q2 n e c hn p2 _ (s03.trans (same_new n2)) upd_same⟩
end
end DD
namespace DD
open PySem PySem.Spec PyProof.Rows L2
abbrev NL : List Str := ["_law_script", "_law_deck_here", "_law_odd", "_law_turn", "_law_most", "_law_hand", "_law_some", "_law_number", "_law_due"]
theorem scLaw : FnScope NL ["_law_script"] (defScope sLaw) := ⟨rfl, rfl, rfl, by decide +kernel, rfl, by decide +kernel, by decide +kernel⟩
/-! ### the heap without the deck -/
def Wd (dk c : Addr) (H : Hp) : Hp := fun b => if b = dk ∨ b = c then none else H b
theorem wd_some {dk c b : Addr} {H : Hp} {o : HO} (h : Wd dk c H b = some o) : H b = some o ∧ b ≠ dk ∧ b ≠ c := by
  unfold Wd at h
  by_cases e : b = dk ∨ b = c
  · rw [if_pos e] at h
    cases h
  · rw [if_neg e] at h
    exact ⟨h, fun z => e (.inl z), fun z => e (.inr z)⟩
theorem wd_of {dk c b : Addr} {H : Hp} {o : HO} (h : H b = some o) (h1 : b ≠ dk) (h2 : b ≠ c) : Wd dk c H b = some o := by
  unfold Wd
  rw [if_neg (fun z => z.elim h1 h2)]
  exact h
theorem wd_in {dk c : Addr} {H : Hp} : Same (Wd dk c H) H := fun b o e => (wd_some e).1
theorem wd_kp {dk c : Addr} {H H' : Hp} (k : Kp2 dk c H H') : Same (Wd dk c H) (Wd dk c H') := fun b o e => by
  obtain ⟨h, h1, h2⟩ := wd_some e
  exact wd_of (k b o h1 h2 h) h1 h2
theorem Dq.wd {dk c : Addr} {H : Hp} {v : V} {d : PyData} (h : Dq (Wd dk c H) v d) : Dq H v d := Dq.same wd_in _ _ h
/-- what isinstance asks of a class -/
structure InsTy (K : PySem.W.Frag) (C : Addr) : Prop where
  ha : PySem.W.findIn K (.ref C) "__class__" = some (some (.builtin "object.__class__"))
  hn : PySem.W.specialIn K (.builtin "object.__class__") "__get__" = some (some (.builtin "getset_descriptor.__get__"))
  htk : PySem.W.takesIn K (.builtin "object.__class__") = some true
  hm : PySem.W.mroIn K C (.type "object") = some true
  nl : PySem.W.kitOne K (.ref C) (.type "list") = some false
/-! ### the values -/
def gdB (d : PyData) : Bool := d.showable && decide (d.depth ≤ 64) && decide (d.shown.length ≤ 1000) && PyData.strOk d.shown && (!d.hasDict || noL d)
structure Gp (d : PyData) : Prop where
  g : Gd d
  s : PyData.strOk d.shown = true
  l : d.shown.length ≤ 1000
theorem gp_of {d : PyData} (h : gdB d = true) : Gp d := by
  unfold gdB at h
  simp only [Bool.and_eq_true, decide_eq_true_eq, Bool.or_eq_true, Bool.not_eq_true'] at h
  obtain ⟨⟨⟨⟨h1, h2⟩, h3⟩, h4⟩, h5⟩ := h
  exact ⟨⟨h1, h2, Nat.le_trans h3 (Nat.le_of_lt (len_lt (Nat.le_refl _))), fun z => h5.elim (fun y => by rw [y] at z; cases z) id⟩, h4, h3⟩
theorem log_big {n : Nat} (h : n < 10 ^ 8) : n.log2 < 1920 := by
  by_cases h0 : n = 0
  · subst h0; decide
  · exact Nat.lt_of_lt_of_le ((Nat.log2_lt h0 (k := 30)).mpr (Nat.lt_trans h (by decide))) (by decide)
theorem gp_int {n : Int} (h0 : 0 ≤ n) (h : n < 100000000) : Gp (.int n) := by
  have e : (PyData.int n).shown = numT n := PyData.shown_int n
  have hl : (numT n).length ≤ 1000 := by
    have z := int_text_length_le10 (a := n) (k := 8) (by decide) (by omega)
    unfold numT
    rw [PySem.ofString_length]
    omega
  refine ⟨⟨decide_eq_true (log_big (by omega)), Nat.zero_le _, by rw [e]; exact Nat.le_of_lt (len_lt hl), fun z => by cases z⟩, ?_, by rw [e]; exact hl⟩
  rw [e]
  unfold PyData.strOk
  rw [← Array.all_toList, List.all_eq_true]
  intro c hc
  have hc : c ∈ TL.tl (numT n) := hc
  rw [tl_numT h0] at hc
  have := TL.numL_digits _ c hc
  exact decide_eq_true (by omega)
theorem gd_strs {a b : Str} (ha : PyData.strOk a = true) (hb : PyData.strOk b = true) (la : a.length ≤ 1000) (lb : b.length ≤ 1000) : Gd (.list [.str a, .str b]) := by
  refine ⟨rfl, by show 1 ≤ 64; decide, ?_, fun z => by cases z⟩
  have hl : (PyData.list [.str a, .str b]).canLay0 = true := by
    show (PyData.strOk a && (PyData.strOk b && true)) = true
    rw [ha, hb]
    rfl
  have h2 := PyData.shown_le 13 (by decide) (.list [.str a, .str b]) (PyData.leavesShort_of_canLay0 13 _ hl rfl)
  have h3 : (PyData.list [.str a, .str b]).weight ≤ 2002 := by
    show a.cps.size + 1 + (b.cps.size + 1 + 0) ≤ 2002
    have e1 : a.length = a.cps.size := rfl
    have e2 : b.length = b.cps.size := rfl
    omega
  rw [sizeLine_eq]
  omega
theorem shp_strs {a b : Str} (ha : PyData.strOk a = true) (hb : PyData.strOk b = true) : SeqAt.shaped (.list [.str a, .str b]) = true := by
  show ((PyData.strOk a && (PyData.strOk b && true)) && decide ((PyData.list [.str a, .str b]).depth ≤ 64)) = true
  rw [ha, hb, show (PyData.list [.str a, .str b]).depth = 1 from rfl]
  rfl
theorem eqv_strs (a b : Str) : PyData.eqv (.list [.str a, .str b]) (.list [.str a, .str b]) = true := by
  simp [PyData.eqv, PyData.eqvAll]
def oddD : List PyData := [.none, .bool true, .bool false, .int (-1), .int (10 ^ 6 + 1), .int (10 ^ 39), .str "5", .str "", .tuple [], .list [], .dict [], .tuple [.int 3]]
theorem odd_ok : ∀ d ∈ oddD, Gp d ∧ numOk 1000000 d = false := fun d hd => by
  have h := List.all_eq_true.mp (show oddD.all (fun d => gdB d && !numOk 1000000 d) = true by decide +kernel) d hd
  rw [Bool.and_eq_true, Bool.not_eq_true'] at h
  exact ⟨gp_of h.1, h.2⟩
/-- what is due -/
def dueD (m : Int) (d : PyData) : PyData := if numOk 1000000 d = true then (match d with | .int n => if n ≤ m then .int (m - n) else .list [.str "full", .str d.shown] | _ => .none) else .list [.str "most", .str d.shown]
theorem due_no {m : Int} {d : PyData} (c : numOk 1000000 d = false) : dueD m d = .list [.str "most", .str d.shown] := by
  unfold dueD
  rw [c]
  rfl
theorem due_le {m n : Int} (c : numOk 1000000 (.int n) = true) (h : n ≤ m) : dueD m (.int n) = .int (m - n) := by
  unfold dueD
  rw [if_pos c]
  exact if_pos h
theorem due_gt {m n : Int} (c : numOk 1000000 (.int n) = true) (h : m < n) : dueD m (.int n) = .list [.str "full", .str (PyData.int n).shown] := by
  unfold dueD
  rw [if_pos c]
  exact if_neg (by omega)
theorem due_gd {m : Int} {d : PyData} (g : Gp d) (hm : 0 ≤ m) (hm2 : m ≤ 1000000) : Gd (dueD m d) := by
  by_cases c : numOk 1000000 d = true
  · obtain ⟨n, rfl, n0, n1⟩ := numOk_int c
    by_cases h : n ≤ m
    · rw [due_le c h]
      exact (gp_int (by omega) (by omega)).g
    · rw [due_gt c (by omega)]
      exact gd_strs (by decide +kernel) g.s (by decide +kernel) g.l
  · rw [due_no (Bool.eq_false_iff.mpr c)]
    exact gd_strs (by decide +kernel) g.s (by decide +kernel) g.l
theorem free_due {CH x dx : Addr} {H : Hp} {v : V} {d : PyData} {m : Int} {Q : VK} {E : XK} (hx : H x = some (.ins CH dx [("most", .int m)])) (hd : Dq H v d) (g : Gd d) (q : ∀ r H', Same H H' → Dq H' r (dueD m d) → Q r H') : spLFree CH [.ref x, v] H Q E :=
  ⟨x, dx, v, d, m, rfl, hx, hd, g, fun c p H' s h => q _ _ s (by rw [due_no c]; exact .lst h (.cons (.str _) (.cons (.str _) .nil))),
    fun n e c hn p H' s h => q _ _ s (by subst e; rw [due_gt c hn]; exact .lst h (.cons (.str _) (.cons (.str _) .nil))),
    fun n e c hn => q _ _ (Same.refl _) (by subst e; rw [due_le c hn]; exact .int _)⟩
theorem at_sp {sp : Sp} {vs : List V} {H : Hp} {Q : VK} {E : XK} (h : sp vs H Q E) : (fun vs H1 => sp (vs ++ []) H1 Q E) vs H := by
  show sp (vs ++ []) H Q E
  rw [List.append_nil]
  exact h
theorem at4 {a b c e : V} {r : Int} (h0 : 0 ≤ r) (h : r < 4) : ∃ v, atI [a, b, c, e] r = some v ∧ (v = a ∨ v = b ∨ v = c ∨ v = e) := by
  have z : r = 0 ∨ r = 1 ∨ r = 2 ∨ r = 3 := by omega
  rcases z with rfl | rfl | rfl | rfl
  · exact ⟨a, rfl, .inl rfl⟩
  · exact ⟨b, rfl, .inr (.inl rfl)⟩
  · exact ⟨c, rfl, .inr (.inr (.inl rfl))⟩
  · exact ⟨e, rfl, .inr (.inr (.inr rfl))⟩
theorem odd_at {H : Hp} {ov : List V} (h : DqAll H ov oddD) {r : Int} (h0 : 0 ≤ r) (h1 : r < 12) : ∃ v d, atI ov r = some v ∧ Dq H v d ∧ d ∈ oddD := by
  obtain ⟨j, rfl⟩ : ∃ j : Nat, r = (j : Int) := ⟨r.toNat, by omega⟩
  have hl := h.len
  have hj : j < ov.length := by
    rw [hl]
    show j < 12
    omega
  obtain ⟨d, hd, hq⟩ := h.get (List.getElem?_eq_getElem hj)
  exact ⟨_, d, atI_nat (List.getElem?_eq_getElem hj), hq, List.mem_of_getElem? hd⟩
section
variable {P : Program} {w : World} {K : PySem.W.Frag} {mg : Str → Option Value} {base : Heap}
def spLaw (K : PySem.W.Frag) : Sp := fun vs H Q _ => ∃ (a : Addr) (ns : List Int), vs = [.ref a] ∧ SqL K H a (ns.map V.int) ∧ ns.length ≤ 63 ∧ ∀ H', Q (.bl true) H'
set_option maxHeartbeats 1600000 in
theorem ok_law {f fN fU fDk fD fW fMd fFr : Addr} {fd dN dU dDk dD dW dMd dFr : FuncData} {B CM CT C1 C2 C3 fIM fIT CH fHI fHF : Addr} {dIM dIT dHI dHF : FuncData} (F : Fun K "law" "law" sLaw f fd) (T : Tx K mg fN fU fDk fD fW fMd fFr dN dU dDk dD dW dMd dFr) (X : HT K mg B CM CT C1 C2 C3 fIM fIT CH fHI fHF dIM dIT dHI dHF) (Y : InsTy K CH) :
    FnG P w K mg base 7 f fd ["_law_script"] (spLaw K) := by
  have GDk : FnOk P w K mg base CX0 1 fDk dDk ["_law_script"] (spDeck K) := ok_deck T.Dk T.m_abs
  have GD : FnOk P w K mg base CX0 1 fD dD ["_law_deck_here", "_law_many"] spDraw := ok_draw T.D T.m_len
  have GW : FnOk P w K mg base CX0 1 fW dW ["_law_value", "_law_low", "_law_high"] spLNum := ok_lnum T.W T.m_isinstance T.m_int T.m_bool
  have GMd : FnG P w K mg base 6 fMd dMd ["_law_most"] (spMade CH) := ok_made T.Md T X
  have GFr : FnG P w K mg base 6 fFr dFr ["_law_hand", "_law_number"] (spLFree CH) := ok_lfree T.Fr T X
  refine fnG_of F scLaw (fun vs H Q E h => ?_) (fun cdv A hgu outer s H vs Q E hr h => ?_)
  · obtain ⟨a, ns, rfl, _⟩ := h
    rfl
  · obtain ⟨a, ns, rfl, hS, hlen, q⟩ := h
    have hu : (A.deeper (envOfC "law" (defScope sLaw) s.heap.objs.size f cdv)).units + 66 < cLine := by
      have := hr.un
      omega
    have hu64 : (A.deeper (envOfC "law" (defScope sLaw) s.heap.objs.size f cdv)).units + 64 < cLine := by omega
    refine ⟨_, (pss_cons (ps_set (i := 1) scLaw.nd rfl (.inl rfl) (pe_call GDk (hr.mono (by omega)) (by rfl) T.gDk T.Dk.kp T.bDk .nil pass0 (pa_cons (pv 0) pa_nil)))
      (pss_cons (ps_set (i := 2) scLaw.nd rfl (.inl rfl) (pe_lst (pa_cons pe_non (pa_cons pe_bl (pa_cons pe_bl (pa_cons (pe_un un_neg pe_int) (pa_cons (pe_op op_add (pe_op op_pow pe_int pe_int) pe_int) (pa_cons (pe_op op_pow pe_int pe_int) (pa_cons pe_str (pa_cons pe_str (pa_cons (pe_tup pa_nil) (pa_cons (pe_lst pa_nil) (pa_cons pe_dnewK (pa_cons (pe_tup (pa_cons pe_int pa_nil)) pa_nil))))))))))))))
      (pss_cons (ps_for PassesOwn.never rfl (pi_range1 (by rfl) T.m_range (pa_cons pe_int pa_nil)) (pg_name (i := 3) scLaw.nd rfl (Or.inl rfl)) (pss_cons (ps_set (i := 4) scLaw.nd rfl (.inl rfl) (pe_ix (show IxR _ (rIxL K) from ix_list) (pe_lst (pa_cons pe_int (pa_cons (pe_op op_pow pe_int pe_int) (pa_cons (pe_call GD (hr.mono (by omega)) (by rfl) T.gD T.D.kp T.bD .nil pass0 (pa_cons (pv 1) (pa_cons (pe_op op_add (pe_op op_pow pe_int pe_int) pe_int) pa_nil))) (pa_cons (pe_ix (show IxR _ (rIxL K) from ix_list) (pv 2) (pe_call GD (hr.mono (by omega)) (by rfl) T.gD T.D.kp T.bD .nil pass0 (pa_cons (pv 1) (pa_cons pe_int pa_nil))) (fun _ _ => rfl)) pa_nil))))) (pe_call GD (hr.mono (by omega)) (by rfl) T.gD T.D.kp T.bD .nil pass0 (pa_cons (pv 1) (pa_cons pe_int pa_nil))) (fun _ _ => rfl)))
      (pss_cons (ps_set (i := 5) scLaw.nd rfl (.inl rfl) (pe_callG GMd hgu (hr.mono (by omega)) (by rfl) T.gMd T.Md.kp T.bMd (pa_cons (pv 4) pa_nil)))
      (pss_one (ps_if (pt_not (pt_val (pe_call GW (hr.mono (by omega)) (by rfl) T.gW T.W.kp T.bW .nil pass0 (pa_cons (pv 4) (pa_cons pe_int (pa_cons (pe_op op_pow pe_int pe_int) pa_nil)))))) (pss_one (ps_if (PW.pt (pw_or (pt_not (pt_val (pe_callB (show CallR _ _ (rIsi K) from call_isi) (by rfl) T.m_isinstance (by decide +kernel) (pa_cons (pv 5) (pa_cons (pe_bltn (v := .ty "list") (by rfl) T.m_list (by decide +kernel) rfl) pa_nil))))) (pw_or1 (pt_cmpR (show OpR _ _ (rNeD K) from op_neD hu64) (pv 5) (pe_lst (pa_cons pe_str (pa_cons (pe_callB (show CallR _ _ rReprQ from call_reprQ hgu hu) (by rfl) T.m_repr (by decide +kernel) (pa_cons (pv 4) pa_nil)) pa_nil))) (nomark _))))) (pss_one (ps_ret pe_bl)) pss_nil)) (pss_one (ps_if (pt_val (pe_callB (show CallR _ _ (rIsi K) from call_isi) (by rfl) T.m_isinstance (by decide +kernel) (pa_cons (pv 5) (pa_cons (pe_bltn (v := .ty "list") (by rfl) T.m_list (by decide +kernel) rfl) pa_nil)))) (pss_one (ps_ret pe_bl)) (pss_cons (ps_set (i := 6) scLaw.nd rfl (.inl rfl) (pe_lst (pa_cons pe_int (pa_cons pe_bl (pa_cons pe_int (pa_cons pe_bl (pa_cons (pv 4) (pa_cons (pe_callB (call_max2 rfl) (by rfl) T.m_max (by decide +kernel) (pa_cons pe_int (pa_cons (pe_op op_sub (pv 4) pe_int) pa_nil))) (pa_cons (pe_op op_add (pv 4) pe_int) (pa_cons (pe_call GD (hr.mono (by omega)) (by rfl) T.gD T.D.kp T.bD .nil pass0 (pa_cons (pv 1) (pa_cons (pe_op op_add (pe_op op_pow pe_int pe_int) pe_int) pa_nil))) (pa_cons (pe_op op_pow pe_int pe_int) pa_nil)))))))))))
      (pss_one (ps_for PassesOwn.never rfl (pi_list (pe_op op_cat (pv 6) (pe_lst (pa_cons (pe_ix (show IxR _ (rIxL K) from ix_list) (pv 2) (pe_call GD (hr.mono (by omega)) (by rfl) T.gD T.D.kp T.bD .nil pass0 (pa_cons (pv 1) (pa_cons pe_int pa_nil))) (fun _ _ => rfl)) (pa_cons (pe_ix (show IxR _ (rIxL K) from ix_list) (pv 2) (pe_call GD (hr.mono (by omega)) (by rfl) T.gD T.D.kp T.bD .nil pass0 (pa_cons (pv 1) (pa_cons pe_int pa_nil))) (fun _ _ => rfl)) pa_nil))))) (pg_name (i := 7) scLaw.nd rfl (Or.inl rfl)) (pss_cons (ps_set (i := 8) scLaw.nd rfl (.inl rfl) (pe_lst (pa_cons pe_str (pa_cons (pe_callB (show CallR _ _ rReprQ from call_reprQ hgu hu) (by rfl) T.m_repr (by decide +kernel) (pa_cons (pv 7) pa_nil)) pa_nil))))
      (C8.pss_cut (ps_if (pt_val (pe_call GW (hr.mono (by omega)) (by rfl) T.gW T.W.kp T.bW .nil pass0 (pa_cons (pv 7) (pa_cons pe_int (pa_cons (pe_op op_pow pe_int pe_int) pa_nil))))) (pss_one (ps_set (i := 8) scLaw.nd rfl (.inl rfl) (pe_ifExp (pt_cmpR op_le (pv 7) (pv 4) (nomark _)) (pe_op op_sub (pv 4) (pv 7)) (pe_lst (pa_cons pe_str (pa_cons (pe_callB (show CallR _ _ rReprQ from call_reprQ hgu hu) (by rfl) T.m_repr (by decide +kernel) (pa_cons (pv 7) pa_nil)) pa_nil)))))) pss_nil)
      (pss_one (ps_if (PW.pt (pw_or (pt_cmpR op_ne (pe_callB (show CallR _ _ rReprQ from call_reprQ hgu hu) (by rfl) T.m_repr (by decide +kernel) (pa_cons (pe_callG GFr hgu (hr.mono (by omega)) (by rfl) T.gFr T.Fr.kp T.bFr (pa_cons (pv 5) (pa_cons (pv 7) pa_nil))) pa_nil)) (pe_callB (show CallR _ _ rReprQ from call_reprQ hgu hu) (by rfl) T.m_repr (by decide +kernel) (pa_cons (pv 8) pa_nil)) (nomark _)) (pw_or1 (pt_cmpR op_ne (pe_callB (show CallR _ _ rReprQ from call_reprQ hgu hu) (by rfl) T.m_repr (by decide +kernel) (pa_cons (pe_fld (pv 5) rfl) pa_nil)) (pe_callB (show CallR _ _ rReprQ from call_reprQ hgu hu) (by rfl) T.m_repr (by decide +kernel) (pa_cons (pv 4) pa_nil)) (nomark _))))) (pss_one (ps_ret pe_bl)) pss_nil))))))))))))))
      (pss_one (ps_ret pe_bl))))), ?_⟩
    refine ⟨_, rfl, a, ns, rfl, hS, hlen, fun dk c H1 s1 nd nc dek => ?_⟩
    have pw6 : CPow 10 6 := ⟨by decide, by decide, by decide⟩
    refine ⟨1, rfl, 10, 6, rfl, rfl, pw6, _, _, rfl, rfl, 10, 39, rfl, rfl, ⟨by decide, by decide, by decide⟩, by show 0 ≤ sizeLine; decide, fun p1 n1 => ?_⟩
    refine ⟨by show 0 ≤ sizeLine; decide, fun p2 n2 => ?_⟩
    refine fun p3 n3 => ?_
    refine ⟨by show 1 ≤ sizeLine; decide, fun p4 n4 => ⟨by show 12 ≤ sizeLine; decide, fun O nO => ?_⟩⟩
    have sa : Same H1 (upd H1 p1 (.tup [])) := same_new n1
    have sb : Same _ (upd (upd H1 p1 (.tup [])) p2 (.lst [])) := same_new n2
    have sc : Same _ (upd (upd (upd H1 p1 (.tup [])) p2 (.lst [])) p3 (.dK [])) := same_new n3
    have sd : Same _ (upd (upd (upd (upd H1 p1 (.tup [])) p2 (.lst [])) p3 (.dK [])) p4 (.tup [.int 3])) := same_new n4
    have ne1 := dek.nedk n1
    have ne2 := (dek.keep sa).nedk n2
    have ne3 := ((dek.keep sa).keep sb).nedk n3
    have d4 := ((dek.keep sa).keep sb).keep sc
    have ne4 := d4.nedk n4
    have d5 := d4.keep sd
    have neO := d5.nedk nO
    have se := same_new (o := .lst [.non, .bl true, .bl false, .int (-1), .int ((10 : Int) ^ (6 : Int).toNat + 1), .int ((10 : Int) ^ (39 : Int).toNat), .str "5", .str "", .ref p1, .ref p2, .ref p3, .ref p4]) nO
    have h1 := se _ _ (sd _ _ (sc _ _ (sb _ _ (upd_same (H := H1) (a := p1) (o := HO.tup [])))))
    have h2 := se _ _ (sd _ _ (sc _ _ (upd_same (H := upd H1 p1 (.tup [])) (a := p2) (o := HO.lst []))))
    have h3 := se _ _ (sd _ _ (upd_same (H := upd (upd H1 p1 (.tup [])) p2 (.lst [])) (a := p3) (o := HO.dK [])))
    have h4 := se _ _ (upd_same (H := upd (upd (upd H1 p1 (.tup [])) p2 (.lst [])) p3 (.dK [])) (a := p4) (o := HO.tup [.int 3]))
    have hO : (upd (upd (upd (upd (upd H1 p1 (.tup [])) p2 (.lst [])) p3 (.dK [])) p4 (.tup [.int 3])) O (.lst [.non, .bl true, .bl false, .int (-1), .int ((10 : Int) ^ (6 : Int).toNat + 1), .int ((10 : Int) ^ (39 : Int).toNat), .str "5", .str "", .ref p1, .ref p2, .ref p3, .ref p4])) O = some (.lst [.non, .bl true, .bl false, .int (-1), .int ((10 : Int) ^ (6 : Int).toNat + 1), .int ((10 : Int) ^ (39 : Int).toNat), .str "5", .str "", .ref p1, .ref p2, .ref p3, .ref p4]) := upd_same
    have d6 := d5.keep se
    generalize upd (upd (upd (upd (upd H1 p1 (.tup [])) p2 (.lst [])) p3 (.dK [])) p4 (.tup [.int 3])) O (.lst [.non, .bl true, .bl false, .int (-1), .int ((10 : Int) ^ (6 : Int).toNat + 1), .int ((10 : Int) ^ (39 : Int).toNat), .str "5", .str "", .ref p1, .ref p2, .ref p3, .ref p4]) = H6 at h1 h2 h3 h4 hO d6 ⊢
    have hov : DqAll (Wd dk c H6) [.non, .bl true, .bl false, .int (-1), .int ((10 : Int) ^ (6 : Int).toNat + 1), .int ((10 : Int) ^ (39 : Int).toNat), .str "5", .str "", .ref p1, .ref p2, .ref p3, .ref p4] oddD :=
      .cons .non (.cons (.bl _) (.cons (.bl _) (.cons (.int _) (.cons (.int _) (.cons (.int _) (.cons (.str _) (.cons (.str _) (.cons (.tup (wd_of h1 ne1.1 ne1.2) .nil) (.cons (.lst (wd_of h2 ne2.1 ne2.2) .nil) (.cons (.d0 (wd_of h3 ne3.1 ne3.2)) (.cons (.tup (wd_of h4 ne4.1 ne4.2) (.cons (.int 3) .nil)) .nil)))))))))))
    generalize [V.non, .bl true, .bl false, .int (-1), .int ((10 : Int) ^ (6 : Int).toNat + 1), .int ((10 : Int) ^ (39 : Int).toNat), .str "5", .str "", .ref p1, .ref p2, .ref p3, .ref p4] = ov at hO hov
    refine ⟨6, rfl, by decide, by decide, ?_⟩
    refine for_range (lo := 0) (n := 6) (fun i σ H' => ∃ y3 y4 y5 y6 y7 y8 : Option V, σ = [some (.ref a), some (.ref dk), some (.ref O), y3, y4, y5, y6, y7, y8] ∧ Kp2 dk c H6 H' ∧ Deck H' dk c (10 * i))
      ⟨_, _, _, _, _, _, rfl, Kp2.refl, d6⟩ (fun i σ H7 hi h => ?_) (fun σ H7 h => q _)
    obtain ⟨y3, y4, y5, y6, y7, y8, rfl, k7, d7⟩ := h
    -- _law_most
    refine ⟨10, 6, rfl, rfl, pw6, _, rfl, 10, 6, rfl, rfl, pw6, _, _, rfl, rfl, dk, c, _, _, rfl, d7, by omega, by decide, by decide, fun r1 H8 a0 a1 k8 d8 => ?_⟩
    have k68 := k7.trans k8
    refine ⟨_, rfl, _, rfl, dk, c, _, 12, rfl, d8, by omega, by decide, by decide, fun r2 H9 b0 b1 k9 d9 => ?_⟩
    have k69 := k68.trans k9
    have hov9 := DqAll.same (wd_kp k69) _ _ hov
    obtain ⟨vo, dO, eo, hvo, hdo⟩ := odd_at hov9 b0 b1
    refine ⟨O, _, r2, vo, rfl, rfl, SqL.of (k69 _ _ neO.1 neO.2 hO), eo, by show 4 ≤ sizeLine; decide, fun l nl => ?_⟩
    have lne := d9.nedk nl
    refine ⟨_, rfl, dk, c, _, 4, rfl, d9.kp nl, by omega, by decide, by decide, fun r3 H10 c0 c1 k10 d10 => ?_⟩
    have hl10 := k10 _ _ lne.1 lne.2 upd_same
    obtain ⟨v, ev, hv⟩ := at4 (a := .int 0) (b := .int ((10 : Int) ^ (6 : Int).toNat)) (c := .int r1) (e := vo) c0 c1
    refine ⟨l, _, r3, v, rfl, rfl, SqL.of hl10, ev, ?_⟩
    have k60 : Kp2 dk c H6 H10 := k69.trans ((kps (same_new nl)).trans k10)
    have hov10 := DqAll.same (wd_kp k60) _ _ hov
    have hO10 := k60 _ _ neO.1 neO.2 hO
    obtain ⟨d, hd, gp⟩ : ∃ d, Dq (Wd dk c H10) v d ∧ Gp d := by
      rcases hv with rfl | rfl | rfl | rfl
      · exact ⟨_, .int _, gp_int (by decide) (by decide)⟩
      · exact ⟨_, .int _, gp_int (by decide) (by decide)⟩
      · have : ((10 : Int) ^ (6 : Int).toNat) = 1000000 := by decide
        exact ⟨_, .int _, gp_int a0 (by omega)⟩
      · exact ⟨dO, Dq.same (wd_kp ((kps (same_new nl)).trans k10)) _ _ hvo, (odd_ok _ hdo).1⟩
    -- _law_hand
    refine ⟨v, rfl, v, d, rfl, hd.wd, gp.g, fun cc x dx H11 s11 nx hx => ?_, fun cc p H11 s11 hp => ?_⟩
    · obtain ⟨m, rfl, m0, m1⟩ := numOk_int cc
      cases hd
      have d11 := d10.keep s11
      have xne : x ≠ dk ∧ x ≠ c := d10.nedk nx
      have k11 := k60.trans (kps s11)
      have hov11 := DqAll.same (wd_kp k11) _ _ hov
      have hO11 := s11 _ _ hO10
      refine ⟨_, rfl, 10, 6, rfl, rfl, pw6, .int m, .int m, _, rfl, .int m, ?_⟩
      refine ⟨_, rfl, iteF2 (by rw [show numOk ((10 : Int) ^ (6 : Int).toNat) (.int m) = true from cc]; rfl) ?_⟩
      refine ⟨.ref x, rfl, _, _, _, _, false, rfl, .ty _, .base (.ins hx X.cl Y.ha Y.hn Y.htk Y.hm), Y.nl, false, rfl, iteF ?_⟩
      -- _law_some
      refine ⟨_, rfl, _, rfl, m, 1, rfl, rfl, 0, m - 1, rfl, _, rfl, m, 1, rfl, rfl, _, rfl, 10, 6, rfl, rfl, pw6, _, _, rfl, rfl, dk, c, _, _, rfl, d11, by omega, by decide, by decide, fun r4 H12 e0 e1 k12 d12 => ?_⟩
      refine ⟨10, 6, rfl, rfl, pw6, by show 9 ≤ sizeLine; decide, fun S nS => ?_⟩
      have sne := d12.nedk nS
      have sS := same_new (o := .lst [.int 0, .bl false, .int 1, .bl true, .int m, .int (if m - 1 > 0 then m - 1 else 0), .int (m + 1), .int r4, .int ((10 : Int) ^ (6 : Int).toNat)]) nS
      have d13 := d12.keep sS
      have hS13 : (upd H12 S (.lst [.int 0, .bl false, .int 1, .bl true, .int m, .int (if m - 1 > 0 then m - 1 else 0), .int (m + 1), .int r4, .int ((10 : Int) ^ (6 : Int).toNat)])) S = some (.lst [.int 0, .bl false, .int 1, .bl true, .int m, .int (if m - 1 > 0 then m - 1 else 0), .int (m + 1), .int r4, .int ((10 : Int) ^ (6 : Int).toNat)]) := upd_same
      have k13 : Kp2 dk c H11 (upd H12 S (.lst [.int 0, .bl false, .int 1, .bl true, .int m, .int (if m - 1 > 0 then m - 1 else 0), .int (m + 1), .int r4, .int ((10 : Int) ^ (6 : Int).toNat)])) := k12.trans (kps sS)
      generalize upd H12 S (.lst [.int 0, .bl false, .int 1, .bl true, .int m, .int (if m - 1 > 0 then m - 1 else 0), .int (m + 1), .int r4, .int ((10 : Int) ^ (6 : Int).toNat)]) = H13 at d13 hS13 k13 ⊢
      -- the two odd ones
      refine ⟨_, rfl, _, rfl, _, rfl, dk, c, _, 12, rfl, d13, by omega, by decide, by decide, fun r5 H14 f0 f1 k14 d14 => ?_⟩
      have k614 := k11.trans (k13.trans k14)
      obtain ⟨v5, d5', e5, hv5, hd5⟩ := odd_at (DqAll.same (wd_kp k614) _ _ hov) f0 f1
      refine ⟨O, _, r5, v5, rfl, rfl, SqL.of (k614 _ _ neO.1 neO.2 hO), e5, ?_⟩
      refine ⟨_, rfl, _, rfl, dk, c, _, 12, rfl, d14, by omega, by decide, by decide, fun r6 H15 g0 g1 k15 d15 => ?_⟩
      have k615 := k614.trans k15
      obtain ⟨v6, d6', e6, hv6, hd6⟩ := odd_at (DqAll.same (wd_kp k615) _ _ hov) g0 g1
      refine ⟨O, _, r6, v6, rfl, rfl, SqL.of (k615 _ _ neO.1 neO.2 hO), e6, by show 2 ≤ sizeLine; decide, fun l2 nl2 => ?_⟩
      have sl2 := same_new (o := .lst [v5, v6]) nl2
      have hS15 := k15 _ _ sne.1 sne.2 (k14 _ _ sne.1 sne.2 hS13)
      refine ⟨S, l2, _, _, rfl, rfl, sl2 _ _ hS15, upd_same, by show 11 ≤ sizeLine; decide, fun Z nZ => ?_⟩
      have sZ := same_new (o := .lst ([.int 0, .bl false, .int 1, .bl true, .int m, .int (if m - 1 > 0 then m - 1 else 0), .int (m + 1), .int r4, .int ((10 : Int) ^ (6 : Int).toNat)] ++ [v5, v6])) nZ
      have s1Z := sl2.trans sZ
      have hx15 := s1Z _ _ (k15 _ _ xne.1 xne.2 (k14 _ _ xne.1 xne.2 (k13 _ _ xne.1 xne.2 hx)))
      have hq5 := Dq.same s1Z _ _ (Dq.wd (Dq.same (wd_kp k15) _ _ hv5))
      have hq6 := Dq.same s1Z _ _ (Dq.wd hv6)
      have d16 := d15.keep s1Z
      have k616 := k615.trans (kps s1Z)
      have p6 : ((10 : Int) ^ (6 : Int).toNat) = 1000000 := by decide
      have hmx : 0 ≤ (if m - 1 > 0 then m - 1 else 0) ∧ (if m - 1 > 0 then m - 1 else 0) ≤ 1000000 := by split <;> omega
      have all : ∀ w ∈ [V.int 0, .bl false, .int 1, .bl true, .int m, .int (if m - 1 > 0 then m - 1 else 0), .int (m + 1), .int r4, .int ((10 : Int) ^ (6 : Int).toNat)] ++ [v5, v6], ∃ d, Dq (upd (upd H15 l2 (.lst [v5, v6])) Z (.lst ([.int 0, .bl false, .int 1, .bl true, .int m, .int (if m - 1 > 0 then m - 1 else 0), .int (m + 1), .int r4, .int ((10 : Int) ^ (6 : Int).toNat)] ++ [v5, v6]))) w d ∧ Gp d := fun w hw => by
        simp only [List.cons_append, List.nil_append, List.mem_cons, List.not_mem_nil, or_false] at hw
        rcases hw with rfl | rfl | rfl | rfl | rfl | rfl | rfl | rfl | rfl | rfl | rfl
        · exact ⟨_, .int _, gp_int (by decide) (by decide)⟩
        · exact ⟨_, .bl _, gp_of (by decide +kernel)⟩
        · exact ⟨_, .int _, gp_int (by decide) (by decide)⟩
        · exact ⟨_, .bl _, gp_of (by decide +kernel)⟩
        · exact ⟨_, .int _, gp_int (by omega) (by omega)⟩
        · exact ⟨_, .int _, gp_int (by omega) (by omega)⟩
        · exact ⟨_, .int _, gp_int (by omega) (by omega)⟩
        · exact ⟨_, .int _, gp_int (by omega) (by omega)⟩
        · exact ⟨_, .int _, gp_int (by decide) (by decide)⟩
        · exact ⟨_, hq5, (odd_ok _ hd5).1⟩
        · exact ⟨_, hq6, (odd_ok _ hd6).1⟩
      have hZ : (upd (upd H15 l2 (.lst [v5, v6])) Z (.lst ([.int 0, .bl false, .int 1, .bl true, .int m, .int (if m - 1 > 0 then m - 1 else 0), .int (m + 1), .int r4, .int ((10 : Int) ^ (6 : Int).toNat)] ++ [v5, v6]))) Z = some (.lst ([.int 0, .bl false, .int 1, .bl true, .int m, .int (if m - 1 > 0 then m - 1 else 0), .int (m + 1), .int r4, .int ((10 : Int) ^ (6 : Int).toNat)] ++ [v5, v6])) := upd_same
      generalize upd (upd H15 l2 (.lst [v5, v6])) Z (.lst ([.int 0, .bl false, .int 1, .bl true, .int m, .int (if m - 1 > 0 then m - 1 else 0), .int (m + 1), .int r4, .int ((10 : Int) ^ (6 : Int).toNat)] ++ [v5, v6])) = HZ at hx15 d16 k616 all hZ ⊢
      generalize [V.int 0, .bl false, .int 1, .bl true, .int m, .int (if m - 1 > 0 then m - 1 else 0), .int (m + 1), .int r4, .int ((10 : Int) ^ (6 : Int).toNat)] ++ [v5, v6] = zs at all hZ
      refine ⟨Z, rfl, ⟨_, SqL.of hZ⟩, ?_⟩
      refine for_it (walk_list (xs := zs)) (fun j σ H' => ∃ y7 y8 : Option V, σ = [some (.ref a), some (.ref dk), some (.ref O), some (.int ((0 : Int) + i)), some (.int m), some (.ref x), some (.ref S), y7, y8] ∧ Same HZ H')
        ⟨_, _, rfl, Same.refl _⟩ (fun j σ H' _ h => by obtain ⟨_, _, _, sm⟩ := h; exact SqL.of (sm _ _ hZ)) (fun j w σ H' H2 hj h y => ?_) (fun σ H' h => ?_)
      · obtain ⟨y7, y8, rfl, sm⟩ := h
        obtain ⟨rfl, hw⟩ := y
        obtain ⟨dw, hdw, gw⟩ := all w (List.mem_of_getElem? hw)
        -- due
        refine ⟨w, rfl, w, dw, rfl, Dq.same sm _ _ hdw, gw.g, by show 2 ≤ sizeLine; decide, fun u nu => ?_⟩
        have su := same_new (o := .lst [.str "most", .str dw.shown]) nu
        have hu1 : (upd H2 u (.lst [.str "most", .str dw.shown])) u = some (.lst [.str "most", .str dw.shown]) := upd_same
        have smu := sm.trans su
        generalize upd H2 u (.lst [.str "most", .str dw.shown]) = H3 at hu1 smu ⊢
        refine ⟨fun σ' H' => ∃ v8, σ' = [some (.ref a), some (.ref dk), some (.ref O), some (.int ((0 : Int) + i)), some (.int m), some (.ref x), some (.ref S), some w, some v8] ∧ Same HZ H' ∧ Dq H' v8 (dueD m dw), ?_, ?_⟩
        · refine ⟨w, rfl, 10, 6, rfl, rfl, pw6, w, dw, _, rfl, Dq.same smu _ _ hdw, ?_⟩
          rw [p6]
          by_cases cw : numOk 1000000 dw = true
          · obtain ⟨n, rfl, n0, n1⟩ := numOk_int cw
            cases hdw
            refine ⟨_, rfl, iteT2 cw ?_⟩
            refine ⟨_, rfl, _, rfl, n, m, rfl, rfl, _, rfl, ite2 (fun e => ?_) (fun e => ?_)⟩
            · have e : n ≤ m := of_decide_eq_true e
              exact ⟨_, rfl, _, rfl, m, n, rfl, rfl, _, rfl, smu, by rw [due_le cw e]; exact .int _⟩
            · have e : ¬ n ≤ m := fun z => e (decide_eq_true z)
              refine ⟨_, rfl, .int n, _, rfl, .int n, gw.g, by show 2 ≤ sizeLine; decide, fun u2 nu2 => ?_⟩
              exact ⟨_, rfl, smu.trans (same_new nu2), by rw [due_gt cw (by omega)]; exact .lst upd_same (.cons (.str _) (.cons (.str _) .nil))⟩
          · have cw := Bool.eq_false_iff.mpr cw
            refine ⟨_, rfl, iteF2 cw ?_⟩
            exact ⟨_, rfl, smu, by rw [due_no cw]; exact .lst hu1 (.cons (.str _) (.cons (.str _) .nil))⟩
        · rintro σ' H' ⟨v8, rfl, s8, hd8⟩
          have gdue := due_gd gw m0 m1
          refine ⟨_, rfl, _, rfl, ?_⟩
          refine at_nil (at_sp (free_due (s8 _ _ hx15) (Dq.same s8 _ _ hdw) gw.g fun r Hr sr hr' => at_nil ?_))
          refine ⟨r, _, rfl, hr', gdue, v8, rfl, v8, _, rfl, Dq.same sr _ _ hd8, gdue, rfl, _, rfl, iteF2 (by rw [decide_eq_true rfl]; rfl) ?_⟩
          have s8r := s8.trans sr
          refine ⟨.ref x, rfl, x, CH, dx, _, .int m, rfl, s8r _ _ hx15, X.cl, X.nM, rfl, .int m, _, rfl, .int m, (gp_int m0 (by omega)).g, _, rfl, .int m, _, rfl, .int m, (gp_int m0 (by omega)).g, rfl, _, rfl, iteF2 (by rw [decide_eq_true rfl]; rfl) ?_⟩
          exact ⟨_, _, rfl, s8r⟩
      · obtain ⟨y7, y8, rfl, sm⟩ := h
        exact ⟨_, _, _, _, _, _, rfl, k616.trans (kps sm), (d16.keep sm).up (by omega)⟩
    · have d11 := d10.keep s11
      have k11 := k60.trans (kps s11)
      refine ⟨v, rfl, 10, 6, rfl, rfl, pw6, v, d, _, rfl, Dq.same s11 _ _ hd.wd, ?_⟩
      have p6 : ((10 : Int) ^ (6 : Int).toNat) = 1000000 := by decide
      rw [p6]
      refine ⟨_, rfl, iteT2 (by rw [cc]; rfl) ?_⟩
      refine ⟨.ref p, rfl, _, _, _, _, true, rfl, .ty _, .base (.lst hp), kit_ty (a := "list") (by decide +kernel), true, rfl, iteF2 rfl ?_⟩
      refine ⟨.ref p, rfl, v, rfl, v, d, rfl, Dq.same s11 _ _ hd.wd, gp.g, by show 2 ≤ sizeLine; decide, fun u nu => ?_⟩
      have su := same_new (o := .lst [.str "most", .str d.shown]) nu
      have sp : SeqAt.shaped (.list [.str "most", .str d.shown]) = true := shp_strs (by decide +kernel) gp.s
      refine ⟨_, _, .lst (SqL.of (su _ _ hp)) (.cons (.str _) (.cons (.str _) .nil)), .lst (SqL.of upd_same) (.cons (.str _) (.cons (.str _) .nil)), sp, sp, _, rfl, iteF2 (by rw [eqv_strs]; rfl) ?_⟩
      exact ⟨_, _, _, _, _, _, rfl, k11.trans (kps su), (d11.keep su).up (by omega)⟩
end
end DD
namespace DD
open PySem PySem.Spec PyProof.Rows L2
theorem kitCls_ref {K : PySem.W.Frag} {t : Value} {B : Addr} {b : Bool} (h2 : PySem.W.isClsIn K B = true) (h3 : PySem.W.typeIn K (.ref B) = some (.type "type")) (h4 : PySem.W.subIn K t (.ref B) = some b) : PySem.W.kitCls K t (.ref B) = some b := by
  have e2 : ((PySem.W.clsIn K B).isSome && PySem.W.typeIn K (.ref B) == some (.type "type")) = true := by
    have h2' : (PySem.W.clsIn K B).isSome = true := h2
    rw [h2', h3] <;> rfl
  show (if ((PySem.W.clsIn K B).isSome && PySem.W.typeIn K (.ref B) == some (.type "type")) = true then PySem.W.subIn K t (.ref B) else none) = some b
  rw [if_pos e2]
  exact h4
theorem exm_base {K : PySem.W.Frag} {C B : Addr} (h1 : PySem.W.subIn K (.ref B) (.type "BaseException") = some true) (h : PySem.W.kitCls K (.ref C) (.ref B) = some true) : PySem.W.exmOne K (.ref C) (.ref B) = some true := by
  have e1 : (PySem.W.subIn K (.ref B) (.type "BaseException") == some true) = true := by rw [h1] <;> rfl
  show (if (PySem.W.subIn K (.ref B) (.type "BaseException") == some true) = true then PySem.W.kitCls K (.ref C) (.ref B) else none) = some true
  rw [if_pos e1]
  exact h
theorem kitOne_of {K : PySem.W.Frag} {t c : Value} {b : Bool} (hn : (t == c) = false) (h : PySem.W.kitCls K t c = some b) : PySem.W.kitOne K t c = some b := by
  show (if (t == c) = true then some true else PySem.W.kitCls K t c) = some b
  rw [hn, if_neg Bool.false_ne_true]
  exact h
theorem kitCls_VE {K : PySem.W.Frag} {t : Value} (h : PySem.W.subIn K t (.type "ValueError") = some true) : PySem.W.kitCls K t (.type "ValueError") = some true := by
  show (if PySem.W.kitMeta "ValueError" = true then PySem.W.subIn K t (.type "ValueError") else none) = some true
  rw [if_pos (by decide +kernel)]
  exact h
theorem kitAny2 {K : PySem.W.Frag} {t a b : Value} (ha : PySem.W.kitOne K t a = some false) (hb : PySem.W.kitOne K t b = some false) : PySem.W.kitAny K t [a, b] = some false := by
  unfold PySem.W.kitAny PySem.W.kitAny PySem.W.kitAny
  rw [ha, hb]
theorem kitAny3 {K : PySem.W.Frag} {t a b c : Value} (ha : PySem.W.kitOne K t a = some false) (hb : PySem.W.kitOne K t b = some false) (hc : PySem.W.kitOne K t c = some false) : PySem.W.kitAny K t [a, b, c] = some false := by
  unfold PySem.W.kitAny PySem.W.kitAny PySem.W.kitAny PySem.W.kitAny
  rw [ha, hb, hc]
theorem kitCls_T {K : PySem.W.Frag} {t : Value} {T : String} {b : Bool} (hm : PySem.W.kitMeta T = true) (h : PySem.W.subIn K t (.type T) = some b) : PySem.W.kitCls K t (.type T) = some b := by
  show (if PySem.W.kitMeta T = true then PySem.W.subIn K t (.type T) else none) = some b
  rw [if_pos hm]
  exact h
theorem all_mk {l : PySem.W.OpenLaw} {w : World} {K : PySem.W.Frag} {h : Heap} {mg : Str → Option Value} {fa B CM fIM CT fIT C1 C2 C3 CH fHi fHf f1 f2 f3 f4 f5 f6 f7 f8 : Addr} {tk1 : Nat} (kin : K.In h) (nsG : h.Ns mainGlobals mg) (hfa : mg "law" = some (.ref fa))
    {nmM qM : Str} {NM : Addr} {bsM : List Value} {snM : List Str} {subM : List Value} {abM : Bool} {colM : Option Bool} {ddM : Option Addr} {maM mbM mcM meM mfM : Option Value} {nmT qT : Str} {NT : Addr} {bsT : List Value} {snT : List Str} {subT : List Value} {abT : Bool} {colT : Option Bool} {ddT : Option Addr} {maT mbT mcT meT mfT : Option Value}
    {od1 an1 : Option Addr} {sl1 : Array (Option Value)} {oc1 kV1 dc1 pm1 cd1 ct1 : Value}
    {od2 an2 : Option Addr} {sl2 : Array (Option Value)} {oc2 kV2 dc2 pm2 cd2 ct2 : Value}
    {od3 an3 : Option Addr} {sl3 : Array (Option Value)} {oc3 kV3 dc3 pm3 cd3 ct3 : Value}
    {od4 an4 : Option Addr} {sl4 : Array (Option Value)} {oc4 kV4 dc4 pm4 cd4 ct4 : Value}
    {od5 an5 : Option Addr} {sl5 : Array (Option Value)} {oc5 kV5 dc5 pm5 cd5 ct5 : Value}
    {od6 an6 : Option Addr} {sl6 : Array (Option Value)} {oc6 kV6 dc6 pm6 cd6 ct6 : Value}
    {od7 an7 : Option Addr} {sl7 : Array (Option Value)} {oc7 kV7 dc7 pm7 cd7 ct7 : Value}
    {od8 an8 : Option Addr} {sl8 : Array (Option Value)} {oc8 kV8 dc8 pm8 cd8 ct8 : Value}
    {odIM anIM : Option Addr} {slIM : Array (Option Value)} {ocIM kVIM dcIM pmIM cdIM ctIM : Value}
    {odIT anIT : Option Addr} {slIT : Array (Option Value)} {ocIT kVIT dcIT pmIT cdIT ctIT : Value}
    {odHi anHi : Option Addr} {slHi : Array (Option Value)} {ocHi kVHi dcHi pmHi cdHi ctHi : Value}
    {odHf anHf : Option Addr} {slHf : Array (Option Value)} {ocHf kVHf dcHf pmHf cdHf ctHf : Value}
    (m1 : PySem.W.nsIn K mainGlobals "LIMIT" = some (some (.int 1000000 tk1)))
    (aCM : PySem.W.nsIn K mainGlobals "BadMost" = some (some (.ref CM)))
    (xLM : K.lookup CM = some (excClassObj nmM qM CM NM bsM [.ref B, .type "ValueError", .type "Exception", .type "BaseException", .type "object"] true snM subM abM colM ddM maM mbM mcM meM mfM "ValueError.__new__"))
    (saM : PySem.W.findIn K (.ref CM) "__setattr__" = some (some (.builtin "object.__setattr__")))
    (gaM : PySem.W.findIn K (.ref CM) "__getattribute__" = some (some (.builtin "BaseException.__getattribute__")))
    (ggM : PySem.W.findIn K (.ref CM) "__getattr__" = some none)
    (nbM : PySem.W.findIn K (.ref CM) "value" = some none)
    (hclM : PySem.W.findIn K (.ref CM) "__class__" = some (some (.builtin "object.__class__")))
    (moM : PySem.W.mroIn K CM (.type "object") = some true)
    (aIM : PySem.W.findIn K (.ref CM) "__init__" = some (some (.ref fIM)))
    (tIM : PySem.W.typeIn K (.ref fIM) = some (.type "function"))
    (lIM : K.lookup fIM = some ⟨ocIM, odIM, .func (PySem.W.fnOf "__init__" "BadMost.__init__" (defArgs sInitM) (defBody sInitM) (defScope sInitM) .none kVIM dcIM pmIM anIM cdIM ctIM), slIM⟩)
    (cIM : PySem.W.codeIn K cdIM "BadMost.__init__" = true)
    (kIM : PySem.W.keepIn K (.ref fIM) = true)
    (kCM : PySem.W.keepIn K (.ref CM) = true)
    (eCM : PySem.W.subIn K (.ref CM) (.type "BaseException") = some true)
    (tCM : PySem.W.typeIn K (.ref CM) = some (.type "type"))
    (hCM : PySem.W.hasDictIn K CM = true)
    (iCM : PySem.W.isClsIn K CM = true)
    (sVM : PySem.W.subIn K (.ref CM) (.type "ValueError") = some true)
    (sBM : PySem.W.subIn K (.ref CM) (.ref B) = some true)
    (nVM : ((Value.ref CM) == (Value.type "ValueError")) = false)
    (aCT : PySem.W.nsIn K mainGlobals "TooFull" = some (some (.ref CT)))
    (xLT : K.lookup CT = some (excClassObj nmT qT CT NT bsT [.ref B, .type "ValueError", .type "Exception", .type "BaseException", .type "object"] true snT subT abT colT ddT maT mbT mcT meT mfT "ValueError.__new__"))
    (saT : PySem.W.findIn K (.ref CT) "__setattr__" = some (some (.builtin "object.__setattr__")))
    (gaT : PySem.W.findIn K (.ref CT) "__getattribute__" = some (some (.builtin "BaseException.__getattribute__")))
    (ggT : PySem.W.findIn K (.ref CT) "__getattr__" = some none)
    (nbT : PySem.W.findIn K (.ref CT) "number" = some none)
    (hclT : PySem.W.findIn K (.ref CT) "__class__" = some (some (.builtin "object.__class__")))
    (moT : PySem.W.mroIn K CT (.type "object") = some true)
    (aIT : PySem.W.findIn K (.ref CT) "__init__" = some (some (.ref fIT)))
    (tIT : PySem.W.typeIn K (.ref fIT) = some (.type "function"))
    (lIT : K.lookup fIT = some ⟨ocIT, odIT, .func (PySem.W.fnOf "__init__" "TooFull.__init__" (defArgs sInitT) (defBody sInitT) (defScope sInitT) .none kVIT dcIT pmIT anIT cdIT ctIT), slIT⟩)
    (cIT : PySem.W.codeIn K cdIT "TooFull.__init__" = true)
    (kIT : PySem.W.keepIn K (.ref fIT) = true)
    (kCT : PySem.W.keepIn K (.ref CT) = true)
    (eCT : PySem.W.subIn K (.ref CT) (.type "BaseException") = some true)
    (tCT : PySem.W.typeIn K (.ref CT) = some (.type "type"))
    (hCT : PySem.W.hasDictIn K CT = true)
    (iCT : PySem.W.isClsIn K CT = true)
    (sVT : PySem.W.subIn K (.ref CT) (.type "ValueError") = some true)
    (sBT : PySem.W.subIn K (.ref CT) (.ref B) = some true)
    (nVT : ((Value.ref CT) == (Value.type "ValueError")) = false)
    (gnC : PySem.W.specialIn K (.builtin "object.__class__") "__get__" = some (some (.builtin "getset_descriptor.__get__")))
    (tkC : PySem.W.takesIn K (.builtin "object.__class__") = some true)
    (aB : PySem.W.nsIn K mainGlobals "DrawerError" = some (some (.ref B)))
    (eB : PySem.W.subIn K (.ref B) (.type "BaseException") = some true)
    (tB : PySem.W.typeIn K (.ref B) = some (.type "type"))
    (iB : PySem.W.isClsIn K B = true)
    (aC1 : PySem.W.nsIn K mainGlobals "BadCount" = some (some (.ref C1)))
    (tC1 : PySem.W.typeIn K (.ref C1) = some (.type "type"))
    (iC1 : PySem.W.isClsIn K C1 = true)
    (aC2 : PySem.W.nsIn K mainGlobals "BadCounts" = some (some (.ref C2)))
    (tC2 : PySem.W.typeIn K (.ref C2) = some (.type "type"))
    (iC2 : PySem.W.isClsIn K C2 = true)
    (aC3 : PySem.W.nsIn K mainGlobals "TooMuch" = some (some (.ref C3)))
    (tC3 : PySem.W.typeIn K (.ref C3) = some (.type "type"))
    (iC3 : PySem.W.isClsIn K C3 = true)
    (sM_1 : PySem.W.subIn K (.ref CM) (.ref C1) = some false)
    (nM_1 : ((Value.ref CM) == (Value.ref C1)) = false)
    (sM_2 : PySem.W.subIn K (.ref CM) (.ref C2) = some false)
    (nM_2 : ((Value.ref CM) == (Value.ref C2)) = false)
    (sM_3 : PySem.W.subIn K (.ref CM) (.ref C3) = some false)
    (nM_3 : ((Value.ref CM) == (Value.ref C3)) = false)
    (sM_T : PySem.W.subIn K (.ref CM) (.ref CT) = some false)
    (nM_T : ((Value.ref CM) == (Value.ref CT)) = false)
    (sT_M : PySem.W.subIn K (.ref CT) (.ref CM) = some false)
    (nT_M : ((Value.ref CT) == (Value.ref CM)) = false)
    (sT_1 : PySem.W.subIn K (.ref CT) (.ref C1) = some false)
    (nT_1 : ((Value.ref CT) == (Value.ref C1)) = false)
    (sT_3 : PySem.W.subIn K (.ref CT) (.ref C3) = some false)
    (nT_3 : ((Value.ref CT) == (Value.ref C3)) = false)
    (aCH : PySem.W.nsIn K mainGlobals "Hand" = some (some (.ref CH)))
    (pgH : PySem.W.plainGet K CH Str.empty = true)
    (hdH : PySem.W.hasDictIn K CH = true)
    (poH : PySem.W.plainOver K CH = true)
    (saH : PySem.W.findIn K (.ref CH) "__setattr__" = some (some (.builtin "object.__setattr__")))
    (mkH : PySem.W.makesIn K CH = true)
    (kCH : PySem.W.keepIn K (.ref CH) = true)
    (hclH : PySem.W.findIn K (.ref CH) "__class__" = some (some (.builtin "object.__class__")))
    (moH : PySem.W.mroIn K CH (.type "object") = some true)
    (noH0 : PySem.W.findIn K (.ref CH) "most" = some none)
    (aHi : PySem.W.findIn K (.ref CH) "__init__" = some (some (.ref fHi)))
    (iHi : PySem.W.isFn K (.ref fHi) = true)
    (lHi : K.lookup fHi = some ⟨ocHi, odHi, .func (PySem.W.fnOf "__init__" "Hand.__init__" (defArgs sHInit) (defBody sHInit) (defScope sHInit) .none kVHi dcHi pmHi anHi cdHi ctHi), slHi⟩)
    (cHi : PySem.W.codeIn K cdHi "Hand.__init__" = true)
    (kHi : PySem.W.keepIn K (.ref fHi) = true)
    (aHf : PySem.W.findIn K (.ref CH) "free" = some (some (.ref fHf)))
    (iHf : PySem.W.isFn K (.ref fHf) = true)
    (lHf : K.lookup fHf = some ⟨ocHf, odHf, .func (PySem.W.fnOf "free" "Hand.free" (defArgs sFree) (defBody sFree) (defScope sFree) .none kVHf dcHf pmHf anHf cdHf ctHf), slHf⟩)
    (cHf : PySem.W.codeIn K cdHf "Hand.free" = true)
    (kHf : PySem.W.keepIn K (.ref fHf) = true)
    (slH : PySem.W.subIn K (.ref CH) (.type "list") = some false)
    (nlH : ((Value.ref CH) == (Value.type "list")) = false)
    (a1 : PySem.W.nsIn K mainGlobals "is_number" = some (some (.ref f1)))
    (l1 : K.lookup f1 = some ⟨oc1, od1, .func (PySem.W.fnOf "is_number" "is_number" (defArgs sIsNum) (defBody sIsNum) (defScope sIsNum) .none kV1 dc1 pm1 an1 cd1 ct1), sl1⟩)
    (c1 : PySem.W.codeIn K cd1 "is_number" = true)
    (k1 : PySem.W.keepIn K (.ref f1) = true)
    (a2 : PySem.W.nsIn K mainGlobals "is_number_up_to" = some (some (.ref f2)))
    (l2 : K.lookup f2 = some ⟨oc2, od2, .func (PySem.W.fnOf "is_number_up_to" "is_number_up_to" (defArgs sUpTo) (defBody sUpTo) (defScope sUpTo) .none kV2 dc2 pm2 an2 cd2 ct2), sl2⟩)
    (c2 : PySem.W.codeIn K cd2 "is_number_up_to" = true)
    (k2 : PySem.W.keepIn K (.ref f2) = true)
    (a3 : PySem.W.nsIn K mainGlobals "_law_deck" = some (some (.ref f3)))
    (l3 : K.lookup f3 = some ⟨oc3, od3, .func (PySem.W.fnOf "_law_deck" "_law_deck" (defArgs sDeck) (defBody sDeck) (defScope sDeck) .none kV3 dc3 pm3 an3 cd3 ct3), sl3⟩)
    (c3 : PySem.W.codeIn K cd3 "_law_deck" = true)
    (k3 : PySem.W.keepIn K (.ref f3) = true)
    (a4 : PySem.W.nsIn K mainGlobals "_law_draw" = some (some (.ref f4)))
    (l4 : K.lookup f4 = some ⟨oc4, od4, .func (PySem.W.fnOf "_law_draw" "_law_draw" (defArgs sDraw) (defBody sDraw) (defScope sDraw) .none kV4 dc4 pm4 an4 cd4 ct4), sl4⟩)
    (c4 : PySem.W.codeIn K cd4 "_law_draw" = true)
    (k4 : PySem.W.keepIn K (.ref f4) = true)
    (a5 : PySem.W.nsIn K mainGlobals "_law_is_within" = some (some (.ref f5)))
    (l5 : K.lookup f5 = some ⟨oc5, od5, .func (PySem.W.fnOf "_law_is_within" "_law_is_within" (defArgs sLNum) (defBody sLNum) (defScope sLNum) .none kV5 dc5 pm5 an5 cd5 ct5), sl5⟩)
    (c5 : PySem.W.codeIn K cd5 "_law_is_within" = true)
    (k5 : PySem.W.keepIn K (.ref f5) = true)
    (a6 : PySem.W.nsIn K mainGlobals "_law_made" = some (some (.ref f6)))
    (l6 : K.lookup f6 = some ⟨oc6, od6, .func (PySem.W.fnOf "_law_made" "_law_made" (defArgs sMade) (defBody sMade) (defScope sMade) .none kV6 dc6 pm6 an6 cd6 ct6), sl6⟩)
    (c6 : PySem.W.codeIn K cd6 "_law_made" = true)
    (k6 : PySem.W.keepIn K (.ref f6) = true)
    (a7 : PySem.W.nsIn K mainGlobals "_law_free" = some (some (.ref f7)))
    (l7 : K.lookup f7 = some ⟨oc7, od7, .func (PySem.W.fnOf "_law_free" "_law_free" (defArgs sLFree) (defBody sLFree) (defScope sLFree) .none kV7 dc7 pm7 an7 cd7 ct7), sl7⟩)
    (c7 : PySem.W.codeIn K cd7 "_law_free" = true)
    (k7 : PySem.W.keepIn K (.ref f7) = true)
    (a8 : PySem.W.nsIn K mainGlobals "law" = some (some (.ref f8)))
    (l8 : K.lookup f8 = some ⟨oc8, od8, .func (PySem.W.fnOf "law" "law" (defArgs sLaw) (defBody sLaw) (defScope sLaw) .none kV8 dc8 pm8 an8 cd8 ct8), sl8⟩)
    (c8 : PySem.W.codeIn K cd8 "law" = true)
    (k8 : PySem.W.keepIn K (.ref f8) = true)
    (z1 : PySem.W.nsIn K mainGlobals "len" = some none)
    (z2 : PySem.W.nsIn K mainGlobals "range" = some none)
    (z3 : PySem.W.nsIn K mainGlobals "abs" = some none)
    (z4 : PySem.W.nsIn K mainGlobals "repr" = some none)
    (z5 : PySem.W.nsIn K mainGlobals "max" = some none)
    (z6 : PySem.W.nsIn K mainGlobals "int" = some none)
    (z7 : PySem.W.nsIn K mainGlobals "bool" = some none)
    (z8 : PySem.W.nsIn K mainGlobals "isinstance" = some none)
    (z9 : PySem.W.nsIn K mainGlobals "ValueError" = some none)
    (z10 : PySem.W.nsIn K mainGlobals "list" = some none)
    : ∃ fd : FuncData, (∀ (s : Shared) (v : Value), BindsTo s fd ⟨[v], []⟩ [("_law_script", v)]) ∧ ∀ base : Heap, K.In base → base.Ns mainGlobals mg → FnG l.prog w K mg base 7 fa fd ["_law_script"] (spLaw K) := by
  cases hfa.symm.trans (PySem.W.mg_of kin nsG a8)
  have F1 := fun_mk (st := sIsNum) l1 c1 k1
  have F2 := fun_mk (st := sUpTo) l2 c2 k2
  have F3 := fun_mk (st := sDeck) l3 c3 k3
  have F4 := fun_mk (st := sDraw) l4 c4 k4
  have F5 := fun_mk (st := sLNum) l5 c5 k5
  have F6 := fun_mk (st := sMade) l6 c6 k6
  have F7 := fun_mk (st := sLFree) l7 c7 k7
  have F8 := fun_mk (st := sLaw) l8 c8 k8
  have b1 := F1.binds (ps := ["value"]) fun _ _ _ _ _ _ us hl => match us, hl with | [_], _ => rfl
  have b2 := F2.binds (ps := ["value", "most"]) fun _ _ _ _ _ _ us hl => match us, hl with | [_, _], _ => rfl
  have b3 := F3.binds (ps := ["_law_script"]) fun _ _ _ _ _ _ us hl => match us, hl with | [_], _ => rfl
  have b4 := F4.binds (ps := ["_law_deck_here", "_law_many"]) fun _ _ _ _ _ _ us hl => match us, hl with | [_, _], _ => rfl
  have b5 := F5.binds (ps := ["_law_value", "_law_low", "_law_high"]) fun _ _ _ _ _ _ us hl => match us, hl with | [_, _, _], _ => rfl
  have b6 := F6.binds (ps := ["_law_most"]) fun _ _ _ _ _ _ us hl => match us, hl with | [_], _ => rfl
  have b7 := F7.binds (ps := ["_law_hand", "_law_number"]) fun _ _ _ _ _ _ us hl => match us, hl with | [_, _], _ => rfl
  have FIM := fun_mk (st := sInitM) lIM cIM kIM
  have bIM := FIM.binds (ps := ["self", "value"]) fun _ _ _ _ _ _ us hl => match us, hl with | [_, _], _ => rfl
  have EM : ErrC K mg "BadMost" "value" "BadMost.__init__" sInitM CM fIM _ := { o := ⟨⟨nmM, qM, NM, bsM, _, snM, subM, abM, colM, ddM, maM, mbM, mcM, meM, mfM, xLM, rfl⟩, saM, eCM, tCM, kCM⟩, iC := aIM, tI := tIM, noT := nbM, gC := PySem.W.mg_of kin nsG aCM, FI := FIM, bI := bIM }
  have ISM : IsTx K CM := { cl := iCM, ga := gaM, gt := ggM, sub := eCM, hc := hclM, gn := gnC, tk := tkC, mo := moM }
  have XFM : XfC K CM := ⟨gaM, ggM, eCM, hCM⟩
  have EXM := exm_base eB (kitCls_ref iB tB sBM)
  have KVM := kitOne_of nVM (kitCls_VE sVM)
  have FIT := fun_mk (st := sInitT) lIT cIT kIT
  have bIT := FIT.binds (ps := ["self", "number"]) fun _ _ _ _ _ _ us hl => match us, hl with | [_, _], _ => rfl
  have ET : ErrC K mg "TooFull" "number" "TooFull.__init__" sInitT CT fIT _ := { o := ⟨⟨nmT, qT, NT, bsT, _, snT, subT, abT, colT, ddT, maT, mbT, mcT, meT, mfT, xLT, rfl⟩, saT, eCT, tCT, kCT⟩, iC := aIT, tI := tIT, noT := nbT, gC := PySem.W.mg_of kin nsG aCT, FI := FIT, bI := bIT }
  have IST : IsTx K CT := { cl := iCT, ga := gaT, gt := ggT, sub := eCT, hc := hclT, gn := gnC, tk := tkC, mo := moT }
  have XFT : XfC K CT := ⟨gaT, ggT, eCT, hCT⟩
  have EXT := exm_base eB (kitCls_ref iB tB sBT)
  have KVT := kitOne_of nVT (kitCls_VE sVT)
  have KM_1 := kitOne_of nM_1 (kitCls_ref iC1 tC1 sM_1)
  have KM_2 := kitOne_of nM_2 (kitCls_ref iC2 tC2 sM_2)
  have KM_3 := kitOne_of nM_3 (kitCls_ref iC3 tC3 sM_3)
  have KM_T := kitOne_of nM_T (kitCls_ref iCT tCT sM_T)
  have KT_M := kitOne_of nT_M (kitCls_ref iCM tCM sT_M)
  have KT_1 := kitOne_of nT_1 (kitCls_ref iC1 tC1 sT_1)
  have KT_3 := kitOne_of nT_3 (kitCls_ref iC3 tC3 sT_3)
  have CLH : Cls K CH := ⟨pgH, hdH, poH, saH⟩
  have FHi := fun_mk (st := sHInit) lHi cHi kHi
  have bHi := FHi.binds (ps := ["self", "most"]) fun _ _ _ _ _ _ us hl => match us, hl with | [_, _], _ => rfl
  have FHf := fun_mk (st := sFree) lHf cHf kHf
  have bHf := FHf.binds (ps := ["self", "number"]) fun _ _ _ _ _ _ us hl => match us, hl with | [_, _], _ => rfl
  refine ⟨PySem.W.fnOf "law" "law" (defArgs sLaw) (defBody sLaw) (defScope sLaw) .none kV8 dc8 pm8 an8 cd8 ct8, fun s v => .of_eq rfl, fun base _ _ => ?_⟩
  have ht : HT K mg B CM CT C1 C2 C3 fIM fIT CH fHi fHf _ _ _ _ := { eM := EM, eT := ET, isM := ISM, isT := IST, xfM := XFM, xfT := XFT, exM := EXM, exT := EXT, gB := PySem.W.mg_of kin nsG aB, g1 := PySem.W.mg_of kin nsG aC1, g2 := PySem.W.mg_of kin nsG aC2, g3 := PySem.W.mg_of kin nsG aC3, vM := KVM, vT := KVT, mt := KM_T, tm := KT_M, aM3 := kitAny3 KM_1 KM_2 KM_T, aM2 := kitAny2 KM_1 KM_3, aT2 := kitAny2 KT_1 KT_3, cl := CLH, nM := noH0, mkH := ⟨mkH, aHi, iHi, kCH⟩, mF := ⟨aHf, iHf, kHf⟩, FI := FHi, bI := bHi, FF := FHf, bF := bHf, gH := PySem.W.mg_of kin nsG aCH, lim := ⟨_, PySem.W.mg_of kin nsG m1⟩ }
  exact ok_law F8 { N := F1, bN := b1, gN := PySem.W.mg_of kin nsG a1, U := F2, bU := b2, gU := PySem.W.mg_of kin nsG a2, Dk := F3, bDk := b3, gDk := PySem.W.mg_of kin nsG a3, D := F4, bD := b4, gD := PySem.W.mg_of kin nsG a4, W := F5, bW := b5, gW := PySem.W.mg_of kin nsG a5, Md := F6, bMd := b6, gMd := PySem.W.mg_of kin nsG a6, Fr := F7, bFr := b7, gFr := PySem.W.mg_of kin nsG a7, m_len := PySem.W.mg_none_of kin nsG z1, m_range := PySem.W.mg_none_of kin nsG z2, m_abs := PySem.W.mg_none_of kin nsG z3, m_repr := PySem.W.mg_none_of kin nsG z4, m_max := PySem.W.mg_none_of kin nsG z5, m_int := PySem.W.mg_none_of kin nsG z6, m_bool := PySem.W.mg_none_of kin nsG z7, m_isinstance := PySem.W.mg_none_of kin nsG z8, m_ValueError := PySem.W.mg_none_of kin nsG z9, m_list := PySem.W.mg_none_of kin nsG z10 } ht ⟨hclH, gnC, tkC, moH, kitOne_of nlH (kitCls_T (by decide +kernel) slH)⟩
end DD
open PySem PySem.W PyProof.Rows
set_option maxHeartbeats 0 in
theorem PySem.Challenge.cw_darkdrawers_k46_hands_holds : PySem.Challenge.rw_darkdrawers_k46_hands.Holds := by
  w_on; o_law; k_head; (case hw => w_witness2)
  k_fill
  refine DD.walk_ofG (l := PySem.Challenge.rw_darkdrawers_k46_hands) (n := 63) (k := 7) (x := "_law_script") (sp := fun w => DD.spLaw _) rfl (by decide) rfl ⟨rfl, by decide, by decide⟩ (fun w h Y => PySem.W.kIn_of Y) ?F
    (fun _ _ a ns hl _ hS => ⟨a, ns, rfl, hS, hl, fun _ => rfl⟩)
  case F =>
    intro w mg fa h KX G hmg
    refine' DD.all_mk KX G hmg ?m1 ?aCM ?xLM ?saM ?gaM ?ggM ?nbM ?hclM ?moM ?aIM ?tIM ?lIM ?cIM ?kIM ?kCM ?eCM ?tCM ?hCM ?iCM ?sVM ?sBM ?nVM ?aCT ?xLT ?saT ?gaT ?ggT ?nbT ?hclT ?moT ?aIT ?tIT ?lIT ?cIT ?kIT ?kCT ?eCT ?tCT ?hCT ?iCT ?sVT ?sBT ?nVT ?gnC ?tkC ?aB ?eB ?tB ?iB ?aC1 ?tC1 ?iC1 ?aC2 ?tC2 ?iC2 ?aC3 ?tC3 ?iC3 ?sM_1 ?nM_1 ?sM_2 ?nM_2 ?sM_3 ?nM_3 ?sM_T ?nM_T ?sT_M ?nT_M ?sT_1 ?nT_1 ?sT_3 ?nT_3 ?aCH ?pgH ?hdH ?poH ?saH ?mkH ?kCH ?hclH ?moH ?noH0 ?aHi ?iHi ?lHi ?cHi ?kHi ?aHf ?iHf ?lHf ?cHf ?kHf ?slH ?nlH ?a1 ?l1 ?c1 ?k1 ?a2 ?l2 ?c2 ?k2 ?a3 ?l3 ?c3 ?k3 ?a4 ?l4 ?c4 ?k4 ?a5 ?l5 ?c5 ?k5 ?a6 ?l6 ?c6 ?k6 ?a7 ?l7 ?c7 ?k7 ?a8 ?l8 ?c8 ?k8 ?z1 ?z2 ?z3 ?z4 ?z5 ?z6 ?z7 ?z8 ?z9 ?z10
    (case m1 => k_is); (case aCM => k_is); (case xLM => k_is); (case saM => k_is); (case gaM => k_is); (case ggM => k_is); (case nbM => k_is); (case hclM => k_is); (case moM => k_is); (case aIM => k_is); (case tIM => k_is); (case lIM => k_is); (case cIM => k_is); (case kIM => k_is); (case kCM => k_is); (case eCM => k_is); (case tCM => k_is); (case hCM => k_is); (case iCM => k_is); (case sVM => k_is); (case sBM => k_is); (case nVM => first | rfl | decide | k_is); (case aCT => k_is); (case xLT => k_is); (case saT => k_is); (case gaT => k_is); (case ggT => k_is); (case nbT => k_is); (case hclT => k_is); (case moT => k_is); (case aIT => k_is); (case tIT => k_is); (case lIT => k_is); (case cIT => k_is); (case kIT => k_is); (case kCT => k_is); (case eCT => k_is); (case tCT => k_is); (case hCT => k_is); (case iCT => k_is); (case sVT => k_is); (case sBT => k_is); (case nVT => first | rfl | decide | k_is); (case gnC => k_is); (case tkC => k_is); (case aB => k_is); (case eB => k_is); (case tB => k_is); (case iB => k_is); (case aC1 => k_is); (case tC1 => k_is); (case iC1 => k_is); (case aC2 => k_is); (case tC2 => k_is); (case iC2 => k_is); (case aC3 => k_is); (case tC3 => k_is); (case iC3 => k_is); (case sM_1 => k_is); (case nM_1 => first | rfl | decide | k_is); (case sM_2 => k_is); (case nM_2 => first | rfl | decide | k_is); (case sM_3 => k_is); (case nM_3 => first | rfl | decide | k_is); (case sM_T => k_is); (case nM_T => first | rfl | decide | k_is); (case sT_M => k_is); (case nT_M => first | rfl | decide | k_is); (case sT_1 => k_is); (case nT_1 => first | rfl | decide | k_is); (case sT_3 => k_is); (case nT_3 => first | rfl | decide | k_is); (case aCH => k_is); (case pgH => k_is); (case hdH => k_is); (case poH => k_is); (case saH => k_is); (case mkH => k_is); (case kCH => k_is); (case hclH => k_is); (case moH => k_is); (case noH0 => k_is); (case aHi => k_is); (case iHi => k_is); (case lHi => k_is); (case cHi => k_is); (case kHi => k_is); (case aHf => k_is); (case iHf => k_is); (case lHf => k_is); (case cHf => k_is); (case kHf => k_is); (case slH => k_is); (case nlH => first | rfl | decide | k_is); (case a1 => k_is); (case l1 => k_is); (case c1 => k_is); (case k1 => k_is); (case a2 => k_is); (case l2 => k_is); (case c2 => k_is); (case k2 => k_is); (case a3 => k_is); (case l3 => k_is); (case c3 => k_is); (case k3 => k_is); (case a4 => k_is); (case l4 => k_is); (case c4 => k_is); (case k4 => k_is); (case a5 => k_is); (case l5 => k_is); (case c5 => k_is); (case k5 => k_is); (case a6 => k_is); (case l6 => k_is); (case c6 => k_is); (case k6 => k_is); (case a7 => k_is); (case l7 => k_is); (case c7 => k_is); (case k7 => k_is); (case a8 => k_is); (case l8 => k_is); (case c8 => k_is); (case k8 => k_is); (case z1 => k_is); (case z2 => k_is); (case z3 => k_is); (case z4 => k_is); (case z5 => k_is); (case z6 => k_is); (case z7 => k_is); (case z8 => k_is); (case z9 => k_is); (case z10 => k_is)
