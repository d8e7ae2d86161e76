import PyProof.Rows.All
import Wide.All
import OpenK.AllK
import Wide.FinOn
import HandS.Base
import HandS.Call
import HandS.List
import HandS.Comp
import HandS.Ends
import HandS.Words
import HandS.Star
import PyProof.Rows.RegFStrParts
import HandS.Zip
import KE.GoesEnum
import KE.KTupSum
import HandS.Walk
import HandS.ForMost
import HandS.Codes
import HandS.Style
import HandS.TupAny
import HandS.TupMul
import HandS.Conv
import HandS.IsInst
import KE.GoesEnumKw
import PySem.Challenge.RW_darkdrawers_k03_collections_judged
set_option Elab.async false
set_option linter.all false
set_option maxRecDepth 100000
namespace DD
open PySem PySem.Spec PyProof.Rows L2

/-! ### a def's promise where no repr is under way (A.guards = some []) -/
structure FnG (P : Program) (w : World) (K : PySem.W.Frag) (mg : Str → Option Value) (base : Heap) (k : Nat) (f : Addr)
    (fd : FuncData) (ps : List Str) (sp : Sp) : Prop where
  arity : ∀ vs H Q E, sp vs H Q E → vs.length = ps.length
  go : ∀ (A : Around), A.guards = some [] → Room k A → ∀ (outer : List Env) (s : Shared) (H : Hp) (args : Args) (us : List Value)
    (vs : List V) (Q : VK) (E : XK), Env0 P w K mg base A outer s H → BindsTo s fd args (ps.zip us) → Vals vs us → sp vs H Q E →
    codeAny (model P w) A (.call (.ref f) args) (CR CX0 outer P w H s Q E) s

section
variable {P : Program} {w : World} {K : PySem.W.Frag} {mg : Str → Option Value} {base : Heap} {k : Nat} {f : Addr} {fd : FuncData}
  {ps : List Str} {sp : Sp}
theorem FnG.up {j : Nat} (F : FnG P w K mg base j f fd ps sp) (h : j ≤ k) : FnG P w K mg base k f fd ps sp :=
  ⟨F.arity, fun A hg hr => F.go A hg (hr.mono h)⟩

theorem fnG_of {x qual : Str} {st : Stmt} {N : List Str} (F : Fun K x qual st f fd) (S : FnScope N ps (defScope st))
    (ar : ∀ vs H Q E, sp vs H Q E → vs.length = ps.length)
    (bd : ∀ (cdv : Value) (A : Around), A.guards = some [] → ∀ (outer : List Env) (s : Shared) (H : Hp) (vs : List V) (Q : VK) (E : XK),
      Room k (A.deeper (envOfC qual (defScope st) s.heap.objs.size f cdv)) → sp vs H Q E →
      ∃ t, PSs (cxOf CX0 P w K mg base N qual (defScope st) f cdv A outer s H E).nox (defBody st) t ∧
        t { nx := fun _ H' => Q .non H', rt := Q } (start N vs) H) : FnG P w K mg base (k + 1) f fd ps sp := by
  obtain ⟨oc, od, kV, doc, pm, an, cdv, ct, osl, rfl, lk, hcd⟩ := F.ex
  refine ⟨ar, fun A hgu hr outer s H args us vs Q E e0 hb rv hsp => ?_⟩
  have nl := ar _ _ _ _ hsp
  have kin : K.In s.heap := e0.mod.kin.keeps fun b o e => (e0.bs b o e).1
  have nolim : s.heap.NoLimit := e0.mod.nolimit.keeps fun b o e => (e0.bs b o e).1
  have kinds : ∀ y ∈ ps.zip us, (defScope st).names.lookup y.1 = some .local ∨ ((defScope st).names.lookup y.1 = some .cell ∧
      ((cellsFrom (s.heap.objs.size + 1) (defScope st).names []).lookup y.1).isSome = true) := by
    rintro ⟨n, v⟩ hy
    rcases S.par n (List.of_mem_zip hy).1 with q | q
    · exact .inl q
    · exact .inr ⟨q, PySem.W.cellsFrom_some _ _ _ (.inl q)⟩
  refine codeAny_call_function hr.depth (kin _ _ lk) rfl S.co S.gen rfl (PySem.W.codeRec_of kin hcd) (hb _ _ _ _ ?_)
  refine wpAny_newFunctionEnv_cells S.kind kinds fun env he s1 xx => ?_
  subst he
  refine ⟨nolim.keeps xx.toInCall.keep, codeAny_func ?_⟩
  obtain ⟨t, ht0, hq⟩ := bd cdv A hgu outer s H vs Q E (hr.deeper _) hsp
  have ht := ht0.nox
  have I0 := inv_start (CX := CX0) (E := E) S hr.hd e0 nl rv xx
  refine wpAny_mono (ht.run [] s1 (start N vs) H _ I0 hq) (fun fl s' hs => ?_) fun e s' hs => hs
  cases fl with
  | ret u =>
    obtain ⟨v, σ', H', J, r2, q⟩ := hs
    exact ⟨v, H', J.os, J.bare, J.base, J.hok, r2, q⟩
  | next =>
    obtain ⟨σ', H', J, q⟩ := hs
    exact ⟨V.non, H', J.os, J.bare, J.base, J.hok, rfl, q⟩
  | brk =>
    obtain ⟨_, _, _, q⟩ := hs
    exact q.elim
  | cont =>
    obtain ⟨_, _, _, q⟩ := hs
    exact q.elim
end

section
variable {X : Cx} {k : Nat} {f : Addr} {fd : FuncData} {ps : List Str} {sp : Sp} {x : Str} {p pos : Pos} {e : Expr} {es : List Expr} {t : TA}
theorem pe_callG (F : FnG X.prog X.w X.K X.mg X.base k f fd ps sp) (hgu : X.A.guards = some []) (hr : Room k X.A) (hg : Gl X x)
    (hm : X.mg x = some (.ref f)) (hk : PySem.W.keepIn X.K (.ref f) = true) (hb : Binds X.K fd ps [])
    (ha : PA X (e :: es) t) (hdb : (x == ("__debug__" : Str)) = false := by decide)
    (he : starEach (e :: es) X.env = (false, eval e X.env) :: starEach es X.env := by rfl)
    (hpl : (backTo pos (starEach es X.env)).any (·.1) = false := by rfl) :
    PE X (.Call (.Name x p) (e :: es) [] pos) (tCall sp [] E0 t) := by
  refine ⟨fun pins s σ H Q I h => wpAny_Call_Name_kw (ld_glob I hg hm ?_ hdb)⟩
  refine PySem.W.callWith_K (h₀ := X.base) I.ok.mod.kin hk
    (thn (ha.run pos pins s σ H _ I h) fun us s1 ⟨vs, H1, I1, r, q⟩ => ⟨I1.kIn, ?_⟩) he hpl
  have q : sp (vs ++ []) H1 Q E0 := q
  rw [List.append_nil] at q
  have hl : (us ++ []).length = ps.length := by rw [List.append_nil, ← r.length]; exact F.arity _ _ _ _ q
  have hbb := hb s1 us I1.kIn hl
  rw [List.append_nil] at hbb
  refine wpAny_call (codeAny_mono (F.go X.A hgu hr X.stack s1 H1 ⟨us, []⟩ us vs Q E0 I1.env0 hbb r q) fun r s' hq => ?_)
  cases r with
  | error e => exact hq.elim
  | ok fl =>
    cases fl with
    | ret u => exact I1.after hq
    | next => exact hq.elim
    | brk => exact hq.elim
    | cont => exact hq.elim
end

/-! ### repr of data -/
mutual
theorem dp_nodict {K : PySem.W.Frag} {H : Hp} : ∀ (d : PyData) (v : V), Dp K H v d → d.hasDict = false
  | .none, _, _ => rfl
  | .bool _, _, _ => rfl
  | .int _, _, _ => rfl
  | .str _, _, _ => rfl
  | .list ds, _, h => by
    cases h with
    | lst _ a => exact dps_nodict ds _ a
  | .tuple ds, _, h => by
    cases h with
    | tup _ a => exact dps_nodict ds _ a
  | .dict _, _, h => by cases h
theorem dps_nodict {K : PySem.W.Frag} {H : Hp} : ∀ (ds : List PyData) (vs : List V), DpAll K H vs ds → PyData.hasDictAll ds = false
  | [], _, _ => rfl
  | d :: ds, _, h => by
    cases h with
    | cons a b =>
      show (d.hasDict || PyData.hasDictAll ds) = false
      rw [dp_nodict d _ a, dps_nodict ds _ b]
      rfl
end

/-- data that is small: what repr and == ask of it -/
structure Sm (wt dp : Nat) (d : PyData) : Prop where
  lay : d.canLay0 = true
  short : d.intsShort 13 = true
  show_ : d.showable = true
  wt : d.weight ≤ wt
  dp : d.depth ≤ dp
structure SmA (n wt dp : Nat) (ds : List PyData) : Prop where
  len : ds.length ≤ n
  lay : PyData.canLayAll0 ds = true
  short : PyData.intsShortAll 13 ds = true
  show_ : PyData.showableAll ds = true
  wt : PyData.weightAll ds ≤ ds.length * (wt + 1)
  dp : PyData.depthAll ds ≤ dp
theorem SmA.nil {n wt dp : Nat} : SmA n wt dp [] := ⟨Nat.zero_le _, rfl, rfl, rfl, by simp [PyData.weightAll], Nat.zero_le _⟩
theorem SmA.cons {n wt dp : Nat} {d : PyData} {ds : List PyData} (a : Sm wt dp d) (b : SmA n wt dp ds) : SmA (n + 1) wt dp (d :: ds) where
  len := Nat.succ_le_succ b.len
  lay := by show (d.canLay0 && _) = true; rw [a.lay, b.lay]; rfl
  short := by show (d.intsShort 13 && _) = true; rw [a.short, b.short]; rfl
  show_ := by show (d.showable && _) = true; rw [a.show_, b.show_]; rfl
  wt := by
    have h1 := a.wt
    have h2 := b.wt
    show d.weight + 1 + PyData.weightAll ds ≤ (ds.length + 1) * (wt + 1)
    rw [Nat.succ_mul]
    omega
  dp := Nat.max_le.mpr ⟨a.dp, b.dp⟩
theorem SmA.all {wt dp : Nat} : ∀ {ds : List PyData}, (∀ d ∈ ds, Sm wt dp d) → SmA ds.length wt dp ds
  | [], _ => .nil
  | d :: ds, h => .cons (h d List.mem_cons_self) (SmA.all fun x hx => h x (List.mem_cons_of_mem _ hx))
theorem Sm.up {w1 w2 k1 k2 : Nat} {d : PyData} (a : Sm w1 k1 d) (h : w1 ≤ w2) (hk : k1 ≤ k2) : Sm w2 k2 d :=
  ⟨a.lay, a.short, a.show_, Nat.le_trans a.wt h, Nat.le_trans a.dp hk⟩
theorem SmA.len_le {n wt dp : Nat} {ds : List PyData} (b : SmA n wt dp ds) : PyData.weightAll ds ≤ n * (wt + 1) :=
  Nat.le_trans b.wt (Nat.mul_le_mul_right _ b.len)
theorem SmA.tup {n wt dp : Nat} {ds : List PyData} (b : SmA n wt dp ds) : Sm (n * (wt + 1)) (dp + 1) (.tuple ds) :=
  ⟨b.lay, b.short, b.show_, b.len_le, Nat.succ_le_succ b.dp⟩
theorem SmA.lst {n wt dp : Nat} {ds : List PyData} (b : SmA n wt dp ds) : Sm (n * (wt + 1)) (dp + 1) (.list ds) :=
  ⟨b.lay, b.short, b.show_, b.len_le, Nat.succ_le_succ b.dp⟩
theorem log2_lt_of {n : Nat} (h : n < 4096) : n.log2 ≤ 11 := by
  by_cases h0 : n = 0
  · subst h0; decide
  · have := (Nat.log2_lt h0 (k := 12)).mpr (by omega)
    omega
theorem Sm.int {i : Int} (h0 : 0 ≤ i) (h : i < 4096) : Sm 13 0 (.int i) where
  lay := rfl
  short := by
    refine decide_eq_true ?_
    have e := int_text_length_le (a := i) (k := 12) (by decide) (by have := log2_lt_of (n := i.natAbs) (by omega); omega)
    show (Str.ofString (toString i)).length ≤ 13
    rw [PySem.ofString_length]
    omega
  show_ := decide_eq_true (by have := log2_lt_of (n := i.natAbs) (by omega); omega)
  wt := by
    have := log2_lt_of (n := i.natAbs) (by omega)
    show (if i == 0 then 0 else i.natAbs.log2 + 1) ≤ 13
    split
    · omega
    · omega
  dp := Nat.le_refl _
theorem Sm.size {wt dp : Nat} {d : PyData} (a : Sm wt dp d) (h : wt ≤ 1048576) : d.shown.length ≤ sizeLine := by
  have h2 := PyData.shown_le 13 (by decide) d (PyData.leavesShort_of_canLay0 13 d a.lay a.short)
  have h3 := a.wt
  rw [sizeLine_eq]
  omega
theorem Sm.shaped {wt dp : Nat} {d : PyData} (a : Sm wt dp d) (h : dp ≤ 64) : SeqAt.shaped d = true := by
  show (d.canLay0 && decide (d.depth ≤ 64)) = true
  rw [a.lay, decide_eq_true (Nat.le_trans a.dp h)]
  rfl

/-- repr of a list or tuple of data: its text -/
theorem call_reprD {X : Cx} (hg : X.A.guards = some []) (hu : X.A.units + 66 < cLine) : CallR X (.builtin "repr") (fun xs H Q =>
    ∃ a d wt, xs = [.ref a] ∧ Dp X.K H (.ref a) d ∧ Sm wt 64 d ∧ wt ≤ 1048576 ∧ Q (.str d.shown) H) := by
  intro pins s σ H xs us Q I r h
  obtain ⟨a, d, wt, rfl, hd, sm, hw, q⟩ := h
  obtain ⟨u, rfl, ru⟩ := vals1 r
  cases ru
  obtain ⟨as, rd⟩ := Dp.reads I d _ _ hd rfl
  have hdp := sm.dp
  exact repr_of_reads' rd sm.show_ (PyData.noDict_hsm (dp_nodict d _ hd)) hg (by omega) (fun _ _ e => e)
    (fun h' u tk hk => ⟨.str d.shown, H, I.kept hk, ⟨_, rfl⟩, q⟩) (sm.size hw)
end DD
namespace DD
open PySem PySem.Spec PyProof.Rows L2

/-! ### the end of a law whose def keeps its promise where no repr is under way -/
section
variable {P : Program} {w : World} {K : PySem.W.Frag} {mg mb : Str → Option Value} {k : Nat} {fa a : Addr} {fd : FuncData} {x : Str} {sp : Sp}
  {s1 : Shared} {vs : List Value} {ns : List Int}
theorem law_goG (kin : K.In s1.heap) (nsG : s1.heap.Ns mainGlobals mg) (nsB : s1.heap.Ns builtinsNs mb)
    (blt : ∀ x : Str, x ≠ "__name__" → mb x = bootBuiltins x) (nolim : s1.heap.NoLimit) (ng : s1.gens = #[])
    (oa : s1.heap.get? a = some { cls := .type "list", data := .seq vs.toArray }) (ia : IntsAre vs ns) (len : ns.length ≤ sizeLine)
    (room : Room k callerA) (F : ∀ base : Heap, K.In base → base.Ns mainGlobals mg → FnG P w K mg base k fa fd [x] sp)
    (bind : ∀ (s : Shared) (u : Value), BindsTo s fd ⟨[u], []⟩ [(x, u)])
    (wish : ∀ H : Hp, Only H → SqL K H a (ns.map V.int) → sp [.ref a] H (fun v _ => v = .bl true) fun _ _ _ => False) :
    codeAny (model P w) callerA (.call (.ref fa) ⟨[.ref a], []⟩)
      (fun r s' => r = .ok (.ret (.bool true)) ∧ OldK s1.heap s'.heap ∧ s'.os = s1.os ∧ AllBare s'.gens) s1 := by
  have rv := vals_ints ia
  have lv := ia.length
  -- the run, from an abstract heap that tracks at most the script
  have main : ∀ H : Hp, Only H → SqL K H a (ns.map V.int) → HOk P w H s1.heap → (∀ b, H b ≠ none → b = a) → (H a ≠ none → K.lookup a = none) →
      codeAny (model P w) callerA (.call (.ref fa) ⟨[.ref a], []⟩)
        (fun r s' => r = .ok (.ret (.bool true)) ∧ OldK s1.heap s'.heap ∧ s'.os = s1.os ∧ AllBare s'.gens) s1 := by
    intro H onl hS ok only noK
    have free : ∀ {b : Addr} {o : Obj} {es : Array DictEntry} {ep : Nat}, s1.heap.get? b = some o → o.data = .dict es ep → H b = none := by
      intro b o es ep e d
      cases q : H b with
      | none => rfl
      | some u =>
        obtain rfl := only b (by rw [q]; simp)
        rw [oa] at e
        cases e
        exact nomatch (show Data.seq vs.toArray _ = Data.dict es ep from d)
    have nsOf : ∀ {b : Addr} {m : Str → Option Value}, s1.heap.Ns b m → (hidT s1.heap H).Ns b m := by
      rintro b m ⟨o, es, ep, e, d, r⟩
      exact ⟨o, es, ep, hidT_get e (free e d), d, r⟩
    have kin0 : K.In (hidT s1.heap H) := fun b o e => hidT_get (kin b o e) (by
      cases q : H b with
      | none => rfl
      | some u =>
        obtain rfl := only b (by rw [q]; simp)
        rw [noK (by rw [q]; simp)] at e
        cases e)
    obtain ⟨mc, c1, c2⟩ := nolim
    have md : Mod K mg (hidT s1.heap H) := ⟨kin0, nsOf nsG, ⟨mb, nsOf nsB, blt⟩, mc, nsOf c1, c2⟩
    have e0 : Env0 P w K mg (hidT s1.heap H) callerA [] s1 H :=
      ⟨rfl, md, fun b o e => of_hidT e, Nat.le_of_eq (hidT_size _ _), trivial, fun b z => (nomatch (show b ∈ ([] : List Addr) from z)), ok, .of_eq ng⟩
    have ran := (F _ kin0 (nsOf nsG)).go callerA rfl room [] s1 H ⟨[.ref a], []⟩ [.ref a] [.ref a] _ _ e0 (bind s1 (.ref a)) (.cons rfl .nil) (wish H onl hS)
    refine codeAny_mono ran fun r s' h => ?_
    match r, h with
    | .ok (.ret u), h =>
      obtain ⟨v, H', eos, br, un, ok', r', q⟩ := h
      obtain rfl : v = .bl true := q
      obtain rfl : u = Value.bool true := r'
      refine ⟨rfl, OldK.of_keep fun b o e => ?_, eos, br⟩
      cases q : H b with
      | none => exact un.keep b o e q (fun z => nomatch (show b ∈ ([] : List Addr) from z)) (by simp)
      | some u =>
        rcases onl b with z | ⟨ob, xs, z⟩
        · rw [q] at z
          cases z
        · have e1 := (ok b _ z).1
          rw [e] at e1
          cases e1
          exact (ok' b _ (un.frzs b _ _ z)).1
  cases hk : K.lookup a with
  | some o =>
    -- the script is one of the module's own objects
    have e := kin a o hk
    rw [oa] at e
    cases e
    have hsz : vs.toArray.size ≤ sizeLine := by
      rw [List.size_toArray, lv]
      exact len
    exact main (fun _ => none) (fun _ => .inl rfl) (.inr ⟨_, vs.toArray, _, hk, rfl, rfl, rfl, hsz, by simpa using rv⟩)
      (fun b u z => nomatch (show (none : Option HO) = some u from z)) (fun b z => absurd rfl z) fun z => absurd rfl z
  | none =>
    let fr : HO := .frz { cls := .type "list", data := .seq vs.toArray } (.lst (ns.map V.int))
    have at_ : (fun b => if b = a then some fr else none : Hp) a = some fr := if_pos rfl
    have else_ : ∀ b, b ≠ a → (fun b => if b = a then some fr else none : Hp) b = none := fun b hb => if_neg hb
    refine main (fun b => if b = a then some fr else none) (fun b => ?_) (.inl (.inr ⟨_, at_⟩)) (fun b u z => ?_) (fun b z => ?_) fun _ => hk
    · by_cases hb : b = a
      · exact .inr ⟨_, _, if_pos hb⟩
      · exact .inl (else_ b hb)
    · by_cases hb : b = a
      · subst hb
        cases at_.symm.trans z
        exact ⟨oa, by rw [List.length_map]; exact len, vs, _, rv, oa⟩
      · exact nomatch (else_ b hb).symm.trans z
    · by_cases hb : b = a
      · exact hb
      · exact absurd (else_ b hb) z
end

theorem walk_ofG {l : PySem.W.OpenLaw} {n k : Nat} {q : Program} {loose : List Str} {XP : (Str → Option Value) → Heap → Prop} {YP : World → Heap → Prop}
    {d : DefRec} {K : Params → PySem.W.Frag} {sp : World → Sp} {x : Str} (most : l.most = some n) (n_le : n ≤ sizeLine) (nodef : d.params.defaults = [])
    (room : Room k callerA) (kin : ∀ (w : World) (h : Heap), YP w h → (K w.params).In h)
    (F : ∀ (w : World) (mg : Str → Option Value) (fa : Addr) (h : Heap), (K w.params).In h → h.Ns mainGlobals mg → mg d.name = some (.ref fa) →
      ∃ fd : FuncData, (∀ (s : Shared) (u : Value), BindsTo s fd ⟨[u], []⟩ [(x, u)]) ∧
        ∀ base : Heap, (K w.params).In base → base.Ns mainGlobals mg → FnG l.prog w (K w.params) mg base k fa fd [x] (sp w))
    (wish : ∀ (w : World) (H : Hp) (a : Addr) (ns : List Int), ns.length ≤ n → Only H → SqL (K w.params) H a (ns.map V.int) →
      sp w [.ref a] H (fun v _ => v = .bl true) fun _ _ _ => False) :
    PySem.W.WalkO q loose XP YP l.row.toRowW d [] (fun f vs => PySem.call f vs) := by
  refine Att.attach_call most nodef fun w s0 s1 mg mb fa o pm cd doc a vs ns G Y ho hd hcd hmg hobj hints hlen hg => ?_
  obtain ⟨fd, hb, hF⟩ := F w mg fa _ (kin w _ Y) G.T.g hmg
  exact law_goG (kin w _ Y) G.T.g G.T.b G.T.builtins G.T.nolimit hg hobj hints (Nat.le_trans hlen n_le) room hF hb
    fun H hO hS => wish w H a ns hlen hO hS
end DD
namespace DD
open PySem PySem.Spec PyProof.Rows L2
section
variable {M : Model} {A : Around} {E : Value → Shared → Prop}
theorem wp_forIn {α β : Type} (f : α → β → Sem (ForInStep β)) : ∀ (l : List α) (J : Nat → β → Shared → Prop),
    (∀ j x b s, l[j]? = some x → J j b s → wpAny M A (f x b) (fun r s' => ∃ b', r = .yield b' ∧ J (j + 1) b' s') E s) →
    ∀ (b : β) (s : Shared), J 0 b s → wpAny M A (forIn l b f) (fun b' s' => J l.length b' s') E s
  | [], J, step, b, s, h => by
    rw [List.forIn_nil]
    exact wpAny_pure h
  | x :: l, J, step, b, s, h => by
    rw [List.forIn_cons]
    refine wpAny_bind (wpAny_mono (step 0 x b s rfl h) (fun r s' hr => ?_) (fun _ _ e => e))
    obtain ⟨b', rfl, hJ⟩ := hr
    exact wp_forIn f l (fun j => J (j + 1)) (fun j y c s'' e hj => step (j + 1) y c s'' e hj) b' s' hJ
end

abbrev zObj (f0 f1 : Value) (TI TO : Addr) : Obj :=
  { cls := .type "zip", dict := none, data := .fields #[f0, f1, .bool false, .ref TI, .ref TO], slots := #[] }
abbrev tObj (vs : Array Value) : Obj := { cls := .type "tuple", data := .seq vs }
structure ZApart (z TI TO : Addr) (ps : List (Addr × Addr)) : Prop where
  tz : TI ≠ z
  oz : TO ≠ z
  it : TI ≠ TO
  nd : (ps.map (·.1)).Nodup
  pz : ∀ p ∈ ps, p.1 ≠ z ∧ p.1 ≠ TI ∧ p.1 ≠ TO ∧ p.2 ≠ z ∧ p.2 ≠ TO
  px : ∀ p ∈ ps, ∀ q ∈ ps, p.2 ≠ q.1
structure ZSt (h : Heap) (z TI TO : Addr) (ps : List (Addr × Addr)) (k : Nat) : Prop where
  zz : ∃ f0 f1, h.get? z = some (zObj f0 f1 TI TO) ∧ (f0 = .none ∨ ∃ a t, f0 = .int a t)
  ti : h.get? TI = some (tObj (ps.map fun p => Value.ref p.1).toArray)
  to : ∃ arr : Array Value, arr.size = ps.length ∧ h.get? TO = some (tObj arr)
  its : ∀ p ∈ ps, h.IsTupleIter p.1 p.2 k


/-- the objects but z, TO and the iterators stand; the first j iterators have turned -/
structure ZMid (g h : Heap) (z TO : Addr) (ps : List (Addr × Addr)) (k j : Nat) : Prop where
  size : h.objs.size = g.objs.size
  keep : ∀ c o, c ≠ z → c ≠ TO → (∀ p ∈ ps, c ≠ p.1) → g.get? c = some o → h.get? c = some o
  its : ∀ (i : Nat) (p : Addr × Addr), ps[i]? = some p → h.IsTupleIter p.1 p.2 (if i < j then k + 1 else k)

section
variable {prog : Program} {w : World} {A : Around} {E : Value → Shared → Prop} {s : Shared} {z TI TO : Addr} {ps : List (Addr × Addr)} {k : Nat}
theorem wp_alive {M : Model} {a : Addr} {Q : Option Obj → Shared → Prop} (h : Q (s.heap.get? a) s) : wpAny M A (loadIfAlive a) Q E s := fun _ _ _ => h
theorem ptr_ne {ps : List (Addr × Addr)} (nd : (ps.map (·.1)).Nodup) {i j : Nat} {p q : Addr × Addr} (hp : ps[i]? = some p) (hq : ps[j]? = some q) (h : i ≠ j) : p.1 ≠ q.1 := by
  intro e
  have e1 : (ps.map (·.1))[i]? = some p.1 := by rw [List.getElem?_map, hp] <;> rfl
  have e2 : (ps.map (·.1))[j]? = some p.1 := by rw [List.getElem?_map, hq, e] <;> rfl
  obtain ⟨l1, g1⟩ := List.getElem?_eq_some_iff.mp e1
  obtain ⟨l2, g2⟩ := List.getElem?_eq_some_iff.mp e2
  exact h ((List.getElem_inj nd).mp (g1.trans g2.symm))
theorem free_or {f0 f1 : Value} (hz : s.heap.get? z = some (zObj f0 f1 TI TO)) (hf0 : f0 = .none ∨ ∃ a t, f0 = .int a t) :
    wpAny (model prog w) A (Builtin.SmallTypes.ownedTupleIsFree (.ref z)) (fun b s' => (b = true ∧ s' = s) ∨
      (b = false ∧ ∃ h' f2, s' = { s with heap := h' } ∧ h'.get? z = some (zObj f0 f2 TI TO) ∧ Heap.SameBut z s.heap h')) E s := by
  unfold Builtin.SmallTypes.ownedTupleIsFree
  refine wpAny_bind (wpAny_field hz rfl (x := f0) rfl ?_)
  rcases hf0 with rfl | ⟨a, t, rfl⟩
  · exact wpAny_pure (.inl ⟨rfl, rfl⟩)
  · refine wpAny_bind (wp_alive ?_)
    cases ha : s.heap.get? a.toNat with
    | none => exact wpAny_pure (.inl ⟨rfl, rfl⟩)
    | some o =>
      simp only [Option.isNone_some, Bool.false_eq_true, if_false]
      refine wpAny_bind (wpAny_field hz rfl (x := f1) rfl ?_)
      by_cases hb : (f1 != Value.bool true) = true
      · rw [if_pos hb]
        refine wpAny_bind (wpAny_setField_rec hz (by simp) fun h1 hz1 hs1 => wpAny_pure (.inr ⟨rfl, h1, .bool true, rfl, hz1, hs1⟩))
      · rw [if_neg hb]
        exact wpAny_pure (.inr ⟨rfl, s.heap, f1, rfl, hz, Heap.SameBut.refl _ _⟩)
/-- one iterator's turn -/
theorem draw_one {g h : Heap} {j : Nat} {p : Addr × Addr} {xs : Array Value} {v : Value} {Q : Value → Shared → Prop} (D : ZApart z TI TO ps) (m : ZMid g h z TO ps k j)
    (hp : ps[j]? = some p) (hl : g.IsTuple p.2 xs) (hx : xs[k]? = some v)
    (hQ : ∀ h', ZMid g h' z TO ps k (j + 1) → Heap.SameBut p.1 h h' → Q v { s with heap := h' }) :
    wpAny (model prog w) A (Builtin.SmallTypes.nextOf (.ref p.1)) Q E { s with heap := h } := by
  have hm : p ∈ ps := List.mem_of_getElem? hp
  have h1 : h.IsTupleIter p.1 p.2 k := by
    have := m.its j p hp
    rwa [if_neg (Nat.lt_irrefl j)] at this
  have h2 : h.IsTuple p.2 xs := by
    obtain ⟨o, e, c⟩ := hl
    exact ⟨o, m.keep _ _ (D.pz p hm).2.2.2.1 (D.pz p hm).2.2.2.2 (fun q hq => D.px p hm q hq) e, c⟩
  refine RZ.nextOf_tuple_item (s := { s with heap := h }) h1 h2 hx fun h' hi hs => hQ h' ⟨hs.1.trans m.size, fun c o c1 c2 c3 e => ?_, fun i q hq => ?_⟩ hs
  · rw [hs.2 c (c3 p hm)]
    exact m.keep c o c1 c2 c3 e
  · by_cases hij : i = j
    · subst hij
      rw [hp] at hq
      cases hq
      rw [if_pos (Nat.lt_succ_self _)]
      exact hi
    · have hqi := m.its i q hq
      have hne := ptr_ne D.nd hq hp hij
      rw [show (if i < j + 1 then k + 1 else k) = (if i < j then k + 1 else k) by
        by_cases hlt : i < j
        · rw [if_pos hlt, if_pos (by omega)]
        · rw [if_neg hlt, if_neg (by omega)]]
      obtain ⟨o, e, c⟩ := hqi
      exact ⟨o, (hs.2 _ hne).trans e, c⟩
theorem ZMid.full {g h : Heap} (m : ZMid g h z TO ps k ps.length) : ∀ p ∈ ps, h.IsTupleIter p.1 p.2 (k + 1) := fun p hp => by
  obtain ⟨i, hi⟩ := List.mem_iff_getElem?.mp hp
  obtain ⟨hl, _⟩ := List.getElem?_eq_some_iff.mp hi
  have := m.its i p hi
  rwa [if_pos hl] at this

theorem zn_item {vs : List Value} {Q : Value → Shared → Prop} (D : ZApart z TI TO ps) (hn : 1 ≤ ps.length) (hn2 : ps.length ≤ 1000) (S : ZSt s.heap z TI TO ps k)
    (hv : vs.length = ps.length) (hi : ∀ (j : Nat) (p : Addr × Addr), ps[j]? = some p → ∃ xs, s.heap.IsTuple p.2 xs ∧ xs[k]? = vs[j]?)
    (hQ : ∀ h', ZSt h' z TI TO ps (k + 1) → h'.get? s.heap.objs.size = some (tObj vs.toArray) → h'.objs.size = s.heap.objs.size + 1 →
      (∀ c o, c ≠ z → c ≠ TO → (∀ p ∈ ps, c ≠ p.1) → s.heap.get? c = some o → h'.get? c = some o) → Q (.ref s.heap.objs.size) { s with heap := h' }) :
    wpAny (model prog w) A (Builtin.«zip.__next__» ⟨[.ref z], []⟩) (fun fin s' => ∃ v, fin = .done (.ret v) ∧ Q v s') E s := by
  obtain ⟨⟨f0, f1, hz, hf0⟩, hTI, ⟨arr, ha, hTO⟩, hits⟩ := S
  show wpAny _ _ (field (.ref z) 2 >>= _) _ _ _
  refine wpAny_bind (wpAny_field hz rfl (x := .bool false) rfl ?_)
  show wpAny _ _ (field (.ref z) 3 >>= _) _ _ _
  refine wpAny_bind (wpAny_field hz rfl (x := .ref TI) rfl ?_)
  refine wpAny_bind (wpAny_seqItems hTI rfl ?_)
  have hne : (ps.map fun p => Value.ref p.1).toArray.isEmpty = false := by
    cases ps with
    | nil => simp at hn
    | cons p r => rfl
  simp only [hne, Bool.false_eq_true, if_false]
  have m0 : ∀ h, Heap.SameBut z s.heap h → ZMid s.heap h z TO ps k 0 := fun h hs =>
    ⟨hs.1, fun c o c1 _ _ e => (hs.2 c c1).trans e, fun i p hp => by
      rw [if_neg (Nat.not_lt_zero _)]
      have hm := List.mem_of_getElem? hp
      obtain ⟨o, e, c⟩ := hits p hm
      exact ⟨o, (hs.2 _ (D.pz p hm).1).trans e, c⟩⟩
  refine wpAny_bind (wpAny_mono (free_or hz hf0) (fun b s' hb => ?_) fun _ _ e => e)
  rcases hb with ⟨rfl, rfl⟩ | ⟨rfl, h1, f2, rfl, hz1, hs1⟩
  · simp only [if_true]
    refine wpAny_bind (wpAny_rule ?_)
    refine wpAny_bind (wpAny_field hz rfl (x := .ref TO) rfl ?_)
    refine wpAny_bind (wpAny_setField_rec hz (by simp) fun h1 hz1 hs1 => ?_)
    replace hz1 : h1.get? z = some (zObj .ellipsis f1 TI TO) := hz1
    have nTI : ∀ p ∈ ps, TI ≠ p.1 := fun p hp q => (D.pz p hp).2.1 q.symm
    refine wpAny_bind (thn (wp_forIn _ _ (fun j b s2 => b = (none, ()) ∧ ∃ (h : Heap) (a2 : Array Value), s2 = { s' with heap := h } ∧ ZMid s'.heap h z TO ps k j ∧
      h.get? z = some (zObj .ellipsis f1 TI TO) ∧ a2.size = ps.length ∧ (∀ i, i < j → a2[i]? = vs[i]?) ∧ h.get? TO = some (tObj a2)) ?step _ _ ?init) fun b s2 hb => ?last)
    case init => exact ⟨rfl, h1, arr, rfl, m0 h1 hs1, hz1, ha, fun i hi => absurd hi (Nat.not_lt_zero _), (hs1.2 _ D.oz).trans hTO⟩
    case step =>
      rintro j x b s2 hx ⟨rfl, h, a2, rfl, m, hz2, hs2, pre, hTO2⟩
      rw [List.getElem?_zipIdx, List.getElem?_map] at hx
      cases hp : ps[j]? with
      | none =>
        rw [hp] at hx
        cases hx
      | some p =>
        rw [hp] at hx
        obtain rfl : (Value.ref p.1, 0 + j) = x := Option.some.inj hx
        obtain ⟨xs, hl, hxk⟩ := hi j p hp
        have hm : p ∈ ps := List.mem_of_getElem? hp
        have hj : j < ps.length := (List.getElem?_eq_some_iff.mp hp).1
        have hjv : vs[j]? = some (vs[j]'(by omega)) := List.getElem?_eq_getElem (by omega)
        refine wpAny_bind (wpAny_onRaise ?_)
        show wpAny _ _ (Builtin.SmallTypes.nextOf (.ref p.1) >>= _) _ _ _
        refine wpAny_bind (draw_one D m hp hl (hxk.trans hjv) fun h' m' hs' => wpAny_pure ?_)
        have hTO' : h'.get? TO = some (tObj a2) := (hs'.2 _ (D.pz p hm).2.2.1.symm).trans hTO2
        refine wpAny_bind (wpAny_seqItems hTO' rfl ?_)
        have hb1 : a2.size ≤ sizeLine := by rw [hs2, sizeLine_eq]; omega
        refine wpAny_bind (wpAny_updateSeq hTO' rfl ?_ hb1 (by rw [Array.size_setIfInBounds, hs2, sizeLine_eq]; omega))
        have sb := Heap.SameBut.update h' TO (Obj.mapSeq fun x => x.setIfInBounds (0 + j) (vs[j]'(by omega)))
        refine wpAny_bind (wpAny_letGo (wpAny_pure ⟨_, rfl, rfl, _, a2.setIfInBounds j (vs[j]'(by omega)), rfl, ⟨sb.1.trans m'.size, fun c o c1 c2 c3 e => (sb.2 c c2).trans (m'.keep c o c1 c2 c3 e), fun i q hq => ?_⟩, ?_, ?_, fun i hij => ?_, ?_⟩))
        · obtain ⟨o, e, c⟩ := m'.its i q hq
          exact ⟨o, (sb.2 _ (D.pz q (List.mem_of_getElem? hq)).2.2.1).trans e, c⟩
        · rw [sb.2 z D.oz.symm, hs'.2 z (D.pz p hm).1.symm]
          exact hz2
        · rw [Array.size_setIfInBounds]
          exact hs2
        · rw [Array.getElem?_setIfInBounds]
          by_cases e : j = i
          · subst e
            rw [if_pos rfl, if_pos (by omega)]
            exact hjv.symm
          · rw [if_neg e]
            exact pre i (by omega)
        · rw [Heap.get?_update_self _ hTO' rfl, Nat.zero_add]
          simp [Obj.mapSeq]
    case last =>
      obtain ⟨rfl, h, a2, rfl, m, hz2, hs2, pre, hTO2⟩ := hb
      rw [List.length_zipIdx, List.length_map] at m pre
      have ea : a2 = vs.toArray := by
        refine Array.ext_getElem? fun i => ?_
        by_cases hlt : i < ps.length
        · rw [pre i hlt, List.getElem?_toArray]
        · rw [Array.getElem?_eq_none (by omega), List.getElem?_toArray, List.getElem?_eq_none (by omega)]
      subst ea
      show wpAny _ _ (seqItems? (.ref TO) >>= _) _ _ _
      refine wpAny_bind (wpAny_seqItems hTO2 rfl ?_)
      refine wpAny_bind (wpAny_newTuple ?_ (by show vs.length ≤ _; rw [sizeLine_eq]; omega))
      show wpAny _ _ (Builtin.SmallTypes.ownedTupleHandOut (.ref z) (.ref h.objs.size) >>= _) _ _ _
      refine wpAny_bind ?_
      unfold Builtin.SmallTypes.ownedTupleHandOut
      have hzp : (h.push (tObj vs.toArray)).get? z = some (zObj .ellipsis f1 TI TO) := Heap.get?_push_of_some _ hz2
      refine wpAny_bind (wpAny_setField_rec hzp (by simp) fun h3 hz3 hs3 => ?_)
      replace hz3 : h3.get? z = some (zObj (rawInt h.objs.size) f1 TI TO) := hz3
      refine wpAny_setField_rec hz3 (by simp) fun h4 hz4 hs4 => ?_
      replace hz4 : h4.get? z = some (zObj (rawInt h.objs.size) (.bool false) TI TO) := hz4
      have hzlt : z < h.objs.size := Heap.lt_size hz2
      have up : ∀ c o, c ≠ z → h.get? c = some o → h4.get? c = some o := fun c o c1 e =>
        (hs4.2 c c1).trans ((hs3.2 c c1).trans (Heap.get?_push_of_some _ e))
      refine wpAny_pure ⟨_, rfl, ?_⟩
      show Q (.ref h.objs.size) _
      have key := hQ h4 ⟨⟨_, _, hz4, .inr ⟨_, _, rfl⟩⟩, up _ _ D.tz (m.keep TI _ D.tz D.it nTI hTI), ⟨_, hs2, up _ _ D.oz hTO2⟩, fun p hp => ?_⟩ ?_ ?_ fun c o c1 c2 c3 e => up c o c1 (m.keep c o c1 c2 c3 e)
      · rw [m.size]
        exact key
      · obtain ⟨o, e, c⟩ := m.full p hp
        exact ⟨o, up _ _ (D.pz p hp).1 e, c⟩
      · rw [← m.size, hs4.2 _ (Nat.ne_of_gt hzlt), hs3.2 _ (Nat.ne_of_gt hzlt)]
        exact Heap.get?_push_size _ rfl
      · rw [hs4.1, hs3.1, Heap.size_push, m.size]
  · simp only [Bool.false_eq_true, if_false, List.forIn_toArray]
    have nTI : ∀ p ∈ ps, TI ≠ p.1 := fun p hp q => (D.pz p hp).2.1 q.symm
    refine wpAny_bind (thn (wp_forIn _ _ (fun j b s2 => b = (none, (vs.take j).toArray) ∧ ∃ (h : Heap), s2 = { s with heap := h } ∧ ZMid s.heap h z TO ps k j ∧
      h.get? z = some (zObj f0 f2 TI TO) ∧ h.get? TO = some (tObj arr)) ?step _ _ ?init) fun b s2 hb => ?last)
    case init => exact ⟨rfl, h1, rfl, m0 h1 hs1, hz1, (hs1.2 _ D.oz).trans hTO⟩
    case step =>
      rintro j x b s2 hx ⟨rfl, h, rfl, m, hz2, hTO2⟩
      rw [List.getElem?_map] at hx
      cases hp : ps[j]? with
      | none =>
        rw [hp] at hx
        cases hx
      | some p =>
        rw [hp] at hx
        obtain rfl : Value.ref p.1 = x := Option.some.inj hx
        obtain ⟨xs, hl, hxk⟩ := hi j p hp
        have hm : p ∈ ps := List.mem_of_getElem? hp
        have hj : j < ps.length := (List.getElem?_eq_some_iff.mp hp).1
        have hjv : vs[j]? = some (vs[j]'(by omega)) := List.getElem?_eq_getElem (by omega)
        refine wpAny_bind (wpAny_holding ?_)
        show wpAny _ _ (Builtin.SmallTypes.nextOf (.ref p.1) >>= _) _ _ _
        refine wpAny_bind (draw_one D m hp hl (hxk.trans hjv) fun h' m' hs' => wpAny_pure (wpAny_pure ⟨_, rfl, ?_, h', rfl, m', ?_, ?_⟩))
        · rw [List.take_add_one, hjv]
          simp
        · exact (hs'.2 z (D.pz p hm).1.symm).trans hz2
        · exact (hs'.2 _ (D.pz p hm).2.2.1.symm).trans hTO2
    case last =>
      obtain ⟨rfl, h, rfl, m, hz2, hTO2⟩ := hb
      rw [List.length_map] at m
      rw [List.length_map, List.take_of_length_le (by omega)]
      have hsz : vs.length ≤ sizeLine := by rw [sizeLine_eq]; omega
      show wpAny _ _ (newTuple vs.toArray.toList >>= _) _ _ _
      refine wpAny_bind (wpAny_newTuple ?_ (by simpa using hsz))
      refine wpAny_pure ⟨_, rfl, ?_⟩
      have up : ∀ c o, h.get? c = some o → (h.push (tObj vs.toArray)).get? c = some o := fun c o e => Heap.get?_push_of_some _ e
      have key := hQ (h.push (tObj vs.toArray)) ⟨⟨_, _, up _ _ hz2, hf0⟩, up _ _ (m.keep TI _ D.tz D.it nTI hTI), ⟨_, ha, up _ _ hTO2⟩, fun p hp => ?_⟩ ?_ ?_ fun c o c1 c2 c3 e => up c o (m.keep c o c1 c2 c3 e)
      · show Q (.ref h.objs.size) _
        rw [m.size]
        exact key
      · obtain ⟨o, e, c⟩ := m.full p hp
        exact ⟨o, up _ _ e, c⟩
      · rw [← m.size]
        exact Heap.get?_push_size _ rfl
      · rw [Heap.size_push, m.size]
end
end DD
namespace DD
open PySem PySem.Spec PyProof.Rows L2
section
variable {prog : Program} {w : World} {A : Around} {E : Value → Shared → Prop} {s : Shared} {z TI TO : Addr} {ps : List (Addr × Addr)} {k : Nat}
theorem zn_end {Q : Fin → Shared → Prop} (hh : A.handled = none) (D : ZApart z TI TO ps) (S : ZSt s.heap z TI TO ps k) {p : Addr × Addr} {r : List (Addr × Addr)} {xs : Array Value}
    (hps : ps = p :: r) (hl : s.heap.IsTuple p.2 xs) (hx : xs[k]? = none)
    (hE : ∀ h' e, (∀ c o, c ≠ z → c ≠ TO → (∀ p ∈ ps, c ≠ p.1) → s.heap.get? c = some o → h'.get? c = some o) →
      (∃ o, h'.get? e = some o ∧ o.cls = .type "StopIteration") → E (.ref e) { s with heap := h' }) :
    wpAny (model prog w) A (Builtin.«zip.__next__» ⟨[.ref z], []⟩) Q E s := by
  obtain ⟨⟨f0, f1, hz, hf0⟩, hTI, ⟨arr, ha, hTO⟩, hits⟩ := S
  have hm : p ∈ ps := by rw [hps]; exact List.mem_cons_self
  show wpAny _ _ (field (.ref z) 2 >>= _) _ _ _
  refine wpAny_bind (wpAny_field hz rfl (x := .bool false) rfl ?_)
  show wpAny _ _ (field (.ref z) 3 >>= _) _ _ _
  refine wpAny_bind (wpAny_field hz rfl (x := .ref TI) rfl ?_)
  refine wpAny_bind (wpAny_seqItems hTI rfl ?_)
  have hne : (ps.map fun p => Value.ref p.1).toArray.isEmpty = false := by
    rw [hps]
    rfl
  simp only [hne, Bool.false_eq_true, if_false]
  have it1 := hits p hm
  have kz : ∀ h1, Heap.SameBut z s.heap h1 → h1.IsTupleIter p.1 p.2 k ∧ h1.IsTuple p.2 xs := fun h1 hs1 =>
    ⟨by obtain ⟨o, e, c⟩ := it1; exact ⟨o, (hs1.2 _ (D.pz p hm).1).trans e, c⟩, by obtain ⟨o, e, c⟩ := hl; exact ⟨o, (hs1.2 _ (D.pz p hm).2.2.2.1).trans e, c⟩⟩
  refine wpAny_bind (wpAny_mono (free_or hz hf0) (fun b s' hb => ?_) fun _ _ e => e)
  rcases hb with ⟨rfl, rfl⟩ | ⟨rfl, h1, f2, rfl, hz1, hs1⟩
  · simp only [if_true]
    refine wpAny_bind (wpAny_rule ?_)
    refine wpAny_bind (wpAny_field hz rfl (x := .ref TO) rfl ?_)
    refine wpAny_bind (wpAny_setField_rec hz (by simp) fun h1 hz1 hs1 => ?_)
    replace hz1 : h1.get? z = some (zObj .ellipsis f1 TI TO) := hz1
    obtain ⟨q1, q2⟩ := kz h1 hs1
    refine wpAny_bind ?_
    simp only [hps, List.map_cons, List.zipIdx_cons, List.forIn_cons]
    refine wpAny_bind (wpAny_bind (wpAny_onRaise ?_))
    show wpAny _ _ (Builtin.SmallTypes.nextOf (.ref p.1) >>= _) _ _ _
    refine wpAny_bind (RZ.nextOf_tuple_end (s := { s' with heap := h1 }) hh q1 q2 hx fun h2 e hs2 he => ?_)
    obtain ⟨oe, hoe, hce⟩ := he
    have hz2 : h2.get? z = some (zObj .ellipsis f1 TI TO) := hs2 _ _ (D.pz p hm).1.symm hz1
    have hez : e ≠ z := fun x => by
      subst x
      rw [hz2] at hoe
      cases hoe
      simp at hce
    refine wpAny_setField_rec hz2 (by simp) fun h3 _ hs3 => hE h3 e (fun c o c1 _ c3 x => (hs3.2 _ c1).trans (hs2 _ _ (c3 p hm) ((hs1.2 _ c1).trans x))) ⟨oe, (hs3.2 _ hez).trans hoe, hce⟩
  · simp only [Bool.false_eq_true, if_false, List.forIn_toArray]
    obtain ⟨q1, q2⟩ := kz h1 hs1
    refine wpAny_bind ?_
    simp only [hps, List.map_cons, List.forIn_cons]
    refine wpAny_bind (wpAny_bind (wpAny_holding ?_))
    show wpAny _ _ (Builtin.SmallTypes.nextOf (.ref p.1) >>= _) _ _ _
    refine wpAny_bind (RZ.nextOf_tuple_end (s := { s with heap := h1 }) hh q1 q2 hx fun h2 e hs2 he => hE h2 e (fun c o c1 _ c3 x => hs2 _ _ (c3 p hm) ((hs1.2 _ c1).trans x)) he)

theorem pyNext_zn_item {vs : List Value} {Q : Option Value → Shared → Prop} (D : ZApart z TI TO ps) (hn : 1 ≤ ps.length) (hn2 : ps.length ≤ 1000) (S : ZSt s.heap z TI TO ps k)
    (hv : vs.length = ps.length) (hi : ∀ (j : Nat) (p : Addr × Addr), ps[j]? = some p → ∃ xs, s.heap.IsTuple p.2 xs ∧ xs[k]? = vs[j]?)
    (hQ : ∀ h', ZSt h' z TI TO ps (k + 1) → h'.get? s.heap.objs.size = some (tObj vs.toArray) → h'.objs.size = s.heap.objs.size + 1 →
      (∀ c o, c ≠ z → c ≠ TO → (∀ p ∈ ps, c ≠ p.1) → s.heap.get? c = some o → h'.get? c = some o) → Q (some (.ref s.heap.objs.size)) { s with heap := h' }) :
    wpAny (model prog w) A (pyNext (.ref z)) Q E s := by
  obtain ⟨f0, f1, hz, hf0⟩ := S.zz
  have hT : s.TypeIs (.ref z) "zip" := ⟨_, hz, rfl⟩
  unfold pyNext
  exact wpAny_bind (wpAny_attempt (wpAny_callSpecial?_slot (name := Str.ofString "__next__") hT F.slot_zip_next
    (wpAny_call_entry F.slot_zip_next hT F.entry_zip_next (zn_item D hn hn2 S hv hi fun h' a1 a2 a3 a4 => wpAny_pure (hQ h' a1 a2 a3 a4)) (F.args_zip_next_1 _))))
theorem pyNext_zn_end {Q : Option Value → Shared → Prop} (hh : A.handled = none) (D : ZApart z TI TO ps) (S : ZSt s.heap z TI TO ps k) {p : Addr × Addr} {r : List (Addr × Addr)} {xs : Array Value}
    (hps : ps = p :: r) (hl : s.heap.IsTuple p.2 xs) (hx : xs[k]? = none)
    (hQ : ∀ h', (∀ c o, c ≠ z → c ≠ TO → (∀ p ∈ ps, c ≠ p.1) → s.heap.get? c = some o → h'.get? c = some o) → Q none { s with heap := h' }) :
    wpAny (model prog w) A (pyNext (.ref z)) Q E s := by
  obtain ⟨f0, f1, hz, hf0⟩ := S.zz
  have hT : s.TypeIs (.ref z) "zip" := ⟨_, hz, rfl⟩
  unfold pyNext
  refine wpAny_bind (wpAny_attempt (wpAny_callSpecial?_slot (name := Str.ofString "__next__") hT F.slot_zip_next
    (wpAny_call_entry F.slot_zip_next hT F.entry_zip_next (zn_end hh D S hps hl hx fun h' e hk he => ?_) (F.args_zip_next_1 _))))
  obtain ⟨o, ho, hc⟩ := he
  exact wpAny_bind (wpAny_isInstance (T := "StopIteration") (b := true) ⟨o, ho, hc⟩ isSubtype_stop (wpAny_pure (hQ _ hk)))

/-! ### zip of one to four tuples made -/
theorem typeCall_zipN : ∀ vs : List Value, 1 ≤ vs.length → vs.length ≤ 4 → checkTypeCall "zip" ⟨vs, []⟩ = pure ()
  | [a], _, _ => by kernel_rfl
  | [a, b], _, _ => by kernel_rfl
  | [a, b, c], _, _ => by kernel_rfl
  | [a, b, c, d], _, _ => by kernel_rfl
  | [], h, _ => by simp at h
  | _ :: _ :: _ :: _ :: _ :: _, _, h => by simp at h
theorem newCall_zipN : ∀ vs : List Value, 1 ≤ vs.length → vs.length ≤ 4 → checkBuiltinCall "zip.__new__" ⟨.type "zip" :: vs, []⟩ = pure ()
  | [a], _, _ => by kernel_rfl
  | [a, b], _, _ => by kernel_rfl
  | [a, b, c], _, _ => by kernel_rfl
  | [a, b, c, d], _, _ => by kernel_rfl
  | [], h, _ => by simp at h
  | _ :: _ :: _ :: _ :: _ :: _, _, h => by simp at h
theorem args_object_initN (o : Value) : ∀ vs : List Value, 1 ≤ vs.length → vs.length ≤ 4 → argsOk "object.__init__" ⟨o :: vs, []⟩
  | [a], _, _ => by
    unfold argsOk
    rw [signature?_of (id := "object.__init__") (n := ['_', '_', 't', 'i', 'n', 'i', '_', '_']) (o := ['t', 'c', 'e', 'j', 'b', 'o']) (by kernel_rfl) F.owner_object]
    kernel_rfl
  | [a, b], _, _ => by
    unfold argsOk
    rw [signature?_of (id := "object.__init__") (n := ['_', '_', 't', 'i', 'n', 'i', '_', '_']) (o := ['t', 'c', 'e', 'j', 'b', 'o']) (by kernel_rfl) F.owner_object]
    kernel_rfl
  | [a, b, c], _, _ => by
    unfold argsOk
    rw [signature?_of (id := "object.__init__") (n := ['_', '_', 't', 'i', 'n', 'i', '_', '_']) (o := ['t', 'c', 'e', 'j', 'b', 'o']) (by kernel_rfl) F.owner_object]
    kernel_rfl
  | [a, b, c, d], _, _ => by
    unfold argsOk
    rw [signature?_of (id := "object.__init__") (n := ['_', '_', 't', 'i', 'n', 'i', '_', '_']) (o := ['t', 'c', 'e', 'j', 'b', 'o']) (by kernel_rfl) F.owner_object]
    kernel_rfl
  | [], h, _ => by simp at h
  | _ :: _ :: _ :: _ :: _ :: _, _, h => by simp at h

theorem iterAll_tups {ls : List Addr} {Q : List Value → Shared → Prop} (hl : ∀ l ∈ ls, ∃ xs, s.heap.IsTuple l xs)
    (hQ : ∀ h' its, its.length = ls.length → (∀ i, i < ls.length → its[i]? = some (.ref (s.heap.objs.size + i))) → h'.objs.size = s.heap.objs.size + ls.length →
      (∀ c o, s.heap.get? c = some o → h'.get? c = some o) → (∀ (i : Nat) (l : Addr), ls[i]? = some l → h'.IsTupleIter (s.heap.objs.size + i) l 0) → Q its { s with heap := h' }) :
    wpAny (model prog w) A (Builtin.SmallTypes.iterAll (ls.map Value.ref)) Q E s := by
  unfold Builtin.SmallTypes.iterAll
  refine wpAny_bind (thn (wp_forIn _ _ (fun j (b : Array Value) s2 => b.size = j ∧ (∀ i, i < j → b[i]? = some (.ref (s.heap.objs.size + i))) ∧ ∃ h, s2 = { s with heap := h } ∧ h.objs.size = s.heap.objs.size + j ∧
    (∀ c o, s.heap.get? c = some o → h.get? c = some o) ∧ ∀ (i : Nat) (l : Addr), i < j → ls[i]? = some l → h.IsTupleIter (s.heap.objs.size + i) l 0) ?step _ _ ?init) fun b s2 hb => ?last)
  case init => exact ⟨rfl, fun i hi => absurd hi (Nat.not_lt_zero _), s.heap, rfl, rfl, fun _ _ e => e, fun i _ hi => absurd hi (Nat.not_lt_zero _)⟩
  case step =>
    rintro j x b s2 hx ⟨hbs, hb, h, rfl, hsz, hk, hit⟩
    rw [List.getElem?_map] at hx
    cases hp : ls[j]? with
    | none =>
      rw [hp] at hx
      cases hx
    | some l =>
      rw [hp] at hx
      obtain rfl : Value.ref l = x := Option.some.inj hx
      obtain ⟨xs, ol, e, c⟩ := hl l (List.mem_of_getElem? hp)
      refine wpAny_bind (wpAny_holding (wpAny_pyIter_tuple (s := { s with heap := h }) ⟨ol, hk _ _ e, c⟩ ?_))
      refine wpAny_pure ⟨_, rfl, by rw [Array.size_push, hbs], fun i hij => ?_, _, rfl, by rw [Heap.size_push, hsz]; omega, fun c o e => Heap.get?_push_of_some _ (hk c o e), fun i l' hij hl' => ?_⟩
      · show (b.push (Value.ref h.objs.size))[i]? = _
        rw [Array.getElem?_push]
        by_cases e : i = b.size
        · rw [if_pos e, hsz, e, hbs]
        · rw [if_neg e]
          exact hb i (by omega)
      · by_cases e : i = j
        · subst e
          rw [hp] at hl'
          cases hl'
          refine ⟨{ cls := .type "tuple_iterator", data := .fields #[.ref l, .int 0 0] }, ?_, rfl, rfl⟩
          rw [← hsz]
          exact Heap.get?_push_size _ rfl
        · obtain ⟨o, e1, c⟩ := hit i l' (by omega) hl'
          exact ⟨o, Heap.get?_push_of_some _ e1, c⟩
  case last =>
    obtain ⟨hbs, hb, h, rfl, hsz, hk, hit⟩ := hb
    rw [List.length_map] at hbs hb hsz hit
    refine wpAny_pure (hQ h b.toList (by rw [Array.length_toList]; exact hbs) (fun i hi => by rw [Array.getElem?_toList]; exact hb i hi) hsz hk fun i l e => ?_)
    exact hit i l (List.getElem?_eq_some_iff.mp e).1 e

theorem zip_newN {ls : List Addr} {Q : Value → Shared → Prop} (h1 : 1 ≤ ls.length) (h2 : ls.length ≤ 4) (hl : ∀ l ∈ ls, ∃ xs, s.heap.IsTuple l xs)
    (hQ : ∀ h' n, n = s.heap.objs.size → ZSt h' (n + ls.length + 2) (n + ls.length) (n + ls.length + 1) (ls.zipIdx.map fun x => (n + x.2, x.1)) 0 → h'.objs.size = n + ls.length + 3 →
      (∀ c o, s.heap.get? c = some o → h'.get? c = some o) → Q (.ref (n + ls.length + 2)) { s with heap := h' }) :
    wpAny (model prog w) A (Builtin.«zip.__new__» ⟨.type "zip" :: ls.map Value.ref, []⟩) (fun fin s' => ∃ v, fin = .done (.ret v) ∧ Q v s') E s := by
  have hsub := sub_zip
  have hc : wpAny (model prog w) A (Builtin.SmallTypes.newClass "zip" ⟨.type "zip" :: ls.map Value.ref, []⟩) (fun r s' => r = (.type "zip", ls.map Value.ref) ∧ s' = s) E s := by
    unfold Builtin.SmallTypes.newClass
    wp_walk
    exact ⟨rfl, rfl⟩
  unfold Builtin.«zip.__new__»
  refine wpAny_bind (thn hc ?_)
  rintro _ _s ⟨rfl, rfl⟩
  show wpAny _ _ (Builtin.SmallTypes.iterAll (ls.map Value.ref) >>= _) _ _ _
  refine wpAny_bind (iterAll_tups hl fun h1' its hil hi hsz hk hit => ?_)
  have hsl : its.length ≤ sizeLine := by rw [hil, sizeLine_eq]; omega
  refine wpAny_bind (wpAny_newTuple ?_ hsl)
  refine wpAny_bind (wpAny_newTuple ?_ (by rw [List.length_map]; exact hsl))
  refine wpAny_bind ?_
  unfold Builtin.SmallTypes.newRecord
  refine wpAny_newObj_type ?_ (show (5 : Nat) ≤ sizeLine + 2 by rw [sizeLine_eq]; omega)
  refine wpAny_pure ⟨_, rfl, ?_⟩
  have z1 : (h1'.push (tObj its.toArray)).objs.size = h1'.objs.size + 1 := Heap.size_push ..
  have z2 : ((h1'.push (tObj its.toArray)).push (tObj (its.map fun _ => Value.none).toArray)).objs.size = h1'.objs.size + 2 := by rw [Heap.size_push, z1]
  have fin : Q (.ref ((h1'.push (tObj its.toArray)).push (tObj (its.map fun _ => Value.none).toArray)).objs.size)
      { _s with heap := ((h1'.push (tObj its.toArray)).push (tObj (its.map fun _ => Value.none).toArray)).push (zObj .none (.bool false) h1'.objs.size (h1'.push (tObj its.toArray)).objs.size) } := by
    rw [z2, z1, hsz]
    refine hQ _ _ rfl ⟨⟨.none, .bool false, ?_, .inl rfl⟩, ?_, ⟨(its.map fun _ => Value.none).toArray, ?_, ?_⟩, fun p hp => ?_⟩ ?_ fun c o e => Heap.get?_push_of_some _ (Heap.get?_push_of_some _ (Heap.get?_push_of_some _ (hk c o e)))
    · rw [← hsz, ← z2]
      exact Heap.get?_push_size _ rfl
    · have e : its = (ls.zipIdx.map fun x => (_s.heap.objs.size + x.2, x.1)).map fun p => Value.ref p.1 := by
        refine List.ext_getElem? fun i => ?_
        rw [List.map_map, List.getElem?_map, List.getElem?_zipIdx]
        by_cases hlt : i < ls.length
        · rw [hi i hlt, List.getElem?_eq_getElem hlt]
          simp
        · rw [List.getElem?_eq_none (by omega), List.getElem?_eq_none (by omega)]
          rfl
      rw [← e, ← hsz]
      exact Heap.get?_push_of_some _ (Heap.get?_push_of_some _ (Heap.get?_push_size _ rfl))
    · simp [hil]
    · rw [← hsz, ← z1]
      exact Heap.get?_push_of_some _ (Heap.get?_push_size _ rfl)
    · obtain ⟨x, hx, rfl⟩ := List.mem_map.mp hp
      obtain ⟨i, hxi⟩ := List.mem_iff_getElem?.mp hx
      rw [List.getElem?_zipIdx] at hxi
      cases hl' : ls[i]? with
      | none =>
        rw [hl'] at hxi
        cases hxi
      | some l =>
        rw [hl'] at hxi
        obtain rfl : (l, 0 + i) = x := Option.some.inj hxi
        obtain ⟨o, e, c⟩ := hit i l hl'
        refine ⟨o, ?_, c⟩
        show Heap.get? _ (_s.heap.objs.size + (0 + i)) = some o
        rw [Nat.zero_add]
        exact Heap.get?_push_of_some _ (Heap.get?_push_of_some _ (Heap.get?_push_of_some _ e))
    · rw [Heap.size_push, z2, hsz]
  exact fin
end
end DD
namespace DD
open PySem PySem.Spec PyProof.Rows L2

/-- the iterators that zip(*ls) makes at n -/
def zps (n : Nat) (ls : List Addr) : List (Addr × Addr) := ls.zipIdx.map fun x => (n + x.2, x.1)
theorem zps_length (n : Nat) (ls : List Addr) : (zps n ls).length = ls.length := by simp [zps]
theorem zps_get (n : Nat) (ls : List Addr) (j : Nat) : (zps n ls)[j]? = (ls[j]?).map fun a => (n + j, a) := by
  unfold zps
  rw [List.getElem?_map, List.getElem?_zipIdx]
  cases ls[j]? with
  | none => rfl
  | some a => simp
theorem zps_mem {n : Nat} {ls : List Addr} {p : Addr × Addr} (h : p ∈ zps n ls) : ∃ j, j < ls.length ∧ ls[j]? = some p.2 ∧ p.1 = n + j := by
  obtain ⟨j, hj⟩ := List.mem_iff_getElem?.mp h
  rw [zps_get] at hj
  cases e : ls[j]? with
  | none => rw [e] at hj; cases hj
  | some a =>
    rw [e] at hj
    obtain rfl : (n + j, a) = p := Option.some.inj hj
    exact ⟨j, (List.getElem?_eq_some_iff.mp e).1, e, rfl⟩
theorem nat5 {a b n j L : Nat} (h3 : b < n) (h4 : a = n + j) (hj : j < L) : a ≠ n + L + 2 ∧ a ≠ n + L ∧ a ≠ n + L + 1 ∧ b ≠ n + L + 2 ∧ b ≠ n + L + 1 := by omega
theorem nat6 {a b n i : Nat} (h3 : b < n) (h4 : a = n + i) : b ≠ a := by omega
theorem zapart {n : Nat} {ls : List Addr} (h : ∀ l ∈ ls, l < n) : ZApart (n + ls.length + 2) (n + ls.length) (n + ls.length + 1) (zps n ls) where
  tz := Nat.ne_of_lt (show (n : Nat) + ls.length < n + ls.length + 2 by omega)
  oz := Nat.ne_of_lt (show (n : Nat) + ls.length + 1 < n + ls.length + 2 by omega)
  it := Nat.ne_of_lt (show (n : Nat) + ls.length < n + ls.length + 1 by omega)
  nd := by
    have e : (zps n ls).map (·.1) = (List.range ls.length).map (n + ·) := by
      refine List.ext_getElem? fun i => ?_
      rw [List.getElem?_map, zps_get, List.getElem?_map]
      by_cases hi : i < ls.length
      · rw [List.getElem?_eq_getElem hi, List.getElem?_range hi]
        rfl
      · rw [List.getElem?_eq_none (by omega), List.getElem?_eq_none (by simp; omega)]
        rfl
    rw [e]
    exact List.Pairwise.map _ (fun a b h e => h (Nat.add_left_cancel e)) List.nodup_range
  pz := fun p hp => by
    obtain ⟨j, hj, e, ep⟩ := zps_mem hp
    exact nat5 (h p.2 (List.mem_of_getElem? e)) ep hj
  px := fun p hp q hq => by
    obtain ⟨j, hj, e, ep⟩ := zps_mem hp
    obtain ⟨i, hi, e2, ep2⟩ := zps_mem hq
    exact nat6 (h p.2 (List.mem_of_getElem? e)) ep2

section
variable {prog : Program} {w : World} {A : Around} {E : Value → Shared → Prop} {s : Shared}
theorem call_zipN {ls : List Addr} {Q : Value → Shared → Prop} (h1 : 1 ≤ ls.length) (h2 : ls.length ≤ 4) (hl : ∀ l ∈ ls, ∃ xs, s.heap.IsTuple l xs)
    (hQ : ∀ h' n, n = s.heap.objs.size → ZSt h' (n + ls.length + 2) (n + ls.length) (n + ls.length + 1) (zps n ls) 0 → h'.objs.size = n + ls.length + 3 →
      (∀ c o, s.heap.get? c = some o → h'.get? c = some o) → Q (.ref (n + ls.length + 2)) { s with heap := h' }) :
    wpAny (model prog w) A (call (.type "zip") (ls.map Value.ref)) Q E s := by
  have m : Meets (Builtin.«zip.__new__» ⟨.type "zip" :: ls.map Value.ref, []⟩) (fun _ R s => (∀ l ∈ ls, ∃ xs, s.heap.IsTuple l xs) ∧
      ∀ h' n, n = s.heap.objs.size → ZSt h' (n + ls.length + 2) (n + ls.length) (n + ls.length + 1) (zps n ls) 0 → h'.objs.size = n + ls.length + 3 →
        (∀ c o, s.heap.get? c = some o → h'.get? c = some o) → R (.ok (.ret (.ref (n + ls.length + 2)))) { s with heap := h' }) :=
    .of_wp fun prog w A R s h => zip_newN h1 h2 h.1 h.2
  refine callType_new F.called_zip (by decide) (typeCall_zipN _ (by simpa using h1) (by simpa using h2)) (newCall_zipN _ (by simpa using h1) (by simpa using h2))
    (fun obj => args_object_initN obj _ (by simpa using h1) (by simpa using h2)) F.entry_zip_new m ⟨hl, fun h' n e1 e2 e3 e4 => ?_⟩
  obtain ⟨f0, f1, hz, _⟩ := e2.zz
  exact ⟨⟨_, hz, rfl⟩, hQ h' n e1 e2 e3 e4⟩
theorem pyIter_zn {z TI TO : Addr} {ps : List (Addr × Addr)} {k : Nat} {Q : Value → Shared → Prop} (S : ZSt s.heap z TI TO ps k) (h : Q (.ref z) s) : wpAny (model prog w) A (pyIter (.ref z)) Q E s := by
  obtain ⟨f0, f1, hz, _⟩ := S.zz
  have hT : s.TypeIs (.ref z) "zip" := ⟨_, hz, rfl⟩
  refine wpAny_pyIter_slot hT F.slot_zip_iter (wpAny_call_entry F.slot_zip_iter hT F.entry_zip_iter ?_ (F.args_zip_iter_1 _))
  exact (show wpAny _ _ (ret (.ref z)) _ _ s from wpAny_pure ⟨_, rfl, "zip", _, hT, F.slot_zip_next.lookup, h⟩)
end

/-- the tuples at ls hold rows, all of length m -/
structure Rws (K : PySem.W.Frag) (H : Hp) (ls : List Addr) (rows : List (List V)) (m : Nat) : Prop where
  len : ls.length = rows.length
  at_ : ∀ (j : Nat) (a : Addr) (r : List V), ls[j]? = some a → rows[j]? = some r → SqT K H a r ∧ r.length = m
def colV (rows : List (List V)) (i : Nat) : List V := rows.map fun r => r.getD i .non
def ItzN (K : PySem.W.Frag) (ls : List Addr) (rows : List (List V)) (m : Nat) : It :=
  ⟨fun i H => i < m ∧ Rws K H ls rows m, fun i H v H' => ∃ T, v = .ref T ∧ H T = none ∧ H' = upd H T (.tup (colV rows i)), fun i H => i = m ∧ Rws K H ls rows m⟩

theorem Rws.vals {X : Cx} {pins : List (Addr × Obj)} {σ : L2.St} {H : Hp} {s : Shared} {m i : Nat} (I : Inv X pins σ H s) (hi : i < m) : ∀ {ls : List Addr} {rows : List (List V)}, Rws X.K H ls rows m →
    ∃ us : List Value, Vals (colV rows i) us ∧ ∀ (j : Nat) (a : Addr), ls[j]? = some a → ∃ xs, s.heap.IsTuple a xs ∧ xs[i]? = us[j]?
  | [], [], _ => ⟨[], .nil, fun j a e => by simp at e⟩
  | [], _ :: _, R => by have := R.len; simp at this
  | _ :: _, [], R => by have := R.len; simp at this
  | a :: ls, r :: rows, R => by
    obtain ⟨us, h1, h2⟩ := Rws.vals I hi (ls := ls) (rows := rows) ⟨by have := R.len; simpa using this, fun j a' r' e1 e2 => R.at_ (j + 1) a' r' e1 e2⟩
    obtain ⟨q, hl⟩ := R.at_ 0 a r rfl rfl
    obtain ⟨its, rv, p, _⟩ := I.tuple q
    have hr : r[i]? = some (r.getD i .non) := by
      rw [List.getD_eq_getElem?_getD, List.getElem?_eq_getElem (by omega)]
      rfl
    obtain ⟨u, hu, ru⟩ := rv.get hr
    obtain ⟨o, ho, hc, n, hd⟩ := p
    refine ⟨u :: us, .cons ru h1, fun j a' e => ?_⟩
    cases j with
    | zero =>
      obtain rfl : a = a' := Option.some.inj e
      exact ⟨its.toArray, ⟨o, ho, hc, n, hd⟩, by simpa using hu⟩
    | succ j => exact h2 j a' e

theorem turn_zn {P : Program} {w : World} {K : PySem.W.Frag} {x : Str} {xp : Pos} {n m : Nat} {ls : List Addr} {rows : List (List V)} (h1 : 1 ≤ ls.length) (h2 : ls.length ≤ 4) (hlt : ∀ l ∈ ls, l < n) :
    Turn P w K (.Name x xp) (ItzN K ls rows m) ((n + ls.length + 2) :: (n + ls.length) :: (n + ls.length + 1) :: (zps n ls).map (·.1)) (n + ls.length + 2)
      (fun i h => ZSt h (n + ls.length + 2) (n + ls.length) (n + ls.length + 1) (zps n ls) i) where
  mem := List.mem_cons_self
  obj := fun i h S b hb => by
    obtain ⟨⟨f0, f1, hz, _⟩, hTI, ⟨arr, _, hTO⟩, hits⟩ := S
    rcases List.mem_cons.mp hb with rfl | hb
    · exact ⟨_, hz, fun v q => nomatch q⟩
    rcases List.mem_cons.mp hb with rfl | hb
    · exact ⟨_, hTI, fun v q => nomatch q⟩
    rcases List.mem_cons.mp hb with rfl | hb
    · exact ⟨_, hTO, fun v q => nomatch q⟩
    obtain ⟨p, hp, rfl⟩ := List.mem_map.mp hb
    obtain ⟨o, e, _, d⟩ := hits p hp
    exact ⟨o, e, fun v q => by rw [d] at q; cases q⟩
  keep := fun i h h' S k => by
    obtain ⟨⟨f0, f1, hz, hf⟩, hTI, ⟨arr, ha, hTO⟩, hits⟩ := S
    refine ⟨⟨f0, f1, k _ (by simp) _ hz, hf⟩, k _ (by simp) _ hTI, ⟨arr, ha, k _ (by simp) _ hTO⟩, fun p hp => ?_⟩
    obtain ⟨o, e, c⟩ := hits p hp
    exact ⟨o, k _ (by
      refine List.mem_cons_of_mem _ (List.mem_cons_of_mem _ (List.mem_cons_of_mem _ ?_))
      exact List.mem_map_of_mem hp) _ e, c⟩
  item := by
    intro X hP hw hK hc i pins s σ H E I hf S hg
    subst hP hw hK
    obtain ⟨hi, R⟩ := hg
    obtain ⟨us, hv, hx⟩ := R.vals I hi
    have hul : us.length = ls.length := by rw [← hv.length, R.len]; simp [colV]
    have D := zapart hlt
    refine pyNext_zn_item D (by rw [zps_length]; exact h1) (by rw [zps_length]; omega) S (vs := us) (by rw [zps_length]; exact hul) (fun j p e => ?_) fun h' S' hT hsz hk => ?_
    · rw [zps_get] at e
      cases ea : ls[j]? with
      | none => rw [ea] at e; cases e
      | some a =>
        rw [ea] at e
        obtain rfl : (n + j, a) = p := Option.some.inj e
        exact hx j a ea
    · refine ⟨_, rfl, ?_⟩
      have hcl : (colV rows i).length ≤ sizeLine := by
        rw [hv.length, hul, sizeLine_eq]
        omega
      have new : ObjOk X.prog X.w (upd H s.heap.objs.size (.tup (colV rows i))) h' s.heap.objs.size (.tup (colV rows i)) := ⟨hcl, us, hv, ⟨_, hT, rfl, _, rfl⟩⟩
      have I1 : Inv X pins σ (upd H s.heap.objs.size (.tup (colV rows i))) { s with heap := h' } :=
        I.turnedNew (t' := s.toks) (fun c o hb q => hk c o (fun z => hb (by simp [z])) (fun z => hb (by simp [z])) (fun p hp z => hb (by
          refine List.mem_cons_of_mem _ (List.mem_cons_of_mem _ (List.mem_cons_of_mem _ ?_))
          rw [z]
          exact List.mem_map_of_mem hp)) q) hf (Nat.le_refl _) new
      show wpAny _ _ (pure ()) _ _ _
      refine wpAny_pure ⟨.ref s.heap.objs.size, _, I1, rfl, ⟨_, rfl, I.hok.fresh (Nat.le_refl _), rfl⟩, S', fun c hcm => ?_⟩
      obtain ⟨o, ho, _⟩ : ∃ o, s.heap.get? c = some o ∧ True := by
        obtain ⟨⟨f0, f1, hz, _⟩, hTI, ⟨arr, _, hTO⟩, hits⟩ := S
        rcases List.mem_cons.mp hcm with rfl | hcm
        · exact ⟨_, hz, trivial⟩
        rcases List.mem_cons.mp hcm with rfl | hcm
        · exact ⟨_, hTI, trivial⟩
        rcases List.mem_cons.mp hcm with rfl | hcm
        · exact ⟨_, hTO, trivial⟩
        obtain ⟨p, hp, rfl⟩ := List.mem_map.mp hcm
        obtain ⟨o, e, _⟩ := hits p hp
        exact ⟨o, e, trivial⟩
      rw [upd_ne (Nat.ne_of_lt (Heap.lt_size ho))]
      exact (hf c hcm).1
  done := by
    intro X hP hw hK hc i pins s σ H E I hf S hg
    subst hP hw hK
    obtain ⟨rfl, R⟩ := hg
    cases hls : ls with
    | nil => rw [hls] at h1; simp at h1
    | cons a r =>
      cases hrw : rows with
      | nil => have := R.len; rw [hls, hrw] at this; simp at this
      | cons q rr =>
        obtain ⟨hq, hl⟩ := R.at_ 0 a q (by rw [hls]; rfl) (by rw [hrw]; rfl)
        obtain ⟨its, rv, ⟨o, ho, hc', n', hd⟩, _⟩ := I.tuple hq
        have hps : zps n ls = (n, a) :: (zps n ls).tail := by
          rw [hls]
          simp [zps]
        rw [← hls]
        refine pyNext_zn_end (I.ok.hd hc) (zapart hlt) S hps (xs := its.toArray) ⟨o, ho, hc', n', hd⟩ ?_ fun h' hk => ⟨rfl, ?_⟩
        · have := rv.length
          rw [List.getElem?_toArray, List.getElem?_eq_none (by omega)]
        · exact I.turnedL (t' := s.toks) (fun c o hb q => hk c o (fun z => hb (by simp [z])) (fun z => hb (by simp [z])) (fun p hp z => hb (by
            refine List.mem_cons_of_mem _ (List.mem_cons_of_mem _ (List.mem_cons_of_mem _ ?_))
            rw [z]
            exact List.mem_map_of_mem hp)) q) hf
  self := fun A i s Q E S h => pyIter_zn S h

/-- for x in zip(*e), e a list or tuple of one to four tuples of one length -/
def iZipS (K : PySem.W.Frag) (te : TE) : TI := fun σ H R => te σ H fun y H1 => ∃ (a : Addr) (ls : List Addr) (rows : List (List V)) (m : Nat), y = .ref a ∧ (SqT K H1 a (ls.map V.ref) ∨ SqL K H1 a (ls.map V.ref)) ∧
  1 ≤ ls.length ∧ ls.length ≤ 4 ∧ Rws K H1 ls rows m ∧ R (ItzN K ls rows m) H1
theorem vals_refs : ∀ {ls : List Addr} {us : List Value}, Vals (ls.map V.ref) us → us = ls.map Value.ref
  | [], _, .nil => rfl
  | a :: ls, _, .cons r t => by
    cases r
    rw [vals_refs t]
    rfl
theorem pi_zipS {X : Cx} {e : Expr} {te : TE} {p pos spos xp : Pos} {x : Str} (hg : Gl X "zip") (hm : X.mg "zip" = none) (he : PE X e te)
    (hst : starEach [.Starred e spos] X.env = [(true, eval e X.env)] := by rfl) :
    PI X (.Name x xp) (.Call (.Name "zip" p) [.Starred e spos] [] pos) (iZipS X.K te) := by
  refine ⟨fun pins s σ H R I h => ?_⟩
  refine wpAny_Call_Name_kw (ld_blt I hg hm PyProof.Rows.boot_zip ?_)
  rw [hst]
  refine PySem.W.ks_call (P := fun _ => True) rfl (fun h _ => ⟨.machine, .inr (.inl rfl), fun A Q E s _ q => wpAny_pure q⟩) (PySem.W.ks_lone ?_)
  refine thn (he.run pins s σ H _ I h) fun v s1 ⟨y, H1, I1, ry, a, ls, rows, m, ey, hx, h1, h2, Rw, q⟩ => ?_
  subst ey
  obtain rfl : v = Value.ref a := ry
  refine StX.star_any I1 hx fun us s2 I2 rv => ⟨trivial, ?_⟩
  obtain rfl := vals_refs rv
  have tup : ∀ l ∈ ls, ∃ xs, s2.heap.IsTuple l xs := fun l hl => by
    obtain ⟨j, hj⟩ := List.mem_iff_getElem?.mp hl
    have hjl := (List.getElem?_eq_some_iff.mp hj).1
    have hjr : rows[j]? = some (rows[j]'(by have := Rw.len; omega)) := List.getElem?_eq_getElem (by have := Rw.len; omega)
    obtain ⟨its, _, ⟨o, ho, hc, n, hd⟩, _⟩ := I2.tuple (Rw.at_ j l _ hj hjr).1
    exact ⟨its.toArray, o, ho, hc, n, hd⟩
  refine call_zipN h1 h2 tup fun h' n en S hsz hk => ?_
  have I3 : Inv X pins σ H1 { s2 with heap := h' } := I2.kept (t' := s2.toks) hk
  have hlt : ∀ l ∈ ls, l < n := fun l hl => by
    obtain ⟨xs, o, ho, _⟩ := tup l hl
    rw [en]
    exact Heap.lt_size ho
  refine pyIter_zn (s := { s2 with heap := h' }) S ⟨n + ls.length + 2, _, _, _, H1, rfl, I3, turn_zn h1 h2 hlt, S, fun b hb => ?_, q⟩
  have hle : s2.heap.objs.size ≤ b := by
    rw [← en]
    rcases List.mem_cons.mp hb with rfl | hb
    · omega
    rcases List.mem_cons.mp hb with rfl | hb
    · omega
    rcases List.mem_cons.mp hb with rfl | hb
    · omega
    obtain ⟨p, hp, rfl⟩ := List.mem_map.mp hb
    obtain ⟨j, _, _, e⟩ := zps_mem hp
    exact Nat.le_trans (Nat.le_add_right n j) (Nat.le_of_eq e.symm)
  have F := I2.fpOk hle (I2.hok.fresh hle)
  exact F
end DD
namespace DD
open PySem PySem.Spec PyProof.Rows L2
theorem draws_tup {prog : Program} {w : World} {A : Around} (hh : A.handled = none) (it t : Addr) (items : Array Value) (hne : t ≠ it) :
    Draws prog w A it [it, t] items.size (fun i v => items[i]? = some v) (fun i h => h.IsTupleIter it t i ∧ h.IsTuple t items) where
  live := fun i h S => by
    obtain ⟨⟨o, e, _⟩, _⟩ := S
    exact ⟨o, e⟩
  frame := fun i h h' S k => by
    obtain ⟨⟨o, e, c⟩, ⟨o2, e2, c2⟩⟩ := S
    exact ⟨⟨o, k it (by simp) o e, c⟩, ⟨o2, k t (by simp) o2 e2, c2⟩⟩
  item := fun i s Q E hi S hQ => by
    obtain ⟨S1, S2⟩ := S
    refine RZ.nextOf_tuple_item S1 S2 (x := items[i]) (by simp [hi]) fun h' hit hs => hQ _ h' s.toks (by simp [hi]) ⟨hit, ?_⟩ hs
    obtain ⟨o, e, c⟩ := S2
    exact ⟨o, (hs.2 _ hne).trans e, c⟩
  done := fun s Q E S hE => by
    obtain ⟨S1, S2⟩ := S
    exact RZ.nextOf_tuple_end hh S1 S2 (by simp) hE
theorem meets_enum_newT (l : Addr) (items : Array Value) : Meets (Builtin.«enumerate.__new__» ⟨[.type "enumerate", .ref l], []⟩) (fun _ R s => s.heap.IsTuple l items ∧
      R (.ok (.ret (.ref (s.heap.push { cls := .type "tuple_iterator", data := .fields #[.ref l, .int 0 0] }).objs.size)))
        { s with heap := (s.heap.push { cls := .type "tuple_iterator", data := .fields #[.ref l, .int 0 0] }).push { cls := .type "enumerate", data := .fields #[.none, .bool false, .ref s.heap.objs.size, rawInt 0, .none, .none] } }) :=
  .of_wp fun prog w A R s h => by
    obtain ⟨hp, g, d, tk, os⟩ := s
    obtain ⟨hT, h⟩ := h
    obtain ⟨oL, hoL, hcL, nL, hdL⟩ := id hT
    have hsub := sub_enumerate
    have hT' : Heap.IsTuple (Shared.heap ⟨hp, g, d, tk, os⟩) l items := hT
    wp_walk
    refine wpAny_stack_any fun st => wpAny_pure ?_
    split
    · rename_i c _ _ _ _ _
      cases (c == Value.type "enumerate")
      · wp_walk using wpAny_pyIter_tuple hT'
        exact ⟨_, rfl, h⟩
      · wp_walk using wpAny_pyIter_tuple hT'
        exact ⟨_, rfl, h⟩
    · wp_walk using wpAny_pyIter_tuple hT'
      exact ⟨_, rfl, h⟩
section
variable {prog : Program} {w : World} {A : Around} {E : Value → Shared → Prop} {s : Shared}
theorem call_enumT {l : Addr} {items : Array Value} {Q : Value → Shared → Prop} (hT : s.heap.IsTuple l items)
    (h : ∀ h', IsEnum h' (s.heap.objs.size + 1) s.heap.objs.size 0 .none → h'.IsTupleIter s.heap.objs.size l 0 →
      (∀ b o, s.heap.get? b = some o → h'.get? b = some o) → Q (.ref (s.heap.objs.size + 1)) { s with heap := h' }) :
    wpAny (model prog w) A (call (.type "enumerate") [.ref l]) Q E s := by
  refine callType_new F.called_enumerate (by decide) (F.typeCall_enumerate_1 _) (F.newCall_enumerate_1 _) (fun obj => F.args_object_init_2 obj _) F.entry_enumerate_new
    (meets_enum_newT l items) ⟨hT, ?_⟩
  have hz : (s.heap.push { cls := .type "tuple_iterator", data := .fields #[.ref l, .int 0 0] }).objs.size = s.heap.objs.size + 1 := Heap.size_push ..
  have he : IsEnum ((s.heap.push { cls := .type "tuple_iterator", data := .fields #[.ref l, .int 0 0] }).push
      { cls := .type "enumerate", data := .fields #[.none, .bool false, .ref s.heap.objs.size, rawInt 0, .none, .none] }) (s.heap.objs.size + 1) s.heap.objs.size 0 .none := by
    have q := Heap.get?_push_size (s.heap.push { cls := .type "tuple_iterator", data := .fields #[.ref l, .int 0 0] })
      (o := { cls := .type "enumerate", data := .fields #[.none, .bool false, .ref s.heap.objs.size, rawInt 0, .none, .none] }) rfl
    rw [hz] at q
    exact q
  show _ ∧ _
  rw [hz]
  exact ⟨⟨_, he, rfl⟩, h _ he ⟨_, Heap.get?_push_of_some _ (Heap.get?_push_size _ rfl), rfl, rfl⟩ fun b o x => Heap.get?_push_of_some _ (Heap.get?_push_of_some _ x)⟩
end

/-- the tuple at a, its items in new pairs, counted from c -/
def ItEnT (K : PySem.W.Frag) (a : Addr) (c : Int) : It :=
  ⟨fun i H => ∃ (xs : List V) (x : V), SqT K H a xs ∧ xs[i]? = some x,
    fun i H v H' => ∃ T x, v = .ref T ∧ H T = none ∧ H' = upd H T (.tup [.int (c + (i : Nat)), x]) ∧ ∀ xs, SqT K H a xs → xs[i]? = some x,
    fun i H => ∃ xs : List V, SqT K H a xs ∧ xs.length ≤ i⟩
theorem turn_enT {P : Program} {w : World} {K : PySem.W.Frag} {elts : List Expr} {kk : Nat} {tpos : Pos} (a e it : Addr) (c : Int) :
    Turn P w K (.Tuple elts kk tpos) (ItEnT K a c) [e, it] e (fun i h => (∃ old, IsEnum h e it (c + ((i : Nat) : Int)) old) ∧ h.IsTupleIter it a i ∧ e ≠ it) where
  mem := by simp
  obj := fun i h S b hb => by
    obtain ⟨⟨old, he⟩, ⟨o, ho, hc, hd⟩, _⟩ := S
    rcases List.mem_cons.mp hb with rfl | hb
    · exact ⟨_, he, fun v q => nomatch q⟩
    · rw [List.mem_singleton.mp hb]
      exact ⟨o, ho, fun v q => by rw [hd] at q; cases q⟩
  keep := fun i h h' S k => by
    obtain ⟨⟨old, he⟩, ⟨o, ho, r⟩, hne⟩ := S
    exact ⟨⟨old, k e (by simp) _ he⟩, ⟨o, k it (by simp) _ ho, r⟩, hne⟩
  item := by
    intro X hP hw hK hcalm i pins s σ H E I hf S hg
    subst hP hw hK
    obtain ⟨⟨old, he⟩, hit, hne⟩ := S
    obtain ⟨xs, x, hq, hx⟩ := hg
    obtain ⟨its, rv, ⟨oa, hoa, hca, na, hda⟩, _⟩ := I.tuple hq
    obtain ⟨u, hu, ru⟩ := rv.get hx
    obtain ⟨oi, hoi, hci, hdi⟩ := id hit
    have hai : a ≠ it := fun z => by
      rw [z, hoi] at hoa
      cases hoa
      rw [hca] at hci
      simp at hci
    have hea : e ≠ a := fun z => by
      have he2 := he
      unfold IsEnum at he2
      rw [z, hoa] at he2
      cases he2
      simp at hca
    have hef : e ∉ [it, a] := fun z => by
      rcases List.mem_cons.mp z with z | z
      · exact hne z
      · exact hea (List.mem_singleton.mp z)
    have hel : e < s.heap.objs.size := Heap.lt_size he
    have hil : it < s.heap.objs.size := Heap.lt_size hoi
    have D := draws_tup (prog := X.prog) (w := X.w) (A := X.A.in1) (I.ok.hd hcalm) it a its.toArray hai
    have hlt : i < its.toArray.size := by
      have := (List.getElem?_eq_some_iff.mp hu).1
      simpa using this
    refine wpAny_pyNext_enum_itemC D he ⟨hit, ⟨oa, hoa, hca, na, hda⟩⟩ hlt hne hef fun y h' tk hy ho hit' hT hsz hk => ?_
    obtain rfl : u = y := by
      have : its.toArray[i]? = some u := by simpa using hu
      rw [this] at hy
      exact Option.some.inj hy
    refine ⟨_, rfl, wpAny_letOwnedTupleGo_enum (s := { s with heap := h', toks := tk + 1 }) ho fun h'' he' sb => ?_⟩
    have hT2 : h''.get? s.heap.objs.size = some { cls := .type "tuple", data := .seq #[.int (c + (i : Nat)) tk, u] } := (sb.2 _ (Nat.ne_of_gt hel)).trans hT
    have new : ObjOk X.prog X.w (upd H s.heap.objs.size (.tup [.int (c + (i : Nat)), x])) h'' s.heap.objs.size (.tup [.int (c + (i : Nat)), x]) :=
      ⟨by show 2 ≤ sizeLine; decide, [.int (c + (i : Nat)) tk, u], .cons ⟨_, rfl⟩ (.cons ru .nil), ⟨_, hT2, rfl, _, rfl⟩⟩
    have I1 : Inv X pins σ (upd H s.heap.objs.size (.tup [.int (c + (i : Nat)), x])) { s with heap := h'', toks := tk + 1 } :=
      I.turnedNew (ch := [e, it]) (fun b ob hb q => (sb.2 b (fun z => hb (by simp [z]))).trans (hk b ob (fun z => hb (by simp [z])) (fun z => hb (by simp [z])) q)) hf (Nat.le_refl _) new
    obtain ⟨oi', hoi', r'⟩ := hit'.1
    refine ⟨.ref s.heap.objs.size, _, I1, rfl, ⟨_, x, rfl, I.hok.fresh (Nat.le_refl _), rfl, fun ys hy => by rw [I.tuple_inj hy hq]; exact hx⟩, ⟨⟨u, ?_⟩, ⟨oi', (sb.2 it (Ne.symm hne)).trans hoi', r'⟩, hne⟩, fun b hb => ?_⟩
    · have e1 : c + ((i + 1 : Nat) : Int) = c + (i : Int) + 1 := by omega
      rw [e1]
      exact he'
    · have hb' : b < s.heap.objs.size := by
        rcases List.mem_cons.mp hb with z | hb
        · rw [z]
          exact hel
        · rw [List.mem_singleton.mp hb]
          exact hil
      rw [upd_ne (Nat.ne_of_lt hb')]
      exact (hf b hb).1
  done := by
    intro X hP hw hK hcalm i pins s σ H E I hf S hg
    subst hP hw hK
    obtain ⟨⟨old, he⟩, hit, hne⟩ := S
    obtain ⟨xs, hq, hx⟩ := hg
    obtain ⟨its, rv, ⟨oa, hoa, hca, na, hda⟩, _⟩ := I.tuple hq
    obtain ⟨oi, hoi, hci, hdi⟩ := id hit
    have hl := rv.length
    obtain ⟨f0, f1, f2, f3, f4, f5⟩ := hf it (by simp)
    have hT : s.TypeIs (.ref e) "enumerate" := ⟨_, he, rfl⟩
    unfold pyNext
    refine wpAny_bind (wpAny_attempt (wpAny_callSpecial?_slot (name := Str.ofString "__next__") hT F.slot_enumerate_next
      (wpAny_call_entry F.slot_enumerate_next hT F.entry_enumerate_next ?_ (F.args_enumerate_next_1 _))))
    show wpAny _ _ (field (.ref e) 2 >>= _) _ _ _
    refine wpAny_bind (wpAny_field he rfl (x := .ref it) rfl ?_)
    refine wpAny_bind (RZ.nextOf_tuple_end (I.ok.hd hcalm) hit (show s.heap.IsTuple a its.toArray from ⟨oa, hoa, hca, na, hda⟩) (by simp; omega) fun h' y hy1 hy2 => ?_)
    obtain ⟨o, ho, hc⟩ := hy2
    exact wpAny_bind (wpAny_isInstance (T := "StopIteration") (b := true) ⟨o, ho, hc⟩ isSubtype_stop (wpAny_pure ⟨rfl, I.turned (t' := s.toks) (fun b o hb q => hy1 b o hb q) f0 f1 f3 f4 f5⟩))
  self := fun A i s Q E S h => by
    obtain ⟨⟨_, he⟩, _⟩ := S
    exact wpAny_pyIter_enum he h
def iEnumT (K : PySem.W.Frag) (ta : TA) : TI := fun σ H R => ta σ H fun vs H1 => ∃ a xs, vs = [.ref a] ∧ SqT K H1 a xs ∧ R (ItEnT K a 0) H1
theorem pi_enumT {X : Cx} {e : Expr} {ta : TA} {p pos tpos : Pos} {elts : List Expr} {kk : Nat} (hg : Gl X "enumerate") (hm : X.mg "enumerate" = none) (ha : PA X [e] ta)
    (hs : starEach [e] X.env = [(false, eval e X.env)] := by rfl) : PI X (.Tuple elts kk tpos) (.Call (.Name "enumerate" p) [e] [] pos) (iEnumT X.K ta) := by
  refine ⟨fun pins s σ H R I h => Call_ (ld_blt I hg hm boot_enumerate (PyProof.Rows.callWith_type1 (thn (ha.run pos pins s σ H _ I h) fun us s1 ⟨vs, H1, I1, r1, q1⟩ => ?_) hs rfl))⟩
  obtain ⟨a, xs, ex, hq, q⟩ := q1
  subst ex
  obtain ⟨u, rfl, ru⟩ := vals1 r1
  cases ru
  obtain ⟨its, rv, ⟨oa, hoa, hca, na, hda⟩, _⟩ := I1.tuple hq
  refine call_enumT (items := its.toArray) ⟨oa, hoa, hca, na, hda⟩ fun h' he hit hk => wpAny_pyIter_enum he ?_
  have I2 : Inv X pins σ H1 { s1 with heap := h' } := I1.kept (t' := s1.toks) hk
  refine ⟨s1.heap.objs.size + 1, [s1.heap.objs.size + 1, s1.heap.objs.size], _, _, H1, rfl, I2, turn_enT a (s1.heap.objs.size + 1) s1.heap.objs.size 0, ⟨⟨.none, he⟩, hit, Nat.succ_ne_self _⟩, fun b hb => ?_, q⟩
  have hle : s1.heap.objs.size ≤ b := by
    rcases List.mem_cons.mp hb with z | hb
    · rw [z]
      exact Nat.le_succ _
    · exact Nat.le_of_eq (List.mem_singleton.mp hb).symm
  exact I1.fpOk hle (I1.hok.fresh hle)
/-- a loop over enumerate(t) -/
theorem for_enT {K : PySem.W.Frag} {a : Addr} {xs : List V} {c : Int} {g : TG} {tb : TS} {D : Ends} {σ : L2.St} {H : Hp} (Pv : Nat → L2.St → Hp → Prop) (h0 : Pv 0 σ H) (hq : ∀ i σ H, i ≤ xs.length → Pv i σ H → SqT K H a xs)
    (hs : ∀ (i : Nat) (x : V) (T : Addr) (σ : L2.St) (H : Hp), xs[i]? = some x → Pv i σ H → H T = none →
      g (.ref T) σ (upd H T (.tup [.int (c + (i : Nat)), x])) fun σ2 H2 => tb { D with nx := Pv (i + 1), ct := Pv (i + 1), bk := D.nx } σ2 H2) (hd : ∀ σ H, Pv xs.length σ H → D.nx σ H) :
    ∃ W : Nat → Nat → L2.St → Hp → Prop, (∃ m, W 0 m σ H) ∧ ∀ i m σ H, W i m σ H → ((ItEnT K a c).stop i H ∧ D.nx σ H) ∨ ((ItEnT K a c).go i H ∧
      ∃ N : L2.St → Hp → Prop, (∀ σ' H', N σ' H' → ∃ m', m' < m ∧ W (i + 1) m' σ' H') ∧ ∀ v H', (ItEnT K a c).yld i H v H' →
        g v σ H' fun σ2 H2 => tb { D with nx := N, ct := N, bk := D.nx } σ2 H2) := by
  refine ⟨fun i m σ H => m = xs.length - i ∧ i ≤ xs.length ∧ Pv i σ H, ⟨xs.length, rfl, Nat.zero_le _, h0⟩, ?_⟩
  rintro i _ σ H ⟨rfl, hi, p⟩
  have q := hq i σ H hi p
  by_cases hlt : i < xs.length
  · have hx : xs[i]? = some xs[i] := List.getElem?_eq_getElem hlt
    refine .inr ⟨⟨xs, _, q, hx⟩, Pv (i + 1), fun σ' H' p' => ⟨xs.length - (i + 1), by omega, rfl, hlt, p'⟩, fun v H' y => ?_⟩
    obtain ⟨T, x', rfl, nT, rfl, f1⟩ := y
    exact hs i x' T σ H (f1 xs q) p nT
  · obtain rfl : i = xs.length := by omega
    exact .inl ⟨⟨xs, q, Nat.le_refl _⟩, hd σ H p⟩
end DD
namespace DD
open PySem PySem.Spec PyProof.Rows L2

/-! ### max and min of a tuple of ints -/
section
variable {prog : Program} {w : World} {A : Around} {E : Value → Shared → Prop} {s : Shared} {l : Addr} {xs : Array (Int × Tok)}
theorem max_intTup {Q : Value → Shared → Prop} (hh : A.handled = none) (hl : s.heap.IsTuple l (intItems xs)) (hne : 0 < xs.size)
    (h : ∀ v h' tk, (intItems xs)[argBest (fun i j => decide (numAt xs i > numAt xs j)) (xs.size - 1)]? = some v → (∀ b o, s.heap.get? b = some o → h'.get? b = some o) → Q v { s with heap := h', toks := tk }) :
    wpAny (model prog w) A (call (.builtin "max") [.ref l]) Q E s := by
  have hlt : l < s.heap.objs.size := by obtain ⟨_, e, _⟩ := hl; exact Heap.lt_size e
  refine call_max_walk (wpAny_pyIter_tuple hl ?_)
  refine ⟨_, _, _, _, _, _, _, rfl, Walks.tuple (A := A.in1) hh _ l (Nat.ne_of_lt hlt) (intItems xs), ⟨⟨_, Heap.get?_push_size _ rfl, rfl, rfl⟩, hl.push _⟩, fun b hb => ?_, by simpa [intItems] using hne, CmpOf.ints_gt (numAt xs) (fun _ _ => intItems_at), fun v h' tk hP hk => ?_⟩
  · show b < (s.heap.push _).objs.size
    rw [Heap.size_push]
    rcases List.mem_cons.mp hb with rfl | hb
    · exact Nat.lt_succ_self _
    · rcases List.mem_cons.mp hb with rfl | hb
      · exact Nat.lt_succ_of_lt hlt
      · cases hb
  · refine h v h' tk (by simpa [intItems] using hP) fun b o e => hk b o (fun hm => ?_) (Heap.get?_push_of_some _ e)
    rcases List.mem_cons.mp hm with e1 | hm
    · exact absurd (e1 ▸ Heap.lt_size e) (Nat.lt_irrefl _)
    · cases hm
theorem min_intTup {Q : Value → Shared → Prop} (hh : A.handled = none) (hl : s.heap.IsTuple l (intItems xs)) (hne : 0 < xs.size)
    (h : ∀ v h' tk, (intItems xs)[argBest (fun i j => decide (numAt xs i < numAt xs j)) (xs.size - 1)]? = some v → (∀ b o, s.heap.get? b = some o → h'.get? b = some o) → Q v { s with heap := h', toks := tk }) :
    wpAny (model prog w) A (call (.builtin "min") [.ref l]) Q E s := by
  have hlt : l < s.heap.objs.size := by obtain ⟨_, e, _⟩ := hl; exact Heap.lt_size e
  refine call_min_walk (wpAny_pyIter_tuple hl ?_)
  refine ⟨_, _, _, _, _, _, _, rfl, Walks.tuple (A := A.in1) hh _ l (Nat.ne_of_lt hlt) (intItems xs), ⟨⟨_, Heap.get?_push_size _ rfl, rfl, rfl⟩, hl.push _⟩, fun b hb => ?_, by simpa [intItems] using hne, CmpOf.ints_lt (numAt xs) (fun _ _ => intItems_at), fun v h' tk hP hk => ?_⟩
  · show b < (s.heap.push _).objs.size
    rw [Heap.size_push]
    rcases List.mem_cons.mp hb with rfl | hb
    · exact Nat.lt_succ_self _
    · rcases List.mem_cons.mp hb with rfl | hb
      · exact Nat.lt_succ_of_lt hlt
      · cases hb
  · refine h v h' tk (by simpa [intItems] using hP) fun b o e => hk b o (fun hm => ?_) (Heap.get?_push_of_some _ e)
    rcases List.mem_cons.mp hm with e1 | hm
    · exact absurd (e1 ▸ Heap.lt_size e) (Nat.lt_irrefl _)
    · cases hm
end
theorem ints_of_valsT : ∀ {ns : List Int} {us : List Value}, Vals (ns.map V.int) us → PyProof.Rows.IntsAre us ns
  | [], _, h => by
    cases h
    exact .nil
  | n :: ns, _, h => by
    cases h with
    | cons r t =>
      obtain ⟨k, rfl⟩ := r
      exact .cons n k (ints_of_valsT t)
def rMaxT (K : PySem.W.Frag) : List V → Hp → VK → Prop := fun vs H Q => ∃ (a : Addr) (ns : List Int), vs = [V.ref a] ∧ SqT K H a (ns.map V.int) ∧ 0 < ns.length ∧ ∀ m, m ∈ ns → (∀ y, y ∈ ns → y ≤ m) → Q (.int m) H
def rMinT (K : PySem.W.Frag) : List V → Hp → VK → Prop := fun vs H Q => ∃ (a : Addr) (ns : List Int), vs = [V.ref a] ∧ SqT K H a (ns.map V.int) ∧ 0 < ns.length ∧ ∀ m, m ∈ ns → (∀ y, y ∈ ns → m ≤ y) → Q (.int m) H
theorem cr_maxT {X : Cx} (hc : X.calm = true) : CallR X (.builtin "max") (rMaxT X.K) := by
  intro pins s σ H vs us Q I r h
  obtain ⟨a, ns, rfl, hq, hne, q⟩ := h
  obtain ⟨u, rfl, ru⟩ := vals1 r
  cases ru
  obtain ⟨its, rv, ⟨o, ho, hcl, n, hd⟩, _⟩ := I.tuple hq
  have ia := ints_of_valsT rv
  obtain ⟨xs, e⟩ := ia.allInts.items
  have hn : numsOf (intItems xs).toList = ns := by rw [← e]; exact ia.numsOf
  rw [nums_intItems] at hn
  have ht : s.heap.IsTuple a (intItems xs) := by rw [← e]; exact ⟨o, ho, hcl, n, hd⟩
  subst hn
  have hsz : 0 < xs.size := by simpa using hne
  refine max_intTup (I.ok.hd hc) ht hsz fun v h' tk hv hk => ?_
  obtain ⟨t, rfl⟩ := intItems_at hv
  obtain ⟨h1, h2⟩ := argBest_gt (numAt xs) (xs.size - 1)
  refine ⟨.int _, H, I.kept hk, ⟨_, rfl⟩, q _ ?_ fun a ha => ?_⟩
  · rw [numAt_eq]; exact PySem.getD_mem (by rw [List.length_map, Array.length_toList]; omega)
  · obtain ⟨j, hj, rfl⟩ := mem_getD ha
    rw [List.length_map, Array.length_toList] at hj
    rw [← numAt_eq]; exact h2 j (by omega)
theorem cr_minT {X : Cx} (hc : X.calm = true) : CallR X (.builtin "min") (rMinT X.K) := by
  intro pins s σ H vs us Q I r h
  obtain ⟨a, ns, rfl, hq, hne, q⟩ := h
  obtain ⟨u, rfl, ru⟩ := vals1 r
  cases ru
  obtain ⟨its, rv, ⟨o, ho, hcl, n, hd⟩, _⟩ := I.tuple hq
  have ia := ints_of_valsT rv
  obtain ⟨xs, e⟩ := ia.allInts.items
  have hn : numsOf (intItems xs).toList = ns := by rw [← e]; exact ia.numsOf
  rw [nums_intItems] at hn
  have ht : s.heap.IsTuple a (intItems xs) := by rw [← e]; exact ⟨o, ho, hcl, n, hd⟩
  subst hn
  have hsz : 0 < xs.size := by simpa using hne
  refine min_intTup (I.ok.hd hc) ht hsz fun v h' tk hv hk => ?_
  obtain ⟨t, rfl⟩ := intItems_at hv
  obtain ⟨h1, h2⟩ := argBest_lt (numAt xs) (xs.size - 1)
  refine ⟨.int _, H, I.kept hk, ⟨_, rfl⟩, q _ ?_ fun a ha => ?_⟩
  · rw [numAt_eq]; exact PySem.getD_mem (by rw [List.length_map, Array.length_toList]; omega)
  · obtain ⟨j, hj, rfl⟩ := mem_getD ha
    rw [List.length_map, Array.length_toList] at hj
    rw [← numAt_eq]; exact h2 j (by omega)
end DD
namespace DD
open PySem PySem.Spec PyProof.Rows L2 RZ

/-! ### for x in zip(a, b), two tuples of one length, the pair taken whole -/
def iZipP (K : PySem.W.Frag) (ta : TA) : TI := fun σ H R => ta σ H fun vs H1 => ∃ (a b : Addr) (xs ys : List V), vs = [.ref a, .ref b] ∧ SqT K H1 a xs ∧ SqT K H1 b ys ∧ xs.length = ys.length ∧ R (ItzN K [a, b] [xs, ys] xs.length) H1
theorem pi_zipP {X : Cx} {e e2 : Expr} {ta : TA} {p pos xp : Pos} {x : Str} (hg : Gl X "zip") (hm : X.mg "zip" = none) (ha : PA X [e, e2] ta)
    (hs : starEach [e, e2] X.env = (false, eval e X.env) :: starEach [e2] X.env := by rfl) (hpl : (backTo pos (starEach [e2] X.env)).any (·.1) = false := by rfl) :
    PI X (.Name x xp) (.Call (.Name "zip" p) [e, e2] [] pos) (iZipP X.K ta) := by
  refine ⟨fun pins s σ H R I h => ?_⟩
  refine Call_ (ld_blt I hg hm PyProof.Rows.boot_zip (PyProof.Rows.callWith_type1 (thn (ha.run pos pins s σ H _ I h) fun us s2 ⟨vs, H1, I2, r1, q1⟩ => ?_) hs hpl))
  obtain ⟨a, b, xs, ys, ex, hx, hy, hl, q⟩ := q1
  subst ex
  obtain rfl := vals_refs (ls := [a, b]) r1
  have Rw : Rws X.K H1 [a, b] [xs, ys] xs.length := ⟨rfl, fun j l r e1 e2 => by
    match j, e1, e2 with
    | 0, e1, e2 => cases e1; cases e2; exact ⟨hx, rfl⟩
    | 1, e1, e2 => cases e1; cases e2; exact ⟨hy, hl.symm⟩⟩
  have h1 : 1 ≤ [a, b].length := by simp
  have h2 : [a, b].length ≤ 4 := by simp
  have tup : ∀ l ∈ [a, b], ∃ xs, s2.heap.IsTuple l xs := fun l hl => by
    obtain ⟨j, hj⟩ := List.mem_iff_getElem?.mp hl
    have hjl := (List.getElem?_eq_some_iff.mp hj).1
    have hjr : [xs, ys][j]? = some ([xs, ys][j]'(by have := Rw.len; omega)) := List.getElem?_eq_getElem (by have := Rw.len; omega)
    obtain ⟨its, _, ⟨o, ho, hc, n, hd⟩, _⟩ := I2.tuple (Rw.at_ j l _ hj hjr).1
    exact ⟨its.toArray, o, ho, hc, n, hd⟩
  refine call_zipN h1 h2 tup fun h' n en S hsz hk => ?_
  have I3 : Inv X pins σ H1 { s2 with heap := h' } := I2.kept (t' := s2.toks) hk
  have hlt : ∀ l ∈ [a, b], l < n := fun l hl => by
    obtain ⟨xs, o, ho, _⟩ := tup l hl
    rw [en]
    exact Heap.lt_size ho
  refine pyIter_zn (s := { s2 with heap := h' }) S ⟨n + [a, b].length + 2, _, _, _, H1, rfl, I3, turn_zn h1 h2 hlt, S, fun b' hb => ?_, q⟩
  have hle : s2.heap.objs.size ≤ b' := by
    rw [← en]
    rcases List.mem_cons.mp hb with rfl | hb
    · omega
    rcases List.mem_cons.mp hb with rfl | hb
    · omega
    rcases List.mem_cons.mp hb with rfl | hb
    · omega
    obtain ⟨p, hp, rfl⟩ := List.mem_map.mp hb
    obtain ⟨j, _, _, e⟩ := zps_mem hp
    exact Nat.le_trans (Nat.le_add_right n j) (Nat.le_of_eq e.symm)
  exact I2.fpOk hle (I2.hok.fresh hle)

/-- a comprehension over zip of two tuples of one length -/
theorem lc_zipT {K : PySem.W.Frag} {a b : Addr} {xs ys : List V} {g : TG} {tt : TT} {te : TE} {vs : List Nat} {σ : L2.St} {H1 : Hp} {D : Addr} {Qd : Hp → Prop} (hl : xs.length = ys.length)
    (Pv : Nat → Hp → Prop) (h0 : Pv 0 (upd H1 D (.lst []))) (hq : ∀ i H, i ≤ xs.length → Pv i H → SqT K H a xs ∧ SqT K H b ys)
    (hs : ∀ i x y T H, xs[i]? = some x → ys[i]? = some y → Pv i H → H T = none → g (.ref T) (wipe σ vs) (upd H T (.tup [x, y])) fun σ2 H2 => wipe σ2 vs = wipe σ vs ∧ tt σ2 H2 fun b H3 =>
      if b = true then (te σ2 H3 fun y H4 => ∃ acc, H4 D = some (.lst acc) ∧ acc.length < sizeLine ∧ Pv (i + 1) (upd H4 D (.lst (acc ++ [y])))) else Pv (i + 1) H3) (hd : ∀ H, Pv xs.length H → Qd H) :
    ∃ W : Nat → Nat → Hp → Prop, (∃ m, W 0 m (upd H1 D (.lst []))) ∧ ∀ i m0 H, W i m0 H → ((ItzT K a b).stop i H ∧ Qd H) ∨ ((ItzT K a b).go i H ∧
      ∃ Nx : Hp → Prop, (∀ H', Nx H' → ∃ m', m' < m0 ∧ W (i + 1) m' H') ∧ ∀ x H', (ItzT K a b).yld i H x H' → g x (wipe σ vs) H' fun σ2 H2 => wipe σ2 vs = wipe σ vs ∧
        tt σ2 H2 fun b H3 => if b = true then (te σ2 H3 fun y H4 => ∃ acc, H4 D = some (.lst acc) ∧ acc.length < sizeLine ∧ Nx (upd H4 D (.lst (acc ++ [y])))) else Nx H3) := by
  refine ⟨fun i m0 H => m0 = xs.length - i ∧ i ≤ xs.length ∧ Pv i H, ⟨xs.length, by simp, Nat.zero_le _, h0⟩, ?_⟩
  rintro i _ H ⟨rfl, hi, p⟩
  obtain ⟨qx, qy⟩ := hq i H hi p
  by_cases hlt : i < xs.length
  · have hx : xs[i]? = some xs[i] := List.getElem?_eq_getElem hlt
    have hlt2 : i < ys.length := by omega
    have hy : ys[i]? = some ys[i] := List.getElem?_eq_getElem hlt2
    refine .inr ⟨⟨xs, ys, _, _, qx, qy, hx, hy⟩, Pv (i + 1), fun H' p' => ⟨xs.length - (i + 1), by omega, rfl, hlt, p'⟩, fun v H' y => ?_⟩
    obtain ⟨T, x', y', rfl, hT, rfl, f1, f2⟩ := y
    exact hs i x' y' T H (f1 xs qx) (f2 ys qy) p hT
  · have e : i = xs.length := by omega
    subst e
    exact .inl ⟨⟨xs, ys, qx, qy, Or.inl (Nat.le_refl _)⟩, hd H p⟩
/-- a comprehension over zip(*..) of tuples of one length -/
theorem lc_zipN {K : PySem.W.Frag} {ls : List Addr} {rows : List (List V)} {m : Nat} {g : TG} {tt : TT} {te : TE} {vs : List Nat} {σ : L2.St} {H1 : Hp} {D : Addr} {Qd : Hp → Prop}
    (Pv : Nat → Hp → Prop) (h0 : Pv 0 (upd H1 D (.lst []))) (hl : ∀ i H, i ≤ m → Pv i H → Rws K H ls rows m)
    (hs : ∀ i T H, i < m → Pv i H → H T = none → g (.ref T) (wipe σ vs) (upd H T (.tup (colV rows i))) fun σ2 H2 => wipe σ2 vs = wipe σ vs ∧ tt σ2 H2 fun b H3 =>
      if b = true then (te σ2 H3 fun y H4 => ∃ acc, H4 D = some (.lst acc) ∧ acc.length < sizeLine ∧ Pv (i + 1) (upd H4 D (.lst (acc ++ [y])))) else Pv (i + 1) H3) (hd : ∀ H, Pv m H → Qd H) :
    ∃ W : Nat → Nat → Hp → Prop, (∃ m, W 0 m (upd H1 D (.lst []))) ∧ ∀ i m0 H, W i m0 H → ((ItzN K ls rows m).stop i H ∧ Qd H) ∨ ((ItzN K ls rows m).go i H ∧
      ∃ Nx : Hp → Prop, (∀ H', Nx H' → ∃ m', m' < m0 ∧ W (i + 1) m' H') ∧ ∀ x H', (ItzN K ls rows m).yld i H x H' → g x (wipe σ vs) H' fun σ2 H2 => wipe σ2 vs = wipe σ vs ∧
        tt σ2 H2 fun b H3 => if b = true then (te σ2 H3 fun y H4 => ∃ acc, H4 D = some (.lst acc) ∧ acc.length < sizeLine ∧ Nx (upd H4 D (.lst (acc ++ [y])))) else Nx H3) := by
  refine ⟨fun i m0 H => m0 = m - i ∧ i ≤ m ∧ Pv i H, ⟨m, by simp, Nat.zero_le _, h0⟩, ?_⟩
  rintro i _ H ⟨rfl, hi, p⟩
  have q := hl i H hi p
  by_cases hlt : i < m
  · refine .inr ⟨⟨hlt, q⟩, Pv (i + 1), fun H' p' => ⟨m - (i + 1), by omega, rfl, hlt, p'⟩, fun x H' y => ?_⟩
    obtain ⟨T, rfl, nT, rfl⟩ := y
    exact hs i T H hlt p nT
  · obtain rfl : i = m := by omega
    exact .inl ⟨⟨rfl, q⟩, hd H p⟩

end DD
namespace DD
open PySem PySem.Spec PyProof.Rows L2 RZ
theorem walk_enT {K : PySem.W.Frag} {a : Addr} {xs : List V} {c : Int} : Walk (ItEnT K a c) xs.length (fun H => SqT K H a xs) (YPair (fun i => some (.int (c + (i : Nat)))) (fun i => xs[i]?)) := by
  refine ⟨fun i _ hi q => ⟨xs, xs[i], q, by simp [hi]⟩, fun _ q => ⟨xs, q, Nat.le_refl _⟩, fun i H v H' _ q y => ?_⟩
  obtain ⟨T, x, h1, h2, h3, h4⟩ := y
  exact ⟨T, .int (c + (i : Nat)), x, h1, h2, h3, rfl, h4 xs q⟩

/-! ### two clauses in one comprehension -/
section
variable {J J1 : It} {n n1 : Nat} {G G1 : Hp → Prop} {Y Y1 : Nat → Hp → V → Hp → Prop}
theorem lc2_it (w : Walk J n G Y) {g g1 : TG} {tt tt1 : TT} {te : TE} {wi1 : TI} {vs vs1 : List Nat} {σ : L2.St} {H1 : Hp} {D : Addr} {Qd : Hp → Prop} (Pv : Nat → Hp → Prop) (h0 : Pv 0 (upd H1 D (.lst []))) (hG : ∀ i H, i ≤ n → Pv i H → G H)
    (hs : ∀ i x H H', i < n → Pv i H → Y i H x H' → g x (wipe σ vs) H' fun σ2 H2 => wipe σ2 vs = wipe σ vs ∧ tt σ2 H2 fun b H3 =>
      if b = true then wi1 σ2 H3 fun J1 H4 => ∃ W1 : Nat → Nat → Hp → Prop, (∃ m, W1 0 m H4) ∧ ∀ j k H, W1 j k H →
      (J1.stop j H ∧ Pv (i + 1) H) ∨ (J1.go j H ∧ ∃ Nx1 : Hp → Prop, (∀ H', Nx1 H' → ∃ k', k' < k ∧ W1 (j + 1) k' H') ∧ ∀ x H', J1.yld j H x H' → g1 x (wipe σ2 vs1) H' fun σ3 H5 => wipe σ3 vs1 = wipe σ2 vs1 ∧ tt1 σ3 H5 fun b H6 =>
        if b = true then te σ3 H6 fun y H7 => ∃ acc, H7 D = some (.lst acc) ∧ acc.length < sizeLine ∧ Nx1 (upd H7 D (.lst (acc ++ [y]))) else Nx1 H6)
      else Pv (i + 1) H3) (hd : ∀ H, Pv n H → Qd H) :
    ∃ W : Nat → Nat → Hp → Prop, (∃ m, W 0 m (upd H1 D (.lst []))) ∧ ∀ i m H, W i m H →
  (J.stop i H ∧ Qd H) ∨ (J.go i H ∧ ∃ Nx : Hp → Prop, (∀ H', Nx H' → ∃ m', m' < m ∧ W (i + 1) m' H') ∧ ∀ x H', J.yld i H x H' → g x (wipe σ vs) H' fun σ2 H2 => wipe σ2 vs = wipe σ vs ∧ tt σ2 H2 fun b H3 =>
    if b = true then wi1 σ2 H3 fun J1 H4 => ∃ W1 : Nat → Nat → Hp → Prop, (∃ m, W1 0 m H4) ∧ ∀ j k H, W1 j k H →
      (J1.stop j H ∧ Nx H) ∨ (J1.go j H ∧ ∃ Nx1 : Hp → Prop, (∀ H', Nx1 H' → ∃ k', k' < k ∧ W1 (j + 1) k' H') ∧ ∀ x H', J1.yld j H x H' → g1 x (wipe σ2 vs1) H' fun σ3 H5 => wipe σ3 vs1 = wipe σ2 vs1 ∧ tt1 σ3 H5 fun b H6 =>
        if b = true then te σ3 H6 fun y H7 => ∃ acc, H7 D = some (.lst acc) ∧ acc.length < sizeLine ∧ Nx1 (upd H7 D (.lst (acc ++ [y]))) else Nx1 H6)
    else Nx H3) := by
  refine ⟨fun i m H => m = n - i ∧ i ≤ n ∧ Pv i H, ⟨n, by simp, Nat.zero_le _, h0⟩, ?_⟩
  rintro i m H ⟨rfl, hi, p⟩
  have q := hG i H hi p
  by_cases hlt : i < n
  · refine .inr ⟨w.goes i H hlt q, Pv (i + 1), fun H' p' => ⟨n - (i + 1), by omega, rfl, hlt, p'⟩, fun x H' y => hs i x H H' hlt p (w.yields i H x H' hlt q y)⟩
  · have e : i = n := by omega
    subst e
    exact .inl ⟨w.stops H q, hd H p⟩
theorem lci_it (w : Walk J1 n1 G1 Y1) {g1 : TG} {tt1 : TT} {te : TE} {vs1 : List Nat} {σ2 : L2.St} {H4 : Hp} {D : Addr} {Nx : Hp → Prop} (Pv : Nat → Hp → Prop) (h0 : Pv 0 H4) (hG : ∀ i H, i ≤ n1 → Pv i H → G1 H)
    (hs : ∀ j x H H', j < n1 → Pv j H → Y1 j H x H' → g1 x (wipe σ2 vs1) H' fun σ3 H5 => wipe σ3 vs1 = wipe σ2 vs1 ∧ tt1 σ3 H5 fun b H6 =>
        if b = true then te σ3 H6 fun y H7 => ∃ acc, H7 D = some (.lst acc) ∧ acc.length < sizeLine ∧ Pv (j + 1) (upd H7 D (.lst (acc ++ [y]))) else Pv (j + 1) H6) (hd : ∀ H, Pv n1 H → Nx H) :
    ∃ W1 : Nat → Nat → Hp → Prop, (∃ m, W1 0 m H4) ∧ ∀ j k H, W1 j k H →
      (J1.stop j H ∧ Nx H) ∨ (J1.go j H ∧ ∃ Nx1 : Hp → Prop, (∀ H', Nx1 H' → ∃ k', k' < k ∧ W1 (j + 1) k' H') ∧ ∀ x H', J1.yld j H x H' → g1 x (wipe σ2 vs1) H' fun σ3 H5 => wipe σ3 vs1 = wipe σ2 vs1 ∧ tt1 σ3 H5 fun b H6 =>
        if b = true then te σ3 H6 fun y H7 => ∃ acc, H7 D = some (.lst acc) ∧ acc.length < sizeLine ∧ Nx1 (upd H7 D (.lst (acc ++ [y]))) else Nx1 H6) := by
  refine ⟨fun i m H => m = n1 - i ∧ i ≤ n1 ∧ Pv i H, ⟨n1, by simp, Nat.zero_le _, h0⟩, ?_⟩
  rintro i m H ⟨rfl, hi, p⟩
  have q := hG i H hi p
  by_cases hlt : i < n1
  · refine .inr ⟨w.goes i H hlt q, Pv (i + 1), fun H' p' => ⟨n1 - (i + 1), by omega, rfl, hlt, p'⟩, fun x H' y => hs i x H H' hlt p (w.yields i H x H' hlt q y)⟩
  · have e : i = n1 := by omega
    subst e
    exact .inl ⟨w.stops H q, hd H p⟩
end
end DD
namespace DD
open PySem PySem.Spec PyProof.Rows L2
def topS (i : Nat) : Stmt := PySem.Challenge.pw_darkdrawers_k03_collections_judged.main.body.getD i (.Pass ⟨0, 0, 0, 0⟩)
abbrev sIsNum : Stmt := topS 3
abbrev sUpTo : Stmt := topS 4
abbrev sTupOf : Stmt := topS 5
abbrev sNums : Stmt := topS 6
abbrev sAre : Stmt := topS 8
abbrev sIsCol : Stmt := topS 9
abbrev sDeck : Stmt := topS 11
abbrev sDraw : Stmt := topS 12
abbrev sLNum : Stmt := topS 13
abbrev sCounts : Stmt := topS 14
abbrev sWishes : Stmt := topS 15
abbrev sOdd : Stmt := topS 16
abbrev sTwin : Stmt := topS 17
abbrev sRight : Stmt := topS 18
abbrev sChanged : Stmt := topS 19
abbrev sLaw : Stmt := topS 20
end DD
namespace DD
open PySem PySem.Spec PyProof.Rows L2

/-! ### small words about heaps -/
def Kp2 (a b : Addr) (H H' : Hp) : Prop := ∀ c o, c ≠ a → c ≠ b → H c = some o → H' c = some o
theorem Kp2.refl {a b : Addr} {H : Hp} : Kp2 a b H H := fun _ _ _ _ e => e
theorem Kp2.trans {a b : Addr} {H H1 H2 : Hp} (x : Kp2 a b H H1) (y : Kp2 a b H1 H2) : Kp2 a b H H2 := fun c o h1 h2 e => y c o h1 h2 (x c o h1 h2 e)
theorem kps {a b : Addr} {H H' : Hp} (x : Same H H') : Kp2 a b H H' := fun c o _ _ e => x c o e
theorem same_new {H : Hp} {p : Addr} {o : HO} (h : H p = none) : Same H (upd H p o) := fun b x e => by
  rw [upd_ne (ne_of_none e h)]
  exact e
theorem kp2_upd1 {a b : Addr} {H : Hp} {o : HO} : Kp2 a b H (upd H a o) := fun c x h1 _ e => by rw [upd_ne h1]; exact e
theorem kp2_upd2 {a b : Addr} {H : Hp} {o : HO} : Kp2 a b H (upd H b o) := fun c x _ h2 e => by rw [upd_ne h2]; exact e

/-- the deck at dk: its cells at c, none below 0; at most B draws so far -/
structure Deck (H : Hp) (dk c : Addr) (B : Nat) : Prop where
  ex : ∃ (ns : List Int) (t : Int), H dk = some (.lst [.ref c, .int t]) ∧ H c = some (.lst (ns.map V.int)) ∧ (∀ n ∈ ns, 0 ≤ n) ∧ ns.length ≤ 63 ∧ 0 ≤ t ∧ t ≤ (B : Int)
  ne : dk ≠ c
theorem Deck.up {H : Hp} {dk c : Addr} {B B' : Nat} (d : Deck H dk c B) (h : B ≤ B') : Deck H dk c B' := by
  obtain ⟨⟨ns, t, h1, h2, h3, h4, h5, h6⟩, ne⟩ := d
  exact ⟨⟨ns, t, h1, h2, h3, h4, h5, by omega⟩, ne⟩
theorem Deck.keep {H H' : Hp} {dk c : Addr} {B : Nat} (d : Deck H dk c B) (k : Same H H') : Deck H' dk c B := by
  obtain ⟨⟨ns, t, h1, h2, h3⟩, ne⟩ := d
  exact ⟨⟨ns, t, k _ _ h1, k _ _ h2, h3⟩, ne⟩

theorem scDraw : FnScope ["_law_deck_here", "_law_limit", "_law_cell", "_law_index"] ["_law_deck_here", "_law_limit"] (defScope sDraw) := ⟨rfl, rfl, rfl, by decide +kernel, rfl, by decide +kernel, by decide +kernel⟩

section
variable {P : Program} {w : World} {K : PySem.W.Frag} {mg : Str → Option Value} {base : Heap}
/-- a drawn number from 0 to L - 1: the deck turns, all else stands -/
def spDraw : Sp := fun vs H Q _ => ∃ (dk c : Addr) (B : Nat) (L : Int), vs = [.ref dk, .int L] ∧ Deck H dk c B ∧ B ≤ 1000000 ∧ 1 ≤ L ∧ L ≤ 1000 ∧
  ∀ r H', 0 ≤ r → r < L → Kp2 dk c H H' → Deck H' dk c (B + 1) → Q (.int r) H'
theorem ok_draw {f : Addr} {fd : FuncData} {k : Nat} (F : Fun K "_law_draw" "_law_draw" sDraw f fd) (ml : mg "len" = none) : FnOk P w K mg base CX0 (k + 1) f fd ["_law_deck_here", "_law_limit"] spDraw := by
  refine F.ok scDraw (fun vs H Q E h => ?_) (fun cdv A outer s H vs Q E hr h => ?_)
  · obtain ⟨dk, c, B, L, rfl, _⟩ := h
    rfl
  · obtain ⟨dk, c, B, L, rfl, ⟨⟨ns, t, hdk, hc, hpos, hlen, t0, tB⟩, dne⟩, hB, hL1, hL2, q⟩ := h
    refine ⟨_, pss_cons (ps_asg (pe_op op_add (pe_ix ix_list (pv 0) pe_int (fun _ _ => rfl)) pe_int) (pg_sub (pv 0) pe_int set_list))
      (pss_cons (ps_asg (pe_tup (pa_cons pe_int (pa_cons (pe_un un_neg pe_int) pa_nil))) (pg_tup rfl (pgs_cons (pg_name (i := 2) scDraw.nd rfl (.inl rfl)) (pgs_cons (pg_name (i := 3) scDraw.nd rfl (.inl rfl)) pgs_nil))))
      (C8.pss_cut (ps_if (pt_cmpR op_gt (pe_callB call_len_seq (by rfl) ml PySem.boot_len (pa_cons (pe_ix ix_list (pv 0) pe_int (fun _ _ => rfl)) pa_nil)) pe_int (nomark _))
          (pss_cons (ps_set (i := 3) scDraw.nd rfl (.inl rfl) (pe_op op_modN (pe_ix ix_list (pv 0) pe_int (fun _ _ => rfl)) (pe_callB call_len_seq (by rfl) ml PySem.boot_len (pa_cons (pe_ix ix_list (pv 0) pe_int (fun _ _ => rfl)) pa_nil))))
          (pss_one (ps_set (i := 2) scDraw.nd rfl (.inl rfl) (pe_ix ix_list (pe_ix ix_list (pv 0) pe_int (fun _ _ => rfl)) (pv 3) (fun _ _ => rfl)))))
          pss_nil)
      (pss_cons (ps_if (pt_cmpR op_ge (pv 2) (pe_op op_pow pe_int pe_int) (nomark _))
          (pss_cons (ps_asg (pe_op op_fdivN (pv 2) (pv 1)) (pg_sub (pe_ix ix_list (pv 0) pe_int (fun _ _ => rfl)) (pv 3) set_list))
          (pss_one (ps_ret (pe_op op_modN (pv 2) (pv 1)))))
          pss_nil)
      (pss_one (ps_ret (pe_op op_modN (pe_op op_fdivN (pe_op op_modN (pe_op op_pow (pe_op op_add (pe_op op_add (pe_op op_modN (pv 2) pe_int) (pe_op op_mul pe_int (pe_ix ix_list (pv 0) pe_int (fun _ _ => rfl)))) pe_int) pe_int) pe_int) pe_int) (pv 1))))))), ?_⟩
    -- _law_deck_here[1] = _law_deck_here[1] + 1
    refine ⟨.ref dk, rfl, dk, _, 1, .int t, rfl, rfl, SqL.of hdk, atI_nat (j := 1) rfl, t, 1, rfl, rfl, .ref dk, rfl, dk, _, 1, 1, rfl, rfl, hdk, rfl, ?_⟩
    have hdk1 : (upd H dk (.lst [.ref c, .int (t + 1)])) dk = some (.lst [.ref c, .int (t + 1)]) := upd_same
    have hc1 : (upd H dk (.lst [.ref c, .int (t + 1)])) c = some (.lst (ns.map V.int)) := by
      rw [upd_ne dne.symm]
      exact hc
    -- _law_cell, _law_index = (0, -1)
    refine ⟨1, rfl, by show 2 ≤ sizeLine; decide, fun p np => ?_⟩
    have s2 : Same _ _ := same_new (o := .tup [.int 0, .int (-1)]) np
    have hdk2 := s2 _ _ hdk1
    have hc2 := s2 _ _ hc1
    have k2 : Kp2 dk c H (upd (upd H dk (.lst [.ref c, .int (t + 1)])) p (.tup [.int 0, .int (-1)])) := kp2_upd1.trans (kps s2)
    refine ⟨p, [.int 0, .int (-1)], rfl, .inl (.inl upd_same), rfl, .int 0, [.int (-1)], rfl, .int (-1), [], rfl, rfl, ?_⟩
    refine ⟨fun σ' H' => ∃ cell idx : Int, σ' = [some (.ref dk), some (.int L), some (.int cell), some (.int idx)] ∧ Kp2 dk c H H' ∧ H' dk = some (.lst [.ref c, .int (t + 1)]) ∧ H' c = some (.lst (ns.map V.int)) ∧ 0 ≤ cell ∧
      (10 ^ 18 ≤ cell → ∃ j : Nat, idx = j ∧ j < ns.length), ?_, ?_⟩
    · -- if len(_law_deck_here[0]) > 0
      refine ⟨.ref dk, rfl, dk, _, 0, .ref c, rfl, rfl, SqL.of hdk2, atI_nat (j := 0) rfl, c, _, rfl, .inl (SqL.of hc2), _, _, rfl, rfl, _, rfl, ite2 (fun e => ?_) (fun e => ?_)⟩
      · have e0 : (0 : Int) < ((ns.map V.int).length : Int) := of_decide_eq_true e
        rw [List.length_map] at e0
        have b1 := Int.fmod_nonneg_of_pos (t + 1) e0
        have b2 := Int.fmod_lt_of_pos (t + 1) e0
        obtain ⟨j, hj⟩ : ∃ j : Nat, (t + 1).fmod (ns.length : Int) = j := ⟨((t + 1).fmod (ns.length : Int)).toNat, by omega⟩
        have hjl : j < ns.length := by omega
        have gj : (ns.map V.int)[j]? = some (.int ns[j]) := by
          rw [List.getElem?_map, List.getElem?_eq_getElem hjl]
          rfl
        refine ⟨.ref dk, rfl, dk, _, 1, .int (t + 1), rfl, rfl, SqL.of hdk2, atI_nat (j := 1) rfl, .ref dk, rfl, dk, _, 0, .ref c, rfl, rfl, SqL.of hdk2, atI_nat (j := 0) rfl, c, _, rfl, .inl (SqL.of hc2), t + 1, _, rfl, rfl, ?_, ?_⟩
        · rw [List.length_map]
          omega
        · refine ⟨.ref dk, rfl, dk, _, 0, .ref c, rfl, rfl, SqL.of hdk2, atI_nat (j := 0) rfl, _, rfl, c, _, (j : Int), .int ns[j], rfl, ?_, SqL.of hc2, atI_nat gj, ?_⟩
          · show V.int ((t + 1).fmod _) = _
            rw [List.length_map, hj]
          · refine ⟨ns[j], j, ?_, k2, hdk2, hc2, hpos _ (List.getElem_mem hjl), fun _ => ⟨j, rfl, hjl⟩⟩
            show [some (V.ref dk), some (V.int L), some (V.int ns[j]), some (V.int ((t + 1).fmod _))] = _
            rw [List.length_map, hj]
      · exact ⟨0, -1, rfl, k2, hdk2, hc2, Int.le_refl _, fun z => absurd z (by decide)⟩
    · rintro σ' H' ⟨cell, idx, rfl, k2, hdk2, hc2, hcell, hidx⟩
      have hB1 : t + 1 ≤ ((B + 1 : Nat) : Int) := by omega
      -- if _law_cell >= 10 ** 18
      refine ⟨_, rfl, 10, 18, rfl, rfl, ⟨by decide, by decide, by decide⟩, _, _, rfl, rfl, _, rfl, ite2 (fun e => ?_) (fun e => ?_)⟩
      · have e0 : (10 : Int) ^ (18 : Int).toNat ≤ cell := of_decide_eq_true e
        obtain ⟨j, rfl, hjl⟩ := hidx e0
        have hix : ixN (ns.map V.int).length (j : Int) = some j := by
          unfold ixN
          rw [if_pos (by omega), if_pos (by rw [List.length_map]; omega)]
          simp
        refine ⟨_, rfl, _, rfl, cell, L, rfl, rfl, ⟨by omega, by omega⟩, .ref dk, rfl, dk, _, 0, .ref c, rfl, rfl, SqL.of hdk2, atI_nat (j := 0) rfl, _, rfl, c, _, (j : Int), j, rfl, rfl, hc2, hix, ?_⟩
        refine ⟨_, rfl, _, rfl, cell, L, rfl, rfl, by omega, ?_⟩
        refine q _ _ (Int.fmod_nonneg_of_pos _ (by omega)) (Int.fmod_lt_of_pos _ (by omega)) (k2.trans kp2_upd2) ⟨⟨ns.set j (cell.fdiv L), t + 1, ?_, ?_, ?_, ?_, by omega, hB1⟩, dne⟩
        · rw [upd_ne dne]
          exact hdk2
        · rw [upd_same, List.map_set]
        · intro n hn
          rcases List.mem_or_eq_of_mem_set hn with h | h
          · exact hpos n h
          · rw [h]
            exact Int.fdiv_nonneg hcell (by omega)
        · rw [List.length_set]
          exact hlen
      · have b1 := Int.fmod_nonneg_of_pos cell (show (0 : Int) < 2147483587 by decide)
        have b2 := Int.fmod_lt_of_pos cell (show (0 : Int) < 2147483587 by decide)
        refine ⟨_, rfl, cell, 2147483587, rfl, rfl, (by show (2147483587 : Int) ≠ 0; decide), .ref dk, rfl, dk, _, 1, .int (t + 1), rfl, rfl, SqL.of hdk2, atI_nat (j := 1) rfl, 7919, t + 1, rfl, rfl, .inl ⟨by decide, by decide⟩,
          _, _, rfl, rfl, _, _, rfl, rfl, _, 5, rfl, rfl, ⟨by decide, by decide, by omega⟩, _, 2147483647, rfl, rfl, (by show (2147483647 : Int) ≠ 0; decide), _, 7, rfl, rfl, ⟨by decide, by decide⟩, _, rfl, _, L, rfl, rfl, by omega, ?_⟩
        exact q _ _ (Int.fmod_nonneg_of_pos _ (by omega)) (Int.fmod_lt_of_pos _ (by omega)) k2 ⟨⟨ns, t + 1, hdk2, hc2, hpos, hlen, by omega, hB1⟩, dne⟩
end
end DD
namespace DD
open PySem PySem.Spec PyProof.Rows L2
theorem get_map {α β : Type} {f : α → β} {xs : List α} {i : Nat} {y : β} (h : (xs.map f)[i]? = some y) : ∃ x, xs[i]? = some x ∧ y = f x := by
  rw [List.getElem?_map] at h
  cases e : xs[i]? with
  | none => rw [e] at h; cases h
  | some x => rw [e] at h; exact ⟨x, rfl, (Option.some.inj h).symm⟩
theorem take_succ_map {α β : Type} {f : α → β} {xs : List α} {i : Nat} {x : α} (h : xs[i]? = some x) : (xs.take (i + 1)).map f = (xs.take i).map f ++ [f x] := by
  rw [List.take_add_one, h, List.map_append]
  rfl
theorem cutV_map {ns : List Int} {lo hi : Option Int} : ∃ ms : List Int, cutV (ns.map V.int) lo hi = ms.map V.int ∧ ms.length ≤ ns.length := by
  refine ⟨(ns.drop (HT.sIx ns.length 0 lo)).take (HT.sIx ns.length ns.length hi - HT.sIx ns.length 0 lo), ?_, ?_⟩
  · unfold cutV
    rw [List.length_map, List.map_take, List.map_drop]
  · rw [List.length_take, List.length_drop]
    omega
theorem len_lt {n : Nat} (h : n ≤ 1000) : n < sizeLine := small1000 h
def absI (i : Int) : Int := if i < 0 then -i else i
theorem absI_pos (i : Int) : 0 ≤ absI i := by
  unfold absI
  split <;> omega

theorem scDeck : FnScope ["_law_script", "_law_cell"] ["_law_script"] (defScope sDeck) := ⟨rfl, rfl, rfl, by decide +kernel, rfl, by decide +kernel, by decide +kernel⟩
section
variable {P : Program} {w : World} {K : PySem.W.Frag} {mg : Str → Option Value} {base : Heap}
def spDeck (K : PySem.W.Frag) : Sp := fun vs H Q _ => ∃ (a : Addr) (ns : List Int), vs = [.ref a] ∧ SqL K H a (ns.map V.int) ∧ ns.length ≤ 63 ∧
  ∀ dk c H', Same H H' → H dk = none → H c = none → Deck H' dk c 0 → Q (.ref dk) H'
theorem ok_deck {f : Addr} {fd : FuncData} {k : Nat} (F : Fun K "_law_deck" "_law_deck" sDeck f fd) (ma : mg "abs" = none) : FnOk P w K mg base CX0 (k + 1) f fd ["_law_script"] (spDeck K) := by
  refine F.ok scDeck (fun vs H Q E h => ?_) (fun cdv A outer s H vs Q E hr h => ?_)
  · obtain ⟨a, ns, rfl, _⟩ := h
    rfl
  · obtain ⟨a, ns, rfl, hS, hlen, q⟩ := h
    refine ⟨_, pss_one (ps_ret (pe_lst (pa_cons (pe_lc (own := [("_law_cell", 1)]) (g := gName 1) rfl scDeck.nd (pi_list (pe_slice sl_list (pv 0) po_none (po_some pe_int)))
      (blkOk_by (own := [("_law_cell", 1)]) (N := ["_law_script", "_law_cell"]) (sc := defScope sDeck) (by decide +kernel)) (fun _ _ _ _ _ => pg_name (i := 1) scDeck.nd rfl (Or.inl rfl)) (fun _ _ _ _ _ => pts_nil)
      (fun _ _ _ _ _ => pe_callB call_abs (by rfl) ma (by decide +kernel) (pa_cons (pv 1) pa_nil))) (pa_cons pe_int pa_nil)))), ?_⟩
    refine ⟨.ref a, rfl, 63, rfl, a, _, rfl, hS, fun p np => ?_⟩
    obtain ⟨ms, em, hml⟩ := cutV_map (ns := ns) (lo := none) (hi := some 63)
    rw [em]
    refine ⟨p, rfl, ⟨_, SqL.of upd_same⟩, fun D nD => ?_⟩
    have hp0 : Same H (upd H p (.lst (ms.map V.int))) := same_new np
    refine lc_list (xs := ms.map V.int) (fun i H' => H' D = some (.lst ((ms.take i).map fun n => V.int (absI n))) ∧ Same (upd H p (.lst (ms.map V.int))) H') ⟨upd_same, same_new nD⟩
      (fun i H' _ h => SqL.of (h.2 _ _ upd_same)) (fun i x H' hx h => ?_) (fun H' h => ?_)
    · obtain ⟨n, hn, rfl⟩ := get_map hx
      obtain ⟨hD, sm⟩ := h
      refine ⟨rfl, _, rfl, n, rfl, _, hD, ?_, ?_, fun b o e => ?_⟩
      · rw [List.length_map, List.length_take]
        exact len_lt (by omega)
      · rw [upd_same, take_succ_map hn]
        rfl
      · have hne : b ≠ D := ne_of_none e nD
        rw [upd_ne hne]
        exact sm b o e
    · obtain ⟨hD, sm⟩ := h
      rw [List.length_map, List.take_length] at hD
      refine ⟨by show 2 ≤ sizeLine; decide, fun dk nk => ?_⟩
      have ndk : D ≠ dk := ne_of_none hD nk
      refine q dk D _ (hp0.trans (sm.trans (same_new nk))) ?_ ?_ ⟨⟨ms.map absI, 0, upd_same, ?_, ?_, ?_, Int.le_refl _, Int.le_refl _⟩, ndk.symm⟩
      · exact hp0.free (sm.free nk)
      · exact hp0.free nD
      · rw [upd_ne ndk, hD, List.map_map]
        rfl
      · intro n hn
        obtain ⟨m, _, rfl⟩ := List.mem_map.mp hn
        exact absI_pos m
      · rw [List.length_map]
        omega
end
end DD
namespace DD
open PySem PySem.Spec PyProof.Rows L2
theorem four_at {r : Int} (h0 : 0 ≤ r) (h : r < 4) : ∃ b : Int, (b = 0 ∨ b = 1) ∧ atI [V.int 0, V.int 1, V.int 1, V.int 1] r = some (.int b) := by
  have e : r = 0 ∨ r = 1 ∨ r = 2 ∨ r = 3 := by omega
  rcases e with rfl | rfl | rfl | rfl
  · exact ⟨0, .inl rfl, rfl⟩
  · exact ⟨1, .inr rfl, rfl⟩
  · exact ⟨1, .inr rfl, rfl⟩
  · exact ⟨1, .inr rfl, rfl⟩
theorem scCounts : FnScope ["_law_deck_here", "_law_kinds", "_law_most", "_law_k"] ["_law_deck_here", "_law_kinds", "_law_most"] (defScope sCounts) := ⟨rfl, rfl, rfl, by decide +kernel, rfl, by decide +kernel, by decide +kernel⟩
theorem Deck.kp {H : Hp} {dk c l : Addr} {B : Nat} {o : HO} (d : Deck H dk c B) (n : H l = none) : Deck (upd H l o) dk c B := d.keep (same_new n)
theorem Deck.nedk {H : Hp} {dk c l : Addr} {B : Nat} (d : Deck H dk c B) (n : H l = none) : l ≠ dk ∧ l ≠ c := by
  obtain ⟨ns, t, h1, h2, _⟩ := d.ex
  exact ⟨(ne_of_none h1 n).symm, (ne_of_none h2 n).symm⟩
section
variable {P : Program} {w : World} {K : PySem.W.Frag} {mg : Str → Option Value} {base : Heap}
/-- a tuple of n drawn numbers from 0 to m -/
def spCounts : Sp := fun vs H Q _ => ∃ (dk c : Addr) (B n : Nat) (m : Int), vs = [.ref dk, .int n, .int m] ∧ Deck H dk c B ∧ n ≤ 100 ∧ B + 2 * n ≤ 1000000 ∧ 0 ≤ m ∧ m ≤ 900 ∧
  ∀ t (row : List Int) H', row.length = n → (∀ x ∈ row, 0 ≤ x ∧ x ≤ m) → H t = none → H' t = some (.tup (row.map V.int)) → Kp2 dk c H H' → Deck H' dk c (B + 2 * n) → Q (.ref t) H'
theorem ok_counts {f fD : Addr} {fd fdD : FuncData} {k : Nat} (F : Fun K "_law_counts" "_law_counts" sCounts f fd) (FD : Fun K "_law_draw" "_law_draw" sDraw fD fdD)
    (bD : Binds K fdD ["_law_deck_here", "_law_limit"] []) (gD : mg "_law_draw" = some (.ref fD)) (ml : mg "len" = none) (mt : mg "tuple" = none) (mr : mg "range" = none) :
    FnOk P w K mg base CX0 (k + 2) f fd ["_law_deck_here", "_law_kinds", "_law_most"] spCounts := by
  have GD : FnOk P w K mg base CX0 (k + 1) fD fdD ["_law_deck_here", "_law_limit"] spDraw := ok_draw FD ml
  refine F.ok scCounts (fun vs H Q E h => ?_) (fun cdv A outer s H vs Q E hr h => ?_)
  · obtain ⟨dk, c, B, n, m, rfl, _⟩ := h
    rfl
  · obtain ⟨dk, c, B, n, m, rfl, dek, hn, hB, hm0, hm1, q⟩ := h
    refine ⟨_, pss_one (ps_ret (pe_callTy call_tuple_of (by rfl) mt (by decide +kernel) (pa_cons (pe_lc (own := [("_law_k", 3)]) (g := gName 3) rfl scCounts.nd (pi_range1 (by rfl) mr (pa_cons (pv 1) pa_nil))
      (blkOk_by (own := [("_law_k", 3)]) (N := ["_law_deck_here", "_law_kinds", "_law_most", "_law_k"]) (sc := defScope sCounts) (by decide +kernel)) (fun _ _ _ _ _ => pg_name (i := 3) scCounts.nd rfl (Or.inl rfl)) (fun _ _ _ _ _ => pts_nil)
      (fun _ _ _ _ _ => pe_op op_mul (pe_call GD hr (by rfl) gD FD.kp bD .nil pass0 (pa_cons (pv 0) (pa_cons (pe_op op_add (pv 2) pe_int) pa_nil)))
        (pe_ix (show IxR _ (rIxL K) from ix_list) (pe_lst (pa_cons pe_int (pa_cons pe_int (pa_cons pe_int (pa_cons pe_int pa_nil))))) (pe_call GD hr (by rfl) gD FD.kp bD .nil pass0 (pa_cons (pv 0) (pa_cons pe_int pa_nil))) (fun _ _ => rfl)))) pa_nil))), ?_⟩
    refine ⟨_, rfl, n, rfl, by omega, by omega, fun D nD => ?_⟩
    have dne := dek.nedk nD
    refine lc_range (lo := 0) (n := n) (fun i H' => ∃ row : List Int, row.length = i ∧ (∀ x ∈ row, 0 ≤ x ∧ x ≤ m) ∧ H' D = some (.lst (row.map V.int)) ∧ Kp2 dk c H H' ∧ Deck H' dk c (B + 2 * i))
      ⟨[], rfl, (fun x h => by cases h), upd_same, kps (same_new nD), dek.kp nD⟩ (fun i H' hi h => ?_) (fun H' h => ?_)
    · obtain ⟨row, hl, hrow, hD, kp, dk1⟩ := h
      refine ⟨rfl, _, rfl, _, rfl, m, 1, rfl, rfl, dk, c, B + 2 * i, m + 1, rfl, dk1, by omega, by omega, by omega, fun r H1 r0 r1 k1 d1 => ?_⟩
      refine ⟨by show 4 ≤ sizeLine; decide, fun l nl => ?_⟩
      refine ⟨_, rfl, dk, c, B + 2 * i + 1, 4, rfl, d1.kp nl, by omega, by decide, by decide, fun r2 H3 s0 s1 k2 d2 => ?_⟩
      obtain ⟨b, hb, eb⟩ := four_at s0 s1
      have lne := d1.nedk nl
      have hl3 : H3 l = some (.lst [V.int 0, V.int 1, V.int 1, V.int 1]) := k2 _ _ lne.1 lne.2 upd_same
      have hD3 : H3 D = some (.lst (row.map V.int)) := by
        have hD1 := k1 _ _ dne.1 dne.2 hD
        exact k2 _ _ dne.1 dne.2 (same_new nl _ _ hD1)
      refine ⟨l, _, r2, .int b, rfl, rfl, SqL.of hl3, eb, r, b, rfl, rfl, .inr (by rcases hb with rfl | rfl <;> decide), _, hD3, ?_, row ++ [r * b], ?_, ?_, ?_, ?_, ?_⟩
      · rw [List.length_map]
        exact len_lt (by omega)
      · rw [List.length_append, hl]
        rfl
      · intro x hx
        rcases List.mem_append.mp hx with h | h
        · exact hrow x h
        · rw [List.mem_singleton.mp h]
          rcases hb with rfl | rfl
          · rw [Int.mul_zero]
            omega
          · rw [Int.mul_one]
            omega
      · rw [upd_same, List.map_append]
        rfl
      · intro b' o h1 h2 e
        have e3 := k2 b' o h1 h2 (same_new nl _ _ (k1 b' o h1 h2 (kp b' o h1 h2 e)))
        have hne : b' ≠ D := ne_of_none e nD
        rw [upd_ne hne]
        exact e3
      · obtain ⟨⟨ns, t, a1, a2, a3⟩, a4⟩ := d2
        refine ⟨⟨ns, t, ?_, ?_, a3.1, a3.2.1, a3.2.2.1, ?_⟩, a4⟩
        · rw [upd_ne dne.1.symm]
          exact a1
        · rw [upd_ne dne.2.symm]
          exact a2
        · have := a3.2.2.2
          omega
    · obtain ⟨row, hl, hrow, hD, kp, dk1⟩ := h
      refine ⟨D, _, rfl, .inl ⟨SqL.of hD, fun t nt => ?_⟩⟩
      have nt0 : H t = none := by
        have tne := dk1.nedk nt
        cases e : H t with
        | none => rfl
        | some o =>
          have := kp t o tne.1 tne.2 e
          rw [nt] at this
          cases this
      exact q t row _ hl hrow nt0 upd_same (kp.trans (kps (same_new nt))) (dk1.kp nt)
end
end DD
namespace DD
open PySem PySem.Spec PyProof.Rows L2
theorem two_at {r a b : Int} (h0 : 0 ≤ r) (h : r < 2) : ∃ z : Int, (z = a ∨ z = b) ∧ atI [V.int a, V.int b] r = some (.int z) := by
  have e : r = 0 ∨ r = 1 := by omega
  rcases e with rfl | rfl
  · exact ⟨a, .inl rfl, rfl⟩
  · exact ⟨b, .inr rfl, rfl⟩
theorem kp_free {dk c t : Addr} {H H' : Hp} {B : Nat} (kp : Kp2 dk c H H') (d : Deck H' dk c B) (nt : H' t = none) : H t = none := by
  have tne := d.nedk nt
  cases e : H t with
  | none => rfl
  | some o =>
    have := kp t o tne.1 tne.2 e
    rw [nt] at this
    cases this
theorem Deck.updD {H : Hp} {dk c D : Addr} {B : Nat} {o : HO} (d : Deck H dk c B) (h1 : D ≠ dk) (h2 : D ≠ c) : Deck (upd H D o) dk c B := by
  obtain ⟨⟨ns, t, a1, a2, a3⟩, a4⟩ := d
  refine ⟨⟨ns, t, ?_, ?_, a3⟩, a4⟩
  · rw [upd_ne h1.symm]
    exact a1
  · rw [upd_ne h2.symm]
    exact a2
/-- the tuple at t holds tuples of ints: the rows -/
structure StockAt (H : Hp) (t : Addr) (ls : List Addr) (rows : List (List Int)) : Prop where
  top : H t = some (.tup (ls.map V.ref))
  len : ls.length = rows.length
  row : ∀ (j : Nat) (l : Addr) (r : List Int), ls[j]? = some l → rows[j]? = some r → H l = some (.tup (r.map V.int))
theorem StockAt.kp {H H' : Hp} {dk c t : Addr} {ls : List Addr} {rows : List (List Int)} {B : Nat} (a : StockAt H t ls rows) (k : Kp2 dk c H H') (d : Deck H dk c B) : StockAt H' t ls rows := by
  obtain ⟨ns, t', h1, h2, _⟩ := d.ex
  have n1 : ∀ b xs, H b = some (.tup xs) → b ≠ dk ∧ b ≠ c := fun b xs e =>
    ⟨fun z => (by rw [z, h1] at e; cases e), fun z => (by rw [z, h2] at e; cases e)⟩
  refine ⟨k _ _ (n1 _ _ a.top).1 (n1 _ _ a.top).2 a.top, a.len, fun j l r e1 e2 => ?_⟩
  have h := a.row j l r e1 e2
  exact k _ _ (n1 _ _ h).1 (n1 _ _ h).2 h
theorem StockAt.same {H H' : Hp} {t : Addr} {ls : List Addr} {rows : List (List Int)} (a : StockAt H t ls rows) (k : Same H H') : StockAt H' t ls rows :=
  ⟨k _ _ a.top, a.len, fun j l r e1 e2 => k _ _ (a.row j l r e1 e2)⟩
/-! ### data of stocks and rows -/
def rowD (r : List Int) : PyData := .tuple (r.map PyData.int)
def stockD (rows : List (List Int)) : PyData := .tuple (rows.map rowD)
theorem dps_ints {K : PySem.W.Frag} {H : Hp} : ∀ r : List Int, DpAll K H (r.map V.int) (r.map PyData.int)
  | [] => .nil
  | x :: r => .cons (.int x) (dps_ints r)
theorem dp_row {K : PySem.W.Frag} {H : Hp} {p : Addr} {r : List Int} (h : H p = some (.tup (r.map V.int))) : Dp K H (.ref p) (rowD r) := .tup (SqT.of h) (dps_ints r)
theorem dps_rows {K : PySem.W.Frag} {H : Hp} : ∀ (ls : List Addr) (rows : List (List Int)), ls.length = rows.length →
    (∀ (j : Nat) (l : Addr) (r : List Int), ls[j]? = some l → rows[j]? = some r → H l = some (.tup (r.map V.int))) → DpAll K H (ls.map V.ref) (rows.map rowD)
  | [], [], _, _ => .nil
  | [], _ :: _, h, _ => by simp at h
  | _ :: _, [], h, _ => by simp at h
  | l :: ls, r :: rows, h, hat => .cons (dp_row (hat 0 l r rfl rfl)) (dps_rows ls rows (by simpa using h) fun j l' r' e1 e2 => hat (j + 1) l' r' e1 e2)
theorem StockAt.dp {K : PySem.W.Frag} {H : Hp} {t : Addr} {ls : List Addr} {rows : List (List Int)} (a : StockAt H t ls rows) : Dp K H (.ref t) (stockD rows) :=
  .tup (SqT.of a.top) (dps_rows ls rows a.len a.row)
theorem sm_row {r : List Int} (h : ∀ x ∈ r, 0 ≤ x ∧ x < 4096) (hl : r.length ≤ 4) : Sm 56 1 (rowD r) := by
  have a : SmA (r.map PyData.int).length 13 0 (r.map PyData.int) := SmA.all fun d hd => by
    obtain ⟨x, hx, rfl⟩ := List.mem_map.mp hd
    exact Sm.int (h x hx).1 (h x hx).2
  refine a.tup.up ?_ (Nat.le_refl _)
  rw [List.length_map]
  omega
theorem sm_stock {rows : List (List Int)} (h : ∀ r ∈ rows, r.length ≤ 4 ∧ ∀ x ∈ r, 0 ≤ x ∧ x < 4096) (hl : rows.length ≤ 4) : Sm 228 2 (stockD rows) := by
  have a : SmA (rows.map rowD).length 56 1 (rows.map rowD) := SmA.all fun d hd => by
    obtain ⟨r, hr, rfl⟩ := List.mem_map.mp hd
    exact sm_row (h r hr).2 (h r hr).1
  refine a.tup.up ?_ (Nat.le_refl _)
  rw [List.length_map]
  omega
theorem sm_pair {a b : List Int} (ha : ∀ x ∈ a, 0 ≤ x ∧ x < 4096) (hal : a.length ≤ 4) (hb : ∀ x ∈ b, 0 ≤ x ∧ x < 4096) (hbl : b.length ≤ 4) : Sm 114 2 (.list [rowD a, rowD b]) := by
  have q : SmA (0 + 1 + 1) 56 1 [rowD a, rowD b] := SmA.cons (sm_row ha hal) (SmA.cons (sm_row hb hbl) SmA.nil)
  exact q.lst.up (by omega) (by omega)
theorem sum_bd {b : Int} : ∀ {xs : List Int}, (∀ x ∈ xs, 0 ≤ x ∧ x ≤ b) → 0 ≤ xs.sum ∧ xs.sum ≤ (xs.length : Int) * b
  | [], _ => by simp
  | x :: xs, h => by
    have h1 := h x List.mem_cons_self
    have h2 := sum_bd (xs := xs) fun y hy => h y (List.mem_cons_of_mem _ hy)
    rw [List.sum_cons, List.length_cons, Int.natCast_add, Int.add_mul]
    omega
theorem getD_bd {r : List Int} {b : Int} (h : ∀ x ∈ r, 0 ≤ x ∧ x ≤ b) (hb : 0 ≤ b) (i : Nat) : 0 ≤ r.getD i 0 ∧ r.getD i 0 ≤ b := by
  rw [List.getD_eq_getElem?_getD]
  cases e : r[i]? with
  | none => exact ⟨Int.le_refl _, hb⟩
  | some x => exact h x (List.mem_of_getElem? e)
end DD
namespace DD
open PySem PySem.Spec PyProof.Rows L2

/-! ### slices and sums of tuples, whatever the object -/
theorem cat_gen {K : PySem.W.Frag} {H : Hp} {a b : Addr} {xs ys : List V} {Q : VK} (ha : H a = some (.tup xs)) (hb : H b = some (.tup ys)) (hl : xs.length + ys.length ≤ 1000)
    (q : ∀ p H', Same H H' → H' p = some (.tup (xs ++ ys)) → Q (.ref p) H') : rCatA K (.ref a) (.ref b) H Q := by
  refine ⟨a, b, xs, ys, rfl, rfl, SqT.of ha, SqT.of hb, Nat.le_of_lt (len_lt hl), fun e => ?_, fun _ e => ?_, fun _ _ p np => ?_⟩
  · subst e
    exact q b H (fun _ _ e => e) hb
  · subst e
    exact q a H (fun _ _ e => e) (by rw [List.append_nil]; exact ha)
  · exact q p _ (same_new np) upd_same
theorem sl_gen {K : PySem.W.Frag} {H : Hp} {a : Addr} {xs : List V} {lo hi : Option Int} {Q : VK} (ha : H a = some (.tup xs))
    (q : ∀ p H', Same H H' → H' p = some (.tup (cutV xs lo hi)) → Q (.ref p) H') : rSlA K (.ref a) lo hi H Q := by
  refine ⟨a, xs, rfl, SqT.of ha, fun e => ?_, fun _ p np => ?_⟩
  · refine q a H (fun _ _ e => e) ?_
    unfold cutV
    rw [e.1, e.2, Nat.sub_zero, List.drop_zero, List.take_length]
    exact ha
  · exact q p _ (same_new np) upd_same
theorem cut_to {r : List Int} {s : Nat} : cutV (r.map V.int) none (some (s : Int)) = (r.take s).map V.int := by
  unfold cutV
  rw [HT.sIx_none, HT.sIx_nat, List.drop_zero, Nat.sub_zero, List.length_map, ← List.map_take]
  congr 1
  by_cases h : s ≤ r.length
  · rw [Nat.min_eq_left h]
  · rw [Nat.min_eq_right (by omega), List.take_length, List.take_of_length_le (by omega)]
theorem cut_from {r : List Int} {s : Nat} : cutV (r.map V.int) (some (s : Int)) none = (r.drop s).map V.int := by
  unfold cutV
  rw [HT.sIx_none, HT.sIx_nat, List.length_map, ← List.map_drop, ← List.map_take]
  congr 1
  by_cases h : s ≤ r.length
  · rw [Nat.min_eq_left h, List.take_of_length_le (by rw [List.length_drop]; omega)]
  · rw [Nat.min_eq_right (by omega), List.drop_of_length_le (Nat.le_refl _), List.drop_of_length_le (by omega), List.take_nil]

/-! ### facts that stay while the deck turns -/
theorem tup_kp {H H' : Hp} {dk c p : Addr} {B : Nat} {xs : List V} (h : H p = some (.tup xs)) (d : Deck H dk c B) (k : Kp2 dk c H H') : H' p = some (.tup xs) := by
  obtain ⟨ns, t', h1, h2, _⟩ := d.ex
  exact k _ _ (fun z => by rw [z, h1] at h; cases h) (fun z => by rw [z, h2] at h; cases h) h
/-- a collection: n numbers from 0 to hi, one of them above 0 -/
structure Good (n : Nat) (hi : Int) (r : List Int) : Prop where
  len : r.length = n
  bd : ∀ x ∈ r, 0 ≤ x ∧ x ≤ hi
  pos : ∃ x ∈ r, 0 < x
/-- addresses of tuples of ints, row by row -/
def RowsAt (H : Hp) (ls : List Addr) (rows : List (List Int)) : Prop := ∀ (j : Nat) (l : Addr) (r : List Int), ls[j]? = some l → rows[j]? = some r → H l = some (.tup (r.map V.int))
theorem RowsAt.kp {H H' : Hp} {dk c : Addr} {B : Nat} {ls : List Addr} {rows : List (List Int)} (a : RowsAt H ls rows) (d : Deck H dk c B) (k : Kp2 dk c H H') : RowsAt H' ls rows :=
  fun j l r e1 e2 => tup_kp (a j l r e1 e2) d k
theorem RowsAt.same {H H' : Hp} {ls : List Addr} {rows : List (List Int)} (a : RowsAt H ls rows) (k : Same H H') : RowsAt H' ls rows := fun j l r e1 e2 => k _ _ (a j l r e1 e2)
/-- a list that changes is none of the rows -/
theorem RowsAt.updL {H : Hp} {F : Addr} {xs : List V} {o : HO} {ls : List Addr} {rows : List (List Int)} (a : RowsAt H ls rows) (h : H F = some (.lst xs)) : RowsAt (upd H F o) ls rows := fun j l r e1 e2 => by
  have h2 := a j l r e1 e2
  rw [upd_ne (fun z => by rw [z, h] at h2; cases h2)]
  exact h2
theorem RowsAt.snoc {H : Hp} {ls : List Addr} {rows : List (List Int)} {l : Addr} {r : List Int} (a : RowsAt H ls rows) (hl : ls.length = rows.length) (h : H l = some (.tup (r.map V.int))) : RowsAt H (ls ++ [l]) (rows ++ [r]) := by
  intro j l' r' x1 x2
  by_cases hj : j < ls.length
  · rw [List.getElem?_append_left hj] at x1
    rw [List.getElem?_append_left (by omega)] at x2
    exact a j l' r' x1 x2
  · have hj2 : j = ls.length := by
      have := (List.getElem?_eq_some_iff.mp x1).1
      rw [List.length_append] at this
      simp at this
      omega
    subst hj2
    rw [List.getElem?_append_right (Nat.le_refl _), Nat.sub_self] at x1
    rw [hl, List.getElem?_append_right (Nat.le_refl _), Nat.sub_self] at x2
    obtain rfl : l = l' := Option.some.inj x1
    obtain rfl : r = r' := Option.some.inj x2
    exact h
theorem RowsAt.init {H : Hp} {ls : List Addr} {rows : List (List Int)} {l : Addr} {r : List Int} (a : RowsAt H (ls ++ [l]) (rows ++ [r])) : RowsAt H ls rows := fun j l' r' x1 x2 =>
  a j l' r' (by rw [List.getElem?_append_left (List.getElem?_eq_some_iff.mp x1).1]; exact x1) (by rw [List.getElem?_append_left (List.getElem?_eq_some_iff.mp x2).1]; exact x2)
theorem Kp2.updF {H H' : Hp} {dk c F : Addr} {o : HO} (k : Kp2 dk c H H') (n : H F = none) : Kp2 dk c H (upd H' F o) := fun b o' h1 h2 e => by
  rw [upd_ne (ne_of_none e n)]
  exact k b o' h1 h2 e

theorem scWishes : FnScope ["_law_deck_here", "_law_most", "_law_high", "_law_kinds", "_law_found", "_law_k", "_law_needed", "_law_spot"] ["_law_deck_here", "_law_most", "_law_high", "_law_kinds"] (defScope sWishes) := ⟨rfl, rfl, rfl, by decide +kernel, rfl, by decide +kernel, by decide +kernel⟩
section
variable {P : Program} {w : World} {K : PySem.W.Frag} {mg : Str → Option Value} {base : Heap}
/-- one to M collections for n kinds, of numbers from 0 to hi -/
def spWishes : Sp := fun vs H Q _ => ∃ (dk c : Addr) (B M n : Nat) (hi : Int), vs = [.ref dk, .int M, .int hi, .int n] ∧ Deck H dk c B ∧ 1 ≤ M ∧ M ≤ 4 ∧ 1 ≤ n ∧ n ≤ 4 ∧ B + 60 ≤ 1000000 ∧ 1 ≤ hi ∧ hi ≤ 900 ∧
  ∀ t (ls : List Addr) (rows : List (List Int)) H', 1 ≤ rows.length → rows.length ≤ M → (∀ row ∈ rows, Good n hi row) → StockAt H' t ls rows → Kp2 dk c H H' → Deck H' dk c (B + 60) → Q (.ref t) H'
theorem ok_wishes {f fD fC : Addr} {fd fdD fdC : FuncData} {k : Nat} (F : Fun K "_law_wishes" "_law_wishes" sWishes f fd) (FD : Fun K "_law_draw" "_law_draw" sDraw fD fdD) (FC : Fun K "_law_counts" "_law_counts" sCounts fC fdC)
    (bD : Binds K fdD ["_law_deck_here", "_law_limit"] []) (gD : mg "_law_draw" = some (.ref fD)) (bC : Binds K fdC ["_law_deck_here", "_law_kinds", "_law_most"] []) (gC : mg "_law_counts" = some (.ref fC))
    (ml : mg "len" = none) (mt : mg "tuple" = none) (mr : mg "range" = none) (mx : mg "max" = none) :
    FnOk P w K mg base CX0 (k + 3) f fd ["_law_deck_here", "_law_most", "_law_high", "_law_kinds"] spWishes := by
  have GD : FnOk P w K mg base CX0 (k + 1) fD fdD ["_law_deck_here", "_law_limit"] spDraw := ok_draw FD ml
  have GC : FnOk P w K mg base CX0 (k + 2) fC fdC ["_law_deck_here", "_law_kinds", "_law_most"] spCounts := ok_counts FC FD bD gD ml mt mr
  refine F.ok scWishes (fun vs H Q E h => ?_) (fun cdv A outer s H vs Q E hr h => ?_)
  · obtain ⟨dk, c, B, M, n, hi, rfl, _⟩ := h
    rfl
  · obtain ⟨dk, c, B, M, n, hi, rfl, dek, hM1, hM4, hn1, hn, hB, h0, h9, q⟩ := h
    refine ⟨_, pss_cons (ps_set (i := 4) scWishes.nd rfl (.inl rfl) (pe_lst pa_nil))
      (pss_cons (ps_for PassesOwn.never rfl (pi_range1 (by rfl) mr (pa_cons (pe_ix (show IxR _ (rIxL K) from ix_list)
          (pe_lst (pa_cons (pe_op op_add pe_int (pe_call GD (hr.mono (by omega)) (by rfl) gD FD.kp bD .nil pass0 (pa_cons (pv 0) (pa_cons (pv 1) pa_nil)))) (pa_cons (pv 1) pa_nil)))
          (pe_call GD (hr.mono (by omega)) (by rfl) gD FD.kp bD .nil pass0 (pa_cons (pv 0) (pa_cons pe_int pa_nil))) (fun _ _ => rfl)) pa_nil)) (pg_name (i := 5) scWishes.nd rfl (.inl rfl))
        (pss_cons (ps_par (i := 6) (j := 7) (by rfl) scWishes.nd rfl rfl (by decide) rfl rfl
            (pa_cons (pe_call GC hr (by rfl) gC FC.kp bC .nil pass0 (pa_cons (pv 0) (pa_cons (pv 3) (pa_cons (pv 2) pa_nil))))
            (pa_cons (pe_call GD (hr.mono (by omega)) (by rfl) gD FD.kp bD .nil pass0 (pa_cons (pv 0) (pa_cons (pv 3) pa_nil))) pa_nil)) (by rfl))
        (C8.pss_cut (ps_if (pt_cmpR op_eq (pe_callB (show CallR _ _ (rMaxT K) from cr_maxT rfl) (by rfl) mx (by decide +kernel) (pa_cons (pv 6) pa_nil)) pe_int (nomark _))
            (pss_one (ps_set (i := 6) scWishes.nd rfl (.inl rfl) (pe_op op_catA (pe_op op_catA (pe_slice sl_tupA (pv 6) po_none (po_some (pv 7)))
              (pe_tup (pa_cons (pe_op op_add pe_int (pe_call GD (hr.mono (by omega)) (by rfl) gD FD.kp bD .nil pass0 (pa_cons (pv 0) (pa_cons (pv 2) pa_nil)))) pa_nil)))
              (pe_slice sl_tupA (pv 6) (po_some (pe_op op_add (pv 7) pe_int)) po_none)))) pss_nil)
        (pss_cons (ps_expr (pe_bm PySem.F.plainAttrs_list PySem.F.slot_list_append PySem.F.type_list_append mt_append (pv 4) (pa_cons (pv 6) pa_nil)))
        (pss_one (ps_if (pt_cmpR op_eq (pe_call GD (hr.mono (by omega)) (by rfl) gD FD.kp bD .nil pass0 (pa_cons (pv 0) (pa_cons pe_int pa_nil))) pe_int (nomark _))
            (pss_one (ps_asg (pe_ix ix_list (pv 4) pe_int (fun _ _ => rfl)) (pg_sub (pv 4) (pe_un un_neg pe_int) set_list))) pss_nil))))))
      (pss_one (ps_ret (pe_callTy call_tuple_of (by rfl) mt (by decide +kernel) (pa_cons (pv 4) pa_nil))))), ?_⟩
    -- _law_found = []
    refine ⟨by show 0 ≤ sizeLine; decide, fun fl nfl => ?_⟩
    have fne := dek.nedk nfl
    have d0 := dek.kp (o := .lst []) nfl
    have k0 : Kp2 dk c H (upd H fl (.lst [])) := kps (same_new nfl)
    -- range([1 + draw(most), most][draw(2)])
    refine ⟨_, rfl, _, rfl, dk, c, B, M, rfl, d0, by omega, by omega, by omega, fun r1 H1 a0 a1 k1 d1 => ?_⟩
    refine ⟨1, r1, rfl, rfl, _, rfl, by show 2 ≤ sizeLine; decide, fun l nl => ?_⟩
    refine ⟨_, rfl, dk, c, B + 1, 2, rfl, d1.kp nl, by omega, by decide, by decide, fun r2 H2 b0 b1 k2 d2 => ?_⟩
    have lne := d1.nedk nl
    have hl2 : H2 l = some (.lst [V.int (1 + r1), V.int M]) := k2 _ _ lne.1 lne.2 upd_same
    have hf1 : H1 fl = some (.lst []) := k1 _ _ fne.1 fne.2 upd_same
    have hf2 : H2 fl = some (.lst []) := k2 _ _ fne.1 fne.2 (same_new nl _ _ hf1)
    obtain ⟨z, hz, ez⟩ := two_at (a := 1 + r1) (b := M) b0 b1
    have k02 : Kp2 dk c H H2 := k0.trans (k1.trans ((kps (same_new nl)).trans k2))
    refine ⟨l, _, r2, .int z, rfl, rfl, SqL.of hl2, ez, ?_⟩
    obtain ⟨cnt, rfl, hc1, hc4⟩ : ∃ cnt : Nat, z = (cnt : Int) ∧ 1 ≤ cnt ∧ cnt ≤ M := by
      rcases hz with rfl | rfl
      · exact ⟨(1 + r1).toNat, by omega, by omega, by omega⟩
      · exact ⟨M, rfl, hM1, Nat.le_refl _⟩
    refine ⟨_, rfl, by omega, by omega, ?_⟩
    refine for_range (lo := 0) (n := cnt) (fun i σ H' => ∃ (ls : List Addr) (rows : List (List Int)) (y5 y6 y7 : Option V), σ = [some (.ref dk), some (.int M), some (.int hi), some (.int n), some (.ref fl), y5, y6, y7] ∧
        rows.length = i ∧ (∀ row ∈ rows, Good n hi row) ∧ ls.length = rows.length ∧ RowsAt H' ls rows ∧ H' fl = some (.lst (ls.map V.ref)) ∧ Kp2 dk c H H' ∧ Deck H' dk c (B + 2 + 12 * i))
      ⟨[], [], none, none, none, rfl, rfl, (fun x h => by cases h), rfl, (fun j l r e => by simp at e), hf2, k02, d2.up (by omega)⟩ (fun i σ Ha hi' h => ?_) (fun σ Ha h => ?_)
    · obtain ⟨ls, rows, y5, y6, y7, rfl, hl, hrow, hll, hat, hF, kp, da⟩ := h
      -- _law_needed, _law_spot = ..
      refine ⟨_, rfl, _, rfl, _, rfl, dk, c, B + 2 + 12 * i, n, hi, rfl, da, by omega, by omega, by omega, h9, fun t row Hb e1 e2 e3 e4 kb db => ?_⟩
      refine ⟨_, rfl, _, rfl, dk, c, B + 2 + 12 * i + 2 * n, n, rfl, db, by omega, by omega, by omega, fun s Hc s0 s1 kc dc => ?_⟩
      obtain ⟨sp, rfl⟩ : ∃ sp : Nat, s = (sp : Int) := ⟨s.toNat, by omega⟩
      have ht : Hc t = some (.tup (row.map V.int)) := tup_kp e4 db kc
      have kac : Kp2 dk c Ha Hc := kb.trans kc
      have hFc : Hc fl = some (.lst (ls.map V.ref)) := kac _ _ fne.1 fne.2 hF
      refine ⟨_, _, rfl, ?_⟩
      -- if max(_law_needed) == 0
      refine ⟨fun σ' H' => ∃ (t' : Addr) (row' : List Int), σ' = [some (.ref dk), some (.int M), some (.int hi), some (.int n), some (.ref fl), some (.int ((0 : Int) + i)), some (.ref t'), some (.int sp)] ∧ Good n hi row' ∧
        H' t' = some (.tup (row'.map V.int)) ∧ Kp2 dk c Ha H' ∧ Deck H' dk c (B + 2 + 12 * i + 10), ?_, ?_⟩
      · refine ⟨.ref t, rfl, t, row, rfl, SqT.of ht, by omega, fun m hm hmx => ⟨rfl, _, rfl, ite2 (fun e => ?_) (fun e => ?_)⟩⟩
        · refine ⟨.ref t, rfl, .int sp, rfl, sp, rfl, sl_gen ht fun pa Hd sm1 h1 => ?_⟩
          rw [cut_to] at h1
          have dd := dc.keep sm1
          have htd := sm1 _ _ ht
          refine ⟨_, rfl, _, rfl, dk, c, _, hi, rfl, dd, by omega, h0, by omega, fun r He r0 r1' ke de => ⟨1, r, rfl, rfl, ?_⟩⟩
          have h1e := tup_kp h1 dd ke
          have hte := tup_kp htd dd ke
          refine ⟨by show 1 ≤ sizeLine; decide, fun pb nb => ?_⟩
          have sb : Same He (upd He pb (.tup [V.int (1 + r)])) := same_new nb
          refine cat_gen (ys := [V.int (1 + r)]) (sb _ _ h1e) upd_same (by rw [List.length_map, List.length_take]; show _ + 1 ≤ 1000; omega) fun pc Hf sm2 h2 => ?_
          refine ⟨.ref t, rfl, .int sp, rfl, sp, 1, rfl, rfl, (sp : Int) + 1, rfl, ?_⟩
          dsimp only [tNoPart]
          refine sl_gen (sm2 _ _ (sb _ _ hte)) fun pd Hg sm3 h3 => ?_
          rw [show ((sp : Int) + 1) = ((sp + 1 : Nat) : Int) from rfl, cut_from] at h3
          refine cat_gen (sm3 _ _ h2) h3 (by simp only [List.length_append, List.length_map, List.length_take, List.length_drop, List.length_cons, List.length_nil]; omega) fun pe Hh sm4 h4 => ?_
          have sme : Same He Hh := sb.trans (sm2.trans (sm3.trans sm4))
          refine ⟨pe, row.take sp ++ [1 + r] ++ row.drop (sp + 1), rfl, ⟨?_, fun x hx => ?_, 1 + r, by simp, by omega⟩, ?_, kac.trans ((kps sm1).trans (ke.trans (kps sme))), (de.keep sme).up (by omega)⟩
          · simp only [List.length_append, List.length_take, List.length_drop, List.length_cons, List.length_nil]
            omega
          · rcases List.mem_append.mp hx with h | h
            · rcases List.mem_append.mp h with h | h
              · exact e2 x (List.mem_of_mem_take h)
              · rw [List.mem_singleton.mp h]
                omega
            · exact e2 x (List.mem_of_mem_drop h)
          · rw [h4]
            simp [List.map_append]
        · have hm0 : m ≠ 0 := fun z => by simp [z] at e
          exact ⟨t, row, rfl, ⟨e1, e2, m, hm, by have := (e2 m hm).1; omega⟩, ht, kac, dc.up (by omega)⟩
      · rintro σ' H' ⟨t', row', rfl, good, ht', kp', d'⟩
        have hFd : H' fl = some (.lst (ls.map V.ref)) := kp' _ _ fne.1 fne.2 hF
        have hat' : RowsAt H' ls rows := hat.kp da kp'
        have tne : t' ≠ fl := fun z => by rw [z, hFd] at ht'; cases ht'
        have hlen : (ls.map V.ref).length < sizeLine := by rw [List.length_map]; exact len_lt (by omega)
        -- _law_found.append(_law_needed)
        refine ⟨.ref fl, rfl, .inl ⟨rfl, _, SqL.of hFd⟩, .ref t', rfl, fl, _, .ref t', rfl, rfl, hFd, hlen, ?_⟩
        have hF1 : (upd H' fl (.lst (ls.map V.ref ++ [.ref t']))) fl = some (.lst ((ls ++ [t']).map V.ref)) := by
          rw [upd_same, List.map_append]
          rfl
        have hat1 : RowsAt (upd H' fl (.lst (ls.map V.ref ++ [.ref t']))) (ls ++ [t']) (rows ++ [row']) := (hat'.snoc hll ht').updL hFd
        have d1' : Deck (upd H' fl (.lst (ls.map V.ref ++ [.ref t']))) dk c (B + 2 + 12 * i + 10) := d'.updD fne.1 fne.2
        have kp1 : Kp2 dk c H (upd H' fl (.lst (ls.map V.ref ++ [.ref t']))) := (kp.trans kp').updF nfl
        generalize hHi : upd H' fl (.lst (ls.map V.ref ++ [.ref t'])) = Hi at hF1 hat1 d1' kp1 ⊢
        have hgood : ∀ r' ∈ rows ++ [row'], Good n hi r' := fun r' hr' => by
          rcases List.mem_append.mp hr' with h | h
          · exact hrow r' h
          · rw [List.mem_singleton.mp h]
            exact good
        -- if _law_draw(_law_deck_here, 6) == 0
        refine ⟨_, rfl, dk, c, _, 6, rfl, d1', by omega, by decide, by decide, fun r Hj r0 r1' kj dj => ⟨rfl, _, rfl, ite2 (fun e => ?_) (fun e => ?_)⟩⟩
        · have hFj : Hj fl = some (.lst ((ls ++ [t']).map V.ref)) := kj _ _ fne.1 fne.2 hF1
          have hatj : RowsAt Hj (ls ++ [t']) (rows ++ [row']) := hat1.kp d1' kj
          obtain ⟨l0, hl0⟩ : ∃ l0, (ls ++ [t'])[0]? = some l0 := ⟨(ls ++ [t'])[0]'(by simp), List.getElem?_eq_getElem _⟩
          obtain ⟨r0', hr0⟩ : ∃ r0', (rows ++ [row'])[0]? = some r0' := ⟨(rows ++ [row'])[0]'(by simp), List.getElem?_eq_getElem _⟩
          have hg0 : ((ls ++ [t']).map V.ref)[0]? = some (.ref l0) := by
            rw [List.getElem?_map, hl0]
            rfl
          have hln : ((ls ++ [t']).map V.ref).length = ls.length + 1 := by simp
          have hix : ixN ((ls ++ [t']).map V.ref).length (-1) = some ls.length := by
            rw [hln]
            unfold ixN
            rw [if_neg (by decide), if_pos (by omega)]
            congr 1
            omega
          refine ⟨.ref fl, rfl, fl, _, 0, .ref l0, rfl, rfl, SqL.of hFj, atI_nat (j := 0) hg0, .ref fl, rfl, 1, rfl, fl, _, -1, ls.length, rfl, rfl, hFj, hix, ?_⟩
          have hset : ((ls ++ [t']).map V.ref).set ls.length (.ref l0) = (ls ++ [l0]).map V.ref := by
            rw [List.map_append, List.map_append, List.set_append_right _ _ (by simp)]
            simp
          rw [hset]
          refine ⟨ls ++ [l0], rows ++ [r0'], _, _, _, rfl, ?_, ?_, ?_, ?_, upd_same, (kp1.trans kj).updF nfl, (dj.updD fne.1 fne.2).up (by omega)⟩
          · rw [List.length_append, hl]
            rfl
          · intro r' hr'
            rcases List.mem_append.mp hr' with h | h
            · exact hrow r' h
            · rw [List.mem_singleton.mp h]
              exact hgood _ (List.mem_of_getElem? hr0)
          · rw [List.length_append, List.length_append, hll]
            rfl
          · exact RowsAt.updL ((hatj.init).snoc hll (hatj 0 l0 r0' hl0 hr0)) hFj
        · refine ⟨ls ++ [t'], rows ++ [row'], _, _, _, rfl, ?_, hgood, ?_, hat1.kp d1' kj, kj _ _ fne.1 fne.2 hF1, kp1.trans kj, dj.up (by omega)⟩
          · rw [List.length_append, hl]
            rfl
          · rw [List.length_append, List.length_append, hll]
            rfl
    · obtain ⟨ls, rows, y5, y6, y7, rfl, hl, hrow, hll, hat, hF, kp, da⟩ := h
      refine ⟨.ref fl, rfl, fl, _, rfl, .inl ⟨SqL.of hF, fun t nt => ?_⟩⟩
      exact q t ls rows _ (by omega) (by omega) hrow ⟨upd_same, hll, hat.same (same_new nt)⟩ (kp.trans (kps (same_new nt))) ((da.kp nt).up (by omega))
end
end DD
namespace DD
open PySem PySem.Spec PyProof.Rows L2

/-! ### data of any value of a law: also dicts, {} and {"a": 0} -/
mutual
inductive Dq (H : Hp) : V → PyData → Prop
  | non : Dq H .non .none
  | bl (b : Bool) : Dq H (.bl b) (.bool b)
  | int (i : Int) : Dq H (.int i) (.int i)
  | str (x : Str) : Dq H (.str x) (.str x)
  | lst {a : Addr} {xs : List V} {ds : List PyData} : H a = some (.lst xs) → DqAll H xs ds → Dq H (.ref a) (.list ds)
  | tup {a : Addr} {xs : List V} {ds : List PyData} : H a = some (.tup xs) → DqAll H xs ds → Dq H (.ref a) (.tuple ds)
  | d0 {a : Addr} : H a = some (.dK []) → Dq H (.ref a) (.dict [])
  | d1 {a : Addr} : H a = some (.dK [(.inr "a", .int 0)]) → Dq H (.ref a) (.dict [(.str "a", .int 0)])
inductive DqAll (H : Hp) : List V → List PyData → Prop
  | nil : DqAll H [] []
  | cons {v : V} {d : PyData} {vs : List V} {ds : List PyData} : Dq H v d → DqAll H vs ds → DqAll H (v :: vs) (d :: ds)
end
mutual
theorem Dq.same {H H' : Hp} (k : Same H H') : ∀ (d : PyData) (v : V), Dq H v d → Dq H' v d
  | .none, _, h => by cases h; exact .non
  | .bool b, _, h => by cases h; exact .bl b
  | .int i, _, h => by cases h; exact .int i
  | .str x, _, h => by cases h; exact .str x
  | .list ds, _, h => by
    cases h with
    | lst a b => exact .lst (k _ _ a) (DqAll.same k ds _ b)
  | .tuple ds, _, h => by
    cases h with
    | tup a b => exact .tup (k _ _ a) (DqAll.same k ds _ b)
  | .dict kvs, _, h => by
    cases h with
    | d0 a => exact .d0 (k _ _ a)
    | d1 a => exact .d1 (k _ _ a)
theorem DqAll.same {H H' : Hp} (k : Same H H') : ∀ (ds : List PyData) (vs : List V), DqAll H vs ds → DqAll H' vs ds
  | [], _, h => by cases h; exact .nil
  | d :: ds, _, h => by
    cases h with
    | cons a b => exact .cons (Dq.same k d _ a) (DqAll.same k ds _ b)
end
theorem DqAll.len {H : Hp} : ∀ {vs : List V} {ds : List PyData}, DqAll H vs ds → vs.length = ds.length
  | _, _, .nil => rfl
  | _, _, .cons _ b => congrArg (· + 1) b.len
theorem DqAll.app {H : Hp} : ∀ {vs : List V} {ds : List PyData} {ws : List V} {es : List PyData}, DqAll H vs ds → DqAll H ws es → DqAll H (vs ++ ws) (ds ++ es)
  | _, _, _, _, .nil, b => b
  | _, _, _, _, .cons a c, b => .cons a (c.app b)
theorem DqAll.get {H : Hp} : ∀ {vs : List V} {ds : List PyData}, DqAll H vs ds → ∀ {i : Nat} {v : V}, vs[i]? = some v → ∃ d, ds[i]? = some d ∧ Dq H v d
  | _, _, .nil, _, _, e => by simp at e
  | _, _, .cons a _, 0, _, e => by
    obtain rfl := Option.some.inj e
    exact ⟨_, rfl, a⟩
  | _, _, .cons _ b, i + 1, _, e => b.get (i := i) e
theorem DqAll.take {H : Hp} : ∀ {vs : List V} {ds : List PyData} (n : Nat), DqAll H vs ds → DqAll H (vs.take n) (ds.take n)
  | _, _, 0, _ => .nil
  | _, _, n + 1, .nil => .nil
  | _, _, n + 1, .cons a b => .cons a (b.take n)
theorem DqAll.drop {H : Hp} : ∀ {vs : List V} {ds : List PyData} (n : Nat), DqAll H vs ds → DqAll H (vs.drop n) (ds.drop n)
  | _, _, 0, h => h
  | _, _, n + 1, .nil => .nil
  | _, _, n + 1, .cons _ b => b.drop n
theorem dq_ints {H : Hp} : ∀ r : List Int, DqAll H (r.map V.int) (r.map PyData.int)
  | [] => .nil
  | x :: r => .cons (.int x) (dq_ints r)

/-! noL: no list in it -/
mutual
def noL : PyData → Bool
  | .list _ => false
  | .tuple ds => noLs ds
  | _ => true
def noLs : List PyData → Bool
  | [] => true
  | d :: ds => noL d && noLs ds
end
theorem reads_d0 {X : Cx} {pins : List (Addr × Obj)} {σ : L2.St} {H : Hp} {s : Shared} (I : Inv X pins σ H s) {a : Addr} (h : H a = some (.dK [])) : ∃ as, Reads s.heap (.ref a) (.dict []) as ∧ sysModules ∉ as := by
  have q : ObjOk X.prog X.w H s.heap a (.dK []) := I.hok a _ h
  unfold ObjOk at q
  obtain ⟨_, hs, vs, kv, o, es, ep, ho, hx, hd, hk, hp, _⟩ := q
  cases kv
  obtain ⟨l⟩ := es
  cases hp
  refine ⟨_, .dict ho hx.1 hd (.nil) (.nil), fun z => ?_⟩
  have : sysModules = a := by simpa using z
  rw [this] at hs
  simp at hs
theorem reads_d1 {X : Cx} {pins : List (Addr × Obj)} {σ : L2.St} {H : Hp} {s : Shared} (I : Inv X pins σ H s) {a : Addr} (h : H a = some (.dK [(.inr "a", .int 0)])) : ∃ as, Reads s.heap (.ref a) (.dict [(.str "a", .int 0)]) as ∧ sysModules ∉ as := by
  have q : ObjOk X.prog X.w H s.heap a (.dK [(.inr "a", .int 0)]) := I.hok a _ h
  unfold ObjOk at q
  obtain ⟨_, hs, vs, kv, o, es, ep, ho, hx, hd, hk, hp, _⟩ := q
  cases kv with
  | cons r n =>
    cases n
    obtain ⟨l⟩ := es
    cases hp with
    | cons hi hv hr =>
      cases hr
      obtain ⟨rk, tk, rv⟩ := r
      rename_i kv _ e
      rw [← rk] at hi
      rw [rv] at hv
      obtain ⟨tk2, hk2⟩ : ∃ t, e.key = .str "a" t := by
        have z : keyIs (.inr "a") e.key = true := hi
        cases q : e.key <;> rw [q] at z <;> first | (exact absurd z Bool.false_ne_true) | (obtain rfl : "a" = _ := of_decide_eq_true z; exact ⟨_, rfl⟩) | (have z2 := eq_of_beq z; subst z2; exact ⟨_, rfl⟩)
      refine ⟨_, .dict ho hx.1 hd (.cons (show Reads s.heap e.key (.str "a") _ by rw [hk2]; exact .str _ _) .nil) (.cons (show Reads s.heap e.val (.int 0) _ by rw [hv]; exact .int _ _) .nil), fun z => ?_⟩
      have : sysModules = a := by simpa using z
      rw [this] at hs
      simp at hs
mutual
theorem Dq.reads {X : Cx} {pins : List (Addr × Obj)} {σ : L2.St} {H : Hp} {s : Shared} (I : Inv X pins σ H s) : ∀ (d : PyData) (v : V) (u : Value), Dq H v d → RelV v u → ∃ as, Reads s.heap u d as ∧ (noL d = true → sysModules ∉ as)
  | .none, _, u, h, r => by
    cases h
    obtain rfl : u = .none := r
    exact ⟨_, .none, fun _ => by simp⟩
  | .bool b, _, u, h, r => by
    cases h
    obtain rfl : u = .bool b := r
    exact ⟨_, .bool b, fun _ => by simp⟩
  | .int i, _, u, h, r => by
    cases h
    obtain ⟨t, rfl⟩ := r
    exact ⟨_, .int i t, fun _ => by simp⟩
  | .str x, _, u, h, r => by
    cases h
    obtain ⟨t, rfl⟩ := r
    exact ⟨_, .str x t, fun _ => by simp⟩
  | .list ds, _, u, h, r => by
    cases h with
    | lst a b =>
      cases r
      obtain ⟨its, rv, ⟨o, n, h1, h2, _, h3⟩, _⟩ := I.list (SqL.of (K := X.K) a)
      obtain ⟨as, ra, _⟩ := DqAll.reads I ds _ _ b rv
      exact ⟨_, .list (vs := its.toArray) h1 h2 h3 ra, fun z => by cases z⟩
  | .tuple ds, _, u, h, r => by
    cases h with
    | tup a b =>
      cases r
      obtain ⟨its, rv, ⟨o, ho, hc, n, hd⟩, _⟩ := I.tuple (SqT.of (K := X.K) a)
      obtain ⟨as, ra, hn⟩ := DqAll.reads I ds _ _ b rv
      exact ⟨_, .tuple (vs := its.toArray) ho hc hd ra, fun z => hn z⟩
  | .dict kvs, _, u, h, r => by
    cases h with
    | d0 a =>
      cases r
      obtain ⟨as, q, n⟩ := reads_d0 I a
      exact ⟨as, q, fun _ => n⟩
    | d1 a =>
      cases r
      obtain ⟨as, q, n⟩ := reads_d1 I a
      exact ⟨as, q, fun _ => n⟩
theorem DqAll.reads {X : Cx} {pins : List (Addr × Obj)} {σ : L2.St} {H : Hp} {s : Shared} (I : Inv X pins σ H s) : ∀ (ds : List PyData) (vs : List V) (us : List Value), DqAll H vs ds → Vals vs us → ∃ as, ReadsAll s.heap us ds as ∧ (noLs ds = true → sysModules ∉ as)
  | [], _, _, h, r => by
    cases h
    cases r
    exact ⟨_, .nil, fun _ => by simp⟩
  | d :: ds, _, _, h, r => by
    cases h with
    | cons a b =>
      cases r with
      | cons r1 r2 =>
        obtain ⟨as, q1, n1⟩ := Dq.reads I d _ _ a r1
        obtain ⟨bs, q2, n2⟩ := DqAll.reads I ds _ _ b r2
        refine ⟨_, .cons q1 q2, fun z => ?_⟩
        have z' : (noL d && noLs ds) = true := z
        rw [Bool.and_eq_true] at z'
        intro m
        rcases List.mem_append.mp m with m | m
        · exact n1 z'.1 m
        · exact n2 z'.2 m
end
end DD
namespace DD
open PySem PySem.Spec PyProof.Rows L2

/-! ### repr of any such value -/
structure Gd (d : PyData) : Prop where
  show_ : d.showable = true
  dp : d.depth ≤ 64
  sz : d.shown.length ≤ sizeLine
  nl : d.hasDict = true → noL d = true
theorem call_reprQ {X : Cx} (hg : X.A.guards = some []) (hu : X.A.units + 66 < cLine) : CallR X (.builtin "repr") (fun xs H Q =>
    ∃ v d, xs = [v] ∧ Dq H v d ∧ Gd d ∧ Q (.str d.shown) H) := by
  intro pins s σ H xs us Q I r h
  obtain ⟨v, d, rfl, hd, g, q⟩ := h
  obtain ⟨u, rfl, ru⟩ := vals1 r
  obtain ⟨as, rd, nm⟩ := Dq.reads I d _ _ hd ru
  have hdp := g.dp
  have big : ∀ (a : Addr), u = .ref a → wpAny (model X.prog X.w) X.A (call (.builtin "repr") [u]) (fun u s1 => ∃ x H1, Inv X pins σ H1 s1 ∧ RelV x u ∧ Q x H1) X.xe s := fun a e => by
    subst e
    exact repr_of_reads' (Q := fun u s1 => ∃ x H1, Inv X pins σ H1 s1 ∧ RelV x u ∧ Q x H1) rd g.show_ (fun z => nm (g.nl z)) hg (by omega) (fun _ _ e => e)
      (fun h' u tk hk => ⟨.str d.shown, H, I.kept hk, ⟨_, rfl⟩, q⟩) g.sz
  cases hd with
  | non =>
    obtain rfl : u = .none := ru
    exact P.repr_of_none ⟨.str PyData.none.shown, H, I.tok _, ⟨_, rfl⟩, q⟩
  | bl b =>
    obtain rfl : u = .bool b := ru
    exact P.repr_of_bool ⟨.str (PyData.bool b).shown, H, I.tok _, ⟨_, rfl⟩, q⟩
  | int i =>
    obtain ⟨t, rfl⟩ := ru
    exact P.repr_of_int (of_decide_eq_true g.show_) ⟨.str (PyData.int i).shown, H, I.tok _, ⟨_, rfl⟩, q⟩
  | str x =>
    obtain ⟨t, rfl⟩ := ru
    exact P.repr_of_str ⟨.str (PyData.str x).shown, H, I.tok _, ⟨_, rfl⟩, q⟩ g.sz
  | lst _ _ => exact big _ ru
  | tup _ _ => exact big _ ru
  | d0 _ => exact big _ ru
  | d1 _ => exact big _ ru

/-! ### its kind -/
def isTup : PyData → Bool
  | .tuple _ => true
  | _ => false
def isI : PyData → Bool
  | .int _ => true
  | .bool _ => true
  | _ => false
def isB : PyData → Bool
  | .bool _ => true
  | _ => false
theorem dq_ty {K : PySem.W.Frag} {H : Hp} {v : V} {d : PyData} (h : Dq H v d) : ∃ T : String, TyX K H v (.type T) ∧ PySem.W.kitOne K (.type T) (.type "tuple") = some (isTup d) ∧ PySem.W.kitOne K (.type T) (.type "int") = some (isI d) ∧ PySem.W.kitOne K (.type T) (.type "bool") = some (isB d) := by
  cases h with
  | non => exact ⟨_, .base .non, kit_ty (by decide +kernel), kit_ty (by decide +kernel), kit_ty (by decide +kernel)⟩
  | bl b => exact ⟨_, .base (.bl b), kit_ty (a := "bool") (r := false) (by decide +kernel), kit_ty (a := "bool") (r := true) (by decide +kernel), kit_ty (a := "bool") (r := true) (by decide +kernel)⟩
  | int i => exact ⟨_, .base (.int i), kit_ty (a := "int") (r := false) (by decide +kernel), kit_ty (a := "int") (r := true) (by decide +kernel), kit_ty (a := "int") (r := false) (by decide +kernel)⟩
  | str x => exact ⟨_, .base (.str x), kit_ty (a := "str") (r := false) (by decide +kernel), kit_ty (a := "str") (r := false) (by decide +kernel), kit_ty (a := "str") (r := false) (by decide +kernel)⟩
  | lst a _ => exact ⟨_, .base (.lst a), kit_ty (a := "list") (r := false) (by decide +kernel), kit_ty (a := "list") (r := false) (by decide +kernel), kit_ty (a := "list") (r := false) (by decide +kernel)⟩
  | tup a _ => exact ⟨_, .base (.tup a), kit_ty (a := "tuple") (r := true) (by decide +kernel), kit_ty (a := "tuple") (r := false) (by decide +kernel), kit_ty (a := "tuple") (r := false) (by decide +kernel)⟩
  | d0 a => exact ⟨_, .base (.dK a), kit_ty (a := "dict") (r := false) (by decide +kernel), kit_ty (a := "dict") (r := false) (by decide +kernel), kit_ty (a := "dict") (r := false) (by decide +kernel)⟩
  | d1 a => exact ⟨_, .base (.dK a), kit_ty (a := "dict") (r := false) (by decide +kernel), kit_ty (a := "dict") (r := false) (by decide +kernel), kit_ty (a := "dict") (r := false) (by decide +kernel)⟩
/-- isinstance(v, tuple), isinstance(v, int), isinstance(v, bool) -/
theorem rIsi_tup {K : PySem.W.Frag} {H : Hp} {v : V} {d : PyData} (h : Dq H v d) {Q : VK} (q : Q (.bl (isTup d)) H) : rIsi K [v, .ty "tuple"] H Q := by
  obtain ⟨T, t, k, _, _⟩ := dq_ty (K := K) h
  exact ⟨_, _, _, _, _, rfl, .ty _, t, k, q⟩
theorem rIsi_int {K : PySem.W.Frag} {H : Hp} {v : V} {d : PyData} (h : Dq H v d) {Q : VK} (q : Q (.bl (isI d)) H) : rIsi K [v, .ty "int"] H Q := by
  obtain ⟨T, t, _, k, _⟩ := dq_ty (K := K) h
  exact ⟨_, _, _, _, _, rfl, .ty _, t, k, q⟩
theorem rIsi_bool {K : PySem.W.Frag} {H : Hp} {v : V} {d : PyData} (h : Dq H v d) {Q : VK} (q : Q (.bl (isB d)) H) : rIsi K [v, .ty "bool"] H Q := by
  obtain ⟨T, t, _, _, k⟩ := dq_ty (K := K) h
  exact ⟨_, _, _, _, _, rfl, .ty _, t, k, q⟩

theorem iteT2 {c : Bool} {A B : Prop} (e : c = true) (h : A) : if c = true then A else B := by rw [if_pos e]; exact h
theorem iteF2 {c : Bool} {A B : Prop} (e : c = false) (h : B) : if c = true then A else B := by rw [e, if_neg Bool.false_ne_true]; exact h
/-! ### numbers, rows -/
/-- an int that is no bool, from 0 to m -/
def numOk (m : Int) : PyData → Bool
  | .int i => decide (0 ≤ i) && decide (i ≤ m)
  | _ => false
/-- a tuple of n numbers from 0 to 50 -/
def rowOk (n : Nat) : PyData → Bool
  | .tuple xs => decide (xs.length = n) && xs.all (numOk 50)
  | _ => false

theorem scIsNum : FnScope ["value"] ["value"] (defScope sIsNum) := ⟨rfl, rfl, rfl, by decide +kernel, rfl, by decide +kernel, by decide +kernel⟩
theorem scUpTo : FnScope ["value", "most"] ["value", "most"] (defScope sUpTo) := ⟨rfl, rfl, rfl, by decide +kernel, rfl, by decide +kernel, by decide +kernel⟩
theorem scTupOf : FnScope ["value", "fewest", "most"] ["value", "fewest", "most"] (defScope sTupOf) := ⟨rfl, rfl, rfl, by decide +kernel, rfl, by decide +kernel, by decide +kernel⟩
theorem scLNum : FnScope ["_law_value", "_law_low", "_law_high"] ["_law_value", "_law_low", "_law_high"] (defScope sLNum) := ⟨rfl, rfl, rfl, by decide +kernel, rfl, by decide +kernel, by decide +kernel⟩
section
variable {P : Program} {w : World} {K : PySem.W.Frag} {mg : Str → Option Value} {base : Heap}
def spIsNum : Sp := fun vs H Q _ => ∃ v d, vs = [v] ∧ Dq H v d ∧ Q (.bl (isI d && !isB d)) H
theorem ok_isnum {f : Addr} {fd : FuncData} {k : Nat} (F : Fun K "is_number" "is_number" sIsNum f fd) (mI : mg "isinstance" = none) (mi : mg "int" = none) (mb : mg "bool" = none) : FnOk P w K mg base CX0 (k + 1) f fd ["value"] spIsNum := by
  refine F.ok scIsNum (fun vs H Q E h => ?_) (fun cdv A outer s H vs Q E hr h => ?_)
  · obtain ⟨v, d, rfl, _⟩ := h
    rfl
  · obtain ⟨v, d, rfl, hd, q⟩ := h
    refine ⟨_, pss_one (ps_ret (pe_and (pe_callB (show CallR _ _ (rIsi K) from call_isi) (by rfl) mI (by decide +kernel) (pa_cons (pv 0) (pa_cons (pe_bltn (v := .ty "int") (by rfl) mi (by decide +kernel) rfl) pa_nil)))
      (pe_one (pe_not (pe_callB (show CallR _ _ (rIsi K) from call_isi) (by rfl) mI (by decide +kernel) (pa_cons (pv 0) (pa_cons (pe_bltn (v := .ty "bool") (by rfl) mb (by decide +kernel) rfl) pa_nil))))))), ?_⟩
    obtain ⟨T, t, kT, kI, kB⟩ := dq_ty (K := K) hd
    refine ⟨v, rfl, _, _, _, _, _, rfl, .ty _, t, kI, _, rfl, ?_⟩
    by_cases c : isI d = true
    · rw [if_pos c]
      refine ⟨v, rfl, _, _, _, _, _, rfl, .ty _, t, kB, _, rfl, ?_⟩
      rw [c, Bool.true_and] at q
      exact q
    · rw [if_neg c]
      rw [Bool.eq_false_iff.mpr c, Bool.false_and] at q
      exact q
def spUpTo : Sp := fun vs H Q _ => ∃ v d m, vs = [v, .int m] ∧ Dq H v d ∧ Q (.bl (numOk m d)) H
theorem ok_upto {f fN : Addr} {fd fdN : FuncData} {k : Nat} (F : Fun K "is_number_up_to" "is_number_up_to" sUpTo f fd) (FN : Fun K "is_number" "is_number" sIsNum fN fdN) (bN : Binds K fdN ["value"] []) (gN : mg "is_number" = some (.ref fN))
    (mI : mg "isinstance" = none) (mi : mg "int" = none) (mb : mg "bool" = none) : FnOk P w K mg base CX0 (k + 2) f fd ["value", "most"] spUpTo := by
  have GN : FnOk P w K mg base CX0 (k + 1) fN fdN ["value"] spIsNum := ok_isnum FN mI mi mb
  refine F.ok scUpTo (fun vs H Q E h => ?_) (fun cdv A outer s H vs Q E hr h => ?_)
  · obtain ⟨v, d, m, rfl, _⟩ := h
    rfl
  · obtain ⟨v, d, m, rfl, hd, q⟩ := h
    refine ⟨_, pss_one (ps_ret (pe_and (pe_call GN hr (by rfl) gN FN.kp bN .nil pass0 (pa_cons (pv 0) pa_nil)) (pe_one (pe_chain op_le op_le pe_int (pv 0) (pv 1))))), ?_⟩
    refine ⟨v, rfl, v, d, rfl, hd, _, rfl, ?_⟩
    cases hd with
    | int i =>
      refine iteT ⟨_, rfl, _, _, rfl, rfl, _, rfl, ?_⟩
      have q : Q (.bl (decide (0 ≤ i) && decide (i ≤ m))) H := q
      by_cases c : (0 : Int) ≤ i
      · rw [decide_eq_true c, Bool.true_and] at q
        refine iteT2 (decide_eq_true c) ⟨_, rfl, _, _, rfl, rfl, q⟩
      · rw [decide_eq_false c, Bool.false_and] at q
        exact iteF2 (decide_eq_false c) q
    | bl b => exact iteF q
    | non => exact iteF q
    | str _ => exact iteF q
    | lst _ _ => exact iteF q
    | tup _ _ => exact iteF q
    | d0 _ => exact iteF q
    | d1 _ => exact iteF q
def lenD : PyData → Nat
  | .tuple xs => xs.length
  | _ => 0
def spTupOf (K : PySem.W.Frag) : Sp := fun vs H Q _ => ∃ v d a b, vs = [v, .int a, .int b] ∧ Dq H v d ∧ Q (.bl (isTup d && (decide (a ≤ (lenD d : Int)) && decide ((lenD d : Int) ≤ b)))) H
theorem ok_tupof {f : Addr} {fd : FuncData} {k : Nat} (F : Fun K "is_tuple_of" "is_tuple_of" sTupOf f fd) (mI : mg "isinstance" = none) (mt : mg "tuple" = none) (ml : mg "len" = none) : FnOk P w K mg base CX0 (k + 1) f fd ["value", "fewest", "most"] (spTupOf K) := by
  refine F.ok scTupOf (fun vs H Q E h => ?_) (fun cdv A outer s H vs Q E hr h => ?_)
  · obtain ⟨v, d, a, b, rfl, _⟩ := h
    rfl
  · obtain ⟨v, d, a, b, rfl, hd, q⟩ := h
    refine ⟨_, pss_one (ps_ret (pe_and (pe_callB (show CallR _ _ (rIsi K) from call_isi) (by rfl) mI (by decide +kernel) (pa_cons (pv 0) (pa_cons (pe_bltn (v := .ty "tuple") (by rfl) mt (by decide +kernel) rfl) pa_nil)))
      (pe_one (pe_chain op_le op_le (pv 1) (pe_callB call_len_seq (by rfl) ml PySem.boot_len (pa_cons (pv 0) pa_nil)) (pv 2))))), ?_⟩
    obtain ⟨T, t, kT, kI, kB⟩ := dq_ty (K := K) hd
    refine ⟨v, rfl, _, _, _, _, _, rfl, .ty _, t, kT, _, rfl, ?_⟩
    cases hd with
    | @tup p xs ds hp hs =>
      have e := hs.len
      refine iteT ⟨_, rfl, _, rfl, p, xs, rfl, .inr (SqT.of hp), _, _, rfl, rfl, _, rfl, ?_⟩
      have q : Q (.bl (decide (a ≤ (ds.length : Int)) && decide ((ds.length : Int) ≤ b))) H := q
      rw [← e] at q
      by_cases c : a ≤ (xs.length : Int)
      · rw [decide_eq_true c, Bool.true_and] at q
        exact iteT2 (decide_eq_true c) ⟨_, rfl, _, _, rfl, rfl, q⟩
      · rw [decide_eq_false c, Bool.false_and] at q
        exact iteF2 (decide_eq_false c) q
    | bl b => exact iteF q
    | non => exact iteF q
    | str _ => exact iteF q
    | lst _ _ => exact iteF q
    | int _ => exact iteF q
    | d0 _ => exact iteF q
    | d1 _ => exact iteF q
def spLNum : Sp := fun vs H Q _ => ∃ v d m, vs = [v, .int 0, .int m] ∧ Dq H v d ∧ Q (.bl (numOk m d)) H
theorem ok_lnum {f : Addr} {fd : FuncData} {k : Nat} (F : Fun K "_law_is_number" "_law_is_number" sLNum f fd) (mI : mg "isinstance" = none) (mi : mg "int" = none) (mb : mg "bool" = none) : FnOk P w K mg base CX0 (k + 1) f fd ["_law_value", "_law_low", "_law_high"] spLNum := by
  refine F.ok scLNum (fun vs H Q E h => ?_) (fun cdv A outer s H vs Q E hr h => ?_)
  · obtain ⟨v, d, m, rfl, _⟩ := h
    rfl
  · obtain ⟨v, d, m, rfl, hd, q⟩ := h
    refine ⟨_, pss_one (ps_ret (pe_and (pe_callB (show CallR _ _ (rIsi K) from call_isi) (by rfl) mI (by decide +kernel) (pa_cons (pv 0) (pa_cons (pe_bltn (v := .ty "int") (by rfl) mi (by decide +kernel) rfl) pa_nil)))
      (pe_and (pe_not (pe_callB (show CallR _ _ (rIsi K) from call_isi) (by rfl) mI (by decide +kernel) (pa_cons (pv 0) (pa_cons (pe_bltn (v := .ty "bool") (by rfl) mb (by decide +kernel) rfl) pa_nil))))
      (pe_one (pe_chain op_le op_le (pv 1) (pv 0) (pv 2)))))), ?_⟩
    obtain ⟨T, t, kT, kI, kB⟩ := dq_ty (K := K) hd
    refine ⟨v, rfl, _, _, _, _, _, rfl, .ty _, t, kI, _, rfl, ?_⟩
    cases hd with
    | int i =>
      refine iteT ⟨_, rfl, _, _, _, _, _, rfl, .ty _, t, kB, _, rfl, _, rfl, iteT ⟨_, rfl, _, rfl, _, _, rfl, rfl, _, rfl, ?_⟩⟩
      have q : Q (.bl (decide (0 ≤ i) && decide (i ≤ m))) H := q
      by_cases c : (0 : Int) ≤ i
      · rw [decide_eq_true c, Bool.true_and] at q
        refine iteT2 (decide_eq_true c) ⟨_, rfl, _, _, rfl, rfl, q⟩
      · rw [decide_eq_false c, Bool.false_and] at q
        exact iteF2 (decide_eq_false c) q
    | bl b => exact iteT ⟨_, rfl, _, _, _, _, _, rfl, .ty _, t, kB, _, rfl, _, rfl, iteF q⟩
    | non => exact iteF q
    | str _ => exact iteF q
    | lst _ _ => exact iteF q
    | tup _ _ => exact iteF q
    | d0 _ => exact iteF q
    | d1 _ => exact iteF q
end
end DD
namespace DD
open PySem PySem.Spec PyProof.Rows L2

/-! ### a list that is not empty is not [] -/
def rNeE : R2 := fun x y H Q => ∃ a b xs, x = .ref a ∧ y = .ref b ∧ H a = some (.lst xs) ∧ H b = some (.lst []) ∧ Q (.bl (!xs.isEmpty)) H
theorem op_neE {X : Cx} (hu : X.A.units + 64 < cLine) : OpR X (compareOp .NotEq) rNeE := by
  intro pins s σ H x y v u Q I rx ry h
  obtain ⟨a, b, xs, rfl, rfl, ha, hb, q⟩ := h
  by_cases hx : xs = []
  · subst hx
    refine op_neD hu pins s σ H _ _ v u Q I rx ry ⟨.list [], .list [], .lst (SqL.of ha) .nil, .lst (SqL.of hb) .nil, by decide +kernel, by decide +kernel, ?_⟩
    rw [show PyData.eqv (.list []) (.list []) = true by decide +kernel]
    exact q
  · cases rx
    cases ry
    obtain ⟨its, rv, ⟨o, n, h1, h2, _, h3⟩, _⟩ := I.list (SqL.of (K := X.K) ha)
    obtain ⟨its2, rv2, ⟨o2, n2, k1, k2, _, k3⟩, _⟩ := I.list (SqL.of (K := X.K) hb)
    cases rv2
    have hs : (its.toArray.size != ([] : List Value).toArray.size) = true := by
      have := rv.length
      cases xs with
      | nil => exact absurd rfl hx
      | cons _ _ =>
        cases its with
        | nil => simp at this
        | cons _ _ => simp
    have e : (!xs.isEmpty) = true := by
      cases xs with
      | nil => exact absurd rfl hx
      | cons _ _ => rfl
    rw [e] at q
    exact SeqAt.RcNeAt.lists_lengths (A := X.A) (s := s) ⟨o, h1, h2, n, h3⟩ ⟨o2, k1, k2, n2, k3⟩ hs (by omega) _ _ _ _ ⟨.bl true, H, I, rfl, q⟩

/-! ### enumerate(t, start=1) -/
theorem callWith_typeKw {M : Model} {A : Around} {E : Value → Shared → Prop} {s : Shared} {pos : Pos}
    {T : String} {first : List Value} {args : List (Bool × Sem Value)} {kws : List (Option Str × Sem Value)} {Q : Value → Shared → Prop}
    (h1 : (args.any fun x => x.fst) = false) (h2 : (kws.any fun x => x.fst.isNone) = false)
    (h : wpAny M A (evalArgs (Value.type T) true args kws) (fun a s₁ => wpAny M A (call (Value.type T) (first ++ a.pos) a.kw) Q E s₁) E s) :
    wpAny M A (callWith pos (Value.type T) first args kws) Q E s := by
  unfold callWith
  refine wpAny_bind (wpAny_holding (wpAny_mono h (fun a s1 q => ?_) fun e s' q => q))
  rw [h1, h2]
  refine wpAny_bind (wpAny_standAt ?_)
  show wpAny M A (call (Value.type T) (first ++ a.pos) a.kw >>= fun r => holding [r] point >>= fun _ => pure r) Q E s1
  refine wpAny_bind (wpAny_mono q (fun r s2 q => ?_) fun e s' q => q)
  exact wpAny_bind (wpAny_holding (wpAny_point (wpAny_pure q)))
def iEnumS (K : PySem.W.Frag) (c : Int) (ta : TA) : TI := fun σ H R => ta σ H fun vs H1 => ∃ a xs, vs = [.ref a] ∧ SqT K H1 a xs ∧ R (ItEnT K a c) H1
theorem pi_enumS {X : Cx} {e : Expr} {ta : TA} {p pos tpos kpos cpos : Pos} {c : Int} {k0 : Nat} {elts : List Expr} {kk : Nat} (hg : Gl X "enumerate") (hm : X.mg "enumerate" = none) (ha : PA X [e] ta) (hc0 : -2 ^ 63 ≤ c) (hc1 : c < 2 ^ 63)
    (hs : starEach [e] X.env = [(false, eval e X.env)] := by rfl) : PI X (.Tuple elts kk tpos) (.Call (.Name "enumerate" p) [e] [{ arg := some "start", value := .Constant (.int c) k0 cpos, pos := kpos }] pos) (iEnumS X.K c ta) := by
  refine ⟨fun pins s σ H R I h => wpAny_Call_Name_kw (ld_blt I hg hm boot_enumerate (callWith_typeKw (by rw [hs] <;> rfl) rfl (evalArgs_kw2 rfl (thn (ha.run pos pins s σ H _ I h) fun us s1 ⟨vs, H1, I1, r1, q1⟩ => ?_) hs)))⟩
  obtain ⟨a, xs, ex, hq, q⟩ := q1
  subst ex
  obtain ⟨u, rfl, ru⟩ := vals1 r1
  cases ru
  obtain ⟨its, rv, ⟨oa, hoa, hca, na, hda⟩, _⟩ := I1.tuple hq
  refine wpAny_evalAll_cons (wpAny_bind (wpAny_mono (pe_int.run pins s1 σ H1 (fun v H2 => v = .int c ∧ H2 = H1) I1 ⟨rfl, rfl⟩) (fun u s2 q2 => ?_) fun e s' q => q))
  obtain ⟨x, H2, I2, rx, rfl, rfl⟩ := q2
  obtain ⟨tk, rfl⟩ := rx
  refine wpAny_bind (wpAny_standAt (wpAny_pure (wpAny_evalAll_nil ?_)))
  obtain ⟨its, rv, ⟨oa, hoa, hca, na, hda⟩, _⟩ := I2.tuple hq
  show wpAny _ _ (call (.type "enumerate") [.ref a] [(Str.ofString "start", .int c tk)]) _ _ _
  refine enum_begins_start (begins_tuple (t := a) (items := its.toArray)) ⟨oa, hoa, hca, na, hda⟩ hc0 hc1 fun h' he hit hsz hk => wpAny_pyIter_enum he ?_
  have I3 : Inv X pins σ H2 { s2 with heap := h' } := I2.kept (t' := s2.toks) hk
  refine ⟨s2.heap.objs.size + 1, [s2.heap.objs.size + 1, s2.heap.objs.size], _, _, H2, rfl, I3, turn_enT a (s2.heap.objs.size + 1) s2.heap.objs.size c, ⟨⟨.none, by rw [Int.natCast_zero, Int.add_zero]; exact he⟩, ⟨_, hit, rfl, rfl⟩, Nat.succ_ne_self _⟩, fun b hb => ?_, q⟩
  have hle : s2.heap.objs.size ≤ b := by
    rcases List.mem_cons.mp hb with z | hb
    · rw [z]
      exact Nat.le_succ _
    · exact Nat.le_of_eq (List.mem_singleton.mp hb).symm
  exact I2.fpOk hle (I2.hok.fresh hle)
end DD
namespace DD
open PySem PySem.Spec PyProof.Rows L2

/-! ### what a fault is: a row, the first bad row, the error -/
def allOk (m : Int) : PyData → Bool
  | .tuple xs => xs.all (numOk m)
  | _ => false
def rowGood (n : Nat) (d : PyData) : Bool := isTup d && (decide (1 ≤ lenD d) && (decide (lenD d ≤ 4) && (decide (lenD d = n) && allOk 50 d)))
def errFrom (n : Nat) : Nat → List PyData → Option Nat
  | _, [] => none
  | k, d :: ds => if rowGood n d then errFrom n (k + 1) ds else some k
def kindsOf : List PyData → Nat
  | d :: _ => lenD d
  | [] => 0
def badD (k : Nat) : PyData := .tuple [.int k, .str "drawer"]
def errD : PyData → PyData
  | .tuple ds => if 1 ≤ ds.length ∧ ds.length ≤ 4 then (match errFrom (kindsOf ds) 0 ds with | none => .none | some k => badD k) else .tuple [.none, .str "stock"]
  | _ => .tuple [.none, .str "stock"]
theorem errFrom_at {n : Nat} : ∀ (ds : List PyData) (k i : Nat) (d : PyData), (∀ x ∈ ds.take i, rowGood n x = true) → ds[i]? = some d → rowGood n d = false → errFrom n k ds = some (k + i)
  | [], _, _, _, _, e, _ => by simp at e
  | x :: ds, k, 0, d, _, e, b => by
    obtain rfl := Option.some.inj e
    show (if rowGood n x = true then _ else some k) = some (k + 0)
    rw [b, if_neg Bool.false_ne_true]
    rfl
  | x :: ds, k, i + 1, d, h, e, b => by
    show (if rowGood n x = true then errFrom n (k + 1) ds else some k) = some (k + (i + 1))
    rw [if_pos (h x List.mem_cons_self), errFrom_at ds (k + 1) i d (fun y hy => h y (List.mem_cons_of_mem _ hy)) e b]
    congr 1
    omega
theorem errFrom_none {n : Nat} : ∀ (ds : List PyData) (k : Nat), (∀ x ∈ ds, rowGood n x = true) → errFrom n k ds = none
  | [], _, _ => rfl
  | x :: ds, k, h => by
    show (if rowGood n x = true then errFrom n (k + 1) ds else some k) = none
    rw [if_pos (h x List.mem_cons_self)]
    exact errFrom_none ds (k + 1) fun y hy => h y (List.mem_cons_of_mem _ hy)

abbrev NN : List Str := ["value", "fewest", "most", "limit", "number"]
theorem scNums : FnScope NN ["value", "fewest", "most", "limit"] (defScope sNums) := ⟨rfl, rfl, rfl, by decide +kernel, rfl, by decide +kernel, by decide +kernel⟩
section
variable {P : Program} {w : World} {K : PySem.W.Frag} {mg : Str → Option Value} {base : Heap}
def spNums : Sp := fun vs H Q _ => ∃ v d a b m, vs = [v, .int a, .int b, .int m] ∧ Dq H v d ∧ lenD d ≤ 1000 ∧
  ∀ H', Same H H' → Q (.bl (isTup d && (decide (a ≤ (lenD d : Int)) && decide ((lenD d : Int) ≤ b)) && allOk m d)) H'
theorem ok_nums {f fT fU fN : Addr} {fd fdT fdU fdN : FuncData} {k : Nat} (F : Fun K "are_numbers" "are_numbers" sNums f fd) (FT : Fun K "is_tuple_of" "is_tuple_of" sTupOf fT fdT) (bT : Binds K fdT ["value", "fewest", "most"] []) (gT : mg "is_tuple_of" = some (.ref fT))
    (FU : Fun K "is_number_up_to" "is_number_up_to" sUpTo fU fdU) (bU : Binds K fdU ["value", "most"] []) (gU : mg "is_number_up_to" = some (.ref fU)) (FN : Fun K "is_number" "is_number" sIsNum fN fdN) (bN : Binds K fdN ["value"] []) (gN : mg "is_number" = some (.ref fN))
    (mI : mg "isinstance" = none) (mi : mg "int" = none) (mb : mg "bool" = none) (mt : mg "tuple" = none) (ml : mg "len" = none) (mA : mg "all" = none) :
    FnOk P w K mg base CX0 (k + 3) f fd ["value", "fewest", "most", "limit"] spNums := by
  have GT : FnOk P w K mg base CX0 (k + 1) fT fdT ["value", "fewest", "most"] (spTupOf K) := ok_tupof FT mI mt ml
  have GU : FnOk P w K mg base CX0 (k + 2) fU fdU ["value", "most"] spUpTo := ok_upto FU FN bN gN mI mi mb
  refine F.ok scNums (fun vs H Q E h => ?_) (fun cdv A outer s H vs Q E hr h => ?_)
  · obtain ⟨v, d, a, b, m, rfl, _⟩ := h
    rfl
  · obtain ⟨v, d, a, b, m, rfl, hd, hl, q⟩ := h
    refine ⟨_, pss_cons (ps_if (pt_not (pt_val (pe_call GT (hr.mono (by omega)) (by rfl) gT FT.kp bT .nil pass0 (pa_cons (pv 0) (pa_cons (pv 1) (pa_cons (pv 2) pa_nil)))))) (pss_one (ps_ret pe_bl)) pss_nil)
      (pss_one (ps_ret (pe_callB (cr_all rfl) (by rfl) mA (by decide +kernel) (pa_cons (pe_lc (own := [("number", 4)]) (g := gName 4) rfl scNums.nd (pi_tup (pv 0))
        (blkOk_by (own := [("number", 4)]) (N := NN) (sc := defScope sNums) (by decide +kernel)) (fun _ _ _ _ _ => pg_name (i := 4) scNums.nd rfl (Or.inl rfl)) (fun _ _ _ _ _ => pts_nil)
        (fun _ _ _ _ _ => pe_call GU hr (by rfl) gU FU.kp bU .nil pass0 (pa_cons (pv 4) (pa_cons (pv 3) pa_nil)))) pa_nil)))), ?_⟩
    refine ⟨v, rfl, _, rfl, _, rfl, v, d, a, b, rfl, hd, _, rfl, ?_⟩
    by_cases c : (isTup d && (decide (a ≤ (lenD d : Int)) && decide ((lenD d : Int) ≤ b))) = true
    · rw [c]
      rw [c, Bool.true_and] at q
      refine iteF ?_
      have ct : isTup d = true := by
        rw [Bool.and_eq_true] at c
        exact c.1
      cases hd with
      | @tup p xs ds hp hs =>
        refine ⟨.ref p, rfl, p, rfl, ⟨_, SqT.of hp⟩, fun D nD => ?_⟩
        refine lc_tup (xs := xs) (fun i H' => H' D = some (.lst ((ds.take i).map fun d => V.bl (numOk m d))) ∧ Same H H') ⟨upd_same, same_new nD⟩ (fun i H' _ h => SqT.of (h.2 _ _ hp)) (fun i x H' hx h => ?_) (fun H' h => ?_)
        · obtain ⟨hD, sm⟩ := h
          obtain ⟨e, he, hde⟩ := hs.get hx
          refine ⟨rfl, x, rfl, _, rfl, x, e, m, rfl, Dq.same sm e x hde, _, hD, ?_, ?_, fun b' o e' => ?_⟩
          · rw [List.length_map, List.length_take]
            have hl' : ds.length ≤ 1000 := hl
            exact len_lt (by omega)
          · rw [upd_same, take_succ_map he]
          · rw [upd_ne (ne_of_none e' nD)]
            exact sm b' o e'
        · obtain ⟨hD, sm⟩ := h
          rw [hs.len, List.take_length] at hD
          refine ⟨D, ds.map (numOk m), rfl, ?_, ?_⟩
          · rw [List.map_map]
            exact SqL.of hD
          · have e : (ds.map (numOk m)).all id = ds.all (numOk m) := by rw [List.all_map]; rfl
            rw [e]
            exact q H' sm
      | _ => exact Bool.noConfusion (show false = true from ct)
    · have c' := Bool.eq_false_iff.mpr c
      rw [c']
      rw [c', Bool.false_and] at q
      exact iteT (q H (Same.refl _))
end
end DD
namespace DD
open PySem PySem.Spec PyProof.Rows L2
theorem iteE {b : Bool} {A B : Prop} (h1 : b = true → A) (h2 : b = false → B) : if b = true then A else B := by
  cases b
  · exact iteF (h2 rfl)
  · exact iteT (h1 rfl)
/-- the lengths of a value and of its rows -/
def Slim (d : PyData) : Prop := lenD d ≤ 1000 ∧ ∀ ds, d = .tuple ds → ∀ x ∈ ds, lenD x ≤ 1000
end DD
namespace DD
open PySem PySem.Spec PyProof.Rows L2

/-! ### slices, sums and products of tuples, whatever object they give -/
theorem cutV_all {xs : List V} {lo hi : Option Int} (h : HT.sIx xs.length 0 lo = 0 ∧ HT.sIx xs.length xs.length hi = xs.length) : cutV xs lo hi = xs := by
  unfold cutV
  rw [h.1, h.2, List.drop_zero, Nat.sub_zero, List.take_length]
def rSlQ : V → Option Int → Option Int → Hp → VK → Prop := fun x lo hi H Q => ∃ a xs, x = .ref a ∧ H a = some (.tup xs) ∧ ∀ p H', Same H H' → H' p = some (.tup (cutV xs lo hi)) → Q (.ref p) H'
theorem sl_tupQ {X : Cx} : SlR X rSlQ := by
  intro pins s σ H x v vl vu lo hi sl Q I rx h1 h2 h3 h
  obtain ⟨a, xs, rfl, ha, q⟩ := h
  refine sl_tupA pins s σ H _ v vl vu lo hi sl Q I rx h1 h2 h3 ⟨a, xs, rfl, SqT.of ha, fun e => q a H (Same.refl _) (by rw [cutV_all e]; exact ha), fun _ p np => q p _ (same_new np) upd_same⟩
def rCatQ : R2 := fun x y H Q => ∃ a b xs ys, x = .ref a ∧ y = .ref b ∧ H a = some (.tup xs) ∧ H b = some (.tup ys) ∧ xs.length + ys.length ≤ 1000 ∧ ∀ p H', Same H H' → H' p = some (.tup (xs ++ ys)) → Q (.ref p) H'
theorem op_catQ {X : Cx} : OpR X (binaryOp .Add) rCatQ := by
  intro pins s σ H x y v u Q I rx ry h
  obtain ⟨a, b, xs, ys, rfl, rfl, ha, hb, hl, q⟩ := h
  refine op_catA pins s σ H _ _ v u Q I rx ry ⟨a, b, xs, ys, rfl, rfl, SqT.of ha, SqT.of hb, Nat.le_of_lt (len_lt hl), fun e => q b H (Same.refl _) ?_, fun _ e => q a H (Same.refl _) ?_, fun _ _ p np => q p _ (same_new np) upd_same⟩
  · rw [e]
    exact hb
  · rw [e, List.append_nil]
    exact ha
theorem meets_mul1 (l : Addr) (items : Array Value) (n : Nat) (dd : Option Addr) (sl : Array (Option Value)) (u : Tok) (hi : items.isEmpty = false) : Meets (Builtin.«tuple.__mul__» { pos := [Value.ref l, Value.int 1 u] })
    (fun _ R s => s.heap.get? l = some { cls := Value.type "tuple", dict := dd, data := Data.seq items n, slots := sl } ∧ R (Except.ok (Flow.ret (Value.ref l))) s) :=
  .of_wp fun prog w A R s h => by
    obtain ⟨hp, g, d, tk, os⟩ := s
    obtain ⟨h1, h⟩ := h
    have h2 : hp.get? l = some { cls := Value.type "tuple", dict := dd, data := Data.seq items n, slots := sl } := h1
    wp_walk
    exact ⟨_, rfl, h⟩
def rRepQ : R2 := fun x y H Q => ∃ l k xs, x = .ref l ∧ y = .int k ∧ H l = some (.tup xs) ∧ xs ≠ [] ∧ 1 ≤ k ∧ k ≤ 1000 ∧ xs.length ≤ 1000 ∧ ∀ p H', Same H H' → H' p = some (.tup (List.replicate k.toNat xs).flatten) → Q (.ref p) H'
theorem op_repQ {X : Cx} : OpR X (binaryOp .Mult) rRepQ := by
  intro pins s σ H x y v u Q I rx ry h
  obtain ⟨l, k, xs, rfl, rfl, hl, hx, k1, k2, hn, q⟩ := h
  by_cases hk : 2 ≤ k
  · exact op_repT pins s σ H _ _ v u Q I rx ry ⟨l, k, xs, rfl, rfl, SqT.of hl, hx, hk, k2, hn, fun p np => q p _ (same_new np) upd_same⟩
  · obtain rfl : k = 1 := by omega
    cases rx
    obtain ⟨t, rfl⟩ := ry
    obtain ⟨its, rv, ⟨o, h1, h2, n, h3⟩, hz⟩ := I.tuple (SqT.of (K := X.K) hl)
    obtain ⟨oc, od, oda, osl⟩ := o
    simp only at h2 h3
    subst h2 h3
    have he : its.toArray.isEmpty = false := by
      cases rv with
      | nil => exact absurd rfl hx
      | cons _ _ => rfl
    refine wpAny_binaryOp_repeat_ref (T := "tuple") (U := "int") (by decide) ⟨_, h1, rfl⟩ (fun s' => typeIs_int s' _ _) noFill_tuple_mul F.fills_int_mul F.slot_int_rmul repeat_tuple (F.slot_int_index.lookup) ?_
    refine call_meets F.slot_int_rmul (typeIs_int _ _ _) F.entry_int_rmul (F.args_int_rmul_2 _ _) (int_rmul_tuple _ _ _ _ _ _ _) ⟨h1, rfl, ⟨_, h1, rfl⟩, ?_⟩
    refine call_meets F.slot_tuple_mul ⟨_, h1, rfl⟩ F.entry_tuple_mul (F.args_tuple_mul_2 _ _) (meets_mul1 l its.toArray n od osl t he) ⟨h1, ⟨.ref l, H, I, rfl, q l H (Same.refl _) ?_⟩⟩
    rw [hl]
    show _ = some (HO.tup (List.replicate 1 xs).flatten)
    rw [List.replicate_one, List.flatten_singleton]
end DD
namespace DD
open PySem PySem.Spec PyProof.Rows L2

/-! ### the heap without the deck -/
open Classical in
noncomputable def Wo (X : Addr → Prop) (H : Hp) : Hp := fun b => if X b then none else H b
theorem wo_some {X : Addr → Prop} {b : Addr} {H : Hp} {o : HO} (h : Wo X H b = some o) : H b = some o ∧ ¬ X b := by
  unfold Wo at h
  by_cases e : X b
  · rw [if_pos e] at h
    cases h
  · rw [if_neg e] at h
    exact ⟨h, e⟩
theorem wo_of {X : Addr → Prop} {b : Addr} {H : Hp} {o : HO} (h : H b = some o) (h1 : ¬ X b) : Wo X H b = some o := by
  unfold Wo
  rw [if_neg h1]
  exact h
theorem wo_in {X : Addr → Prop} {H : Hp} : Same (Wo X H) H := fun b o e => (wo_some e).1
theorem wo_same {X : Addr → Prop} {H H' : Hp} (k : Same H H') : Same (Wo X H) (Wo X H') := fun b o e => by
  obtain ⟨h, h1⟩ := wo_some e
  exact wo_of (k b o h) h1
/-- what is left out: the deck's two lists, perhaps more lists -/
structure LX (X : Addr → Prop) (dk c : Addr) (H : Hp) : Prop where
  d : X dk
  c : X c
  all : ∀ a, X a → ∃ l, H a = some (.lst l)
theorem wo_kp {X : Addr → Prop} {dk c : Addr} {H H1 H' : Hp} (hX : LX X dk c H1) (k : Kp2 dk c H H') : Same (Wo X H) (Wo X H') := fun b o e => by
  obtain ⟨h, h1⟩ := wo_some e
  exact wo_of (k b o (fun z => h1 (by rw [z]; exact hX.d)) (fun z => h1 (by rw [z]; exact hX.c)) h) h1
theorem LX.same {X : Addr → Prop} {dk c : Addr} {H H' : Hp} (hX : LX X dk c H) (s : Same H H') : LX X dk c H' := ⟨hX.d, hX.c, fun a x => by
  obtain ⟨l, h⟩ := hX.all a x
  exact ⟨l, s _ _ h⟩⟩
theorem LX.kp {X : Addr → Prop} {dk c : Addr} {H H' : Hp} {B : Nat} (hX : LX X dk c H) (k : Kp2 dk c H H') (d : Deck H' dk c B) : LX X dk c H' := ⟨hX.d, hX.c, fun a x => by
  obtain ⟨ns, t, h1, h2, _⟩ := d.ex
  obtain ⟨l, h⟩ := hX.all a x
  by_cases e1 : a = dk
  · rw [e1]
    exact ⟨_, h1⟩
  · by_cases e2 : a = c
    · rw [e2]
      exact ⟨_, h2⟩
    · exact ⟨l, k _ _ e1 e2 h⟩⟩
theorem LX.no {X : Addr → Prop} {dk c p : Addr} {H : Hp} (hX : LX X dk c H) (h : ¬ X p) : p ≠ dk ∧ p ≠ c := ⟨fun z => h (by rw [z]; exact hX.d), fun z => h (by rw [z]; exact hX.c)⟩

/-! ### written data: what its reading gives -/
def Lit (X : Addr → Prop) (σ : L2.St) (H0 : Hp) (te : TE) (d : PyData) : Prop := ∀ (H : Hp) (Q : VK), Same H0 H → (∀ v H', Same H H' → Dq (Wo X H') v d → Q v H') → te σ H Q
def LitA (X : Addr → Prop) (σ : L2.St) (H0 : Hp) (ta : TA) (ds : List PyData) : Prop := ∀ (H : Hp) (Q : List V → Hp → Prop), Same H0 H → (∀ vs H', Same H H' → DqAll (Wo X H') vs ds → Q vs H') → ta σ H Q
section
variable {X : Addr → Prop} {dk c : Addr} {σ : L2.St} {H0 : Hp}
theorem lit_c {v : V} {d : PyData} (h : ∀ H, Dq H v d) : Lit X σ H0 (tC v) d := fun H Q s k => k v H (Same.refl _) (h _)
theorem lit_var {i : Nat} {v : V} {d : PyData} (h : σ[i]? = some (some v)) (hv : Dq (Wo X H0) v d) : Lit X σ H0 (tVar i) d := fun H Q s k => ⟨v, h, k v H (Same.refl _) (Dq.same (wo_same s) _ _ hv)⟩
theorem litA_nil : LitA X σ H0 tNil [] := fun H Q s k => k [] H (Same.refl _) .nil
theorem litA_cons {te : TE} {ta : TA} {d : PyData} {ds : List PyData} (a : Lit X σ H0 te d) (b : LitA X σ H0 ta ds) : LitA X σ H0 (tCons te ta) (d :: ds) :=
  fun H Q s k => a H _ s fun v H1 s1 q1 => b H1 _ (s.trans s1) fun vs H2 s2 q2 => k (v :: vs) H2 (s1.trans s2) (.cons (Dq.same (wo_same s2) _ _ q1) q2)
theorem new_ne {H : Hp} {p : Addr} (hX : LX X dk c H0) (s : Same H0 H) (np : H p = none) : ¬ X p := fun x => by
  obtain ⟨l, h⟩ := hX.all p x
  rw [s _ _ h] at np
  cases np
theorem lit_tup {ta : TA} {ds : List PyData} (hX : LX X dk c H0) (a : LitA X σ H0 ta ds) (hl : ds.length ≤ 1000) : Lit X σ H0 (tTup ta) (.tuple ds) :=
  fun H Q s k => a H _ s fun vs H1 s1 q1 => ⟨Nat.le_of_lt (len_lt (by rw [q1.len]; exact hl)), fun p np => by
    have n1 := new_ne hX (s.trans s1) np
    exact k _ _ (s1.trans (same_new np)) (.tup (wo_of upd_same n1) (DqAll.same (wo_same (same_new np)) _ _ q1))⟩
theorem lit_lst {ta : TA} {ds : List PyData} (hX : LX X dk c H0) (a : LitA X σ H0 ta ds) (hl : ds.length ≤ 1000) : Lit X σ H0 (tLst ta) (.list ds) :=
  fun H Q s k => a H _ s fun vs H1 s1 q1 => ⟨Nat.le_of_lt (len_lt (by rw [q1.len]; exact hl)), fun p np => by
    have n1 := new_ne hX (s.trans s1) np
    exact k _ _ (s1.trans (same_new np)) (.lst (wo_of upd_same n1) (DqAll.same (wo_same (same_new np)) _ _ q1))⟩
theorem lit_neg {i : Int} {te : TE} (a : Lit X σ H0 te (.int i)) : Lit X σ H0 (tUn (rU fun i => V.int (-i)) te) (.int (-i)) :=
  fun H Q s k => a H _ s fun v H1 s1 q1 => by
    cases q1
    exact ⟨_, rfl, k _ _ s1 (.int _)⟩
theorem lit_pow {i j : Int} {ta tb : TE} (a : Lit X σ H0 ta (.int i)) (b : Lit X σ H0 tb (.int j)) (h : CPow i j) : Lit X σ H0 (tOp (rI CPow fun i j => V.int (i ^ j.toNat)) ta tb) (.int (i ^ j.toNat)) :=
  fun H Q s k => a H _ s fun v H1 s1 q1 => b H1 _ (s.trans s1) fun u H2 s2 q2 => by
    cases q1
    cases q2
    exact ⟨_, _, rfl, rfl, h, k _ _ (s1.trans s2) (.int _)⟩
theorem lit_add {i j : Int} {ta tb : TE} (a : Lit X σ H0 ta (.int i)) (b : Lit X σ H0 tb (.int j)) : Lit X σ H0 (tOp (rI0 fun i j => V.int (i + j)) ta tb) (.int (i + j)) :=
  fun H Q s k => a H _ s fun v H1 s1 q1 => b H1 _ (s.trans s1) fun u H2 s2 q2 => by
    cases q1
    cases q2
    exact ⟨_, _, rfl, rfl, k _ _ (s1.trans s2) (.int _)⟩
theorem lit_d0 (hX : LX X dk c H0) : Lit X σ H0 tDNewK (.dict []) := fun H Q s k p np => by
  have n1 := new_ne hX s np
  exact k _ _ (same_new np) (.d0 (wo_of upd_same n1))
theorem lit_d1 (hX : LX X dk c H0) : Lit X σ H0 (tDisp [(tC (.str "a"), tC (.int 0))]) (.dict [(.str "a", .int 0)]) := fun H Q s k p np => by
  have n1 := new_ne hX s np
  refine ⟨upd_same, [(.inr "a", .int 0)], rfl, by decide, k _ _ (fun b o e => ?_) (.d1 (wo_of upd_same n1))⟩
  rw [upd_ne (ne_of_none e np), upd_ne (ne_of_none e np)]
  exact e
/-- slices, sums, products of tuples -/
theorem DqAll.cut {H : Hp} {xs : List V} {ds : List PyData} (h : DqAll H xs ds) {lo hi : Option Int} : DqAll H (cutV xs lo hi) ((ds.drop (HT.sIx ds.length 0 lo)).take (HT.sIx ds.length ds.length hi - HT.sIx ds.length 0 lo)) := by
  unfold cutV
  rw [h.len]
  exact (h.drop _).take _
def LitO (σ : L2.St) (H0 : Hp) (to : TO) (i : Option Int) : Prop := ∀ (H : Hp) (Q : Option Int → Hp → Prop), Same H0 H → Q i H → to σ H Q
theorem lito_none : LitO σ H0 tNoPart none := fun H Q s k => k
theorem lito_var {i : Nat} {n : Int} (h : σ[i]? = some (some (.int n))) : LitO σ H0 (tPart (tVar i)) (some n) := fun H Q s k => ⟨_, h, n, rfl, k⟩
theorem lito_c {n : Int} : LitO σ H0 (tPart (tC (.int n))) (some n) := fun H Q s k => ⟨n, rfl, k⟩
theorem lito_var1 {i : Nat} {n : Int} (h : σ[i]? = some (some (.int n))) : LitO σ H0 (tPart (tOp (rI0 fun i j => V.int (i + j)) (tVar i) (tC (.int 1)))) (some (n + 1)) := fun H Q s k => ⟨_, h, _, _, rfl, rfl, _, rfl, k⟩
theorem tup_ne {H : Hp} {p : Addr} {xs : List V} (hX : LX X dk c H0) (s : Same H0 H) (h : H p = some (.tup xs)) : ¬ X p := fun x => by
  obtain ⟨l, h1⟩ := hX.all p x
  rw [s _ _ h1] at h
  cases h
theorem lit_sl {te : TE} {tl th : TO} {ds : List PyData} {lo hi : Option Int} (hX : LX X dk c H0) (a : Lit X σ H0 te (.tuple ds)) (l : LitO σ H0 tl lo) (h : LitO σ H0 th hi) :
    Lit X σ H0 (tSl rSlQ te tl th) (.tuple ((ds.drop (HT.sIx ds.length 0 lo)).take (HT.sIx ds.length ds.length hi - HT.sIx ds.length 0 lo))) :=
  fun H Q s k => a H _ s fun v H1 s1 q1 => l H1 _ (s.trans s1) (h H1 _ (s.trans s1) (by
    cases q1 with
    | @tup p xs _ hp hs =>
      obtain ⟨hp', n1⟩ := wo_some hp
      refine ⟨p, xs, rfl, hp', fun p2 H2 s2 h2 => ?_⟩
      have m1 := tup_ne hX (s.trans (s1.trans s2)) h2
      exact k _ _ (s1.trans s2) (.tup (wo_of h2 m1) (DqAll.same (wo_same s2) _ _ hs).cut)))
theorem lit_cat {ta tb : TE} {ds es : List PyData} (hX : LX X dk c H0) (a : Lit X σ H0 ta (.tuple ds)) (b : Lit X σ H0 tb (.tuple es)) (hl : ds.length + es.length ≤ 1000) :
    Lit X σ H0 (tOp rCatQ ta tb) (.tuple (ds ++ es)) :=
  fun H Q s k => a H _ s fun v H1 s1 q1 => b H1 _ (s.trans s1) fun u H2 s2 q2 => by
    have q1 := Dq.same (wo_same s2) _ _ q1
    cases q1 with
    | @tup p xs _ hp hs =>
      cases q2 with
      | @tup p2 ys _ hp2 hs2 =>
        refine ⟨p, p2, xs, ys, rfl, rfl, (wo_some hp).1, (wo_some hp2).1, by rw [hs.len, hs2.len]; exact hl, fun p3 H3 s3 h3 => ?_⟩
        have m1 := tup_ne hX (s.trans (s1.trans (s2.trans s3))) h3
        exact k _ _ (s1.trans (s2.trans s3)) (.tup (wo_of h3 m1) ((DqAll.same (wo_same s3) _ _ hs).app (DqAll.same (wo_same s3) _ _ hs2)))
theorem DqAll.rep {H : Hp} {xs : List V} {ds : List PyData} (h : DqAll H xs ds) : ∀ n : Nat, DqAll H (List.replicate n xs).flatten (List.replicate n ds).flatten
  | 0 => .nil
  | n + 1 => by
    rw [List.replicate_succ, List.replicate_succ, List.flatten_cons, List.flatten_cons]
    exact h.app (h.rep n)
theorem lit_rep {ta tb : TE} {ds : List PyData} {n : Int} (hX : LX X dk c H0) (a : Lit X σ H0 ta (.tuple ds)) (b : Lit X σ H0 tb (.int n)) (h0 : ds ≠ []) (hl : ds.length ≤ 1000) (hn : 1 ≤ n) (hn2 : n ≤ 1000) :
    Lit X σ H0 (tOp rRepQ ta tb) (.tuple (List.replicate n.toNat ds).flatten) :=
  fun H Q s k => a H _ s fun v H1 s1 q1 => b H1 _ (s.trans s1) fun u H2 s2 q2 => by
    have q1 := Dq.same (wo_same s2) _ _ q1
    cases q1 with
    | @tup p xs _ hp hs =>
      cases q2
      refine ⟨p, n, xs, rfl, rfl, (wo_some hp).1, ?_, hn, hn2, by rw [hs.len]; exact hl, fun p3 H3 s3 h3 => ?_⟩
      · intro z
        subst z
        cases hs
        exact h0 rfl
      · have m1 := tup_ne hX (s.trans (s1.trans (s2.trans s3))) h3
        exact k _ _ (s1.trans (s2.trans s3)) (.tup (wo_of h3 m1) ((DqAll.same (wo_same s3) _ _ hs).rep _))
/-- list(t), t a tuple -/
def rLstQ (K : PySem.W.Frag) : List V → Hp → VK → Prop := fun xs H Q => ∃ p ys, xs = [V.ref p] ∧ (SqL K H p ys ∨ SqT K H p ys) ∧ ∀ (l : Addr), H l = none → Q (V.ref l) (upd H l (HO.lst ys))
theorem lit_list {K : PySem.W.Frag} {ta : TE} {ds : List PyData} (hX : LX X dk c H0) (a : Lit X σ H0 ta (.tuple ds)) : Lit X σ H0 (tCB (rLstQ K) (tCons ta tNil)) (.list ds) :=
  fun H Q s k => a H _ s fun v H1 s1 q1 => by
    cases q1 with
    | @tup p xs _ hp hs =>
      refine ⟨p, xs, rfl, .inr (SqT.of (wo_some hp).1), fun l nl => ?_⟩
      have n1 := new_ne hX (s.trans s1) nl
      exact k _ _ (s1.trans (same_new nl)) (.lst (wo_of upd_same n1) (DqAll.same (wo_same (same_new nl)) _ _ hs))
/-- len(t) of a known tuple -/
def rLenQ (K : PySem.W.Frag) : List V → Hp → VK → Prop := fun xs H Q => ∃ p ys, xs = [V.ref p] ∧ (SqL K H p ys ∨ SqT K H p ys) ∧ Q (.int ys.length) H
theorem lit_len {K : PySem.W.Frag} {ta : TE} {ds : List PyData} (a : Lit X σ H0 ta (.tuple ds)) : Lit X σ H0 (tCB (rLenQ K) (tCons ta tNil)) (.int ds.length) :=
  fun H Q s k => a H _ s fun v H1 s1 q1 => by
    cases q1 with
    | @tup p xs _ hp hs =>
      refine ⟨p, xs, rfl, .inr (SqT.of (wo_some hp).1), k _ _ s1 ?_⟩
      rw [hs.len]
      exact .int _
/-- t[i] of a known tuple -/
theorem lit_ixT {K : PySem.W.Frag} {ta tb : TE} {ds : List PyData} {d : PyData} {j : Nat} (a : Lit X σ H0 ta (.tuple ds)) (b : Lit X σ H0 tb (.int j)) (h : ds[j]? = some d) : Lit X σ H0 (tOp (rIxT K) ta tb) d :=
  fun H Q s k => a H _ s fun v H1 s1 q1 => b H1 _ (s.trans s1) fun u H2 s2 q2 => by
    have q1 := Dq.same (wo_same s2) _ _ q1
    cases q1 with
    | @tup p xs _ hp hs =>
      cases q2
      have hj : j < xs.length := by
        rw [hs.len]
        exact (List.getElem?_eq_some_iff.mp h).1
      have hx : xs[j]? = some xs[j] := List.getElem?_eq_getElem hj
      obtain ⟨d', hd', hq⟩ := hs.get hx
      rw [h] at hd'
      cases hd'
      exact ⟨p, xs, (j : Int), xs[j], rfl, rfl, SqT.of (wo_some hp).1, atI_nat hx, k _ _ (s1.trans s2) hq⟩
end
end DD
namespace DD
open PySem PySem.Spec PyProof.Rows L2

def oddA : List PyData := [.none, .bool true, .bool false, .int (-1), .int 0, .int 1, .int 4, .int 50, .int 51, .int (10 ^ (39 : Int).toNat), .str "", .str "0", .tuple [], .list [], .dict [], .tuple [.int 0], .list [.int 0], .tuple [.bool true], .tuple [.int 1, .int 1], .tuple [.int 0, .int 0]]
def oddB : List PyData := [.tuple [.tuple [.int 1]], .tuple [.tuple [.int 0]], .tuple [.tuple [.int 1, .int 1], .tuple [.int 1]], .dict [(.str "a", .int 0)]]
theorem scOdd : FnScope ["_law_deck_here", "_law_some"] ["_law_deck_here"] (defScope sOdd) := ⟨rfl, rfl, rfl, by decide +kernel, rfl, by decide +kernel, by decide +kernel⟩
section
variable {P : Program} {w : World} {K : PySem.W.Frag} {mg : Str → Option Value} {base : Heap}
def spOdd : Sp := fun vs H Q _ => ∃ (X : Addr → Prop) (dk c : Addr) (B : Nat), vs = [.ref dk] ∧ LX X dk c H ∧ Deck H dk c B ∧ B ≤ 1000000 ∧
  ∀ v d H', d ∈ oddA ++ oddB → Kp2 dk c H H' → Deck H' dk c (B + 1) → Dq (Wo X H') v d → Q v H'
theorem ok_odd {f fD : Addr} {fd fdD : FuncData} {k : Nat} (F : Fun K "_law_odd" "_law_odd" sOdd f fd) (FD : Fun K "_law_draw" "_law_draw" sDraw fD fdD) (bD : Binds K fdD ["_law_deck_here", "_law_limit"] []) (gD : mg "_law_draw" = some (.ref fD)) (ml : mg "len" = none) :
    FnOk P w K mg base CX0 (k + 2) f fd ["_law_deck_here"] spOdd := by
  have GD : FnOk P w K mg base CX0 (k + 1) fD fdD ["_law_deck_here", "_law_limit"] spDraw := ok_draw FD ml
  refine F.ok scOdd (fun vs H Q E h => ?_) (fun cdv A outer s H vs Q E hr h => ?_)
  · obtain ⟨X, dk, c, B, rfl, _⟩ := h
    rfl
  · obtain ⟨X, dk, c, B, rfl, hX, dek, hB, q⟩ := h
    refine ⟨_, pss_cons (ps_set (i := 1) scOdd.nd rfl (.inl rfl) (pe_lst (pa_cons pe_non (pa_cons pe_bl (pa_cons pe_bl (pa_cons (pe_un un_neg pe_int) (pa_cons pe_int (pa_cons pe_int (pa_cons pe_int (pa_cons pe_int (pa_cons pe_int (pa_cons (pe_op op_pow pe_int pe_int)
        (pa_cons pe_str (pa_cons pe_str (pa_cons (pe_tup pa_nil) (pa_cons (pe_lst pa_nil) (pa_cons pe_dnewK (pa_cons (pe_tup (pa_cons pe_int pa_nil)) (pa_cons (pe_lst (pa_cons pe_int pa_nil)) (pa_cons (pe_tup (pa_cons pe_bl pa_nil)) (pa_cons (pe_tup (pa_cons pe_int (pa_cons pe_int pa_nil))) (pa_cons (pe_tup (pa_cons pe_int (pa_cons pe_int pa_nil))) pa_nil))))))))))))))))))))))
      (pss_one (ps_ret (pe_ix (show IxR _ (rIxL K) from ix_list) (pe_op op_cat (pv 1) (pe_lst (pa_cons (pe_tup (pa_cons (pe_tup (pa_cons pe_int pa_nil)) pa_nil)) (pa_cons (pe_tup (pa_cons (pe_tup (pa_cons pe_int pa_nil)) pa_nil))
          (pa_cons (pe_tup (pa_cons (pe_tup (pa_cons pe_int (pa_cons pe_int pa_nil))) (pa_cons (pe_tup (pa_cons pe_int pa_nil)) pa_nil))) (pa_cons (pe_disp (pps_cons pe_str pe_int pps_nil) (by rfl) (by rfl) (fun z => by cases z) (by decide)) pa_nil))))))
        (pe_call GD hr (by rfl) gD FD.kp bD .nil pass0 (pa_cons (pv 0) (pa_cons pe_int pa_nil))) (fun _ _ => rfl)))), ?_⟩
    have LA : ∀ σ, Lit X σ H (tLst _) (.list oddA) := fun σ => lit_lst hX
      (litA_cons (lit_c fun _ => .non) (litA_cons (lit_c fun _ => .bl true) (litA_cons (lit_c fun _ => .bl false) (litA_cons (lit_neg (lit_c fun _ => .int 1)) (litA_cons (lit_c fun _ => .int 0) (litA_cons (lit_c fun _ => .int 1) (litA_cons (lit_c fun _ => .int 4) (litA_cons (lit_c fun _ => .int 50)
      (litA_cons (lit_c fun _ => .int 51) (litA_cons (lit_pow (lit_c fun _ => .int 10) (lit_c fun _ => .int 39) ⟨by decide, by decide, by decide⟩) (litA_cons (lit_c fun _ => .str "") (litA_cons (lit_c fun _ => .str "0") (litA_cons (lit_tup hX litA_nil (by decide)) (litA_cons (lit_lst hX litA_nil (by decide)) (litA_cons (lit_d0 hX)
      (litA_cons (lit_tup hX (litA_cons (lit_c fun _ => .int 0) litA_nil) (by decide)) (litA_cons (lit_lst hX (litA_cons (lit_c fun _ => .int 0) litA_nil) (by decide)) (litA_cons (lit_tup hX (litA_cons (lit_c fun _ => .bl true) litA_nil) (by decide))
      (litA_cons (lit_tup hX (litA_cons (lit_c fun _ => .int 1) (litA_cons (lit_c fun _ => .int 1) litA_nil)) (by decide)) (litA_cons (lit_tup hX (litA_cons (lit_c fun _ => .int 0) (litA_cons (lit_c fun _ => .int 0) litA_nil)) (by decide)) litA_nil)))))))))))))))))))) (by decide)
    have LB : ∀ σ, Lit X σ H (tLst _) (.list oddB) := fun σ => lit_lst hX
      (litA_cons (lit_tup hX (litA_cons (lit_tup hX (litA_cons (lit_c fun _ => .int 1) litA_nil) (by decide)) litA_nil) (by decide)) (litA_cons (lit_tup hX (litA_cons (lit_tup hX (litA_cons (lit_c fun _ => .int 0) litA_nil) (by decide)) litA_nil) (by decide))
      (litA_cons (lit_tup hX (litA_cons (lit_tup hX (litA_cons (lit_c fun _ => .int 1) (litA_cons (lit_c fun _ => .int 1) litA_nil)) (by decide)) (litA_cons (lit_tup hX (litA_cons (lit_c fun _ => .int 1) litA_nil) (by decide)) litA_nil)) (by decide)) (litA_cons (lit_d1 hX) litA_nil)))) (by decide)
    unfold tSeq tAsg
    refine LA _ H _ (Same.refl _) fun v H1 s1 q1 => ?_
    cases q1 with
    | @lst a xs _ ha hs =>
      refine ⟨.ref a, rfl, LB _ H1 _ s1 fun u H2 s2 q2 => ?_⟩
      cases q2 with
      | @lst b ys _ hb hs2 =>
        have hlA : xs.length = 20 := hs.len
        have hlB : ys.length = 4 := hs2.len
        refine ⟨a, b, xs, ys, rfl, rfl, s2 _ _ (wo_some ha).1, (wo_some hb).1, Nat.le_of_lt (len_lt (by omega)), fun p np => ?_⟩
        have s3 : Same H (upd H2 p (.lst (xs ++ ys))) := s1.trans (s2.trans (same_new np))
        refine ⟨_, rfl, dk, c, B, 24, rfl, dek.keep s3, hB, by decide, by decide, fun r H3 r0 r1 k3 d3 => ?_⟩
        obtain ⟨n1, n2⟩ := hX.no (new_ne hX (s1.trans s2) np)
        have hp3 : H3 p = some (.lst (xs ++ ys)) := k3 _ _ n1 n2 upd_same
        obtain ⟨j, rfl⟩ : ∃ j : Nat, r = (j : Int) := ⟨r.toNat, by omega⟩
        have hj : j < (xs ++ ys).length := by
          rw [List.length_append]
          omega
        have hx : (xs ++ ys)[j]? = some (xs ++ ys)[j] := List.getElem?_eq_getElem hj
        have all : DqAll (Wo X H3) (xs ++ ys) (oddA ++ oddB) := DqAll.same ((wo_same (same_new np)).trans (wo_kp hX k3)) _ _ ((DqAll.same (wo_same s2) _ _ hs).app hs2)
        obtain ⟨d, hd', hq⟩ := all.get hx
        exact ⟨p, _, (j : Int), _, rfl, rfl, SqL.of hp3, atI_nat hx, q _ d H3 (List.mem_of_getElem? hd') ((kps s3).trans k3) d3 hq⟩
end
end DD
namespace DD
open PySem PySem.Spec PyProof.Rows L2

def tw (x : Int) : PyData := if x < 2 then .bool (decide (x = 1)) else .int x
def twV (x : Int) : V := if x < 2 then .bl (decide (x = 1)) else .int x
def twD (rows : List (List Int)) : PyData := .tuple (rows.map fun r => .tuple (r.map tw))
theorem dq_tw {H : Hp} (x : Int) : Dq H (twV x) (tw x) := by
  unfold twV tw
  split
  · exact .bl _
  · exact .int _
theorem dq_tws {H : Hp} : ∀ r : List Int, DqAll H (r.map twV) (r.map tw)
  | [] => .nil
  | x :: r => .cons (dq_tw x) (dq_tws r)
abbrev NTw : List Str := ["_law_rows", "_law_row", "_law_one"]
def rTupQ (K : PySem.W.Frag) : List V → Hp → VK → Prop := fun xs H Q => ∃ p ys, xs = [V.ref p] ∧ ((SqL K H p ys ∧ ∀ (l : Addr), H l = none → Q (V.ref l) (upd H l (HO.tup ys))) ∨ SqT K H p ys ∧ Q (V.ref p) H)
def scRow : Scope := { kind := .function, names := [(".0", .local), ("_law_row", .local), ("tuple", .globalImplicit)], isGenerator := false, isCoroutine := false, more := [] }
theorem scTwin : FnScope NTw ["_law_rows"] (defScope sTwin) := ⟨rfl, rfl, rfl, by decide +kernel, rfl, by decide +kernel, by decide +kernel⟩
section
variable {P : Program} {w : World} {K : PySem.W.Frag} {mg : Str → Option Value} {base : Heap}
def spTwin : Sp := fun vs H Q _ => ∃ (X : Addr → Prop) (dk c : Addr) (B : Nat) (t : Addr) (ls : List Addr) (rows : List (List Int)), vs = [.ref t] ∧ LX X dk c H ∧ Deck H dk c B ∧ StockAt H t ls rows ∧ rows.length ≤ 4 ∧ (∀ r ∈ rows, r.length ≤ 4 ∧ ∀ x ∈ r, 0 ≤ x) ∧
  ∀ v H', Same H H' → Dq (Wo X H') v (twD rows) → Q v H'
theorem ok_twin {f : Addr} {fd : FuncData} {k : Nat} (F : Fun K "_law_twin" "_law_twin" sTwin f fd) (mi : mg "int" = none) (mt : mg "tuple" = none) : FnOk P w K mg base CX0 (k + 1) f fd ["_law_rows"] spTwin := by
  refine F.ok scTwin (fun vs H Q E h => ?_) (fun cdv A outer s H vs Q E hr h => ?_)
  · obtain ⟨X, dk, c, B, t, ls, rows, rfl, _⟩ := h
    rfl
  · obtain ⟨X, dk, c, B, t, ls, rows, rfl, hX, dek, st, hr4, hrow, q⟩ := h
    refine ⟨_, pss_one (ps_ret (pe_callTy call_tuple_of (by rfl) mt (by decide +kernel) (pa_cons (pe_lc (own := [("_law_row", 1)]) (g := gName 1) rfl scTwin.nd (pi_tup (pv 0))
      (blkOk_by (own := [("_law_row", 1)]) (N := NTw) (sc := defScope sTwin) (by decide +kernel)) (fun _ _ _ _ _ => pg_name (i := 1) scTwin.nd rfl (Or.inl rfl)) (fun _ _ _ _ _ => pts_nil)
      (fun _ _ _ _ _ => pe_callTy (T := "tuple") (show CallR _ _ (rTupQ K) from call_tuple_of) (by rfl) mt (by decide +kernel) (by exact (pa_cons (pe_lc (own := [("_law_one", 2)]) (g := gName 2) rfl scTwin.nd (show PI _ _ _ (iTup K (tVar 1)) from pi_tup (pv 1))
        (blkOk_by (own := [("_law_one", 2)]) (N := NTw) (sc := scRow) (by decide +kernel)) (fun _ _ _ _ _ => pg_name (i := 2) scTwin.nd rfl (Or.inl rfl)) (fun _ _ _ _ _ => pts_nil)
        (fun _ _ _ _ _ => pe_ix (show IxR _ (rIxL K) from ix_list) (pe_lst (pa_cons (pv 2) (pa_cons (pe_cmpR op_eq (pv 2) pe_int (nomark _)) pa_nil)))
          (pe_callTy call_int1 (by rfl) mi (by decide +kernel) (pa_cons (pe_cmpR op_lt (pv 2) pe_int (nomark _)) pa_nil)) (fun _ _ => rfl))) pa_nil)))) pa_nil))), ?_⟩
    refine ⟨.ref t, rfl, t, rfl, ⟨_, SqT.of st.top⟩, fun D nD => ?_⟩
    obtain ⟨nd1, nd2⟩ := dek.nedk nD
    refine lc_tup (xs := ls.map V.ref) (fun i H' => ∃ vs : List V, H' D = some (.lst vs) ∧ vs.length = i ∧ DqAll (Wo (fun b => b = D) (Wo X H')) vs ((rows.take i).map fun r => PyData.tuple (r.map tw)) ∧ Same H H') ⟨[], upd_same, rfl, .nil, same_new nD⟩
      (fun i H' _ h => by obtain ⟨_, _, _, _, s⟩ := h; exact SqT.of (s _ _ st.top)) (fun i x H' hx h => ?_) (fun H' h => ?_)
    · obtain ⟨vs, hD, hvl, hvs, sm⟩ := h
      obtain ⟨l, hl, rfl⟩ := get_map hx
      have hil : i < rows.length := by
        have := (List.getElem?_eq_some_iff.mp hl).1
        have := st.len
        omega
      have hrw : rows[i]? = some rows[i] := List.getElem?_eq_getElem hil
      have hrl := hrow _ (List.getElem_mem hil)
      have hlr := sm _ _ (st.row i l _ hl hrw)
      refine ⟨rfl, .ref l, rfl, l, rfl, ⟨_, SqT.of hlr⟩, fun D2 nD2 => ?_⟩
      have nD2D : D2 ≠ D := (ne_of_none hD nD2).symm
      refine lc_tup (xs := rows[i].map V.int) (fun j H2 => H2 D2 = some (.lst ((rows[i].take j).map twV)) ∧ Same H' H2) ⟨upd_same, same_new nD2⟩ (fun j H2 _ h => SqT.of (h.2 _ _ hlr)) (fun j x H2 hx h => ?_) (fun H2 h => ?_)
      · obtain ⟨hD2, s2⟩ := h
        obtain ⟨z, hz, rfl⟩ := get_map hx
        have hz0 := hrl.2 z (List.mem_of_getElem? hz)
        refine ⟨rfl, _, rfl, _, rfl, rfl, by show 2 ≤ sizeLine; decide, fun p np => ?_⟩
        have nDp : D2 ≠ p := ne_of_none hD2 np
        refine ⟨_, rfl, _, _, rfl, rfl, .inr ⟨_, rfl, ?_⟩⟩
        have at_ : atI [V.int z, V.bl (decide (V.int z = V.int 1))] (if decide (z < 2) = true then 1 else 0) = some (twV z) := by
          unfold twV
          by_cases c1 : z < 2
          · rw [decide_eq_true c1, if_pos rfl, if_pos c1]
            by_cases c2 : z = 1
            · rw [c2]
              rfl
            · rw [decide_eq_false c2, decide_eq_false (fun e => c2 (V.int.inj e))]
              rfl
          · rw [decide_eq_false c1, if_neg Bool.false_ne_true, if_neg c1]
            rfl
        refine ⟨p, _, _, twV z, rfl, rfl, SqL.of upd_same, at_, _, (by rw [upd_ne nDp]; exact hD2), ?_, ?_, fun b o e => ?_⟩
        · rw [List.length_map, List.length_take]
          exact len_lt (by omega)
        · rw [upd_same, take_succ_map hz]
        · rw [upd_ne (ne_of_none e nD2)]
          exact same_new np _ _ (s2 _ _ e)
      · obtain ⟨hD2, s2⟩ := h
        rw [List.length_map, List.take_length] at hD2
        refine ⟨D2, _, rfl, .inl ⟨SqL.of hD2, fun p np => ?_⟩⟩
        have s3 : Same H' (upd H2 p (.tup (rows[i].map twV))) := s2.trans (same_new np)
        have hD3 := s3 _ _ hD
        have npD : p ≠ D := fun z => by
          rw [z, upd_same] at hD3
          cases hD3
        have np1 := new_ne hX (sm.trans s2) np
        refine ⟨vs, hD3, len_lt (by omega), vs ++ [.ref p], upd_same, by rw [List.length_append, hvl]; rfl, ?_, fun b o e => ?_⟩
        · have mv : ∀ (H4 : Hp), Same (Wo (fun b => b = D) (Wo X H4)) (Wo (fun b => b = D) (Wo X (upd H4 D (.lst (vs ++ [.ref p]))))) := fun H4 b o e => by
            obtain ⟨e1, b1⟩ := wo_some e
            obtain ⟨e2, b2⟩ := wo_some e1
            exact wo_of (wo_of (by rw [upd_ne b1]; exact e2) b2) b1
          rw [take_succ_map hrw]
          refine (DqAll.same ((wo_same (wo_same s3)).trans (mv _)) _ _ hvs).app (.cons (.tup (xs := rows[i].map twV) (wo_of (wo_of ?_ np1) npD) (dq_tws _)) .nil)
          rw [upd_ne npD, upd_same]
        · rw [upd_ne (ne_of_none e nD)]
          exact s3 _ _ (sm _ _ e)
    · obtain ⟨vs, hD, hvl, hvs, sm⟩ := h
      refine ⟨D, _, rfl, .inl ⟨SqL.of hD, fun p np => ?_⟩⟩
      have np1 := new_ne hX sm np
      rw [List.length_map, st.len, List.take_length] at hvs
      exact q _ _ (sm.trans (same_new np)) (.tup (wo_of upd_same np1) (DqAll.same (Same.trans wo_in (wo_same (same_new np))) _ _ hvs))
end
end DD
namespace DD
open PySem PySem.Spec PyProof.Rows L2

/-! ### how great a value is, and whether lists and dicts meet in it -/
structure Bd (w k : Nat) (d : PyData) : Prop where
  short : d.leavesShort 48 = true
  show_ : d.showable = true
  wt : d.weight ≤ w
  dp : d.depth ≤ k
theorem Bd.up {w k w' k' : Nat} {d : PyData} (b : Bd w k d) (hw : w ≤ w') (hk : k ≤ k') : Bd w' k' d := ⟨b.short, b.show_, Nat.le_trans b.wt hw, Nat.le_trans b.dp hk⟩
def Nx (d : PyData) : Prop := d.hasDict = true → noL d = true
def Pl (d : PyData) : Prop := d.hasDict = false ∧ noL d = true
theorem hasDictAll_mem : ∀ {ds : List PyData}, PyData.hasDictAll ds = true → ∃ d ∈ ds, d.hasDict = true
  | [], h => Bool.noConfusion (show false = true from h)
  | d :: ds, h => by
    have h : (d.hasDict || PyData.hasDictAll ds) = true := h
    rw [Bool.or_eq_true] at h
    rcases h with h | h
    · exact ⟨d, List.mem_cons_self, h⟩
    · obtain ⟨e, he, q⟩ := hasDictAll_mem h
      exact ⟨e, List.mem_cons_of_mem _ he, q⟩
theorem noLs_of : ∀ {ds : List PyData}, (∀ d ∈ ds, noL d = true) → noLs ds = true
  | [], _ => rfl
  | d :: ds, h => by
    show (noL d && noLs ds) = true
    rw [h d List.mem_cons_self, noLs_of fun x hx => h x (List.mem_cons_of_mem _ hx)]
    rfl
theorem nx_mem {x : PyData} {ds : List PyData} (hx : Nx x) (h : ∀ y ∈ ds, y = x ∨ Pl y) : Nx (.tuple ds) := fun hd => by
  obtain ⟨e, he, q⟩ := hasDictAll_mem hd
  have ex : x.hasDict = true := by
    rcases h e he with rfl | z
    · exact q
    · rw [z.1] at q
      cases q
  refine noLs_of fun y hy => ?_
  rcases h y hy with rfl | z
  · exact hx ex
  · exact z.2
theorem nx_pl {ds : List PyData} (h : ∀ y ∈ ds, Pl y) : Pl (.tuple ds) := by
  refine ⟨?_, noLs_of fun y hy => (h y hy).2⟩
  cases e : (PyData.tuple ds).hasDict with
  | false => rfl
  | true =>
    obtain ⟨x, hx, q⟩ := hasDictAll_mem e
    rw [(h x hx).1] at q
    cases q
theorem nx_lst {ds : List PyData} (h : ∀ y ∈ ds, Pl y) : Nx (.list ds) := fun e => by
  obtain ⟨x, hx, q⟩ := hasDictAll_mem e
  rw [(h x hx).1] at q
  cases q
theorem Pl.nx {d : PyData} (h : Pl d) : Nx d := fun _ => h.2
theorem bd_all {w k : Nat} : ∀ {ds : List PyData}, (∀ d ∈ ds, Bd w k d) → PyData.leavesShortAll 48 ds = true ∧ PyData.showableAll ds = true ∧ PyData.weightAll ds ≤ ds.length * (w + 1) ∧ PyData.depthAll ds ≤ k
  | [], _ => ⟨rfl, rfl, by simp [PyData.weightAll], Nat.zero_le _⟩
  | d :: ds, h => by
    have a := h d List.mem_cons_self
    obtain ⟨h1, h2, h3, h4⟩ := bd_all fun x hx => h x (List.mem_cons_of_mem _ hx)
    refine ⟨?_, ?_, ?_, Nat.max_le.mpr ⟨a.dp, h4⟩⟩
    · show (d.leavesShort 48 && PyData.leavesShortAll 48 ds) = true
      rw [a.short, h1]
      rfl
    · show (d.showable && PyData.showableAll ds) = true
      rw [a.show_, h2]
      rfl
    · have := a.wt
      show d.weight + 1 + PyData.weightAll ds ≤ (ds.length + 1) * (w + 1)
      rw [Nat.succ_mul]
      omega
theorem Bd.tup {w k n : Nat} {ds : List PyData} (h : ∀ d ∈ ds, Bd w k d) (hn : ds.length ≤ n) : Bd (n * (w + 1)) (k + 1) (.tuple ds) := by
  obtain ⟨h1, h2, h3, h4⟩ := bd_all h
  exact ⟨h1, h2, Nat.le_trans h3 (Nat.mul_le_mul_right _ hn), Nat.succ_le_succ h4⟩
theorem Bd.lst {w k n : Nat} {ds : List PyData} (h : ∀ d ∈ ds, Bd w k d) (hn : ds.length ≤ n) : Bd (n * (w + 1)) (k + 1) (.list ds) := by
  obtain ⟨h1, h2, h3, h4⟩ := bd_all h
  exact ⟨h1, h2, Nat.le_trans h3 (Nat.mul_le_mul_right _ hn), Nat.succ_le_succ h4⟩
theorem Bd.of_sm {w k : Nat} {d : PyData} (a : Sm w k d) (h : PyData.intsShort 48 d = true) : Bd w k d := ⟨PyData.leavesShort_of_canLay0 48 d a.lay h, a.show_, a.wt, a.dp⟩
theorem bd_int {i : Int} (h0 : 0 ≤ i) (h : i < 4096) : Bd 13 0 (.int i) := by
  have s := Sm.int h0 h
  have e : (Str.ofString (toString i)).length ≤ 13 := of_decide_eq_true s.short
  exact ⟨decide_eq_true (Nat.le_trans e (by decide)), s.show_, s.wt, s.dp⟩
theorem bd_bool (b : Bool) : Bd 0 0 (.bool b) := by cases b <;> exact ⟨by decide +kernel, by decide +kernel, by decide +kernel, by decide +kernel⟩
def okB (w k : Nat) (d : PyData) : Bool := d.leavesShort 48 && (d.showable && (decide (d.weight ≤ w) && decide (d.depth ≤ k)))
theorem bd_of {w k : Nat} {d : PyData} (h : okB w k d = true) : Bd w k d := by
  unfold okB at h
  simp only [Bool.and_eq_true, decide_eq_true_eq] at h
  exact ⟨h.1, h.2.1, h.2.2.1, h.2.2.2⟩
/-- a value of the law -/
structure Val (d : PyData) : Prop where
  bd : Bd 300000 60 d
  nx : Nx d
  sl : Slim d
theorem Val.gd {d : PyData} (v : Val d) : Gd d := by
  refine ⟨v.bd.show_, Nat.le_trans v.bd.dp (by decide), ?_, v.nx⟩
  have h := PyData.shown_le 48 (by decide) d v.bd.short
  have h2 := v.bd.wt
  rw [sizeLine_eq]
  omega
theorem slim_tup {ds : List PyData} (h : ds.length ≤ 1000) (h2 : ∀ x ∈ ds, lenD x ≤ 1000) : Slim (.tuple ds) := ⟨h, fun es e => by cases e; exact h2⟩
theorem slim_lst {ds : List PyData} : Slim (.list ds) := ⟨Nat.zero_le _, fun es e => by cases e⟩
def slB (d : PyData) : Bool := decide (lenD d ≤ 1000) && (match d with | .tuple ds => ds.all fun x => decide (lenD x ≤ 1000) | _ => true)
theorem slim_of {d : PyData} (h : slB d = true) : Slim d := by
  unfold slB at h
  rw [Bool.and_eq_true] at h
  refine ⟨of_decide_eq_true h.1, fun ds e x hx => ?_⟩
  subst e
  exact of_decide_eq_true (List.all_eq_true.mp h.2 x hx)
/-- a written value -/
def valB (d : PyData) : Bool := okB 140 3 d && ((!d.hasDict || noL d) && slB d)
theorem val_of {d : PyData} (h : valB d = true) : Bd 140 3 d ∧ Nx d ∧ Slim d := by
  unfold valB at h
  rw [Bool.and_eq_true, Bool.and_eq_true] at h
  refine ⟨bd_of h.1, fun e => ?_, slim_of h.2.2⟩
  have := h.2.1
  rw [e] at this
  simpa using this
theorem val_odd {d : PyData} (h : d ∈ oddA ++ oddB) : Bd 140 3 d ∧ Nx d ∧ Slim d := by
  have all : (oddA ++ oddB).all valB = true := by decide +kernel
  exact val_of (List.all_eq_true.mp all d h)
theorem val_up {d : PyData} (h : Bd 140 3 d ∧ Nx d ∧ Slim d) : Val d := ⟨h.1.up (by decide) (by decide), h.2.1, h.2.2⟩

/-! ### more written data: lists -/
section
variable {X : Addr → Prop} {dk c : Addr} {σ : L2.St} {H0 : Hp} {K : PySem.W.Frag}
theorem lit_catL {ta tb : TE} {ds es : List PyData} (hX : LX X dk c H0) (a : Lit X σ H0 ta (.list ds)) (b : Lit X σ H0 tb (.list es)) (hl : ds.length + es.length ≤ 1000) :
    Lit X σ H0 (tOp rCat ta tb) (.list (ds ++ es)) :=
  fun H Q s k => a H _ s fun v H1 s1 q1 => b H1 _ (s.trans s1) fun u H2 s2 q2 => by
    have q1 := Dq.same (wo_same s2) _ _ q1
    cases q1 with
    | @lst p xs _ hp hs =>
      cases q2 with
      | @lst p2 ys _ hp2 hs2 =>
        refine ⟨p, p2, xs, ys, rfl, rfl, (wo_some hp).1, (wo_some hp2).1, Nat.le_of_lt (len_lt (by rw [hs.len, hs2.len]; exact hl)), fun p3 np => ?_⟩
        have m1 := new_ne hX (s.trans (s1.trans s2)) np
        exact k _ _ (s1.trans (s2.trans (same_new np))) (.lst (wo_of upd_same m1) (DqAll.same (wo_same (same_new np)) _ _ (hs.app hs2)))
theorem lit_repL {ta tb : TE} {ds : List PyData} {n : Int} (hX : LX X dk c H0) (a : Lit X σ H0 ta (.list ds)) (b : Lit X σ H0 tb (.int n)) (hl : ds.length * n.toNat ≤ 1000) (hn : 1 ≤ n) (hn2 : n ≤ 1000) :
    Lit X σ H0 (tOp rRep ta tb) (.list (List.replicate n.toNat ds).flatten) :=
  fun H Q s k => a H _ s fun v H1 s1 q1 => b H1 _ (s.trans s1) fun u H2 s2 q2 => by
    have q1 := Dq.same (wo_same s2) _ _ q1
    cases q1 with
    | @lst p xs _ hp hs =>
      cases q2
      refine ⟨p, n, xs, rfl, rfl, (wo_some hp).1, by omega, by omega, Nat.le_of_lt (len_lt (by rw [hs.len]; exact hl)), fun p3 np => ?_⟩
      have m1 := new_ne hX (s.trans (s1.trans s2)) np
      exact k _ _ (s1.trans (s2.trans (same_new np))) (.lst (wo_of upd_same m1) (DqAll.same (wo_same (same_new np)) _ _ (hs.rep _)))
theorem lit_slL {te : TE} {tl th : TO} {ds : List PyData} {lo hi : Option Int} (hX : LX X dk c H0) (a : Lit X σ H0 te (.list ds)) (l : LitO σ H0 tl lo) (h : LitO σ H0 th hi) :
    Lit X σ H0 (tSl (rSlL K) te tl th) (.list ((ds.drop (HT.sIx ds.length 0 lo)).take (HT.sIx ds.length ds.length hi - HT.sIx ds.length 0 lo))) :=
  fun H Q s k => a H _ s fun v H1 s1 q1 => l H1 _ (s.trans s1) (h H1 _ (s.trans s1) (by
    cases q1 with
    | @lst p xs _ hp hs =>
      refine ⟨p, xs, rfl, SqL.of (wo_some hp).1, fun p2 np => ?_⟩
      have m1 := new_ne hX (s.trans s1) np
      exact k _ _ (s1.trans (same_new np)) (.lst (wo_of upd_same m1) (DqAll.same (wo_same (same_new np)) _ _ hs).cut)))
/-- a written list at a drawn index -/
theorem pick {te : TE} {ds : List PyData} {B : Nat} {n : Int} {Q : VK} (hX : LX X dk c H0) (a : Lit X σ H0 te (.list ds)) (dek : Deck H0 dk c B) (hB : B ≤ 1000000) (h0 : σ[0]? = some (some (.ref dk))) (hn : n = ds.length) (h1 : 1 ≤ n) (h2 : n ≤ 1000)
    (q : ∀ v d H', d ∈ ds → Kp2 dk c H0 H' → Deck H' dk c (B + 1) → Dq (Wo X H') v d → Q v H') : tOp (rIxL K) te (tCall spDraw [] E0 (tCons (tVar 0) (tCons (tC (.int n)) tNil))) σ H0 Q :=
  a H0 _ (Same.refl _) fun v H1 s1 q1 => by
    cases q1 with
    | @lst p xs _ hp hs =>
      refine ⟨.ref dk, h0, dk, c, B, n, rfl, dek.keep s1, hB, h1, h2, fun r H3 r0 r1 k3 d3 => ?_⟩
      obtain ⟨hp', n0⟩ := wo_some hp
      obtain ⟨n1, n2⟩ := hX.no n0
      have hp3 : H3 p = some (.lst xs) := k3 _ _ n1 n2 hp'
      obtain ⟨j, rfl⟩ : ∃ j : Nat, r = (j : Int) := ⟨r.toNat, by omega⟩
      have hj : j < xs.length := by
        rw [hs.len]
        omega
      have hx : xs[j]? = some xs[j] := List.getElem?_eq_getElem hj
      obtain ⟨d, hd', hq⟩ := (DqAll.same (wo_kp hX k3) _ _ hs).get hx
      exact ⟨p, xs, (j : Int), xs[j], rfl, rfl, SqL.of hp3, atI_nat hx, q _ d H3 (List.mem_of_getElem? hd') ((kps s1).trans k3) d3 hq⟩
end
end DD
namespace DD
open PySem PySem.Spec PyProof.Rows L2

theorem dqs_rows {X : Addr → Prop} {H : Hp} : ∀ (ls : List Addr) (rows : List (List Int)), ls.length = rows.length →
    (∀ (j : Nat) (l : Addr) (r : List Int), ls[j]? = some l → rows[j]? = some r → Wo X H l = some (.tup (r.map V.int))) → DqAll (Wo X H) (ls.map V.ref) (rows.map rowD)
  | [], [], _, _ => .nil
  | [], _ :: _, h, _ => by simp at h
  | _ :: _, [], h, _ => by simp at h
  | l :: ls, r :: rows, h, hat => .cons (.tup (hat 0 l r rfl rfl) (dq_ints r)) (dqs_rows ls rows (by simpa using h) fun j l' r' e1 e2 => hat (j + 1) l' r' e1 e2)
theorem stock_dq {X : Addr → Prop} {dk c t : Addr} {H : Hp} {ls : List Addr} {rows : List (List Int)} (hX : LX X dk c H) (st : StockAt H t ls rows) : Dq (Wo X H) (.ref t) (stockD rows) := by
  have ne : ∀ b xs, H b = some (.tup xs) → Wo X H b = some (.tup xs) := fun b xs e => wo_of e (tup_ne hX (Same.refl _) e)
  exact .tup (ne _ _ st.top) (dqs_rows ls rows st.len fun j l r e1 e2 => ne _ _ (st.row j l r e1 e2))
/-- rows of whole numbers -/
structure RowsOk (rows : List (List Int)) : Prop where
  n1 : 1 ≤ rows.length
  n4 : rows.length ≤ 4
  row : ∀ r ∈ rows, 1 ≤ r.length ∧ r.length ≤ 4 ∧ ∀ x ∈ r, 0 ≤ x ∧ x ≤ 900
theorem pl_int (i : Int) : Pl (.int i) := ⟨rfl, rfl⟩
theorem pl_row (r : List Int) : Pl (rowD r) := nx_pl fun y hy => by
  obtain ⟨x, _, rfl⟩ := List.mem_map.mp hy
  exact pl_int x
theorem bd_row {r : List Int} (hl : r.length ≤ 4) (h : ∀ x ∈ r, 0 ≤ x ∧ x ≤ 900) : Bd 2820 4 (rowD r) :=
  (Bd.tup (w := 13) (k := 0) (n := 4) (fun d hd => by
    obtain ⟨x, hx, rfl⟩ := List.mem_map.mp hd
    exact bd_int (h x hx).1 (by have := (h x hx).2; omega)) (by rw [List.length_map]; exact hl)).up (by decide) (by decide)
/-- a changed drawer, or what stands in its place -/
structure New (d : PyData) : Prop where
  bd : Bd 2820 4 d
  nx : Nx d
  ln : lenD d ≤ 20
theorem new_row {r : List Int} (hl : r.length ≤ 4) (h : ∀ x ∈ r, 0 ≤ x ∧ x ≤ 900) : New (rowD r) := ⟨bd_row hl h, (pl_row r).nx, by show (r.map PyData.int).length ≤ 20; rw [List.length_map]; omega⟩
theorem new_tup {ds : List PyData} {x : PyData} (hx : Bd 140 3 x) (nx : Nx x) (h : ∀ y ∈ ds, y = x ∨ ∃ i : Int, y = .int i ∧ 0 ≤ i ∧ i ≤ 900) (hl : ds.length ≤ 20) : New (.tuple ds) := by
  refine ⟨(Bd.tup (w := 140) (k := 3) (n := 20) (fun d hd => ?_) hl).up (by decide) (by decide), nx_mem nx fun y hy => ?_, hl⟩
  · rcases h d hd with rfl | ⟨i, rfl, i0, i9⟩
    · exact hx
    · exact (bd_int i0 (by omega)).up (by decide) (by decide)
  · rcases h y hy with e | ⟨i, rfl, _⟩
    · exact .inl e
    · exact .inr (pl_int i)
theorem new_odd {d : PyData} (h : d ∈ oddA ++ oddB) : New d := by
  have all : (oddA ++ oddB).all (fun d => decide (lenD d ≤ 20)) = true := by decide +kernel
  obtain ⟨h1, h2, _⟩ := val_odd h
  exact ⟨h1.up (by decide) (by decide), h2, of_decide_eq_true (List.all_eq_true.mp all d h)⟩
theorem new_list {r : List Int} (hl : r.length ≤ 4) (h : ∀ x ∈ r, 0 ≤ x ∧ x ≤ 900) : New (.list (r.map PyData.int)) :=
  ⟨(Bd.lst (w := 13) (k := 0) (n := 4) (fun d hd => by
    obtain ⟨x, hx, rfl⟩ := List.mem_map.mp hd
    exact bd_int (h x hx).1 (by have := (h x hx).2; omega)) (by rw [List.length_map]; exact hl)).up (by decide) (by decide), nx_lst fun y hy => (by
    obtain ⟨x, _, rfl⟩ := List.mem_map.mp hy
    exact pl_int x), Nat.zero_le _⟩
/-- a stock with a drawer changed -/
theorem val_rows {ds : List PyData} {x : PyData} {rows : List (List Int)} (ok : RowsOk rows) (hx : New x) (h : ∀ y ∈ ds, y = x ∨ y ∈ rows.map rowD) (hl : ds.length ≤ 20) : Val (.tuple ds) := by
  have hr : ∀ y ∈ rows.map rowD, ∃ r ∈ rows, y = rowD r := fun y hy => by
    obtain ⟨r, hr, rfl⟩ := List.mem_map.mp hy
    exact ⟨r, hr, rfl⟩
  refine ⟨(Bd.tup (w := 2820) (k := 4) (n := 20) (fun d hd => ?_) hl).up (by decide) (by decide), nx_mem hx.nx fun y hy => ?_, slim_tup (by omega) fun y hy => ?_⟩
  · rcases h d hd with rfl | e
    · exact hx.bd
    · obtain ⟨r, hr, rfl⟩ := hr d e
      exact bd_row (ok.row r hr).2.1 (ok.row r hr).2.2
  · rcases h y hy with e | e
    · exact .inl e
    · obtain ⟨r, _, rfl⟩ := hr y e
      exact .inr (pl_row r)
  · rcases h y hy with rfl | e
    · have := hx.ln
      omega
    · obtain ⟨r, hr, rfl⟩ := hr y e
      show (r.map PyData.int).length ≤ 1000
      rw [List.length_map]
      have := (ok.row r hr).2.1
      omega
theorem val_lrows {rows : List (List Int)} (ok : RowsOk rows) : Val (.list (rows.map rowD)) := by
  refine ⟨(Bd.lst (w := 2820) (k := 4) (n := 4) (fun d hd => ?_) (by rw [List.length_map]; exact ok.n4)).up (by decide) (by decide), nx_lst fun y hy => ?_, slim_lst⟩
  · obtain ⟨r, hr, rfl⟩ := List.mem_map.mp hd
    exact bd_row (ok.row r hr).2.1 (ok.row r hr).2.2
  · obtain ⟨r, hr, rfl⟩ := List.mem_map.mp hy
    exact pl_row r
theorem val_row {rows : List (List Int)} {r : List Int} (ok : RowsOk rows) (h : r ∈ rows) : Val (rowD r) := by
  refine ⟨(bd_row (ok.row r h).2.1 (ok.row r h).2.2).up (by decide) (by decide), (pl_row r).nx, slim_tup ?_ fun x hx => ?_⟩
  · rw [List.length_map]
    have := (ok.row r h).2.1
    omega
  · obtain ⟨i, _, rfl⟩ := List.mem_map.mp hx
    exact Nat.zero_le _
theorem val_one {rows : List (List Int)} (ok : RowsOk rows) : Val (.tuple [stockD rows]) := by
  have b : Bd 56420 5 (stockD rows) := (Bd.tup (w := 2820) (k := 4) (n := 4) (fun d hd => (by
    obtain ⟨r, hr, rfl⟩ := List.mem_map.mp hd
    exact bd_row (ok.row r hr).2.1 (ok.row r hr).2.2)) (by rw [List.length_map]; exact ok.n4)).up (by decide) (by decide)
  have p : Pl (stockD rows) := nx_pl fun y hy => by
    obtain ⟨r, _, rfl⟩ := List.mem_map.mp hy
    exact pl_row r
  refine ⟨(Bd.tup (w := 56420) (k := 5) (n := 1) (fun d hd => by rw [List.mem_singleton.mp hd]; exact b) (Nat.le_refl _)).up (by decide) (by decide), (nx_pl fun y hy => by rw [List.mem_singleton.mp hy]; exact p).nx, slim_tup (show 1 ≤ 1000 by decide) fun x hx => ?_⟩
  rw [List.mem_singleton.mp hx]
  show (rows.map rowD).length ≤ 1000
  rw [List.length_map]
  have := ok.n4
  omega
theorem val_stock {rows : List (List Int)} (ok : RowsOk rows) : Val (stockD rows) := by
  have n0 : 0 < rows.length := ok.n1
  have hm := List.getElem_mem n0
  refine val_rows ok (x := rowD rows[0]) (new_row (ok.row _ hm).2.1 (ok.row _ hm).2.2) (fun y hy => .inr hy) ?_
  rw [List.length_map]
  have := ok.n4
  omega
theorem mem_cut {α : Type} {ds : List α} {a b : Nat} {y : α} (h : y ∈ (ds.drop a).take b) : y ∈ ds := List.mem_of_mem_drop (List.mem_of_mem_take h)
theorem len_cut {α : Type} (ds : List α) (a b : Nat) : ((ds.drop a).take b).length ≤ ds.length := by
  rw [List.length_take, List.length_drop]
  omega
theorem mem_rep {α : Type} {ds : List α} {n : Nat} {y : α} (h : y ∈ (List.replicate n ds).flatten) : y ∈ ds := by
  obtain ⟨l, hl, hy⟩ := List.mem_flatten.mp h
  rw [List.eq_of_mem_replicate hl] at hy
  exact hy
theorem len_rep {α : Type} (n : Nat) (ds : List α) : (List.replicate n ds).flatten.length = n * ds.length := by
  induction n with
  | zero => simp
  | succ n ih => rw [List.replicate_succ, List.flatten_cons, List.length_append, ih, Nat.succ_mul]; omega
end DD
namespace DD
open PySem PySem.Spec PyProof.Rows L2

theorem gen_list {Pr : PyData → Prop} {Hw : Hp} {v : V} {ds : List PyData} (h : Dq Hw v (.list ds)) (n : Nat) (hn : ds.length = n) (hp : ∀ d ∈ ds, Pr d) : ∃ bl, Dq Hw v (.list bl) ∧ bl.length = n ∧ ∀ d ∈ bl, Pr d := ⟨ds, h, hn, hp⟩
theorem gen_tup {Pr : PyData → Prop} {Hw : Hp} {v : V} {ds : List PyData} (h : Dq Hw v (.tuple ds)) (n : Nat) (hn : ds.length ≤ n) (hp : ∀ d ∈ ds, Pr d) : ∃ bl, Dq Hw v (.tuple bl) ∧ bl.length ≤ n ∧ ∀ d ∈ bl, Pr d := ⟨ds, h, hn, hp⟩
theorem cut_one {bl : List PyData} (h : 1 ≤ bl.length) : ((bl.drop (HT.sIx bl.length 0 none)).take (HT.sIx bl.length bl.length (some 1) - HT.sIx bl.length 0 none)).length = 1 := by
  rw [HT.sIx_none, show HT.sIx bl.length bl.length (some 1) = min 1 bl.length from HT.sIx_nat .., List.length_take, List.length_drop]
  omega
abbrev NC : List Str := ["_law_deck_here", "_law_rows", "_law_high", "_law_at", "_law_strange", "_law_row", "_law_spot", "_law_part", "_law_bent", "_law_new", "_law_head", "_law_tail", "_law_more", "_law_some"]
theorem scChanged : FnScope NC ["_law_deck_here", "_law_rows", "_law_high"] (defScope sChanged) := ⟨rfl, rfl, rfl, by decide +kernel, rfl, by decide +kernel, by decide +kernel⟩
section
variable {P : Program} {w : World} {K : PySem.W.Frag} {mg : Str → Option Value} {base : Heap}
def spChanged : Sp := fun vs H Q _ => ∃ (X : Addr → Prop) (dk c : Addr) (B : Nat) (t : Addr) (ls : List Addr) (rows : List (List Int)), vs = [.ref dk, .ref t, .int 50] ∧ LX X dk c H ∧ Deck H dk c B ∧ B + 10 ≤ 1000000 ∧ StockAt H t ls rows ∧ RowsOk rows ∧
  ∀ v d H', Val d → Kp2 dk c H H' → Deck H' dk c (B + 6) → Dq (Wo X H') v d → Q v H'
set_option maxHeartbeats 1000000 in
theorem ok_changed {f fD fO : Addr} {fd fdD fdO : FuncData} {k : Nat} (F : Fun K "_law_changed" "_law_changed" sChanged f fd) (FD : Fun K "_law_draw" "_law_draw" sDraw fD fdD) (bD : Binds K fdD ["_law_deck_here", "_law_limit"] []) (gD : mg "_law_draw" = some (.ref fD))
    (FO : Fun K "_law_odd" "_law_odd" sOdd fO fdO) (bO : Binds K fdO ["_law_deck_here"] []) (gO : mg "_law_odd" = some (.ref fO)) (ml : mg "len" = none) (mL : mg "list" = none) :
    FnOk P w K mg base CX0 (k + 3) f fd ["_law_deck_here", "_law_rows", "_law_high"] spChanged := by
  have GD : FnOk P w K mg base CX0 (k + 1) fD fdD ["_law_deck_here", "_law_limit"] spDraw := ok_draw FD ml
  have GO : FnOk P w K mg base CX0 (k + 2) fO fdO ["_law_deck_here"] spOdd := ok_odd FO FD bD gD ml
  refine F.ok scChanged (fun vs H Q E h => ?_) (fun cdv A outer s H vs Q E hr h => ?_)
  · obtain ⟨X, dk, c, B, t, ls, rows, rfl, _⟩ := h
    rfl
  · obtain ⟨X, dk, c, B, t, ls, rows, rfl, hX, dek, hB, st, ok, q⟩ := h
    refine ⟨_, pss_cons (ps_par (i := 3) (j := 4) (by rfl) scChanged.nd rfl rfl (by decide) rfl rfl (pa_cons (pe_call GD (hr.mono (by omega)) (by rfl) gD FD.kp bD .nil pass0 (pa_cons (pv 0) (pa_cons (pe_callB (show CallR _ _ (rLenQ K) from call_len_seq) (by rfl) ml PySem.boot_len (pa_cons (pv 1) pa_nil)) pa_nil)))
        (pa_cons (pe_call GO hr (by rfl) gO FO.kp bO .nil pass0 (pa_cons (pv 0) pa_nil)) pa_nil)) (by rfl))
      (pss_cons (ps_set (i := 5) scChanged.nd rfl (.inl rfl) (pe_ix (show IxR _ (rIxT K) from ix_tup) (pv 1) (pv 3) (fun _ _ => rfl)))
      (pss_cons (ps_set (i := 6) scChanged.nd rfl (.inl rfl) (pe_call GD (hr.mono (by omega)) (by rfl) gD FD.kp bD .nil pass0 (pa_cons (pv 0) (pa_cons (pe_callB (show CallR _ _ (rLenQ K) from call_len_seq) (by rfl) ml PySem.boot_len (pa_cons (pv 5) pa_nil)) pa_nil))))
      (pss_cons (ps_set (i := 7) scChanged.nd rfl (.inl rfl) (pe_ix (show IxR _ (rIxL K) from ix_list) (pe_lst (pa_cons (pv 4) (pa_cons (pe_un un_neg pe_int) (pa_cons (pe_op op_add (pv 2) pe_int) (pa_cons (pv 2) (pa_cons (pe_lst (pa_cons (pe_ix (show IxR _ (rIxT K) from ix_tup) (pv 5) (pv 6) (fun _ _ => rfl)) pa_nil)) pa_nil))))))
          (pe_call GD (hr.mono (by omega)) (by rfl) gD FD.kp bD .nil pass0 (pa_cons (pv 0) (pa_cons pe_int pa_nil))) (fun _ _ => rfl)))
      (pss_cons (ps_set (i := 8) scChanged.nd rfl (.inl rfl) (pe_lst (pa_cons (pe_op op_catQ (pe_op op_catQ (pe_slice sl_tupQ (pv 5) po_none (po_some (pv 6))) (pe_tup (pa_cons (pv 7) pa_nil))) (pe_slice sl_tupQ (pv 5) (po_some (pe_op op_add (pv 6) pe_int)) po_none))
          (pa_cons (pe_callTy (T := "list") (show CallR _ _ (rLstQ K) from call_list_of) (by rfl) mL (by decide +kernel) (pa_cons (pv 5) pa_nil)) (pa_cons (pe_slice sl_tupQ (pv 5) (po_some pe_int) po_none)
          (pa_cons (pe_op op_catQ (pv 5) (pe_tup (pa_cons pe_int pa_nil))) (pa_cons (pv 4) (pa_cons (pe_op op_repQ (pe_tup (pa_cons pe_int pa_nil)) (pe_callB (show CallR _ _ (rLenQ K) from call_len_seq) (by rfl) ml PySem.boot_len (pa_cons (pv 5) pa_nil))) pa_nil))))))))
      (pss_cons (ps_set (i := 9) scChanged.nd rfl (.inl rfl) (pe_ix (show IxR _ (rIxL K) from ix_list) (pe_op op_cat (pe_op op_rep (pe_slice (show SlR _ (rSlL K) from sl_list) (pv 8) po_none (po_some pe_int)) pe_int) (pv 8))
          (pe_call GD (hr.mono (by omega)) (by rfl) gD FD.kp bD .nil pass0 (pa_cons (pv 0) (pa_cons pe_int pa_nil))) (fun _ _ => rfl)))
      (pss_cons (ps_par3 (i := 10) (j := 11) (l := 12) (by rfl) scChanged.nd rfl rfl rfl (by decide) (by decide) (by decide) rfl rfl rfl (pa_cons (pe_slice sl_tupQ (pv 1) po_none (po_some (pv 3))) (pa_cons (pe_slice sl_tupQ (pv 1) (po_some (pe_op op_add (pv 3) pe_int)) po_none) (pa_cons (pe_op op_repQ (pv 1) pe_int) pa_nil))) (by rfl))
      (pss_cons (ps_set (i := 13) scChanged.nd rfl (.inl rfl) (pe_lst (pa_cons (pe_op op_catQ (pe_op op_catQ (pv 10) (pe_tup (pa_cons (pv 9) pa_nil))) (pv 11))
          (pa_cons (pe_op op_catQ (pe_op op_catQ (pv 10) (pe_tup (pa_cons (pv 9) pa_nil))) (pe_slice sl_tupQ (pv 1) (po_some (pv 3)) po_none)) (pa_cons (pe_op op_catQ (pv 10) (pv 11))
          (pa_cons (pe_callTy (T := "list") (show CallR _ _ (rLstQ K) from call_list_of) (by rfl) mL (by decide +kernel) (pa_cons (pv 1) pa_nil)) (pa_cons (pe_tup (pa_cons (pv 1) pa_nil)) (pa_cons (pe_ix (show IxR _ (rIxT K) from ix_tup) (pv 1) pe_int (fun _ _ => rfl)) pa_nil))))))))
      (pss_one (ps_ret (pe_ix (show IxR _ (rIxL K) from ix_list) (pe_op op_cat (pe_op op_cat (pe_op op_rep (pe_slice (show SlR _ (rSlL K) from sl_list) (pv 13) po_none (po_some pe_int)) pe_int) (pv 13))
          (pe_lst (pa_cons (pe_slice sl_tupQ (pv 12) po_none (po_some pe_int)) (pa_cons (pe_slice sl_tupQ (pv 12) po_none (po_some pe_int)) (pa_cons (pv 4) pa_nil)))))
          (pe_call GD (hr.mono (by omega)) (by rfl) gD FD.kp bD .nil pass0 (pa_cons (pv 0) (pa_cons pe_int pa_nil))) (fun _ _ => rfl)))))))))))
      , ?_⟩
    have hsl : ls.length = rows.length := st.len
    -- _law_at, _law_strange = draw(len(rows)), odd()
    refine ⟨_, rfl, _, rfl, t, _, rfl, .inr (SqT.of st.top), dk, c, B, _, rfl, dek, by omega, by rw [List.length_map]; have := ok.n1; omega, by rw [List.length_map]; have := ok.n4; omega, fun r1 H1 a0 a1 k1 d1 => ?_⟩
    rw [List.length_map] at a1
    obtain ⟨at_, rfl⟩ : ∃ j : Nat, r1 = (j : Int) := ⟨r1.toNat, by omega⟩
    have hat : at_ < rows.length := by omega
    refine ⟨_, rfl, X, dk, c, B + 1, rfl, hX.kp k1 d1, d1, by omega, fun ov od H2 hod k2 d2 hoq => ?_⟩
    refine ⟨_, _, rfl, ?_⟩
    have st3 : StockAt H2 t ls rows := (st.kp k1 dek).kp k2 d1
    have k03 : Kp2 dk c H H2 := k1.trans k2
    -- _law_row = _law_rows[_law_at]
    have hlsat : at_ < ls.length := by omega
    have hlx : (ls.map V.ref)[at_]? = some (.ref ls[at_]) := by
      rw [List.getElem?_map, List.getElem?_eq_getElem hlsat]
      rfl
    have hrow : rows[at_]? = some rows[at_] := List.getElem?_eq_getElem hat
    have hrm : rows[at_] ∈ rows := List.getElem_mem hat
    obtain ⟨rl1, rl4, rx⟩ := ok.row _ hrm
    refine ⟨.ref t, rfl, .int (at_ : Nat), rfl, t, _, (at_ : Int), .ref ls[at_], rfl, rfl, SqT.of st3.top, atI_nat hlx, ?_⟩
    have hrt := st3.row at_ _ _ (List.getElem?_eq_getElem hlsat) hrow
    -- _law_spot = draw(len(_law_row))
    refine ⟨_, rfl, _, rfl, _, _, rfl, .inr (SqT.of hrt), dk, c, B + 2, _, rfl, d2, by omega, by rw [List.length_map]; omega, by rw [List.length_map]; omega, fun r2 H4 b0 b1 k4 d4 => ?_⟩
    rw [List.length_map] at b1
    obtain ⟨spot, rfl⟩ : ∃ j : Nat, r2 = (j : Int) := ⟨r2.toNat, by omega⟩
    have hspot : spot < rows[at_].length := by omega
    have st4 := st3.kp k4 d2
    have hX4 := ((hX.kp k1 d1).kp k2 d2).kp k4 d4
    have hoq4 := Dq.same (wo_kp hX k4) _ _ hoq
    obtain ⟨od1, od2, od3⟩ := val_odd hod
    have stq4 := stock_dq hX4 st4
    have rowq4 : Dq (Wo X H4) (.ref ls[at_]) (rowD rows[at_]) := by
      have hrt4 := st4.row at_ _ _ (List.getElem?_eq_getElem hlsat) hrow
      exact .tup (wo_of hrt4 (tup_ne hX4 (Same.refl _) hrt4)) (dq_ints _)
    have cellx : (rows[at_].map PyData.int)[spot]? = some (.int rows[at_][spot]) := by
      rw [List.getElem?_map, List.getElem?_eq_getElem hspot]
      rfl
    have cellb := rx _ (List.getElem_mem hspot)
    have zrow : ∀ y ∈ rows[at_].map PyData.int, ∃ i : Int, y = .int i ∧ 0 ≤ i ∧ i ≤ 900 := fun y hy => by
      obtain ⟨x, hx, rfl⟩ := List.mem_map.mp hy
      exact ⟨x, rfl, rx x hx⟩
    have lrow : (rows[at_].map PyData.int).length ≤ 4 := by rw [List.length_map]; exact rl4
    -- _law_part = [..][draw(5)]
    unfold tSeq tAsg gName tPar3
    refine pick hX4 (ds := [od, .int (-1), .int (50 + 1), .int 50, .list [.int rows[at_][spot]]]) (lit_lst hX4 (litA_cons (lit_var rfl hoq4) (litA_cons (lit_neg (lit_c fun _ => .int 1)) (litA_cons (lit_add (lit_var rfl (.int 50)) (lit_c fun _ => .int 1)) (litA_cons (lit_var rfl (.int 50))
      (litA_cons (lit_lst hX4 (litA_cons (lit_ixT (j := spot) (lit_var rfl rowq4) (lit_var rfl (.int _)) cellx) litA_nil) (by show 1 ≤ 1000; decide)) litA_nil))))) (by show 5 ≤ 1000; decide)) d4 (by omega) rfl rfl (by decide) (by decide) (fun pv_ pd H5 hpd k5 d5 hpq => ?_)
    have hp140 : Bd 140 3 pd ∧ Nx pd := by
      simp only [List.mem_cons, List.not_mem_nil, or_false] at hpd
      rcases hpd with rfl | rfl | rfl | rfl | rfl
      · exact ⟨od1, od2⟩
      · exact ⟨bd_of (by decide +kernel), (pl_int _).nx⟩
      · exact ⟨bd_of (by decide +kernel), (pl_int _).nx⟩
      · exact ⟨bd_of (by decide +kernel), (pl_int _).nx⟩
      · refine ⟨(Bd.lst (w := 13) (k := 0) (n := 1) (fun d hd => ?_) (Nat.le_refl _)).up (by decide) (by decide), nx_lst fun y hy => ?_⟩
        · rw [List.mem_singleton.mp hd]
          exact bd_int cellb.1 (by omega)
        · rw [List.mem_singleton.mp hy]
          exact pl_int _
    have st5 := st4.kp k5 d4
    have hoq5 := Dq.same (wo_kp hX k5) _ _ hoq4
    have rowq5 := Dq.same (wo_kp hX k5) _ _ rowq4
    have hX5 := hX4.kp k5 d5
    -- _law_bent = [..]
    dsimp only
    show tLst _ [some (.ref dk), some (.ref t), some (.int 50), some (.int (at_ : Nat)), some ov, some (.ref ls[at_]), some (.int (spot : Nat)), some pv_, none, none, none, none, none, none] H5 _
    have L8 : Lit X [some (.ref dk), some (.ref t), some (.int 50), some (.int (at_ : Nat)), some ov, some (.ref ls[at_]), some (.int (spot : Nat)), some pv_, none, none, none, none, none, none] H5 (tLst _) (.list _) :=
      lit_lst hX5 (litA_cons (lit_cat hX5 (lit_cat hX5 (lit_sl hX5 (lit_var (i := 5) rfl rowq5) lito_none (lito_var (i := 6) rfl)) (lit_tup hX5 (litA_cons (lit_var (i := 7) rfl hpq) litA_nil) (by show 1 ≤ 1000; decide)) (by simp only [List.length_append, List.length_take, List.length_drop, List.length_map, List.length_cons, List.length_nil]; omega))
          (lit_sl hX5 (lit_var (i := 5) rfl rowq5) (lito_var1 (i := 6) rfl) lito_none) (by simp only [List.length_append, List.length_take, List.length_drop, List.length_map, List.length_cons, List.length_nil]; omega))
        (litA_cons (lit_list (K := K) hX5 (lit_var (i := 5) rfl rowq5)) (litA_cons (lit_sl hX5 (lit_var (i := 5) rfl rowq5) (lito_c (n := 1)) lito_none) (litA_cons (lit_cat hX5 (lit_var (i := 5) rfl rowq5) (lit_tup hX5 (litA_cons (lit_c fun _ => .int 1) litA_nil) (by show 1 ≤ 1000; decide)) (by simp only [List.length_map, List.length_cons, List.length_nil]; omega)) (litA_cons (lit_var (i := 4) rfl hoq5)
        (litA_cons (lit_rep hX5 (lit_tup hX5 (litA_cons (lit_c fun _ => .int 0) litA_nil) (by show 1 ≤ 1000; decide)) (lit_len (K := K) (lit_var (i := 5) rfl rowq5)) (fun z => nomatch z) (by show 1 ≤ 1000; decide) (by rw [List.length_map]; omega) (by rw [List.length_map]; omega)) litA_nil)))))) (by show 6 ≤ 1000; decide)
    refine L8 H5 _ (Same.refl _) fun bv H6 s6 bq => ?_
    obtain ⟨bl, bq, hbn, hbN⟩ := gen_list (Pr := New) bq 6 rfl (by
      intro d hd
      have one : New (.tuple (rows[at_].map PyData.int)) := new_row rl4 rx
      simp only [List.mem_cons, List.not_mem_nil, or_false] at hd
      rcases hd with rfl | rfl | rfl | rfl | rfl | rfl
      · refine new_tup hp140.1 hp140.2 (fun y hy => ?_) (by simp only [List.length_append, List.length_take, List.length_drop, List.length_map, List.length_cons, List.length_nil]; omega)
        rcases List.mem_append.mp hy with hy | hy
        · rcases List.mem_append.mp hy with hy | hy
          · exact .inr (zrow y (mem_cut hy))
          · exact .inl (List.mem_singleton.mp hy)
        · exact .inr (zrow y (mem_cut hy))
      · exact new_list rl4 rx
      · exact new_tup (x := .int 0) (bd_of (by decide +kernel)) (pl_int _).nx (fun y hy => .inr (zrow y (mem_cut hy))) (by simp only [List.length_take, List.length_drop, List.length_map]; omega)
      · refine new_tup (x := .int 1) (bd_of (by decide +kernel)) (pl_int _).nx (fun y hy => ?_) (by simp only [List.length_append, List.length_map, List.length_cons, List.length_nil]; omega)
        rcases List.mem_append.mp hy with hy | hy
        · exact .inr (zrow y hy)
        · exact .inl (List.mem_singleton.mp hy)
      · exact new_odd hod
      · refine new_tup (x := .int 0) (bd_of (by decide +kernel)) (pl_int _).nx (fun y hy => .inl (List.mem_singleton.mp (mem_rep hy))) ?_
        rw [len_rep, Int.toNat_natCast, List.length_map]
        show _ * 1 ≤ 20
        omega)
    have st6 := st5.same s6
    have d6 := d5.keep s6
    have hoq6 := Dq.same (wo_same s6) _ _ hoq5
    have hX6 := hX5.same s6
    -- _law_new = (_law_bent[:1] * 3 + _law_bent)[draw(9)]
    show tOp (rIxL K) _ _ [some (.ref dk), some (.ref t), some (.int 50), some (.int (at_ : Nat)), some ov, some (.ref ls[at_]), some (.int (spot : Nat)), some pv_, some bv, none, none, none, none, none] H6 _
    refine pick hX6 (lit_catL hX6 (lit_repL hX6 (lit_slL (K := K) hX6 (lit_var (i := 8) rfl bq) lito_none (lito_c (n := 1))) (lit_c fun _ => .int 3) (by rw [cut_one (by omega)]; decide) (by decide) (by decide)) (lit_var (i := 8) rfl bq) (by rw [len_rep, cut_one (by omega), hbn]; decide)) d6 (by omega) rfl
      (by rw [List.length_append, len_rep, cut_one (by omega), hbn]; rfl) (by decide) (by decide) (fun nv nd H7 hnd k7 d7 nq => ?_)
    have hnew : New nd := by
      rcases List.mem_append.mp hnd with h | h
      · exact hbN _ (mem_cut (mem_rep h))
      · exact hbN _ h
    have st7 := st6.kp k7 d6
    have hoq7 := Dq.same (wo_kp hX k7) _ _ hoq6
    have hX7 := hX6.kp k7 d7
    have stq7 := stock_dq hX7 st7
    have lrows : (rows.map rowD).length ≤ 4 := by rw [List.length_map]; exact ok.n4
    have lrows1 : 1 ≤ (rows.map rowD).length := by rw [List.length_map]; exact ok.n1
    have r0ne : rows.map rowD ≠ [] := fun z => by rw [z] at lrows1; simp at lrows1
    -- _law_head, _law_tail, _law_more = ..
    have L7 : LitA X [some (.ref dk), some (.ref t), some (.int 50), some (.int (at_ : Nat)), some ov, some (.ref ls[at_]), some (.int (spot : Nat)), some pv_, some bv, some nv, none, none, none, none] H7 (tCons _ (tCons _ (tCons _ tNil))) [_, _, _] :=
      litA_cons (lit_sl hX7 (lit_var (i := 1) rfl stq7) lito_none (lito_var (i := 3) rfl)) (litA_cons (lit_sl hX7 (lit_var (i := 1) rfl stq7) (lito_var1 (i := 3) rfl) lito_none) (litA_cons (lit_rep (n := 5) hX7 (lit_var (i := 1) rfl stq7) (lit_c fun _ => .int 5) r0ne (by omega) (by decide) (by decide)) litA_nil))
    refine L7 H7 _ (Same.refl _) fun vs7 H8 s8 q8 => ?_
    cases q8 with
    | cons qh q8 =>
      cases q8 with
      | cons qt q8 =>
        cases q8 with
        | cons qm q8 =>
          cases q8
          rename_i hv tv mv
          obtain ⟨hl_, qh, hhl, hhm⟩ := gen_tup (Pr := fun d => d ∈ rows.map rowD) qh 4 (by rw [List.length_take, List.length_drop]; omega) (fun d hd => mem_cut hd)
          obtain ⟨tl_, qt, htl, htm⟩ := gen_tup (Pr := fun d => d ∈ rows.map rowD) qt 4 (by rw [List.length_take, List.length_drop]; omega) (fun d hd => mem_cut hd)
          obtain ⟨ml_, qm, hml, hmm⟩ := gen_tup (Pr := fun d => d ∈ rows.map rowD) qm 20 (by rw [len_rep]; show 5 * _ ≤ 20; omega) (fun d hd => mem_rep hd)
          refine ⟨hv, tv, mv, rfl, ?_⟩
          have st8 := st7.same s8
          have hX8 := hX7.same s8
          have d8 := d7.keep s8
          have hoq8 := Dq.same (wo_same s8) _ _ hoq7
          have nq8 := Dq.same (wo_same s8) _ _ nq
          have stq8 := stock_dq hX8 st8
          -- _law_some = [..]
          obtain ⟨r0, rs, er0⟩ : ∃ r0 rs, rows = r0 :: rs := by
            cases rows with
            | nil => simp at r0ne
            | cons a b => exact ⟨_, _, rfl⟩
          have r0q : (rows.map rowD)[0]? = some (rowD r0) := by rw [er0]; rfl
          have r0m : r0 ∈ rows := by rw [er0]; exact List.mem_cons_self
          have newr0 : New (rowD r0) := new_row (ok.row r0 r0m).2.1 (ok.row r0 r0m).2.2
          have L13 : Lit X [some (.ref dk), some (.ref t), some (.int 50), some (.int (at_ : Nat)), some ov, some (.ref ls[at_]), some (.int (spot : Nat)), some pv_, some bv, some nv, some hv, some tv, some mv, none] H8 (tLst _) (.list _) :=
            lit_lst hX8 (litA_cons (lit_cat hX8 (lit_cat hX8 (lit_var (i := 10) rfl qh) (lit_tup hX8 (litA_cons (lit_var (i := 9) rfl nq8) litA_nil) (by show 1 ≤ 1000; decide)) (by show _ + 1 ≤ 1000; omega)) (lit_var (i := 11) rfl qt) (by rw [List.length_append]; show _ + 1 + _ ≤ 1000; omega))
              (litA_cons (lit_cat hX8 (lit_cat hX8 (lit_var (i := 10) rfl qh) (lit_tup hX8 (litA_cons (lit_var (i := 9) rfl nq8) litA_nil) (by show 1 ≤ 1000; decide)) (by show _ + 1 ≤ 1000; omega)) (lit_sl hX8 (lit_var (i := 1) rfl stq8) (lito_var (i := 3) rfl) lito_none) (by rw [List.length_append, List.length_take, List.length_drop]; show _ + 1 + _ ≤ 1000; omega))
              (litA_cons (lit_cat hX8 (lit_var (i := 10) rfl qh) (lit_var (i := 11) rfl qt) (by omega)) (litA_cons (lit_list (K := K) hX8 (lit_var (i := 1) rfl stq8)) (litA_cons (lit_tup hX8 (litA_cons (lit_var (i := 1) rfl stq8) litA_nil) (by show 1 ≤ 1000; decide))
              (litA_cons (lit_ixT (K := K) (j := 0) (lit_var (i := 1) rfl stq8) (lit_c fun _ => .int 0) r0q) litA_nil)))))) (by show 6 ≤ 1000; decide)
          refine L13 H8 _ (Same.refl _) fun sv H9 s9 sq => ?_
          obtain ⟨sl_, sq, hsn, hsV⟩ := gen_list (Pr := Val) sq 6 rfl (by
            intro d hd
            simp only [List.mem_cons, List.not_mem_nil, or_false] at hd
            rcases hd with rfl | rfl | rfl | rfl | rfl | rfl
            · refine val_rows ok hnew (fun y hy => ?_) (by simp only [List.length_append, List.length_cons, List.length_nil]; omega)
              rcases List.mem_append.mp hy with hy | hy
              · rcases List.mem_append.mp hy with hy | hy
                · exact .inr (hhm y hy)
                · exact .inl (List.mem_singleton.mp hy)
              · exact .inr (htm y hy)
            · refine val_rows ok hnew (fun y hy => ?_) (by simp only [List.length_append, List.length_take, List.length_drop, List.length_cons, List.length_nil]; omega)
              rcases List.mem_append.mp hy with hy | hy
              · rcases List.mem_append.mp hy with hy | hy
                · exact .inr (hhm y hy)
                · exact .inl (List.mem_singleton.mp hy)
              · exact .inr (mem_cut hy)
            · refine val_rows ok newr0 (fun y hy => ?_) (by simp only [List.length_append]; omega)
              rcases List.mem_append.mp hy with hy | hy
              · exact .inr (hhm y hy)
              · exact .inr (htm y hy)
            · exact val_lrows ok
            · exact val_one ok
            · exact val_row ok r0m)
          have d9 := d8.keep s9
          have hoq9 := Dq.same (wo_same s9) _ _ hoq8
          have qm9 := Dq.same (wo_same s9) _ _ qm
          have hX9 := hX8.same s9
          -- return (_law_some[:1] * 4 + _law_some + [_law_more[:4], _law_more[:5], _law_strange])[draw(13)]
          show tOp (rIxL K) _ _ [some (.ref dk), some (.ref t), some (.int 50), some (.int (at_ : Nat)), some ov, some (.ref ls[at_]), some (.int (spot : Nat)), some pv_, some bv, some nv, some hv, some tv, some mv, some sv] H9 _
          refine pick hX9 (lit_catL hX9 (lit_catL hX9 (lit_repL hX9 (lit_slL (K := K) hX9 (lit_var (i := 13) rfl sq) lito_none (lito_c (n := 1))) (lit_c fun _ => .int 4) (by rw [cut_one (by omega)]; decide) (by decide) (by decide)) (lit_var (i := 13) rfl sq) (by rw [len_rep, cut_one (by omega), hsn]; decide))
              (lit_lst hX9 (litA_cons (lit_sl hX9 (lit_var (i := 12) rfl qm9) lito_none (lito_c (n := 4))) (litA_cons (lit_sl hX9 (lit_var (i := 12) rfl qm9) lito_none (lito_c (n := 5))) (litA_cons (lit_var (i := 4) rfl hoq9) litA_nil))) (by show 3 ≤ 1000; decide)) (by rw [List.length_append, len_rep, cut_one (by omega), hsn]; show _ + 3 ≤ 1000; decide)) d9 (by omega) rfl
            (by rw [List.length_append, List.length_append, len_rep, cut_one (by omega), hsn]; rfl) (by decide) (by decide) (fun v d H' hdm k' d' hq => ?_)
          refine q v d H' ?_ (k03.trans (k4.trans (k5.trans ((kps s6).trans (k7.trans ((kps s8).trans ((kps s9).trans k'))))))) d' hq
          rcases List.mem_append.mp hdm with hdm | hdm
          · rcases List.mem_append.mp hdm with hdm | hdm
            · exact hsV _ (mem_cut (mem_rep hdm))
            · exact hsV _ hdm
          · simp only [List.mem_cons, List.not_mem_nil, or_false] at hdm
            rcases hdm with rfl | rfl | rfl
            · exact val_rows ok newr0 (fun y hy => .inr (hmm y (mem_cut hy))) (by rw [List.length_take, List.length_drop]; omega)
            · exact val_rows ok newr0 (fun y hy => .inr (hmm y (mem_cut hy))) (by rw [List.length_take, List.length_drop]; omega)
            · exact val_up (val_odd hod)
end
end DD
namespace DD
open PySem PySem.Spec PyProof.Rows L2
theorem ints_of_vals : ∀ {ns : List Int} {us : List Value}, Vals (ns.map V.int) us → PyProof.Rows.IntsAre us ns
  | [], _, h => by
    cases h
    exact .nil
  | n :: ns, _, h => by
    cases h with
    | cons r t =>
      obtain ⟨k, rfl⟩ := r
      exact .cons n k (ints_of_vals t)
/-- sum of a tuple of ints -/
theorem cr_sumT {X : Cx} (hc : X.calm = true) : CallR X (.builtin "sum") (fun vs H Q => ∃ (a : Addr) (ns : List Int), vs = [V.ref a] ∧ SqT X.K H a (ns.map V.int) ∧ Q (.int ns.sum) H) := by
  intro pins s σ H xs us Q I r h
  obtain ⟨a, ns, rfl, hq, q⟩ := h
  obtain ⟨u, rfl, ru⟩ := vals1 r
  cases ru
  obtain ⟨its, rv, ⟨o, ho, hcl, n, hd⟩, _⟩ := I.tuple hq
  have ia := ints_of_vals rv
  obtain ⟨xs, e⟩ := ia.allInts.items
  have hn : numsOf (intItems xs).toList = ns := by rw [← e]; exact ia.numsOf
  rw [nums_intItems] at hn
  have ht : s.heap.IsTuple a (intItems xs) := by rw [← e]; exact ⟨o, ho, hcl, n, hd⟩
  refine PySem.W.ktm_sumG (I.ok.hd hc) ht fun h' tk t' hk => ?_
  rw [preSum_eq, List.take_of_length_le (by simp), hn]
  exact ⟨.int ns.sum, H, I.kept hk, ⟨t', rfl⟩, q⟩


/-! ### collections as data -/
def intOf : PyData → Int
  | .int i => i
  | _ => 0
def sumD : PyData → Int
  | .tuple ds => (ds.map intOf).sum
  | _ => 0
theorem sumD_ints (ns : List Int) : sumD (.tuple (ns.map PyData.int)) = ns.sum := by
  show ((ns.map PyData.int).map intOf).sum = ns.sum
  rw [List.map_map]
  congr 1
  exact (List.map_congr_left fun x _ => rfl).trans (List.map_id ns)
def colOk (k : Int) (d : PyData) : Bool := (isTup d && (decide (k ≤ (lenD d : Int)) && decide ((lenD d : Int) ≤ k)) && allOk 50 d) && decide (sumD d > 0)
def rowsAll (k : Int) : PyData → Bool
  | .tuple ds => ds.all (colOk k)
  | _ => false
def areOk (k : Int) (d : PyData) : Bool := (isTup d && (decide ((1 : Int) ≤ (lenD d : Int)) && decide ((lenD d : Int) ≤ 4))) && rowsAll k d
theorem ints_dq {H : Hp} {m : Int} : ∀ {xs : List V} {ds : List PyData}, DqAll H xs ds → ds.all (numOk m) = true → ∃ ns : List Int, xs = ns.map V.int ∧ ds = ns.map PyData.int ∧ ∀ x ∈ ns, 0 ≤ x ∧ x ≤ m
  | _, [], h, _ => by
    cases h
    exact ⟨[], rfl, rfl, fun x hx => by cases hx⟩
  | _, d :: ds, h, e => by
    rw [List.all_cons, Bool.and_eq_true] at e
    cases h with
    | cons a b =>
      obtain ⟨ns, rfl, rfl, hb⟩ := ints_dq b e.2
      cases a with
      | int i =>
        have e1 : (decide (0 ≤ i) && decide (i ≤ m)) = true := e.1
        rw [Bool.and_eq_true, decide_eq_true_eq, decide_eq_true_eq] at e1
        refine ⟨i :: ns, rfl, rfl, fun x hx => ?_⟩
        rcases List.mem_cons.mp hx with rfl | hx
        · exact e1
        · exact hb x hx
      | _ => exact nomatch (show false = true from e.1)
theorem sum_ge : ∀ {ns : List Int}, (∀ x ∈ ns, 0 ≤ x) → ∀ y ∈ ns, y ≤ ns.sum
  | [], _, y, h => by cases h
  | x :: xs, h, y, hy => by
    have h0 := h x List.mem_cons_self
    have hx : ∀ z ∈ xs, 0 ≤ z := fun z hz => h z (List.mem_cons_of_mem _ hz)
    rw [List.sum_cons]
    rcases List.mem_cons.mp hy with rfl | hy
    · have : 0 ≤ xs.sum := by
        have h2 : ∀ l : List Int, (∀ z ∈ l, 0 ≤ z) → 0 ≤ l.sum := fun l => by
          induction l with
          | nil => intro _; exact Int.le_refl _
          | cons a l ih =>
            intro hl
            rw [List.sum_cons]
            have := hl a List.mem_cons_self
            have := ih fun z hz => hl z (List.mem_cons_of_mem _ hz)
            omega
        exact h2 xs hx
      omega
    · have := sum_ge hx y hy
      omega
theorem max_sum {ns : List Int} {m : Int} (h : ∀ x ∈ ns, 0 ≤ x) (hm : m ∈ ns) (hl : ∀ y, y ∈ ns → y ≤ m) : decide (V.int m = V.int 0) = !decide (ns.sum > 0) := by
  have h0 := h m hm
  have h1 := sum_ge h m hm
  by_cases e : m = 0
  · have h2 := (sum_bd (b := 0) (xs := ns) fun x hx => ⟨h x hx, by have := hl x hx; omega⟩).2
    rw [decide_eq_true (by rw [e]), decide_eq_false (by rw [Int.mul_zero] at h2; omega)]
    rfl
  · rw [decide_eq_false (fun z => e (V.int.inj z)), decide_eq_true (by omega)]
    rfl
theorem colOk_of {k : Int} {ns : List Int} : colOk k (.tuple (ns.map PyData.int)) = ((decide (k ≤ (ns.length : Int)) && decide ((ns.length : Int) ≤ k)) && (ns.map PyData.int).all (numOk 50) && decide (ns.sum > 0)) := by
  unfold colOk
  rw [sumD_ints]
  show ((true && (decide (k ≤ ((ns.map PyData.int).length : Int)) && decide (((ns.map PyData.int).length : Int) ≤ k)) && (ns.map PyData.int).all (numOk 50)) && _) = _
  rw [Bool.true_and, List.length_map]
theorem scIsCol : FnScope ["kinds", "value"] ["kinds", "value"] (defScope sIsCol) := ⟨rfl, rfl, rfl, by decide +kernel, rfl, by decide +kernel, by decide +kernel⟩
abbrev NA : List Str := ["kinds", "value", "collection"]
theorem scAre : FnScope NA ["kinds", "value"] (defScope sAre) := ⟨rfl, rfl, rfl, by decide +kernel, rfl, by decide +kernel, by decide +kernel⟩
abbrev NE : List Str := ["_law_kinds", "_law_value", "_law_row", "_law_one"]
theorem scRight : FnScope NE ["_law_kinds", "_law_value"] (defScope sRight) := ⟨rfl, rfl, rfl, by decide +kernel, rfl, by decide +kernel, by decide +kernel⟩
structure CoTx (K : PySem.W.Frag) (mg : Str → Option Value) (fT fU fN fA fI : Addr) (dT dU dN dA dI : FuncData) : Prop where
  A : Fun K "are_numbers" "are_numbers" sNums fA dA
  bA : Binds K dA ["value", "fewest", "most", "limit"] []
  gA : mg "are_numbers" = some (.ref fA)
  T : Fun K "is_tuple_of" "is_tuple_of" sTupOf fT dT
  bT : Binds K dT ["value", "fewest", "most"] []
  gT : mg "is_tuple_of" = some (.ref fT)
  U : Fun K "is_number_up_to" "is_number_up_to" sUpTo fU dU
  bU : Binds K dU ["value", "most"] []
  gU : mg "is_number_up_to" = some (.ref fU)
  N : Fun K "is_number" "is_number" sIsNum fN dN
  bN : Binds K dN ["value"] []
  gN : mg "is_number" = some (.ref fN)
  I : Fun K "is_collection" "is_collection" sIsCol fI dI
  bI : Binds K dI ["kinds", "value"] []
  gI : mg "is_collection" = some (.ref fI)
  mX : ∃ tk, mg "MAX_COLLECTIONS" = some (.int 4 tk)
  mC : ∃ tk, mg "MAX_COUNT" = some (.int 50 tk)
  m_isinstance : mg "isinstance" = none
  m_int : mg "int" = none
  m_bool : mg "bool" = none
  m_tuple : mg "tuple" = none
  m_len : mg "len" = none
  m_all : mg "all" = none
  m_sum : mg "sum" = none
section
variable {P : Program} {w : World} {K : PySem.W.Frag} {mg : Str → Option Value} {base : Heap}
abbrev rSumT (K : PySem.W.Frag) : List V → Hp → VK → Prop := fun vs H Q => ∃ (a : Addr) (ns : List Int), vs = [V.ref a] ∧ SqT K H a (ns.map V.int) ∧ Q (.int ns.sum) H
def spCol : Sp := fun vs H Q _ => ∃ (k : Int) (v : V) (d : PyData), vs = [.int k, v] ∧ Dq H v d ∧ lenD d ≤ 1000 ∧ ∀ H', Same H H' → Q (.bl (colOk k d)) H'
theorem ok_col {fT fU fN fA fI : Addr} {dT dU dN dA dI : FuncData} {k : Nat} (T : CoTx K mg fT fU fN fA fI dT dU dN dA dI) : FnOk P w K mg base CX0 (k + 4) fI dI ["kinds", "value"] spCol := by
  have GA : FnOk P w K mg base CX0 (k + 3) fA dA ["value", "fewest", "most", "limit"] spNums := ok_nums T.A T.T T.bT T.gT T.U T.bU T.gU T.N T.bN T.gN T.m_isinstance T.m_int T.m_bool T.m_tuple T.m_len T.m_all
  obtain ⟨tkC, hC⟩ := T.mC
  refine T.I.ok scIsCol (fun vs H Q E h => ?_) (fun cdv A outer s H vs Q E hr h => ?_)
  · obtain ⟨k, v, d, rfl, _⟩ := h
    rfl
  · obtain ⟨k, v, d, rfl, hd, hl, q⟩ := h
    refine ⟨_, pss_one (ps_ret (pe_and (pe_call GA (hr.mono (by omega)) (by rfl) T.gA T.A.kp T.bA .nil pass0 (pa_cons (pv 1) (pa_cons (pv 0) (pa_cons (pv 0) (pa_cons (pe_glob (v := .int 50) rfl hC ⟨_, rfl⟩) pa_nil))))) (pe_one (pe_cmpR op_gt (pe_callB (show CallR _ _ (rSumT K) from cr_sumT rfl) (by rfl) T.m_sum (by decide +kernel) (pa_cons (pv 1) pa_nil)) pe_int (nomark _))))), ?_⟩
    refine ⟨v, rfl, .int k, rfl, .int k, rfl, v, d, k, k, 50, rfl, hd, hl, fun H1 s1 => ⟨_, rfl, iteE (fun e => ?_) (fun e => ?_)⟩⟩
    · cases hd with
      | @tup p xs ds hp hs =>
        have e2 := e
        rw [Bool.and_eq_true] at e2
        obtain ⟨ns, rfl, rfl, hb⟩ := ints_dq hs e2.2
        refine ⟨.ref p, rfl, p, ns, rfl, SqT.of (s1 _ _ hp), ns.sum, 0, rfl, rfl, ?_⟩
        have := q H1 s1
        unfold colOk at this
        rw [e, Bool.true_and, sumD_ints] at this
        exact this
      | _ => exact nomatch (show false = true from e)
    · have := q H1 s1
      unfold colOk at this
      rw [e, Bool.false_and] at this
      exact this
def spAre : Sp := fun vs H Q _ => ∃ (k : Int) (v : V) (d : PyData), vs = [.int k, v] ∧ Dq H v d ∧ Slim d ∧ ∀ H', Same H H' → Q (.bl (areOk k d)) H'
theorem ok_are {f fT fU fN fA fI : Addr} {fd dT dU dN dA dI : FuncData} {k : Nat} (F : Fun K "are_collections" "are_collections" sAre f fd) (T : CoTx K mg fT fU fN fA fI dT dU dN dA dI) : FnOk P w K mg base CX0 (k + 5) f fd ["kinds", "value"] spAre := by
  have GT : FnOk P w K mg base CX0 (k + 1) fT dT ["value", "fewest", "most"] (spTupOf K) := ok_tupof T.T T.m_isinstance T.m_tuple T.m_len
  have GI : FnOk P w K mg base CX0 (k + 4) fI dI ["kinds", "value"] spCol := ok_col T
  obtain ⟨tkX, hX⟩ := T.mX
  refine F.ok scAre (fun vs H Q E h => ?_) (fun cdv A outer s H vs Q E hr h => ?_)
  · obtain ⟨k, v, d, rfl, _⟩ := h
    rfl
  · obtain ⟨k, v, d, rfl, hd, hl, q⟩ := h
    refine ⟨_, (pss_cons (ps_if (pt_not (pt_val (pe_call GT (hr.mono (by omega)) (by rfl) T.gT T.T.kp T.bT .nil pass0 (pa_cons (pv 1) (pa_cons pe_int (pa_cons (pe_glob (v := .int 4) rfl hX ⟨_, rfl⟩) pa_nil)))))) (pss_one (ps_ret pe_bl)) pss_nil)
      (pss_one (ps_ret (pe_callB (cr_all rfl) (by rfl) T.m_all (by decide +kernel) (pa_cons (pe_lc (own := [("collection", 2)]) (g := gName 2) rfl scAre.nd (pi_tup (pv 1)) (blkOk_by (own := [("collection", 2)]) (N := NA) (sc := defScope sAre) (by decide +kernel)) (fun _ _ _ _ _ => (pg_name (i := 2) scAre.nd rfl (Or.inl rfl))) (fun _ _ _ _ _ => pts_nil) (fun _ _ _ _ _ => (pe_call GI (hr.mono (by omega)) (by rfl) T.gI T.I.kp T.bI .nil pass0 (pa_cons (pv 0) (pa_cons (pv 2) pa_nil))))) pa_nil))))), ?_⟩
    refine ⟨v, rfl, v, d, 1, 4, rfl, hd, _, rfl, iteE (fun e => ?_) (fun e => ?_)⟩
    · have := q H (Same.refl _)
      have e' : (isTup d && (decide ((1 : Int) ≤ (lenD d : Int)) && decide ((lenD d : Int) ≤ 4))) = false := by rw [Bool.not_eq_true'] at e; exact e
      unfold areOk at this
      rw [e', Bool.false_and] at this
      exact this
    · have e' : (isTup d && (decide ((1 : Int) ≤ (lenD d : Int)) && decide ((lenD d : Int) ≤ 4))) = true := by rw [Bool.not_eq_false'] at e; exact e
      cases hd with
      | @tup p xs ds hp hs =>
        refine ⟨.ref p, rfl, p, rfl, ⟨_, SqT.of hp⟩, fun D nD => ?_⟩
        refine lc_tup (xs := xs) (fun i H' => H' D = some (.lst ((ds.take i).map fun d => V.bl (colOk k d))) ∧ Same H H') ⟨upd_same, same_new nD⟩ (fun i H' _ h => SqT.of (h.2 _ _ hp)) (fun i x H' hx h => ?_) (fun H' h => ?_)
        · obtain ⟨hD, sm⟩ := h
          obtain ⟨e1, he, hde⟩ := hs.get hx
          refine ⟨rfl, .int k, rfl, x, rfl, k, x, e1, rfl, Dq.same sm e1 x hde, hl.2 ds rfl e1 (List.mem_of_getElem? he), fun H2 s2 => ⟨_, s2 _ _ hD, ?_, ?_, fun b' o e' => ?_⟩⟩
          · rw [List.length_map, List.length_take]
            have hl' : ds.length ≤ 1000 := hl.1
            exact len_lt (by omega)
          · rw [upd_same, take_succ_map he]
          · rw [upd_ne (ne_of_none e' nD)]
            exact s2 _ _ (sm b' o e')
        · obtain ⟨hD, sm⟩ := h
          rw [hs.len, List.take_length] at hD
          refine ⟨D, ds.map (colOk k), rfl, ?_, ?_⟩
          · rw [List.map_map]
            exact SqL.of hD
          · have e2 : (ds.map (colOk k)).all id = ds.all (colOk k) := by rw [List.all_map]; rfl
            rw [e2]
            have := q H' sm
            unfold areOk at this
            rw [e', Bool.true_and] at this
            exact this
      | _ => exact nomatch (show false = true from e')
def spRight : Sp := fun vs H Q _ => ∃ (k : Int) (v : V) (d : PyData), vs = [.int k, v] ∧ 1 ≤ k ∧ Dq H v d ∧ Slim d ∧ ∀ H', Same H H' → Q (.bl (areOk k d)) H'
theorem ok_right {f fN : Addr} {fd fdN : FuncData} {k : Nat} (F : Fun K "_law_are_right" "_law_are_right" sRight f fd) (FN : Fun K "_law_is_number" "_law_is_number" sLNum fN fdN) (bN : Binds K fdN ["_law_value", "_law_low", "_law_high"] []) (gN : mg "_law_is_number" = some (.ref fN))
    (mI : mg "isinstance" = none) (mi : mg "int" = none) (mb : mg "bool" = none) (mt : mg "tuple" = none) (ml : mg "len" = none) (mx : mg "max" = none) :
    FnOk P w K mg base CX0 (k + 2) f fd ["_law_kinds", "_law_value"] spRight := by
  have GN : FnOk P w K mg base CX0 (k + 1) fN fdN ["_law_value", "_law_low", "_law_high"] spLNum := ok_lnum FN mI mi mb
  refine F.ok scRight (fun vs H Q E h => ?_) (fun cdv A outer s H vs Q E hr h => ?_)
  · obtain ⟨k, v, d, rfl, _⟩ := h
    rfl
  · obtain ⟨k, v, d, rfl, hk, hd, hl, q⟩ := h
    refine ⟨_, (pss_cons (ps_if (PW.pt (pw_or (pt_not (pt_val (pe_callB (show CallR _ _ (rIsi K) from call_isi) (by rfl) mI (by decide +kernel) (pa_cons (pv 1) (pa_cons (pe_bltn (v := .ty "tuple") (by rfl) mt (by decide +kernel) rfl) pa_nil))))) (pw_or (pt_cmpR op_lt (pe_callB call_len_seq (by rfl) ml PySem.boot_len (pa_cons (pv 1) pa_nil)) pe_int (nomark _)) (pw_or1 (pt_cmpR op_gt (pe_callB call_len_seq (by rfl) ml PySem.boot_len (pa_cons (pv 1) pa_nil)) pe_int (nomark _)))))) (pss_one (ps_ret pe_bl)) pss_nil)
      (pss_cons (ps_for PassesOwn.never rfl (pi_tup (pv 1)) (pg_name (i := 2) scRight.nd rfl (Or.inl rfl)) (pss_cons (ps_if (PW.pt (pw_or (pt_not (pt_val (pe_callB (show CallR _ _ (rIsi K) from call_isi) (by rfl) mI (by decide +kernel) (pa_cons (pv 2) (pa_cons (pe_bltn (v := .ty "tuple") (by rfl) mt (by decide +kernel) rfl) pa_nil))))) (pw_or1 (pt_cmpR op_ne (pe_callB call_len_seq (by rfl) ml PySem.boot_len (pa_cons (pv 2) pa_nil)) (pv 0) (nomark _))))) (pss_one (ps_ret pe_bl)) pss_nil)
      (pss_one (ps_if (PW.pt (pw_or (pt_cmpR (op_neE hr.units) (pe_lc (own := [("_law_one", 3)]) (g := gName 3) rfl scRight.nd (pi_tup (pv 2)) (blkOk_by (own := [("_law_one", 3)]) (N := NE) (sc := defScope sRight) (by decide +kernel)) (fun _ _ _ _ _ => (pg_name (i := 3) scRight.nd rfl (Or.inl rfl))) (fun _ _ _ _ _ => pts_one (pt_not (pt_val (pe_call GN hr (by rfl) gN FN.kp bN .nil pass0 (pa_cons (pv 3) (pa_cons pe_int (pa_cons pe_int pa_nil))))))) (fun _ _ _ _ _ => (pv 3))) (pe_lst pa_nil) (nomark _)) (pw_or1 (pt_cmpR op_eq (pe_callB (show CallR _ _ (rMaxT K) from cr_maxT rfl) (by rfl) mx (by decide +kernel) (pa_cons (pv 2) pa_nil)) pe_int (nomark _))))) (pss_one (ps_ret pe_bl)) pss_nil))))
      (pss_one (ps_ret pe_bl)))), ?_⟩
    obtain ⟨T, t, kT, kI, kB⟩ := dq_ty (K := K) hd
    refine ⟨v, rfl, _, _, _, _, _, rfl, .ty _, t, kT, _, rfl, iteE (fun e0 => ?_) (fun e0 => ?_)⟩
    · have e0' : isTup d = false := by simpa using e0
      have := q H (Same.refl _)
      unfold areOk at this
      rw [e0', Bool.false_and, Bool.false_and] at this
      exact iteT this
    · have hit : isTup d = true := by simpa using e0
      cases hd with
      | @tup p xs ds hp hs =>
        have hlen := hs.len
        have out : ¬ (1 ≤ ds.length ∧ ds.length ≤ 4) → Q (.bl false) H := fun h => by
          have := q H (Same.refl _)
          unfold areOk at this
          have e : (decide ((1 : Int) ≤ (lenD (.tuple ds) : Int)) && decide ((lenD (.tuple ds) : Int) ≤ 4)) = false := by
            rw [Bool.and_eq_false_iff, decide_eq_false_iff_not, decide_eq_false_iff_not]
            show ¬ (1 : Int) ≤ (ds.length : Nat) ∨ ¬ ((ds.length : Nat) : Int) ≤ 4
            omega
          rw [e, Bool.and_false, Bool.false_and] at this
          exact this
        refine ⟨_, rfl, p, xs, rfl, .inr (SqT.of hp), _, _, rfl, rfl, _, rfl, iteE (fun e1 => ?_) (fun e1 => ?_)⟩
        · have e1 : (xs.length : Int) < 1 := of_decide_eq_true e1
          exact iteT (out (by omega))
        · have e1 : ¬ (xs.length : Int) < 1 := of_decide_eq_false e1
          refine ⟨_, rfl, p, xs, rfl, .inr (SqT.of hp), _, _, rfl, rfl, _, rfl, iteE (fun e2 => ?_) (fun e2 => ?_)⟩
          · have e2 : (4 : Int) < xs.length := of_decide_eq_true e2
            exact out (by omega)
          · have e2 : ¬ (4 : Int) < xs.length := of_decide_eq_false e2
            have hok : ∀ H', Same H H' → Q (.bl (ds.all (colOk k))) H' := fun H' sm => by
              have := q H' sm
              unfold areOk at this
              have e : (decide ((1 : Int) ≤ (lenD (.tuple ds) : Int)) && decide ((lenD (.tuple ds) : Int) ≤ 4)) = true := by
                rw [Bool.and_eq_true, decide_eq_true_eq, decide_eq_true_eq]
                show (1 : Int) ≤ (ds.length : Nat) ∧ ((ds.length : Nat) : Int) ≤ 4
                omega
              rw [e, Bool.and_true] at this
              exact this
            refine ⟨.ref p, rfl, p, rfl, ⟨_, SqT.of hp⟩, ?_⟩
            refine for_it (walk_tup (xs := xs)) (fun i σ H2 => ∃ y2 y3, σ = [some (.int k), some (.ref p), y2, y3] ∧ Same H H2 ∧ ∀ x ∈ ds.take i, colOk k x = true) ⟨none, none, rfl, Same.refl _, fun x hx => by simp at hx⟩
              (fun i σ H2 _ h => by obtain ⟨_, _, _, s2, _⟩ := h; exact SqT.of (s2 _ _ hp)) (fun i x σ H2 H3 hi h y => ?_) (fun σ H2 h => ?_)
            · obtain ⟨y2, y3, rfl, s2, good⟩ := h
              obtain ⟨rfl, hx⟩ := y
              obtain ⟨d, hdd, hdx⟩ := hs.get hx
              have hdx3 := Dq.same s2 d x hdx
              have bad : colOk k d = false → ∀ {H4 : Hp}, Same H3 H4 → Q (.bl false) H4 := fun hb2 H4 s4 => by
                have := hok H4 (s2.trans s4)
                have e : ds.all (colOk k) = false := List.all_eq_false.mpr ⟨d, List.mem_of_getElem? hdd, by rw [hb2]; exact Bool.false_ne_true⟩
                rw [e] at this
                exact this
              obtain ⟨T2, t2, kT2, _, _⟩ := dq_ty (K := K) hdx3
              refine ⟨_, rfl, _, _, _, _, _, rfl, .ty _, t2, kT2, _, rfl, iteE (fun f0 => ?_) (fun f0 => ?_)⟩
              · refine iteT (bad ?_ (Same.refl _))
                have : isTup d = false := by simpa using f0
                unfold colOk
                rw [this]
                rfl
              · have hit : isTup d = true := by simpa using f0
                cases hdx3 with
                | @tup pr rs es hpr hes =>
                  have hel := hes.len
                  have hls : es.length ≤ 1000 := hl.2 ds rfl (.tuple es) (List.mem_of_getElem? hdd)
                  refine ⟨_, rfl, pr, rs, rfl, .inr (SqT.of hpr), .int k, rfl, rfl, _, rfl, iteE (fun f1 => ?_) (fun f1 => ?_)⟩
                  · refine bad ?_ (Same.refl _)
                    have hne : (rs.length : Int) ≠ k := fun z => by
                      rw [decide_eq_true (by rw [z])] at f1
                      simp at f1
                    unfold colOk
                    have e : (decide (k ≤ (lenD (.tuple es) : Int)) && decide ((lenD (.tuple es) : Int) ≤ k)) = false := by
                      rw [Bool.and_eq_false_iff, decide_eq_false_iff_not, decide_eq_false_iff_not]
                      show ¬ k ≤ (es.length : Nat) ∨ ¬ ((es.length : Nat) : Int) ≤ k
                      omega
                    rw [e, Bool.and_false, Bool.false_and, Bool.false_and]
                  · have heq : (rs.length : Int) = k := by
                      by_cases z : V.int (rs.length : Nat) = V.int k
                      · exact V.int.inj z
                      · rw [decide_eq_false z] at f1
                        simp at f1
                    -- the numbers
                    refine ⟨_, rfl, pr, rfl, ⟨_, SqT.of hpr⟩, fun D nD => ?_⟩
                    refine lc_tup (xs := rs) (fun j H4 => ∃ ys, H4 D = some (.lst ys) ∧ ys.length ≤ j ∧ (ys.isEmpty = (es.take j).all (numOk 50)) ∧ Same H3 H4) ⟨[], upd_same, Nat.le_refl _, rfl, same_new nD⟩ (fun j H4 _ h => by obtain ⟨_, _, _, _, z⟩ := h; exact SqT.of (z _ _ hpr)) (fun j y H4 hy h => ?_) (fun H4 h => ?_)
                    · obtain ⟨ys, hD, hyl, hye, s4⟩ := h
                      obtain ⟨e, he, hde⟩ := hes.get hy
                      have hjl : j < rs.length := (List.getElem?_eq_some_iff.mp hy).1
                      have step : (es.take (j + 1)).all (numOk 50) = ((es.take j).all (numOk 50) && numOk 50 e) := by
                        rw [List.take_add_one, he, List.all_append]
                        simp
                      refine ⟨rfl, _, rfl, y, e, 50, rfl, Dq.same s4 e y hde, _, rfl, iteE (fun g0 => ?_) (fun g0 => ?_)⟩
                      · refine ⟨_, rfl, _, hD, len_lt (by omega), ys ++ [y], upd_same, by rw [List.length_append]; show _ + 1 ≤ _; omega, ?_, fun b o e' => ?_⟩
                        · have : numOk 50 e = false := by simpa using g0
                          rw [step, this, Bool.and_false]
                          simp
                        · rw [upd_ne (ne_of_none e' nD)]
                          exact s4 b o e'
                      · refine ⟨ys, hD, by omega, ?_, s4⟩
                        have : numOk 50 e = true := by simpa using g0
                        rw [step, this, Bool.and_true]
                        exact hye
                    · obtain ⟨ys, hD, hyl, hye, s4⟩ := h
                      rw [hel, List.take_length] at hye
                      refine ⟨Nat.zero_le _, fun z nz => ?_⟩
                      have nDz : D ≠ z := ne_of_none hD nz
                      have s5 : Same H3 (upd H4 z (.lst [])) := s4.trans (same_new nz)
                      refine ⟨D, z, ys, rfl, rfl, (by rw [upd_ne nDz]; exact hD), upd_same, _, rfl, iteE (fun g0 => ?_) (fun g0 => ?_)⟩
                      · have h1 : ys.isEmpty = false := by simpa using g0
                        refine bad ?_ s5
                        unfold colOk
                        have e : allOk 50 (.tuple es) = false := hye.symm.trans h1
                        rw [e, Bool.and_false, Bool.false_and]
                      · have h1 : ys.isEmpty = true := by simpa using g0
                        have hall : es.all (numOk 50) = true := hye.symm.trans h1
                        obtain ⟨ns, rfl, rfl, hb⟩ := ints_dq hes hall
                        rw [List.length_map] at heq
                        refine ⟨.ref pr, rfl, pr, ns, rfl, SqT.of (s5 _ _ hpr), by omega, fun m hm hml => ⟨rfl, _, rfl, ?_⟩⟩
                        rw [max_sum (fun x hx => (hb x hx).1) hm hml]
                        have hco : colOk k (.tuple (ns.map PyData.int)) = decide (ns.sum > 0) := by
                          rw [colOk_of, hall, decide_eq_true (show k ≤ (ns.length : Int) by omega), decide_eq_true (show (ns.length : Int) ≤ k by omega)]
                          rfl
                        refine iteE (fun g1 => ?_) (fun g1 => ?_)
                        · refine bad ?_ s5
                          rw [hco]
                          simpa using g1
                        · refine ⟨_, _, rfl, s2.trans s5, fun x hx => ?_⟩
                          rw [List.take_add_one, hdd] at hx
                          rcases List.mem_append.mp hx with h | h
                          · exact good x h
                          · rw [List.mem_singleton.mp h, hco]
                            simpa using g1
                | _ => exact Bool.noConfusion (show false = true from hit)
            · obtain ⟨y2, y3, rfl, s2, good⟩ := h
              rw [hlen, List.take_length] at good
              have := hok H2 s2
              rw [List.all_eq_true.mpr good] at this
              exact this
      | _ => exact Bool.noConfusion (show false = true from hit)
end
end DD
namespace DD
open PySem PySem.Spec PyProof.Rows L2
theorem gd_bool (b : Bool) : Gd (.bool b) := by cases b <;> exact ⟨by decide +kernel, by decide +kernel, by rw [sizeLine_eq]; decide +kernel, fun z => by cases z⟩
theorem tw_ok {x : Int} (h0 : 0 ≤ x) (h : x ≤ 900) : Bd 13 0 (tw x) ∧ Pl (tw x) ∧ lenD (tw x) = 0 := by
  unfold tw
  split
  · exact ⟨(bd_bool _).up (by decide) (by decide), ⟨rfl, rfl⟩, rfl⟩
  · exact ⟨bd_int h0 (by omega), pl_int _, rfl⟩
theorem val_twin {rows : List (List Int)} (ok : RowsOk rows) : Val (twD rows) := by
  have one : ∀ r ∈ rows, Bd 56 1 (.tuple (r.map tw)) ∧ Pl (.tuple (r.map tw)) ∧ lenD (.tuple (r.map tw)) ≤ 4 := fun r hr => by
    obtain ⟨l1, l4, h⟩ := ok.row r hr
    refine ⟨(Bd.tup (w := 13) (k := 0) (n := 4) (fun d hd => ?_) (by rw [List.length_map]; exact l4)).up (by decide) (by decide), nx_pl fun y hy => ?_, by show (r.map tw).length ≤ 4; rw [List.length_map]; exact l4⟩
    · obtain ⟨x, hx, rfl⟩ := List.mem_map.mp hd
      exact (tw_ok (h x hx).1 (h x hx).2).1
    · obtain ⟨x, hx, rfl⟩ := List.mem_map.mp hy
      exact (tw_ok (h x hx).1 (h x hx).2).2.1
  refine ⟨(Bd.tup (w := 56) (k := 1) (n := 4) (fun d hd => ?_) (by rw [List.length_map]; exact ok.n4)).up (by decide) (by decide), (nx_pl fun y hy => ?_).nx, slim_tup ?_ fun y hy => ?_⟩
  · obtain ⟨r, hr, rfl⟩ := List.mem_map.mp hd
    exact (one r hr).1
  · obtain ⟨r, hr, rfl⟩ := List.mem_map.mp hy
    exact (one r hr).2.1
  · rw [List.length_map]
    have := ok.n4
    omega
  · obtain ⟨r, hr, rfl⟩ := List.mem_map.mp hy
    have := (one r hr).2.2
    omega
theorem three_of {a b c : Int} {r : Int} (h0 : 0 ≤ r) (h : r < 3) : ∃ z : Int, (z = a ∨ z = b ∨ z = c) ∧ atI [V.int a, V.int b, V.int c] r = some (.int z) := by
  have e : r = 0 ∨ r = 1 ∨ r = 2 := by omega
  rcases e with rfl | rfl | rfl
  · exact ⟨a, .inl rfl, rfl⟩
  · exact ⟨b, .inr (.inl rfl), rfl⟩
  · exact ⟨c, .inr (.inr rfl), rfl⟩
theorem LX.of_deck {dk c : Addr} {H : Hp} {B : Nat} (d : Deck H dk c B) : LX (fun b => b = dk ∨ b = c) dk c H := ⟨.inl rfl, .inr rfl, fun a x => by
  obtain ⟨ns, t, h1, h2, _⟩ := d.ex
  rcases x with rfl | rfl
  · exact ⟨_, h1⟩
  · exact ⟨_, h2⟩⟩
theorem wo_updX {X : Addr → Prop} {H : Hp} {D : Addr} {o : HO} (h : X D) : Same (Wo X H) (Wo X (upd H D o)) := fun b x e => by
  obtain ⟨e1, n1⟩ := wo_some e
  exact wo_of (by rw [upd_ne (fun z => n1 (by rw [z]; exact h))]; exact e1) n1

open PySem.SeqAt PySem.MeetsSeq PySem.MeetsSeq2 PySem.MeetsSeq3 in
open PySem.AutoSeq1 (wpAny_loadPart') in
theorem meets_mulZ (l : Addr) (items : Array Value) (n : Nat) (dd : Option Addr) (sl : Array (Option Value)) (x : Int) (u : Tok) (c0 : (decide (x < -(2 ^ 63)) || decide (x ≥ 2 ^ 63)) = false) (c1 : (items.isEmpty || x == 1) = false) (c2 : (decide (x ≤ 0) || items.isEmpty) = true) :
    Meets (Builtin.«tuple.__mul__» ⟨[.ref l, .int x u], []⟩) (fun _ R s => s.heap.get? l = some { cls := .type "tuple", dict := dd, data := .seq items n, slots := sl } ∧
      R (.ok (.ret (Value.ref s.heap.objs.size))) { s with heap := s.heap.push { cls := Value.type "tuple", data := Data.seq #[] }, toks := s.toks }) :=
  .of_wp fun prog w A R s h => by
    obtain ⟨hp, g, d, tk, os⟩ := s
    obtain ⟨hl, h⟩ := h
    have f1 := AutoSeq1.idx_int
    wp_walk using wpAny_loadPart' hl
    repeat (first
      | (refine wpAny_ite_false (decide_eq_false (by rw [c0]; exact Bool.false_ne_true)) ?_; wp_walk using wpAny_loadPart' hl)
      | (refine wpAny_ite_false (decide_eq_false (by rw [c1]; exact Bool.false_ne_true)) ?_; wp_walk using wpAny_loadPart' hl)
      | (refine wpAny_ite_true (decide_eq_true (by rw [c2])) ?_; wp_walk using wpAny_loadPart' hl))
    exact ⟨_, rfl, h⟩
def rRepZ : R2 := fun x y H Q => ∃ l k xs, x = .ref l ∧ y = .int k ∧ H l = some (.tup xs) ∧ xs ≠ [] ∧ 0 ≤ k ∧ k ≤ 1000 ∧ xs.length ≤ 1000 ∧ ∀ p H', Same H H' → H' p = some (.tup (List.replicate k.toNat xs).flatten) → Q (.ref p) H'
theorem op_repZ {X : Cx} : OpR X (binaryOp .Mult) rRepZ := by
  intro pins s σ H x y v u Q I rx ry h
  obtain ⟨l, k, xs, rfl, rfl, hl, hx, k1, k2, hn, q⟩ := h
  by_cases hk : 1 ≤ k
  · exact op_repQ pins s σ H _ _ v u Q I rx ry ⟨l, k, xs, rfl, rfl, hl, hx, hk, k2, hn, q⟩
  · obtain rfl : k = 0 := by omega
    cases rx
    obtain ⟨t, rfl⟩ := ry
    obtain ⟨its, rv, ⟨o, h1, h2, n, h3⟩, hz⟩ := I.tuple (SqT.of (K := X.K) hl)
    obtain ⟨oc, od, oda, osl⟩ := o
    simp only at h2 h3
    subst h2 h3
    have he : its.toArray.isEmpty = false := by
      cases rv with
      | nil => exact absurd rfl hx
      | cons _ _ => rfl
    refine wpAny_binaryOp_repeat_ref (T := "tuple") (U := "int") (by decide) ⟨_, h1, rfl⟩ (fun s' => typeIs_int s' _ _) noFill_tuple_mul F.fills_int_mul F.slot_int_rmul repeat_tuple (F.slot_int_index.lookup) ?_
    refine call_meets F.slot_int_rmul (typeIs_int _ _ _) F.entry_int_rmul (F.args_int_rmul_2 _ _) (int_rmul_tuple _ _ _ _ _ _ _) ⟨h1, rfl, ⟨_, h1, rfl⟩, ?_⟩
    refine call_meets F.slot_tuple_mul ⟨_, h1, rfl⟩ F.entry_tuple_mul (F.args_tuple_mul_2 _ _) (meets_mulZ l its.toArray n od osl 0 t (by decide) (by rw [he]; rfl) (by rfl)) ⟨h1, ?_⟩
    refine ⟨.ref s.heap.objs.size, _, I.laid (t' := s.toks) (o := .tup []) (fun b ob q => Heap.get?_push_of_some _ q) (Nat.le_refl _) ?_, rfl, q _ _ (same_new (I.hok.fresh (Nat.le_refl _))) upd_same⟩
    exact ⟨Nat.zero_le _, [], .nil, ⟨_, Heap.get?_push_size _ rfl, rfl, _, rfl⟩⟩
theorem lit_repZ {X : Addr → Prop} {dk c : Addr} {σ : L2.St} {H0 : Hp} {ta tb : TE} {ds : List PyData} {n : Int} (hX : LX X dk c H0) (a : Lit X σ H0 ta (.tuple ds)) (b : Lit X σ H0 tb (.int n)) (h0 : ds ≠ []) (hl : ds.length ≤ 1000) (hn : 0 ≤ n) (hn2 : n ≤ 1000) :
    Lit X σ H0 (tOp rRepZ ta tb) (.tuple (List.replicate n.toNat ds).flatten) :=
  fun H Q s k => a H _ s fun v H1 s1 q1 => b H1 _ (s.trans s1) fun u H2 s2 q2 => by
    have q1 := Dq.same (wo_same s2) _ _ q1
    cases q1 with
    | @tup p xs _ hp hs =>
      cases q2
      refine ⟨p, n, xs, rfl, rfl, (wo_some hp).1, ?_, hn, hn2, by rw [hs.len]; exact hl, fun p3 H3 s3 h3 => ?_⟩
      · intro z
        subst z
        cases hs
        exact h0 rfl
      · have m1 := tup_ne hX (s.trans (s1.trans (s2.trans s3))) h3
        exact k _ _ (s1.trans (s2.trans s3)) (.tup (wo_of h3 m1) ((DqAll.same (wo_same s3) _ _ hs).rep _))
theorem lit_sub {X : Addr → Prop} {σ : L2.St} {H0 : Hp} {i j : Int} {ta tb : TE} (a : Lit X σ H0 ta (.int i)) (b : Lit X σ H0 tb (.int j)) : Lit X σ H0 (tOp (rI0 fun i j => V.int (i - j)) ta tb) (.int (i - j)) :=
  fun H Q s k => a H _ s fun v H1 s1 q1 => b H1 _ (s.trans s1) fun u H2 s2 q2 => by
    cases q1
    cases q2
    exact ⟨_, _, rfl, rfl, k _ _ (s1.trans s2) (.int _)⟩
theorem wo_mono {X Y : Addr → Prop} {H : Hp} (h : ∀ b, Y b → X b) : Same (Wo X H) (Wo Y H) := fun b o e => by
  obtain ⟨e1, n1⟩ := wo_some e
  exact wo_of e1 fun y => n1 (h b y)
abbrev NL : List Str := ["_law_script", "_law_deck_here", "_law_turn", "_law_kinds", "_law_wishes_here", "_law_values", "_law_value", "_law_many", "_law_before", "_law_due", "_law_k", "_law_again"]
theorem scLaw : FnScope NL ["_law_script"] (defScope sLaw) := ⟨rfl, rfl, rfl, by decide +kernel, rfl, by decide +kernel, by decide +kernel⟩
structure Tx (K : PySem.W.Frag) (mg : Str → Option Value) (fN fU fT fA fR fI fDk fD fQ fC fW fO fV fG fH : Addr) (dN dU dT dA dR dI dDk dD dQ dC dW dO dV dG dH : FuncData) : Prop where
  N : Fun K "is_number" "is_number" sIsNum fN dN
  bN : Binds K dN ["value"] []
  gN : mg "is_number" = some (.ref fN)
  U : Fun K "is_number_up_to" "is_number_up_to" sUpTo fU dU
  bU : Binds K dU ["value", "most"] []
  gU : mg "is_number_up_to" = some (.ref fU)
  T : Fun K "is_tuple_of" "is_tuple_of" sTupOf fT dT
  bT : Binds K dT ["value", "fewest", "most"] []
  gT : mg "is_tuple_of" = some (.ref fT)
  A : Fun K "are_numbers" "are_numbers" sNums fA dA
  bA : Binds K dA ["value", "fewest", "most", "limit"] []
  gA : mg "are_numbers" = some (.ref fA)
  R : Fun K "are_collections" "are_collections" sAre fR dR
  bR : Binds K dR ["kinds", "value"] []
  gR : mg "are_collections" = some (.ref fR)
  I : Fun K "is_collection" "is_collection" sIsCol fI dI
  bI : Binds K dI ["kinds", "value"] []
  gI : mg "is_collection" = some (.ref fI)
  Dk : Fun K "_law_deck" "_law_deck" sDeck fDk dDk
  bDk : Binds K dDk ["_law_script"] []
  gDk : mg "_law_deck" = some (.ref fDk)
  D : Fun K "_law_draw" "_law_draw" sDraw fD dD
  bD : Binds K dD ["_law_deck_here", "_law_limit"] []
  gD : mg "_law_draw" = some (.ref fD)
  Q : Fun K "_law_is_number" "_law_is_number" sLNum fQ dQ
  bQ : Binds K dQ ["_law_value", "_law_low", "_law_high"] []
  gQ : mg "_law_is_number" = some (.ref fQ)
  C : Fun K "_law_counts" "_law_counts" sCounts fC dC
  bC : Binds K dC ["_law_deck_here", "_law_kinds", "_law_most"] []
  gC : mg "_law_counts" = some (.ref fC)
  W : Fun K "_law_wishes" "_law_wishes" sWishes fW dW
  bW : Binds K dW ["_law_deck_here", "_law_most", "_law_high", "_law_kinds"] []
  gW : mg "_law_wishes" = some (.ref fW)
  O : Fun K "_law_odd" "_law_odd" sOdd fO dO
  bO : Binds K dO ["_law_deck_here"] []
  gO : mg "_law_odd" = some (.ref fO)
  V : Fun K "_law_twin" "_law_twin" sTwin fV dV
  bV : Binds K dV ["_law_rows"] []
  gV : mg "_law_twin" = some (.ref fV)
  G : Fun K "_law_are_right" "_law_are_right" sRight fG dG
  bG : Binds K dG ["_law_kinds", "_law_value"] []
  gG : mg "_law_are_right" = some (.ref fG)
  H : Fun K "_law_changed" "_law_changed" sChanged fH dH
  bH : Binds K dH ["_law_deck_here", "_law_rows", "_law_high"] []
  gH : mg "_law_changed" = some (.ref fH)
  m_len : mg "len" = none
  m_tuple : mg "tuple" = none
  m_range : mg "range" = none
  m_abs : mg "abs" = none
  m_repr : mg "repr" = none
  m_max : mg "max" = none
  m_isinstance : mg "isinstance" = none
  m_int : mg "int" = none
  m_bool : mg "bool" = none
  m_all : mg "all" = none
  m_sum : mg "sum" = none
  m_list : mg "list" = none
  mX : ∃ tk, mg "MAX_COLLECTIONS" = some (.int 4 tk)
  mC : ∃ tk, mg "MAX_COUNT" = some (.int 50 tk)
section
variable {P : Program} {w : World} {K : PySem.W.Frag} {mg : Str → Option Value} {base : Heap}
def spLaw (K : PySem.W.Frag) : Sp := fun vs H Q _ => ∃ (a : Addr) (ns : List Int), vs = [.ref a] ∧ SqL K H a (ns.map V.int) ∧ ns.length ≤ 63 ∧ ∀ H', Q (.bl true) H'
set_option maxHeartbeats 1600000 in
theorem ok_law {f fN fU fT fA fR fI fDk fD fQ fC fW fO fV fG fH : Addr} {fd dN dU dT dA dR dI dDk dD dQ dC dW dO dV dG dH : FuncData} (F : Fun K "law" "law" sLaw f fd) (T : Tx K mg fN fU fT fA fR fI fDk fD fQ fC fW fO fV fG fH dN dU dT dA dR dI dDk dD dQ dC dW dO dV dG dH) :
    FnG P w K mg base 6 f fd ["_law_script"] (spLaw K) := by
  have CT : CoTx K mg fT fU fN fA fI dT dU dN dA dI := ⟨T.A, T.bA, T.gA, T.T, T.bT, T.gT, T.U, T.bU, T.gU, T.N, T.bN, T.gN, T.I, T.bI, T.gI, T.mX, T.mC, T.m_isinstance, T.m_int, T.m_bool, T.m_tuple, T.m_len, T.m_all, T.m_sum⟩
  have GD : FnOk P w K mg base CX0 1 fD dD ["_law_deck_here", "_law_limit"] spDraw := ok_draw T.D T.m_len
  have GDk : FnOk P w K mg base CX0 1 fDk dDk ["_law_script"] (spDeck K) := ok_deck T.Dk T.m_abs
  have GW : FnOk P w K mg base CX0 3 fW dW ["_law_deck_here", "_law_most", "_law_high", "_law_kinds"] spWishes := ok_wishes T.W T.D T.C T.bD T.gD T.bC T.gC T.m_len T.m_tuple T.m_range T.m_max
  have GR : FnOk P w K mg base CX0 5 fR dR ["kinds", "value"] spAre := ok_are T.R CT
  have GO : FnOk P w K mg base CX0 2 fO dO ["_law_deck_here"] spOdd := ok_odd T.O T.D T.bD T.gD T.m_len
  have GV : FnOk P w K mg base CX0 1 fV dV ["_law_rows"] spTwin := ok_twin T.V T.m_int T.m_tuple
  have GG : FnOk P w K mg base CX0 2 fG dG ["_law_kinds", "_law_value"] spRight := ok_right T.G T.Q T.bQ T.gQ T.m_isinstance T.m_int T.m_bool T.m_tuple T.m_len T.m_max
  have GH : FnOk P w K mg base CX0 3 fH dH ["_law_deck_here", "_law_rows", "_law_high"] spChanged := ok_changed T.H T.D T.bD T.gD T.O T.bO T.gO T.m_len T.m_list
  refine fnG_of F scLaw (fun vs H Q E h => ?_) (fun cdv A hgu outer s H vs Q E hr h => ?_)
  · obtain ⟨a, ns, rfl, _⟩ := h
    rfl
  · obtain ⟨a, ns, rfl, hS, hlen, q⟩ := h
    have hu : (A.deeper (envOfC "law" (defScope sLaw) s.heap.objs.size f cdv)).units + 66 < cLine := by
      have := hr.un
      omega
    refine ⟨_, (pss_cons (ps_set (i := 1) scLaw.nd rfl (.inr rfl) (pe_call GDk (hr.mono (by omega)) (by rfl) T.gDk T.Dk.kp T.bDk .nil pass0 (pa_cons (pv 0) pa_nil)))
      (pss_cons (ps_for PassesOwn.never rfl (pi_range1 (by rfl) T.m_range (pa_cons pe_int pa_nil)) (pg_name (i := 2) scLaw.nd rfl (Or.inl rfl)) (pss_cons (ps_set (i := 3) scLaw.nd rfl (.inl rfl) (pe_op op_add pe_int (pe_call GD (hr.mono (by omega)) (by rfl) T.gD T.D.kp T.bD .nil pass0 (pa_cons (pv 1) (pa_cons pe_int pa_nil)))))
      (pss_cons (ps_set (i := 4) scLaw.nd rfl (.inr rfl) (pe_call GW (hr.mono (by omega)) (by rfl) T.gW T.W.kp T.bW .nil pass0 (pa_cons (pv 1) (pa_cons pe_int (pa_cons (pe_ix (show IxR _ (rIxL K) from ix_list) (pe_lst (pa_cons pe_int (pa_cons pe_int (pa_cons pe_int pa_nil)))) (pe_op op_modN (pv 2) pe_int) (fun _ _ => rfl)) (pa_cons (pv 3) pa_nil))))))
      (pss_cons (ps_set (i := 5) scLaw.nd rfl (.inl rfl) (pe_lst (pa_cons (pv 4) (pa_cons (pe_call GV (hr.mono (by omega)) (by rfl) T.gV T.V.kp T.bV .nil pass0 (pa_cons (pv 4) pa_nil)) (pa_cons (pv 4) (pa_cons (pe_tup pa_nil) (pa_cons (pe_tup (pa_cons (pe_op op_repQ (pe_tup (pa_cons pe_int pa_nil)) (pv 3)) pa_nil)) (pa_cons (pe_tup (pa_cons (pe_op op_repQ (pe_tup (pa_cons pe_bl pa_nil)) (pv 3)) pa_nil)) (pa_cons (pe_tup (pa_cons (pe_op op_repQ (pe_tup (pa_cons pe_int pa_nil)) (pv 3)) pa_nil)) pa_nil)))))))))
      (pss_cons (ps_set (i := 5) scLaw.nd rfl (.inl rfl) (pe_op op_cat (pv 5) (pe_lst (pa_cons (pe_tup (pa_cons (pe_op op_repQ (pe_tup (pa_cons pe_int pa_nil)) (pv 3)) pa_nil)) (pa_cons (pe_op op_repQ (pe_tup (pa_cons (pe_op op_repQ (pe_tup (pa_cons pe_int pa_nil)) (pv 3)) pa_nil)) pe_int) (pa_cons (pe_op op_repQ (pe_tup (pa_cons (pe_op op_repQ (pe_tup (pa_cons pe_int pa_nil)) (pv 3)) pa_nil)) pe_int) (pa_cons (pe_tup (pa_cons (pe_op op_repQ (pe_tup (pa_cons pe_int pa_nil)) (pe_op op_add (pv 3) pe_int)) pa_nil)) pa_nil)))))))
      (pss_cons (ps_set (i := 5) scLaw.nd rfl (.inl rfl) (pe_op op_cat (pv 5) (pe_lst (pa_cons (pe_tup (pa_cons (pe_op op_repQ (pe_tup (pa_cons pe_int pa_nil)) (pv 3)) (pa_cons (pe_op op_rep (pe_lst (pa_cons pe_int pa_nil)) (pv 3)) pa_nil))) (pa_cons (pe_call GO (hr.mono (by omega)) (by rfl) T.gO T.O.kp T.bO .nil pass0 (pa_cons (pv 1) pa_nil)) (pa_cons (pe_tup (pa_cons (pe_op op_catQ (pe_op op_repZ (pe_tup (pa_cons pe_int pa_nil)) (pe_op op_sub (pv 3) pe_int)) (pe_tup (pa_cons pe_bl pa_nil))) pa_nil)) pa_nil))))))
      (pss_one (ps_for PassesOwn.never rfl (pi_list (pe_op op_cat (pv 5) (pe_lc (own := [("_law_k", 10)]) (g := gName 10) rfl scLaw.nd (pi_range1 (by rfl) T.m_range (pa_cons pe_int pa_nil)) (blkOk_by (own := [("_law_k", 10)]) (N := NL) (sc := defScope sLaw) (by decide +kernel)) (fun _ _ _ _ _ => (pg_name (i := 10) scLaw.nd rfl (Or.inl rfl))) (fun _ _ _ _ _ => pts_nil) (fun _ _ _ _ _ => (pe_call GH (hr.mono (by omega)) (by rfl) T.gH T.H.kp T.bH .nil pass0 (pa_cons (pv 1) (pa_cons (pv 4) (pa_cons pe_int pa_nil)))))))) (pg_name (i := 6) scLaw.nd rfl (Or.inr rfl)) (pss_one (ps_for PassesOwn.never rfl (pi_list (pe_lst (pa_cons (pv 3) (pa_cons (pe_op op_add pe_int (pe_call GD (hr.mono (by omega)) (by rfl) T.gD T.D.kp T.bD .nil pass0 (pa_cons (pv 1) (pa_cons pe_int pa_nil)))) pa_nil)))) (pg_name (i := 7) scLaw.nd rfl (Or.inr rfl)) (pss_cons (ps_par (i := 8) (j := 9) (by rfl) scLaw.nd rfl rfl (by decide) rfl rfl (pa_cons (pe_callB (call_reprQ hgu hu) (by rfl) T.m_repr (by decide +kernel) (pa_cons (pv 6) pa_nil)) (pa_cons (pe_callB (call_reprQ hgu hu) (by rfl) T.m_repr (by decide +kernel) (pa_cons (pe_call GG (hr.mono (by omega)) (by rfl) T.gG T.G.kp T.bG .nil pass0 (pa_cons (pv 7) (pa_cons (pv 6) pa_nil))) pa_nil)) pa_nil)) (by rfl))
      (pss_one (ps_if (PW.pt (pw_or (pt_cmpR (op_neD hr.units) (pe_lc (own := [("_law_again", 11)]) (g := gName 11) rfl scLaw.nd (pi_range1 (by rfl) T.m_range (pa_cons pe_int pa_nil)) (blkOk_by (own := [("_law_again", 11)]) (N := NL) (sc := defScope sLaw) (by decide +kernel)) (fun _ _ _ _ _ => (pg_name (i := 11) scLaw.nd rfl (Or.inl rfl))) (fun _ _ _ _ _ => pts_nil) (fun _ _ _ _ _ => (pe_callB (call_reprQ hgu hu) (by rfl) T.m_repr (by decide +kernel) (pa_cons (pe_call GR (hr.mono (by omega)) (by rfl) T.gR T.R.kp T.bR .nil pass0 (pa_cons (pv 7) (pa_cons (pv 6) pa_nil))) pa_nil)))) (pe_lst (pa_cons (pv 9) (pa_cons (pv 9) pa_nil))) (nomark _)) (pw_or1 (pt_cmpR op_ne (pe_callB (call_reprQ hgu hu) (by rfl) T.m_repr (by decide +kernel) (pa_cons (pv 6) pa_nil)) (pv 8) (nomark _))))) (pss_one (ps_ret pe_bl)) pss_nil)))))))))))))
      (pss_one (ps_ret pe_bl)))), ?_⟩
    refine ⟨_, rfl, a, ns, rfl, hS, hlen, fun dk c H1 sm1 ndk nc dek => ?_⟩
    refine ⟨8, rfl, by decide, by decide, ?_⟩
    refine for_range (lo := 0) (n := 8) (fun i σ H' => ∃ y2 y3 y4 y5 y6 y7 y8 y9 y10 y11, σ = [some (.ref a), some (.ref dk), y2, y3, y4, y5, y6, y7, y8, y9, y10, y11] ∧ Deck H' dk c (200 * i))
      ⟨none, none, none, none, none, none, none, none, none, none, rfl, dek⟩ (fun i σ Ha hi h => ?_) (fun σ Ha h => ?_)
    · obtain ⟨y2, y3, y4, y5, y6, y7, y8, y9, y10, y11, rfl, da⟩ := h
      refine ⟨_, rfl, dk, c, 200 * i, 4, rfl, da, by omega, by decide, by decide, fun r Hb r0 r1 kb db => ⟨1, r, rfl, rfl, ?_⟩⟩
      obtain ⟨n, rfl, hn4⟩ : ∃ n : Nat, r = (n : Int) ∧ (n = 0 ∨ n = 1 ∨ n = 2 ∨ n = 3) := ⟨r.toNat, by omega, by omega⟩
      clear r0 r1
      refine ⟨_, rfl, by show 3 ≤ sizeLine; decide, fun l nl => ?_⟩
      obtain ⟨z, hz, ez⟩ := three_of (a := 50) (b := 1) (c := 9) (Int.fmod_nonneg_of_pos ((0 : Int) + i) (show (0 : Int) < 3 by decide)) (Int.fmod_lt_of_pos ((0 : Int) + i) (show (0 : Int) < 3 by decide))
      refine ⟨_, rfl, (0 : Int) + i, 3, rfl, rfl, (by show (3 : Int) ≠ 0; decide), l, _, ((0 : Int) + i).fmod 3, .int z, rfl, rfl, SqL.of upd_same, ez, _, rfl, dk, c, 200 * i + 1, 4, 1 + n, z,
        rfl, db.kp nl, by decide, by decide, by omega, by omega, by omega, by omega, by omega, fun t ls rows Hc e1 e2 e3 st kc dc => ?_⟩
      have ok : RowsOk rows := ⟨e1, e2, fun r' hr' => ⟨by have := (e3 r' hr').len; omega, by have := (e3 r' hr').len; omega, fun x hx => ⟨((e3 r' hr').bd x hx).1, by have := ((e3 r' hr').bd x hx).2; omega⟩⟩⟩
      have hX := LX.of_deck dc
      -- _law_values = [..]
      refine ⟨_, rfl, _, rfl, _, dk, c, _, t, ls, rows, rfl, hX, dc, st, e2, fun r' hr' => ⟨(ok.row r' hr').2.1, fun x hx => ((ok.row r' hr').2.2 x hx).1⟩, fun tv Hd sd tq => ?_⟩
      have hXd := hX.same sd
      have std := st.same sd
      have stq := stock_dq hXd std
      have rep1 : ∀ (H0 : Hp) (hX0 : LX (fun b => b = dk ∨ b = c) dk c H0) (σ : L2.St) (v : V) (d : PyData) (hd : ∀ H, Dq H v d) (tb : TE) (m : Int) (hb : Lit (fun b => b = dk ∨ b = c) σ H0 tb (.int m)) (h1 : 1 ≤ m) (h2 : m ≤ 1000),
          Lit (fun b => b = dk ∨ b = c) σ H0 (tOp rRepQ (tTup (tCons (tC v) tNil)) tb) (.tuple (List.replicate m.toNat [d]).flatten) :=
        fun H0 hX0 σ v d hd tb m hb h1 h2 => lit_rep hX0 (lit_tup hX0 (litA_cons (lit_c hd) litA_nil) (by show 1 ≤ 1000; decide)) hb (fun z => nomatch z) (by show 1 ≤ 1000; decide) h1 h2
      have k1 : (1 : Int) ≤ 1 + (n : Int) := by omega
      have k2 : (1 : Int) + (n : Int) ≤ 1000 := by omega
      have one : ∀ (H0 : Hp) (hX0 : LX (fun b => b = dk ∨ b = c) dk c H0) (σ : L2.St) (hσ : σ[3]? = some (some (V.int (1 + (n : Int))))) (v : V) (d : PyData) (hd : ∀ H, Dq H v d),
          Lit (fun b => b = dk ∨ b = c) σ H0 (tTup (tCons (tOp rRepQ (tTup (tCons (tC v) tNil)) (tVar 3)) tNil)) (.tuple [.tuple (List.replicate (1 + (n : Int)).toNat [d]).flatten]) :=
        fun H0 hX0 σ hσ v d hd => lit_tup hX0 (litA_cons (rep1 H0 hX0 σ v d hd _ _ (lit_var hσ (.int _)) k1 k2) litA_nil) (by show 1 ≤ 1000; decide)
      have vone : ∀ d ∈ [PyData.int 0, PyData.int 1, PyData.bool true], Val (.tuple [.tuple (List.replicate (1 + (n : Int)).toNat [d]).flatten]) := fun d hd => by
        simp only [List.mem_cons, List.not_mem_nil, or_false] at hd
        rcases hn4 with rfl | rfl | rfl | rfl <;> rcases hd with rfl | rfl | rfl <;> exact val_up (val_of (by decide +kernel))
      have L1 : LitA (fun b => b = dk ∨ b = c) [some (.ref a), some (.ref dk), some (.int ((0 : Int) + i)), some (.int (1 + (n : Int))), some (.ref t), y5, y6, y7, y8, y9, y10, y11] Hd
          (tCons (tVar 4) (tCons (tTup tNil) (tCons (tTup (tCons (tOp rRepQ (tTup (tCons (tC (.int 1)) tNil)) (tVar 3)) tNil)) (tCons (tTup (tCons (tOp rRepQ (tTup (tCons (tC (.bl true)) tNil)) (tVar 3)) tNil)) (tCons (tTup (tCons (tOp rRepQ (tTup (tCons (tC (.int 1)) tNil)) (tVar 3)) tNil)) tNil)))))
          [stockD rows, .tuple [], .tuple [.tuple (List.replicate (1 + (n : Int)).toNat [.int 1]).flatten], .tuple [.tuple (List.replicate (1 + (n : Int)).toNat [.bool true]).flatten], .tuple [.tuple (List.replicate (1 + (n : Int)).toNat [.int 1]).flatten]] :=
        litA_cons (lit_var (i := 4) rfl stq) (litA_cons (lit_tup hXd litA_nil (by show 0 ≤ 1000; decide)) (litA_cons (one Hd hXd _ rfl _ _ fun _ => .int 1) (litA_cons (one Hd hXd _ rfl _ _ fun _ => .bl true) (litA_cons (one Hd hXd _ rfl _ _ fun _ => .int 1) litA_nil))))
      refine L1 Hd _ (Same.refl _) fun vs1 He se q1 => ?_
      have hvl1 := q1.len
      refine ⟨?_, fun p np => ?_⟩
      · show vs1.length + 1 + 1 ≤ sizeLine
        rw [hvl1]
        show 7 ≤ sizeLine
        decide
      have hXe := hXd.same se
      have ste := std.same se
      have de := (dc.keep sd).keep se
      have npX := new_ne hXe (Same.refl _) np
      have sp0 := same_new (o := .lst (V.ref t :: tv :: vs1)) np
      have q7 : Dq (Wo (fun b => b = dk ∨ b = c) (upd He p (.lst (.ref t :: tv :: vs1)))) (.ref p) (.list (stockD rows :: twD rows :: _)) :=
        .lst (wo_of upd_same npX) (DqAll.same (wo_same sp0) _ _ (.cons (stock_dq hXe ste) (.cons (Dq.same (wo_same se) _ _ tq) q1)))
      obtain ⟨bl, bq, hbn, hbV⟩ := gen_list (Pr := Val) q7 7 rfl (by
        intro d hd
        simp only [List.mem_cons, List.not_mem_nil, or_false] at hd
        rcases hd with rfl | rfl | rfl | rfl | rfl | rfl | rfl
        · exact val_stock ok
        · exact val_twin ok
        · exact val_stock ok
        · exact val_up (val_of (by decide +kernel))
        · exact vone _ (by simp)
        · exact vone _ (by simp)
        · exact vone _ (by simp))
      have sth := ste.same sp0
      have dh := de.keep sp0
      have hXh := hXe.same sp0
      generalize upd He p (.lst (.ref t :: tv :: vs1)) = Hh at bq sth dh hXh ⊢
      clear q7 sp0 npX q1 hvl1 se L1 np
      -- _law_values = _law_values + [..]
      have L2' : Lit (fun b => b = dk ∨ b = c) [some (.ref a), some (.ref dk), some (.int ((0 : Int) + i)), some (.int (1 + (n : Int))), some (.ref t), some (.ref p), y6, y7, y8, y9, y10, y11] Hh (tOp rCat (tVar 5) (tLst _)) (.list _) :=
        lit_catL hXh (lit_var (i := 5) rfl bq) (lit_lst hXh (litA_cons (one Hh hXh _ rfl (.int 0) _ fun _ => .int 0) (litA_cons (lit_rep (n := 4) hXh (one Hh hXh _ rfl (.int 1) _ fun _ => .int 1) (lit_c fun _ => .int 4) (fun z => nomatch z) (by show 1 ≤ 1000; decide) (by decide) (by decide))
          (litA_cons (lit_rep (n := 5) hXh (one Hh hXh _ rfl (.int 1) _ fun _ => .int 1) (lit_c fun _ => .int 5) (fun z => nomatch z) (by show 1 ≤ 1000; decide) (by decide) (by decide))
          (litA_cons (lit_tup hXh (litA_cons (rep1 Hh hXh _ (.int 1) _ (fun _ => .int 1) _ _ (lit_add (lit_var (i := 3) (v := .int (1 + (n : Int))) rfl (.int _)) (lit_c fun _ => .int 1)) (by omega) (by omega)) litA_nil) (by show 1 ≤ 1000; decide)) litA_nil)))) (by show 4 ≤ 1000; decide)) (by rw [hbn]; show 7 + 4 ≤ 1000; decide)
      refine L2' Hh _ (Same.refl _) fun wv Hi si wq => ?_
      obtain ⟨wl, wq, hwn, hwV⟩ := gen_list (Pr := Val) wq 11 (by rw [List.length_append, hbn]; rfl) (by
        intro d hd
        rcases List.mem_append.mp hd with hd | hd
        · exact hbV d hd
        · simp only [List.mem_cons, List.not_mem_nil, or_false] at hd
          rcases hn4 with rfl | rfl | rfl | rfl <;> rcases hd with rfl | rfl | rfl | rfl <;> exact val_up (val_of (by decide +kernel)))
      have sti := sth.same si
      have di := dh.keep si
      have hXi := hXh.same si
      -- _law_values = _law_values + [.., _law_odd(..), ..]
      refine ⟨wv, rfl, ?_⟩
      have A1 : Lit (fun b => b = dk ∨ b = c) [some (.ref a), some (.ref dk), some (.int ((0 : Int) + i)), some (.int (1 + (n : Int))), some (.ref t), some wv, y6, y7, y8, y9, y10, y11] Hi (tTup (tCons (tOp rRepQ (tTup (tCons (tC (.int 50)) tNil)) (tVar 3)) (tCons (tOp rRep (tLst (tCons (tC (.int 50)) tNil)) (tVar 3)) tNil))) (.tuple _) :=
        lit_tup hXi (litA_cons (rep1 Hi hXi _ (.int 50) _ (fun _ => .int 50) _ _ (lit_var (i := 3) (v := .int (1 + (n : Int))) rfl (.int _)) k1 k2) (litA_cons (lit_repL hXi (lit_lst hXi (litA_cons (lit_c fun _ => .int 50) litA_nil) (by show 1 ≤ 1000; decide)) (lit_var (i := 3) (v := .int (1 + (n : Int))) rfl (.int _)) (by show 1 * _ ≤ 1000; omega) k1 k2) litA_nil)) (by show 2 ≤ 1000; decide)
      show tLst (tCons (tTup _) _) _ Hi _
      show tCons (tTup _) _ _ Hi _
      show tTup _ _ Hi _
      refine A1 Hi _ (Same.refl _) fun v1 Hj sj q1 => ?_
      have hXj := hXi.same sj
      have dj := di.keep sj
      refine ⟨_, rfl, _, dk, c, _, rfl, hXj, dj, by omega, fun ov od Hk hod kk dkk oq => ?_⟩
      have hXk := hXj.kp kk dkk
      have mkj : Same (Wo (fun b => b = dk ∨ b = c) Hj) (Wo (fun b => b = dk ∨ b = c) Hk) := wo_kp hX kk
      have A2 : Lit (fun b => b = dk ∨ b = c) [some (.ref a), some (.ref dk), some (.int ((0 : Int) + i)), some (.int (1 + (n : Int))), some (.ref t), some wv, y6, y7, y8, y9, y10, y11] Hk (tTup (tCons (tOp rCatQ (tOp rRepZ (tTup (tCons (tC (.int 0)) tNil)) (tOp (rI0 fun i j => V.int (i - j)) (tVar 3) (tC (.int 1)))) (tTup (tCons (tC (.bl true)) tNil))) tNil)) (.tuple _) :=
        lit_tup hXk (litA_cons (lit_cat hXk (lit_repZ hXk (lit_tup hXk (litA_cons (lit_c fun _ => .int 0) litA_nil) (by show 1 ≤ 1000; decide)) (lit_sub (lit_var (i := 3) (v := .int (1 + (n : Int))) rfl (.int _)) (lit_c fun _ => .int 1)) (fun z => nomatch z) (by show 1 ≤ 1000; decide) (by omega) (by omega)) (lit_tup hXk (litA_cons (lit_c fun _ => .bl true) litA_nil) (by show 1 ≤ 1000; decide))
          (by rw [len_rep]; show _ * 1 + 1 ≤ 1000; omega)) litA_nil) (by show 1 ≤ 1000; decide)
      show tCons (tTup _) _ _ Hk _
      show tTup _ _ Hk _
      refine A2 Hk _ (Same.refl _) fun v2 Hl sl q2 => ?_
      refine ⟨by show 3 ≤ sizeLine; decide, fun p3 np3 => ?_⟩
      have hXl := hXk.same sl
      have sp3 := same_new (o := .lst [v1, ov, v2]) np3
      have np3X := new_ne hXl (Same.refl _) np3
      have q3 : Dq (Wo (fun b => b = dk ∨ b = c) (upd Hl p3 (.lst [v1, ov, v2]))) (.ref p3) (.list _) :=
        .lst (wo_of upd_same np3X) (DqAll.same (wo_same sp3) _ _ (.cons (Dq.same (mkj.trans (wo_same sl)) _ _ q1) (.cons (Dq.same (wo_same sl) _ _ oq) (.cons q2 .nil))))
      obtain ⟨ol, oq3, hon, hoV⟩ := gen_list (Pr := Val) q3 3 rfl (by
        intro d hd
        simp only [List.mem_cons, List.not_mem_nil, or_false] at hd
        rcases hd with rfl | rfl | rfl
        · rcases hn4 with rfl | rfl | rfl | rfl <;> exact val_up (val_of (by decide +kernel))
        · exact val_up (val_odd hod)
        · rcases hn4 with rfl | rfl | rfl | rfl <;> exact val_up (val_of (by decide +kernel)))
      have wqm := Dq.same ((wo_same sj).trans (mkj.trans ((wo_same sl).trans (wo_same sp3)))) _ _ wq
      have hXm := hXl.same sp3
      have dm := (dkk.keep sl).keep sp3
      have stm := ((((sti.same sj).kp kk dj).same sl).same sp3)
      generalize upd Hl p3 (.lst [v1, ov, v2]) = Hm at oq3 wqm hXm dm stm ⊢
      clear q3 np3X sp3 hXl q2 sl A2 mkj hXk oq hXj q1 A1 L2' hXi di sti hXh dh sth bq np3
      cases wqm with
      | @lst lw xsw _ hlw hxw =>
      cases oq3 with
      | @lst lo xso _ hlo hxo =>
      obtain ⟨hlw', lwX⟩ := wo_some hlw
      obtain ⟨hlo', loX⟩ := wo_some hlo
      have hlw_len : xsw.length = 11 := by rw [hxw.len, hwn]
      have hlo_len : xso.length = 3 := by rw [hxo.len, hon]
      refine ⟨lw, p3, xsw, xso, rfl, rfl, hlw', hlo', Nat.le_of_lt (len_lt (by omega)), fun p4 np4 => ?_⟩
      have sp4 := same_new (o := .lst (xsw ++ xso)) np4
      have np4X := new_ne hXm (Same.refl _) np4
      have all14 : DqAll (Wo (fun b => b = dk ∨ b = c) (upd Hm p4 (.lst (xsw ++ xso)))) (xsw ++ xso) (wl ++ ol) := DqAll.same (wo_same sp4) _ _ (hxw.app hxo)
      have hp4 : (upd Hm p4 (.lst (xsw ++ xso))) p4 = some (.lst (xsw ++ xso)) := upd_same
      have all14V : ∀ d ∈ wl ++ ol, Val d := fun d hd => by
        rcases List.mem_append.mp hd with hd | hd
        · exact hwV d hd
        · exact hoV d hd
      have hXn := hXm.same sp4
      have dn := dm.keep sp4
      have stn := stm.same sp4
      obtain ⟨p4n1, p4n2⟩ := hXn.no np4X
      generalize upd Hm p4 (.lst (xsw ++ xso)) = Hn at all14 hp4 hXn dn stn ⊢
      -- for _law_value in _law_values + [..]
      refine ⟨_, rfl, 10, rfl, by decide, by decide, fun D nD => ?_⟩
      obtain ⟨nD1, nD2⟩ := dn.nedk nD
      have X2 : ∀ (H' : Hp) (B' : Nat) (vs : List V), Deck H' dk c B' → H' D = some (.lst vs) → LX (fun b => b = dk ∨ b = c ∨ b = D) dk c H' := fun H' B' vs d' hD => ⟨.inl rfl, .inr (.inl rfl), fun b x => by
        obtain ⟨ns', t', h1, h2, _⟩ := d'.ex
        rcases x with rfl | rfl | rfl
        · exact ⟨_, h1⟩
        · exact ⟨_, h2⟩
        · exact ⟨_, hD⟩⟩
      refine lc_range (g := gName 10) (lo := 0) (n := Int.toNat 10) (fun i' H' => ∃ (vs : List V) (ds : List PyData), H' D = some (.lst vs) ∧ vs.length = i' ∧ DqAll (Wo (fun b => b = dk ∨ b = c ∨ b = D) H') vs ds ∧ (∀ d ∈ ds, Val d) ∧ Kp2 dk c Hn H' ∧ Deck H' dk c (200 * i + 63 + 6 * i'))
        ⟨[], [], upd_same, rfl, .nil, fun d hd => (by cases hd), kps (same_new nD), (dn.kp nD).up (by omega)⟩ (fun i' H' hi' h => ?_) (fun H' h => ?_)
      · obtain ⟨vs, ds, hD, hvl, hvs, hV, kp, d'⟩ := h
        have hi' : i' < 10 := hi'
        have hX' := X2 H' _ vs d' hD
        refine ⟨rfl, _, rfl, _, rfl, _, dk, c, _, t, ls, rows, rfl, hX', d', by omega, stn.kp kp dn, ok, fun v d H'' vd k d'' vq => ?_⟩
        refine ⟨vs, k _ _ nD1 nD2 hD, len_lt (by omega), vs ++ [v], ds ++ [d], upd_same, by rw [List.length_append, hvl]; rfl, ?_, fun e he => ?_, fun b o h1 h2 e => ?_, (d''.updD nD1 nD2).up (by omega)⟩
        · exact DqAll.same (wo_updX (.inr (.inr rfl))) _ _ ((DqAll.same (wo_kp hX' k) _ _ hvs).app (.cons vq .nil))
        · rcases List.mem_append.mp he with he | he
          · exact hV e he
          · rw [List.mem_singleton.mp he]
            exact vd
        · rw [upd_ne (ne_of_none e nD)]
          exact k b o h1 h2 (kp b o h1 h2 e)
      · obtain ⟨vs, ds, hD, hvl, hvs, hV, kp, d'⟩ := h
        have hvl : vs.length = 10 := hvl
        have d' : Deck H' dk c (200 * i + 63 + 6 * 10) := d'
        refine ⟨p4, D, xsw ++ xso, vs, rfl, rfl, kp _ _ p4n1 p4n2 hp4, hD, Nat.le_of_lt (len_lt (by rw [List.length_append]; omega)), fun p2 np2 => ?_⟩
        refine ⟨p2, rfl, ⟨_, SqL.of upd_same⟩, ?_⟩
        have hX1 : LX (fun b => b = dk ∨ b = c) dk c H' := LX.of_deck d'
        have sp2 := same_new (o := .lst (xsw ++ xso ++ vs)) np2
        have np2X := new_ne hX1 (Same.refl _) np2
        have allF : DqAll (Wo (fun b => b = dk ∨ b = c) (upd H' p2 (.lst (xsw ++ xso ++ vs)))) (xsw ++ xso ++ vs) (wl ++ ol ++ ds) :=
          (DqAll.same ((wo_kp hXn kp).trans (wo_same sp2)) _ _ all14).app (DqAll.same ((wo_mono fun b h => by rcases h with h | h; exact .inl h; exact .inr (.inl h)).trans (wo_same sp2)) _ _ hvs)
        have allV : ∀ d ∈ wl ++ ol ++ ds, Val d := fun d hd => by
          rcases List.mem_append.mp hd with hd | hd
          · exact all14V d hd
          · exact hV d hd
        have dF := d'.kp (o := .lst (xsw ++ xso ++ vs)) np2
        have hXF := hX1.same sp2
        obtain ⟨p2n1, p2n2⟩ := hXF.no np2X
        have hp2 : (upd H' p2 (.lst (xsw ++ xso ++ vs))) p2 = some (.lst (xsw ++ xso ++ vs)) := upd_same
        have hlen24 : (xsw ++ xso ++ vs).length = 24 := by rw [List.length_append, List.length_append]; omega
        generalize upd H' p2 (.lst (xsw ++ xso ++ vs)) = HF at allF dF hp2 hXF ⊢
        refine for_list (K := K) (g := gName 6) (xs := xsw ++ xso ++ vs) (fun j σ H2 => ∃ y6 y7 y8 y9 y10 y11, σ = [some (.ref a), some (.ref dk), some (.int ((0 : Int) + i)), some (.int (1 + (n : Int))), some (.ref t), some (.ref p4), y6, y7, y8, y9, y10, y11] ∧ Kp2 dk c HF H2 ∧ Deck H2 dk c (200 * i + 123 + j))
          ⟨_, _, _, _, _, _, rfl, Kp2.refl, dF⟩ (fun j σ H2 _ h => by obtain ⟨_, _, _, _, _, _, _, kj, _⟩ := h; exact SqL.of (kj _ _ p2n1 p2n2 hp2)) (fun j x σ H2 hx h => ?_) (fun σ H2 h => ?_)
        · obtain ⟨y6, y7, y8, y9, y10, y11, rfl, kj, dj2⟩ := h
          have hjl := (List.getElem?_eq_some_iff.mp hx).1
          obtain ⟨d, hd', dq0⟩ := allF.get hx
          have vd := allV d (List.mem_of_getElem? hd')
          have dqj := Dq.same (wo_kp hXF kj) _ _ dq0
          -- for _law_many in [_law_kinds, 1 + _law_draw(_law_deck_here, 4)]
          refine ⟨_, rfl, _, rfl, dk, c, _, 4, rfl, dj2, by omega, by decide, by decide, fun r3 H3 r30 r31 k3 d3 => ⟨1, r3, rfl, rfl, ?_⟩⟩
          refine ⟨by show 2 ≤ sizeLine; decide, fun L nL => ?_⟩
          have hX3 := hXF.kp (kj.trans k3) d3
          have dq3 : Dq H3 x d := Dq.same wo_in _ _ (Dq.same (wo_kp hXF k3) _ _ dqj)
          have sL := same_new (o := .lst [V.int (1 + (n : Int)), V.int (1 + r3)]) nL
          have dq4 := Dq.same sL _ _ dq3
          have d4 := d3.kp (o := .lst [V.int (1 + (n : Int)), V.int (1 + r3)]) nL
          have hL4 : (upd H3 L (.lst [V.int (1 + (n : Int)), V.int (1 + r3)])) L = some (.lst [V.int (1 + (n : Int)), V.int (1 + r3)]) := upd_same
          have k4 : Kp2 dk c HF (upd H3 L (.lst [V.int (1 + (n : Int)), V.int (1 + r3)])) := kj.trans (k3.trans (kps sL))
          refine ⟨L, rfl, ⟨_, SqL.of hL4⟩, ?_⟩
          generalize upd H3 L (.lst [V.int (1 + (n : Int)), V.int (1 + r3)]) = H4 at dq4 d4 hL4 k4 ⊢
          refine for_list (K := K) (g := gName 7) (xs := [V.int (1 + (n : Int)), V.int (1 + r3)]) (fun m σ H5 => ∃ y7 y8 y9 y11, σ = [some (.ref a), some (.ref dk), some (.int ((0 : Int) + i)), some (.int (1 + (n : Int))), some (.ref t), some (.ref p4), some x, y7, y8, y9, y10, y11] ∧ Same H4 H5)
            ⟨_, _, _, _, rfl, Same.refl _⟩ (fun m σ H5 _ h => by obtain ⟨_, _, _, _, _, s5⟩ := h; exact SqL.of (s5 _ _ hL4)) (fun m xm σ H5 hxm h => ?_) (fun σ H5 h => ?_)
          · obtain ⟨y7, y8, y9, y11, rfl, s5⟩ := h
            obtain ⟨kk, rfl, hk1⟩ : ∃ kk : Int, xm = V.int kk ∧ 1 ≤ kk := by
              have := List.mem_of_getElem? hxm
              simp only [List.mem_cons, List.not_mem_nil, or_false] at this
              rcases this with e | e
              · exact ⟨_, e, by omega⟩
              · exact ⟨_, e, by omega⟩
            have dq5 := Dq.same s5 _ _ dq4
            -- before, due
            refine ⟨x, rfl, x, d, rfl, dq5, vd.gd, .int kk, rfl, x, rfl, kk, x, d, rfl, hk1, dq5, vd.sl, fun H6 s6 => ?_⟩
            refine ⟨_, .bool (areOk kk d), rfl, .bl _, gd_bool _, _, _, rfl, ?_⟩
            have dq6 := Dq.same s6 _ _ dq5
            -- [repr(are_collections(..)) ..] != [due, due] or ..
            refine ⟨2, rfl, by decide, by decide, fun D2 nD2 => ?_⟩
            refine lc_range (g := gName 11) (lo := 0) (n := Int.toNat 2) (fun j' H7 => H7 D2 = some (.lst (List.replicate j' (V.str (PyData.bool (areOk kk d)).shown))) ∧ Same H6 H7) ⟨upd_same, same_new nD2⟩ (fun j' H7 hj' h => ?_) (fun H7 h => ?_)
            · obtain ⟨hD2, s7⟩ := h
              have hj' : j' < 2 := hj'
              refine ⟨rfl, .int kk, rfl, x, rfl, kk, x, d, rfl, Dq.same s7 _ _ dq6, vd.sl, fun H8 s8 => ?_⟩
              refine ⟨_, .bool (areOk kk d), rfl, .bl _, gd_bool _, _, s8 _ _ hD2, ?_, ?_, fun b o e => ?_⟩
              · rw [List.length_replicate]
                exact len_lt (by omega)
              · rw [upd_same, List.replicate_succ']
              · rw [upd_ne (ne_of_none e nD2)]
                exact s8 _ _ (s7 b o e)
            · obtain ⟨hD2, s7⟩ := h
              refine ⟨_, rfl, _, rfl, by show 2 ≤ sizeLine; decide, fun p5 np5 => ?_⟩
              have s8 : Same H7 (upd H7 p5 (.lst [V.str (PyData.bool (areOk kk d)).shown, V.str (PyData.bool (areOk kk d)).shown])) := same_new np5
              have two : SeqAt.shaped (.list [.str (PyData.bool (areOk kk d)).shown, .str (PyData.bool (areOk kk d)).shown]) = true ∧ PyData.eqv (.list [.str (PyData.bool (areOk kk d)).shown, .str (PyData.bool (areOk kk d)).shown]) (.list [.str (PyData.bool (areOk kk d)).shown, .str (PyData.bool (areOk kk d)).shown]) = true := by
                cases areOk kk d <;> exact ⟨by decide +kernel, by decide +kernel⟩
              refine ⟨.list [.str (PyData.bool (areOk kk d)).shown, .str (PyData.bool (areOk kk d)).shown], .list [.str (PyData.bool (areOk kk d)).shown, .str (PyData.bool (areOk kk d)).shown], .lst (SqL.of (s8 _ _ hD2)) (.cons (.str _) (.cons (.str _) .nil)), .lst (SqL.of upd_same) (.cons (.str _) (.cons (.str _) .nil)), two.1, two.1, _, rfl, ?_⟩
              rw [two.2]
              refine iteF ?_
              have s68 := s7.trans s8
              refine ⟨x, rfl, x, d, rfl, Dq.same s68 _ _ dq6, vd.gd, _, rfl, rfl, _, rfl, iteF2 (by rw [decide_eq_true rfl]; rfl) ?_⟩
              exact ⟨_, _, _, _, rfl, s5.trans (s6.trans s68)⟩
          · obtain ⟨y7, y8, y9, y11, rfl, s5⟩ := h
            exact ⟨_, _, _, _, _, _, rfl, k4.trans (kps s5), (d4.keep s5).up (by omega)⟩
        · obtain ⟨y6, y7, y8, y9, y10, y11, rfl, kj, dj2⟩ := h
          rw [hlen24] at dj2
          exact ⟨_, _, _, _, _, _, _, _, _, _, rfl, dj2.up (by omega)⟩
    · exact q _
end
end DD
namespace DD
open PySem PySem.Spec PyProof.Rows L2
theorem all_mk {l : PySem.W.OpenLaw} {w : World} {K : PySem.W.Frag} {h : Heap} {mg : Str → Option Value} {fa f1 f2 f3 f4 f5 f6 f7 f8 f9 f10 f11 f12 f13 f14 f15 f16 : Addr} {tk1 tk2 : Nat} (kin : K.In h) (nsG : h.Ns mainGlobals mg) (hfa : mg "law" = some (.ref fa))
    {od1 an1 : Option Addr} {sl1 : Array (Option Value)} {oc1 kV1 dc1 pm1 cd1 ct1 : Value}
    {od2 an2 : Option Addr} {sl2 : Array (Option Value)} {oc2 kV2 dc2 pm2 cd2 ct2 : Value}
    {od3 an3 : Option Addr} {sl3 : Array (Option Value)} {oc3 kV3 dc3 pm3 cd3 ct3 : Value}
    {od4 an4 : Option Addr} {sl4 : Array (Option Value)} {oc4 kV4 dc4 pm4 cd4 ct4 : Value}
    {od5 an5 : Option Addr} {sl5 : Array (Option Value)} {oc5 kV5 dc5 pm5 cd5 ct5 : Value}
    {od6 an6 : Option Addr} {sl6 : Array (Option Value)} {oc6 kV6 dc6 pm6 cd6 ct6 : Value}
    {od7 an7 : Option Addr} {sl7 : Array (Option Value)} {oc7 kV7 dc7 pm7 cd7 ct7 : Value}
    {od8 an8 : Option Addr} {sl8 : Array (Option Value)} {oc8 kV8 dc8 pm8 cd8 ct8 : Value}
    {od9 an9 : Option Addr} {sl9 : Array (Option Value)} {oc9 kV9 dc9 pm9 cd9 ct9 : Value}
    {od10 an10 : Option Addr} {sl10 : Array (Option Value)} {oc10 kV10 dc10 pm10 cd10 ct10 : Value}
    {od11 an11 : Option Addr} {sl11 : Array (Option Value)} {oc11 kV11 dc11 pm11 cd11 ct11 : Value}
    {od12 an12 : Option Addr} {sl12 : Array (Option Value)} {oc12 kV12 dc12 pm12 cd12 ct12 : Value}
    {od13 an13 : Option Addr} {sl13 : Array (Option Value)} {oc13 kV13 dc13 pm13 cd13 ct13 : Value}
    {od14 an14 : Option Addr} {sl14 : Array (Option Value)} {oc14 kV14 dc14 pm14 cd14 ct14 : Value}
    {od15 an15 : Option Addr} {sl15 : Array (Option Value)} {oc15 kV15 dc15 pm15 cd15 ct15 : Value}
    {od16 an16 : Option Addr} {sl16 : Array (Option Value)} {oc16 kV16 dc16 pm16 cd16 ct16 : Value}
    (m1 : PySem.W.nsIn K mainGlobals "MAX_COLLECTIONS" = some (some (.int 4 tk1)))
    (m2 : PySem.W.nsIn K mainGlobals "MAX_COUNT" = some (some (.int 50 tk2)))
    (a1 : PySem.W.nsIn K mainGlobals "is_number" = some (some (.ref f1)))
    (l1 : K.lookup f1 = some ⟨oc1, od1, .func (PySem.W.fnOf "is_number" "is_number" (defArgs sIsNum) (defBody sIsNum) (defScope sIsNum) .none kV1 dc1 pm1 an1 cd1 ct1), sl1⟩)
    (c1 : PySem.W.codeIn K cd1 "is_number" = true)
    (k1 : PySem.W.keepIn K (.ref f1) = true)
    (a2 : PySem.W.nsIn K mainGlobals "is_number_up_to" = some (some (.ref f2)))
    (l2 : K.lookup f2 = some ⟨oc2, od2, .func (PySem.W.fnOf "is_number_up_to" "is_number_up_to" (defArgs sUpTo) (defBody sUpTo) (defScope sUpTo) .none kV2 dc2 pm2 an2 cd2 ct2), sl2⟩)
    (c2 : PySem.W.codeIn K cd2 "is_number_up_to" = true)
    (k2 : PySem.W.keepIn K (.ref f2) = true)
    (a3 : PySem.W.nsIn K mainGlobals "is_tuple_of" = some (some (.ref f3)))
    (l3 : K.lookup f3 = some ⟨oc3, od3, .func (PySem.W.fnOf "is_tuple_of" "is_tuple_of" (defArgs sTupOf) (defBody sTupOf) (defScope sTupOf) .none kV3 dc3 pm3 an3 cd3 ct3), sl3⟩)
    (c3 : PySem.W.codeIn K cd3 "is_tuple_of" = true)
    (k3 : PySem.W.keepIn K (.ref f3) = true)
    (a4 : PySem.W.nsIn K mainGlobals "are_numbers" = some (some (.ref f4)))
    (l4 : K.lookup f4 = some ⟨oc4, od4, .func (PySem.W.fnOf "are_numbers" "are_numbers" (defArgs sNums) (defBody sNums) (defScope sNums) .none kV4 dc4 pm4 an4 cd4 ct4), sl4⟩)
    (c4 : PySem.W.codeIn K cd4 "are_numbers" = true)
    (k4 : PySem.W.keepIn K (.ref f4) = true)
    (a5 : PySem.W.nsIn K mainGlobals "are_collections" = some (some (.ref f5)))
    (l5 : K.lookup f5 = some ⟨oc5, od5, .func (PySem.W.fnOf "are_collections" "are_collections" (defArgs sAre) (defBody sAre) (defScope sAre) .none kV5 dc5 pm5 an5 cd5 ct5), sl5⟩)
    (c5 : PySem.W.codeIn K cd5 "are_collections" = true)
    (k5 : PySem.W.keepIn K (.ref f5) = true)
    (a6 : PySem.W.nsIn K mainGlobals "is_collection" = some (some (.ref f6)))
    (l6 : K.lookup f6 = some ⟨oc6, od6, .func (PySem.W.fnOf "is_collection" "is_collection" (defArgs sIsCol) (defBody sIsCol) (defScope sIsCol) .none kV6 dc6 pm6 an6 cd6 ct6), sl6⟩)
    (c6 : PySem.W.codeIn K cd6 "is_collection" = true)
    (k6 : PySem.W.keepIn K (.ref f6) = true)
    (a7 : PySem.W.nsIn K mainGlobals "_law_deck" = some (some (.ref f7)))
    (l7 : K.lookup f7 = some ⟨oc7, od7, .func (PySem.W.fnOf "_law_deck" "_law_deck" (defArgs sDeck) (defBody sDeck) (defScope sDeck) .none kV7 dc7 pm7 an7 cd7 ct7), sl7⟩)
    (c7 : PySem.W.codeIn K cd7 "_law_deck" = true)
    (k7 : PySem.W.keepIn K (.ref f7) = true)
    (a8 : PySem.W.nsIn K mainGlobals "_law_draw" = some (some (.ref f8)))
    (l8 : K.lookup f8 = some ⟨oc8, od8, .func (PySem.W.fnOf "_law_draw" "_law_draw" (defArgs sDraw) (defBody sDraw) (defScope sDraw) .none kV8 dc8 pm8 an8 cd8 ct8), sl8⟩)
    (c8 : PySem.W.codeIn K cd8 "_law_draw" = true)
    (k8 : PySem.W.keepIn K (.ref f8) = true)
    (a9 : PySem.W.nsIn K mainGlobals "_law_is_number" = some (some (.ref f9)))
    (l9 : K.lookup f9 = some ⟨oc9, od9, .func (PySem.W.fnOf "_law_is_number" "_law_is_number" (defArgs sLNum) (defBody sLNum) (defScope sLNum) .none kV9 dc9 pm9 an9 cd9 ct9), sl9⟩)
    (c9 : PySem.W.codeIn K cd9 "_law_is_number" = true)
    (k9 : PySem.W.keepIn K (.ref f9) = true)
    (a10 : PySem.W.nsIn K mainGlobals "_law_counts" = some (some (.ref f10)))
    (l10 : K.lookup f10 = some ⟨oc10, od10, .func (PySem.W.fnOf "_law_counts" "_law_counts" (defArgs sCounts) (defBody sCounts) (defScope sCounts) .none kV10 dc10 pm10 an10 cd10 ct10), sl10⟩)
    (c10 : PySem.W.codeIn K cd10 "_law_counts" = true)
    (k10 : PySem.W.keepIn K (.ref f10) = true)
    (a11 : PySem.W.nsIn K mainGlobals "_law_wishes" = some (some (.ref f11)))
    (l11 : K.lookup f11 = some ⟨oc11, od11, .func (PySem.W.fnOf "_law_wishes" "_law_wishes" (defArgs sWishes) (defBody sWishes) (defScope sWishes) .none kV11 dc11 pm11 an11 cd11 ct11), sl11⟩)
    (c11 : PySem.W.codeIn K cd11 "_law_wishes" = true)
    (k11 : PySem.W.keepIn K (.ref f11) = true)
    (a12 : PySem.W.nsIn K mainGlobals "_law_odd" = some (some (.ref f12)))
    (l12 : K.lookup f12 = some ⟨oc12, od12, .func (PySem.W.fnOf "_law_odd" "_law_odd" (defArgs sOdd) (defBody sOdd) (defScope sOdd) .none kV12 dc12 pm12 an12 cd12 ct12), sl12⟩)
    (c12 : PySem.W.codeIn K cd12 "_law_odd" = true)
    (k12 : PySem.W.keepIn K (.ref f12) = true)
    (a13 : PySem.W.nsIn K mainGlobals "_law_twin" = some (some (.ref f13)))
    (l13 : K.lookup f13 = some ⟨oc13, od13, .func (PySem.W.fnOf "_law_twin" "_law_twin" (defArgs sTwin) (defBody sTwin) (defScope sTwin) .none kV13 dc13 pm13 an13 cd13 ct13), sl13⟩)
    (c13 : PySem.W.codeIn K cd13 "_law_twin" = true)
    (k13 : PySem.W.keepIn K (.ref f13) = true)
    (a14 : PySem.W.nsIn K mainGlobals "_law_are_right" = some (some (.ref f14)))
    (l14 : K.lookup f14 = some ⟨oc14, od14, .func (PySem.W.fnOf "_law_are_right" "_law_are_right" (defArgs sRight) (defBody sRight) (defScope sRight) .none kV14 dc14 pm14 an14 cd14 ct14), sl14⟩)
    (c14 : PySem.W.codeIn K cd14 "_law_are_right" = true)
    (k14 : PySem.W.keepIn K (.ref f14) = true)
    (a15 : PySem.W.nsIn K mainGlobals "_law_changed" = some (some (.ref f15)))
    (l15 : K.lookup f15 = some ⟨oc15, od15, .func (PySem.W.fnOf "_law_changed" "_law_changed" (defArgs sChanged) (defBody sChanged) (defScope sChanged) .none kV15 dc15 pm15 an15 cd15 ct15), sl15⟩)
    (c15 : PySem.W.codeIn K cd15 "_law_changed" = true)
    (k15 : PySem.W.keepIn K (.ref f15) = true)
    (a16 : PySem.W.nsIn K mainGlobals "law" = some (some (.ref f16)))
    (l16 : K.lookup f16 = some ⟨oc16, od16, .func (PySem.W.fnOf "law" "law" (defArgs sLaw) (defBody sLaw) (defScope sLaw) .none kV16 dc16 pm16 an16 cd16 ct16), sl16⟩)
    (c16 : PySem.W.codeIn K cd16 "law" = true)
    (k16 : PySem.W.keepIn K (.ref f16) = true)
    (z1 : PySem.W.nsIn K mainGlobals "len" = some none)
    (z2 : PySem.W.nsIn K mainGlobals "tuple" = some none)
    (z3 : PySem.W.nsIn K mainGlobals "range" = some none)
    (z4 : PySem.W.nsIn K mainGlobals "abs" = some none)
    (z5 : PySem.W.nsIn K mainGlobals "repr" = some none)
    (z6 : PySem.W.nsIn K mainGlobals "max" = some none)
    (z7 : PySem.W.nsIn K mainGlobals "isinstance" = some none)
    (z8 : PySem.W.nsIn K mainGlobals "int" = some none)
    (z9 : PySem.W.nsIn K mainGlobals "bool" = some none)
    (z10 : PySem.W.nsIn K mainGlobals "all" = some none)
    (z11 : PySem.W.nsIn K mainGlobals "sum" = some none)
    (z12 : PySem.W.nsIn K mainGlobals "list" = some none)
    : ∃ fd : FuncData, (∀ (s : Shared) (v : Value), BindsTo s fd ⟨[v], []⟩ [("_law_script", v)]) ∧ ∀ base : Heap, K.In base → base.Ns mainGlobals mg → FnG l.prog w K mg base 6 fa fd ["_law_script"] (spLaw K) := by
  cases hfa.symm.trans (PySem.W.mg_of kin nsG a16)
  have F1 := fun_mk (st := sIsNum) l1 c1 k1
  have F2 := fun_mk (st := sUpTo) l2 c2 k2
  have F3 := fun_mk (st := sTupOf) l3 c3 k3
  have F4 := fun_mk (st := sNums) l4 c4 k4
  have F5 := fun_mk (st := sAre) l5 c5 k5
  have F6 := fun_mk (st := sIsCol) l6 c6 k6
  have F7 := fun_mk (st := sDeck) l7 c7 k7
  have F8 := fun_mk (st := sDraw) l8 c8 k8
  have F9 := fun_mk (st := sLNum) l9 c9 k9
  have F10 := fun_mk (st := sCounts) l10 c10 k10
  have F11 := fun_mk (st := sWishes) l11 c11 k11
  have F12 := fun_mk (st := sOdd) l12 c12 k12
  have F13 := fun_mk (st := sTwin) l13 c13 k13
  have F14 := fun_mk (st := sRight) l14 c14 k14
  have F15 := fun_mk (st := sChanged) l15 c15 k15
  have F16 := fun_mk (st := sLaw) l16 c16 k16
  have b1 := F1.binds (ps := ["value"]) fun _ _ _ _ _ _ us hl => match us, hl with | [_], _ => rfl
  have b2 := F2.binds (ps := ["value", "most"]) fun _ _ _ _ _ _ us hl => match us, hl with | [_, _], _ => rfl
  have b3 := F3.binds (ps := ["value", "fewest", "most"]) fun _ _ _ _ _ _ us hl => match us, hl with | [_, _, _], _ => rfl
  have b4 := F4.binds (ps := ["value", "fewest", "most", "limit"]) fun _ _ _ _ _ _ us hl => match us, hl with | [_, _, _, _], _ => rfl
  have b5 := F5.binds (ps := ["kinds", "value"]) fun _ _ _ _ _ _ us hl => match us, hl with | [_, _], _ => rfl
  have b6 := F6.binds (ps := ["kinds", "value"]) fun _ _ _ _ _ _ us hl => match us, hl with | [_, _], _ => rfl
  have b7 := F7.binds (ps := ["_law_script"]) fun _ _ _ _ _ _ us hl => match us, hl with | [_], _ => rfl
  have b8 := F8.binds (ps := ["_law_deck_here", "_law_limit"]) fun _ _ _ _ _ _ us hl => match us, hl with | [_, _], _ => rfl
  have b9 := F9.binds (ps := ["_law_value", "_law_low", "_law_high"]) fun _ _ _ _ _ _ us hl => match us, hl with | [_, _, _], _ => rfl
  have b10 := F10.binds (ps := ["_law_deck_here", "_law_kinds", "_law_most"]) fun _ _ _ _ _ _ us hl => match us, hl with | [_, _, _], _ => rfl
  have b11 := F11.binds (ps := ["_law_deck_here", "_law_most", "_law_high", "_law_kinds"]) fun _ _ _ _ _ _ us hl => match us, hl with | [_, _, _, _], _ => rfl
  have b12 := F12.binds (ps := ["_law_deck_here"]) fun _ _ _ _ _ _ us hl => match us, hl with | [_], _ => rfl
  have b13 := F13.binds (ps := ["_law_rows"]) fun _ _ _ _ _ _ us hl => match us, hl with | [_], _ => rfl
  have b14 := F14.binds (ps := ["_law_kinds", "_law_value"]) fun _ _ _ _ _ _ us hl => match us, hl with | [_, _], _ => rfl
  have b15 := F15.binds (ps := ["_law_deck_here", "_law_rows", "_law_high"]) fun _ _ _ _ _ _ us hl => match us, hl with | [_, _, _], _ => rfl
  refine ⟨PySem.W.fnOf "law" "law" (defArgs sLaw) (defBody sLaw) (defScope sLaw) .none kV16 dc16 pm16 an16 cd16 ct16, fun s v => .of_eq rfl, fun base _ _ => ?_⟩
  exact ok_law F16 { N := F1, bN := b1, gN := PySem.W.mg_of kin nsG a1, U := F2, bU := b2, gU := PySem.W.mg_of kin nsG a2, T := F3, bT := b3, gT := PySem.W.mg_of kin nsG a3, A := F4, bA := b4, gA := PySem.W.mg_of kin nsG a4, R := F5, bR := b5, gR := PySem.W.mg_of kin nsG a5, I := F6, bI := b6, gI := PySem.W.mg_of kin nsG a6, Dk := F7, bDk := b7, gDk := PySem.W.mg_of kin nsG a7, D := F8, bD := b8, gD := PySem.W.mg_of kin nsG a8, Q := F9, bQ := b9, gQ := PySem.W.mg_of kin nsG a9, C := F10, bC := b10, gC := PySem.W.mg_of kin nsG a10, W := F11, bW := b11, gW := PySem.W.mg_of kin nsG a11, O := F12, bO := b12, gO := PySem.W.mg_of kin nsG a12, V := F13, bV := b13, gV := PySem.W.mg_of kin nsG a13, G := F14, bG := b14, gG := PySem.W.mg_of kin nsG a14, H := F15, bH := b15, gH := PySem.W.mg_of kin nsG a15, m_len := PySem.W.mg_none_of kin nsG z1, m_tuple := PySem.W.mg_none_of kin nsG z2, m_range := PySem.W.mg_none_of kin nsG z3, m_abs := PySem.W.mg_none_of kin nsG z4, m_repr := PySem.W.mg_none_of kin nsG z5, m_max := PySem.W.mg_none_of kin nsG z6, m_isinstance := PySem.W.mg_none_of kin nsG z7, m_int := PySem.W.mg_none_of kin nsG z8, m_bool := PySem.W.mg_none_of kin nsG z9, m_all := PySem.W.mg_none_of kin nsG z10, m_sum := PySem.W.mg_none_of kin nsG z11, m_list := PySem.W.mg_none_of kin nsG z12, mX := ⟨_, PySem.W.mg_of kin nsG m1⟩, mC := ⟨_, PySem.W.mg_of kin nsG m2⟩ }
end DD
open PySem PySem.W PyProof.Rows
set_option maxHeartbeats 0 in
theorem PySem.Challenge.cw_darkdrawers_k03_collections_judged_holds : PySem.Challenge.rw_darkdrawers_k03_collections_judged.Holds := by
  w_on; o_law; k_head; (case hw => w_witness2)
  k_fill
  refine DD.walk_ofG (l := PySem.Challenge.rw_darkdrawers_k03_collections_judged) (n := 63) (k := 6) (x := "_law_script") (sp := fun w => DD.spLaw _) rfl (by decide) rfl ⟨rfl, by decide, by decide⟩ (fun w h Y => PySem.W.kIn_of Y) ?F
    (fun _ _ a ns hl _ hS => ⟨a, ns, rfl, hS, hl, fun _ => rfl⟩)
  case F =>
    intro w mg fa h KX G hmg
    refine' DD.all_mk KX G hmg ?m1 ?m2 ?a1 ?l1 ?c1 ?k1 ?a2 ?l2 ?c2 ?k2 ?a3 ?l3 ?c3 ?k3 ?a4 ?l4 ?c4 ?k4 ?a5 ?l5 ?c5 ?k5 ?a6 ?l6 ?c6 ?k6 ?a7 ?l7 ?c7 ?k7 ?a8 ?l8 ?c8 ?k8 ?a9 ?l9 ?c9 ?k9 ?a10 ?l10 ?c10 ?k10 ?a11 ?l11 ?c11 ?k11 ?a12 ?l12 ?c12 ?k12 ?a13 ?l13 ?c13 ?k13 ?a14 ?l14 ?c14 ?k14 ?a15 ?l15 ?c15 ?k15 ?a16 ?l16 ?c16 ?k16 ?z1 ?z2 ?z3 ?z4 ?z5 ?z6 ?z7 ?z8 ?z9 ?z10 ?z11 ?z12
    (case m1 => k_is); (case m2 => k_is); (case a1 => k_is); (case l1 => k_is); (case c1 => k_is); (case k1 => k_is); (case a2 => k_is); (case l2 => k_is); (case c2 => k_is); (case k2 => k_is); (case a3 => k_is); (case l3 => k_is); (case c3 => k_is); (case k3 => k_is); (case a4 => k_is); (case l4 => k_is); (case c4 => k_is); (case k4 => k_is); (case a5 => k_is); (case l5 => k_is); (case c5 => k_is); (case k5 => k_is); (case a6 => k_is); (case l6 => k_is); (case c6 => k_is); (case k6 => k_is); (case a7 => k_is); (case l7 => k_is); (case c7 => k_is); (case k7 => k_is); (case a8 => k_is); (case l8 => k_is); (case c8 => k_is); (case k8 => k_is); (case a9 => k_is); (case l9 => k_is); (case c9 => k_is); (case k9 => k_is); (case a10 => k_is); (case l10 => k_is); (case c10 => k_is); (case k10 => k_is); (case a11 => k_is); (case l11 => k_is); (case c11 => k_is); (case k11 => k_is); (case a12 => k_is); (case l12 => k_is); (case c12 => k_is); (case k12 => k_is); (case a13 => k_is); (case l13 => k_is); (case c13 => k_is); (case k13 => k_is); (case a14 => k_is); (case l14 => k_is); (case c14 => k_is); (case k14 => k_is); (case a15 => k_is); (case l15 => k_is); (case c15 => k_is); (case k15 => k_is); (case a16 => k_is); (case l16 => k_is); (case c16 => k_is); (case k16 => k_is); (case z1 => k_is); (case z2 => k_is); (case z3 => k_is); (case z4 => k_is); (case z5 => k_is); (case z6 => k_is); (case z7 => k_is); (case z8 => k_is); (case z9 => k_is); (case z10 => k_is); (case z11 => k_is); (case z12 => k_is)
