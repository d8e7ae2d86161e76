import PyProof.Rows.All
import Wide.All
import OpenK.AllK
import Wide.FinOn
import HandS.Base
import HandS.Call
import HandS.List
import HandS.Comp
import HandS.Ends
import HandS.Words
import HandS.Star
import PyProof.Rows.RegFStrParts
import HandS.Zip
import KE.GoesEnum
import KE.KTupSum
import HandS.Walk
import HandS.ForMost
import HandS.Codes
import HandS.Style
import HandS.TupAny
import HandS.TupMul
import HandS.Conv
import PySem.Challenge.RW_darkdrawers_k06_caps
set_option Elab.async false
set_option linter.all false
set_option maxRecDepth 100000
namespace DD
open PySem PySem.Spec PyProof.Rows L2

/-! ### a def's promise where no repr is under way (A.guards = some []) -/
structure FnG (P : Program) (w : World) (K : PySem.W.Frag) (mg : Str → Option Value) (base : Heap) (k : Nat) (f : Addr)
    (fd : FuncData) (ps : List Str) (sp : Sp) : Prop where
  arity : ∀ vs H Q E, sp vs H Q E → vs.length = ps.length
  go : ∀ (A : Around), A.guards = some [] → Room k A → ∀ (outer : List Env) (s : Shared) (H : Hp) (args : Args) (us : List Value)
    (vs : List V) (Q : VK) (E : XK), Env0 P w K mg base A outer s H → BindsTo s fd args (ps.zip us) → Vals vs us → sp vs H Q E →
    codeAny (model P w) A (.call (.ref f) args) (CR CX0 outer P w H s Q E) s

section
variable {P : Program} {w : World} {K : PySem.W.Frag} {mg : Str → Option Value} {base : Heap} {k : Nat} {f : Addr} {fd : FuncData}
  {ps : List Str} {sp : Sp}
theorem FnG.up {j : Nat} (F : FnG P w K mg base j f fd ps sp) (h : j ≤ k) : FnG P w K mg base k f fd ps sp :=
  ⟨F.arity, fun A hg hr => F.go A hg (hr.mono h)⟩

theorem fnG_of {x qual : Str} {st : Stmt} {N : List Str} (F : Fun K x qual st f fd) (S : FnScope N ps (defScope st))
    (ar : ∀ vs H Q E, sp vs H Q E → vs.length = ps.length)
    (bd : ∀ (cdv : Value) (A : Around), A.guards = some [] → ∀ (outer : List Env) (s : Shared) (H : Hp) (vs : List V) (Q : VK) (E : XK),
      Room k (A.deeper (envOfC qual (defScope st) s.heap.objs.size f cdv)) → sp vs H Q E →
      ∃ t, PSs (cxOf CX0 P w K mg base N qual (defScope st) f cdv A outer s H E).nox (defBody st) t ∧
        t { nx := fun _ H' => Q .non H', rt := Q } (start N vs) H) : FnG P w K mg base (k + 1) f fd ps sp := by
  obtain ⟨oc, od, kV, doc, pm, an, cdv, ct, osl, rfl, lk, hcd⟩ := F.ex
  refine ⟨ar, fun A hgu hr outer s H args us vs Q E e0 hb rv hsp => ?_⟩
  have nl := ar _ _ _ _ hsp
  have kin : K.In s.heap := e0.mod.kin.keeps fun b o e => (e0.bs b o e).1
  have nolim : s.heap.NoLimit := e0.mod.nolimit.keeps fun b o e => (e0.bs b o e).1
  have kinds : ∀ y ∈ ps.zip us, (defScope st).names.lookup y.1 = some .local ∨ ((defScope st).names.lookup y.1 = some .cell ∧
      ((cellsFrom (s.heap.objs.size + 1) (defScope st).names []).lookup y.1).isSome = true) := by
    rintro ⟨n, v⟩ hy
    rcases S.par n (List.of_mem_zip hy).1 with q | q
    · exact .inl q
    · exact .inr ⟨q, PySem.W.cellsFrom_some _ _ _ (.inl q)⟩
  refine codeAny_call_function hr.depth (kin _ _ lk) rfl S.co S.gen rfl (PySem.W.codeRec_of kin hcd) (hb _ _ _ _ ?_)
  refine wpAny_newFunctionEnv_cells S.kind kinds fun env he s1 xx => ?_
  subst he
  refine ⟨nolim.keeps xx.toInCall.keep, codeAny_func ?_⟩
  obtain ⟨t, ht0, hq⟩ := bd cdv A hgu outer s H vs Q E (hr.deeper _) hsp
  have ht := ht0.nox
  have I0 := inv_start (CX := CX0) (E := E) S hr.hd e0 nl rv xx
  refine wpAny_mono (ht.run [] s1 (start N vs) H _ I0 hq) (fun fl s' hs => ?_) fun e s' hs => hs
  cases fl with
  | ret u =>
    obtain ⟨v, σ', H', J, r2, q⟩ := hs
    exact ⟨v, H', J.os, J.bare, J.base, J.hok, r2, q⟩
  | next =>
    obtain ⟨σ', H', J, q⟩ := hs
    exact ⟨V.non, H', J.os, J.bare, J.base, J.hok, rfl, q⟩
  | brk =>
    obtain ⟨_, _, _, q⟩ := hs
    exact q.elim
  | cont =>
    obtain ⟨_, _, _, q⟩ := hs
    exact q.elim
end

section
variable {X : Cx} {k : Nat} {f : Addr} {fd : FuncData} {ps : List Str} {sp : Sp} {x : Str} {p pos : Pos} {e : Expr} {es : List Expr} {t : TA}
theorem pe_callG (F : FnG X.prog X.w X.K X.mg X.base k f fd ps sp) (hgu : X.A.guards = some []) (hr : Room k X.A) (hg : Gl X x)
    (hm : X.mg x = some (.ref f)) (hk : PySem.W.keepIn X.K (.ref f) = true) (hb : Binds X.K fd ps [])
    (ha : PA X (e :: es) t) (hdb : (x == ("__debug__" : Str)) = false := by decide)
    (he : starEach (e :: es) X.env = (false, eval e X.env) :: starEach es X.env := by rfl)
    (hpl : (backTo pos (starEach es X.env)).any (·.1) = false := by rfl) :
    PE X (.Call (.Name x p) (e :: es) [] pos) (tCall sp [] E0 t) := by
  refine ⟨fun pins s σ H Q I h => wpAny_Call_Name_kw (ld_glob I hg hm ?_ hdb)⟩
  refine PySem.W.callWith_K (h₀ := X.base) I.ok.mod.kin hk
    (thn (ha.run pos pins s σ H _ I h) fun us s1 ⟨vs, H1, I1, r, q⟩ => ⟨I1.kIn, ?_⟩) he hpl
  have q : sp (vs ++ []) H1 Q E0 := q
  rw [List.append_nil] at q
  have hl : (us ++ []).length = ps.length := by rw [List.append_nil, ← r.length]; exact F.arity _ _ _ _ q
  have hbb := hb s1 us I1.kIn hl
  rw [List.append_nil] at hbb
  refine wpAny_call (codeAny_mono (F.go X.A hgu hr X.stack s1 H1 ⟨us, []⟩ us vs Q E0 I1.env0 hbb r q) fun r s' hq => ?_)
  cases r with
  | error e => exact hq.elim
  | ok fl =>
    cases fl with
    | ret u => exact I1.after hq
    | next => exact hq.elim
    | brk => exact hq.elim
    | cont => exact hq.elim
end

/-! ### repr of data -/
mutual
theorem dp_nodict {K : PySem.W.Frag} {H : Hp} : ∀ (d : PyData) (v : V), Dp K H v d → d.hasDict = false
  | .none, _, _ => rfl
  | .bool _, _, _ => rfl
  | .int _, _, _ => rfl
  | .str _, _, _ => rfl
  | .list ds, _, h => by
    cases h with
    | lst _ a => exact dps_nodict ds _ a
  | .tuple ds, _, h => by
    cases h with
    | tup _ a => exact dps_nodict ds _ a
  | .dict _, _, h => by cases h
theorem dps_nodict {K : PySem.W.Frag} {H : Hp} : ∀ (ds : List PyData) (vs : List V), DpAll K H vs ds → PyData.hasDictAll ds = false
  | [], _, _ => rfl
  | d :: ds, _, h => by
    cases h with
    | cons a b =>
      show (d.hasDict || PyData.hasDictAll ds) = false
      rw [dp_nodict d _ a, dps_nodict ds _ b]
      rfl
end

/-- data that is small: what repr and == ask of it -/
structure Sm (wt dp : Nat) (d : PyData) : Prop where
  lay : d.canLay0 = true
  short : d.intsShort 13 = true
  show_ : d.showable = true
  wt : d.weight ≤ wt
  dp : d.depth ≤ dp
structure SmA (n wt dp : Nat) (ds : List PyData) : Prop where
  len : ds.length ≤ n
  lay : PyData.canLayAll0 ds = true
  short : PyData.intsShortAll 13 ds = true
  show_ : PyData.showableAll ds = true
  wt : PyData.weightAll ds ≤ ds.length * (wt + 1)
  dp : PyData.depthAll ds ≤ dp
theorem SmA.nil {n wt dp : Nat} : SmA n wt dp [] := ⟨Nat.zero_le _, rfl, rfl, rfl, by simp [PyData.weightAll], Nat.zero_le _⟩
theorem SmA.cons {n wt dp : Nat} {d : PyData} {ds : List PyData} (a : Sm wt dp d) (b : SmA n wt dp ds) : SmA (n + 1) wt dp (d :: ds) where
  len := Nat.succ_le_succ b.len
  lay := by show (d.canLay0 && _) = true; rw [a.lay, b.lay]; rfl
  short := by show (d.intsShort 13 && _) = true; rw [a.short, b.short]; rfl
  show_ := by show (d.showable && _) = true; rw [a.show_, b.show_]; rfl
  wt := by
    have h1 := a.wt
    have h2 := b.wt
    show d.weight + 1 + PyData.weightAll ds ≤ (ds.length + 1) * (wt + 1)
    rw [Nat.succ_mul]
    omega
  dp := Nat.max_le.mpr ⟨a.dp, b.dp⟩
theorem SmA.all {wt dp : Nat} : ∀ {ds : List PyData}, (∀ d ∈ ds, Sm wt dp d) → SmA ds.length wt dp ds
  | [], _ => .nil
  | d :: ds, h => .cons (h d List.mem_cons_self) (SmA.all fun x hx => h x (List.mem_cons_of_mem _ hx))
theorem Sm.up {w1 w2 k1 k2 : Nat} {d : PyData} (a : Sm w1 k1 d) (h : w1 ≤ w2) (hk : k1 ≤ k2) : Sm w2 k2 d :=
  ⟨a.lay, a.short, a.show_, Nat.le_trans a.wt h, Nat.le_trans a.dp hk⟩
theorem SmA.len_le {n wt dp : Nat} {ds : List PyData} (b : SmA n wt dp ds) : PyData.weightAll ds ≤ n * (wt + 1) :=
  Nat.le_trans b.wt (Nat.mul_le_mul_right _ b.len)
theorem SmA.tup {n wt dp : Nat} {ds : List PyData} (b : SmA n wt dp ds) : Sm (n * (wt + 1)) (dp + 1) (.tuple ds) :=
  ⟨b.lay, b.short, b.show_, b.len_le, Nat.succ_le_succ b.dp⟩
theorem SmA.lst {n wt dp : Nat} {ds : List PyData} (b : SmA n wt dp ds) : Sm (n * (wt + 1)) (dp + 1) (.list ds) :=
  ⟨b.lay, b.short, b.show_, b.len_le, Nat.succ_le_succ b.dp⟩
theorem log2_lt_of {n : Nat} (h : n < 4096) : n.log2 ≤ 11 := by
  by_cases h0 : n = 0
  · subst h0; decide
  · have := (Nat.log2_lt h0 (k := 12)).mpr (by omega)
    omega
theorem Sm.int {i : Int} (h0 : 0 ≤ i) (h : i < 4096) : Sm 13 0 (.int i) where
  lay := rfl
  short := by
    refine decide_eq_true ?_
    have e := int_text_length_le (a := i) (k := 12) (by decide) (by have := log2_lt_of (n := i.natAbs) (by omega); omega)
    show (Str.ofString (toString i)).length ≤ 13
    rw [PySem.ofString_length]
    omega
  show_ := decide_eq_true (by have := log2_lt_of (n := i.natAbs) (by omega); omega)
  wt := by
    have := log2_lt_of (n := i.natAbs) (by omega)
    show (if i == 0 then 0 else i.natAbs.log2 + 1) ≤ 13
    split
    · omega
    · omega
  dp := Nat.le_refl _
theorem Sm.size {wt dp : Nat} {d : PyData} (a : Sm wt dp d) (h : wt ≤ 1048576) : d.shown.length ≤ sizeLine := by
  have h2 := PyData.shown_le 13 (by decide) d (PyData.leavesShort_of_canLay0 13 d a.lay a.short)
  have h3 := a.wt
  rw [sizeLine_eq]
  omega
theorem Sm.shaped {wt dp : Nat} {d : PyData} (a : Sm wt dp d) (h : dp ≤ 64) : SeqAt.shaped d = true := by
  show (d.canLay0 && decide (d.depth ≤ 64)) = true
  rw [a.lay, decide_eq_true (Nat.le_trans a.dp h)]
  rfl

/-- repr of a list or tuple of data: its text -/
theorem call_reprD {X : Cx} (hg : X.A.guards = some []) (hu : X.A.units + 66 < cLine) : CallR X (.builtin "repr") (fun xs H Q =>
    ∃ a d wt, xs = [.ref a] ∧ Dp X.K H (.ref a) d ∧ Sm wt 64 d ∧ wt ≤ 1048576 ∧ Q (.str d.shown) H) := by
  intro pins s σ H xs us Q I r h
  obtain ⟨a, d, wt, rfl, hd, sm, hw, q⟩ := h
  obtain ⟨u, rfl, ru⟩ := vals1 r
  cases ru
  obtain ⟨as, rd⟩ := Dp.reads I d _ _ hd rfl
  have hdp := sm.dp
  exact repr_of_reads' rd sm.show_ (PyData.noDict_hsm (dp_nodict d _ hd)) hg (by omega) (fun _ _ e => e)
    (fun h' u tk hk => ⟨.str d.shown, H, I.kept hk, ⟨_, rfl⟩, q⟩) (sm.size hw)
end DD
namespace DD
open PySem PySem.Spec PyProof.Rows L2

/-! ### the end of a law whose def keeps its promise where no repr is under way -/
section
variable {P : Program} {w : World} {K : PySem.W.Frag} {mg mb : Str → Option Value} {k : Nat} {fa a : Addr} {fd : FuncData} {x : Str} {sp : Sp}
  {s1 : Shared} {vs : List Value} {ns : List Int}
theorem law_goG (kin : K.In s1.heap) (nsG : s1.heap.Ns mainGlobals mg) (nsB : s1.heap.Ns builtinsNs mb)
    (blt : ∀ x : Str, x ≠ "__name__" → mb x = bootBuiltins x) (nolim : s1.heap.NoLimit) (ng : s1.gens = #[])
    (oa : s1.heap.get? a = some { cls := .type "list", data := .seq vs.toArray }) (ia : IntsAre vs ns) (len : ns.length ≤ sizeLine)
    (room : Room k callerA) (F : ∀ base : Heap, K.In base → base.Ns mainGlobals mg → FnG P w K mg base k fa fd [x] sp)
    (bind : ∀ (s : Shared) (u : Value), BindsTo s fd ⟨[u], []⟩ [(x, u)])
    (wish : ∀ H : Hp, Only H → SqL K H a (ns.map V.int) → sp [.ref a] H (fun v _ => v = .bl true) fun _ _ _ => False) :
    codeAny (model P w) callerA (.call (.ref fa) ⟨[.ref a], []⟩)
      (fun r s' => r = .ok (.ret (.bool true)) ∧ OldK s1.heap s'.heap ∧ s'.os = s1.os ∧ AllBare s'.gens) s1 := by
  have rv := vals_ints ia
  have lv := ia.length
  -- the run, from an abstract heap that tracks at most the script
  have main : ∀ H : Hp, Only H → SqL K H a (ns.map V.int) → HOk P w H s1.heap → (∀ b, H b ≠ none → b = a) → (H a ≠ none → K.lookup a = none) →
      codeAny (model P w) callerA (.call (.ref fa) ⟨[.ref a], []⟩)
        (fun r s' => r = .ok (.ret (.bool true)) ∧ OldK s1.heap s'.heap ∧ s'.os = s1.os ∧ AllBare s'.gens) s1 := by
    intro H onl hS ok only noK
    have free : ∀ {b : Addr} {o : Obj} {es : Array DictEntry} {ep : Nat}, s1.heap.get? b = some o → o.data = .dict es ep → H b = none := by
      intro b o es ep e d
      cases q : H b with
      | none => rfl
      | some u =>
        obtain rfl := only b (by rw [q]; simp)
        rw [oa] at e
        cases e
        exact nomatch (show Data.seq vs.toArray _ = Data.dict es ep from d)
    have nsOf : ∀ {b : Addr} {m : Str → Option Value}, s1.heap.Ns b m → (hidT s1.heap H).Ns b m := by
      rintro b m ⟨o, es, ep, e, d, r⟩
      exact ⟨o, es, ep, hidT_get e (free e d), d, r⟩
    have kin0 : K.In (hidT s1.heap H) := fun b o e => hidT_get (kin b o e) (by
      cases q : H b with
      | none => rfl
      | some u =>
        obtain rfl := only b (by rw [q]; simp)
        rw [noK (by rw [q]; simp)] at e
        cases e)
    obtain ⟨mc, c1, c2⟩ := nolim
    have md : Mod K mg (hidT s1.heap H) := ⟨kin0, nsOf nsG, ⟨mb, nsOf nsB, blt⟩, mc, nsOf c1, c2⟩
    have e0 : Env0 P w K mg (hidT s1.heap H) callerA [] s1 H :=
      ⟨rfl, md, fun b o e => of_hidT e, Nat.le_of_eq (hidT_size _ _), trivial, fun b z => (nomatch (show b ∈ ([] : List Addr) from z)), ok, .of_eq ng⟩
    have ran := (F _ kin0 (nsOf nsG)).go callerA rfl room [] s1 H ⟨[.ref a], []⟩ [.ref a] [.ref a] _ _ e0 (bind s1 (.ref a)) (.cons rfl .nil) (wish H onl hS)
    refine codeAny_mono ran fun r s' h => ?_
    match r, h with
    | .ok (.ret u), h =>
      obtain ⟨v, H', eos, br, un, ok', r', q⟩ := h
      obtain rfl : v = .bl true := q
      obtain rfl : u = Value.bool true := r'
      refine ⟨rfl, OldK.of_keep fun b o e => ?_, eos, br⟩
      cases q : H b with
      | none => exact un.keep b o e q (fun z => nomatch (show b ∈ ([] : List Addr) from z)) (by simp)
      | some u =>
        rcases onl b with z | ⟨ob, xs, z⟩
        · rw [q] at z
          cases z
        · have e1 := (ok b _ z).1
          rw [e] at e1
          cases e1
          exact (ok' b _ (un.frzs b _ _ z)).1
  cases hk : K.lookup a with
  | some o =>
    -- the script is one of the module's own objects
    have e := kin a o hk
    rw [oa] at e
    cases e
    have hsz : vs.toArray.size ≤ sizeLine := by
      rw [List.size_toArray, lv]
      exact len
    exact main (fun _ => none) (fun _ => .inl rfl) (.inr ⟨_, vs.toArray, _, hk, rfl, rfl, rfl, hsz, by simpa using rv⟩)
      (fun b u z => nomatch (show (none : Option HO) = some u from z)) (fun b z => absurd rfl z) fun z => absurd rfl z
  | none =>
    let fr : HO := .frz { cls := .type "list", data := .seq vs.toArray } (.lst (ns.map V.int))
    have at_ : (fun b => if b = a then some fr else none : Hp) a = some fr := if_pos rfl
    have else_ : ∀ b, b ≠ a → (fun b => if b = a then some fr else none : Hp) b = none := fun b hb => if_neg hb
    refine main (fun b => if b = a then some fr else none) (fun b => ?_) (.inl (.inr ⟨_, at_⟩)) (fun b u z => ?_) (fun b z => ?_) fun _ => hk
    · by_cases hb : b = a
      · exact .inr ⟨_, _, if_pos hb⟩
      · exact .inl (else_ b hb)
    · by_cases hb : b = a
      · subst hb
        cases at_.symm.trans z
        exact ⟨oa, by rw [List.length_map]; exact len, vs, _, rv, oa⟩
      · exact nomatch (else_ b hb).symm.trans z
    · by_cases hb : b = a
      · exact hb
      · exact absurd (else_ b hb) z
end

theorem walk_ofG {l : PySem.W.OpenLaw} {n k : Nat} {q : Program} {loose : List Str} {XP : (Str → Option Value) → Heap → Prop} {YP : World → Heap → Prop}
    {d : DefRec} {K : Params → PySem.W.Frag} {sp : World → Sp} {x : Str} (most : l.most = some n) (n_le : n ≤ sizeLine) (nodef : d.params.defaults = [])
    (room : Room k callerA) (kin : ∀ (w : World) (h : Heap), YP w h → (K w.params).In h)
    (F : ∀ (w : World) (mg : Str → Option Value) (fa : Addr) (h : Heap), (K w.params).In h → h.Ns mainGlobals mg → mg d.name = some (.ref fa) →
      ∃ fd : FuncData, (∀ (s : Shared) (u : Value), BindsTo s fd ⟨[u], []⟩ [(x, u)]) ∧
        ∀ base : Heap, (K w.params).In base → base.Ns mainGlobals mg → FnG l.prog w (K w.params) mg base k fa fd [x] (sp w))
    (wish : ∀ (w : World) (H : Hp) (a : Addr) (ns : List Int), ns.length ≤ n → Only H → SqL (K w.params) H a (ns.map V.int) →
      sp w [.ref a] H (fun v _ => v = .bl true) fun _ _ _ => False) :
    PySem.W.WalkO q loose XP YP l.row.toRowW d [] (fun f vs => PySem.call f vs) := by
  refine Att.attach_call most nodef fun w s0 s1 mg mb fa o pm cd doc a vs ns G Y ho hd hcd hmg hobj hints hlen hg => ?_
  obtain ⟨fd, hb, hF⟩ := F w mg fa _ (kin w _ Y) G.T.g hmg
  exact law_goG (kin w _ Y) G.T.g G.T.b G.T.builtins G.T.nolimit hg hobj hints (Nat.le_trans hlen n_le) room hF hb
    fun H hO hS => wish w H a ns hlen hO hS
end DD
namespace DD
open PySem PySem.Spec PyProof.Rows L2
section
variable {M : Model} {A : Around} {E : Value → Shared → Prop}
theorem wp_forIn {α β : Type} (f : α → β → Sem (ForInStep β)) : ∀ (l : List α) (J : Nat → β → Shared → Prop),
    (∀ j x b s, l[j]? = some x → J j b s → wpAny M A (f x b) (fun r s' => ∃ b', r = .yield b' ∧ J (j + 1) b' s') E s) →
    ∀ (b : β) (s : Shared), J 0 b s → wpAny M A (forIn l b f) (fun b' s' => J l.length b' s') E s
  | [], J, step, b, s, h => by
    rw [List.forIn_nil]
    exact wpAny_pure h
  | x :: l, J, step, b, s, h => by
    rw [List.forIn_cons]
    refine wpAny_bind (wpAny_mono (step 0 x b s rfl h) (fun r s' hr => ?_) (fun _ _ e => e))
    obtain ⟨b', rfl, hJ⟩ := hr
    exact wp_forIn f l (fun j => J (j + 1)) (fun j y c s'' e hj => step (j + 1) y c s'' e hj) b' s' hJ
end

abbrev zObj (f0 f1 : Value) (TI TO : Addr) : Obj :=
  { cls := .type "zip", dict := none, data := .fields #[f0, f1, .bool false, .ref TI, .ref TO], slots := #[] }
abbrev tObj (vs : Array Value) : Obj := { cls := .type "tuple", data := .seq vs }
structure ZApart (z TI TO : Addr) (ps : List (Addr × Addr)) : Prop where
  tz : TI ≠ z
  oz : TO ≠ z
  it : TI ≠ TO
  nd : (ps.map (·.1)).Nodup
  pz : ∀ p ∈ ps, p.1 ≠ z ∧ p.1 ≠ TI ∧ p.1 ≠ TO ∧ p.2 ≠ z ∧ p.2 ≠ TO
  px : ∀ p ∈ ps, ∀ q ∈ ps, p.2 ≠ q.1
structure ZSt (h : Heap) (z TI TO : Addr) (ps : List (Addr × Addr)) (k : Nat) : Prop where
  zz : ∃ f0 f1, h.get? z = some (zObj f0 f1 TI TO) ∧ (f0 = .none ∨ ∃ a t, f0 = .int a t)
  ti : h.get? TI = some (tObj (ps.map fun p => Value.ref p.1).toArray)
  to : ∃ arr : Array Value, arr.size = ps.length ∧ h.get? TO = some (tObj arr)
  its : ∀ p ∈ ps, h.IsTupleIter p.1 p.2 k


/-- the objects but z, TO and the iterators stand; the first j iterators have turned -/
structure ZMid (g h : Heap) (z TO : Addr) (ps : List (Addr × Addr)) (k j : Nat) : Prop where
  size : h.objs.size = g.objs.size
  keep : ∀ c o, c ≠ z → c ≠ TO → (∀ p ∈ ps, c ≠ p.1) → g.get? c = some o → h.get? c = some o
  its : ∀ (i : Nat) (p : Addr × Addr), ps[i]? = some p → h.IsTupleIter p.1 p.2 (if i < j then k + 1 else k)

section
variable {prog : Program} {w : World} {A : Around} {E : Value → Shared → Prop} {s : Shared} {z TI TO : Addr} {ps : List (Addr × Addr)} {k : Nat}
theorem wp_alive {M : Model} {a : Addr} {Q : Option Obj → Shared → Prop} (h : Q (s.heap.get? a) s) : wpAny M A (loadIfAlive a) Q E s := fun _ _ _ => h
theorem ptr_ne {ps : List (Addr × Addr)} (nd : (ps.map (·.1)).Nodup) {i j : Nat} {p q : Addr × Addr} (hp : ps[i]? = some p) (hq : ps[j]? = some q) (h : i ≠ j) : p.1 ≠ q.1 := by
  intro e
  have e1 : (ps.map (·.1))[i]? = some p.1 := by rw [List.getElem?_map, hp] <;> rfl
  have e2 : (ps.map (·.1))[j]? = some p.1 := by rw [List.getElem?_map, hq, e] <;> rfl
  obtain ⟨l1, g1⟩ := List.getElem?_eq_some_iff.mp e1
  obtain ⟨l2, g2⟩ := List.getElem?_eq_some_iff.mp e2
  exact h ((List.getElem_inj nd).mp (g1.trans g2.symm))
theorem free_or {f0 f1 : Value} (hz : s.heap.get? z = some (zObj f0 f1 TI TO)) (hf0 : f0 = .none ∨ ∃ a t, f0 = .int a t) :
    wpAny (model prog w) A (Builtin.SmallTypes.ownedTupleIsFree (.ref z)) (fun b s' => (b = true ∧ s' = s) ∨
      (b = false ∧ ∃ h' f2, s' = { s with heap := h' } ∧ h'.get? z = some (zObj f0 f2 TI TO) ∧ Heap.SameBut z s.heap h')) E s := by
  unfold Builtin.SmallTypes.ownedTupleIsFree
  refine wpAny_bind (wpAny_field hz rfl (x := f0) rfl ?_)
  rcases hf0 with rfl | ⟨a, t, rfl⟩
  · exact wpAny_pure (.inl ⟨rfl, rfl⟩)
  · refine wpAny_bind (wp_alive ?_)
    cases ha : s.heap.get? a.toNat with
    | none => exact wpAny_pure (.inl ⟨rfl, rfl⟩)
    | some o =>
      simp only [Option.isNone_some, Bool.false_eq_true, if_false]
      refine wpAny_bind (wpAny_field hz rfl (x := f1) rfl ?_)
      by_cases hb : (f1 != Value.bool true) = true
      · rw [if_pos hb]
        refine wpAny_bind (wpAny_setField_rec hz (by simp) fun h1 hz1 hs1 => wpAny_pure (.inr ⟨rfl, h1, .bool true, rfl, hz1, hs1⟩))
      · rw [if_neg hb]
        exact wpAny_pure (.inr ⟨rfl, s.heap, f1, rfl, hz, Heap.SameBut.refl _ _⟩)
/-- one iterator's turn -/
theorem draw_one {g h : Heap} {j : Nat} {p : Addr × Addr} {xs : Array Value} {v : Value} {Q : Value → Shared → Prop} (D : ZApart z TI TO ps) (m : ZMid g h z TO ps k j)
    (hp : ps[j]? = some p) (hl : g.IsTuple p.2 xs) (hx : xs[k]? = some v)
    (hQ : ∀ h', ZMid g h' z TO ps k (j + 1) → Heap.SameBut p.1 h h' → Q v { s with heap := h' }) :
    wpAny (model prog w) A (Builtin.SmallTypes.nextOf (.ref p.1)) Q E { s with heap := h } := by
  have hm : p ∈ ps := List.mem_of_getElem? hp
  have h1 : h.IsTupleIter p.1 p.2 k := by
    have := m.its j p hp
    rwa [if_neg (Nat.lt_irrefl j)] at this
  have h2 : h.IsTuple p.2 xs := by
    obtain ⟨o, e, c⟩ := hl
    exact ⟨o, m.keep _ _ (D.pz p hm).2.2.2.1 (D.pz p hm).2.2.2.2 (fun q hq => D.px p hm q hq) e, c⟩
  refine RZ.nextOf_tuple_item (s := { s with heap := h }) h1 h2 hx fun h' hi hs => hQ h' ⟨hs.1.trans m.size, fun c o c1 c2 c3 e => ?_, fun i q hq => ?_⟩ hs
  · rw [hs.2 c (c3 p hm)]
    exact m.keep c o c1 c2 c3 e
  · by_cases hij : i = j
    · subst hij
      rw [hp] at hq
      cases hq
      rw [if_pos (Nat.lt_succ_self _)]
      exact hi
    · have hqi := m.its i q hq
      have hne := ptr_ne D.nd hq hp hij
      rw [show (if i < j + 1 then k + 1 else k) = (if i < j then k + 1 else k) by
        by_cases hlt : i < j
        · rw [if_pos hlt, if_pos (by omega)]
        · rw [if_neg hlt, if_neg (by omega)]]
      obtain ⟨o, e, c⟩ := hqi
      exact ⟨o, (hs.2 _ hne).trans e, c⟩
theorem ZMid.full {g h : Heap} (m : ZMid g h z TO ps k ps.length) : ∀ p ∈ ps, h.IsTupleIter p.1 p.2 (k + 1) := fun p hp => by
  obtain ⟨i, hi⟩ := List.mem_iff_getElem?.mp hp
  obtain ⟨hl, _⟩ := List.getElem?_eq_some_iff.mp hi
  have := m.its i p hi
  rwa [if_pos hl] at this

theorem zn_item {vs : List Value} {Q : Value → Shared → Prop} (D : ZApart z TI TO ps) (hn : 1 ≤ ps.length) (hn2 : ps.length ≤ 1000) (S : ZSt s.heap z TI TO ps k)
    (hv : vs.length = ps.length) (hi : ∀ (j : Nat) (p : Addr × Addr), ps[j]? = some p → ∃ xs, s.heap.IsTuple p.2 xs ∧ xs[k]? = vs[j]?)
    (hQ : ∀ h', ZSt h' z TI TO ps (k + 1) → h'.get? s.heap.objs.size = some (tObj vs.toArray) → h'.objs.size = s.heap.objs.size + 1 →
      (∀ c o, c ≠ z → c ≠ TO → (∀ p ∈ ps, c ≠ p.1) → s.heap.get? c = some o → h'.get? c = some o) → Q (.ref s.heap.objs.size) { s with heap := h' }) :
    wpAny (model prog w) A (Builtin.«zip.__next__» ⟨[.ref z], []⟩) (fun fin s' => ∃ v, fin = .done (.ret v) ∧ Q v s') E s := by
  obtain ⟨⟨f0, f1, hz, hf0⟩, hTI, ⟨arr, ha, hTO⟩, hits⟩ := S
  show wpAny _ _ (field (.ref z) 2 >>= _) _ _ _
  refine wpAny_bind (wpAny_field hz rfl (x := .bool false) rfl ?_)
  show wpAny _ _ (field (.ref z) 3 >>= _) _ _ _
  refine wpAny_bind (wpAny_field hz rfl (x := .ref TI) rfl ?_)
  refine wpAny_bind (wpAny_seqItems hTI rfl ?_)
  have hne : (ps.map fun p => Value.ref p.1).toArray.isEmpty = false := by
    cases ps with
    | nil => simp at hn
    | cons p r => rfl
  simp only [hne, Bool.false_eq_true, if_false]
  have m0 : ∀ h, Heap.SameBut z s.heap h → ZMid s.heap h z TO ps k 0 := fun h hs =>
    ⟨hs.1, fun c o c1 _ _ e => (hs.2 c c1).trans e, fun i p hp => by
      rw [if_neg (Nat.not_lt_zero _)]
      have hm := List.mem_of_getElem? hp
      obtain ⟨o, e, c⟩ := hits p hm
      exact ⟨o, (hs.2 _ (D.pz p hm).1).trans e, c⟩⟩
  refine wpAny_bind (wpAny_mono (free_or hz hf0) (fun b s' hb => ?_) fun _ _ e => e)
  rcases hb with ⟨rfl, rfl⟩ | ⟨rfl, h1, f2, rfl, hz1, hs1⟩
  · simp only [if_true]
    refine wpAny_bind (wpAny_rule ?_)
    refine wpAny_bind (wpAny_field hz rfl (x := .ref TO) rfl ?_)
    refine wpAny_bind (wpAny_setField_rec hz (by simp) fun h1 hz1 hs1 => ?_)
    replace hz1 : h1.get? z = some (zObj .ellipsis f1 TI TO) := hz1
    have nTI : ∀ p ∈ ps, TI ≠ p.1 := fun p hp q => (D.pz p hp).2.1 q.symm
    refine wpAny_bind (thn (wp_forIn _ _ (fun j b s2 => b = (none, ()) ∧ ∃ (h : Heap) (a2 : Array Value), s2 = { s' with heap := h } ∧ ZMid s'.heap h z TO ps k j ∧
      h.get? z = some (zObj .ellipsis f1 TI TO) ∧ a2.size = ps.length ∧ (∀ i, i < j → a2[i]? = vs[i]?) ∧ h.get? TO = some (tObj a2)) ?step _ _ ?init) fun b s2 hb => ?last)
    case init => exact ⟨rfl, h1, arr, rfl, m0 h1 hs1, hz1, ha, fun i hi => absurd hi (Nat.not_lt_zero _), (hs1.2 _ D.oz).trans hTO⟩
    case step =>
      rintro j x b s2 hx ⟨rfl, h, a2, rfl, m, hz2, hs2, pre, hTO2⟩
      rw [List.getElem?_zipIdx, List.getElem?_map] at hx
      cases hp : ps[j]? with
      | none =>
        rw [hp] at hx
        cases hx
      | some p =>
        rw [hp] at hx
        obtain rfl : (Value.ref p.1, 0 + j) = x := Option.some.inj hx
        obtain ⟨xs, hl, hxk⟩ := hi j p hp
        have hm : p ∈ ps := List.mem_of_getElem? hp
        have hj : j < ps.length := (List.getElem?_eq_some_iff.mp hp).1
        have hjv : vs[j]? = some (vs[j]'(by omega)) := List.getElem?_eq_getElem (by omega)
        refine wpAny_bind (wpAny_onRaise ?_)
        show wpAny _ _ (Builtin.SmallTypes.nextOf (.ref p.1) >>= _) _ _ _
        refine wpAny_bind (draw_one D m hp hl (hxk.trans hjv) fun h' m' hs' => wpAny_pure ?_)
        have hTO' : h'.get? TO = some (tObj a2) := (hs'.2 _ (D.pz p hm).2.2.1.symm).trans hTO2
        refine wpAny_bind (wpAny_seqItems hTO' rfl ?_)
        have hb1 : a2.size ≤ sizeLine := by rw [hs2, sizeLine_eq]; omega
        refine wpAny_bind (wpAny_updateSeq hTO' rfl ?_ hb1 (by rw [Array.size_setIfInBounds, hs2, sizeLine_eq]; omega))
        have sb := Heap.SameBut.update h' TO (Obj.mapSeq fun x => x.setIfInBounds (0 + j) (vs[j]'(by omega)))
        refine wpAny_bind (wpAny_letGo (wpAny_pure ⟨_, rfl, rfl, _, a2.setIfInBounds j (vs[j]'(by omega)), rfl, ⟨sb.1.trans m'.size, fun c o c1 c2 c3 e => (sb.2 c c2).trans (m'.keep c o c1 c2 c3 e), fun i q hq => ?_⟩, ?_, ?_, fun i hij => ?_, ?_⟩))
        · obtain ⟨o, e, c⟩ := m'.its i q hq
          exact ⟨o, (sb.2 _ (D.pz q (List.mem_of_getElem? hq)).2.2.1).trans e, c⟩
        · rw [sb.2 z D.oz.symm, hs'.2 z (D.pz p hm).1.symm]
          exact hz2
        · rw [Array.size_setIfInBounds]
          exact hs2
        · rw [Array.getElem?_setIfInBounds]
          by_cases e : j = i
          · subst e
            rw [if_pos rfl, if_pos (by omega)]
            exact hjv.symm
          · rw [if_neg e]
            exact pre i (by omega)
        · rw [Heap.get?_update_self _ hTO' rfl, Nat.zero_add]
          simp [Obj.mapSeq]
    case last =>
      obtain ⟨rfl, h, a2, rfl, m, hz2, hs2, pre, hTO2⟩ := hb
      rw [List.length_zipIdx, List.length_map] at m pre
      have ea : a2 = vs.toArray := by
        refine Array.ext_getElem? fun i => ?_
        by_cases hlt : i < ps.length
        · rw [pre i hlt, List.getElem?_toArray]
        · rw [Array.getElem?_eq_none (by omega), List.getElem?_toArray, List.getElem?_eq_none (by omega)]
      subst ea
      show wpAny _ _ (seqItems? (.ref TO) >>= _) _ _ _
      refine wpAny_bind (wpAny_seqItems hTO2 rfl ?_)
      refine wpAny_bind (wpAny_newTuple ?_ (by show vs.length ≤ _; rw [sizeLine_eq]; omega))
      show wpAny _ _ (Builtin.SmallTypes.ownedTupleHandOut (.ref z) (.ref h.objs.size) >>= _) _ _ _
      refine wpAny_bind ?_
      unfold Builtin.SmallTypes.ownedTupleHandOut
      have hzp : (h.push (tObj vs.toArray)).get? z = some (zObj .ellipsis f1 TI TO) := Heap.get?_push_of_some _ hz2
      refine wpAny_bind (wpAny_setField_rec hzp (by simp) fun h3 hz3 hs3 => ?_)
      replace hz3 : h3.get? z = some (zObj (rawInt h.objs.size) f1 TI TO) := hz3
      refine wpAny_setField_rec hz3 (by simp) fun h4 hz4 hs4 => ?_
      replace hz4 : h4.get? z = some (zObj (rawInt h.objs.size) (.bool false) TI TO) := hz4
      have hzlt : z < h.objs.size := Heap.lt_size hz2
      have up : ∀ c o, c ≠ z → h.get? c = some o → h4.get? c = some o := fun c o c1 e =>
        (hs4.2 c c1).trans ((hs3.2 c c1).trans (Heap.get?_push_of_some _ e))
      refine wpAny_pure ⟨_, rfl, ?_⟩
      show Q (.ref h.objs.size) _
      have key := hQ h4 ⟨⟨_, _, hz4, .inr ⟨_, _, rfl⟩⟩, up _ _ D.tz (m.keep TI _ D.tz D.it nTI hTI), ⟨_, hs2, up _ _ D.oz hTO2⟩, fun p hp => ?_⟩ ?_ ?_ fun c o c1 c2 c3 e => up c o c1 (m.keep c o c1 c2 c3 e)
      · rw [m.size]
        exact key
      · obtain ⟨o, e, c⟩ := m.full p hp
        exact ⟨o, up _ _ (D.pz p hp).1 e, c⟩
      · rw [← m.size, hs4.2 _ (Nat.ne_of_gt hzlt), hs3.2 _ (Nat.ne_of_gt hzlt)]
        exact Heap.get?_push_size _ rfl
      · rw [hs4.1, hs3.1, Heap.size_push, m.size]
  · simp only [Bool.false_eq_true, if_false, List.forIn_toArray]
    have nTI : ∀ p ∈ ps, TI ≠ p.1 := fun p hp q => (D.pz p hp).2.1 q.symm
    refine wpAny_bind (thn (wp_forIn _ _ (fun j b s2 => b = (none, (vs.take j).toArray) ∧ ∃ (h : Heap), s2 = { s with heap := h } ∧ ZMid s.heap h z TO ps k j ∧
      h.get? z = some (zObj f0 f2 TI TO) ∧ h.get? TO = some (tObj arr)) ?step _ _ ?init) fun b s2 hb => ?last)
    case init => exact ⟨rfl, h1, rfl, m0 h1 hs1, hz1, (hs1.2 _ D.oz).trans hTO⟩
    case step =>
      rintro j x b s2 hx ⟨rfl, h, rfl, m, hz2, hTO2⟩
      rw [List.getElem?_map] at hx
      cases hp : ps[j]? with
      | none =>
        rw [hp] at hx
        cases hx
      | some p =>
        rw [hp] at hx
        obtain rfl : Value.ref p.1 = x := Option.some.inj hx
        obtain ⟨xs, hl, hxk⟩ := hi j p hp
        have hm : p ∈ ps := List.mem_of_getElem? hp
        have hj : j < ps.length := (List.getElem?_eq_some_iff.mp hp).1
        have hjv : vs[j]? = some (vs[j]'(by omega)) := List.getElem?_eq_getElem (by omega)
        refine wpAny_bind (wpAny_holding ?_)
        show wpAny _ _ (Builtin.SmallTypes.nextOf (.ref p.1) >>= _) _ _ _
        refine wpAny_bind (draw_one D m hp hl (hxk.trans hjv) fun h' m' hs' => wpAny_pure (wpAny_pure ⟨_, rfl, ?_, h', rfl, m', ?_, ?_⟩))
        · rw [List.take_add_one, hjv]
          simp
        · exact (hs'.2 z (D.pz p hm).1.symm).trans hz2
        · exact (hs'.2 _ (D.pz p hm).2.2.1.symm).trans hTO2
    case last =>
      obtain ⟨rfl, h, rfl, m, hz2, hTO2⟩ := hb
      rw [List.length_map] at m
      rw [List.length_map, List.take_of_length_le (by omega)]
      have hsz : vs.length ≤ sizeLine := by rw [sizeLine_eq]; omega
      show wpAny _ _ (newTuple vs.toArray.toList >>= _) _ _ _
      refine wpAny_bind (wpAny_newTuple ?_ (by simpa using hsz))
      refine wpAny_pure ⟨_, rfl, ?_⟩
      have up : ∀ c o, h.get? c = some o → (h.push (tObj vs.toArray)).get? c = some o := fun c o e => Heap.get?_push_of_some _ e
      have key := hQ (h.push (tObj vs.toArray)) ⟨⟨_, _, up _ _ hz2, hf0⟩, up _ _ (m.keep TI _ D.tz D.it nTI hTI), ⟨_, ha, up _ _ hTO2⟩, fun p hp => ?_⟩ ?_ ?_ fun c o c1 c2 c3 e => up c o (m.keep c o c1 c2 c3 e)
      · show Q (.ref h.objs.size) _
        rw [m.size]
        exact key
      · obtain ⟨o, e, c⟩ := m.full p hp
        exact ⟨o, up _ _ e, c⟩
      · rw [← m.size]
        exact Heap.get?_push_size _ rfl
      · rw [Heap.size_push, m.size]
end
end DD
namespace DD
open PySem PySem.Spec PyProof.Rows L2
section
variable {prog : Program} {w : World} {A : Around} {E : Value → Shared → Prop} {s : Shared} {z TI TO : Addr} {ps : List (Addr × Addr)} {k : Nat}
theorem zn_end {Q : Fin → Shared → Prop} (hh : A.handled = none) (D : ZApart z TI TO ps) (S : ZSt s.heap z TI TO ps k) {p : Addr × Addr} {r : List (Addr × Addr)} {xs : Array Value}
    (hps : ps = p :: r) (hl : s.heap.IsTuple p.2 xs) (hx : xs[k]? = none)
    (hE : ∀ h' e, (∀ c o, c ≠ z → c ≠ TO → (∀ p ∈ ps, c ≠ p.1) → s.heap.get? c = some o → h'.get? c = some o) →
      (∃ o, h'.get? e = some o ∧ o.cls = .type "StopIteration") → E (.ref e) { s with heap := h' }) :
    wpAny (model prog w) A (Builtin.«zip.__next__» ⟨[.ref z], []⟩) Q E s := by
  obtain ⟨⟨f0, f1, hz, hf0⟩, hTI, ⟨arr, ha, hTO⟩, hits⟩ := S
  have hm : p ∈ ps := by rw [hps]; exact List.mem_cons_self
  show wpAny _ _ (field (.ref z) 2 >>= _) _ _ _
  refine wpAny_bind (wpAny_field hz rfl (x := .bool false) rfl ?_)
  show wpAny _ _ (field (.ref z) 3 >>= _) _ _ _
  refine wpAny_bind (wpAny_field hz rfl (x := .ref TI) rfl ?_)
  refine wpAny_bind (wpAny_seqItems hTI rfl ?_)
  have hne : (ps.map fun p => Value.ref p.1).toArray.isEmpty = false := by
    rw [hps]
    rfl
  simp only [hne, Bool.false_eq_true, if_false]
  have it1 := hits p hm
  have kz : ∀ h1, Heap.SameBut z s.heap h1 → h1.IsTupleIter p.1 p.2 k ∧ h1.IsTuple p.2 xs := fun h1 hs1 =>
    ⟨by obtain ⟨o, e, c⟩ := it1; exact ⟨o, (hs1.2 _ (D.pz p hm).1).trans e, c⟩, by obtain ⟨o, e, c⟩ := hl; exact ⟨o, (hs1.2 _ (D.pz p hm).2.2.2.1).trans e, c⟩⟩
  refine wpAny_bind (wpAny_mono (free_or hz hf0) (fun b s' hb => ?_) fun _ _ e => e)
  rcases hb with ⟨rfl, rfl⟩ | ⟨rfl, h1, f2, rfl, hz1, hs1⟩
  · simp only [if_true]
    refine wpAny_bind (wpAny_rule ?_)
    refine wpAny_bind (wpAny_field hz rfl (x := .ref TO) rfl ?_)
    refine wpAny_bind (wpAny_setField_rec hz (by simp) fun h1 hz1 hs1 => ?_)
    replace hz1 : h1.get? z = some (zObj .ellipsis f1 TI TO) := hz1
    obtain ⟨q1, q2⟩ := kz h1 hs1
    refine wpAny_bind ?_
    simp only [hps, List.map_cons, List.zipIdx_cons, List.forIn_cons]
    refine wpAny_bind (wpAny_bind (wpAny_onRaise ?_))
    show wpAny _ _ (Builtin.SmallTypes.nextOf (.ref p.1) >>= _) _ _ _
    refine wpAny_bind (RZ.nextOf_tuple_end (s := { s' with heap := h1 }) hh q1 q2 hx fun h2 e hs2 he => ?_)
    obtain ⟨oe, hoe, hce⟩ := he
    have hz2 : h2.get? z = some (zObj .ellipsis f1 TI TO) := hs2 _ _ (D.pz p hm).1.symm hz1
    have hez : e ≠ z := fun x => by
      subst x
      rw [hz2] at hoe
      cases hoe
      simp at hce
    refine wpAny_setField_rec hz2 (by simp) fun h3 _ hs3 => hE h3 e (fun c o c1 _ c3 x => (hs3.2 _ c1).trans (hs2 _ _ (c3 p hm) ((hs1.2 _ c1).trans x))) ⟨oe, (hs3.2 _ hez).trans hoe, hce⟩
  · simp only [Bool.false_eq_true, if_false, List.forIn_toArray]
    obtain ⟨q1, q2⟩ := kz h1 hs1
    refine wpAny_bind ?_
    simp only [hps, List.map_cons, List.forIn_cons]
    refine wpAny_bind (wpAny_bind (wpAny_holding ?_))
    show wpAny _ _ (Builtin.SmallTypes.nextOf (.ref p.1) >>= _) _ _ _
    refine wpAny_bind (RZ.nextOf_tuple_end (s := { s with heap := h1 }) hh q1 q2 hx fun h2 e hs2 he => hE h2 e (fun c o c1 _ c3 x => hs2 _ _ (c3 p hm) ((hs1.2 _ c1).trans x)) he)

theorem pyNext_zn_item {vs : List Value} {Q : Option Value → Shared → Prop} (D : ZApart z TI TO ps) (hn : 1 ≤ ps.length) (hn2 : ps.length ≤ 1000) (S : ZSt s.heap z TI TO ps k)
    (hv : vs.length = ps.length) (hi : ∀ (j : Nat) (p : Addr × Addr), ps[j]? = some p → ∃ xs, s.heap.IsTuple p.2 xs ∧ xs[k]? = vs[j]?)
    (hQ : ∀ h', ZSt h' z TI TO ps (k + 1) → h'.get? s.heap.objs.size = some (tObj vs.toArray) → h'.objs.size = s.heap.objs.size + 1 →
      (∀ c o, c ≠ z → c ≠ TO → (∀ p ∈ ps, c ≠ p.1) → s.heap.get? c = some o → h'.get? c = some o) → Q (some (.ref s.heap.objs.size)) { s with heap := h' }) :
    wpAny (model prog w) A (pyNext (.ref z)) Q E s := by
  obtain ⟨f0, f1, hz, hf0⟩ := S.zz
  have hT : s.TypeIs (.ref z) "zip" := ⟨_, hz, rfl⟩
  unfold pyNext
  exact wpAny_bind (wpAny_attempt (wpAny_callSpecial?_slot (name := Str.ofString "__next__") hT F.slot_zip_next
    (wpAny_call_entry F.slot_zip_next hT F.entry_zip_next (zn_item D hn hn2 S hv hi fun h' a1 a2 a3 a4 => wpAny_pure (hQ h' a1 a2 a3 a4)) (F.args_zip_next_1 _))))
theorem pyNext_zn_end {Q : Option Value → Shared → Prop} (hh : A.handled = none) (D : ZApart z TI TO ps) (S : ZSt s.heap z TI TO ps k) {p : Addr × Addr} {r : List (Addr × Addr)} {xs : Array Value}
    (hps : ps = p :: r) (hl : s.heap.IsTuple p.2 xs) (hx : xs[k]? = none)
    (hQ : ∀ h', (∀ c o, c ≠ z → c ≠ TO → (∀ p ∈ ps, c ≠ p.1) → s.heap.get? c = some o → h'.get? c = some o) → Q none { s with heap := h' }) :
    wpAny (model prog w) A (pyNext (.ref z)) Q E s := by
  obtain ⟨f0, f1, hz, hf0⟩ := S.zz
  have hT : s.TypeIs (.ref z) "zip" := ⟨_, hz, rfl⟩
  unfold pyNext
  refine wpAny_bind (wpAny_attempt (wpAny_callSpecial?_slot (name := Str.ofString "__next__") hT F.slot_zip_next
    (wpAny_call_entry F.slot_zip_next hT F.entry_zip_next (zn_end hh D S hps hl hx fun h' e hk he => ?_) (F.args_zip_next_1 _))))
  obtain ⟨o, ho, hc⟩ := he
  exact wpAny_bind (wpAny_isInstance (T := "StopIteration") (b := true) ⟨o, ho, hc⟩ isSubtype_stop (wpAny_pure (hQ _ hk)))

/-! ### zip of one to four tuples made -/
theorem typeCall_zipN : ∀ vs : List Value, 1 ≤ vs.length → vs.length ≤ 4 → checkTypeCall "zip" ⟨vs, []⟩ = pure ()
  | [a], _, _ => by kernel_rfl
  | [a, b], _, _ => by kernel_rfl
  | [a, b, c], _, _ => by kernel_rfl
  | [a, b, c, d], _, _ => by kernel_rfl
  | [], h, _ => by simp at h
  | _ :: _ :: _ :: _ :: _ :: _, _, h => by simp at h
theorem newCall_zipN : ∀ vs : List Value, 1 ≤ vs.length → vs.length ≤ 4 → checkBuiltinCall "zip.__new__" ⟨.type "zip" :: vs, []⟩ = pure ()
  | [a], _, _ => by kernel_rfl
  | [a, b], _, _ => by kernel_rfl
  | [a, b, c], _, _ => by kernel_rfl
  | [a, b, c, d], _, _ => by kernel_rfl
  | [], h, _ => by simp at h
  | _ :: _ :: _ :: _ :: _ :: _, _, h => by simp at h
theorem args_object_initN (o : Value) : ∀ vs : List Value, 1 ≤ vs.length → vs.length ≤ 4 → argsOk "object.__init__" ⟨o :: vs, []⟩
  | [a], _, _ => by
    unfold argsOk
    rw [signature?_of (id := "object.__init__") (n := ['_', '_', 't', 'i', 'n', 'i', '_', '_']) (o := ['t', 'c', 'e', 'j', 'b', 'o']) (by kernel_rfl) F.owner_object]
    kernel_rfl
  | [a, b], _, _ => by
    unfold argsOk
    rw [signature?_of (id := "object.__init__") (n := ['_', '_', 't', 'i', 'n', 'i', '_', '_']) (o := ['t', 'c', 'e', 'j', 'b', 'o']) (by kernel_rfl) F.owner_object]
    kernel_rfl
  | [a, b, c], _, _ => by
    unfold argsOk
    rw [signature?_of (id := "object.__init__") (n := ['_', '_', 't', 'i', 'n', 'i', '_', '_']) (o := ['t', 'c', 'e', 'j', 'b', 'o']) (by kernel_rfl) F.owner_object]
    kernel_rfl
  | [a, b, c, d], _, _ => by
    unfold argsOk
    rw [signature?_of (id := "object.__init__") (n := ['_', '_', 't', 'i', 'n', 'i', '_', '_']) (o := ['t', 'c', 'e', 'j', 'b', 'o']) (by kernel_rfl) F.owner_object]
    kernel_rfl
  | [], h, _ => by simp at h
  | _ :: _ :: _ :: _ :: _ :: _, _, h => by simp at h

theorem iterAll_tups {ls : List Addr} {Q : List Value → Shared → Prop} (hl : ∀ l ∈ ls, ∃ xs, s.heap.IsTuple l xs)
    (hQ : ∀ h' its, its.length = ls.length → (∀ i, i < ls.length → its[i]? = some (.ref (s.heap.objs.size + i))) → h'.objs.size = s.heap.objs.size + ls.length →
      (∀ c o, s.heap.get? c = some o → h'.get? c = some o) → (∀ (i : Nat) (l : Addr), ls[i]? = some l → h'.IsTupleIter (s.heap.objs.size + i) l 0) → Q its { s with heap := h' }) :
    wpAny (model prog w) A (Builtin.SmallTypes.iterAll (ls.map Value.ref)) Q E s := by
  unfold Builtin.SmallTypes.iterAll
  refine wpAny_bind (thn (wp_forIn _ _ (fun j (b : Array Value) s2 => b.size = j ∧ (∀ i, i < j → b[i]? = some (.ref (s.heap.objs.size + i))) ∧ ∃ h, s2 = { s with heap := h } ∧ h.objs.size = s.heap.objs.size + j ∧
    (∀ c o, s.heap.get? c = some o → h.get? c = some o) ∧ ∀ (i : Nat) (l : Addr), i < j → ls[i]? = some l → h.IsTupleIter (s.heap.objs.size + i) l 0) ?step _ _ ?init) fun b s2 hb => ?last)
  case init => exact ⟨rfl, fun i hi => absurd hi (Nat.not_lt_zero _), s.heap, rfl, rfl, fun _ _ e => e, fun i _ hi => absurd hi (Nat.not_lt_zero _)⟩
  case step =>
    rintro j x b s2 hx ⟨hbs, hb, h, rfl, hsz, hk, hit⟩
    rw [List.getElem?_map] at hx
    cases hp : ls[j]? with
    | none =>
      rw [hp] at hx
      cases hx
    | some l =>
      rw [hp] at hx
      obtain rfl : Value.ref l = x := Option.some.inj hx
      obtain ⟨xs, ol, e, c⟩ := hl l (List.mem_of_getElem? hp)
      refine wpAny_bind (wpAny_holding (wpAny_pyIter_tuple (s := { s with heap := h }) ⟨ol, hk _ _ e, c⟩ ?_))
      refine wpAny_pure ⟨_, rfl, by rw [Array.size_push, hbs], fun i hij => ?_, _, rfl, by rw [Heap.size_push, hsz]; omega, fun c o e => Heap.get?_push_of_some _ (hk c o e), fun i l' hij hl' => ?_⟩
      · show (b.push (Value.ref h.objs.size))[i]? = _
        rw [Array.getElem?_push]
        by_cases e : i = b.size
        · rw [if_pos e, hsz, e, hbs]
        · rw [if_neg e]
          exact hb i (by omega)
      · by_cases e : i = j
        · subst e
          rw [hp] at hl'
          cases hl'
          refine ⟨{ cls := .type "tuple_iterator", data := .fields #[.ref l, .int 0 0] }, ?_, rfl, rfl⟩
          rw [← hsz]
          exact Heap.get?_push_size _ rfl
        · obtain ⟨o, e1, c⟩ := hit i l' (by omega) hl'
          exact ⟨o, Heap.get?_push_of_some _ e1, c⟩
  case last =>
    obtain ⟨hbs, hb, h, rfl, hsz, hk, hit⟩ := hb
    rw [List.length_map] at hbs hb hsz hit
    refine wpAny_pure (hQ h b.toList (by rw [Array.length_toList]; exact hbs) (fun i hi => by rw [Array.getElem?_toList]; exact hb i hi) hsz hk fun i l e => ?_)
    exact hit i l (List.getElem?_eq_some_iff.mp e).1 e

theorem zip_newN {ls : List Addr} {Q : Value → Shared → Prop} (h1 : 1 ≤ ls.length) (h2 : ls.length ≤ 4) (hl : ∀ l ∈ ls, ∃ xs, s.heap.IsTuple l xs)
    (hQ : ∀ h' n, n = s.heap.objs.size → ZSt h' (n + ls.length + 2) (n + ls.length) (n + ls.length + 1) (ls.zipIdx.map fun x => (n + x.2, x.1)) 0 → h'.objs.size = n + ls.length + 3 →
      (∀ c o, s.heap.get? c = some o → h'.get? c = some o) → Q (.ref (n + ls.length + 2)) { s with heap := h' }) :
    wpAny (model prog w) A (Builtin.«zip.__new__» ⟨.type "zip" :: ls.map Value.ref, []⟩) (fun fin s' => ∃ v, fin = .done (.ret v) ∧ Q v s') E s := by
  have hsub := sub_zip
  have hc : wpAny (model prog w) A (Builtin.SmallTypes.newClass "zip" ⟨.type "zip" :: ls.map Value.ref, []⟩) (fun r s' => r = (.type "zip", ls.map Value.ref) ∧ s' = s) E s := by
    unfold Builtin.SmallTypes.newClass
    wp_walk
    exact ⟨rfl, rfl⟩
  unfold Builtin.«zip.__new__»
  refine wpAny_bind (thn hc ?_)
  rintro _ _s ⟨rfl, rfl⟩
  show wpAny _ _ (Builtin.SmallTypes.iterAll (ls.map Value.ref) >>= _) _ _ _
  refine wpAny_bind (iterAll_tups hl fun h1' its hil hi hsz hk hit => ?_)
  have hsl : its.length ≤ sizeLine := by rw [hil, sizeLine_eq]; omega
  refine wpAny_bind (wpAny_newTuple ?_ hsl)
  refine wpAny_bind (wpAny_newTuple ?_ (by rw [List.length_map]; exact hsl))
  refine wpAny_bind ?_
  unfold Builtin.SmallTypes.newRecord
  refine wpAny_newObj_type ?_ (show (5 : Nat) ≤ sizeLine + 2 by rw [sizeLine_eq]; omega)
  refine wpAny_pure ⟨_, rfl, ?_⟩
  have z1 : (h1'.push (tObj its.toArray)).objs.size = h1'.objs.size + 1 := Heap.size_push ..
  have z2 : ((h1'.push (tObj its.toArray)).push (tObj (its.map fun _ => Value.none).toArray)).objs.size = h1'.objs.size + 2 := by rw [Heap.size_push, z1]
  have fin : Q (.ref ((h1'.push (tObj its.toArray)).push (tObj (its.map fun _ => Value.none).toArray)).objs.size)
      { _s with heap := ((h1'.push (tObj its.toArray)).push (tObj (its.map fun _ => Value.none).toArray)).push (zObj .none (.bool false) h1'.objs.size (h1'.push (tObj its.toArray)).objs.size) } := by
    rw [z2, z1, hsz]
    refine hQ _ _ rfl ⟨⟨.none, .bool false, ?_, .inl rfl⟩, ?_, ⟨(its.map fun _ => Value.none).toArray, ?_, ?_⟩, fun p hp => ?_⟩ ?_ fun c o e => Heap.get?_push_of_some _ (Heap.get?_push_of_some _ (Heap.get?_push_of_some _ (hk c o e)))
    · rw [← hsz, ← z2]
      exact Heap.get?_push_size _ rfl
    · have e : its = (ls.zipIdx.map fun x => (_s.heap.objs.size + x.2, x.1)).map fun p => Value.ref p.1 := by
        refine List.ext_getElem? fun i => ?_
        rw [List.map_map, List.getElem?_map, List.getElem?_zipIdx]
        by_cases hlt : i < ls.length
        · rw [hi i hlt, List.getElem?_eq_getElem hlt]
          simp
        · rw [List.getElem?_eq_none (by omega), List.getElem?_eq_none (by omega)]
          rfl
      rw [← e, ← hsz]
      exact Heap.get?_push_of_some _ (Heap.get?_push_of_some _ (Heap.get?_push_size _ rfl))
    · simp [hil]
    · rw [← hsz, ← z1]
      exact Heap.get?_push_of_some _ (Heap.get?_push_size _ rfl)
    · obtain ⟨x, hx, rfl⟩ := List.mem_map.mp hp
      obtain ⟨i, hxi⟩ := List.mem_iff_getElem?.mp hx
      rw [List.getElem?_zipIdx] at hxi
      cases hl' : ls[i]? with
      | none =>
        rw [hl'] at hxi
        cases hxi
      | some l =>
        rw [hl'] at hxi
        obtain rfl : (l, 0 + i) = x := Option.some.inj hxi
        obtain ⟨o, e, c⟩ := hit i l hl'
        refine ⟨o, ?_, c⟩
        show Heap.get? _ (_s.heap.objs.size + (0 + i)) = some o
        rw [Nat.zero_add]
        exact Heap.get?_push_of_some _ (Heap.get?_push_of_some _ (Heap.get?_push_of_some _ e))
    · rw [Heap.size_push, z2, hsz]
  exact fin
end
end DD
namespace DD
open PySem PySem.Spec PyProof.Rows L2

/-- the iterators that zip(*ls) makes at n -/
def zps (n : Nat) (ls : List Addr) : List (Addr × Addr) := ls.zipIdx.map fun x => (n + x.2, x.1)
theorem zps_length (n : Nat) (ls : List Addr) : (zps n ls).length = ls.length := by simp [zps]
theorem zps_get (n : Nat) (ls : List Addr) (j : Nat) : (zps n ls)[j]? = (ls[j]?).map fun a => (n + j, a) := by
  unfold zps
  rw [List.getElem?_map, List.getElem?_zipIdx]
  cases ls[j]? with
  | none => rfl
  | some a => simp
theorem zps_mem {n : Nat} {ls : List Addr} {p : Addr × Addr} (h : p ∈ zps n ls) : ∃ j, j < ls.length ∧ ls[j]? = some p.2 ∧ p.1 = n + j := by
  obtain ⟨j, hj⟩ := List.mem_iff_getElem?.mp h
  rw [zps_get] at hj
  cases e : ls[j]? with
  | none => rw [e] at hj; cases hj
  | some a =>
    rw [e] at hj
    obtain rfl : (n + j, a) = p := Option.some.inj hj
    exact ⟨j, (List.getElem?_eq_some_iff.mp e).1, e, rfl⟩
theorem nat5 {a b n j L : Nat} (h3 : b < n) (h4 : a = n + j) (hj : j < L) : a ≠ n + L + 2 ∧ a ≠ n + L ∧ a ≠ n + L + 1 ∧ b ≠ n + L + 2 ∧ b ≠ n + L + 1 := by omega
theorem nat6 {a b n i : Nat} (h3 : b < n) (h4 : a = n + i) : b ≠ a := by omega
theorem zapart {n : Nat} {ls : List Addr} (h : ∀ l ∈ ls, l < n) : ZApart (n + ls.length + 2) (n + ls.length) (n + ls.length + 1) (zps n ls) where
  tz := Nat.ne_of_lt (show (n : Nat) + ls.length < n + ls.length + 2 by omega)
  oz := Nat.ne_of_lt (show (n : Nat) + ls.length + 1 < n + ls.length + 2 by omega)
  it := Nat.ne_of_lt (show (n : Nat) + ls.length < n + ls.length + 1 by omega)
  nd := by
    have e : (zps n ls).map (·.1) = (List.range ls.length).map (n + ·) := by
      refine List.ext_getElem? fun i => ?_
      rw [List.getElem?_map, zps_get, List.getElem?_map]
      by_cases hi : i < ls.length
      · rw [List.getElem?_eq_getElem hi, List.getElem?_range hi]
        rfl
      · rw [List.getElem?_eq_none (by omega), List.getElem?_eq_none (by simp; omega)]
        rfl
    rw [e]
    exact List.Pairwise.map _ (fun a b h e => h (Nat.add_left_cancel e)) List.nodup_range
  pz := fun p hp => by
    obtain ⟨j, hj, e, ep⟩ := zps_mem hp
    exact nat5 (h p.2 (List.mem_of_getElem? e)) ep hj
  px := fun p hp q hq => by
    obtain ⟨j, hj, e, ep⟩ := zps_mem hp
    obtain ⟨i, hi, e2, ep2⟩ := zps_mem hq
    exact nat6 (h p.2 (List.mem_of_getElem? e)) ep2

section
variable {prog : Program} {w : World} {A : Around} {E : Value → Shared → Prop} {s : Shared}
theorem call_zipN {ls : List Addr} {Q : Value → Shared → Prop} (h1 : 1 ≤ ls.length) (h2 : ls.length ≤ 4) (hl : ∀ l ∈ ls, ∃ xs, s.heap.IsTuple l xs)
    (hQ : ∀ h' n, n = s.heap.objs.size → ZSt h' (n + ls.length + 2) (n + ls.length) (n + ls.length + 1) (zps n ls) 0 → h'.objs.size = n + ls.length + 3 →
      (∀ c o, s.heap.get? c = some o → h'.get? c = some o) → Q (.ref (n + ls.length + 2)) { s with heap := h' }) :
    wpAny (model prog w) A (call (.type "zip") (ls.map Value.ref)) Q E s := by
  have m : Meets (Builtin.«zip.__new__» ⟨.type "zip" :: ls.map Value.ref, []⟩) (fun _ R s => (∀ l ∈ ls, ∃ xs, s.heap.IsTuple l xs) ∧
      ∀ h' n, n = s.heap.objs.size → ZSt h' (n + ls.length + 2) (n + ls.length) (n + ls.length + 1) (zps n ls) 0 → h'.objs.size = n + ls.length + 3 →
        (∀ c o, s.heap.get? c = some o → h'.get? c = some o) → R (.ok (.ret (.ref (n + ls.length + 2)))) { s with heap := h' }) :=
    .of_wp fun prog w A R s h => zip_newN h1 h2 h.1 h.2
  refine callType_new F.called_zip (by decide) (typeCall_zipN _ (by simpa using h1) (by simpa using h2)) (newCall_zipN _ (by simpa using h1) (by simpa using h2))
    (fun obj => args_object_initN obj _ (by simpa using h1) (by simpa using h2)) F.entry_zip_new m ⟨hl, fun h' n e1 e2 e3 e4 => ?_⟩
  obtain ⟨f0, f1, hz, _⟩ := e2.zz
  exact ⟨⟨_, hz, rfl⟩, hQ h' n e1 e2 e3 e4⟩
theorem pyIter_zn {z TI TO : Addr} {ps : List (Addr × Addr)} {k : Nat} {Q : Value → Shared → Prop} (S : ZSt s.heap z TI TO ps k) (h : Q (.ref z) s) : wpAny (model prog w) A (pyIter (.ref z)) Q E s := by
  obtain ⟨f0, f1, hz, _⟩ := S.zz
  have hT : s.TypeIs (.ref z) "zip" := ⟨_, hz, rfl⟩
  refine wpAny_pyIter_slot hT F.slot_zip_iter (wpAny_call_entry F.slot_zip_iter hT F.entry_zip_iter ?_ (F.args_zip_iter_1 _))
  exact (show wpAny _ _ (ret (.ref z)) _ _ s from wpAny_pure ⟨_, rfl, "zip", _, hT, F.slot_zip_next.lookup, h⟩)
end

/-- the tuples at ls hold rows, all of length m -/
structure Rws (K : PySem.W.Frag) (H : Hp) (ls : List Addr) (rows : List (List V)) (m : Nat) : Prop where
  len : ls.length = rows.length
  at_ : ∀ (j : Nat) (a : Addr) (r : List V), ls[j]? = some a → rows[j]? = some r → SqT K H a r ∧ r.length = m
def colV (rows : List (List V)) (i : Nat) : List V := rows.map fun r => r.getD i .non
def ItzN (K : PySem.W.Frag) (ls : List Addr) (rows : List (List V)) (m : Nat) : It :=
  ⟨fun i H => i < m ∧ Rws K H ls rows m, fun i H v H' => ∃ T, v = .ref T ∧ H T = none ∧ H' = upd H T (.tup (colV rows i)), fun i H => i = m ∧ Rws K H ls rows m⟩

theorem Rws.vals {X : Cx} {pins : List (Addr × Obj)} {σ : L2.St} {H : Hp} {s : Shared} {m i : Nat} (I : Inv X pins σ H s) (hi : i < m) : ∀ {ls : List Addr} {rows : List (List V)}, Rws X.K H ls rows m →
    ∃ us : List Value, Vals (colV rows i) us ∧ ∀ (j : Nat) (a : Addr), ls[j]? = some a → ∃ xs, s.heap.IsTuple a xs ∧ xs[i]? = us[j]?
  | [], [], _ => ⟨[], .nil, fun j a e => by simp at e⟩
  | [], _ :: _, R => by have := R.len; simp at this
  | _ :: _, [], R => by have := R.len; simp at this
  | a :: ls, r :: rows, R => by
    obtain ⟨us, h1, h2⟩ := Rws.vals I hi (ls := ls) (rows := rows) ⟨by have := R.len; simpa using this, fun j a' r' e1 e2 => R.at_ (j + 1) a' r' e1 e2⟩
    obtain ⟨q, hl⟩ := R.at_ 0 a r rfl rfl
    obtain ⟨its, rv, p, _⟩ := I.tuple q
    have hr : r[i]? = some (r.getD i .non) := by
      rw [List.getD_eq_getElem?_getD, List.getElem?_eq_getElem (by omega)]
      rfl
    obtain ⟨u, hu, ru⟩ := rv.get hr
    obtain ⟨o, ho, hc, n, hd⟩ := p
    refine ⟨u :: us, .cons ru h1, fun j a' e => ?_⟩
    cases j with
    | zero =>
      obtain rfl : a = a' := Option.some.inj e
      exact ⟨its.toArray, ⟨o, ho, hc, n, hd⟩, by simpa using hu⟩
    | succ j => exact h2 j a' e

theorem turn_zn {P : Program} {w : World} {K : PySem.W.Frag} {x : Str} {xp : Pos} {n m : Nat} {ls : List Addr} {rows : List (List V)} (h1 : 1 ≤ ls.length) (h2 : ls.length ≤ 4) (hlt : ∀ l ∈ ls, l < n) :
    Turn P w K (.Name x xp) (ItzN K ls rows m) ((n + ls.length + 2) :: (n + ls.length) :: (n + ls.length + 1) :: (zps n ls).map (·.1)) (n + ls.length + 2)
      (fun i h => ZSt h (n + ls.length + 2) (n + ls.length) (n + ls.length + 1) (zps n ls) i) where
  mem := List.mem_cons_self
  obj := fun i h S b hb => by
    obtain ⟨⟨f0, f1, hz, _⟩, hTI, ⟨arr, _, hTO⟩, hits⟩ := S
    rcases List.mem_cons.mp hb with rfl | hb
    · exact ⟨_, hz, fun v q => nomatch q⟩
    rcases List.mem_cons.mp hb with rfl | hb
    · exact ⟨_, hTI, fun v q => nomatch q⟩
    rcases List.mem_cons.mp hb with rfl | hb
    · exact ⟨_, hTO, fun v q => nomatch q⟩
    obtain ⟨p, hp, rfl⟩ := List.mem_map.mp hb
    obtain ⟨o, e, _, d⟩ := hits p hp
    exact ⟨o, e, fun v q => by rw [d] at q; cases q⟩
  keep := fun i h h' S k => by
    obtain ⟨⟨f0, f1, hz, hf⟩, hTI, ⟨arr, ha, hTO⟩, hits⟩ := S
    refine ⟨⟨f0, f1, k _ (by simp) _ hz, hf⟩, k _ (by simp) _ hTI, ⟨arr, ha, k _ (by simp) _ hTO⟩, fun p hp => ?_⟩
    obtain ⟨o, e, c⟩ := hits p hp
    exact ⟨o, k _ (by
      refine List.mem_cons_of_mem _ (List.mem_cons_of_mem _ (List.mem_cons_of_mem _ ?_))
      exact List.mem_map_of_mem hp) _ e, c⟩
  item := by
    intro X hP hw hK hc i pins s σ H E I hf S hg
    subst hP hw hK
    obtain ⟨hi, R⟩ := hg
    obtain ⟨us, hv, hx⟩ := R.vals I hi
    have hul : us.length = ls.length := by rw [← hv.length, R.len]; simp [colV]
    have D := zapart hlt
    refine pyNext_zn_item D (by rw [zps_length]; exact h1) (by rw [zps_length]; omega) S (vs := us) (by rw [zps_length]; exact hul) (fun j p e => ?_) fun h' S' hT hsz hk => ?_
    · rw [zps_get] at e
      cases ea : ls[j]? with
      | none => rw [ea] at e; cases e
      | some a =>
        rw [ea] at e
        obtain rfl : (n + j, a) = p := Option.some.inj e
        exact hx j a ea
    · refine ⟨_, rfl, ?_⟩
      have hcl : (colV rows i).length ≤ sizeLine := by
        rw [hv.length, hul, sizeLine_eq]
        omega
      have new : ObjOk X.prog X.w (upd H s.heap.objs.size (.tup (colV rows i))) h' s.heap.objs.size (.tup (colV rows i)) := ⟨hcl, us, hv, ⟨_, hT, rfl, _, rfl⟩⟩
      have I1 : Inv X pins σ (upd H s.heap.objs.size (.tup (colV rows i))) { s with heap := h' } :=
        I.turnedNew (t' := s.toks) (fun c o hb q => hk c o (fun z => hb (by simp [z])) (fun z => hb (by simp [z])) (fun p hp z => hb (by
          refine List.mem_cons_of_mem _ (List.mem_cons_of_mem _ (List.mem_cons_of_mem _ ?_))
          rw [z]
          exact List.mem_map_of_mem hp)) q) hf (Nat.le_refl _) new
      show wpAny _ _ (pure ()) _ _ _
      refine wpAny_pure ⟨.ref s.heap.objs.size, _, I1, rfl, ⟨_, rfl, I.hok.fresh (Nat.le_refl _), rfl⟩, S', fun c hcm => ?_⟩
      obtain ⟨o, ho, _⟩ : ∃ o, s.heap.get? c = some o ∧ True := by
        obtain ⟨⟨f0, f1, hz, _⟩, hTI, ⟨arr, _, hTO⟩, hits⟩ := S
        rcases List.mem_cons.mp hcm with rfl | hcm
        · exact ⟨_, hz, trivial⟩
        rcases List.mem_cons.mp hcm with rfl | hcm
        · exact ⟨_, hTI, trivial⟩
        rcases List.mem_cons.mp hcm with rfl | hcm
        · exact ⟨_, hTO, trivial⟩
        obtain ⟨p, hp, rfl⟩ := List.mem_map.mp hcm
        obtain ⟨o, e, _⟩ := hits p hp
        exact ⟨o, e, trivial⟩
      rw [upd_ne (Nat.ne_of_lt (Heap.lt_size ho))]
      exact (hf c hcm).1
  done := by
    intro X hP hw hK hc i pins s σ H E I hf S hg
    subst hP hw hK
    obtain ⟨rfl, R⟩ := hg
    cases hls : ls with
    | nil => rw [hls] at h1; simp at h1
    | cons a r =>
      cases hrw : rows with
      | nil => have := R.len; rw [hls, hrw] at this; simp at this
      | cons q rr =>
        obtain ⟨hq, hl⟩ := R.at_ 0 a q (by rw [hls]; rfl) (by rw [hrw]; rfl)
        obtain ⟨its, rv, ⟨o, ho, hc', n', hd⟩, _⟩ := I.tuple hq
        have hps : zps n ls = (n, a) :: (zps n ls).tail := by
          rw [hls]
          simp [zps]
        rw [← hls]
        refine pyNext_zn_end (I.ok.hd hc) (zapart hlt) S hps (xs := its.toArray) ⟨o, ho, hc', n', hd⟩ ?_ fun h' hk => ⟨rfl, ?_⟩
        · have := rv.length
          rw [List.getElem?_toArray, List.getElem?_eq_none (by omega)]
        · exact I.turnedL (t' := s.toks) (fun c o hb q => hk c o (fun z => hb (by simp [z])) (fun z => hb (by simp [z])) (fun p hp z => hb (by
            refine List.mem_cons_of_mem _ (List.mem_cons_of_mem _ (List.mem_cons_of_mem _ ?_))
            rw [z]
            exact List.mem_map_of_mem hp)) q) hf
  self := fun A i s Q E S h => pyIter_zn S h

/-- for x in zip(*e), e a list or tuple of one to four tuples of one length -/
def iZipS (K : PySem.W.Frag) (te : TE) : TI := fun σ H R => te σ H fun y H1 => ∃ (a : Addr) (ls : List Addr) (rows : List (List V)) (m : Nat), y = .ref a ∧ (SqT K H1 a (ls.map V.ref) ∨ SqL K H1 a (ls.map V.ref)) ∧
  1 ≤ ls.length ∧ ls.length ≤ 4 ∧ Rws K H1 ls rows m ∧ R (ItzN K ls rows m) H1
theorem vals_refs : ∀ {ls : List Addr} {us : List Value}, Vals (ls.map V.ref) us → us = ls.map Value.ref
  | [], _, .nil => rfl
  | a :: ls, _, .cons r t => by
    cases r
    rw [vals_refs t]
    rfl
theorem pi_zipS {X : Cx} {e : Expr} {te : TE} {p pos spos xp : Pos} {x : Str} (hg : Gl X "zip") (hm : X.mg "zip" = none) (he : PE X e te)
    (hst : starEach [.Starred e spos] X.env = [(true, eval e X.env)] := by rfl) :
    PI X (.Name x xp) (.Call (.Name "zip" p) [.Starred e spos] [] pos) (iZipS X.K te) := by
  refine ⟨fun pins s σ H R I h => ?_⟩
  refine wpAny_Call_Name_kw (ld_blt I hg hm PyProof.Rows.boot_zip ?_)
  rw [hst]
  refine PySem.W.ks_call (P := fun _ => True) rfl (fun h _ => ⟨.machine, .inr (.inl rfl), fun A Q E s _ q => wpAny_pure q⟩) (PySem.W.ks_lone ?_)
  refine thn (he.run pins s σ H _ I h) fun v s1 ⟨y, H1, I1, ry, a, ls, rows, m, ey, hx, h1, h2, Rw, q⟩ => ?_
  subst ey
  obtain rfl : v = Value.ref a := ry
  refine StX.star_any I1 hx fun us s2 I2 rv => ⟨trivial, ?_⟩
  obtain rfl := vals_refs rv
  have tup : ∀ l ∈ ls, ∃ xs, s2.heap.IsTuple l xs := fun l hl => by
    obtain ⟨j, hj⟩ := List.mem_iff_getElem?.mp hl
    have hjl := (List.getElem?_eq_some_iff.mp hj).1
    have hjr : rows[j]? = some (rows[j]'(by have := Rw.len; omega)) := List.getElem?_eq_getElem (by have := Rw.len; omega)
    obtain ⟨its, _, ⟨o, ho, hc, n, hd⟩, _⟩ := I2.tuple (Rw.at_ j l _ hj hjr).1
    exact ⟨its.toArray, o, ho, hc, n, hd⟩
  refine call_zipN h1 h2 tup fun h' n en S hsz hk => ?_
  have I3 : Inv X pins σ H1 { s2 with heap := h' } := I2.kept (t' := s2.toks) hk
  have hlt : ∀ l ∈ ls, l < n := fun l hl => by
    obtain ⟨xs, o, ho, _⟩ := tup l hl
    rw [en]
    exact Heap.lt_size ho
  refine pyIter_zn (s := { s2 with heap := h' }) S ⟨n + ls.length + 2, _, _, _, H1, rfl, I3, turn_zn h1 h2 hlt, S, fun b hb => ?_, q⟩
  have hle : s2.heap.objs.size ≤ b := by
    rw [← en]
    rcases List.mem_cons.mp hb with rfl | hb
    · omega
    rcases List.mem_cons.mp hb with rfl | hb
    · omega
    rcases List.mem_cons.mp hb with rfl | hb
    · omega
    obtain ⟨p, hp, rfl⟩ := List.mem_map.mp hb
    obtain ⟨j, _, _, e⟩ := zps_mem hp
    exact Nat.le_trans (Nat.le_add_right n j) (Nat.le_of_eq e.symm)
  have F := I2.fpOk hle (I2.hok.fresh hle)
  exact F
end DD
namespace DD
open PySem PySem.Spec PyProof.Rows L2
theorem draws_tup {prog : Program} {w : World} {A : Around} (hh : A.handled = none) (it t : Addr) (items : Array Value) (hne : t ≠ it) :
    Draws prog w A it [it, t] items.size (fun i v => items[i]? = some v) (fun i h => h.IsTupleIter it t i ∧ h.IsTuple t items) where
  live := fun i h S => by
    obtain ⟨⟨o, e, _⟩, _⟩ := S
    exact ⟨o, e⟩
  frame := fun i h h' S k => by
    obtain ⟨⟨o, e, c⟩, ⟨o2, e2, c2⟩⟩ := S
    exact ⟨⟨o, k it (by simp) o e, c⟩, ⟨o2, k t (by simp) o2 e2, c2⟩⟩
  item := fun i s Q E hi S hQ => by
    obtain ⟨S1, S2⟩ := S
    refine RZ.nextOf_tuple_item S1 S2 (x := items[i]) (by simp [hi]) fun h' hit hs => hQ _ h' s.toks (by simp [hi]) ⟨hit, ?_⟩ hs
    obtain ⟨o, e, c⟩ := S2
    exact ⟨o, (hs.2 _ hne).trans e, c⟩
  done := fun s Q E S hE => by
    obtain ⟨S1, S2⟩ := S
    exact RZ.nextOf_tuple_end hh S1 S2 (by simp) hE
theorem meets_enum_newT (l : Addr) (items : Array Value) : Meets (Builtin.«enumerate.__new__» ⟨[.type "enumerate", .ref l], []⟩) (fun _ R s => s.heap.IsTuple l items ∧
      R (.ok (.ret (.ref (s.heap.push { cls := .type "tuple_iterator", data := .fields #[.ref l, .int 0 0] }).objs.size)))
        { s with heap := (s.heap.push { cls := .type "tuple_iterator", data := .fields #[.ref l, .int 0 0] }).push { cls := .type "enumerate", data := .fields #[.none, .bool false, .ref s.heap.objs.size, rawInt 0, .none, .none] } }) :=
  .of_wp fun prog w A R s h => by
    obtain ⟨hp, g, d, tk, os⟩ := s
    obtain ⟨hT, h⟩ := h
    obtain ⟨oL, hoL, hcL, nL, hdL⟩ := id hT
    have hsub := sub_enumerate
    have hT' : Heap.IsTuple (Shared.heap ⟨hp, g, d, tk, os⟩) l items := hT
    wp_walk
    refine wpAny_stack_any fun st => wpAny_pure ?_
    split
    · rename_i c _ _ _ _ _
      cases (c == Value.type "enumerate")
      · wp_walk using wpAny_pyIter_tuple hT'
        exact ⟨_, rfl, h⟩
      · wp_walk using wpAny_pyIter_tuple hT'
        exact ⟨_, rfl, h⟩
    · wp_walk using wpAny_pyIter_tuple hT'
      exact ⟨_, rfl, h⟩
section
variable {prog : Program} {w : World} {A : Around} {E : Value → Shared → Prop} {s : Shared}
theorem call_enumT {l : Addr} {items : Array Value} {Q : Value → Shared → Prop} (hT : s.heap.IsTuple l items)
    (h : ∀ h', IsEnum h' (s.heap.objs.size + 1) s.heap.objs.size 0 .none → h'.IsTupleIter s.heap.objs.size l 0 →
      (∀ b o, s.heap.get? b = some o → h'.get? b = some o) → Q (.ref (s.heap.objs.size + 1)) { s with heap := h' }) :
    wpAny (model prog w) A (call (.type "enumerate") [.ref l]) Q E s := by
  refine callType_new F.called_enumerate (by decide) (F.typeCall_enumerate_1 _) (F.newCall_enumerate_1 _) (fun obj => F.args_object_init_2 obj _) F.entry_enumerate_new
    (meets_enum_newT l items) ⟨hT, ?_⟩
  have hz : (s.heap.push { cls := .type "tuple_iterator", data := .fields #[.ref l, .int 0 0] }).objs.size = s.heap.objs.size + 1 := Heap.size_push ..
  have he : IsEnum ((s.heap.push { cls := .type "tuple_iterator", data := .fields #[.ref l, .int 0 0] }).push
      { cls := .type "enumerate", data := .fields #[.none, .bool false, .ref s.heap.objs.size, rawInt 0, .none, .none] }) (s.heap.objs.size + 1) s.heap.objs.size 0 .none := by
    have q := Heap.get?_push_size (s.heap.push { cls := .type "tuple_iterator", data := .fields #[.ref l, .int 0 0] })
      (o := { cls := .type "enumerate", data := .fields #[.none, .bool false, .ref s.heap.objs.size, rawInt 0, .none, .none] }) rfl
    rw [hz] at q
    exact q
  show _ ∧ _
  rw [hz]
  exact ⟨⟨_, he, rfl⟩, h _ he ⟨_, Heap.get?_push_of_some _ (Heap.get?_push_size _ rfl), rfl, rfl⟩ fun b o x => Heap.get?_push_of_some _ (Heap.get?_push_of_some _ x)⟩
end

/-- the tuple at a, its items in new pairs, counted from c -/
def ItEnT (K : PySem.W.Frag) (a : Addr) (c : Int) : It :=
  ⟨fun i H => ∃ (xs : List V) (x : V), SqT K H a xs ∧ xs[i]? = some x,
    fun i H v H' => ∃ T x, v = .ref T ∧ H T = none ∧ H' = upd H T (.tup [.int (c + (i : Nat)), x]) ∧ ∀ xs, SqT K H a xs → xs[i]? = some x,
    fun i H => ∃ xs : List V, SqT K H a xs ∧ xs.length ≤ i⟩
theorem turn_enT {P : Program} {w : World} {K : PySem.W.Frag} {elts : List Expr} {kk : Nat} {tpos : Pos} (a e it : Addr) (c : Int) :
    Turn P w K (.Tuple elts kk tpos) (ItEnT K a c) [e, it] e (fun i h => (∃ old, IsEnum h e it (c + ((i : Nat) : Int)) old) ∧ h.IsTupleIter it a i ∧ e ≠ it) where
  mem := by simp
  obj := fun i h S b hb => by
    obtain ⟨⟨old, he⟩, ⟨o, ho, hc, hd⟩, _⟩ := S
    rcases List.mem_cons.mp hb with rfl | hb
    · exact ⟨_, he, fun v q => nomatch q⟩
    · rw [List.mem_singleton.mp hb]
      exact ⟨o, ho, fun v q => by rw [hd] at q; cases q⟩
  keep := fun i h h' S k => by
    obtain ⟨⟨old, he⟩, ⟨o, ho, r⟩, hne⟩ := S
    exact ⟨⟨old, k e (by simp) _ he⟩, ⟨o, k it (by simp) _ ho, r⟩, hne⟩
  item := by
    intro X hP hw hK hcalm i pins s σ H E I hf S hg
    subst hP hw hK
    obtain ⟨⟨old, he⟩, hit, hne⟩ := S
    obtain ⟨xs, x, hq, hx⟩ := hg
    obtain ⟨its, rv, ⟨oa, hoa, hca, na, hda⟩, _⟩ := I.tuple hq
    obtain ⟨u, hu, ru⟩ := rv.get hx
    obtain ⟨oi, hoi, hci, hdi⟩ := id hit
    have hai : a ≠ it := fun z => by
      rw [z, hoi] at hoa
      cases hoa
      rw [hca] at hci
      simp at hci
    have hea : e ≠ a := fun z => by
      have he2 := he
      unfold IsEnum at he2
      rw [z, hoa] at he2
      cases he2
      simp at hca
    have hef : e ∉ [it, a] := fun z => by
      rcases List.mem_cons.mp z with z | z
      · exact hne z
      · exact hea (List.mem_singleton.mp z)
    have hel : e < s.heap.objs.size := Heap.lt_size he
    have hil : it < s.heap.objs.size := Heap.lt_size hoi
    have D := draws_tup (prog := X.prog) (w := X.w) (A := X.A.in1) (I.ok.hd hcalm) it a its.toArray hai
    have hlt : i < its.toArray.size := by
      have := (List.getElem?_eq_some_iff.mp hu).1
      simpa using this
    refine wpAny_pyNext_enum_itemC D he ⟨hit, ⟨oa, hoa, hca, na, hda⟩⟩ hlt hne hef fun y h' tk hy ho hit' hT hsz hk => ?_
    obtain rfl : u = y := by
      have : its.toArray[i]? = some u := by simpa using hu
      rw [this] at hy
      exact Option.some.inj hy
    refine ⟨_, rfl, wpAny_letOwnedTupleGo_enum (s := { s with heap := h', toks := tk + 1 }) ho fun h'' he' sb => ?_⟩
    have hT2 : h''.get? s.heap.objs.size = some { cls := .type "tuple", data := .seq #[.int (c + (i : Nat)) tk, u] } := (sb.2 _ (Nat.ne_of_gt hel)).trans hT
    have new : ObjOk X.prog X.w (upd H s.heap.objs.size (.tup [.int (c + (i : Nat)), x])) h'' s.heap.objs.size (.tup [.int (c + (i : Nat)), x]) :=
      ⟨by show 2 ≤ sizeLine; decide, [.int (c + (i : Nat)) tk, u], .cons ⟨_, rfl⟩ (.cons ru .nil), ⟨_, hT2, rfl, _, rfl⟩⟩
    have I1 : Inv X pins σ (upd H s.heap.objs.size (.tup [.int (c + (i : Nat)), x])) { s with heap := h'', toks := tk + 1 } :=
      I.turnedNew (ch := [e, it]) (fun b ob hb q => (sb.2 b (fun z => hb (by simp [z]))).trans (hk b ob (fun z => hb (by simp [z])) (fun z => hb (by simp [z])) q)) hf (Nat.le_refl _) new
    obtain ⟨oi', hoi', r'⟩ := hit'.1
    refine ⟨.ref s.heap.objs.size, _, I1, rfl, ⟨_, x, rfl, I.hok.fresh (Nat.le_refl _), rfl, fun ys hy => by rw [I.tuple_inj hy hq]; exact hx⟩, ⟨⟨u, ?_⟩, ⟨oi', (sb.2 it (Ne.symm hne)).trans hoi', r'⟩, hne⟩, fun b hb => ?_⟩
    · have e1 : c + ((i + 1 : Nat) : Int) = c + (i : Int) + 1 := by omega
      rw [e1]
      exact he'
    · have hb' : b < s.heap.objs.size := by
        rcases List.mem_cons.mp hb with z | hb
        · rw [z]
          exact hel
        · rw [List.mem_singleton.mp hb]
          exact hil
      rw [upd_ne (Nat.ne_of_lt hb')]
      exact (hf b hb).1
  done := by
    intro X hP hw hK hcalm i pins s σ H E I hf S hg
    subst hP hw hK
    obtain ⟨⟨old, he⟩, hit, hne⟩ := S
    obtain ⟨xs, hq, hx⟩ := hg
    obtain ⟨its, rv, ⟨oa, hoa, hca, na, hda⟩, _⟩ := I.tuple hq
    obtain ⟨oi, hoi, hci, hdi⟩ := id hit
    have hl := rv.length
    obtain ⟨f0, f1, f2, f3, f4, f5⟩ := hf it (by simp)
    have hT : s.TypeIs (.ref e) "enumerate" := ⟨_, he, rfl⟩
    unfold pyNext
    refine wpAny_bind (wpAny_attempt (wpAny_callSpecial?_slot (name := Str.ofString "__next__") hT F.slot_enumerate_next
      (wpAny_call_entry F.slot_enumerate_next hT F.entry_enumerate_next ?_ (F.args_enumerate_next_1 _))))
    show wpAny _ _ (field (.ref e) 2 >>= _) _ _ _
    refine wpAny_bind (wpAny_field he rfl (x := .ref it) rfl ?_)
    refine wpAny_bind (RZ.nextOf_tuple_end (I.ok.hd hcalm) hit (show s.heap.IsTuple a its.toArray from ⟨oa, hoa, hca, na, hda⟩) (by simp; omega) fun h' y hy1 hy2 => ?_)
    obtain ⟨o, ho, hc⟩ := hy2
    exact wpAny_bind (wpAny_isInstance (T := "StopIteration") (b := true) ⟨o, ho, hc⟩ isSubtype_stop (wpAny_pure ⟨rfl, I.turned (t' := s.toks) (fun b o hb q => hy1 b o hb q) f0 f1 f3 f4 f5⟩))
  self := fun A i s Q E S h => by
    obtain ⟨⟨_, he⟩, _⟩ := S
    exact wpAny_pyIter_enum he h
def iEnumT (K : PySem.W.Frag) (ta : TA) : TI := fun σ H R => ta σ H fun vs H1 => ∃ a xs, vs = [.ref a] ∧ SqT K H1 a xs ∧ R (ItEnT K a 0) H1
theorem pi_enumT {X : Cx} {e : Expr} {ta : TA} {p pos tpos : Pos} {elts : List Expr} {kk : Nat} (hg : Gl X "enumerate") (hm : X.mg "enumerate" = none) (ha : PA X [e] ta)
    (hs : starEach [e] X.env = [(false, eval e X.env)] := by rfl) : PI X (.Tuple elts kk tpos) (.Call (.Name "enumerate" p) [e] [] pos) (iEnumT X.K ta) := by
  refine ⟨fun pins s σ H R I h => Call_ (ld_blt I hg hm boot_enumerate (PyProof.Rows.callWith_type1 (thn (ha.run pos pins s σ H _ I h) fun us s1 ⟨vs, H1, I1, r1, q1⟩ => ?_) hs rfl))⟩
  obtain ⟨a, xs, ex, hq, q⟩ := q1
  subst ex
  obtain ⟨u, rfl, ru⟩ := vals1 r1
  cases ru
  obtain ⟨its, rv, ⟨oa, hoa, hca, na, hda⟩, _⟩ := I1.tuple hq
  refine call_enumT (items := its.toArray) ⟨oa, hoa, hca, na, hda⟩ fun h' he hit hk => wpAny_pyIter_enum he ?_
  have I2 : Inv X pins σ H1 { s1 with heap := h' } := I1.kept (t' := s1.toks) hk
  refine ⟨s1.heap.objs.size + 1, [s1.heap.objs.size + 1, s1.heap.objs.size], _, _, H1, rfl, I2, turn_enT a (s1.heap.objs.size + 1) s1.heap.objs.size 0, ⟨⟨.none, he⟩, hit, Nat.succ_ne_self _⟩, fun b hb => ?_, q⟩
  have hle : s1.heap.objs.size ≤ b := by
    rcases List.mem_cons.mp hb with z | hb
    · rw [z]
      exact Nat.le_succ _
    · exact Nat.le_of_eq (List.mem_singleton.mp hb).symm
  exact I1.fpOk hle (I1.hok.fresh hle)
/-- a loop over enumerate(t) -/
theorem for_enT {K : PySem.W.Frag} {a : Addr} {xs : List V} {c : Int} {g : TG} {tb : TS} {D : Ends} {σ : L2.St} {H : Hp} (Pv : Nat → L2.St → Hp → Prop) (h0 : Pv 0 σ H) (hq : ∀ i σ H, i ≤ xs.length → Pv i σ H → SqT K H a xs)
    (hs : ∀ (i : Nat) (x : V) (T : Addr) (σ : L2.St) (H : Hp), xs[i]? = some x → Pv i σ H → H T = none →
      g (.ref T) σ (upd H T (.tup [.int (c + (i : Nat)), x])) fun σ2 H2 => tb { D with nx := Pv (i + 1), ct := Pv (i + 1), bk := D.nx } σ2 H2) (hd : ∀ σ H, Pv xs.length σ H → D.nx σ H) :
    ∃ W : Nat → Nat → L2.St → Hp → Prop, (∃ m, W 0 m σ H) ∧ ∀ i m σ H, W i m σ H → ((ItEnT K a c).stop i H ∧ D.nx σ H) ∨ ((ItEnT K a c).go i H ∧
      ∃ N : L2.St → Hp → Prop, (∀ σ' H', N σ' H' → ∃ m', m' < m ∧ W (i + 1) m' σ' H') ∧ ∀ v H', (ItEnT K a c).yld i H v H' →
        g v σ H' fun σ2 H2 => tb { D with nx := N, ct := N, bk := D.nx } σ2 H2) := by
  refine ⟨fun i m σ H => m = xs.length - i ∧ i ≤ xs.length ∧ Pv i σ H, ⟨xs.length, rfl, Nat.zero_le _, h0⟩, ?_⟩
  rintro i _ σ H ⟨rfl, hi, p⟩
  have q := hq i σ H hi p
  by_cases hlt : i < xs.length
  · have hx : xs[i]? = some xs[i] := List.getElem?_eq_getElem hlt
    refine .inr ⟨⟨xs, _, q, hx⟩, Pv (i + 1), fun σ' H' p' => ⟨xs.length - (i + 1), by omega, rfl, hlt, p'⟩, fun v H' y => ?_⟩
    obtain ⟨T, x', rfl, nT, rfl, f1⟩ := y
    exact hs i x' T σ H (f1 xs q) p nT
  · obtain rfl : i = xs.length := by omega
    exact .inl ⟨⟨xs, q, Nat.le_refl _⟩, hd σ H p⟩
end DD
namespace DD
open PySem PySem.Spec PyProof.Rows L2

/-! ### max and min of a tuple of ints -/
section
variable {prog : Program} {w : World} {A : Around} {E : Value → Shared → Prop} {s : Shared} {l : Addr} {xs : Array (Int × Tok)}
theorem max_intTup {Q : Value → Shared → Prop} (hh : A.handled = none) (hl : s.heap.IsTuple l (intItems xs)) (hne : 0 < xs.size)
    (h : ∀ v h' tk, (intItems xs)[argBest (fun i j => decide (numAt xs i > numAt xs j)) (xs.size - 1)]? = some v → (∀ b o, s.heap.get? b = some o → h'.get? b = some o) → Q v { s with heap := h', toks := tk }) :
    wpAny (model prog w) A (call (.builtin "max") [.ref l]) Q E s := by
  have hlt : l < s.heap.objs.size := by obtain ⟨_, e, _⟩ := hl; exact Heap.lt_size e
  refine call_max_walk (wpAny_pyIter_tuple hl ?_)
  refine ⟨_, _, _, _, _, _, _, rfl, Walks.tuple (A := A.in1) hh _ l (Nat.ne_of_lt hlt) (intItems xs), ⟨⟨_, Heap.get?_push_size _ rfl, rfl, rfl⟩, hl.push _⟩, fun b hb => ?_, by simpa [intItems] using hne, CmpOf.ints_gt (numAt xs) (fun _ _ => intItems_at), fun v h' tk hP hk => ?_⟩
  · show b < (s.heap.push _).objs.size
    rw [Heap.size_push]
    rcases List.mem_cons.mp hb with rfl | hb
    · exact Nat.lt_succ_self _
    · rcases List.mem_cons.mp hb with rfl | hb
      · exact Nat.lt_succ_of_lt hlt
      · cases hb
  · refine h v h' tk (by simpa [intItems] using hP) fun b o e => hk b o (fun hm => ?_) (Heap.get?_push_of_some _ e)
    rcases List.mem_cons.mp hm with e1 | hm
    · exact absurd (e1 ▸ Heap.lt_size e) (Nat.lt_irrefl _)
    · cases hm
theorem min_intTup {Q : Value → Shared → Prop} (hh : A.handled = none) (hl : s.heap.IsTuple l (intItems xs)) (hne : 0 < xs.size)
    (h : ∀ v h' tk, (intItems xs)[argBest (fun i j => decide (numAt xs i < numAt xs j)) (xs.size - 1)]? = some v → (∀ b o, s.heap.get? b = some o → h'.get? b = some o) → Q v { s with heap := h', toks := tk }) :
    wpAny (model prog w) A (call (.builtin "min") [.ref l]) Q E s := by
  have hlt : l < s.heap.objs.size := by obtain ⟨_, e, _⟩ := hl; exact Heap.lt_size e
  refine call_min_walk (wpAny_pyIter_tuple hl ?_)
  refine ⟨_, _, _, _, _, _, _, rfl, Walks.tuple (A := A.in1) hh _ l (Nat.ne_of_lt hlt) (intItems xs), ⟨⟨_, Heap.get?_push_size _ rfl, rfl, rfl⟩, hl.push _⟩, fun b hb => ?_, by simpa [intItems] using hne, CmpOf.ints_lt (numAt xs) (fun _ _ => intItems_at), fun v h' tk hP hk => ?_⟩
  · show b < (s.heap.push _).objs.size
    rw [Heap.size_push]
    rcases List.mem_cons.mp hb with rfl | hb
    · exact Nat.lt_succ_self _
    · rcases List.mem_cons.mp hb with rfl | hb
      · exact Nat.lt_succ_of_lt hlt
      · cases hb
  · refine h v h' tk (by simpa [intItems] using hP) fun b o e => hk b o (fun hm => ?_) (Heap.get?_push_of_some _ e)
    rcases List.mem_cons.mp hm with e1 | hm
    · exact absurd (e1 ▸ Heap.lt_size e) (Nat.lt_irrefl _)
    · cases hm
end
theorem ints_of_valsT : ∀ {ns : List Int} {us : List Value}, Vals (ns.map V.int) us → PyProof.Rows.IntsAre us ns
  | [], _, h => by
    cases h
    exact .nil
  | n :: ns, _, h => by
    cases h with
    | cons r t =>
      obtain ⟨k, rfl⟩ := r
      exact .cons n k (ints_of_valsT t)
def rMaxT (K : PySem.W.Frag) : List V → Hp → VK → Prop := fun vs H Q => ∃ (a : Addr) (ns : List Int), vs = [V.ref a] ∧ SqT K H a (ns.map V.int) ∧ 0 < ns.length ∧ ∀ m, m ∈ ns → (∀ y, y ∈ ns → y ≤ m) → Q (.int m) H
def rMinT (K : PySem.W.Frag) : List V → Hp → VK → Prop := fun vs H Q => ∃ (a : Addr) (ns : List Int), vs = [V.ref a] ∧ SqT K H a (ns.map V.int) ∧ 0 < ns.length ∧ ∀ m, m ∈ ns → (∀ y, y ∈ ns → m ≤ y) → Q (.int m) H
theorem cr_maxT {X : Cx} (hc : X.calm = true) : CallR X (.builtin "max") (rMaxT X.K) := by
  intro pins s σ H vs us Q I r h
  obtain ⟨a, ns, rfl, hq, hne, q⟩ := h
  obtain ⟨u, rfl, ru⟩ := vals1 r
  cases ru
  obtain ⟨its, rv, ⟨o, ho, hcl, n, hd⟩, _⟩ := I.tuple hq
  have ia := ints_of_valsT rv
  obtain ⟨xs, e⟩ := ia.allInts.items
  have hn : numsOf (intItems xs).toList = ns := by rw [← e]; exact ia.numsOf
  rw [nums_intItems] at hn
  have ht : s.heap.IsTuple a (intItems xs) := by rw [← e]; exact ⟨o, ho, hcl, n, hd⟩
  subst hn
  have hsz : 0 < xs.size := by simpa using hne
  refine max_intTup (I.ok.hd hc) ht hsz fun v h' tk hv hk => ?_
  obtain ⟨t, rfl⟩ := intItems_at hv
  obtain ⟨h1, h2⟩ := argBest_gt (numAt xs) (xs.size - 1)
  refine ⟨.int _, H, I.kept hk, ⟨_, rfl⟩, q _ ?_ fun a ha => ?_⟩
  · rw [numAt_eq]; exact PySem.getD_mem (by rw [List.length_map, Array.length_toList]; omega)
  · obtain ⟨j, hj, rfl⟩ := mem_getD ha
    rw [List.length_map, Array.length_toList] at hj
    rw [← numAt_eq]; exact h2 j (by omega)
theorem cr_minT {X : Cx} (hc : X.calm = true) : CallR X (.builtin "min") (rMinT X.K) := by
  intro pins s σ H vs us Q I r h
  obtain ⟨a, ns, rfl, hq, hne, q⟩ := h
  obtain ⟨u, rfl, ru⟩ := vals1 r
  cases ru
  obtain ⟨its, rv, ⟨o, ho, hcl, n, hd⟩, _⟩ := I.tuple hq
  have ia := ints_of_valsT rv
  obtain ⟨xs, e⟩ := ia.allInts.items
  have hn : numsOf (intItems xs).toList = ns := by rw [← e]; exact ia.numsOf
  rw [nums_intItems] at hn
  have ht : s.heap.IsTuple a (intItems xs) := by rw [← e]; exact ⟨o, ho, hcl, n, hd⟩
  subst hn
  have hsz : 0 < xs.size := by simpa using hne
  refine min_intTup (I.ok.hd hc) ht hsz fun v h' tk hv hk => ?_
  obtain ⟨t, rfl⟩ := intItems_at hv
  obtain ⟨h1, h2⟩ := argBest_lt (numAt xs) (xs.size - 1)
  refine ⟨.int _, H, I.kept hk, ⟨_, rfl⟩, q _ ?_ fun a ha => ?_⟩
  · rw [numAt_eq]; exact PySem.getD_mem (by rw [List.length_map, Array.length_toList]; omega)
  · obtain ⟨j, hj, rfl⟩ := mem_getD ha
    rw [List.length_map, Array.length_toList] at hj
    rw [← numAt_eq]; exact h2 j (by omega)
end DD
namespace DD
open PySem PySem.Spec PyProof.Rows L2 RZ

/-! ### for x in zip(a, b), two tuples of one length, the pair taken whole -/
def iZipP (K : PySem.W.Frag) (ta : TA) : TI := fun σ H R => ta σ H fun vs H1 => ∃ (a b : Addr) (xs ys : List V), vs = [.ref a, .ref b] ∧ SqT K H1 a xs ∧ SqT K H1 b ys ∧ xs.length = ys.length ∧ R (ItzN K [a, b] [xs, ys] xs.length) H1
theorem pi_zipP {X : Cx} {e e2 : Expr} {ta : TA} {p pos xp : Pos} {x : Str} (hg : Gl X "zip") (hm : X.mg "zip" = none) (ha : PA X [e, e2] ta)
    (hs : starEach [e, e2] X.env = (false, eval e X.env) :: starEach [e2] X.env := by rfl) (hpl : (backTo pos (starEach [e2] X.env)).any (·.1) = false := by rfl) :
    PI X (.Name x xp) (.Call (.Name "zip" p) [e, e2] [] pos) (iZipP X.K ta) := by
  refine ⟨fun pins s σ H R I h => ?_⟩
  refine Call_ (ld_blt I hg hm PyProof.Rows.boot_zip (PyProof.Rows.callWith_type1 (thn (ha.run pos pins s σ H _ I h) fun us s2 ⟨vs, H1, I2, r1, q1⟩ => ?_) hs hpl))
  obtain ⟨a, b, xs, ys, ex, hx, hy, hl, q⟩ := q1
  subst ex
  obtain rfl := vals_refs (ls := [a, b]) r1
  have Rw : Rws X.K H1 [a, b] [xs, ys] xs.length := ⟨rfl, fun j l r e1 e2 => by
    match j, e1, e2 with
    | 0, e1, e2 => cases e1; cases e2; exact ⟨hx, rfl⟩
    | 1, e1, e2 => cases e1; cases e2; exact ⟨hy, hl.symm⟩⟩
  have h1 : 1 ≤ [a, b].length := by simp
  have h2 : [a, b].length ≤ 4 := by simp
  have tup : ∀ l ∈ [a, b], ∃ xs, s2.heap.IsTuple l xs := fun l hl => by
    obtain ⟨j, hj⟩ := List.mem_iff_getElem?.mp hl
    have hjl := (List.getElem?_eq_some_iff.mp hj).1
    have hjr : [xs, ys][j]? = some ([xs, ys][j]'(by have := Rw.len; omega)) := List.getElem?_eq_getElem (by have := Rw.len; omega)
    obtain ⟨its, _, ⟨o, ho, hc, n, hd⟩, _⟩ := I2.tuple (Rw.at_ j l _ hj hjr).1
    exact ⟨its.toArray, o, ho, hc, n, hd⟩
  refine call_zipN h1 h2 tup fun h' n en S hsz hk => ?_
  have I3 : Inv X pins σ H1 { s2 with heap := h' } := I2.kept (t' := s2.toks) hk
  have hlt : ∀ l ∈ [a, b], l < n := fun l hl => by
    obtain ⟨xs, o, ho, _⟩ := tup l hl
    rw [en]
    exact Heap.lt_size ho
  refine pyIter_zn (s := { s2 with heap := h' }) S ⟨n + [a, b].length + 2, _, _, _, H1, rfl, I3, turn_zn h1 h2 hlt, S, fun b' hb => ?_, q⟩
  have hle : s2.heap.objs.size ≤ b' := by
    rw [← en]
    rcases List.mem_cons.mp hb with rfl | hb
    · omega
    rcases List.mem_cons.mp hb with rfl | hb
    · omega
    rcases List.mem_cons.mp hb with rfl | hb
    · omega
    obtain ⟨p, hp, rfl⟩ := List.mem_map.mp hb
    obtain ⟨j, _, _, e⟩ := zps_mem hp
    exact Nat.le_trans (Nat.le_add_right n j) (Nat.le_of_eq e.symm)
  exact I2.fpOk hle (I2.hok.fresh hle)

/-- a comprehension over zip of two tuples of one length -/
theorem lc_zipT {K : PySem.W.Frag} {a b : Addr} {xs ys : List V} {g : TG} {tt : TT} {te : TE} {vs : List Nat} {σ : L2.St} {H1 : Hp} {D : Addr} {Qd : Hp → Prop} (hl : xs.length = ys.length)
    (Pv : Nat → Hp → Prop) (h0 : Pv 0 (upd H1 D (.lst []))) (hq : ∀ i H, i ≤ xs.length → Pv i H → SqT K H a xs ∧ SqT K H b ys)
    (hs : ∀ i x y T H, xs[i]? = some x → ys[i]? = some y → Pv i H → H T = none → g (.ref T) (wipe σ vs) (upd H T (.tup [x, y])) fun σ2 H2 => wipe σ2 vs = wipe σ vs ∧ tt σ2 H2 fun b H3 =>
      if b = true then (te σ2 H3 fun y H4 => ∃ acc, H4 D = some (.lst acc) ∧ acc.length < sizeLine ∧ Pv (i + 1) (upd H4 D (.lst (acc ++ [y])))) else Pv (i + 1) H3) (hd : ∀ H, Pv xs.length H → Qd H) :
    ∃ W : Nat → Nat → Hp → Prop, (∃ m, W 0 m (upd H1 D (.lst []))) ∧ ∀ i m0 H, W i m0 H → ((ItzT K a b).stop i H ∧ Qd H) ∨ ((ItzT K a b).go i H ∧
      ∃ Nx : Hp → Prop, (∀ H', Nx H' → ∃ m', m' < m0 ∧ W (i + 1) m' H') ∧ ∀ x H', (ItzT K a b).yld i H x H' → g x (wipe σ vs) H' fun σ2 H2 => wipe σ2 vs = wipe σ vs ∧
        tt σ2 H2 fun b H3 => if b = true then (te σ2 H3 fun y H4 => ∃ acc, H4 D = some (.lst acc) ∧ acc.length < sizeLine ∧ Nx (upd H4 D (.lst (acc ++ [y])))) else Nx H3) := by
  refine ⟨fun i m0 H => m0 = xs.length - i ∧ i ≤ xs.length ∧ Pv i H, ⟨xs.length, by simp, Nat.zero_le _, h0⟩, ?_⟩
  rintro i _ H ⟨rfl, hi, p⟩
  obtain ⟨qx, qy⟩ := hq i H hi p
  by_cases hlt : i < xs.length
  · have hx : xs[i]? = some xs[i] := List.getElem?_eq_getElem hlt
    have hlt2 : i < ys.length := by omega
    have hy : ys[i]? = some ys[i] := List.getElem?_eq_getElem hlt2
    refine .inr ⟨⟨xs, ys, _, _, qx, qy, hx, hy⟩, Pv (i + 1), fun H' p' => ⟨xs.length - (i + 1), by omega, rfl, hlt, p'⟩, fun v H' y => ?_⟩
    obtain ⟨T, x', y', rfl, hT, rfl, f1, f2⟩ := y
    exact hs i x' y' T H (f1 xs qx) (f2 ys qy) p hT
  · have e : i = xs.length := by omega
    subst e
    exact .inl ⟨⟨xs, ys, qx, qy, Or.inl (Nat.le_refl _)⟩, hd H p⟩
/-- a comprehension over zip(*..) of tuples of one length -/
theorem lc_zipN {K : PySem.W.Frag} {ls : List Addr} {rows : List (List V)} {m : Nat} {g : TG} {tt : TT} {te : TE} {vs : List Nat} {σ : L2.St} {H1 : Hp} {D : Addr} {Qd : Hp → Prop}
    (Pv : Nat → Hp → Prop) (h0 : Pv 0 (upd H1 D (.lst []))) (hl : ∀ i H, i ≤ m → Pv i H → Rws K H ls rows m)
    (hs : ∀ i T H, i < m → Pv i H → H T = none → g (.ref T) (wipe σ vs) (upd H T (.tup (colV rows i))) fun σ2 H2 => wipe σ2 vs = wipe σ vs ∧ tt σ2 H2 fun b H3 =>
      if b = true then (te σ2 H3 fun y H4 => ∃ acc, H4 D = some (.lst acc) ∧ acc.length < sizeLine ∧ Pv (i + 1) (upd H4 D (.lst (acc ++ [y])))) else Pv (i + 1) H3) (hd : ∀ H, Pv m H → Qd H) :
    ∃ W : Nat → Nat → Hp → Prop, (∃ m, W 0 m (upd H1 D (.lst []))) ∧ ∀ i m0 H, W i m0 H → ((ItzN K ls rows m).stop i H ∧ Qd H) ∨ ((ItzN K ls rows m).go i H ∧
      ∃ Nx : Hp → Prop, (∀ H', Nx H' → ∃ m', m' < m0 ∧ W (i + 1) m' H') ∧ ∀ x H', (ItzN K ls rows m).yld i H x H' → g x (wipe σ vs) H' fun σ2 H2 => wipe σ2 vs = wipe σ vs ∧
        tt σ2 H2 fun b H3 => if b = true then (te σ2 H3 fun y H4 => ∃ acc, H4 D = some (.lst acc) ∧ acc.length < sizeLine ∧ Nx (upd H4 D (.lst (acc ++ [y])))) else Nx H3) := by
  refine ⟨fun i m0 H => m0 = m - i ∧ i ≤ m ∧ Pv i H, ⟨m, by simp, Nat.zero_le _, h0⟩, ?_⟩
  rintro i _ H ⟨rfl, hi, p⟩
  have q := hl i H hi p
  by_cases hlt : i < m
  · refine .inr ⟨⟨hlt, q⟩, Pv (i + 1), fun H' p' => ⟨m - (i + 1), by omega, rfl, hlt, p'⟩, fun x H' y => ?_⟩
    obtain ⟨T, rfl, nT, rfl⟩ := y
    exact hs i T H hlt p nT
  · obtain rfl : i = m := by omega
    exact .inl ⟨⟨rfl, q⟩, hd H p⟩

end DD
namespace DD
open PySem PySem.Spec PyProof.Rows L2 RZ
theorem walk_enT {K : PySem.W.Frag} {a : Addr} {xs : List V} {c : Int} : Walk (ItEnT K a c) xs.length (fun H => SqT K H a xs) (YPair (fun i => some (.int (c + (i : Nat)))) (fun i => xs[i]?)) := by
  refine ⟨fun i _ hi q => ⟨xs, xs[i], q, by simp [hi]⟩, fun _ q => ⟨xs, q, Nat.le_refl _⟩, fun i H v H' _ q y => ?_⟩
  obtain ⟨T, x, h1, h2, h3, h4⟩ := y
  exact ⟨T, .int (c + (i : Nat)), x, h1, h2, h3, rfl, h4 xs q⟩

/-! ### two clauses in one comprehension -/
section
variable {J J1 : It} {n n1 : Nat} {G G1 : Hp → Prop} {Y Y1 : Nat → Hp → V → Hp → Prop}
theorem lc2_it (w : Walk J n G Y) {g g1 : TG} {tt tt1 : TT} {te : TE} {wi1 : TI} {vs vs1 : List Nat} {σ : L2.St} {H1 : Hp} {D : Addr} {Qd : Hp → Prop} (Pv : Nat → Hp → Prop) (h0 : Pv 0 (upd H1 D (.lst []))) (hG : ∀ i H, i ≤ n → Pv i H → G H)
    (hs : ∀ i x H H', i < n → Pv i H → Y i H x H' → g x (wipe σ vs) H' fun σ2 H2 => wipe σ2 vs = wipe σ vs ∧ tt σ2 H2 fun b H3 =>
      if b = true then wi1 σ2 H3 fun J1 H4 => ∃ W1 : Nat → Nat → Hp → Prop, (∃ m, W1 0 m H4) ∧ ∀ j k H, W1 j k H →
      (J1.stop j H ∧ Pv (i + 1) H) ∨ (J1.go j H ∧ ∃ Nx1 : Hp → Prop, (∀ H', Nx1 H' → ∃ k', k' < k ∧ W1 (j + 1) k' H') ∧ ∀ x H', J1.yld j H x H' → g1 x (wipe σ2 vs1) H' fun σ3 H5 => wipe σ3 vs1 = wipe σ2 vs1 ∧ tt1 σ3 H5 fun b H6 =>
        if b = true then te σ3 H6 fun y H7 => ∃ acc, H7 D = some (.lst acc) ∧ acc.length < sizeLine ∧ Nx1 (upd H7 D (.lst (acc ++ [y]))) else Nx1 H6)
      else Pv (i + 1) H3) (hd : ∀ H, Pv n H → Qd H) :
    ∃ W : Nat → Nat → Hp → Prop, (∃ m, W 0 m (upd H1 D (.lst []))) ∧ ∀ i m H, W i m H →
  (J.stop i H ∧ Qd H) ∨ (J.go i H ∧ ∃ Nx : Hp → Prop, (∀ H', Nx H' → ∃ m', m' < m ∧ W (i + 1) m' H') ∧ ∀ x H', J.yld i H x H' → g x (wipe σ vs) H' fun σ2 H2 => wipe σ2 vs = wipe σ vs ∧ tt σ2 H2 fun b H3 =>
    if b = true then wi1 σ2 H3 fun J1 H4 => ∃ W1 : Nat → Nat → Hp → Prop, (∃ m, W1 0 m H4) ∧ ∀ j k H, W1 j k H →
      (J1.stop j H ∧ Nx H) ∨ (J1.go j H ∧ ∃ Nx1 : Hp → Prop, (∀ H', Nx1 H' → ∃ k', k' < k ∧ W1 (j + 1) k' H') ∧ ∀ x H', J1.yld j H x H' → g1 x (wipe σ2 vs1) H' fun σ3 H5 => wipe σ3 vs1 = wipe σ2 vs1 ∧ tt1 σ3 H5 fun b H6 =>
        if b = true then te σ3 H6 fun y H7 => ∃ acc, H7 D = some (.lst acc) ∧ acc.length < sizeLine ∧ Nx1 (upd H7 D (.lst (acc ++ [y]))) else Nx1 H6)
    else Nx H3) := by
  refine ⟨fun i m H => m = n - i ∧ i ≤ n ∧ Pv i H, ⟨n, by simp, Nat.zero_le _, h0⟩, ?_⟩
  rintro i m H ⟨rfl, hi, p⟩
  have q := hG i H hi p
  by_cases hlt : i < n
  · refine .inr ⟨w.goes i H hlt q, Pv (i + 1), fun H' p' => ⟨n - (i + 1), by omega, rfl, hlt, p'⟩, fun x H' y => hs i x H H' hlt p (w.yields i H x H' hlt q y)⟩
  · have e : i = n := by omega
    subst e
    exact .inl ⟨w.stops H q, hd H p⟩
theorem lci_it (w : Walk J1 n1 G1 Y1) {g1 : TG} {tt1 : TT} {te : TE} {vs1 : List Nat} {σ2 : L2.St} {H4 : Hp} {D : Addr} {Nx : Hp → Prop} (Pv : Nat → Hp → Prop) (h0 : Pv 0 H4) (hG : ∀ i H, i ≤ n1 → Pv i H → G1 H)
    (hs : ∀ j x H H', j < n1 → Pv j H → Y1 j H x H' → g1 x (wipe σ2 vs1) H' fun σ3 H5 => wipe σ3 vs1 = wipe σ2 vs1 ∧ tt1 σ3 H5 fun b H6 =>
        if b = true then te σ3 H6 fun y H7 => ∃ acc, H7 D = some (.lst acc) ∧ acc.length < sizeLine ∧ Pv (j + 1) (upd H7 D (.lst (acc ++ [y]))) else Pv (j + 1) H6) (hd : ∀ H, Pv n1 H → Nx H) :
    ∃ W1 : Nat → Nat → Hp → Prop, (∃ m, W1 0 m H4) ∧ ∀ j k H, W1 j k H →
      (J1.stop j H ∧ Nx H) ∨ (J1.go j H ∧ ∃ Nx1 : Hp → Prop, (∀ H', Nx1 H' → ∃ k', k' < k ∧ W1 (j + 1) k' H') ∧ ∀ x H', J1.yld j H x H' → g1 x (wipe σ2 vs1) H' fun σ3 H5 => wipe σ3 vs1 = wipe σ2 vs1 ∧ tt1 σ3 H5 fun b H6 =>
        if b = true then te σ3 H6 fun y H7 => ∃ acc, H7 D = some (.lst acc) ∧ acc.length < sizeLine ∧ Nx1 (upd H7 D (.lst (acc ++ [y]))) else Nx1 H6) := by
  refine ⟨fun i m H => m = n1 - i ∧ i ≤ n1 ∧ Pv i H, ⟨n1, by simp, Nat.zero_le _, h0⟩, ?_⟩
  rintro i m H ⟨rfl, hi, p⟩
  have q := hG i H hi p
  by_cases hlt : i < n1
  · refine .inr ⟨w.goes i H hlt q, Pv (i + 1), fun H' p' => ⟨n1 - (i + 1), by omega, rfl, hlt, p'⟩, fun x H' y => hs i x H H' hlt p (w.yields i H x H' hlt q y)⟩
  · have e : i = n1 := by omega
    subst e
    exact .inl ⟨w.stops H q, hd H p⟩
end
end DD
namespace DD
open PySem PySem.Spec PyProof.Rows L2 RZ
/-! ### enumerate(zip(*rows)) -/
theorem nat7 {p n j L : Nat} (h1 : p = n + L + 3) (h2 : p = n + j) (h3 : j < L) : False := by omega
def zfp (z TI TO : Addr) (ps : List (Addr × Addr)) : List Addr := z :: TI :: TO :: ps.map (·.1)
theorem ZSt.keeps {h h' : Heap} {z TI TO : Addr} {ps : List (Addr × Addr)} {k : Nat} (S : ZSt h z TI TO ps k) (q : ∀ b ∈ zfp z TI TO ps, ∀ o, h.get? b = some o → h'.get? b = some o) : ZSt h' z TI TO ps k := by
  obtain ⟨⟨f0, f1, hz, hf⟩, hTI, ⟨arr, ha, hTO⟩, hits⟩ := S
  refine ⟨⟨f0, f1, q _ (by simp [zfp]) _ hz, hf⟩, q _ (by simp [zfp]) _ hTI, ⟨arr, ha, q _ (by simp [zfp]) _ hTO⟩, fun p hp => ?_⟩
  obtain ⟨o, e, c⟩ := hits p hp
  exact ⟨o, q _ (by
    refine List.mem_cons_of_mem _ (List.mem_cons_of_mem _ (List.mem_cons_of_mem _ ?_))
    exact List.mem_map_of_mem hp) _ e, c⟩
section
variable {prog : Program} {w : World} {A : Around} {E : Value → Shared → Prop} {s : Shared} {z TI TO : Addr} {ps : List (Addr × Addr)} {k : Nat}
theorem nextOf_zn_item {vs : List Value} {Q : Value → Shared → Prop} (D : ZApart z TI TO ps) (hn : 1 ≤ ps.length) (hn2 : ps.length ≤ 1000) (S : ZSt s.heap z TI TO ps k)
    (hv : vs.length = ps.length) (hi : ∀ (j : Nat) (p : Addr × Addr), ps[j]? = some p → ∃ xs, s.heap.IsTuple p.2 xs ∧ xs[k]? = vs[j]?)
    (hQ : ∀ h', ZSt h' z TI TO ps (k + 1) → h'.get? s.heap.objs.size = some (tObj vs.toArray) → h'.objs.size = s.heap.objs.size + 1 →
      (∀ c o, c ≠ z → c ≠ TO → (∀ p ∈ ps, c ≠ p.1) → s.heap.get? c = some o → h'.get? c = some o) → Q (.ref s.heap.objs.size) { s with heap := h' }) :
    wpAny (model prog w) A (Builtin.SmallTypes.nextOf (.ref z)) Q E s := by
  obtain ⟨f0, f1, hz, hf0⟩ := S.zz
  have hT : s.TypeIs (.ref z) "zip" := ⟨_, hz, rfl⟩
  unfold Builtin.SmallTypes.nextOf
  exact wpAny_bind (wpAny_callSpecial?_slot (name := Str.ofString "__next__") hT F.slot_zip_next
    (wpAny_call_entry F.slot_zip_next hT F.entry_zip_next (zn_item D hn hn2 S hv hi fun h' a1 a2 a3 a4 => wpAny_pure (hQ h' a1 a2 a3 a4)) (F.args_zip_next_1 _)))
theorem nextOf_zn_end {Q : Value → Shared → Prop} (hh : A.handled = none) (D : ZApart z TI TO ps) (S : ZSt s.heap z TI TO ps k) {p : Addr × Addr} {r : List (Addr × Addr)} {xs : Array Value}
    (hps : ps = p :: r) (hl : s.heap.IsTuple p.2 xs) (hx : xs[k]? = none)
    (hE : ∀ h' e, (∀ c o, c ≠ z → c ≠ TO → (∀ p ∈ ps, c ≠ p.1) → s.heap.get? c = some o → h'.get? c = some o) →
      (∃ o, h'.get? e = some o ∧ o.cls = .type "StopIteration") → E (.ref e) { s with heap := h' }) :
    wpAny (model prog w) A (Builtin.SmallTypes.nextOf (.ref z)) Q E s := by
  obtain ⟨f0, f1, hz, hf0⟩ := S.zz
  have hT : s.TypeIs (.ref z) "zip" := ⟨_, hz, rfl⟩
  unfold Builtin.SmallTypes.nextOf
  exact wpAny_bind (wpAny_callSpecial?_slot (name := Str.ofString "__next__") hT F.slot_zip_next
    (wpAny_call_entry F.slot_zip_next hT F.entry_zip_next (zn_end hh D S hps hl hx hE) (F.args_zip_next_1 _)))

theorem ez_next_item {e : Addr} {c : Int} {old : Value} {vs : List Value} {Q : Value → Shared → Prop} (D : ZApart z TI TO ps) (hn : 1 ≤ ps.length) (hn2 : ps.length ≤ 1000)
    (he : IsEnum s.heap e z c old) (S : ZSt s.heap z TI TO ps k) (hv : vs.length = ps.length) (hi : ∀ (j : Nat) (p : Addr × Addr), ps[j]? = some p → ∃ xs, s.heap.IsTuple p.2 xs ∧ xs[k]? = vs[j]?)
    (hef : e ∉ zfp z TI TO ps)
    (hQ : ∀ h' tk, IsEnumOut h' e z (c + 1) (.ref s.heap.objs.size) (s.heap.objs.size + 1) → ZSt h' z TI TO ps (k + 1) → h'.get? s.heap.objs.size = some (tObj vs.toArray) →
      h'.get? (s.heap.objs.size + 1) = some { cls := .type "tuple", data := .seq #[.int c tk, .ref s.heap.objs.size] } → h'.objs.size = s.heap.objs.size + 2 →
      (∀ b o, b ≠ e → b ≠ z → b ≠ TO → (∀ p ∈ ps, b ≠ p.1) → s.heap.get? b = some o → h'.get? b = some o) → Q (.ref (s.heap.objs.size + 1)) { s with heap := h', toks := tk + 1 }) :
    wpAny (model prog w) A (Builtin.«enumerate.__next__» ⟨[.ref e], []⟩) (fun fin s' => ∃ v, fin = .done (.ret v) ∧ Q v s') E s := by
  obtain ⟨hp, g, d, tk, os⟩ := s
  have e1 : e ≠ z := fun q => hef (by rw [q]; simp [zfp])
  have e2 : e ≠ TO := fun q => hef (by rw [q]; simp [zfp])
  have e3 : ∀ p ∈ ps, e ≠ p.1 := fun p hpp q => hef (by
    rw [q]
    refine List.mem_cons_of_mem _ (List.mem_cons_of_mem _ (List.mem_cons_of_mem _ ?_))
    exact List.mem_map_of_mem hpp)
  show wpAny _ _ (field (.ref e) 2 >>= _) _ _ _
  refine wpAny_bind (wpAny_field he rfl (x := .ref z) rfl ?_)
  refine wpAny_bind (nextOf_zn_item D hn hn2 S hv hi fun h₁ S₁ hT₁ hz₁ hk₁ => ?_)
  replace hT₁ : h₁.get? hp.objs.size = some (tObj vs.toArray) := hT₁
  replace hz₁ : h₁.objs.size = hp.objs.size + 1 := hz₁
  replace hk₁ : ∀ c o, c ≠ z → c ≠ TO → (∀ p ∈ ps, c ≠ p.1) → hp.get? c = some o → h₁.get? c = some o := hk₁
  have he₁ : IsEnum h₁ e z c old := hk₁ e _ e1 e2 e3 he
  have hel : e < hp.objs.size := Heap.lt_size he
  show wpAny _ _ (field (.ref e) 3 >>= _) _ _ ⟨h₁, g, d, tk, os⟩
  refine wpAny_bind (wpAny_field he₁ rfl (x := rawInt c) rfl ?_)
  show wpAny _ _ (field (.ref e) 4 >>= _) _ _ ⟨h₁, g, d, tk, os⟩
  refine wpAny_bind (wpAny_field he₁ rfl (x := .none) rfl ?_)
  show wpAny _ _ (mkInt c >>= _) _ _ ⟨h₁, g, d, tk, os⟩
  refine wpAny_bind (wpAny_mkInt ?_)
  show wpAny _ _ (setField (.ref e) 3 (rawInt (c + 1)) >>= _) _ _ ⟨h₁, g, d, tk + 1, os⟩
  refine wpAny_bind (wpAny_setField_rec he₁ (by simp) fun h₂ he₂ hs₂ => ?_)
  replace hs₂ : Heap.SameBut e h₁ h₂ := hs₂
  replace he₂ : IsEnum h₂ e z (c + 1) old := he₂
  show wpAny _ _ (setField (.ref e) 4 .none >>= _) _ _ ⟨h₂, g, d, tk + 1, os⟩
  refine wpAny_bind (wpAny_setField_rec he₂ (by simp) fun h₃ he₃ hs₃ => ?_)
  replace hs₃ : Heap.SameBut e h₂ h₃ := hs₃
  replace he₃ : IsEnum h₃ e z (c + 1) old := he₃
  show wpAny _ _ (newTuple [.int c tk, .ref hp.objs.size] >>= _) _ _ ⟨h₃, g, d, tk + 1, os⟩
  refine wpAny_bind (wpAny_newTuple ?_)
  have he₄ : IsEnum (h₃.push { cls := .type "tuple", data := .seq #[.int c tk, .ref hp.objs.size] }) e z (c + 1) old := Heap.get?_push_of_some _ he₃
  generalize hh₄ : h₃.push { cls := .type "tuple", data := .seq #[.int c tk, .ref hp.objs.size] } = h₄ at he₄
  have hsz : h₃.objs.size = hp.objs.size + 1 := by rw [hs₃.1, hs₂.1, hz₁]
  have ht₄ : h₄.get? (hp.objs.size + 1) = some { cls := .type "tuple", data := .seq #[.int c tk, .ref hp.objs.size] } := by rw [← hh₄, ← hsz]; exact Heap.get?_push_size _ rfl
  have hz₄ : h₄.objs.size = hp.objs.size + 2 := by rw [← hh₄, Heap.size_push, hsz]
  have hk₁₄ : ∀ b o, b ≠ e → h₁.get? b = some o → h₄.get? b = some o := fun b o hbe hb => by
    rw [← hh₄]; exact Heap.get?_push_of_some _ (hs₃.extBut b o hbe (hs₂.extBut b o hbe hb))
  have S₄ : ZSt h₄ z TI TO ps (k + 1) := S₁.keeps fun b hb o y => hk₁₄ b o (fun q => hef (q ▸ hb)) y
  have hT₄ := hk₁₄ hp.objs.size _ (Nat.ne_of_gt hel) hT₁
  have hk₄ : ∀ b o, b ≠ e → b ≠ z → b ≠ TO → (∀ p ∈ ps, b ≠ p.1) → hp.get? b = some o → h₄.get? b = some o := fun b o c1 c2 c3 c4 y => hk₁₄ b o c1 (hk₁ b o c2 c3 c4 y)
  show wpAny _ _ (Builtin.SmallTypes.ownedTupleIsFree (.ref e) >>= _) _ _ ⟨h₄, g, d, tk + 1, os⟩
  rw [hsz]
  clear hh₄ he₃ hs₃ he₂ hs₂ he₁ hsz hk₁₄ S₁ hT₁ hz₁ hk₁ h₃ h₂ h₁
  refine wpAny_bind ?_
  · unfold Builtin.SmallTypes.ownedTupleIsFree
    refine wpAny_bind (wpAny_field he₄ rfl (x := .none) rfl (wpAny_pure ?_))
    simp only [if_true]
    refine wpAny_bind (wpAny_rule ?_)
    refine wpAny_bind (wpAny_field he₄ rfl (x := old) rfl ?_)
    refine wpAny_bind (wpAny_setField_rec he₄ (by simp) fun h₅ he₅ hs₅ => ?_)
    replace hs₅ : Heap.SameBut e h₄ h₅ := hs₅
    replace he₅ : IsEnum h₅ e z (c + 1) (.ref hp.objs.size) := he₅
    show wpAny _ _ (Builtin.SmallTypes.ownedTupleHandOut (.ref e) (.ref (hp.objs.size + 1)) >>= _) _ _ ⟨h₅, g, d, tk + 1, os⟩
    refine wpAny_bind ?_
    · unfold Builtin.SmallTypes.ownedTupleHandOut
      refine wpAny_bind (wpAny_setField_rec he₅ (by simp) fun h₆ he₆ hs₆ => ?_)
      replace hs₆ : Heap.SameBut e h₅ h₆ := hs₆
      replace he₆ : IsEnumOut h₆ e z (c + 1) (.ref hp.objs.size) (hp.objs.size + 1) := he₆
      refine wpAny_setField_rec he₆ (by simp) fun h₇ he₇ hs₇ => ?_
      replace hs₇ : Heap.SameBut e h₆ h₇ := hs₇
      replace he₇ : IsEnumOut h₇ e z (c + 1) (.ref hp.objs.size) (hp.objs.size + 1) := he₇
      have hk₇ : ∀ b o, b ≠ e → h₄.get? b = some o → h₇.get? b = some o := fun b o hbe y => hs₇.extBut b o hbe (hs₆.extBut b o hbe (hs₅.extBut b o hbe y))
      refine wpAny_bind (wpAny_letGo (wpAny_pure ⟨_, rfl, hQ h₇ tk he₇ ?_ ?_ ?_ ?_ ?_⟩))
      · exact S₄.keeps fun b hb o y => hk₇ b o (fun q => hef (q ▸ hb)) y
      · exact hk₇ _ _ (Nat.ne_of_gt hel) hT₄
      · exact hk₇ _ _ (by have : e < hp.objs.size := hel; exact Nat.ne_of_gt (Nat.lt_succ_of_lt this)) ht₄
      · rw [hs₇.1, hs₆.1, hs₅.1, hz₄]
      · exact fun b o c1 c2 c3 c4 hb => hk₇ b o c1 (hk₄ b o c1 c2 c3 c4 hb)
end

theorem meets_enum_newZ (z TI TO : Addr) (ps : List (Addr × Addr)) (k : Nat) : Meets (Builtin.«enumerate.__new__» ⟨[.type "enumerate", .ref z], []⟩) (fun _ R s => ZSt s.heap z TI TO ps k ∧
      R (.ok (.ret (.ref s.heap.objs.size))) { s with heap := s.heap.push { cls := .type "enumerate", data := .fields #[.none, .bool false, .ref z, rawInt 0, .none, .none] } }) :=
  .of_wp fun prog w A R s h => by
    obtain ⟨hp, g, d, tk, os⟩ := s
    obtain ⟨hS, h⟩ := h
    have hsub := sub_enumerate
    have hS' : ZSt (Shared.heap ⟨hp, g, d, tk, os⟩) z TI TO ps k := hS
    wp_walk
    refine wpAny_stack_any fun st => wpAny_pure ?_
    split
    · rename_i c _ _ _ _ _
      cases (c == Value.type "enumerate")
      · wp_walk using pyIter_zn hS'
        exact ⟨_, rfl, h⟩
      · wp_walk using pyIter_zn hS'
        exact ⟨_, rfl, h⟩
    · wp_walk using pyIter_zn hS'
      exact ⟨_, rfl, h⟩
section
variable {prog : Program} {w : World} {A : Around} {E : Value → Shared → Prop} {s : Shared}
theorem call_enumZ {z TI TO : Addr} {ps : List (Addr × Addr)} {k : Nat} {Q : Value → Shared → Prop} (hS : ZSt s.heap z TI TO ps k)
    (h : ∀ h', IsEnum h' s.heap.objs.size z 0 .none → (∀ b o, s.heap.get? b = some o → h'.get? b = some o) → Q (.ref s.heap.objs.size) { s with heap := h' }) :
    wpAny (model prog w) A (call (.type "enumerate") [.ref z]) Q E s := by
  refine callType_new F.called_enumerate (by decide) (F.typeCall_enumerate_1 _) (F.newCall_enumerate_1 _) (fun obj => F.args_object_init_2 obj _) F.entry_enumerate_new
    (meets_enum_newZ z TI TO ps k) ⟨hS, ?_⟩
  have he : IsEnum (s.heap.push { cls := .type "enumerate", data := .fields #[.none, .bool false, .ref z, rawInt 0, .none, .none] }) s.heap.objs.size z 0 .none := Heap.get?_push_size _ rfl
  exact ⟨⟨_, he, rfl⟩, h _ he fun b o x => Heap.get?_push_of_some _ x⟩
end

def ItEz (K : PySem.W.Frag) (ls : List Addr) (rows : List (List V)) (m : Nat) : It :=
  ⟨fun i H => i < m ∧ Rws K H ls rows m, fun i H v H' => ∃ T U, v = .ref U ∧ H T = none ∧ T ≠ U ∧ H U = none ∧ H' = upd (upd H T (.tup (colV rows i))) U (.tup [.int ((0 : Int) + (i : Nat)), .ref T]), fun i H => i = m ∧ Rws K H ls rows m⟩
theorem turn_ez {P : Program} {w : World} {K : PySem.W.Frag} {elts : List Expr} {kk : Nat} {tpos : Pos} {n m : Nat} {ls : List Addr} {rows : List (List V)} (h1 : 1 ≤ ls.length) (h2 : ls.length ≤ 4) (hlt : ∀ l ∈ ls, l < n) {e : Addr}
    (hef : e ∉ zfp (n + ls.length + 2) (n + ls.length) (n + ls.length + 1) (zps n ls)) :
    Turn P w K (.Tuple elts kk tpos) (ItEz K ls rows m) (e :: zfp (n + ls.length + 2) (n + ls.length) (n + ls.length + 1) (zps n ls)) e
      (fun i h => (∃ old, IsEnum h e (n + ls.length + 2) ((0 : Int) + (i : Nat)) old) ∧ ZSt h (n + ls.length + 2) (n + ls.length) (n + ls.length + 1) (zps n ls) i) where
  mem := List.mem_cons_self
  obj := fun i h S b hb => by
    obtain ⟨⟨old, he⟩, ⟨⟨f0, f1, hz, _⟩, hTI, ⟨arr, _, hTO⟩, hits⟩⟩ := S
    rcases List.mem_cons.mp hb with rfl | hb
    · exact ⟨_, he, fun v q => nomatch q⟩
    rcases List.mem_cons.mp hb with rfl | hb
    · exact ⟨_, hz, fun v q => nomatch q⟩
    rcases List.mem_cons.mp hb with rfl | hb
    · exact ⟨_, hTI, fun v q => nomatch q⟩
    rcases List.mem_cons.mp hb with rfl | hb
    · exact ⟨_, hTO, fun v q => nomatch q⟩
    obtain ⟨p, hp, rfl⟩ := List.mem_map.mp hb
    obtain ⟨o, e, _, d⟩ := hits p hp
    exact ⟨o, e, fun v q => by rw [d] at q; cases q⟩
  keep := fun i h h' S k => by
    obtain ⟨⟨old, he⟩, S⟩ := S
    exact ⟨⟨old, k e (by simp) _ he⟩, S.keeps fun b hb o y => k b (List.mem_cons_of_mem _ hb) o y⟩
  item := by
    intro X hP hw hK hc i pins s σ H E I hf S hg
    subst hP hw hK
    obtain ⟨⟨old, he⟩, S⟩ := S
    obtain ⟨hi, R⟩ := hg
    obtain ⟨us, hv, hx⟩ := R.vals I hi
    have hul : us.length = ls.length := by rw [← hv.length, R.len]; simp [colV]
    have D := zapart hlt
    have hT : s.TypeIs (.ref e) "enumerate" := ⟨_, he, rfl⟩
    have hfz : ∀ b ∈ e :: zfp (n + ls.length + 2) (n + ls.length) (n + ls.length + 1) (zps n ls), b < s.heap.objs.size := fun b hb => by
      rcases List.mem_cons.mp hb with rfl | hb
      · exact Heap.lt_size he
      obtain ⟨⟨f0, f1, hz, _⟩, hTI, ⟨arr, _, hTO⟩, hits⟩ := S
      rcases List.mem_cons.mp hb with rfl | hb
      · exact Heap.lt_size hz
      rcases List.mem_cons.mp hb with rfl | hb
      · exact Heap.lt_size hTI
      rcases List.mem_cons.mp hb with rfl | hb
      · exact Heap.lt_size hTO
      obtain ⟨p, hp, rfl⟩ := List.mem_map.mp hb
      obtain ⟨o, e, _⟩ := hits p hp
      exact Heap.lt_size e
    unfold pyNext
    refine wpAny_bind (wpAny_attempt (wpAny_callSpecial?_slot (name := Str.ofString "__next__") hT F.slot_enumerate_next
      (wpAny_call_entry F.slot_enumerate_next hT F.entry_enumerate_next
        (ez_next_item D (by rw [zps_length]; exact h1) (by rw [zps_length]; omega) he S (vs := us) (by rw [zps_length]; exact hul) (fun j p e => ?_) hef fun h' tk ho S' hTu hU hsz hk => wpAny_pure ?_) (F.args_enumerate_next_1 _))))
    · rw [zps_get] at e
      cases ea : ls[j]? with
      | none => rw [ea] at e; cases e
      | some a =>
        rw [ea] at e
        obtain rfl : (n + j, a) = p := Option.some.inj e
        exact hx j a ea
    · refine ⟨_, rfl, wpAny_letOwnedTupleGo_enum (s := { s with heap := h', toks := tk + 1 }) ho fun h'' he' sb => ?_⟩
      have hcl : (colV rows i).length ≤ sizeLine := by
        rw [hv.length, hul, sizeLine_eq]
        omega
      have hel : e < s.heap.objs.size := hfz e List.mem_cons_self
      have hk2 : ∀ b o, b ∉ e :: zfp (n + ls.length + 2) (n + ls.length) (n + ls.length + 1) (zps n ls) → s.heap.get? b = some o → h''.get? b = some o := fun b o hb q =>
        (sb.2 b (fun z => hb (by simp [z]))).trans (hk b o (fun z => hb (by simp [z])) (fun z => hb (by simp [z, zfp])) (fun z => hb (by simp [z, zfp])) (fun p hp z => hb (by
          refine List.mem_cons_of_mem _ (List.mem_cons_of_mem _ (List.mem_cons_of_mem _ (List.mem_cons_of_mem _ ?_)))
          rw [z]
          exact List.mem_map_of_mem hp)) q)
      have hTu2 : h''.get? s.heap.objs.size = some (tObj us.toArray) := (sb.2 _ (Nat.ne_of_gt hel)).trans hTu
      have hU2 : h''.get? (s.heap.objs.size + 1) = some { cls := .type "tuple", data := .seq #[.int ((0 : Int) + (i : Nat)) tk, .ref s.heap.objs.size] } := (sb.2 _ (Nat.ne_of_gt (Nat.lt_succ_of_lt hel))).trans hU
      have new1 : ObjOk X.prog X.w (upd H s.heap.objs.size (.tup (colV rows i))) (s.heap.push (tObj us.toArray)) s.heap.objs.size (.tup (colV rows i)) := ⟨hcl, us, hv, ⟨_, Heap.get?_push_size _ rfl, rfl, _, rfl⟩⟩
      have I1 : Inv X pins σ (upd H s.heap.objs.size (.tup (colV rows i))) { s with heap := s.heap.push (tObj us.toArray), toks := s.toks } :=
        I.laid (fun b o q => Heap.get?_push_of_some _ q) (Nat.le_refl _) new1
      have hz1 : (s.heap.push (tObj us.toArray)).objs.size = s.heap.objs.size + 1 := Heap.size_push ..
      have new2 : ObjOk X.prog X.w (upd (upd H s.heap.objs.size (.tup (colV rows i))) (s.heap.objs.size + 1) (.tup [.int ((0 : Int) + (i : Nat)), .ref s.heap.objs.size])) h'' (s.heap.objs.size + 1) (.tup [.int ((0 : Int) + (i : Nat)), .ref s.heap.objs.size]) :=
        ⟨by show 2 ≤ sizeLine; decide, [.int ((0 : Int) + (i : Nat)) tk, .ref s.heap.objs.size], .cons ⟨_, rfl⟩ (.cons rfl .nil), ⟨_, hU2, rfl, _, rfl⟩⟩
      have hf1 : ∀ b ∈ e :: zfp (n + ls.length + 2) (n + ls.length) (n + ls.length + 1) (zps n ls), FpOk X pins (upd H s.heap.objs.size (.tup (colV rows i))) b := fun b hb => by
        refine ⟨?_, (hf b hb).2⟩
        rw [upd_ne (Nat.ne_of_lt (hfz b hb))]
        exact (hf b hb).1
      have I2 : Inv X pins σ (upd (upd H s.heap.objs.size (.tup (colV rows i))) (s.heap.objs.size + 1) (.tup [.int ((0 : Int) + (i : Nat)), .ref s.heap.objs.size])) { s with heap := h'', toks := tk + 1 } := by
        refine I1.turnedNew (t' := tk + 1) (fun b o hb q => ?_) hf1 (Nat.le_of_eq hz1) new2
        rcases Heap.get?_push_cases q with ⟨hbN, ho2⟩ | q3
        · rw [hbN, ho2]
          exact hTu2
        · exact hk2 b o hb q3
      have hT0 : H s.heap.objs.size = none := I.hok.fresh (Nat.le_refl _)
      have hU0 : H (s.heap.objs.size + 1) = none := I.hok.fresh (Nat.le_succ _)
      have S2 : ZSt h'' (n + ls.length + 2) (n + ls.length) (n + ls.length + 1) (zps n ls) (i + 1) := S'.keeps fun b hb o y => (sb.2 b (fun z => hef (z ▸ hb))).trans y
      refine ⟨.ref (s.heap.objs.size + 1), _, I2, rfl, ⟨_, _, rfl, hT0, Nat.ne_of_lt (Nat.lt_succ_self _), hU0, rfl⟩, ⟨⟨.ref s.heap.objs.size, ?_⟩, S2⟩, fun b hb => ?_⟩
      · have e1 : (0 : Int) + ((i + 1 : Nat) : Int) = (0 : Int) + (i : Int) + 1 := by omega
        rw [e1]
        exact he'
      · have hb' := hfz b hb
        rw [upd_ne (Nat.ne_of_lt (Nat.lt_succ_of_lt hb')), upd_ne (Nat.ne_of_lt hb')]
        exact (hf b hb).1
  done := by
    intro X hP hw hK hc i pins s σ H E I hf S hg
    subst hP hw hK
    obtain ⟨⟨old, he⟩, S⟩ := S
    obtain ⟨rfl, R⟩ := hg
    have hT : s.TypeIs (.ref e) "enumerate" := ⟨_, he, rfl⟩
    cases hls : ls with
    | nil => rw [hls] at h1; simp at h1
    | cons a r =>
      cases hrw : rows with
      | nil => have := R.len; rw [hls, hrw] at this; simp at this
      | cons q rr =>
        obtain ⟨hq, hl⟩ := R.at_ 0 a q (by rw [hls]; rfl) (by rw [hrw]; rfl)
        obtain ⟨its, rv, ⟨o, ho, hc', n', hd⟩, _⟩ := I.tuple hq
        have hps : zps n ls = (n, a) :: (zps n ls).tail := by
          rw [hls]
          simp [zps]
        unfold pyNext
        refine wpAny_bind (wpAny_attempt (wpAny_callSpecial?_slot (name := Str.ofString "__next__") hT F.slot_enumerate_next
          (wpAny_call_entry F.slot_enumerate_next hT F.entry_enumerate_next ?_ (F.args_enumerate_next_1 _))))
        show wpAny _ _ (field (.ref e) 2 >>= _) _ _ _
        refine wpAny_bind (wpAny_field he rfl (x := .ref (n + ls.length + 2)) rfl ?_)
        refine wpAny_bind (nextOf_zn_end (I.ok.hd hc) (zapart hlt) S hps (xs := its.toArray) ⟨o, ho, hc', n', hd⟩ ?_ fun h' e' hk he' => ?_)
        · have := rv.length
          rw [List.getElem?_toArray, List.getElem?_eq_none (by omega)]
        · obtain ⟨o2, ho2, hc2⟩ := he'
          refine wpAny_bind (wpAny_isInstance (T := "StopIteration") (b := true) ⟨o2, ho2, hc2⟩ isSubtype_stop (wpAny_pure ⟨rfl, ?_⟩))
          exact I.turnedL (t' := s.toks) (fun c o hb q => hk c o (fun z => hb (by simp [z, zfp])) (fun z => hb (by simp [z, zfp])) (fun p hp z => hb (by
            refine List.mem_cons_of_mem _ (List.mem_cons_of_mem _ (List.mem_cons_of_mem _ (List.mem_cons_of_mem _ ?_)))
            rw [z]
            exact List.mem_map_of_mem hp)) q) hf
  self := fun A i s Q E S h => by
    obtain ⟨⟨_, he⟩, _⟩ := S
    exact wpAny_pyIter_enum he h

/-- for i, x in enumerate(zip(*e)), e a list or tuple of one to four tuples of one length -/
def iEnumZ (K : PySem.W.Frag) (te : TE) : TI := fun σ H R => te σ H fun y H1 => ∃ (a : Addr) (ls : List Addr) (rows : List (List V)) (m : Nat), y = .ref a ∧ (SqT K H1 a (ls.map V.ref) ∨ SqL K H1 a (ls.map V.ref)) ∧
  1 ≤ ls.length ∧ ls.length ≤ 4 ∧ Rws K H1 ls rows m ∧ R (ItEz K ls rows m) H1
theorem pi_enumZ {X : Cx} {e : Expr} {te : TE} {p p2 pos pos2 spos tpos : Pos} {elts : List Expr} {kk : Nat} (hge : Gl X "enumerate") (hme : X.mg "enumerate" = none) (hg : Gl X "zip") (hm : X.mg "zip" = none) (he : PE X e te)
    (hst : starEach [.Starred e spos] X.env = [(true, eval e X.env)] := by rfl)
    (hs : starEach [.Call (.Name "zip" p) [.Starred e spos] [] pos] X.env = [(false, eval (.Call (.Name "zip" p) [.Starred e spos] [] pos) X.env)] := by rfl) :
    PI X (.Tuple elts kk tpos) (.Call (.Name "enumerate" p2) [.Call (.Name "zip" p) [.Starred e spos] [] pos] [] pos2) (iEnumZ X.K te) := by
  refine ⟨fun pins s σ H R I h => Call_ (ld_blt I hge hme boot_enumerate (PyProof.Rows.callWith_type1 ?_ hs rfl))⟩
  rw [hs]
  refine Calls.spliced_cons ?_
  refine wpAny_Call_Name_kw (ld_blt I hg hm PyProof.Rows.boot_zip ?_)
  rw [hst]
  refine PySem.W.ks_call (P := fun _ => True) rfl (fun h _ => ⟨.machine, .inr (.inl rfl), fun A Q E s _ q => wpAny_pure q⟩) (PySem.W.ks_lone ?_)
  refine thn (he.run pins s σ H _ I h) fun v s1 ⟨y, H1, I1, ry, a, ls, rows, m, ey, hx, h1, h2, Rw, q⟩ => ?_
  subst ey
  obtain rfl : v = Value.ref a := ry
  refine StX.star_any I1 hx fun us s2 I2 rv => ⟨trivial, ?_⟩
  obtain rfl := vals_refs rv
  have tup : ∀ l ∈ ls, ∃ xs, s2.heap.IsTuple l xs := fun l hl => by
    obtain ⟨j, hj⟩ := List.mem_iff_getElem?.mp hl
    have hjl := (List.getElem?_eq_some_iff.mp hj).1
    have hjr : rows[j]? = some (rows[j]'(by have := Rw.len; omega)) := List.getElem?_eq_getElem (by have := Rw.len; omega)
    obtain ⟨its, _, ⟨o, ho, hc, n, hd⟩, _⟩ := I2.tuple (Rw.at_ j l _ hj hjr).1
    exact ⟨its.toArray, o, ho, hc, n, hd⟩
  refine call_zipN h1 h2 tup fun h' n en S hsz hk => ?_
  have I3 : Inv X pins σ H1 { s2 with heap := h' } := I2.kept (t' := s2.toks) hk
  have hlt : ∀ l ∈ ls, l < n := fun l hl => by
    obtain ⟨xs, o, ho, _⟩ := tup l hl
    rw [en]
    exact Heap.lt_size ho
  refine Calls.spliced_nil ?_
  refine call_enumZ (s := { s2 with heap := h' }) S fun h3 hE3 hk3 => wpAny_pyIter_enum hE3 ?_
  have I4 : Inv X pins σ H1 { s2 with heap := h3 } := I3.kept (t' := s2.toks) hk3
  have hef : h'.objs.size ∉ zfp (n + ls.length + 2) (n + ls.length) (n + ls.length + 1) (zps n ls) := fun hb => by
    rw [hsz] at hb
    rcases List.mem_cons.mp hb with hb | hb
    · omega
    rcases List.mem_cons.mp hb with hb | hb
    · omega
    rcases List.mem_cons.mp hb with hb | hb
    · omega
    obtain ⟨p, hp, e⟩ := List.mem_map.mp hb
    obtain ⟨j, hj, _, ep⟩ := zps_mem hp
    exact nat7 e ep hj
  have S3 : ZSt h3 (n + ls.length + 2) (n + ls.length) (n + ls.length + 1) (zps n ls) 0 := S.keeps fun b _ o y => hk3 b o y
  refine ⟨h'.objs.size, _, _, _, H1, rfl, I4, turn_ez h1 h2 hlt hef, ⟨⟨_, hE3⟩, S3⟩, fun b hb => ?_, q⟩
  have hle : s2.heap.objs.size ≤ b := by
    rw [← en]
    rcases List.mem_cons.mp hb with rfl | hb
    · omega
    rcases List.mem_cons.mp hb with rfl | hb
    · omega
    rcases List.mem_cons.mp hb with rfl | hb
    · omega
    rcases List.mem_cons.mp hb with rfl | hb
    · omega
    obtain ⟨p, hp, rfl⟩ := List.mem_map.mp hb
    obtain ⟨j, _, _, e⟩ := zps_mem hp
    exact Nat.le_trans (Nat.le_add_right n j) (Nat.le_of_eq e.symm)
  exact I2.fpOk hle (I2.hok.fresh hle)
theorem walk_ez {K : PySem.W.Frag} {ls : List Addr} {rows : List (List V)} {m : Nat} : Walk (ItEz K ls rows m) m (fun H => Rws K H ls rows m)
    (fun i H v H' => ∃ T U, v = .ref U ∧ H T = none ∧ T ≠ U ∧ H U = none ∧ H' = upd (upd H T (.tup (colV rows i))) U (.tup [.int ((0 : Int) + (i : Nat)), .ref T])) :=
  ⟨fun _ _ hi q => ⟨hi, q⟩, fun _ q => ⟨rfl, q⟩, fun _ _ _ _ _ _ y => y⟩
end DD
namespace DD
open PySem PySem.Spec PyProof.Rows L2
def topS (i : Nat) : Stmt := PySem.Challenge.pw_darkdrawers_k06_caps.main.body.getD i (.Pass ⟨0, 0, 0, 0⟩)
abbrev sCaps : Stmt := topS 1
abbrev sDeck : Stmt := topS 3
abbrev sDraw : Stmt := topS 4
abbrev sSame : Stmt := topS 5
abbrev sCounts : Stmt := topS 6
abbrev sWishes : Stmt := topS 7
abbrev sLaw : Stmt := topS 8
end DD
namespace DD
open PySem PySem.Spec PyProof.Rows L2

/-! ### small words about heaps -/
def Kp2 (a b : Addr) (H H' : Hp) : Prop := ∀ c o, c ≠ a → c ≠ b → H c = some o → H' c = some o
theorem Kp2.refl {a b : Addr} {H : Hp} : Kp2 a b H H := fun _ _ _ _ e => e
theorem Kp2.trans {a b : Addr} {H H1 H2 : Hp} (x : Kp2 a b H H1) (y : Kp2 a b H1 H2) : Kp2 a b H H2 := fun c o h1 h2 e => y c o h1 h2 (x c o h1 h2 e)
theorem kps {a b : Addr} {H H' : Hp} (x : Same H H') : Kp2 a b H H' := fun c o _ _ e => x c o e
theorem same_new {H : Hp} {p : Addr} {o : HO} (h : H p = none) : Same H (upd H p o) := fun b x e => by
  rw [upd_ne (ne_of_none e h)]
  exact e
theorem kp2_upd1 {a b : Addr} {H : Hp} {o : HO} : Kp2 a b H (upd H a o) := fun c x h1 _ e => by rw [upd_ne h1]; exact e
theorem kp2_upd2 {a b : Addr} {H : Hp} {o : HO} : Kp2 a b H (upd H b o) := fun c x _ h2 e => by rw [upd_ne h2]; exact e

/-- the deck at dk: its cells at c, none below 0; at most B draws so far -/
structure Deck (H : Hp) (dk c : Addr) (B : Nat) : Prop where
  ex : ∃ (ns : List Int) (t : Int), H dk = some (.lst [.ref c, .int t]) ∧ H c = some (.lst (ns.map V.int)) ∧ (∀ n ∈ ns, 0 ≤ n) ∧ ns.length ≤ 63 ∧ 0 ≤ t ∧ t ≤ (B : Int)
  ne : dk ≠ c
theorem Deck.up {H : Hp} {dk c : Addr} {B B' : Nat} (d : Deck H dk c B) (h : B ≤ B') : Deck H dk c B' := by
  obtain ⟨⟨ns, t, h1, h2, h3, h4, h5, h6⟩, ne⟩ := d
  exact ⟨⟨ns, t, h1, h2, h3, h4, h5, by omega⟩, ne⟩
theorem Deck.keep {H H' : Hp} {dk c : Addr} {B : Nat} (d : Deck H dk c B) (k : Same H H') : Deck H' dk c B := by
  obtain ⟨⟨ns, t, h1, h2, h3⟩, ne⟩ := d
  exact ⟨⟨ns, t, k _ _ h1, k _ _ h2, h3⟩, ne⟩

theorem scDraw : FnScope ["_law_deck_here", "_law_limit", "_law_cell", "_law_index"] ["_law_deck_here", "_law_limit"] (defScope sDraw) := ⟨rfl, rfl, rfl, by decide +kernel, rfl, by decide +kernel, by decide +kernel⟩

section
variable {P : Program} {w : World} {K : PySem.W.Frag} {mg : Str → Option Value} {base : Heap}
/-- a drawn number from 0 to L - 1: the deck turns, all else stands -/
def spDraw : Sp := fun vs H Q _ => ∃ (dk c : Addr) (B : Nat) (L : Int), vs = [.ref dk, .int L] ∧ Deck H dk c B ∧ B ≤ 1000000 ∧ 1 ≤ L ∧ L ≤ 1000 ∧
  ∀ r H', 0 ≤ r → r < L → Kp2 dk c H H' → Deck H' dk c (B + 1) → Q (.int r) H'
theorem ok_draw {f : Addr} {fd : FuncData} {k : Nat} (F : Fun K "_law_draw" "_law_draw" sDraw f fd) (ml : mg "len" = none) : FnOk P w K mg base CX0 (k + 1) f fd ["_law_deck_here", "_law_limit"] spDraw := by
  refine F.ok scDraw (fun vs H Q E h => ?_) (fun cdv A outer s H vs Q E hr h => ?_)
  · obtain ⟨dk, c, B, L, rfl, _⟩ := h
    rfl
  · obtain ⟨dk, c, B, L, rfl, ⟨⟨ns, t, hdk, hc, hpos, hlen, t0, tB⟩, dne⟩, hB, hL1, hL2, q⟩ := h
    refine ⟨_, pss_cons (ps_asg (pe_op op_add (pe_ix ix_list (pv 0) pe_int (fun _ _ => rfl)) pe_int) (pg_sub (pv 0) pe_int set_list))
      (pss_cons (ps_asg (pe_tup (pa_cons pe_int (pa_cons (pe_un un_neg pe_int) pa_nil))) (pg_tup rfl (pgs_cons (pg_name (i := 2) scDraw.nd rfl (.inl rfl)) (pgs_cons (pg_name (i := 3) scDraw.nd rfl (.inl rfl)) pgs_nil))))
      (C8.pss_cut (ps_if (pt_cmpR op_gt (pe_callB call_len_seq (by rfl) ml PySem.boot_len (pa_cons (pe_ix ix_list (pv 0) pe_int (fun _ _ => rfl)) pa_nil)) pe_int (nomark _))
          (pss_cons (ps_set (i := 3) scDraw.nd rfl (.inl rfl) (pe_op op_modN (pe_ix ix_list (pv 0) pe_int (fun _ _ => rfl)) (pe_callB call_len_seq (by rfl) ml PySem.boot_len (pa_cons (pe_ix ix_list (pv 0) pe_int (fun _ _ => rfl)) pa_nil))))
          (pss_one (ps_set (i := 2) scDraw.nd rfl (.inl rfl) (pe_ix ix_list (pe_ix ix_list (pv 0) pe_int (fun _ _ => rfl)) (pv 3) (fun _ _ => rfl)))))
          pss_nil)
      (pss_cons (ps_if (pt_cmpR op_ge (pv 2) (pe_op op_pow pe_int pe_int) (nomark _))
          (pss_cons (ps_asg (pe_op op_fdivN (pv 2) (pv 1)) (pg_sub (pe_ix ix_list (pv 0) pe_int (fun _ _ => rfl)) (pv 3) set_list))
          (pss_one (ps_ret (pe_op op_modN (pv 2) (pv 1)))))
          pss_nil)
      (pss_one (ps_ret (pe_op op_modN (pe_op op_fdivN (pe_op op_modN (pe_op op_pow (pe_op op_add (pe_op op_add (pe_op op_modN (pv 2) pe_int) (pe_op op_mul pe_int (pe_ix ix_list (pv 0) pe_int (fun _ _ => rfl)))) pe_int) pe_int) pe_int) pe_int) (pv 1))))))), ?_⟩
    -- _law_deck_here[1] = _law_deck_here[1] + 1
    refine ⟨.ref dk, rfl, dk, _, 1, .int t, rfl, rfl, SqL.of hdk, atI_nat (j := 1) rfl, t, 1, rfl, rfl, .ref dk, rfl, dk, _, 1, 1, rfl, rfl, hdk, rfl, ?_⟩
    have hdk1 : (upd H dk (.lst [.ref c, .int (t + 1)])) dk = some (.lst [.ref c, .int (t + 1)]) := upd_same
    have hc1 : (upd H dk (.lst [.ref c, .int (t + 1)])) c = some (.lst (ns.map V.int)) := by
      rw [upd_ne dne.symm]
      exact hc
    -- _law_cell, _law_index = (0, -1)
    refine ⟨1, rfl, by show 2 ≤ sizeLine; decide, fun p np => ?_⟩
    have s2 : Same _ _ := same_new (o := .tup [.int 0, .int (-1)]) np
    have hdk2 := s2 _ _ hdk1
    have hc2 := s2 _ _ hc1
    have k2 : Kp2 dk c H (upd (upd H dk (.lst [.ref c, .int (t + 1)])) p (.tup [.int 0, .int (-1)])) := kp2_upd1.trans (kps s2)
    refine ⟨p, [.int 0, .int (-1)], rfl, .inl (.inl upd_same), rfl, .int 0, [.int (-1)], rfl, .int (-1), [], rfl, rfl, ?_⟩
    refine ⟨fun σ' H' => ∃ cell idx : Int, σ' = [some (.ref dk), some (.int L), some (.int cell), some (.int idx)] ∧ Kp2 dk c H H' ∧ H' dk = some (.lst [.ref c, .int (t + 1)]) ∧ H' c = some (.lst (ns.map V.int)) ∧ 0 ≤ cell ∧
      (10 ^ 18 ≤ cell → ∃ j : Nat, idx = j ∧ j < ns.length), ?_, ?_⟩
    · -- if len(_law_deck_here[0]) > 0
      refine ⟨.ref dk, rfl, dk, _, 0, .ref c, rfl, rfl, SqL.of hdk2, atI_nat (j := 0) rfl, c, _, rfl, .inl (SqL.of hc2), _, _, rfl, rfl, _, rfl, ite2 (fun e => ?_) (fun e => ?_)⟩
      · have e0 : (0 : Int) < ((ns.map V.int).length : Int) := of_decide_eq_true e
        rw [List.length_map] at e0
        have b1 := Int.fmod_nonneg_of_pos (t + 1) e0
        have b2 := Int.fmod_lt_of_pos (t + 1) e0
        obtain ⟨j, hj⟩ : ∃ j : Nat, (t + 1).fmod (ns.length : Int) = j := ⟨((t + 1).fmod (ns.length : Int)).toNat, by omega⟩
        have hjl : j < ns.length := by omega
        have gj : (ns.map V.int)[j]? = some (.int ns[j]) := by
          rw [List.getElem?_map, List.getElem?_eq_getElem hjl]
          rfl
        refine ⟨.ref dk, rfl, dk, _, 1, .int (t + 1), rfl, rfl, SqL.of hdk2, atI_nat (j := 1) rfl, .ref dk, rfl, dk, _, 0, .ref c, rfl, rfl, SqL.of hdk2, atI_nat (j := 0) rfl, c, _, rfl, .inl (SqL.of hc2), t + 1, _, rfl, rfl, ?_, ?_⟩
        · rw [List.length_map]
          omega
        · refine ⟨.ref dk, rfl, dk, _, 0, .ref c, rfl, rfl, SqL.of hdk2, atI_nat (j := 0) rfl, _, rfl, c, _, (j : Int), .int ns[j], rfl, ?_, SqL.of hc2, atI_nat gj, ?_⟩
          · show V.int ((t + 1).fmod _) = _
            rw [List.length_map, hj]
          · refine ⟨ns[j], j, ?_, k2, hdk2, hc2, hpos _ (List.getElem_mem hjl), fun _ => ⟨j, rfl, hjl⟩⟩
            show [some (V.ref dk), some (V.int L), some (V.int ns[j]), some (V.int ((t + 1).fmod _))] = _
            rw [List.length_map, hj]
      · exact ⟨0, -1, rfl, k2, hdk2, hc2, Int.le_refl _, fun z => absurd z (by decide)⟩
    · rintro σ' H' ⟨cell, idx, rfl, k2, hdk2, hc2, hcell, hidx⟩
      have hB1 : t + 1 ≤ ((B + 1 : Nat) : Int) := by omega
      -- if _law_cell >= 10 ** 18
      refine ⟨_, rfl, 10, 18, rfl, rfl, ⟨by decide, by decide, by decide⟩, _, _, rfl, rfl, _, rfl, ite2 (fun e => ?_) (fun e => ?_)⟩
      · have e0 : (10 : Int) ^ (18 : Int).toNat ≤ cell := of_decide_eq_true e
        obtain ⟨j, rfl, hjl⟩ := hidx e0
        have hix : ixN (ns.map V.int).length (j : Int) = some j := by
          unfold ixN
          rw [if_pos (by omega), if_pos (by rw [List.length_map]; omega)]
          simp
        refine ⟨_, rfl, _, rfl, cell, L, rfl, rfl, ⟨by omega, by omega⟩, .ref dk, rfl, dk, _, 0, .ref c, rfl, rfl, SqL.of hdk2, atI_nat (j := 0) rfl, _, rfl, c, _, (j : Int), j, rfl, rfl, hc2, hix, ?_⟩
        refine ⟨_, rfl, _, rfl, cell, L, rfl, rfl, by omega, ?_⟩
        refine q _ _ (Int.fmod_nonneg_of_pos _ (by omega)) (Int.fmod_lt_of_pos _ (by omega)) (k2.trans kp2_upd2) ⟨⟨ns.set j (cell.fdiv L), t + 1, ?_, ?_, ?_, ?_, by omega, hB1⟩, dne⟩
        · rw [upd_ne dne]
          exact hdk2
        · rw [upd_same, List.map_set]
        · intro n hn
          rcases List.mem_or_eq_of_mem_set hn with h | h
          · exact hpos n h
          · rw [h]
            exact Int.fdiv_nonneg hcell (by omega)
        · rw [List.length_set]
          exact hlen
      · have b1 := Int.fmod_nonneg_of_pos cell (show (0 : Int) < 2147483587 by decide)
        have b2 := Int.fmod_lt_of_pos cell (show (0 : Int) < 2147483587 by decide)
        refine ⟨_, rfl, cell, 2147483587, rfl, rfl, (by show (2147483587 : Int) ≠ 0; decide), .ref dk, rfl, dk, _, 1, .int (t + 1), rfl, rfl, SqL.of hdk2, atI_nat (j := 1) rfl, 7919, t + 1, rfl, rfl, .inl ⟨by decide, by decide⟩,
          _, _, rfl, rfl, _, _, rfl, rfl, _, 5, rfl, rfl, ⟨by decide, by decide, by omega⟩, _, 2147483647, rfl, rfl, (by show (2147483647 : Int) ≠ 0; decide), _, 7, rfl, rfl, ⟨by decide, by decide⟩, _, rfl, _, L, rfl, rfl, by omega, ?_⟩
        exact q _ _ (Int.fmod_nonneg_of_pos _ (by omega)) (Int.fmod_lt_of_pos _ (by omega)) k2 ⟨⟨ns, t + 1, hdk2, hc2, hpos, hlen, by omega, hB1⟩, dne⟩
end
end DD
namespace DD
open PySem PySem.Spec PyProof.Rows L2
theorem get_map {α β : Type} {f : α → β} {xs : List α} {i : Nat} {y : β} (h : (xs.map f)[i]? = some y) : ∃ x, xs[i]? = some x ∧ y = f x := by
  rw [List.getElem?_map] at h
  cases e : xs[i]? with
  | none => rw [e] at h; cases h
  | some x => rw [e] at h; exact ⟨x, rfl, (Option.some.inj h).symm⟩
theorem take_succ_map {α β : Type} {f : α → β} {xs : List α} {i : Nat} {x : α} (h : xs[i]? = some x) : (xs.take (i + 1)).map f = (xs.take i).map f ++ [f x] := by
  rw [List.take_add_one, h, List.map_append]
  rfl
theorem cutV_map {ns : List Int} {lo hi : Option Int} : ∃ ms : List Int, cutV (ns.map V.int) lo hi = ms.map V.int ∧ ms.length ≤ ns.length := by
  refine ⟨(ns.drop (HT.sIx ns.length 0 lo)).take (HT.sIx ns.length ns.length hi - HT.sIx ns.length 0 lo), ?_, ?_⟩
  · unfold cutV
    rw [List.length_map, List.map_take, List.map_drop]
  · rw [List.length_take, List.length_drop]
    omega
theorem len_lt {n : Nat} (h : n ≤ 1000) : n < sizeLine := small1000 h
def absI (i : Int) : Int := if i < 0 then -i else i
theorem absI_pos (i : Int) : 0 ≤ absI i := by
  unfold absI
  split <;> omega

theorem scDeck : FnScope ["_law_script", "_law_cell"] ["_law_script"] (defScope sDeck) := ⟨rfl, rfl, rfl, by decide +kernel, rfl, by decide +kernel, by decide +kernel⟩
section
variable {P : Program} {w : World} {K : PySem.W.Frag} {mg : Str → Option Value} {base : Heap}
def spDeck (K : PySem.W.Frag) : Sp := fun vs H Q _ => ∃ (a : Addr) (ns : List Int), vs = [.ref a] ∧ SqL K H a (ns.map V.int) ∧ ns.length ≤ 63 ∧
  ∀ dk c H', Same H H' → H dk = none → H c = none → Deck H' dk c 0 → Q (.ref dk) H'
theorem ok_deck {f : Addr} {fd : FuncData} {k : Nat} (F : Fun K "_law_deck" "_law_deck" sDeck f fd) (ma : mg "abs" = none) : FnOk P w K mg base CX0 (k + 1) f fd ["_law_script"] (spDeck K) := by
  refine F.ok scDeck (fun vs H Q E h => ?_) (fun cdv A outer s H vs Q E hr h => ?_)
  · obtain ⟨a, ns, rfl, _⟩ := h
    rfl
  · obtain ⟨a, ns, rfl, hS, hlen, q⟩ := h
    refine ⟨_, pss_one (ps_ret (pe_lst (pa_cons (pe_lc (own := [("_law_cell", 1)]) (g := gName 1) rfl scDeck.nd (pi_list (pe_slice sl_list (pv 0) po_none (po_some pe_int)))
      (blkOk_by (own := [("_law_cell", 1)]) (N := ["_law_script", "_law_cell"]) (sc := defScope sDeck) (by decide +kernel)) (fun _ _ _ _ _ => pg_name (i := 1) scDeck.nd rfl (Or.inl rfl)) (fun _ _ _ _ _ => pts_nil)
      (fun _ _ _ _ _ => pe_callB call_abs (by rfl) ma (by decide +kernel) (pa_cons (pv 1) pa_nil))) (pa_cons pe_int pa_nil)))), ?_⟩
    refine ⟨.ref a, rfl, 63, rfl, a, _, rfl, hS, fun p np => ?_⟩
    obtain ⟨ms, em, hml⟩ := cutV_map (ns := ns) (lo := none) (hi := some 63)
    rw [em]
    refine ⟨p, rfl, ⟨_, SqL.of upd_same⟩, fun D nD => ?_⟩
    have hp0 : Same H (upd H p (.lst (ms.map V.int))) := same_new np
    refine lc_list (xs := ms.map V.int) (fun i H' => H' D = some (.lst ((ms.take i).map fun n => V.int (absI n))) ∧ Same (upd H p (.lst (ms.map V.int))) H') ⟨upd_same, same_new nD⟩
      (fun i H' _ h => SqL.of (h.2 _ _ upd_same)) (fun i x H' hx h => ?_) (fun H' h => ?_)
    · obtain ⟨n, hn, rfl⟩ := get_map hx
      obtain ⟨hD, sm⟩ := h
      refine ⟨rfl, _, rfl, n, rfl, _, hD, ?_, ?_, fun b o e => ?_⟩
      · rw [List.length_map, List.length_take]
        exact len_lt (by omega)
      · rw [upd_same, take_succ_map hn]
        rfl
      · have hne : b ≠ D := ne_of_none e nD
        rw [upd_ne hne]
        exact sm b o e
    · obtain ⟨hD, sm⟩ := h
      rw [List.length_map, List.take_length] at hD
      refine ⟨by show 2 ≤ sizeLine; decide, fun dk nk => ?_⟩
      have ndk : D ≠ dk := ne_of_none hD nk
      refine q dk D _ (hp0.trans (sm.trans (same_new nk))) ?_ ?_ ⟨⟨ms.map absI, 0, upd_same, ?_, ?_, ?_, Int.le_refl _, Int.le_refl _⟩, ndk.symm⟩
      · exact hp0.free (sm.free nk)
      · exact hp0.free nD
      · rw [upd_ne ndk, hD, List.map_map]
        rfl
      · intro n hn
        obtain ⟨m, _, rfl⟩ := List.mem_map.mp hn
        exact absI_pos m
      · rw [List.length_map]
        omega
end
end DD
namespace DD
open PySem PySem.Spec PyProof.Rows L2
theorem four_at {r : Int} (h0 : 0 ≤ r) (h : r < 4) : ∃ b : Int, (b = 0 ∨ b = 1) ∧ atI [V.int 0, V.int 1, V.int 1, V.int 1] r = some (.int b) := by
  have e : r = 0 ∨ r = 1 ∨ r = 2 ∨ r = 3 := by omega
  rcases e with rfl | rfl | rfl | rfl
  · exact ⟨0, .inl rfl, rfl⟩
  · exact ⟨1, .inr rfl, rfl⟩
  · exact ⟨1, .inr rfl, rfl⟩
  · exact ⟨1, .inr rfl, rfl⟩
theorem scCounts : FnScope ["_law_deck_here", "_law_kinds", "_law_most", "_law_k"] ["_law_deck_here", "_law_kinds", "_law_most"] (defScope sCounts) := ⟨rfl, rfl, rfl, by decide +kernel, rfl, by decide +kernel, by decide +kernel⟩
theorem Deck.kp {H : Hp} {dk c l : Addr} {B : Nat} {o : HO} (d : Deck H dk c B) (n : H l = none) : Deck (upd H l o) dk c B := d.keep (same_new n)
theorem Deck.nedk {H : Hp} {dk c l : Addr} {B : Nat} (d : Deck H dk c B) (n : H l = none) : l ≠ dk ∧ l ≠ c := by
  obtain ⟨ns, t, h1, h2, _⟩ := d.ex
  exact ⟨(ne_of_none h1 n).symm, (ne_of_none h2 n).symm⟩
section
variable {P : Program} {w : World} {K : PySem.W.Frag} {mg : Str → Option Value} {base : Heap}
/-- a tuple of n drawn numbers from 0 to m -/
def spCounts : Sp := fun vs H Q _ => ∃ (dk c : Addr) (B n : Nat) (m : Int), vs = [.ref dk, .int n, .int m] ∧ Deck H dk c B ∧ n ≤ 100 ∧ B + 2 * n ≤ 1000000 ∧ 0 ≤ m ∧ m ≤ 900 ∧
  ∀ t (row : List Int) H', row.length = n → (∀ x ∈ row, 0 ≤ x ∧ x ≤ m) → H t = none → H' t = some (.tup (row.map V.int)) → Kp2 dk c H H' → Deck H' dk c (B + 2 * n) → Q (.ref t) H'
theorem ok_counts {f fD : Addr} {fd fdD : FuncData} {k : Nat} (F : Fun K "_law_counts" "_law_counts" sCounts f fd) (FD : Fun K "_law_draw" "_law_draw" sDraw fD fdD)
    (bD : Binds K fdD ["_law_deck_here", "_law_limit"] []) (gD : mg "_law_draw" = some (.ref fD)) (ml : mg "len" = none) (mt : mg "tuple" = none) (mr : mg "range" = none) :
    FnOk P w K mg base CX0 (k + 2) f fd ["_law_deck_here", "_law_kinds", "_law_most"] spCounts := by
  have GD : FnOk P w K mg base CX0 (k + 1) fD fdD ["_law_deck_here", "_law_limit"] spDraw := ok_draw FD ml
  refine F.ok scCounts (fun vs H Q E h => ?_) (fun cdv A outer s H vs Q E hr h => ?_)
  · obtain ⟨dk, c, B, n, m, rfl, _⟩ := h
    rfl
  · obtain ⟨dk, c, B, n, m, rfl, dek, hn, hB, hm0, hm1, q⟩ := h
    refine ⟨_, pss_one (ps_ret (pe_callTy call_tuple_of (by rfl) mt (by decide +kernel) (pa_cons (pe_lc (own := [("_law_k", 3)]) (g := gName 3) rfl scCounts.nd (pi_range1 (by rfl) mr (pa_cons (pv 1) pa_nil))
      (blkOk_by (own := [("_law_k", 3)]) (N := ["_law_deck_here", "_law_kinds", "_law_most", "_law_k"]) (sc := defScope sCounts) (by decide +kernel)) (fun _ _ _ _ _ => pg_name (i := 3) scCounts.nd rfl (Or.inl rfl)) (fun _ _ _ _ _ => pts_nil)
      (fun _ _ _ _ _ => pe_op op_mul (pe_call GD hr (by rfl) gD FD.kp bD .nil pass0 (pa_cons (pv 0) (pa_cons (pe_op op_add (pv 2) pe_int) pa_nil)))
        (pe_ix (show IxR _ (rIxL K) from ix_list) (pe_lst (pa_cons pe_int (pa_cons pe_int (pa_cons pe_int (pa_cons pe_int pa_nil))))) (pe_call GD hr (by rfl) gD FD.kp bD .nil pass0 (pa_cons (pv 0) (pa_cons pe_int pa_nil))) (fun _ _ => rfl)))) pa_nil))), ?_⟩
    refine ⟨_, rfl, n, rfl, by omega, by omega, fun D nD => ?_⟩
    have dne := dek.nedk nD
    refine lc_range (lo := 0) (n := n) (fun i H' => ∃ row : List Int, row.length = i ∧ (∀ x ∈ row, 0 ≤ x ∧ x ≤ m) ∧ H' D = some (.lst (row.map V.int)) ∧ Kp2 dk c H H' ∧ Deck H' dk c (B + 2 * i))
      ⟨[], rfl, (fun x h => by cases h), upd_same, kps (same_new nD), dek.kp nD⟩ (fun i H' hi h => ?_) (fun H' h => ?_)
    · obtain ⟨row, hl, hrow, hD, kp, dk1⟩ := h
      refine ⟨rfl, _, rfl, _, rfl, m, 1, rfl, rfl, dk, c, B + 2 * i, m + 1, rfl, dk1, by omega, by omega, by omega, fun r H1 r0 r1 k1 d1 => ?_⟩
      refine ⟨by show 4 ≤ sizeLine; decide, fun l nl => ?_⟩
      refine ⟨_, rfl, dk, c, B + 2 * i + 1, 4, rfl, d1.kp nl, by omega, by decide, by decide, fun r2 H3 s0 s1 k2 d2 => ?_⟩
      obtain ⟨b, hb, eb⟩ := four_at s0 s1
      have lne := d1.nedk nl
      have hl3 : H3 l = some (.lst [V.int 0, V.int 1, V.int 1, V.int 1]) := k2 _ _ lne.1 lne.2 upd_same
      have hD3 : H3 D = some (.lst (row.map V.int)) := by
        have hD1 := k1 _ _ dne.1 dne.2 hD
        exact k2 _ _ dne.1 dne.2 (same_new nl _ _ hD1)
      refine ⟨l, _, r2, .int b, rfl, rfl, SqL.of hl3, eb, r, b, rfl, rfl, .inr (by rcases hb with rfl | rfl <;> decide), _, hD3, ?_, row ++ [r * b], ?_, ?_, ?_, ?_, ?_⟩
      · rw [List.length_map]
        exact len_lt (by omega)
      · rw [List.length_append, hl]
        rfl
      · intro x hx
        rcases List.mem_append.mp hx with h | h
        · exact hrow x h
        · rw [List.mem_singleton.mp h]
          rcases hb with rfl | rfl
          · rw [Int.mul_zero]
            omega
          · rw [Int.mul_one]
            omega
      · rw [upd_same, List.map_append]
        rfl
      · intro b' o h1 h2 e
        have e3 := k2 b' o h1 h2 (same_new nl _ _ (k1 b' o h1 h2 (kp b' o h1 h2 e)))
        have hne : b' ≠ D := ne_of_none e nD
        rw [upd_ne hne]
        exact e3
      · obtain ⟨⟨ns, t, a1, a2, a3⟩, a4⟩ := d2
        refine ⟨⟨ns, t, ?_, ?_, a3.1, a3.2.1, a3.2.2.1, ?_⟩, a4⟩
        · rw [upd_ne dne.1.symm]
          exact a1
        · rw [upd_ne dne.2.symm]
          exact a2
        · have := a3.2.2.2
          omega
    · obtain ⟨row, hl, hrow, hD, kp, dk1⟩ := h
      refine ⟨D, _, rfl, .inl ⟨SqL.of hD, fun t nt => ?_⟩⟩
      have nt0 : H t = none := by
        have tne := dk1.nedk nt
        cases e : H t with
        | none => rfl
        | some o =>
          have := kp t o tne.1 tne.2 e
          rw [nt] at this
          cases this
      exact q t row _ hl hrow nt0 upd_same (kp.trans (kps (same_new nt))) (dk1.kp nt)
end
end DD
namespace DD
open PySem PySem.Spec PyProof.Rows L2
theorem two_at {r a b : Int} (h0 : 0 ≤ r) (h : r < 2) : ∃ z : Int, (z = a ∨ z = b) ∧ atI [V.int a, V.int b] r = some (.int z) := by
  have e : r = 0 ∨ r = 1 := by omega
  rcases e with rfl | rfl
  · exact ⟨a, .inl rfl, rfl⟩
  · exact ⟨b, .inr rfl, rfl⟩
theorem kp_free {dk c t : Addr} {H H' : Hp} {B : Nat} (kp : Kp2 dk c H H') (d : Deck H' dk c B) (nt : H' t = none) : H t = none := by
  have tne := d.nedk nt
  cases e : H t with
  | none => rfl
  | some o =>
    have := kp t o tne.1 tne.2 e
    rw [nt] at this
    cases this
theorem Deck.updD {H : Hp} {dk c D : Addr} {B : Nat} {o : HO} (d : Deck H dk c B) (h1 : D ≠ dk) (h2 : D ≠ c) : Deck (upd H D o) dk c B := by
  obtain ⟨⟨ns, t, a1, a2, a3⟩, a4⟩ := d
  refine ⟨⟨ns, t, ?_, ?_, a3⟩, a4⟩
  · rw [upd_ne h1.symm]
    exact a1
  · rw [upd_ne h2.symm]
    exact a2
/-- the tuple at t holds tuples of ints: the rows -/
structure StockAt (H : Hp) (t : Addr) (ls : List Addr) (rows : List (List Int)) : Prop where
  top : H t = some (.tup (ls.map V.ref))
  len : ls.length = rows.length
  row : ∀ (j : Nat) (l : Addr) (r : List Int), ls[j]? = some l → rows[j]? = some r → H l = some (.tup (r.map V.int))
theorem StockAt.kp {H H' : Hp} {dk c t : Addr} {ls : List Addr} {rows : List (List Int)} {B : Nat} (a : StockAt H t ls rows) (k : Kp2 dk c H H') (d : Deck H dk c B) : StockAt H' t ls rows := by
  obtain ⟨ns, t', h1, h2, _⟩ := d.ex
  have n1 : ∀ b xs, H b = some (.tup xs) → b ≠ dk ∧ b ≠ c := fun b xs e =>
    ⟨fun z => (by rw [z, h1] at e; cases e), fun z => (by rw [z, h2] at e; cases e)⟩
  refine ⟨k _ _ (n1 _ _ a.top).1 (n1 _ _ a.top).2 a.top, a.len, fun j l r e1 e2 => ?_⟩
  have h := a.row j l r e1 e2
  exact k _ _ (n1 _ _ h).1 (n1 _ _ h).2 h
theorem StockAt.same {H H' : Hp} {t : Addr} {ls : List Addr} {rows : List (List Int)} (a : StockAt H t ls rows) (k : Same H H') : StockAt H' t ls rows :=
  ⟨k _ _ a.top, a.len, fun j l r e1 e2 => k _ _ (a.row j l r e1 e2)⟩
/-! ### data of stocks and rows -/
def rowD (r : List Int) : PyData := .tuple (r.map PyData.int)
def stockD (rows : List (List Int)) : PyData := .tuple (rows.map rowD)
theorem dps_ints {K : PySem.W.Frag} {H : Hp} : ∀ r : List Int, DpAll K H (r.map V.int) (r.map PyData.int)
  | [] => .nil
  | x :: r => .cons (.int x) (dps_ints r)
theorem dp_row {K : PySem.W.Frag} {H : Hp} {p : Addr} {r : List Int} (h : H p = some (.tup (r.map V.int))) : Dp K H (.ref p) (rowD r) := .tup (SqT.of h) (dps_ints r)
theorem dps_rows {K : PySem.W.Frag} {H : Hp} : ∀ (ls : List Addr) (rows : List (List Int)), ls.length = rows.length →
    (∀ (j : Nat) (l : Addr) (r : List Int), ls[j]? = some l → rows[j]? = some r → H l = some (.tup (r.map V.int))) → DpAll K H (ls.map V.ref) (rows.map rowD)
  | [], [], _, _ => .nil
  | [], _ :: _, h, _ => by simp at h
  | _ :: _, [], h, _ => by simp at h
  | l :: ls, r :: rows, h, hat => .cons (dp_row (hat 0 l r rfl rfl)) (dps_rows ls rows (by simpa using h) fun j l' r' e1 e2 => hat (j + 1) l' r' e1 e2)
theorem StockAt.dp {K : PySem.W.Frag} {H : Hp} {t : Addr} {ls : List Addr} {rows : List (List Int)} (a : StockAt H t ls rows) : Dp K H (.ref t) (stockD rows) :=
  .tup (SqT.of a.top) (dps_rows ls rows a.len a.row)
theorem sm_row {r : List Int} (h : ∀ x ∈ r, 0 ≤ x ∧ x < 4096) (hl : r.length ≤ 4) : Sm 56 1 (rowD r) := by
  have a : SmA (r.map PyData.int).length 13 0 (r.map PyData.int) := SmA.all fun d hd => by
    obtain ⟨x, hx, rfl⟩ := List.mem_map.mp hd
    exact Sm.int (h x hx).1 (h x hx).2
  refine a.tup.up ?_ (Nat.le_refl _)
  rw [List.length_map]
  omega
theorem sm_stock {rows : List (List Int)} (h : ∀ r ∈ rows, r.length ≤ 4 ∧ ∀ x ∈ r, 0 ≤ x ∧ x < 4096) (hl : rows.length ≤ 4) : Sm 228 2 (stockD rows) := by
  have a : SmA (rows.map rowD).length 56 1 (rows.map rowD) := SmA.all fun d hd => by
    obtain ⟨r, hr, rfl⟩ := List.mem_map.mp hd
    exact sm_row (h r hr).2 (h r hr).1
  refine a.tup.up ?_ (Nat.le_refl _)
  rw [List.length_map]
  omega
theorem sm_pair {a b : List Int} (ha : ∀ x ∈ a, 0 ≤ x ∧ x < 4096) (hal : a.length ≤ 4) (hb : ∀ x ∈ b, 0 ≤ x ∧ x < 4096) (hbl : b.length ≤ 4) : Sm 114 2 (.list [rowD a, rowD b]) := by
  have q : SmA (0 + 1 + 1) 56 1 [rowD a, rowD b] := SmA.cons (sm_row ha hal) (SmA.cons (sm_row hb hbl) SmA.nil)
  exact q.lst.up (by omega) (by omega)
theorem sum_bd {b : Int} : ∀ {xs : List Int}, (∀ x ∈ xs, 0 ≤ x ∧ x ≤ b) → 0 ≤ xs.sum ∧ xs.sum ≤ (xs.length : Int) * b
  | [], _ => by simp
  | x :: xs, h => by
    have h1 := h x List.mem_cons_self
    have h2 := sum_bd (xs := xs) fun y hy => h y (List.mem_cons_of_mem _ hy)
    rw [List.sum_cons, List.length_cons, Int.natCast_add, Int.add_mul]
    omega
theorem getD_bd {r : List Int} {b : Int} (h : ∀ x ∈ r, 0 ≤ x ∧ x ≤ b) (hb : 0 ≤ b) (i : Nat) : 0 ≤ r.getD i 0 ∧ r.getD i 0 ≤ b := by
  rw [List.getD_eq_getElem?_getD]
  cases e : r[i]? with
  | none => exact ⟨Int.le_refl _, hb⟩
  | some x => exact h x (List.mem_of_getElem? e)
theorem scSame : FnScope ["_law_value", "_law_due"] ["_law_value", "_law_due"] (defScope sSame) := ⟨rfl, rfl, rfl, by decide +kernel, rfl, by decide +kernel, by decide +kernel⟩
section
variable {P : Program} {w : World} {K : PySem.W.Frag} {mg : Str → Option Value} {base : Heap}
/-- two things of one data -/
def spSame (K : PySem.W.Frag) : Sp := fun vs H Q _ => ∃ (a b : Addr) (d : PyData) (wt : Nat), vs = [.ref a, .ref b] ∧ Dp K H (.ref a) d ∧ Dp K H (.ref b) d ∧ Sm wt 64 d ∧ wt ≤ 1048576 ∧ Q (.bl true) H
theorem ok_same {f : Addr} {fd : FuncData} {k : Nat} (F : Fun K "_law_same" "_law_same" sSame f fd) (mr : mg "repr" = none) : FnG P w K mg base (k + 1) f fd ["_law_value", "_law_due"] (spSame K) := by
  refine fnG_of F scSame (fun vs H Q E h => ?_) (fun cdv A hgu outer s H vs Q E hr h => ?_)
  · obtain ⟨a, b, d, wt, rfl, _⟩ := h
    rfl
  · obtain ⟨a, b, d, wt, rfl, h1, h2, sm, hw, q⟩ := h
    have hu : (A.deeper (envOfC "_law_same" (defScope sSame) s.heap.objs.size f cdv)).units + 66 < cLine := by
      have := hr.un
      omega
    refine ⟨_, pss_one (ps_ret (pe_cmpR op_eq (pe_callB (call_reprD hgu hu) (by rfl) mr (by decide +kernel) (pa_cons (pv 0) pa_nil)) (pe_callB (call_reprD hgu hu) (by rfl) mr (by decide +kernel) (pa_cons (pv 1) pa_nil)) (nomark _))), ?_⟩
    refine ⟨_, rfl, a, d, wt, rfl, h1, sm, hw, _, rfl, b, d, wt, rfl, h2, sm, hw, rfl, ?_⟩
    rw [decide_eq_true rfl]
    exact q
end
end DD
namespace DD
open PySem PySem.Spec PyProof.Rows L2

/-! ### slices and sums of tuples, whatever the object -/
theorem cat_gen {K : PySem.W.Frag} {H : Hp} {a b : Addr} {xs ys : List V} {Q : VK} (ha : H a = some (.tup xs)) (hb : H b = some (.tup ys)) (hl : xs.length + ys.length ≤ 1000)
    (q : ∀ p H', Same H H' → H' p = some (.tup (xs ++ ys)) → Q (.ref p) H') : rCatA K (.ref a) (.ref b) H Q := by
  refine ⟨a, b, xs, ys, rfl, rfl, SqT.of ha, SqT.of hb, Nat.le_of_lt (len_lt hl), fun e => ?_, fun _ e => ?_, fun _ _ p np => ?_⟩
  · subst e
    exact q b H (fun _ _ e => e) hb
  · subst e
    exact q a H (fun _ _ e => e) (by rw [List.append_nil]; exact ha)
  · exact q p _ (same_new np) upd_same
theorem sl_gen {K : PySem.W.Frag} {H : Hp} {a : Addr} {xs : List V} {lo hi : Option Int} {Q : VK} (ha : H a = some (.tup xs))
    (q : ∀ p H', Same H H' → H' p = some (.tup (cutV xs lo hi)) → Q (.ref p) H') : rSlA K (.ref a) lo hi H Q := by
  refine ⟨a, xs, rfl, SqT.of ha, fun e => ?_, fun _ p np => ?_⟩
  · refine q a H (fun _ _ e => e) ?_
    unfold cutV
    rw [e.1, e.2, Nat.sub_zero, List.drop_zero, List.take_length]
    exact ha
  · exact q p _ (same_new np) upd_same
theorem cut_to {r : List Int} {s : Nat} : cutV (r.map V.int) none (some (s : Int)) = (r.take s).map V.int := by
  unfold cutV
  rw [HT.sIx_none, HT.sIx_nat, List.drop_zero, Nat.sub_zero, List.length_map, ← List.map_take]
  congr 1
  by_cases h : s ≤ r.length
  · rw [Nat.min_eq_left h]
  · rw [Nat.min_eq_right (by omega), List.take_length, List.take_of_length_le (by omega)]
theorem cut_from {r : List Int} {s : Nat} : cutV (r.map V.int) (some (s : Int)) none = (r.drop s).map V.int := by
  unfold cutV
  rw [HT.sIx_none, HT.sIx_nat, List.length_map, ← List.map_drop, ← List.map_take]
  congr 1
  by_cases h : s ≤ r.length
  · rw [Nat.min_eq_left h, List.take_of_length_le (by rw [List.length_drop]; omega)]
  · rw [Nat.min_eq_right (by omega), List.drop_of_length_le (Nat.le_refl _), List.drop_of_length_le (by omega), List.take_nil]

/-! ### facts that stay while the deck turns -/
theorem tup_kp {H H' : Hp} {dk c p : Addr} {B : Nat} {xs : List V} (h : H p = some (.tup xs)) (d : Deck H dk c B) (k : Kp2 dk c H H') : H' p = some (.tup xs) := by
  obtain ⟨ns, t', h1, h2, _⟩ := d.ex
  exact k _ _ (fun z => by rw [z, h1] at h; cases h) (fun z => by rw [z, h2] at h; cases h) h
/-- a collection: n numbers from 0 to hi, one of them above 0 -/
structure Good (n : Nat) (hi : Int) (r : List Int) : Prop where
  len : r.length = n
  bd : ∀ x ∈ r, 0 ≤ x ∧ x ≤ hi
  pos : ∃ x ∈ r, 0 < x
/-- addresses of tuples of ints, row by row -/
def RowsAt (H : Hp) (ls : List Addr) (rows : List (List Int)) : Prop := ∀ (j : Nat) (l : Addr) (r : List Int), ls[j]? = some l → rows[j]? = some r → H l = some (.tup (r.map V.int))
theorem RowsAt.kp {H H' : Hp} {dk c : Addr} {B : Nat} {ls : List Addr} {rows : List (List Int)} (a : RowsAt H ls rows) (d : Deck H dk c B) (k : Kp2 dk c H H') : RowsAt H' ls rows :=
  fun j l r e1 e2 => tup_kp (a j l r e1 e2) d k
theorem RowsAt.same {H H' : Hp} {ls : List Addr} {rows : List (List Int)} (a : RowsAt H ls rows) (k : Same H H') : RowsAt H' ls rows := fun j l r e1 e2 => k _ _ (a j l r e1 e2)
/-- a list that changes is none of the rows -/
theorem RowsAt.updL {H : Hp} {F : Addr} {xs : List V} {o : HO} {ls : List Addr} {rows : List (List Int)} (a : RowsAt H ls rows) (h : H F = some (.lst xs)) : RowsAt (upd H F o) ls rows := fun j l r e1 e2 => by
  have h2 := a j l r e1 e2
  rw [upd_ne (fun z => by rw [z, h] at h2; cases h2)]
  exact h2
theorem RowsAt.snoc {H : Hp} {ls : List Addr} {rows : List (List Int)} {l : Addr} {r : List Int} (a : RowsAt H ls rows) (hl : ls.length = rows.length) (h : H l = some (.tup (r.map V.int))) : RowsAt H (ls ++ [l]) (rows ++ [r]) := by
  intro j l' r' x1 x2
  by_cases hj : j < ls.length
  · rw [List.getElem?_append_left hj] at x1
    rw [List.getElem?_append_left (by omega)] at x2
    exact a j l' r' x1 x2
  · have hj2 : j = ls.length := by
      have := (List.getElem?_eq_some_iff.mp x1).1
      rw [List.length_append] at this
      simp at this
      omega
    subst hj2
    rw [List.getElem?_append_right (Nat.le_refl _), Nat.sub_self] at x1
    rw [hl, List.getElem?_append_right (Nat.le_refl _), Nat.sub_self] at x2
    obtain rfl : l = l' := Option.some.inj x1
    obtain rfl : r = r' := Option.some.inj x2
    exact h
theorem RowsAt.init {H : Hp} {ls : List Addr} {rows : List (List Int)} {l : Addr} {r : List Int} (a : RowsAt H (ls ++ [l]) (rows ++ [r])) : RowsAt H ls rows := fun j l' r' x1 x2 =>
  a j l' r' (by rw [List.getElem?_append_left (List.getElem?_eq_some_iff.mp x1).1]; exact x1) (by rw [List.getElem?_append_left (List.getElem?_eq_some_iff.mp x2).1]; exact x2)
theorem Kp2.updF {H H' : Hp} {dk c F : Addr} {o : HO} (k : Kp2 dk c H H') (n : H F = none) : Kp2 dk c H (upd H' F o) := fun b o' h1 h2 e => by
  rw [upd_ne (ne_of_none e n)]
  exact k b o' h1 h2 e

theorem scWishes : FnScope ["_law_deck_here", "_law_most", "_law_high", "_law_kinds", "_law_found", "_law_k", "_law_needed", "_law_spot"] ["_law_deck_here", "_law_most", "_law_high", "_law_kinds"] (defScope sWishes) := ⟨rfl, rfl, rfl, by decide +kernel, rfl, by decide +kernel, by decide +kernel⟩
section
variable {P : Program} {w : World} {K : PySem.W.Frag} {mg : Str → Option Value} {base : Heap}
/-- one to M collections for n kinds, of numbers from 0 to hi -/
def spWishes : Sp := fun vs H Q _ => ∃ (dk c : Addr) (B M n : Nat) (hi : Int), vs = [.ref dk, .int M, .int hi, .int n] ∧ Deck H dk c B ∧ 1 ≤ M ∧ M ≤ 4 ∧ 1 ≤ n ∧ n ≤ 4 ∧ B + 60 ≤ 1000000 ∧ 1 ≤ hi ∧ hi ≤ 900 ∧
  ∀ t (ls : List Addr) (rows : List (List Int)) H', 1 ≤ rows.length → rows.length ≤ M → (∀ row ∈ rows, Good n hi row) → StockAt H' t ls rows → Kp2 dk c H H' → Deck H' dk c (B + 60) → Q (.ref t) H'
theorem ok_wishes {f fD fC : Addr} {fd fdD fdC : FuncData} {k : Nat} (F : Fun K "_law_wishes" "_law_wishes" sWishes f fd) (FD : Fun K "_law_draw" "_law_draw" sDraw fD fdD) (FC : Fun K "_law_counts" "_law_counts" sCounts fC fdC)
    (bD : Binds K fdD ["_law_deck_here", "_law_limit"] []) (gD : mg "_law_draw" = some (.ref fD)) (bC : Binds K fdC ["_law_deck_here", "_law_kinds", "_law_most"] []) (gC : mg "_law_counts" = some (.ref fC))
    (ml : mg "len" = none) (mt : mg "tuple" = none) (mr : mg "range" = none) (mx : mg "max" = none) :
    FnOk P w K mg base CX0 (k + 3) f fd ["_law_deck_here", "_law_most", "_law_high", "_law_kinds"] spWishes := by
  have GD : FnOk P w K mg base CX0 (k + 1) fD fdD ["_law_deck_here", "_law_limit"] spDraw := ok_draw FD ml
  have GC : FnOk P w K mg base CX0 (k + 2) fC fdC ["_law_deck_here", "_law_kinds", "_law_most"] spCounts := ok_counts FC FD bD gD ml mt mr
  refine F.ok scWishes (fun vs H Q E h => ?_) (fun cdv A outer s H vs Q E hr h => ?_)
  · obtain ⟨dk, c, B, M, n, hi, rfl, _⟩ := h
    rfl
  · obtain ⟨dk, c, B, M, n, hi, rfl, dek, hM1, hM4, hn1, hn, hB, h0, h9, q⟩ := h
    refine ⟨_, pss_cons (ps_set (i := 4) scWishes.nd rfl (.inl rfl) (pe_lst pa_nil))
      (pss_cons (ps_for PassesOwn.never rfl (pi_range1 (by rfl) mr (pa_cons (pe_ix (show IxR _ (rIxL K) from ix_list)
          (pe_lst (pa_cons (pe_op op_add pe_int (pe_call GD (hr.mono (by omega)) (by rfl) gD FD.kp bD .nil pass0 (pa_cons (pv 0) (pa_cons (pv 1) pa_nil)))) (pa_cons (pv 1) pa_nil)))
          (pe_call GD (hr.mono (by omega)) (by rfl) gD FD.kp bD .nil pass0 (pa_cons (pv 0) (pa_cons pe_int pa_nil))) (fun _ _ => rfl)) pa_nil)) (pg_name (i := 5) scWishes.nd rfl (.inl rfl))
        (pss_cons (ps_par (i := 6) (j := 7) (by rfl) scWishes.nd rfl rfl (by decide) rfl rfl
            (pa_cons (pe_call GC hr (by rfl) gC FC.kp bC .nil pass0 (pa_cons (pv 0) (pa_cons (pv 3) (pa_cons (pv 2) pa_nil))))
            (pa_cons (pe_call GD (hr.mono (by omega)) (by rfl) gD FD.kp bD .nil pass0 (pa_cons (pv 0) (pa_cons (pv 3) pa_nil))) pa_nil)) (by rfl))
        (C8.pss_cut (ps_if (pt_cmpR op_eq (pe_callB (show CallR _ _ (rMaxT K) from cr_maxT rfl) (by rfl) mx (by decide +kernel) (pa_cons (pv 6) pa_nil)) pe_int (nomark _))
            (pss_one (ps_set (i := 6) scWishes.nd rfl (.inl rfl) (pe_op op_catA (pe_op op_catA (pe_slice sl_tupA (pv 6) po_none (po_some (pv 7)))
              (pe_tup (pa_cons (pe_op op_add pe_int (pe_call GD (hr.mono (by omega)) (by rfl) gD FD.kp bD .nil pass0 (pa_cons (pv 0) (pa_cons (pv 2) pa_nil)))) pa_nil)))
              (pe_slice sl_tupA (pv 6) (po_some (pe_op op_add (pv 7) pe_int)) po_none)))) pss_nil)
        (pss_cons (ps_expr (pe_bm PySem.F.plainAttrs_list PySem.F.slot_list_append PySem.F.type_list_append mt_append (pv 4) (pa_cons (pv 6) pa_nil)))
        (pss_one (ps_if (pt_cmpR op_eq (pe_call GD (hr.mono (by omega)) (by rfl) gD FD.kp bD .nil pass0 (pa_cons (pv 0) (pa_cons pe_int pa_nil))) pe_int (nomark _))
            (pss_one (ps_asg (pe_ix ix_list (pv 4) pe_int (fun _ _ => rfl)) (pg_sub (pv 4) (pe_un un_neg pe_int) set_list))) pss_nil))))))
      (pss_one (ps_ret (pe_callTy call_tuple_of (by rfl) mt (by decide +kernel) (pa_cons (pv 4) pa_nil))))), ?_⟩
    -- _law_found = []
    refine ⟨by show 0 ≤ sizeLine; decide, fun fl nfl => ?_⟩
    have fne := dek.nedk nfl
    have d0 := dek.kp (o := .lst []) nfl
    have k0 : Kp2 dk c H (upd H fl (.lst [])) := kps (same_new nfl)
    -- range([1 + draw(most), most][draw(2)])
    refine ⟨_, rfl, _, rfl, dk, c, B, M, rfl, d0, by omega, by omega, by omega, fun r1 H1 a0 a1 k1 d1 => ?_⟩
    refine ⟨1, r1, rfl, rfl, _, rfl, by show 2 ≤ sizeLine; decide, fun l nl => ?_⟩
    refine ⟨_, rfl, dk, c, B + 1, 2, rfl, d1.kp nl, by omega, by decide, by decide, fun r2 H2 b0 b1 k2 d2 => ?_⟩
    have lne := d1.nedk nl
    have hl2 : H2 l = some (.lst [V.int (1 + r1), V.int M]) := k2 _ _ lne.1 lne.2 upd_same
    have hf1 : H1 fl = some (.lst []) := k1 _ _ fne.1 fne.2 upd_same
    have hf2 : H2 fl = some (.lst []) := k2 _ _ fne.1 fne.2 (same_new nl _ _ hf1)
    obtain ⟨z, hz, ez⟩ := two_at (a := 1 + r1) (b := M) b0 b1
    have k02 : Kp2 dk c H H2 := k0.trans (k1.trans ((kps (same_new nl)).trans k2))
    refine ⟨l, _, r2, .int z, rfl, rfl, SqL.of hl2, ez, ?_⟩
    obtain ⟨cnt, rfl, hc1, hc4⟩ : ∃ cnt : Nat, z = (cnt : Int) ∧ 1 ≤ cnt ∧ cnt ≤ M := by
      rcases hz with rfl | rfl
      · exact ⟨(1 + r1).toNat, by omega, by omega, by omega⟩
      · exact ⟨M, rfl, hM1, Nat.le_refl _⟩
    refine ⟨_, rfl, by omega, by omega, ?_⟩
    refine for_range (lo := 0) (n := cnt) (fun i σ H' => ∃ (ls : List Addr) (rows : List (List Int)) (y5 y6 y7 : Option V), σ = [some (.ref dk), some (.int M), some (.int hi), some (.int n), some (.ref fl), y5, y6, y7] ∧
        rows.length = i ∧ (∀ row ∈ rows, Good n hi row) ∧ ls.length = rows.length ∧ RowsAt H' ls rows ∧ H' fl = some (.lst (ls.map V.ref)) ∧ Kp2 dk c H H' ∧ Deck H' dk c (B + 2 + 12 * i))
      ⟨[], [], none, none, none, rfl, rfl, (fun x h => by cases h), rfl, (fun j l r e => by simp at e), hf2, k02, d2.up (by omega)⟩ (fun i σ Ha hi' h => ?_) (fun σ Ha h => ?_)
    · obtain ⟨ls, rows, y5, y6, y7, rfl, hl, hrow, hll, hat, hF, kp, da⟩ := h
      -- _law_needed, _law_spot = ..
      refine ⟨_, rfl, _, rfl, _, rfl, dk, c, B + 2 + 12 * i, n, hi, rfl, da, by omega, by omega, by omega, h9, fun t row Hb e1 e2 e3 e4 kb db => ?_⟩
      refine ⟨_, rfl, _, rfl, dk, c, B + 2 + 12 * i + 2 * n, n, rfl, db, by omega, by omega, by omega, fun s Hc s0 s1 kc dc => ?_⟩
      obtain ⟨sp, rfl⟩ : ∃ sp : Nat, s = (sp : Int) := ⟨s.toNat, by omega⟩
      have ht : Hc t = some (.tup (row.map V.int)) := tup_kp e4 db kc
      have kac : Kp2 dk c Ha Hc := kb.trans kc
      have hFc : Hc fl = some (.lst (ls.map V.ref)) := kac _ _ fne.1 fne.2 hF
      refine ⟨_, _, rfl, ?_⟩
      -- if max(_law_needed) == 0
      refine ⟨fun σ' H' => ∃ (t' : Addr) (row' : List Int), σ' = [some (.ref dk), some (.int M), some (.int hi), some (.int n), some (.ref fl), some (.int ((0 : Int) + i)), some (.ref t'), some (.int sp)] ∧ Good n hi row' ∧
        H' t' = some (.tup (row'.map V.int)) ∧ Kp2 dk c Ha H' ∧ Deck H' dk c (B + 2 + 12 * i + 10), ?_, ?_⟩
      · refine ⟨.ref t, rfl, t, row, rfl, SqT.of ht, by omega, fun m hm hmx => ⟨rfl, _, rfl, ite2 (fun e => ?_) (fun e => ?_)⟩⟩
        · refine ⟨.ref t, rfl, .int sp, rfl, sp, rfl, sl_gen ht fun pa Hd sm1 h1 => ?_⟩
          rw [cut_to] at h1
          have dd := dc.keep sm1
          have htd := sm1 _ _ ht
          refine ⟨_, rfl, _, rfl, dk, c, _, hi, rfl, dd, by omega, h0, by omega, fun r He r0 r1' ke de => ⟨1, r, rfl, rfl, ?_⟩⟩
          have h1e := tup_kp h1 dd ke
          have hte := tup_kp htd dd ke
          refine ⟨by show 1 ≤ sizeLine; decide, fun pb nb => ?_⟩
          have sb : Same He (upd He pb (.tup [V.int (1 + r)])) := same_new nb
          refine cat_gen (ys := [V.int (1 + r)]) (sb _ _ h1e) upd_same (by rw [List.length_map, List.length_take]; show _ + 1 ≤ 1000; omega) fun pc Hf sm2 h2 => ?_
          refine ⟨.ref t, rfl, .int sp, rfl, sp, 1, rfl, rfl, (sp : Int) + 1, rfl, ?_⟩
          dsimp only [tNoPart]
          refine sl_gen (sm2 _ _ (sb _ _ hte)) fun pd Hg sm3 h3 => ?_
          rw [show ((sp : Int) + 1) = ((sp + 1 : Nat) : Int) from rfl, cut_from] at h3
          refine cat_gen (sm3 _ _ h2) h3 (by simp only [List.length_append, List.length_map, List.length_take, List.length_drop, List.length_cons, List.length_nil]; omega) fun pe Hh sm4 h4 => ?_
          have sme : Same He Hh := sb.trans (sm2.trans (sm3.trans sm4))
          refine ⟨pe, row.take sp ++ [1 + r] ++ row.drop (sp + 1), rfl, ⟨?_, fun x hx => ?_, 1 + r, by simp, by omega⟩, ?_, kac.trans ((kps sm1).trans (ke.trans (kps sme))), (de.keep sme).up (by omega)⟩
          · simp only [List.length_append, List.length_take, List.length_drop, List.length_cons, List.length_nil]
            omega
          · rcases List.mem_append.mp hx with h | h
            · rcases List.mem_append.mp h with h | h
              · exact e2 x (List.mem_of_mem_take h)
              · rw [List.mem_singleton.mp h]
                omega
            · exact e2 x (List.mem_of_mem_drop h)
          · rw [h4]
            simp [List.map_append]
        · have hm0 : m ≠ 0 := fun z => by simp [z] at e
          exact ⟨t, row, rfl, ⟨e1, e2, m, hm, by have := (e2 m hm).1; omega⟩, ht, kac, dc.up (by omega)⟩
      · rintro σ' H' ⟨t', row', rfl, good, ht', kp', d'⟩
        have hFd : H' fl = some (.lst (ls.map V.ref)) := kp' _ _ fne.1 fne.2 hF
        have hat' : RowsAt H' ls rows := hat.kp da kp'
        have tne : t' ≠ fl := fun z => by rw [z, hFd] at ht'; cases ht'
        have hlen : (ls.map V.ref).length < sizeLine := by rw [List.length_map]; exact len_lt (by omega)
        -- _law_found.append(_law_needed)
        refine ⟨.ref fl, rfl, .inl ⟨rfl, _, SqL.of hFd⟩, .ref t', rfl, fl, _, .ref t', rfl, rfl, hFd, hlen, ?_⟩
        have hF1 : (upd H' fl (.lst (ls.map V.ref ++ [.ref t']))) fl = some (.lst ((ls ++ [t']).map V.ref)) := by
          rw [upd_same, List.map_append]
          rfl
        have hat1 : RowsAt (upd H' fl (.lst (ls.map V.ref ++ [.ref t']))) (ls ++ [t']) (rows ++ [row']) := (hat'.snoc hll ht').updL hFd
        have d1' : Deck (upd H' fl (.lst (ls.map V.ref ++ [.ref t']))) dk c (B + 2 + 12 * i + 10) := d'.updD fne.1 fne.2
        have kp1 : Kp2 dk c H (upd H' fl (.lst (ls.map V.ref ++ [.ref t']))) := (kp.trans kp').updF nfl
        generalize hHi : upd H' fl (.lst (ls.map V.ref ++ [.ref t'])) = Hi at hF1 hat1 d1' kp1 ⊢
        have hgood : ∀ r' ∈ rows ++ [row'], Good n hi r' := fun r' hr' => by
          rcases List.mem_append.mp hr' with h | h
          · exact hrow r' h
          · rw [List.mem_singleton.mp h]
            exact good
        -- if _law_draw(_law_deck_here, 6) == 0
        refine ⟨_, rfl, dk, c, _, 6, rfl, d1', by omega, by decide, by decide, fun r Hj r0 r1' kj dj => ⟨rfl, _, rfl, ite2 (fun e => ?_) (fun e => ?_)⟩⟩
        · have hFj : Hj fl = some (.lst ((ls ++ [t']).map V.ref)) := kj _ _ fne.1 fne.2 hF1
          have hatj : RowsAt Hj (ls ++ [t']) (rows ++ [row']) := hat1.kp d1' kj
          obtain ⟨l0, hl0⟩ : ∃ l0, (ls ++ [t'])[0]? = some l0 := ⟨(ls ++ [t'])[0]'(by simp), List.getElem?_eq_getElem _⟩
          obtain ⟨r0', hr0⟩ : ∃ r0', (rows ++ [row'])[0]? = some r0' := ⟨(rows ++ [row'])[0]'(by simp), List.getElem?_eq_getElem _⟩
          have hg0 : ((ls ++ [t']).map V.ref)[0]? = some (.ref l0) := by
            rw [List.getElem?_map, hl0]
            rfl
          have hln : ((ls ++ [t']).map V.ref).length = ls.length + 1 := by simp
          have hix : ixN ((ls ++ [t']).map V.ref).length (-1) = some ls.length := by
            rw [hln]
            unfold ixN
            rw [if_neg (by decide), if_pos (by omega)]
            congr 1
            omega
          refine ⟨.ref fl, rfl, fl, _, 0, .ref l0, rfl, rfl, SqL.of hFj, atI_nat (j := 0) hg0, .ref fl, rfl, 1, rfl, fl, _, -1, ls.length, rfl, rfl, hFj, hix, ?_⟩
          have hset : ((ls ++ [t']).map V.ref).set ls.length (.ref l0) = (ls ++ [l0]).map V.ref := by
            rw [List.map_append, List.map_append, List.set_append_right _ _ (by simp)]
            simp
          rw [hset]
          refine ⟨ls ++ [l0], rows ++ [r0'], _, _, _, rfl, ?_, ?_, ?_, ?_, upd_same, (kp1.trans kj).updF nfl, (dj.updD fne.1 fne.2).up (by omega)⟩
          · rw [List.length_append, hl]
            rfl
          · intro r' hr'
            rcases List.mem_append.mp hr' with h | h
            · exact hrow r' h
            · rw [List.mem_singleton.mp h]
              exact hgood _ (List.mem_of_getElem? hr0)
          · rw [List.length_append, List.length_append, hll]
            rfl
          · exact RowsAt.updL ((hatj.init).snoc hll (hatj 0 l0 r0' hl0 hr0)) hFj
        · refine ⟨ls ++ [t'], rows ++ [row'], _, _, _, rfl, ?_, hgood, ?_, hat1.kp d1' kj, kj _ _ fne.1 fne.2 hF1, kp1.trans kj, dj.up (by omega)⟩
          · rw [List.length_append, hl]
            rfl
          · rw [List.length_append, List.length_append, hll]
            rfl
    · obtain ⟨ls, rows, y5, y6, y7, rfl, hl, hrow, hll, hat, hF, kp, da⟩ := h
      refine ⟨.ref fl, rfl, fl, _, rfl, .inl ⟨SqL.of hF, fun t nt => ?_⟩⟩
      exact q t ls rows _ (by omega) (by omega) hrow ⟨upd_same, hll, hat.same (same_new nt)⟩ (kp.trans (kps (same_new nt))) ((da.kp nt).up (by omega))
end
end DD
namespace DD
open PySem PySem.Spec PyProof.Rows L2

/-! ### slices, sums and products of tuples, whatever object they give -/
theorem cutV_all {xs : List V} {lo hi : Option Int} (h : HT.sIx xs.length 0 lo = 0 ∧ HT.sIx xs.length xs.length hi = xs.length) : cutV xs lo hi = xs := by
  unfold cutV
  rw [h.1, h.2, List.drop_zero, Nat.sub_zero, List.take_length]
def rSlQ : V → Option Int → Option Int → Hp → VK → Prop := fun x lo hi H Q => ∃ a xs, x = .ref a ∧ H a = some (.tup xs) ∧ ∀ p H', Same H H' → H' p = some (.tup (cutV xs lo hi)) → Q (.ref p) H'
theorem sl_tupQ {X : Cx} : SlR X rSlQ := by
  intro pins s σ H x v vl vu lo hi sl Q I rx h1 h2 h3 h
  obtain ⟨a, xs, rfl, ha, q⟩ := h
  refine sl_tupA pins s σ H _ v vl vu lo hi sl Q I rx h1 h2 h3 ⟨a, xs, rfl, SqT.of ha, fun e => q a H (Same.refl _) (by rw [cutV_all e]; exact ha), fun _ p np => q p _ (same_new np) upd_same⟩
def rCatQ : R2 := fun x y H Q => ∃ a b xs ys, x = .ref a ∧ y = .ref b ∧ H a = some (.tup xs) ∧ H b = some (.tup ys) ∧ xs.length + ys.length ≤ 1000 ∧ ∀ p H', Same H H' → H' p = some (.tup (xs ++ ys)) → Q (.ref p) H'
theorem op_catQ {X : Cx} : OpR X (binaryOp .Add) rCatQ := by
  intro pins s σ H x y v u Q I rx ry h
  obtain ⟨a, b, xs, ys, rfl, rfl, ha, hb, hl, q⟩ := h
  refine op_catA pins s σ H _ _ v u Q I rx ry ⟨a, b, xs, ys, rfl, rfl, SqT.of ha, SqT.of hb, Nat.le_of_lt (len_lt hl), fun e => q b H (Same.refl _) ?_, fun _ e => q a H (Same.refl _) ?_, fun _ _ p np => q p _ (same_new np) upd_same⟩
  · rw [e]
    exact hb
  · rw [e, List.append_nil]
    exact ha
theorem meets_mul1 (l : Addr) (items : Array Value) (n : Nat) (dd : Option Addr) (sl : Array (Option Value)) (u : Tok) (hi : items.isEmpty = false) : Meets (Builtin.«tuple.__mul__» { pos := [Value.ref l, Value.int 1 u] })
    (fun _ R s => s.heap.get? l = some { cls := Value.type "tuple", dict := dd, data := Data.seq items n, slots := sl } ∧ R (Except.ok (Flow.ret (Value.ref l))) s) :=
  .of_wp fun prog w A R s h => by
    obtain ⟨hp, g, d, tk, os⟩ := s
    obtain ⟨h1, h⟩ := h
    have h2 : hp.get? l = some { cls := Value.type "tuple", dict := dd, data := Data.seq items n, slots := sl } := h1
    wp_walk
    exact ⟨_, rfl, h⟩
def rRepQ : R2 := fun x y H Q => ∃ l k xs, x = .ref l ∧ y = .int k ∧ H l = some (.tup xs) ∧ xs ≠ [] ∧ 1 ≤ k ∧ k ≤ 1000 ∧ xs.length ≤ 1000 ∧ ∀ p H', Same H H' → H' p = some (.tup (List.replicate k.toNat xs).flatten) → Q (.ref p) H'
theorem op_repQ {X : Cx} : OpR X (binaryOp .Mult) rRepQ := by
  intro pins s σ H x y v u Q I rx ry h
  obtain ⟨l, k, xs, rfl, rfl, hl, hx, k1, k2, hn, q⟩ := h
  by_cases hk : 2 ≤ k
  · exact op_repT pins s σ H _ _ v u Q I rx ry ⟨l, k, xs, rfl, rfl, SqT.of hl, hx, hk, k2, hn, fun p np => q p _ (same_new np) upd_same⟩
  · obtain rfl : k = 1 := by omega
    cases rx
    obtain ⟨t, rfl⟩ := ry
    obtain ⟨its, rv, ⟨o, h1, h2, n, h3⟩, hz⟩ := I.tuple (SqT.of (K := X.K) hl)
    obtain ⟨oc, od, oda, osl⟩ := o
    simp only at h2 h3
    subst h2 h3
    have he : its.toArray.isEmpty = false := by
      cases rv with
      | nil => exact absurd rfl hx
      | cons _ _ => rfl
    refine wpAny_binaryOp_repeat_ref (T := "tuple") (U := "int") (by decide) ⟨_, h1, rfl⟩ (fun s' => typeIs_int s' _ _) noFill_tuple_mul F.fills_int_mul F.slot_int_rmul repeat_tuple (F.slot_int_index.lookup) ?_
    refine call_meets F.slot_int_rmul (typeIs_int _ _ _) F.entry_int_rmul (F.args_int_rmul_2 _ _) (int_rmul_tuple _ _ _ _ _ _ _) ⟨h1, rfl, ⟨_, h1, rfl⟩, ?_⟩
    refine call_meets F.slot_tuple_mul ⟨_, h1, rfl⟩ F.entry_tuple_mul (F.args_tuple_mul_2 _ _) (meets_mul1 l its.toArray n od osl t he) ⟨h1, ⟨.ref l, H, I, rfl, q l H (Same.refl _) ?_⟩⟩
    rw [hl]
    show _ = some (HO.tup (List.replicate 1 xs).flatten)
    rw [List.replicate_one, List.flatten_singleton]

theorem rep_one {z : Int} {n : Nat} : (List.replicate n [V.int z]).flatten = (List.replicate n z).map V.int := by
  induction n with
  | zero => rfl
  | succ n ih => rw [List.replicate_succ, List.flatten_cons, ih, List.replicate_succ]; rfl
theorem three_at {a b c : Int} {r : Int} (h0 : 0 ≤ r) (h : r < 3) : ∃ z : Int, (z = a ∨ z = b ∨ z = c) ∧ atI [V.int a, V.int b, V.int c] r = some (.int z) := by
  have e : r = 0 ∨ r = 1 ∨ r = 2 := by omega
  rcases e with rfl | rfl | rfl
  · exact ⟨a, .inl rfl, rfl⟩
  · exact ⟨b, .inr (.inl rfl), rfl⟩
  · exact ⟨c, .inr (.inr rfl), rfl⟩
/-- tuples stay -/
def TK (H H' : Hp) : Prop := ∀ b xs, H b = some (.tup xs) → H' b = some (.tup xs)
theorem TK.refl {H : Hp} : TK H H := fun _ _ e => e
theorem TK.trans {H H1 H2 : Hp} (a : TK H H1) (b : TK H1 H2) : TK H H2 := fun c xs e => b c xs (a c xs e)
theorem TK.same {H H' : Hp} (s : Same H H') : TK H H' := fun b xs e => s _ _ e
theorem TK.kp {H H' : Hp} {dk c : Addr} {B : Nat} (d : Deck H dk c B) (k : Kp2 dk c H H') : TK H H' := fun b xs e => tup_kp e d k
theorem TK.lst {H : Hp} {D : Addr} {xs : List V} {o : HO} (h : H D = some (.lst xs)) : TK H (upd H D o) := fun b ys e => by
  rw [upd_ne (fun z => by rw [z, h] at e; cases e)]
  exact e
theorem StockAt.tk {H H' : Hp} {t : Addr} {ls : List Addr} {rows : List (List Int)} (a : StockAt H t ls rows) (k : TK H H') : StockAt H' t ls rows :=
  ⟨k _ _ a.top, a.len, fun j l r e1 e2 => k _ _ (a.row j l r e1 e2)⟩
/-- a tuple of n ints from 0 below 2^20 -/
structure Cnt (n : Nat) (cs : List Int) : Prop where
  len : cs.length = n
  bd : ∀ x ∈ cs, 0 ≤ x ∧ x < 1048576
def CntAt (H : Hp) (n : Nat) (a : Addr) : Prop := ∃ cs, H a = some (.tup (cs.map V.int)) ∧ Cnt n cs
theorem CntAt.tk {H H' : Hp} {n : Nat} {a : Addr} (c : CntAt H n a) (k : TK H H') : CntAt H' n a := by
  obtain ⟨cs, h, hc⟩ := c
  exact ⟨cs, k _ _ h, hc⟩
theorem log2_lt_20 {n : Nat} (h : n < 1048576) : n.log2 ≤ 19 := by
  by_cases h0 : n = 0
  · subst h0; decide
  · have := (Nat.log2_lt h0 (k := 20)).mpr (by omega)
    omega
theorem Sm.intM {i : Int} (h0 : 0 ≤ i) (h : i < 1048576) : Sm 21 0 (.int i) where
  lay := rfl
  short := by
    refine decide_eq_true ?_
    have e := PyProof.Rows.toString_length_le (v := i) (k := 7) h0 (by decide) (by omega)
    exact Nat.le_trans e (by decide)
  show_ := decide_eq_true (by have := log2_lt_20 (n := i.natAbs) (by omega); omega)
  wt := by
    have := log2_lt_20 (n := i.natAbs) (by omega)
    show (if i == 0 then 0 else i.natAbs.log2 + 1) ≤ 21
    split
    · omega
    · omega
  dp := Nat.le_refl _
theorem sm_cnt {n : Nat} {cs : List Int} (h : Cnt n cs) (hn : n ≤ 4) : Sm 88 1 (rowD cs) := by
  have a : SmA (cs.map PyData.int).length 21 0 (cs.map PyData.int) := SmA.all fun d hd => by
    obtain ⟨x, hx, rfl⟩ := List.mem_map.mp hd
    exact Sm.intM (h.bd x hx).1 (h.bd x hx).2
  refine a.tup.up ?_ (Nat.le_refl _)
  rw [List.length_map, h.len]
  omega
end DD
namespace DD
open PySem PySem.Spec PyProof.Rows L2 RZ
/-! ### spoilings, two ways -/
def posAt (row : List Int) (j : Nat) : Bool := decide (row.getD j 0 > 0)
def kindsUp (row : List Int) (m : Nat) : List Int := ((List.range m).filter (posAt row)).map fun j => (0 : Int) + (j : Nat)
def kindsOf (row : List Int) : List Int := kindsUp row row.length
theorem kinds_succ (row : List Int) (m : Nat) : kindsUp row (m + 1) = kindsUp row m ++ (if posAt row m = true then [(0 : Int) + (m : Nat)] else []) := by
  unfold kindsUp
  rw [List.range_succ, List.filter_append, List.map_append]
  congr 1
  by_cases e : posAt row m = true
  · rw [if_pos e, List.filter_cons_of_pos e]
    rfl
  · rw [if_neg e, List.filter_cons_of_neg e]
    rfl
theorem kinds_len (row : List Int) (m : Nat) : (kindsUp row m).length ≤ m := by
  unfold kindsUp
  rw [List.length_map]
  exact Nat.le_trans (List.length_filter_le _ _) (by rw [List.length_range]; exact Nat.le_refl _)
theorem kinds_bd (row : List Int) (m : Nat) : ∀ x ∈ kindsUp row m, 0 ≤ x ∧ x < (m : Int) := by
  intro x hx
  obtain ⟨j, hj, rfl⟩ := List.mem_map.mp hx
  have := List.mem_range.mp (List.mem_filter.mp hj).1
  omega
def spStep (acc : List (List Int)) (row : List Int) : List (List Int) := acc.flatMap fun s => (kindsOf row).map fun k => s ++ [k]
def spOf (rows : List (List Int)) : List (List Int) := rows.foldl spStep [[]]
def spR : List (List Int) → List (List Int)
  | [] => [[]]
  | r :: rs => (kindsOf r).flatMap fun k => (spR rs).map fun s => k :: s
theorem fold_sp : ∀ (rows : List (List Int)) (acc : List (List Int)), rows.foldl spStep acc = acc.flatMap fun s => (spR rows).map fun x => s ++ x
  | [], acc => by
    show acc = acc.flatMap fun s => [s ++ []]
    induction acc with
    | nil => rfl
    | cons a acc ih => rw [List.flatMap_cons, ← ih, List.append_nil]; rfl
  | r :: rs, acc => by
    show rs.foldl spStep (spStep acc r) = _
    rw [fold_sp rs]
    unfold spStep
    rw [List.flatMap_assoc]
    congr 1
    funext s
    show ((kindsOf r).map fun k => s ++ [k]).flatMap _ = _
    rw [List.flatMap_map]
    show _ = ((kindsOf r).flatMap fun k => (spR rs).map fun s => k :: s).map fun x => s ++ x
    rw [List.map_flatMap]
    congr 1
    funext k
    rw [List.map_map]
    congr 1
    funext x
    simp
theorem spOf_eq (rows : List (List Int)) : spOf rows = spR rows := by
  unfold spOf
  rw [fold_sp]
  simp
theorem step_len (acc : List (List Int)) (row : List Int) : (spStep acc row).length = acc.length * (kindsOf row).length := by
  unfold spStep
  induction acc with
  | nil => simp
  | cons a acc ih =>
    rw [List.flatMap_cons, List.length_append, ih, List.length_map, List.length_cons, Nat.succ_mul]
    omega
theorem spOf_snoc {rows : List (List Int)} {i : Nat} {r : List Int} (h : rows[i]? = some r) : spOf (rows.take (i + 1)) = spStep (spOf (rows.take i)) r := by
  unfold spOf
  rw [List.take_add_one, h, List.foldl_append]
  rfl
theorem spOf_len {rows : List (List Int)} (h : ∀ r ∈ rows, r.length ≤ 4) : ∀ i, (spOf (rows.take i)).length ≤ 4 ^ i
  | 0 => Nat.le_refl _
  | i + 1 => by
    cases e : rows[i]? with
    | none =>
      have hn := List.getElem?_eq_none_iff.mp e
      have e1 : rows.take (i + 1) = rows.take i := by rw [List.take_of_length_le (by omega), List.take_of_length_le hn]
      rw [e1]
      exact Nat.le_trans (spOf_len h i) (Nat.pow_le_pow_right (by decide) (Nat.le_succ _))
    | some r =>
      rw [spOf_snoc e, step_len, Nat.pow_succ]
      exact Nat.mul_le_mul (spOf_len h i) (Nat.le_trans (kinds_len _ _) (h r (List.mem_of_getElem? e)))
theorem spR_bd : ∀ {rows : List (List Int)}, (∀ r ∈ rows, r.length ≤ 4) → ∀ s ∈ spR rows, s.length = rows.length ∧ ∀ x ∈ s, 0 ≤ x ∧ x < 4
  | [], _ => by
    intro s hs
    rw [List.mem_singleton.mp hs]
    exact ⟨rfl, fun x hx => by cases hx⟩
  | r :: rs, h => by
    intro s hs
    obtain ⟨k, hk, hs⟩ := List.mem_flatMap.mp hs
    obtain ⟨s', hs', rfl⟩ := List.mem_map.mp hs
    obtain ⟨h1, h2⟩ := spR_bd (fun r' hr' => h r' (List.mem_cons_of_mem _ hr')) s' hs'
    refine ⟨by rw [List.length_cons, List.length_cons, h1], fun x hx => ?_⟩
    rcases List.mem_cons.mp hx with e | e
    · have := kinds_bd r r.length k hk
      have := h r List.mem_cons_self
      rw [e]
      omega
    · exact h2 x e
theorem spR_len {rows : List (List Int)} (h : ∀ r ∈ rows, r.length ≤ 4) (hl : rows.length ≤ 4) : (spR rows).length ≤ 256 := by
  have a := spOf_len h 4
  rw [List.take_of_length_le hl, spOf_eq] at a
  exact a
theorem take_flat {acc : List (List Int)} {row : List Int} {i : Nat} {s : List Int} (h : acc[i]? = some s) : spStep (acc.take (i + 1)) row = spStep (acc.take i) row ++ (kindsOf row).map fun k => s ++ [k] := by
  unfold spStep
  rw [List.take_add_one, h, List.flatMap_append]
  simp
theorem RowsAt.nil {H : Hp} : RowsAt H [] [] := fun j l r e => by simp at e
theorem cutV_from {xs : List V} {s : Nat} : cutV xs (some (s : Int)) none = xs.drop s := by
  unfold cutV
  rw [HT.sIx_none, HT.sIx_nat]
  by_cases h : s ≤ xs.length
  · rw [Nat.min_eq_left h, List.take_of_length_le (by rw [List.length_drop]; omega)]
  · rw [Nat.min_eq_right (by omega), List.drop_of_length_le (Nat.le_refl _), List.drop_of_length_le (by omega), List.take_nil]
theorem cutV_to {xs : List V} {s : Nat} : cutV xs none (some (s : Int)) = xs.take s := by
  unfold cutV
  rw [HT.sIx_none, HT.sIx_nat, List.drop_zero, Nat.sub_zero]
  by_cases h : s ≤ xs.length
  · rw [Nat.min_eq_left h]
  · rw [Nat.min_eq_right (by omega), List.take_length, List.take_of_length_le (by omega)]

end DD
namespace DD
open PySem PySem.Spec PyProof.Rows L2 RZ

/-! ### caps -/
def minL : List Int → Int
  | [] => 0
  | x :: xs => if xs = [] then x else min x (minL xs)
theorem minL_mem : ∀ {l : List Int}, l ≠ [] → minL l ∈ l
  | [], h => absurd rfl h
  | x :: xs, _ => by
    unfold minL
    split
    · exact List.mem_cons_self
    · rename_i h
      by_cases c : x ≤ minL xs
      · rw [Int.min_eq_left c]
        exact List.mem_cons_self
      · rw [Int.min_eq_right (by omega)]
        exact List.mem_cons_of_mem _ (minL_mem h)
theorem minL_le : ∀ {l : List Int}, ∀ y ∈ l, minL l ≤ y
  | [], y, h => by cases h
  | x :: xs, y, h => by
    unfold minL
    split
    · rename_i e
      subst e
      rw [List.mem_singleton.mp h]
      exact Int.le_refl _
    · rcases List.mem_cons.mp h with rfl | h
      · exact Int.min_le_left _ _
      · exact Int.le_trans (Int.min_le_right _ _) (minL_le y h)
theorem minL_uniq {l : List Int} {m : Int} (hm : m ∈ l) (hl : ∀ y, y ∈ l → m ≤ y) : m = minL l :=
  Int.le_antisymm (hl _ (minL_mem (fun e => by rw [e] at hm; cases hm))) (minL_le m hm)
def pickUp (rows : List (List Int)) (named : List Int) (k : Nat) (i : Nat) : List Int := (((rows.zip named).take i).filter (fun p => decide (p.2 = (k : Int)))).map fun p => p.1.getD k 0
def pickAll (rows : List (List Int)) (named : List Int) (k : Nat) : List Int := pickUp rows named k rows.length
theorem pick_succ {rows : List (List Int)} {named : List Int} {k i : Nat} {r : List Int} {v : Int} (h1 : rows[i]? = some r) (h2 : named[i]? = some v) :
    pickUp rows named k (i + 1) = pickUp rows named k i ++ (if v = (k : Int) then [r.getD k 0] else []) := by
  unfold pickUp
  have hz : (rows.zip named)[i]? = some (r, v) := List.getElem?_zip_eq_some.mpr ⟨h1, h2⟩
  rw [List.take_add_one, hz, List.filter_append, List.map_append]
  congr 1
  by_cases e : v = (k : Int)
  · rw [if_pos e]
    simp [e]
  · rw [if_neg e]
    simp [e]
theorem pick_len (rows : List (List Int)) (named : List Int) (k i : Nat) : (pickUp rows named k i).length ≤ i := by
  unfold pickUp
  rw [List.length_map]
  refine Nat.le_trans (List.length_filter_le _ _) ?_
  rw [List.length_take]
  omega
theorem pick_bd {rows : List (List Int)} {named : List Int} {k i : Nat} {b : Int} (hb : 0 ≤ b) (h : ∀ r ∈ rows, ∀ x ∈ r, 0 ≤ x ∧ x ≤ b) : ∀ x ∈ pickUp rows named k i, 0 ≤ x ∧ x ≤ b := by
  intro x hx
  obtain ⟨p, hp, rfl⟩ := List.mem_map.mp hx
  have hp2 := List.mem_of_mem_take (List.mem_filter.mp hp).1
  exact getD_bd (h p.1 (List.of_mem_zip hp2).1) hb k
def capAt (rows : List (List Int)) (named : List Int) (k : Nat) : Option Int := if pickAll rows named k = [] then none else some (minL (pickAll rows named k) - 1)
def optI : Option Int → V
  | none => .non
  | some j => .int j
def optID : Option Int → PyData
  | none => .none
  | some j => .int j
def capsOf (rows : List (List Int)) (named : List Int) (m : Nat) : List (Option Int) := (List.range m).map (capAt rows named)
theorem caps_get {rows : List (List Int)} {named : List Int} {m i : Nat} (h : i < m) : (capsOf rows named m)[i]? = some (capAt rows named i) := by
  unfold capsOf
  rw [List.getElem?_map, List.getElem?_range h]
  rfl
theorem caps_len (rows : List (List Int)) (named : List Int) (m : Nat) : (capsOf rows named m).length = m := by simp [capsOf]
theorem col_int {rows : List (List Int)} {i m : Nat} (h : ∀ r ∈ rows, r.length = m) (hi : i < m) : colV (rows.map fun r => r.map V.int) i = (rows.map fun r => r.getD i 0).map V.int := by
  unfold colV
  rw [List.map_map, List.map_map]
  refine List.map_congr_left fun r hr => ?_
  show (r.map V.int).getD i .non = V.int (r.getD i 0)
  rw [List.getD_eq_getElem?_getD, List.getD_eq_getElem?_getD, List.getElem?_map, List.getElem?_eq_getElem (by rw [h r hr]; exact hi)]
  rfl
theorem rws_of {K : PySem.W.Frag} {H : Hp} {t : Addr} {ls : List Addr} {rows : List (List Int)} {m : Nat} (st : StockAt H t ls rows) (h : ∀ r ∈ rows, r.length = m) : Rws K H ls (rows.map fun r => r.map V.int) m := by
  refine ⟨by rw [List.length_map]; exact st.len, fun j a r x1 x2 => ?_⟩
  obtain ⟨r', hr', rfl⟩ := get_map x2
  exact ⟨SqT.of (st.row j a r' x1 hr'), by rw [List.length_map]; exact h r' (List.mem_of_getElem? hr')⟩

abbrev NQ : List Str := ["collections", "spoiling", "caps", "kind", "needs", "spoiled", "needed", "named"]
theorem scCaps : FnScope NQ ["collections", "spoiling"] (defScope sCaps) := ⟨rfl, rfl, rfl, by decide +kernel, rfl, by decide +kernel, by decide +kernel⟩
section
variable {P : Program} {w : World} {K : PySem.W.Frag} {mg : Str → Option Value} {base : Heap}
def spCaps : Sp := fun vs H Q _ => ∃ (t b : Addr) (ls : List Addr) (rows : List (List Int)) (named : List Int) (m : Nat), vs = [.ref t, .ref b] ∧ StockAt H t ls rows ∧ 1 ≤ rows.length ∧ rows.length ≤ 4 ∧ (∀ r ∈ rows, r.length = m) ∧ m ≤ 100 ∧
  H b = some (.tup (named.map V.int)) ∧ named.length = rows.length ∧ ∀ p H', Same H H' → H' p = some (.tup ((capsOf rows named m).map optI)) → Q (.ref p) H'
theorem ok_caps {f : Addr} {fd : FuncData} {k : Nat} (F : Fun K "caps_of" "caps_of" sCaps f fd) (me : mg "enumerate" = none) (mz : mg "zip" = none) (mn : mg "min" = none) (mt : mg "tuple" = none) : FnOk P w K mg base CX0 (k + 1) f fd ["collections", "spoiling"] spCaps := by
  refine F.ok scCaps (fun vs H Q E h => ?_) (fun cdv A outer s H vs Q E hr h => ?_)
  · obtain ⟨t, b, ls, rows, named, m, rfl, _⟩ := h
    rfl
  · obtain ⟨t, b, ls, rows, named, m, rfl, st, hl1, hl4, hrm, hm, hb, hnl, q⟩ := h
    refine ⟨_, (pss_cons (ps_set (i := 2) scCaps.nd rfl (.inl rfl) (pe_lst pa_nil))
      (pss_cons (ps_for PassesOwn.never rfl (pi_enumZ (by rfl) me (by rfl) mz (pv 0)) (pg_tup rfl (pgs_cons (pg_name (i := 3) scCaps.nd rfl (Or.inr rfl)) (pgs_cons (pg_name (i := 4) scCaps.nd rfl (Or.inl rfl)) pgs_nil))) (pss_cons (ps_setLc (i := 5) (own := [("needed", 6), ("named", 7)]) (g := gTup K 2 (gCons (gName 6) (gCons (gName 7) gNil))) rfl scCaps.nd rfl rfl (sw_true rfl rfl rfl (by decide +kernel)) (pi_zipA (by rfl) mz (pa_cons (pv 4) (pa_cons (pv 1) pa_nil))) (blkOk_by (own := [("needed", 6), ("named", 7)]) (N := NQ) (sc := defScope sCaps) (by decide +kernel)) (fun _ _ _ _ _ => (pg_tup rfl (pgs_cons (pg_name (i := 6) scCaps.nd rfl (Or.inl rfl)) (pgs_cons (pg_name (i := 7) scCaps.nd rfl (Or.inl rfl)) pgs_nil)))) (fun _ _ _ _ _ => pts_one (pt_cmpR op_eq (pv 7) (pv 3) (nomark _))) (fun _ _ _ _ _ => (pv 6)))
      (pss_one (ps_expr (pe_bm PySem.F.plainAttrs_list PySem.F.slot_list_append PySem.F.type_list_append mt_append (pv 2) (pa_cons (pe_ifExp (pt_truth (pv 5) (fun _ => rfl)) (pe_op op_sub (pe_callB (show CallR _ _ (rMin K) from cr_min rfl) (by rfl) mn (by decide +kernel) (pa_cons (pv 5) pa_nil)) pe_int) pe_non) pa_nil))))))
      (pss_one (ps_ret (pe_callTy call_tuple_of (by rfl) mt (by decide +kernel) (pa_cons (pv 2) pa_nil)))))), ?_⟩
    refine ⟨Nat.zero_le _, fun C nC => ?_⟩
    have s0 : Same H (upd H C (.lst [])) := same_new nC
    refine ⟨.ref t, rfl, t, ls, rows.map (fun r => r.map V.int), m, rfl, .inl (SqT.of (s0 _ _ st.top)), by rw [st.len]; exact hl1, by rw [st.len]; exact hl4, rws_of (st.same s0) hrm, ?_⟩
    refine for_it (walk_ez (m := m)) (fun i σ H' => ∃ y3 y4 y5 y6 y7 : Option V, σ = [some (.ref t), some (.ref b), some (.ref C), y3, y4, y5, y6, y7] ∧ Same H H' ∧ H' C = some (.lst (((capsOf rows named m).take i).map optI)))
      ⟨none, none, none, none, none, rfl, s0, upd_same⟩ (fun i σ H' _ h => by obtain ⟨_, _, _, _, _, _, sm, _⟩ := h; exact rws_of (st.same sm) hrm) (fun i x σ H1 H2 hi h y => ?_) (fun σ H' h => ?_)
    · obtain ⟨y3, y4, y5, y6, y7, rfl, sm, hC⟩ := h
      obtain ⟨T, U, rfl, nT, hTU, nU, rfl⟩ := y
      have nU' : (upd H1 T (.tup (colV (rows.map fun r => r.map V.int) i))) U = none := by rw [upd_ne hTU.symm]; exact nU
      have s2 : Same H1 (upd (upd H1 T (.tup (colV (rows.map fun r => r.map V.int) i))) U (.tup [.int ((0 : Int) + (i : Nat)), .ref T])) := (same_new nT).trans (same_new nU')
      have hT : (upd (upd H1 T (.tup (colV (rows.map fun r => r.map V.int) i))) U (.tup [.int ((0 : Int) + (i : Nat)), .ref T])) T = some (.tup ((rows.map fun r => r.getD i 0).map V.int)) := by
        rw [upd_ne hTU, upd_same, col_int hrm hi]
      refine ⟨U, [.int ((0 : Int) + (i : Nat)), .ref T], rfl, .inl (.inl upd_same), rfl, .int ((0 : Int) + (i : Nat)), [.ref T], rfl, .ref T, [], rfl, rfl, ?_⟩
      generalize upd (upd H1 T (.tup (colV (rows.map fun r => r.map V.int) i))) U (.tup [.int ((0 : Int) + (i : Nat)), .ref T]) = Ha at s2 hT ⊢
      have hba := s2 _ _ (sm _ _ hb)
      have hCa := s2 _ _ hC
      -- spoiled = [..]
      refine ⟨.ref T, rfl, .ref b, rfl, T, b, _, _, rfl, .inr ⟨SqT.of hT, SqT.of hba, fun D nD => ?_⟩⟩
      refine lc_zipT (xs := (rows.map fun r => r.getD i 0).map V.int) (ys := named.map V.int) (by rw [List.length_map, List.length_map, List.length_map, hnl]) (fun j H3 => H3 D = some (.lst ((pickUp rows named i j).map V.int)) ∧ Same Ha H3) ⟨upd_same, same_new nD⟩
        (fun j H3 _ h => ⟨SqT.of (h.2 _ _ hT), SqT.of (h.2 _ _ hba)⟩) (fun j x y T2 H3 hx hy h nT2 => ?_) (fun H3 h => ?_)
      · obtain ⟨hD, s3⟩ := h
        obtain ⟨v1, hv1, rfl⟩ := get_map hx
        obtain ⟨r, hr1, rfl⟩ := get_map hv1
        obtain ⟨ow, how, rfl⟩ := get_map hy
        have sT : Same H3 (upd H3 T2 (.tup [.int (r.getD i 0), .int ow])) := same_new nT2
        refine ⟨T2, [.int (r.getD i 0), .int ow], rfl, .inl (.inl upd_same), rfl, .int (r.getD i 0), [.int ow], rfl, .int ow, [], rfl, rfl, rfl, .int ow, rfl, .int ((0 : Int) + (i : Nat)), rfl, rfl, _, rfl, ite2 (fun e => ?_) (fun e => ?_)⟩
        · have e' : ow = (i : Int) := by
            have := of_decide_eq_true e
            injection this with this
            rw [Int.zero_add] at this
            exact this
          refine ⟨_, rfl, _, sT _ _ hD, ?_, ?_, fun b' o e2 => ?_⟩
          · rw [List.length_map]
            have := pick_len rows named i j
            have := (List.getElem?_eq_some_iff.mp hr1).1
            exact len_lt (by omega)
          · rw [upd_same, pick_succ hr1 how, if_pos e', List.map_append]
            rfl
          · rw [upd_ne (ne_of_none e2 nD)]
            exact sT _ _ (s3 b' o e2)
        · have e' : ¬ ow = (i : Int) := fun z => e (decide_eq_true (by rw [z, Int.zero_add]))
          refine ⟨?_, s3.trans sT⟩
          rw [pick_succ hr1 how, if_neg e', List.append_nil]
          exact sT _ _ hD
      · obtain ⟨hD, s3⟩ := h
        rw [List.length_map, List.length_map] at hD
        have hD' : H3 D = some (.lst ((pickAll rows named i).map V.int)) := hD
        have hC3 := s3 _ _ hCa
        have s13 : Same H H3 := sm.trans (s2.trans s3)
        have hget := caps_get (rows := rows) (named := named) hi
        have hlt : (((capsOf rows named m).take i).map optI).length < sizeLine := by
          rw [List.length_map, List.length_take]
          exact len_lt (by omega)
        refine ⟨.ref C, rfl, .inl ⟨rfl, _, SqL.of hC3⟩, .ref D, rfl, _, .inl ⟨_, SqL.of hD', rfl⟩, ?_⟩
        have fin : ∀ v : V, v = optI (capAt rows named i) → Same H (upd H3 C (.lst (((capsOf rows named m).take i).map optI ++ [v]))) ∧
            (upd H3 C (.lst (((capsOf rows named m).take i).map optI ++ [v]))) C = some (.lst (((capsOf rows named m).take (i + 1)).map optI)) := fun v hv => by
          refine ⟨fun b' o e => ?_, ?_⟩
          · rw [upd_ne (ne_of_none e nC)]
            exact s13 b' o e
          · rw [upd_same, take_succ_map hget, hv]
        cases hp : pickAll rows named i with
        | nil =>
          refine iteF ⟨C, _, .non, rfl, rfl, hC3, hlt, ?_⟩
          obtain ⟨h2, h3⟩ := fin .non (by unfold capAt; rw [if_pos hp]; rfl)
          exact ⟨_, _, _, _, _, rfl, h2, h3⟩
        | cons p0 pr =>
          refine iteT ⟨.ref D, rfl, D, pickAll rows named i, rfl, SqL.of hD', by rw [hp]; exact Nat.succ_pos _, fun mn hmn hle => ⟨mn, 1, rfl, rfl, ?_⟩⟩
          have hmn' := minL_uniq hmn hle
          refine ⟨C, _, .int (mn - 1), rfl, rfl, hC3, hlt, ?_⟩
          obtain ⟨h2, h3⟩ := fin (.int (mn - 1)) (by unfold capAt; rw [if_neg (by rw [hp]; exact fun e => nomatch e), hmn']; rfl)
          exact ⟨_, _, _, _, _, rfl, h2, h3⟩
    · obtain ⟨y3, y4, y5, y6, y7, rfl, sm, hC⟩ := h
      have hcl := caps_len rows named m
      rw [List.take_of_length_le (by omega)] at hC
      refine ⟨.ref C, rfl, C, _, rfl, .inl ⟨SqL.of hC, fun p np => ?_⟩⟩
      exact q p _ (sm.trans (same_new np)) upd_same
end
end DD
namespace DD
open PySem PySem.Spec PyProof.Rows L2 RZ

theorem Sm.intZ {i : Int} (h : i.natAbs < 4096) : Sm 13 0 (.int i) where
  lay := rfl
  short := by
    refine decide_eq_true ?_
    have e := int_text_length_le (a := i) (k := 12) (by decide) (by have := log2_lt_of (n := i.natAbs) (by omega); omega)
    show (Str.ofString (toString i)).length ≤ 13
    rw [PySem.ofString_length]
    omega
  show_ := decide_eq_true (by have := log2_lt_of (n := i.natAbs) (by omega); omega)
  wt := by
    have := log2_lt_of (n := i.natAbs) (by omega)
    show (if i == 0 then 0 else i.natAbs.log2 + 1) ≤ 13
    split
    · omega
    · omega
  dp := Nat.le_refl _
def capsD (cs : List (Option Int)) : PyData := .tuple (cs.map optID)
theorem dp_optI {K : PySem.W.Frag} {H : Hp} : ∀ o : Option Int, Dp K H (optI o) (optID o)
  | none => .non
  | some j => .int _
theorem dps_optI {K : PySem.W.Frag} {H : Hp} : ∀ cs : List (Option Int), DpAll K H (cs.map optI) (cs.map optID)
  | [] => .nil
  | o :: cs => .cons (dp_optI o) (dps_optI cs)
theorem dp_caps {K : PySem.W.Frag} {H : Hp} {p : Addr} {cs : List (Option Int)} (h : H p = some (.tup (cs.map optI))) : Dp K H (.ref p) (capsD cs) := .tup (SqT.of h) (dps_optI cs)
theorem cap_bd {rows : List (List Int)} {named : List Int} {k : Nat} {v b : Int} (hb : 0 ≤ b) (h : ∀ r ∈ rows, ∀ x ∈ r, 0 ≤ x ∧ x ≤ b) (e : capAt rows named k = some v) : -1 ≤ v ∧ v < b := by
  unfold capAt at e
  by_cases c : pickAll rows named k = []
  · rw [if_pos c] at e
    cases e
  · rw [if_neg c] at e
    have := Option.some.inj e
    have := pick_bd hb h (minL (pickAll rows named k)) (minL_mem c)
    omega
theorem sm_caps {rows : List (List Int)} {named : List Int} {m : Nat} (h : ∀ r ∈ rows, ∀ x ∈ r, 0 ≤ x ∧ x ≤ 900) (hm : m ≤ 4) : Sm 56 1 (capsD (capsOf rows named m)) := by
  have a : SmA ((capsOf rows named m).map optID).length 13 0 ((capsOf rows named m).map optID) := SmA.all fun d hd => by
    obtain ⟨o, ho, rfl⟩ := List.mem_map.mp hd
    obtain ⟨k, _, rfl⟩ := List.mem_map.mp ho
    cases e : capAt rows named k with
    | none => exact ⟨rfl, rfl, rfl, Nat.zero_le _, Nat.le_refl _⟩
    | some v =>
      have := cap_bd (by decide) h e
      exact Sm.intZ (by omega)
  refine a.tup.up ?_ (Nat.le_refl _)
  rw [List.length_map, caps_len]
  omega
theorem minL_sub {l : List Int} {mn : Int} (hm : mn ∈ l.map fun x => x - 1) (hl : ∀ y, y ∈ (l.map fun x => x - 1) → mn ≤ y) : mn = minL l - 1 := by
  obtain ⟨x, hx, rfl⟩ := List.mem_map.mp hm
  have := minL_uniq hx fun y hy => by
    have := hl (y - 1) (List.mem_map_of_mem hy)
    omega
  omega
theorem eqv_nil_iff {r : List Int} : PyData.eqv (.list (r.map PyData.int)) (.list []) = true ↔ r = [] := by
  cases r with
  | nil => exact ⟨fun _ => rfl, fun _ => rfl⟩
  | cons x r => exact ⟨fun e => (nomatch (show false = true from e)), fun e => (nomatch e)⟩
theorem sm_ints {r : List Int} (h : ∀ x ∈ r, x.natAbs < 4096) : Sm (r.length * 14) 1 (.list (r.map PyData.int)) := by
  have a : SmA (r.map PyData.int).length 13 0 (r.map PyData.int) := SmA.all fun d hd => by
    obtain ⟨x, hx, rfl⟩ := List.mem_map.mp hd
    exact Sm.intZ (h x hx)
  refine a.lst.up ?_ (Nat.le_refl _)
  rw [List.length_map]
  exact Nat.le_refl _
theorem kinds_pos {row : List Int} (h : ∃ x ∈ row, 0 < x) : 0 < (kindsUp row row.length).length := by
  obtain ⟨x, hx, h0⟩ := h
  obtain ⟨j, hj⟩ := List.mem_iff_getElem?.mp hx
  have hjl := (List.getElem?_eq_some_iff.mp hj).1
  have hm : j ∈ (List.range row.length).filter (posAt row) := List.mem_filter.mpr ⟨List.mem_range.mpr hjl, by
    unfold posAt
    rw [List.getD_eq_getElem?_getD, hj]
    exact decide_eq_true h0⟩
  have : ((0 : Int) + (j : Nat)) ∈ kindsUp row row.length := List.mem_map_of_mem hm
  exact List.length_pos_of_mem this
abbrev NL : List Str := ["_law_script", "_law_deck_here", "_law_turn", "_law_kinds", "_law_wishes_here", "_law_again", "_law_named", "_law_needed", "_law_kind", "_law_able", "_law_due", "_law_least", "_law_before", "_law_found", "_law_own", "_law_twice"]
theorem scLaw : FnScope NL ["_law_script"] (defScope sLaw) := ⟨rfl, rfl, rfl, by decide +kernel, rfl, by decide +kernel, by decide +kernel⟩
structure Tx (K : PySem.W.Frag) (mg : Str → Option Value) (fO fDk fD fS fC fW : Addr) (dO dDk dD dS dC dW : FuncData) : Prop where
  O : Fun K "caps_of" "caps_of" sCaps fO dO
  bO : Binds K dO ["collections", "spoiling"] []
  gO : mg "caps_of" = some (.ref fO)
  Dk : Fun K "_law_deck" "_law_deck" sDeck fDk dDk
  bDk : Binds K dDk ["_law_script"] []
  gDk : mg "_law_deck" = some (.ref fDk)
  D : Fun K "_law_draw" "_law_draw" sDraw fD dD
  bD : Binds K dD ["_law_deck_here", "_law_limit"] []
  gD : mg "_law_draw" = some (.ref fD)
  S : Fun K "_law_same" "_law_same" sSame fS dS
  bS : Binds K dS ["_law_value", "_law_due"] []
  gS : mg "_law_same" = some (.ref fS)
  C : Fun K "_law_counts" "_law_counts" sCounts fC dC
  bC : Binds K dC ["_law_deck_here", "_law_kinds", "_law_most"] []
  gC : mg "_law_counts" = some (.ref fC)
  W : Fun K "_law_wishes" "_law_wishes" sWishes fW dW
  bW : Binds K dW ["_law_deck_here", "_law_most", "_law_high", "_law_kinds"] []
  gW : mg "_law_wishes" = some (.ref fW)
  m_len : mg "len" = none
  m_tuple : mg "tuple" = none
  m_range : mg "range" = none
  m_zip : mg "zip" = none
  m_abs : mg "abs" = none
  m_repr : mg "repr" = none
  m_max : mg "max" = none
  m_min : mg "min" = none
  m_int : mg "int" = none
  m_enumerate : mg "enumerate" = none
section
variable {P : Program} {w : World} {K : PySem.W.Frag} {mg : Str → Option Value} {base : Heap}
def spLaw (K : PySem.W.Frag) : Sp := fun vs H Q _ => ∃ (a : Addr) (ns : List Int), vs = [.ref a] ∧ SqL K H a (ns.map V.int) ∧ ns.length ≤ 63 ∧ ∀ H', Q (.bl true) H'
set_option maxHeartbeats 1600000 in
theorem ok_law {f fO fDk fD fS fC fW : Addr} {fd dO dDk dD dS dC dW : FuncData} (F : Fun K "law" "law" sLaw f fd) (T : Tx K mg fO fDk fD fS fC fW dO dDk dD dS dC dW) :
    FnG P w K mg base 4 f fd ["_law_script"] (spLaw K) := by
  have GD : FnOk P w K mg base CX0 1 fD dD ["_law_deck_here", "_law_limit"] spDraw := ok_draw T.D T.m_len
  have GDk : FnOk P w K mg base CX0 1 fDk dDk ["_law_script"] (spDeck K) := ok_deck T.Dk T.m_abs
  have GW : FnOk P w K mg base CX0 3 fW dW ["_law_deck_here", "_law_most", "_law_high", "_law_kinds"] spWishes := ok_wishes T.W T.D T.C T.bD T.gD T.bC T.gC T.m_len T.m_tuple T.m_range T.m_max
  have GO : FnOk P w K mg base CX0 1 fO dO ["collections", "spoiling"] spCaps := ok_caps T.O T.m_enumerate T.m_zip T.m_min T.m_tuple
  have GS : FnG P w K mg base 1 fS dS ["_law_value", "_law_due"] (spSame K) := ok_same T.S T.m_repr
  refine fnG_of F scLaw (fun vs H Q E h => ?_) (fun cdv A hgu outer s H vs Q E hr h => ?_)
  · obtain ⟨a, ns, rfl, _⟩ := h
    rfl
  · obtain ⟨a, ns, rfl, hS, hlen, q⟩ := h
    have hu : (A.deeper (envOfC "law" (defScope sLaw) s.heap.objs.size f cdv)).units + 66 < cLine := by
      have := hr.un
      omega
    refine ⟨_, (pss_cons (ps_set (i := 1) scLaw.nd rfl (.inl rfl) (pe_call GDk (hr.mono (by omega)) (by rfl) T.gDk T.Dk.kp T.bDk .nil pass0 (pa_cons (pv 0) pa_nil)))
      (pss_cons (ps_for PassesOwn.never rfl (pi_range1 (by rfl) T.m_range (pa_cons pe_int pa_nil)) (pg_name (i := 2) scLaw.nd rfl (Or.inl rfl)) (pss_cons (ps_set (i := 3) scLaw.nd rfl (.inl rfl) (pe_op op_add pe_int (pe_call GD (hr.mono (by omega)) (by rfl) T.gD T.D.kp T.bD .nil pass0 (pa_cons (pv 1) (pa_cons pe_int pa_nil)))))
      (pss_cons (ps_set (i := 4) scLaw.nd rfl (.inr rfl) (pe_call GW (hr.mono (by omega)) (by rfl) T.gW T.W.kp T.bW .nil pass0 (pa_cons (pv 1) (pa_cons pe_int (pa_cons (pe_ix (show IxR _ (rIxL K) from ix_list) (pe_lst (pa_cons pe_int (pa_cons pe_int (pa_cons pe_int pa_nil)))) (pe_op op_modN (pv 2) pe_int) (fun _ _ => rfl)) (pa_cons (pv 3) pa_nil))))))
      (pss_one (ps_for PassesOwn.never rfl (pi_range1 (by rfl) T.m_range (pa_cons pe_int pa_nil)) (pg_name (i := 5) scLaw.nd rfl (Or.inl rfl)) (pss_cons (ps_set (i := 6) scLaw.nd rfl (.inr rfl) (pe_tup pa_nil))
      (pss_cons (ps_for PassesOwn.never rfl (pi_tup (pv 4)) (pg_name (i := 7) scLaw.nd rfl (Or.inr rfl)) (pss_cons (ps_setLc (i := 9) (own := [("_law_kind", 8)]) (g := gName 8) rfl scLaw.nd rfl rfl (sw_true rfl rfl rfl (by decide +kernel)) (pi_range1 (by rfl) T.m_range (pa_cons (pv 3) pa_nil)) (blkOk_by (own := [("_law_kind", 8)]) (N := NL) (sc := defScope sLaw) (by decide +kernel)) (fun _ _ _ _ _ => (pg_name (i := 8) scLaw.nd rfl (Or.inl rfl))) (fun _ _ _ _ _ => pts_one (pt_cmpR op_gt (pe_ix (show IxR _ (rIxT K) from ix_tup) (pv 7) (pv 8) (fun _ _ => rfl)) pe_int (nomark _))) (fun _ _ _ _ _ => (pv 8)))
      (pss_one (ps_set (i := 6) scLaw.nd rfl (.inr rfl) (pe_op op_catQ (pv 6) (pe_tup (pa_cons (pe_ix (show IxR _ (rIxL K) from ix_list) (pv 9) (pe_op op_mul (pe_call GD (hr.mono (by omega)) (by rfl) T.gD T.D.kp T.bD .nil pass0 (pa_cons (pv 1) (pa_cons (pe_callB call_len_seq (by rfl) T.m_len PySem.boot_len (pa_cons (pv 9) pa_nil)) pa_nil))) (pe_callTy call_int1 (by rfl) T.m_int (by decide +kernel) (pa_cons (pe_cmpR op_gt (pv 5) pe_int (nomark _)) pa_nil))) (fun _ _ => rfl)) pa_nil)))))))
      (pss_cons (ps_set (i := 10) scLaw.nd rfl (.inl rfl) (pe_tup pa_nil))
      (pss_cons (ps_for PassesOwn.never rfl (pi_range1 (by rfl) T.m_range (pa_cons (pv 3) pa_nil)) (pg_name (i := 8) scLaw.nd rfl (Or.inr rfl)) (pss_cons (ps_setLc (i := 11) (own := [("_law_needed", 7), ("_law_own", 14)]) (g := gTup K 2 (gCons (gName 7) (gCons (gName 14) gNil))) rfl scLaw.nd rfl rfl (sw_true rfl rfl rfl (by decide +kernel)) (pi_zipA (by rfl) T.m_zip (pa_cons (pv 4) (pa_cons (pv 6) pa_nil))) (blkOk_by (own := [("_law_needed", 7), ("_law_own", 14)]) (N := NL) (sc := defScope sLaw) (by decide +kernel)) (fun _ _ _ _ _ => (pg_tup rfl (pgs_cons (pg_name (i := 7) scLaw.nd rfl (Or.inl rfl)) (pgs_cons (pg_name (i := 14) scLaw.nd rfl (Or.inl rfl)) pgs_nil)))) (fun _ _ _ _ _ => pts_one (pt_cmpR op_eq (pv 14) (pv 8) (nomark _))) (fun _ _ _ _ _ => (pe_op op_sub (pe_ix (show IxR _ (rIxT K) from ix_tup) (pv 7) (pv 8) (fun _ _ => rfl)) pe_int)))
      (pss_one (ps_set (i := 10) scLaw.nd rfl (.inl rfl) (pe_op op_catQ (pv 10) (pe_tup (pa_cons (pe_ifExp (pt_cmpR (op_neD hr.units) (pv 11) (pe_lst pa_nil) (nomark _)) (pe_callB (show CallR _ _ (rMin K) from cr_min rfl) (by rfl) T.m_min (by decide +kernel) (pa_cons (pv 11) pa_nil)) pe_non) pa_nil)))))))
      (pss_cons (ps_set (i := 12) scLaw.nd rfl (.inl rfl) (pe_callB (call_reprD hgu hu) (by rfl) T.m_repr (by decide +kernel) (pa_cons (pe_lst (pa_cons (pv 4) (pa_cons (pv 6) pa_nil))) pa_nil)))
      (pss_cons (ps_setLc (i := 13) (own := [("_law_twice", 15)]) (g := gName 15) rfl scLaw.nd rfl rfl (sw_true rfl rfl rfl (by decide +kernel)) (pi_range1 (by rfl) T.m_range (pa_cons pe_int pa_nil)) (blkOk_by (own := [("_law_twice", 15)]) (N := NL) (sc := defScope sLaw) (by decide +kernel)) (fun _ _ _ _ _ => (pg_name (i := 15) scLaw.nd rfl (Or.inl rfl))) (fun _ _ _ _ _ => pts_nil) (fun _ _ _ _ _ => (pe_call GO (hr.mono (by omega)) (by rfl) T.gO T.O.kp T.bO .nil pass0 (pa_cons (pv 4) (pa_cons (pv 6) pa_nil)))))
      (pss_one (ps_if (PW.pt (pw_or (pt_not (pt_val (pe_callG GS hgu (hr.mono (by omega)) (by rfl) T.gS T.S.kp T.bS (pa_cons (pv 13) (pa_cons (pe_lst (pa_cons (pv 10) (pa_cons (pv 10) pa_nil))) pa_nil))))) (pw_or1 (pt_cmpR op_ne (pe_callB (call_reprD hgu hu) (by rfl) T.m_repr (by decide +kernel) (pa_cons (pe_lst (pa_cons (pv 4) (pa_cons (pv 6) pa_nil))) pa_nil)) (pv 12) (nomark _))))) (pss_one (ps_ret pe_bl)) pss_nil)))))))))))))
      (pss_one (ps_ret pe_bl)))), ?_⟩
    refine ⟨_, rfl, a, ns, rfl, hS, hlen, fun dk c H1 sm1 ndk nc dek => ?_⟩
    have iteNx : ∀ {b : Bool} {A C : Prop}, b = false → C → (if b = true then A else C) := fun e h => by
      subst e
      exact iteF h
    refine ⟨10, rfl, by decide, by decide, ?_⟩
    refine for_range (lo := 0) (n := 10) (fun i σ H' => ∃ y2 y3 y4 y5 y6 y7 y8 y9 y10 y11 y12 y13 y14 y15, σ = [some (.ref a), some (.ref dk), y2, y3, y4, y5, y6, y7, y8, y9, y10, y11, y12, y13, y14, y15] ∧ Deck H' dk c (200 * i))
      ⟨none, none, none, none, none, none, none, none, none, none, none, none, none, none, rfl, dek⟩ (fun i σ Ha hi h => ?_) (fun σ Ha h => ?_)
    · obtain ⟨y2, y3, y4, y5, y6, y7, y8, y9, y10, y11, y12, y13, y14, y15, rfl, da⟩ := h
      refine ⟨_, rfl, dk, c, 200 * i, 4, rfl, da, by omega, by decide, by decide, fun r Hb r0 r1 kb db => ⟨1, r, rfl, rfl, ?_⟩⟩
      obtain ⟨n, rfl, hn1, hn4⟩ : ∃ n : Nat, r = (n : Int) ∧ 1 ≤ 1 + n ∧ 1 + n ≤ 4 := ⟨r.toNat, by omega, by omega, by omega⟩
      clear r0 r1
      refine ⟨_, rfl, by show 3 ≤ sizeLine; decide, fun l nl => ?_⟩
      obtain ⟨z, hz, ez⟩ := three_at (a := 50) (b := 1) (c := 5) (Int.fmod_nonneg_of_pos ((0 : Int) + i) (show (0 : Int) < 3 by decide)) (Int.fmod_lt_of_pos ((0 : Int) + i) (show (0 : Int) < 3 by decide))
      have hz0 : 1 ≤ z ∧ z ≤ 50 := by omega
      refine ⟨_, rfl, (0 : Int) + i, 3, rfl, rfl, (by show (3 : Int) ≠ 0; decide), l, _, ((0 : Int) + i).fmod 3, .int z, rfl, rfl, SqL.of upd_same, ez, _, rfl, dk, c, 200 * i + 1, 4, 1 + n, z,
        rfl, db.kp nl, by decide, by decide, hn1, hn4, by omega, hz0.1, by omega, fun t ls rows Hc e1 e2 e3 st kc dc => ?_⟩
      have hrow : ∀ r' ∈ rows, r'.length ≤ 4 ∧ ∀ x ∈ r', 0 ≤ x ∧ x < 4096 := fun r' hr' => by
        have g := e3 r' hr'
        exact ⟨by rw [g.len]; exact hn4, fun x hx => by have := g.bd x hx; omega⟩
      have hbd9 : ∀ r' ∈ rows, ∀ x ∈ r', 0 ≤ x ∧ x ≤ 900 := fun r' hr' x hx => by have := (e3 r' hr').bd x hx; omega
      have hrn : ∀ r' ∈ rows, r'.length = 1 + n := fun r' hr' => (e3 r' hr').len
      have smC : ∀ named, Sm 56 1 (capsD (capsOf rows named (1 + n))) := fun named => sm_caps hbd9 hn4
      -- for _law_again in range(8)
      refine ⟨8, rfl, by decide, by decide, ?_⟩
      refine for_range (lo := 0) (n := 8) (fun g σ H' => ∃ y5 y6 y7 y8 y9 y10 y11 y12 y13 y14 y15, σ = [some (.ref a), some (.ref dk), some (.int ((0 : Int) + i)), some (.int (1 + (n : Int))), some (.ref t), y5, y6, y7, y8, y9, y10, y11, y12, y13, y14, y15] ∧ StockAt H' t ls rows ∧ Deck H' dk c (200 * i + 61 + 4 * g))
        ⟨_, _, _, _, _, _, _, _, _, _, _, rfl, st, dc⟩ (fun g σ Hd hg h => ?_) (fun σ Hd h => ?_)
      · obtain ⟨y5, y6, y7, y8, y9, y10, y11, y12, y13, y14, y15, rfl, std, dd⟩ := h
        -- _law_named = ()
        refine ⟨Nat.zero_le _, fun p0 np0 => ?_⟩
        have s0 : Same Hd (upd Hd p0 (.tup [])) := same_new np0
        have hp0 : (upd Hd p0 (.tup [])) p0 = some (.tup (([] : List Int).map V.int)) := upd_same
        have st0 := std.same s0
        have d0 := dd.keep s0
        refine ⟨.ref t, rfl, t, rfl, ⟨_, SqT.of st0.top⟩, ?_⟩
        refine for_it (walk_tup (xs := ls.map V.ref)) (fun j σ H' => ∃ (p : Addr) (nmd : List Int) (y7 y8 y9 : Option V), σ = [some (.ref a), some (.ref dk), some (.int ((0 : Int) + i)), some (.int (1 + (n : Int))), some (.ref t), some (.int ((0 : Int) + g)), some (.ref p), y7, y8, y9, y10, y11, y12, y13, y14, y15] ∧
            H' p = some (.tup (nmd.map V.int)) ∧ nmd.length = j ∧ (∀ x ∈ nmd, 0 ≤ x ∧ x < 4096) ∧ StockAt H' t ls rows ∧ Deck H' dk c (200 * i + 61 + 4 * g + j))
          ⟨p0, [], _, _, _, rfl, hp0, rfl, (fun x hx => by cases hx), st0, d0⟩ (fun j σ H' _ h => by obtain ⟨_, _, _, _, _, _, _, _, _, st', _⟩ := h; exact SqT.of st'.top) (fun j x σ He He2 hj h y => ?_) (fun σ He h => ?_)
        · obtain ⟨p, nmd, y7, y8, y9, rfl, hp, hnl, hnb, ste, de⟩ := h
          obtain ⟨rfl, hx⟩ := y
          obtain ⟨l', hl', rfl⟩ := get_map hx
          have hjl : j < rows.length := by
            have := (List.getElem?_eq_some_iff.mp hl').1
            have := ste.len
            omega
          have hrj : rows[j]? = some rows[j] := List.getElem?_eq_getElem hjl
          have hrow' := ste.row j l' _ hl' hrj
          have hrlen := hrn _ (List.getElem_mem hjl)
          -- _law_able = [..]
          refine ⟨_, rfl, ((1 + n : Nat) : Int), rfl, by omega, by omega, fun D nD => ?_⟩
          refine lc_range (lo := 0) (n := 1 + n) (fun m H3 => H3 D = some (.lst ((kindsUp rows[j] m).map V.int)) ∧ Same He2 H3) ⟨upd_same, same_new nD⟩ (fun m H3 hm h => ?_) (fun H3 h => ?_)
          · obtain ⟨hD, s3⟩ := h
            have gr : (rows[j].map V.int)[m]? = some (.int (rows[j].getD m 0)) := by
              rw [List.getElem?_map, List.getD_eq_getElem?_getD, List.getElem?_eq_getElem (by rw [hrlen]; exact hm)]
              rfl
            refine ⟨rfl, .ref l', rfl, .int ((0 : Int) + m), rfl, l', _, (m : Int), .int (rows[j].getD m 0), rfl, (by rw [Int.zero_add]), SqT.of (s3 _ _ hrow'), atI_nat gr, _, _, rfl, rfl, _, rfl, ite2 (fun e => ?_) (fun e => ?_)⟩
            · refine ⟨_, rfl, _, hD, ?_, ?_, fun b' o e' => ?_⟩
              · rw [List.length_map]
                have := kinds_len rows[j] m
                exact len_lt (by omega)
              · rw [upd_same, kinds_succ, if_pos (show posAt rows[j] m = true from e), List.map_append]
                rfl
              · rw [upd_ne (ne_of_none e' nD)]
                exact s3 b' o e'
            · refine ⟨?_, s3⟩
              rw [kinds_succ, if_neg (show ¬ posAt rows[j] m = true from e), List.append_nil]
              exact hD
          · obtain ⟨hD, s3⟩ := h
            have nD3 := de.nedk nD
            have hpos : 0 < (kindsUp rows[j] (1 + n)).length := by
              have := kinds_pos (e3 _ (List.getElem_mem hjl)).pos
              rw [hrlen] at this
              exact this
            have hlen4 : (kindsUp rows[j] (1 + n)).length ≤ 4 := Nat.le_trans (kinds_len _ _) hn4
            have d3 := de.keep s3
            -- _law_named + (_law_able[draw(len(able)) * int(again > 0)],)
            refine ⟨.ref p, rfl, .ref D, rfl, _, rfl, _, rfl, D, _, rfl, .inl (SqL.of hD), dk, c, _, _, rfl, d3, by omega, by rw [List.length_map]; omega, by rw [List.length_map]; omega, fun r Hf r0 r1 kf df => ?_⟩
            rw [List.length_map] at r1
            have hDf : Hf D = some (.lst ((kindsUp rows[j] (1 + n)).map V.int)) := kf _ _ nD3.1 nD3.2 hD
            have tf : TK He2 Hf := (TK.same s3).trans (TK.kp d3 kf)
            have hpf := tf _ _ hp
            have stf := ste.tk tf
            refine ⟨_, rfl, _, 0, rfl, rfl, .inr ⟨_, rfl, r, _, rfl, rfl, .inr ?_, ?_⟩⟩
            · split <;> decide
            obtain ⟨q0, hq0, hq1⟩ : ∃ q0 : Nat, r * (if decide (((0 : Int) + g) > 0) = true then 1 else 0) = (q0 : Int) ∧ q0 < (kindsUp rows[j] (1 + n)).length := by
              split
              · exact ⟨r.toNat, by omega, by omega⟩
              · exact ⟨0, by omega, hpos⟩
            have hat : ((kindsUp rows[j] (1 + n)).map V.int)[q0]? = some (.int (kindsUp rows[j] (1 + n))[q0]) := by
              rw [List.getElem?_map, List.getElem?_eq_getElem hq1]
              rfl
            refine ⟨D, _, (q0 : Int), .int (kindsUp rows[j] (1 + n))[q0], rfl, by rw [← hq0], SqL.of hDf, atI_nat hat, by show 1 ≤ sizeLine; decide, fun p1 np1 => ?_⟩
            have s4 : Same Hf (upd Hf p1 (.tup [.int (kindsUp rows[j] (1 + n))[q0]])) := same_new np1
            refine ⟨p, p1, _, [.int (kindsUp rows[j] (1 + n))[q0]], rfl, rfl, s4 _ _ hpf, upd_same, by rw [List.length_map, hnl]; show _ + 1 ≤ 1000; omega, fun p2 Hg s5 hp2 => ?_⟩
            have s45 := s4.trans s5
            refine ⟨p2, nmd ++ [(kindsUp rows[j] (1 + n))[q0]], _, _, _, rfl, ?_, ?_, fun x hx => ?_, stf.same s45, df.keep s45⟩
            · rw [hp2, List.map_append]
              rfl
            · rw [List.length_append, hnl]
              rfl
            · rcases List.mem_append.mp hx with h | h
              · exact hnb x h
              · rw [List.mem_singleton.mp h]
                have := kinds_bd rows[j] (1 + n) _ (List.getElem_mem hq1)
                omega
        · obtain ⟨p, nmd, y7, y8, y9, rfl, hp, hnl, hnb, ste, de⟩ := h
          rw [List.length_map, ste.len] at hnl de
          -- _law_due = ()
          refine ⟨Nat.zero_le _, fun u0 nu0 => ?_⟩
          have s0' : Same He (upd He u0 (.tup [])) := same_new nu0
          have hu0 : (upd He u0 (.tup [])) u0 = some (.tup ([] : List V)) := upd_same
          generalize upd He u0 (.tup []) = Hf at s0' hu0 ⊢
          have stf := ste.same s0'
          have hpf := s0' _ _ hp
          have df := de.keep s0'
          -- for _law_kind in range(_law_kinds)
          refine ⟨_, rfl, ((1 + n : Nat) : Int), rfl, by omega, by omega, ?_⟩
          refine for_range (lo := 0) (n := 1 + n) (fun k σ H' => ∃ (u : Addr) (y8 y11 y14 : Option V), σ = [some (.ref a), some (.ref dk), some (.int ((0 : Int) + i)), some (.int (1 + (n : Int))), some (.ref t), some (.int ((0 : Int) + g)), some (.ref p), y7, y8, y9, some (.ref u), y11, y12, y13, y14, y15] ∧
              H' u = some (.tup (((capsOf rows nmd (1 + n)).take k).map optI)) ∧ Same Hf H') ⟨u0, _, _, _, rfl, hu0, Same.refl _⟩ (fun k σ Hg hk h => ?_) (fun σ Hg h => ?_)
          · obtain ⟨u, y8, y11, y14, rfl, hu1, sg⟩ := h
            have stg := stf.same sg
            have hpg := sg _ _ hpf
            -- _law_least = [..]
            refine ⟨.ref t, rfl, .ref p, rfl, t, p, _, _, rfl, .inr ⟨SqT.of stg.top, SqT.of hpg, fun D nD => ?_⟩⟩
            refine lc_zipT (xs := ls.map V.ref) (ys := nmd.map V.int) (by rw [List.length_map, List.length_map, stg.len, hnl]) (fun j H3 => H3 D = some (.lst (((pickUp rows nmd k j).map fun x => x - 1).map V.int)) ∧ Same Hg H3) ⟨upd_same, same_new nD⟩
              (fun j H3 _ h => ⟨SqT.of (h.2 _ _ stg.top), SqT.of (h.2 _ _ hpg)⟩) (fun j x y T2 H3 hx hy h nT2 => ?_) (fun H3 h => ?_)
            · obtain ⟨hD, s3⟩ := h
              obtain ⟨l', hl', rfl⟩ := get_map hx
              obtain ⟨ow, how, rfl⟩ := get_map hy
              have hjl : j < rows.length := by
                have := (List.getElem?_eq_some_iff.mp hl').1
                have := stg.len
                omega
              have hrj : rows[j]? = some rows[j] := List.getElem?_eq_getElem hjl
              have hrow' := s3 _ _ (stg.row j l' _ hl' hrj)
              have gr : (rows[j].map V.int)[k]? = some (.int (rows[j].getD k 0)) := by
                rw [List.getElem?_map, List.getD_eq_getElem?_getD, List.getElem?_eq_getElem (by rw [hrn _ (List.getElem_mem hjl)]; exact hk)]
                rfl
              have sT : Same H3 (upd H3 T2 (.tup [.ref l', .int ow])) := same_new nT2
              refine ⟨T2, [.ref l', .int ow], rfl, .inl (.inl upd_same), rfl, .ref l', [.int ow], rfl, .int ow, [], rfl, rfl, rfl, .int ow, rfl, .int ((0 : Int) + k), rfl, rfl, _, rfl, ite2 (fun e => ?_) (fun e => ?_)⟩
              · have e' : ow = (k : Int) := by
                  have := of_decide_eq_true e
                  injection this with this
                  rw [Int.zero_add] at this
                  exact this
                refine ⟨.ref l', rfl, .int ((0 : Int) + k), rfl, l', _, (k : Int), .int (rows[j].getD k 0), rfl, (by rw [Int.zero_add]), SqT.of (sT _ _ hrow'), atI_nat gr, _, 1, rfl, rfl, _, sT _ _ hD, ?_, ?_, fun b' o e2 => ?_⟩
                · rw [List.length_map, List.length_map]
                  have := pick_len rows nmd k j
                  exact len_lt (by omega)
                · rw [upd_same, pick_succ hrj how, if_pos e', List.map_append, List.map_append]
                  rfl
                · rw [upd_ne (ne_of_none e2 nD)]
                  exact sT _ _ (s3 b' o e2)
              · have e' : ¬ ow = (k : Int) := fun z => e (decide_eq_true (by rw [z, Int.zero_add]))
                refine ⟨?_, s3.trans sT⟩
                rw [pick_succ hrj how, if_neg e', List.append_nil]
                exact sT _ _ hD
            · obtain ⟨hD, s3⟩ := h
              rw [List.length_map, stg.len] at hD
              have hD' : H3 D = some (.lst (((pickAll rows nmd k).map fun x => x - 1).map V.int)) := hD
              have hget := caps_get (rows := rows) (named := nmd) hk
              -- _law_due + (min(least) if least != [] else None,)
              have hu3 := s3 _ _ hu1
              refine ⟨.ref u, rfl, .ref D, rfl, Nat.zero_le _, fun q0 nq0 => ?_⟩
              have s4 : Same H3 (upd H3 q0 (.lst [])) := same_new nq0
              have hD4 := s4 _ _ hD'
              have hu4 := s4 _ _ hu3
              have shp : SeqAt.shaped (.list (((pickAll rows nmd k).map fun x => x - 1).map PyData.int)) = true := by
                refine (sm_ints (r := (pickAll rows nmd k).map fun x => x - 1) fun x hx => ?_).shaped (by decide)
                obtain ⟨x', hx', rfl⟩ := List.mem_map.mp hx
                have := pick_bd (by decide) hbd9 x' hx'
                omega
              refine ⟨.list (((pickAll rows nmd k).map fun x => x - 1).map PyData.int), .list [], .lst (SqL.of hD4) (dps_ints _), .lst (SqL.of upd_same) .nil, shp, by decide, _, rfl, ?_⟩
              have fin : ∀ v : V, v = optI (capAt rows nmd k) → 1 ≤ sizeLine ∧ ∀ p', (upd H3 q0 (.lst [])) p' = none → rCatQ (.ref u) (.ref p') (upd (upd H3 q0 (.lst [])) p' (.tup [v])) fun x H5 => ∃ u', x = .ref u' ∧ H5 u' = some (.tup (((capsOf rows nmd (1 + n)).take (k + 1)).map optI)) ∧ Same Hf H5 := fun v hv => by
                refine ⟨by decide, fun p' np' => ?_⟩
                have s5 : Same (upd H3 q0 (.lst [])) (upd (upd H3 q0 (.lst [])) p' (.tup [v])) := same_new np'
                refine ⟨u, p', _, [v], rfl, rfl, s5 _ _ hu4, upd_same, ?_, fun u' H5 s6 h6 => ⟨u', rfl, ?_, sg.trans (s3.trans (s4.trans (s5.trans s6)))⟩⟩
                · rw [List.length_map, List.length_take]
                  show _ + 1 ≤ 1000
                  omega
                · rw [h6, take_succ_map hget, hv]
              by_cases hp0 : pickAll rows nmd k = []
              · rw [hp0]
                refine ite2 (fun e => (nomatch (show false = true from e))) (fun _ => ?_)
                obtain ⟨f1, f2⟩ := fin .non (by unfold capAt; rw [if_pos hp0]; rfl)
                refine ⟨f1, fun p' np' => ?_⟩
                have key := f2 p' np'
                obtain ⟨a1, b1, xs1, ys1, g1, g2, g3, g4, g5, g6⟩ := key
                refine ⟨a1, b1, xs1, ys1, g1, g2, g3, g4, g5, fun p2 H5 s5 h5 => ?_⟩
                obtain ⟨u', eu, hu', su⟩ := g6 p2 H5 s5 h5
                cases eu
                exact ⟨_, _, _, _, rfl, hu', su⟩
              · have hne : ¬ PyData.eqv (.list (((pickAll rows nmd k).map fun x => x - 1).map PyData.int)) (.list []) = true := fun e => hp0 (List.map_eq_nil_iff.mp (eqv_nil_iff.mp e))
                rw [Bool.eq_false_iff.mpr hne]
                refine iteT ⟨.ref D, rfl, D, _, rfl, SqL.of hD4, ?_, fun mn hmn hle => ?_⟩
                · rw [List.length_map]
                  exact List.length_pos_iff.mpr hp0
                obtain ⟨f1, f2⟩ := fin (.int mn) (by unfold capAt; rw [if_neg hp0, minL_sub hmn hle]; rfl)
                refine ⟨f1, fun p' np' => ?_⟩
                have key := f2 p' np'
                obtain ⟨a1, b1, xs1, ys1, g1, g2, g3, g4, g5, g6⟩ := key
                refine ⟨a1, b1, xs1, ys1, g1, g2, g3, g4, g5, fun p2 H5 s5 h5 => ?_⟩
                obtain ⟨u', eu, hu', su⟩ := g6 p2 H5 s5 h5
                cases eu
                exact ⟨_, _, _, _, rfl, hu', su⟩
          · obtain ⟨u, y8, y11, y14, rfl, hu1, sg⟩ := h
            rw [List.take_of_length_le (by rw [caps_len]; exact Nat.le_refl _)] at hu1
            have stg := stf.same sg
            have hpg := sg _ _ hpf
            have dg := df.keep sg
            have smP : Sm 458 64 (.list [stockD rows, rowD nmd]) := by
              have q' : SmA (0 + 1 + 1) 228 2 [stockD rows, rowD nmd] := SmA.cons (sm_stock hrow e2) (SmA.cons ((sm_row hnb (by omega)).up (by decide) (by decide)) SmA.nil)
              exact q'.lst.up (by decide) (by decide)
            -- _law_before = repr([..])
            refine ⟨.ref t, rfl, .ref p, rfl, by show 2 ≤ sizeLine; decide, fun q1 nq1 => ?_⟩
            refine ⟨q1, .list [stockD rows, rowD nmd], 458, rfl, .lst (SqL.of upd_same) (.cons (stg.same (same_new nq1)).dp (.cons (dp_row (same_new nq1 _ _ hpg)) .nil)), smP, by decide, ?_⟩
            have sh : Same Hg (upd Hg q1 (.lst [.ref t, .ref p])) := same_new nq1
            generalize upd Hg q1 (.lst [.ref t, .ref p]) = Hh at sh ⊢
            have sth := stg.same sh
            have hph := sh _ _ hpg
            have huh := sh _ _ hu1
            -- _law_found = [..]
            refine ⟨2, rfl, by decide, by decide, fun D nD => ?_⟩
            refine lc_range (lo := 0) (n := 2) (fun j H' => ∃ ps : List Addr, ps.length = j ∧ H' D = some (.lst (ps.map V.ref)) ∧ Same Hh H' ∧ ∀ p' ∈ ps, H' p' = some (.tup ((capsOf rows nmd (1 + n)).map optI))) ⟨[], rfl, upd_same, same_new nD, fun p hp => by cases hp⟩ (fun j H' hj h => ?_) (fun H' h => ?_)
            · obtain ⟨ps, hpl, hD, smj, hps⟩ := h
              refine ⟨rfl, .ref t, rfl, .ref p, rfl, t, p, ls, rows, nmd, 1 + n, rfl, sth.same smj, e1, e2, hrn, by omega, smj _ _ hph, hnl, fun p5 H5 s5 h5 => ?_⟩
              have hD5 := s5 _ _ hD
              have tD : TK H5 (upd H5 D (.lst (ps.map V.ref ++ [.ref p5]))) := TK.lst hD5
              refine ⟨_, hD5, ?_, ps ++ [p5], ?_, ?_, fun b' o e' => ?_, fun p' hp' => ?_⟩
              · rw [List.length_map]
                exact len_lt (by omega)
              · rw [List.length_append, hpl]
                rfl
              · rw [upd_same, List.map_append]
                rfl
              · rw [upd_ne (ne_of_none e' nD)]
                exact s5 _ _ (smj b' o e')
              · rcases List.mem_append.mp hp' with h | h
                · exact tD _ _ (s5 _ _ (hps p' h))
                · rw [List.mem_singleton.mp h]
                  exact tD _ _ h5
            · obtain ⟨ps, hpl, hD, smj, hps⟩ := h
              match ps, hpl with
              | [pA, pB], _ =>
                have hA := hps pA (by simp)
                have hB := hps pB (by simp)
                refine ⟨.ref D, rfl, .ref u, rfl, .ref u, rfl, by show 2 ≤ sizeLine; decide, fun q2 nq2 => ?_⟩
                have s6 : Same H' (upd H' q2 (.lst [.ref u, .ref u])) := same_new nq2
                have smo2 : Sm 114 64 (.list [capsD (capsOf rows nmd (1 + n)), capsD (capsOf rows nmd (1 + n))]) := by
                  have q' : SmA (0 + 1 + 1) 56 1 [capsD (capsOf rows nmd (1 + n)), capsD (capsOf rows nmd (1 + n))] := SmA.cons (smC nmd) (SmA.cons (smC nmd) SmA.nil)
                  exact q'.lst.up (by decide) (by decide)
                have hu6 := (smj.trans s6) _ _ huh
                refine ⟨D, q2, .list [capsD (capsOf rows nmd (1 + n)), capsD (capsOf rows nmd (1 + n))], 114, rfl, .lst (SqL.of (s6 _ _ hD)) (.cons (dp_caps (s6 _ _ hA)) (.cons (dp_caps (s6 _ _ hB)) .nil)), .lst (SqL.of upd_same) (.cons (dp_caps hu6) (.cons (dp_caps hu6) .nil)), smo2, by decide, true, rfl, ?_⟩
                have s7 := (smj.trans s6)
                refine iteNx rfl ⟨.ref t, rfl, .ref p, rfl, by show 2 ≤ sizeLine; decide, fun q3 nq3 => ?_⟩
                have s8 := s7.trans (same_new (o := .lst [.ref t, .ref p]) nq3)
                refine ⟨q3, .list [stockD rows, rowD nmd], 458, rfl, .lst (SqL.of upd_same) (.cons (sth.same s8).dp (.cons (dp_row (s8 _ _ hph)) .nil)), smP, by decide, _, rfl, rfl, _, rfl, ?_⟩
                refine iteNx (by rw [decide_eq_true rfl]; rfl) ⟨_, _, _, _, _, _, _, _, _, _, _, rfl, sth.same s8, ((dg.keep sh).keep s8).up (by omega)⟩
      · obtain ⟨y5, y6, y7, y8, y9, y10, y11, y12, y13, y14, y15, rfl, std, dd⟩ := h
        exact ⟨_, _, _, _, _, _, _, _, _, _, _, _, _, _, rfl, dd.up (by omega)⟩
    · exact q _
end
end DD
namespace DD
open PySem PySem.Spec PyProof.Rows L2
theorem all_mk {l : PySem.W.OpenLaw} {w : World} {K : PySem.W.Frag} {h : Heap} {mg : Str → Option Value} {fa f1 f2 f3 f4 f5 f6 f7 : Addr} (kin : K.In h) (nsG : h.Ns mainGlobals mg) (hfa : mg "law" = some (.ref fa))
    {od1 an1 : Option Addr} {sl1 : Array (Option Value)} {oc1 kV1 dc1 pm1 cd1 ct1 : Value}
    {od2 an2 : Option Addr} {sl2 : Array (Option Value)} {oc2 kV2 dc2 pm2 cd2 ct2 : Value}
    {od3 an3 : Option Addr} {sl3 : Array (Option Value)} {oc3 kV3 dc3 pm3 cd3 ct3 : Value}
    {od4 an4 : Option Addr} {sl4 : Array (Option Value)} {oc4 kV4 dc4 pm4 cd4 ct4 : Value}
    {od5 an5 : Option Addr} {sl5 : Array (Option Value)} {oc5 kV5 dc5 pm5 cd5 ct5 : Value}
    {od6 an6 : Option Addr} {sl6 : Array (Option Value)} {oc6 kV6 dc6 pm6 cd6 ct6 : Value}
    {od7 an7 : Option Addr} {sl7 : Array (Option Value)} {oc7 kV7 dc7 pm7 cd7 ct7 : Value}
    (a1 : PySem.W.nsIn K mainGlobals "caps_of" = some (some (.ref f1))) (c1 : PySem.W.codeIn K cd1 "caps_of" = true) (k1 : PySem.W.keepIn K (.ref f1) = true)
    (l1 : K.lookup f1 = some ⟨oc1, od1, .func (PySem.W.fnOf "caps_of" "caps_of" (defArgs sCaps) (defBody sCaps) (defScope sCaps) .none kV1 dc1 pm1 an1 cd1 ct1), sl1⟩)
    (a2 : PySem.W.nsIn K mainGlobals "_law_deck" = some (some (.ref f2))) (c2 : PySem.W.codeIn K cd2 "_law_deck" = true) (k2 : PySem.W.keepIn K (.ref f2) = true)
    (l2 : K.lookup f2 = some ⟨oc2, od2, .func (PySem.W.fnOf "_law_deck" "_law_deck" (defArgs sDeck) (defBody sDeck) (defScope sDeck) .none kV2 dc2 pm2 an2 cd2 ct2), sl2⟩)
    (a3 : PySem.W.nsIn K mainGlobals "_law_draw" = some (some (.ref f3))) (c3 : PySem.W.codeIn K cd3 "_law_draw" = true) (k3 : PySem.W.keepIn K (.ref f3) = true)
    (l3 : K.lookup f3 = some ⟨oc3, od3, .func (PySem.W.fnOf "_law_draw" "_law_draw" (defArgs sDraw) (defBody sDraw) (defScope sDraw) .none kV3 dc3 pm3 an3 cd3 ct3), sl3⟩)
    (a4 : PySem.W.nsIn K mainGlobals "_law_same" = some (some (.ref f4))) (c4 : PySem.W.codeIn K cd4 "_law_same" = true) (k4 : PySem.W.keepIn K (.ref f4) = true)
    (l4 : K.lookup f4 = some ⟨oc4, od4, .func (PySem.W.fnOf "_law_same" "_law_same" (defArgs sSame) (defBody sSame) (defScope sSame) .none kV4 dc4 pm4 an4 cd4 ct4), sl4⟩)
    (a5 : PySem.W.nsIn K mainGlobals "_law_counts" = some (some (.ref f5))) (c5 : PySem.W.codeIn K cd5 "_law_counts" = true) (k5 : PySem.W.keepIn K (.ref f5) = true)
    (l5 : K.lookup f5 = some ⟨oc5, od5, .func (PySem.W.fnOf "_law_counts" "_law_counts" (defArgs sCounts) (defBody sCounts) (defScope sCounts) .none kV5 dc5 pm5 an5 cd5 ct5), sl5⟩)
    (a6 : PySem.W.nsIn K mainGlobals "_law_wishes" = some (some (.ref f6))) (c6 : PySem.W.codeIn K cd6 "_law_wishes" = true) (k6 : PySem.W.keepIn K (.ref f6) = true)
    (l6 : K.lookup f6 = some ⟨oc6, od6, .func (PySem.W.fnOf "_law_wishes" "_law_wishes" (defArgs sWishes) (defBody sWishes) (defScope sWishes) .none kV6 dc6 pm6 an6 cd6 ct6), sl6⟩)
    (a7 : PySem.W.nsIn K mainGlobals "law" = some (some (.ref f7))) (c7 : PySem.W.codeIn K cd7 "law" = true) (k7 : PySem.W.keepIn K (.ref f7) = true)
    (l7 : K.lookup f7 = some ⟨oc7, od7, .func (PySem.W.fnOf "law" "law" (defArgs sLaw) (defBody sLaw) (defScope sLaw) .none kV7 dc7 pm7 an7 cd7 ct7), sl7⟩)
    (z1 : PySem.W.nsIn K mainGlobals "len" = some none)
    (z2 : PySem.W.nsIn K mainGlobals "tuple" = some none)
    (z3 : PySem.W.nsIn K mainGlobals "range" = some none)
    (z4 : PySem.W.nsIn K mainGlobals "zip" = some none)
    (z5 : PySem.W.nsIn K mainGlobals "abs" = some none)
    (z6 : PySem.W.nsIn K mainGlobals "repr" = some none)
    (z7 : PySem.W.nsIn K mainGlobals "max" = some none)
    (z8 : PySem.W.nsIn K mainGlobals "min" = some none)
    (z9 : PySem.W.nsIn K mainGlobals "int" = some none)
    (z10 : PySem.W.nsIn K mainGlobals "enumerate" = some none)
    : ∃ fd : FuncData, (∀ (s : Shared) (v : Value), BindsTo s fd ⟨[v], []⟩ [("_law_script", v)]) ∧ ∀ base : Heap, K.In base → base.Ns mainGlobals mg → FnG l.prog w K mg base 4 fa fd ["_law_script"] (spLaw K) := by
  cases hfa.symm.trans (PySem.W.mg_of kin nsG a7)
  have F1 := fun_mk (st := sCaps) l1 c1 k1
  have F2 := fun_mk (st := sDeck) l2 c2 k2
  have F3 := fun_mk (st := sDraw) l3 c3 k3
  have F4 := fun_mk (st := sSame) l4 c4 k4
  have F5 := fun_mk (st := sCounts) l5 c5 k5
  have F6 := fun_mk (st := sWishes) l6 c6 k6
  have F7 := fun_mk (st := sLaw) l7 c7 k7
  have b1 := F1.binds (ps := ["collections", "spoiling"]) fun _ _ _ _ _ _ us hl => match us, hl with | [_, _], _ => rfl
  have b2 := F2.binds (ps := ["_law_script"]) fun _ _ _ _ _ _ us hl => match us, hl with | [_], _ => rfl
  have b3 := F3.binds (ps := ["_law_deck_here", "_law_limit"]) fun _ _ _ _ _ _ us hl => match us, hl with | [_, _], _ => rfl
  have b4 := F4.binds (ps := ["_law_value", "_law_due"]) fun _ _ _ _ _ _ us hl => match us, hl with | [_, _], _ => rfl
  have b5 := F5.binds (ps := ["_law_deck_here", "_law_kinds", "_law_most"]) fun _ _ _ _ _ _ us hl => match us, hl with | [_, _, _], _ => rfl
  have b6 := F6.binds (ps := ["_law_deck_here", "_law_most", "_law_high", "_law_kinds"]) fun _ _ _ _ _ _ us hl => match us, hl with | [_, _, _, _], _ => rfl
  refine ⟨PySem.W.fnOf "law" "law" (defArgs sLaw) (defBody sLaw) (defScope sLaw) .none kV7 dc7 pm7 an7 cd7 ct7, fun s v => .of_eq rfl, fun base _ _ => ?_⟩
  exact ok_law F7 ⟨F1, b1, PySem.W.mg_of kin nsG a1, F2, b2, PySem.W.mg_of kin nsG a2, F3, b3, PySem.W.mg_of kin nsG a3, F4, b4, PySem.W.mg_of kin nsG a4, F5, b5, PySem.W.mg_of kin nsG a5, F6, b6, PySem.W.mg_of kin nsG a6, PySem.W.mg_none_of kin nsG z1, PySem.W.mg_none_of kin nsG z2, PySem.W.mg_none_of kin nsG z3, PySem.W.mg_none_of kin nsG z4, PySem.W.mg_none_of kin nsG z5, PySem.W.mg_none_of kin nsG z6, PySem.W.mg_none_of kin nsG z7, PySem.W.mg_none_of kin nsG z8, PySem.W.mg_none_of kin nsG z9, PySem.W.mg_none_of kin nsG z10⟩
end DD
open PySem PySem.W PyProof.Rows
set_option maxHeartbeats 0 in
theorem PySem.Challenge.cw_darkdrawers_k06_caps_holds : PySem.Challenge.rw_darkdrawers_k06_caps.Holds := by
  w_on; o_law; k_head; (case hw => w_witness2)
  k_fill
  refine DD.walk_ofG (l := PySem.Challenge.rw_darkdrawers_k06_caps) (n := 63) (k := 4) (x := "_law_script") (sp := fun w => DD.spLaw _) rfl (by decide) rfl ⟨rfl, by decide, by decide⟩ (fun w h Y => PySem.W.kIn_of Y) ?F
    (fun _ _ a ns hl _ hS => ⟨a, ns, rfl, hS, hl, fun _ => rfl⟩)
  case F =>
    intro w mg fa h KX G hmg
    refine' DD.all_mk KX G hmg ?a1 ?c1 ?k1 ?l1 ?a2 ?c2 ?k2 ?l2 ?a3 ?c3 ?k3 ?l3 ?a4 ?c4 ?k4 ?l4 ?a5 ?c5 ?k5 ?l5 ?a6 ?c6 ?k6 ?l6 ?a7 ?c7 ?k7 ?l7 ?z1 ?z2 ?z3 ?z4 ?z5 ?z6 ?z7 ?z8 ?z9 ?z10
    (case a1 => k_is); (case l1 => k_is); (case c1 => k_is); (case k1 => k_is); (case a2 => k_is); (case l2 => k_is); (case c2 => k_is); (case k2 => k_is); (case a3 => k_is); (case l3 => k_is); (case c3 => k_is); (case k3 => k_is); (case a4 => k_is); (case l4 => k_is); (case c4 => k_is); (case k4 => k_is); (case a5 => k_is); (case l5 => k_is); (case c5 => k_is); (case k5 => k_is); (case a6 => k_is); (case l6 => k_is); (case c6 => k_is); (case k6 => k_is); (case a7 => k_is); (case l7 => k_is); (case c7 => k_is); (case k7 => k_is); (case z1 => k_is); (case z2 => k_is); (case z3 => k_is); (case z4 => k_is); (case z5 => k_is); (case z6 => k_is); (case z7 => k_is); (case z8 => k_is); (case z9 => k_is); (case z10 => k_is)
