import PyProof.Rows.All
import Wide.All
import OpenK.AllK
import Wide.FinOn
import HandS.Base
import HandS.Call
import HandS.List
import HandS.Comp
import HandS.Ends
import HandS.Words
import HandS.Star
import PyProof.Rows.RegFStrParts
import HandS.Zip
import KE.GoesEnum
import KE.KTupSum
import HandS.Walk
import HandS.ForMost
import HandS.Codes
import HandS.Style
import HandS.TupAny
import HandS.TupMul
import HandS.Conv
import HandS.Deep
import HandS.Flt
import HandS.IsInst
import HandS.More
import KE.KRevSl
import PyProof.EqKinds
import HandS.Text
import PySem.Challenge.RW_darkdrawers_k13_certificates_judged
set_option Elab.async false
set_option linter.all false
set_option maxRecDepth 100000
namespace DD
open PySem PySem.Spec PyProof.Rows L2

/-! ### a def's promise where no repr is under way (A.guards = some []) -/
structure FnG (P : Program) (w : World) (K : PySem.W.Frag) (mg : Str → Option Value) (base : Heap) (k : Nat) (f : Addr)
    (fd : FuncData) (ps : List Str) (sp : Sp) : Prop where
  arity : ∀ vs H Q E, sp vs H Q E → vs.length = ps.length
  go : ∀ (A : Around), A.guards = some [] → Room k A → ∀ (outer : List Env) (s : Shared) (H : Hp) (args : Args) (us : List Value)
    (vs : List V) (Q : VK) (E : XK), Env0 P w K mg base A outer s H → BindsTo s fd args (ps.zip us) → Vals vs us → sp vs H Q E →
    codeAny (model P w) A (.call (.ref f) args) (CR CX0 outer P w H s Q E) s

section
variable {P : Program} {w : World} {K : PySem.W.Frag} {mg : Str → Option Value} {base : Heap} {k : Nat} {f : Addr} {fd : FuncData}
  {ps : List Str} {sp : Sp}
theorem FnG.up {j : Nat} (F : FnG P w K mg base j f fd ps sp) (h : j ≤ k) : FnG P w K mg base k f fd ps sp :=
  ⟨F.arity, fun A hg hr => F.go A hg (hr.mono h)⟩

theorem fnG_of {x qual : Str} {st : Stmt} {N : List Str} (F : Fun K x qual st f fd) (S : FnScope N ps (defScope st))
    (ar : ∀ vs H Q E, sp vs H Q E → vs.length = ps.length)
    (bd : ∀ (cdv : Value) (A : Around), A.guards = some [] → ∀ (outer : List Env) (s : Shared) (H : Hp) (vs : List V) (Q : VK) (E : XK),
      Room k (A.deeper (envOfC qual (defScope st) s.heap.objs.size f cdv)) → sp vs H Q E →
      ∃ t, PSs (cxOf CX0 P w K mg base N qual (defScope st) f cdv A outer s H E).nox (defBody st) t ∧
        t { nx := fun _ H' => Q .non H', rt := Q } (start N vs) H) : FnG P w K mg base (k + 1) f fd ps sp := by
  obtain ⟨oc, od, kV, doc, pm, an, cdv, ct, osl, rfl, lk, hcd⟩ := F.ex
  refine ⟨ar, fun A hgu hr outer s H args us vs Q E e0 hb rv hsp => ?_⟩
  have nl := ar _ _ _ _ hsp
  have kin : K.In s.heap := e0.mod.kin.keeps fun b o e => (e0.bs b o e).1
  have nolim : s.heap.NoLimit := e0.mod.nolimit.keeps fun b o e => (e0.bs b o e).1
  have kinds : ∀ y ∈ ps.zip us, (defScope st).names.lookup y.1 = some .local ∨ ((defScope st).names.lookup y.1 = some .cell ∧
      ((cellsFrom (s.heap.objs.size + 1) (defScope st).names []).lookup y.1).isSome = true) := by
    rintro ⟨n, v⟩ hy
    rcases S.par n (List.of_mem_zip hy).1 with q | q
    · exact .inl q
    · exact .inr ⟨q, PySem.W.cellsFrom_some _ _ _ (.inl q)⟩
  refine codeAny_call_function hr.depth (kin _ _ lk) rfl S.co S.gen rfl (PySem.W.codeRec_of kin hcd) (hb _ _ _ _ ?_)
  refine wpAny_newFunctionEnv_cells S.kind kinds fun env he s1 xx => ?_
  subst he
  refine ⟨nolim.keeps xx.toInCall.keep, codeAny_func ?_⟩
  obtain ⟨t, ht0, hq⟩ := bd cdv A hgu outer s H vs Q E (hr.deeper _) hsp
  have ht := ht0.nox
  have I0 := inv_start (CX := CX0) (E := E) S hr.hd e0 nl rv xx
  refine wpAny_mono (ht.run [] s1 (start N vs) H _ I0 hq) (fun fl s' hs => ?_) fun e s' hs => hs
  cases fl with
  | ret u =>
    obtain ⟨v, σ', H', J, r2, q⟩ := hs
    exact ⟨v, H', J.os, J.bare, J.base, J.hok, r2, q⟩
  | next =>
    obtain ⟨σ', H', J, q⟩ := hs
    exact ⟨V.non, H', J.os, J.bare, J.base, J.hok, rfl, q⟩
  | brk =>
    obtain ⟨_, _, _, q⟩ := hs
    exact q.elim
  | cont =>
    obtain ⟨_, _, _, q⟩ := hs
    exact q.elim
end

section
variable {X : Cx} {k : Nat} {f : Addr} {fd : FuncData} {ps : List Str} {sp : Sp} {x : Str} {p pos : Pos} {e : Expr} {es : List Expr} {t : TA}
theorem pe_callG (F : FnG X.prog X.w X.K X.mg X.base k f fd ps sp) (hgu : X.A.guards = some []) (hr : Room k X.A) (hg : Gl X x)
    (hm : X.mg x = some (.ref f)) (hk : PySem.W.keepIn X.K (.ref f) = true) (hb : Binds X.K fd ps [])
    (ha : PA X (e :: es) t) (hdb : (x == ("__debug__" : Str)) = false := by decide)
    (he : starEach (e :: es) X.env = (false, eval e X.env) :: starEach es X.env := by rfl)
    (hpl : (backTo pos (starEach es X.env)).any (·.1) = false := by rfl) :
    PE X (.Call (.Name x p) (e :: es) [] pos) (tCall sp [] E0 t) := by
  refine ⟨fun pins s σ H Q I h => wpAny_Call_Name_kw (ld_glob I hg hm ?_ hdb)⟩
  refine PySem.W.callWith_K (h₀ := X.base) I.ok.mod.kin hk
    (thn (ha.run pos pins s σ H _ I h) fun us s1 ⟨vs, H1, I1, r, q⟩ => ⟨I1.kIn, ?_⟩) he hpl
  have q : sp (vs ++ []) H1 Q E0 := q
  rw [List.append_nil] at q
  have hl : (us ++ []).length = ps.length := by rw [List.append_nil, ← r.length]; exact F.arity _ _ _ _ q
  have hbb := hb s1 us I1.kIn hl
  rw [List.append_nil] at hbb
  refine wpAny_call (codeAny_mono (F.go X.A hgu hr X.stack s1 H1 ⟨us, []⟩ us vs Q E0 I1.env0 hbb r q) fun r s' hq => ?_)
  cases r with
  | error e => exact hq.elim
  | ok fl =>
    cases fl with
    | ret u => exact I1.after hq
    | next => exact hq.elim
    | brk => exact hq.elim
    | cont => exact hq.elim
end

/-! ### repr of data -/
mutual
theorem dp_nodict {K : PySem.W.Frag} {H : Hp} : ∀ (d : PyData) (v : V), Dp K H v d → d.hasDict = false
  | .none, _, _ => rfl
  | .bool _, _, _ => rfl
  | .int _, _, _ => rfl
  | .str _, _, _ => rfl
  | .list ds, _, h => by
    cases h with
    | lst _ a => exact dps_nodict ds _ a
  | .tuple ds, _, h => by
    cases h with
    | tup _ a => exact dps_nodict ds _ a
  | .dict _, _, h => by cases h
theorem dps_nodict {K : PySem.W.Frag} {H : Hp} : ∀ (ds : List PyData) (vs : List V), DpAll K H vs ds → PyData.hasDictAll ds = false
  | [], _, _ => rfl
  | d :: ds, _, h => by
    cases h with
    | cons a b =>
      show (d.hasDict || PyData.hasDictAll ds) = false
      rw [dp_nodict d _ a, dps_nodict ds _ b]
      rfl
end

/-- data that is small: what repr and == ask of it -/
structure Sm (wt dp : Nat) (d : PyData) : Prop where
  lay : d.canLay0 = true
  short : d.intsShort 13 = true
  show_ : d.showable = true
  wt : d.weight ≤ wt
  dp : d.depth ≤ dp
structure SmA (n wt dp : Nat) (ds : List PyData) : Prop where
  len : ds.length ≤ n
  lay : PyData.canLayAll0 ds = true
  short : PyData.intsShortAll 13 ds = true
  show_ : PyData.showableAll ds = true
  wt : PyData.weightAll ds ≤ ds.length * (wt + 1)
  dp : PyData.depthAll ds ≤ dp
theorem SmA.nil {n wt dp : Nat} : SmA n wt dp [] := ⟨Nat.zero_le _, rfl, rfl, rfl, by simp [PyData.weightAll], Nat.zero_le _⟩
theorem SmA.cons {n wt dp : Nat} {d : PyData} {ds : List PyData} (a : Sm wt dp d) (b : SmA n wt dp ds) : SmA (n + 1) wt dp (d :: ds) where
  len := Nat.succ_le_succ b.len
  lay := by show (d.canLay0 && _) = true; rw [a.lay, b.lay]; rfl
  short := by show (d.intsShort 13 && _) = true; rw [a.short, b.short]; rfl
  show_ := by show (d.showable && _) = true; rw [a.show_, b.show_]; rfl
  wt := by
    have h1 := a.wt
    have h2 := b.wt
    show d.weight + 1 + PyData.weightAll ds ≤ (ds.length + 1) * (wt + 1)
    rw [Nat.succ_mul]
    omega
  dp := Nat.max_le.mpr ⟨a.dp, b.dp⟩
theorem SmA.all {wt dp : Nat} : ∀ {ds : List PyData}, (∀ d ∈ ds, Sm wt dp d) → SmA ds.length wt dp ds
  | [], _ => .nil
  | d :: ds, h => .cons (h d List.mem_cons_self) (SmA.all fun x hx => h x (List.mem_cons_of_mem _ hx))
theorem Sm.up {w1 w2 k1 k2 : Nat} {d : PyData} (a : Sm w1 k1 d) (h : w1 ≤ w2) (hk : k1 ≤ k2) : Sm w2 k2 d :=
  ⟨a.lay, a.short, a.show_, Nat.le_trans a.wt h, Nat.le_trans a.dp hk⟩
theorem SmA.len_le {n wt dp : Nat} {ds : List PyData} (b : SmA n wt dp ds) : PyData.weightAll ds ≤ n * (wt + 1) :=
  Nat.le_trans b.wt (Nat.mul_le_mul_right _ b.len)
theorem SmA.tup {n wt dp : Nat} {ds : List PyData} (b : SmA n wt dp ds) : Sm (n * (wt + 1)) (dp + 1) (.tuple ds) :=
  ⟨b.lay, b.short, b.show_, b.len_le, Nat.succ_le_succ b.dp⟩
theorem SmA.lst {n wt dp : Nat} {ds : List PyData} (b : SmA n wt dp ds) : Sm (n * (wt + 1)) (dp + 1) (.list ds) :=
  ⟨b.lay, b.short, b.show_, b.len_le, Nat.succ_le_succ b.dp⟩
theorem log2_lt_of {n : Nat} (h : n < 4096) : n.log2 ≤ 11 := by
  by_cases h0 : n = 0
  · subst h0; decide
  · have := (Nat.log2_lt h0 (k := 12)).mpr (by omega)
    omega
theorem Sm.int {i : Int} (h0 : 0 ≤ i) (h : i < 4096) : Sm 13 0 (.int i) where
  lay := rfl
  short := by
    refine decide_eq_true ?_
    have e := int_text_length_le (a := i) (k := 12) (by decide) (by have := log2_lt_of (n := i.natAbs) (by omega); omega)
    show (Str.ofString (toString i)).length ≤ 13
    rw [PySem.ofString_length]
    omega
  show_ := decide_eq_true (by have := log2_lt_of (n := i.natAbs) (by omega); omega)
  wt := by
    have := log2_lt_of (n := i.natAbs) (by omega)
    show (if i == 0 then 0 else i.natAbs.log2 + 1) ≤ 13
    split
    · omega
    · omega
  dp := Nat.le_refl _
theorem Sm.size {wt dp : Nat} {d : PyData} (a : Sm wt dp d) (h : wt ≤ 1048576) : d.shown.length ≤ sizeLine := by
  have h2 := PyData.shown_le 13 (by decide) d (PyData.leavesShort_of_canLay0 13 d a.lay a.short)
  have h3 := a.wt
  rw [sizeLine_eq]
  omega
theorem Sm.shaped {wt dp : Nat} {d : PyData} (a : Sm wt dp d) (h : dp ≤ 64) : SeqAt.shaped d = true := by
  show (d.canLay0 && decide (d.depth ≤ 64)) = true
  rw [a.lay, decide_eq_true (Nat.le_trans a.dp h)]
  rfl

/-- repr of a list or tuple of data: its text -/
theorem call_reprD {X : Cx} (hg : X.A.guards = some []) (hu : X.A.units + 66 < cLine) : CallR X (.builtin "repr") (fun xs H Q =>
    ∃ a d wt, xs = [.ref a] ∧ Dp X.K H (.ref a) d ∧ Sm wt 64 d ∧ wt ≤ 1048576 ∧ Q (.str d.shown) H) := by
  intro pins s σ H xs us Q I r h
  obtain ⟨a, d, wt, rfl, hd, sm, hw, q⟩ := h
  obtain ⟨u, rfl, ru⟩ := vals1 r
  cases ru
  obtain ⟨as, rd⟩ := Dp.reads I d _ _ hd rfl
  have hdp := sm.dp
  exact repr_of_reads' rd sm.show_ (PyData.noDict_hsm (dp_nodict d _ hd)) hg (by omega) (fun _ _ e => e)
    (fun h' u tk hk => ⟨.str d.shown, H, I.kept hk, ⟨_, rfl⟩, q⟩) (sm.size hw)
end DD
namespace DD
open PySem PySem.Spec PyProof.Rows L2

/-! ### the end of a law whose def keeps its promise where no repr is under way -/
section
variable {P : Program} {w : World} {K : PySem.W.Frag} {mg mb : Str → Option Value} {k : Nat} {fa a : Addr} {fd : FuncData} {x : Str} {sp : Sp}
  {s1 : Shared} {vs : List Value} {ns : List Int}
theorem law_goG (kin : K.In s1.heap) (nsG : s1.heap.Ns mainGlobals mg) (nsB : s1.heap.Ns builtinsNs mb)
    (blt : ∀ x : Str, x ≠ "__name__" → mb x = bootBuiltins x) (nolim : s1.heap.NoLimit) (ng : s1.gens = #[])
    (oa : s1.heap.get? a = some { cls := .type "list", data := .seq vs.toArray }) (ia : IntsAre vs ns) (len : ns.length ≤ sizeLine)
    (room : Room k callerA) (F : ∀ base : Heap, K.In base → base.Ns mainGlobals mg → FnG P w K mg base k fa fd [x] sp)
    (bind : ∀ (s : Shared) (u : Value), BindsTo s fd ⟨[u], []⟩ [(x, u)])
    (wish : ∀ H : Hp, Only H → SqL K H a (ns.map V.int) → sp [.ref a] H (fun v _ => v = .bl true) fun _ _ _ => False) :
    codeAny (model P w) callerA (.call (.ref fa) ⟨[.ref a], []⟩)
      (fun r s' => r = .ok (.ret (.bool true)) ∧ OldK s1.heap s'.heap ∧ s'.os = s1.os ∧ AllBare s'.gens) s1 := by
  have rv := vals_ints ia
  have lv := ia.length
  -- the run, from an abstract heap that tracks at most the script
  have main : ∀ H : Hp, Only H → SqL K H a (ns.map V.int) → HOk P w H s1.heap → (∀ b, H b ≠ none → b = a) → (H a ≠ none → K.lookup a = none) →
      codeAny (model P w) callerA (.call (.ref fa) ⟨[.ref a], []⟩)
        (fun r s' => r = .ok (.ret (.bool true)) ∧ OldK s1.heap s'.heap ∧ s'.os = s1.os ∧ AllBare s'.gens) s1 := by
    intro H onl hS ok only noK
    have free : ∀ {b : Addr} {o : Obj} {es : Array DictEntry} {ep : Nat}, s1.heap.get? b = some o → o.data = .dict es ep → H b = none := by
      intro b o es ep e d
      cases q : H b with
      | none => rfl
      | some u =>
        obtain rfl := only b (by rw [q]; simp)
        rw [oa] at e
        cases e
        exact nomatch (show Data.seq vs.toArray _ = Data.dict es ep from d)
    have nsOf : ∀ {b : Addr} {m : Str → Option Value}, s1.heap.Ns b m → (hidT s1.heap H).Ns b m := by
      rintro b m ⟨o, es, ep, e, d, r⟩
      exact ⟨o, es, ep, hidT_get e (free e d), d, r⟩
    have kin0 : K.In (hidT s1.heap H) := fun b o e => hidT_get (kin b o e) (by
      cases q : H b with
      | none => rfl
      | some u =>
        obtain rfl := only b (by rw [q]; simp)
        rw [noK (by rw [q]; simp)] at e
        cases e)
    obtain ⟨mc, c1, c2⟩ := nolim
    have md : Mod K mg (hidT s1.heap H) := ⟨kin0, nsOf nsG, ⟨mb, nsOf nsB, blt⟩, mc, nsOf c1, c2⟩
    have e0 : Env0 P w K mg (hidT s1.heap H) callerA [] s1 H :=
      ⟨rfl, md, fun b o e => of_hidT e, Nat.le_of_eq (hidT_size _ _), trivial, fun b z => (nomatch (show b ∈ ([] : List Addr) from z)), ok, .of_eq ng⟩
    have ran := (F _ kin0 (nsOf nsG)).go callerA rfl room [] s1 H ⟨[.ref a], []⟩ [.ref a] [.ref a] _ _ e0 (bind s1 (.ref a)) (.cons rfl .nil) (wish H onl hS)
    refine codeAny_mono ran fun r s' h => ?_
    match r, h with
    | .ok (.ret u), h =>
      obtain ⟨v, H', eos, br, un, ok', r', q⟩ := h
      obtain rfl : v = .bl true := q
      obtain rfl : u = Value.bool true := r'
      refine ⟨rfl, OldK.of_keep fun b o e => ?_, eos, br⟩
      cases q : H b with
      | none => exact un.keep b o e q (fun z => nomatch (show b ∈ ([] : List Addr) from z)) (by simp)
      | some u =>
        rcases onl b with z | ⟨ob, xs, z⟩
        · rw [q] at z
          cases z
        · have e1 := (ok b _ z).1
          rw [e] at e1
          cases e1
          exact (ok' b _ (un.frzs b _ _ z)).1
  cases hk : K.lookup a with
  | some o =>
    -- the script is one of the module's own objects
    have e := kin a o hk
    rw [oa] at e
    cases e
    have hsz : vs.toArray.size ≤ sizeLine := by
      rw [List.size_toArray, lv]
      exact len
    exact main (fun _ => none) (fun _ => .inl rfl) (.inr ⟨_, vs.toArray, _, hk, rfl, rfl, rfl, hsz, by simpa using rv⟩)
      (fun b u z => nomatch (show (none : Option HO) = some u from z)) (fun b z => absurd rfl z) fun z => absurd rfl z
  | none =>
    let fr : HO := .frz { cls := .type "list", data := .seq vs.toArray } (.lst (ns.map V.int))
    have at_ : (fun b => if b = a then some fr else none : Hp) a = some fr := if_pos rfl
    have else_ : ∀ b, b ≠ a → (fun b => if b = a then some fr else none : Hp) b = none := fun b hb => if_neg hb
    refine main (fun b => if b = a then some fr else none) (fun b => ?_) (.inl (.inr ⟨_, at_⟩)) (fun b u z => ?_) (fun b z => ?_) fun _ => hk
    · by_cases hb : b = a
      · exact .inr ⟨_, _, if_pos hb⟩
      · exact .inl (else_ b hb)
    · by_cases hb : b = a
      · subst hb
        cases at_.symm.trans z
        exact ⟨oa, by rw [List.length_map]; exact len, vs, _, rv, oa⟩
      · exact nomatch (else_ b hb).symm.trans z
    · by_cases hb : b = a
      · exact hb
      · exact absurd (else_ b hb) z
end

theorem walk_ofG {l : PySem.W.OpenLaw} {n k : Nat} {q : Program} {loose : List Str} {XP : (Str → Option Value) → Heap → Prop} {YP : World → Heap → Prop}
    {d : DefRec} {K : Params → PySem.W.Frag} {sp : World → Sp} {x : Str} (most : l.most = some n) (n_le : n ≤ sizeLine) (nodef : d.params.defaults = [])
    (room : Room k callerA) (kin : ∀ (w : World) (h : Heap), YP w h → (K w.params).In h)
    (F : ∀ (w : World) (mg : Str → Option Value) (fa : Addr) (h : Heap), (K w.params).In h → h.Ns mainGlobals mg → mg d.name = some (.ref fa) →
      ∃ fd : FuncData, (∀ (s : Shared) (u : Value), BindsTo s fd ⟨[u], []⟩ [(x, u)]) ∧
        ∀ base : Heap, (K w.params).In base → base.Ns mainGlobals mg → FnG l.prog w (K w.params) mg base k fa fd [x] (sp w))
    (wish : ∀ (w : World) (H : Hp) (a : Addr) (ns : List Int), ns.length ≤ n → Only H → SqL (K w.params) H a (ns.map V.int) →
      sp w [.ref a] H (fun v _ => v = .bl true) fun _ _ _ => False) :
    PySem.W.WalkO q loose XP YP l.row.toRowW d [] (fun f vs => PySem.call f vs) := by
  refine Att.attach_call most nodef fun w s0 s1 mg mb fa o pm cd doc a vs ns G Y ho hd hcd hmg hobj hints hlen hg => ?_
  obtain ⟨fd, hb, hF⟩ := F w mg fa _ (kin w _ Y) G.T.g hmg
  exact law_goG (kin w _ Y) G.T.g G.T.b G.T.builtins G.T.nolimit hg hobj hints (Nat.le_trans hlen n_le) room hF hb
    fun H hO hS => wish w H a ns hlen hO hS
end DD
namespace DD
open PySem PySem.Spec PyProof.Rows L2
section
variable {M : Model} {A : Around} {E : Value → Shared → Prop}
theorem wp_forIn {α β : Type} (f : α → β → Sem (ForInStep β)) : ∀ (l : List α) (J : Nat → β → Shared → Prop),
    (∀ j x b s, l[j]? = some x → J j b s → wpAny M A (f x b) (fun r s' => ∃ b', r = .yield b' ∧ J (j + 1) b' s') E s) →
    ∀ (b : β) (s : Shared), J 0 b s → wpAny M A (forIn l b f) (fun b' s' => J l.length b' s') E s
  | [], J, step, b, s, h => by
    rw [List.forIn_nil]
    exact wpAny_pure h
  | x :: l, J, step, b, s, h => by
    rw [List.forIn_cons]
    refine wpAny_bind (wpAny_mono (step 0 x b s rfl h) (fun r s' hr => ?_) (fun _ _ e => e))
    obtain ⟨b', rfl, hJ⟩ := hr
    exact wp_forIn f l (fun j => J (j + 1)) (fun j y c s'' e hj => step (j + 1) y c s'' e hj) b' s' hJ
end

abbrev zObj (f0 f1 : Value) (TI TO : Addr) : Obj :=
  { cls := .type "zip", dict := none, data := .fields #[f0, f1, .bool false, .ref TI, .ref TO], slots := #[] }
abbrev tObj (vs : Array Value) : Obj := { cls := .type "tuple", data := .seq vs }
structure ZApart (z TI TO : Addr) (ps : List (Addr × Addr)) : Prop where
  tz : TI ≠ z
  oz : TO ≠ z
  it : TI ≠ TO
  nd : (ps.map (·.1)).Nodup
  pz : ∀ p ∈ ps, p.1 ≠ z ∧ p.1 ≠ TI ∧ p.1 ≠ TO ∧ p.2 ≠ z ∧ p.2 ≠ TO
  px : ∀ p ∈ ps, ∀ q ∈ ps, p.2 ≠ q.1
structure ZSt (h : Heap) (z TI TO : Addr) (ps : List (Addr × Addr)) (k : Nat) : Prop where
  zz : ∃ f0 f1, h.get? z = some (zObj f0 f1 TI TO) ∧ (f0 = .none ∨ ∃ a t, f0 = .int a t)
  ti : h.get? TI = some (tObj (ps.map fun p => Value.ref p.1).toArray)
  to : ∃ arr : Array Value, arr.size = ps.length ∧ h.get? TO = some (tObj arr)
  its : ∀ p ∈ ps, h.IsTupleIter p.1 p.2 k


/-- the objects but z, TO and the iterators stand; the first j iterators have turned -/
structure ZMid (g h : Heap) (z TO : Addr) (ps : List (Addr × Addr)) (k j : Nat) : Prop where
  size : h.objs.size = g.objs.size
  keep : ∀ c o, c ≠ z → c ≠ TO → (∀ p ∈ ps, c ≠ p.1) → g.get? c = some o → h.get? c = some o
  its : ∀ (i : Nat) (p : Addr × Addr), ps[i]? = some p → h.IsTupleIter p.1 p.2 (if i < j then k + 1 else k)

section
variable {prog : Program} {w : World} {A : Around} {E : Value → Shared → Prop} {s : Shared} {z TI TO : Addr} {ps : List (Addr × Addr)} {k : Nat}
theorem wp_alive {M : Model} {a : Addr} {Q : Option Obj → Shared → Prop} (h : Q (s.heap.get? a) s) : wpAny M A (loadIfAlive a) Q E s := fun _ _ _ => h
theorem ptr_ne {ps : List (Addr × Addr)} (nd : (ps.map (·.1)).Nodup) {i j : Nat} {p q : Addr × Addr} (hp : ps[i]? = some p) (hq : ps[j]? = some q) (h : i ≠ j) : p.1 ≠ q.1 := by
  intro e
  have e1 : (ps.map (·.1))[i]? = some p.1 := by rw [List.getElem?_map, hp] <;> rfl
  have e2 : (ps.map (·.1))[j]? = some p.1 := by rw [List.getElem?_map, hq, e] <;> rfl
  obtain ⟨l1, g1⟩ := List.getElem?_eq_some_iff.mp e1
  obtain ⟨l2, g2⟩ := List.getElem?_eq_some_iff.mp e2
  exact h ((List.getElem_inj nd).mp (g1.trans g2.symm))
theorem free_or {f0 f1 : Value} (hz : s.heap.get? z = some (zObj f0 f1 TI TO)) (hf0 : f0 = .none ∨ ∃ a t, f0 = .int a t) :
    wpAny (model prog w) A (Builtin.SmallTypes.ownedTupleIsFree (.ref z)) (fun b s' => (b = true ∧ s' = s) ∨
      (b = false ∧ ∃ h' f2, s' = { s with heap := h' } ∧ h'.get? z = some (zObj f0 f2 TI TO) ∧ Heap.SameBut z s.heap h')) E s := by
  unfold Builtin.SmallTypes.ownedTupleIsFree
  refine wpAny_bind (wpAny_field hz rfl (x := f0) rfl ?_)
  rcases hf0 with rfl | ⟨a, t, rfl⟩
  · exact wpAny_pure (.inl ⟨rfl, rfl⟩)
  · refine wpAny_bind (wp_alive ?_)
    cases ha : s.heap.get? a.toNat with
    | none => exact wpAny_pure (.inl ⟨rfl, rfl⟩)
    | some o =>
      simp only [Option.isNone_some, Bool.false_eq_true, if_false]
      refine wpAny_bind (wpAny_field hz rfl (x := f1) rfl ?_)
      by_cases hb : (f1 != Value.bool true) = true
      · rw [if_pos hb]
        refine wpAny_bind (wpAny_setField_rec hz (by simp) fun h1 hz1 hs1 => wpAny_pure (.inr ⟨rfl, h1, .bool true, rfl, hz1, hs1⟩))
      · rw [if_neg hb]
        exact wpAny_pure (.inr ⟨rfl, s.heap, f1, rfl, hz, Heap.SameBut.refl _ _⟩)
/-- one iterator's turn -/
theorem draw_one {g h : Heap} {j : Nat} {p : Addr × Addr} {xs : Array Value} {v : Value} {Q : Value → Shared → Prop} (D : ZApart z TI TO ps) (m : ZMid g h z TO ps k j)
    (hp : ps[j]? = some p) (hl : g.IsTuple p.2 xs) (hx : xs[k]? = some v)
    (hQ : ∀ h', ZMid g h' z TO ps k (j + 1) → Heap.SameBut p.1 h h' → Q v { s with heap := h' }) :
    wpAny (model prog w) A (Builtin.SmallTypes.nextOf (.ref p.1)) Q E { s with heap := h } := by
  have hm : p ∈ ps := List.mem_of_getElem? hp
  have h1 : h.IsTupleIter p.1 p.2 k := by
    have := m.its j p hp
    rwa [if_neg (Nat.lt_irrefl j)] at this
  have h2 : h.IsTuple p.2 xs := by
    obtain ⟨o, e, c⟩ := hl
    exact ⟨o, m.keep _ _ (D.pz p hm).2.2.2.1 (D.pz p hm).2.2.2.2 (fun q hq => D.px p hm q hq) e, c⟩
  refine RZ.nextOf_tuple_item (s := { s with heap := h }) h1 h2 hx fun h' hi hs => hQ h' ⟨hs.1.trans m.size, fun c o c1 c2 c3 e => ?_, fun i q hq => ?_⟩ hs
  · rw [hs.2 c (c3 p hm)]
    exact m.keep c o c1 c2 c3 e
  · by_cases hij : i = j
    · subst hij
      rw [hp] at hq
      cases hq
      rw [if_pos (Nat.lt_succ_self _)]
      exact hi
    · have hqi := m.its i q hq
      have hne := ptr_ne D.nd hq hp hij
      rw [show (if i < j + 1 then k + 1 else k) = (if i < j then k + 1 else k) by
        by_cases hlt : i < j
        · rw [if_pos hlt, if_pos (by omega)]
        · rw [if_neg hlt, if_neg (by omega)]]
      obtain ⟨o, e, c⟩ := hqi
      exact ⟨o, (hs.2 _ hne).trans e, c⟩
theorem ZMid.full {g h : Heap} (m : ZMid g h z TO ps k ps.length) : ∀ p ∈ ps, h.IsTupleIter p.1 p.2 (k + 1) := fun p hp => by
  obtain ⟨i, hi⟩ := List.mem_iff_getElem?.mp hp
  obtain ⟨hl, _⟩ := List.getElem?_eq_some_iff.mp hi
  have := m.its i p hi
  rwa [if_pos hl] at this

theorem zn_item {vs : List Value} {Q : Value → Shared → Prop} (D : ZApart z TI TO ps) (hn : 1 ≤ ps.length) (hn2 : ps.length ≤ 1000) (S : ZSt s.heap z TI TO ps k)
    (hv : vs.length = ps.length) (hi : ∀ (j : Nat) (p : Addr × Addr), ps[j]? = some p → ∃ xs, s.heap.IsTuple p.2 xs ∧ xs[k]? = vs[j]?)
    (hQ : ∀ h', ZSt h' z TI TO ps (k + 1) → h'.get? s.heap.objs.size = some (tObj vs.toArray) → h'.objs.size = s.heap.objs.size + 1 →
      (∀ c o, c ≠ z → c ≠ TO → (∀ p ∈ ps, c ≠ p.1) → s.heap.get? c = some o → h'.get? c = some o) → Q (.ref s.heap.objs.size) { s with heap := h' }) :
    wpAny (model prog w) A (Builtin.«zip.__next__» ⟨[.ref z], []⟩) (fun fin s' => ∃ v, fin = .done (.ret v) ∧ Q v s') E s := by
  obtain ⟨⟨f0, f1, hz, hf0⟩, hTI, ⟨arr, ha, hTO⟩, hits⟩ := S
  show wpAny _ _ (field (.ref z) 2 >>= _) _ _ _
  refine wpAny_bind (wpAny_field hz rfl (x := .bool false) rfl ?_)
  show wpAny _ _ (field (.ref z) 3 >>= _) _ _ _
  refine wpAny_bind (wpAny_field hz rfl (x := .ref TI) rfl ?_)
  refine wpAny_bind (wpAny_seqItems hTI rfl ?_)
  have hne : (ps.map fun p => Value.ref p.1).toArray.isEmpty = false := by
    cases ps with
    | nil => simp at hn
    | cons p r => rfl
  simp only [hne, Bool.false_eq_true, if_false]
  have m0 : ∀ h, Heap.SameBut z s.heap h → ZMid s.heap h z TO ps k 0 := fun h hs =>
    ⟨hs.1, fun c o c1 _ _ e => (hs.2 c c1).trans e, fun i p hp => by
      rw [if_neg (Nat.not_lt_zero _)]
      have hm := List.mem_of_getElem? hp
      obtain ⟨o, e, c⟩ := hits p hm
      exact ⟨o, (hs.2 _ (D.pz p hm).1).trans e, c⟩⟩
  refine wpAny_bind (wpAny_mono (free_or hz hf0) (fun b s' hb => ?_) fun _ _ e => e)
  rcases hb with ⟨rfl, rfl⟩ | ⟨rfl, h1, f2, rfl, hz1, hs1⟩
  · simp only [if_true]
    refine wpAny_bind (wpAny_rule ?_)
    refine wpAny_bind (wpAny_field hz rfl (x := .ref TO) rfl ?_)
    refine wpAny_bind (wpAny_setField_rec hz (by simp) fun h1 hz1 hs1 => ?_)
    replace hz1 : h1.get? z = some (zObj .ellipsis f1 TI TO) := hz1
    have nTI : ∀ p ∈ ps, TI ≠ p.1 := fun p hp q => (D.pz p hp).2.1 q.symm
    refine wpAny_bind (thn (wp_forIn _ _ (fun j b s2 => b = (none, ()) ∧ ∃ (h : Heap) (a2 : Array Value), s2 = { s' with heap := h } ∧ ZMid s'.heap h z TO ps k j ∧
      h.get? z = some (zObj .ellipsis f1 TI TO) ∧ a2.size = ps.length ∧ (∀ i, i < j → a2[i]? = vs[i]?) ∧ h.get? TO = some (tObj a2)) ?step _ _ ?init) fun b s2 hb => ?last)
    case init => exact ⟨rfl, h1, arr, rfl, m0 h1 hs1, hz1, ha, fun i hi => absurd hi (Nat.not_lt_zero _), (hs1.2 _ D.oz).trans hTO⟩
    case step =>
      rintro j x b s2 hx ⟨rfl, h, a2, rfl, m, hz2, hs2, pre, hTO2⟩
      rw [List.getElem?_zipIdx, List.getElem?_map] at hx
      cases hp : ps[j]? with
      | none =>
        rw [hp] at hx
        cases hx
      | some p =>
        rw [hp] at hx
        obtain rfl : (Value.ref p.1, 0 + j) = x := Option.some.inj hx
        obtain ⟨xs, hl, hxk⟩ := hi j p hp
        have hm : p ∈ ps := List.mem_of_getElem? hp
        have hj : j < ps.length := (List.getElem?_eq_some_iff.mp hp).1
        have hjv : vs[j]? = some (vs[j]'(by omega)) := List.getElem?_eq_getElem (by omega)
        refine wpAny_bind (wpAny_onRaise ?_)
        show wpAny _ _ (Builtin.SmallTypes.nextOf (.ref p.1) >>= _) _ _ _
        refine wpAny_bind (draw_one D m hp hl (hxk.trans hjv) fun h' m' hs' => wpAny_pure ?_)
        have hTO' : h'.get? TO = some (tObj a2) := (hs'.2 _ (D.pz p hm).2.2.1.symm).trans hTO2
        refine wpAny_bind (wpAny_seqItems hTO' rfl ?_)
        have hb1 : a2.size ≤ sizeLine := by rw [hs2, sizeLine_eq]; omega
        refine wpAny_bind (wpAny_updateSeq hTO' rfl ?_ hb1 (by rw [Array.size_setIfInBounds, hs2, sizeLine_eq]; omega))
        have sb := Heap.SameBut.update h' TO (Obj.mapSeq fun x => x.setIfInBounds (0 + j) (vs[j]'(by omega)))
        refine wpAny_bind (wpAny_letGo (wpAny_pure ⟨_, rfl, rfl, _, a2.setIfInBounds j (vs[j]'(by omega)), rfl, ⟨sb.1.trans m'.size, fun c o c1 c2 c3 e => (sb.2 c c2).trans (m'.keep c o c1 c2 c3 e), fun i q hq => ?_⟩, ?_, ?_, fun i hij => ?_, ?_⟩))
        · obtain ⟨o, e, c⟩ := m'.its i q hq
          exact ⟨o, (sb.2 _ (D.pz q (List.mem_of_getElem? hq)).2.2.1).trans e, c⟩
        · rw [sb.2 z D.oz.symm, hs'.2 z (D.pz p hm).1.symm]
          exact hz2
        · rw [Array.size_setIfInBounds]
          exact hs2
        · rw [Array.getElem?_setIfInBounds]
          by_cases e : j = i
          · subst e
            rw [if_pos rfl, if_pos (by omega)]
            exact hjv.symm
          · rw [if_neg e]
            exact pre i (by omega)
        · rw [Heap.get?_update_self _ hTO' rfl, Nat.zero_add]
          simp [Obj.mapSeq]
    case last =>
      obtain ⟨rfl, h, a2, rfl, m, hz2, hs2, pre, hTO2⟩ := hb
      rw [List.length_zipIdx, List.length_map] at m pre
      have ea : a2 = vs.toArray := by
        refine Array.ext_getElem? fun i => ?_
        by_cases hlt : i < ps.length
        · rw [pre i hlt, List.getElem?_toArray]
        · rw [Array.getElem?_eq_none (by omega), List.getElem?_toArray, List.getElem?_eq_none (by omega)]
      subst ea
      show wpAny _ _ (seqItems? (.ref TO) >>= _) _ _ _
      refine wpAny_bind (wpAny_seqItems hTO2 rfl ?_)
      refine wpAny_bind (wpAny_newTuple ?_ (by show vs.length ≤ _; rw [sizeLine_eq]; omega))
      show wpAny _ _ (Builtin.SmallTypes.ownedTupleHandOut (.ref z) (.ref h.objs.size) >>= _) _ _ _
      refine wpAny_bind ?_
      unfold Builtin.SmallTypes.ownedTupleHandOut
      have hzp : (h.push (tObj vs.toArray)).get? z = some (zObj .ellipsis f1 TI TO) := Heap.get?_push_of_some _ hz2
      refine wpAny_bind (wpAny_setField_rec hzp (by simp) fun h3 hz3 hs3 => ?_)
      replace hz3 : h3.get? z = some (zObj (rawInt h.objs.size) f1 TI TO) := hz3
      refine wpAny_setField_rec hz3 (by simp) fun h4 hz4 hs4 => ?_
      replace hz4 : h4.get? z = some (zObj (rawInt h.objs.size) (.bool false) TI TO) := hz4
      have hzlt : z < h.objs.size := Heap.lt_size hz2
      have up : ∀ c o, c ≠ z → h.get? c = some o → h4.get? c = some o := fun c o c1 e =>
        (hs4.2 c c1).trans ((hs3.2 c c1).trans (Heap.get?_push_of_some _ e))
      refine wpAny_pure ⟨_, rfl, ?_⟩
      show Q (.ref h.objs.size) _
      have key := hQ h4 ⟨⟨_, _, hz4, .inr ⟨_, _, rfl⟩⟩, up _ _ D.tz (m.keep TI _ D.tz D.it nTI hTI), ⟨_, hs2, up _ _ D.oz hTO2⟩, fun p hp => ?_⟩ ?_ ?_ fun c o c1 c2 c3 e => up c o c1 (m.keep c o c1 c2 c3 e)
      · rw [m.size]
        exact key
      · obtain ⟨o, e, c⟩ := m.full p hp
        exact ⟨o, up _ _ (D.pz p hp).1 e, c⟩
      · rw [← m.size, hs4.2 _ (Nat.ne_of_gt hzlt), hs3.2 _ (Nat.ne_of_gt hzlt)]
        exact Heap.get?_push_size _ rfl
      · rw [hs4.1, hs3.1, Heap.size_push, m.size]
  · simp only [Bool.false_eq_true, if_false, List.forIn_toArray]
    have nTI : ∀ p ∈ ps, TI ≠ p.1 := fun p hp q => (D.pz p hp).2.1 q.symm
    refine wpAny_bind (thn (wp_forIn _ _ (fun j b s2 => b = (none, (vs.take j).toArray) ∧ ∃ (h : Heap), s2 = { s with heap := h } ∧ ZMid s.heap h z TO ps k j ∧
      h.get? z = some (zObj f0 f2 TI TO) ∧ h.get? TO = some (tObj arr)) ?step _ _ ?init) fun b s2 hb => ?last)
    case init => exact ⟨rfl, h1, rfl, m0 h1 hs1, hz1, (hs1.2 _ D.oz).trans hTO⟩
    case step =>
      rintro j x b s2 hx ⟨rfl, h, rfl, m, hz2, hTO2⟩
      rw [List.getElem?_map] at hx
      cases hp : ps[j]? with
      | none =>
        rw [hp] at hx
        cases hx
      | some p =>
        rw [hp] at hx
        obtain rfl : Value.ref p.1 = x := Option.some.inj hx
        obtain ⟨xs, hl, hxk⟩ := hi j p hp
        have hm : p ∈ ps := List.mem_of_getElem? hp
        have hj : j < ps.length := (List.getElem?_eq_some_iff.mp hp).1
        have hjv : vs[j]? = some (vs[j]'(by omega)) := List.getElem?_eq_getElem (by omega)
        refine wpAny_bind (wpAny_holding ?_)
        show wpAny _ _ (Builtin.SmallTypes.nextOf (.ref p.1) >>= _) _ _ _
        refine wpAny_bind (draw_one D m hp hl (hxk.trans hjv) fun h' m' hs' => wpAny_pure (wpAny_pure ⟨_, rfl, ?_, h', rfl, m', ?_, ?_⟩))
        · rw [List.take_add_one, hjv]
          simp
        · exact (hs'.2 z (D.pz p hm).1.symm).trans hz2
        · exact (hs'.2 _ (D.pz p hm).2.2.1.symm).trans hTO2
    case last =>
      obtain ⟨rfl, h, rfl, m, hz2, hTO2⟩ := hb
      rw [List.length_map] at m
      rw [List.length_map, List.take_of_length_le (by omega)]
      have hsz : vs.length ≤ sizeLine := by rw [sizeLine_eq]; omega
      show wpAny _ _ (newTuple vs.toArray.toList >>= _) _ _ _
      refine wpAny_bind (wpAny_newTuple ?_ (by simpa using hsz))
      refine wpAny_pure ⟨_, rfl, ?_⟩
      have up : ∀ c o, h.get? c = some o → (h.push (tObj vs.toArray)).get? c = some o := fun c o e => Heap.get?_push_of_some _ e
      have key := hQ (h.push (tObj vs.toArray)) ⟨⟨_, _, up _ _ hz2, hf0⟩, up _ _ (m.keep TI _ D.tz D.it nTI hTI), ⟨_, ha, up _ _ hTO2⟩, fun p hp => ?_⟩ ?_ ?_ fun c o c1 c2 c3 e => up c o (m.keep c o c1 c2 c3 e)
      · show Q (.ref h.objs.size) _
        rw [m.size]
        exact key
      · obtain ⟨o, e, c⟩ := m.full p hp
        exact ⟨o, up _ _ e, c⟩
      · rw [← m.size]
        exact Heap.get?_push_size _ rfl
      · rw [Heap.size_push, m.size]
end
end DD
namespace DD
open PySem PySem.Spec PyProof.Rows L2
section
variable {prog : Program} {w : World} {A : Around} {E : Value → Shared → Prop} {s : Shared} {z TI TO : Addr} {ps : List (Addr × Addr)} {k : Nat}
theorem zn_end {Q : Fin → Shared → Prop} (hh : A.handled = none) (D : ZApart z TI TO ps) (S : ZSt s.heap z TI TO ps k) {p : Addr × Addr} {r : List (Addr × Addr)} {xs : Array Value}
    (hps : ps = p :: r) (hl : s.heap.IsTuple p.2 xs) (hx : xs[k]? = none)
    (hE : ∀ h' e, (∀ c o, c ≠ z → c ≠ TO → (∀ p ∈ ps, c ≠ p.1) → s.heap.get? c = some o → h'.get? c = some o) →
      (∃ o, h'.get? e = some o ∧ o.cls = .type "StopIteration") → E (.ref e) { s with heap := h' }) :
    wpAny (model prog w) A (Builtin.«zip.__next__» ⟨[.ref z], []⟩) Q E s := by
  obtain ⟨⟨f0, f1, hz, hf0⟩, hTI, ⟨arr, ha, hTO⟩, hits⟩ := S
  have hm : p ∈ ps := by rw [hps]; exact List.mem_cons_self
  show wpAny _ _ (field (.ref z) 2 >>= _) _ _ _
  refine wpAny_bind (wpAny_field hz rfl (x := .bool false) rfl ?_)
  show wpAny _ _ (field (.ref z) 3 >>= _) _ _ _
  refine wpAny_bind (wpAny_field hz rfl (x := .ref TI) rfl ?_)
  refine wpAny_bind (wpAny_seqItems hTI rfl ?_)
  have hne : (ps.map fun p => Value.ref p.1).toArray.isEmpty = false := by
    rw [hps]
    rfl
  simp only [hne, Bool.false_eq_true, if_false]
  have it1 := hits p hm
  have kz : ∀ h1, Heap.SameBut z s.heap h1 → h1.IsTupleIter p.1 p.2 k ∧ h1.IsTuple p.2 xs := fun h1 hs1 =>
    ⟨by obtain ⟨o, e, c⟩ := it1; exact ⟨o, (hs1.2 _ (D.pz p hm).1).trans e, c⟩, by obtain ⟨o, e, c⟩ := hl; exact ⟨o, (hs1.2 _ (D.pz p hm).2.2.2.1).trans e, c⟩⟩
  refine wpAny_bind (wpAny_mono (free_or hz hf0) (fun b s' hb => ?_) fun _ _ e => e)
  rcases hb with ⟨rfl, rfl⟩ | ⟨rfl, h1, f2, rfl, hz1, hs1⟩
  · simp only [if_true]
    refine wpAny_bind (wpAny_rule ?_)
    refine wpAny_bind (wpAny_field hz rfl (x := .ref TO) rfl ?_)
    refine wpAny_bind (wpAny_setField_rec hz (by simp) fun h1 hz1 hs1 => ?_)
    replace hz1 : h1.get? z = some (zObj .ellipsis f1 TI TO) := hz1
    obtain ⟨q1, q2⟩ := kz h1 hs1
    refine wpAny_bind ?_
    simp only [hps, List.map_cons, List.zipIdx_cons, List.forIn_cons]
    refine wpAny_bind (wpAny_bind (wpAny_onRaise ?_))
    show wpAny _ _ (Builtin.SmallTypes.nextOf (.ref p.1) >>= _) _ _ _
    refine wpAny_bind (RZ.nextOf_tuple_end (s := { s' with heap := h1 }) hh q1 q2 hx fun h2 e hs2 he => ?_)
    obtain ⟨oe, hoe, hce⟩ := he
    have hz2 : h2.get? z = some (zObj .ellipsis f1 TI TO) := hs2 _ _ (D.pz p hm).1.symm hz1
    have hez : e ≠ z := fun x => by
      subst x
      rw [hz2] at hoe
      cases hoe
      simp at hce
    refine wpAny_setField_rec hz2 (by simp) fun h3 _ hs3 => hE h3 e (fun c o c1 _ c3 x => (hs3.2 _ c1).trans (hs2 _ _ (c3 p hm) ((hs1.2 _ c1).trans x))) ⟨oe, (hs3.2 _ hez).trans hoe, hce⟩
  · simp only [Bool.false_eq_true, if_false, List.forIn_toArray]
    obtain ⟨q1, q2⟩ := kz h1 hs1
    refine wpAny_bind ?_
    simp only [hps, List.map_cons, List.forIn_cons]
    refine wpAny_bind (wpAny_bind (wpAny_holding ?_))
    show wpAny _ _ (Builtin.SmallTypes.nextOf (.ref p.1) >>= _) _ _ _
    refine wpAny_bind (RZ.nextOf_tuple_end (s := { s with heap := h1 }) hh q1 q2 hx fun h2 e hs2 he => hE h2 e (fun c o c1 _ c3 x => hs2 _ _ (c3 p hm) ((hs1.2 _ c1).trans x)) he)

theorem pyNext_zn_item {vs : List Value} {Q : Option Value → Shared → Prop} (D : ZApart z TI TO ps) (hn : 1 ≤ ps.length) (hn2 : ps.length ≤ 1000) (S : ZSt s.heap z TI TO ps k)
    (hv : vs.length = ps.length) (hi : ∀ (j : Nat) (p : Addr × Addr), ps[j]? = some p → ∃ xs, s.heap.IsTuple p.2 xs ∧ xs[k]? = vs[j]?)
    (hQ : ∀ h', ZSt h' z TI TO ps (k + 1) → h'.get? s.heap.objs.size = some (tObj vs.toArray) → h'.objs.size = s.heap.objs.size + 1 →
      (∀ c o, c ≠ z → c ≠ TO → (∀ p ∈ ps, c ≠ p.1) → s.heap.get? c = some o → h'.get? c = some o) → Q (some (.ref s.heap.objs.size)) { s with heap := h' }) :
    wpAny (model prog w) A (pyNext (.ref z)) Q E s := by
  obtain ⟨f0, f1, hz, hf0⟩ := S.zz
  have hT : s.TypeIs (.ref z) "zip" := ⟨_, hz, rfl⟩
  unfold pyNext
  exact wpAny_bind (wpAny_attempt (wpAny_callSpecial?_slot (name := Str.ofString "__next__") hT F.slot_zip_next
    (wpAny_call_entry F.slot_zip_next hT F.entry_zip_next (zn_item D hn hn2 S hv hi fun h' a1 a2 a3 a4 => wpAny_pure (hQ h' a1 a2 a3 a4)) (F.args_zip_next_1 _))))
theorem pyNext_zn_end {Q : Option Value → Shared → Prop} (hh : A.handled = none) (D : ZApart z TI TO ps) (S : ZSt s.heap z TI TO ps k) {p : Addr × Addr} {r : List (Addr × Addr)} {xs : Array Value}
    (hps : ps = p :: r) (hl : s.heap.IsTuple p.2 xs) (hx : xs[k]? = none)
    (hQ : ∀ h', (∀ c o, c ≠ z → c ≠ TO → (∀ p ∈ ps, c ≠ p.1) → s.heap.get? c = some o → h'.get? c = some o) → Q none { s with heap := h' }) :
    wpAny (model prog w) A (pyNext (.ref z)) Q E s := by
  obtain ⟨f0, f1, hz, hf0⟩ := S.zz
  have hT : s.TypeIs (.ref z) "zip" := ⟨_, hz, rfl⟩
  unfold pyNext
  refine wpAny_bind (wpAny_attempt (wpAny_callSpecial?_slot (name := Str.ofString "__next__") hT F.slot_zip_next
    (wpAny_call_entry F.slot_zip_next hT F.entry_zip_next (zn_end hh D S hps hl hx fun h' e hk he => ?_) (F.args_zip_next_1 _))))
  obtain ⟨o, ho, hc⟩ := he
  exact wpAny_bind (wpAny_isInstance (T := "StopIteration") (b := true) ⟨o, ho, hc⟩ isSubtype_stop (wpAny_pure (hQ _ hk)))

/-! ### zip of one to four tuples made -/
theorem typeCall_zipN : ∀ vs : List Value, 1 ≤ vs.length → vs.length ≤ 4 → checkTypeCall "zip" ⟨vs, []⟩ = pure ()
  | [a], _, _ => by kernel_rfl
  | [a, b], _, _ => by kernel_rfl
  | [a, b, c], _, _ => by kernel_rfl
  | [a, b, c, d], _, _ => by kernel_rfl
  | [], h, _ => by simp at h
  | _ :: _ :: _ :: _ :: _ :: _, _, h => by simp at h
theorem newCall_zipN : ∀ vs : List Value, 1 ≤ vs.length → vs.length ≤ 4 → checkBuiltinCall "zip.__new__" ⟨.type "zip" :: vs, []⟩ = pure ()
  | [a], _, _ => by kernel_rfl
  | [a, b], _, _ => by kernel_rfl
  | [a, b, c], _, _ => by kernel_rfl
  | [a, b, c, d], _, _ => by kernel_rfl
  | [], h, _ => by simp at h
  | _ :: _ :: _ :: _ :: _ :: _, _, h => by simp at h
theorem args_object_initN (o : Value) : ∀ vs : List Value, 1 ≤ vs.length → vs.length ≤ 4 → argsOk "object.__init__" ⟨o :: vs, []⟩
  | [a], _, _ => by
    unfold argsOk
    rw [signature?_of (id := "object.__init__") (n := ['_', '_', 't', 'i', 'n', 'i', '_', '_']) (o := ['t', 'c', 'e', 'j', 'b', 'o']) (by kernel_rfl) F.owner_object]
    kernel_rfl
  | [a, b], _, _ => by
    unfold argsOk
    rw [signature?_of (id := "object.__init__") (n := ['_', '_', 't', 'i', 'n', 'i', '_', '_']) (o := ['t', 'c', 'e', 'j', 'b', 'o']) (by kernel_rfl) F.owner_object]
    kernel_rfl
  | [a, b, c], _, _ => by
    unfold argsOk
    rw [signature?_of (id := "object.__init__") (n := ['_', '_', 't', 'i', 'n', 'i', '_', '_']) (o := ['t', 'c', 'e', 'j', 'b', 'o']) (by kernel_rfl) F.owner_object]
    kernel_rfl
  | [a, b, c, d], _, _ => by
    unfold argsOk
    rw [signature?_of (id := "object.__init__") (n := ['_', '_', 't', 'i', 'n', 'i', '_', '_']) (o := ['t', 'c', 'e', 'j', 'b', 'o']) (by kernel_rfl) F.owner_object]
    kernel_rfl
  | [], h, _ => by simp at h
  | _ :: _ :: _ :: _ :: _ :: _, _, h => by simp at h

theorem iterAll_tups {ls : List Addr} {Q : List Value → Shared → Prop} (hl : ∀ l ∈ ls, ∃ xs, s.heap.IsTuple l xs)
    (hQ : ∀ h' its, its.length = ls.length → (∀ i, i < ls.length → its[i]? = some (.ref (s.heap.objs.size + i))) → h'.objs.size = s.heap.objs.size + ls.length →
      (∀ c o, s.heap.get? c = some o → h'.get? c = some o) → (∀ (i : Nat) (l : Addr), ls[i]? = some l → h'.IsTupleIter (s.heap.objs.size + i) l 0) → Q its { s with heap := h' }) :
    wpAny (model prog w) A (Builtin.SmallTypes.iterAll (ls.map Value.ref)) Q E s := by
  unfold Builtin.SmallTypes.iterAll
  refine wpAny_bind (thn (wp_forIn _ _ (fun j (b : Array Value) s2 => b.size = j ∧ (∀ i, i < j → b[i]? = some (.ref (s.heap.objs.size + i))) ∧ ∃ h, s2 = { s with heap := h } ∧ h.objs.size = s.heap.objs.size + j ∧
    (∀ c o, s.heap.get? c = some o → h.get? c = some o) ∧ ∀ (i : Nat) (l : Addr), i < j → ls[i]? = some l → h.IsTupleIter (s.heap.objs.size + i) l 0) ?step _ _ ?init) fun b s2 hb => ?last)
  case init => exact ⟨rfl, fun i hi => absurd hi (Nat.not_lt_zero _), s.heap, rfl, rfl, fun _ _ e => e, fun i _ hi => absurd hi (Nat.not_lt_zero _)⟩
  case step =>
    rintro j x b s2 hx ⟨hbs, hb, h, rfl, hsz, hk, hit⟩
    rw [List.getElem?_map] at hx
    cases hp : ls[j]? with
    | none =>
      rw [hp] at hx
      cases hx
    | some l =>
      rw [hp] at hx
      obtain rfl : Value.ref l = x := Option.some.inj hx
      obtain ⟨xs, ol, e, c⟩ := hl l (List.mem_of_getElem? hp)
      refine wpAny_bind (wpAny_holding (wpAny_pyIter_tuple (s := { s with heap := h }) ⟨ol, hk _ _ e, c⟩ ?_))
      refine wpAny_pure ⟨_, rfl, by rw [Array.size_push, hbs], fun i hij => ?_, _, rfl, by rw [Heap.size_push, hsz]; omega, fun c o e => Heap.get?_push_of_some _ (hk c o e), fun i l' hij hl' => ?_⟩
      · show (b.push (Value.ref h.objs.size))[i]? = _
        rw [Array.getElem?_push]
        by_cases e : i = b.size
        · rw [if_pos e, hsz, e, hbs]
        · rw [if_neg e]
          exact hb i (by omega)
      · by_cases e : i = j
        · subst e
          rw [hp] at hl'
          cases hl'
          refine ⟨{ cls := .type "tuple_iterator", data := .fields #[.ref l, .int 0 0] }, ?_, rfl, rfl⟩
          rw [← hsz]
          exact Heap.get?_push_size _ rfl
        · obtain ⟨o, e1, c⟩ := hit i l' (by omega) hl'
          exact ⟨o, Heap.get?_push_of_some _ e1, c⟩
  case last =>
    obtain ⟨hbs, hb, h, rfl, hsz, hk, hit⟩ := hb
    rw [List.length_map] at hbs hb hsz hit
    refine wpAny_pure (hQ h b.toList (by rw [Array.length_toList]; exact hbs) (fun i hi => by rw [Array.getElem?_toList]; exact hb i hi) hsz hk fun i l e => ?_)
    exact hit i l (List.getElem?_eq_some_iff.mp e).1 e

theorem zip_newN {ls : List Addr} {Q : Value → Shared → Prop} (h1 : 1 ≤ ls.length) (h2 : ls.length ≤ 4) (hl : ∀ l ∈ ls, ∃ xs, s.heap.IsTuple l xs)
    (hQ : ∀ h' n, n = s.heap.objs.size → ZSt h' (n + ls.length + 2) (n + ls.length) (n + ls.length + 1) (ls.zipIdx.map fun x => (n + x.2, x.1)) 0 → h'.objs.size = n + ls.length + 3 →
      (∀ c o, s.heap.get? c = some o → h'.get? c = some o) → Q (.ref (n + ls.length + 2)) { s with heap := h' }) :
    wpAny (model prog w) A (Builtin.«zip.__new__» ⟨.type "zip" :: ls.map Value.ref, []⟩) (fun fin s' => ∃ v, fin = .done (.ret v) ∧ Q v s') E s := by
  have hsub := sub_zip
  have hc : wpAny (model prog w) A (Builtin.SmallTypes.newClass "zip" ⟨.type "zip" :: ls.map Value.ref, []⟩) (fun r s' => r = (.type "zip", ls.map Value.ref) ∧ s' = s) E s := by
    unfold Builtin.SmallTypes.newClass
    wp_walk
    exact ⟨rfl, rfl⟩
  unfold Builtin.«zip.__new__»
  refine wpAny_bind (thn hc ?_)
  rintro _ _s ⟨rfl, rfl⟩
  show wpAny _ _ (Builtin.SmallTypes.iterAll (ls.map Value.ref) >>= _) _ _ _
  refine wpAny_bind (iterAll_tups hl fun h1' its hil hi hsz hk hit => ?_)
  have hsl : its.length ≤ sizeLine := by rw [hil, sizeLine_eq]; omega
  refine wpAny_bind (wpAny_newTuple ?_ hsl)
  refine wpAny_bind (wpAny_newTuple ?_ (by rw [List.length_map]; exact hsl))
  refine wpAny_bind ?_
  unfold Builtin.SmallTypes.newRecord
  refine wpAny_newObj_type ?_ (show (5 : Nat) ≤ sizeLine + 2 by rw [sizeLine_eq]; omega)
  refine wpAny_pure ⟨_, rfl, ?_⟩
  have z1 : (h1'.push (tObj its.toArray)).objs.size = h1'.objs.size + 1 := Heap.size_push ..
  have z2 : ((h1'.push (tObj its.toArray)).push (tObj (its.map fun _ => Value.none).toArray)).objs.size = h1'.objs.size + 2 := by rw [Heap.size_push, z1]
  have fin : Q (.ref ((h1'.push (tObj its.toArray)).push (tObj (its.map fun _ => Value.none).toArray)).objs.size)
      { _s with heap := ((h1'.push (tObj its.toArray)).push (tObj (its.map fun _ => Value.none).toArray)).push (zObj .none (.bool false) h1'.objs.size (h1'.push (tObj its.toArray)).objs.size) } := by
    rw [z2, z1, hsz]
    refine hQ _ _ rfl ⟨⟨.none, .bool false, ?_, .inl rfl⟩, ?_, ⟨(its.map fun _ => Value.none).toArray, ?_, ?_⟩, fun p hp => ?_⟩ ?_ fun c o e => Heap.get?_push_of_some _ (Heap.get?_push_of_some _ (Heap.get?_push_of_some _ (hk c o e)))
    · rw [← hsz, ← z2]
      exact Heap.get?_push_size _ rfl
    · have e : its = (ls.zipIdx.map fun x => (_s.heap.objs.size + x.2, x.1)).map fun p => Value.ref p.1 := by
        refine List.ext_getElem? fun i => ?_
        rw [List.map_map, List.getElem?_map, List.getElem?_zipIdx]
        by_cases hlt : i < ls.length
        · rw [hi i hlt, List.getElem?_eq_getElem hlt]
          simp
        · rw [List.getElem?_eq_none (by omega), List.getElem?_eq_none (by omega)]
          rfl
      rw [← e, ← hsz]
      exact Heap.get?_push_of_some _ (Heap.get?_push_of_some _ (Heap.get?_push_size _ rfl))
    · simp [hil]
    · rw [← hsz, ← z1]
      exact Heap.get?_push_of_some _ (Heap.get?_push_size _ rfl)
    · obtain ⟨x, hx, rfl⟩ := List.mem_map.mp hp
      obtain ⟨i, hxi⟩ := List.mem_iff_getElem?.mp hx
      rw [List.getElem?_zipIdx] at hxi
      cases hl' : ls[i]? with
      | none =>
        rw [hl'] at hxi
        cases hxi
      | some l =>
        rw [hl'] at hxi
        obtain rfl : (l, 0 + i) = x := Option.some.inj hxi
        obtain ⟨o, e, c⟩ := hit i l hl'
        refine ⟨o, ?_, c⟩
        show Heap.get? _ (_s.heap.objs.size + (0 + i)) = some o
        rw [Nat.zero_add]
        exact Heap.get?_push_of_some _ (Heap.get?_push_of_some _ (Heap.get?_push_of_some _ e))
    · rw [Heap.size_push, z2, hsz]
  exact fin
end
end DD
namespace DD
open PySem PySem.Spec PyProof.Rows L2

/-- the iterators that zip(*ls) makes at n -/
def zps (n : Nat) (ls : List Addr) : List (Addr × Addr) := ls.zipIdx.map fun x => (n + x.2, x.1)
theorem zps_length (n : Nat) (ls : List Addr) : (zps n ls).length = ls.length := by simp [zps]
theorem zps_get (n : Nat) (ls : List Addr) (j : Nat) : (zps n ls)[j]? = (ls[j]?).map fun a => (n + j, a) := by
  unfold zps
  rw [List.getElem?_map, List.getElem?_zipIdx]
  cases ls[j]? with
  | none => rfl
  | some a => simp
theorem zps_mem {n : Nat} {ls : List Addr} {p : Addr × Addr} (h : p ∈ zps n ls) : ∃ j, j < ls.length ∧ ls[j]? = some p.2 ∧ p.1 = n + j := by
  obtain ⟨j, hj⟩ := List.mem_iff_getElem?.mp h
  rw [zps_get] at hj
  cases e : ls[j]? with
  | none => rw [e] at hj; cases hj
  | some a =>
    rw [e] at hj
    obtain rfl : (n + j, a) = p := Option.some.inj hj
    exact ⟨j, (List.getElem?_eq_some_iff.mp e).1, e, rfl⟩
theorem nat5 {a b n j L : Nat} (h3 : b < n) (h4 : a = n + j) (hj : j < L) : a ≠ n + L + 2 ∧ a ≠ n + L ∧ a ≠ n + L + 1 ∧ b ≠ n + L + 2 ∧ b ≠ n + L + 1 := by omega
theorem nat6 {a b n i : Nat} (h3 : b < n) (h4 : a = n + i) : b ≠ a := by omega
theorem zapart {n : Nat} {ls : List Addr} (h : ∀ l ∈ ls, l < n) : ZApart (n + ls.length + 2) (n + ls.length) (n + ls.length + 1) (zps n ls) where
  tz := Nat.ne_of_lt (show (n : Nat) + ls.length < n + ls.length + 2 by omega)
  oz := Nat.ne_of_lt (show (n : Nat) + ls.length + 1 < n + ls.length + 2 by omega)
  it := Nat.ne_of_lt (show (n : Nat) + ls.length < n + ls.length + 1 by omega)
  nd := by
    have e : (zps n ls).map (·.1) = (List.range ls.length).map (n + ·) := by
      refine List.ext_getElem? fun i => ?_
      rw [List.getElem?_map, zps_get, List.getElem?_map]
      by_cases hi : i < ls.length
      · rw [List.getElem?_eq_getElem hi, List.getElem?_range hi]
        rfl
      · rw [List.getElem?_eq_none (by omega), List.getElem?_eq_none (by simp; omega)]
        rfl
    rw [e]
    exact List.Pairwise.map _ (fun a b h e => h (Nat.add_left_cancel e)) List.nodup_range
  pz := fun p hp => by
    obtain ⟨j, hj, e, ep⟩ := zps_mem hp
    exact nat5 (h p.2 (List.mem_of_getElem? e)) ep hj
  px := fun p hp q hq => by
    obtain ⟨j, hj, e, ep⟩ := zps_mem hp
    obtain ⟨i, hi, e2, ep2⟩ := zps_mem hq
    exact nat6 (h p.2 (List.mem_of_getElem? e)) ep2

section
variable {prog : Program} {w : World} {A : Around} {E : Value → Shared → Prop} {s : Shared}
theorem call_zipN {ls : List Addr} {Q : Value → Shared → Prop} (h1 : 1 ≤ ls.length) (h2 : ls.length ≤ 4) (hl : ∀ l ∈ ls, ∃ xs, s.heap.IsTuple l xs)
    (hQ : ∀ h' n, n = s.heap.objs.size → ZSt h' (n + ls.length + 2) (n + ls.length) (n + ls.length + 1) (zps n ls) 0 → h'.objs.size = n + ls.length + 3 →
      (∀ c o, s.heap.get? c = some o → h'.get? c = some o) → Q (.ref (n + ls.length + 2)) { s with heap := h' }) :
    wpAny (model prog w) A (call (.type "zip") (ls.map Value.ref)) Q E s := by
  have m : Meets (Builtin.«zip.__new__» ⟨.type "zip" :: ls.map Value.ref, []⟩) (fun _ R s => (∀ l ∈ ls, ∃ xs, s.heap.IsTuple l xs) ∧
      ∀ h' n, n = s.heap.objs.size → ZSt h' (n + ls.length + 2) (n + ls.length) (n + ls.length + 1) (zps n ls) 0 → h'.objs.size = n + ls.length + 3 →
        (∀ c o, s.heap.get? c = some o → h'.get? c = some o) → R (.ok (.ret (.ref (n + ls.length + 2)))) { s with heap := h' }) :=
    .of_wp fun prog w A R s h => zip_newN h1 h2 h.1 h.2
  refine callType_new F.called_zip (by decide) (typeCall_zipN _ (by simpa using h1) (by simpa using h2)) (newCall_zipN _ (by simpa using h1) (by simpa using h2))
    (fun obj => args_object_initN obj _ (by simpa using h1) (by simpa using h2)) F.entry_zip_new m ⟨hl, fun h' n e1 e2 e3 e4 => ?_⟩
  obtain ⟨f0, f1, hz, _⟩ := e2.zz
  exact ⟨⟨_, hz, rfl⟩, hQ h' n e1 e2 e3 e4⟩
theorem pyIter_zn {z TI TO : Addr} {ps : List (Addr × Addr)} {k : Nat} {Q : Value → Shared → Prop} (S : ZSt s.heap z TI TO ps k) (h : Q (.ref z) s) : wpAny (model prog w) A (pyIter (.ref z)) Q E s := by
  obtain ⟨f0, f1, hz, _⟩ := S.zz
  have hT : s.TypeIs (.ref z) "zip" := ⟨_, hz, rfl⟩
  refine wpAny_pyIter_slot hT F.slot_zip_iter (wpAny_call_entry F.slot_zip_iter hT F.entry_zip_iter ?_ (F.args_zip_iter_1 _))
  exact (show wpAny _ _ (ret (.ref z)) _ _ s from wpAny_pure ⟨_, rfl, "zip", _, hT, F.slot_zip_next.lookup, h⟩)
end

/-- the tuples at ls hold rows, all of length m -/
structure Rws (K : PySem.W.Frag) (H : Hp) (ls : List Addr) (rows : List (List V)) (m : Nat) : Prop where
  len : ls.length = rows.length
  at_ : ∀ (j : Nat) (a : Addr) (r : List V), ls[j]? = some a → rows[j]? = some r → SqT K H a r ∧ r.length = m
def colV (rows : List (List V)) (i : Nat) : List V := rows.map fun r => r.getD i .non
def ItzN (K : PySem.W.Frag) (ls : List Addr) (rows : List (List V)) (m : Nat) : It :=
  ⟨fun i H => i < m ∧ Rws K H ls rows m, fun i H v H' => ∃ T, v = .ref T ∧ H T = none ∧ H' = upd H T (.tup (colV rows i)), fun i H => i = m ∧ Rws K H ls rows m⟩

theorem Rws.vals {X : Cx} {pins : List (Addr × Obj)} {σ : L2.St} {H : Hp} {s : Shared} {m i : Nat} (I : Inv X pins σ H s) (hi : i < m) : ∀ {ls : List Addr} {rows : List (List V)}, Rws X.K H ls rows m →
    ∃ us : List Value, Vals (colV rows i) us ∧ ∀ (j : Nat) (a : Addr), ls[j]? = some a → ∃ xs, s.heap.IsTuple a xs ∧ xs[i]? = us[j]?
  | [], [], _ => ⟨[], .nil, fun j a e => by simp at e⟩
  | [], _ :: _, R => by have := R.len; simp at this
  | _ :: _, [], R => by have := R.len; simp at this
  | a :: ls, r :: rows, R => by
    obtain ⟨us, h1, h2⟩ := Rws.vals I hi (ls := ls) (rows := rows) ⟨by have := R.len; simpa using this, fun j a' r' e1 e2 => R.at_ (j + 1) a' r' e1 e2⟩
    obtain ⟨q, hl⟩ := R.at_ 0 a r rfl rfl
    obtain ⟨its, rv, p, _⟩ := I.tuple q
    have hr : r[i]? = some (r.getD i .non) := by
      rw [List.getD_eq_getElem?_getD, List.getElem?_eq_getElem (by omega)]
      rfl
    obtain ⟨u, hu, ru⟩ := rv.get hr
    obtain ⟨o, ho, hc, n, hd⟩ := p
    refine ⟨u :: us, .cons ru h1, fun j a' e => ?_⟩
    cases j with
    | zero =>
      obtain rfl : a = a' := Option.some.inj e
      exact ⟨its.toArray, ⟨o, ho, hc, n, hd⟩, by simpa using hu⟩
    | succ j => exact h2 j a' e

theorem turn_zn {P : Program} {w : World} {K : PySem.W.Frag} {x : Str} {xp : Pos} {n m : Nat} {ls : List Addr} {rows : List (List V)} (h1 : 1 ≤ ls.length) (h2 : ls.length ≤ 4) (hlt : ∀ l ∈ ls, l < n) :
    Turn P w K (.Name x xp) (ItzN K ls rows m) ((n + ls.length + 2) :: (n + ls.length) :: (n + ls.length + 1) :: (zps n ls).map (·.1)) (n + ls.length + 2)
      (fun i h => ZSt h (n + ls.length + 2) (n + ls.length) (n + ls.length + 1) (zps n ls) i) where
  mem := List.mem_cons_self
  obj := fun i h S b hb => by
    obtain ⟨⟨f0, f1, hz, _⟩, hTI, ⟨arr, _, hTO⟩, hits⟩ := S
    rcases List.mem_cons.mp hb with rfl | hb
    · exact ⟨_, hz, fun v q => nomatch q⟩
    rcases List.mem_cons.mp hb with rfl | hb
    · exact ⟨_, hTI, fun v q => nomatch q⟩
    rcases List.mem_cons.mp hb with rfl | hb
    · exact ⟨_, hTO, fun v q => nomatch q⟩
    obtain ⟨p, hp, rfl⟩ := List.mem_map.mp hb
    obtain ⟨o, e, _, d⟩ := hits p hp
    exact ⟨o, e, fun v q => by rw [d] at q; cases q⟩
  keep := fun i h h' S k => by
    obtain ⟨⟨f0, f1, hz, hf⟩, hTI, ⟨arr, ha, hTO⟩, hits⟩ := S
    refine ⟨⟨f0, f1, k _ (by simp) _ hz, hf⟩, k _ (by simp) _ hTI, ⟨arr, ha, k _ (by simp) _ hTO⟩, fun p hp => ?_⟩
    obtain ⟨o, e, c⟩ := hits p hp
    exact ⟨o, k _ (by
      refine List.mem_cons_of_mem _ (List.mem_cons_of_mem _ (List.mem_cons_of_mem _ ?_))
      exact List.mem_map_of_mem hp) _ e, c⟩
  item := by
    intro X hP hw hK hc i pins s σ H E I hf S hg
    subst hP hw hK
    obtain ⟨hi, R⟩ := hg
    obtain ⟨us, hv, hx⟩ := R.vals I hi
    have hul : us.length = ls.length := by rw [← hv.length, R.len]; simp [colV]
    have D := zapart hlt
    refine pyNext_zn_item D (by rw [zps_length]; exact h1) (by rw [zps_length]; omega) S (vs := us) (by rw [zps_length]; exact hul) (fun j p e => ?_) fun h' S' hT hsz hk => ?_
    · rw [zps_get] at e
      cases ea : ls[j]? with
      | none => rw [ea] at e; cases e
      | some a =>
        rw [ea] at e
        obtain rfl : (n + j, a) = p := Option.some.inj e
        exact hx j a ea
    · refine ⟨_, rfl, ?_⟩
      have hcl : (colV rows i).length ≤ sizeLine := by
        rw [hv.length, hul, sizeLine_eq]
        omega
      have new : ObjOk X.prog X.w (upd H s.heap.objs.size (.tup (colV rows i))) h' s.heap.objs.size (.tup (colV rows i)) := ⟨hcl, us, hv, ⟨_, hT, rfl, _, rfl⟩⟩
      have I1 : Inv X pins σ (upd H s.heap.objs.size (.tup (colV rows i))) { s with heap := h' } :=
        I.turnedNew (t' := s.toks) (fun c o hb q => hk c o (fun z => hb (by simp [z])) (fun z => hb (by simp [z])) (fun p hp z => hb (by
          refine List.mem_cons_of_mem _ (List.mem_cons_of_mem _ (List.mem_cons_of_mem _ ?_))
          rw [z]
          exact List.mem_map_of_mem hp)) q) hf (Nat.le_refl _) new
      show wpAny _ _ (pure ()) _ _ _
      refine wpAny_pure ⟨.ref s.heap.objs.size, _, I1, rfl, ⟨_, rfl, I.hok.fresh (Nat.le_refl _), rfl⟩, S', fun c hcm => ?_⟩
      obtain ⟨o, ho, _⟩ : ∃ o, s.heap.get? c = some o ∧ True := by
        obtain ⟨⟨f0, f1, hz, _⟩, hTI, ⟨arr, _, hTO⟩, hits⟩ := S
        rcases List.mem_cons.mp hcm with rfl | hcm
        · exact ⟨_, hz, trivial⟩
        rcases List.mem_cons.mp hcm with rfl | hcm
        · exact ⟨_, hTI, trivial⟩
        rcases List.mem_cons.mp hcm with rfl | hcm
        · exact ⟨_, hTO, trivial⟩
        obtain ⟨p, hp, rfl⟩ := List.mem_map.mp hcm
        obtain ⟨o, e, _⟩ := hits p hp
        exact ⟨o, e, trivial⟩
      rw [upd_ne (Nat.ne_of_lt (Heap.lt_size ho))]
      exact (hf c hcm).1
  done := by
    intro X hP hw hK hc i pins s σ H E I hf S hg
    subst hP hw hK
    obtain ⟨rfl, R⟩ := hg
    cases hls : ls with
    | nil => rw [hls] at h1; simp at h1
    | cons a r =>
      cases hrw : rows with
      | nil => have := R.len; rw [hls, hrw] at this; simp at this
      | cons q rr =>
        obtain ⟨hq, hl⟩ := R.at_ 0 a q (by rw [hls]; rfl) (by rw [hrw]; rfl)
        obtain ⟨its, rv, ⟨o, ho, hc', n', hd⟩, _⟩ := I.tuple hq
        have hps : zps n ls = (n, a) :: (zps n ls).tail := by
          rw [hls]
          simp [zps]
        rw [← hls]
        refine pyNext_zn_end (I.ok.hd hc) (zapart hlt) S hps (xs := its.toArray) ⟨o, ho, hc', n', hd⟩ ?_ fun h' hk => ⟨rfl, ?_⟩
        · have := rv.length
          rw [List.getElem?_toArray, List.getElem?_eq_none (by omega)]
        · exact I.turnedL (t' := s.toks) (fun c o hb q => hk c o (fun z => hb (by simp [z])) (fun z => hb (by simp [z])) (fun p hp z => hb (by
            refine List.mem_cons_of_mem _ (List.mem_cons_of_mem _ (List.mem_cons_of_mem _ ?_))
            rw [z]
            exact List.mem_map_of_mem hp)) q) hf
  self := fun A i s Q E S h => pyIter_zn S h

/-- for x in zip(*e), e a list or tuple of one to four tuples of one length -/
def iZipS (K : PySem.W.Frag) (te : TE) : TI := fun σ H R => te σ H fun y H1 => ∃ (a : Addr) (ls : List Addr) (rows : List (List V)) (m : Nat), y = .ref a ∧ (SqT K H1 a (ls.map V.ref) ∨ SqL K H1 a (ls.map V.ref)) ∧
  1 ≤ ls.length ∧ ls.length ≤ 4 ∧ Rws K H1 ls rows m ∧ R (ItzN K ls rows m) H1
theorem vals_refs : ∀ {ls : List Addr} {us : List Value}, Vals (ls.map V.ref) us → us = ls.map Value.ref
  | [], _, .nil => rfl
  | a :: ls, _, .cons r t => by
    cases r
    rw [vals_refs t]
    rfl
theorem pi_zipS {X : Cx} {e : Expr} {te : TE} {p pos spos xp : Pos} {x : Str} (hg : Gl X "zip") (hm : X.mg "zip" = none) (he : PE X e te)
    (hst : starEach [.Starred e spos] X.env = [(true, eval e X.env)] := by rfl) :
    PI X (.Name x xp) (.Call (.Name "zip" p) [.Starred e spos] [] pos) (iZipS X.K te) := by
  refine ⟨fun pins s σ H R I h => ?_⟩
  refine wpAny_Call_Name_kw (ld_blt I hg hm PyProof.Rows.boot_zip ?_)
  rw [hst]
  refine PySem.W.ks_call (P := fun _ => True) rfl (fun h _ => ⟨.machine, .inr (.inl rfl), fun A Q E s _ q => wpAny_pure q⟩) (PySem.W.ks_lone ?_)
  refine thn (he.run pins s σ H _ I h) fun v s1 ⟨y, H1, I1, ry, a, ls, rows, m, ey, hx, h1, h2, Rw, q⟩ => ?_
  subst ey
  obtain rfl : v = Value.ref a := ry
  refine StX.star_any I1 hx fun us s2 I2 rv => ⟨trivial, ?_⟩
  obtain rfl := vals_refs rv
  have tup : ∀ l ∈ ls, ∃ xs, s2.heap.IsTuple l xs := fun l hl => by
    obtain ⟨j, hj⟩ := List.mem_iff_getElem?.mp hl
    have hjl := (List.getElem?_eq_some_iff.mp hj).1
    have hjr : rows[j]? = some (rows[j]'(by have := Rw.len; omega)) := List.getElem?_eq_getElem (by have := Rw.len; omega)
    obtain ⟨its, _, ⟨o, ho, hc, n, hd⟩, _⟩ := I2.tuple (Rw.at_ j l _ hj hjr).1
    exact ⟨its.toArray, o, ho, hc, n, hd⟩
  refine call_zipN h1 h2 tup fun h' n en S hsz hk => ?_
  have I3 : Inv X pins σ H1 { s2 with heap := h' } := I2.kept (t' := s2.toks) hk
  have hlt : ∀ l ∈ ls, l < n := fun l hl => by
    obtain ⟨xs, o, ho, _⟩ := tup l hl
    rw [en]
    exact Heap.lt_size ho
  refine pyIter_zn (s := { s2 with heap := h' }) S ⟨n + ls.length + 2, _, _, _, H1, rfl, I3, turn_zn h1 h2 hlt, S, fun b hb => ?_, q⟩
  have hle : s2.heap.objs.size ≤ b := by
    rw [← en]
    rcases List.mem_cons.mp hb with rfl | hb
    · omega
    rcases List.mem_cons.mp hb with rfl | hb
    · omega
    rcases List.mem_cons.mp hb with rfl | hb
    · omega
    obtain ⟨p, hp, rfl⟩ := List.mem_map.mp hb
    obtain ⟨j, _, _, e⟩ := zps_mem hp
    exact Nat.le_trans (Nat.le_add_right n j) (Nat.le_of_eq e.symm)
  have F := I2.fpOk hle (I2.hok.fresh hle)
  exact F
end DD
namespace DD
open PySem PySem.Spec PyProof.Rows L2
theorem draws_tup {prog : Program} {w : World} {A : Around} (hh : A.handled = none) (it t : Addr) (items : Array Value) (hne : t ≠ it) :
    Draws prog w A it [it, t] items.size (fun i v => items[i]? = some v) (fun i h => h.IsTupleIter it t i ∧ h.IsTuple t items) where
  live := fun i h S => by
    obtain ⟨⟨o, e, _⟩, _⟩ := S
    exact ⟨o, e⟩
  frame := fun i h h' S k => by
    obtain ⟨⟨o, e, c⟩, ⟨o2, e2, c2⟩⟩ := S
    exact ⟨⟨o, k it (by simp) o e, c⟩, ⟨o2, k t (by simp) o2 e2, c2⟩⟩
  item := fun i s Q E hi S hQ => by
    obtain ⟨S1, S2⟩ := S
    refine RZ.nextOf_tuple_item S1 S2 (x := items[i]) (by simp [hi]) fun h' hit hs => hQ _ h' s.toks (by simp [hi]) ⟨hit, ?_⟩ hs
    obtain ⟨o, e, c⟩ := S2
    exact ⟨o, (hs.2 _ hne).trans e, c⟩
  done := fun s Q E S hE => by
    obtain ⟨S1, S2⟩ := S
    exact RZ.nextOf_tuple_end hh S1 S2 (by simp) hE
theorem meets_enum_newT (l : Addr) (items : Array Value) : Meets (Builtin.«enumerate.__new__» ⟨[.type "enumerate", .ref l], []⟩) (fun _ R s => s.heap.IsTuple l items ∧
      R (.ok (.ret (.ref (s.heap.push { cls := .type "tuple_iterator", data := .fields #[.ref l, .int 0 0] }).objs.size)))
        { s with heap := (s.heap.push { cls := .type "tuple_iterator", data := .fields #[.ref l, .int 0 0] }).push { cls := .type "enumerate", data := .fields #[.none, .bool false, .ref s.heap.objs.size, rawInt 0, .none, .none] } }) :=
  .of_wp fun prog w A R s h => by
    obtain ⟨hp, g, d, tk, os⟩ := s
    obtain ⟨hT, h⟩ := h
    obtain ⟨oL, hoL, hcL, nL, hdL⟩ := id hT
    have hsub := sub_enumerate
    have hT' : Heap.IsTuple (Shared.heap ⟨hp, g, d, tk, os⟩) l items := hT
    wp_walk
    refine wpAny_stack_any fun st => wpAny_pure ?_
    split
    · rename_i c _ _ _ _ _
      cases (c == Value.type "enumerate")
      · wp_walk using wpAny_pyIter_tuple hT'
        exact ⟨_, rfl, h⟩
      · wp_walk using wpAny_pyIter_tuple hT'
        exact ⟨_, rfl, h⟩
    · wp_walk using wpAny_pyIter_tuple hT'
      exact ⟨_, rfl, h⟩
section
variable {prog : Program} {w : World} {A : Around} {E : Value → Shared → Prop} {s : Shared}
theorem call_enumT {l : Addr} {items : Array Value} {Q : Value → Shared → Prop} (hT : s.heap.IsTuple l items)
    (h : ∀ h', IsEnum h' (s.heap.objs.size + 1) s.heap.objs.size 0 .none → h'.IsTupleIter s.heap.objs.size l 0 →
      (∀ b o, s.heap.get? b = some o → h'.get? b = some o) → Q (.ref (s.heap.objs.size + 1)) { s with heap := h' }) :
    wpAny (model prog w) A (call (.type "enumerate") [.ref l]) Q E s := by
  refine callType_new F.called_enumerate (by decide) (F.typeCall_enumerate_1 _) (F.newCall_enumerate_1 _) (fun obj => F.args_object_init_2 obj _) F.entry_enumerate_new
    (meets_enum_newT l items) ⟨hT, ?_⟩
  have hz : (s.heap.push { cls := .type "tuple_iterator", data := .fields #[.ref l, .int 0 0] }).objs.size = s.heap.objs.size + 1 := Heap.size_push ..
  have he : IsEnum ((s.heap.push { cls := .type "tuple_iterator", data := .fields #[.ref l, .int 0 0] }).push
      { cls := .type "enumerate", data := .fields #[.none, .bool false, .ref s.heap.objs.size, rawInt 0, .none, .none] }) (s.heap.objs.size + 1) s.heap.objs.size 0 .none := by
    have q := Heap.get?_push_size (s.heap.push { cls := .type "tuple_iterator", data := .fields #[.ref l, .int 0 0] })
      (o := { cls := .type "enumerate", data := .fields #[.none, .bool false, .ref s.heap.objs.size, rawInt 0, .none, .none] }) rfl
    rw [hz] at q
    exact q
  show _ ∧ _
  rw [hz]
  exact ⟨⟨_, he, rfl⟩, h _ he ⟨_, Heap.get?_push_of_some _ (Heap.get?_push_size _ rfl), rfl, rfl⟩ fun b o x => Heap.get?_push_of_some _ (Heap.get?_push_of_some _ x)⟩
end

/-- the tuple at a, its items in new pairs, counted from c -/
def ItEnT (K : PySem.W.Frag) (a : Addr) (c : Int) : It :=
  ⟨fun i H => ∃ (xs : List V) (x : V), SqT K H a xs ∧ xs[i]? = some x,
    fun i H v H' => ∃ T x, v = .ref T ∧ H T = none ∧ H' = upd H T (.tup [.int (c + (i : Nat)), x]) ∧ ∀ xs, SqT K H a xs → xs[i]? = some x,
    fun i H => ∃ xs : List V, SqT K H a xs ∧ xs.length ≤ i⟩
theorem turn_enT {P : Program} {w : World} {K : PySem.W.Frag} {elts : List Expr} {kk : Nat} {tpos : Pos} (a e it : Addr) (c : Int) :
    Turn P w K (.Tuple elts kk tpos) (ItEnT K a c) [e, it] e (fun i h => (∃ old, IsEnum h e it (c + ((i : Nat) : Int)) old) ∧ h.IsTupleIter it a i ∧ e ≠ it) where
  mem := by simp
  obj := fun i h S b hb => by
    obtain ⟨⟨old, he⟩, ⟨o, ho, hc, hd⟩, _⟩ := S
    rcases List.mem_cons.mp hb with rfl | hb
    · exact ⟨_, he, fun v q => nomatch q⟩
    · rw [List.mem_singleton.mp hb]
      exact ⟨o, ho, fun v q => by rw [hd] at q; cases q⟩
  keep := fun i h h' S k => by
    obtain ⟨⟨old, he⟩, ⟨o, ho, r⟩, hne⟩ := S
    exact ⟨⟨old, k e (by simp) _ he⟩, ⟨o, k it (by simp) _ ho, r⟩, hne⟩
  item := by
    intro X hP hw hK hcalm i pins s σ H E I hf S hg
    subst hP hw hK
    obtain ⟨⟨old, he⟩, hit, hne⟩ := S
    obtain ⟨xs, x, hq, hx⟩ := hg
    obtain ⟨its, rv, ⟨oa, hoa, hca, na, hda⟩, _⟩ := I.tuple hq
    obtain ⟨u, hu, ru⟩ := rv.get hx
    obtain ⟨oi, hoi, hci, hdi⟩ := id hit
    have hai : a ≠ it := fun z => by
      rw [z, hoi] at hoa
      cases hoa
      rw [hca] at hci
      simp at hci
    have hea : e ≠ a := fun z => by
      have he2 := he
      unfold IsEnum at he2
      rw [z, hoa] at he2
      cases he2
      simp at hca
    have hef : e ∉ [it, a] := fun z => by
      rcases List.mem_cons.mp z with z | z
      · exact hne z
      · exact hea (List.mem_singleton.mp z)
    have hel : e < s.heap.objs.size := Heap.lt_size he
    have hil : it < s.heap.objs.size := Heap.lt_size hoi
    have D := draws_tup (prog := X.prog) (w := X.w) (A := X.A.in1) (I.ok.hd hcalm) it a its.toArray hai
    have hlt : i < its.toArray.size := by
      have := (List.getElem?_eq_some_iff.mp hu).1
      simpa using this
    refine wpAny_pyNext_enum_itemC D he ⟨hit, ⟨oa, hoa, hca, na, hda⟩⟩ hlt hne hef fun y h' tk hy ho hit' hT hsz hk => ?_
    obtain rfl : u = y := by
      have : its.toArray[i]? = some u := by simpa using hu
      rw [this] at hy
      exact Option.some.inj hy
    refine ⟨_, rfl, wpAny_letOwnedTupleGo_enum (s := { s with heap := h', toks := tk + 1 }) ho fun h'' he' sb => ?_⟩
    have hT2 : h''.get? s.heap.objs.size = some { cls := .type "tuple", data := .seq #[.int (c + (i : Nat)) tk, u] } := (sb.2 _ (Nat.ne_of_gt hel)).trans hT
    have new : ObjOk X.prog X.w (upd H s.heap.objs.size (.tup [.int (c + (i : Nat)), x])) h'' s.heap.objs.size (.tup [.int (c + (i : Nat)), x]) :=
      ⟨by show 2 ≤ sizeLine; decide, [.int (c + (i : Nat)) tk, u], .cons ⟨_, rfl⟩ (.cons ru .nil), ⟨_, hT2, rfl, _, rfl⟩⟩
    have I1 : Inv X pins σ (upd H s.heap.objs.size (.tup [.int (c + (i : Nat)), x])) { s with heap := h'', toks := tk + 1 } :=
      I.turnedNew (ch := [e, it]) (fun b ob hb q => (sb.2 b (fun z => hb (by simp [z]))).trans (hk b ob (fun z => hb (by simp [z])) (fun z => hb (by simp [z])) q)) hf (Nat.le_refl _) new
    obtain ⟨oi', hoi', r'⟩ := hit'.1
    refine ⟨.ref s.heap.objs.size, _, I1, rfl, ⟨_, x, rfl, I.hok.fresh (Nat.le_refl _), rfl, fun ys hy => by rw [I.tuple_inj hy hq]; exact hx⟩, ⟨⟨u, ?_⟩, ⟨oi', (sb.2 it (Ne.symm hne)).trans hoi', r'⟩, hne⟩, fun b hb => ?_⟩
    · have e1 : c + ((i + 1 : Nat) : Int) = c + (i : Int) + 1 := by omega
      rw [e1]
      exact he'
    · have hb' : b < s.heap.objs.size := by
        rcases List.mem_cons.mp hb with z | hb
        · rw [z]
          exact hel
        · rw [List.mem_singleton.mp hb]
          exact hil
      rw [upd_ne (Nat.ne_of_lt hb')]
      exact (hf b hb).1
  done := by
    intro X hP hw hK hcalm i pins s σ H E I hf S hg
    subst hP hw hK
    obtain ⟨⟨old, he⟩, hit, hne⟩ := S
    obtain ⟨xs, hq, hx⟩ := hg
    obtain ⟨its, rv, ⟨oa, hoa, hca, na, hda⟩, _⟩ := I.tuple hq
    obtain ⟨oi, hoi, hci, hdi⟩ := id hit
    have hl := rv.length
    obtain ⟨f0, f1, f2, f3, f4, f5⟩ := hf it (by simp)
    have hT : s.TypeIs (.ref e) "enumerate" := ⟨_, he, rfl⟩
    unfold pyNext
    refine wpAny_bind (wpAny_attempt (wpAny_callSpecial?_slot (name := Str.ofString "__next__") hT F.slot_enumerate_next
      (wpAny_call_entry F.slot_enumerate_next hT F.entry_enumerate_next ?_ (F.args_enumerate_next_1 _))))
    show wpAny _ _ (field (.ref e) 2 >>= _) _ _ _
    refine wpAny_bind (wpAny_field he rfl (x := .ref it) rfl ?_)
    refine wpAny_bind (RZ.nextOf_tuple_end (I.ok.hd hcalm) hit (show s.heap.IsTuple a its.toArray from ⟨oa, hoa, hca, na, hda⟩) (by simp; omega) fun h' y hy1 hy2 => ?_)
    obtain ⟨o, ho, hc⟩ := hy2
    exact wpAny_bind (wpAny_isInstance (T := "StopIteration") (b := true) ⟨o, ho, hc⟩ isSubtype_stop (wpAny_pure ⟨rfl, I.turned (t' := s.toks) (fun b o hb q => hy1 b o hb q) f0 f1 f3 f4 f5⟩))
  self := fun A i s Q E S h => by
    obtain ⟨⟨_, he⟩, _⟩ := S
    exact wpAny_pyIter_enum he h
def iEnumT (K : PySem.W.Frag) (ta : TA) : TI := fun σ H R => ta σ H fun vs H1 => ∃ a xs, vs = [.ref a] ∧ SqT K H1 a xs ∧ R (ItEnT K a 0) H1
theorem pi_enumT {X : Cx} {e : Expr} {ta : TA} {p pos tpos : Pos} {elts : List Expr} {kk : Nat} (hg : Gl X "enumerate") (hm : X.mg "enumerate" = none) (ha : PA X [e] ta)
    (hs : starEach [e] X.env = [(false, eval e X.env)] := by rfl) : PI X (.Tuple elts kk tpos) (.Call (.Name "enumerate" p) [e] [] pos) (iEnumT X.K ta) := by
  refine ⟨fun pins s σ H R I h => Call_ (ld_blt I hg hm boot_enumerate (PyProof.Rows.callWith_type1 (thn (ha.run pos pins s σ H _ I h) fun us s1 ⟨vs, H1, I1, r1, q1⟩ => ?_) hs rfl))⟩
  obtain ⟨a, xs, ex, hq, q⟩ := q1
  subst ex
  obtain ⟨u, rfl, ru⟩ := vals1 r1
  cases ru
  obtain ⟨its, rv, ⟨oa, hoa, hca, na, hda⟩, _⟩ := I1.tuple hq
  refine call_enumT (items := its.toArray) ⟨oa, hoa, hca, na, hda⟩ fun h' he hit hk => wpAny_pyIter_enum he ?_
  have I2 : Inv X pins σ H1 { s1 with heap := h' } := I1.kept (t' := s1.toks) hk
  refine ⟨s1.heap.objs.size + 1, [s1.heap.objs.size + 1, s1.heap.objs.size], _, _, H1, rfl, I2, turn_enT a (s1.heap.objs.size + 1) s1.heap.objs.size 0, ⟨⟨.none, he⟩, hit, Nat.succ_ne_self _⟩, fun b hb => ?_, q⟩
  have hle : s1.heap.objs.size ≤ b := by
    rcases List.mem_cons.mp hb with z | hb
    · rw [z]
      exact Nat.le_succ _
    · exact Nat.le_of_eq (List.mem_singleton.mp hb).symm
  exact I1.fpOk hle (I1.hok.fresh hle)
/-- a loop over enumerate(t) -/
theorem for_enT {K : PySem.W.Frag} {a : Addr} {xs : List V} {c : Int} {g : TG} {tb : TS} {D : Ends} {σ : L2.St} {H : Hp} (Pv : Nat → L2.St → Hp → Prop) (h0 : Pv 0 σ H) (hq : ∀ i σ H, i ≤ xs.length → Pv i σ H → SqT K H a xs)
    (hs : ∀ (i : Nat) (x : V) (T : Addr) (σ : L2.St) (H : Hp), xs[i]? = some x → Pv i σ H → H T = none →
      g (.ref T) σ (upd H T (.tup [.int (c + (i : Nat)), x])) fun σ2 H2 => tb { D with nx := Pv (i + 1), ct := Pv (i + 1), bk := D.nx } σ2 H2) (hd : ∀ σ H, Pv xs.length σ H → D.nx σ H) :
    ∃ W : Nat → Nat → L2.St → Hp → Prop, (∃ m, W 0 m σ H) ∧ ∀ i m σ H, W i m σ H → ((ItEnT K a c).stop i H ∧ D.nx σ H) ∨ ((ItEnT K a c).go i H ∧
      ∃ N : L2.St → Hp → Prop, (∀ σ' H', N σ' H' → ∃ m', m' < m ∧ W (i + 1) m' σ' H') ∧ ∀ v H', (ItEnT K a c).yld i H v H' →
        g v σ H' fun σ2 H2 => tb { D with nx := N, ct := N, bk := D.nx } σ2 H2) := by
  refine ⟨fun i m σ H => m = xs.length - i ∧ i ≤ xs.length ∧ Pv i σ H, ⟨xs.length, rfl, Nat.zero_le _, h0⟩, ?_⟩
  rintro i _ σ H ⟨rfl, hi, p⟩
  have q := hq i σ H hi p
  by_cases hlt : i < xs.length
  · have hx : xs[i]? = some xs[i] := List.getElem?_eq_getElem hlt
    refine .inr ⟨⟨xs, _, q, hx⟩, Pv (i + 1), fun σ' H' p' => ⟨xs.length - (i + 1), by omega, rfl, hlt, p'⟩, fun v H' y => ?_⟩
    obtain ⟨T, x', rfl, nT, rfl, f1⟩ := y
    exact hs i x' T σ H (f1 xs q) p nT
  · obtain rfl : i = xs.length := by omega
    exact .inl ⟨⟨xs, q, Nat.le_refl _⟩, hd σ H p⟩
end DD
namespace DD
open PySem PySem.Spec PyProof.Rows L2

/-! ### max and min of a tuple of ints -/
section
variable {prog : Program} {w : World} {A : Around} {E : Value → Shared → Prop} {s : Shared} {l : Addr} {xs : Array (Int × Tok)}
theorem max_intTup {Q : Value → Shared → Prop} (hh : A.handled = none) (hl : s.heap.IsTuple l (intItems xs)) (hne : 0 < xs.size)
    (h : ∀ v h' tk, (intItems xs)[argBest (fun i j => decide (numAt xs i > numAt xs j)) (xs.size - 1)]? = some v → (∀ b o, s.heap.get? b = some o → h'.get? b = some o) → Q v { s with heap := h', toks := tk }) :
    wpAny (model prog w) A (call (.builtin "max") [.ref l]) Q E s := by
  have hlt : l < s.heap.objs.size := by obtain ⟨_, e, _⟩ := hl; exact Heap.lt_size e
  refine call_max_walk (wpAny_pyIter_tuple hl ?_)
  refine ⟨_, _, _, _, _, _, _, rfl, Walks.tuple (A := A.in1) hh _ l (Nat.ne_of_lt hlt) (intItems xs), ⟨⟨_, Heap.get?_push_size _ rfl, rfl, rfl⟩, hl.push _⟩, fun b hb => ?_, by simpa [intItems] using hne, CmpOf.ints_gt (numAt xs) (fun _ _ => intItems_at), fun v h' tk hP hk => ?_⟩
  · show b < (s.heap.push _).objs.size
    rw [Heap.size_push]
    rcases List.mem_cons.mp hb with rfl | hb
    · exact Nat.lt_succ_self _
    · rcases List.mem_cons.mp hb with rfl | hb
      · exact Nat.lt_succ_of_lt hlt
      · cases hb
  · refine h v h' tk (by simpa [intItems] using hP) fun b o e => hk b o (fun hm => ?_) (Heap.get?_push_of_some _ e)
    rcases List.mem_cons.mp hm with e1 | hm
    · exact absurd (e1 ▸ Heap.lt_size e) (Nat.lt_irrefl _)
    · cases hm
theorem min_intTup {Q : Value → Shared → Prop} (hh : A.handled = none) (hl : s.heap.IsTuple l (intItems xs)) (hne : 0 < xs.size)
    (h : ∀ v h' tk, (intItems xs)[argBest (fun i j => decide (numAt xs i < numAt xs j)) (xs.size - 1)]? = some v → (∀ b o, s.heap.get? b = some o → h'.get? b = some o) → Q v { s with heap := h', toks := tk }) :
    wpAny (model prog w) A (call (.builtin "min") [.ref l]) Q E s := by
  have hlt : l < s.heap.objs.size := by obtain ⟨_, e, _⟩ := hl; exact Heap.lt_size e
  refine call_min_walk (wpAny_pyIter_tuple hl ?_)
  refine ⟨_, _, _, _, _, _, _, rfl, Walks.tuple (A := A.in1) hh _ l (Nat.ne_of_lt hlt) (intItems xs), ⟨⟨_, Heap.get?_push_size _ rfl, rfl, rfl⟩, hl.push _⟩, fun b hb => ?_, by simpa [intItems] using hne, CmpOf.ints_lt (numAt xs) (fun _ _ => intItems_at), fun v h' tk hP hk => ?_⟩
  · show b < (s.heap.push _).objs.size
    rw [Heap.size_push]
    rcases List.mem_cons.mp hb with rfl | hb
    · exact Nat.lt_succ_self _
    · rcases List.mem_cons.mp hb with rfl | hb
      · exact Nat.lt_succ_of_lt hlt
      · cases hb
  · refine h v h' tk (by simpa [intItems] using hP) fun b o e => hk b o (fun hm => ?_) (Heap.get?_push_of_some _ e)
    rcases List.mem_cons.mp hm with e1 | hm
    · exact absurd (e1 ▸ Heap.lt_size e) (Nat.lt_irrefl _)
    · cases hm
end
theorem ints_of_valsT : ∀ {ns : List Int} {us : List Value}, Vals (ns.map V.int) us → PyProof.Rows.IntsAre us ns
  | [], _, h => by
    cases h
    exact .nil
  | n :: ns, _, h => by
    cases h with
    | cons r t =>
      obtain ⟨k, rfl⟩ := r
      exact .cons n k (ints_of_valsT t)
def rMaxT (K : PySem.W.Frag) : List V → Hp → VK → Prop := fun vs H Q => ∃ (a : Addr) (ns : List Int), vs = [V.ref a] ∧ SqT K H a (ns.map V.int) ∧ 0 < ns.length ∧ ∀ m, m ∈ ns → (∀ y, y ∈ ns → y ≤ m) → Q (.int m) H
def rMinT (K : PySem.W.Frag) : List V → Hp → VK → Prop := fun vs H Q => ∃ (a : Addr) (ns : List Int), vs = [V.ref a] ∧ SqT K H a (ns.map V.int) ∧ 0 < ns.length ∧ ∀ m, m ∈ ns → (∀ y, y ∈ ns → m ≤ y) → Q (.int m) H
theorem cr_maxT {X : Cx} (hc : X.calm = true) : CallR X (.builtin "max") (rMaxT X.K) := by
  intro pins s σ H vs us Q I r h
  obtain ⟨a, ns, rfl, hq, hne, q⟩ := h
  obtain ⟨u, rfl, ru⟩ := vals1 r
  cases ru
  obtain ⟨its, rv, ⟨o, ho, hcl, n, hd⟩, _⟩ := I.tuple hq
  have ia := ints_of_valsT rv
  obtain ⟨xs, e⟩ := ia.allInts.items
  have hn : numsOf (intItems xs).toList = ns := by rw [← e]; exact ia.numsOf
  rw [nums_intItems] at hn
  have ht : s.heap.IsTuple a (intItems xs) := by rw [← e]; exact ⟨o, ho, hcl, n, hd⟩
  subst hn
  have hsz : 0 < xs.size := by simpa using hne
  refine max_intTup (I.ok.hd hc) ht hsz fun v h' tk hv hk => ?_
  obtain ⟨t, rfl⟩ := intItems_at hv
  obtain ⟨h1, h2⟩ := argBest_gt (numAt xs) (xs.size - 1)
  refine ⟨.int _, H, I.kept hk, ⟨_, rfl⟩, q _ ?_ fun a ha => ?_⟩
  · rw [numAt_eq]; exact PySem.getD_mem (by rw [List.length_map, Array.length_toList]; omega)
  · obtain ⟨j, hj, rfl⟩ := mem_getD ha
    rw [List.length_map, Array.length_toList] at hj
    rw [← numAt_eq]; exact h2 j (by omega)
theorem cr_minT {X : Cx} (hc : X.calm = true) : CallR X (.builtin "min") (rMinT X.K) := by
  intro pins s σ H vs us Q I r h
  obtain ⟨a, ns, rfl, hq, hne, q⟩ := h
  obtain ⟨u, rfl, ru⟩ := vals1 r
  cases ru
  obtain ⟨its, rv, ⟨o, ho, hcl, n, hd⟩, _⟩ := I.tuple hq
  have ia := ints_of_valsT rv
  obtain ⟨xs, e⟩ := ia.allInts.items
  have hn : numsOf (intItems xs).toList = ns := by rw [← e]; exact ia.numsOf
  rw [nums_intItems] at hn
  have ht : s.heap.IsTuple a (intItems xs) := by rw [← e]; exact ⟨o, ho, hcl, n, hd⟩
  subst hn
  have hsz : 0 < xs.size := by simpa using hne
  refine min_intTup (I.ok.hd hc) ht hsz fun v h' tk hv hk => ?_
  obtain ⟨t, rfl⟩ := intItems_at hv
  obtain ⟨h1, h2⟩ := argBest_lt (numAt xs) (xs.size - 1)
  refine ⟨.int _, H, I.kept hk, ⟨_, rfl⟩, q _ ?_ fun a ha => ?_⟩
  · rw [numAt_eq]; exact PySem.getD_mem (by rw [List.length_map, Array.length_toList]; omega)
  · obtain ⟨j, hj, rfl⟩ := mem_getD ha
    rw [List.length_map, Array.length_toList] at hj
    rw [← numAt_eq]; exact h2 j (by omega)
end DD
namespace DD
open PySem PySem.Spec PyProof.Rows L2 RZ

/-! ### for x in zip(a, b), two tuples of one length, the pair taken whole -/
def iZipP (K : PySem.W.Frag) (ta : TA) : TI := fun σ H R => ta σ H fun vs H1 => ∃ (a b : Addr) (xs ys : List V), vs = [.ref a, .ref b] ∧ SqT K H1 a xs ∧ SqT K H1 b ys ∧ xs.length = ys.length ∧ R (ItzN K [a, b] [xs, ys] xs.length) H1
theorem pi_zipP {X : Cx} {e e2 : Expr} {ta : TA} {p pos xp : Pos} {x : Str} (hg : Gl X "zip") (hm : X.mg "zip" = none) (ha : PA X [e, e2] ta)
    (hs : starEach [e, e2] X.env = (false, eval e X.env) :: starEach [e2] X.env := by rfl) (hpl : (backTo pos (starEach [e2] X.env)).any (·.1) = false := by rfl) :
    PI X (.Name x xp) (.Call (.Name "zip" p) [e, e2] [] pos) (iZipP X.K ta) := by
  refine ⟨fun pins s σ H R I h => ?_⟩
  refine Call_ (ld_blt I hg hm PyProof.Rows.boot_zip (PyProof.Rows.callWith_type1 (thn (ha.run pos pins s σ H _ I h) fun us s2 ⟨vs, H1, I2, r1, q1⟩ => ?_) hs hpl))
  obtain ⟨a, b, xs, ys, ex, hx, hy, hl, q⟩ := q1
  subst ex
  obtain rfl := vals_refs (ls := [a, b]) r1
  have Rw : Rws X.K H1 [a, b] [xs, ys] xs.length := ⟨rfl, fun j l r e1 e2 => by
    match j, e1, e2 with
    | 0, e1, e2 => cases e1; cases e2; exact ⟨hx, rfl⟩
    | 1, e1, e2 => cases e1; cases e2; exact ⟨hy, hl.symm⟩⟩
  have h1 : 1 ≤ [a, b].length := by simp
  have h2 : [a, b].length ≤ 4 := by simp
  have tup : ∀ l ∈ [a, b], ∃ xs, s2.heap.IsTuple l xs := fun l hl => by
    obtain ⟨j, hj⟩ := List.mem_iff_getElem?.mp hl
    have hjl := (List.getElem?_eq_some_iff.mp hj).1
    have hjr : [xs, ys][j]? = some ([xs, ys][j]'(by have := Rw.len; omega)) := List.getElem?_eq_getElem (by have := Rw.len; omega)
    obtain ⟨its, _, ⟨o, ho, hc, n, hd⟩, _⟩ := I2.tuple (Rw.at_ j l _ hj hjr).1
    exact ⟨its.toArray, o, ho, hc, n, hd⟩
  refine call_zipN h1 h2 tup fun h' n en S hsz hk => ?_
  have I3 : Inv X pins σ H1 { s2 with heap := h' } := I2.kept (t' := s2.toks) hk
  have hlt : ∀ l ∈ [a, b], l < n := fun l hl => by
    obtain ⟨xs, o, ho, _⟩ := tup l hl
    rw [en]
    exact Heap.lt_size ho
  refine pyIter_zn (s := { s2 with heap := h' }) S ⟨n + [a, b].length + 2, _, _, _, H1, rfl, I3, turn_zn h1 h2 hlt, S, fun b' hb => ?_, q⟩
  have hle : s2.heap.objs.size ≤ b' := by
    rw [← en]
    rcases List.mem_cons.mp hb with rfl | hb
    · omega
    rcases List.mem_cons.mp hb with rfl | hb
    · omega
    rcases List.mem_cons.mp hb with rfl | hb
    · omega
    obtain ⟨p, hp, rfl⟩ := List.mem_map.mp hb
    obtain ⟨j, _, _, e⟩ := zps_mem hp
    exact Nat.le_trans (Nat.le_add_right n j) (Nat.le_of_eq e.symm)
  exact I2.fpOk hle (I2.hok.fresh hle)

/-- a comprehension over zip of two tuples of one length -/
theorem lc_zipT {K : PySem.W.Frag} {a b : Addr} {xs ys : List V} {g : TG} {tt : TT} {te : TE} {vs : List Nat} {σ : L2.St} {H1 : Hp} {D : Addr} {Qd : Hp → Prop} (hl : xs.length = ys.length)
    (Pv : Nat → Hp → Prop) (h0 : Pv 0 (upd H1 D (.lst []))) (hq : ∀ i H, i ≤ xs.length → Pv i H → SqT K H a xs ∧ SqT K H b ys)
    (hs : ∀ i x y T H, xs[i]? = some x → ys[i]? = some y → Pv i H → H T = none → g (.ref T) (wipe σ vs) (upd H T (.tup [x, y])) fun σ2 H2 => wipe σ2 vs = wipe σ vs ∧ tt σ2 H2 fun b H3 =>
      if b = true then (te σ2 H3 fun y H4 => ∃ acc, H4 D = some (.lst acc) ∧ acc.length < sizeLine ∧ Pv (i + 1) (upd H4 D (.lst (acc ++ [y])))) else Pv (i + 1) H3) (hd : ∀ H, Pv xs.length H → Qd H) :
    ∃ W : Nat → Nat → Hp → Prop, (∃ m, W 0 m (upd H1 D (.lst []))) ∧ ∀ i m0 H, W i m0 H → ((ItzT K a b).stop i H ∧ Qd H) ∨ ((ItzT K a b).go i H ∧
      ∃ Nx : Hp → Prop, (∀ H', Nx H' → ∃ m', m' < m0 ∧ W (i + 1) m' H') ∧ ∀ x H', (ItzT K a b).yld i H x H' → g x (wipe σ vs) H' fun σ2 H2 => wipe σ2 vs = wipe σ vs ∧
        tt σ2 H2 fun b H3 => if b = true then (te σ2 H3 fun y H4 => ∃ acc, H4 D = some (.lst acc) ∧ acc.length < sizeLine ∧ Nx (upd H4 D (.lst (acc ++ [y])))) else Nx H3) := by
  refine ⟨fun i m0 H => m0 = xs.length - i ∧ i ≤ xs.length ∧ Pv i H, ⟨xs.length, by simp, Nat.zero_le _, h0⟩, ?_⟩
  rintro i _ H ⟨rfl, hi, p⟩
  obtain ⟨qx, qy⟩ := hq i H hi p
  by_cases hlt : i < xs.length
  · have hx : xs[i]? = some xs[i] := List.getElem?_eq_getElem hlt
    have hlt2 : i < ys.length := by omega
    have hy : ys[i]? = some ys[i] := List.getElem?_eq_getElem hlt2
    refine .inr ⟨⟨xs, ys, _, _, qx, qy, hx, hy⟩, Pv (i + 1), fun H' p' => ⟨xs.length - (i + 1), by omega, rfl, hlt, p'⟩, fun v H' y => ?_⟩
    obtain ⟨T, x', y', rfl, hT, rfl, f1, f2⟩ := y
    exact hs i x' y' T H (f1 xs qx) (f2 ys qy) p hT
  · have e : i = xs.length := by omega
    subst e
    exact .inl ⟨⟨xs, ys, qx, qy, Or.inl (Nat.le_refl _)⟩, hd H p⟩
/-- a comprehension over zip(*..) of tuples of one length -/
theorem lc_zipN {K : PySem.W.Frag} {ls : List Addr} {rows : List (List V)} {m : Nat} {g : TG} {tt : TT} {te : TE} {vs : List Nat} {σ : L2.St} {H1 : Hp} {D : Addr} {Qd : Hp → Prop}
    (Pv : Nat → Hp → Prop) (h0 : Pv 0 (upd H1 D (.lst []))) (hl : ∀ i H, i ≤ m → Pv i H → Rws K H ls rows m)
    (hs : ∀ i T H, i < m → Pv i H → H T = none → g (.ref T) (wipe σ vs) (upd H T (.tup (colV rows i))) fun σ2 H2 => wipe σ2 vs = wipe σ vs ∧ tt σ2 H2 fun b H3 =>
      if b = true then (te σ2 H3 fun y H4 => ∃ acc, H4 D = some (.lst acc) ∧ acc.length < sizeLine ∧ Pv (i + 1) (upd H4 D (.lst (acc ++ [y])))) else Pv (i + 1) H3) (hd : ∀ H, Pv m H → Qd H) :
    ∃ W : Nat → Nat → Hp → Prop, (∃ m, W 0 m (upd H1 D (.lst []))) ∧ ∀ i m0 H, W i m0 H → ((ItzN K ls rows m).stop i H ∧ Qd H) ∨ ((ItzN K ls rows m).go i H ∧
      ∃ Nx : Hp → Prop, (∀ H', Nx H' → ∃ m', m' < m0 ∧ W (i + 1) m' H') ∧ ∀ x H', (ItzN K ls rows m).yld i H x H' → g x (wipe σ vs) H' fun σ2 H2 => wipe σ2 vs = wipe σ vs ∧
        tt σ2 H2 fun b H3 => if b = true then (te σ2 H3 fun y H4 => ∃ acc, H4 D = some (.lst acc) ∧ acc.length < sizeLine ∧ Nx (upd H4 D (.lst (acc ++ [y])))) else Nx H3) := by
  refine ⟨fun i m0 H => m0 = m - i ∧ i ≤ m ∧ Pv i H, ⟨m, by simp, Nat.zero_le _, h0⟩, ?_⟩
  rintro i _ H ⟨rfl, hi, p⟩
  have q := hl i H hi p
  by_cases hlt : i < m
  · refine .inr ⟨⟨hlt, q⟩, Pv (i + 1), fun H' p' => ⟨m - (i + 1), by omega, rfl, hlt, p'⟩, fun x H' y => ?_⟩
    obtain ⟨T, rfl, nT, rfl⟩ := y
    exact hs i T H hlt p nT
  · obtain rfl : i = m := by omega
    exact .inl ⟨⟨rfl, q⟩, hd H p⟩

end DD
namespace DD
open PySem PySem.Spec PyProof.Rows L2 RZ
theorem walk_enT {K : PySem.W.Frag} {a : Addr} {xs : List V} {c : Int} : Walk (ItEnT K a c) xs.length (fun H => SqT K H a xs) (YPair (fun i => some (.int (c + (i : Nat)))) (fun i => xs[i]?)) := by
  refine ⟨fun i _ hi q => ⟨xs, xs[i], q, by simp [hi]⟩, fun _ q => ⟨xs, q, Nat.le_refl _⟩, fun i H v H' _ q y => ?_⟩
  obtain ⟨T, x, h1, h2, h3, h4⟩ := y
  exact ⟨T, .int (c + (i : Nat)), x, h1, h2, h3, rfl, h4 xs q⟩

/-! ### two clauses in one comprehension -/
section
variable {J J1 : It} {n n1 : Nat} {G G1 : Hp → Prop} {Y Y1 : Nat → Hp → V → Hp → Prop}
theorem lc2_it (w : Walk J n G Y) {g g1 : TG} {tt tt1 : TT} {te : TE} {wi1 : TI} {vs vs1 : List Nat} {σ : L2.St} {H1 : Hp} {D : Addr} {Qd : Hp → Prop} (Pv : Nat → Hp → Prop) (h0 : Pv 0 (upd H1 D (.lst []))) (hG : ∀ i H, i ≤ n → Pv i H → G H)
    (hs : ∀ i x H H', i < n → Pv i H → Y i H x H' → g x (wipe σ vs) H' fun σ2 H2 => wipe σ2 vs = wipe σ vs ∧ tt σ2 H2 fun b H3 =>
      if b = true then wi1 σ2 H3 fun J1 H4 => ∃ W1 : Nat → Nat → Hp → Prop, (∃ m, W1 0 m H4) ∧ ∀ j k H, W1 j k H →
      (J1.stop j H ∧ Pv (i + 1) H) ∨ (J1.go j H ∧ ∃ Nx1 : Hp → Prop, (∀ H', Nx1 H' → ∃ k', k' < k ∧ W1 (j + 1) k' H') ∧ ∀ x H', J1.yld j H x H' → g1 x (wipe σ2 vs1) H' fun σ3 H5 => wipe σ3 vs1 = wipe σ2 vs1 ∧ tt1 σ3 H5 fun b H6 =>
        if b = true then te σ3 H6 fun y H7 => ∃ acc, H7 D = some (.lst acc) ∧ acc.length < sizeLine ∧ Nx1 (upd H7 D (.lst (acc ++ [y]))) else Nx1 H6)
      else Pv (i + 1) H3) (hd : ∀ H, Pv n H → Qd H) :
    ∃ W : Nat → Nat → Hp → Prop, (∃ m, W 0 m (upd H1 D (.lst []))) ∧ ∀ i m H, W i m H →
  (J.stop i H ∧ Qd H) ∨ (J.go i H ∧ ∃ Nx : Hp → Prop, (∀ H', Nx H' → ∃ m', m' < m ∧ W (i + 1) m' H') ∧ ∀ x H', J.yld i H x H' → g x (wipe σ vs) H' fun σ2 H2 => wipe σ2 vs = wipe σ vs ∧ tt σ2 H2 fun b H3 =>
    if b = true then wi1 σ2 H3 fun J1 H4 => ∃ W1 : Nat → Nat → Hp → Prop, (∃ m, W1 0 m H4) ∧ ∀ j k H, W1 j k H →
      (J1.stop j H ∧ Nx H) ∨ (J1.go j H ∧ ∃ Nx1 : Hp → Prop, (∀ H', Nx1 H' → ∃ k', k' < k ∧ W1 (j + 1) k' H') ∧ ∀ x H', J1.yld j H x H' → g1 x (wipe σ2 vs1) H' fun σ3 H5 => wipe σ3 vs1 = wipe σ2 vs1 ∧ tt1 σ3 H5 fun b H6 =>
        if b = true then te σ3 H6 fun y H7 => ∃ acc, H7 D = some (.lst acc) ∧ acc.length < sizeLine ∧ Nx1 (upd H7 D (.lst (acc ++ [y]))) else Nx1 H6)
    else Nx H3) := by
  refine ⟨fun i m H => m = n - i ∧ i ≤ n ∧ Pv i H, ⟨n, by simp, Nat.zero_le _, h0⟩, ?_⟩
  rintro i m H ⟨rfl, hi, p⟩
  have q := hG i H hi p
  by_cases hlt : i < n
  · refine .inr ⟨w.goes i H hlt q, Pv (i + 1), fun H' p' => ⟨n - (i + 1), by omega, rfl, hlt, p'⟩, fun x H' y => hs i x H H' hlt p (w.yields i H x H' hlt q y)⟩
  · have e : i = n := by omega
    subst e
    exact .inl ⟨w.stops H q, hd H p⟩
theorem lci_it (w : Walk J1 n1 G1 Y1) {g1 : TG} {tt1 : TT} {te : TE} {vs1 : List Nat} {σ2 : L2.St} {H4 : Hp} {D : Addr} {Nx : Hp → Prop} (Pv : Nat → Hp → Prop) (h0 : Pv 0 H4) (hG : ∀ i H, i ≤ n1 → Pv i H → G1 H)
    (hs : ∀ j x H H', j < n1 → Pv j H → Y1 j H x H' → g1 x (wipe σ2 vs1) H' fun σ3 H5 => wipe σ3 vs1 = wipe σ2 vs1 ∧ tt1 σ3 H5 fun b H6 =>
        if b = true then te σ3 H6 fun y H7 => ∃ acc, H7 D = some (.lst acc) ∧ acc.length < sizeLine ∧ Pv (j + 1) (upd H7 D (.lst (acc ++ [y]))) else Pv (j + 1) H6) (hd : ∀ H, Pv n1 H → Nx H) :
    ∃ W1 : Nat → Nat → Hp → Prop, (∃ m, W1 0 m H4) ∧ ∀ j k H, W1 j k H →
      (J1.stop j H ∧ Nx H) ∨ (J1.go j H ∧ ∃ Nx1 : Hp → Prop, (∀ H', Nx1 H' → ∃ k', k' < k ∧ W1 (j + 1) k' H') ∧ ∀ x H', J1.yld j H x H' → g1 x (wipe σ2 vs1) H' fun σ3 H5 => wipe σ3 vs1 = wipe σ2 vs1 ∧ tt1 σ3 H5 fun b H6 =>
        if b = true then te σ3 H6 fun y H7 => ∃ acc, H7 D = some (.lst acc) ∧ acc.length < sizeLine ∧ Nx1 (upd H7 D (.lst (acc ++ [y]))) else Nx1 H6) := by
  refine ⟨fun i m H => m = n1 - i ∧ i ≤ n1 ∧ Pv i H, ⟨n1, by simp, Nat.zero_le _, h0⟩, ?_⟩
  rintro i m H ⟨rfl, hi, p⟩
  have q := hG i H hi p
  by_cases hlt : i < n1
  · refine .inr ⟨w.goes i H hlt q, Pv (i + 1), fun H' p' => ⟨n1 - (i + 1), by omega, rfl, hlt, p'⟩, fun x H' y => hs i x H H' hlt p (w.yields i H x H' hlt q y)⟩
  · have e : i = n1 := by omega
    subst e
    exact .inl ⟨w.stops H q, hd H p⟩
end
end DD
namespace DD
open PySem PySem.Spec PyProof.Rows L2 RZ
/-! ### enumerate(zip(*rows)) -/
theorem nat7 {p n j L : Nat} (h1 : p = n + L + 3) (h2 : p = n + j) (h3 : j < L) : False := by omega
def zfp (z TI TO : Addr) (ps : List (Addr × Addr)) : List Addr := z :: TI :: TO :: ps.map (·.1)
theorem ZSt.keeps {h h' : Heap} {z TI TO : Addr} {ps : List (Addr × Addr)} {k : Nat} (S : ZSt h z TI TO ps k) (q : ∀ b ∈ zfp z TI TO ps, ∀ o, h.get? b = some o → h'.get? b = some o) : ZSt h' z TI TO ps k := by
  obtain ⟨⟨f0, f1, hz, hf⟩, hTI, ⟨arr, ha, hTO⟩, hits⟩ := S
  refine ⟨⟨f0, f1, q _ (by simp [zfp]) _ hz, hf⟩, q _ (by simp [zfp]) _ hTI, ⟨arr, ha, q _ (by simp [zfp]) _ hTO⟩, fun p hp => ?_⟩
  obtain ⟨o, e, c⟩ := hits p hp
  exact ⟨o, q _ (by
    refine List.mem_cons_of_mem _ (List.mem_cons_of_mem _ (List.mem_cons_of_mem _ ?_))
    exact List.mem_map_of_mem hp) _ e, c⟩
section
variable {prog : Program} {w : World} {A : Around} {E : Value → Shared → Prop} {s : Shared} {z TI TO : Addr} {ps : List (Addr × Addr)} {k : Nat}
theorem nextOf_zn_item {vs : List Value} {Q : Value → Shared → Prop} (D : ZApart z TI TO ps) (hn : 1 ≤ ps.length) (hn2 : ps.length ≤ 1000) (S : ZSt s.heap z TI TO ps k)
    (hv : vs.length = ps.length) (hi : ∀ (j : Nat) (p : Addr × Addr), ps[j]? = some p → ∃ xs, s.heap.IsTuple p.2 xs ∧ xs[k]? = vs[j]?)
    (hQ : ∀ h', ZSt h' z TI TO ps (k + 1) → h'.get? s.heap.objs.size = some (tObj vs.toArray) → h'.objs.size = s.heap.objs.size + 1 →
      (∀ c o, c ≠ z → c ≠ TO → (∀ p ∈ ps, c ≠ p.1) → s.heap.get? c = some o → h'.get? c = some o) → Q (.ref s.heap.objs.size) { s with heap := h' }) :
    wpAny (model prog w) A (Builtin.SmallTypes.nextOf (.ref z)) Q E s := by
  obtain ⟨f0, f1, hz, hf0⟩ := S.zz
  have hT : s.TypeIs (.ref z) "zip" := ⟨_, hz, rfl⟩
  unfold Builtin.SmallTypes.nextOf
  exact wpAny_bind (wpAny_callSpecial?_slot (name := Str.ofString "__next__") hT F.slot_zip_next
    (wpAny_call_entry F.slot_zip_next hT F.entry_zip_next (zn_item D hn hn2 S hv hi fun h' a1 a2 a3 a4 => wpAny_pure (hQ h' a1 a2 a3 a4)) (F.args_zip_next_1 _)))
theorem nextOf_zn_end {Q : Value → Shared → Prop} (hh : A.handled = none) (D : ZApart z TI TO ps) (S : ZSt s.heap z TI TO ps k) {p : Addr × Addr} {r : List (Addr × Addr)} {xs : Array Value}
    (hps : ps = p :: r) (hl : s.heap.IsTuple p.2 xs) (hx : xs[k]? = none)
    (hE : ∀ h' e, (∀ c o, c ≠ z → c ≠ TO → (∀ p ∈ ps, c ≠ p.1) → s.heap.get? c = some o → h'.get? c = some o) →
      (∃ o, h'.get? e = some o ∧ o.cls = .type "StopIteration") → E (.ref e) { s with heap := h' }) :
    wpAny (model prog w) A (Builtin.SmallTypes.nextOf (.ref z)) Q E s := by
  obtain ⟨f0, f1, hz, hf0⟩ := S.zz
  have hT : s.TypeIs (.ref z) "zip" := ⟨_, hz, rfl⟩
  unfold Builtin.SmallTypes.nextOf
  exact wpAny_bind (wpAny_callSpecial?_slot (name := Str.ofString "__next__") hT F.slot_zip_next
    (wpAny_call_entry F.slot_zip_next hT F.entry_zip_next (zn_end hh D S hps hl hx hE) (F.args_zip_next_1 _)))

theorem ez_next_item {e : Addr} {c : Int} {old : Value} {vs : List Value} {Q : Value → Shared → Prop} (D : ZApart z TI TO ps) (hn : 1 ≤ ps.length) (hn2 : ps.length ≤ 1000)
    (he : IsEnum s.heap e z c old) (S : ZSt s.heap z TI TO ps k) (hv : vs.length = ps.length) (hi : ∀ (j : Nat) (p : Addr × Addr), ps[j]? = some p → ∃ xs, s.heap.IsTuple p.2 xs ∧ xs[k]? = vs[j]?)
    (hef : e ∉ zfp z TI TO ps)
    (hQ : ∀ h' tk, IsEnumOut h' e z (c + 1) (.ref s.heap.objs.size) (s.heap.objs.size + 1) → ZSt h' z TI TO ps (k + 1) → h'.get? s.heap.objs.size = some (tObj vs.toArray) →
      h'.get? (s.heap.objs.size + 1) = some { cls := .type "tuple", data := .seq #[.int c tk, .ref s.heap.objs.size] } → h'.objs.size = s.heap.objs.size + 2 →
      (∀ b o, b ≠ e → b ≠ z → b ≠ TO → (∀ p ∈ ps, b ≠ p.1) → s.heap.get? b = some o → h'.get? b = some o) → Q (.ref (s.heap.objs.size + 1)) { s with heap := h', toks := tk + 1 }) :
    wpAny (model prog w) A (Builtin.«enumerate.__next__» ⟨[.ref e], []⟩) (fun fin s' => ∃ v, fin = .done (.ret v) ∧ Q v s') E s := by
  obtain ⟨hp, g, d, tk, os⟩ := s
  have e1 : e ≠ z := fun q => hef (by rw [q]; simp [zfp])
  have e2 : e ≠ TO := fun q => hef (by rw [q]; simp [zfp])
  have e3 : ∀ p ∈ ps, e ≠ p.1 := fun p hpp q => hef (by
    rw [q]
    refine List.mem_cons_of_mem _ (List.mem_cons_of_mem _ (List.mem_cons_of_mem _ ?_))
    exact List.mem_map_of_mem hpp)
  show wpAny _ _ (field (.ref e) 2 >>= _) _ _ _
  refine wpAny_bind (wpAny_field he rfl (x := .ref z) rfl ?_)
  refine wpAny_bind (nextOf_zn_item D hn hn2 S hv hi fun h₁ S₁ hT₁ hz₁ hk₁ => ?_)
  replace hT₁ : h₁.get? hp.objs.size = some (tObj vs.toArray) := hT₁
  replace hz₁ : h₁.objs.size = hp.objs.size + 1 := hz₁
  replace hk₁ : ∀ c o, c ≠ z → c ≠ TO → (∀ p ∈ ps, c ≠ p.1) → hp.get? c = some o → h₁.get? c = some o := hk₁
  have he₁ : IsEnum h₁ e z c old := hk₁ e _ e1 e2 e3 he
  have hel : e < hp.objs.size := Heap.lt_size he
  show wpAny _ _ (field (.ref e) 3 >>= _) _ _ ⟨h₁, g, d, tk, os⟩
  refine wpAny_bind (wpAny_field he₁ rfl (x := rawInt c) rfl ?_)
  show wpAny _ _ (field (.ref e) 4 >>= _) _ _ ⟨h₁, g, d, tk, os⟩
  refine wpAny_bind (wpAny_field he₁ rfl (x := .none) rfl ?_)
  show wpAny _ _ (mkInt c >>= _) _ _ ⟨h₁, g, d, tk, os⟩
  refine wpAny_bind (wpAny_mkInt ?_)
  show wpAny _ _ (setField (.ref e) 3 (rawInt (c + 1)) >>= _) _ _ ⟨h₁, g, d, tk + 1, os⟩
  refine wpAny_bind (wpAny_setField_rec he₁ (by simp) fun h₂ he₂ hs₂ => ?_)
  replace hs₂ : Heap.SameBut e h₁ h₂ := hs₂
  replace he₂ : IsEnum h₂ e z (c + 1) old := he₂
  show wpAny _ _ (setField (.ref e) 4 .none >>= _) _ _ ⟨h₂, g, d, tk + 1, os⟩
  refine wpAny_bind (wpAny_setField_rec he₂ (by simp) fun h₃ he₃ hs₃ => ?_)
  replace hs₃ : Heap.SameBut e h₂ h₃ := hs₃
  replace he₃ : IsEnum h₃ e z (c + 1) old := he₃
  show wpAny _ _ (newTuple [.int c tk, .ref hp.objs.size] >>= _) _ _ ⟨h₃, g, d, tk + 1, os⟩
  refine wpAny_bind (wpAny_newTuple ?_)
  have he₄ : IsEnum (h₃.push { cls := .type "tuple", data := .seq #[.int c tk, .ref hp.objs.size] }) e z (c + 1) old := Heap.get?_push_of_some _ he₃
  generalize hh₄ : h₃.push { cls := .type "tuple", data := .seq #[.int c tk, .ref hp.objs.size] } = h₄ at he₄
  have hsz : h₃.objs.size = hp.objs.size + 1 := by rw [hs₃.1, hs₂.1, hz₁]
  have ht₄ : h₄.get? (hp.objs.size + 1) = some { cls := .type "tuple", data := .seq #[.int c tk, .ref hp.objs.size] } := by rw [← hh₄, ← hsz]; exact Heap.get?_push_size _ rfl
  have hz₄ : h₄.objs.size = hp.objs.size + 2 := by rw [← hh₄, Heap.size_push, hsz]
  have hk₁₄ : ∀ b o, b ≠ e → h₁.get? b = some o → h₄.get? b = some o := fun b o hbe hb => by
    rw [← hh₄]; exact Heap.get?_push_of_some _ (hs₃.extBut b o hbe (hs₂.extBut b o hbe hb))
  have S₄ : ZSt h₄ z TI TO ps (k + 1) := S₁.keeps fun b hb o y => hk₁₄ b o (fun q => hef (q ▸ hb)) y
  have hT₄ := hk₁₄ hp.objs.size _ (Nat.ne_of_gt hel) hT₁
  have hk₄ : ∀ b o, b ≠ e → b ≠ z → b ≠ TO → (∀ p ∈ ps, b ≠ p.1) → hp.get? b = some o → h₄.get? b = some o := fun b o c1 c2 c3 c4 y => hk₁₄ b o c1 (hk₁ b o c2 c3 c4 y)
  show wpAny _ _ (Builtin.SmallTypes.ownedTupleIsFree (.ref e) >>= _) _ _ ⟨h₄, g, d, tk + 1, os⟩
  rw [hsz]
  clear hh₄ he₃ hs₃ he₂ hs₂ he₁ hsz hk₁₄ S₁ hT₁ hz₁ hk₁ h₃ h₂ h₁
  refine wpAny_bind ?_
  · unfold Builtin.SmallTypes.ownedTupleIsFree
    refine wpAny_bind (wpAny_field he₄ rfl (x := .none) rfl (wpAny_pure ?_))
    simp only [if_true]
    refine wpAny_bind (wpAny_rule ?_)
    refine wpAny_bind (wpAny_field he₄ rfl (x := old) rfl ?_)
    refine wpAny_bind (wpAny_setField_rec he₄ (by simp) fun h₅ he₅ hs₅ => ?_)
    replace hs₅ : Heap.SameBut e h₄ h₅ := hs₅
    replace he₅ : IsEnum h₅ e z (c + 1) (.ref hp.objs.size) := he₅
    show wpAny _ _ (Builtin.SmallTypes.ownedTupleHandOut (.ref e) (.ref (hp.objs.size + 1)) >>= _) _ _ ⟨h₅, g, d, tk + 1, os⟩
    refine wpAny_bind ?_
    · unfold Builtin.SmallTypes.ownedTupleHandOut
      refine wpAny_bind (wpAny_setField_rec he₅ (by simp) fun h₆ he₆ hs₆ => ?_)
      replace hs₆ : Heap.SameBut e h₅ h₆ := hs₆
      replace he₆ : IsEnumOut h₆ e z (c + 1) (.ref hp.objs.size) (hp.objs.size + 1) := he₆
      refine wpAny_setField_rec he₆ (by simp) fun h₇ he₇ hs₇ => ?_
      replace hs₇ : Heap.SameBut e h₆ h₇ := hs₇
      replace he₇ : IsEnumOut h₇ e z (c + 1) (.ref hp.objs.size) (hp.objs.size + 1) := he₇
      have hk₇ : ∀ b o, b ≠ e → h₄.get? b = some o → h₇.get? b = some o := fun b o hbe y => hs₇.extBut b o hbe (hs₆.extBut b o hbe (hs₅.extBut b o hbe y))
      refine wpAny_bind (wpAny_letGo (wpAny_pure ⟨_, rfl, hQ h₇ tk he₇ ?_ ?_ ?_ ?_ ?_⟩))
      · exact S₄.keeps fun b hb o y => hk₇ b o (fun q => hef (q ▸ hb)) y
      · exact hk₇ _ _ (Nat.ne_of_gt hel) hT₄
      · exact hk₇ _ _ (by have : e < hp.objs.size := hel; exact Nat.ne_of_gt (Nat.lt_succ_of_lt this)) ht₄
      · rw [hs₇.1, hs₆.1, hs₅.1, hz₄]
      · exact fun b o c1 c2 c3 c4 hb => hk₇ b o c1 (hk₄ b o c1 c2 c3 c4 hb)
end

theorem meets_enum_newZ (z TI TO : Addr) (ps : List (Addr × Addr)) (k : Nat) : Meets (Builtin.«enumerate.__new__» ⟨[.type "enumerate", .ref z], []⟩) (fun _ R s => ZSt s.heap z TI TO ps k ∧
      R (.ok (.ret (.ref s.heap.objs.size))) { s with heap := s.heap.push { cls := .type "enumerate", data := .fields #[.none, .bool false, .ref z, rawInt 0, .none, .none] } }) :=
  .of_wp fun prog w A R s h => by
    obtain ⟨hp, g, d, tk, os⟩ := s
    obtain ⟨hS, h⟩ := h
    have hsub := sub_enumerate
    have hS' : ZSt (Shared.heap ⟨hp, g, d, tk, os⟩) z TI TO ps k := hS
    wp_walk
    refine wpAny_stack_any fun st => wpAny_pure ?_
    split
    · rename_i c _ _ _ _ _
      cases (c == Value.type "enumerate")
      · wp_walk using pyIter_zn hS'
        exact ⟨_, rfl, h⟩
      · wp_walk using pyIter_zn hS'
        exact ⟨_, rfl, h⟩
    · wp_walk using pyIter_zn hS'
      exact ⟨_, rfl, h⟩
section
variable {prog : Program} {w : World} {A : Around} {E : Value → Shared → Prop} {s : Shared}
theorem call_enumZ {z TI TO : Addr} {ps : List (Addr × Addr)} {k : Nat} {Q : Value → Shared → Prop} (hS : ZSt s.heap z TI TO ps k)
    (h : ∀ h', IsEnum h' s.heap.objs.size z 0 .none → (∀ b o, s.heap.get? b = some o → h'.get? b = some o) → Q (.ref s.heap.objs.size) { s with heap := h' }) :
    wpAny (model prog w) A (call (.type "enumerate") [.ref z]) Q E s := by
  refine callType_new F.called_enumerate (by decide) (F.typeCall_enumerate_1 _) (F.newCall_enumerate_1 _) (fun obj => F.args_object_init_2 obj _) F.entry_enumerate_new
    (meets_enum_newZ z TI TO ps k) ⟨hS, ?_⟩
  have he : IsEnum (s.heap.push { cls := .type "enumerate", data := .fields #[.none, .bool false, .ref z, rawInt 0, .none, .none] }) s.heap.objs.size z 0 .none := Heap.get?_push_size _ rfl
  exact ⟨⟨_, he, rfl⟩, h _ he fun b o x => Heap.get?_push_of_some _ x⟩
end

def ItEz (K : PySem.W.Frag) (ls : List Addr) (rows : List (List V)) (m : Nat) : It :=
  ⟨fun i H => i < m ∧ Rws K H ls rows m, fun i H v H' => ∃ T U, v = .ref U ∧ H T = none ∧ T ≠ U ∧ H U = none ∧ H' = upd (upd H T (.tup (colV rows i))) U (.tup [.int ((0 : Int) + (i : Nat)), .ref T]), fun i H => i = m ∧ Rws K H ls rows m⟩
theorem turn_ez {P : Program} {w : World} {K : PySem.W.Frag} {elts : List Expr} {kk : Nat} {tpos : Pos} {n m : Nat} {ls : List Addr} {rows : List (List V)} (h1 : 1 ≤ ls.length) (h2 : ls.length ≤ 4) (hlt : ∀ l ∈ ls, l < n) {e : Addr}
    (hef : e ∉ zfp (n + ls.length + 2) (n + ls.length) (n + ls.length + 1) (zps n ls)) :
    Turn P w K (.Tuple elts kk tpos) (ItEz K ls rows m) (e :: zfp (n + ls.length + 2) (n + ls.length) (n + ls.length + 1) (zps n ls)) e
      (fun i h => (∃ old, IsEnum h e (n + ls.length + 2) ((0 : Int) + (i : Nat)) old) ∧ ZSt h (n + ls.length + 2) (n + ls.length) (n + ls.length + 1) (zps n ls) i) where
  mem := List.mem_cons_self
  obj := fun i h S b hb => by
    obtain ⟨⟨old, he⟩, ⟨⟨f0, f1, hz, _⟩, hTI, ⟨arr, _, hTO⟩, hits⟩⟩ := S
    rcases List.mem_cons.mp hb with rfl | hb
    · exact ⟨_, he, fun v q => nomatch q⟩
    rcases List.mem_cons.mp hb with rfl | hb
    · exact ⟨_, hz, fun v q => nomatch q⟩
    rcases List.mem_cons.mp hb with rfl | hb
    · exact ⟨_, hTI, fun v q => nomatch q⟩
    rcases List.mem_cons.mp hb with rfl | hb
    · exact ⟨_, hTO, fun v q => nomatch q⟩
    obtain ⟨p, hp, rfl⟩ := List.mem_map.mp hb
    obtain ⟨o, e, _, d⟩ := hits p hp
    exact ⟨o, e, fun v q => by rw [d] at q; cases q⟩
  keep := fun i h h' S k => by
    obtain ⟨⟨old, he⟩, S⟩ := S
    exact ⟨⟨old, k e (by simp) _ he⟩, S.keeps fun b hb o y => k b (List.mem_cons_of_mem _ hb) o y⟩
  item := by
    intro X hP hw hK hc i pins s σ H E I hf S hg
    subst hP hw hK
    obtain ⟨⟨old, he⟩, S⟩ := S
    obtain ⟨hi, R⟩ := hg
    obtain ⟨us, hv, hx⟩ := R.vals I hi
    have hul : us.length = ls.length := by rw [← hv.length, R.len]; simp [colV]
    have D := zapart hlt
    have hT : s.TypeIs (.ref e) "enumerate" := ⟨_, he, rfl⟩
    have hfz : ∀ b ∈ e :: zfp (n + ls.length + 2) (n + ls.length) (n + ls.length + 1) (zps n ls), b < s.heap.objs.size := fun b hb => by
      rcases List.mem_cons.mp hb with rfl | hb
      · exact Heap.lt_size he
      obtain ⟨⟨f0, f1, hz, _⟩, hTI, ⟨arr, _, hTO⟩, hits⟩ := S
      rcases List.mem_cons.mp hb with rfl | hb
      · exact Heap.lt_size hz
      rcases List.mem_cons.mp hb with rfl | hb
      · exact Heap.lt_size hTI
      rcases List.mem_cons.mp hb with rfl | hb
      · exact Heap.lt_size hTO
      obtain ⟨p, hp, rfl⟩ := List.mem_map.mp hb
      obtain ⟨o, e, _⟩ := hits p hp
      exact Heap.lt_size e
    unfold pyNext
    refine wpAny_bind (wpAny_attempt (wpAny_callSpecial?_slot (name := Str.ofString "__next__") hT F.slot_enumerate_next
      (wpAny_call_entry F.slot_enumerate_next hT F.entry_enumerate_next
        (ez_next_item D (by rw [zps_length]; exact h1) (by rw [zps_length]; omega) he S (vs := us) (by rw [zps_length]; exact hul) (fun j p e => ?_) hef fun h' tk ho S' hTu hU hsz hk => wpAny_pure ?_) (F.args_enumerate_next_1 _))))
    · rw [zps_get] at e
      cases ea : ls[j]? with
      | none => rw [ea] at e; cases e
      | some a =>
        rw [ea] at e
        obtain rfl : (n + j, a) = p := Option.some.inj e
        exact hx j a ea
    · refine ⟨_, rfl, wpAny_letOwnedTupleGo_enum (s := { s with heap := h', toks := tk + 1 }) ho fun h'' he' sb => ?_⟩
      have hcl : (colV rows i).length ≤ sizeLine := by
        rw [hv.length, hul, sizeLine_eq]
        omega
      have hel : e < s.heap.objs.size := hfz e List.mem_cons_self
      have hk2 : ∀ b o, b ∉ e :: zfp (n + ls.length + 2) (n + ls.length) (n + ls.length + 1) (zps n ls) → s.heap.get? b = some o → h''.get? b = some o := fun b o hb q =>
        (sb.2 b (fun z => hb (by simp [z]))).trans (hk b o (fun z => hb (by simp [z])) (fun z => hb (by simp [z, zfp])) (fun z => hb (by simp [z, zfp])) (fun p hp z => hb (by
          refine List.mem_cons_of_mem _ (List.mem_cons_of_mem _ (List.mem_cons_of_mem _ (List.mem_cons_of_mem _ ?_)))
          rw [z]
          exact List.mem_map_of_mem hp)) q)
      have hTu2 : h''.get? s.heap.objs.size = some (tObj us.toArray) := (sb.2 _ (Nat.ne_of_gt hel)).trans hTu
      have hU2 : h''.get? (s.heap.objs.size + 1) = some { cls := .type "tuple", data := .seq #[.int ((0 : Int) + (i : Nat)) tk, .ref s.heap.objs.size] } := (sb.2 _ (Nat.ne_of_gt (Nat.lt_succ_of_lt hel))).trans hU
      have new1 : ObjOk X.prog X.w (upd H s.heap.objs.size (.tup (colV rows i))) (s.heap.push (tObj us.toArray)) s.heap.objs.size (.tup (colV rows i)) := ⟨hcl, us, hv, ⟨_, Heap.get?_push_size _ rfl, rfl, _, rfl⟩⟩
      have I1 : Inv X pins σ (upd H s.heap.objs.size (.tup (colV rows i))) { s with heap := s.heap.push (tObj us.toArray), toks := s.toks } :=
        I.laid (fun b o q => Heap.get?_push_of_some _ q) (Nat.le_refl _) new1
      have hz1 : (s.heap.push (tObj us.toArray)).objs.size = s.heap.objs.size + 1 := Heap.size_push ..
      have new2 : ObjOk X.prog X.w (upd (upd H s.heap.objs.size (.tup (colV rows i))) (s.heap.objs.size + 1) (.tup [.int ((0 : Int) + (i : Nat)), .ref s.heap.objs.size])) h'' (s.heap.objs.size + 1) (.tup [.int ((0 : Int) + (i : Nat)), .ref s.heap.objs.size]) :=
        ⟨by show 2 ≤ sizeLine; decide, [.int ((0 : Int) + (i : Nat)) tk, .ref s.heap.objs.size], .cons ⟨_, rfl⟩ (.cons rfl .nil), ⟨_, hU2, rfl, _, rfl⟩⟩
      have hf1 : ∀ b ∈ e :: zfp (n + ls.length + 2) (n + ls.length) (n + ls.length + 1) (zps n ls), FpOk X pins (upd H s.heap.objs.size (.tup (colV rows i))) b := fun b hb => by
        refine ⟨?_, (hf b hb).2⟩
        rw [upd_ne (Nat.ne_of_lt (hfz b hb))]
        exact (hf b hb).1
      have I2 : Inv X pins σ (upd (upd H s.heap.objs.size (.tup (colV rows i))) (s.heap.objs.size + 1) (.tup [.int ((0 : Int) + (i : Nat)), .ref s.heap.objs.size])) { s with heap := h'', toks := tk + 1 } := by
        refine I1.turnedNew (t' := tk + 1) (fun b o hb q => ?_) hf1 (Nat.le_of_eq hz1) new2
        rcases Heap.get?_push_cases q with ⟨hbN, ho2⟩ | q3
        · rw [hbN, ho2]
          exact hTu2
        · exact hk2 b o hb q3
      have hT0 : H s.heap.objs.size = none := I.hok.fresh (Nat.le_refl _)
      have hU0 : H (s.heap.objs.size + 1) = none := I.hok.fresh (Nat.le_succ _)
      have S2 : ZSt h'' (n + ls.length + 2) (n + ls.length) (n + ls.length + 1) (zps n ls) (i + 1) := S'.keeps fun b hb o y => (sb.2 b (fun z => hef (z ▸ hb))).trans y
      refine ⟨.ref (s.heap.objs.size + 1), _, I2, rfl, ⟨_, _, rfl, hT0, Nat.ne_of_lt (Nat.lt_succ_self _), hU0, rfl⟩, ⟨⟨.ref s.heap.objs.size, ?_⟩, S2⟩, fun b hb => ?_⟩
      · have e1 : (0 : Int) + ((i + 1 : Nat) : Int) = (0 : Int) + (i : Int) + 1 := by omega
        rw [e1]
        exact he'
      · have hb' := hfz b hb
        rw [upd_ne (Nat.ne_of_lt (Nat.lt_succ_of_lt hb')), upd_ne (Nat.ne_of_lt hb')]
        exact (hf b hb).1
  done := by
    intro X hP hw hK hc i pins s σ H E I hf S hg
    subst hP hw hK
    obtain ⟨⟨old, he⟩, S⟩ := S
    obtain ⟨rfl, R⟩ := hg
    have hT : s.TypeIs (.ref e) "enumerate" := ⟨_, he, rfl⟩
    cases hls : ls with
    | nil => rw [hls] at h1; simp at h1
    | cons a r =>
      cases hrw : rows with
      | nil => have := R.len; rw [hls, hrw] at this; simp at this
      | cons q rr =>
        obtain ⟨hq, hl⟩ := R.at_ 0 a q (by rw [hls]; rfl) (by rw [hrw]; rfl)
        obtain ⟨its, rv, ⟨o, ho, hc', n', hd⟩, _⟩ := I.tuple hq
        have hps : zps n ls = (n, a) :: (zps n ls).tail := by
          rw [hls]
          simp [zps]
        unfold pyNext
        refine wpAny_bind (wpAny_attempt (wpAny_callSpecial?_slot (name := Str.ofString "__next__") hT F.slot_enumerate_next
          (wpAny_call_entry F.slot_enumerate_next hT F.entry_enumerate_next ?_ (F.args_enumerate_next_1 _))))
        show wpAny _ _ (field (.ref e) 2 >>= _) _ _ _
        refine wpAny_bind (wpAny_field he rfl (x := .ref (n + ls.length + 2)) rfl ?_)
        refine wpAny_bind (nextOf_zn_end (I.ok.hd hc) (zapart hlt) S hps (xs := its.toArray) ⟨o, ho, hc', n', hd⟩ ?_ fun h' e' hk he' => ?_)
        · have := rv.length
          rw [List.getElem?_toArray, List.getElem?_eq_none (by omega)]
        · obtain ⟨o2, ho2, hc2⟩ := he'
          refine wpAny_bind (wpAny_isInstance (T := "StopIteration") (b := true) ⟨o2, ho2, hc2⟩ isSubtype_stop (wpAny_pure ⟨rfl, ?_⟩))
          exact I.turnedL (t' := s.toks) (fun c o hb q => hk c o (fun z => hb (by simp [z, zfp])) (fun z => hb (by simp [z, zfp])) (fun p hp z => hb (by
            refine List.mem_cons_of_mem _ (List.mem_cons_of_mem _ (List.mem_cons_of_mem _ (List.mem_cons_of_mem _ ?_)))
            rw [z]
            exact List.mem_map_of_mem hp)) q) hf
  self := fun A i s Q E S h => by
    obtain ⟨⟨_, he⟩, _⟩ := S
    exact wpAny_pyIter_enum he h

/-- for i, x in enumerate(zip(*e)), e a list or tuple of one to four tuples of one length -/
def iEnumZ (K : PySem.W.Frag) (te : TE) : TI := fun σ H R => te σ H fun y H1 => ∃ (a : Addr) (ls : List Addr) (rows : List (List V)) (m : Nat), y = .ref a ∧ (SqT K H1 a (ls.map V.ref) ∨ SqL K H1 a (ls.map V.ref)) ∧
  1 ≤ ls.length ∧ ls.length ≤ 4 ∧ Rws K H1 ls rows m ∧ R (ItEz K ls rows m) H1
theorem pi_enumZ {X : Cx} {e : Expr} {te : TE} {p p2 pos pos2 spos tpos : Pos} {elts : List Expr} {kk : Nat} (hge : Gl X "enumerate") (hme : X.mg "enumerate" = none) (hg : Gl X "zip") (hm : X.mg "zip" = none) (he : PE X e te)
    (hst : starEach [.Starred e spos] X.env = [(true, eval e X.env)] := by rfl)
    (hs : starEach [.Call (.Name "zip" p) [.Starred e spos] [] pos] X.env = [(false, eval (.Call (.Name "zip" p) [.Starred e spos] [] pos) X.env)] := by rfl) :
    PI X (.Tuple elts kk tpos) (.Call (.Name "enumerate" p2) [.Call (.Name "zip" p) [.Starred e spos] [] pos] [] pos2) (iEnumZ X.K te) := by
  refine ⟨fun pins s σ H R I h => Call_ (ld_blt I hge hme boot_enumerate (PyProof.Rows.callWith_type1 ?_ hs rfl))⟩
  rw [hs]
  refine Calls.spliced_cons ?_
  refine wpAny_Call_Name_kw (ld_blt I hg hm PyProof.Rows.boot_zip ?_)
  rw [hst]
  refine PySem.W.ks_call (P := fun _ => True) rfl (fun h _ => ⟨.machine, .inr (.inl rfl), fun A Q E s _ q => wpAny_pure q⟩) (PySem.W.ks_lone ?_)
  refine thn (he.run pins s σ H _ I h) fun v s1 ⟨y, H1, I1, ry, a, ls, rows, m, ey, hx, h1, h2, Rw, q⟩ => ?_
  subst ey
  obtain rfl : v = Value.ref a := ry
  refine StX.star_any I1 hx fun us s2 I2 rv => ⟨trivial, ?_⟩
  obtain rfl := vals_refs rv
  have tup : ∀ l ∈ ls, ∃ xs, s2.heap.IsTuple l xs := fun l hl => by
    obtain ⟨j, hj⟩ := List.mem_iff_getElem?.mp hl
    have hjl := (List.getElem?_eq_some_iff.mp hj).1
    have hjr : rows[j]? = some (rows[j]'(by have := Rw.len; omega)) := List.getElem?_eq_getElem (by have := Rw.len; omega)
    obtain ⟨its, _, ⟨o, ho, hc, n, hd⟩, _⟩ := I2.tuple (Rw.at_ j l _ hj hjr).1
    exact ⟨its.toArray, o, ho, hc, n, hd⟩
  refine call_zipN h1 h2 tup fun h' n en S hsz hk => ?_
  have I3 : Inv X pins σ H1 { s2 with heap := h' } := I2.kept (t' := s2.toks) hk
  have hlt : ∀ l ∈ ls, l < n := fun l hl => by
    obtain ⟨xs, o, ho, _⟩ := tup l hl
    rw [en]
    exact Heap.lt_size ho
  refine Calls.spliced_nil ?_
  refine call_enumZ (s := { s2 with heap := h' }) S fun h3 hE3 hk3 => wpAny_pyIter_enum hE3 ?_
  have I4 : Inv X pins σ H1 { s2 with heap := h3 } := I3.kept (t' := s2.toks) hk3
  have hef : h'.objs.size ∉ zfp (n + ls.length + 2) (n + ls.length) (n + ls.length + 1) (zps n ls) := fun hb => by
    rw [hsz] at hb
    rcases List.mem_cons.mp hb with hb | hb
    · omega
    rcases List.mem_cons.mp hb with hb | hb
    · omega
    rcases List.mem_cons.mp hb with hb | hb
    · omega
    obtain ⟨p, hp, e⟩ := List.mem_map.mp hb
    obtain ⟨j, hj, _, ep⟩ := zps_mem hp
    exact nat7 e ep hj
  have S3 : ZSt h3 (n + ls.length + 2) (n + ls.length) (n + ls.length + 1) (zps n ls) 0 := S.keeps fun b _ o y => hk3 b o y
  refine ⟨h'.objs.size, _, _, _, H1, rfl, I4, turn_ez h1 h2 hlt hef, ⟨⟨_, hE3⟩, S3⟩, fun b hb => ?_, q⟩
  have hle : s2.heap.objs.size ≤ b := by
    rw [← en]
    rcases List.mem_cons.mp hb with rfl | hb
    · omega
    rcases List.mem_cons.mp hb with rfl | hb
    · omega
    rcases List.mem_cons.mp hb with rfl | hb
    · omega
    rcases List.mem_cons.mp hb with rfl | hb
    · omega
    obtain ⟨p, hp, rfl⟩ := List.mem_map.mp hb
    obtain ⟨j, _, _, e⟩ := zps_mem hp
    exact Nat.le_trans (Nat.le_add_right n j) (Nat.le_of_eq e.symm)
  exact I2.fpOk hle (I2.hok.fresh hle)
theorem walk_ez {K : PySem.W.Frag} {ls : List Addr} {rows : List (List V)} {m : Nat} : Walk (ItEz K ls rows m) m (fun H => Rws K H ls rows m)
    (fun i H v H' => ∃ T U, v = .ref U ∧ H T = none ∧ T ≠ U ∧ H U = none ∧ H' = upd (upd H T (.tup (colV rows i))) U (.tup [.int ((0 : Int) + (i : Nat)), .ref T])) :=
  ⟨fun _ _ hi q => ⟨hi, q⟩, fun _ q => ⟨rfl, q⟩, fun _ _ _ _ _ _ y => y⟩
end DD
namespace DD
open PySem PySem.Spec PyProof.Rows L2 RZ
/-! ### zip() of nothing -/
theorem typeCall_zipM : ∀ vs : List Value, vs.length ≤ 4 → checkTypeCall "zip" ⟨vs, []⟩ = pure ()
  | [], _ => by kernel_rfl
  | a :: vs, h => typeCall_zipN (a :: vs) (Nat.succ_pos _) h
theorem newCall_zipM : ∀ vs : List Value, vs.length ≤ 4 → checkBuiltinCall "zip.__new__" ⟨.type "zip" :: vs, []⟩ = pure ()
  | [], _ => by kernel_rfl
  | a :: vs, h => newCall_zipN (a :: vs) (Nat.succ_pos _) h
theorem args_object_initM (o : Value) : ∀ vs : List Value, vs.length ≤ 4 → argsOk "object.__init__" ⟨o :: vs, []⟩
  | [], _ => by
    unfold argsOk
    rw [signature?_of (id := "object.__init__") (n := ['_', '_', 't', 'i', 'n', 'i', '_', '_']) (o := ['t', 'c', 'e', 'j', 'b', 'o']) (by kernel_rfl) F.owner_object]
    kernel_rfl
  | a :: vs, h => args_object_initN o (a :: vs) (Nat.succ_pos _) h
section
variable {prog : Program} {w : World} {A : Around} {E : Value → Shared → Prop} {s : Shared}
theorem zip_newM {ls : List Addr} {Q : Value → Shared → Prop} (h2 : ls.length ≤ 4) (hl : ∀ l ∈ ls, ∃ xs, s.heap.IsTuple l xs)
    (hQ : ∀ h' n, n = s.heap.objs.size → ZSt h' (n + ls.length + 2) (n + ls.length) (n + ls.length + 1) (ls.zipIdx.map fun x => (n + x.2, x.1)) 0 → h'.objs.size = n + ls.length + 3 →
      (∀ c o, s.heap.get? c = some o → h'.get? c = some o) → Q (.ref (n + ls.length + 2)) { s with heap := h' }) :
    wpAny (model prog w) A (Builtin.«zip.__new__» ⟨.type "zip" :: ls.map Value.ref, []⟩) (fun fin s' => ∃ v, fin = .done (.ret v) ∧ Q v s') E s := by
  have hsub := sub_zip
  have hc : wpAny (model prog w) A (Builtin.SmallTypes.newClass "zip" ⟨.type "zip" :: ls.map Value.ref, []⟩) (fun r s' => r = (.type "zip", ls.map Value.ref) ∧ s' = s) E s := by
    unfold Builtin.SmallTypes.newClass
    wp_walk
    exact ⟨rfl, rfl⟩
  unfold Builtin.«zip.__new__»
  refine wpAny_bind (thn hc ?_)
  rintro _ _s ⟨rfl, rfl⟩
  show wpAny _ _ (Builtin.SmallTypes.iterAll (ls.map Value.ref) >>= _) _ _ _
  refine wpAny_bind (iterAll_tups hl fun h1' its hil hi hsz hk hit => ?_)
  have hsl : its.length ≤ sizeLine := by rw [hil, sizeLine_eq]; omega
  refine wpAny_bind (wpAny_newTuple ?_ hsl)
  refine wpAny_bind (wpAny_newTuple ?_ (by rw [List.length_map]; exact hsl))
  refine wpAny_bind ?_
  unfold Builtin.SmallTypes.newRecord
  refine wpAny_newObj_type ?_ (show (5 : Nat) ≤ sizeLine + 2 by rw [sizeLine_eq]; omega)
  refine wpAny_pure ⟨_, rfl, ?_⟩
  have z1 : (h1'.push (tObj its.toArray)).objs.size = h1'.objs.size + 1 := Heap.size_push ..
  have z2 : ((h1'.push (tObj its.toArray)).push (tObj (its.map fun _ => Value.none).toArray)).objs.size = h1'.objs.size + 2 := by rw [Heap.size_push, z1]
  have fin : Q (.ref ((h1'.push (tObj its.toArray)).push (tObj (its.map fun _ => Value.none).toArray)).objs.size)
      { _s with heap := ((h1'.push (tObj its.toArray)).push (tObj (its.map fun _ => Value.none).toArray)).push (zObj .none (.bool false) h1'.objs.size (h1'.push (tObj its.toArray)).objs.size) } := by
    rw [z2, z1, hsz]
    refine hQ _ _ rfl ⟨⟨.none, .bool false, ?_, .inl rfl⟩, ?_, ⟨(its.map fun _ => Value.none).toArray, ?_, ?_⟩, fun p hp => ?_⟩ ?_ fun c o e => Heap.get?_push_of_some _ (Heap.get?_push_of_some _ (Heap.get?_push_of_some _ (hk c o e)))
    · rw [← hsz, ← z2]
      exact Heap.get?_push_size _ rfl
    · have e : its = (ls.zipIdx.map fun x => (_s.heap.objs.size + x.2, x.1)).map fun p => Value.ref p.1 := by
        refine List.ext_getElem? fun i => ?_
        rw [List.map_map, List.getElem?_map, List.getElem?_zipIdx]
        by_cases hlt : i < ls.length
        · rw [hi i hlt, List.getElem?_eq_getElem hlt]
          simp
        · rw [List.getElem?_eq_none (by omega), List.getElem?_eq_none (by omega)]
          rfl
      rw [← e, ← hsz]
      exact Heap.get?_push_of_some _ (Heap.get?_push_of_some _ (Heap.get?_push_size _ rfl))
    · simp [hil]
    · rw [← hsz, ← z1]
      exact Heap.get?_push_of_some _ (Heap.get?_push_size _ rfl)
    · obtain ⟨x, hx, rfl⟩ := List.mem_map.mp hp
      obtain ⟨i, hxi⟩ := List.mem_iff_getElem?.mp hx
      rw [List.getElem?_zipIdx] at hxi
      cases hl' : ls[i]? with
      | none =>
        rw [hl'] at hxi
        cases hxi
      | some l =>
        rw [hl'] at hxi
        obtain rfl : (l, 0 + i) = x := Option.some.inj hxi
        obtain ⟨o, e, c⟩ := hit i l hl'
        refine ⟨o, ?_, c⟩
        show Heap.get? _ (_s.heap.objs.size + (0 + i)) = some o
        rw [Nat.zero_add]
        exact Heap.get?_push_of_some _ (Heap.get?_push_of_some _ (Heap.get?_push_of_some _ e))
    · rw [Heap.size_push, z2, hsz]
  exact fin
end
section
variable {prog : Program} {w : World} {A : Around} {E : Value → Shared → Prop} {s : Shared}
theorem call_zipM {ls : List Addr} {Q : Value → Shared → Prop} (h2 : ls.length ≤ 4) (hl : ∀ l ∈ ls, ∃ xs, s.heap.IsTuple l xs)
    (hQ : ∀ h' n, n = s.heap.objs.size → ZSt h' (n + ls.length + 2) (n + ls.length) (n + ls.length + 1) (zps n ls) 0 → h'.objs.size = n + ls.length + 3 →
      (∀ c o, s.heap.get? c = some o → h'.get? c = some o) → Q (.ref (n + ls.length + 2)) { s with heap := h' }) :
    wpAny (model prog w) A (call (.type "zip") (ls.map Value.ref)) Q E s := by
  have m : Meets (Builtin.«zip.__new__» ⟨.type "zip" :: ls.map Value.ref, []⟩) (fun _ R s => (∀ l ∈ ls, ∃ xs, s.heap.IsTuple l xs) ∧
      ∀ h' n, n = s.heap.objs.size → ZSt h' (n + ls.length + 2) (n + ls.length) (n + ls.length + 1) (zps n ls) 0 → h'.objs.size = n + ls.length + 3 →
        (∀ c o, s.heap.get? c = some o → h'.get? c = some o) → R (.ok (.ret (.ref (n + ls.length + 2)))) { s with heap := h' }) :=
    .of_wp fun prog w A R s h => zip_newM h2 h.1 h.2
  refine callType_new F.called_zip (by decide) (typeCall_zipM _ (by simpa using h2)) (newCall_zipM _ (by simpa using h2))
    (fun obj => args_object_initM obj _ (by simpa using h2)) F.entry_zip_new m ⟨hl, fun h' n e1 e2 e3 e4 => ?_⟩
  obtain ⟨f0, f1, hz, _⟩ := e2.zz
  exact ⟨⟨_, hz, rfl⟩, hQ h' n e1 e2 e3 e4⟩

theorem zn_end0 {z TI TO : Addr} {k : Nat} {Q : Fin → Shared → Prop} (hh : A.handled = none) (S : ZSt s.heap z TI TO [] k)
    (hE : ∀ h' e, (∀ c o, s.heap.get? c = some o → h'.get? c = some o) → (∃ o, h'.get? e = some o ∧ o.cls = .type "StopIteration") → E (.ref e) { s with heap := h' }) :
    wpAny (model prog w) A (Builtin.«zip.__next__» ⟨[.ref z], []⟩) Q E s := by
  obtain ⟨⟨f0, f1, hz, hf0⟩, hTI, ⟨arr, ha, hTO⟩, hits⟩ := S
  show wpAny _ _ (field (.ref z) 2 >>= _) _ _ _
  refine wpAny_bind (wpAny_field hz rfl (x := .bool false) rfl ?_)
  show wpAny _ _ (field (.ref z) 3 >>= _) _ _ _
  refine wpAny_bind (wpAny_field hz rfl (x := .ref TI) rfl ?_)
  refine wpAny_bind (wpAny_seqItems hTI rfl ?_)
  have hne : (([] : List (Addr × Addr)).map fun p => Value.ref p.1).toArray.isEmpty = true := rfl
  simp only [hne, if_true]
  refine wpAny_bind (wpAny_rule ?_)
  refine wpAny_bind ?_
  unfold Builtin.SmallTypes.stopIteration
  show wpAny _ _ (newExc (.type "StopIteration") [] >>= _) _ _ _
  refine wpAny_bind ?_
  simp only [newExc, newTuple]
  refine wpAny_bind (wpAny_newObj_type ?_ (by size_fits))
  refine wpAny_bind (m := firstArgMember _ _) (wpAny_of_eq (a := Value.none) (by first | rfl | (simp only [firstArgMember]; rfl)) ?_)
  refine wpAny_newObj_type ?_ (by size_fits)
  simp only [raiseNew]
  refine wpAny_bind (wpAny_handled ?_)
  first | rw [show A.in1.handled = none from hh] | rw [hh]
  refine wpAny_bind (wpAny_pure (wpAny_throw ?_))
  exact hE _ _ (fun c o e => Heap.get?_push_of_some _ (Heap.get?_push_of_some _ e)) ⟨_, Heap.get?_push_size _ rfl, rfl⟩
theorem pyNext_zn_end0 {z TI TO : Addr} {k : Nat} {Q : Option Value → Shared → Prop} (hh : A.handled = none) (S : ZSt s.heap z TI TO [] k)
    (hQ : ∀ h', (∀ c o, s.heap.get? c = some o → h'.get? c = some o) → Q none { s with heap := h' }) :
    wpAny (model prog w) A (pyNext (.ref z)) Q E s := by
  obtain ⟨f0, f1, hz, hf0⟩ := S.zz
  have hT : s.TypeIs (.ref z) "zip" := ⟨_, hz, rfl⟩
  unfold pyNext
  refine wpAny_bind (wpAny_attempt (wpAny_callSpecial?_slot (name := Str.ofString "__next__") hT F.slot_zip_next
    (wpAny_call_entry F.slot_zip_next hT F.entry_zip_next (zn_end0 hh S fun h' e hk he => ?_) (F.args_zip_next_1 _))))
  obtain ⟨o, ho, hc⟩ := he
  exact wpAny_bind (wpAny_isInstance (T := "StopIteration") (b := true) ⟨o, ho, hc⟩ isSubtype_stop (wpAny_pure (hQ _ hk)))
end
theorem turn_z0 {P : Program} {w : World} {K : PySem.W.Frag} {x : Str} {xp : Pos} {n : Nat} :
    Turn P w K (.Name x xp) (ItzN K [] [] 0) [n + 2, n, n + 1] (n + 2) (fun i h => ZSt h (n + 2) n (n + 1) [] i) where
  mem := List.mem_cons_self
  obj := fun i h S b hb => by
    obtain ⟨⟨f0, f1, hz, _⟩, hTI, ⟨arr, _, hTO⟩, hits⟩ := S
    rcases List.mem_cons.mp hb with rfl | hb
    · exact ⟨_, hz, fun v q => nomatch q⟩
    rcases List.mem_cons.mp hb with rfl | hb
    · exact ⟨_, hTI, fun v q => nomatch q⟩
    rcases List.mem_cons.mp hb with rfl | hb
    · exact ⟨_, hTO, fun v q => nomatch q⟩
    · cases hb
  keep := fun i h h' S k => S.keeps fun b hb o y => k b (by simpa [zfp] using hb) o y
  item := by
    intro X hP hw hK hc i pins s σ H E I hf S hg
    exact absurd hg.1 (Nat.not_lt_zero _)
  done := by
    intro X hP hw hK hc i pins s σ H E I hf S hg
    subst hP hw hK
    exact pyNext_zn_end0 (I.ok.hd hc) S fun h' hk => ⟨rfl, I.kept (t' := s.toks) hk⟩
  self := fun A i s Q E S h => pyIter_zn S h
/-- for x in zip(*e), e a list or tuple of at most four tuples of one length -/
def iZipO (K : PySem.W.Frag) (te : TE) : TI := fun σ H R => te σ H fun y H1 => ∃ (a : Addr) (ls : List Addr) (rows : List (List V)) (m : Nat), y = .ref a ∧ (SqT K H1 a (ls.map V.ref) ∨ SqL K H1 a (ls.map V.ref)) ∧
  ls.length ≤ 4 ∧ (ls = [] → m = 0) ∧ Rws K H1 ls rows m ∧ R (ItzN K ls rows m) H1
theorem pi_zipO {X : Cx} {e : Expr} {te : TE} {p pos spos xp : Pos} {x : Str} (hg : Gl X "zip") (hm : X.mg "zip" = none) (he : PE X e te)
    (hst : starEach [.Starred e spos] X.env = [(true, eval e X.env)] := by rfl) :
    PI X (.Name x xp) (.Call (.Name "zip" p) [.Starred e spos] [] pos) (iZipO X.K te) := by
  refine ⟨fun pins s σ H R I h => ?_⟩
  refine wpAny_Call_Name_kw (ld_blt I hg hm PyProof.Rows.boot_zip ?_)
  rw [hst]
  refine PySem.W.ks_call (P := fun _ => True) rfl (fun h _ => ⟨.machine, .inr (.inl rfl), fun A Q E s _ q => wpAny_pure q⟩) (PySem.W.ks_lone ?_)
  refine thn (he.run pins s σ H _ I h) fun v s1 ⟨y, H1, I1, ry, a, ls, rows, m, ey, hx, h2, hm0, Rw, q⟩ => ?_
  subst ey
  obtain rfl : v = Value.ref a := ry
  refine StX.star_any I1 hx fun us s2 I2 rv => ⟨trivial, ?_⟩
  obtain rfl := vals_refs rv
  have tup : ∀ l ∈ ls, ∃ xs, s2.heap.IsTuple l xs := fun l hl => by
    obtain ⟨j, hj⟩ := List.mem_iff_getElem?.mp hl
    have hjl := (List.getElem?_eq_some_iff.mp hj).1
    have hjr : rows[j]? = some (rows[j]'(by have := Rw.len; omega)) := List.getElem?_eq_getElem (by have := Rw.len; omega)
    obtain ⟨its, _, ⟨o, ho, hc, n, hd⟩, _⟩ := I2.tuple (Rw.at_ j l _ hj hjr).1
    exact ⟨its.toArray, o, ho, hc, n, hd⟩
  refine call_zipM h2 tup fun h' n en S hsz hk => ?_
  have I3 : Inv X pins σ H1 { s2 with heap := h' } := I2.kept (t' := s2.toks) hk
  have hlt : ∀ l ∈ ls, l < n := fun l hl => by
    obtain ⟨xs, o, ho, _⟩ := tup l hl
    rw [en]
    exact Heap.lt_size ho
  cases ls with
  | nil =>
    obtain rfl := hm0 rfl
    obtain rfl : rows = [] := List.eq_nil_of_length_eq_zero Rw.len.symm
    refine pyIter_zn (s := { s2 with heap := h' }) S ⟨n + 2, _, _, _, H1, rfl, I3, turn_z0, S, fun b hb => ?_, q⟩
    have hle : s2.heap.objs.size ≤ b := by
      rw [← en]
      rcases List.mem_cons.mp hb with rfl | hb
      · omega
      rcases List.mem_cons.mp hb with rfl | hb
      · omega
      rcases List.mem_cons.mp hb with rfl | hb
      · omega
      · cases hb
    exact I2.fpOk hle (I2.hok.fresh hle)
  | cons l0 ls =>
    refine pyIter_zn (s := { s2 with heap := h' }) S ⟨n + (l0 :: ls).length + 2, _, _, _, H1, rfl, I3, turn_zn (Nat.succ_pos _) h2 hlt, S, fun b hb => ?_, q⟩
    have hle : s2.heap.objs.size ≤ b := by
      rw [← en]
      rcases List.mem_cons.mp hb with rfl | hb
      · omega
      rcases List.mem_cons.mp hb with rfl | hb
      · omega
      rcases List.mem_cons.mp hb with rfl | hb
      · omega
      obtain ⟨p, hp, rfl⟩ := List.mem_map.mp hb
      obtain ⟨j, _, _, e⟩ := zps_mem hp
      exact Nat.le_trans (Nat.le_add_right n j) (Nat.le_of_eq e.symm)
    exact I2.fpOk hle (I2.hok.fresh hle)
theorem walk_zn {K : PySem.W.Frag} {ls : List Addr} {rows : List (List V)} {m : Nat} : Walk (ItzN K ls rows m) m (fun H => Rws K H ls rows m) (fun i H v H' => ∃ T, v = .ref T ∧ H T = none ∧ H' = upd H T (.tup (colV rows i))) :=
  ⟨fun _ _ hi q => ⟨hi, q⟩, fun _ q => ⟨rfl, q⟩, fun _ _ _ _ _ _ y => y⟩
/-- zip of two tuples, the first no longer than the second -/
theorem walk_zipT {K : PySem.W.Frag} {a b : Addr} {xs ys : List V} (hl : xs.length ≤ ys.length) : Walk (ItzT K a b) xs.length (fun H => SqT K H a xs ∧ SqT K H b ys) (YPair (fun i => xs[i]?) (fun i => ys[i]?)) := by
  refine ⟨fun i H hi q => ⟨xs, ys, xs[i], ys[i]'(by omega), q.1, q.2, by simp [hi], List.getElem?_eq_getElem (by omega)⟩, fun H q => ⟨xs, ys, q.1, q.2, .inl (Nat.le_refl _)⟩, fun i H v H' _ q y => ?_⟩
  obtain ⟨T, x', y', rfl, hT, rfl, f1, f2⟩ := y
  exact ⟨T, x', y', rfl, hT, rfl, f1 xs q.1, f2 ys q.2⟩
end DD
/-! zip of up to four tuples and lists -/
namespace DM
open PySem PySem.Spec PyProof.Rows L2 DD
/-- an iterator of a tuple (b) or of a list -/
def IsIt (b : Bool) (h : Heap) (i l : Addr) (k : Nat) : Prop := ∃ o, h.get? i = some o ∧ o.cls = .type (if b then "tuple_iterator" else "list_iterator") ∧ o.data = .fields #[.ref l, .int k 0]
def IsSq (b : Bool) (h : Heap) (l : Addr) (xs : Array Value) : Prop := ∃ o, h.get? l = some o ∧ o.cls = .type (if b then "tuple" else "list") ∧ ∃ n, o.data = .seq xs n
section
variable {prog : Program} {w : World} {A : Around} {E : Value → Shared → Prop} {s : Shared}
theorem nextOf_cur {b : Bool} {it l : Addr} {i : Nat} {items} {x : Value} {Q : Value → Shared → Prop} (hit : IsIt b s.heap it l i)
    (hl : IsSq b s.heap l items) (hx : items[i]? = some x)
    (hQ : ∀ h', IsIt b h' it l (i + 1) → Heap.SameBut it s.heap h' → Q x { s with heap := h' }) :
    wpAny (model prog w) A (Builtin.SmallTypes.nextOf (.ref it)) Q E s := by
  cases b with
  | true => exact RZ.nextOf_tuple_item hit hl hx hQ
  | false => exact wpAny_nextOf_list_item hit hl hx hQ
theorem nextOf_curE {b : Bool} {it l : Addr} {i : Nat} {items} {Q : Value → Shared → Prop} (hh : A.handled = none)
    (hit : IsIt b s.heap it l i) (hl : IsSq b s.heap l items) (hx : items[i]? = none)
    (hE : ∀ h' e, Heap.ExtBut it s.heap h' → (∃ o, h'.get? e = some o ∧ o.cls = .type "StopIteration") → E (.ref e) { s with heap := h' }) :
    wpAny (model prog w) A (Builtin.SmallTypes.nextOf (.ref it)) Q E s := by
  cases b with
  | true => exact RZ.nextOf_tuple_end hh hit hl hx hE
  | false => exact wpAny_nextOf_list_end hh hit hl hx hE
theorem pyIter_cur {b : Bool} {l : Addr} {items} {Q : Value → Shared → Prop} (hl : IsSq b s.heap l items)
    (hQ : Q (.ref s.heap.objs.size) { s with heap := s.heap.push { cls := .type (if b then "tuple_iterator" else "list_iterator"), data := .fields #[.ref l, .int 0 0] } }) :
    wpAny (model prog w) A (pyIter (.ref l)) Q E s := by
  cases b with
  | true => exact wpAny_pyIter_tuple hl hQ
  | false => exact wpAny_pyIter_list hl hQ
theorem letGo_any {elts : List Expr} {x1} {pos : Pos} {z TI TO T : Addr} {f0 f1 : Value} {Q : Unit → Shared → Prop} (hz : s.heap.get? z = some (zObj f0 f1 TI TO)) (hf : f0 = .none ∨ ∃ a t, f0 = .int a t)
    (hQ : ∀ h' g0, (g0 = .none ∨ ∃ a t, g0 = .int a t) → h'.get? z = some (zObj g0 f1 TI TO) → Heap.SameBut z s.heap h' → Q () { s with heap := h' }) :
    wpAny (model prog w) A (letOwnedTupleGo (.Tuple elts x1 pos) (.ref z) (.ref T)) Q E s := by
  unfold letOwnedTupleGo
  refine wpAny_bind (wpAny_load hz ?_)
  show wpAny _ _ (if (["enumerate", "zip", "dict_itemiterator", "dict_reverseitemiterator", "odict_iterator", "itertools.zip_longest", "itertools.pairwise"].contains "zip" &&
      (#[f0, f1, .bool false, .ref TI, .ref TO] : Array Value)[0]? == some (rawInt T)) = true then _ else _) Q E s
  split
  · refine wpAny_bind (wpAny_rule ?_)
    show wpAny _ _ (setField (.ref z) 0 .none) Q E s
    exact wpAny_setField_rec hz (by simp) fun h' hz' hs' => hQ h' .none (.inl rfl) hz' hs'
  · exact wpAny_pure (hQ s.heap f0 hf hz (Heap.SameBut.refl _ _))
end
structure ZSt (kd : Addr → Bool) (h : Heap) (z TI TO : Addr) (ps : List (Addr × Addr)) (k : Nat) : Prop where
  zz : ∃ f0 f1, h.get? z = some (zObj f0 f1 TI TO) ∧ (f0 = .none ∨ ∃ a t, f0 = .int a t)
  ti : h.get? TI = some (tObj (ps.map fun p => Value.ref p.1).toArray)
  to : ∃ arr : Array Value, arr.size = ps.length ∧ h.get? TO = some (tObj arr)
  its : ∀ p ∈ ps, IsIt (kd p.2) h p.1 p.2 k


/-- the objects but z, TO and the iterators stand; the first j iterators have turned -/
structure ZMid (kd : Addr → Bool) (g h : Heap) (z TO : Addr) (ps : List (Addr × Addr)) (k j : Nat) : Prop where
  size : h.objs.size = g.objs.size
  keep : ∀ c o, c ≠ z → c ≠ TO → (∀ p ∈ ps, c ≠ p.1) → g.get? c = some o → h.get? c = some o
  its : ∀ (i : Nat) (p : Addr × Addr), ps[i]? = some p → IsIt (kd p.2) h p.1 p.2 (if i < j then k + 1 else k)

section
variable {prog : Program} {w : World} {A : Around} {E : Value → Shared → Prop} {s : Shared} {z TI TO : Addr} {ps : List (Addr × Addr)} {k : Nat} {kd : Addr → Bool}
/-- one iterator's turn -/
theorem draw_one {g h : Heap} {j : Nat} {p : Addr × Addr} {xs : Array Value} {v : Value} {Q : Value → Shared → Prop} (D : ZApart z TI TO ps) (m : ZMid kd g h z TO ps k j)
    (hp : ps[j]? = some p) (hl : IsSq (kd p.2) g p.2 xs) (hx : xs[k]? = some v)
    (hQ : ∀ h', ZMid kd g h' z TO ps k (j + 1) → Heap.SameBut p.1 h h' → Q v { s with heap := h' }) :
    wpAny (model prog w) A (Builtin.SmallTypes.nextOf (.ref p.1)) Q E { s with heap := h } := by
  have hm : p ∈ ps := List.mem_of_getElem? hp
  have h1 : IsIt (kd p.2) h p.1 p.2 k := by
    have := m.its j p hp
    rwa [if_neg (Nat.lt_irrefl j)] at this
  have h2 : IsSq (kd p.2) h p.2 xs := by
    obtain ⟨o, e, c⟩ := hl
    exact ⟨o, m.keep _ _ (D.pz p hm).2.2.2.1 (D.pz p hm).2.2.2.2 (fun q hq => D.px p hm q hq) e, c⟩
  refine nextOf_cur (s := { s with heap := h }) h1 h2 hx fun h' hi hs => hQ h' ⟨hs.1.trans m.size, fun c o c1 c2 c3 e => ?_, fun i q hq => ?_⟩ hs
  · rw [hs.2 c (c3 p hm)]
    exact m.keep c o c1 c2 c3 e
  · by_cases hij : i = j
    · subst hij
      rw [hp] at hq
      cases hq
      rw [if_pos (Nat.lt_succ_self _)]
      exact hi
    · have hqi := m.its i q hq
      have hne := ptr_ne D.nd hq hp hij
      rw [show (if i < j + 1 then k + 1 else k) = (if i < j then k + 1 else k) by
        by_cases hlt : i < j
        · rw [if_pos hlt, if_pos (by omega)]
        · rw [if_neg hlt, if_neg (by omega)]]
      obtain ⟨o, e, c⟩ := hqi
      exact ⟨o, (hs.2 _ hne).trans e, c⟩
theorem ZMid.full {g h : Heap} (m : ZMid kd g h z TO ps k ps.length) : ∀ p ∈ ps, IsIt (kd p.2) h p.1 p.2 (k + 1) := fun p hp => by
  obtain ⟨i, hi⟩ := List.mem_iff_getElem?.mp hp
  obtain ⟨hl, _⟩ := List.getElem?_eq_some_iff.mp hi
  have := m.its i p hi
  rwa [if_pos hl] at this

theorem zn_item {vs : List Value} {Q : Value → Shared → Prop} (D : ZApart z TI TO ps) (hn : 1 ≤ ps.length) (hn2 : ps.length ≤ 1000) (S : ZSt kd s.heap z TI TO ps k)
    (hv : vs.length = ps.length) (hi : ∀ (j : Nat) (p : Addr × Addr), ps[j]? = some p → ∃ xs, IsSq (kd p.2) s.heap p.2 xs ∧ xs[k]? = vs[j]?)
    (hQ : ∀ h', ZSt kd h' z TI TO ps (k + 1) → h'.get? s.heap.objs.size = some (tObj vs.toArray) → h'.objs.size = s.heap.objs.size + 1 →
      (∀ c o, c ≠ z → c ≠ TO → (∀ p ∈ ps, c ≠ p.1) → s.heap.get? c = some o → h'.get? c = some o) → Q (.ref s.heap.objs.size) { s with heap := h' }) :
    wpAny (model prog w) A (Builtin.«zip.__next__» ⟨[.ref z], []⟩) (fun fin s' => ∃ v, fin = .done (.ret v) ∧ Q v s') E s := by
  obtain ⟨⟨f0, f1, hz, hf0⟩, hTI, ⟨arr, ha, hTO⟩, hits⟩ := S
  show wpAny _ _ (field (.ref z) 2 >>= _) _ _ _
  refine wpAny_bind (wpAny_field hz rfl (x := .bool false) rfl ?_)
  show wpAny _ _ (field (.ref z) 3 >>= _) _ _ _
  refine wpAny_bind (wpAny_field hz rfl (x := .ref TI) rfl ?_)
  refine wpAny_bind (wpAny_seqItems hTI rfl ?_)
  have hne : (ps.map fun p => Value.ref p.1).toArray.isEmpty = false := by
    cases ps with
    | nil => simp at hn
    | cons p r => rfl
  simp only [hne, Bool.false_eq_true, if_false]
  have m0 : ∀ h, Heap.SameBut z s.heap h → ZMid kd s.heap h z TO ps k 0 := fun h hs =>
    ⟨hs.1, fun c o c1 _ _ e => (hs.2 c c1).trans e, fun i p hp => by
      rw [if_neg (Nat.not_lt_zero _)]
      have hm := List.mem_of_getElem? hp
      obtain ⟨o, e, c⟩ := hits p hm
      exact ⟨o, (hs.2 _ (D.pz p hm).1).trans e, c⟩⟩
  refine wpAny_bind (wpAny_mono (free_or hz hf0) (fun b s' hb => ?_) fun _ _ e => e)
  rcases hb with ⟨rfl, rfl⟩ | ⟨rfl, h1, f2, rfl, hz1, hs1⟩
  · simp only [if_true]
    refine wpAny_bind (wpAny_rule ?_)
    refine wpAny_bind (wpAny_field hz rfl (x := .ref TO) rfl ?_)
    refine wpAny_bind (wpAny_setField_rec hz (by simp) fun h1 hz1 hs1 => ?_)
    replace hz1 : h1.get? z = some (zObj .ellipsis f1 TI TO) := hz1
    have nTI : ∀ p ∈ ps, TI ≠ p.1 := fun p hp q => (D.pz p hp).2.1 q.symm
    refine wpAny_bind (thn (wp_forIn _ _ (fun j b s2 => b = (none, ()) ∧ ∃ (h : Heap) (a2 : Array Value), s2 = { s' with heap := h } ∧ ZMid kd s'.heap h z TO ps k j ∧
      h.get? z = some (zObj .ellipsis f1 TI TO) ∧ a2.size = ps.length ∧ (∀ i, i < j → a2[i]? = vs[i]?) ∧ h.get? TO = some (tObj a2)) ?step _ _ ?init) fun b s2 hb => ?last)
    case init => exact ⟨rfl, h1, arr, rfl, m0 h1 hs1, hz1, ha, fun i hi => absurd hi (Nat.not_lt_zero _), (hs1.2 _ D.oz).trans hTO⟩
    case step =>
      rintro j x b s2 hx ⟨rfl, h, a2, rfl, m, hz2, hs2, pre, hTO2⟩
      rw [List.getElem?_zipIdx, List.getElem?_map] at hx
      cases hp : ps[j]? with
      | none =>
        rw [hp] at hx
        cases hx
      | some p =>
        rw [hp] at hx
        obtain rfl : (Value.ref p.1, 0 + j) = x := Option.some.inj hx
        obtain ⟨xs, hl, hxk⟩ := hi j p hp
        have hm : p ∈ ps := List.mem_of_getElem? hp
        have hj : j < ps.length := (List.getElem?_eq_some_iff.mp hp).1
        have hjv : vs[j]? = some (vs[j]'(by omega)) := List.getElem?_eq_getElem (by omega)
        refine wpAny_bind (wpAny_onRaise ?_)
        show wpAny _ _ (Builtin.SmallTypes.nextOf (.ref p.1) >>= _) _ _ _
        refine wpAny_bind (draw_one D m hp hl (hxk.trans hjv) fun h' m' hs' => wpAny_pure ?_)
        have hTO' : h'.get? TO = some (tObj a2) := (hs'.2 _ (D.pz p hm).2.2.1.symm).trans hTO2
        refine wpAny_bind (wpAny_seqItems hTO' rfl ?_)
        have hb1 : a2.size ≤ sizeLine := by rw [hs2, sizeLine_eq]; omega
        refine wpAny_bind (wpAny_updateSeq hTO' rfl ?_ hb1 (by rw [Array.size_setIfInBounds, hs2, sizeLine_eq]; omega))
        have sb := Heap.SameBut.update h' TO (Obj.mapSeq fun x => x.setIfInBounds (0 + j) (vs[j]'(by omega)))
        refine wpAny_bind (wpAny_letGo (wpAny_pure ⟨_, rfl, rfl, _, a2.setIfInBounds j (vs[j]'(by omega)), rfl, ⟨sb.1.trans m'.size, fun c o c1 c2 c3 e => (sb.2 c c2).trans (m'.keep c o c1 c2 c3 e), fun i q hq => ?_⟩, ?_, ?_, fun i hij => ?_, ?_⟩))
        · obtain ⟨o, e, c⟩ := m'.its i q hq
          exact ⟨o, (sb.2 _ (D.pz q (List.mem_of_getElem? hq)).2.2.1).trans e, c⟩
        · rw [sb.2 z D.oz.symm, hs'.2 z (D.pz p hm).1.symm]
          exact hz2
        · rw [Array.size_setIfInBounds]
          exact hs2
        · rw [Array.getElem?_setIfInBounds]
          by_cases e : j = i
          · subst e
            rw [if_pos rfl, if_pos (by omega)]
            exact hjv.symm
          · rw [if_neg e]
            exact pre i (by omega)
        · rw [Heap.get?_update_self _ hTO' rfl, Nat.zero_add]
          simp [Obj.mapSeq]
    case last =>
      obtain ⟨rfl, h, a2, rfl, m, hz2, hs2, pre, hTO2⟩ := hb
      rw [List.length_zipIdx, List.length_map] at m pre
      have ea : a2 = vs.toArray := by
        refine Array.ext_getElem? fun i => ?_
        by_cases hlt : i < ps.length
        · rw [pre i hlt, List.getElem?_toArray]
        · rw [Array.getElem?_eq_none (by omega), List.getElem?_toArray, List.getElem?_eq_none (by omega)]
      subst ea
      show wpAny _ _ (seqItems? (.ref TO) >>= _) _ _ _
      refine wpAny_bind (wpAny_seqItems hTO2 rfl ?_)
      refine wpAny_bind (wpAny_newTuple ?_ (by show vs.length ≤ _; rw [sizeLine_eq]; omega))
      show wpAny _ _ (Builtin.SmallTypes.ownedTupleHandOut (.ref z) (.ref h.objs.size) >>= _) _ _ _
      refine wpAny_bind ?_
      unfold Builtin.SmallTypes.ownedTupleHandOut
      have hzp : (h.push (tObj vs.toArray)).get? z = some (zObj .ellipsis f1 TI TO) := Heap.get?_push_of_some _ hz2
      refine wpAny_bind (wpAny_setField_rec hzp (by simp) fun h3 hz3 hs3 => ?_)
      replace hz3 : h3.get? z = some (zObj (rawInt h.objs.size) f1 TI TO) := hz3
      refine wpAny_setField_rec hz3 (by simp) fun h4 hz4 hs4 => ?_
      replace hz4 : h4.get? z = some (zObj (rawInt h.objs.size) (.bool false) TI TO) := hz4
      have hzlt : z < h.objs.size := Heap.lt_size hz2
      have up : ∀ c o, c ≠ z → h.get? c = some o → h4.get? c = some o := fun c o c1 e =>
        (hs4.2 c c1).trans ((hs3.2 c c1).trans (Heap.get?_push_of_some _ e))
      refine wpAny_pure ⟨_, rfl, ?_⟩
      show Q (.ref h.objs.size) _
      have key := hQ h4 ⟨⟨_, _, hz4, .inr ⟨_, _, rfl⟩⟩, up _ _ D.tz (m.keep TI _ D.tz D.it nTI hTI), ⟨_, hs2, up _ _ D.oz hTO2⟩, fun p hp => ?_⟩ ?_ ?_ fun c o c1 c2 c3 e => up c o c1 (m.keep c o c1 c2 c3 e)
      · rw [m.size]
        exact key
      · obtain ⟨o, e, c⟩ := m.full p hp
        exact ⟨o, up _ _ (D.pz p hp).1 e, c⟩
      · rw [← m.size, hs4.2 _ (Nat.ne_of_gt hzlt), hs3.2 _ (Nat.ne_of_gt hzlt)]
        exact Heap.get?_push_size _ rfl
      · rw [hs4.1, hs3.1, Heap.size_push, m.size]
  · simp only [Bool.false_eq_true, if_false, List.forIn_toArray]
    have nTI : ∀ p ∈ ps, TI ≠ p.1 := fun p hp q => (D.pz p hp).2.1 q.symm
    refine wpAny_bind (thn (wp_forIn _ _ (fun j b s2 => b = (none, (vs.take j).toArray) ∧ ∃ (h : Heap), s2 = { s with heap := h } ∧ ZMid kd s.heap h z TO ps k j ∧
      h.get? z = some (zObj f0 f2 TI TO) ∧ h.get? TO = some (tObj arr)) ?step _ _ ?init) fun b s2 hb => ?last)
    case init => exact ⟨rfl, h1, rfl, m0 h1 hs1, hz1, (hs1.2 _ D.oz).trans hTO⟩
    case step =>
      rintro j x b s2 hx ⟨rfl, h, rfl, m, hz2, hTO2⟩
      rw [List.getElem?_map] at hx
      cases hp : ps[j]? with
      | none =>
        rw [hp] at hx
        cases hx
      | some p =>
        rw [hp] at hx
        obtain rfl : Value.ref p.1 = x := Option.some.inj hx
        obtain ⟨xs, hl, hxk⟩ := hi j p hp
        have hm : p ∈ ps := List.mem_of_getElem? hp
        have hj : j < ps.length := (List.getElem?_eq_some_iff.mp hp).1
        have hjv : vs[j]? = some (vs[j]'(by omega)) := List.getElem?_eq_getElem (by omega)
        refine wpAny_bind (wpAny_holding ?_)
        show wpAny _ _ (Builtin.SmallTypes.nextOf (.ref p.1) >>= _) _ _ _
        refine wpAny_bind (draw_one D m hp hl (hxk.trans hjv) fun h' m' hs' => wpAny_pure (wpAny_pure ⟨_, rfl, ?_, h', rfl, m', ?_, ?_⟩))
        · rw [List.take_add_one, hjv]
          simp
        · exact (hs'.2 z (D.pz p hm).1.symm).trans hz2
        · exact (hs'.2 _ (D.pz p hm).2.2.1.symm).trans hTO2
    case last =>
      obtain ⟨rfl, h, rfl, m, hz2, hTO2⟩ := hb
      rw [List.length_map] at m
      rw [List.length_map, List.take_of_length_le (by omega)]
      have hsz : vs.length ≤ sizeLine := by rw [sizeLine_eq]; omega
      show wpAny _ _ (newTuple vs.toArray.toList >>= _) _ _ _
      refine wpAny_bind (wpAny_newTuple ?_ (by simpa using hsz))
      refine wpAny_pure ⟨_, rfl, ?_⟩
      have up : ∀ c o, h.get? c = some o → (h.push (tObj vs.toArray)).get? c = some o := fun c o e => Heap.get?_push_of_some _ e
      have key := hQ (h.push (tObj vs.toArray)) ⟨⟨_, _, up _ _ hz2, hf0⟩, up _ _ (m.keep TI _ D.tz D.it nTI hTI), ⟨_, ha, up _ _ hTO2⟩, fun p hp => ?_⟩ ?_ ?_ fun c o c1 c2 c3 e => up c o (m.keep c o c1 c2 c3 e)
      · show Q (.ref h.objs.size) _
        rw [m.size]
        exact key
      · obtain ⟨o, e, c⟩ := m.full p hp
        exact ⟨o, up _ _ e, c⟩
      · rw [← m.size]
        exact Heap.get?_push_size _ rfl
      · rw [Heap.size_push, m.size]
theorem zn_end {Q : Fin → Shared → Prop} (hh : A.handled = none) (D : ZApart z TI TO ps) (S : ZSt kd s.heap z TI TO ps k) {p : Addr × Addr} {r : List (Addr × Addr)} {xs : Array Value}
    (hps : ps = p :: r) (hl : IsSq (kd p.2) s.heap p.2 xs) (hx : xs[k]? = none)
    (hE : ∀ h' e, (∀ c o, c ≠ z → c ≠ TO → (∀ p ∈ ps, c ≠ p.1) → s.heap.get? c = some o → h'.get? c = some o) →
      (∃ o, h'.get? e = some o ∧ o.cls = .type "StopIteration") → E (.ref e) { s with heap := h' }) :
    wpAny (model prog w) A (Builtin.«zip.__next__» ⟨[.ref z], []⟩) Q E s := by
  obtain ⟨⟨f0, f1, hz, hf0⟩, hTI, ⟨arr, ha, hTO⟩, hits⟩ := S
  have hm : p ∈ ps := by rw [hps]; exact List.mem_cons_self
  show wpAny _ _ (field (.ref z) 2 >>= _) _ _ _
  refine wpAny_bind (wpAny_field hz rfl (x := .bool false) rfl ?_)
  show wpAny _ _ (field (.ref z) 3 >>= _) _ _ _
  refine wpAny_bind (wpAny_field hz rfl (x := .ref TI) rfl ?_)
  refine wpAny_bind (wpAny_seqItems hTI rfl ?_)
  have hne : (ps.map fun p => Value.ref p.1).toArray.isEmpty = false := by
    rw [hps]
    rfl
  simp only [hne, Bool.false_eq_true, if_false]
  have it1 := hits p hm
  have kz : ∀ h1, Heap.SameBut z s.heap h1 → IsIt (kd p.2) h1 p.1 p.2 k ∧ IsSq (kd p.2) h1 p.2 xs := fun h1 hs1 =>
    ⟨by obtain ⟨o, e, c⟩ := it1; exact ⟨o, (hs1.2 _ (D.pz p hm).1).trans e, c⟩, by obtain ⟨o, e, c⟩ := hl; exact ⟨o, (hs1.2 _ (D.pz p hm).2.2.2.1).trans e, c⟩⟩
  refine wpAny_bind (wpAny_mono (free_or hz hf0) (fun b s' hb => ?_) fun _ _ e => e)
  rcases hb with ⟨rfl, rfl⟩ | ⟨rfl, h1, f2, rfl, hz1, hs1⟩
  · simp only [if_true]
    refine wpAny_bind (wpAny_rule ?_)
    refine wpAny_bind (wpAny_field hz rfl (x := .ref TO) rfl ?_)
    refine wpAny_bind (wpAny_setField_rec hz (by simp) fun h1 hz1 hs1 => ?_)
    replace hz1 : h1.get? z = some (zObj .ellipsis f1 TI TO) := hz1
    obtain ⟨q1, q2⟩ := kz h1 hs1
    refine wpAny_bind ?_
    simp only [hps, List.map_cons, List.zipIdx_cons, List.forIn_cons]
    refine wpAny_bind (wpAny_bind (wpAny_onRaise ?_))
    show wpAny _ _ (Builtin.SmallTypes.nextOf (.ref p.1) >>= _) _ _ _
    refine wpAny_bind (nextOf_curE (s := { s' with heap := h1 }) hh q1 q2 hx fun h2 e hs2 he => ?_)
    obtain ⟨oe, hoe, hce⟩ := he
    have hz2 : h2.get? z = some (zObj .ellipsis f1 TI TO) := hs2 _ _ (D.pz p hm).1.symm hz1
    have hez : e ≠ z := fun x => by
      subst x
      rw [hz2] at hoe
      cases hoe
      simp at hce
    refine wpAny_setField_rec hz2 (by simp) fun h3 _ hs3 => hE h3 e (fun c o c1 _ c3 x => (hs3.2 _ c1).trans (hs2 _ _ (c3 p hm) ((hs1.2 _ c1).trans x))) ⟨oe, (hs3.2 _ hez).trans hoe, hce⟩
  · simp only [Bool.false_eq_true, if_false, List.forIn_toArray]
    obtain ⟨q1, q2⟩ := kz h1 hs1
    refine wpAny_bind ?_
    simp only [hps, List.map_cons, List.forIn_cons]
    refine wpAny_bind (wpAny_bind (wpAny_holding ?_))
    show wpAny _ _ (Builtin.SmallTypes.nextOf (.ref p.1) >>= _) _ _ _
    refine wpAny_bind (nextOf_curE (s := { s with heap := h1 }) hh q1 q2 hx fun h2 e hs2 he => hE h2 e (fun c o c1 _ c3 x => hs2 _ _ (c3 p hm) ((hs1.2 _ c1).trans x)) he)

theorem pyNext_zn_item {vs : List Value} {Q : Option Value → Shared → Prop} (D : ZApart z TI TO ps) (hn : 1 ≤ ps.length) (hn2 : ps.length ≤ 1000) (S : ZSt kd s.heap z TI TO ps k)
    (hv : vs.length = ps.length) (hi : ∀ (j : Nat) (p : Addr × Addr), ps[j]? = some p → ∃ xs, IsSq (kd p.2) s.heap p.2 xs ∧ xs[k]? = vs[j]?)
    (hQ : ∀ h', ZSt kd h' z TI TO ps (k + 1) → h'.get? s.heap.objs.size = some (tObj vs.toArray) → h'.objs.size = s.heap.objs.size + 1 →
      (∀ c o, c ≠ z → c ≠ TO → (∀ p ∈ ps, c ≠ p.1) → s.heap.get? c = some o → h'.get? c = some o) → Q (some (.ref s.heap.objs.size)) { s with heap := h' }) :
    wpAny (model prog w) A (pyNext (.ref z)) Q E s := by
  obtain ⟨f0, f1, hz, hf0⟩ := S.zz
  have hT : s.TypeIs (.ref z) "zip" := ⟨_, hz, rfl⟩
  unfold pyNext
  exact wpAny_bind (wpAny_attempt (wpAny_callSpecial?_slot (name := Str.ofString "__next__") hT F.slot_zip_next
    (wpAny_call_entry F.slot_zip_next hT F.entry_zip_next (zn_item D hn hn2 S hv hi fun h' a1 a2 a3 a4 => wpAny_pure (hQ h' a1 a2 a3 a4)) (F.args_zip_next_1 _))))
theorem pyNext_zn_end {Q : Option Value → Shared → Prop} (hh : A.handled = none) (D : ZApart z TI TO ps) (S : ZSt kd s.heap z TI TO ps k) {p : Addr × Addr} {r : List (Addr × Addr)} {xs : Array Value}
    (hps : ps = p :: r) (hl : IsSq (kd p.2) s.heap p.2 xs) (hx : xs[k]? = none)
    (hQ : ∀ h', (∀ c o, c ≠ z → c ≠ TO → (∀ p ∈ ps, c ≠ p.1) → s.heap.get? c = some o → h'.get? c = some o) → Q none { s with heap := h' }) :
    wpAny (model prog w) A (pyNext (.ref z)) Q E s := by
  obtain ⟨f0, f1, hz, hf0⟩ := S.zz
  have hT : s.TypeIs (.ref z) "zip" := ⟨_, hz, rfl⟩
  unfold pyNext
  refine wpAny_bind (wpAny_attempt (wpAny_callSpecial?_slot (name := Str.ofString "__next__") hT F.slot_zip_next
    (wpAny_call_entry F.slot_zip_next hT F.entry_zip_next (zn_end hh D S hps hl hx fun h' e hk he => ?_) (F.args_zip_next_1 _))))
  obtain ⟨o, ho, hc⟩ := he
  exact wpAny_bind (wpAny_isInstance (T := "StopIteration") (b := true) ⟨o, ho, hc⟩ isSubtype_stop (wpAny_pure (hQ _ hk)))

theorem iterAll_tups {ls : List Addr} {Q : List Value → Shared → Prop} (hl : ∀ l ∈ ls, ∃ xs, IsSq (kd l) s.heap l xs)
    (hQ : ∀ h' its, its.length = ls.length → (∀ i, i < ls.length → its[i]? = some (.ref (s.heap.objs.size + i))) → h'.objs.size = s.heap.objs.size + ls.length →
      (∀ c o, s.heap.get? c = some o → h'.get? c = some o) → (∀ (i : Nat) (l : Addr), ls[i]? = some l → IsIt (kd l) h' (s.heap.objs.size + i) l 0) → Q its { s with heap := h' }) :
    wpAny (model prog w) A (Builtin.SmallTypes.iterAll (ls.map Value.ref)) Q E s := by
  unfold Builtin.SmallTypes.iterAll
  refine wpAny_bind (thn (wp_forIn _ _ (fun j (b : Array Value) s2 => b.size = j ∧ (∀ i, i < j → b[i]? = some (.ref (s.heap.objs.size + i))) ∧ ∃ h, s2 = { s with heap := h } ∧ h.objs.size = s.heap.objs.size + j ∧
    (∀ c o, s.heap.get? c = some o → h.get? c = some o) ∧ ∀ (i : Nat) (l : Addr), i < j → ls[i]? = some l → IsIt (kd l) h (s.heap.objs.size + i) l 0) ?step _ _ ?init) fun b s2 hb => ?last)
  case init => exact ⟨rfl, fun i hi => absurd hi (Nat.not_lt_zero _), s.heap, rfl, rfl, fun _ _ e => e, fun i _ hi => absurd hi (Nat.not_lt_zero _)⟩
  case step =>
    rintro j x b s2 hx ⟨hbs, hb, h, rfl, hsz, hk, hit⟩
    rw [List.getElem?_map] at hx
    cases hp : ls[j]? with
    | none =>
      rw [hp] at hx
      cases hx
    | some l =>
      rw [hp] at hx
      obtain rfl : Value.ref l = x := Option.some.inj hx
      obtain ⟨xs, ol, e, c⟩ := hl l (List.mem_of_getElem? hp)
      refine wpAny_bind (wpAny_holding (pyIter_cur (b := kd l) (s := { s with heap := h }) ⟨ol, hk _ _ e, c⟩ ?_))
      refine wpAny_pure ⟨_, rfl, by rw [Array.size_push, hbs], fun i hij => ?_, _, rfl, by rw [Heap.size_push, hsz]; omega, fun c o e => Heap.get?_push_of_some _ (hk c o e), fun i l' hij hl' => ?_⟩
      · show (b.push (Value.ref h.objs.size))[i]? = _
        rw [Array.getElem?_push]
        by_cases e : i = b.size
        · rw [if_pos e, hsz, e, hbs]
        · rw [if_neg e]
          exact hb i (by omega)
      · by_cases e : i = j
        · subst e
          rw [hp] at hl'
          cases hl'
          refine ⟨{ cls := .type (if kd l then "tuple_iterator" else "list_iterator"), data := .fields #[.ref l, .int 0 0] }, ?_, rfl, rfl⟩
          rw [← hsz]
          exact Heap.get?_push_size _ rfl
        · obtain ⟨o, e1, c⟩ := hit i l' (by omega) hl'
          exact ⟨o, Heap.get?_push_of_some _ e1, c⟩
  case last =>
    obtain ⟨hbs, hb, h, rfl, hsz, hk, hit⟩ := hb
    rw [List.length_map] at hbs hb hsz hit
    refine wpAny_pure (hQ h b.toList (by rw [Array.length_toList]; exact hbs) (fun i hi => by rw [Array.getElem?_toList]; exact hb i hi) hsz hk fun i l e => ?_)
    exact hit i l (List.getElem?_eq_some_iff.mp e).1 e

theorem zip_newN {ls : List Addr} {Q : Value → Shared → Prop} (h1 : 1 ≤ ls.length) (h2 : ls.length ≤ 4) (hl : ∀ l ∈ ls, ∃ xs, IsSq (kd l) s.heap l xs)
    (hQ : ∀ h' n, n = s.heap.objs.size → ZSt kd h' (n + ls.length + 2) (n + ls.length) (n + ls.length + 1) (ls.zipIdx.map fun x => (n + x.2, x.1)) 0 → h'.objs.size = n + ls.length + 3 →
      (∀ c o, s.heap.get? c = some o → h'.get? c = some o) → Q (.ref (n + ls.length + 2)) { s with heap := h' }) :
    wpAny (model prog w) A (Builtin.«zip.__new__» ⟨.type "zip" :: ls.map Value.ref, []⟩) (fun fin s' => ∃ v, fin = .done (.ret v) ∧ Q v s') E s := by
  have hsub := sub_zip
  have hc : wpAny (model prog w) A (Builtin.SmallTypes.newClass "zip" ⟨.type "zip" :: ls.map Value.ref, []⟩) (fun r s' => r = (.type "zip", ls.map Value.ref) ∧ s' = s) E s := by
    unfold Builtin.SmallTypes.newClass
    wp_walk
    exact ⟨rfl, rfl⟩
  unfold Builtin.«zip.__new__»
  refine wpAny_bind (thn hc ?_)
  rintro _ _s ⟨rfl, rfl⟩
  show wpAny _ _ (Builtin.SmallTypes.iterAll (ls.map Value.ref) >>= _) _ _ _
  refine wpAny_bind (iterAll_tups hl fun h1' its hil hi hsz hk hit => ?_)
  have hsl : its.length ≤ sizeLine := by rw [hil, sizeLine_eq]; omega
  refine wpAny_bind (wpAny_newTuple ?_ hsl)
  refine wpAny_bind (wpAny_newTuple ?_ (by rw [List.length_map]; exact hsl))
  refine wpAny_bind ?_
  unfold Builtin.SmallTypes.newRecord
  refine wpAny_newObj_type ?_ (show (5 : Nat) ≤ sizeLine + 2 by rw [sizeLine_eq]; omega)
  refine wpAny_pure ⟨_, rfl, ?_⟩
  have z1 : (h1'.push (tObj its.toArray)).objs.size = h1'.objs.size + 1 := Heap.size_push ..
  have z2 : ((h1'.push (tObj its.toArray)).push (tObj (its.map fun _ => Value.none).toArray)).objs.size = h1'.objs.size + 2 := by rw [Heap.size_push, z1]
  have fin : Q (.ref ((h1'.push (tObj its.toArray)).push (tObj (its.map fun _ => Value.none).toArray)).objs.size)
      { _s with heap := ((h1'.push (tObj its.toArray)).push (tObj (its.map fun _ => Value.none).toArray)).push (zObj .none (.bool false) h1'.objs.size (h1'.push (tObj its.toArray)).objs.size) } := by
    rw [z2, z1, hsz]
    refine hQ _ _ rfl ⟨⟨.none, .bool false, ?_, .inl rfl⟩, ?_, ⟨(its.map fun _ => Value.none).toArray, ?_, ?_⟩, fun p hp => ?_⟩ ?_ fun c o e => Heap.get?_push_of_some _ (Heap.get?_push_of_some _ (Heap.get?_push_of_some _ (hk c o e)))
    · rw [← hsz, ← z2]
      exact Heap.get?_push_size _ rfl
    · have e : its = (ls.zipIdx.map fun x => (_s.heap.objs.size + x.2, x.1)).map fun p => Value.ref p.1 := by
        refine List.ext_getElem? fun i => ?_
        rw [List.map_map, List.getElem?_map, List.getElem?_zipIdx]
        by_cases hlt : i < ls.length
        · rw [hi i hlt, List.getElem?_eq_getElem hlt]
          simp
        · rw [List.getElem?_eq_none (by omega), List.getElem?_eq_none (by omega)]
          rfl
      rw [← e, ← hsz]
      exact Heap.get?_push_of_some _ (Heap.get?_push_of_some _ (Heap.get?_push_size _ rfl))
    · simp [hil]
    · rw [← hsz, ← z1]
      exact Heap.get?_push_of_some _ (Heap.get?_push_size _ rfl)
    · obtain ⟨x, hx, rfl⟩ := List.mem_map.mp hp
      obtain ⟨i, hxi⟩ := List.mem_iff_getElem?.mp hx
      rw [List.getElem?_zipIdx] at hxi
      cases hl' : ls[i]? with
      | none =>
        rw [hl'] at hxi
        cases hxi
      | some l =>
        rw [hl'] at hxi
        obtain rfl : (l, 0 + i) = x := Option.some.inj hxi
        obtain ⟨o, e, c⟩ := hit i l hl'
        refine ⟨o, ?_, c⟩
        show Heap.get? _ (_s.heap.objs.size + (0 + i)) = some o
        rw [Nat.zero_add]
        exact Heap.get?_push_of_some _ (Heap.get?_push_of_some _ (Heap.get?_push_of_some _ e))
    · rw [Heap.size_push, z2, hsz]
  exact fin
end
section
variable {prog : Program} {w : World} {A : Around} {E : Value → Shared → Prop} {s : Shared} {kd : Addr → Bool}
theorem call_zipN {ls : List Addr} {Q : Value → Shared → Prop} (h1 : 1 ≤ ls.length) (h2 : ls.length ≤ 4) (hl : ∀ l ∈ ls, ∃ xs, IsSq (kd l) s.heap l xs)
    (hQ : ∀ h' n, n = s.heap.objs.size → ZSt kd h' (n + ls.length + 2) (n + ls.length) (n + ls.length + 1) (zps n ls) 0 → h'.objs.size = n + ls.length + 3 →
      (∀ c o, s.heap.get? c = some o → h'.get? c = some o) → Q (.ref (n + ls.length + 2)) { s with heap := h' }) :
    wpAny (model prog w) A (call (.type "zip") (ls.map Value.ref)) Q E s := by
  have m : Meets (Builtin.«zip.__new__» ⟨.type "zip" :: ls.map Value.ref, []⟩) (fun _ R s => (∀ l ∈ ls, ∃ xs, IsSq (kd l) s.heap l xs) ∧
      ∀ h' n, n = s.heap.objs.size → ZSt kd h' (n + ls.length + 2) (n + ls.length) (n + ls.length + 1) (zps n ls) 0 → h'.objs.size = n + ls.length + 3 →
        (∀ c o, s.heap.get? c = some o → h'.get? c = some o) → R (.ok (.ret (.ref (n + ls.length + 2)))) { s with heap := h' }) :=
    .of_wp fun prog w A R s h => zip_newN h1 h2 h.1 h.2
  refine callType_new F.called_zip (by decide) (typeCall_zipN _ (by simpa using h1) (by simpa using h2)) (newCall_zipN _ (by simpa using h1) (by simpa using h2))
    (fun obj => args_object_initN obj _ (by simpa using h1) (by simpa using h2)) F.entry_zip_new m ⟨hl, fun h' n e1 e2 e3 e4 => ?_⟩
  obtain ⟨f0, f1, hz, _⟩ := e2.zz
  exact ⟨⟨_, hz, rfl⟩, hQ h' n e1 e2 e3 e4⟩
theorem pyIter_zn {z TI TO : Addr} {ps : List (Addr × Addr)} {k : Nat} {Q : Value → Shared → Prop} (S : ZSt kd s.heap z TI TO ps k) (h : Q (.ref z) s) : wpAny (model prog w) A (pyIter (.ref z)) Q E s := by
  obtain ⟨f0, f1, hz, _⟩ := S.zz
  have hT : s.TypeIs (.ref z) "zip" := ⟨_, hz, rfl⟩
  refine wpAny_pyIter_slot hT F.slot_zip_iter (wpAny_call_entry F.slot_zip_iter hT F.entry_zip_iter ?_ (F.args_zip_iter_1 _))
  exact (show wpAny _ _ (ret (.ref z)) _ _ s from wpAny_pure ⟨_, rfl, "zip", _, hT, F.slot_zip_next.lookup, h⟩)
end

end DM
namespace DM
open PySem PySem.Spec PyProof.Rows L2 DD
def SqX (K : PySem.W.Frag) (b : Bool) (H : Hp) (a : Addr) (xs : List V) : Prop := match b with | true => SqT K H a xs | false => SqL K H a xs
/-- the tuples and lists at ls hold rows, none shorter than m, the first of length m -/
structure Rwm (K : PySem.W.Frag) (kd : Addr → Bool) (H : Hp) (ls : List Addr) (rows : List (List V)) (m : Nat) : Prop where
  len : ls.length = rows.length
  at_ : ∀ (j : Nat) (a : Addr) (r : List V), ls[j]? = some a → rows[j]? = some r → SqX K (kd a) H a r ∧ m ≤ r.length
theorem sq_of {X : Cx} {pins : List (Addr × Obj)} {σ : L2.St} {H : Hp} {s : Shared} {b : Bool} {a : Addr} {xs : List V} (I : Inv X pins σ H s) (q : SqX X.K b H a xs) :
    ∃ its : List Value, Vals xs its ∧ IsSq b s.heap a its.toArray := by
  cases b with
  | true =>
    obtain ⟨its, rv, ⟨o, ho, hc, n, hd⟩, _⟩ := I.tuple q
    exact ⟨its, rv, o, ho, hc, n, hd⟩
  | false =>
    obtain ⟨its, rv, p, _⟩ := I.list q
    exact ⟨its, rv, p.isList⟩
theorem Rwm.vals {X : Cx} {pins : List (Addr × Obj)} {σ : L2.St} {H : Hp} {s : Shared} {kd : Addr → Bool} {m i : Nat} (I : Inv X pins σ H s) (hi : i < m) : ∀ {ls : List Addr} {rows : List (List V)}, Rwm X.K kd H ls rows m →
    ∃ us : List Value, Vals (colV rows i) us ∧ ∀ (j : Nat) (a : Addr), ls[j]? = some a → ∃ xs, IsSq (kd a) s.heap a xs ∧ xs[i]? = us[j]?
  | [], [], _ => ⟨[], .nil, fun j a e => by simp at e⟩
  | [], _ :: _, R => by have := R.len; simp at this
  | _ :: _, [], R => by have := R.len; simp at this
  | a :: ls, r :: rows, R => by
    obtain ⟨us, h1, h2⟩ := Rwm.vals I hi (ls := ls) (rows := rows) ⟨by have := R.len; simpa using this, fun j a' r' e1 e2 => R.at_ (j + 1) a' r' e1 e2⟩
    obtain ⟨q, hl⟩ := R.at_ 0 a r rfl rfl
    obtain ⟨its, rv, p⟩ := sq_of I q
    have hr : r[i]? = some (r.getD i .non) := by
      rw [List.getD_eq_getElem?_getD, List.getElem?_eq_getElem (by omega)]
      rfl
    obtain ⟨u, hu, ru⟩ := rv.get hr
    refine ⟨u :: us, .cons ru h1, fun j a' e => ?_⟩
    cases j with
    | zero =>
      obtain rfl : a = a' := Option.some.inj e
      exact ⟨its.toArray, p, by simpa using hu⟩
    | succ j => exact h2 j a' e
def ItzM (K : PySem.W.Frag) (kd : Addr → Bool) (ls : List Addr) (rows : List (List V)) (m : Nat) : It :=
  ⟨fun i H => i < m ∧ Rwm K kd H ls rows m, fun i H v H' => ∃ T, v = .ref T ∧ H T = none ∧ H' = upd H T (.tup (colV rows i)), fun i H => i = m ∧ Rwm K kd H ls rows m⟩
theorem turn_zm {P : Program} {w : World} {K : PySem.W.Frag} {elts : List Expr} {kk : Nat} {tpos : Pos} {n m : Nat} {kd : Addr → Bool} {ls : List Addr} {rows : List (List V)} (h1 : 1 ≤ ls.length) (h2 : ls.length ≤ 4) (hlt : ∀ l ∈ ls, l < n) (hm : ∀ r, rows[0]? = some r → r.length = m) :
    Turn P w K (.Tuple elts kk tpos) (ItzM K kd ls rows m) ((n + ls.length + 2) :: (n + ls.length) :: (n + ls.length + 1) :: (zps n ls).map (·.1)) (n + ls.length + 2)
      (fun i h => ZSt kd h (n + ls.length + 2) (n + ls.length) (n + ls.length + 1) (zps n ls) i) where
  mem := List.mem_cons_self
  obj := fun i h S b hb => by
    obtain ⟨⟨f0, f1, hz, _⟩, hTI, ⟨arr, _, hTO⟩, hits⟩ := S
    rcases List.mem_cons.mp hb with rfl | hb
    · exact ⟨_, hz, fun v q => nomatch q⟩
    rcases List.mem_cons.mp hb with rfl | hb
    · exact ⟨_, hTI, fun v q => nomatch q⟩
    rcases List.mem_cons.mp hb with rfl | hb
    · exact ⟨_, hTO, fun v q => nomatch q⟩
    obtain ⟨p, hp, rfl⟩ := List.mem_map.mp hb
    obtain ⟨o, e, _, d⟩ := hits p hp
    exact ⟨o, e, fun v q => by rw [d] at q; cases q⟩
  keep := fun i h h' S k => by
    obtain ⟨⟨f0, f1, hz, hf⟩, hTI, ⟨arr, ha, hTO⟩, hits⟩ := S
    refine ⟨⟨f0, f1, k _ (by simp) _ hz, hf⟩, k _ (by simp) _ hTI, ⟨arr, ha, k _ (by simp) _ hTO⟩, fun p hp => ?_⟩
    obtain ⟨o, e, c⟩ := hits p hp
    exact ⟨o, k _ (by
      refine List.mem_cons_of_mem _ (List.mem_cons_of_mem _ (List.mem_cons_of_mem _ ?_))
      exact List.mem_map_of_mem hp) _ e, c⟩
  item := by
    intro X hP hw hK hc i pins s σ H E I hf S hg
    subst hP hw hK
    obtain ⟨hi, R⟩ := hg
    obtain ⟨us, hv, hx⟩ := R.vals I hi
    have hul : us.length = ls.length := by rw [← hv.length, R.len]; simp [colV]
    have D := zapart hlt
    refine pyNext_zn_item D (by rw [zps_length]; exact h1) (by rw [zps_length]; omega) S (vs := us) (by rw [zps_length]; exact hul) (fun j p e => ?_) fun h' S' hT hsz hk => ?_
    · rw [zps_get] at e
      cases ea : ls[j]? with
      | none => rw [ea] at e; cases e
      | some a =>
        rw [ea] at e
        obtain rfl : (n + j, a) = p := Option.some.inj e
        exact hx j a ea
    · refine ⟨_, rfl, ?_⟩
      obtain ⟨⟨f0, f1, hz', hf'⟩, hTI', ⟨arr', ha', hTO'⟩, hits'⟩ := S'
      have hzlt : n + ls.length + 2 < s.heap.objs.size := by
        obtain ⟨⟨g0, g1, g, _⟩, _⟩ := S
        exact Heap.lt_size g
      refine letGo_any (s := { s with heap := h' }) hz' hf' fun h'' g0 hg0 z'' sb => ?_
      have S'' : ZSt kd h'' (n + ls.length + 2) (n + ls.length) (n + ls.length + 1) (zps n ls) (i + 1) :=
        ⟨⟨_, _, z'', hg0⟩, (sb.2 _ D.tz).trans hTI', ⟨arr', ha', (sb.2 _ D.oz).trans hTO'⟩, fun p hp => by
          obtain ⟨o, e, c⟩ := hits' p hp
          exact ⟨o, (sb.2 _ (D.pz p hp).1).trans e, c⟩⟩
      have hT2 := (sb.2 _ (Nat.ne_of_gt hzlt)).trans hT
      have hcl : (colV rows i).length ≤ sizeLine := by
        rw [hv.length, hul, sizeLine_eq]
        omega
      have new : ObjOk X.prog X.w (upd H s.heap.objs.size (.tup (colV rows i))) h'' s.heap.objs.size (.tup (colV rows i)) := ⟨hcl, us, hv, ⟨_, hT2, rfl, _, rfl⟩⟩
      have I1 : Inv X pins σ (upd H s.heap.objs.size (.tup (colV rows i))) { s with heap := h'' } :=
        I.turnedNew (t' := s.toks) (fun c o hb q => (sb.2 c (fun z => hb (by simp [z]))).trans (hk c o (fun z => hb (by simp [z])) (fun z => hb (by simp [z])) (fun p hp z => hb (by
          refine List.mem_cons_of_mem _ (List.mem_cons_of_mem _ (List.mem_cons_of_mem _ ?_))
          rw [z]
          exact List.mem_map_of_mem hp)) q)) hf (Nat.le_refl _) new
      refine ⟨.ref s.heap.objs.size, _, I1, rfl, ⟨_, rfl, I.hok.fresh (Nat.le_refl _), rfl⟩, S'', fun c hcm => ?_⟩
      obtain ⟨o, ho, _⟩ : ∃ o, s.heap.get? c = some o ∧ True := by
        obtain ⟨⟨f0, f1, hz, _⟩, hTI, ⟨arr, _, hTO⟩, hits⟩ := S
        rcases List.mem_cons.mp hcm with rfl | hcm
        · exact ⟨_, hz, trivial⟩
        rcases List.mem_cons.mp hcm with rfl | hcm
        · exact ⟨_, hTI, trivial⟩
        rcases List.mem_cons.mp hcm with rfl | hcm
        · exact ⟨_, hTO, trivial⟩
        obtain ⟨p, hp, rfl⟩ := List.mem_map.mp hcm
        obtain ⟨o, e, _⟩ := hits p hp
        exact ⟨o, e, trivial⟩
      rw [upd_ne (Nat.ne_of_lt (Heap.lt_size ho))]
      exact (hf c hcm).1
  done := by
    intro X hP hw hK hc i pins s σ H E I hf S hg
    subst hP hw hK
    obtain ⟨rfl, R⟩ := hg
    cases hls : ls with
    | nil => rw [hls] at h1; simp at h1
    | cons a r =>
      cases hrw : rows with
      | nil => have := R.len; rw [hls, hrw] at this; simp at this
      | cons q rr =>
        obtain ⟨hq, hl⟩ := R.at_ 0 a q (by rw [hls]; rfl) (by rw [hrw]; rfl)
        have hql := hm q (by rw [hrw]; rfl)
        obtain ⟨its, rv, p⟩ := sq_of I hq
        have hps : zps n ls = (n, a) :: (zps n ls).tail := by
          rw [hls]
          simp [zps]
        rw [← hls]
        refine pyNext_zn_end (I.ok.hd hc) (zapart hlt) S hps (xs := its.toArray) p ?_ fun h' hk => ⟨rfl, ?_⟩
        · have := rv.length
          rw [List.getElem?_toArray, List.getElem?_eq_none (by omega)]
        · exact I.turnedL (t' := s.toks) (fun c o hb q => hk c o (fun z => hb (by simp [z])) (fun z => hb (by simp [z])) (fun p hp z => hb (by
            refine List.mem_cons_of_mem _ (List.mem_cons_of_mem _ (List.mem_cons_of_mem _ ?_))
            rw [z]
            exact List.mem_map_of_mem hp)) q) hf
  self := fun A i s Q E S h => pyIter_zn S h

/-- for (..) in zip(e, ..), up to four tuples and lists, the first not longer than the others -/
def iZipM (K : PySem.W.Frag) (ta : TA) : TI := fun σ H R => ta σ H fun vs H1 => ∃ (kd : Addr → Bool) (ls : List Addr) (rows : List (List V)) (m : Nat), vs = ls.map V.ref ∧ 1 ≤ ls.length ∧ ls.length ≤ 4 ∧ (∀ r, rows[0]? = some r → r.length = m) ∧ Rwm K kd H1 ls rows m ∧ R (ItzM K kd ls rows m) H1
theorem pi_zipM {X : Cx} {e : Expr} {er : List Expr} {ta : TA} {p pos tpos : Pos} {elts : List Expr} {kk : Nat} (hg : Gl X "zip") (hm : X.mg "zip" = none) (ha : PA X (e :: er) ta)
    (hs : starEach (e :: er) X.env = (false, eval e X.env) :: starEach er X.env := by rfl) (hpl : (backTo pos (starEach er X.env)).any (·.1) = false := by rfl) :
    PI X (.Tuple elts kk tpos) (.Call (.Name "zip" p) (e :: er) [] pos) (iZipM X.K ta) := by
  refine ⟨fun pins s σ H R I h => ?_⟩
  refine Call_ (ld_blt I hg hm PyProof.Rows.boot_zip (PyProof.Rows.callWith_type1 (thn (ha.run pos pins s σ H _ I h) fun us s2 ⟨vs, H1, I2, r1, q1⟩ => ?_) hs hpl))
  obtain ⟨kd, ls, rows, m, ex, h1, h2, hm0, Rw, q⟩ := q1
  subst ex
  obtain rfl := vals_refs r1
  have tup : ∀ l ∈ ls, ∃ xs, IsSq (kd l) s2.heap l xs := fun l hl => by
    obtain ⟨j, hj⟩ := List.mem_iff_getElem?.mp hl
    have hjl := (List.getElem?_eq_some_iff.mp hj).1
    have hjr : rows[j]? = some (rows[j]'(by have := Rw.len; omega)) := List.getElem?_eq_getElem (by have := Rw.len; omega)
    obtain ⟨its, _, p⟩ := sq_of I2 (Rw.at_ j l _ hj hjr).1
    exact ⟨its.toArray, p⟩
  refine call_zipN (kd := kd) h1 h2 tup fun h' n en S hsz hk => ?_
  have I3 : Inv X pins σ H1 { s2 with heap := h' } := I2.kept (t' := s2.toks) hk
  have hlt : ∀ l ∈ ls, l < n := fun l hl => by
    obtain ⟨xs, o, ho, _⟩ := tup l hl
    rw [en]
    exact Heap.lt_size ho
  refine pyIter_zn (s := { s2 with heap := h' }) S ⟨n + ls.length + 2, _, _, _, H1, rfl, I3, turn_zm h1 h2 hlt hm0, S, fun b hb => ?_, q⟩
  have hle : s2.heap.objs.size ≤ b := by
    rw [← en]
    rcases List.mem_cons.mp hb with rfl | hb
    · omega
    rcases List.mem_cons.mp hb with rfl | hb
    · omega
    rcases List.mem_cons.mp hb with rfl | hb
    · omega
    obtain ⟨p, hp, rfl⟩ := List.mem_map.mp hb
    obtain ⟨j, _, _, e⟩ := zps_mem hp
    exact Nat.le_trans (Nat.le_add_right n j) (Nat.le_of_eq e.symm)
  exact I2.fpOk hle (I2.hok.fresh hle)
theorem walk_zm {K : PySem.W.Frag} {kd : Addr → Bool} {ls : List Addr} {rows : List (List V)} {m : Nat} : Walk (ItzM K kd ls rows m) m (fun H => Rwm K kd H ls rows m) (fun i H v H' => ∃ T, v = .ref T ∧ H T = none ∧ H' = upd H T (.tup (colV rows i))) :=
  ⟨fun _ _ hi q => ⟨hi, q⟩, fun _ q => ⟨rfl, q⟩, fun _ _ _ _ _ _ y => y⟩
/-- two of them, kinds b1 and b2 -/
def kd2 (a : Addr) (b1 b2 : Bool) : Addr → Bool := fun x => if x = a then b1 else b2
theorem rwm2 {K : PySem.W.Frag} {H : Hp} {a b : Addr} {b1 b2 : Bool} {xs ys : List V} (h1 : SqX K b1 H a xs) (h2 : SqX K b2 H b ys) (hl : xs.length ≤ ys.length) (hab : a = b → b1 = b2) : Rwm K (kd2 a b1 b2) H [a, b] [xs, ys] xs.length := by
  refine ⟨rfl, fun j c r e1 e2 => ?_⟩
  match j with
  | 0 =>
    obtain rfl : a = c := Option.some.inj e1
    obtain rfl : xs = r := Option.some.inj e2
    refine ⟨?_, Nat.le_refl _⟩
    unfold kd2
    rw [if_pos rfl]
    exact h1
  | 1 =>
    obtain rfl : b = c := Option.some.inj e1
    obtain rfl : ys = r := Option.some.inj e2
    refine ⟨?_, hl⟩
    unfold kd2
    by_cases e : b = a
    · rw [if_pos e, hab e.symm]
      exact h2
    · rw [if_neg e]
      exact h2
  | j + 2 => simp at e1
theorem col2 {xs ys : List V} {i : Nat} {x y : V} (h1 : xs[i]? = some x) (h2 : ys[i]? = some y) : colV [xs, ys] i = [x, y] := by
  unfold colV
  simp [h1, h2]
end DM
namespace DD
open PySem PySem.Spec PyProof.Rows L2
def topS (i : Nat) : Stmt := PySem.Challenge.pw_darkdrawers_k13_certificates_judged.main.body.getD i (.Pass ⟨0, 0, 0, 0⟩)
abbrev sIsNum : Stmt := topS 1
abbrev sUpTo : Stmt := topS 2
abbrev sTupOf : Stmt := topS 3
abbrev sNums : Stmt := topS 4
abbrev sNumsUp : Stmt := topS 5
abbrev sTotals : Stmt := topS 7
abbrev sFul : Stmt := topS 9
abbrev sCont : Stmt := topS 10
abbrev sSpoil : Stmt := topS 11
abbrev sCaps : Stmt := topS 12
abbrev sIsDr : Stmt := topS 14
abbrev sTaken : Stmt := topS 15
abbrev sRoomIn : Stmt := topS 16
abbrev sRoomOf : Stmt := topS 17
abbrev sFind : Stmt := topS 18
abbrev sLoads : Stmt := topS 19
abbrev sSetsOf : Stmt := topS 20
abbrev sOver : Stmt := topS 21
abbrev sWithin : Stmt := topS 22
abbrev sSpare : Stmt := topS 23
abbrev sCHolds : Stmt := topS 24
abbrev sUnl : Stmt := topS 25
abbrev sExcl : Stmt := topS 26
abbrev sAreOv : Stmt := topS 27
abbrev sAreDr : Stmt := topS 28
abbrev sDeck : Stmt := topS 30
abbrev sDraw : Stmt := topS 31
abbrev sStock : Stmt := topS 32
abbrev sLTot : Stmt := topS 33
abbrev sWish : Stmt := topS 34
abbrev sLPlan : Stmt := topS 35
abbrev sLucky : Stmt := topS 36
abbrev sLSp : Stmt := topS 37
abbrev sLCaps : Stmt := topS 38
abbrev sRoom : Stmt := topS 39
abbrev sSets : Stmt := topS 40
abbrev sExc : Stmt := topS 41
abbrev sNum : Stmt := topS 42
abbrev sIsDraw : Stmt := topS 43
abbrev sKnown : Stmt := topS 44
abbrev sHolds : Stmt := topS 45
abbrev sAnyDr : Stmt := topS 46
abbrev sOdd : Stmt := topS 47
abbrev sRepl : Stmt := topS 48
abbrev sAnyTab : Stmt := topS 49
abbrev sVals : Stmt := topS 50
abbrev sLaw : Stmt := topS 51
end DD
namespace DD
open PySem PySem.Spec PyProof.Rows L2

/-! ### small words about heaps -/
def Kp2 (a b : Addr) (H H' : Hp) : Prop := ∀ c o, c ≠ a → c ≠ b → H c = some o → H' c = some o
theorem Kp2.refl {a b : Addr} {H : Hp} : Kp2 a b H H := fun _ _ _ _ e => e
theorem Kp2.trans {a b : Addr} {H H1 H2 : Hp} (x : Kp2 a b H H1) (y : Kp2 a b H1 H2) : Kp2 a b H H2 := fun c o h1 h2 e => y c o h1 h2 (x c o h1 h2 e)
theorem kps {a b : Addr} {H H' : Hp} (x : Same H H') : Kp2 a b H H' := fun c o _ _ e => x c o e
theorem same_new {H : Hp} {p : Addr} {o : HO} (h : H p = none) : Same H (upd H p o) := fun b x e => by
  rw [upd_ne (ne_of_none e h)]
  exact e
theorem kp2_upd1 {a b : Addr} {H : Hp} {o : HO} : Kp2 a b H (upd H a o) := fun c x h1 _ e => by rw [upd_ne h1]; exact e
theorem kp2_upd2 {a b : Addr} {H : Hp} {o : HO} : Kp2 a b H (upd H b o) := fun c x _ h2 e => by rw [upd_ne h2]; exact e

/-- the deck at dk: its cells at c, none below 0; at most B draws so far -/
structure Deck (H : Hp) (dk c : Addr) (B : Nat) : Prop where
  ex : ∃ (ns : List Int) (t : Int), H dk = some (.lst [.ref c, .int t]) ∧ H c = some (.lst (ns.map V.int)) ∧ (∀ n ∈ ns, 0 ≤ n) ∧ ns.length ≤ 63 ∧ 0 ≤ t ∧ t ≤ (B : Int)
  ne : dk ≠ c
theorem Deck.up {H : Hp} {dk c : Addr} {B B' : Nat} (d : Deck H dk c B) (h : B ≤ B') : Deck H dk c B' := by
  obtain ⟨⟨ns, t, h1, h2, h3, h4, h5, h6⟩, ne⟩ := d
  exact ⟨⟨ns, t, h1, h2, h3, h4, h5, by omega⟩, ne⟩
theorem Deck.keep {H H' : Hp} {dk c : Addr} {B : Nat} (d : Deck H dk c B) (k : Same H H') : Deck H' dk c B := by
  obtain ⟨⟨ns, t, h1, h2, h3⟩, ne⟩ := d
  exact ⟨⟨ns, t, k _ _ h1, k _ _ h2, h3⟩, ne⟩

theorem len_ltD {n : Nat} (h : n ≤ 1000) : n < sizeLine := small1000 h
theorem scDraw : FnScope ["_law_deck_here", "_law_bound", "_law_at", "_law_cell", "_law_mixed"] ["_law_deck_here", "_law_bound"] (defScope sDraw) := ⟨rfl, rfl, rfl, by decide +kernel, rfl, by decide +kernel, by decide +kernel⟩

section
variable {P : Program} {w : World} {K : PySem.W.Frag} {mg : Str → Option Value} {base : Heap}
/-- a drawn number from 0 to L - 1: the deck turns, all else stands -/
def spDraw : Sp := fun vs H Q _ => ∃ (dk c : Addr) (B : Nat) (L : Int), vs = [.ref dk, .int L] ∧ Deck H dk c B ∧ B ≤ 1000000 ∧ 1 ≤ L ∧ L ≤ 1000 ∧
  ∀ r H', 0 ≤ r → r < L → Kp2 dk c H H' → Deck H' dk c (B + 1) → Q (.int r) H'
theorem ok_draw {f : Addr} {fd : FuncData} {k : Nat} (F : Fun K "_law_draw" "_law_draw" sDraw f fd) (ml : mg "len" = none) (mx : mg "max" = none) : FnOk P w K mg base CX0 (k + 1) f fd ["_law_deck_here", "_law_bound"] spDraw := by
  refine F.ok scDraw (fun vs H Q E h => ?_) (fun cdv A outer s H vs Q E hr h => ?_)
  · obtain ⟨dk, c, B, L, rfl, _⟩ := h
    rfl
  · obtain ⟨dk, c, B, L, rfl, ⟨⟨ns, t, hdk, hc, hpos, hlen, t0, tB⟩, dne⟩, hB, hL1, hL2, q⟩ := h
    refine ⟨_, pss_cons (ps_asg (pe_op op_add (pe_ix ix_list (pv 0) pe_int (fun _ _ => rfl)) pe_int) (pg_sub (pv 0) pe_int set_list))
      (pss_cons (ps_set (i := 2) scDraw.nd rfl (.inl rfl) (pe_op op_modN (pe_ix ix_list (pv 0) pe_int (fun _ _ => rfl)) (pe_callB (call_max2 rfl) (by rfl) mx (by decide +kernel) (pa_cons pe_int (pa_cons (pe_callB call_len_seq (by rfl) ml PySem.boot_len (pa_cons (pe_ix ix_list (pv 0) pe_int (fun _ _ => rfl)) pa_nil)) pa_nil)))))
      (pss_cons (ps_set (i := 3) scDraw.nd rfl (.inl rfl) (pe_ix ix_list (pe_op op_cat (pe_ix ix_list (pv 0) pe_int (fun _ _ => rfl)) (pe_lst (pa_cons pe_int pa_nil))) (pv 2) (fun _ _ => rfl)))
      (pss_cons (ps_if (pt_cmpR op_ge (pv 3) (pe_op op_pow pe_int pe_int) (nomark _))
          (pss_cons (ps_asg (pe_op op_fdivN (pv 3) (pv 1)) (pg_sub (pe_ix ix_list (pv 0) pe_int (fun _ _ => rfl)) (pv 2) set_list))
          (pss_one (ps_ret (pe_op op_modN (pv 3) (pv 1)))))
          pss_nil)
      (pss_cons (ps_set (i := 4) scDraw.nd rfl (.inl rfl) (pe_op op_modN (pe_op op_pow (pe_op op_add (pe_op op_add (pe_op op_modN (pv 3) pe_int) (pe_op op_mul pe_int (pe_ix ix_list (pv 0) pe_int (fun _ _ => rfl)))) pe_int) pe_int) pe_int))
      (pss_one (ps_ret (pe_op op_modN (pe_op op_add (pe_op op_fdivN (pv 4) pe_int) (pe_op op_mul pe_int (pe_ix ix_list (pv 0) pe_int (fun _ _ => rfl)))) (pv 1)))))))), ?_⟩
    -- _law_deck_here[1] = _law_deck_here[1] + 1
    refine ⟨.ref dk, rfl, dk, _, 1, .int t, rfl, rfl, SqL.of hdk, atI_nat (j := 1) rfl, t, 1, rfl, rfl, .ref dk, rfl, dk, _, 1, 1, rfl, rfl, hdk, rfl, ?_⟩
    have hdk1 : (upd H dk (.lst [.ref c, .int (t + 1)])) dk = some (.lst [.ref c, .int (t + 1)]) := upd_same
    have hc1 : (upd H dk (.lst [.ref c, .int (t + 1)])) c = some (.lst (ns.map V.int)) := by
      rw [upd_ne dne.symm]
      exact hc
    -- _law_at
    refine ⟨.ref dk, rfl, dk, _, 1, .int (t + 1), rfl, rfl, SqL.of hdk1, atI_nat (j := 1) rfl, .ref dk, rfl, dk, _, 0, .ref c, rfl, rfl, SqL.of hdk1, atI_nat (j := 0) rfl, c, _, rfl, .inl (SqL.of hc1), 1, _, rfl, ?_⟩
    rw [List.length_map]
    obtain ⟨mx1, emx, hmx1, hmx2⟩ : ∃ m1 : Nat, (if (ns.length : Int) > 1 then (ns.length : Int) else 1) = (m1 : Int) ∧ 1 ≤ m1 ∧ m1 ≤ ns.length + 1 ∧ (1 ≤ ns.length → m1 ≤ ns.length) := by
      split
      · exact ⟨ns.length, rfl, by omega, by omega, fun _ => Nat.le_refl _⟩
      · exact ⟨1, rfl, by omega, by omega, fun h => h⟩
    rw [emx]
    have b1 := Int.fmod_nonneg_of_pos (t + 1) (show (0 : Int) < (mx1 : Int) by omega)
    have b2 := Int.fmod_lt_of_pos (t + 1) (show (0 : Int) < (mx1 : Int) by omega)
    obtain ⟨j, hj⟩ : ∃ j : Nat, (t + 1).fmod (mx1 : Int) = j := ⟨((t + 1).fmod (mx1 : Int)).toNat, by omega⟩
    refine ⟨t + 1, _, rfl, rfl, by omega, ?_⟩
    have hjl : j < mx1 := by omega
    -- _law_cell
    refine ⟨.ref dk, rfl, dk, _, 0, .ref c, rfl, rfl, SqL.of hdk1, atI_nat (j := 0) rfl, by show 1 ≤ sizeLine; decide, fun p np => ?_⟩
    have s2 : Same _ _ := same_new (o := .lst [.int 0]) np
    have hdk2 := s2 _ _ hdk1
    have hc2 := s2 _ _ hc1
    have hp2 : (upd (upd H dk (.lst [.ref c, .int (t + 1)])) p (.lst [.int 0])) p = some (.lst [.int 0]) := upd_same
    have k2 : Kp2 dk c H (upd (upd H dk (.lst [.ref c, .int (t + 1)])) p (.lst [.int 0])) := kp2_upd1.trans (kps s2)
    refine ⟨c, p, ns.map V.int, [.int 0], rfl, rfl, hc2, hp2, by rw [List.length_map]; exact Nat.le_of_lt (len_ltD (by show ns.length + 1 ≤ 1000; omega)), fun p3 np3 => ?_⟩
    have s3 : Same _ _ := same_new (o := .lst (ns.map V.int ++ [.int 0])) np3
    have hdk3 := s3 _ _ hdk2
    have hc3 := s3 _ _ hc2
    have k3 := k2.trans (kps s3)
    have gj : ∃ cell : Int, (ns.map V.int ++ [V.int 0])[j]? = some (.int cell) ∧ 0 ≤ cell ∧ (10 ^ 18 ≤ cell → j < ns.length) := by
      by_cases hjn : j < ns.length
      · refine ⟨ns[j], ?_, hpos _ (List.getElem_mem hjn), fun _ => hjn⟩
        rw [List.getElem?_append_left (by rw [List.length_map]; exact hjn), List.getElem?_map, List.getElem?_eq_getElem hjn]
        rfl
      · have hj0 : j = ns.length := by omega
        refine ⟨0, ?_, Int.le_refl _, fun z => absurd z (by decide)⟩
        rw [List.getElem?_append_right (by rw [List.length_map]; omega), List.length_map, hj0, Nat.sub_self]
        rfl
    obtain ⟨cell, gj, hcell, hix0⟩ := gj
    refine ⟨_, rfl, p3, _, (j : Int), .int cell, rfl, congrArg V.int hj, SqL.of upd_same, atI_nat gj, ?_⟩
    have hB1 : t + 1 ≤ ((B + 1 : Nat) : Int) := by omega
    -- if _law_cell >= 10 ** 18
    refine ⟨_, rfl, 10, 18, rfl, rfl, ⟨by decide, by decide, by decide⟩, _, _, rfl, rfl, _, rfl, ite2 (fun e => ?_) (fun e => ?_)⟩
    · have e0 : (10 : Int) ^ (18 : Int).toNat ≤ cell := of_decide_eq_true e
      have hjn := hix0 e0
      have hix : ixN (ns.map V.int).length (j : Int) = some j := by
        unfold ixN
        rw [if_pos (by omega), if_pos (by rw [List.length_map]; omega)]
        simp
      refine ⟨_, rfl, _, rfl, cell, L, rfl, rfl, ⟨by omega, by omega⟩, .ref dk, rfl, dk, _, 0, .ref c, rfl, rfl, SqL.of hdk3, atI_nat (j := 0) rfl, _, rfl, c, _, (j : Int), j, rfl, congrArg V.int hj, hc3, hix, ?_⟩
      refine ⟨_, rfl, _, rfl, cell, L, rfl, rfl, by omega, ?_⟩
      refine q _ _ (Int.fmod_nonneg_of_pos _ (by omega)) (Int.fmod_lt_of_pos _ (by omega)) (k3.trans kp2_upd2) ⟨⟨ns.set j (cell.fdiv L), t + 1, ?_, ?_, ?_, ?_, by omega, hB1⟩, dne⟩
      · rw [upd_ne dne]
        exact hdk3
      · rw [upd_same, List.map_set]
      · intro n hn
        rcases List.mem_or_eq_of_mem_set hn with h | h
        · exact hpos n h
        · rw [h]
          exact Int.fdiv_nonneg hcell (by omega)
      · rw [List.length_set]
        exact hlen
    · have b1 := Int.fmod_nonneg_of_pos cell (show (0 : Int) < 2147483563 by decide)
      have b2 := Int.fmod_lt_of_pos cell (show (0 : Int) < 2147483563 by decide)
      refine ⟨_, rfl, cell, 2147483563, rfl, rfl, (by show (2147483563 : Int) ≠ 0; decide), .ref dk, rfl, dk, _, 1, .int (t + 1), rfl, rfl, SqL.of hdk3, atI_nat (j := 1) rfl, 104729, t + 1, rfl, rfl, .inl ⟨by decide, by decide⟩,
        _, _, rfl, rfl, _, _, rfl, rfl, _, 4, rfl, rfl, ⟨by decide, by decide, by omega⟩, _, 2147483629, rfl, rfl, (by show (2147483629 : Int) ≠ 0; decide), ?_⟩
      refine ⟨_, rfl, _, 8, rfl, rfl, ⟨by decide, by decide⟩, .ref dk, rfl, dk, _, 1, .int (t + 1), rfl, rfl, SqL.of hdk3, atI_nat (j := 1) rfl, 31, t + 1, rfl, rfl, .inl ⟨by decide, by decide⟩, _, _, rfl, rfl, _, rfl, _, L, rfl, rfl, by omega, ?_⟩
      exact q _ _ (Int.fmod_nonneg_of_pos _ (by omega)) (Int.fmod_lt_of_pos _ (by omega)) k3 ⟨⟨ns, t + 1, hdk3, hc3, hpos, hlen, by omega, hB1⟩, dne⟩
end
end DD
namespace DD
open PySem PySem.Spec PyProof.Rows L2
theorem get_map {α β : Type} {f : α → β} {xs : List α} {i : Nat} {y : β} (h : (xs.map f)[i]? = some y) : ∃ x, xs[i]? = some x ∧ y = f x := by
  rw [List.getElem?_map] at h
  cases e : xs[i]? with
  | none => rw [e] at h; cases h
  | some x => rw [e] at h; exact ⟨x, rfl, (Option.some.inj h).symm⟩
theorem take_succ_map {α β : Type} {f : α → β} {xs : List α} {i : Nat} {x : α} (h : xs[i]? = some x) : (xs.take (i + 1)).map f = (xs.take i).map f ++ [f x] := by
  rw [List.take_add_one, h, List.map_append]
  rfl
theorem cutV_map {ns : List Int} {lo hi : Option Int} : ∃ ms : List Int, cutV (ns.map V.int) lo hi = ms.map V.int ∧ ms.length ≤ ns.length := by
  refine ⟨(ns.drop (HT.sIx ns.length 0 lo)).take (HT.sIx ns.length ns.length hi - HT.sIx ns.length 0 lo), ?_, ?_⟩
  · unfold cutV
    rw [List.length_map, List.map_take, List.map_drop]
  · rw [List.length_take, List.length_drop]
    omega
theorem len_lt {n : Nat} (h : n ≤ 1000) : n < sizeLine := small1000 h
def absI (i : Int) : Int := if i < 0 then -i else i
theorem absI_pos (i : Int) : 0 ≤ absI i := by
  unfold absI
  split <;> omega

theorem scDeck : FnScope ["_law_script", "_law_cell"] ["_law_script"] (defScope sDeck) := ⟨rfl, rfl, rfl, by decide +kernel, rfl, by decide +kernel, by decide +kernel⟩
section
variable {P : Program} {w : World} {K : PySem.W.Frag} {mg : Str → Option Value} {base : Heap}
def spDeck (K : PySem.W.Frag) : Sp := fun vs H Q _ => ∃ (a : Addr) (ns : List Int), vs = [.ref a] ∧ SqL K H a (ns.map V.int) ∧ ns.length ≤ 63 ∧
  ∀ dk c H', Same H H' → H dk = none → H c = none → Deck H' dk c 0 → Q (.ref dk) H'
theorem ok_deck {f : Addr} {fd : FuncData} {k : Nat} (F : Fun K "_law_deck" "_law_deck" sDeck f fd) (ma : mg "abs" = none) : FnOk P w K mg base CX0 (k + 1) f fd ["_law_script"] (spDeck K) := by
  refine F.ok scDeck (fun vs H Q E h => ?_) (fun cdv A outer s H vs Q E hr h => ?_)
  · obtain ⟨a, ns, rfl, _⟩ := h
    rfl
  · obtain ⟨a, ns, rfl, hS, hlen, q⟩ := h
    refine ⟨_, pss_one (ps_ret (pe_lst (pa_cons (pe_lc (own := [("_law_cell", 1)]) (g := gName 1) rfl scDeck.nd (pi_list (pe_slice sl_list (pv 0) po_none (po_some pe_int)))
      (blkOk_by (own := [("_law_cell", 1)]) (N := ["_law_script", "_law_cell"]) (sc := defScope sDeck) (by decide +kernel)) (fun _ _ _ _ _ => pg_name (i := 1) scDeck.nd rfl (Or.inl rfl)) (fun _ _ _ _ _ => pts_nil)
      (fun _ _ _ _ _ => pe_callB call_abs (by rfl) ma (by decide +kernel) (pa_cons (pv 1) pa_nil))) (pa_cons pe_int pa_nil)))), ?_⟩
    refine ⟨.ref a, rfl, 60, rfl, a, _, rfl, hS, fun p np => ?_⟩
    obtain ⟨ms, em, hml⟩ := cutV_map (ns := ns) (lo := none) (hi := some 60)
    rw [em]
    refine ⟨p, rfl, ⟨_, SqL.of upd_same⟩, fun D nD => ?_⟩
    have hp0 : Same H (upd H p (.lst (ms.map V.int))) := same_new np
    refine lc_list (xs := ms.map V.int) (fun i H' => H' D = some (.lst ((ms.take i).map fun n => V.int (absI n))) ∧ Same (upd H p (.lst (ms.map V.int))) H') ⟨upd_same, same_new nD⟩
      (fun i H' _ h => SqL.of (h.2 _ _ upd_same)) (fun i x H' hx h => ?_) (fun H' h => ?_)
    · obtain ⟨n, hn, rfl⟩ := get_map hx
      obtain ⟨hD, sm⟩ := h
      refine ⟨rfl, _, rfl, n, rfl, _, hD, ?_, ?_, fun b o e => ?_⟩
      · rw [List.length_map, List.length_take]
        exact len_lt (by omega)
      · rw [upd_same, take_succ_map hn]
        rfl
      · have hne : b ≠ D := ne_of_none e nD
        rw [upd_ne hne]
        exact sm b o e
    · obtain ⟨hD, sm⟩ := h
      rw [List.length_map, List.take_length] at hD
      refine ⟨by show 2 ≤ sizeLine; decide, fun dk nk => ?_⟩
      have ndk : D ≠ dk := ne_of_none hD nk
      refine q dk D _ (hp0.trans (sm.trans (same_new nk))) ?_ ?_ ⟨⟨ms.map absI, 0, upd_same, ?_, ?_, ?_, Int.le_refl _, Int.le_refl _⟩, ndk.symm⟩
      · exact hp0.free (sm.free nk)
      · exact hp0.free nD
      · rw [upd_ne ndk, hD, List.map_map]
        rfl
      · intro n hn
        obtain ⟨m, _, rfl⟩ := List.mem_map.mp hn
        exact absI_pos m
      · rw [List.length_map]
        omega
end
end DD
namespace DD
open PySem PySem.Spec PyProof.Rows L2
theorem Deck.kp {H : Hp} {dk c l : Addr} {B : Nat} {o : HO} (d : Deck H dk c B) (n : H l = none) : Deck (upd H l o) dk c B := d.keep (same_new n)
theorem Deck.nedk {H : Hp} {dk c l : Addr} {B : Nat} (d : Deck H dk c B) (n : H l = none) : l ≠ dk ∧ l ≠ c := by
  obtain ⟨ns, t, h1, h2, _⟩ := d.ex
  exact ⟨(ne_of_none h1 n).symm, (ne_of_none h2 n).symm⟩
theorem two_at {r a b : Int} (h0 : 0 ≤ r) (h : r < 2) : ∃ z : Int, (z = a ∨ z = b) ∧ atI [V.int a, V.int b] r = some (.int z) := by
  have e : r = 0 ∨ r = 1 := by omega
  rcases e with rfl | rfl
  · exact ⟨a, .inl rfl, rfl⟩
  · exact ⟨b, .inr rfl, rfl⟩
theorem kp_free {dk c t : Addr} {H H' : Hp} {B : Nat} (kp : Kp2 dk c H H') (d : Deck H' dk c B) (nt : H' t = none) : H t = none := by
  have tne := d.nedk nt
  cases e : H t with
  | none => rfl
  | some o =>
    have := kp t o tne.1 tne.2 e
    rw [nt] at this
    cases this
theorem Deck.updD {H : Hp} {dk c D : Addr} {B : Nat} {o : HO} (d : Deck H dk c B) (h1 : D ≠ dk) (h2 : D ≠ c) : Deck (upd H D o) dk c B := by
  obtain ⟨⟨ns, t, a1, a2, a3⟩, a4⟩ := d
  refine ⟨⟨ns, t, ?_, ?_, a3⟩, a4⟩
  · rw [upd_ne h1.symm]
    exact a1
  · rw [upd_ne h2.symm]
    exact a2
/-- the tuple at t holds tuples of ints: the rows -/
structure StockAt (H : Hp) (t : Addr) (ls : List Addr) (rows : List (List Int)) : Prop where
  top : H t = some (.tup (ls.map V.ref))
  len : ls.length = rows.length
  row : ∀ (j : Nat) (l : Addr) (r : List Int), ls[j]? = some l → rows[j]? = some r → H l = some (.tup (r.map V.int))
theorem StockAt.kp {H H' : Hp} {dk c t : Addr} {ls : List Addr} {rows : List (List Int)} {B : Nat} (a : StockAt H t ls rows) (k : Kp2 dk c H H') (d : Deck H dk c B) : StockAt H' t ls rows := by
  obtain ⟨ns, t', h1, h2, _⟩ := d.ex
  have n1 : ∀ b xs, H b = some (.tup xs) → b ≠ dk ∧ b ≠ c := fun b xs e =>
    ⟨fun z => (by rw [z, h1] at e; cases e), fun z => (by rw [z, h2] at e; cases e)⟩
  refine ⟨k _ _ (n1 _ _ a.top).1 (n1 _ _ a.top).2 a.top, a.len, fun j l r e1 e2 => ?_⟩
  have h := a.row j l r e1 e2
  exact k _ _ (n1 _ _ h).1 (n1 _ _ h).2 h
theorem StockAt.same {H H' : Hp} {t : Addr} {ls : List Addr} {rows : List (List Int)} (a : StockAt H t ls rows) (k : Same H H') : StockAt H' t ls rows :=
  ⟨k _ _ a.top, a.len, fun j l r e1 e2 => k _ _ (a.row j l r e1 e2)⟩
/-! ### data of stocks and rows -/
def rowD (r : List Int) : PyData := .tuple (r.map PyData.int)
def stockD (rows : List (List Int)) : PyData := .tuple (rows.map rowD)
theorem dps_ints {K : PySem.W.Frag} {H : Hp} : ∀ r : List Int, DpAll K H (r.map V.int) (r.map PyData.int)
  | [] => .nil
  | x :: r => .cons (.int x) (dps_ints r)
theorem dp_row {K : PySem.W.Frag} {H : Hp} {p : Addr} {r : List Int} (h : H p = some (.tup (r.map V.int))) : Dp K H (.ref p) (rowD r) := .tup (SqT.of h) (dps_ints r)
theorem dps_rows {K : PySem.W.Frag} {H : Hp} : ∀ (ls : List Addr) (rows : List (List Int)), ls.length = rows.length →
    (∀ (j : Nat) (l : Addr) (r : List Int), ls[j]? = some l → rows[j]? = some r → H l = some (.tup (r.map V.int))) → DpAll K H (ls.map V.ref) (rows.map rowD)
  | [], [], _, _ => .nil
  | [], _ :: _, h, _ => by simp at h
  | _ :: _, [], h, _ => by simp at h
  | l :: ls, r :: rows, h, hat => .cons (dp_row (hat 0 l r rfl rfl)) (dps_rows ls rows (by simpa using h) fun j l' r' e1 e2 => hat (j + 1) l' r' e1 e2)
theorem StockAt.dp {K : PySem.W.Frag} {H : Hp} {t : Addr} {ls : List Addr} {rows : List (List Int)} (a : StockAt H t ls rows) : Dp K H (.ref t) (stockD rows) :=
  .tup (SqT.of a.top) (dps_rows ls rows a.len a.row)
theorem sm_row {r : List Int} (h : ∀ x ∈ r, 0 ≤ x ∧ x < 4096) (hl : r.length ≤ 4) : Sm 56 1 (rowD r) := by
  have a : SmA (r.map PyData.int).length 13 0 (r.map PyData.int) := SmA.all fun d hd => by
    obtain ⟨x, hx, rfl⟩ := List.mem_map.mp hd
    exact Sm.int (h x hx).1 (h x hx).2
  refine a.tup.up ?_ (Nat.le_refl _)
  rw [List.length_map]
  omega
theorem sm_stock {rows : List (List Int)} (h : ∀ r ∈ rows, r.length ≤ 4 ∧ ∀ x ∈ r, 0 ≤ x ∧ x < 4096) (hl : rows.length ≤ 4) : Sm 228 2 (stockD rows) := by
  have a : SmA (rows.map rowD).length 56 1 (rows.map rowD) := SmA.all fun d hd => by
    obtain ⟨r, hr, rfl⟩ := List.mem_map.mp hd
    exact sm_row (h r hr).2 (h r hr).1
  refine a.tup.up ?_ (Nat.le_refl _)
  rw [List.length_map]
  omega
theorem sm_pair {a b : List Int} (ha : ∀ x ∈ a, 0 ≤ x ∧ x < 4096) (hal : a.length ≤ 4) (hb : ∀ x ∈ b, 0 ≤ x ∧ x < 4096) (hbl : b.length ≤ 4) : Sm 114 2 (.list [rowD a, rowD b]) := by
  have q : SmA (0 + 1 + 1) 56 1 [rowD a, rowD b] := SmA.cons (sm_row ha hal) (SmA.cons (sm_row hb hbl) SmA.nil)
  exact q.lst.up (by omega) (by omega)
theorem sum_bd {b : Int} : ∀ {xs : List Int}, (∀ x ∈ xs, 0 ≤ x ∧ x ≤ b) → 0 ≤ xs.sum ∧ xs.sum ≤ (xs.length : Int) * b
  | [], _ => by simp
  | x :: xs, h => by
    have h1 := h x List.mem_cons_self
    have h2 := sum_bd (xs := xs) fun y hy => h y (List.mem_cons_of_mem _ hy)
    rw [List.sum_cons, List.length_cons, Int.natCast_add, Int.add_mul]
    omega
theorem getD_bd {r : List Int} {b : Int} (h : ∀ x ∈ r, 0 ≤ x ∧ x ≤ b) (hb : 0 ≤ b) (i : Nat) : 0 ≤ r.getD i 0 ∧ r.getD i 0 ≤ b := by
  rw [List.getD_eq_getElem?_getD]
  cases e : r[i]? with
  | none => exact ⟨Int.le_refl _, hb⟩
  | some x => exact h x (List.mem_of_getElem? e)
structure Tx (K : PySem.W.Frag) (mg : Str → Option Value) (fN fU fTu fA fAu fO fFu fCo fSp fCa fIr fTk fI fR fFc fLo fSo fOv fDw fSv fCh fUd fEt fAo fAd fDk fD fS fTt fW fPl fLu fLs fLc fM fE fX fNu fId fKn fHo fAy fOo fRp fAt fVa : Addr) (dN dU dTu dA dAu dO dFu dCo dSp dCa dIr dTk dI dR dFc dLo dSo dOv dDw dSv dCh dUd dEt dAo dAd dDk dD dS dTt dW dPl dLu dLs dLc dM dE dX dNu dId dKn dHo dAy dOo dRp dAt dVa : FuncData) : Prop where
  N : Fun K "is_number" "is_number" sIsNum fN dN
  bN : Binds K dN ["value"] []
  gN : mg "is_number" = some (.ref fN)
  U : Fun K "is_number_up_to" "is_number_up_to" sUpTo fU dU
  bU : Binds K dU ["value", "most"] []
  gU : mg "is_number_up_to" = some (.ref fU)
  Tu : Fun K "is_tuple_of" "is_tuple_of" sTupOf fTu dTu
  bTu : Binds K dTu ["value", "fewest", "most"] []
  gTu : mg "is_tuple_of" = some (.ref fTu)
  A : Fun K "are_numbers" "are_numbers" sNums fA dA
  bA : Binds K dA ["value", "fewest", "most", "limit"] []
  gA : mg "are_numbers" = some (.ref fA)
  Au : Fun K "are_numbers_up_to" "are_numbers_up_to" sNumsUp fAu dAu
  bAu : Binds K dAu ["value", "limits"] []
  gAu : mg "are_numbers_up_to" = some (.ref fAu)
  O : Fun K "totals_of" "totals_of" sTotals fO dO
  bO : Binds K dO ["stock"] []
  gO : mg "totals_of" = some (.ref fO)
  Fu : Fun K "fulfilled_by" "fulfilled_by" sFul fFu dFu
  bFu : Binds K dFu ["collections", "counts"] []
  gFu : mg "fulfilled_by" = some (.ref fFu)
  Co : Fun K "contain" "contain" sCont fCo dCo
  bCo : Binds K dCo ["counts", "collection"] []
  gCo : mg "contain" = some (.ref fCo)
  Sp : Fun K "spoilings_of" "spoilings_of" sSpoil fSp dSp
  bSp : Binds K dSp ["collections"] []
  gSp : mg "spoilings_of" = some (.ref fSp)
  Ca : Fun K "caps_of" "caps_of" sCaps fCa dCa
  bCa : Binds K dCa ["collections", "spoiling"] []
  gCa : mg "caps_of" = some (.ref fCa)
  Ir : Fun K "is_draw" "is_draw" sIsDr fIr dIr
  bIr : Binds K dIr ["stock", "plan", "value"] []
  gIr : mg "is_draw" = some (.ref fIr)
  Tk : Fun K "is_taken_from" "is_taken_from" sTaken fTk dTk
  bTk : Binds K dTk ["drawer", "number", "value"] []
  gTk : mg "is_taken_from" = some (.ref fTk)
  I : Fun K "room_in" "room_in" sRoomIn fI dI
  bI : Binds K dI ["stock", "caps", "drawers"] []
  gI : mg "room_in" = some (.ref fI)
  R : Fun K "room_of" "room_of" sRoomOf fR dR
  bR : Binds K dR ["totals", "caps"] []
  gR : mg "room_of" = some (.ref fR)
  Fc : Fun K "find_certificate" "find_certificate" sFind fFc dFc
  bFc : Binds K dFc ["stock", "collections", "plan"] []
  gFc : mg "find_certificate" = some (.ref fFc)
  Lo : Fun K "loads_of" "loads_of" sLoads fLo dLo
  bLo : Binds K dLo ["stock", "plan"] []
  gLo : mg "loads_of" = some (.ref fLo)
  So : Fun K "sets_of_drawers" "sets_of_drawers" sSetsOf fSo dSo
  bSo : Binds K dSo ["stock"] []
  gSo : mg "sets_of_drawers" = some (.ref fSo)
  Ov : Fun K "overfull" "overfull" sOver fOv dOv
  bOv : Binds K dOv ["loads", "caps"] []
  gOv : mg "overfull" = some (.ref fOv)
  Dw : Fun K "draw_within" "draw_within" sWithin fDw dDw
  bDw : Binds K dDw ["stock", "caps", "plan"] []
  gDw : mg "draw_within" = some (.ref fDw)
  Sv : Fun K "spare_of" "spare_of" sSpare fSv dSv
  bSv : Binds K dSv ["loads", "caps", "kind"] []
  gSv : mg "spare_of" = some (.ref fSv)
  Ch : Fun K "certificate_holds" "certificate_holds" sCHolds fCh dCh
  bCh : Binds K dCh ["stock", "collections", "plan", "value"] []
  gCh : mg "certificate_holds" = some (.ref fCh)
  Ud : Fun K "is_unlucky_draw" "is_unlucky_draw" sUnl fUd dUd
  bUd : Binds K dUd ["stock", "collections", "plan", "value"] []
  gUd : mg "is_unlucky_draw" = some (.ref fUd)
  Et : Fun K "is_excluding_table" "is_excluding_table" sExcl fEt dEt
  bEt : Binds K dEt ["stock", "collections", "plan", "value"] []
  gEt : mg "is_excluding_table" = some (.ref fEt)
  Ao : Fun K "are_overfull" "are_overfull" sAreOv fAo dAo
  bAo : Binds K dAo ["stock", "caps", "plan", "value"] []
  gAo : mg "are_overfull" = some (.ref fAo)
  Ad : Fun K "are_drawers" "are_drawers" sAreDr fAd dAd
  bAd : Binds K dAd ["stock", "value"] []
  gAd : mg "are_drawers" = some (.ref fAd)
  Dk : Fun K "_law_deck" "_law_deck" sDeck fDk dDk
  bDk : Binds K dDk ["_law_script"] []
  gDk : mg "_law_deck" = some (.ref fDk)
  D : Fun K "_law_draw" "_law_draw" sDraw fD dD
  bD : Binds K dD ["_law_deck_here", "_law_bound"] []
  gD : mg "_law_draw" = some (.ref fD)
  S : Fun K "_law_stock" "_law_stock" sStock fS dS
  bS : Binds K dS ["_law_deck_here", "_law_drawers", "_law_kinds", "_law_most"] []
  gS : mg "_law_stock" = some (.ref fS)
  Tt : Fun K "_law_totals" "_law_totals" sLTot fTt dTt
  bTt : Binds K dTt ["_law_rows"] []
  gTt : mg "_law_totals" = some (.ref fTt)
  W : Fun K "_law_wish" "_law_wish" sWish fW dW
  bW : Binds K dW ["_law_deck_here", "_law_stock_here"] []
  gW : mg "_law_wish" = some (.ref fW)
  Pl : Fun K "_law_plan" "_law_plan" sLPlan fPl dPl
  bPl : Binds K dPl ["_law_deck_here", "_law_stock_here"] []
  gPl : mg "_law_plan" = some (.ref fPl)
  Lu : Fun K "_law_lucky" "_law_lucky" sLucky fLu dLu
  bLu : Binds K dLu ["_law_collections", "_law_counts"] []
  gLu : mg "_law_lucky" = some (.ref fLu)
  Ls : Fun K "_law_spoilings" "_law_spoilings" sLSp fLs dLs
  bLs : Binds K dLs ["_law_collections"] []
  gLs : mg "_law_spoilings" = some (.ref fLs)
  Lc : Fun K "_law_caps" "_law_caps" sLCaps fLc dLc
  bLc : Binds K dLc ["_law_collections", "_law_spoiling"] []
  gLc : mg "_law_caps" = some (.ref fLc)
  M : Fun K "_law_room" "_law_room" sRoom fM dM
  bM : Binds K dM ["_law_stock_here", "_law_caps_here", "_law_drawers"] []
  gM : mg "_law_room" = some (.ref fM)
  E : Fun K "_law_sets" "_law_sets" sSets fE dE
  bE : Binds K dE ["_law_count"] []
  gE : mg "_law_sets" = some (.ref fE)
  X : Fun K "_law_excess" "_law_excess" sExc fX dX
  bX : Binds K dX ["_law_stock_here", "_law_caps_here", "_law_plan_here"] []
  gX : mg "_law_excess" = some (.ref fX)
  Nu : Fun K "_law_number" "_law_number" sNum fNu dNu
  bNu : Binds K dNu ["_law_value", "_law_low", "_law_high"] []
  gNu : mg "_law_number" = some (.ref fNu)
  Id : Fun K "_law_is_draw" "_law_is_draw" sIsDraw fId dId
  bId : Binds K dId ["_law_stock_here", "_law_plan_here", "_law_value"] []
  gId : mg "_law_is_draw" = some (.ref fId)
  Kn : Fun K "_law_known" "_law_known" sKnown fKn dKn
  bKn : Binds K dKn ["_law_stock_here", "_law_collections", "_law_plan_here"] []
  gKn : mg "_law_known" = some (.ref fKn)
  Ho : Fun K "_law_holds" "_law_holds" sHolds fHo dHo
  bHo : Binds K dHo ["_law_stock_here", "_law_collections", "_law_plan_here", "_law_value", "_law_known_here"] []
  gHo : mg "_law_holds" = some (.ref fHo)
  Ay : Fun K "_law_any_draw" "_law_any_draw" sAnyDr fAy dAy
  bAy : Binds K dAy ["_law_deck_here", "_law_stock_here", "_law_plan_here"] []
  gAy : mg "_law_any_draw" = some (.ref fAy)
  Oo : Fun K "_law_odd" "_law_odd" sOdd fOo dOo
  bOo : Binds K dOo ["_law_deck_here"] []
  gOo : mg "_law_odd" = some (.ref fOo)
  Rp : Fun K "_law_replaced" "_law_replaced" sRepl fRp dRp
  bRp : Binds K dRp ["_law_deck_here", "_law_value", "_law_depth"] []
  gRp : mg "_law_replaced" = some (.ref fRp)
  At : Fun K "_law_any_table" "_law_any_table" sAnyTab fAt dAt
  bAt : Binds K dAt ["_law_deck_here", "_law_stock_here", "_law_known_here"] []
  gAt : mg "_law_any_table" = some (.ref fAt)
  Va : Fun K "_law_values" "_law_values" sVals fVa dVa
  bVa : Binds K dVa ["_law_deck_here", "_law_stock_here", "_law_collections", "_law_plan_here", "_law_known_here"] []
  gVa : mg "_law_values" = some (.ref fVa)
  m_all : mg "all" = none
  m_tuple : mg "tuple" = none
  m_enumerate : mg "enumerate" = none
  m_sum : mg "sum" = none
  m_range : mg "range" = none
  m_list : mg "list" = none
  m_zip : mg "zip" = none
  m_isinstance : mg "isinstance" = none
  m_int : mg "int" = none
  m_len : mg "len" = none
  m_min : mg "min" = none
  m_max : mg "max" = none
  m_bool : mg "bool" = none
  m_abs : mg "abs" = none
  m_str : mg "str" = none
  m_repr : mg "repr" = none
end DD
namespace DD
open PySem PySem.Spec PyProof.Rows L2 RZ
theorem cat_gen {K : PySem.W.Frag} {H : Hp} {a b : Addr} {xs ys : List V} {Q : VK} (ha : H a = some (.tup xs)) (hb : H b = some (.tup ys)) (hl : xs.length + ys.length ≤ 1000)
    (q : ∀ p H', Same H H' → H' p = some (.tup (xs ++ ys)) → Q (.ref p) H') : rCatA K (.ref a) (.ref b) H Q := by
  refine ⟨a, b, xs, ys, rfl, rfl, SqT.of ha, SqT.of hb, Nat.le_of_lt (len_lt hl), fun e => ?_, fun _ e => ?_, fun _ _ p np => ?_⟩
  · subst e
    exact q b H (fun _ _ e => e) hb
  · subst e
    exact q a H (fun _ _ e => e) (by rw [List.append_nil]; exact ha)
  · exact q p _ (same_new np) upd_same
theorem sl_gen {K : PySem.W.Frag} {H : Hp} {a : Addr} {xs : List V} {lo hi : Option Int} {Q : VK} (ha : H a = some (.tup xs))
    (q : ∀ p H', Same H H' → H' p = some (.tup (cutV xs lo hi)) → Q (.ref p) H') : rSlA K (.ref a) lo hi H Q := by
  refine ⟨a, xs, rfl, SqT.of ha, fun e => ?_, fun _ p np => ?_⟩
  · refine q a H (fun _ _ e => e) ?_
    unfold cutV
    rw [e.1, e.2, Nat.sub_zero, List.drop_zero, List.take_length]
    exact ha
  · exact q p _ (same_new np) upd_same
theorem cut_to {r : List Int} {s : Nat} : cutV (r.map V.int) none (some (s : Int)) = (r.take s).map V.int := by
  unfold cutV
  rw [HT.sIx_none, HT.sIx_nat, List.drop_zero, Nat.sub_zero, List.length_map, ← List.map_take]
  congr 1
  by_cases h : s ≤ r.length
  · rw [Nat.min_eq_left h]
  · rw [Nat.min_eq_right (by omega), List.take_length, List.take_of_length_le (by omega)]
theorem cut_from {r : List Int} {s : Nat} : cutV (r.map V.int) (some (s : Int)) none = (r.drop s).map V.int := by
  unfold cutV
  rw [HT.sIx_none, HT.sIx_nat, List.length_map, ← List.map_drop, ← List.map_take]
  congr 1
  by_cases h : s ≤ r.length
  · rw [Nat.min_eq_left h, List.take_of_length_le (by rw [List.length_drop]; omega)]
  · rw [Nat.min_eq_right (by omega), List.drop_of_length_le (Nat.le_refl _), List.drop_of_length_le (by omega), List.take_nil]

/-! ### facts that stay while the deck turns -/
theorem tup_kp {H H' : Hp} {dk c p : Addr} {B : Nat} {xs : List V} (h : H p = some (.tup xs)) (d : Deck H dk c B) (k : Kp2 dk c H H') : H' p = some (.tup xs) := by
  obtain ⟨ns, t', h1, h2, _⟩ := d.ex
  exact k _ _ (fun z => by rw [z, h1] at h; cases h) (fun z => by rw [z, h2] at h; cases h) h
/-- a collection: n numbers from 0 to hi, one of them above 0 -/
structure Good (n : Nat) (hi : Int) (r : List Int) : Prop where
  len : r.length = n
  bd : ∀ x ∈ r, 0 ≤ x ∧ x ≤ hi
  pos : ∃ x ∈ r, 0 < x
/-- addresses of tuples of ints, row by row -/
def RowsAt (H : Hp) (ls : List Addr) (rows : List (List Int)) : Prop := ∀ (j : Nat) (l : Addr) (r : List Int), ls[j]? = some l → rows[j]? = some r → H l = some (.tup (r.map V.int))
theorem RowsAt.kp {H H' : Hp} {dk c : Addr} {B : Nat} {ls : List Addr} {rows : List (List Int)} (a : RowsAt H ls rows) (d : Deck H dk c B) (k : Kp2 dk c H H') : RowsAt H' ls rows :=
  fun j l r e1 e2 => tup_kp (a j l r e1 e2) d k
theorem RowsAt.same {H H' : Hp} {ls : List Addr} {rows : List (List Int)} (a : RowsAt H ls rows) (k : Same H H') : RowsAt H' ls rows := fun j l r e1 e2 => k _ _ (a j l r e1 e2)
/-- a list that changes is none of the rows -/
theorem RowsAt.updL {H : Hp} {F : Addr} {xs : List V} {o : HO} {ls : List Addr} {rows : List (List Int)} (a : RowsAt H ls rows) (h : H F = some (.lst xs)) : RowsAt (upd H F o) ls rows := fun j l r e1 e2 => by
  have h2 := a j l r e1 e2
  rw [upd_ne (fun z => by rw [z, h] at h2; cases h2)]
  exact h2
theorem RowsAt.snoc {H : Hp} {ls : List Addr} {rows : List (List Int)} {l : Addr} {r : List Int} (a : RowsAt H ls rows) (hl : ls.length = rows.length) (h : H l = some (.tup (r.map V.int))) : RowsAt H (ls ++ [l]) (rows ++ [r]) := by
  intro j l' r' x1 x2
  by_cases hj : j < ls.length
  · rw [List.getElem?_append_left hj] at x1
    rw [List.getElem?_append_left (by omega)] at x2
    exact a j l' r' x1 x2
  · have hj2 : j = ls.length := by
      have := (List.getElem?_eq_some_iff.mp x1).1
      rw [List.length_append] at this
      simp at this
      omega
    subst hj2
    rw [List.getElem?_append_right (Nat.le_refl _), Nat.sub_self] at x1
    rw [hl, List.getElem?_append_right (Nat.le_refl _), Nat.sub_self] at x2
    obtain rfl : l = l' := Option.some.inj x1
    obtain rfl : r = r' := Option.some.inj x2
    exact h
theorem RowsAt.init {H : Hp} {ls : List Addr} {rows : List (List Int)} {l : Addr} {r : List Int} (a : RowsAt H (ls ++ [l]) (rows ++ [r])) : RowsAt H ls rows := fun j l' r' x1 x2 =>
  a j l' r' (by rw [List.getElem?_append_left (List.getElem?_eq_some_iff.mp x1).1]; exact x1) (by rw [List.getElem?_append_left (List.getElem?_eq_some_iff.mp x2).1]; exact x2)
theorem Kp2.updF {H H' : Hp} {dk c F : Addr} {o : HO} (k : Kp2 dk c H H') (n : H F = none) : Kp2 dk c H (upd H' F o) := fun b o' h1 h2 e => by
  rw [upd_ne (ne_of_none e n)]
  exact k b o' h1 h2 e

theorem cutV_all {xs : List V} {lo hi : Option Int} (h : HT.sIx xs.length 0 lo = 0 ∧ HT.sIx xs.length xs.length hi = xs.length) : cutV xs lo hi = xs := by
  unfold cutV
  rw [h.1, h.2, List.drop_zero, Nat.sub_zero, List.take_length]
def rSlQ : V → Option Int → Option Int → Hp → VK → Prop := fun x lo hi H Q => ∃ a xs, x = .ref a ∧ H a = some (.tup xs) ∧ ∀ p H', Same H H' → H' p = some (.tup (cutV xs lo hi)) → Q (.ref p) H'
theorem sl_tupQ {X : Cx} : SlR X rSlQ := by
  intro pins s σ H x v vl vu lo hi sl Q I rx h1 h2 h3 h
  obtain ⟨a, xs, rfl, ha, q⟩ := h
  refine sl_tupA pins s σ H _ v vl vu lo hi sl Q I rx h1 h2 h3 ⟨a, xs, rfl, SqT.of ha, fun e => q a H (Same.refl _) (by rw [cutV_all e]; exact ha), fun _ p np => q p _ (same_new np) upd_same⟩
def rCatQ : R2 := fun x y H Q => ∃ a b xs ys, x = .ref a ∧ y = .ref b ∧ H a = some (.tup xs) ∧ H b = some (.tup ys) ∧ xs.length + ys.length ≤ 1000 ∧ ∀ p H', Same H H' → H' p = some (.tup (xs ++ ys)) → Q (.ref p) H'
theorem op_catQ {X : Cx} : OpR X (binaryOp .Add) rCatQ := by
  intro pins s σ H x y v u Q I rx ry h
  obtain ⟨a, b, xs, ys, rfl, rfl, ha, hb, hl, q⟩ := h
  refine op_catA pins s σ H _ _ v u Q I rx ry ⟨a, b, xs, ys, rfl, rfl, SqT.of ha, SqT.of hb, Nat.le_of_lt (len_lt hl), fun e => q b H (Same.refl _) ?_, fun _ e => q a H (Same.refl _) ?_, fun _ _ p np => q p _ (same_new np) upd_same⟩
  · rw [e]
    exact hb
  · rw [e, List.append_nil]
    exact ha
theorem meets_mul1 (l : Addr) (items : Array Value) (n : Nat) (dd : Option Addr) (sl : Array (Option Value)) (u : Tok) (hi : items.isEmpty = false) : Meets (Builtin.«tuple.__mul__» { pos := [Value.ref l, Value.int 1 u] })
    (fun _ R s => s.heap.get? l = some { cls := Value.type "tuple", dict := dd, data := Data.seq items n, slots := sl } ∧ R (Except.ok (Flow.ret (Value.ref l))) s) :=
  .of_wp fun prog w A R s h => by
    obtain ⟨hp, g, d, tk, os⟩ := s
    obtain ⟨h1, h⟩ := h
    have h2 : hp.get? l = some { cls := Value.type "tuple", dict := dd, data := Data.seq items n, slots := sl } := h1
    wp_walk
    exact ⟨_, rfl, h⟩
def rRepQ : R2 := fun x y H Q => ∃ l k xs, x = .ref l ∧ y = .int k ∧ H l = some (.tup xs) ∧ xs ≠ [] ∧ 1 ≤ k ∧ k ≤ 1000 ∧ xs.length ≤ 1000 ∧ ∀ p H', Same H H' → H' p = some (.tup (List.replicate k.toNat xs).flatten) → Q (.ref p) H'
theorem op_repQ {X : Cx} : OpR X (binaryOp .Mult) rRepQ := by
  intro pins s σ H x y v u Q I rx ry h
  obtain ⟨l, k, xs, rfl, rfl, hl, hx, k1, k2, hn, q⟩ := h
  by_cases hk : 2 ≤ k
  · exact op_repT pins s σ H _ _ v u Q I rx ry ⟨l, k, xs, rfl, rfl, SqT.of hl, hx, hk, k2, hn, fun p np => q p _ (same_new np) upd_same⟩
  · obtain rfl : k = 1 := by omega
    cases rx
    obtain ⟨t, rfl⟩ := ry
    obtain ⟨its, rv, ⟨o, h1, h2, n, h3⟩, hz⟩ := I.tuple (SqT.of (K := X.K) hl)
    obtain ⟨oc, od, oda, osl⟩ := o
    simp only at h2 h3
    subst h2 h3
    have he : its.toArray.isEmpty = false := by
      cases rv with
      | nil => exact absurd rfl hx
      | cons _ _ => rfl
    refine wpAny_binaryOp_repeat_ref (T := "tuple") (U := "int") (by decide) ⟨_, h1, rfl⟩ (fun s' => typeIs_int s' _ _) noFill_tuple_mul F.fills_int_mul F.slot_int_rmul repeat_tuple (F.slot_int_index.lookup) ?_
    refine call_meets F.slot_int_rmul (typeIs_int _ _ _) F.entry_int_rmul (F.args_int_rmul_2 _ _) (int_rmul_tuple _ _ _ _ _ _ _) ⟨h1, rfl, ⟨_, h1, rfl⟩, ?_⟩
    refine call_meets F.slot_tuple_mul ⟨_, h1, rfl⟩ F.entry_tuple_mul (F.args_tuple_mul_2 _ _) (meets_mul1 l its.toArray n od osl t he) ⟨h1, ⟨.ref l, H, I, rfl, q l H (Same.refl _) ?_⟩⟩
    rw [hl]
    show _ = some (HO.tup (List.replicate 1 xs).flatten)
    rw [List.replicate_one, List.flatten_singleton]

theorem rep_one {z : Int} {n : Nat} : (List.replicate n [V.int z]).flatten = (List.replicate n z).map V.int := by
  induction n with
  | zero => rfl
  | succ n ih => rw [List.replicate_succ, List.flatten_cons, ih, List.replicate_succ]; rfl
theorem three_at {r a b c : Int} (h0 : 0 ≤ r) (h : r < 3) : ∃ z : Int, (z = a ∨ z = b ∨ z = c) ∧ atI [V.int a, V.int b, V.int c] r = some (.int z) := by
  have e : r = 0 ∨ r = 1 ∨ r = 2 := by omega
  rcases e with rfl | rfl | rfl
  · exact ⟨a, .inl rfl, rfl⟩
  · exact ⟨b, .inr (.inl rfl), rfl⟩
  · exact ⟨c, .inr (.inr rfl), rfl⟩
def TK (H H' : Hp) : Prop := ∀ b xs, H b = some (.tup xs) → H' b = some (.tup xs)
theorem TK.refl {H : Hp} : TK H H := fun _ _ e => e
theorem TK.trans {H H1 H2 : Hp} (a : TK H H1) (b : TK H1 H2) : TK H H2 := fun c xs e => b c xs (a c xs e)
theorem TK.same {H H' : Hp} (s : Same H H') : TK H H' := fun b xs e => s _ _ e
theorem TK.kp {H H' : Hp} {dk c : Addr} {B : Nat} (d : Deck H dk c B) (k : Kp2 dk c H H') : TK H H' := fun b xs e => tup_kp e d k
theorem TK.lst {H : Hp} {D : Addr} {xs : List V} {o : HO} (h : H D = some (.lst xs)) : TK H (upd H D o) := fun b ys e => by
  rw [upd_ne (fun z => by rw [z, h] at e; cases e)]
  exact e
theorem StockAt.tk {H H' : Hp} {t : Addr} {ls : List Addr} {rows : List (List Int)} (a : StockAt H t ls rows) (k : TK H H') : StockAt H' t ls rows :=
  ⟨k _ _ a.top, a.len, fun j l r e1 e2 => k _ _ (a.row j l r e1 e2)⟩

theorem log2_lt_20 {n : Nat} (h : n < 1048576) : n.log2 ≤ 19 := by
  by_cases h0 : n = 0
  · subst h0; decide
  · have := (Nat.log2_lt h0 (k := 20)).mpr (by omega)
    omega
theorem Sm.intM {i : Int} (h0 : 0 ≤ i) (h : i < 1048576) : Sm 21 0 (.int i) where
  lay := rfl
  short := by
    refine decide_eq_true ?_
    have e := PyProof.Rows.toString_length_le (v := i) (k := 7) h0 (by decide) (by omega)
    exact Nat.le_trans e (by decide)
  show_ := decide_eq_true (by have := log2_lt_20 (n := i.natAbs) (by omega); omega)
  wt := by
    have := log2_lt_20 (n := i.natAbs) (by omega)
    show (if i == 0 then 0 else i.natAbs.log2 + 1) ≤ 21
    split
    · omega
    · omega
  dp := Nat.le_refl _
end DD
namespace DD
open PySem PySem.Spec PyProof.Rows L2 RZ
/-! ### spoilings, two ways -/
def posAt (row : List Int) (j : Nat) : Bool := decide (row.getD j 0 > 0)
def kindsUp (row : List Int) (m : Nat) : List Int := ((List.range m).filter (posAt row)).map fun j => (0 : Int) + (j : Nat)
def kindsOf (row : List Int) : List Int := kindsUp row row.length
theorem kinds_succ (row : List Int) (m : Nat) : kindsUp row (m + 1) = kindsUp row m ++ (if posAt row m = true then [(0 : Int) + (m : Nat)] else []) := by
  unfold kindsUp
  rw [List.range_succ, List.filter_append, List.map_append]
  congr 1
  by_cases e : posAt row m = true
  · rw [if_pos e, List.filter_cons_of_pos e]
    rfl
  · rw [if_neg e, List.filter_cons_of_neg e]
    rfl
theorem kinds_len (row : List Int) (m : Nat) : (kindsUp row m).length ≤ m := by
  unfold kindsUp
  rw [List.length_map]
  exact Nat.le_trans (List.length_filter_le _ _) (by rw [List.length_range]; exact Nat.le_refl _)
theorem kinds_bd (row : List Int) (m : Nat) : ∀ x ∈ kindsUp row m, 0 ≤ x ∧ x < (m : Int) := by
  intro x hx
  obtain ⟨j, hj, rfl⟩ := List.mem_map.mp hx
  have := List.mem_range.mp (List.mem_filter.mp hj).1
  omega
def spStep (acc : List (List Int)) (row : List Int) : List (List Int) := acc.flatMap fun s => (kindsOf row).map fun k => s ++ [k]
def spOf (rows : List (List Int)) : List (List Int) := rows.foldl spStep [[]]
def spR : List (List Int) → List (List Int)
  | [] => [[]]
  | r :: rs => (kindsOf r).flatMap fun k => (spR rs).map fun s => k :: s
theorem fold_sp : ∀ (rows : List (List Int)) (acc : List (List Int)), rows.foldl spStep acc = acc.flatMap fun s => (spR rows).map fun x => s ++ x
  | [], acc => by
    show acc = acc.flatMap fun s => [s ++ []]
    induction acc with
    | nil => rfl
    | cons a acc ih => rw [List.flatMap_cons, ← ih, List.append_nil]; rfl
  | r :: rs, acc => by
    show rs.foldl spStep (spStep acc r) = _
    rw [fold_sp rs]
    unfold spStep
    rw [List.flatMap_assoc]
    congr 1
    funext s
    show ((kindsOf r).map fun k => s ++ [k]).flatMap _ = _
    rw [List.flatMap_map]
    show _ = ((kindsOf r).flatMap fun k => (spR rs).map fun s => k :: s).map fun x => s ++ x
    rw [List.map_flatMap]
    congr 1
    funext k
    rw [List.map_map]
    congr 1
    funext x
    simp
theorem spOf_eq (rows : List (List Int)) : spOf rows = spR rows := by
  unfold spOf
  rw [fold_sp]
  simp
theorem step_len (acc : List (List Int)) (row : List Int) : (spStep acc row).length = acc.length * (kindsOf row).length := by
  unfold spStep
  induction acc with
  | nil => simp
  | cons a acc ih =>
    rw [List.flatMap_cons, List.length_append, ih, List.length_map, List.length_cons, Nat.succ_mul]
    omega
theorem spOf_snoc {rows : List (List Int)} {i : Nat} {r : List Int} (h : rows[i]? = some r) : spOf (rows.take (i + 1)) = spStep (spOf (rows.take i)) r := by
  unfold spOf
  rw [List.take_add_one, h, List.foldl_append]
  rfl
theorem spOf_len {rows : List (List Int)} (h : ∀ r ∈ rows, r.length ≤ 4) : ∀ i, (spOf (rows.take i)).length ≤ 4 ^ i
  | 0 => Nat.le_refl _
  | i + 1 => by
    cases e : rows[i]? with
    | none =>
      have hn := List.getElem?_eq_none_iff.mp e
      have e1 : rows.take (i + 1) = rows.take i := by rw [List.take_of_length_le (by omega), List.take_of_length_le hn]
      rw [e1]
      exact Nat.le_trans (spOf_len h i) (Nat.pow_le_pow_right (by decide) (Nat.le_succ _))
    | some r =>
      rw [spOf_snoc e, step_len, Nat.pow_succ]
      exact Nat.mul_le_mul (spOf_len h i) (Nat.le_trans (kinds_len _ _) (h r (List.mem_of_getElem? e)))
theorem spR_bd : ∀ {rows : List (List Int)}, (∀ r ∈ rows, r.length ≤ 4) → ∀ s ∈ spR rows, s.length = rows.length ∧ ∀ x ∈ s, 0 ≤ x ∧ x < 4
  | [], _ => by
    intro s hs
    rw [List.mem_singleton.mp hs]
    exact ⟨rfl, fun x hx => by cases hx⟩
  | r :: rs, h => by
    intro s hs
    obtain ⟨k, hk, hs⟩ := List.mem_flatMap.mp hs
    obtain ⟨s', hs', rfl⟩ := List.mem_map.mp hs
    obtain ⟨h1, h2⟩ := spR_bd (fun r' hr' => h r' (List.mem_cons_of_mem _ hr')) s' hs'
    refine ⟨by rw [List.length_cons, List.length_cons, h1], fun x hx => ?_⟩
    rcases List.mem_cons.mp hx with e | e
    · have := kinds_bd r r.length k hk
      have := h r List.mem_cons_self
      rw [e]
      omega
    · exact h2 x e
theorem spR_len {rows : List (List Int)} (h : ∀ r ∈ rows, r.length ≤ 4) (hl : rows.length ≤ 4) : (spR rows).length ≤ 256 := by
  have a := spOf_len h 4
  rw [List.take_of_length_le hl, spOf_eq] at a
  exact a
theorem take_flat {acc : List (List Int)} {row : List Int} {i : Nat} {s : List Int} (h : acc[i]? = some s) : spStep (acc.take (i + 1)) row = spStep (acc.take i) row ++ (kindsOf row).map fun k => s ++ [k] := by
  unfold spStep
  rw [List.take_add_one, h, List.flatMap_append]
  simp
theorem RowsAt.nil {H : Hp} : RowsAt H [] [] := fun j l r e => by simp at e
theorem cutV_from {xs : List V} {s : Nat} : cutV xs (some (s : Int)) none = xs.drop s := by
  unfold cutV
  rw [HT.sIx_none, HT.sIx_nat]
  by_cases h : s ≤ xs.length
  · rw [Nat.min_eq_left h, List.take_of_length_le (by rw [List.length_drop]; omega)]
  · rw [Nat.min_eq_right (by omega), List.drop_of_length_le (Nat.le_refl _), List.drop_of_length_le (by omega), List.take_nil]
theorem cutV_to {xs : List V} {s : Nat} : cutV xs none (some (s : Int)) = xs.take s := by
  unfold cutV
  rw [HT.sIx_none, HT.sIx_nat, List.drop_zero, Nat.sub_zero]
  by_cases h : s ≤ xs.length
  · rw [Nat.min_eq_left h]
  · rw [Nat.min_eq_right (by omega), List.take_length, List.take_of_length_le (by omega)]

end DD
namespace DD
open PySem PySem.Spec PyProof.Rows L2 RZ

/-! ### fulfilled_by -/
def contains (cs ns : List Int) : Bool := (List.zipWith (fun c n => decide (c ≥ n)) cs ns).all id
def optV : Option Nat → V
  | none => .non
  | some j => .int (j : Int)
def fulOf (rows : List (List Int)) (cs : List Int) : Option Nat := rows.findIdx? (contains cs)
theorem find_take {α : Type} {p : α → Bool} {xs : List α} {i : Nat} {x : α} (h : xs[i]? = some x) :
    (xs.take (i + 1)).findIdx? p = ((xs.take i).findIdx? p).or (if p x = true then some i else none) := by
  rw [List.take_add_one, h, List.findIdx?_append]
  have hl : (xs.take i).length = i := by
    rw [List.length_take]
    have := (List.getElem?_eq_some_iff.mp h).1
    omega
  rw [hl]
  by_cases e : p x = true
  · simp [List.findIdx?_cons, e]
  · simp [List.findIdx?_cons, e]
theorem find_some {α : Type} {p : α → Bool} {xs : List α} {i : Nat} {x : α} (h : xs[i]? = some x) (h0 : (xs.take i).findIdx? p = none) (e : p x = true) : xs.findIdx? p = some i := by
  have h1 := find_take (p := p) h
  rw [h0, if_pos e, Option.none_or] at h1
  have h2 : xs.findIdx? p = ((xs.take (i + 1)) ++ xs.drop (i + 1)).findIdx? p := by rw [List.take_append_drop]
  rw [h2, List.findIdx?_append, h1]
  rfl

abbrev NC : List Str := ["counts", "collection", "count", "needed"]
theorem scCont : FnScope NC ["counts", "collection"] (defScope sCont) := ⟨rfl, rfl, rfl, by decide +kernel, rfl, by decide +kernel, by decide +kernel⟩
theorem scFul : FnScope ["collections", "counts", "index", "collection"] ["collections", "counts"] (defScope sFul) := ⟨rfl, rfl, rfl, by decide +kernel, rfl, by decide +kernel, by decide +kernel⟩
section
variable {P : Program} {w : World} {K : PySem.W.Frag} {mg : Str → Option Value} {base : Heap}
def spCont : Sp := fun vs H Q _ => ∃ (a b : Addr) (cs ns : List Int), vs = [.ref a, .ref b] ∧ H a = some (.tup (cs.map V.int)) ∧ H b = some (.tup (ns.map V.int)) ∧ cs.length = ns.length ∧ cs.length ≤ 1000 ∧
  ∀ H', Same H H' → Q (.bl (contains cs ns)) H'
theorem ok_cont {f : Addr} {fd : FuncData} {k : Nat} (F : Fun K "contain" "contain" sCont f fd) (mA : mg "all" = none) (mz : mg "zip" = none) : FnOk P w K mg base CX0 (k + 1) f fd ["counts", "collection"] spCont := by
  refine F.ok scCont (fun vs H Q E h => ?_) (fun cdv A outer s H vs Q E hr h => ?_)
  · obtain ⟨a, b, cs, ns, rfl, _⟩ := h
    rfl
  · obtain ⟨a, b, cs, ns, rfl, ha, hb, hl, hl2, q⟩ := h
    refine ⟨_, pss_one (ps_ret (pe_callB (cr_all rfl) (by rfl) mA (by decide +kernel) (pa_cons (pe_lc (own := [("count", 2), ("needed", 3)]) (g := gTup K 2 (gCons (gName 2) (gCons (gName 3) gNil))) rfl scCont.nd (pi_zipA (by rfl) mz (pa_cons (pv 0) (pa_cons (pv 1) pa_nil)))
        (blkOk_by (own := [("count", 2), ("needed", 3)]) (N := NC) (sc := defScope sCont) (by decide +kernel)) (fun _ _ _ _ _ => pg_tup rfl (pgs_cons (pg_name (i := 2) scCont.nd rfl (Or.inl rfl)) (pgs_cons (pg_name (i := 3) scCont.nd rfl (Or.inl rfl)) pgs_nil))) (fun _ _ _ _ _ => pts_nil)
        (fun _ _ _ _ _ => pe_cmpR op_ge (pv 2) (pv 3) (nomark _))) pa_nil))), ?_⟩
    refine ⟨_, rfl, _, rfl, a, b, _, _, rfl, .inr ⟨SqT.of ha, SqT.of hb, fun D nD => ?_⟩⟩
    refine lc_zipT (xs := cs.map V.int) (ys := ns.map V.int) (by rw [List.length_map, List.length_map, hl]) (fun i H' => H' D = some (.lst (((List.zipWith (fun c n => decide (c ≥ n)) cs ns).take i).map V.bl)) ∧ Same H H') ⟨upd_same, same_new nD⟩
      (fun i H' _ h => ⟨SqT.of (h.2 _ _ ha), SqT.of (h.2 _ _ hb)⟩) (fun i x y T H' hx hy h nT => ?_) (fun H' h => ?_)
    · obtain ⟨hD, sm⟩ := h
      obtain ⟨c, hc, rfl⟩ := get_map hx
      obtain ⟨n, hn, rfl⟩ := get_map hy
      have hz : (List.zipWith (fun c n => decide (c ≥ n)) cs ns)[i]? = some (decide (c ≥ n)) := by
        rw [List.getElem?_zipWith, hc, hn]
      have sT : Same H' (upd H' T (.tup [.int c, .int n])) := same_new nT
      refine ⟨T, [.int c, .int n], rfl, .inl (.inl upd_same), rfl, .int c, [.int n], rfl, .int n, [], rfl, rfl, rfl, .int c, rfl, .int n, rfl, c, n, rfl, rfl, _, sT _ _ hD, ?_, ?_, fun b' o e => ?_⟩
      · rw [List.length_map, List.length_take]
        have : (List.zipWith (fun c n => decide (c ≥ n)) cs ns).length ≤ cs.length := by rw [List.length_zipWith]; omega
        exact len_lt (by omega)
      · rw [upd_same, take_succ_map hz]
      · rw [upd_ne (ne_of_none e nD)]
        exact sT _ _ (sm b' o e)
    · obtain ⟨hD, sm⟩ := h
      rw [List.length_map, List.take_of_length_le (by rw [List.length_zipWith]; omega)] at hD
      exact ⟨D, _, rfl, SqL.of hD, q H' sm⟩
def spFul : Sp := fun vs H Q _ => ∃ (t b : Addr) (ls : List Addr) (rows : List (List Int)) (cs : List Int), vs = [.ref t, .ref b] ∧ StockAt H t ls rows ∧ H b = some (.tup (cs.map V.int)) ∧ (∀ r ∈ rows, r.length = cs.length) ∧ cs.length ≤ 1000 ∧
  ∀ H', Same H H' → Q (optV (fulOf rows cs)) H'
theorem ok_ful {f fC : Addr} {fd fdC : FuncData} {k : Nat} (F : Fun K "fulfilled_by" "fulfilled_by" sFul f fd) (FC : Fun K "contain" "contain" sCont fC fdC) (bC : Binds K fdC ["counts", "collection"] []) (gC : mg "contain" = some (.ref fC))
    (mA : mg "all" = none) (mz : mg "zip" = none) (me : mg "enumerate" = none) : FnOk P w K mg base CX0 (k + 2) f fd ["collections", "counts"] spFul := by
  have GC : FnOk P w K mg base CX0 (k + 1) fC fdC ["counts", "collection"] spCont := ok_cont FC mA mz
  refine F.ok scFul (fun vs H Q E h => ?_) (fun cdv A outer s H vs Q E hr h => ?_)
  · obtain ⟨t, b, ls, rows, cs, rfl, _⟩ := h
    rfl
  · obtain ⟨t, b, ls, rows, cs, rfl, st, hb, hl, hl2, q⟩ := h
    refine ⟨_, pss_cons (ps_for PassesOwn.never rfl (pi_enumT (by rfl) me (pa_cons (pv 0) pa_nil)) (pg_tup rfl (pgs_cons (pg_name (i := 2) scFul.nd rfl (.inl rfl)) (pgs_cons (pg_name (i := 3) scFul.nd rfl (.inl rfl)) pgs_nil)))
        (pss_one (ps_if (pt_val (pe_call GC hr (by rfl) gC FC.kp bC .nil pass0 (pa_cons (pv 1) (pa_cons (pv 3) pa_nil)))) (pss_one (ps_ret (pv 2))) pss_nil)))
      (pss_one (ps_ret pe_non)), ?_⟩
    refine ⟨_, rfl, t, _, rfl, SqT.of st.top, ?_⟩
    refine for_enT (xs := ls.map V.ref) (c := 0) (fun i σ H' => ∃ y2 y3, σ = [some (.ref t), some (.ref b), y2, y3] ∧ Same H H' ∧ (rows.take i).findIdx? (contains cs) = none)
      ⟨none, none, rfl, Same.refl _, rfl⟩ (fun i σ H' _ h => by obtain ⟨_, _, _, sm, _⟩ := h; exact SqT.of (sm _ _ st.top)) (fun i x T σ H' hx h nT => ?_) (fun σ H' h => ?_)
    · obtain ⟨y2, y3, rfl, sm, hnone⟩ := h
      obtain ⟨l, hli, rfl⟩ := get_map hx
      have hil : i < rows.length := by
        have := (List.getElem?_eq_some_iff.mp hli).1
        have := st.len
        omega
      have hr' : rows[i]? = some rows[i] := List.getElem?_eq_getElem hil
      have sT : Same H (upd H' T (.tup [.int ((0 : Int) + (i : Nat)), .ref l])) := sm.trans (same_new nT)
      refine ⟨T, [.int ((0 : Int) + (i : Nat)), .ref l], rfl, .inl (.inl upd_same), rfl, .int ((0 : Int) + (i : Nat)), [.ref l], rfl, .ref l, [], rfl, rfl, ?_⟩
      refine ⟨_, rfl, _, rfl, b, l, cs, rows[i], rfl, sT _ _ hb, sT _ _ (st.row i l _ hli hr'), (hl _ (List.getElem_mem hil)).symm, hl2, fun H2 s2 => ⟨_, rfl, ?_⟩⟩
      by_cases e : contains cs rows[i] = true
      · rw [e]
        refine iteT ⟨_, rfl, ?_⟩
        have := q H2 (sT.trans s2)
        unfold fulOf at this
        rw [find_some hr' hnone e] at this
        rw [Int.zero_add]
        exact this
      · rw [Bool.eq_false_iff.mpr e]
        refine iteF ⟨_, _, rfl, sT.trans s2, ?_⟩
        rw [find_take hr', hnone, if_neg e]
        rfl
    · obtain ⟨y2, y3, rfl, sm, hnone⟩ := h
      rw [List.length_map, st.len, List.take_length] at hnone
      have := q H' sm
      unfold fulOf at this
      rw [hnone] at this
      exact this
end

/-! ### what the law reckons -/
def lackAt (cs row : List Int) (j : Nat) : Bool := decide (cs.getD j 0 < row.getD j 0)
def lackOf (cs row : List Int) (m : Nat) : List Int := ((List.range m).filter (lackAt cs row)).map fun j => (0 : Int) + (j : Nat)
theorem lack_succ (cs row : List Int) (m : Nat) : lackOf cs row (m + 1) = lackOf cs row m ++ (if lackAt cs row m = true then [(0 : Int) + (m : Nat)] else []) := by
  unfold lackOf
  rw [List.range_succ, List.filter_append, List.map_append]
  congr 1
  by_cases e : lackAt cs row m = true
  · rw [if_pos e, List.filter_cons_of_pos e]
    rfl
  · rw [if_neg e, List.filter_cons_of_neg e]
    rfl
theorem lack_len (cs row : List Int) (m : Nat) : (lackOf cs row m).length ≤ m := by
  unfold lackOf
  rw [List.length_map]
  exact Nat.le_trans (List.length_filter_le _ _) (by rw [List.length_range]; exact Nat.le_refl _)
theorem lack_bd (cs row : List Int) (m : Nat) : ∀ x ∈ lackOf cs row m, 0 ≤ x ∧ x < (m : Int) := by
  intro x hx
  obtain ⟨j, hj, rfl⟩ := List.mem_map.mp hx
  have := List.mem_range.mp (List.mem_filter.mp hj).1
  omega
theorem lack_nil {cs row : List Int} {m : Nat} (h1 : cs.length = m) (h2 : row.length = m) : lackOf cs row m = [] ↔ contains cs row = true := by
  unfold lackOf contains
  rw [List.map_eq_nil_iff, List.filter_eq_nil_iff, List.all_eq_true]
  constructor
  · intro h x hx
    obtain ⟨j, hj⟩ := List.mem_iff_getElem?.mp hx
    rw [List.getElem?_zipWith] at hj
    have hj1 : j < cs.length := by
      cases e : cs[j]? with
      | none => rw [e] at hj; cases hj
      | some v => exact (List.getElem?_eq_some_iff.mp e).1
    have hj2 : j < row.length := by omega
    rw [List.getElem?_eq_getElem hj1, List.getElem?_eq_getElem hj2] at hj
    obtain rfl := Option.some.inj hj
    have := h j (List.mem_range.mpr (by omega))
    unfold lackAt at this
    rw [List.getD_eq_getElem?_getD, List.getD_eq_getElem?_getD, List.getElem?_eq_getElem hj1, List.getElem?_eq_getElem hj2] at this
    simp at this
    simp
    omega
  · intro h j hj
    have hjm := List.mem_range.mp hj
    have hj1 : j < cs.length := by omega
    have hj2 : j < row.length := by omega
    have hz : (List.zipWith (fun c n => decide (c ≥ n)) cs row)[j]? = some (decide (cs[j] ≥ row[j])) := by
      rw [List.getElem?_zipWith, List.getElem?_eq_getElem hj1, List.getElem?_eq_getElem hj2]
    have := h _ (List.mem_of_getElem? hz)
    unfold lackAt
    rw [List.getD_eq_getElem?_getD, List.getD_eq_getElem?_getD, List.getElem?_eq_getElem hj1, List.getElem?_eq_getElem hj2]
    simp at this
    simp
    omega
def optD : Option Nat → PyData
  | none => .none
  | some j => .int (j : Int)
theorem dp_opt {K : PySem.W.Frag} {H : Hp} : ∀ o : Option Nat, Dp K H (optV o) (optD o)
  | none => .non
  | some j => .int _
theorem Sm.non : Sm 21 0 .none := ⟨rfl, rfl, rfl, Nat.zero_le _, Nat.le_refl _⟩
theorem sm_opt {o : Option Nat} (h : ∀ j, o = some j → j < 1000) : Sm 21 0 (optD o) := by
  cases o with
  | none => exact Sm.non
  | some j =>
    have := h j rfl
    exact Sm.intM (by omega) (by omega)
theorem ful_lt {rows : List (List Int)} {cs : List Int} {j : Nat} (h : fulOf rows cs = some j) : j < rows.length := by
  unfold fulOf at h
  exact (List.findIdx?_eq_some_iff_findIdx_eq.mp h).1
theorem eqv_nil_iff {r : List Int} : PyData.eqv (.list (r.map PyData.int)) (.list []) = true ↔ r = [] := by
  cases r with
  | nil => exact ⟨fun _ => rfl, fun _ => rfl⟩
  | cons x r => exact ⟨fun e => (nomatch (show false = true from e)), fun e => (nomatch e)⟩
theorem sm_lack {r : List Int} {m : Nat} (h : ∀ x ∈ r, 0 ≤ x ∧ x < (m : Int)) (hm : m ≤ 1000) : Sm (r.length * 22) 1 (.list (r.map PyData.int)) := by
  have a : SmA (r.map PyData.int).length 21 0 (r.map PyData.int) := SmA.all fun d hd => by
    obtain ⟨x, hx, rfl⟩ := List.mem_map.mp hd
    have := h x hx
    exact Sm.intM (by omega) (by omega)
  refine a.lst.up ?_ (Nat.le_refl _)
  rw [List.length_map]
  exact Nat.le_refl _
end DD
namespace DD
open PySem PySem.Spec PyProof.Rows L2 RZ

abbrev NP : List Str := ["collections", "spoilings", "collection", "kinds", "kind", "needed", "spoiling"]
theorem scSpoil : FnScope NP ["collections"] (defScope sSpoil) := ⟨rfl, rfl, rfl, by decide +kernel, rfl, by decide +kernel, by decide +kernel⟩
section
variable {P : Program} {w : World} {K : PySem.W.Frag} {mg : Str → Option Value} {base : Heap}
def spSpoil : Sp := fun vs H Q _ => ∃ (t : Addr) (ls : List Addr) (rows : List (List Int)), vs = [.ref t] ∧ StockAt H t ls rows ∧ rows.length ≤ 4 ∧ (∀ r ∈ rows, r.length ≤ 4) ∧
  ∀ p as H', Same H H' → StockAt H' p as (spOf rows) → Q (.ref p) H'
theorem ok_spoil {f : Addr} {fd : FuncData} {k : Nat} (F : Fun K "spoilings_of" "spoilings_of" sSpoil f fd) (me : mg "enumerate" = none) (mt : mg "tuple" = none) : FnOk P w K mg base CX0 (k + 1) f fd ["collections"] spSpoil := by
  refine F.ok scSpoil (fun vs H Q E h => ?_) (fun cdv A outer s H vs Q E hr h => ?_)
  · obtain ⟨t, ls, rows, rfl, _⟩ := h
    rfl
  · obtain ⟨t, ls, rows, rfl, st, hl4, hr4, q⟩ := h
    refine ⟨_, (pss_cons (ps_set (i := 1) scSpoil.nd rfl (.inl rfl) (pe_lst (pa_cons (pe_tup pa_nil) pa_nil)))
      (pss_cons (ps_for PassesOwn.never rfl (pi_tup (pv 0)) (pg_name (i := 2) scSpoil.nd rfl (Or.inl rfl)) (pss_cons (ps_set (i := 3) scSpoil.nd rfl (.inr rfl) (pe_lc (own := [("kind", 4), ("needed", 5)]) (g := gTup K 2 (gCons (gName 4) (gCons (gName 5) gNil))) rfl scSpoil.nd (pi_enumT (by rfl) me (pa_cons (pv 2) pa_nil)) (blkOk_by (own := [("kind", 4), ("needed", 5)]) (N := NP) (sc := defScope sSpoil) (by decide +kernel)) (fun _ _ _ _ _ => (pg_tup rfl (pgs_cons (pg_name (i := 4) scSpoil.nd rfl (Or.inl rfl)) (pgs_cons (pg_name (i := 5) scSpoil.nd rfl (Or.inl rfl)) pgs_nil)))) (fun _ _ _ _ _ => pts_one (pt_cmpR op_gt (pv 5) pe_int (nomark _))) (fun _ _ _ _ _ => (pv 4))))
      (pss_one (ps_setLc2 (i := 1) (own := [("spoiling", 6), ("kind", 4)]) (vs1 := [4]) (g := gName 6) (g1 := gName 4) (wi1 := iList K (tVar 3)) (te := tTup (StX.tStar K (tVar 6) (tCons (tVar 4) tNil))) rfl scSpoil.nd rfl rfl (sw_true rfl rfl rfl (by decide +kernel)) (pi_list (pv 1)) (blkOk_by (own := [("spoiling", 6), ("kind", 4)]) (N := NP) (sc := defScope sSpoil) (by decide +kernel)) (by decide) (fun _ _ _ _ _ => (pg_name (i := 6) scSpoil.nd rfl (Or.inl rfl))) (fun _ _ _ _ _ => pts_nil) (fun _ _ _ _ _ => pi_list (pv 3)) (fun _ _ _ _ _ => (pg_name (i := 4) scSpoil.nd rfl (Or.inl rfl))) (fun _ _ _ _ _ => pts_nil) (fun _ _ _ _ _ => pe_tup (StX.pa_star (pv 6) (pa_cons (pv 4) pa_nil)))))))
      (pss_one (ps_ret (pe_callTy call_tuple_of (by rfl) mt (by decide +kernel) (pa_cons (pv 1) pa_nil)))))), ?_⟩
    -- spoilings = [()]
    refine ⟨Nat.zero_le _, fun p0 np0 => ?_⟩
    refine ⟨by show 1 ≤ sizeLine; decide, fun S0 nS0 => ?_⟩
    have s0 : Same H (upd (upd H p0 (.tup [])) S0 (.lst [.ref p0])) := (same_new np0).trans (same_new nS0)
    have hp0 : (upd (upd H p0 (.tup [])) S0 (.lst [.ref p0])) p0 = some (.tup (([] : List Int).map V.int)) := same_new nS0 _ _ upd_same
    have hS0 : (upd (upd H p0 (.tup [])) S0 (.lst [.ref p0])) S0 = some (.lst ([p0].map V.ref)) := upd_same
    have hR0 : RowsAt (upd (upd H p0 (.tup [])) S0 (.lst [.ref p0])) [p0] [[]] := RowsAt.snoc (ls := []) (rows := []) RowsAt.nil rfl hp0
    generalize upd (upd H p0 (.tup [])) S0 (.lst [.ref p0]) = H0 at s0 hS0 hR0 ⊢
    clear hp0 nS0 np0
    refine ⟨.ref t, rfl, t, rfl, ⟨_, SqT.of (s0 _ _ st.top)⟩, ?_⟩
    refine for_it (walk_tup (xs := ls.map V.ref)) (fun i σ H' => ∃ (S : Addr) (as : List Addr) (y2 y3 y4 y5 y6 : Option V), σ = [some (.ref t), some (.ref S), y2, y3, y4, y5, y6] ∧ Same H H' ∧ H' S = some (.lst (as.map V.ref)) ∧ as.length = (spOf (rows.take i)).length ∧ RowsAt H' as (spOf (rows.take i)))
      ⟨S0, [p0], none, none, none, none, none, rfl, s0, hS0, rfl, hR0⟩ (fun i σ H' _ h => by obtain ⟨S, as, _, _, _, _, _, _, sm, _⟩ := h; exact SqT.of (sm _ _ st.top)) (fun i x σ H' H1 hi h y => ?_) (fun σ H' h => ?_)
    · obtain ⟨S, as, y2, y3, y4, y5, y6, rfl, sm, hS, hal, hR⟩ := h
      obtain ⟨rfl, hx⟩ := y
      obtain ⟨l, hl, rfl⟩ := get_map hx
      have hil : i < rows.length := by
        have := (List.getElem?_eq_some_iff.mp hl).1
        have := st.len
        omega
      have hr' : rows[i]? = some rows[i] := List.getElem?_eq_getElem hil
      have hrow := sm _ _ (st.row i l _ hl hr')
      have hrl4 : rows[i].length ≤ 4 := hr4 _ (List.getElem_mem hil)
      have hlen1 : (spOf (rows.take i)).length ≤ 64 := Nat.le_trans (spOf_len hr4 i) (Nat.pow_le_pow_right (n := 4) (by decide) (show i ≤ 3 by omega))
      -- kinds = [..]
      refine ⟨.ref l, rfl, l, _, rfl, SqT.of hrow, fun D nD => ?_⟩
      refine lc_it (walk_enT (xs := rows[i].map V.int)) (fun j H2 => H2 D = some (.lst ((kindsUp rows[i] j).map V.int)) ∧ Same H1 H2) ⟨upd_same, same_new nD⟩ (fun j H2 _ h => SqT.of (h.2 _ _ hrow)) (fun j x H2 H3 hj h y => ?_) (fun H2 h => ?_)
      · obtain ⟨hD, s2⟩ := h
        obtain ⟨T, x1, x2, rfl, nT, rfl, e1, e2⟩ := y
        obtain rfl : V.int ((0 : Int) + (j : Nat)) = x1 := Option.some.inj e1
        obtain ⟨v, hv, rfl⟩ := get_map e2
        have hvd : rows[i].getD j 0 = v := by rw [List.getD_eq_getElem?_getD, hv]; rfl
        have sT : Same H2 (upd H2 T (.tup [.int ((0 : Int) + (j : Nat)), .int v])) := same_new nT
        refine ⟨T, [.int ((0 : Int) + (j : Nat)), .int v], rfl, .inl (.inl upd_same), rfl, _, [.int v], rfl, .int v, [], rfl, rfl, rfl, .int v, rfl, v, 0, rfl, rfl, _, rfl, ite2 (fun e => ?_) (fun e => ?_)⟩
        · refine ⟨_, rfl, _, sT _ _ hD, ?_, ?_, fun b' o e' => ?_⟩
          · rw [List.length_map]
            have := kinds_len rows[i] j
            rw [List.length_map] at hj
            exact len_lt (by omega)
          · rw [upd_same, kinds_succ, if_pos (show posAt rows[i] j = true by unfold posAt; rw [hvd]; exact e), List.map_append]
            rfl
          · rw [upd_ne (ne_of_none e' nD)]
            exact sT _ _ (s2 b' o e')
        · refine ⟨?_, s2.trans sT⟩
          rw [kinds_succ, if_neg (show ¬ posAt rows[i] j = true by unfold posAt; rw [hvd]; exact e), List.append_nil]
          exact sT _ _ hD
      · obtain ⟨hD, s2⟩ := h
        rw [List.length_map] at hD
        have hS2 := s2 _ _ hS
        have hR2 := hR.same s2
        have sm2 := sm.trans s2
        -- spoilings = [(*spoiling, kind) for spoiling in spoilings for kind in kinds]
        refine ⟨.ref S, rfl, S, rfl, ⟨_, SqL.of hS2⟩, fun E1 nE => ?_⟩
        refine lc2_it (walk_list (xs := as.map V.ref)) (fun j H3 => ∃ as' : List Addr, H3 E1 = some (.lst (as'.map V.ref)) ∧ Same H2 H3 ∧ as'.length = (spStep ((spOf (rows.take i)).take j) rows[i]).length ∧ RowsAt H3 as' (spStep ((spOf (rows.take i)).take j) rows[i]))
          ⟨[], upd_same, same_new nE, rfl, RowsAt.nil⟩ (fun j H3 _ h => by obtain ⟨_, _, s3, _⟩ := h; exact SqL.of (s3 _ _ hS2)) (fun j x H3 H4 hj h y => ?_) (fun H3 h => ?_)
        · obtain ⟨as', hE, s3, hal', hR3⟩ := h
          obtain ⟨rfl, hx'⟩ := y
          obtain ⟨a1, ha1, rfl⟩ := get_map hx'
          rw [List.length_map] at hj
          have hjs : j < (spOf (rows.take i)).length := by omega
          have hsj : (spOf (rows.take i))[j]? = some (spOf (rows.take i))[j] := List.getElem?_eq_getElem hjs
          have hta := s3 _ _ (hR2 j a1 _ ha1 hsj)
          generalize hs : (spOf (rows.take i))[j] = s' at hsj hta
          refine ⟨rfl, .ref D, rfl, D, rfl, ⟨_, SqL.of (s3 _ _ hD)⟩, ?_⟩
          refine lci_it (walk_list (xs := (kindsOf rows[i]).map V.int)) (fun m H5 => ∃ as2 : List Addr, H5 E1 = some (.lst ((as' ++ as2).map V.ref)) ∧ Same H2 H5 ∧ as2.length = m ∧ RowsAt H5 (as' ++ as2) (spStep ((spOf (rows.take i)).take j) rows[i] ++ ((kindsOf rows[i]).take m).map fun k => s' ++ [k]) ∧ H5 a1 = some (.tup (s'.map V.int)))
            ⟨[], by rw [List.append_nil]; exact hE, s3, rfl, by rw [List.append_nil]; simpa using hR3, hta⟩ (fun m H5 _ h => by obtain ⟨_, _, s5, _⟩ := h; exact SqL.of (s5 _ _ hD)) (fun m x H5 H6 hm h y => ?_) (fun H5 h => ?_)
          · obtain ⟨as2, hE5, s5, hal2, hR5, hta5⟩ := h
            obtain ⟨rfl, hx2⟩ := y
            obtain ⟨kv, hkv, rfl⟩ := get_map hx2
            refine ⟨rfl, .ref a1, rfl, a1, _, rfl, .inl (SqT.of hta5), .int kv, rfl, ?_, fun T nT => ?_⟩
            · rw [List.length_append, List.length_map]
              have hm' := List.mem_of_getElem? hsj
              rw [spOf_eq] at hm'
              have h1 := (spR_bd (fun r hr => hr4 r (List.mem_of_mem_take hr)) s' hm').1
              rw [List.length_take] at h1
              exact Nat.le_of_lt (len_lt (by show s'.length + 1 ≤ 1000; omega))
            have sT : Same H6 (upd H6 T (.tup (s'.map V.int ++ [.int kv]))) := same_new nT
            have hT : (upd H6 T (.tup (s'.map V.int ++ [.int kv]))) T = some (.tup ((s' ++ [kv]).map V.int)) := by
              rw [upd_same, List.map_append]
              rfl
            have hE6 := sT _ _ hE5
            refine ⟨_, hE6, ?_, as2 ++ [T], ?_, fun b' o e' => ?_, ?_, ?_, ?_⟩
            · rw [List.length_map, List.length_append, hal', hal2, step_len, List.length_take]
              have h1 : min j (spOf (rows.take i)).length ≤ 64 := by omega
              have h2 : (kindsOf rows[i]).length ≤ 4 := Nat.le_trans (kinds_len _ _) hrl4
              have h3 := Nat.mul_le_mul h1 h2
              rw [List.length_map] at hm
              exact len_lt (by omega)
            · rw [upd_same, ← List.append_assoc, List.map_append (l₁ := as' ++ as2)]
              rfl
            · rw [upd_ne (ne_of_none e' nE)]
              exact sT _ _ (s5 b' o e')
            · rw [List.length_append, hal2]
              rfl
            · rw [take_succ_map hkv, ← List.append_assoc, ← List.append_assoc]
              refine RowsAt.updL (RowsAt.snoc (hR5.same sT) ?_ hT) hE6
              rw [List.length_append, List.length_append, List.length_map, hal', hal2, List.length_take]
              have := (List.getElem?_eq_some_iff.mp hkv).1
              omega
            · rw [upd_ne (fun z => by rw [z] at hta5; rw [hE5] at hta5; cases hta5)]
              exact sT _ _ hta5
          · obtain ⟨as2, hE5, s5, hal2, hR5, _⟩ := h
            rw [List.length_map] at hal2 hR5
            rw [List.take_length] at hR5
            refine ⟨as' ++ as2, hE5, s5, ?_, ?_⟩
            · rw [take_flat hsj, List.length_append, List.length_append, List.length_map, hal', hal2]
            · rw [take_flat hsj]
              exact hR5
        · obtain ⟨as', hE, s3, hal', hR3⟩ := h
          rw [List.length_map, hal, List.take_length] at hal' hR3
          refine ⟨E1, as', _, _, _, _, _, rfl, sm2.trans s3, hE, ?_, ?_⟩
          · rw [spOf_snoc hr']
            exact hal'
          · rw [spOf_snoc hr']
            exact hR3
    · obtain ⟨S, as, y2, y3, y4, y5, y6, rfl, sm, hS, hal, hR⟩ := h
      rw [List.length_map, st.len, List.take_length] at hal hR
      refine ⟨.ref S, rfl, S, _, rfl, .inl ⟨SqL.of hS, fun p np => ?_⟩⟩
      exact q p as _ (sm.trans (same_new np)) ⟨upd_same, hal, hR.same (same_new np)⟩
end
end DD
namespace DD
open PySem PySem.Spec PyProof.Rows L2 RZ

/-! ### caps -/
def minL : List Int → Int
  | [] => 0
  | x :: xs => if xs = [] then x else min x (minL xs)
theorem minL_mem : ∀ {l : List Int}, l ≠ [] → minL l ∈ l
  | [], h => absurd rfl h
  | x :: xs, _ => by
    unfold minL
    split
    · exact List.mem_cons_self
    · rename_i h
      by_cases c : x ≤ minL xs
      · rw [Int.min_eq_left c]
        exact List.mem_cons_self
      · rw [Int.min_eq_right (by omega)]
        exact List.mem_cons_of_mem _ (minL_mem h)
theorem minL_le : ∀ {l : List Int}, ∀ y ∈ l, minL l ≤ y
  | [], y, h => by cases h
  | x :: xs, y, h => by
    unfold minL
    split
    · rename_i e
      subst e
      rw [List.mem_singleton.mp h]
      exact Int.le_refl _
    · rcases List.mem_cons.mp h with rfl | h
      · exact Int.min_le_left _ _
      · exact Int.le_trans (Int.min_le_right _ _) (minL_le y h)
theorem minL_uniq {l : List Int} {m : Int} (hm : m ∈ l) (hl : ∀ y, y ∈ l → m ≤ y) : m = minL l :=
  Int.le_antisymm (hl _ (minL_mem (fun e => by rw [e] at hm; cases hm))) (minL_le m hm)
def pickUp (rows : List (List Int)) (named : List Int) (k : Nat) (i : Nat) : List Int := (((rows.zip named).take i).filter (fun p => decide (p.2 = (k : Int)))).map fun p => p.1.getD k 0
def pickAll (rows : List (List Int)) (named : List Int) (k : Nat) : List Int := pickUp rows named k rows.length
theorem pick_succ {rows : List (List Int)} {named : List Int} {k i : Nat} {r : List Int} {v : Int} (h1 : rows[i]? = some r) (h2 : named[i]? = some v) :
    pickUp rows named k (i + 1) = pickUp rows named k i ++ (if v = (k : Int) then [r.getD k 0] else []) := by
  unfold pickUp
  have hz : (rows.zip named)[i]? = some (r, v) := List.getElem?_zip_eq_some.mpr ⟨h1, h2⟩
  rw [List.take_add_one, hz, List.filter_append, List.map_append]
  congr 1
  by_cases e : v = (k : Int)
  · rw [if_pos e]
    simp [e]
  · rw [if_neg e]
    simp [e]
theorem pick_len (rows : List (List Int)) (named : List Int) (k i : Nat) : (pickUp rows named k i).length ≤ i := by
  unfold pickUp
  rw [List.length_map]
  refine Nat.le_trans (List.length_filter_le _ _) ?_
  rw [List.length_take]
  omega
theorem pick_bd {rows : List (List Int)} {named : List Int} {k i : Nat} {b : Int} (hb : 0 ≤ b) (h : ∀ r ∈ rows, ∀ x ∈ r, 0 ≤ x ∧ x ≤ b) : ∀ x ∈ pickUp rows named k i, 0 ≤ x ∧ x ≤ b := by
  intro x hx
  obtain ⟨p, hp, rfl⟩ := List.mem_map.mp hx
  have hp2 := List.mem_of_mem_take (List.mem_filter.mp hp).1
  exact getD_bd (h p.1 (List.of_mem_zip hp2).1) hb k
def capAt (rows : List (List Int)) (named : List Int) (k : Nat) : Option Int := if pickAll rows named k = [] then none else some (minL (pickAll rows named k) - 1)
def optI : Option Int → V
  | none => .non
  | some j => .int j
def optID : Option Int → PyData
  | none => .none
  | some j => .int j
def capsOf (rows : List (List Int)) (named : List Int) (m : Nat) : List (Option Int) := (List.range m).map (capAt rows named)
theorem caps_get {rows : List (List Int)} {named : List Int} {m i : Nat} (h : i < m) : (capsOf rows named m)[i]? = some (capAt rows named i) := by
  unfold capsOf
  rw [List.getElem?_map, List.getElem?_range h]
  rfl
theorem caps_len (rows : List (List Int)) (named : List Int) (m : Nat) : (capsOf rows named m).length = m := by simp [capsOf]
theorem col_int {rows : List (List Int)} {i m : Nat} (h : ∀ r ∈ rows, r.length = m) (hi : i < m) : colV (rows.map fun r => r.map V.int) i = (rows.map fun r => r.getD i 0).map V.int := by
  unfold colV
  rw [List.map_map, List.map_map]
  refine List.map_congr_left fun r hr => ?_
  show (r.map V.int).getD i .non = V.int (r.getD i 0)
  rw [List.getD_eq_getElem?_getD, List.getD_eq_getElem?_getD, List.getElem?_map, List.getElem?_eq_getElem (by rw [h r hr]; exact hi)]
  rfl
theorem rws_of {K : PySem.W.Frag} {H : Hp} {t : Addr} {ls : List Addr} {rows : List (List Int)} {m : Nat} (st : StockAt H t ls rows) (h : ∀ r ∈ rows, r.length = m) : Rws K H ls (rows.map fun r => r.map V.int) m := by
  refine ⟨by rw [List.length_map]; exact st.len, fun j a r x1 x2 => ?_⟩
  obtain ⟨r', hr', rfl⟩ := get_map x2
  exact ⟨SqT.of (st.row j a r' x1 hr'), by rw [List.length_map]; exact h r' (List.mem_of_getElem? hr')⟩

abbrev NQ : List Str := ["collections", "spoiling", "caps", "kind", "needs", "spoiled", "needed", "named"]
theorem scCaps : FnScope NQ ["collections", "spoiling"] (defScope sCaps) := ⟨rfl, rfl, rfl, by decide +kernel, rfl, by decide +kernel, by decide +kernel⟩
section
variable {P : Program} {w : World} {K : PySem.W.Frag} {mg : Str → Option Value} {base : Heap}
def spCaps : Sp := fun vs H Q _ => ∃ (t b : Addr) (ls : List Addr) (rows : List (List Int)) (named : List Int) (m : Nat), vs = [.ref t, .ref b] ∧ StockAt H t ls rows ∧ 1 ≤ rows.length ∧ rows.length ≤ 4 ∧ (∀ r ∈ rows, r.length = m) ∧ m ≤ 100 ∧
  H b = some (.tup (named.map V.int)) ∧ named.length = rows.length ∧ ∀ p H', Same H H' → H' p = some (.tup ((capsOf rows named m).map optI)) → Q (.ref p) H'
theorem ok_caps {f : Addr} {fd : FuncData} {k : Nat} (F : Fun K "caps_of" "caps_of" sCaps f fd) (me : mg "enumerate" = none) (mz : mg "zip" = none) (mn : mg "min" = none) (mt : mg "tuple" = none) : FnOk P w K mg base CX0 (k + 1) f fd ["collections", "spoiling"] spCaps := by
  refine F.ok scCaps (fun vs H Q E h => ?_) (fun cdv A outer s H vs Q E hr h => ?_)
  · obtain ⟨t, b, ls, rows, named, m, rfl, _⟩ := h
    rfl
  · obtain ⟨t, b, ls, rows, named, m, rfl, st, hl1, hl4, hrm, hm, hb, hnl, q⟩ := h
    refine ⟨_, (pss_cons (ps_set (i := 2) scCaps.nd rfl (.inl rfl) (pe_lst pa_nil))
      (pss_cons (ps_for PassesOwn.never rfl (pi_enumZ (by rfl) me (by rfl) mz (pv 0)) (pg_tup rfl (pgs_cons (pg_name (i := 3) scCaps.nd rfl (Or.inr rfl)) (pgs_cons (pg_name (i := 4) scCaps.nd rfl (Or.inl rfl)) pgs_nil))) (pss_cons (ps_setLc (i := 5) (own := [("needed", 6), ("named", 7)]) (g := gTup K 2 (gCons (gName 6) (gCons (gName 7) gNil))) rfl scCaps.nd rfl rfl (sw_true rfl rfl rfl (by decide +kernel)) (pi_zipA (by rfl) mz (pa_cons (pv 4) (pa_cons (pv 1) pa_nil))) (blkOk_by (own := [("needed", 6), ("named", 7)]) (N := NQ) (sc := defScope sCaps) (by decide +kernel)) (fun _ _ _ _ _ => (pg_tup rfl (pgs_cons (pg_name (i := 6) scCaps.nd rfl (Or.inl rfl)) (pgs_cons (pg_name (i := 7) scCaps.nd rfl (Or.inl rfl)) pgs_nil)))) (fun _ _ _ _ _ => pts_one (pt_cmpR op_eq (pv 7) (pv 3) (nomark _))) (fun _ _ _ _ _ => (pv 6)))
      (pss_one (ps_expr (pe_bm PySem.F.plainAttrs_list PySem.F.slot_list_append PySem.F.type_list_append mt_append (pv 2) (pa_cons (pe_ifExp (pt_truth (pv 5) (fun _ => rfl)) (pe_op op_sub (pe_callB (show CallR _ _ (rMin K) from cr_min rfl) (by rfl) mn (by decide +kernel) (pa_cons (pv 5) pa_nil)) pe_int) pe_non) pa_nil))))))
      (pss_one (ps_ret (pe_callTy call_tuple_of (by rfl) mt (by decide +kernel) (pa_cons (pv 2) pa_nil)))))), ?_⟩
    refine ⟨Nat.zero_le _, fun C nC => ?_⟩
    have s0 : Same H (upd H C (.lst [])) := same_new nC
    refine ⟨.ref t, rfl, t, ls, rows.map (fun r => r.map V.int), m, rfl, .inl (SqT.of (s0 _ _ st.top)), by rw [st.len]; exact hl1, by rw [st.len]; exact hl4, rws_of (st.same s0) hrm, ?_⟩
    refine for_it (walk_ez (m := m)) (fun i σ H' => ∃ y3 y4 y5 y6 y7 : Option V, σ = [some (.ref t), some (.ref b), some (.ref C), y3, y4, y5, y6, y7] ∧ Same H H' ∧ H' C = some (.lst (((capsOf rows named m).take i).map optI)))
      ⟨none, none, none, none, none, rfl, s0, upd_same⟩ (fun i σ H' _ h => by obtain ⟨_, _, _, _, _, _, sm, _⟩ := h; exact rws_of (st.same sm) hrm) (fun i x σ H1 H2 hi h y => ?_) (fun σ H' h => ?_)
    · obtain ⟨y3, y4, y5, y6, y7, rfl, sm, hC⟩ := h
      obtain ⟨T, U, rfl, nT, hTU, nU, rfl⟩ := y
      have nU' : (upd H1 T (.tup (colV (rows.map fun r => r.map V.int) i))) U = none := by rw [upd_ne hTU.symm]; exact nU
      have s2 : Same H1 (upd (upd H1 T (.tup (colV (rows.map fun r => r.map V.int) i))) U (.tup [.int ((0 : Int) + (i : Nat)), .ref T])) := (same_new nT).trans (same_new nU')
      have hT : (upd (upd H1 T (.tup (colV (rows.map fun r => r.map V.int) i))) U (.tup [.int ((0 : Int) + (i : Nat)), .ref T])) T = some (.tup ((rows.map fun r => r.getD i 0).map V.int)) := by
        rw [upd_ne hTU, upd_same, col_int hrm hi]
      refine ⟨U, [.int ((0 : Int) + (i : Nat)), .ref T], rfl, .inl (.inl upd_same), rfl, .int ((0 : Int) + (i : Nat)), [.ref T], rfl, .ref T, [], rfl, rfl, ?_⟩
      generalize upd (upd H1 T (.tup (colV (rows.map fun r => r.map V.int) i))) U (.tup [.int ((0 : Int) + (i : Nat)), .ref T]) = Ha at s2 hT ⊢
      have hba := s2 _ _ (sm _ _ hb)
      have hCa := s2 _ _ hC
      -- spoiled = [..]
      refine ⟨.ref T, rfl, .ref b, rfl, T, b, _, _, rfl, .inr ⟨SqT.of hT, SqT.of hba, fun D nD => ?_⟩⟩
      refine lc_zipT (xs := (rows.map fun r => r.getD i 0).map V.int) (ys := named.map V.int) (by rw [List.length_map, List.length_map, List.length_map, hnl]) (fun j H3 => H3 D = some (.lst ((pickUp rows named i j).map V.int)) ∧ Same Ha H3) ⟨upd_same, same_new nD⟩
        (fun j H3 _ h => ⟨SqT.of (h.2 _ _ hT), SqT.of (h.2 _ _ hba)⟩) (fun j x y T2 H3 hx hy h nT2 => ?_) (fun H3 h => ?_)
      · obtain ⟨hD, s3⟩ := h
        obtain ⟨v1, hv1, rfl⟩ := get_map hx
        obtain ⟨r, hr1, rfl⟩ := get_map hv1
        obtain ⟨ow, how, rfl⟩ := get_map hy
        have sT : Same H3 (upd H3 T2 (.tup [.int (r.getD i 0), .int ow])) := same_new nT2
        refine ⟨T2, [.int (r.getD i 0), .int ow], rfl, .inl (.inl upd_same), rfl, .int (r.getD i 0), [.int ow], rfl, .int ow, [], rfl, rfl, rfl, .int ow, rfl, .int ((0 : Int) + (i : Nat)), rfl, rfl, _, rfl, ite2 (fun e => ?_) (fun e => ?_)⟩
        · have e' : ow = (i : Int) := by
            have := of_decide_eq_true e
            injection this with this
            rw [Int.zero_add] at this
            exact this
          refine ⟨_, rfl, _, sT _ _ hD, ?_, ?_, fun b' o e2 => ?_⟩
          · rw [List.length_map]
            have := pick_len rows named i j
            have := (List.getElem?_eq_some_iff.mp hr1).1
            exact len_lt (by omega)
          · rw [upd_same, pick_succ hr1 how, if_pos e', List.map_append]
            rfl
          · rw [upd_ne (ne_of_none e2 nD)]
            exact sT _ _ (s3 b' o e2)
        · have e' : ¬ ow = (i : Int) := fun z => e (decide_eq_true (by rw [z, Int.zero_add]))
          refine ⟨?_, s3.trans sT⟩
          rw [pick_succ hr1 how, if_neg e', List.append_nil]
          exact sT _ _ hD
      · obtain ⟨hD, s3⟩ := h
        rw [List.length_map, List.length_map] at hD
        have hD' : H3 D = some (.lst ((pickAll rows named i).map V.int)) := hD
        have hC3 := s3 _ _ hCa
        have s13 : Same H H3 := sm.trans (s2.trans s3)
        have hget := caps_get (rows := rows) (named := named) hi
        have hlt : (((capsOf rows named m).take i).map optI).length < sizeLine := by
          rw [List.length_map, List.length_take]
          exact len_lt (by omega)
        refine ⟨.ref C, rfl, .inl ⟨rfl, _, SqL.of hC3⟩, .ref D, rfl, _, .inl ⟨_, SqL.of hD', rfl⟩, ?_⟩
        have fin : ∀ v : V, v = optI (capAt rows named i) → Same H (upd H3 C (.lst (((capsOf rows named m).take i).map optI ++ [v]))) ∧
            (upd H3 C (.lst (((capsOf rows named m).take i).map optI ++ [v]))) C = some (.lst (((capsOf rows named m).take (i + 1)).map optI)) := fun v hv => by
          refine ⟨fun b' o e => ?_, ?_⟩
          · rw [upd_ne (ne_of_none e nC)]
            exact s13 b' o e
          · rw [upd_same, take_succ_map hget, hv]
        cases hp : pickAll rows named i with
        | nil =>
          refine iteF ⟨C, _, .non, rfl, rfl, hC3, hlt, ?_⟩
          obtain ⟨h2, h3⟩ := fin .non (by unfold capAt; rw [if_pos hp]; rfl)
          exact ⟨_, _, _, _, _, rfl, h2, h3⟩
        | cons p0 pr =>
          refine iteT ⟨.ref D, rfl, D, pickAll rows named i, rfl, SqL.of hD', by rw [hp]; exact Nat.succ_pos _, fun mn hmn hle => ⟨mn, 1, rfl, rfl, ?_⟩⟩
          have hmn' := minL_uniq hmn hle
          refine ⟨C, _, .int (mn - 1), rfl, rfl, hC3, hlt, ?_⟩
          obtain ⟨h2, h3⟩ := fin (.int (mn - 1)) (by unfold capAt; rw [if_neg (by rw [hp]; exact fun e => nomatch e), hmn']; rfl)
          exact ⟨_, _, _, _, _, rfl, h2, h3⟩
    · obtain ⟨y3, y4, y5, y6, y7, rfl, sm, hC⟩ := h
      have hcl := caps_len rows named m
      rw [List.take_of_length_le (by omega)] at hC
      refine ⟨.ref C, rfl, C, _, rfl, .inl ⟨SqL.of hC, fun p np => ?_⟩⟩
      exact q p _ (sm.trans (same_new np)) upd_same
end
end DD
namespace DD
open PySem PySem.Spec PyProof.Rows L2 RZ

/-! ### spoilings, caps and counts -/
theorem mem_kinds {r : List Int} {k : Int} (h : k ∈ kindsOf r) : ∃ i : Nat, k = (i : Int) ∧ i < r.length ∧ 0 < r.getD i 0 := by
  obtain ⟨j, hj, rfl⟩ := List.mem_map.mp h
  obtain ⟨h1, h2⟩ := List.mem_filter.mp hj
  exact ⟨j, by omega, List.mem_range.mp h1, of_decide_eq_true h2⟩
theorem kinds_of {r : List Int} {i : Nat} (h : i < r.length) (h0 : 0 < r.getD i 0) : (i : Int) ∈ kindsOf r := by
  have : ((0 : Int) + (i : Nat)) ∈ kindsOf r := List.mem_map_of_mem (List.mem_filter.mpr ⟨List.mem_range.mpr h, decide_eq_true h0⟩)
  rwa [Int.zero_add] at this
theorem spR_fwd : ∀ {rows : List (List Int)} {s : List Int}, s ∈ spR rows → s.length = rows.length ∧ ∀ (j : Nat) (r : List Int) (k : Int), rows[j]? = some r → s[j]? = some k → k ∈ kindsOf r
  | [], s, h => by
    rw [List.mem_singleton.mp h]
    exact ⟨rfl, fun j r k e => by simp at e⟩
  | r :: rs, s, h => by
    obtain ⟨k, hk, hs⟩ := List.mem_flatMap.mp h
    obtain ⟨s', hs', rfl⟩ := List.mem_map.mp hs
    obtain ⟨h1, h2⟩ := spR_fwd hs'
    refine ⟨by rw [List.length_cons, List.length_cons, h1], fun j r' k' e1 e2 => ?_⟩
    cases j with
    | zero =>
      cases e1
      cases e2
      exact hk
    | succ j => exact h2 j r' k' e1 e2
theorem spR_bwd {f : List Int → Int} : ∀ {rows : List (List Int)}, (∀ r ∈ rows, f r ∈ kindsOf r) → rows.map f ∈ spR rows
  | [], _ => List.mem_singleton.mpr rfl
  | r :: rs, h => List.mem_flatMap.mpr ⟨f r, h r List.mem_cons_self, List.mem_map.mpr ⟨rs.map f, spR_bwd fun x hx => h x (List.mem_cons_of_mem _ hx), rfl⟩⟩
theorem pick_mem {rows : List (List Int)} {named : List Int} {k : Nat} {y : Int} : y ∈ pickAll rows named k → ∃ (j : Nat) (r : List Int), rows[j]? = some r ∧ named[j]? = some (k : Int) ∧ y = r.getD k 0 := by
  intro h
  obtain ⟨p, hp, rfl⟩ := List.mem_map.mp h
  obtain ⟨h1, h2⟩ := List.mem_filter.mp hp
  obtain ⟨j, hj⟩ := List.mem_iff_getElem?.mp (List.mem_of_mem_take h1)
  obtain ⟨e1, e2⟩ := List.getElem?_zip_eq_some.mp hj
  refine ⟨j, p.1, e1, ?_, rfl⟩
  rw [e2, of_decide_eq_true h2]
theorem mem_pick {rows : List (List Int)} {named : List Int} {k j : Nat} {r : List Int} (h1 : rows[j]? = some r) (h2 : named[j]? = some (k : Int)) : r.getD k 0 ∈ pickAll rows named k := by
  have hz : (rows.zip named)[j]? = some (r, (k : Int)) := List.getElem?_zip_eq_some.mpr ⟨h1, h2⟩
  have hj := (List.getElem?_eq_some_iff.mp h1).1
  refine List.mem_map.mpr ⟨(r, (k : Int)), List.mem_filter.mpr ⟨?_, decide_eq_true rfl⟩, rfl⟩
  refine List.mem_of_getElem? (i := j) ?_
  rw [List.getElem?_take_of_lt hj]
  exact hz
theorem cap_some {rows : List (List Int)} {named : List Int} {k : Nat} {v : Int} (e : capAt rows named k = some v) : v + 1 ∈ pickAll rows named k ∧ ∀ y ∈ pickAll rows named k, v + 1 ≤ y := by
  unfold capAt at e
  by_cases c : pickAll rows named k = []
  · rw [if_pos c] at e
    cases e
  · rw [if_neg c] at e
    have e := Option.some.inj e
    have h1 := minL_mem c
    refine ⟨by rw [← e]; rw [Int.sub_add_cancel]; exact h1, fun y hy => ?_⟩
    have := minL_le y hy
    omega
theorem cap_of {rows : List (List Int)} {named : List Int} {k : Nat} {y : Int} (h : y ∈ pickAll rows named k) : ∃ v, capAt rows named k = some v := by
  unfold capAt
  rw [if_neg (fun e => by rw [e] at h; cases h)]
  exact ⟨_, rfl⟩
def bad (p : Option Int × Int) : Bool := match p.1 with
  | none => false
  | some v => decide (p.2 > v)
def badUp (cps : List (Option Int)) (cs : List Int) (i : Nat) : List Int := (((cps.zip cs).take i).filter bad).map fun _ => 1
def keptB (cps : List (Option Int)) (cs : List Int) : Bool := ((cps.zip cs).filter bad).isEmpty
theorem bad_succ {cps : List (Option Int)} {cs : List Int} {i : Nat} {o : Option Int} {x : Int} (h1 : cps[i]? = some o) (h2 : cs[i]? = some x) : badUp cps cs (i + 1) = badUp cps cs i ++ (if bad (o, x) = true then [1] else []) := by
  unfold badUp
  have hz : (cps.zip cs)[i]? = some (o, x) := List.getElem?_zip_eq_some.mpr ⟨h1, h2⟩
  rw [List.take_add_one, hz, List.filter_append, List.map_append]
  congr 1
  by_cases e : bad (o, x) = true
  · rw [if_pos e]
    simp [e]
  · rw [if_neg e]
    simp [e]
theorem bad_len (cps : List (Option Int)) (cs : List Int) (i : Nat) : (badUp cps cs i).length ≤ i := by
  unfold badUp
  rw [List.length_map]
  refine Nat.le_trans (List.length_filter_le _ _) ?_
  rw [List.length_take]
  omega
theorem kept_nil {cps : List (Option Int)} {cs : List Int} (h : cps.length = cs.length) : (badUp cps cs cps.length = []) ↔ keptB cps cs = true := by
  unfold badUp keptB
  rw [List.take_of_length_le (by rw [List.length_zip]; omega), List.map_eq_nil_iff, List.isEmpty_iff]
theorem kept_iff {cps : List (Option Int)} {cs : List Int} : keptB cps cs = true ↔ ∀ (i : Nat) (v x : Int), cps[i]? = some (some v) → cs[i]? = some x → x ≤ v := by
  unfold keptB
  rw [List.isEmpty_iff, List.filter_eq_nil_iff]
  constructor
  · intro h i v x h1 h2
    have := h (some v, x) (List.mem_of_getElem? (List.getElem?_zip_eq_some.mpr ⟨h1, h2⟩ : (cps.zip cs)[i]? = some (some v, x)))
    have h3 : ¬ decide (x > v) = true := this
    rw [decide_eq_true_eq] at h3
    omega
  · intro h p hp
    obtain ⟨i, hi⟩ := List.mem_iff_getElem?.mp hp
    obtain ⟨e1, e2⟩ := List.getElem?_zip_eq_some.mp hi
    obtain ⟨o, x⟩ := p
    cases o with
    | none => exact Bool.false_ne_true
    | some v =>
      have := h i v x e1 e2
      show ¬ decide (x > v) = true
      rw [decide_eq_true_eq]
      omega
theorem cont_iff {cs row : List Int} : contains cs row = true ↔ ∀ (i : Nat) (x r : Int), cs[i]? = some x → row[i]? = some r → r ≤ x := by
  unfold contains
  rw [List.all_eq_true]
  constructor
  · intro h i x r h1 h2
    have hz : (List.zipWith (fun c n => decide (c ≥ n)) cs row)[i]? = some (decide (x ≥ r)) := by rw [List.getElem?_zipWith, h1, h2]
    exact of_decide_eq_true (h _ (List.mem_of_getElem? hz))
  · intro h b hb
    obtain ⟨i, hi⟩ := List.mem_iff_getElem?.mp hb
    rw [List.getElem?_zipWith] at hi
    cases e1 : cs[i]? with
    | none => rw [e1] at hi; cases hi
    | some x =>
      cases e2 : row[i]? with
      | none => rw [e1, e2] at hi; cases hi
      | some r =>
        rw [e1, e2] at hi
        obtain rfl := Option.some.inj hi
        exact decide_eq_true (h i x r e1 e2)
theorem ful_none {rows : List (List Int)} {cs : List Int} : fulOf rows cs = none ↔ ∀ r ∈ rows, contains cs r = false := by
  unfold fulOf
  rw [List.findIdx?_eq_none_iff]
theorem get_of_getD {r : List Int} {i : Nat} (h : i < r.length) : r[i]? = some (r.getD i 0) := by
  rw [List.getD_eq_getElem?_getD, List.getElem?_eq_getElem h]
  rfl
/-- counts fulfil nothing exactly if some spoiling keeps them -/
theorem ful_kept {rows : List (List Int)} {cs : List Int} {n : Nat} (hr : ∀ r ∈ rows, r.length = n) (hc : cs.length = n) (h0 : ∀ x ∈ cs, 0 ≤ x) : fulOf rows cs = none ↔ ∃ s ∈ spOf rows, keptB (capsOf rows s n) cs = true := by
  rw [ful_none, spOf_eq]
  constructor
  · intro h
    have ex : ∀ r ∈ rows, ∃ i : Nat, i < n ∧ cs.getD i 0 < r.getD i 0 := fun r hr' => by
      have h1 : ¬ lackOf cs r n = [] := fun e => by
        have := (lack_nil hc (hr r hr')).mp e
        rw [h r hr'] at this
        cases this
      obtain ⟨x, hx⟩ := List.exists_mem_of_ne_nil _ h1
      obtain ⟨j, hj, _⟩ := List.mem_map.mp hx
      obtain ⟨h2, h3⟩ := List.mem_filter.mp hj
      exact ⟨j, List.mem_range.mp h2, of_decide_eq_true h3⟩
    let f : List Int → Nat := fun r => ((List.range n).find? (lackAt cs r)).getD 0
    have hf : ∀ r ∈ rows, f r < n ∧ cs.getD (f r) 0 < r.getD (f r) 0 := fun r hr' => by
      obtain ⟨i, hi, hlt⟩ := ex r hr'
      have hs : ((List.range n).find? (lackAt cs r)).isSome = true := List.find?_isSome.mpr ⟨i, List.mem_range.mpr hi, decide_eq_true hlt⟩
      obtain ⟨j, hj⟩ := Option.isSome_iff_exists.mp hs
      have e : f r = j := by show ((List.range n).find? (lackAt cs r)).getD 0 = j; rw [hj]; rfl
      rw [e]
      have hl : lackAt cs r j = true := List.find?_some hj
      exact ⟨List.mem_range.mp (List.mem_of_find?_eq_some hj), of_decide_eq_true hl⟩
    refine ⟨rows.map fun r => (f r : Int), spR_bwd fun r hr' => ?_, kept_iff.mpr fun i v x e1 e2 => ?_⟩
    · obtain ⟨h1, h2⟩ := hf r hr'
      refine kinds_of (by rw [hr r hr']; exact h1) ?_
      have := h0 _ (List.mem_of_getElem? (get_of_getD (show f r < cs.length by omega)))
      omega
    · have hi : i < n := by
        have := (List.getElem?_eq_some_iff.mp e2).1
        omega
      rw [caps_get hi] at e1
      obtain ⟨h1, _⟩ := cap_some (Option.some.inj e1)
      obtain ⟨j, r, hj, hn, hv⟩ := pick_mem h1
      rw [List.getElem?_map, hj] at hn
      have hn : (f r : Int) = (i : Int) := Option.some.inj hn
      have hn' : f r = i := by omega
      obtain ⟨_, h4⟩ := hf r (List.mem_of_getElem? hj)
      rw [hn'] at h4
      have hx : cs.getD i 0 = x := by rw [List.getD_eq_getElem?_getD, e2]; rfl
      omega
  · rintro ⟨s, hs, hk⟩ r hr'
    obtain ⟨hl, hf⟩ := spR_fwd hs
    obtain ⟨j, hj⟩ := List.mem_iff_getElem?.mp hr'
    have hjl := (List.getElem?_eq_some_iff.mp hj).1
    have hsj : s[j]? = some (s[j]'(by omega)) := List.getElem?_eq_getElem (by omega)
    obtain ⟨i, hi, hil, hpos⟩ := mem_kinds (hf j r _ hj hsj)
    rw [hi] at hsj
    have hp := mem_pick hj hsj
    obtain ⟨v, hv⟩ := cap_of hp
    have hle := (cap_some hv).2 _ hp
    have hin : i < n := by rw [← hr r hr']; exact hil
    have h1 := kept_iff.mp hk i v (cs.getD i 0) (by rw [caps_get hin, hv]) (get_of_getD (by omega))
    cases hc' : contains cs r with
    | false => rfl
    | true =>
      have := cont_iff.mp hc' i _ _ (get_of_getD (by omega)) (get_of_getD hil)
      omega
theorem cap_nn {rows : List (List Int)} {s : List Int} {k : Nat} {v : Int} (hs : s ∈ spOf rows) (e : capAt rows s k = some v) : 0 ≤ v := by
  rw [spOf_eq] at hs
  obtain ⟨h1, _⟩ := cap_some e
  obtain ⟨j, r, hj, hn, hv⟩ := pick_mem h1
  obtain ⟨i, hi, _, hpos⟩ := mem_kinds ((spR_fwd hs).2 j r _ hj hn)
  have : i = k := by omega
  rw [this] at hpos
  omega
theorem ful_more {rows : List (List Int)} {cs : List Int} (h : fulOf rows cs ≠ none) : fulOf rows (cs.map fun x => x + 1) ≠ none := by
  intro e
  rw [ful_none] at e
  refine h (ful_none.mpr fun r hr => ?_)
  cases c : contains cs r with
  | false => rfl
  | true =>
    have : contains (cs.map fun x => x + 1) r = true := cont_iff.mpr fun i x y h1 h2 => by
      obtain ⟨x', hx', rfl⟩ := get_map h1
      have := cont_iff.mp c i x' y hx' h2
      omega
    rw [e r hr] at this
    cases this
/-- a collection that needs more -/
def bump (r : List Int) : List Int := r.map fun x => if x + 1 < 50 then x + 1 else 50
theorem ful_further {rs : List (List Int)} {r0 : List Int} {cs : List Int} (h0 : r0 ∈ rs) (hb : ∀ x ∈ r0, x ≤ 50) : (fulOf (rs ++ [bump r0]) cs = none) ↔ (fulOf rs cs = none) := by
  rw [ful_none, ful_none]
  constructor
  · intro h r hr
    exact h r (List.mem_append_left _ hr)
  · intro h r hr
    rcases List.mem_append.mp hr with hr | hr
    · exact h r hr
    · rw [List.mem_singleton.mp hr]
      cases c : contains cs (bump r0) with
      | false => rfl
      | true =>
        have : contains cs r0 = true := cont_iff.mpr fun i x y h1 h2 => by
          have h3 : (bump r0)[i]? = some (if y + 1 < 50 then y + 1 else 50) := by
            unfold bump
            rw [List.getElem?_map, h2]
            rfl
          have := cont_iff.mp c i x _ h1 h3
          have := hb y (List.mem_of_getElem? h2)
          split at * <;> omega
        rw [h r0 h0] at this
        cases this
/-- counts at the caps -/
def fullOf (cps : List (Option Int)) : List Int := cps.map fun o => o.getD 50
theorem full_kept (cps : List (Option Int)) : keptB cps (fullOf cps) = true := kept_iff.mpr fun i v x e1 e2 => by
  unfold fullOf at e2
  rw [List.getElem?_map, e1] at e2
  have : v = x := Option.some.inj e2
  omega
theorem named_ex {rows : List (List Int)} {s : List Int} {n : Nat} (hr : ∀ r ∈ rows, r.length = n) (h1 : 1 ≤ rows.length) (hs : s ∈ spOf rows) : ∃ k, k < n ∧ capAt rows s k ≠ none := by
  rw [spOf_eq] at hs
  obtain ⟨hl, hf⟩ := spR_fwd hs
  have hj : rows[0]? = some rows[0] := List.getElem?_eq_getElem (by omega)
  have hsj : s[0]? = some (s[0]'(by omega)) := List.getElem?_eq_getElem (by omega)
  obtain ⟨i, hi, hil, _⟩ := mem_kinds (hf 0 _ _ hj hsj)
  rw [hi] at hsj
  obtain ⟨v, hv⟩ := cap_of (mem_pick hj hsj)
  exact ⟨i, by have := hr _ (List.mem_of_getElem? hj); omega, by rw [hv]; exact fun e => nomatch e⟩
/-- one more of a kind with a cap -/
theorem many_ful {rows : List (List Int)} {s : List Int} {n k : Nat} {v : Int} {cs : List Int} (hr : ∀ r ∈ rows, r.length = n ∧ ∀ x ∈ r, x ≤ 1000000) (hv : capAt rows s k = some v) (hk : cs[k]? = some (v + 1)) (ho : ∀ i x, i ≠ k → cs[i]? = some x → x = 1000000) : fulOf rows cs ≠ none := by
  intro e
  obtain ⟨h1, _⟩ := cap_some hv
  obtain ⟨j, r, hj, hn, hrv⟩ := pick_mem h1
  have hrm := List.mem_of_getElem? hj
  have hf := ful_none.mp e r hrm
  have : contains cs r = true := cont_iff.mpr fun i x y g1 g2 => by
    by_cases hi : i = k
    · subst hi
      have g3 := Option.some.inj (hk.symm.trans g1)
      have h2' : r.getD i 0 = y := by rw [List.getD_eq_getElem?_getD, g2]; rfl
      omega
    · rw [ho i x hi g1]
      exact (hr r hrm).2 y (List.mem_of_getElem? g2)
  rw [hf] at this
  cases this
end DD
namespace DD
open PySem PySem.Spec PyProof.Rows L2
theorem fdiv2 (hi : Int) (h : 0 ≤ hi) : 0 ≤ hi.fdiv 2 ∧ 2 * hi.fdiv 2 ≤ hi := by
  rw [Int.fdiv_eq_ediv_of_nonneg _ (by decide)]
  omega
abbrev NS : List Str := ["_law_deck_here", "_law_drawers", "_law_kinds", "_law_most", "_law_many", "_law_long", "_law_bound", "_law_found", "_law_drawer", "_law_kind"]
theorem scStock : FnScope NS ["_law_deck_here", "_law_drawers", "_law_kinds", "_law_most"] (defScope sStock) := ⟨rfl, rfl, rfl, by decide +kernel, rfl, by decide +kernel, by decide +kernel⟩
section
variable {P : Program} {w : World} {K : PySem.W.Frag} {mg : Str → Option Value} {base : Heap}
/-- a stock of one to M drawers of one to N kinds, of numbers from 0 to hi -/
def spStock : Sp := fun vs H Q _ => ∃ (dk c : Addr) (B M N : Nat) (hi : Int), vs = [.ref dk, .int M, .int N, .int hi] ∧ Deck H dk c B ∧ 1 ≤ M ∧ M ≤ 4 ∧ 1 ≤ N ∧ N ≤ 4 ∧ B + 40 ≤ 1000000 ∧ 1 ≤ hi ∧ hi ≤ 900 ∧
  ∀ t (ls : List Addr) (rows : List (List Int)) (n : Nat) H', 1 ≤ rows.length → rows.length ≤ M → 1 ≤ n → n ≤ N → (∀ row ∈ rows, row.length = n ∧ ∀ x ∈ row, 0 ≤ x ∧ x ≤ hi) → StockAt H' t ls rows → Kp2 dk c H H' → Deck H' dk c (B + 40) → Q (.ref t) H'
set_option maxHeartbeats 800000 in
theorem ok_stock {f fN fU fTu fA fAu fO fFu fCo fSp fCa fIr fTk fI fR fFc fLo fSo fOv fDw fSv fCh fUd fEt fAo fAd fDk fD fS fTt fW fPl fLu fLs fLc fM fE fX fNu fId fKn fHo fAy fOo fRp fAt fVa : Addr} {fd dN dU dTu dA dAu dO dFu dCo dSp dCa dIr dTk dI dR dFc dLo dSo dOv dDw dSv dCh dUd dEt dAo dAd dDk dD dS dTt dW dPl dLu dLs dLc dM dE dX dNu dId dKn dHo dAy dOo dRp dAt dVa : FuncData} {k : Nat} (F : Fun K "_law_stock" "_law_stock" sStock f fd) (T : Tx K mg fN fU fTu fA fAu fO fFu fCo fSp fCa fIr fTk fI fR fFc fLo fSo fOv fDw fSv fCh fUd fEt fAo fAd fDk fD fS fTt fW fPl fLu fLs fLc fM fE fX fNu fId fKn fHo fAy fOo fRp fAt fVa dN dU dTu dA dAu dO dFu dCo dSp dCa dIr dTk dI dR dFc dLo dSo dOv dDw dSv dCh dUd dEt dAo dAd dDk dD dS dTt dW dPl dLu dLs dLc dM dE dX dNu dId dKn dHo dAy dOo dRp dAt dVa) :
    FnOk P w K mg base CX0 (k + 2) f fd ["_law_deck_here", "_law_drawers", "_law_kinds", "_law_most"] spStock := by
  have GD : FnOk P w K mg base CX0 (k + 1) fD dD ["_law_deck_here", "_law_bound"] spDraw := ok_draw T.D T.m_len T.m_max
  refine F.ok scStock (fun vs H Q E h => ?_) (fun cdv A outer s H vs Q E hr h => ?_)
  · obtain ⟨dk, c, B, M, N, hi, rfl, _⟩ := h
    rfl
  · obtain ⟨dk, c, B, M, N, hi, rfl, dek, hM1, hM4, hN1, hN4, hB, h0, h9, q⟩ := h
    refine ⟨_, (pss_cons (ps_par (i := 4) (j := 5) (by rfl) scStock.nd rfl rfl (by decide) rfl rfl (pa_cons (pe_op op_add pe_int (pe_call GD (hr.mono (by omega)) (by rfl) T.gD T.D.kp T.bD .nil pass0 (pa_cons (pv 0) (pa_cons (pv 1) pa_nil)))) (pa_cons (pe_op op_add pe_int (pe_call GD (hr.mono (by omega)) (by rfl) T.gD T.D.kp T.bD .nil pass0 (pa_cons (pv 0) (pa_cons (pv 2) pa_nil)))) pa_nil)) (by rfl))
      (pss_cons (ps_set (i := 6) scStock.nd rfl (.inr rfl) (pe_ix (show IxR _ (rIxL K) from ix_list) (pe_lst (pa_cons pe_int (pa_cons (pe_op op_add pe_int (pe_op op_fdivN (pv 3) pe_int)) (pa_cons (pe_op op_add pe_int (pv 3)) pa_nil)))) (pe_call GD (hr.mono (by omega)) (by rfl) T.gD T.D.kp T.bD .nil pass0 (pa_cons (pv 0) (pa_cons pe_int pa_nil))) (fun _ _ => rfl)))
      (pss_cons (ps_set (i := 7) scStock.nd rfl (.inl rfl) (pe_lst pa_nil))
      (pss_cons (ps_for PassesOwn.never rfl (pi_range1 (by rfl) T.m_range (pa_cons (pv 4) pa_nil)) (pg_name (i := 8) scStock.nd rfl (Or.inl rfl)) (pss_one (ps_expr (pe_bm PySem.F.plainAttrs_list PySem.F.slot_list_append PySem.F.type_list_append mt_append (pv 7) (pa_cons (pe_callTy call_tuple_of (by rfl) T.m_tuple (by decide +kernel) (pa_cons (pe_lc (own := [("_law_kind", 9)]) (g := gName 9) rfl scStock.nd (pi_range1 (by rfl) T.m_range (pa_cons (pv 5) pa_nil)) (blkOk_by (own := [("_law_kind", 9)]) (N := NS) (sc := defScope sStock) (by decide +kernel)) (fun _ _ _ _ _ => (pg_name (i := 9) scStock.nd rfl (Or.inl rfl))) (fun _ _ _ _ _ => pts_nil) (fun _ _ _ _ _ => (pe_op op_mul (pe_call GD (hr.mono (by omega)) (by rfl) T.gD T.D.kp T.bD .nil pass0 (pa_cons (pv 0) (pa_cons (pv 6) pa_nil))) (pe_callTy call_int1 (by rfl) T.m_int (by decide +kernel) (pa_cons (pe_cmpR op_gt (pe_call GD (hr.mono (by omega)) (by rfl) T.gD T.D.kp T.bD .nil pass0 (pa_cons (pv 0) (pa_cons pe_int pa_nil))) pe_int (nomark _)) pa_nil))))) pa_nil)) pa_nil)))))
      (pss_one (ps_ret (pe_callTy call_tuple_of (by rfl) T.m_tuple (by decide +kernel) (pa_cons (pv 7) pa_nil)))))))), ?_⟩
    -- many, long
    refine ⟨_, rfl, _, rfl, dk, c, B, M, rfl, dek, by omega, by omega, by omega, fun r1 H1 a0 a1 k1 d1 => ?_⟩
    refine ⟨1, r1, rfl, rfl, _, rfl, _, rfl, dk, c, B + 1, N, rfl, d1, by omega, by omega, by omega, fun r2 H2 b0 b1 k2 d2 => ?_⟩
    refine ⟨1, r2, rfl, rfl, _, _, rfl, ?_⟩
    -- bound
    refine ⟨_, rfl, hi, 2, rfl, rfl, ⟨by decide, by decide⟩, 1, _, rfl, rfl, _, rfl, 1, hi, rfl, rfl, by show 3 ≤ sizeLine; decide, fun l nl => ?_⟩
    refine ⟨_, rfl, dk, c, B + 2, 3, rfl, d2.kp nl, by omega, by decide, by decide, fun r3 H3 c0 c1 k3 d3 => ?_⟩
    have lne := d2.nedk nl
    have hl3 : H3 l = some (.lst [V.int 2, V.int (1 + hi.fdiv 2), V.int (1 + hi)]) := k3 _ _ lne.1 lne.2 upd_same
    obtain ⟨z, hz, ez⟩ := three_at (a := 2) (b := 1 + hi.fdiv 2) (c := 1 + hi) c0 c1
    have k03 : Kp2 dk c H H3 := k1.trans (k2.trans ((kps (same_new nl)).trans k3))
    have hz1 : 1 ≤ z ∧ z ≤ hi + 1 := by
      have := fdiv2 hi (by omega)
      rcases hz with rfl | rfl | rfl <;> omega
    refine ⟨l, _, r3, .int z, rfl, rfl, SqL.of hl3, ez, ?_⟩
    obtain ⟨cnt, hcnt, hc1, hc4⟩ : ∃ cnt : Nat, 1 + r1 = (cnt : Int) ∧ 1 ≤ cnt ∧ cnt ≤ M := ⟨(1 + r1).toNat, by omega, by omega, by omega⟩
    obtain ⟨n, hn, hn1, hn4⟩ : ∃ n : Nat, 1 + r2 = (n : Int) ∧ 1 ≤ n ∧ n ≤ N := ⟨(1 + r2).toNat, by omega, by omega, by omega⟩
    -- found = []
    refine ⟨Nat.zero_le _, fun D nD => ?_⟩
    have dne := d3.nedk nD
    refine ⟨_, rfl, (cnt : Int), congrArg (fun x => [V.int x]) hcnt, by omega, by omega, ?_⟩
    refine for_range (lo := 0) (n := cnt) (fun i σ H' => ∃ (ls : List Addr) (rows : List (List Int)) (y8 y9 : Option V), σ = [some (.ref dk), some (.int M), some (.int N), some (.int hi), some (.int (1 + r1)), some (.int (1 + r2)), some (.int z), some (.ref D), y8, y9] ∧ rows.length = i ∧ (∀ row ∈ rows, row.length = n ∧ ∀ x ∈ row, 0 ≤ x ∧ x ≤ hi) ∧ ls.length = rows.length ∧
        (∀ (j : Nat) (l : Addr) (r : List Int), ls[j]? = some l → rows[j]? = some r → H' l = some (.tup (r.map V.int))) ∧ H' D = some (.lst (ls.map V.ref)) ∧ Kp2 dk c H3 H' ∧ Deck H' dk c (B + 3 + 8 * i))
      ⟨[], [], none, none, rfl, rfl, (fun x h => by cases h), rfl, (fun j l r e => by simp at e), upd_same, kps (same_new nD), (d3.kp nD).up (by omega)⟩ (fun i σ H' hi' h => ?_) (fun σ H' h => ?_)
    · obtain ⟨ls, rows, y8, y9, rfl, hl, hrow, hll, hat, hD, kp, dk1⟩ := h
      refine ⟨.ref D, rfl, .inl ⟨rfl, _, SqL.of hD⟩, _, rfl, (n : Int), congrArg (fun x => [V.int x]) hn, by omega, by omega, fun D2 nD2 => ?_⟩
      have dne2 := dk1.nedk nD2
      have hDD2 : D ≠ D2 := ne_of_none hD nD2
      refine lc_range (lo := 0) (n := n) (fun j H4 => ∃ row : List Int, row.length = j ∧ (∀ x ∈ row, 0 ≤ x ∧ x ≤ hi) ∧ H4 D2 = some (.lst (row.map V.int)) ∧ Kp2 dk c H' H4 ∧ Deck H4 dk c (B + 3 + 8 * i + 2 * j))
        ⟨[], rfl, (fun x h => by cases h), upd_same, kps (same_new nD2), dk1.kp nD2⟩ (fun j H4 hj h => ?_) (fun H4 h => ?_)
      · obtain ⟨row, hrl, hrb, hD4, kp4, dk4⟩ := h
        have hj4 : j < 4 := by omega
        refine ⟨rfl, _, rfl, _, rfl, dk, c, _, z, rfl, dk4, by omega, by omega, by omega, fun q1 H5 e0 e1 k5 d5 => ?_⟩
        refine ⟨_, rfl, dk, c, _, 5, rfl, d5, by omega, by decide, by decide, fun q2 H6 f0 f1 k6 d6 => ?_⟩
        refine ⟨q2, 0, rfl, rfl, .inr ⟨_, rfl, q1, _, rfl, rfl, .inr ?_, ?_⟩⟩
        · split <;> decide
        have hD6 : H6 D2 = some (.lst (row.map V.int)) := k6 _ _ dne2.1 dne2.2 (k5 _ _ dne2.1 dne2.2 hD4)
        refine ⟨_, hD6, ?_, row ++ [q1 * (if decide (q2 > 0) = true then 1 else 0)], ?_, ?_, ?_, ?_, ?_⟩
        · rw [List.length_map]
          exact len_lt (by omega)
        · rw [List.length_append, hrl]
          rfl
        · intro x hx
          rcases List.mem_append.mp hx with h | h
          · exact hrb x h
          · rw [List.mem_singleton.mp h]
            split
            · rw [Int.mul_one]
              omega
            · rw [Int.mul_zero]
              omega
        · rw [upd_same, List.map_append]
          rfl
        · intro b' o h1 h2 e
          have e3 := k6 b' o h1 h2 (k5 b' o h1 h2 (kp4 b' o h1 h2 e))
          rw [upd_ne (ne_of_none e nD2)]
          exact e3
        · exact (d6.updD dne2.1 dne2.2).up (by omega)
      · obtain ⟨row, hrl, hrb, hD4, kp4, dk4⟩ := h
        refine ⟨D2, _, rfl, .inl ⟨SqL.of hD4, fun t nt => ?_⟩⟩
        have st : Same H4 (upd H4 t (.tup (row.map V.int))) := same_new nt
        have hD5 := st _ _ (kp4 _ _ dne.1 dne.2 hD)
        have tD : t ≠ D := fun z => by
          have := kp4 _ _ dne.1 dne.2 hD
          rw [z] at nt
          rw [nt] at this
          cases this
        refine ⟨D, _, .ref t, rfl, rfl, hD5, ?_, ls ++ [t], rows ++ [row], _, _, rfl, ?_, ?_, ?_, ?_, ?_, ?_, ?_⟩
        · rw [List.length_map]
          exact len_lt (by omega)
        · rw [List.length_append, hl]
          rfl
        · intro x hx
          rcases List.mem_append.mp hx with h | h
          · exact hrow x h
          · rw [List.mem_singleton.mp h]
            exact ⟨hrl, hrb⟩
        · rw [List.length_append, List.length_append, hll]
          rfl
        · intro j l' r' x1 x2
          by_cases hj : j < ls.length
          · rw [List.getElem?_append_left hj] at x1
            rw [List.getElem?_append_left (by omega)] at x2
            have h := hat j l' r' x1 x2
            have hne : l' ≠ D := fun z => by rw [z, hD] at h; cases h
            obtain ⟨ns, t', h1, h2, _⟩ := dk1.ex
            rw [upd_ne hne]
            exact st _ _ (kp4 _ _ (fun z => by rw [z, h1] at h; cases h) (fun z => by rw [z, h2] at h; cases h) h)
          · have hj2 : j = ls.length := by
              have := (List.getElem?_eq_some_iff.mp x1).1
              rw [List.length_append] at this
              simp at this
              omega
            subst hj2
            rw [List.getElem?_append_right (Nat.le_refl _), Nat.sub_self] at x1
            rw [hll, List.getElem?_append_right (Nat.le_refl _), Nat.sub_self] at x2
            obtain rfl : t = l' := Option.some.inj x1
            obtain rfl : row = r' := Option.some.inj x2
            rw [upd_ne tD]
            exact upd_same
        · rw [upd_same, List.map_append]
          rfl
        · intro b o h1 h2 e
          have hne : b ≠ D := ne_of_none e nD
          rw [upd_ne hne]
          exact st _ _ (kp4 b o h1 h2 (kp b o h1 h2 e))
        · exact (((dk4.kp nt).updD dne.1 dne.2)).up (by omega)
    · obtain ⟨ls, rows, y8, y9, rfl, hl, hrow, hll, hat, hD, kp, dk1⟩ := h
      refine ⟨_, rfl, D, _, rfl, .inl ⟨SqL.of hD, fun t nt => ?_⟩⟩
      refine q t ls rows n _ (by omega) (by omega) hn1 hn4 hrow ⟨upd_same, hll, fun j l' r' x1 x2 => ?_⟩ (k03.trans (kp.trans (kps (same_new nt)))) ((dk1.kp nt).up (by omega))
      exact same_new nt _ _ (hat j l' r' x1 x2)
end
end DD
namespace DD
open PySem PySem.Spec PyProof.Rows L2
theorem ints_of_vals : ∀ {ns : List Int} {us : List Value}, Vals (ns.map V.int) us → PyProof.Rows.IntsAre us ns
  | [], _, h => by
    cases h
    exact .nil
  | n :: ns, _, h => by
    cases h with
    | cons r t =>
      obtain ⟨k, rfl⟩ := r
      exact .cons n k (ints_of_vals t)
/-- sum of a tuple of ints -/
theorem cr_sumT {X : Cx} (hc : X.calm = true) : CallR X (.builtin "sum") (fun vs H Q => ∃ (a : Addr) (ns : List Int), vs = [V.ref a] ∧ SqT X.K H a (ns.map V.int) ∧ Q (.int ns.sum) H) := by
  intro pins s σ H xs us Q I r h
  obtain ⟨a, ns, rfl, hq, q⟩ := h
  obtain ⟨u, rfl, ru⟩ := vals1 r
  cases ru
  obtain ⟨its, rv, ⟨o, ho, hcl, n, hd⟩, _⟩ := I.tuple hq
  have ia := ints_of_vals rv
  obtain ⟨xs, e⟩ := ia.allInts.items
  have hn : numsOf (intItems xs).toList = ns := by rw [← e]; exact ia.numsOf
  rw [nums_intItems] at hn
  have ht : s.heap.IsTuple a (intItems xs) := by rw [← e]; exact ⟨o, ho, hcl, n, hd⟩
  refine PySem.W.ktm_sumG (I.ok.hd hc) ht fun h' tk t' hk => ?_
  rw [preSum_eq, List.take_of_length_le (by simp), hn]
  exact ⟨.int ns.sum, H, I.kept hk, ⟨t', rfl⟩, q⟩

def sizesOf (rows : List (List Int)) : List Int := rows.map List.sum
/-- the sums of the columns 0 .. m - 1 -/
def totalsOf (rows : List (List Int)) (m : Nat) : List Int := (List.range m).map fun i => (rows.map fun r => r.getD i 0).sum

theorem scTotals : FnScope ["stock", "counts"] ["stock"] (defScope sTotals) := ⟨rfl, rfl, rfl, by decide +kernel, rfl, by decide +kernel, by decide +kernel⟩
section
variable {P : Program} {w : World} {K : PySem.W.Frag} {mg : Str → Option Value} {base : Heap}
/-- the rows, in a tuple or a list -/
def spTotals (K : PySem.W.Frag) : Sp := fun vs H Q _ => ∃ (t : Addr) (ls : List Addr) (rows : List (List Int)) (m : Nat), vs = [.ref t] ∧ (SqT K H t (ls.map V.ref) ∨ SqL K H t (ls.map V.ref)) ∧
  ls.length = rows.length ∧ (∀ (j : Nat) (l : Addr) (r : List Int), ls[j]? = some l → rows[j]? = some r → H l = some (.tup (r.map V.int)) ∧ r.length = m) ∧ (rows = [] → m = 0) ∧ rows.length ≤ 4 ∧ m ≤ 100 ∧
  ∀ p H', Same H H' → H p = none → H' p = some (.tup ((totalsOf rows m).map V.int)) → Q (.ref p) H'
theorem ok_totals {f : Addr} {fd : FuncData} {k : Nat} (F : Fun K "totals_of" "totals_of" sTotals f fd) (mt : mg "tuple" = none) (ms : mg "sum" = none) (mz : mg "zip" = none) :
    FnOk P w K mg base CX0 (k + 1) f fd ["stock"] (spTotals K) := by
  refine F.ok scTotals (fun vs H Q E h => ?_) (fun cdv A outer s H vs Q E hr h => ?_)
  · obtain ⟨t, ls, rows, m, rfl, _⟩ := h
    rfl
  · obtain ⟨t, ls, rows, m, rfl, top, hll, hat, h1, h4, hm, q⟩ := h
    refine ⟨_, pss_one (ps_ret (pe_callTy call_tuple_of (by rfl) mt (by decide +kernel) (pa_cons (pe_lc (own := [("counts", 1)]) (g := gName 1) rfl scTotals.nd (pi_zipO (by rfl) mz (pv 0))
      (blkOk_by (own := [("counts", 1)]) (N := ["stock", "counts"]) (sc := defScope sTotals) (by decide +kernel)) (fun _ _ _ _ _ => pg_name (i := 1) scTotals.nd rfl (Or.inl rfl)) (fun _ _ _ _ _ => pts_nil)
      (fun _ _ _ _ _ => pe_callB (show CallR _ _ (fun vs H Q => ∃ (a : Addr) (ns : List Int), vs = [V.ref a] ∧ SqT K H a (ns.map V.int) ∧ Q (.int ns.sum) H) from cr_sumT rfl) (by rfl) ms (by decide +kernel) (pa_cons (pv 1) pa_nil))) pa_nil))), ?_⟩
    have rws : ∀ H', Same H H' → Rws K H' ls (rows.map (List.map V.int)) m := fun H' sm => by
      refine ⟨by rw [List.length_map]; exact hll, fun j a r e1 e2 => ?_⟩
      obtain ⟨r0, hr0, rfl⟩ := get_map e2
      obtain ⟨x1, x2⟩ := hat j a r0 e1 hr0
      exact ⟨SqT.of (sm _ _ x1), by rw [List.length_map]; exact x2⟩
    refine ⟨.ref t, rfl, t, ls, rows.map (List.map V.int), m, rfl, top, by omega, (fun e => h1 (List.eq_nil_of_length_eq_zero (by rw [← hll, e]; rfl))), rws H (Same.refl H), fun D nD => ?_⟩
    refine lc_zipN (fun i H' => H' D = some (.lst (((totalsOf rows m).take i).map V.int)) ∧ Same H H') ⟨upd_same, same_new nD⟩ (fun i H' _ h => rws H' h.2) (fun i T H' hi h nT => ?_) (fun H' h => ?_)
    · obtain ⟨hD, sm⟩ := h
      have ec : colV (rows.map (List.map V.int)) i = (rows.map fun r => r.getD i 0).map V.int := by
        unfold colV
        rw [List.map_map, List.map_map]
        refine List.map_congr_left fun r hr => ?_
        obtain ⟨j, hj⟩ := List.mem_iff_getElem?.mp hr
        have hjl := (List.getElem?_eq_some_iff.mp hj).1
        have hlj : ls[j]? = some (ls[j]'(by omega)) := List.getElem?_eq_getElem (by omega)
        have hlen := (hat j _ r hlj hj).2
        show (r.map V.int).getD i .non = V.int (r.getD i 0)
        rw [List.getD_eq_getElem?_getD, List.getD_eq_getElem?_getD, List.getElem?_map, List.getElem?_eq_getElem (by omega)]
        rfl
      rw [ec]
      have hs : (totalsOf rows m)[i]? = some (rows.map fun r => r.getD i 0).sum := by
        unfold totalsOf
        rw [List.getElem?_map, List.getElem?_range hi]
        rfl
      have hDT : D ≠ T := ne_of_none hD nT
      have hD2 := hD
      rw [← upd_ne (H := H') (o := .tup ((rows.map fun r => r.getD i 0).map V.int)) hDT] at hD2
      refine ⟨rfl, .ref T, rfl, T, _, rfl, SqT.of upd_same, _, hD2, ?_, ?_, fun b o e => ?_⟩
      · rw [List.length_map, List.length_take]
        refine len_lt ?_
        have : (totalsOf rows m).length = m := by simp [totalsOf]
        omega
      · rw [upd_same, take_succ_map hs]
      · rw [upd_ne (ne_of_none e nD)]
        exact same_new nT _ _ (sm b o e)
    · obtain ⟨hD, sm⟩ := h
      rw [List.take_of_length_le (by simp [totalsOf])] at hD
      exact ⟨D, _, rfl, .inl ⟨SqL.of hD, fun p np => q p _ (sm.trans (same_new np)) (sm.free np) upd_same⟩⟩
end
end DD
namespace DD
open PySem PySem.Spec PyProof.Rows L2 RZ
theorem iteNx {b : Bool} {A B : Prop} (h : b = false) (hB : B) : if b = true then A else B := by
  rw [h]
  exact hB
/-- so many of them, or the cap -/
def capv (m : Int) : Option Int → Int
  | none => m
  | some c => if c < m then c else m
def pickR (rows : List (List Int)) (ds : List Nat) : List (List Int) := ds.map fun j => rows.getD j []
def roomL (rows : List (List Int)) (cs : List (Option Int)) (ds : List Nat) : Int := (List.zipWith capv (totalsOf (pickR rows ds) cs.length) cs).sum
theorem tot_len (rows : List (List Int)) (m : Nat) : (totalsOf rows m).length = m := by simp [totalsOf]
theorem zw_get {ts : List Int} {cs : List (Option Int)} {i : Nat} {t : Int} {c : Option Int} (h1 : ts[i]? = some t) (h2 : cs[i]? = some c) : (List.zipWith capv ts cs)[i]? = some (capv t c) := by
  rw [List.getElem?_zipWith, h1, h2]
theorem zero_sum : ∀ {cs : List (Option Int)} {ts : List Int}, (∀ c, some c ∈ cs → 0 ≤ c) → (∀ t ∈ ts, t = 0) → (List.zipWith capv ts cs).sum = 0
  | [], ts, _, _ => by cases ts <;> rfl
  | c :: cs, [], _, _ => rfl
  | c :: cs, t :: ts, h1, h2 => by
    have h := zero_sum (cs := cs) (ts := ts) (fun c' hc => h1 c' (List.mem_cons_of_mem _ hc)) fun t' ht => h2 t' (List.mem_cons_of_mem _ ht)
    rw [List.zipWith_cons_cons, List.sum_cons, h]
    obtain rfl := h2 t List.mem_cons_self
    cases c with
    | none => rfl
    | some c =>
      have := h1 c List.mem_cons_self
      show (if c < 0 then c else 0) + 0 = 0
      rw [if_neg (by omega)]
      rfl
theorem room_nil {rows : List (List Int)} {cs : List (Option Int)} (h : ∀ c, some c ∈ cs → 0 ≤ c) : roomL rows cs [] = 0 := by
  refine zero_sum h fun t ht => ?_
  obtain ⟨i, _, rfl⟩ := List.mem_map.mp ht
  rfl
theorem scRoomOf : FnScope ["totals", "caps", "total", "cap"] ["totals", "caps"] (defScope sRoomOf) := ⟨rfl, rfl, rfl, by decide +kernel, rfl, by decide +kernel, by decide +kernel⟩
-- : FnScope ["stock", "caps", "drawers", "drawer"] ["stock", "caps", "drawers"] (defScope sRoomIn) := ⟨rfl, rfl, rfl, by decide +kernel, rfl, by decide +kernel, by decide +kernel⟩
section
variable {P : Program} {w : World} {K : PySem.W.Frag} {mg : Str → Option Value} {base : Heap}
def spRoomOf : Sp := fun vs H Q _ => ∃ (a b : Addr) (ts : List Int) (cs : List (Option Int)), vs = [.ref a, .ref b] ∧ H a = some (.tup (ts.map V.int)) ∧ H b = some (.tup (cs.map optI)) ∧ ts.length ≤ cs.length ∧ ts.length ≤ 100 ∧
  ∀ H', Same H H' → Q (.int (List.zipWith capv ts cs).sum) H'
theorem ok_roomof {f fN fU fTu fA fAu fO fFu fCo fSp fCa fIr fTk fI fR fFc fLo fSo fOv fDw fSv fCh fUd fEt fAo fAd fDk fD fS fTt fW fPl fLu fLs fLc fM fE fX fNu fId fKn fHo fAy fOo fRp fAt fVa : Addr} {fd dN dU dTu dA dAu dO dFu dCo dSp dCa dIr dTk dI dR dFc dLo dSo dOv dDw dSv dCh dUd dEt dAo dAd dDk dD dS dTt dW dPl dLu dLs dLc dM dE dX dNu dId dKn dHo dAy dOo dRp dAt dVa : FuncData} {k : Nat} (F : Fun K "room_of" "room_of" sRoomOf f fd) (T : Tx K mg fN fU fTu fA fAu fO fFu fCo fSp fCa fIr fTk fI fR fFc fLo fSo fOv fDw fSv fCh fUd fEt fAo fAd fDk fD fS fTt fW fPl fLu fLs fLc fM fE fX fNu fId fKn fHo fAy fOo fRp fAt fVa dN dU dTu dA dAu dO dFu dCo dSp dCa dIr dTk dI dR dFc dLo dSo dOv dDw dSv dCh dUd dEt dAo dAd dDk dD dS dTt dW dPl dLu dLs dLc dM dE dX dNu dId dKn dHo dAy dOo dRp dAt dVa) :
    FnOk P w K mg base CX0 (k + 1) f fd ["totals", "caps"] spRoomOf := by
  refine F.ok scRoomOf (fun vs H Q E h => ?_) (fun cdv A outer s H vs Q E hr h => ?_)
  · obtain ⟨a, b, ts, cs, rfl, _⟩ := h
    rfl
  · obtain ⟨a, b, ts, cs, rfl, ha, hb, hl, h100, q⟩ := h
    refine ⟨_, (pss_one (ps_ret (pe_callB (show CallR _ _ (rSum K) from cr_sum rfl) (by rfl) T.m_sum (by decide +kernel) (pa_cons (pe_lc (own := [("total", 2), ("cap", 3)]) (g := gTup K 2 (gCons (gName 2) (gCons (gName 3) gNil))) rfl scRoomOf.nd (pi_zipA (by rfl) T.m_zip (pa_cons (pv 0) (pa_cons (pv 1) pa_nil))) (blkOk_by (own := [("total", 2), ("cap", 3)]) (N := ["totals", "caps", "total", "cap"]) (sc := defScope sRoomOf) (by decide +kernel)) (fun _ _ _ _ _ => (pg_tup rfl (pgs_cons (pg_name (i := 2) scRoomOf.nd rfl (Or.inl rfl)) (pgs_cons (pg_name (i := 3) scRoomOf.nd rfl (Or.inl rfl)) pgs_nil)))) (fun _ _ _ _ _ => pts_nil) (fun _ _ _ _ _ => (pe_ifExp (pt_cmpR op_isN (pv 3) pe_non (nomark _)) (pv 2) (pe_callB (call_min2 rfl) (by rfl) T.m_min (by decide +kernel) (pa_cons (pv 2) (pa_cons (pv 3) pa_nil)))))) pa_nil)))), ?_⟩
    refine ⟨.ref a, rfl, .ref b, rfl, a, b, _, _, rfl, .inr ⟨SqT.of ha, SqT.of hb, fun D nD => ?_⟩⟩
    refine lc_it (walk_zipT (xs := ts.map V.int) (ys := cs.map optI) (by rw [List.length_map, List.length_map]; exact hl)) (fun i H' => H' D = some (.lst (((List.zipWith capv ts cs).take i).map V.int)) ∧ Same H H') ⟨upd_same, same_new nD⟩
      (fun i H' _ h => ⟨SqT.of (h.2 _ _ ha), SqT.of (h.2 _ _ hb)⟩) (fun i x H' H1 hi h y => ?_) (fun H' h => ?_)
    · obtain ⟨hD, sm⟩ := h
      obtain ⟨T1, x1, x2, rfl, nT, rfl, e1, e2⟩ := y
      obtain ⟨t, ht, rfl⟩ := get_map e1
      obtain ⟨o, ho, rfl⟩ := get_map e2
      have sT : Same H' (upd H' T1 (.tup [.int t, optI o])) := same_new nT
      have hz := zw_get ht ho
      have fin : ∃ acc, (upd H' T1 (.tup [.int t, optI o])) D = some (.lst acc) ∧ acc.length < sizeLine ∧
          ((upd (upd H' T1 (.tup [.int t, optI o])) D (.lst (acc ++ [V.int (capv t o)]))) D = some (.lst (((List.zipWith capv ts cs).take (i + 1)).map V.int)) ∧ Same H (upd (upd H' T1 (.tup [.int t, optI o])) D (.lst (acc ++ [V.int (capv t o)])))) := by
        refine ⟨_, sT _ _ hD, ?_, ?_, fun b' o' e => ?_⟩
        · rw [List.length_map, List.length_take, List.length_zipWith]
          exact len_lt (by omega)
        · rw [upd_same, take_succ_map hz]
        · rw [upd_ne (ne_of_none e nD)]
          exact sT _ _ (sm b' o' e)
      refine ⟨T1, [.int t, optI o], rfl, .inl (.inl upd_same), rfl, .int t, [optI o], rfl, optI o, [], rfl, rfl, rfl, ?_⟩
      cases o with
      | none => exact ⟨_, rfl, rfl, _, rfl, iteT ⟨_, rfl, fin⟩⟩
      | some c => exact ⟨_, rfl, rfl, _, rfl, iteNx rfl ⟨_, rfl, _, rfl, t, c, rfl, fin⟩⟩
    · obtain ⟨hD, sm⟩ := h
      rw [List.length_map, List.take_of_length_le (by rw [List.length_zipWith]; omega)] at hD
      exact ⟨D, _, rfl, SqL.of hD, q _ sm⟩
end
end DD
namespace DD
open PySem PySem.Spec PyProof.Rows L2 RZ
/-- a stock, caps and drawers of it -/
structure RA (H : Hp) (t b d : Addr) (ls : List Addr) (rows : List (List Int)) (cs : List (Option Int)) (ds : List Nat) : Prop where
  st : StockAt H t ls rows
  rl : ∀ r ∈ rows, r.length = cs.length
  hb : H b = some (.tup (cs.map optI))
  hd : H d = some (.tup (ds.map fun j : Nat => V.int (j : Int)))
  dl : ds.length ≤ 4
  db : ∀ j ∈ ds, j < rows.length
  cl : cs.length ≤ 4
  cp : ∀ c, some c ∈ cs → 0 ≤ c
theorem RA.same {H H' : Hp} {t b d : Addr} {ls : List Addr} {rows : List (List Int)} {cs : List (Option Int)} {ds : List Nat} (r : RA H t b d ls rows cs ds) (s : Same H H') : RA H' t b d ls rows cs ds :=
  ⟨r.st.same s, r.rl, s _ _ r.hb, s _ _ r.hd, r.dl, r.db, r.cl, r.cp⟩
def pickL (ls : List Addr) (ds : List Nat) : List Addr := ds.map fun j => ls.getD j 0
theorem getD_of {α : Type} {xs : List α} {i : Nat} {d : α} (h : i < xs.length) : xs[i]? = some (xs.getD i d) := by
  rw [List.getD_eq_getElem?_getD, List.getElem?_eq_getElem h]
  rfl
theorem sum_take_succ {xs : List Int} {i : Nat} {x : Int} (h : xs[i]? = some x) : (xs.take (i + 1)).sum = (xs.take i).sum + x := by
  rw [List.take_add_one, h, List.sum_append]
  simp
section
variable {P : Program} {w : World} {K : PySem.W.Frag} {mg : Str → Option Value} {base : Heap}
def spRoom : Sp := fun vs H Q _ => ∃ (t b d : Addr) (ls : List Addr) (rows : List (List Int)) (cs : List (Option Int)) (ds : List Nat), vs = [.ref t, .ref b, .ref d] ∧ RA H t b d ls rows cs ds ∧
  ∀ H', Same H H' → Q (.int (roomL rows cs ds)) H'
end
abbrev NM : List Str := ["_law_stock_here", "_law_caps_here", "_law_drawers", "_law_found", "_law_kind", "_law_cap", "_law_many", "_law_drawer"]
theorem scRoom : FnScope NM ["_law_stock_here", "_law_caps_here", "_law_drawers"] (defScope sRoom) := ⟨rfl, rfl, rfl, by decide +kernel, rfl, by decide +kernel, by decide +kernel⟩
section
variable {P : Program} {w : World} {K : PySem.W.Frag} {mg : Str → Option Value} {base : Heap}
theorem ok_room {f fN fU fTu fA fAu fO fFu fCo fSp fCa fIr fTk fI fR fFc fLo fSo fOv fDw fSv fCh fUd fEt fAo fAd fDk fD fS fTt fW fPl fLu fLs fLc fM fE fX fNu fId fKn fHo fAy fOo fRp fAt fVa : Addr} {fd dN dU dTu dA dAu dO dFu dCo dSp dCa dIr dTk dI dR dFc dLo dSo dOv dDw dSv dCh dUd dEt dAo dAd dDk dD dS dTt dW dPl dLu dLs dLc dM dE dX dNu dId dKn dHo dAy dOo dRp dAt dVa : FuncData} {k : Nat} (F : Fun K "_law_room" "_law_room" sRoom f fd) (T : Tx K mg fN fU fTu fA fAu fO fFu fCo fSp fCa fIr fTk fI fR fFc fLo fSo fOv fDw fSv fCh fUd fEt fAo fAd fDk fD fS fTt fW fPl fLu fLs fLc fM fE fX fNu fId fKn fHo fAy fOo fRp fAt fVa dN dU dTu dA dAu dO dFu dCo dSp dCa dIr dTk dI dR dFc dLo dSo dOv dDw dSv dCh dUd dEt dAo dAd dDk dD dS dTt dW dPl dLu dLs dLc dM dE dX dNu dId dKn dHo dAy dOo dRp dAt dVa) :
    FnOk P w K mg base CX0 (k + 1) f fd ["_law_stock_here", "_law_caps_here", "_law_drawers"] spRoom := by
  refine F.ok scRoom (fun vs H Q E h => ?_) (fun cdv A outer s H vs Q E hr h => ?_)
  · obtain ⟨t, b, d, ls, rows, cs, ds, rfl, _⟩ := h
    rfl
  · obtain ⟨t, b, d, ls, rows, cs, ds, rfl, ra, q⟩ := h
    refine ⟨_, (pss_cons (ps_set (i := 3) scRoom.nd rfl (.inl rfl) pe_int)
      (pss_cons (ps_for PassesOwn.never rfl (pi_enumT (by rfl) T.m_enumerate (pa_cons (pv 1) pa_nil)) (pg_tup rfl (pgs_cons (pg_name (i := 4) scRoom.nd rfl (Or.inr rfl)) (pgs_cons (pg_name (i := 5) scRoom.nd rfl (Or.inl rfl)) pgs_nil))) (pss_cons (ps_set (i := 6) scRoom.nd rfl (.inl rfl) (pe_callB (show CallR _ _ (rSum K) from cr_sum rfl) (by rfl) T.m_sum (by decide +kernel) (pa_cons (pe_lc (own := [("_law_drawer", 7)]) (g := gName 7) rfl scRoom.nd (pi_tup (pv 2)) (blkOk_by (own := [("_law_drawer", 7)]) (N := NM) (sc := defScope sRoom) (by decide +kernel)) (fun _ _ _ _ _ => (pg_name (i := 7) scRoom.nd rfl (Or.inl rfl))) (fun _ _ _ _ _ => pts_nil) (fun _ _ _ _ _ => (pe_ix (show IxR _ (rIxT K) from ix_tup) (pe_ix (show IxR _ (rIxT K) from ix_tup) (pv 0) (pv 7) (fun _ _ => rfl)) (pv 4) (fun _ _ => rfl)))) pa_nil)))
      (pss_one (ps_set (i := 3) scRoom.nd rfl (.inl rfl) (pe_op op_add (pv 3) (pe_ifExp (pt_cmpR op_isN (pv 5) pe_non (nomark _)) (pv 6) (pe_callB (call_min2 rfl) (by rfl) T.m_min (by decide +kernel) (pa_cons (pv 5) (pa_cons (pv 6) pa_nil)))))))))
      (pss_one (ps_ret (pv 3))))), ?_⟩
    refine ⟨.ref b, rfl, b, _, rfl, SqT.of ra.hb, ?_⟩
    refine for_it (walk_enT (xs := cs.map optI)) (fun i σ H' => ∃ y4 y5 y6 y7 : Option V, σ = [some (.ref t), some (.ref b), some (.ref d), some (.int ((List.zipWith capv (totalsOf (pickR rows ds) cs.length) cs).take i).sum), y4, y5, y6, y7] ∧ Same H H')
      ⟨none, none, none, none, rfl, Same.refl H⟩ (fun i σ H' _ h => by obtain ⟨_, _, _, _, _, sm⟩ := h; exact SqT.of (sm _ _ ra.hb)) (fun i x σ H' H1 hi h y => ?_) (fun σ H' h => ?_)
    · obtain ⟨y4, y5, y6, y7, rfl, sm⟩ := h
      obtain ⟨T1, x1, x2, rfl, nT, rfl, e1, e2⟩ := y
      obtain rfl : V.int ((0 : Int) + (i : Nat)) = x1 := Option.some.inj e1
      obtain ⟨o, ho, rfl⟩ := get_map e2
      have sT : Same H' (upd H' T1 (.tup [.int ((0 : Int) + (i : Nat)), optI o])) := same_new nT
      have s1 := sm.trans sT
      have h1 : (upd H' T1 (.tup [.int ((0 : Int) + (i : Nat)), optI o])) T1 = some (.tup [.int ((0 : Int) + (i : Nat)), optI o]) := upd_same
      generalize upd H' T1 (.tup [.int ((0 : Int) + (i : Nat)), optI o]) = H1 at s1 h1 ⊢
      have hic : i < cs.length := (List.getElem?_eq_some_iff.mp ho).1
      refine ⟨T1, [.int ((0 : Int) + (i : Nat)), optI o], rfl, .inl (.inl h1), rfl, .int ((0 : Int) + (i : Nat)), [optI o], rfl, optI o, [], rfl, rfl, ?_⟩
      -- many
      refine ⟨.ref d, rfl, d, rfl, ⟨_, SqT.of (s1 _ _ ra.hd)⟩, fun D nD => ?_⟩
      refine lc_tup (xs := ds.map fun j : Nat => V.int (j : Int)) (fun m H2 => H2 D = some (.lst ((((pickR rows ds).map fun r => r.getD i 0).take m).map V.int)) ∧ Same H1 H2) ⟨upd_same, same_new nD⟩ (fun m H2 _ h => SqT.of (h.2 _ _ (s1 _ _ ra.hd))) (fun m x H2 hx h => ?_) (fun H2 h => ?_)
      · obtain ⟨hD, s2⟩ := h
        obtain ⟨j, hj, rfl⟩ := get_map hx
        have hjr := ra.db j (List.mem_of_getElem? hj)
        have hjl : j < ls.length := by rw [ra.st.len]; exact hjr
        have s02 := s1.trans s2
        have g := getD_of (d := ([] : List Int)) hjr
        have hrow := s02 _ _ (ra.st.row j _ _ (getD_of (d := 0) hjl) g)
        have gr : (ls.map V.ref)[j]? = some (.ref (ls.getD j 0)) := by
          rw [List.getElem?_map, getD_of (d := 0) hjl]
          rfl
        have gi : ((rows.getD j []).map V.int)[i]? = some (.int ((rows.getD j []).getD i 0)) := by
          rw [List.getElem?_map, getD_of (d := 0) (by rw [ra.rl _ (List.mem_of_getElem? g)]; exact hic)]
          rfl
        have hz : ((pickR rows ds).map fun r => r.getD i 0)[m]? = some ((rows.getD j []).getD i 0) := by
          unfold pickR
          rw [List.map_map, List.getElem?_map, hj]
          rfl
        refine ⟨rfl, .ref t, rfl, .int (j : Int), rfl, t, _, (j : Int), .ref (ls.getD j 0), rfl, rfl, SqT.of (s02 _ _ ra.st.top), atI_nat gr, .int ((0 : Int) + (i : Nat)), rfl, ls.getD j 0, _, (i : Int), .int ((rows.getD j []).getD i 0), rfl, (by rw [Int.zero_add]), SqT.of hrow, atI_nat gi, _, hD, ?_, ?_, fun b' o' e => ?_⟩
        · rw [List.length_map, List.length_take]
          have := ra.dl
          have : ((pickR rows ds).map fun r => r.getD i 0).length = ds.length := by simp [pickR]
          exact len_lt (by omega)
        · rw [upd_same, take_succ_map hz]
        · rw [upd_ne (ne_of_none e nD)]
          exact s2 b' o' e
      · obtain ⟨hD, s2⟩ := h
        rw [List.length_map, List.take_of_length_le (by simp [pickR])] at hD
        have ht : (totalsOf (pickR rows ds) cs.length)[i]? = some ((pickR rows ds).map fun r => r.getD i 0).sum := by
          unfold totalsOf
          rw [List.getElem?_map, List.getElem?_range hic]
          rfl
        have hz := zw_get ht ho
        refine ⟨D, _, rfl, SqL.of hD, ?_⟩
        have fin : ∀ (σ : L2.St) (v : Int), v = capv ((pickR rows ds).map fun r => r.getD i 0).sum o → (∃ y4 y5 y6 y7 : Option V, σ = [some (.ref t), some (.ref b), some (.ref d), some (.int (((List.zipWith capv (totalsOf (pickR rows ds) cs.length) cs).take i).sum + v)), y4, y5, y6, y7]) →
            ∃ y4 y5 y6 y7 : Option V, σ = [some (.ref t), some (.ref b), some (.ref d), some (.int ((List.zipWith capv (totalsOf (pickR rows ds) cs.length) cs).take (i + 1)).sum), y4, y5, y6, y7] ∧ Same H H2 := fun σ v hv h => by
          obtain ⟨a1, a2, a3, a4, rfl⟩ := h
          refine ⟨a1, a2, a3, a4, ?_, s1.trans s2⟩
          rw [sum_take_succ hz, hv]
        refine ⟨_, rfl, ?_⟩
        cases o with
        | none => exact ⟨_, rfl, rfl, _, rfl, iteT ⟨_, rfl, _, _, rfl, rfl, fin _ _ rfl ⟨_, _, _, _, rfl⟩⟩⟩
        | some c =>
          refine ⟨_, rfl, rfl, _, rfl, iteNx rfl ⟨_, rfl, _, rfl, c, _, rfl, _, _, rfl, rfl, fin _ _ ?_ ⟨_, _, _, _, rfl⟩⟩⟩
          show (if _ < c then _ else c) = (if c < _ then c else _)
          split <;> split <;> omega
    · obtain ⟨y4, y5, y6, y7, rfl, sm⟩ := h
      refine ⟨_, rfl, ?_⟩
      have e0 : ((List.zipWith capv (totalsOf (pickR rows ds) cs.length) cs).take (cs.map optI).length).sum = roomL rows cs ds := by
        rw [List.take_of_length_le (by rw [List.length_zipWith, List.length_map]; omega)]
        rfl
      rw [e0]
      exact q _ sm
end
end DD
namespace DD
open PySem PySem.Spec PyProof.Rows L2 RZ
def natsV (ds : List Nat) : List V := ds.map fun j : Nat => V.int (j : Int)
/-- tuples of drawers -/
structure SetsAt (H : Hp) (as : List Addr) (dss : List (List Nat)) (n : Nat) : Prop where
  len : as.length = dss.length
  at_ : ∀ (j : Nat) (a : Addr) (ds : List Nat), as[j]? = some a → dss[j]? = some ds → H a = some (.tup (natsV ds))
  bd : ∀ ds ∈ dss, ds.length ≤ 4 ∧ ∀ j ∈ ds, j < n
theorem SetsAt.same {H H' : Hp} {as : List Addr} {dss : List (List Nat)} {n : Nat} (a : SetsAt H as dss n) (s : Same H H') : SetsAt H' as dss n :=
  ⟨a.len, fun j x ds e1 e2 => s _ _ (a.at_ j x ds e1 e2), a.bd⟩
theorem SetsAt.snoc {H : Hp} {as : List Addr} {dss : List (List Nat)} {n : Nat} {x : Addr} {ds : List Nat} (a : SetsAt H as dss n) (h : H x = some (.tup (natsV ds))) (hb : ds.length ≤ 4 ∧ ∀ j ∈ ds, j < n) : SetsAt H (as ++ [x]) (dss ++ [ds]) n := by
  refine ⟨by rw [List.length_append, List.length_append, a.len]; rfl, fun j l r x1 x2 => ?_, fun r hr => ?_⟩
  · by_cases hj : j < as.length
    · rw [List.getElem?_append_left hj] at x1
      rw [List.getElem?_append_left (by rw [← a.len]; exact hj)] at x2
      exact a.at_ j l r x1 x2
    · have hj2 : j = as.length := by
        have := (List.getElem?_eq_some_iff.mp x1).1
        rw [List.length_append] at this
        simp at this
        omega
      subst hj2
      rw [List.getElem?_append_right (Nat.le_refl _), Nat.sub_self] at x1
      rw [a.len, List.getElem?_append_right (Nat.le_refl _), Nat.sub_self] at x2
      obtain rfl : x = l := Option.some.inj x1
      obtain rfl : ds = r := Option.some.inj x2
      exact h
  · rcases List.mem_append.mp hr with h | h
    · exact a.bd r h
    · rw [List.mem_singleton.mp h]
      exact hb
theorem SetsAt.lst {H : Hp} {as : List Addr} {dss : List (List Nat)} {n : Nat} {D : Addr} {xs ys : List V} (a : SetsAt H as dss n) (h : H D = some (.lst xs)) : SetsAt (upd H D (.lst ys)) as dss n :=
  ⟨a.len, fun j x ds e1 e2 => by
    have := a.at_ j x ds e1 e2
    have ne : x ≠ D := fun z => by rw [z, h] at this; cases this
    rw [upd_ne ne]
    exact this, a.bd⟩
theorem SetsAt.append {H : Hp} {as bs : List Addr} {dss ess : List (List Nat)} {n : Nat} (a : SetsAt H as dss n) (b : SetsAt H bs ess n) : SetsAt H (as ++ bs) (dss ++ ess) n := by
  refine ⟨by rw [List.length_append, List.length_append, a.len, b.len], fun j x ds x1 x2 => ?_, fun ds hd => ?_⟩
  · by_cases hj : j < as.length
    · rw [List.getElem?_append_left hj] at x1
      rw [List.getElem?_append_left (by rw [← a.len]; exact hj)] at x2
      exact a.at_ j x ds x1 x2
    · rw [List.getElem?_append_right (by omega)] at x1
      rw [List.getElem?_append_right (by rw [← a.len]; omega), ← a.len] at x2
      exact b.at_ _ x ds x1 x2
  · rcases List.mem_append.mp hd with h | h
    · exact a.bd ds h
    · exact b.bd ds h
theorem SetsAt.up {H : Hp} {as : List Addr} {dss : List (List Nat)} {n m : Nat} (a : SetsAt H as dss n) (h : n ≤ m) : SetsAt H as dss m :=
  ⟨a.len, a.at_, fun ds hd => ⟨(a.bd ds hd).1, fun j hj => Nat.lt_of_lt_of_le ((a.bd ds hd).2 j hj) h⟩⟩
/-- all sets of m drawers in the program's order -/
def pSets : Nat → List (List Nat)
  | 0 => [[]]
  | m + 1 => pSets m ++ (pSets m).map fun s => s ++ [m]
theorem ps_len : ∀ m, (pSets m).length = 2 ^ m
  | 0 => rfl
  | m + 1 => by
    show (pSets m ++ (pSets m).map _).length = _
    rw [List.length_append, List.length_map, ps_len m, Nat.pow_succ]
    omega
theorem ps_bd : ∀ {m : Nat} {s : List Nat}, s ∈ pSets m → s.length ≤ m ∧ s.Nodup ∧ ∀ j ∈ s, j < m
  | 0, s, h => by
    rw [List.mem_singleton.mp h]
    exact ⟨Nat.le_refl _, List.nodup_nil, fun j hj => by cases hj⟩
  | m + 1, s, h => by
    rcases List.mem_append.mp h with h | h
    · obtain ⟨h1, h2, h3⟩ := ps_bd h
      exact ⟨by omega, h2, fun j hj => Nat.lt_succ_of_lt (h3 j hj)⟩
    · obtain ⟨s', hs', rfl⟩ := List.mem_map.mp h
      obtain ⟨h1, h2, h3⟩ := ps_bd hs'
      refine ⟨by rw [List.length_append]; show s'.length + 1 ≤ m + 1; omega, ?_, fun j hj => ?_⟩
      · rw [List.nodup_append]
        refine ⟨h2, by simp, fun a ha b hb e => ?_⟩
        have := h3 a ha
        rw [List.mem_singleton.mp hb] at e
        omega
      · rcases List.mem_append.mp hj with h | h
        · exact Nat.lt_succ_of_lt (h3 j h)
        · rw [List.mem_singleton.mp h]
          exact Nat.lt_succ_self m
abbrev NSo : List Str := ["stock", "sets", "drawer", "drawers"]
theorem scSetsOf : FnScope NSo ["stock"] (defScope sSetsOf) := ⟨rfl, rfl, rfl, by decide +kernel, rfl, by decide +kernel, by decide +kernel⟩
section
variable {P : Program} {w : World} {K : PySem.W.Frag} {mg : Str → Option Value} {base : Heap}
def spSetsOf : Sp := fun vs H Q _ => ∃ (t : Addr) (xs : List V), vs = [.ref t] ∧ H t = some (.tup xs) ∧ xs.length ≤ 4 ∧
  ∀ (D : Addr) (as : List Addr) H', Same H H' → H' D = some (.lst (as.map V.ref)) → SetsAt H' as (pSets xs.length) xs.length → Q (.ref D) H'
theorem ok_setsof {f fN fU fTu fA fAu fO fFu fCo fSp fCa fIr fTk fI fR fFc fLo fSo fOv fDw fSv fCh fUd fEt fAo fAd fDk fD fS fTt fW fPl fLu fLs fLc fM fE fX fNu fId fKn fHo fAy fOo fRp fAt fVa : Addr} {fd dN dU dTu dA dAu dO dFu dCo dSp dCa dIr dTk dI dR dFc dLo dSo dOv dDw dSv dCh dUd dEt dAo dAd dDk dD dS dTt dW dPl dLu dLs dLc dM dE dX dNu dId dKn dHo dAy dOo dRp dAt dVa : FuncData} {k : Nat} (F : Fun K "sets_of_drawers" "sets_of_drawers" sSetsOf f fd) (T : Tx K mg fN fU fTu fA fAu fO fFu fCo fSp fCa fIr fTk fI fR fFc fLo fSo fOv fDw fSv fCh fUd fEt fAo fAd fDk fD fS fTt fW fPl fLu fLs fLc fM fE fX fNu fId fKn fHo fAy fOo fRp fAt fVa dN dU dTu dA dAu dO dFu dCo dSp dCa dIr dTk dI dR dFc dLo dSo dOv dDw dSv dCh dUd dEt dAo dAd dDk dD dS dTt dW dPl dLu dLs dLc dM dE dX dNu dId dKn dHo dAy dOo dRp dAt dVa) :
    FnOk P w K mg base CX0 (k + 1) f fd ["stock"] spSetsOf := by
  refine F.ok scSetsOf (fun vs H Q E h => ?_) (fun cdv A outer s H vs Q E hr h => ?_)
  · obtain ⟨t, xs, rfl, _⟩ := h
    rfl
  · obtain ⟨t, xs, rfl, ht, h4, q⟩ := h
    refine ⟨_, (pss_cons (ps_set (i := 1) scSetsOf.nd rfl (.inl rfl) (pe_lst (pa_cons (pe_tup pa_nil) pa_nil)))
      (pss_cons (ps_for PassesOwn.never rfl (pi_range1 (by rfl) T.m_range (pa_cons (pe_callB call_len_seq (by rfl) T.m_len PySem.boot_len (pa_cons (pv 0) pa_nil)) pa_nil)) (pg_name (i := 2) scSetsOf.nd rfl (Or.inr rfl)) (pss_one (ps_set (i := 1) scSetsOf.nd rfl (.inl rfl) (pe_op op_cat (pv 1) (pe_lc (te := tTup (StX.tStar K (tVar 3) (tCons (tVar 2) tNil))) (own := [("drawers", 3)]) (g := gName 3) rfl scSetsOf.nd (pi_list (pv 1)) (blkOk_by (own := [("drawers", 3)]) (N := NSo) (sc := defScope sSetsOf) (by decide +kernel)) (fun _ _ _ _ _ => (pg_name (i := 3) scSetsOf.nd rfl (Or.inl rfl))) (fun _ _ _ _ _ => pts_nil) (fun _ _ _ _ _ => (pe_tup (StX.pa_star (pv 3) (pa_cons (pv 2) pa_nil)))))))))
      (pss_one (ps_ret (pv 1))))), ?_⟩
    refine ⟨Nat.zero_le _, fun p0 np0 => ?_⟩
    refine ⟨by show 1 ≤ sizeLine; decide, fun F0 nF0 => ?_⟩
    have s0 : Same H (upd (upd H p0 (.tup [])) F0 (.lst [.ref p0])) := (same_new np0).trans (same_new nF0)
    have hp0 : (upd (upd H p0 (.tup [])) F0 (.lst [.ref p0])) p0 = some (.tup (natsV [])) := same_new nF0 _ _ upd_same
    have hF0 : (upd (upd H p0 (.tup [])) F0 (.lst [.ref p0])) F0 = some (.lst ([p0].map V.ref)) := upd_same
    generalize upd (upd H p0 (.tup [])) F0 (.lst [.ref p0]) = H0 at s0 hF0 hp0 ⊢
    have a0 : SetsAt H0 [p0] (pSets 0) 0 := ⟨rfl, fun j x ds e1 e2 => by
      cases j with
      | zero =>
        obtain rfl : p0 = x := Option.some.inj e1
        obtain rfl : [] = ds := Option.some.inj e2
        exact hp0
      | succ j => simp at e1, fun ds hd => by rw [List.mem_singleton.mp hd]; exact ⟨Nat.zero_le _, fun j hj => by cases hj⟩⟩
    refine ⟨_, rfl, t, xs, rfl, .inr (SqT.of (s0 _ _ ht)), (xs.length : Int), rfl, by omega, by omega, ?_⟩
    refine for_range (lo := 0) (n := xs.length) (fun i σ H' => ∃ (S : Addr) (as : List Addr) (y2 y3 : Option V), σ = [some (.ref t), some (.ref S), y2, y3] ∧ Same H H' ∧ H' S = some (.lst (as.map V.ref)) ∧ SetsAt H' as (pSets i) i)
      ⟨F0, [p0], _, _, rfl, s0, hF0, a0⟩ (fun i σ H' hi h => ?_) (fun σ H' h => ?_)
    · obtain ⟨S, as, y2, y3, rfl, sm, hS, sa⟩ := h
      have hal : as.length ≤ 8 := by
        rw [sa.len, ps_len]
        exact Nat.pow_le_pow_right (n := 2) (by decide) (show i ≤ 3 by omega)
      refine ⟨_, rfl, _, rfl, S, rfl, ⟨_, SqL.of hS⟩, fun D nD => ?_⟩
      refine lc_list (xs := as.map V.ref) (fun m H2 => ∃ bs : List Addr, H2 D = some (.lst (bs.map V.ref)) ∧ Same H' H2 ∧ bs.length = m ∧ SetsAt H2 bs (((pSets i).take m).map fun s => s ++ [i]) (i + 1)) ⟨[], upd_same, same_new nD, rfl, ⟨rfl, fun j x ds e => by simp at e, fun ds h => by cases h⟩⟩
        (fun m H2 _ h => by obtain ⟨_, _, s2, _⟩ := h; exact SqL.of (s2 _ _ hS)) (fun m x H2 hx h => ?_) (fun H2 h => ?_)
      · obtain ⟨bs, hD, s2, hbl, sb⟩ := h
        obtain ⟨a1, ha1, rfl⟩ := get_map hx
        have hml : m < (pSets i).length := by rw [← sa.len]; exact (List.getElem?_eq_some_iff.mp ha1).1
        have hsm : (pSets i)[m]? = some (pSets i)[m] := List.getElem?_eq_getElem hml
        have hta := s2 _ _ (sa.at_ m a1 _ ha1 hsm)
        obtain ⟨hb1, _, hb2⟩ := ps_bd (List.getElem_mem hml)
        generalize hs : (pSets i)[m] = s' at hsm hta hb1 hb2
        refine ⟨rfl, .ref a1, rfl, a1, _, rfl, .inl (SqT.of hta), .int ((0 : Int) + (i : Nat)), rfl, ?_, fun T1 nT => ?_⟩
        · show (s'.map _ ++ [V.int ((0 : Int) + (i : Nat))]).length ≤ sizeLine
          rw [List.length_append, List.length_map]
          exact Nat.le_of_lt (len_lt (by show s'.length + 1 ≤ 1000; omega))
        have hn : natsV s' ++ [V.int ((0 : Int) + (i : Nat))] = natsV (s' ++ [i]) := by
          unfold natsV
          rw [List.map_append, Int.zero_add]
          rfl
        have sT : Same H2 (upd H2 T1 (.tup (natsV s' ++ [V.int ((0 : Int) + (i : Nat))]))) := same_new nT
        have hT : (upd H2 T1 (.tup (natsV s' ++ [V.int ((0 : Int) + (i : Nat))]))) T1 = some (.tup (natsV (s' ++ [i]))) := by rw [upd_same, hn]
        have hD2 := sT _ _ hD
        refine ⟨_, hD2, ?_, bs ++ [T1], ?_, fun b' o e' => ?_, ?_, ?_⟩
        · rw [List.length_map, hbl]
          have := (List.getElem?_eq_some_iff.mp ha1).1
          exact len_lt (by omega)
        · rw [upd_same, List.map_append]
          rfl
        · rw [upd_ne (ne_of_none e' nD)]
          exact sT _ _ (s2 b' o e')
        · rw [List.length_append, hbl]
          rfl
        · rw [take_succ_map hsm]
          refine ((sb.same sT).snoc hT ⟨by rw [List.length_append]; show s'.length + 1 ≤ 4; omega, fun j hj => ?_⟩).lst hD2
          rcases List.mem_append.mp hj with h | h
          · exact Nat.lt_succ_of_lt (hb2 j h)
          · rw [List.mem_singleton.mp h]
            exact Nat.lt_succ_self i
      · obtain ⟨bs, hD, s2, hbl, sb⟩ := h
        rw [List.length_map] at hbl sb
        rw [sa.len, List.take_length] at sb
        refine ⟨S, D, _, _, rfl, rfl, s2 _ _ hS, hD, ?_, fun p np => ?_⟩
        · rw [List.length_map, List.length_map, hbl]
          exact Nat.le_of_lt (len_lt (by omega))
        have sp := same_new (o := .lst (as.map V.ref ++ bs.map V.ref)) np
        refine ⟨p, as ++ bs, _, _, rfl, sm.trans (s2.trans sp), by rw [upd_same, List.map_append], ?_⟩
        exact SetsAt.append (((sa.same s2).same sp).up (Nat.le_succ i)) (sb.same sp)
    · obtain ⟨S, as, y2, y3, rfl, sm, hS, sa⟩ := h
      exact ⟨_, rfl, q S as _ sm hS sa⟩
end
end DD
namespace DD
open PySem PySem.Spec PyProof.Rows L2 RZ
def takenOf (ps : List Int) (ds : List Nat) : Int := (ds.map fun j => ps.getD j 0).sum
def totL (rows : List (List Int)) (n : Nat) (ds : List Nat) : List Int := totalsOf (pickR rows ds) (if ds = [] then 0 else n)
def LoadAt (H : Hp) (rows : List (List Int)) (ps : List Int) (n : Nat) (a : Addr) (ds : List Nat) : Prop := ∃ d tt : Addr, H a = some (.tup [.ref d, .int (takenOf ps ds), .ref tt]) ∧ H d = some (.tup (natsV ds)) ∧ H tt = some (.tup ((totL rows n ds).map V.int))
theorem LoadAt.tk {H H' : Hp} {rows : List (List Int)} {ps : List Int} {n : Nat} {a : Addr} {ds : List Nat} (l : LoadAt H rows ps n a ds) (k : ∀ b xs, H b = some (.tup xs) → H' b = some (.tup xs)) : LoadAt H' rows ps n a ds := by
  obtain ⟨d, tt, h1, h2, h3⟩ := l
  exact ⟨d, tt, k _ _ h1, k _ _ h2, k _ _ h3⟩
structure LoadsAt (H : Hp) (rows : List (List Int)) (ps : List Int) (n : Nat) (as : List Addr) (dss : List (List Nat)) : Prop where
  len : as.length = dss.length
  at_ : ∀ (j : Nat) (a : Addr) (ds : List Nat), as[j]? = some a → dss[j]? = some ds → LoadAt H rows ps n a ds
theorem LoadsAt.tk {H H' : Hp} {rows : List (List Int)} {ps : List Int} {n : Nat} {as : List Addr} {dss : List (List Nat)} (l : LoadsAt H rows ps n as dss) (k : ∀ b xs, H b = some (.tup xs) → H' b = some (.tup xs)) : LoadsAt H' rows ps n as dss :=
  ⟨l.len, fun j a ds e1 e2 => (l.at_ j a ds e1 e2).tk k⟩
theorem LoadsAt.snoc {H : Hp} {rows : List (List Int)} {ps : List Int} {n : Nat} {as : List Addr} {dss : List (List Nat)} {x : Addr} {ds : List Nat} (a : LoadsAt H rows ps n as dss) (h : LoadAt H rows ps n x ds) : LoadsAt H rows ps n (as ++ [x]) (dss ++ [ds]) := by
  refine ⟨by rw [List.length_append, List.length_append, a.len]; rfl, fun j l r x1 x2 => ?_⟩
  by_cases hj : j < as.length
  · rw [List.getElem?_append_left hj] at x1
    rw [List.getElem?_append_left (by rw [← a.len]; exact hj)] at x2
    exact a.at_ j l r x1 x2
  · have hj2 : j = as.length := by
      have := (List.getElem?_eq_some_iff.mp x1).1
      rw [List.length_append] at this
      simp at this
      omega
    subst hj2
    rw [List.getElem?_append_right (Nat.le_refl _), Nat.sub_self] at x1
    rw [a.len, List.getElem?_append_right (Nat.le_refl _), Nat.sub_self] at x2
    obtain rfl : x = l := Option.some.inj x1
    obtain rfl : ds = r := Option.some.inj x2
    exact h
abbrev NLo : List Str := ["stock", "plan", "loads", "drawers", "taken", "drawer"]
theorem scLoads : FnScope NLo ["stock", "plan"] (defScope sLoads) := ⟨rfl, rfl, rfl, by decide +kernel, rfl, by decide +kernel, by decide +kernel⟩
section
variable {P : Program} {w : World} {K : PySem.W.Frag} {mg : Str → Option Value} {base : Heap}
def spLoads : Sp := fun vs H Q _ => ∃ (t p : Addr) (ls : List Addr) (rows : List (List Int)) (ps : List Int) (n : Nat), vs = [.ref t, .ref p] ∧ StockAt H t ls rows ∧ rows.length ≤ 4 ∧ (∀ r ∈ rows, r.length = n) ∧ n ≤ 100 ∧ H p = some (.tup (ps.map V.int)) ∧ ps.length = rows.length ∧
  ∀ (D : Addr) (as : List Addr) H', Same H H' → H' D = some (.lst (as.map V.ref)) → LoadsAt H' rows ps n as (pSets rows.length) → Q (.ref D) H'
set_option maxHeartbeats 800000 in
theorem ok_loads {f fN fU fTu fA fAu fO fFu fCo fSp fCa fIr fTk fI fR fFc fLo fSo fOv fDw fSv fCh fUd fEt fAo fAd fDk fD fS fTt fW fPl fLu fLs fLc fM fE fX fNu fId fKn fHo fAy fOo fRp fAt fVa : Addr} {fd dN dU dTu dA dAu dO dFu dCo dSp dCa dIr dTk dI dR dFc dLo dSo dOv dDw dSv dCh dUd dEt dAo dAd dDk dD dS dTt dW dPl dLu dLs dLc dM dE dX dNu dId dKn dHo dAy dOo dRp dAt dVa : FuncData} {k : Nat} (F : Fun K "loads_of" "loads_of" sLoads f fd) (T : Tx K mg fN fU fTu fA fAu fO fFu fCo fSp fCa fIr fTk fI fR fFc fLo fSo fOv fDw fSv fCh fUd fEt fAo fAd fDk fD fS fTt fW fPl fLu fLs fLc fM fE fX fNu fId fKn fHo fAy fOo fRp fAt fVa dN dU dTu dA dAu dO dFu dCo dSp dCa dIr dTk dI dR dFc dLo dSo dOv dDw dSv dCh dUd dEt dAo dAd dDk dD dS dTt dW dPl dLu dLs dLc dM dE dX dNu dId dKn dHo dAy dOo dRp dAt dVa) :
    FnOk P w K mg base CX0 (k + 2) f fd ["stock", "plan"] spLoads := by
  have GO : FnOk P w K mg base CX0 (k + 1) fO dO ["stock"] (spTotals K) := ok_totals T.O T.m_tuple T.m_sum T.m_zip
  have GSo : FnOk P w K mg base CX0 (k + 1) fSo dSo ["stock"] spSetsOf := ok_setsof T.So T
  refine F.ok scLoads (fun vs H Q E h => ?_) (fun cdv A outer s H vs Q E hr h => ?_)
  · obtain ⟨t, p, ls, rows, ps, n, rfl, _⟩ := h
    rfl
  · obtain ⟨t, p, ls, rows, ps, n, rfl, st, h4, hrn, hn, hp, hpl, q⟩ := h
    refine ⟨_, (pss_cons (ps_set (i := 2) scLoads.nd rfl (.inl rfl) (pe_lst pa_nil))
      (pss_cons (ps_for PassesOwn.never rfl (pi_list (pe_call GSo (hr.mono (by omega)) (by rfl) T.gSo T.So.kp T.bSo .nil pass0 (pa_cons (pv 0) pa_nil))) (pg_name (i := 3) scLoads.nd rfl (Or.inl rfl)) (pss_cons (ps_set (i := 4) scLoads.nd rfl (.inl rfl) (pe_callB (show CallR _ _ (rSum K) from cr_sum rfl) (by rfl) T.m_sum (by decide +kernel) (pa_cons (pe_lc (own := [("drawer", 5)]) (g := gName 5) rfl scLoads.nd (pi_tup (pv 3)) (blkOk_by (own := [("drawer", 5)]) (N := NLo) (sc := defScope sLoads) (by decide +kernel)) (fun _ _ _ _ _ => (pg_name (i := 5) scLoads.nd rfl (Or.inl rfl))) (fun _ _ _ _ _ => pts_nil) (fun _ _ _ _ _ => (pe_ix (show IxR _ (rIxT K) from ix_tup) (pv 1) (pv 5) (fun _ _ => rfl)))) pa_nil)))
      (pss_one (ps_expr (pe_bm PySem.F.plainAttrs_list PySem.F.slot_list_append PySem.F.type_list_append mt_append (pv 2) (pa_cons (pe_tup (pa_cons (pv 3) (pa_cons (pv 4) (pa_cons (pe_call GO (hr.mono (by omega)) (by rfl) T.gO T.O.kp T.bO .nil pass0 (pa_cons (pe_lc (own := [("drawer", 5)]) (g := gName 5) rfl scLoads.nd (pi_tup (pv 3)) (blkOk_by (own := [("drawer", 5)]) (N := NLo) (sc := defScope sLoads) (by decide +kernel)) (fun _ _ _ _ _ => (pg_name (i := 5) scLoads.nd rfl (Or.inl rfl))) (fun _ _ _ _ _ => pts_nil) (fun _ _ _ _ _ => (pe_ix (show IxR _ (rIxT K) from ix_tup) (pv 0) (pv 5) (fun _ _ => rfl)))) pa_nil)) pa_nil)))) pa_nil))))))
      (pss_one (ps_ret (pv 2))))), ?_⟩
    refine ⟨Nat.zero_le _, fun F0 nF => ?_⟩
    have s0 : Same H (upd H F0 (.lst [])) := same_new nF
    have hF0 : (upd H F0 (.lst [])) F0 = some (.lst ([] : List V)) := upd_same
    generalize upd H F0 (.lst []) = H0 at s0 hF0 ⊢
    have hlen : (ls.map V.ref).length = rows.length := by rw [List.length_map, st.len]
    refine ⟨_, rfl, t, ls.map V.ref, rfl, s0 _ _ st.top, by omega, fun L as H1 s1 hL sa => ?_⟩
    rw [hlen] at sa
    have s01 := s0.trans s1
    have hF1 := s1 _ _ hF0
    have nLF : L ≠ F0 ∨ as = [] := by
      by_cases e : L = F0
      · right
        rw [e, hF1] at hL
        have := HO.lst.inj (Option.some.inj hL)
        exact List.map_eq_nil_iff.mp this.symm
      · exact .inl e
    have hal : as.length = 2 ^ rows.length := by rw [sa.len, ps_len]
    have nLF : L ≠ F0 := by
      rcases nLF with h | h
      · exact h
      · rw [h] at hal
        have : 0 < 2 ^ rows.length := Nat.pow_pos (by decide)
        simp at hal
        omega
    have h16 : as.length ≤ 16 := by
      rw [hal]
      exact Nat.pow_le_pow_right (n := 2) (by decide) h4
    refine ⟨L, rfl, ⟨_, SqL.of hL⟩, ?_⟩
    refine for_it (walk_list (xs := as.map V.ref)) (fun i σ H' => ∃ (as' : List Addr) (y3 y4 y5 : Option V), σ = [some (.ref t), some (.ref p), some (.ref F0), y3, y4, y5] ∧ Same H H' ∧ H' L = some (.lst (as.map V.ref)) ∧ SetsAt H' as (pSets rows.length) rows.length ∧ H' F0 = some (.lst (as'.map V.ref)) ∧ LoadsAt H' rows ps n as' ((pSets rows.length).take i))
      ⟨[], _, _, _, rfl, s01, hL, sa, hF1, ⟨rfl, fun j a ds e => by simp at e⟩⟩ (fun i σ H' _ h => by obtain ⟨_, _, _, _, _, _, hL', _⟩ := h; exact SqL.of hL') (fun i x σ H' H2 hi h y => ?_) (fun σ H' h => ?_)
    · obtain ⟨as', y3, y4, y5, rfl, sm, hL', sa', hF, la⟩ := h
      obtain ⟨rfl, hx⟩ := y
      obtain ⟨d, hd, rfl⟩ := get_map hx
      rw [List.length_map] at hi
      have hid : i < (pSets rows.length).length := by rw [← sa'.len]; exact hi
      have hdi : (pSets rows.length)[i]? = some (pSets rows.length)[i] := List.getElem?_eq_getElem hid
      have hds := sa'.at_ i d _ hd hdi
      obtain ⟨hd4, hdb⟩ := sa'.bd _ (List.getElem_mem hid)
      generalize he : (pSets rows.length)[i] = dd at hdi hds hd4 hdb
      refine ⟨.ref d, rfl, d, rfl, ⟨_, SqT.of hds⟩, fun D nD => ?_⟩
      refine lc_tup (xs := dd.map fun j : Nat => V.int (j : Int)) (fun m H3 => H3 D = some (.lst (((dd.map fun j => ps.getD j 0).take m).map V.int)) ∧ Same H2 H3) ⟨upd_same, same_new nD⟩ (fun m H3 _ h => SqT.of (h.2 _ _ hds)) (fun m x H3 hx h => ?_) (fun H3 h => ?_)
      · obtain ⟨hD, s3⟩ := h
        obtain ⟨j, hj, rfl⟩ := get_map hx
        have hjr := hdb j (List.mem_of_getElem? hj)
        have gp : (ps.map V.int)[j]? = some (.int (ps.getD j 0)) := by
          rw [List.getElem?_map, getD_of (d := 0) (by rw [hpl]; exact hjr)]
          rfl
        have hz : (dd.map fun j => ps.getD j 0)[m]? = some (ps.getD j 0) := by
          rw [List.getElem?_map, hj]
          rfl
        refine ⟨rfl, .ref p, rfl, .int (j : Int), rfl, p, _, (j : Int), .int (ps.getD j 0), rfl, rfl, SqT.of (s3 _ _ (sm _ _ hp)), atI_nat gp, _, hD, ?_, ?_, fun b' o' e => ?_⟩
        · rw [List.length_map, List.length_take, List.length_map]
          exact len_lt (by omega)
        · rw [upd_same, take_succ_map hz]
        · rw [upd_ne (ne_of_none e nD)]
          exact s3 b' o' e
      · obtain ⟨hD, s3⟩ := h
        rw [List.length_map, List.take_of_length_le (by rw [List.length_map]; exact Nat.le_refl _)] at hD
        refine ⟨D, _, rfl, SqL.of hD, ?_⟩
        have sm3 := sm.trans s3
        have hF3 := s3 _ _ hF
        have hds3 := s3 _ _ hds
        refine ⟨.ref F0, rfl, .inl ⟨rfl, _, SqL.of hF3⟩, _, rfl, _, rfl, .ref d, rfl, d, rfl, ⟨_, SqT.of hds3⟩, fun D2 nD2 => ?_⟩
        refine lc_tup (xs := dd.map fun j : Nat => V.int (j : Int)) (fun m H4 => H4 D2 = some (.lst (((pickL ls dd).take m).map V.ref)) ∧ Same H3 H4) ⟨upd_same, same_new nD2⟩ (fun m H4 _ h => SqT.of (h.2 _ _ hds3)) (fun m x H4 hx h => ?_) (fun H4 h => ?_)
        · obtain ⟨hD2, s4⟩ := h
          obtain ⟨j, hj, rfl⟩ := get_map hx
          have hjr := hdb j (List.mem_of_getElem? hj)
          have hjl : j < ls.length := by rw [st.len]; exact hjr
          have hpk : (pickL ls dd)[m]? = some (ls.getD j 0) := by
            unfold pickL
            rw [List.getElem?_map, hj]
            rfl
          have gr : (ls.map V.ref)[j]? = some (.ref (ls.getD j 0)) := by
            rw [List.getElem?_map, getD_of (d := 0) hjl]
            rfl
          refine ⟨rfl, .ref t, rfl, .int (j : Int), rfl, t, _, (j : Int), .ref (ls.getD j 0), rfl, rfl, SqT.of (s4 _ _ (sm3 _ _ st.top)), atI_nat gr, _, hD2, ?_, ?_, fun b' o e => ?_⟩
          · rw [List.length_map, List.length_take]
            have : (pickL ls dd).length = dd.length := by simp [pickL]
            exact len_lt (by omega)
          · rw [upd_same, take_succ_map hpk]
          · rw [upd_ne (ne_of_none e nD2)]
            exact s4 b' o e
        · obtain ⟨hD2, s4⟩ := h
          rw [List.length_map, List.take_of_length_le (by simp [pickL])] at hD2
          have hll : (pickL ls dd).length = (pickR rows dd).length := by simp [pickL, pickR]
          have hpl2 : (pickR rows dd).length = dd.length := by simp [pickR]
          have sm4 := sm3.trans s4
          have hat : ∀ (j : Nat) (l : Addr) (r : List Int), (pickL ls dd)[j]? = some l → (pickR rows dd)[j]? = some r → H4 l = some (.tup (r.map V.int)) ∧ r.length = (if dd = [] then 0 else n) := fun j l r e1 e2 => by
            unfold pickL at e1
            unfold pickR at e2
            obtain ⟨j1, h1, rfl⟩ := get_map e1
            obtain ⟨j2, h2, rfl⟩ := get_map e2
            obtain rfl : j1 = j2 := Option.some.inj (h1.symm.trans h2)
            have hjr := hdb j1 (List.mem_of_getElem? h1)
            have g := getD_of (d := []) hjr
            rw [if_neg (fun z => by rw [z] at h1; simp at h1)]
            exact ⟨sm4 _ _ (st.row j1 _ _ (getD_of (by rw [st.len]; exact hjr)) g), hrn _ (List.mem_of_getElem? g)⟩
          refine ⟨D2, pickL ls dd, pickR rows dd, if dd = [] then 0 else n, rfl, .inr (SqL.of hD2), hll, hat, (fun e => by rw [if_pos (List.eq_nil_of_length_eq_zero (by rw [← hpl2, e]; rfl))]), by omega, by split <;> omega, fun tt H5 s5 _ htt => ?_⟩
          refine ⟨by show 3 ≤ sizeLine; decide, fun p6 n6 => ?_⟩
          have s6 := same_new (o := .tup [.ref d, .int (takenOf ps dd), .ref tt]) n6
          have s36 := s4.trans (s5.trans s6)
          have hF6 := s36 _ _ hF3
          have hload : LoadAt (upd H5 p6 (.tup [.ref d, .int (takenOf ps dd), .ref tt])) rows ps n p6 dd := ⟨d, tt, upd_same, s36 _ _ hds3, s6 _ _ htt⟩
          have s26 := s3.trans s36
          have hlt : (as'.map V.ref).length < sizeLine := by
            rw [List.length_map, la.len, List.length_take]
            exact len_lt (by omega)
          refine ⟨F0, _, .ref p6, rfl, rfl, hF6, hlt, as' ++ [p6], _, _, _, rfl, ?_, ?_, (sa'.same s26).lst hF6, ?_, ?_⟩
          · intro b' o e2
            rw [upd_ne (ne_of_none e2 nF)]
            exact s26 _ _ (sm b' o e2)
          · rw [upd_ne nLF]
            exact s26 _ _ hL'
          · rw [upd_same, List.map_append]
            rfl
          · rw [List.take_add_one, hdi]
            refine LoadsAt.tk (LoadsAt.snoc (la.tk fun b xs e => s26 _ _ e) hload) fun b xs e => ?_
            have ne : b ≠ F0 := fun z => by rw [z, hF6] at e; cases e
            rw [upd_ne ne]
            exact e
    · obtain ⟨as', y3, y4, y5, rfl, sm, hL', sa', hF, la⟩ := h
      rw [List.length_map, sa'.len, List.take_length] at la
      exact ⟨_, rfl, q F0 as' _ sm hF la⟩
end
end DD
namespace DD
open PySem PySem.Spec PyProof.Rows L2 RZ
/-- whether a plan takes more from these drawers than their room -/
def ovB (rows : List (List Int)) (ps : List Int) (n : Nat) (cs : List (Option Int)) (ds : List Nat) : Bool := decide (takenOf ps ds > (List.zipWith capv (totL rows n ds) cs).sum)
theorem find_at {α : Type} {p : α → Bool} : ∀ {l : List α} {i : Nat} {x : α}, l[i]? = some x → (∀ y ∈ l.take i, p y = false) → p x = true → l.find? p = some x
  | [], _, _, h, _, _ => by simp at h
  | a :: l, 0, x, h, _, hp => by
    obtain rfl : a = x := Option.some.inj h
    rw [List.find?_cons, hp]
  | a :: l, i + 1, x, h, hn, hp => by
    rw [List.find?_cons, hn a (by simp)]
    exact find_at (l := l) (i := i) h (fun y hy => hn y (by rw [List.take_succ_cons]; exact List.mem_cons_of_mem _ hy)) hp
abbrev NOv : List Str := ["loads", "caps", "drawers", "taken", "totals"]
theorem scOver : FnScope NOv ["loads", "caps"] (defScope sOver) := ⟨rfl, rfl, rfl, by decide +kernel, rfl, by decide +kernel, by decide +kernel⟩
section
variable {P : Program} {w : World} {K : PySem.W.Frag} {mg : Str → Option Value} {base : Heap}
def spOver : Sp := fun vs H Q _ => ∃ (L b : Addr) (as : List Addr) (rows : List (List Int)) (ps : List Int) (n : Nat) (dss : List (List Nat)) (cs : List (Option Int)), vs = [.ref L, .ref b] ∧ H L = some (.lst (as.map V.ref)) ∧ LoadsAt H rows ps n as dss ∧
  H b = some (.tup (cs.map optI)) ∧ cs.length = n ∧ n ≤ 100 ∧
  (∀ H', Same H H' → (∀ ds ∈ dss, ovB rows ps n cs ds = false) → Q .non H') ∧ (∀ H' d ds, Same H H' → dss.find? (ovB rows ps n cs) = some ds → ds ∈ dss → ovB rows ps n cs ds = true → H' d = some (.tup (natsV ds)) → Q (.ref d) H')
theorem ok_over {f fN fU fTu fA fAu fO fFu fCo fSp fCa fIr fTk fI fR fFc fLo fSo fOv fDw fSv fCh fUd fEt fAo fAd fDk fD fS fTt fW fPl fLu fLs fLc fM fE fX fNu fId fKn fHo fAy fOo fRp fAt fVa : Addr} {fd dN dU dTu dA dAu dO dFu dCo dSp dCa dIr dTk dI dR dFc dLo dSo dOv dDw dSv dCh dUd dEt dAo dAd dDk dD dS dTt dW dPl dLu dLs dLc dM dE dX dNu dId dKn dHo dAy dOo dRp dAt dVa : FuncData} {k : Nat} (F : Fun K "overfull" "overfull" sOver f fd) (T : Tx K mg fN fU fTu fA fAu fO fFu fCo fSp fCa fIr fTk fI fR fFc fLo fSo fOv fDw fSv fCh fUd fEt fAo fAd fDk fD fS fTt fW fPl fLu fLs fLc fM fE fX fNu fId fKn fHo fAy fOo fRp fAt fVa dN dU dTu dA dAu dO dFu dCo dSp dCa dIr dTk dI dR dFc dLo dSo dOv dDw dSv dCh dUd dEt dAo dAd dDk dD dS dTt dW dPl dLu dLs dLc dM dE dX dNu dId dKn dHo dAy dOo dRp dAt dVa) :
    FnOk P w K mg base CX0 (k + 2) f fd ["loads", "caps"] spOver := by
  have GR : FnOk P w K mg base CX0 (k + 1) fR dR ["totals", "caps"] spRoomOf := ok_roomof T.R T
  refine F.ok scOver (fun vs H Q E h => ?_) (fun cdv A outer s H vs Q E hr h => ?_)
  · obtain ⟨L, b, as, rows, ps, n, dss, cs, rfl, _⟩ := h
    rfl
  · obtain ⟨L, b, as, rows, ps, n, dss, cs, rfl, hL, la, hb, hcl, hn, q1, q2⟩ := h
    refine ⟨_, (pss_cons (ps_for PassesOwn.never rfl (pi_list (pv 0)) (pg_tup rfl (pgs_cons (pg_name (i := 2) scOver.nd rfl (Or.inl rfl)) (pgs_cons (pg_name (i := 3) scOver.nd rfl (Or.inl rfl)) (pgs_cons (pg_name (i := 4) scOver.nd rfl (Or.inl rfl)) pgs_nil)))) (pss_one (ps_if (pt_cmpR op_gt (pv 3) (pe_call GR (hr.mono (by omega)) (by rfl) T.gR T.R.kp T.bR .nil pass0 (pa_cons (pv 4) (pa_cons (pv 1) pa_nil))) (nomark _)) (pss_one (ps_ret (pv 2))) pss_nil)))
      (pss_one (ps_ret pe_non))), ?_⟩
    refine ⟨.ref L, rfl, L, rfl, ⟨_, SqL.of hL⟩, ?_⟩
    refine for_it (walk_list (xs := as.map V.ref)) (fun i σ H' => ∃ y2 y3 y4 : Option V, σ = [some (.ref L), some (.ref b), y2, y3, y4] ∧ Same H H' ∧ ∀ ds ∈ dss.take i, ovB rows ps n cs ds = false)
      ⟨_, _, _, rfl, Same.refl _, fun ds h => by simp at h⟩ (fun i σ H' _ h => by obtain ⟨_, _, _, _, sm, _⟩ := h; exact SqL.of (sm _ _ hL)) (fun i x σ H' H2 hi h y => ?_) (fun σ H' h => ?_)
    · obtain ⟨y2, y3, y4, rfl, sm, hno⟩ := h
      obtain ⟨rfl, hx⟩ := y
      obtain ⟨a, ha, rfl⟩ := get_map hx
      rw [List.length_map] at hi
      have hid : i < dss.length := by rw [← la.len]; exact hi
      have hdi : dss[i]? = some dss[i] := List.getElem?_eq_getElem hid
      have hmem := List.getElem_mem hid
      generalize he : dss[i] = dd at hdi hmem
      obtain ⟨d, tt, h1, h2, h3⟩ := la.at_ i a dd ha hdi
      refine ⟨a, [.ref d, .int (takenOf ps dd), .ref tt], rfl, .inl (.inl (sm _ _ h1)), rfl, .ref d, [.int (takenOf ps dd), .ref tt], rfl, .int (takenOf ps dd), [.ref tt], rfl, .ref tt, [], rfl, rfl, ?_⟩
      have htl : (totL rows n dd).length ≤ n := by
        unfold totL
        rw [tot_len]
        split <;> omega
      refine ⟨_, rfl, _, rfl, _, rfl, tt, b, totL rows n dd, cs, rfl, sm _ _ h3, sm _ _ hb, by omega, by omega, fun H3 s3 => ?_⟩
      refine ⟨_, _, rfl, rfl, _, rfl, ite2 (fun e => ?_) (fun e => ?_)⟩
      · exact ⟨_, rfl, q2 _ d dd (sm.trans s3) (find_at hdi hno e) hmem e (s3 _ _ (sm _ _ h2))⟩
      · refine ⟨_, _, _, rfl, sm.trans s3, fun ds hds => ?_⟩
        rw [List.take_add_one, hdi] at hds
        rcases List.mem_append.mp hds with h | h
        · exact hno ds h
        · have : ds = dd := by simpa using h
          rw [this]
          exact Bool.eq_false_iff.mpr e
    · obtain ⟨y2, y3, y4, rfl, sm, hno⟩ := h
      rw [List.length_map, la.len, List.take_length] at hno
      exact q1 _ sm hno
end
end DD
namespace DD
open PySem PySem.Spec PyProof.Rows L2 RZ DM
section
variable {P : Program} {w : World} {K : PySem.W.Frag} {mg : Str → Option Value} {base : Heap}
def spRoomL : Sp := fun vs H Q _ => ∃ (a b : Addr) (ts : List Int) (cs : List (Option Int)), vs = [.ref a, .ref b] ∧ H a = some (.tup (ts.map V.int)) ∧ H b = some (.lst (cs.map optI)) ∧ ts.length ≤ cs.length ∧ ts.length ≤ 100 ∧
  ∀ H', Same H H' → Q (.int (List.zipWith capv ts cs).sum) H'
theorem ok_rooml {f fN fU fTu fA fAu fO fFu fCo fSp fCa fIr fTk fI fR fFc fLo fSo fOv fDw fSv fCh fUd fEt fAo fAd fDk fD fS fTt fW fPl fLu fLs fLc fM fE fX fNu fId fKn fHo fAy fOo fRp fAt fVa : Addr} {fd dN dU dTu dA dAu dO dFu dCo dSp dCa dIr dTk dI dR dFc dLo dSo dOv dDw dSv dCh dUd dEt dAo dAd dDk dD dS dTt dW dPl dLu dLs dLc dM dE dX dNu dId dKn dHo dAy dOo dRp dAt dVa : FuncData} {k : Nat} (F : Fun K "room_of" "room_of" sRoomOf f fd) (T : Tx K mg fN fU fTu fA fAu fO fFu fCo fSp fCa fIr fTk fI fR fFc fLo fSo fOv fDw fSv fCh fUd fEt fAo fAd fDk fD fS fTt fW fPl fLu fLs fLc fM fE fX fNu fId fKn fHo fAy fOo fRp fAt fVa dN dU dTu dA dAu dO dFu dCo dSp dCa dIr dTk dI dR dFc dLo dSo dOv dDw dSv dCh dUd dEt dAo dAd dDk dD dS dTt dW dPl dLu dLs dLc dM dE dX dNu dId dKn dHo dAy dOo dRp dAt dVa) :
    FnOk P w K mg base CX0 (k + 1) f fd ["totals", "caps"] spRoomL := by
  refine F.ok scRoomOf (fun vs H Q E h => ?_) (fun cdv A outer s H vs Q E hr h => ?_)
  · obtain ⟨a, b, ts, cs, rfl, _⟩ := h
    rfl
  · obtain ⟨a, b, ts, cs, rfl, ha, hb, hl, h100, q⟩ := h
    refine ⟨_, (pss_one (ps_ret (pe_callB (show CallR _ _ (rSum K) from cr_sum rfl) (by rfl) T.m_sum (by decide +kernel) (pa_cons (pe_lc (own := [("total", 2), ("cap", 3)]) (g := gTup K 2 (gCons (gName 2) (gCons (gName 3) gNil))) rfl scRoomOf.nd (pi_zipM (by rfl) T.m_zip (pa_cons (pv 0) (pa_cons (pv 1) pa_nil))) (blkOk_by (own := [("total", 2), ("cap", 3)]) (N := ["totals", "caps", "total", "cap"]) (sc := defScope sRoomOf) (by decide +kernel)) (fun _ _ _ _ _ => (pg_tup rfl (pgs_cons (pg_name (i := 2) scRoomOf.nd rfl (Or.inl rfl)) (pgs_cons (pg_name (i := 3) scRoomOf.nd rfl (Or.inl rfl)) pgs_nil)))) (fun _ _ _ _ _ => pts_nil) (fun _ _ _ _ _ => (pe_ifExp (pt_cmpR op_isN (pv 3) pe_non (nomark _)) (pv 2) (pe_callB (call_min2 rfl) (by rfl) T.m_min (by decide +kernel) (pa_cons (pv 2) (pa_cons (pv 3) pa_nil)))))) pa_nil)))), ?_⟩
    refine ⟨.ref a, rfl, .ref b, rfl, kd2 a true false, [a, b], [ts.map V.int, cs.map optI], (ts.map V.int).length, rfl, by simp, by simp, fun r e => by cases e; rfl, rwm2 (SqT.of ha) (SqL.of hb) (by rw [List.length_map, List.length_map]; exact hl) (fun e => by rw [e, hb] at ha; cases ha), fun D nD => ?_⟩
    refine lc_it walk_zm (fun i H' => H' D = some (.lst (((List.zipWith capv ts cs).take i).map V.int)) ∧ Same H H') ⟨upd_same, same_new nD⟩
      (fun i H' _ h => rwm2 (b1 := true) (b2 := false) (SqT.of (h.2 _ _ ha)) (SqL.of (h.2 _ _ hb)) (by rw [List.length_map, List.length_map]; exact hl) (fun e => by rw [e, hb] at ha; cases ha)) (fun i x H' H1 hi h y => ?_) (fun H' h => ?_)
    · obtain ⟨hD, sm⟩ := h
      obtain ⟨T1, rfl, nT, rfl⟩ := y
      rw [List.length_map] at hi
      have ht : ts[i]? = some ts[i] := List.getElem?_eq_getElem hi
      have ho : cs[i]? = some (cs[i]'(by omega)) := List.getElem?_eq_getElem (by omega)
      generalize ts[i] = t at ht
      generalize cs[i]'(by omega) = o at ho
      rw [col2 (x := V.int t) (y := optI o) (by rw [List.getElem?_map, ht]; rfl) (by rw [List.getElem?_map, ho]; rfl)]
      have sT : Same H' (upd H' T1 (.tup [.int t, optI o])) := same_new nT
      have hz := zw_get ht ho
      have fin : ∃ acc, (upd H' T1 (.tup [.int t, optI o])) D = some (.lst acc) ∧ acc.length < sizeLine ∧
          ((upd (upd H' T1 (.tup [.int t, optI o])) D (.lst (acc ++ [V.int (capv t o)]))) D = some (.lst (((List.zipWith capv ts cs).take (i + 1)).map V.int)) ∧ Same H (upd (upd H' T1 (.tup [.int t, optI o])) D (.lst (acc ++ [V.int (capv t o)])))) := by
        refine ⟨_, sT _ _ hD, ?_, ?_, fun b' o' e => ?_⟩
        · rw [List.length_map, List.length_take, List.length_zipWith]
          exact len_lt (by omega)
        · rw [upd_same, take_succ_map hz]
        · rw [upd_ne (ne_of_none e nD)]
          exact sT _ _ (sm b' o' e)
      refine ⟨T1, [.int t, optI o], rfl, .inl (.inl upd_same), rfl, .int t, [optI o], rfl, optI o, [], rfl, rfl, rfl, ?_⟩
      cases o with
      | none => exact ⟨_, rfl, rfl, _, rfl, iteT ⟨_, rfl, fin⟩⟩
      | some c => exact ⟨_, rfl, rfl, _, rfl, iteNx rfl ⟨_, rfl, _, rfl, t, c, rfl, fin⟩⟩
    · obtain ⟨hD, sm⟩ := h
      rw [List.length_map, List.take_of_length_le (by rw [List.length_zipWith]; omega)] at hD
      exact ⟨D, _, rfl, SqL.of hD, q _ sm⟩
/-- what a set of drawers leaves for a kind that is given elsewhere -/
def spareAt (rows : List (List Int)) (ps : List Int) (n : Nat) (left : List Int) (kind : Nat) (ds : List Nat) : Int := (List.zipWith capv (totL rows n ds) ((left.set kind 0).map some)).sum - takenOf ps ds
def IsSpare (rows : List (List Int)) (ps : List Int) (n : Nat) (left : List Int) (kind : Nat) (dss : List (List Nat)) (v : Int) : Prop :=
  ∃ m, m ∈ dss.map (spareAt rows ps n left kind) ∧ (∀ y ∈ dss.map (spareAt rows ps n left kind), m ≤ y) ∧ v = left.getD kind 0 + m
abbrev NSv : List Str := ["loads", "caps", "kind", "without", "_", "taken", "totals"]
theorem scSpare : FnScope NSv ["loads", "caps", "kind"] (defScope sSpare) := ⟨rfl, rfl, rfl, by decide +kernel, rfl, by decide +kernel, by decide +kernel⟩
def spSpare : Sp := fun vs H Q _ => ∃ (L c : Addr) (kind : Nat) (as : List Addr) (rows : List (List Int)) (ps : List Int) (n : Nat) (dss : List (List Nat)) (left : List Int), vs = [.ref L, .ref c, .int kind] ∧ H L = some (.lst (as.map V.ref)) ∧ LoadsAt H rows ps n as dss ∧
  H c = some (.lst (left.map V.int)) ∧ left.length = n ∧ kind < n ∧ n ≤ 100 ∧ dss ≠ [] ∧ dss.length ≤ 16 ∧
  ∀ H' v, Same H H' → IsSpare rows ps n left kind dss v → Q (.int v) H'
theorem optI_some (l : List Int) : (l.map some).map optI = l.map V.int := by
  rw [List.map_map]
  rfl
theorem ok_spare {f fN fU fTu fA fAu fO fFu fCo fSp fCa fIr fTk fI fR fFc fLo fSo fOv fDw fSv fCh fUd fEt fAo fAd fDk fD fS fTt fW fPl fLu fLs fLc fM fE fX fNu fId fKn fHo fAy fOo fRp fAt fVa : Addr} {fd dN dU dTu dA dAu dO dFu dCo dSp dCa dIr dTk dI dR dFc dLo dSo dOv dDw dSv dCh dUd dEt dAo dAd dDk dD dS dTt dW dPl dLu dLs dLc dM dE dX dNu dId dKn dHo dAy dOo dRp dAt dVa : FuncData} {k : Nat} (F : Fun K "spare_of" "spare_of" sSpare f fd) (T : Tx K mg fN fU fTu fA fAu fO fFu fCo fSp fCa fIr fTk fI fR fFc fLo fSo fOv fDw fSv fCh fUd fEt fAo fAd fDk fD fS fTt fW fPl fLu fLs fLc fM fE fX fNu fId fKn fHo fAy fOo fRp fAt fVa dN dU dTu dA dAu dO dFu dCo dSp dCa dIr dTk dI dR dFc dLo dSo dOv dDw dSv dCh dUd dEt dAo dAd dDk dD dS dTt dW dPl dLu dLs dLc dM dE dX dNu dId dKn dHo dAy dOo dRp dAt dVa) :
    FnOk P w K mg base CX0 (k + 2) f fd ["loads", "caps", "kind"] spSpare := by
  have GR : FnOk P w K mg base CX0 (k + 1) fR dR ["totals", "caps"] spRoomL := ok_rooml T.R T
  refine F.ok scSpare (fun vs H Q E h => ?_) (fun cdv A outer s H vs Q E hr h => ?_)
  · obtain ⟨L, c, kind, as, rows, ps, n, dss, left, rfl, _⟩ := h
    rfl
  · obtain ⟨L, c, kind, as, rows, ps, n, dss, left, rfl, hL, la, hc, hcl, hk, hn, hne, h16, q⟩ := h
    refine ⟨_, (pss_cons (ps_set (i := 3) scSpare.nd rfl (.inr rfl) (pe_callTy call_list_of (by rfl) T.m_list (by decide +kernel) (pa_cons (pv 1) pa_nil)))
      (pss_cons (ps_asg pe_int (pg_sub (pv 3) (pv 2) set_list))
      (pss_one (ps_ret (pe_op op_add (pe_ix (show IxR _ (rIxL K) from ix_list) (pv 1) (pv 2) (fun _ _ => rfl)) (pe_callB (show CallR _ _ (rMin K) from cr_min rfl) (by rfl) T.m_min (by decide +kernel) (pa_cons (pe_lc (own := [("_", 4), ("taken", 5), ("totals", 6)]) (g := gTup K 3 (gCons (gName 4) (gCons (gName 5) (gCons (gName 6) gNil)))) rfl scSpare.nd (pi_list (pv 0)) (blkOk_by (own := [("_", 4), ("taken", 5), ("totals", 6)]) (N := NSv) (sc := defScope sSpare) (by decide +kernel)) (fun _ _ _ _ _ => (pg_tup rfl (pgs_cons (pg_name (i := 4) scSpare.nd rfl (Or.inl rfl)) (pgs_cons (pg_name (i := 5) scSpare.nd rfl (Or.inl rfl)) (pgs_cons (pg_name (i := 6) scSpare.nd rfl (Or.inl rfl)) pgs_nil))))) (fun _ _ _ _ _ => pts_nil) (fun _ _ _ _ _ => (pe_op op_sub (pe_call GR (hr.mono (by omega)) (by rfl) T.gR T.R.kp T.bR .nil pass0 (pa_cons (pv 6) (pa_cons (pv 3) pa_nil))) (pv 5)))) pa_nil))))))), ?_⟩
    refine ⟨_, rfl, c, left.map V.int, rfl, .inl (SqL.of hc), fun W nW => ?_⟩
    have s0 : Same H (upd H W (.lst (left.map V.int))) := same_new nW
    have hcW : c ≠ W := fun z => by rw [z, nW] at hc; cases hc
    have hix : ixN (left.map V.int).length ((kind : Nat) : Int) = some kind := by
      unfold ixN
      rw [if_pos (by omega), if_pos (by rw [List.length_map]; omega)]
      simp
    refine ⟨_, rfl, _, rfl, W, _, (kind : Int), kind, rfl, rfl, upd_same, hix, ?_⟩
    have s1 : Same H (upd (upd H W (.lst (left.map V.int))) W (.lst ((left.map V.int).set kind (.int 0)))) := fun b o e => by
      rw [upd_ne (ne_of_none e nW), upd_ne (ne_of_none e nW)]
      exact e
    have hW : (upd (upd H W (.lst (left.map V.int))) W (.lst ((left.map V.int).set kind (.int 0)))) W = some (.lst (((left.set kind 0).map some).map optI)) := by
      rw [upd_same, optI_some, List.map_set]
    generalize upd (upd H W (.lst (left.map V.int))) W (.lst ((left.map V.int).set kind (.int 0))) = H1 at s1 hW ⊢
    have gk : (left.map V.int)[kind]? = some (.int (left.getD kind 0)) := by
      rw [List.getElem?_map, getD_of (d := 0) (by omega)]
      rfl
    refine ⟨.ref c, rfl, _, rfl, c, _, (kind : Int), .int (left.getD kind 0), rfl, rfl, SqL.of (s1 _ _ hc), atI_nat gk, ?_⟩
    refine ⟨.ref L, rfl, L, rfl, ⟨_, SqL.of (s1 _ _ hL)⟩, fun D nD => ?_⟩
    refine lc_it (walk_list (xs := as.map V.ref)) (fun i H' => H' D = some (.lst (((dss.map (spareAt rows ps n left kind)).take i).map V.int)) ∧ Same H1 H') ⟨upd_same, same_new nD⟩
      (fun i H' _ h => SqL.of (h.2 _ _ (s1 _ _ hL))) (fun i x H' H2 hi h y => ?_) (fun H' h => ?_)
    · obtain ⟨hD, sm⟩ := h
      obtain ⟨rfl, hx⟩ := y
      obtain ⟨a, ha, rfl⟩ := get_map hx
      rw [List.length_map] at hi
      have hid : i < dss.length := by rw [← la.len]; exact hi
      have hdi : dss[i]? = some dss[i] := List.getElem?_eq_getElem hid
      generalize dss[i] = dd at hdi
      obtain ⟨d, tt, h1, h2, h3⟩ := la.at_ i a dd ha hdi
      have s2 := s1.trans sm
      have htl : (totL rows n dd).length ≤ n := by
        unfold totL
        rw [tot_len]
        split <;> omega
      refine ⟨a, [.ref d, .int (takenOf ps dd), .ref tt], rfl, .inl (.inl (s2 _ _ h1)), rfl, .ref d, [.int (takenOf ps dd), .ref tt], rfl, .int (takenOf ps dd), [.ref tt], rfl, .ref tt, [], rfl, rfl, rfl, ?_⟩
      refine ⟨_, rfl, _, rfl, tt, W, totL rows n dd, (left.set kind 0).map some, rfl, s2 _ _ h3, sm _ _ hW, by rw [List.length_map, List.length_set]; omega, by omega, fun H3 s3 => ?_⟩
      refine ⟨_, rfl, _, _, rfl, rfl, _, s3 _ _ hD, ?_, ?_, fun b' o' e => ?_⟩
      · rw [List.length_map, List.length_take, List.length_map]
        exact len_lt (by omega)
      · rw [upd_same, take_succ_map (by rw [List.getElem?_map, hdi]; rfl)]
        rfl
      · rw [upd_ne (ne_of_none e nD)]
        exact s3 _ _ (sm b' o' e)
    · obtain ⟨hD, sm⟩ := h
      rw [List.length_map, la.len, List.take_of_length_le (by rw [List.length_map]; exact Nat.le_refl _)] at hD
      refine ⟨_, _, rfl, SqL.of hD, ?_, fun m hm hmin => ?_⟩
      · rw [List.length_map]
        exact List.length_pos_iff.mpr hne
      · exact ⟨_, _, rfl, rfl, q _ _ (s1.trans sm) ⟨m, hm, hmin, rfl⟩⟩
end
end DD
namespace DD
open PySem PySem.Spec PyProof.Rows L2 RZ DM
def spareV (rows : List (List Int)) (ps : List Int) (n : Nat) (left : List Int) (kind : Nat) (dss : List (List Nat)) : Int := left.getD kind 0 + ((dss.map (spareAt rows ps n left kind)).min?).getD 0
theorem IsSpare.eq {rows : List (List Int)} {ps : List Int} {n : Nat} {left : List Int} {kind : Nat} {dss : List (List Nat)} {v : Int} (h : IsSpare rows ps n left kind dss v) : v = spareV rows ps n left kind dss := by
  obtain ⟨m, hm, hle, rfl⟩ := h
  have : (dss.map (spareAt rows ps n left kind)).min? = some m := List.min?_eq_some_iff.mpr ⟨hm, hle⟩
  unfold spareV
  rw [this]
  rfl
/-- the state after j kinds of a drawer: counts, what is left of the caps, the number that is still wanted -/
def gSt (rows : List (List Int)) (ps : List Int) (n : Nat) (dss : List (List Nat)) (dr left0 : List Int) (num0 : Int) : Nat → List Int × List Int × Int
  | 0 => ([], left0, num0)
  | j + 1 =>
    let s := gSt rows ps n dss dr left0 num0 j
    let c := min (min s.2.2 (dr.getD j 0)) (spareV rows ps n s.2.1 j dss)
    (s.1 ++ [c], s.2.1.set j (s.2.1.getD j 0 - c), s.2.2 - c)
/-- the state after p drawers -/
def wSt (rows : List (List Int)) (ps : List Int) (n : Nat) (left0 : List Int) : Nat → List (List Int) × List Int
  | 0 => ([], left0)
  | p + 1 =>
    let s := wSt rows ps n left0 p
    let r := gSt (rows.drop (p + 1)) (ps.drop (p + 1)) n (pSets (rows.length - (p + 1))) (rows.getD p []) s.2 (ps.getD p 0) n
    (s.1 ++ [r.1], r.2.1)
def capl (t : Int) : Option Int → Int
  | none => t
  | some c => c
def left0 (rows : List (List Int)) (n : Nat) (cs : List (Option Int)) : List Int := List.zipWith capl (totalsOf rows n) cs
def drawOf (rows : List (List Int)) (ps : List Int) (n : Nat) (cs : List (Option Int)) : List (List Int) := (wSt rows ps n (left0 rows n cs) rows.length).1
theorem gSt_succ (rows : List (List Int)) (ps : List Int) (n : Nat) (dss : List (List Nat)) (dr l0 : List Int) (num0 : Int) (j : Nat) : gSt rows ps n dss dr l0 num0 (j + 1) =
    ((gSt rows ps n dss dr l0 num0 j).1 ++ [min (min (gSt rows ps n dss dr l0 num0 j).2.2 (dr.getD j 0)) (spareV rows ps n (gSt rows ps n dss dr l0 num0 j).2.1 j dss)], (gSt rows ps n dss dr l0 num0 j).2.1.set j ((gSt rows ps n dss dr l0 num0 j).2.1.getD j 0 - min (min (gSt rows ps n dss dr l0 num0 j).2.2 (dr.getD j 0)) (spareV rows ps n (gSt rows ps n dss dr l0 num0 j).2.1 j dss)), (gSt rows ps n dss dr l0 num0 j).2.2 - min (min (gSt rows ps n dss dr l0 num0 j).2.2 (dr.getD j 0)) (spareV rows ps n (gSt rows ps n dss dr l0 num0 j).2.1 j dss)) := rfl
theorem gSt_len (rows : List (List Int)) (ps : List Int) (n : Nat) (dss : List (List Nat)) (dr l0 : List Int) (num0 : Int) : ∀ j, (gSt rows ps n dss dr l0 num0 j).1.length = j ∧ (gSt rows ps n dss dr l0 num0 j).2.1.length = l0.length
  | 0 => ⟨rfl, rfl⟩
  | j + 1 => by
    obtain ⟨h1, h2⟩ := gSt_len rows ps n dss dr l0 num0 j
    constructor
    · show (_ ++ [_]).length = _
      rw [List.length_append, h1]
      rfl
    · show (List.set _ _ _).length = _
      rw [List.length_set, h2]
theorem wSt_len (rows : List (List Int)) (ps : List Int) (n : Nat) (l0 : List Int) : ∀ p, (wSt rows ps n l0 p).1.length = p ∧ (wSt rows ps n l0 p).2.length = l0.length
  | 0 => ⟨rfl, rfl⟩
  | p + 1 => by
    obtain ⟨h1, h2⟩ := wSt_len rows ps n l0 p
    constructor
    · show (_ ++ [_]).length = _
      rw [List.length_append, h1]
      rfl
    · show (gSt _ _ _ _ _ _ _ _).2.1.length = _
      rw [(gSt_len _ _ _ _ _ _ _ _).2, h2]
theorem min3_int (a b c : Int) : nuMin3 (.int a) (.int b) (.int c) = some (.int (min (min a b) c)) := by
  show (Option.map (fun c => if c = true then V.int b else V.int a) (some (decide (b < a)))).bind (fun m => nuMin2 m (.int c)) = _
  have e : (if decide (b < a) = true then V.int b else V.int a) = V.int (min a b) := by
    by_cases h : b < a
    · rw [if_pos (decide_eq_true h), Int.min_def, if_neg (by omega)]
    · rw [if_neg (by rw [decide_eq_true_eq]; exact h), Int.min_def, if_pos (by omega)]
  show nuMin2 (if decide (b < a) = true then V.int b else V.int a) (.int c) = _
  rw [e]
  show some (if decide (c < min a b) = true then V.int c else V.int (min a b)) = _
  congr 1
  by_cases h : c < min a b
  · rw [if_pos (decide_eq_true h), Int.min_def (min a b) c, if_neg (by omega)]
  · rw [if_neg (by rw [decide_eq_true_eq]; exact h), Int.min_def (min a b) c, if_pos (by omega)]
theorem zl_get {ts : List Int} {cs : List (Option Int)} {i : Nat} {t : Int} {o : Option Int} (h1 : ts[i]? = some t) (h2 : cs[i]? = some o) : (List.zipWith capl ts cs)[i]? = some (capl t o) := by
  rw [List.getElem?_zipWith, h1, h2]
theorem ixN_nat {m kd : Nat} (h : kd < m) : ixN m (kd : Int) = some kd := by
  unfold ixN
  rw [if_pos (by omega), if_pos (by omega)]
  simp
theorem ps_ne (m : Nat) : pSets m ≠ [] := fun h => by
  have := ps_len m
  rw [h] at this
  have : 0 < 2 ^ m := Nat.pow_pos (by decide)
  simp at *
  omega
abbrev NDw : List Str := ["stock", "caps", "plan", "left", "draw", "place", "drawer", "later", "number", "counts", "kind", "things", "count", "total", "cap"]
theorem scWithin : FnScope NDw ["stock", "caps", "plan"] (defScope sWithin) := ⟨rfl, rfl, rfl, by decide +kernel, rfl, by decide +kernel, by decide +kernel⟩
section
variable {P : Program} {w : World} {K : PySem.W.Frag} {mg : Str → Option Value} {base : Heap}
def spWithin : Sp := fun vs H Q _ => ∃ (t b p : Addr) (ls : List Addr) (rows : List (List Int)) (ps : List Int) (n : Nat) (cs : List (Option Int)), vs = [.ref t, .ref b, .ref p] ∧ StockAt H t ls rows ∧ 1 ≤ rows.length ∧ rows.length ≤ 4 ∧ (∀ r ∈ rows, r.length = n) ∧ n ≤ 100 ∧
  H b = some (.tup (cs.map optI)) ∧ cs.length = n ∧ H p = some (.tup (ps.map V.int)) ∧ ps.length = rows.length ∧
  ∀ D ds H', Same H H' → StockAt H' D ds (drawOf rows ps n cs) → Q (.ref D) H'
set_option maxHeartbeats 1600000 in
theorem ok_within {f fN fU fTu fA fAu fO fFu fCo fSp fCa fIr fTk fI fR fFc fLo fSo fOv fDw fSv fCh fUd fEt fAo fAd fDk fD fS fTt fW fPl fLu fLs fLc fM fE fX fNu fId fKn fHo fAy fOo fRp fAt fVa : Addr} {fd dN dU dTu dA dAu dO dFu dCo dSp dCa dIr dTk dI dR dFc dLo dSo dOv dDw dSv dCh dUd dEt dAo dAd dDk dD dS dTt dW dPl dLu dLs dLc dM dE dX dNu dId dKn dHo dAy dOo dRp dAt dVa : FuncData} {k : Nat} (F : Fun K "draw_within" "draw_within" sWithin f fd) (T : Tx K mg fN fU fTu fA fAu fO fFu fCo fSp fCa fIr fTk fI fR fFc fLo fSo fOv fDw fSv fCh fUd fEt fAo fAd fDk fD fS fTt fW fPl fLu fLs fLc fM fE fX fNu fId fKn fHo fAy fOo fRp fAt fVa dN dU dTu dA dAu dO dFu dCo dSp dCa dIr dTk dI dR dFc dLo dSo dOv dDw dSv dCh dUd dEt dAo dAd dDk dD dS dTt dW dPl dLu dLs dLc dM dE dX dNu dId dKn dHo dAy dOo dRp dAt dVa) :
    FnOk P w K mg base CX0 (k + 3) f fd ["stock", "caps", "plan"] spWithin := by
  have GO : FnOk P w K mg base CX0 (k + 1) fO dO ["stock"] (spTotals K) := ok_totals T.O T.m_tuple T.m_sum T.m_zip
  have GLo : FnOk P w K mg base CX0 (k + 2) fLo dLo ["stock", "plan"] spLoads := ok_loads T.Lo T
  have GSv : FnOk P w K mg base CX0 (k + 2) fSv dSv ["loads", "caps", "kind"] spSpare := ok_spare T.Sv T
  refine F.ok scWithin (fun vs H Q E h => ?_) (fun cdv A outer s H vs Q E hr h => ?_)
  · obtain ⟨t, b, p, ls, rows, ps, n, cs, rfl, _⟩ := h
    rfl
  · obtain ⟨t, b, p, ls, rows, ps, n, cs, rfl, st, hr1, hr4, hrn, hn, hb, hcl, hp, hpl, q⟩ := h
    refine ⟨_, (pss_cons (ps_setLc (i := 3) (own := [("total", 13), ("cap", 14)]) (g := gTup K 2 (gCons (gName 13) (gCons (gName 14) gNil))) rfl scWithin.nd rfl rfl (sw_true rfl rfl rfl (by decide +kernel)) (pi_zipA (by rfl) T.m_zip (pa_cons (pe_call GO (hr.mono (by omega)) (by rfl) T.gO T.O.kp T.bO .nil pass0 (pa_cons (pv 0) pa_nil)) (pa_cons (pv 1) pa_nil))) (blkOk_by (own := [("total", 13), ("cap", 14)]) (N := NDw) (sc := defScope sWithin) (by decide +kernel)) (fun _ _ _ _ _ => (pg_tup rfl (pgs_cons (pg_name (i := 13) scWithin.nd rfl (Or.inl rfl)) (pgs_cons (pg_name (i := 14) scWithin.nd rfl (Or.inl rfl)) pgs_nil)))) (fun _ _ _ _ _ => pts_nil) (fun _ _ _ _ _ => (pe_ifExp (pt_cmpR op_isN (pv 14) pe_non (nomark _)) (pv 13) (pv 14))))
      (pss_cons (ps_set (i := 4) scWithin.nd rfl (.inl rfl) (pe_lst pa_nil))
      (pss_cons (ps_for PassesOwn.never rfl (pi_enumT (by rfl) T.m_enumerate (pa_cons (pv 0) pa_nil)) (pg_tup rfl (pgs_cons (pg_name (i := 5) scWithin.nd rfl (Or.inl rfl)) (pgs_cons (pg_name (i := 6) scWithin.nd rfl (Or.inl rfl)) pgs_nil))) (pss_cons (ps_set (i := 7) scWithin.nd rfl (.inl rfl) (pe_call GLo (hr.mono (by omega)) (by rfl) T.gLo T.Lo.kp T.bLo .nil pass0 (pa_cons (pe_slice sl_tupQ (pv 0) (po_some (pe_op op_add (pv 5) pe_int)) po_none) (pa_cons (pe_slice sl_tupQ (pv 2) (po_some (pe_op op_add (pv 5) pe_int)) po_none) pa_nil))))
      (pss_cons (ps_set (i := 8) scWithin.nd rfl (.inl rfl) (pe_ix (show IxR _ (rIxT K) from ix_tup) (pv 2) (pv 5) (fun _ _ => rfl)))
      (pss_cons (ps_set (i := 9) scWithin.nd rfl (.inl rfl) (pe_lst pa_nil))
      (pss_cons (ps_for PassesOwn.never rfl (pi_enumT (by rfl) T.m_enumerate (pa_cons (pv 6) pa_nil)) (pg_tup rfl (pgs_cons (pg_name (i := 10) scWithin.nd rfl (Or.inl rfl)) (pgs_cons (pg_name (i := 11) scWithin.nd rfl (Or.inl rfl)) pgs_nil))) (pss_cons (ps_set (i := 12) scWithin.nd rfl (.inl rfl) (pe_callB (call_min3Nu rfl) (by rfl) T.m_min (by decide +kernel) (pa_cons (pv 8) (pa_cons (pv 11) (pa_cons (pe_call GSv (hr.mono (by omega)) (by rfl) T.gSv T.Sv.kp T.bSv .nil pass0 (pa_cons (pv 7) (pa_cons (pv 3) (pa_cons (pv 10) pa_nil)))) pa_nil)))))
      (pss_cons (ps_set (i := 8) scWithin.nd rfl (.inl rfl) (pe_op op_sub (pv 8) (pv 12)))
      (pss_cons (ps_asg (pe_op op_sub (pe_ix (show IxR _ (rIxL K) from ix_list) (pv 3) (pv 10) (fun _ _ => rfl)) (pv 12)) (pg_sub (pv 3) (pv 10) set_list))
      (pss_one (ps_expr (pe_bm PySem.F.plainAttrs_list PySem.F.slot_list_append PySem.F.type_list_append mt_append (pv 9) (pa_cons (pv 12) pa_nil))))))))
      (pss_one (ps_expr (pe_bm PySem.F.plainAttrs_list PySem.F.slot_list_append PySem.F.type_list_append mt_append (pv 4) (pa_cons (pe_callTy call_tuple_of (by rfl) T.m_tuple (by decide +kernel) (pa_cons (pv 9) pa_nil)) pa_nil)))))))))
      (pss_one (ps_ret (pe_callTy call_tuple_of (by rfl) T.m_tuple (by decide +kernel) (pa_cons (pv 4) pa_nil))))))), ?_⟩
    have hrne : rows ≠ [] := fun z => by rw [z] at hr1; simp at hr1
    refine ⟨_, rfl, t, ls, rows, n, rfl, .inl (SqT.of st.top), st.len, fun j l r e1 e2 => ⟨st.row j l r e1 e2, hrn r (List.mem_of_getElem? e2)⟩, fun z => absurd z hrne, hr4, hn, fun tt H1 s1 _ htt => ?_⟩
    have htl : (totalsOf rows n).length = n := by rw [tot_len]
    refine ⟨.ref b, rfl, tt, b, (totalsOf rows n).map V.int, cs.map optI, rfl, .inr ⟨SqT.of htt, SqT.of (s1 _ _ hb), fun L nL => ?_⟩⟩
    refine lc_it (walk_zipT (xs := (totalsOf rows n).map V.int) (ys := cs.map optI) (by rw [List.length_map, List.length_map]; omega)) (fun i H' => H' L = some (.lst (((left0 rows n cs).take i).map V.int)) ∧ Same H1 H') ⟨upd_same, same_new nL⟩
      (fun i H' _ h => ⟨SqT.of (h.2 _ _ htt), SqT.of (h.2 _ _ (s1 _ _ hb))⟩) (fun i x H' H2 hi h y => ?_) (fun H2 h => ?_)
    · obtain ⟨hD, sm⟩ := h
      obtain ⟨T1, x1, x2, rfl, nT, rfl, e1, e2⟩ := y
      obtain ⟨t', ht, rfl⟩ := get_map e1
      obtain ⟨o, ho, rfl⟩ := get_map e2
      have sT : Same H' (upd H' T1 (.tup [.int t', optI o])) := same_new nT
      have hz : (left0 rows n cs)[i]? = some (capl t' o) := zl_get ht ho
      have fin : ∃ acc, (upd H' T1 (.tup [.int t', optI o])) L = some (.lst acc) ∧ acc.length < sizeLine ∧
          ((upd (upd H' T1 (.tup [.int t', optI o])) L (.lst (acc ++ [V.int (capl t' o)]))) L = some (.lst (((left0 rows n cs).take (i + 1)).map V.int)) ∧ Same H1 (upd (upd H' T1 (.tup [.int t', optI o])) L (.lst (acc ++ [V.int (capl t' o)])))) := by
        refine ⟨_, sT _ _ hD, ?_, ?_, fun b' o' e => ?_⟩
        · rw [List.length_map, List.length_take]
          unfold left0
          rw [List.length_zipWith]
          exact len_lt (by omega)
        · rw [upd_same, take_succ_map hz]
        · rw [upd_ne (ne_of_none e nL)]
          exact sT _ _ (sm b' o' e)
      refine ⟨T1, [.int t', optI o], rfl, .inl (.inl upd_same), rfl, .int t', [optI o], rfl, optI o, [], rfl, rfl, rfl, ?_⟩
      cases o with
      | none => exact ⟨_, rfl, rfl, _, rfl, iteT ⟨_, rfl, fin⟩⟩
      | some c => exact ⟨_, rfl, rfl, _, rfl, iteNx rfl ⟨_, rfl, fin⟩⟩
    obtain ⟨hL, s12⟩ := h
    have hll : (left0 rows n cs).length = n := by
      unfold left0
      rw [List.length_zipWith]
      omega
    rw [List.length_map, htl, List.take_of_length_le (by omega)] at hL
    have s2 := s1.trans s12
    have nHL : H L = none := s1.free nL
    have hq : drawOf rows ps n cs = (wSt rows ps n (left0 rows n cs) rows.length).1 := rfl
    rw [hq] at q
    generalize left0 rows n cs = L0 at hL hll q
    refine ⟨Nat.zero_le _, fun D nD => ?_⟩
    have hLD : L ≠ D := fun z => by rw [z, nD] at hL; cases hL
    have s3 := s2.trans (same_new (o := .lst []) nD)
    have nHD : H D = none := s2.free nD
    have hL3 : (upd H2 D (.lst [])) L = some (.lst (L0.map V.int)) := by
      rw [upd_ne hLD]
      exact hL
    have hD3 : (upd H2 D (.lst [])) D = some (.lst (([] : List Addr).map V.ref)) := upd_same
    generalize upd H2 D (.lst []) = H3 at s3 hL3 hD3 ⊢
    refine ⟨_, rfl, t, ls.map V.ref, rfl, SqT.of (s3 _ _ st.top), ?_⟩
    refine for_enT (xs := ls.map V.ref) (c := 0) (fun i σ H' => ∃ (as : List Addr) (y5 y6 y7 y8 y9 y10 y11 y12 : Option V), σ = [some (.ref t), some (.ref b), some (.ref p), some (.ref L), some (.ref D), y5, y6, y7, y8, y9, y10, y11, y12, none, none] ∧ Same H H' ∧
        H' L = some (.lst ((wSt rows ps n L0 i).2.map V.int)) ∧ H' D = some (.lst (as.map V.ref)) ∧ as.length = i ∧ (∀ (j : Nat) (a : Addr) (r : List Int), as[j]? = some a → (wSt rows ps n L0 i).1[j]? = some r → H' a = some (.tup (r.map V.int))))
      ⟨[], _, _, _, _, _, _, _, _, rfl, s3, hL3, hD3, rfl, fun j a r e => by simp at e⟩
      (fun i σ H' _ h => by obtain ⟨_, _, _, _, _, _, _, _, _, _, sm, _⟩ := h; exact SqT.of (sm _ _ st.top)) (fun i x T4 σ H4 hx h nT => ?_) (fun σ H4 h => ?_)
    · obtain ⟨as, y5, y6, y7, y8, y9, y10, y11, y12, rfl, sm, hL4, hD4, hal, hat⟩ := h
      obtain ⟨l, hli, rfl⟩ := get_map hx
      have hil : i < rows.length := by
        have := (List.getElem?_eq_some_iff.mp hli).1
        have := st.len
        omega
      have hri : rows[i]? = some (rows.getD i []) := getD_of hil
      have hrl := st.row i l _ hli hri
      have hrln := hrn _ (List.mem_of_getElem? hri)
      have hps : (ps.map V.int)[i]? = some (.int (ps.getD i 0)) := by
        rw [List.getElem?_map, getD_of (d := 0) (by omega)]
        rfl
      have sT := same_new (o := .tup [.int ((0 : Int) + (i : Nat)), .ref l]) nT
      have sm5 := sm.trans sT
      have hTT : (upd H4 T4 (.tup [.int ((0 : Int) + (i : Nat)), .ref l])) T4 = some (.tup [.int ((0 : Int) + (i : Nat)), .ref l]) := upd_same
      have hL5 := sT _ _ hL4
      have hD5 := sT _ _ hD4
      have hat5 : ∀ (j : Nat) (a : Addr) (r : List Int), as[j]? = some a → (wSt rows ps n L0 i).1[j]? = some r → (upd H4 T4 (.tup [.int ((0 : Int) + (i : Nat)), .ref l])) a = some (.tup (r.map V.int)) := fun j a r e1 e2 => sT _ _ (hat j a r e1 e2)
      generalize upd H4 T4 (.tup [.int ((0 : Int) + (i : Nat)), .ref l]) = H5 at sT sm5 hTT hL5 hD5 hat5 ⊢
      refine ⟨T4, [.int ((0 : Int) + (i : Nat)), .ref l], rfl, .inl (.inl hTT), rfl, .int ((0 : Int) + (i : Nat)), [.ref l], rfl, .ref l, [], rfl, rfl, ?_⟩
      -- later
      have e1 : ((0 : Int) + (i : Nat)) + 1 = ((i + 1 : Nat) : Int) := by omega
      refine ⟨.ref t, rfl, _, rfl, _, _, rfl, rfl, _, rfl, t, ls.map V.ref, rfl, sm5 _ _ st.top, fun t2 H6 s6 ht2 => ?_⟩
      rw [e1, cutV_from, ← List.map_drop] at ht2
      refine ⟨.ref p, rfl, _, rfl, _, _, rfl, rfl, _, rfl, p, ps.map V.int, rfl, s6 _ _ (sm5 _ _ hp), fun p2 H7 s7 hp2 => ?_⟩
      rw [e1, cut_from] at hp2
      have s57 := s6.trans s7
      have sm7 := sm5.trans s57
      refine ⟨t2, p2, ls.drop (i + 1), rows.drop (i + 1), ps.drop (i + 1), n, rfl, ⟨s7 _ _ ht2, by rw [List.length_drop, List.length_drop, st.len], fun j l' r' x1 x2 => ?_⟩, by rw [List.length_drop]; omega, fun r' hr' => hrn r' (List.mem_of_mem_drop hr'), hn, hp2, by rw [List.length_drop, List.length_drop, hpl], fun Z zs H8 s8 hZ la => ?_⟩
      · rw [List.getElem?_drop] at x1 x2
        exact sm7 _ _ (st.row _ l' r' x1 x2)
      have s58 := s57.trans s8
      have sm8 := sm5.trans s58
      -- number, counts
      refine ⟨.ref p, rfl, _, rfl, p, _, ((0 : Int) + (i : Nat)), .int (ps.getD i 0), rfl, rfl, SqT.of (sm8 _ _ hp), by rw [Int.zero_add]; exact atI_nat hps, ?_⟩
      refine ⟨Nat.zero_le _, fun C nC => ?_⟩
      have s9 := same_new (o := .lst []) nC
      have hC9 : (upd H8 C (.lst [])) C = some (.lst (([] : List Int).map V.int)) := upd_same
      have hL9 := s9 _ _ (s58 _ _ hL5)
      have hZ9 := s9 _ _ hZ
      have la9 := la.tk fun b' xs e => s9 _ _ e
      have hLC : L ≠ C := fun z => by rw [z] at hL5; rw [s58 _ _ hL5] at nC; cases nC
      have hZC : Z ≠ C := fun z => by rw [z, nC] at hZ; cases hZ
      have zne : zs ≠ [] := fun z => by
        have := la.len
        rw [z] at this
        exact ps_ne _ (List.eq_nil_of_length_eq_zero this.symm)
      have hZL : Z ≠ L := fun z => by
        rw [z, s58 _ _ hL5] at hZ
        have e := HO.lst.inj (Option.some.inj hZ)
        cases zs with
        | nil => exact zne rfl
        | cons z1 zr =>
          have hlen : ((wSt rows ps n L0 i).2.map V.int).length = ((z1 :: zr).map V.ref).length := by rw [e]
          cases hd : (wSt rows ps n L0 i).2 with
          | nil => rw [hd] at hlen; simp at hlen
          | cons q1 q2 => rw [hd] at e; simp at e
      have sm9 := sm8.trans s9
      have hD9 := s9 _ _ (s58 _ _ hD5)
      have hDL : D ≠ L := fun z => hLD z.symm
      have hDC : D ≠ C := fun z => by rw [z] at hD5; rw [s58 _ _ hD5] at nC; cases nC
      have hat9 : ∀ (j : Nat) (a : Addr) (r : List Int), as[j]? = some a → (wSt rows ps n L0 i).1[j]? = some r → (upd H8 C (.lst [])) a = some (.tup (r.map V.int)) := fun j a r e1 e2 => s9 _ _ (s58 _ _ (hat5 j a r e1 e2))
      generalize upd H8 C (.lst []) = H9 at s9 hC9 hL9 hZ9 la9 sm9 hD9 hat9 ⊢
      have hdl : (pSets (rows.drop (i + 1)).length).length ≤ 16 := by
        rw [ps_len, List.length_drop]
        exact Nat.pow_le_pow_right (n := 2) (by decide) (show rows.length - (i + 1) ≤ 4 by omega)
      rw [List.length_drop] at la9 hdl
      have hl2 := (wSt_len rows ps n L0 i).2
      refine ⟨_, rfl, l, (rows.getD i []).map V.int, rfl, SqT.of (sm9 _ _ hrl), ?_⟩
      refine for_enT (xs := (rows.getD i []).map V.int) (c := 0) (fun j σ H' => ∃ y10 y11 y12 : Option V, σ = [some (.ref t), some (.ref b), some (.ref p), some (.ref L), some (.ref D), some (.int ((0 : Int) + (i : Nat))), some (.ref l), some (.ref Z), some (.int (gSt (rows.drop (i + 1)) (ps.drop (i + 1)) n (pSets (rows.length - (i + 1))) (rows.getD i []) (wSt rows ps n L0 i).2 (ps.getD i 0) j).2.2), some (.ref C), y10, y11, y12, none, none] ∧
          Kp2 L C H9 H' ∧ H' L = some (.lst ((gSt (rows.drop (i + 1)) (ps.drop (i + 1)) n (pSets (rows.length - (i + 1))) (rows.getD i []) (wSt rows ps n L0 i).2 (ps.getD i 0) j).2.1.map V.int)) ∧
          H' C = some (.lst ((gSt (rows.drop (i + 1)) (ps.drop (i + 1)) n (pSets (rows.length - (i + 1))) (rows.getD i []) (wSt rows ps n L0 i).2 (ps.getD i 0) j).1.map V.int)))
        ⟨_, _, _, rfl, Kp2.refl, hL9, hC9⟩ (fun j σ H' _ h => ?_) (fun j x T10 σ H10 hx h nT10 => ?_) (fun σ H10 h => ?_)
      · obtain ⟨_, _, _, _, kp, _⟩ := h
        have e := sm9 _ _ hrl
        exact SqT.of (kp _ _ (fun z => by rw [z, hL9] at e; cases e) (fun z => by rw [z, hC9] at e; cases e) e)
      · obtain ⟨y10, y11, y12, rfl, kp, hL10, hC10⟩ := h
        obtain ⟨v, hv, rfl⟩ := get_map hx
        have hjn : j < n := by
          have := (List.getElem?_eq_some_iff.mp hv).1
          omega
        have hvd : v = (rows.getD i []).getD j 0 := by
          rw [List.getD_eq_getElem?_getD, hv]
          rfl
        have gl := gSt_len (rows.drop (i + 1)) (ps.drop (i + 1)) n (pSets (rows.length - (i + 1))) (rows.getD i []) (wSt rows ps n L0 i).2 (ps.getD i 0) j
        rw [gSt_succ]
        generalize gSt (rows.drop (i + 1)) (ps.drop (i + 1)) n (pSets (rows.length - (i + 1))) (rows.getD i []) (wSt rows ps n L0 i).2 (ps.getD i 0) j = g at hL10 hC10 gl ⊢
        obtain ⟨cts, lf, num⟩ := g
        obtain ⟨g1, g2⟩ := gl
        have g2 : lf.length = n := by rw [← hll, ← hl2]; exact g2
        have g1 : cts.length = j := g1
        have sT10 := same_new (o := .tup [.int ((0 : Int) + (j : Nat)), .int v]) nT10
        have hT10 : (upd H10 T10 (.tup [.int ((0 : Int) + (j : Nat)), .int v])) T10 = some (.tup [.int ((0 : Int) + (j : Nat)), .int v]) := upd_same
        have kp11 : Kp2 L C H9 (upd H10 T10 (.tup [.int ((0 : Int) + (j : Nat)), .int v])) := kp.trans (kps sT10)
        have hL11 := sT10 _ _ hL10
        have hC11 := sT10 _ _ hC10
        generalize upd H10 T10 (.tup [.int ((0 : Int) + (j : Nat)), .int v]) = H11 at hT10 kp11 hL11 hC11 ⊢
        refine ⟨T10, [.int ((0 : Int) + (j : Nat)), .int v], rfl, .inl (.inl hT10), rfl, .int ((0 : Int) + (j : Nat)), [.int v], rfl, .int v, [], rfl, rfl, ?_⟩
        have tk : ∀ b' xs, H9 b' = some (.tup xs) → H11 b' = some (.tup xs) := fun b' xs e => kp11 _ _ (fun z => by rw [z, hL9] at e; cases e) (fun z => by rw [z, hC9] at e; cases e) e
        refine ⟨_, rfl, _, rfl, _, rfl, _, rfl, _, rfl, Z, L, j, zs, rows.drop (i + 1), ps.drop (i + 1), n, pSets (rows.length - (i + 1)), lf, (by show [V.ref Z, V.ref L, V.int (0 + (j : Int))] = _; rw [Int.zero_add]), kp11 _ _ hZL hZC hZ9, la9.tk tk, hL11, g2, hjn, hn, ps_ne _, hdl, fun H12 sv s12 hsv => ?_⟩
        obtain rfl := hsv.eq
        have hL12 := s12 _ _ hL11
        have hC12 := s12 _ _ hC11
        have glf : (lf.map V.int)[j]? = some (.int (lf.getD j 0)) := by
          rw [List.getElem?_map, getD_of (d := 0) (by omega)]
          rfl
        refine ⟨_, _, _, _, rfl, min3_int _ _ _, ?_⟩
        refine ⟨_, rfl, _, rfl, num, _, rfl, rfl, ?_⟩
        refine ⟨.ref L, rfl, _, rfl, L, _, (j : Int), .int (lf.getD j 0), rfl, congrArg V.int (Int.zero_add _), SqL.of hL12, atI_nat glf, _, rfl, lf.getD j 0, _, rfl, rfl, ?_⟩
        refine ⟨.ref L, rfl, _, rfl, L, _, (j : Int), j, rfl, congrArg V.int (Int.zero_add _), hL12, ixN_nat (by rw [List.length_map]; omega), ?_⟩
        have hC13 : ∀ o, (upd H12 L o) C = some (.lst (cts.map V.int)) := fun o => by
          rw [upd_ne hLC.symm]
          exact hC12
        refine ⟨.ref C, rfl, .inl ⟨rfl, _, SqL.of (hC13 _)⟩, _, rfl, C, cts.map V.int, _, rfl, rfl, hC13 _, ?_, ?_⟩
        · rw [List.length_map]
          exact len_lt (by omega)
        · rw [hvd]
          refine ⟨_, _, _, rfl, ((kp11.trans (kps s12)).trans kp2_upd1).trans kp2_upd2, ?_, ?_⟩
          · rw [upd_ne hLC, upd_same, List.map_set]
          · rw [upd_same, List.map_append]
            rfl
      · obtain ⟨y10, y11, y12, rfl, kp, hL10, hC10⟩ := h
        rw [List.length_map, hrln] at hL10 hC10
        have hDx := kp _ _ hDL hDC hD9
        refine ⟨.ref D, rfl, .inl ⟨rfl, _, SqL.of hDx⟩, _, rfl, C, _, rfl, .inl ⟨SqL.of hC10, fun tc nc => ?_⟩⟩
        have s11 := same_new (o := .tup ((gSt (rows.drop (i + 1)) (ps.drop (i + 1)) n (pSets (rows.length - (i + 1))) (rows.getD i []) (wSt rows ps n L0 i).2 (ps.getD i 0) n).1.map V.int)) nc
        have htc : (upd H10 tc (.tup ((gSt (rows.drop (i + 1)) (ps.drop (i + 1)) n (pSets (rows.length - (i + 1))) (rows.getD i []) (wSt rows ps n L0 i).2 (ps.getD i 0) n).1.map V.int))) tc = some (.tup ((gSt (rows.drop (i + 1)) (ps.drop (i + 1)) n (pSets (rows.length - (i + 1))) (rows.getD i []) (wSt rows ps n L0 i).2 (ps.getD i 0) n).1.map V.int)) := upd_same
        have hL11 := s11 _ _ hL10
        have hD11 := s11 _ _ hDx
        have kp11 := kp.trans (kps s11)
        generalize upd H10 tc (.tup ((gSt (rows.drop (i + 1)) (ps.drop (i + 1)) n (pSets (rows.length - (i + 1))) (rows.getD i []) (wSt rows ps n L0 i).2 (ps.getD i 0) n).1.map V.int)) = H11 at htc hL11 hD11 kp11 ⊢
        have tk : ∀ b' xs, H9 b' = some (.tup xs) → H11 b' = some (.tup xs) := fun b' xs e => kp11 _ _ (fun z => by rw [z, hL9] at e; cases e) (fun z => by rw [z, hC9] at e; cases e) e
        refine ⟨D, as.map V.ref, _, rfl, rfl, hD11, ?_, as ++ [tc], _, _, _, _, _, _, _, _, rfl, ?_, ?_, ?_, ?_, fun j a r x1 x2 => ?_⟩
        · rw [List.length_map]
          exact len_lt (by omega)
        · intro b' o e
          have ne1 : b' ≠ D := fun z => by rw [z, nHD] at e; cases e
          have ne2 : b' ≠ L := fun z => by rw [z, nHL] at e; cases e
          have e9 := sm8 _ _ e
          have ne3 : b' ≠ C := fun z => by rw [z, nC] at e9; cases e9
          rw [upd_ne ne1]
          exact kp11 _ _ ne2 ne3 (sm9 _ _ e)
        · rw [upd_ne hLD]
          exact hL11
        · rw [upd_same, List.map_append]
          rfl
        · rw [List.length_append, hal]
          rfl
        · have up : ∀ b' xs, H11 b' = some (.tup xs) → (upd H11 D (.lst (as.map V.ref ++ [V.ref tc]))) b' = some (.tup xs) := fun b' xs e => by
            rw [upd_ne (fun z => by rw [z, hD11] at e; cases e)]
            exact e
          have hwl := (wSt_len rows ps n L0 i).1
          have x2' : ((wSt rows ps n L0 i).1 ++ [(gSt (rows.drop (i + 1)) (ps.drop (i + 1)) n (pSets (rows.length - (i + 1))) (rows.getD i []) (wSt rows ps n L0 i).2 (ps.getD i 0) n).1])[j]? = some r := x2
          by_cases hj : j < as.length
          · rw [List.getElem?_append_left hj] at x1
            rw [List.getElem?_append_left (by omega)] at x2'
            exact up _ _ (tk _ _ (hat9 j a r x1 x2'))
          · have hj2 : j = as.length := by
              have := (List.getElem?_eq_some_iff.mp x1).1
              rw [List.length_append] at this
              simp at this
              omega
            subst hj2
            rw [List.getElem?_append_right (Nat.le_refl _), Nat.sub_self] at x1
            rw [List.getElem?_append_right (by omega), hal, hwl, Nat.sub_self] at x2'
            obtain rfl : tc = a := Option.some.inj x1
            obtain rfl := Option.some.inj x2'
            exact up _ _ htc
    · obtain ⟨as, y5, y6, y7, y8, y9, y10, y11, y12, rfl, sm, hL4, hD4, hal, hat⟩ := h
      rw [List.length_map, st.len] at hL4 hal hat
      refine ⟨.ref D, rfl, D, _, rfl, .inl ⟨SqL.of hD4, fun tD nD => q tD as _ (sm.trans (same_new nD)) ⟨upd_same, ?_, fun j a r e1 e2 => same_new nD _ _ (hat j a r e1 e2)⟩⟩⟩
      rw [(wSt_len _ _ _ _ _).1, hal]
end
end DD
namespace DD
open PySem PySem.Spec PyProof.Rows L2 RZ
/-- bit j of m -/
def bit (m : Int) (j : Nat) : Bool := decide ((m / 2 ^ ((0 : Int) + (j : Nat)).toNat).fmod 2 = 1)
def selUp (m : Int) (j : Nat) : List Nat := (List.range j).filter (bit m)
/-- all sets of n drawers but the empty one, in the order of their numbers -/
def setsOf (n : Nat) : List (List Nat) := (List.range (2 ^ n - 1)).map fun i => selUp (1 + (i : Nat)) n
theorem sel_succ (m : Int) (j : Nat) : selUp m (j + 1) = selUp m j ++ (if bit m j = true then [j] else []) := by
  unfold selUp
  rw [List.range_succ, List.filter_append]
  congr 1
  by_cases e : bit m j = true
  · rw [if_pos e, List.filter_cons_of_pos e]
    rfl
  · rw [if_neg e, List.filter_cons_of_neg e]
    rfl
theorem sel_bd (m : Int) (j : Nat) : (selUp m j).length ≤ j ∧ ∀ x ∈ selUp m j, x < j :=
  ⟨Nat.le_trans (List.length_filter_le _ _) (by rw [List.length_range]; exact Nat.le_refl _), fun x hx => List.mem_range.mp (List.mem_filter.mp hx).1⟩
theorem sets_len (n : Nat) : (setsOf n).length = 2 ^ n - 1 := by simp [setsOf]
theorem sets_get {n i : Nat} (h : i < 2 ^ n - 1) : (setsOf n)[i]? = some (selUp (1 + (i : Nat)) n) := by
  unfold setsOf
  rw [List.getElem?_map, List.getElem?_range h]
  rfl
theorem pow_16 {n : Nat} (h1 : 1 ≤ n) (h4 : n ≤ 4) : ∃ m : Nat, (1 : Int) * 2 ^ ((n : Int)).toNat = (m : Int) + 1 ∧ m ≤ 15 ∧ m = 2 ^ n - 1 := by
  have e : n = 1 ∨ n = 2 ∨ n = 3 ∨ n = 4 := by omega
  rcases e with rfl | rfl | rfl | rfl
  · exact ⟨1, rfl, by omega, rfl⟩
  · exact ⟨3, rfl, by omega, rfl⟩
  · exact ⟨7, rfl, by omega, rfl⟩
  · exact ⟨15, rfl, by omega, rfl⟩
abbrev NE : List Str := ["_law_count", "_law_found", "_law_number_here", "_law_drawer"]
theorem scSets : FnScope NE ["_law_count"] (defScope sSets) := ⟨rfl, rfl, rfl, by decide +kernel, rfl, by decide +kernel, by decide +kernel⟩
section
variable {P : Program} {w : World} {K : PySem.W.Frag} {mg : Str → Option Value} {base : Heap}
def spSets : Sp := fun vs H Q _ => ∃ n : Nat, vs = [.int n] ∧ 1 ≤ n ∧ n ≤ 4 ∧
  ∀ (D : Addr) (as : List Addr) H', Same H H' → H D = none → H' D = some (.lst (as.map V.ref)) → SetsAt H' as (setsOf n) n → as.length ≤ 15 → Q (.ref D) H'
theorem ok_sets {f fN fU fTu fA fAu fO fFu fCo fSp fCa fIr fTk fI fR fFc fLo fSo fOv fDw fSv fCh fUd fEt fAo fAd fDk fD fS fTt fW fPl fLu fLs fLc fM fE fX fNu fId fKn fHo fAy fOo fRp fAt fVa : Addr} {fd dN dU dTu dA dAu dO dFu dCo dSp dCa dIr dTk dI dR dFc dLo dSo dOv dDw dSv dCh dUd dEt dAo dAd dDk dD dS dTt dW dPl dLu dLs dLc dM dE dX dNu dId dKn dHo dAy dOo dRp dAt dVa : FuncData} {k : Nat} (F : Fun K "_law_sets" "_law_sets" sSets f fd) (T : Tx K mg fN fU fTu fA fAu fO fFu fCo fSp fCa fIr fTk fI fR fFc fLo fSo fOv fDw fSv fCh fUd fEt fAo fAd fDk fD fS fTt fW fPl fLu fLs fLc fM fE fX fNu fId fKn fHo fAy fOo fRp fAt fVa dN dU dTu dA dAu dO dFu dCo dSp dCa dIr dTk dI dR dFc dLo dSo dOv dDw dSv dCh dUd dEt dAo dAd dDk dD dS dTt dW dPl dLu dLs dLc dM dE dX dNu dId dKn dHo dAy dOo dRp dAt dVa) :
    FnOk P w K mg base CX0 (k + 1) f fd ["_law_count"] spSets := by
  refine F.ok scSets (fun vs H Q E h => ?_) (fun cdv A outer s H vs Q E hr h => ?_)
  · obtain ⟨n, rfl, _⟩ := h
    rfl
  · obtain ⟨n, rfl, h1, h4, q⟩ := h
    refine ⟨_, (pss_cons (ps_set (i := 1) scSets.nd rfl (.inl rfl) (pe_lst pa_nil))
      (pss_cons (ps_for PassesOwn.never rfl (pi_range2 (by rfl) T.m_range (pa_cons pe_int (pa_cons (pe_op op_shl pe_int (pv 0)) pa_nil))) (pg_name (i := 2) scSets.nd rfl (Or.inr rfl)) (pss_one (ps_expr (pe_bm PySem.F.plainAttrs_list PySem.F.slot_list_append PySem.F.type_list_append mt_append (pv 1) (pa_cons (pe_callTy call_tuple_of (by rfl) T.m_tuple (by decide +kernel) (pa_cons (pe_lc (own := [("_law_drawer", 3)]) (g := gName 3) rfl scSets.nd (pi_range1 (by rfl) T.m_range (pa_cons (pv 0) pa_nil)) (blkOk_by (own := [("_law_drawer", 3)]) (N := NE) (sc := defScope sSets) (by decide +kernel)) (fun _ _ _ _ _ => (pg_name (i := 3) scSets.nd rfl (Or.inl rfl))) (fun _ _ _ _ _ => pts_one (pt_cmpR op_eq (pe_op op_modN (pe_op op_shr (pv 2) (pv 3)) pe_int) pe_int (nomark _))) (fun _ _ _ _ _ => (pv 3))) pa_nil)) pa_nil)))))
      (pss_one (ps_ret (pv 1))))), ?_⟩
    obtain ⟨m, em, hm, hmn⟩ := pow_16 h1 h4
    refine ⟨Nat.zero_le _, fun D nD => ?_⟩
    have s0 : Same H (upd H D (.lst [])) := same_new nD
    refine ⟨_, rfl, 1, (n : Int), rfl, rfl, ⟨by omega, by omega, by decide⟩, 1, _, rfl, ⟨by decide, by decide, by omega, by omega⟩, ?_⟩
    have em2 : ((1 : Int) * 2 ^ ((n : Int)).toNat - 1).toNat = m := by rw [em]; omega
    rw [em2]
    refine for_range (lo := 1) (n := m) (fun i σ H' => ∃ (as : List Addr) (y2 y3 : Option V), σ = [some (.int (n : Int)), some (.ref D), y2, y3] ∧ Same H H' ∧ H' D = some (.lst (as.map V.ref)) ∧ SetsAt H' as ((setsOf n).take i) n ∧ as.length = i)
      ⟨[], none, none, rfl, s0, upd_same, ⟨rfl, fun j a ds e => by simp at e, fun ds h => by cases h⟩, rfl⟩ (fun i σ H' hi h => ?_) (fun σ H' h => ?_)
    · obtain ⟨as, y2, y3, rfl, sm, hD, sa, hl⟩ := h
      refine ⟨.ref D, rfl, .inl ⟨rfl, _, SqL.of hD⟩, _, rfl, (n : Int), rfl, by omega, by omega, fun D2 nD2 => ?_⟩
      refine lc_range (lo := 0) (n := n) (fun j H4 => H4 D2 = some (.lst (natsV (selUp (1 + (i : Nat)) j))) ∧ Same H' H4) ⟨upd_same, same_new nD2⟩ (fun j H4 hj h => ?_) (fun H4 h => ?_)
      · obtain ⟨hD4, s4⟩ := h
        have hb := sel_bd (1 + (i : Nat)) j
        have br : ∀ a : Int, decide (V.int a = V.int 1) = decide (a = 1) := fun a => by
          by_cases e : a = 1
          · rw [decide_eq_true e, e]
            rfl
          · rw [decide_eq_false e]
            exact decide_eq_false fun z => e (by injection z)
        refine ⟨rfl, _, rfl, _, rfl, _, _, rfl, rfl, by omega, _, 2, rfl, rfl, (by show (2 : Int) ≠ 0; decide), rfl, _, rfl, ite2 (fun e => ?_) (fun e => ?_)⟩
        · have e' : bit (1 + (i : Nat)) j = true := (br _).symm.trans e
          refine ⟨_, rfl, _, hD4, ?_, ?_, fun b' o e => ?_⟩
          · show ((selUp (1 + (i : Nat)) j).map _).length < sizeLine
            rw [List.length_map]
            exact len_lt (by omega)
          · rw [upd_same, Int.zero_add, sel_succ, if_pos e']
            unfold natsV
            rw [List.map_append]
            rfl
          · rw [upd_ne (ne_of_none e nD2)]
            exact s4 b' o e
        · have e' : ¬ bit (1 + (i : Nat)) j = true := fun z => e ((br _).trans z)
          refine ⟨?_, s4⟩
          rw [sel_succ, if_neg e', List.append_nil]
          exact hD4
      · obtain ⟨hD4, s4⟩ := h
        have hb := sel_bd (1 + (i : Nat)) n
        refine ⟨D2, _, rfl, .inl ⟨SqL.of hD4, fun t nt => ?_⟩⟩
        have st : Same H4 (upd H4 t (.tup (natsV (selUp (1 + (i : Nat)) n)))) := same_new nt
        have s5 := s4.trans st
        have hD5 := s5 _ _ hD
        refine ⟨D, _, .ref t, rfl, rfl, hD5, ?_, as ++ [t], _, _, rfl, ?_, ?_, ?_, ?_⟩
        · rw [List.length_map]
          exact len_lt (by omega)
        · intro b' o e
          rw [upd_ne (ne_of_none e nD)]
          exact s5 _ _ (sm b' o e)
        · rw [upd_same, List.map_append]
          rfl
        · rw [List.take_add_one, sets_get (by omega)]
          exact ((sa.same s5).snoc upd_same ⟨by omega, hb.2⟩).lst hD5
        · rw [List.length_append, hl]
          rfl
    · obtain ⟨as, y2, y3, rfl, sm, hD, sa, hl⟩ := h
      rw [List.take_of_length_le (by rw [sets_len]; omega)] at sa
      exact ⟨_, rfl, q D as _ sm nD hD sa (by omega)⟩
end
end DD
namespace DD
open PySem PySem.Spec PyProof.Rows L2 RZ
def maxL (l : List Int) : Int := -(minL (l.map fun x => -x))
theorem maxL_uniq {l : List Int} {m : Int} (hm : m ∈ l) (hl : ∀ y, y ∈ l → y ≤ m) : m = maxL l := by
  have := minL_uniq (l := l.map fun x => -x) (m := -m) (List.mem_map_of_mem hm) fun y hy => by
    obtain ⟨x, hx, rfl⟩ := List.mem_map.mp hy
    have := hl x hx
    omega
  unfold maxL
  omega
theorem maxL_mem {l : List Int} (h : l ≠ []) : maxL l ∈ l := by
  have := minL_mem (l := l.map fun x => -x) (by simpa using h)
  obtain ⟨x, hx, e⟩ := List.mem_map.mp this
  unfold maxL
  rw [← e, Int.neg_neg]
  exact hx
theorem maxL_ge {l : List Int} {y : Int} (h : y ∈ l) : y ≤ maxL l := by
  have := minL_le (l := l.map fun x => -x) (-y) (List.mem_map_of_mem h)
  unfold maxL
  omega
/-- the rooms of so many things of each kind, spoiling by spoiling -/
def roomsOf (ts : List Int) (ws : List (List Int)) (n : Nat) : List Int := (spOf ws).map fun s => (List.zipWith capv ts (capsOf ws s n)).sum
def totalOf (ts : List Int) (ws : List (List Int)) (n : Nat) : Option Int := if fulOf ws ts = none then none else some (1 + maxL (roomsOf ts ws n))
theorem sp_ne {ws : List (List Int)} {n : Nat} {hi : Int} (h : ∀ r ∈ ws, Good n hi r) : spOf ws ≠ [] := by
  rw [spOf_eq]
  have := spR_bwd (f := fun r => (kindsOf r).headD 0) (rows := ws) fun r hr => by
    obtain ⟨x, hx, h0⟩ := (h r hr).pos
    obtain ⟨j, hj⟩ := List.mem_iff_getElem?.mp hx
    have hjl := (List.getElem?_eq_some_iff.mp hj).1
    have hk := kinds_of (r := r) (i := j) hjl (by rw [List.getD_eq_getElem?_getD, hj]; exact h0)
    cases e : kindsOf r with
    | nil => rw [e] at hk; cases hk
    | cons k ks => exact List.mem_cons_self
  exact fun e => by rw [e] at this; cases this
theorem sp_len {ws : List (List Int)} (h : ∀ r ∈ ws, r.length ≤ 4) (hl : ws.length ≤ 4) : (spOf ws).length ≤ 256 := by
  rw [spOf_eq]
  exact spR_len h hl
/-- a wish of one to four collections for n kinds -/
structure Wish (H : Hp) (t : Addr) (ls : List Addr) (ws : List (List Int)) (n : Nat) : Prop where
  st : StockAt H t ls ws
  l1 : 1 ≤ ws.length
  l4 : ws.length ≤ 4
  g : ∀ r ∈ ws, Good n 50 r
  n1 : 1 ≤ n
  n4 : n ≤ 4
theorem Wish.same {H H' : Hp} {t : Addr} {ls : List Addr} {ws : List (List Int)} {n : Nat} (a : Wish H t ls ws n) (k : Same H H') : Wish H' t ls ws n := ⟨a.st.same k, a.l1, a.l4, a.g, a.n1, a.n4⟩
theorem Wish.tk {H H' : Hp} {t : Addr} {ls : List Addr} {ws : List (List Int)} {n : Nat} (a : Wish H t ls ws n) (k : TK H H') : Wish H' t ls ws n := ⟨a.st.tk k, a.l1, a.l4, a.g, a.n1, a.n4⟩
end DD
namespace DD
open PySem PySem.Spec PyProof.Rows L2 RZ
abbrev NTt : List Str := ["_law_rows", "_law_kind", "_law_row"]
theorem scLTot : FnScope NTt ["_law_rows"] (defScope sLTot) := ⟨rfl, rfl, rfl, by decide +kernel, rfl, by decide +kernel, by decide +kernel⟩
def scKind : Scope := { kind := .function, names := [(".0", .local), ("_law_kind", .cell), ("sum", .globalImplicit), ("_law_rows", .cell)], isGenerator := false, isCoroutine := false, more := [] }
section
variable {P : Program} {w : World} {K : PySem.W.Frag} {mg : Str → Option Value} {base : Heap}
def spLTot : Sp := fun vs H Q _ => ∃ (t : Addr) (ls : List Addr) (rows : List (List Int)) (n : Nat), vs = [.ref t] ∧ StockAt H t ls rows ∧ 1 ≤ rows.length ∧ rows.length ≤ 4 ∧ n ≤ 4 ∧ (∀ r ∈ rows, r.length = n) ∧
  ∀ p H', Same H H' → H' p = some (.tup ((totalsOf rows n).map V.int)) → Q (.ref p) H'
theorem ok_ltot {f fN fU fTu fA fAu fO fFu fCo fSp fCa fIr fTk fI fR fFc fLo fSo fOv fDw fSv fCh fUd fEt fAo fAd fDk fD fS fTt fW fPl fLu fLs fLc fM fE fX fNu fId fKn fHo fAy fOo fRp fAt fVa : Addr} {fd dN dU dTu dA dAu dO dFu dCo dSp dCa dIr dTk dI dR dFc dLo dSo dOv dDw dSv dCh dUd dEt dAo dAd dDk dD dS dTt dW dPl dLu dLs dLc dM dE dX dNu dId dKn dHo dAy dOo dRp dAt dVa : FuncData} {k : Nat} (F : Fun K "_law_totals" "_law_totals" sLTot f fd) (T : Tx K mg fN fU fTu fA fAu fO fFu fCo fSp fCa fIr fTk fI fR fFc fLo fSo fOv fDw fSv fCh fUd fEt fAo fAd fDk fD fS fTt fW fPl fLu fLs fLc fM fE fX fNu fId fKn fHo fAy fOo fRp fAt fVa dN dU dTu dA dAu dO dFu dCo dSp dCa dIr dTk dI dR dFc dLo dSo dOv dDw dSv dCh dUd dEt dAo dAd dDk dD dS dTt dW dPl dLu dLs dLc dM dE dX dNu dId dKn dHo dAy dOo dRp dAt dVa) :
    FnOk P w K mg base CX0 (k + 1) f fd ["_law_rows"] spLTot := by
  refine F.ok scLTot (fun vs H Q E h => ?_) (fun cdv A outer s H vs Q E hr h => ?_)
  · obtain ⟨t, ls, rows, n, rfl, _⟩ := h
    rfl
  · obtain ⟨t, ls, rows, n, rfl, st, h1, h4, hn4, hrn, q⟩ := h
    refine ⟨_, (pss_one (ps_ret (pe_callTy call_tuple_of (by rfl) T.m_tuple (by decide +kernel) (pa_cons (pe_lc (own := [("_law_kind", 1)]) (g := gName 1) rfl scLTot.nd (pi_range1 (by rfl) T.m_range (pa_cons (pe_callB call_len_seq (by rfl) T.m_len PySem.boot_len (pa_cons (pe_ix (show IxR _ (rIxT K) from ix_tup) (pv 0) pe_int (fun _ _ => rfl)) pa_nil)) pa_nil)) (blkOk_by (own := [("_law_kind", 1)]) (N := NTt) (sc := defScope sLTot) (by decide +kernel)) (fun _ _ _ _ _ => (pg_name (i := 1) scLTot.nd rfl (Or.inr rfl))) (fun _ _ _ _ _ => pts_nil) (fun _ _ _ _ _ => (pe_callB (show CallR _ _ (rSum K) from cr_sum rfl) (by rfl) T.m_sum (by decide +kernel) (by exact (pa_cons (pe_lc (own := [("_law_row", 2)]) (g := gName 2) rfl scLTot.nd (show PI _ _ _ (iTup K (tVar 0)) from pi_tup (pv 0)) (blkOk_by (own := [("_law_row", 2)]) (N := NTt) (sc := scKind) (by decide +kernel)) (fun _ _ _ _ _ => (pg_name (i := 2) scLTot.nd rfl (Or.inl rfl))) (fun _ _ _ _ _ => pts_nil) (fun _ _ _ _ _ => (pe_ix (show IxR _ (rIxT K) from ix_tup) (pv 2) (pv 1) (fun _ _ => rfl)))) pa_nil))))) pa_nil)))), ?_⟩
    have hl0 := getD_of (d := 0) (show 0 < ls.length by rw [st.len]; exact h1)
    have hr0 := getD_of (d := ([] : List Int)) h1
    have g0 : (ls.map V.ref)[0]? = some (.ref (ls.getD 0 0)) := by
      rw [List.getElem?_map, hl0]
      rfl
    refine ⟨_, rfl, t, _, 0, .ref (ls.getD 0 0), rfl, rfl, SqT.of st.top, atI_nat (j := 0) g0, ls.getD 0 0, _, rfl, .inr (SqT.of (st.row 0 _ _ hl0 hr0)), (n : Int), ?_, by omega, by omega, fun D nD => ?_⟩
    · rw [List.length_map, hrn _ (List.mem_of_getElem? hr0)]
    refine lc_range (lo := 0) (n := n) (fun i H' => H' D = some (.lst (((totalsOf rows n).take i).map V.int)) ∧ Same H H') ⟨upd_same, same_new nD⟩ (fun i H' hi h => ?_) (fun H' h => ?_)
    · obtain ⟨hD, sm⟩ := h
      refine ⟨rfl, .ref t, rfl, t, rfl, ⟨_, SqT.of (sm _ _ st.top)⟩, fun D2 nD2 => ?_⟩
      refine lc_tup (xs := ls.map V.ref) (fun j H2 => H2 D2 = some (.lst (((rows.map fun r => r.getD i 0).take j).map V.int)) ∧ Same H' H2) ⟨upd_same, same_new nD2⟩ (fun j H2 _ h => SqT.of (h.2 _ _ (sm _ _ st.top))) (fun j x H2 hx h => ?_) (fun H2 h => ?_)
      · obtain ⟨hD2, s2⟩ := h
        obtain ⟨l, hl, rfl⟩ := get_map hx
        have hjl : j < rows.length := by
          have := (List.getElem?_eq_some_iff.mp hl).1
          have := st.len
          omega
        have hr : rows[j]? = some rows[j] := List.getElem?_eq_getElem hjl
        have hrow := s2 _ _ (sm _ _ (st.row j l _ hl hr))
        have gi : (rows[j].map V.int)[i]? = some (.int (rows[j].getD i 0)) := by
          rw [List.getElem?_map, getD_of (d := 0) (by rw [hrn _ (List.getElem_mem hjl)]; exact hi)]
          rfl
        have hz : (rows.map fun r => r.getD i 0)[j]? = some (rows[j].getD i 0) := by
          rw [List.getElem?_map, hr]
          rfl
        refine ⟨rfl, .ref l, rfl, .int ((0 : Int) + (i : Nat)), rfl, l, _, (i : Int), .int (rows[j].getD i 0), rfl, (by rw [Int.zero_add]), SqT.of hrow, atI_nat gi, _, hD2, ?_, ?_, fun b' o' e => ?_⟩
        · rw [List.length_map, List.length_take]
          exact len_lt (by omega)
        · rw [upd_same, take_succ_map hz]
        · rw [upd_ne (ne_of_none e nD2)]
          exact s2 b' o' e
      · obtain ⟨hD2, s2⟩ := h
        rw [List.length_map, st.len, List.take_of_length_le (by simp)] at hD2
        have ht : (totalsOf rows n)[i]? = some (rows.map fun r => r.getD i 0).sum := by
          unfold totalsOf
          rw [List.getElem?_map, List.getElem?_range hi]
          rfl
        refine ⟨D2, _, rfl, SqL.of hD2, _, s2 _ _ hD, ?_, ?_, fun b' o' e => ?_⟩
        · rw [List.length_map, List.length_take]
          exact len_lt (by omega)
        · rw [upd_same, take_succ_map ht]
        · rw [upd_ne (ne_of_none e nD)]
          exact s2 _ _ (sm b' o' e)
    · obtain ⟨hD, sm⟩ := h
      rw [List.take_of_length_le (by rw [tot_len]; exact Nat.le_refl _)] at hD
      exact ⟨D, _, rfl, .inl ⟨SqL.of hD, fun p np => q p _ (sm.trans (same_new np)) upd_same⟩⟩
end
end DD
namespace DD
open PySem PySem.Spec PyProof.Rows L2 RZ
theorem three_at2 {r a b c : Int} (h0 : 0 ≤ r) (h : r < 3) : ∃ z : Int, (z = a ∨ z = b ∨ z = c) ∧ atI [V.int a, V.int b, V.int c] r = some (.int z) := three_at h0 h
/-- a wish under way -/
structure WI (H0 H : Hp) (dk c tt FD : Addr) (tot : List Int) (ls : List Addr) (ws : List (List Int)) (B : Nat) : Prop where
  tt : H tt = some (.tup (tot.map V.int))
  fd : H FD = some (.lst (ls.map V.ref))
  ll : ls.length = ws.length
  ra : RowsAt H ls ws
  kp : Kp2 dk c H0 H
  d : Deck H dk c B
  nfd : H0 FD = none
  ne : FD ≠ dk ∧ FD ≠ c
theorem WI.step {H0 H H' : Hp} {dk c tt FD : Addr} {tot : List Int} {ls : List Addr} {ws : List (List Int)} {B B' : Nat} (a : WI H0 H dk c tt FD tot ls ws B) (k : Kp2 dk c H H') (d : Deck H' dk c B') : WI H0 H' dk c tt FD tot ls ws B' :=
  ⟨tup_kp a.tt a.d k, k _ _ a.ne.1 a.ne.2 a.fd, a.ll, a.ra.kp a.d k, a.kp.trans k, d, a.nfd, a.ne⟩
theorem WI.same {H0 H H' : Hp} {dk c tt FD : Addr} {tot : List Int} {ls : List Addr} {ws : List (List Int)} {B : Nat} (a : WI H0 H dk c tt FD tot ls ws B) (s : Same H H') : WI H0 H' dk c tt FD tot ls ws B := a.step (kps s) (a.d.keep s)
theorem WI.updC {H0 H : Hp} {dk c tt FD C : Addr} {tot : List Int} {ls : List Addr} {ws : List (List Int)} {B : Nat} {xs : List V} {o : HO} (a : WI H0 H dk c tt FD tot ls ws B) (h : H C = some (.lst xs)) (n0 : H0 C = none) (ne : C ≠ dk ∧ C ≠ c) (nf : C ≠ FD) : WI H0 (upd H C o) dk c tt FD tot ls ws B :=
  ⟨TK.lst h _ _ a.tt, by rw [upd_ne nf.symm]; exact a.fd, a.ll, a.ra.updL h, a.kp.updF n0, a.d.updD ne.1 ne.2, a.nfd, a.ne⟩
theorem WI.up {H0 H : Hp} {dk c tt FD : Addr} {tot : List Int} {ls : List Addr} {ws : List (List Int)} {B B' : Nat} (a : WI H0 H dk c tt FD tot ls ws B) (h : B ≤ B') : WI H0 H dk c tt FD tot ls ws B' := ⟨a.tt, a.fd, a.ll, a.ra, a.kp, a.d.up h, a.nfd, a.ne⟩
theorem sum_ge : ∀ {xs : List Int} {x : Int}, (∀ y ∈ xs, 0 ≤ y) → x ∈ xs → x ≤ xs.sum
  | [], _, _, h => by cases h
  | y :: ys, x, h0, h => by
    rw [List.sum_cons]
    have h1 := h0 y List.mem_cons_self
    have hs : 0 ≤ ys.sum := by
      have : ∀ (zs : List Int), (∀ z ∈ zs, 0 ≤ z) → 0 ≤ zs.sum := fun zs => by
        induction zs with
        | nil => intro _; exact Int.le_refl _
        | cons z zs ih =>
          intro hz
          rw [List.sum_cons]
          have := hz z List.mem_cons_self
          have := ih fun w hw => hz w (List.mem_cons_of_mem _ hw)
          omega
      exact this ys fun z hz => h0 z (List.mem_cons_of_mem _ hz)
    rcases List.mem_cons.mp h with rfl | h
    · omega
    · have := sum_ge (fun z hz => h0 z (List.mem_cons_of_mem _ hz)) h
      omega
theorem tot_bd {rows : List (List Int)} {n : Nat} {b : Int} (h : ∀ r ∈ rows, ∀ x ∈ r, 0 ≤ x ∧ x ≤ b) (hb : 0 ≤ b) : ∀ t ∈ totalsOf rows n, 0 ≤ t ∧ t ≤ (rows.length : Int) * b := by
  intro t ht
  obtain ⟨i, _, rfl⟩ := List.mem_map.mp ht
  have b' := sum_bd (b := b) (xs := rows.map fun r => r.getD i 0) fun x hx => by
    obtain ⟨r, hr, rfl⟩ := List.mem_map.mp hx
    exact getD_bd (h r hr) hb i
  rwa [List.length_map] at b'
abbrev NW : List Str := ["_law_deck_here", "_law_stock_here", "_law_totals_here", "_law_found", "_law_style", "_law_k", "_law_row", "_law_total", "_law_bound"]
theorem scWish : FnScope NW ["_law_deck_here", "_law_stock_here"] (defScope sWish) := ⟨rfl, rfl, rfl, by decide +kernel, rfl, by decide +kernel, by decide +kernel⟩
section
variable {P : Program} {w : World} {K : PySem.W.Frag} {mg : Str → Option Value} {base : Heap}
def spWish : Sp := fun vs H Q _ => ∃ (dk c : Addr) (B : Nat) (t : Addr) (ls : List Addr) (rows : List (List Int)) (n : Nat), vs = [.ref dk, .ref t] ∧ Deck H dk c B ∧ B + 60 ≤ 1000000 ∧ StockAt H t ls rows ∧ 1 ≤ rows.length ∧ rows.length ≤ 4 ∧ 1 ≤ n ∧ n ≤ 4 ∧ (∀ r ∈ rows, r.length = n ∧ ∀ x ∈ r, 0 ≤ x ∧ x ≤ 50) ∧
  ∀ t' ls' ws H', Wish H' t' ls' ws n → Kp2 dk c H H' → Deck H' dk c (B + 60) → Q (.ref t') H'
set_option maxHeartbeats 1600000 in
theorem ok_wish {f fN fU fTu fA fAu fO fFu fCo fSp fCa fIr fTk fI fR fFc fLo fSo fOv fDw fSv fCh fUd fEt fAo fAd fDk fD fS fTt fW fPl fLu fLs fLc fM fE fX fNu fId fKn fHo fAy fOo fRp fAt fVa : Addr} {fd dN dU dTu dA dAu dO dFu dCo dSp dCa dIr dTk dI dR dFc dLo dSo dOv dDw dSv dCh dUd dEt dAo dAd dDk dD dS dTt dW dPl dLu dLs dLc dM dE dX dNu dId dKn dHo dAy dOo dRp dAt dVa : FuncData} {k : Nat} (F : Fun K "_law_wish" "_law_wish" sWish f fd) (T : Tx K mg fN fU fTu fA fAu fO fFu fCo fSp fCa fIr fTk fI fR fFc fLo fSo fOv fDw fSv fCh fUd fEt fAo fAd fDk fD fS fTt fW fPl fLu fLs fLc fM fE fX fNu fId fKn fHo fAy fOo fRp fAt fVa dN dU dTu dA dAu dO dFu dCo dSp dCa dIr dTk dI dR dFc dLo dSo dOv dDw dSv dCh dUd dEt dAo dAd dDk dD dS dTt dW dPl dLu dLs dLc dM dE dX dNu dId dKn dHo dAy dOo dRp dAt dVa) :
    FnOk P w K mg base CX0 (k + 2) f fd ["_law_deck_here", "_law_stock_here"] spWish := by
  have GD : FnOk P w K mg base CX0 (k + 1) fD dD ["_law_deck_here", "_law_bound"] spDraw := ok_draw T.D T.m_len T.m_max
  have GT : FnOk P w K mg base CX0 (k + 1) fTt dTt ["_law_rows"] spLTot := ok_ltot T.Tt T
  refine F.ok scWish (fun vs H Q E h => ?_) (fun cdv A outer s H vs Q E hr h => ?_)
  · obtain ⟨dk, c, B, t, ls, rows, n, rfl, _⟩ := h
    rfl
  · obtain ⟨dk, c, B, t, ls, rows, n, rfl, dek, hB, st, h1, h4, hn1, hn4, hrow, q⟩ := h
    refine ⟨_, (pss_cons (ps_par (i := 2) (j := 3) (by rfl) scWish.nd rfl rfl (by decide) rfl rfl (pa_cons (pe_call GT (hr.mono (by omega)) (by rfl) T.gTt T.Tt.kp T.bTt .nil pass0 (pa_cons (pv 1) pa_nil)) (pa_cons (pe_lst pa_nil) pa_nil)) (by rfl))
      (pss_cons (ps_set (i := 4) scWish.nd rfl (.inl rfl) (pe_call GD (hr.mono (by omega)) (by rfl) T.gD T.D.kp T.bD .nil pass0 (pa_cons (pv 0) (pa_cons pe_int pa_nil))))
      (pss_cons (ps_for PassesOwn.never rfl (pi_range1 (by rfl) T.m_range (pa_cons (pe_op op_add pe_int (pe_call GD (hr.mono (by omega)) (by rfl) T.gD T.D.kp T.bD .nil pass0 (pa_cons (pv 0) (pa_cons pe_int pa_nil)))) pa_nil)) (pg_name (i := 5) scWish.nd rfl (Or.inl rfl)) (pss_cons (ps_set (i := 6) scWish.nd rfl (.inl rfl) (pe_lst pa_nil))
      (pss_cons (ps_for PassesOwn.never rfl (pi_tup (pv 2)) (pg_name (i := 7) scWish.nd rfl (Or.inl rfl)) (pss_cons (ps_set (i := 8) scWish.nd rfl (.inl rfl) (pe_ix (show IxR _ (rIxL K) from ix_list) (pe_lst (pa_cons pe_int (pa_cons (pe_op op_add pe_int (pe_op op_fdivN (pv 7) pe_int)) (pa_cons (pe_op op_add pe_int (pv 7)) pa_nil)))) (pv 4) (fun _ _ => rfl)))
      (pss_one (ps_expr (pe_bm PySem.F.plainAttrs_list PySem.F.slot_list_append PySem.F.type_list_append mt_append (pv 6) (pa_cons (pe_callB (call_min2 rfl) (by rfl) T.m_min (by decide +kernel) (pa_cons pe_int (pa_cons (pe_op op_mul (pe_call GD (hr.mono (by omega)) (by rfl) T.gD T.D.kp T.bD .nil pass0 (pa_cons (pv 0) (pa_cons (pv 8) pa_nil))) (pe_call GD (hr.mono (by omega)) (by rfl) T.gD T.D.kp T.bD .nil pass0 (pa_cons (pv 0) (pa_cons pe_int pa_nil)))) pa_nil))) pa_nil))))))
      (C8.pss_cut (ps_if (pt_cmpR op_eq (pe_callB (show CallR _ _ (rMax K) from cr_max rfl) (by rfl) T.m_max (by decide +kernel) (pa_cons (pv 6) pa_nil)) pe_int (nomark _)) (pss_one (ps_asg (pe_op op_add pe_int (pe_call GD (hr.mono (by omega)) (by rfl) T.gD T.D.kp T.bD .nil pass0 (pa_cons (pv 0) (pa_cons pe_int pa_nil)))) (pg_sub (pv 6) (pe_call GD (hr.mono (by omega)) (by rfl) T.gD T.D.kp T.bD .nil pass0 (pa_cons (pv 0) (pa_cons (pe_callB call_len_seq (by rfl) T.m_len PySem.boot_len (pa_cons (pv 6) pa_nil)) pa_nil))) set_list))) pss_nil)
      (pss_one (ps_expr (pe_bm PySem.F.plainAttrs_list PySem.F.slot_list_append PySem.F.type_list_append mt_append (pv 3) (pa_cons (pe_callTy call_tuple_of (by rfl) T.m_tuple (by decide +kernel) (pa_cons (pv 6) pa_nil)) pa_nil))))))))
      (pss_one (ps_ret (pe_callTy call_tuple_of (by rfl) T.m_tuple (by decide +kernel) (pa_cons (pv 3) pa_nil))))))), ?_⟩
    refine ⟨_, rfl, t, ls, rows, n, rfl, st, h1, h4, hn4, fun r hr => (hrow r hr).1, fun tt H1 s1 htt => ⟨Nat.zero_le _, fun FD nF => ⟨_, _, rfl, ?_⟩⟩⟩
    have d1 := dek.keep s1
    have neF := d1.nedk nF
    have w2 : WI H1 (upd H1 FD (.lst [])) dk c tt FD (totalsOf rows n) [] [] B := ⟨same_new nF _ _ htt, upd_same, rfl, fun j l r e => by simp at e, kps (same_new nF), d1.kp nF, nF, neF⟩
    have hnF : H FD = none := s1.free nF
    refine ⟨_, rfl, dk, c, B, 3, rfl, w2.d, by omega, by decide, by decide, fun r1 H3 a0 a1 k3 d3 => ?_⟩
    have w3 := w2.step k3 d3
    refine ⟨_, rfl, dk, c, B + 1, 4, rfl, d3, by omega, by decide, by decide, fun r2 H4 b0 b1 k4 d4 => ?_⟩
    have w4 := w3.step k4 d4
    obtain ⟨cnt, hcnt, hc1, hc4⟩ : ∃ cnt : Nat, 1 + r2 = (cnt : Int) ∧ 1 ≤ cnt ∧ cnt ≤ 4 := ⟨(1 + r2).toNat, by omega, by omega, by omega⟩
    refine ⟨1, r2, rfl, rfl, (cnt : Int), congrArg (fun x => [V.int x]) hcnt, by omega, by omega, ?_⟩
    have htb := tot_bd (rows := rows) (n := n) (fun r hr => (hrow r hr).2) (by decide)
    have htl := tot_len rows n
    refine for_range (lo := 0) (n := cnt) (fun i σ H' => ∃ (ls' : List Addr) (ws : List (List Int)) (y5 y6 y7 y8 : Option V), σ = [some (.ref dk), some (.ref t), some (.ref tt), some (.ref FD), some (.int r1), y5, y6, y7, y8] ∧ ws.length = i ∧ (∀ r ∈ ws, Good n 50 r) ∧ WI H1 H' dk c tt FD (totalsOf rows n) ls' ws (B + 2 + 10 * i))
      ⟨[], [], _, _, _, _, rfl, rfl, (fun r h => by cases h), w4.up (by omega)⟩ (fun i σ H5 hi h => ?_) (fun σ H5 h => ?_)
    · obtain ⟨ls', ws, y5, y6, y7, y8, rfl, hwl, hg, w5⟩ := h
      refine ⟨Nat.zero_le _, fun C nC => ?_⟩
      have neC := w5.d.nedk nC
      have nCF : C ≠ FD := fun z => by rw [z, w5.fd] at nC; cases nC
      have nC1 : H1 C = none := kp_free w5.kp w5.d nC
      have w6 := w5.same (same_new (o := .lst []) nC)
      refine ⟨_, rfl, tt, rfl, ⟨_, SqT.of w6.tt⟩, ?_⟩
      refine for_tup (xs := (totalsOf rows n).map V.int) (fun m σ H' => ∃ (row : List Int) (y7 y8 : Option V), σ = [some (.ref dk), some (.ref t), some (.ref tt), some (.ref FD), some (.int r1), some (.int ((0 : Int) + i)), some (.ref C), y7, y8] ∧ row.length = m ∧ (∀ x ∈ row, 0 ≤ x ∧ x ≤ 50) ∧ H' C = some (.lst (row.map V.int)) ∧ WI H1 H' dk c tt FD (totalsOf rows n) ls' ws (B + 2 + 10 * i + 2 * m))
        ⟨[], _, _, rfl, rfl, (fun x h => by cases h), upd_same, w6⟩ (fun m σ H' _ h => by obtain ⟨_, _, _, _, _, _, _, w⟩ := h; exact SqT.of w.tt) (fun m x σ H7 hx h => ?_) (fun σ H7 h => ?_)
      · obtain ⟨row, y7, y8, rfl, hrl, hrb, hC, w7⟩ := h
        obtain ⟨z, hz, rfl⟩ := get_map hx
        have hzb := htb z (List.mem_of_getElem? hz)
        have hml : m < n := by
          have := (List.getElem?_eq_some_iff.mp hz).1
          omega
        have hz2 : 0 ≤ z ∧ z ≤ 200 := by
          have : (rows.length : Int) * 50 ≤ 200 := by omega
          omega
        -- bound
        refine ⟨_, rfl, z, 2, rfl, rfl, ⟨by decide, by decide⟩, 2, _, rfl, rfl, _, rfl, 3, z, rfl, rfl, by show 3 ≤ sizeLine; decide, fun l nl => ?_⟩
        have w8 := w7.same (same_new (o := .lst [.int 3, .int (2 + z.fdiv 2), .int (3 + z)]) nl)
        obtain ⟨bd, hbd, ebd⟩ := three_at2 (a := 3) (b := 2 + z.fdiv 2) (c := 3 + z) a0 a1
        have hbd1 : 1 ≤ bd ∧ bd ≤ 1000 := by
          have := fdiv2 z hz2.1
          rcases hbd with rfl | rfl | rfl <;> omega
        refine ⟨_, rfl, l, _, r1, .int bd, rfl, rfl, SqL.of upd_same, ebd, ?_⟩
        have hC8 := same_new (o := .lst [.int 3, .int (2 + z.fdiv 2), .int (3 + z)]) nl _ _ hC
        refine ⟨.ref C, rfl, .inl ⟨rfl, _, SqL.of hC8⟩, _, rfl, _, rfl, dk, c, _, bd, rfl, w8.d, by omega, hbd1.1, hbd1.2, fun r3 H9 e0 e1 k9 d9 => ?_⟩
        have w9 := w8.step k9 d9
        have hC9 := k9 _ _ neC.1 neC.2 hC8
        refine ⟨_, rfl, dk, c, _, 2, rfl, d9, by omega, by decide, by decide, fun r4 H10 f0 f1 k10 d10 => ?_⟩
        have w10 := w9.step k10 d10
        have hC10 := k10 _ _ neC.1 neC.2 hC9
        have hv : 0 ≤ (if r3 * r4 < 50 then r3 * r4 else 50) ∧ (if r3 * r4 < 50 then r3 * r4 else 50) ≤ 50 := by
          have : 0 ≤ r3 * r4 := Int.mul_nonneg e0 f0
          split <;> omega
        refine ⟨r3, r4, rfl, rfl, .inr ⟨by omega, by omega⟩, 50, _, rfl, ?_⟩
        refine ⟨C, _, _, rfl, rfl, hC10, ?_, row ++ [if r3 * r4 < 50 then r3 * r4 else 50], _, _, rfl, ?_, ?_, ?_, (w10.updC hC10 nC1 neC nCF).up (by omega)⟩
        · rw [List.length_map]
          exact len_lt (by omega)
        · rw [List.length_append, hrl]
          rfl
        · intro x hx
          rcases List.mem_append.mp hx with h | h
          · exact hrb x h
          · rw [List.mem_singleton.mp h]
            exact hv
        · rw [upd_same, List.map_append]
          rfl
      · obtain ⟨row, y7, y8, rfl, hrl, hrb, hC, w7⟩ := h
        rw [List.length_map, htl] at hrl w7
        refine ⟨fun σ' H' => ∃ row' : List Int, σ' = [some (.ref dk), some (.ref t), some (.ref tt), some (.ref FD), some (.int r1), some (.int ((0 : Int) + i)), some (.ref C), y7, y8] ∧ Good n 50 row' ∧ H' C = some (.lst (row'.map V.int)) ∧ WI H1 H' dk c tt FD (totalsOf rows n) ls' ws (B + 2 + 10 * (i + 1)), ?_, ?_⟩
        · refine ⟨_, rfl, C, row, rfl, SqL.of hC, by omega, fun mx hmx hle => ?_⟩
          refine ⟨rfl, _, rfl, ite2 (fun e => ?_) (fun e => ?_)⟩
          · refine ⟨_, rfl, dk, c, _, 2, rfl, w7.d, by omega, by decide, by decide, fun r5 H8 e0 e1 k8 d8 => ?_⟩
            have w8 := w7.step k8 d8
            have hC8 := k8 _ _ neC.1 neC.2 hC
            refine ⟨1, r5, rfl, rfl, _, rfl, _, rfl, _, rfl, C, _, rfl, .inl (SqL.of hC8), dk, c, _, _, rfl, d8, by omega, by rw [List.length_map]; omega, by rw [List.length_map]; omega, fun r6 H9 f0 f1 k9 d9 => ?_⟩
            have w9 := w8.step k9 d9
            have hC9 := k9 _ _ neC.1 neC.2 hC8
            rw [List.length_map] at f1
            obtain ⟨j, rfl⟩ : ∃ j : Nat, r6 = (j : Int) := ⟨r6.toNat, by omega⟩
            have hjl : j < row.length := by omega
            have hix : ixN (row.map V.int).length (j : Int) = some j := by
              unfold ixN
              rw [if_pos (by omega), if_pos (by rw [List.length_map]; omega)]
              simp
            refine ⟨C, _, (j : Int), j, rfl, rfl, hC9, hix, row.set j (1 + r5), rfl, ⟨by rw [List.length_set]; exact hrl, fun x hx => ?_, 1 + r5, ?_, by omega⟩, ?_, (w9.updC hC9 nC1 neC nCF).up (by omega)⟩
            · rcases List.mem_or_eq_of_mem_set hx with h | h
              · exact hrb x h
              · omega
            · exact List.mem_of_getElem? (i := j) (by rw [List.getElem?_set_self hjl])
            · rw [upd_same, List.map_set]
          · refine ⟨row, rfl, ⟨hrl, hrb, mx, hmx, ?_⟩, hC, w7.up (by omega)⟩
            have h0 := (hrb mx hmx).1
            have : mx ≠ 0 := fun z => e (by rw [z]; rfl)
            omega
        · rintro σ' H' ⟨row', rfl, hg', hC', w8⟩
          refine ⟨.ref FD, rfl, .inl ⟨rfl, _, SqL.of w8.fd⟩, _, rfl, C, _, rfl, .inl ⟨SqL.of hC', fun p np => ?_⟩⟩
          have w9 := w8.same (same_new (o := .tup (row'.map V.int)) np)
          have hp : (upd H' p (.tup (row'.map V.int))) p = some (.tup (row'.map V.int)) := upd_same
          generalize upd H' p (.tup (row'.map V.int)) = H9 at w9 hp ⊢
          have hlt : (ls'.map V.ref).length < sizeLine := by
            rw [List.length_map, w9.ll, hwl]
            exact len_lt (by omega)
          refine ⟨FD, _, .ref p, rfl, rfl, w9.fd, hlt, ls' ++ [p], ws ++ [row'], _, _, _, _, rfl, ?_, ?_, ?_⟩
          · rw [List.length_append, hwl]
            rfl
          · intro r hr
            rcases List.mem_append.mp hr with h | h
            · exact hg r h
            · rw [List.mem_singleton.mp h]
              exact hg'
          · exact ⟨TK.lst w9.fd _ _ w9.tt, by rw [upd_same, List.map_append]; rfl, by rw [List.length_append, List.length_append, w9.ll]; rfl, (w9.ra.snoc w9.ll hp).updL w9.fd, w9.kp.updF w9.nfd, w9.d.updD w9.ne.1 w9.ne.2, w9.nfd, w9.ne⟩
    · obtain ⟨ls', ws, y5, y6, y7, y8, rfl, hwl, hg, w5⟩ := h
      refine ⟨_, rfl, FD, _, rfl, .inl ⟨SqL.of w5.fd, fun p np => ?_⟩⟩
      have w6 := w5.same (same_new (o := .tup (ls'.map V.ref)) np)
      exact q p ls' ws _ ⟨⟨upd_same, w6.ll, w6.ra⟩, by omega, by omega, hg, hn1, hn4⟩ ((kps s1).trans w6.kp) (w6.d.up (by omega))
end
end DD
namespace DD
open PySem PySem.Spec PyProof.Rows L2 RZ
theorem RowsAt.append {H : Hp} {ls ls2 : List Addr} {rows rows2 : List (List Int)} (a : RowsAt H ls rows) (hl : ls.length = rows.length) (b : RowsAt H ls2 rows2) : RowsAt H (ls ++ ls2) (rows ++ rows2) := fun j l r x1 x2 => by
  by_cases hj : j < ls.length
  · rw [List.getElem?_append_left hj] at x1
    rw [List.getElem?_append_left (by rw [← hl]; exact hj)] at x2
    exact a j l r x1 x2
  · rw [List.getElem?_append_right (by omega)] at x1
    rw [List.getElem?_append_right (by omega), ← hl] at x2
    exact b _ l r x1 x2
abbrev NLs : List Str := ["_law_collections", "_law_found", "_law_needed", "_law_kinds", "_law_longer", "_law_some", "_law_kind"]
theorem scLSp : FnScope NLs ["_law_collections"] (defScope sLSp) := ⟨rfl, rfl, rfl, by decide +kernel, rfl, by decide +kernel, by decide +kernel⟩
section
variable {P : Program} {w : World} {K : PySem.W.Frag} {mg : Str → Option Value} {base : Heap}
def spLSp : Sp := fun vs H Q _ => ∃ (t : Addr) (ls : List Addr) (ws : List (List Int)), vs = [.ref t] ∧ StockAt H t ls ws ∧ ws.length ≤ 4 ∧ (∀ r ∈ ws, r.length ≤ 4) ∧
  ∀ D as H', Same H H' → H' D = some (.lst (as.map V.ref)) → as.length = (spOf ws).length → RowsAt H' as (spOf ws) → Q (.ref D) H'
set_option maxHeartbeats 1600000 in
theorem ok_lsp {f fN fU fTu fA fAu fO fFu fCo fSp fCa fIr fTk fI fR fFc fLo fSo fOv fDw fSv fCh fUd fEt fAo fAd fDk fD fS fTt fW fPl fLu fLs fLc fM fE fX fNu fId fKn fHo fAy fOo fRp fAt fVa : Addr} {fd dN dU dTu dA dAu dO dFu dCo dSp dCa dIr dTk dI dR dFc dLo dSo dOv dDw dSv dCh dUd dEt dAo dAd dDk dD dS dTt dW dPl dLu dLs dLc dM dE dX dNu dId dKn dHo dAy dOo dRp dAt dVa : FuncData} {k : Nat} (F : Fun K "_law_spoilings" "_law_spoilings" sLSp f fd) (T : Tx K mg fN fU fTu fA fAu fO fFu fCo fSp fCa fIr fTk fI fR fFc fLo fSo fOv fDw fSv fCh fUd fEt fAo fAd fDk fD fS fTt fW fPl fLu fLs fLc fM fE fX fNu fId fKn fHo fAy fOo fRp fAt fVa dN dU dTu dA dAu dO dFu dCo dSp dCa dIr dTk dI dR dFc dLo dSo dOv dDw dSv dCh dUd dEt dAo dAd dDk dD dS dTt dW dPl dLu dLs dLc dM dE dX dNu dId dKn dHo dAy dOo dRp dAt dVa) :
    FnOk P w K mg base CX0 (k + 1) f fd ["_law_collections"] spLSp := by
  refine F.ok scLSp (fun vs H Q E h => ?_) (fun cdv A outer s H vs Q E hr h => ?_)
  · obtain ⟨t, ls, ws, rfl, _⟩ := h
    rfl
  · obtain ⟨t, ls, ws, rfl, st, hl4, hr4, q⟩ := h
    refine ⟨_, (pss_cons (ps_set (i := 1) scLSp.nd rfl (.inl rfl) (pe_lst (pa_cons (pe_tup pa_nil) pa_nil)))
      (pss_cons (ps_for PassesOwn.never rfl (pi_tup (pv 0)) (pg_name (i := 2) scLSp.nd rfl (Or.inr rfl)) (pss_cons (ps_setLc (i := 3) (own := [("_law_kind", 6)]) (g := gName 6) rfl scLSp.nd rfl rfl (sw_true rfl rfl rfl (by decide +kernel)) (pi_range1 (by rfl) T.m_range (pa_cons (pe_callB call_len_seq (by rfl) T.m_len PySem.boot_len (pa_cons (pv 2) pa_nil)) pa_nil)) (blkOk_by (own := [("_law_kind", 6)]) (N := NLs) (sc := defScope sLSp) (by decide +kernel)) (fun _ _ _ _ _ => (pg_name (i := 6) scLSp.nd rfl (Or.inl rfl))) (fun _ _ _ _ _ => pts_one (pt_cmpR op_gt (pe_ix (show IxR _ (rIxT K) from ix_tup) (pv 2) (pv 6) (fun _ _ => rfl)) pe_int (nomark _))) (fun _ _ _ _ _ => (pv 6)))
      (pss_cons (ps_set (i := 4) scLSp.nd rfl (.inl rfl) (pe_lst pa_nil))
      (pss_cons (ps_for PassesOwn.never rfl (pi_list (pv 1)) (pg_name (i := 5) scLSp.nd rfl (Or.inr rfl)) (pss_one (ps_expr (pe_bm PySem.F.plainAttrs_list PySem.F.slot_list_extend PySem.F.type_list_extend mt_extend (pv 4) (pa_cons (pe_lc (own := [("_law_kind", 6)]) (g := gName 6) rfl scLSp.nd (pi_list (pv 3)) (blkOk_by (own := [("_law_kind", 6)]) (N := NLs) (sc := defScope sLSp) (by decide +kernel)) (fun _ _ _ _ _ => (pg_name (i := 6) scLSp.nd rfl (Or.inl rfl))) (fun _ _ _ _ _ => pts_nil) (fun _ _ _ _ _ => (pe_op op_catQ (pv 5) (pe_tup (pa_cons (pv 6) pa_nil))))) pa_nil)))))
      (pss_one (ps_set (i := 1) scLSp.nd rfl (.inl rfl) (pv 4)))))))
      (pss_one (ps_ret (pv 1))))), ?_⟩
    refine ⟨Nat.zero_le _, fun p0 np0 => ?_⟩
    refine ⟨by show 1 ≤ sizeLine; decide, fun F0 nF0 => ?_⟩
    have s0 : Same H (upd (upd H p0 (.tup [])) F0 (.lst [.ref p0])) := (same_new np0).trans (same_new nF0)
    have hp0 : (upd (upd H p0 (.tup [])) F0 (.lst [.ref p0])) p0 = some (.tup (([] : List Int).map V.int)) := same_new nF0 _ _ upd_same
    have hF0 : (upd (upd H p0 (.tup [])) F0 (.lst [.ref p0])) F0 = some (.lst ([p0].map V.ref)) := upd_same
    have hR0 : RowsAt (upd (upd H p0 (.tup [])) F0 (.lst [.ref p0])) [p0] [[]] := RowsAt.snoc (ls := []) (rows := []) RowsAt.nil rfl hp0
    generalize upd (upd H p0 (.tup [])) F0 (.lst [.ref p0]) = H0 at s0 hF0 hR0 ⊢
    refine ⟨.ref t, rfl, t, rfl, ⟨_, SqT.of (s0 _ _ st.top)⟩, ?_⟩
    refine for_it (walk_tup (xs := ls.map V.ref)) (fun i σ H' => ∃ (S : Addr) (as : List Addr) (y2 y3 y4 y5 y6 : Option V), σ = [some (.ref t), some (.ref S), y2, y3, y4, y5, y6] ∧ Same H H' ∧ H' S = some (.lst (as.map V.ref)) ∧ as.length = (spOf (ws.take i)).length ∧ RowsAt H' as (spOf (ws.take i)))
      ⟨F0, [p0], _, _, _, _, _, rfl, s0, hF0, rfl, hR0⟩ (fun i σ H' _ h => by obtain ⟨S, as, _, _, _, _, _, _, sm, _⟩ := h; exact SqT.of (sm _ _ st.top)) (fun i x σ H' H1 hi h y => ?_) (fun σ H' h => ?_)
    · obtain ⟨S, as, y2, y3, y4, y5, y6, rfl, sm, hS, hal, hR⟩ := h
      obtain ⟨rfl, hx⟩ := y
      obtain ⟨l, hl, rfl⟩ := get_map hx
      have hil : i < ws.length := by
        have := (List.getElem?_eq_some_iff.mp hl).1
        have := st.len
        omega
      have hr' : ws[i]? = some ws[i] := List.getElem?_eq_getElem hil
      have hrow := sm _ _ (st.row i l _ hl hr')
      have hrl4 : ws[i].length ≤ 4 := hr4 _ (List.getElem_mem hil)
      have hlen1 : (spOf (ws.take i)).length ≤ 64 := Nat.le_trans (spOf_len hr4 i) (Nat.pow_le_pow_right (n := 4) (by decide) (show i ≤ 3 by omega))
      -- kinds
      refine ⟨_, rfl, l, _, rfl, .inr (SqT.of hrow), (ws[i].length : Int), by rw [List.length_map], by omega, by omega, fun D nD => ?_⟩
      refine lc_range (lo := 0) (n := ws[i].length) (fun j H2 => H2 D = some (.lst ((kindsUp ws[i] j).map V.int)) ∧ Same H1 H2) ⟨upd_same, same_new nD⟩ (fun j H2 hj h => ?_) (fun H2 h => ?_)
      · obtain ⟨hD, s2⟩ := h
        have gr : (ws[i].map V.int)[j]? = some (.int (ws[i].getD j 0)) := by
          rw [List.getElem?_map, getD_of (d := 0) hj]
          rfl
        refine ⟨rfl, .ref l, rfl, .int ((0 : Int) + j), rfl, l, _, (j : Int), .int (ws[i].getD j 0), rfl, (by rw [Int.zero_add]), SqT.of (s2 _ _ hrow), atI_nat gr, _, _, rfl, rfl, _, rfl, ite2 (fun e => ?_) (fun e => ?_)⟩
        · refine ⟨_, rfl, _, hD, ?_, ?_, fun b' o e' => ?_⟩
          · rw [List.length_map]
            have := kinds_len ws[i] j
            exact len_lt (by omega)
          · rw [upd_same, kinds_succ, if_pos (show posAt ws[i] j = true from e), List.map_append]
            rfl
          · rw [upd_ne (ne_of_none e' nD)]
            exact s2 b' o e'
        · refine ⟨?_, s2⟩
          rw [kinds_succ, if_neg (show ¬ posAt ws[i] j = true from e), List.append_nil]
          exact hD
      · obtain ⟨hD, s2⟩ := h
        have hD : H2 D = some (.lst ((kindsOf ws[i]).map V.int)) := hD
        have hk4 : (kindsOf ws[i]).length ≤ 4 := Nat.le_trans (kinds_len _ _) hrl4
        have hS2 := s2 _ _ hS
        have hR2 := hR.same s2
        have sm2 := sm.trans s2
        -- longer = []
        refine ⟨Nat.zero_le _, fun L nL => ?_⟩
        have s3 : Same H2 (upd H2 L (.lst [])) := same_new nL
        refine ⟨_, rfl, S, rfl, ⟨_, SqL.of (s3 _ _ hS2)⟩, ?_⟩
        refine for_it (walk_list (xs := as.map V.ref)) (fun j σ H' => ∃ (as' : List Addr) (y5 y6 : Option V), σ = [some (.ref t), some (.ref S), some (.ref l), some (.ref D), some (.ref L), y5, y6] ∧ Same H2 H' ∧ H' L = some (.lst (as'.map V.ref)) ∧ as'.length = (spStep ((spOf (ws.take i)).take j) ws[i]).length ∧ RowsAt H' as' (spStep ((spOf (ws.take i)).take j) ws[i]))
          ⟨[], _, _, rfl, s3, upd_same, rfl, RowsAt.nil⟩ (fun j σ H' _ h => by obtain ⟨_, _, _, _, s4, _⟩ := h; exact SqL.of (s4 _ _ hS2)) (fun j x σ H' H3 hj h y => ?_) (fun σ H' h => ?_)
        · obtain ⟨as', y5, y6, rfl, s4, hL, hal', hR3⟩ := h
          obtain ⟨rfl, hx'⟩ := y
          obtain ⟨a1, ha1, rfl⟩ := get_map hx'
          rw [List.length_map] at hj
          have hjs : j < (spOf (ws.take i)).length := by omega
          have hsj : (spOf (ws.take i))[j]? = some (spOf (ws.take i))[j] := List.getElem?_eq_getElem hjs
          have hta := s4 _ _ (hR2 j a1 _ ha1 hsj)
          generalize hs : (spOf (ws.take i))[j] = s' at hsj hta
          have hs4 : s'.length ≤ 4 := by
            have hm' := List.mem_of_getElem? hsj
            rw [spOf_eq] at hm'
            have h1 := (spR_bd (fun r hr => hr4 r (List.mem_of_mem_take hr)) _ hm').1
            rw [List.length_take] at h1
            omega
          refine ⟨.ref L, rfl, .inl ⟨rfl, _, SqL.of hL⟩, _, rfl, D, rfl, ⟨_, SqL.of (s4 _ _ hD)⟩, fun E1 nE => ?_⟩
          refine lc_list (xs := (kindsOf ws[i]).map V.int) (fun m H5 => ∃ as2 : List Addr, H5 E1 = some (.lst (as2.map V.ref)) ∧ Same H3 H5 ∧ as2.length = m ∧ RowsAt H5 as2 (((kindsOf ws[i]).take m).map fun k => s' ++ [k])) ⟨[], upd_same, same_new nE, rfl, RowsAt.nil⟩
            (fun m H5 _ h => by obtain ⟨_, _, s5, _⟩ := h; exact SqL.of (s5 _ _ (s4 _ _ hD))) (fun m x H5 hx h => ?_) (fun H5 h => ?_)
          · obtain ⟨as2, hE5, s5, hal2, hR5⟩ := h
            obtain ⟨kv, hkv, rfl⟩ := get_map hx
            have hta5 := s5 _ _ hta
            refine ⟨rfl, _, rfl, _, rfl, by show 1 ≤ sizeLine; decide, fun p1 np1 => ?_⟩
            have s6 : Same H5 (upd H5 p1 (.tup [.int kv])) := same_new np1
            refine ⟨a1, p1, _, [.int kv], rfl, rfl, s6 _ _ hta5, upd_same, by rw [List.length_map]; show _ + 1 ≤ 1000; omega, fun p2 H6 s7 h7 => ?_⟩
            have s56 := s6.trans s7
            have hE6 := s56 _ _ hE5
            have h7' : H6 p2 = some (.tup ((s' ++ [kv]).map V.int)) := by rw [h7, List.map_append]; rfl
            refine ⟨_, hE6, ?_, as2 ++ [p2], ?_, fun b' o e' => ?_, ?_, ?_⟩
            · rw [List.length_map, hal2]
              have := (List.getElem?_eq_some_iff.mp hkv).1
              exact len_lt (by omega)
            · rw [upd_same, List.map_append]
              rfl
            · rw [upd_ne (ne_of_none e' nE)]
              exact s56 _ _ (s5 b' o e')
            · rw [List.length_append, hal2]
              rfl
            · rw [take_succ_map hkv]
              refine RowsAt.updL (RowsAt.snoc (hR5.same s56) ?_ h7') hE6
              rw [List.length_map, List.length_take, hal2]
              have := (List.getElem?_eq_some_iff.mp hkv).1
              omega
          · obtain ⟨as2, hE5, s5, hal2, hR5⟩ := h
            rw [List.length_map] at hal2 hR5
            rw [List.take_length] at hR5
            have hL5 := s5 _ _ hL
            refine ⟨L, E1, _, _, rfl, rfl, hL5, hE5, ?_, as' ++ as2, _, _, rfl, ?_, ?_, ?_, ?_⟩
            · rw [List.length_map, List.length_map, hal', hal2, step_len, List.length_take]
              have h1 : min j (spOf (ws.take i)).length ≤ 64 := by omega
              have h3 := Nat.mul_le_mul h1 hk4
              exact Nat.le_of_lt (len_lt (by omega))
            · intro b' o e'
              rw [upd_ne (ne_of_none e' nL)]
              exact s5 _ _ (s4 b' o e')
            · rw [upd_same, List.map_append]
            · rw [take_flat hsj, List.length_append, List.length_append, List.length_map, hal', hal2]
            · rw [take_flat hsj]
              exact RowsAt.updL (RowsAt.append (hR3.same s5) hal' hR5) hL5
        · obtain ⟨as', y5, y6, rfl, s4, hL, hal', hR3⟩ := h
          rw [List.length_map, hal, List.take_length] at hal' hR3
          refine ⟨_, rfl, L, as', _, _, _, _, _, rfl, sm2.trans s4, hL, ?_, ?_⟩
          · rw [spOf_snoc hr']
            exact hal'
          · rw [spOf_snoc hr']
            exact hR3
    · obtain ⟨S, as, y2, y3, y4, y5, y6, rfl, sm, hS, hal, hR⟩ := h
      rw [List.length_map, st.len, List.take_length] at hal hR
      exact ⟨_, rfl, q S as _ sm hS hal hR⟩
end
end DD
namespace DD
open PySem PySem.Spec PyProof.Rows L2 RZ
def capUp (rows : List (List Int)) (named : List Int) (i k : Nat) : Option Int := if pickUp rows named k i = [] then none else some (minL (pickUp rows named k i) - 1)
theorem minL_snoc {l : List Int} {x : Int} (h : l ≠ []) : minL (l ++ [x]) = if x < minL l then x else minL l := by
  symm
  refine minL_uniq ?_ fun y hy => ?_
  · split
    · exact List.mem_append_right _ (List.mem_singleton.mpr rfl)
    · exact List.mem_append_left _ (minL_mem h)
  · rcases List.mem_append.mp hy with h' | h'
    · have := minL_le y h'
      split <;> omega
    · rw [List.mem_singleton.mp h']
      split <;> omega
theorem minL_one {x : Int} : minL [x] = x := (minL_uniq (l := [x]) (m := x) (List.mem_singleton.mpr rfl) fun y hy => by rw [List.mem_singleton.mp hy]; exact Int.le_refl _).symm
theorem caps_set {n k : Nat} {f g : Nat → Option Int} {x : Option Int} (h : g k = x) (ho : ∀ j, j ≠ k → g j = f j) : ((List.range n).map fun j => optI (f j)).set k (optI x) = (List.range n).map fun j => optI (g j) := by
  refine List.ext_getElem? fun j => ?_
  rw [List.getElem?_set, List.getElem?_map]
  by_cases e : k = j
  · subst e
    by_cases hk : k < n
    · rw [if_pos rfl, if_pos (by simpa using hk), List.getElem?_map, List.getElem?_range hk]
      show _ = some (optI (g k))
      rw [h]
    · rw [if_pos rfl, if_neg (by simpa using hk), List.getElem?_map, List.getElem?_eq_none (by simpa using hk)]
      rfl
  · rw [if_neg e, List.getElem?_map]
    cases hr : (List.range n)[j]? with
    | none => rfl
    | some v =>
      have hv : j = v := by
        have := (List.getElem?_eq_some_iff.mp hr)
        simpa using this.2
      show some (optI (f v)) = some (optI (g v))
      rw [ho v (by omega)]
abbrev NLc : List Str := ["_law_collections", "_law_spoiling", "_law_found", "_law_needed", "_law_kind", "_law_cap"]
theorem scLCaps : FnScope NLc ["_law_collections", "_law_spoiling"] (defScope sLCaps) := ⟨rfl, rfl, rfl, by decide +kernel, rfl, by decide +kernel, by decide +kernel⟩
section
variable {P : Program} {w : World} {K : PySem.W.Frag} {mg : Str → Option Value} {base : Heap}
def spLCaps : Sp := fun vs H Q _ => ∃ (t b : Addr) (ls : List Addr) (ws : List (List Int)) (s : List Int) (n : Nat), vs = [.ref t, .ref b] ∧ Wish H t ls ws n ∧ s ∈ spOf ws ∧ H b = some (.tup (s.map V.int)) ∧
  ∀ p H', Same H H' → H' p = some (.tup ((capsOf ws s n).map optI)) → Q (.ref p) H'
theorem ok_lcaps {f fN fU fTu fA fAu fO fFu fCo fSp fCa fIr fTk fI fR fFc fLo fSo fOv fDw fSv fCh fUd fEt fAo fAd fDk fD fS fTt fW fPl fLu fLs fLc fM fE fX fNu fId fKn fHo fAy fOo fRp fAt fVa : Addr} {fd dN dU dTu dA dAu dO dFu dCo dSp dCa dIr dTk dI dR dFc dLo dSo dOv dDw dSv dCh dUd dEt dAo dAd dDk dD dS dTt dW dPl dLu dLs dLc dM dE dX dNu dId dKn dHo dAy dOo dRp dAt dVa : FuncData} {k : Nat} (F : Fun K "_law_caps" "_law_caps" sLCaps f fd) (T : Tx K mg fN fU fTu fA fAu fO fFu fCo fSp fCa fIr fTk fI fR fFc fLo fSo fOv fDw fSv fCh fUd fEt fAo fAd fDk fD fS fTt fW fPl fLu fLs fLc fM fE fX fNu fId fKn fHo fAy fOo fRp fAt fVa dN dU dTu dA dAu dO dFu dCo dSp dCa dIr dTk dI dR dFc dLo dSo dOv dDw dSv dCh dUd dEt dAo dAd dDk dD dS dTt dW dPl dLu dLs dLc dM dE dX dNu dId dKn dHo dAy dOo dRp dAt dVa) :
    FnOk P w K mg base CX0 (k + 1) f fd ["_law_collections", "_law_spoiling"] spLCaps := by
  refine F.ok scLCaps (fun vs H Q E h => ?_) (fun cdv A outer s H vs Q E hr h => ?_)
  · obtain ⟨t, b, ls, ws, s, n, rfl, _⟩ := h
    rfl
  · obtain ⟨t, b, ls, ws, sp, n, rfl, wi, hsp, hb, q⟩ := h
    refine ⟨_, (pss_cons (ps_set (i := 2) scLCaps.nd rfl (.inl rfl) (pe_op op_rep (pe_lst (pa_cons pe_non pa_nil)) (pe_callB call_len_seq (by rfl) T.m_len PySem.boot_len (pa_cons (pe_ix (show IxR _ (rIxT K) from ix_tup) (pv 0) pe_int (fun _ _ => rfl)) pa_nil))))
      (pss_cons (ps_for PassesOwn.never rfl (pi_zipA (by rfl) T.m_zip (pa_cons (pv 0) (pa_cons (pv 1) pa_nil))) (pg_tup rfl (pgs_cons (pg_name (i := 3) scLCaps.nd rfl (Or.inl rfl)) (pgs_cons (pg_name (i := 4) scLCaps.nd rfl (Or.inl rfl)) pgs_nil))) (pss_cons (ps_set (i := 5) scLCaps.nd rfl (.inl rfl) (pe_op op_sub (pe_ix (show IxR _ (rIxT K) from ix_tup) (pv 3) (pv 4) (fun _ _ => rfl)) pe_int))
      (pss_one (ps_asg (pe_ifExp (pt_cmpR op_isN (pe_ix (show IxR _ (rIxL K) from ix_list) (pv 2) (pv 4) (fun _ _ => rfl)) pe_non (nomark _)) (pv 5) (pe_callB (call_min2 rfl) (by rfl) T.m_min (by decide +kernel) (pa_cons (pe_ix (show IxR _ (rIxL K) from ix_list) (pv 2) (pv 4) (fun _ _ => rfl)) (pa_cons (pv 5) pa_nil)))) (pg_sub (pv 2) (pv 4) set_list)))))
      (pss_one (ps_ret (pe_callTy call_tuple_of (by rfl) T.m_tuple (by decide +kernel) (pa_cons (pv 2) pa_nil)))))), ?_⟩
    have hl0 := getD_of (d := 0) (show 0 < ls.length by rw [wi.st.len]; exact wi.l1)
    have hr0 := getD_of (d := ([] : List Int)) wi.l1
    have g0 : (ls.map V.ref)[0]? = some (.ref (ls.getD 0 0)) := by
      rw [List.getElem?_map, hl0]
      rfl
    have hn4 := wi.n4
    have hs' := hsp
    rw [spOf_eq] at hs'
    obtain ⟨hsl, hsk⟩ := spR_fwd hs'
    refine ⟨by show 1 ≤ sizeLine; decide, fun l nl => ?_⟩
    have s1 : Same H (upd H l (.lst [.non])) := same_new nl
    have hl1 : (upd H l (.lst [V.non])) l = some (.lst [V.non]) := upd_same
    generalize upd H l (.lst [V.non]) = H1 at s1 hl1 ⊢
    have w1 := wi.same s1
    have hrow0 := w1.st.row 0 _ _ hl0 hr0
    have hrl0 : (ws.getD 0 []).length = n := (wi.g _ (List.mem_of_getElem? hr0)).len
    refine ⟨_, rfl, t, _, 0, .ref (ls.getD 0 0), rfl, rfl, SqT.of w1.st.top, atI_nat (j := 0) g0, ls.getD 0 0, _, rfl, .inr (SqT.of hrow0), ?_⟩
    refine ⟨l, (n : Int), [.non], rfl, ?_, hl1, by omega, by omega, ?_, fun FD nF => ?_⟩
    · rw [List.length_map]
      exact congrArg (fun x : Nat => V.int (x : Int)) hrl0
    · rw [Int.toNat_natCast]
      exact Nat.le_of_lt (len_lt (by show 1 * n ≤ 1000; omega))
    rw [Int.toNat_natCast]
    have hfl : (List.replicate n [V.non]).flatten = (List.range n).map fun j => optI (capUp ws sp 0 j) := by
      have e0 : ∀ j, capUp ws sp 0 j = none := fun j => by
        unfold capUp pickUp
        rw [List.take_zero]
        rfl
      refine List.ext_getElem? fun j => ?_
      have e1 : ∀ m : Nat, (List.replicate m [V.non]).flatten = List.replicate m V.non := fun m => by
        induction m with
        | zero => rfl
        | succ m ih =>
          rw [List.replicate_succ, List.flatten_cons, ih, List.replicate_succ]
          rfl
      rw [e1, List.getElem?_replicate, List.getElem?_map]
      by_cases hj : j < n
      · rw [if_pos hj, List.getElem?_range hj]
        show _ = some (optI (capUp ws sp 0 j))
        rw [e0]
        rfl
      · rw [if_neg hj, List.getElem?_eq_none (by simpa using hj)]
        rfl
    have s2 : Same H1 (upd H1 FD (.lst (List.replicate n [V.non]).flatten)) := same_new nF
    have hF2 : (upd H1 FD (.lst (List.replicate n [V.non]).flatten)) FD = some (.lst ((List.range n).map fun j => optI (capUp ws sp 0 j))) := by rw [upd_same, hfl]
    generalize upd H1 FD (.lst (List.replicate n [V.non]).flatten) = H2 at s2 hF2 ⊢
    have s12 := s1.trans s2
    have hFn : H FD = none := s1.free nF
    have w2 := w1.same s2
    have hb2 := s12 _ _ hb
    refine ⟨.ref t, rfl, .ref b, rfl, t, b, _, _, rfl, .inr ⟨SqT.of w2.st.top, SqT.of hb2, ?_⟩⟩
    refine for_it (walk_zipT (xs := ls.map V.ref) (ys := sp.map V.int) (by rw [List.length_map, List.length_map, wi.st.len, hsl]; exact Nat.le_refl _)) (fun i σ H' => ∃ y3 y4 y5 : Option V, σ = [some (.ref t), some (.ref b), some (.ref FD), y3, y4, y5] ∧ Same H H' ∧ H' FD = some (.lst ((List.range n).map fun j => optI (capUp ws sp i j))))
      ⟨_, _, _, rfl, s12, hF2⟩ (fun i σ H' _ h => by obtain ⟨_, _, _, _, s, _⟩ := h; exact ⟨SqT.of (s _ _ wi.st.top), SqT.of (s _ _ hb)⟩) (fun i x σ H' H3 hi h y => ?_) (fun σ H' h => ?_)
    · obtain ⟨y3, y4, y5, rfl, sm, hF⟩ := h
      obtain ⟨T1, x1, x2, rfl, nT, rfl, e1, e2⟩ := y
      obtain ⟨a, ha, rfl⟩ := get_map e1
      obtain ⟨kv, hkv, rfl⟩ := get_map e2
      have hil : i < ws.length := by
        have := (List.getElem?_eq_some_iff.mp ha).1
        have := wi.st.len
        omega
      have hri : ws[i]? = some ws[i] := List.getElem?_eq_getElem hil
      obtain ⟨kn, rfl, hkl, _⟩ := mem_kinds (hsk i _ _ hri hkv)
      have hgi := wi.g _ (List.getElem_mem hil)
      have hkn : kn < n := by rw [← hgi.len]; exact hkl
      have sT : Same H' (upd H' T1 (.tup [.ref a, .int (kn : Int)])) := same_new nT
      have h1 : (upd H' T1 (.tup [V.ref a, .int (kn : Int)])) T1 = some (.tup [.ref a, .int (kn : Int)]) := upd_same
      generalize upd H' T1 (.tup [V.ref a, .int (kn : Int)]) = H3 at sT h1 ⊢
      have s3 := sm.trans sT
      have hF3 := sT _ _ hF
      have hrow := s3 _ _ (wi.st.row i a _ ha hri)
      have gr : (ws[i].map V.int)[kn]? = some (.int (ws[i].getD kn 0)) := by
        rw [List.getElem?_map, getD_of (d := 0) hkl]
        rfl
      have gf : ((List.range n).map fun j => optI (capUp ws sp i j))[kn]? = some (optI (capUp ws sp i kn)) := by
        rw [List.getElem?_map, List.getElem?_range hkn]
        rfl
      have hix : ixN ((List.range n).map fun j => optI (capUp ws sp i j)).length (kn : Int) = some kn := by
        unfold ixN
        rw [if_pos (by omega), if_pos (by rw [List.length_map, List.length_range]; omega)]
        simp
      have hoth : ∀ j, j ≠ kn → capUp ws sp (i + 1) j = capUp ws sp i j := fun j hj => by
        have e : pickUp ws sp j (i + 1) = pickUp ws sp j i := by rw [pick_succ hri hkv, if_neg (by omega), List.append_nil]
        unfold capUp
        rw [e]
      have hown : pickUp ws sp kn (i + 1) = pickUp ws sp kn i ++ [ws[i].getD kn 0] := by rw [pick_succ hri hkv, if_pos rfl]
      refine ⟨T1, [.ref a, .int (kn : Int)], rfl, .inl (.inl h1), rfl, .ref a, [.int (kn : Int)], rfl, .int (kn : Int), [], rfl, rfl, ?_⟩
      refine ⟨.ref a, rfl, .int (kn : Int), rfl, a, _, (kn : Int), .int (ws[i].getD kn 0), rfl, rfl, SqT.of hrow, atI_nat gr, _, 1, rfl, rfl, ?_⟩
      refine ⟨.ref FD, rfl, .int (kn : Int), rfl, FD, _, (kn : Int), optI (capUp ws sp i kn), rfl, rfl, SqL.of hF3, atI_nat gf, rfl, _, rfl, ?_⟩
      have fin : ∀ v : Option Int, capUp ws sp (i + 1) kn = v → ∀ σ : L2.St, (∃ y3 y4 y5 : Option V, σ = [some (.ref t), some (.ref b), some (.ref FD), y3, y4, y5]) →
          ∃ y3 y4 y5 : Option V, σ = [some (.ref t), some (.ref b), some (.ref FD), y3, y4, y5] ∧ Same H (upd H3 FD (.lst (((List.range n).map fun j => optI (capUp ws sp i j)).set kn (optI v)))) ∧ (upd H3 FD (.lst (((List.range n).map fun j => optI (capUp ws sp i j)).set kn (optI v)))) FD = some (.lst ((List.range n).map fun j => optI (capUp ws sp (i + 1) j))) := fun v hv σ h => by
        obtain ⟨a1, a2, a3, rfl⟩ := h
        refine ⟨a1, a2, a3, rfl, fun b' o e => ?_, ?_⟩
        · rw [upd_ne (ne_of_none e hFn)]
          exact s3 b' o e
        · rw [upd_same, caps_set hv hoth]
      by_cases hp : pickUp ws sp kn i = []
      · have e1 : capUp ws sp i kn = none := by unfold capUp; rw [if_pos hp]
        rw [e1]
        refine iteT ⟨_, rfl, .ref FD, rfl, .int (kn : Int), rfl, FD, _, (kn : Int), kn, rfl, rfl, hF3, hix, ?_⟩
        exact fin (some (ws[i].getD kn 0 - 1)) (by unfold capUp; rw [hown, hp, List.nil_append, if_neg (by simp), minL_one]) _ ⟨_, _, _, rfl⟩
      · have e1 : capUp ws sp i kn = some (minL (pickUp ws sp kn i) - 1) := by unfold capUp; rw [if_neg hp]
        refine iteNx (by rw [e1]; rfl) ⟨.ref FD, rfl, .int (kn : Int), rfl, FD, _, (kn : Int), optI (capUp ws sp i kn), rfl, rfl, SqL.of hF3, atI_nat gf, _, rfl, minL (pickUp ws sp kn i) - 1, ws[i].getD kn 0 - 1, by rw [e1]; rfl, ?_⟩
        refine ⟨.ref FD, rfl, .int (kn : Int), rfl, FD, _, (kn : Int), kn, rfl, rfl, hF3, hix, ?_⟩
        refine fin (some _) ?_ _ ⟨_, _, _, rfl⟩
        unfold capUp
        rw [hown, if_neg (by simp), minL_snoc hp]
        congr 1
        split <;> split <;> omega
    · obtain ⟨y3, y4, y5, rfl, sm, hF⟩ := h
      refine ⟨_, rfl, FD, _, rfl, .inl ⟨SqL.of hF, fun p np => q p _ (sm.trans (same_new np)) ?_⟩⟩
      rw [upd_same]
      unfold capsOf
      rw [List.map_map, List.length_map, wi.st.len]
      rfl
end
end DD
namespace DD
open PySem PySem.Spec PyProof.Rows L2 RZ
def big (rows : List (List Int)) (cs : List (Option Int)) (ps : List Int) (ds : List Nat) : Bool := decide ((ds.map fun j => ps.getD j 0).sum > roomL rows cs ds)
def exOf (rows : List (List Int)) (cs : List (Option Int)) (ps : List Int) : List (List Nat) := (setsOf rows.length).filter (big rows cs ps)
def sureB (rows ws : List (List Int)) (ps : List Int) (n : Nat) : Bool := (spOf ws).all fun s => !(exOf rows (capsOf ws s n) ps).isEmpty
theorem take_filter {α : Type} {p : α → Bool} {xs : List α} {i : Nat} {x : α} (h : xs[i]? = some x) : (xs.take (i + 1)).filter p = (xs.take i).filter p ++ (if p x = true then [x] else []) := by
  rw [List.take_add_one, h, List.filter_append]
  congr 1
  by_cases e : p x = true
  · rw [if_pos e]
    simp [e]
  · rw [if_neg e]
    simp [e]
theorem caps_nn {ws : List (List Int)} {s : List Int} {n : Nat} (hs : s ∈ spOf ws) : ∀ c, some c ∈ capsOf ws s n → 0 ≤ c := fun c hc => by
  obtain ⟨k, _, e⟩ := List.mem_map.mp hc
  exact cap_nn hs e
def natsI (ds : List Nat) : List Int := ds.map fun j : Nat => (j : Int)
theorem natsV_eq (ds : List Nat) : natsV ds = (natsI ds).map V.int := by
  unfold natsV natsI
  rw [List.map_map]
  rfl
theorem sm_nats {ds : List Nat} (h : ∀ j ∈ ds, j < 4) (hl : ds.length ≤ 4) : Sm 56 1 (rowD (natsI ds)) := by
  refine sm_row (fun x hx => ?_) (by unfold natsI; rw [List.length_map]; exact hl)
  obtain ⟨j, hj, rfl⟩ := List.mem_map.mp hx
  have := h j hj
  omega
theorem SetsAt.dps {K : PySem.W.Frag} {H : Hp} {n : Nat} : ∀ {as : List Addr} {dss : List (List Nat)}, SetsAt H as dss n → DpAll K H (as.map V.ref) (dss.map fun ds => rowD (natsI ds))
  | [], [], _ => .nil
  | [], _ :: _, a => by have := a.len; simp at this
  | _ :: _, [], a => by have := a.len; simp at this
  | x :: as, ds :: dss, a => .cons (dp_row (by rw [← natsV_eq]; exact a.at_ 0 x ds rfl rfl)) (SetsAt.dps ⟨by have := a.len; simpa using this, fun j l r e1 e2 => a.at_ (j + 1) l r e1 e2, fun d hd => a.bd d (List.mem_cons_of_mem _ hd)⟩)
abbrev NX : List Str := ["_law_stock_here", "_law_caps_here", "_law_plan_here", "_law_found", "_law_drawers", "_law_drawer"]
theorem scExc : FnScope NX ["_law_stock_here", "_law_caps_here", "_law_plan_here"] (defScope sExc) := ⟨rfl, rfl, rfl, by decide +kernel, rfl, by decide +kernel, by decide +kernel⟩
section
variable {P : Program} {w : World} {K : PySem.W.Frag} {mg : Str → Option Value} {base : Heap}
def spExc : Sp := fun vs H Q _ => ∃ (t b p : Addr) (ls : List Addr) (rows : List (List Int)) (cs : List (Option Int)) (ps : List Int), vs = [.ref t, .ref b, .ref p] ∧ StockAt H t ls rows ∧ 1 ≤ rows.length ∧ rows.length ≤ 4 ∧ (∀ r ∈ rows, r.length = cs.length) ∧
  H b = some (.tup (cs.map optI)) ∧ cs.length ≤ 4 ∧ (∀ c, some c ∈ cs → 0 ≤ c) ∧ H p = some (.tup (ps.map V.int)) ∧ ps.length = rows.length ∧
  ∀ D as H', Same H H' → H D = none → H' D = some (.lst (as.map V.ref)) → SetsAt H' as (exOf rows cs ps) rows.length → Q (.ref D) H'
set_option maxHeartbeats 800000 in
theorem ok_exc {f fN fU fTu fA fAu fO fFu fCo fSp fCa fIr fTk fI fR fFc fLo fSo fOv fDw fSv fCh fUd fEt fAo fAd fDk fD fS fTt fW fPl fLu fLs fLc fM fE fX fNu fId fKn fHo fAy fOo fRp fAt fVa : Addr} {fd dN dU dTu dA dAu dO dFu dCo dSp dCa dIr dTk dI dR dFc dLo dSo dOv dDw dSv dCh dUd dEt dAo dAd dDk dD dS dTt dW dPl dLu dLs dLc dM dE dX dNu dId dKn dHo dAy dOo dRp dAt dVa : FuncData} {k : Nat} (F : Fun K "_law_excess" "_law_excess" sExc f fd) (T : Tx K mg fN fU fTu fA fAu fO fFu fCo fSp fCa fIr fTk fI fR fFc fLo fSo fOv fDw fSv fCh fUd fEt fAo fAd fDk fD fS fTt fW fPl fLu fLs fLc fM fE fX fNu fId fKn fHo fAy fOo fRp fAt fVa dN dU dTu dA dAu dO dFu dCo dSp dCa dIr dTk dI dR dFc dLo dSo dOv dDw dSv dCh dUd dEt dAo dAd dDk dD dS dTt dW dPl dLu dLs dLc dM dE dX dNu dId dKn dHo dAy dOo dRp dAt dVa) :
    FnOk P w K mg base CX0 (k + 2) f fd ["_law_stock_here", "_law_caps_here", "_law_plan_here"] spExc := by
  have GM : FnOk P w K mg base CX0 (k + 1) fM dM ["_law_stock_here", "_law_caps_here", "_law_drawers"] spRoom := ok_room T.M T
  have GE : FnOk P w K mg base CX0 (k + 1) fE dE ["_law_count"] spSets := ok_sets T.E T
  refine F.ok scExc (fun vs H Q E h => ?_) (fun cdv A outer s H vs Q E hr h => ?_)
  · obtain ⟨t, b, p, ls, rows, cs, ps, rfl, _⟩ := h
    rfl
  · obtain ⟨t, b, p, ls, rows, cs, ps, rfl, st, h1, h4, hrn, hb, hcl, hcp, hp, hpl, q⟩ := h
    refine ⟨_, (pss_cons (ps_set (i := 3) scExc.nd rfl (.inl rfl) (pe_lst pa_nil))
      (pss_cons (ps_for PassesOwn.never rfl (pi_list (pe_call GE (hr.mono (by omega)) (by rfl) T.gE T.E.kp T.bE .nil pass0 (pa_cons (pe_callB call_len_seq (by rfl) T.m_len PySem.boot_len (pa_cons (pv 0) pa_nil)) pa_nil))) (pg_name (i := 4) scExc.nd rfl (Or.inl rfl)) (pss_one (ps_if (pt_cmpR op_gt (pe_callB (show CallR _ _ (rSum K) from cr_sum rfl) (by rfl) T.m_sum (by decide +kernel) (pa_cons (pe_lc (own := [("_law_drawer", 5)]) (g := gName 5) rfl scExc.nd (pi_tup (pv 4)) (blkOk_by (own := [("_law_drawer", 5)]) (N := NX) (sc := defScope sExc) (by decide +kernel)) (fun _ _ _ _ _ => (pg_name (i := 5) scExc.nd rfl (Or.inl rfl))) (fun _ _ _ _ _ => pts_nil) (fun _ _ _ _ _ => (pe_ix (show IxR _ (rIxT K) from ix_tup) (pv 2) (pv 5) (fun _ _ => rfl)))) pa_nil)) (pe_call GM (hr.mono (by omega)) (by rfl) T.gM T.M.kp T.bM .nil pass0 (pa_cons (pv 0) (pa_cons (pv 1) (pa_cons (pv 4) pa_nil)))) (nomark _)) (pss_one (ps_expr (pe_bm PySem.F.plainAttrs_list PySem.F.slot_list_append PySem.F.type_list_append mt_append (pv 3) (pa_cons (pv 4) pa_nil)))) pss_nil)))
      (pss_one (ps_ret (pv 3))))), ?_⟩
    refine ⟨Nat.zero_le _, fun F0 nF => ?_⟩
    have s0 : Same H (upd H F0 (.lst [])) := same_new nF
    have hF0 : (upd H F0 (.lst [])) F0 = some (.lst ([] : List V)) := upd_same
    generalize upd H F0 (.lst []) = H0 at s0 hF0 ⊢
    have hlr : ((ls.map V.ref).length : Int) = (rows.length : Int) := by rw [List.length_map, st.len]
    refine ⟨_, rfl, t, _, rfl, .inr (SqT.of (s0 _ _ st.top)), rows.length, congrArg (fun x => [V.int x]) hlr, h1, h4, fun L as H1 s1 nL hL sa hal => ?_⟩
    have s01 := s0.trans s1
    have nLF : L ≠ F0 := fun z => by rw [z, hF0] at nL; cases nL
    refine ⟨L, rfl, ⟨_, SqL.of hL⟩, ?_⟩
    refine for_it (walk_list (xs := as.map V.ref)) (fun i σ H' => ∃ (as' : List Addr) (y4 y5 : Option V), σ = [some (.ref t), some (.ref b), some (.ref p), some (.ref F0), y4, y5] ∧ Same H H' ∧ H' L = some (.lst (as.map V.ref)) ∧ SetsAt H' as (setsOf rows.length) rows.length ∧ H' F0 = some (.lst (as'.map V.ref)) ∧
        SetsAt H' as' (((setsOf rows.length).take i).filter (big rows cs ps)) rows.length)
      ⟨[], _, _, rfl, s01, hL, sa, s1 _ _ hF0, ⟨rfl, fun j x ds e => by simp at e, fun ds h => by cases h⟩⟩ (fun i σ H' _ h => by obtain ⟨_, _, _, _, _, hL', _⟩ := h; exact SqL.of hL') (fun i x σ H' H2 hi h y => ?_) (fun σ H' h => ?_)
    · obtain ⟨as', y4, y5, rfl, sm, hL', sa', hF, sx⟩ := h
      obtain ⟨rfl, hx⟩ := y
      obtain ⟨d, hd, rfl⟩ := get_map hx
      rw [List.length_map] at hi
      have hid : i < (setsOf rows.length).length := by rw [← sa'.len]; exact hi
      have hdi : (setsOf rows.length)[i]? = some (setsOf rows.length)[i] := List.getElem?_eq_getElem hid
      have hds := sa'.at_ i d _ hd hdi
      obtain ⟨hd4, hdb⟩ := sa'.bd _ (List.getElem_mem hid)
      generalize he : (setsOf rows.length)[i] = dd at hdi hds hd4 hdb
      -- the things taken from them
      refine ⟨.ref d, rfl, d, rfl, ⟨_, SqT.of hds⟩, fun D nD => ?_⟩
      refine lc_tup (xs := dd.map fun j : Nat => V.int (j : Int)) (fun m H3 => H3 D = some (.lst (((dd.map fun j => ps.getD j 0).take m).map V.int)) ∧ Same H2 H3) ⟨upd_same, same_new nD⟩ (fun m H3 _ h => SqT.of (h.2 _ _ hds)) (fun m x H3 hx h => ?_) (fun H3 h => ?_)
      · obtain ⟨hD, s3⟩ := h
        obtain ⟨j, hj, rfl⟩ := get_map hx
        have hjr := hdb j (List.mem_of_getElem? hj)
        have gp : (ps.map V.int)[j]? = some (.int (ps.getD j 0)) := by
          rw [List.getElem?_map, getD_of (d := 0) (by rw [hpl]; exact hjr)]
          rfl
        have hz : (dd.map fun j => ps.getD j 0)[m]? = some (ps.getD j 0) := by
          rw [List.getElem?_map, hj]
          rfl
        refine ⟨rfl, .ref p, rfl, .int (j : Int), rfl, p, _, (j : Int), .int (ps.getD j 0), rfl, rfl, SqT.of (s3 _ _ (sm _ _ hp)), atI_nat gp, _, hD, ?_, ?_, fun b' o' e => ?_⟩
        · rw [List.length_map, List.length_take, List.length_map]
          exact len_lt (by omega)
        · rw [upd_same, take_succ_map hz]
        · rw [upd_ne (ne_of_none e nD)]
          exact s3 b' o' e
      · obtain ⟨hD, s3⟩ := h
        rw [List.length_map, List.take_of_length_le (by rw [List.length_map]; exact Nat.le_refl _)] at hD
        refine ⟨D, _, rfl, SqL.of hD, _, rfl, _, rfl, _, rfl, t, b, d, ls, rows, cs, dd, rfl, ⟨(st.same sm).same s3, hrn, s3 _ _ (sm _ _ hb), s3 _ _ hds, hd4, hdb, hcl, hcp⟩, fun H4 s4 => ?_⟩
        have s34 := s3.trans s4
        refine ⟨_, _, rfl, rfl, _, rfl, ite2 (fun e => ?_) (fun e => ?_)⟩
        · have e' : big rows cs ps dd = true := e
          have hF4 := s34 _ _ hF
          have hlt : (as'.map V.ref).length < sizeLine := by
            rw [List.length_map, sx.len]
            have h1 := List.length_filter_le (big rows cs ps) ((setsOf rows.length).take i)
            rw [List.length_take] at h1
            exact len_lt (by omega)
          refine ⟨.ref F0, rfl, .inl ⟨rfl, _, SqL.of hF4⟩, .ref d, rfl, F0, _, .ref d, rfl, rfl, hF4, hlt, as' ++ [d], _, _, rfl, ?_, ?_, (sa'.same s34).lst hF4, ?_, ?_⟩
          · intro b' o e2
            rw [upd_ne (ne_of_none e2 nF)]
            exact s34 _ _ (sm b' o e2)
          · rw [upd_ne (fun z => nLF z)]
            exact s34 _ _ hL'
          · rw [upd_same, List.map_append]
            rfl
          · rw [take_filter hdi, if_pos e']
            exact ((sx.same s34).snoc (s34 _ _ hds) ⟨hd4, hdb⟩).lst hF4
        · have e' : ¬ big rows cs ps dd = true := e
          refine ⟨as', _, _, rfl, sm.trans s34, s34 _ _ hL', sa'.same s34, s34 _ _ hF, ?_⟩
          rw [take_filter hdi, if_neg e', List.append_nil]
          exact sx.same s34
    · obtain ⟨as', y4, y5, rfl, sm, hL', sa', hF, sx⟩ := h
      rw [List.length_map, sa'.len, List.take_length] at sx
      exact ⟨_, rfl, q F0 as' _ sm nF hF sx⟩
end
end DD
namespace DD
open PySem PySem.Spec PyProof.Rows L2 RZ
def lessP (p : Int × Int) : Bool := decide (p.2 < p.1)
def lkUp (row cs : List Int) (i : Nat) : List Int := (((row.zip cs).take i).filter lessP).map fun _ => 1
theorem lk_succ {row cs : List Int} {i : Nat} {r x : Int} (h1 : row[i]? = some r) (h2 : cs[i]? = some x) : lkUp row cs (i + 1) = lkUp row cs i ++ (if lessP (r, x) = true then [1] else []) := by
  unfold lkUp
  rw [take_filter (List.getElem?_zip_eq_some.mpr ⟨h1, h2⟩ : (row.zip cs)[i]? = some (r, x)), List.map_append]
  congr 1
  by_cases e : lessP (r, x) = true
  · rw [if_pos e, if_pos e]
    rfl
  · rw [if_neg e, if_neg e]
    rfl
theorem lk_len (row cs : List Int) (i : Nat) : (lkUp row cs i).length ≤ i := by
  unfold lkUp
  rw [List.length_map]
  refine Nat.le_trans (List.length_filter_le _ _) ?_
  rw [List.length_take]
  omega
theorem lk_nil {row cs : List Int} {i : Nat} (hi : row.length ≤ i) : lkUp row cs i = [] ↔ contains cs row = true := by
  unfold lkUp
  rw [List.take_of_length_le (by rw [List.length_zip]; omega), List.map_eq_nil_iff, List.filter_eq_nil_iff, cont_iff]
  constructor
  · intro h i x r h1 h2
    have := h (r, x) (List.mem_of_getElem? (List.getElem?_zip_eq_some.mpr ⟨h2, h1⟩ : (row.zip cs)[i]? = some (r, x)))
    unfold lessP at this
    rw [decide_eq_true_eq] at this
    omega
  · intro h p hp
    obtain ⟨i, hi⟩ := List.mem_iff_getElem?.mp hp
    obtain ⟨e1, e2⟩ := List.getElem?_zip_eq_some.mp hi
    have := h i _ _ e2 e1
    unfold lessP
    rw [decide_eq_true_eq]
    omega
abbrev NLu : List Str := ["_law_collections", "_law_counts", "_law_needed", "_law_number_here", "_law_count"]
theorem scLucky : FnScope NLu ["_law_collections", "_law_counts"] (defScope sLucky) := ⟨rfl, rfl, rfl, by decide +kernel, rfl, by decide +kernel, by decide +kernel⟩
section
variable {P : Program} {w : World} {K : PySem.W.Frag} {mg : Str → Option Value} {base : Heap}
def spLucky : Sp := fun vs H Q _ => ∃ (t b : Addr) (ls : List Addr) (ws : List (List Int)) (n : Nat) (cs : List Int), vs = [.ref t, .ref b] ∧ Wish H t ls ws n ∧ H b = some (.tup (cs.map V.int)) ∧ cs.length = n ∧
  ∀ H', Same H H' → Q (.bl (decide (fulOf ws cs ≠ none))) H'
theorem eqv_nil2 {l : List PyData} : PyData.eqv (.list l) (.list []) = l.isEmpty := by cases l <;> rfl
theorem ok_lucky {f fN fU fTu fA fAu fO fFu fCo fSp fCa fIr fTk fI fR fFc fLo fSo fOv fDw fSv fCh fUd fEt fAo fAd fDk fD fS fTt fW fPl fLu fLs fLc fM fE fX fNu fId fKn fHo fAy fOo fRp fAt fVa : Addr} {fd dN dU dTu dA dAu dO dFu dCo dSp dCa dIr dTk dI dR dFc dLo dSo dOv dDw dSv dCh dUd dEt dAo dAd dDk dD dS dTt dW dPl dLu dLs dLc dM dE dX dNu dId dKn dHo dAy dOo dRp dAt dVa : FuncData} {k : Nat} (F : Fun K "_law_lucky" "_law_lucky" sLucky f fd) (T : Tx K mg fN fU fTu fA fAu fO fFu fCo fSp fCa fIr fTk fI fR fFc fLo fSo fOv fDw fSv fCh fUd fEt fAo fAd fDk fD fS fTt fW fPl fLu fLs fLc fM fE fX fNu fId fKn fHo fAy fOo fRp fAt fVa dN dU dTu dA dAu dO dFu dCo dSp dCa dIr dTk dI dR dFc dLo dSo dOv dDw dSv dCh dUd dEt dAo dAd dDk dD dS dTt dW dPl dLu dLs dLc dM dE dX dNu dId dKn dHo dAy dOo dRp dAt dVa) :
    FnOk P w K mg base CX0 (k + 1) f fd ["_law_collections", "_law_counts"] spLucky := by
  refine F.ok scLucky (fun vs H Q E h => ?_) (fun cdv A outer s H vs Q E hr h => ?_)
  · obtain ⟨t, b, ls, ws, n, cs, rfl, _⟩ := h
    rfl
  · obtain ⟨t, b, ls, ws, n, cs, rfl, wi, hb, hcl, q⟩ := h
    refine ⟨_, (pss_cons (ps_for PassesOwn.never rfl (pi_tup (pv 0)) (pg_name (i := 2) scLucky.nd rfl (Or.inl rfl)) (pss_one (ps_if (pt_cmpR (op_eqD hr.units) (pe_lc (own := [("_law_number_here", 3), ("_law_count", 4)]) (g := gTup K 2 (gCons (gName 3) (gCons (gName 4) gNil))) rfl scLucky.nd (pi_zipA (by rfl) T.m_zip (pa_cons (pv 2) (pa_cons (pv 1) pa_nil))) (blkOk_by (own := [("_law_number_here", 3), ("_law_count", 4)]) (N := NLu) (sc := defScope sLucky) (by decide +kernel)) (fun _ _ _ _ _ => (pg_tup rfl (pgs_cons (pg_name (i := 3) scLucky.nd rfl (Or.inl rfl)) (pgs_cons (pg_name (i := 4) scLucky.nd rfl (Or.inl rfl)) pgs_nil)))) (fun _ _ _ _ _ => pts_one (pt_cmpR op_lt (pv 4) (pv 3) (nomark _))) (fun _ _ _ _ _ => pe_int)) (pe_lst pa_nil) (nomark _)) (pss_one (ps_ret pe_bl)) pss_nil)))
      (pss_one (ps_ret pe_bl))), ?_⟩
    have hn4 := wi.n4
    refine ⟨.ref t, rfl, t, rfl, ⟨_, SqT.of wi.st.top⟩, ?_⟩
    refine for_it (walk_tup (xs := ls.map V.ref)) (fun i σ H' => ∃ y2 y3 y4 : Option V, σ = [some (.ref t), some (.ref b), y2, y3, y4] ∧ Same H H' ∧ ∀ r ∈ ws.take i, contains cs r = false)
      ⟨_, _, _, rfl, Same.refl _, fun r h => by simp at h⟩ (fun i σ H' _ h => by obtain ⟨_, _, _, _, sm, _⟩ := h; exact SqT.of (sm _ _ wi.st.top)) (fun i x σ H' H1 hi h y => ?_) (fun σ H' h => ?_)
    · obtain ⟨y2, y3, y4, rfl, sm, hno⟩ := h
      obtain ⟨rfl, hx⟩ := y
      obtain ⟨l, hl, rfl⟩ := get_map hx
      have hil : i < ws.length := by
        have := (List.getElem?_eq_some_iff.mp hl).1
        have := wi.st.len
        omega
      have hri : ws[i]? = some ws[i] := List.getElem?_eq_getElem hil
      have hgi := wi.g _ (List.getElem_mem hil)
      have hrow := sm _ _ (wi.st.row i l _ hl hri)
      have hb1 := sm _ _ hb
      refine ⟨.ref l, rfl, .ref b, rfl, l, b, _, _, rfl, .inr ⟨SqT.of hrow, SqT.of hb1, fun D nD => ?_⟩⟩
      refine lc_it (walk_zipT (xs := ws[i].map V.int) (ys := cs.map V.int) (by rw [List.length_map, List.length_map, hgi.len, hcl]; exact Nat.le_refl _)) (fun j H2 => H2 D = some (.lst ((lkUp ws[i] cs j).map V.int)) ∧ Same H1 H2) ⟨upd_same, same_new nD⟩
        (fun j H2 _ h => ⟨SqT.of (h.2 _ _ hrow), SqT.of (h.2 _ _ hb1)⟩) (fun j x H2 H3 hj h y => ?_) (fun H2 h => ?_)
      · obtain ⟨hD, s2⟩ := h
        obtain ⟨T1, x1, x2, rfl, nT, rfl, e1, e2⟩ := y
        obtain ⟨r, hr', rfl⟩ := get_map e1
        obtain ⟨v, hv, rfl⟩ := get_map e2
        have sT : Same H2 (upd H2 T1 (.tup [.int r, .int v])) := same_new nT
        refine ⟨T1, [.int r, .int v], rfl, .inl (.inl upd_same), rfl, .int r, [.int v], rfl, .int v, [], rfl, rfl, rfl, _, rfl, _, rfl, _, _, rfl, rfl, _, rfl, ite2 (fun e => ?_) (fun e => ?_)⟩
        · refine ⟨_, sT _ _ hD, ?_, ?_, fun b' o e' => ?_⟩
          · rw [List.length_map]
            have := lk_len ws[i] cs j
            rw [List.length_map] at hj
            exact len_lt (by rw [hgi.len] at hj; omega)
          · rw [upd_same, lk_succ hr' hv, if_pos (show lessP (r, v) = true from e), List.map_append]
            rfl
          · rw [upd_ne (ne_of_none e' nD)]
            exact sT _ _ (s2 b' o e')
        · refine ⟨?_, s2.trans sT⟩
          rw [lk_succ hr' hv, if_neg (show ¬ lessP (r, v) = true from e), List.append_nil]
          exact sT _ _ hD
      · obtain ⟨hD, s2⟩ := h
        rw [List.length_map] at hD
        refine ⟨Nat.zero_le _, fun q0 nq0 => ?_⟩
        have s3 : Same H2 (upd H2 q0 (.lst [])) := same_new nq0
        have smx : Sm 1000 64 (.list ((lkUp ws[i] cs ws[i].length).map PyData.int)) := by
          have a : SmA ((lkUp ws[i] cs ws[i].length).map PyData.int).length 13 0 ((lkUp ws[i] cs ws[i].length).map PyData.int) := SmA.all fun d hd => by
            obtain ⟨v, hv, rfl⟩ := List.mem_map.mp hd
            obtain ⟨p, _, rfl⟩ := List.mem_map.mp hv
            exact Sm.int (by decide) (by decide)
          refine a.lst.up ?_ (by decide)
          rw [List.length_map]
          have := lk_len ws[i] cs ws[i].length
          have := hgi.len
          omega
        refine ⟨_, .list [], .lst (SqL.of (s3 _ _ hD)) (dps_ints _), .lst (SqL.of upd_same) .nil, smx.shaped (by decide), by decide, _, rfl, ?_⟩
        rw [eqv_nil2]
        have hem : ((lkUp ws[i] cs ws[i].length).map PyData.int).isEmpty = contains cs ws[i] := by
          have h := lk_nil (row := ws[i]) (cs := cs) (Nat.le_refl _)
          cases e : contains cs ws[i] with
          | true => rw [h.mpr e]; rfl
          | false =>
            cases e2 : lkUp ws[i] cs ws[i].length with
            | nil => rw [h.mp e2] at e; cases e
            | cons _ _ => rfl
        rw [hem]
        refine ite2 (fun e => ?_) (fun e => ?_)
        · have hf : fulOf ws cs ≠ none := fun z => by
            have := ful_none.mp z _ (List.getElem_mem hil)
            rw [e] at this
            cases this
          rw [decide_eq_true hf] at q
          exact q _ (sm.trans (s2.trans s3))
        · refine ⟨_, _, _, rfl, sm.trans (s2.trans s3), fun r hr => ?_⟩
          rw [List.take_add_one, hri] at hr
          rcases List.mem_append.mp hr with h | h
          · exact hno r h
          · have : r = ws[i] := by simpa using h
            rw [this]
            exact Bool.eq_false_iff.mpr e
    · obtain ⟨y2, y3, y4, rfl, sm, hno⟩ := h
      rw [List.length_map, wi.st.len, List.take_length] at hno
      have hf : ¬ fulOf ws cs ≠ none := fun z => z (ful_none.mpr hno)
      rw [decide_eq_false hf] at q
      exact q _ sm
end
/-! ### all plans -/
end DD
namespace DD
open PySem PySem.Spec PyProof.Rows L2 RZ DM
abbrev NFc : List Str := ["stock", "collections", "plan", "loads", "table", "spoiling", "caps", "drawers"]
theorem scFind : FnScope NFc ["stock", "collections", "plan"] (defScope sFind) := ⟨rfl, rfl, rfl, by decide +kernel, rfl, by decide +kernel, by decide +kernel⟩
/-- a stock of one to four drawers, a wish and numbers for its drawers -/
structure Pb (H : Hp) (t b p : Addr) (ls wl : List Addr) (rows ws : List (List Int)) (ps : List Int) (n : Nat) : Prop where
  st : StockAt H t ls rows
  r1 : 1 ≤ rows.length
  r4 : rows.length ≤ 4
  rn : ∀ r ∈ rows, r.length = n
  wi : Wish H b wl ws n
  hp : H p = some (.tup (ps.map V.int))
  pl : ps.length = rows.length
/-- for each spoiling some drawers that are overfull -/
def tabB (rows ws : List (List Int)) (ps : List Int) (n : Nat) : Bool := (spOf ws).all fun sp => (pSets rows.length).any (ovB rows ps n (capsOf ws sp n))
/-- no drawers are overfull for the spoiling at i; there are some for each before it -/
def FreeAt (rows ws : List (List Int)) (ps : List Int) (n i : Nat) (sp : List Int) : Prop := (spOf ws)[i]? = some sp ∧ (∀ d ∈ pSets rows.length, ovB rows ps n (capsOf ws sp n) d = false) ∧ ∀ s' ∈ (spOf ws).take i, (pSets rows.length).any (ovB rows ps n (capsOf ws s' n)) = true
structure TabAt (H : Hp) (rows ws : List (List Int)) (ps : List Int) (n : Nat) (as : List Addr) (dss : List (List Nat)) (i : Nat) : Prop where
  l1 : as.length = i
  l2 : dss.length = i
  at_ : ∀ (j : Nat) (a : Addr) (d : List Nat) (sp : List Int), as[j]? = some a → dss[j]? = some d → (spOf ws)[j]? = some sp → H a = some (.tup (natsV d)) ∧ d ∈ pSets rows.length ∧ ovB rows ps n (capsOf ws sp n) d = true ∧ (pSets rows.length).find? (ovB rows ps n (capsOf ws sp n)) = some d
theorem TabAt.tk {H H' : Hp} {rows ws : List (List Int)} {ps : List Int} {n : Nat} {as : List Addr} {dss : List (List Nat)} {i : Nat} (a : TabAt H rows ws ps n as dss i) (k : ∀ b xs, H b = some (.tup xs) → H' b = some (.tup xs)) : TabAt H' rows ws ps n as dss i :=
  ⟨a.l1, a.l2, fun j x d sp e1 e2 e3 => ⟨k _ _ (a.at_ j x d sp e1 e2 e3).1, (a.at_ j x d sp e1 e2 e3).2⟩⟩
theorem TabAt.snoc {H : Hp} {rows ws : List (List Int)} {ps : List Int} {n : Nat} {as : List Addr} {dss : List (List Nat)} {i : Nat} {x : Addr} {d : List Nat} {sp : List Int} (a : TabAt H rows ws ps n as dss i) (hs : (spOf ws)[i]? = some sp)
    (h : H x = some (.tup (natsV d)) ∧ d ∈ pSets rows.length ∧ ovB rows ps n (capsOf ws sp n) d = true ∧ (pSets rows.length).find? (ovB rows ps n (capsOf ws sp n)) = some d) : TabAt H rows ws ps n (as ++ [x]) (dss ++ [d]) (i + 1) := by
  refine ⟨by rw [List.length_append, a.l1]; rfl, by rw [List.length_append, a.l2]; rfl, fun j y d' sp' x1 x2 x3 => ?_⟩
  by_cases hj : j < as.length
  · rw [List.getElem?_append_left hj] at x1
    rw [List.getElem?_append_left (by rw [a.l2, ← a.l1]; exact hj)] at x2
    exact a.at_ j y d' sp' x1 x2 x3
  · have hj2 : j = as.length := by
      have := (List.getElem?_eq_some_iff.mp x1).1
      rw [List.length_append] at this
      simp at this
      omega
    subst hj2
    rw [List.getElem?_append_right (Nat.le_refl _), Nat.sub_self] at x1
    rw [a.l1, ← a.l2, List.getElem?_append_right (Nat.le_refl _), Nat.sub_self] at x2
    rw [a.l1, hs] at x3
    obtain rfl : x = y := Option.some.inj x1
    obtain rfl : d = d' := Option.some.inj x2
    obtain rfl : sp = sp' := Option.some.inj x3
    exact h
theorem TabAt.all {H : Hp} {rows ws : List (List Int)} {ps : List Int} {n : Nat} {as : List Addr} {dss : List (List Nat)} {i : Nat} (a : TabAt H rows ws ps n as dss i) : ∀ s' ∈ (spOf ws).take i, (pSets rows.length).any (ovB rows ps n (capsOf ws s' n)) = true := fun s' hs => by
  obtain ⟨j, hj⟩ := List.mem_iff_getElem?.mp hs
  have hji : j < i := by
    have := (List.getElem?_eq_some_iff.mp hj).1
    rw [List.length_take] at this
    omega
  rw [List.getElem?_take_of_lt hji] at hj
  have h1 : as[j]? = some (as[j]'(by rw [a.l1]; exact hji)) := List.getElem?_eq_getElem _
  have h2 : dss[j]? = some (dss[j]'(by rw [a.l2]; exact hji)) := List.getElem?_eq_getElem _
  have := a.at_ j _ _ s' h1 h2 hj
  exact List.any_eq_true.mpr ⟨_, this.2.1, this.2.2.1⟩
section
variable {P : Program} {w : World} {K : PySem.W.Frag} {mg : Str → Option Value} {base : Heap}
/-- the certificate: ("draw", a draw within the caps of the first spoiling without overfull drawers) or ("table", overfull drawers for each spoiling) -/
def spFind : Sp := fun vs H Q _ => ∃ (t b p : Addr) (ls wl : List Addr) (rows ws : List (List Int)) (ps : List Int) (n : Nat), vs = [.ref t, .ref b, .ref p] ∧ Pb H t b p ls wl rows ws ps n ∧
  (∀ H' r D ds i sp, Same H H' → FreeAt rows ws ps n i sp → H' r = some (.tup [.str "draw", .ref D]) → StockAt H' D ds (drawOf rows ps n (capsOf ws sp n)) → Q (.ref r) H') ∧
  (∀ H' r D as dss, Same H H' → H' r = some (.tup [.str "table", .ref D]) → H' D = some (.tup (as.map V.ref)) → TabAt H' rows ws ps n as dss (spOf ws).length → Q (.ref r) H')
set_option maxHeartbeats 800000 in
theorem ok_find {f fN fU fTu fA fAu fO fFu fCo fSp fCa fIr fTk fI fR fFc fLo fSo fOv fDw fSv fCh fUd fEt fAo fAd fDk fD fS fTt fW fPl fLu fLs fLc fM fE fX fNu fId fKn fHo fAy fOo fRp fAt fVa : Addr} {fd dN dU dTu dA dAu dO dFu dCo dSp dCa dIr dTk dI dR dFc dLo dSo dOv dDw dSv dCh dUd dEt dAo dAd dDk dD dS dTt dW dPl dLu dLs dLc dM dE dX dNu dId dKn dHo dAy dOo dRp dAt dVa : FuncData} {k : Nat} (F : Fun K "find_certificate" "find_certificate" sFind f fd) (T : Tx K mg fN fU fTu fA fAu fO fFu fCo fSp fCa fIr fTk fI fR fFc fLo fSo fOv fDw fSv fCh fUd fEt fAo fAd fDk fD fS fTt fW fPl fLu fLs fLc fM fE fX fNu fId fKn fHo fAy fOo fRp fAt fVa dN dU dTu dA dAu dO dFu dCo dSp dCa dIr dTk dI dR dFc dLo dSo dOv dDw dSv dCh dUd dEt dAo dAd dDk dD dS dTt dW dPl dLu dLs dLc dM dE dX dNu dId dKn dHo dAy dOo dRp dAt dVa) :
    FnOk P w K mg base CX0 (k + 4) f fd ["stock", "collections", "plan"] spFind := by
  have GSp : FnOk P w K mg base CX0 (k + 1) fSp dSp ["collections"] spSpoil := ok_spoil T.Sp T.m_enumerate T.m_tuple
  have GCa : FnOk P w K mg base CX0 (k + 1) fCa dCa ["collections", "spoiling"] spCaps := ok_caps T.Ca T.m_enumerate T.m_zip T.m_min T.m_tuple
  have GLo : FnOk P w K mg base CX0 (k + 2) fLo dLo ["stock", "plan"] spLoads := ok_loads T.Lo T
  have GOv : FnOk P w K mg base CX0 (k + 2) fOv dOv ["loads", "caps"] spOver := ok_over T.Ov T
  have GDw : FnOk P w K mg base CX0 (k + 3) fDw dDw ["stock", "caps", "plan"] spWithin := ok_within T.Dw T
  refine F.ok scFind (fun vs H Q E h => ?_) (fun cdv A outer s H vs Q E hr h => ?_)
  · obtain ⟨t, b, p, ls, wl, rows, ws, ps, n, rfl, _⟩ := h
    rfl
  · obtain ⟨t, b, p, ls, wl, rows, ws, ps, n, rfl, ⟨st, hr1, hr4, hrn, wi, hp, hpl⟩, q1, q2⟩ := h
    refine ⟨_, (pss_cons (ps_set (i := 3) scFind.nd rfl (.inl rfl) (pe_call GLo (hr.mono (by omega)) (by rfl) T.gLo T.Lo.kp T.bLo .nil pass0 (pa_cons (pv 0) (pa_cons (pv 2) pa_nil))))
      (pss_cons (ps_set (i := 4) scFind.nd rfl (.inl rfl) (pe_lst pa_nil))
      (pss_cons (ps_for PassesOwn.never rfl (pi_tup (pe_call GSp (hr.mono (by omega)) (by rfl) T.gSp T.Sp.kp T.bSp .nil pass0 (pa_cons (pv 1) pa_nil))) (pg_name (i := 5) scFind.nd rfl (Or.inl rfl)) (pss_cons (ps_set (i := 6) scFind.nd rfl (.inl rfl) (pe_call GCa (hr.mono (by omega)) (by rfl) T.gCa T.Ca.kp T.bCa .nil pass0 (pa_cons (pv 1) (pa_cons (pv 5) pa_nil))))
      (pss_cons (ps_set (i := 7) scFind.nd rfl (.inl rfl) (pe_call GOv (hr.mono (by omega)) (by rfl) T.gOv T.Ov.kp T.bOv .nil pass0 (pa_cons (pv 3) (pa_cons (pv 6) pa_nil))))
      (pss_cons (ps_if (pt_cmpR op_isN (pv 7) pe_non (nomark _)) (pss_one (ps_ret (pe_tup (pa_cons pe_str (pa_cons (pe_call GDw (hr.mono (by omega)) (by rfl) T.gDw T.Dw.kp T.bDw .nil pass0 (pa_cons (pv 0) (pa_cons (pv 6) (pa_cons (pv 2) pa_nil)))) pa_nil))))) pss_nil)
      (pss_one (ps_expr (pe_bm PySem.F.plainAttrs_list PySem.F.slot_list_append PySem.F.type_list_append mt_append (pv 4) (pa_cons (pv 7) pa_nil))))))))
      (pss_one (ps_ret (pe_tup (pa_cons pe_str (pa_cons (pe_callTy call_tuple_of (by rfl) T.m_tuple (by decide +kernel) (pa_cons (pv 4) pa_nil)) pa_nil)))))))), ?_⟩
    have hg := wi.g
    have hn4 := wi.n4
    have hw4 : ∀ r ∈ ws, r.length ≤ 4 := fun r hr => by rw [(hg r hr).len]; exact hn4
    refine ⟨_, rfl, _, rfl, t, p, ls, rows, ps, n, rfl, st, hr4, hrn, by omega, hp, hpl, fun L as H1 s1 hL la => ?_⟩
    refine ⟨Nat.zero_le _, fun D nD => ?_⟩
    have s2 := s1.trans (same_new (o := .lst []) nD)
    have nHD : H D = none := s1.free nD
    have hLD : L ≠ D := fun z => by rw [z, nD] at hL; cases hL
    have hL2 : (upd H1 D (.lst [])) L = some (.lst (as.map V.ref)) := by
      rw [upd_ne hLD]
      exact hL
    have hD2 : (upd H1 D (.lst [])) D = some (.lst (([] : List Addr).map V.ref)) := upd_same
    have la2 := la.tk fun b' xs e => same_new (o := .lst []) nD _ _ e
    generalize upd H1 D (.lst []) = H2 at s2 hL2 hD2 la2 ⊢
    refine ⟨_, rfl, b, wl, ws, rfl, wi.st.same s2, wi.l4, hw4, fun m zs H3 s3 sp3 => ?_⟩
    have s03 := s2.trans s3
    refine ⟨m, rfl, ⟨_, SqT.of sp3.top⟩, ?_⟩
    have h256 := sp_len hw4 wi.l4
    refine for_it (walk_tup (xs := zs.map V.ref)) (fun i σ H' => ∃ (ts : List Addr) (dss : List (List Nat)) (y5 y6 y7 : Option V), σ = [some (.ref t), some (.ref b), some (.ref p), some (.ref L), some (.ref D), y5, y6, y7] ∧ Same H H' ∧
        H' L = some (.lst (as.map V.ref)) ∧ LoadsAt H' rows ps n as (pSets rows.length) ∧ StockAt H' m zs (spOf ws) ∧ H' D = some (.lst (ts.map V.ref)) ∧ TabAt H' rows ws ps n ts dss i)
      ⟨[], [], _, _, _, rfl, s03, s3 _ _ hL2, la2.tk fun b' xs e => s3 _ _ e, sp3, s3 _ _ hD2, ⟨rfl, rfl, fun j a d sp e => by simp at e⟩⟩
      (fun i σ H' _ h => by obtain ⟨_, _, _, _, _, _, _, _, _, sp', _⟩ := h; exact SqT.of sp'.top) (fun i x σ H' H4 hi h y => ?_) (fun σ H4 h => ?_)
    · obtain ⟨ts, dss, y5, y6, y7, rfl, sm, hL', la', sp', hD', ta⟩ := h
      obtain ⟨rfl, hx⟩ := y
      obtain ⟨a, ha, rfl⟩ := get_map hx
      have hil : i < (spOf ws).length := by
        have := (List.getElem?_eq_some_iff.mp ha).1
        have := sp3.len
        omega
      have hsi : (spOf ws)[i]? = some (spOf ws)[i] := List.getElem?_eq_getElem hil
      have hmem : (spOf ws)[i] ∈ spR ws := by rw [← spOf_eq]; exact List.getElem_mem hil
      obtain ⟨hsl, _⟩ := spR_bd hw4 _ hmem
      have hai := sp'.row i a _ ha hsi
      generalize (spOf ws)[i] = sp at hsi hsl hai
      refine ⟨_, rfl, _, rfl, b, a, wl, ws, sp, n, rfl, wi.st.same sm, wi.l1, wi.l4, fun r hr => (hg r hr).len, by omega, hai, hsl, fun c H5 s5 hc => ?_⟩
      refine ⟨_, rfl, _, rfl, L, c, as, rows, ps, n, pSets rows.length, capsOf ws sp n, rfl, s5 _ _ hL', la'.tk (fun b' xs e => s5 _ _ e), hc, caps_len _ _ _, by omega, fun H6 s6 hno => ?_, fun H6 d dd s6 hfd hdd hov hd => ?_⟩
      · have s06 := sm.trans (s5.trans s6)
        refine ⟨_, rfl, rfl, _, rfl, iteT ?_⟩
        refine ⟨_, rfl, _, rfl, _, rfl, t, c, p, ls, rows, ps, n, capsOf ws sp n, rfl, st.same s06, hr1, hr4, hrn, by omega, s6 _ _ hc, caps_len _ _ _, s06 _ _ hp, hpl, fun D2 ds2 H7 s7 st7 => ?_⟩
        refine ⟨by show 2 ≤ sizeLine; decide, fun r nr => ?_⟩
        exact q1 _ r D2 ds2 i sp (s06.trans (s7.trans (same_new nr))) ⟨hsi, hno, ta.all⟩ upd_same (st7.same (same_new nr))
      · have s06 := sm.trans (s5.trans s6)
        refine ⟨_, rfl, rfl, _, rfl, iteNx rfl ?_⟩
        have hD6 := s6 _ _ (s5 _ _ hD')
        have s56 := s5.trans s6
        refine ⟨.ref D, rfl, .inl ⟨rfl, _, SqL.of hD6⟩, _, rfl, D, ts.map V.ref, .ref d, rfl, rfl, hD6, ?_, ts ++ [d], dss ++ [dd], _, _, _, rfl, ?_, ?_, ?_, ?_, ?_, ?_⟩
        · rw [List.length_map, ta.l1]
          exact len_lt (by omega)
        · intro b' o e
          rw [upd_ne (fun z => by rw [z, nHD] at e; cases e)]
          exact s06 _ _ e
        · rw [upd_ne hLD]
          exact s56 _ _ hL'
        · exact la'.tk fun b' xs e => by
            rw [upd_ne (fun z => by rw [z, hD'] at e; cases e)]
            exact s56 _ _ e
        · refine ⟨?_, sp'.len, fun j l r e1 e2 => ?_⟩
          · have e := sp'.top
            rw [upd_ne (fun z => by rw [z, hD'] at e; cases e)]
            exact s56 _ _ e
          · have e := sp'.row j l r e1 e2
            rw [upd_ne (fun z => by rw [z, hD'] at e; cases e)]
            exact s56 _ _ e
        · rw [upd_same, List.map_append]
          rfl
        · refine TabAt.snoc (ta.tk fun b' xs e => ?_) hsi ⟨?_, hdd, hov, hfd⟩
          · rw [upd_ne (fun z => by rw [z, hD'] at e; cases e)]
            exact s56 _ _ e
          · rw [upd_ne (fun z => by rw [z, hD6] at hd; cases hd)]
            exact hd
    · obtain ⟨ts, dss, y5, y6, y7, rfl, sm, hL', la', sp', hD', ta⟩ := h
      rw [List.length_map, sp3.len] at ta
      refine ⟨.ref D, rfl, D, _, rfl, .inl ⟨SqL.of hD', fun tD nt => ?_⟩⟩
      have sD := same_new (o := .tup (ts.map V.ref)) nt
      refine ⟨by show 2 ≤ sizeLine; decide, fun r nr => ?_⟩
      have sr := same_new (o := .tup [.str "table", .ref tD]) nr
      exact q2 _ r tD ts dss (sm.trans (sD.trans sr)) upd_same (sr _ _ upd_same) (ta.tk fun b' xs e => sr _ _ (sD _ _ e))
theorem free_tab {rows ws : List (List Int)} {ps : List Int} {n i : Nat} {sp : List Int} (h : FreeAt rows ws ps n i sp) : tabB rows ws ps n = false := by
  refine Bool.eq_false_iff.mpr fun e => ?_
  have := List.all_eq_true.mp e sp (List.mem_of_getElem? h.1)
  obtain ⟨d, hd, ho⟩ := List.any_eq_true.mp this
  rw [h.2.1 d hd] at ho
  cases ho
theorem TabAt.tab {H : Hp} {rows ws : List (List Int)} {ps : List Int} {n : Nat} {as : List Addr} {dss : List (List Nat)} (a : TabAt H rows ws ps n as dss (spOf ws).length) : tabB rows ws ps n = true :=
  List.all_eq_true.mpr fun s' hs => a.all s' (by rw [List.take_length]; exact hs)
end
end DD
namespace DD
open PySem PySem.Spec PyProof.Rows L2 RZ DM
theorem taken_set {pl : List Int} {j : Nat} {v : Int} {ds : List Nat} (h : j ∉ ds) : takenOf (pl.set j v) ds = takenOf pl ds := by
  unfold takenOf
  refine congrArg List.sum (List.map_congr_left fun x hx => ?_)
  have : j ≠ x := fun z => h (z ▸ hx)
  rw [List.getD_eq_getElem?_getD, List.getElem?_set_ne this, List.getD_eq_getElem?_getD]
theorem taken_snoc (pl : List Int) (ds : List Nat) (j : Nat) : takenOf pl (ds ++ [j]) = takenOf pl ds + pl.getD j 0 := by
  unfold takenOf
  rw [List.map_append, List.sum_append]
  simp
theorem perm_sum {xs ys : List Int} (h : xs.Perm ys) : xs.sum = ys.sum := by
  induction h with
  | nil => rfl
  | cons x _ ih => rw [List.sum_cons, List.sum_cons, ih]
  | swap x y l => simp only [List.sum_cons]; omega
  | trans _ _ a b => exact a.trans b
theorem taken_range (pl : List Int) : takenOf pl (List.range pl.length) = pl.sum := by
  unfold takenOf
  congr 1
  refine List.ext_getElem? fun i => ?_
  rw [List.getElem?_map]
  by_cases h : i < pl.length
  · rw [List.getElem?_range h, getD_of (d := 0) h]
    rfl
  · rw [List.getElem?_eq_none (by rw [List.length_range]; omega), List.getElem?_eq_none (by omega)]
    rfl
theorem taken_perm {pl : List Int} {ds es : List Nat} (h : ds.Perm es) : takenOf pl ds = takenOf pl es := perm_sum (h.map _)
theorem taken_all {pl : List Int} {js : List Nat} {m : Nat} (h : js.Perm (List.range m)) (hl : pl.length = m) : takenOf pl js = pl.sum := by
  rw [taken_perm h, ← hl, taken_range]
theorem set_sum {pl : List Int} {v : Int} : ∀ {j : Nat}, j < pl.length → (pl.set j v).sum = pl.sum - pl.getD j 0 + v := by
  induction pl with
  | nil => intro j h; simp at h
  | cons x xs ih =>
    intro j h
    cases j with
    | zero =>
      show (v :: xs).sum = _
      rw [List.sum_cons, List.sum_cons]
      show v + xs.sum = x + xs.sum - x + v
      omega
    | succ j =>
      show (x :: xs.set j v).sum = (x :: xs).sum - xs.getD j 0 + v
      rw [List.sum_cons, List.sum_cons, ih (by simpa using h)]
      omega
theorem setD {pl : List Int} {j i : Nat} {v : Int} (h : j < pl.length) : (pl.set j v).getD i 0 = if j = i then v else pl.getD i 0 := by
  rw [List.getD_eq_getElem?_getD, List.getElem?_set, List.getD_eq_getElem?_getD]
  by_cases e : j = i
  · rw [if_pos e, if_pos e, if_pos h]
    rfl
  · rw [if_neg e, if_neg e]
def sizeAt (rows : List (List Int)) (j : Nat) : Int := (rows.getD j []).sum
structure Rb (rows : List (List Int)) (n : Nat) : Prop where
  r1 : 1 ≤ rows.length
  r4 : rows.length ≤ 4
  n1 : 1 ≤ n
  n4 : n ≤ 4
  rw : ∀ r ∈ rows, r.length = n ∧ ∀ x ∈ r, 0 ≤ x ∧ x ≤ 50
theorem Rb.size {rows : List (List Int)} {n : Nat} (b : Rb rows n) {r : List Int} (h : r ∈ rows) : 0 ≤ r.sum ∧ r.sum ≤ 200 := by
  obtain ⟨h1, h2⟩ := b.rw r h
  have := sum_bd h2
  have n4 := b.n4
  rw [h1] at this
  exact ⟨this.1, by omega⟩
theorem Rb.at_ {rows : List (List Int)} {n j : Nat} (b : Rb rows n) (h : j < rows.length) : 0 ≤ sizeAt rows j ∧ sizeAt rows j ≤ 200 := b.size (List.mem_of_getElem? (getD_of (d := []) h))
abbrev NPl : List Str := ["_law_deck_here", "_law_stock_here", "_law_way", "_law_found", "_law_row", "_law_size", "_law_some"]
theorem scLPlan : FnScope NPl ["_law_deck_here", "_law_stock_here"] (defScope sLPlan) := ⟨rfl, rfl, rfl, by decide +kernel, rfl, by decide +kernel, by decide +kernel⟩
section
variable {P : Program} {w : World} {K : PySem.W.Frag} {mg : Str → Option Value} {base : Heap}
def spLPlan : Sp := fun vs H Q _ => ∃ (dk c t : Addr) (B : Nat) (ls : List Addr) (rows : List (List Int)) (n : Nat), vs = [.ref dk, .ref t] ∧ Deck H dk c B ∧ B + 40 ≤ 1000000 ∧ StockAt H t ls rows ∧ Rb rows n ∧
  ∀ (p : Addr) (ps : List Int) H', ps.length = rows.length → (∀ j, j < rows.length → 0 ≤ ps.getD j 0 ∧ ps.getD j 0 ≤ sizeAt rows j) → H' p = some (.tup (ps.map V.int)) → Kp2 dk c H H' → Deck H' dk c (B + 20) → Q (.ref p) H'
theorem ok_lplan {f fN fU fTu fA fAu fO fFu fCo fSp fCa fIr fTk fI fR fFc fLo fSo fOv fDw fSv fCh fUd fEt fAo fAd fDk fD fS fTt fW fPl fLu fLs fLc fM fE fX fNu fId fKn fHo fAy fOo fRp fAt fVa : Addr} {fd dN dU dTu dA dAu dO dFu dCo dSp dCa dIr dTk dI dR dFc dLo dSo dOv dDw dSv dCh dUd dEt dAo dAd dDk dD dS dTt dW dPl dLu dLs dLc dM dE dX dNu dId dKn dHo dAy dOo dRp dAt dVa : FuncData} {k : Nat} (F : Fun K "_law_plan" "_law_plan" sLPlan f fd) (T : Tx K mg fN fU fTu fA fAu fO fFu fCo fSp fCa fIr fTk fI fR fFc fLo fSo fOv fDw fSv fCh fUd fEt fAo fAd fDk fD fS fTt fW fPl fLu fLs fLc fM fE fX fNu fId fKn fHo fAy fOo fRp fAt fVa dN dU dTu dA dAu dO dFu dCo dSp dCa dIr dTk dI dR dFc dLo dSo dOv dDw dSv dCh dUd dEt dAo dAd dDk dD dS dTt dW dPl dLu dLs dLc dM dE dX dNu dId dKn dHo dAy dOo dRp dAt dVa) :
    FnOk P w K mg base CX0 (k + 2) f fd ["_law_deck_here", "_law_stock_here"] spLPlan := by
  have GD : FnOk P w K mg base CX0 (k + 1) fD dD ["_law_deck_here", "_law_bound"] spDraw := ok_draw T.D T.m_len T.m_max
  refine F.ok scLPlan (fun vs H Q E h => ?_) (fun cdv A outer s H vs Q E hr h => ?_)
  · obtain ⟨dk, c, t, B, ls, rows, n, rfl, _⟩ := h
    rfl
  · obtain ⟨dk, c, t, B, ls, rows, n, rfl, dek, hB, st, rb, q⟩ := h
    have hr4 := rb.r4
    refine ⟨_, (pss_cons (ps_par (i := 2) (j := 3) (by rfl) scLPlan.nd rfl rfl (by decide) rfl rfl (pa_cons (pe_call GD (hr.mono (by omega)) (by rfl) T.gD T.D.kp T.bD .nil pass0 (pa_cons (pv 0) (pa_cons pe_int pa_nil))) (pa_cons (pe_lst pa_nil) pa_nil)) (by rfl))
      (pss_cons (ps_for PassesOwn.never rfl (pi_tup (pv 1)) (pg_name (i := 4) scLPlan.nd rfl (Or.inl rfl)) (pss_cons (ps_set (i := 5) scLPlan.nd rfl (.inl rfl) (pe_callB (show CallR _ _ (fun vs H Q => ∃ (a : Addr) (ns : List Int), vs = [V.ref a] ∧ SqT K H a (ns.map V.int) ∧ Q (.int ns.sum) H) from cr_sumT rfl) (by rfl) T.m_sum (by decide +kernel) (pa_cons (pv 4) pa_nil)))
      (pss_cons (ps_set (i := 6) scLPlan.nd rfl (.inl rfl) (pe_lst (pa_cons (pe_call GD (hr.mono (by omega)) (by rfl) T.gD T.D.kp T.bD .nil pass0 (pa_cons (pv 0) (pa_cons (pe_op op_add (pv 5) pe_int) pa_nil))) (pa_cons (pe_op op_mul (pv 5) (pe_call GD (hr.mono (by omega)) (by rfl) T.gD T.D.kp T.bD .nil pass0 (pa_cons (pv 0) (pa_cons pe_int pa_nil)))) (pa_cons (pe_callB (call_max2 rfl) (by rfl) T.m_max (by decide +kernel) (pa_cons pe_int (pa_cons (pe_op op_sub (pv 5) (pe_call GD (hr.mono (by omega)) (by rfl) T.gD T.D.kp T.bD .nil pass0 (pa_cons (pv 0) (pa_cons pe_int pa_nil)))) pa_nil))) pa_nil)))))
      (pss_one (ps_expr (pe_bm PySem.F.plainAttrs_list PySem.F.slot_list_append PySem.F.type_list_append mt_append (pv 3) (pa_cons (pe_ix (show IxR _ (rIxL K) from ix_list) (pv 6) (pv 2) (fun _ _ => rfl)) pa_nil)))))))
      (pss_one (ps_ret (pe_callTy call_tuple_of (by rfl) T.m_tuple (by decide +kernel) (pa_cons (pv 3) pa_nil)))))), ?_⟩
    refine ⟨_, rfl, dk, c, B, 3, rfl, dek, by omega, by decide, by decide, fun wy H1 w0 w1 k1 d1 => ?_⟩
    refine ⟨Nat.zero_le _, fun F nF => ?_⟩
    have k2 := k1.trans (kps (same_new (o := .lst []) nF))
    have d2 := d1.kp (o := .lst []) nF
    have fne := d1.nedk nF
    have hF2 : (upd H1 F (.lst [])) F = some (.lst (([] : List Int).map V.int)) := upd_same
    have nHF : H F = none := by
      cases e : H F with
      | none => rfl
      | some o => rw [k1 _ _ fne.1 fne.2 e] at nF; cases nF
    generalize upd H1 F (.lst []) = H2 at k2 d2 hF2 ⊢
    refine ⟨_, _, rfl, .ref t, rfl, t, rfl, ⟨_, SqT.of (st.kp k2 dek).top⟩, ?_⟩
    refine for_it (walk_tup (xs := ls.map V.ref)) (fun i σ H' => ∃ (fd : List Int) (y4 y5 y6 : Option V), σ = [some (.ref dk), some (.ref t), some (.int wy), some (.ref F), y4, y5, y6] ∧ fd.length = i ∧ (∀ j, j < i → 0 ≤ fd.getD j 0 ∧ fd.getD j 0 ≤ sizeAt rows j) ∧
        H' F = some (.lst (fd.map V.int)) ∧ Kp2 dk c H H' ∧ Deck H' dk c (B + 1 + 3 * i))
      ⟨[], _, _, _, rfl, rfl, (fun j h => absurd h (Nat.not_lt_zero _)), hF2, k2, d2⟩ (fun i σ H' _ h => by obtain ⟨_, _, _, _, _, _, _, _, k', _⟩ := h; exact SqT.of (st.kp k' dek).top) (fun i x σ H' H3 hi h y => ?_) (fun σ H' h => ?_)
    · obtain ⟨fd, y4, y5, y6, rfl, hl, hb, hF, kp, d⟩ := h
      obtain ⟨rfl, hx⟩ := y
      obtain ⟨l, hli, rfl⟩ := get_map hx
      have hil : i < rows.length := by
        have := (List.getElem?_eq_some_iff.mp hli).1
        have := st.len
        omega
      have hri := getD_of (d := []) hil
      have hrl := (st.kp kp dek).row i l _ hli hri
      have hsz := rb.at_ hil
      have hsd : sizeAt rows i = (rows.getD i []).sum := rfl
      refine ⟨_, rfl, l, rows.getD i [], rfl, SqT.of hrl, ?_⟩
      rw [← hsd]
      generalize sizeAt rows i = z at hsz hsd ⊢
      refine ⟨_, rfl, _, rfl, z, 1, rfl, rfl, dk, c, _, z + 1, rfl, d, by omega, by omega, by omega, fun a1 H4 a10 a11 k4 d4 => ?_⟩
      refine ⟨_, rfl, _, rfl, dk, c, _, 2, rfl, d4, by omega, by decide, by decide, fun a2 H5 a20 a21 k5 d5 => ?_⟩
      refine ⟨z, a2, rfl, rfl, .inr ⟨by omega, by omega⟩, ?_⟩
      refine ⟨_, rfl, _, rfl, dk, c, _, 3, rfl, d5, by omega, by decide, by decide, fun a3 H6 a30 a31 k6 d6 => ?_⟩
      refine ⟨z, a3, rfl, rfl, 0, z - a3, rfl, by show 3 ≤ sizeLine; decide, fun l3 nl3 => ?_⟩
      have k36 := kp.trans (k4.trans (k5.trans k6))
      have sl := same_new (o := .lst [V.int a1, V.int (z * a2), V.int (if z - a3 > 0 then z - a3 else 0)]) nl3
      have k37 := k36.trans (kps sl)
      have d7 := d6.keep sl
      have hl3 : (upd H6 l3 (.lst [V.int a1, V.int (z * a2), V.int (if z - a3 > 0 then z - a3 else 0)])) l3 = some (.lst [V.int a1, V.int (z * a2), V.int (if z - a3 > 0 then z - a3 else 0)]) := upd_same
      have hF7 := sl _ _ (k6 _ _ fne.1 fne.2 (k5 _ _ fne.1 fne.2 (k4 _ _ fne.1 fne.2 hF)))
      generalize upd H6 l3 (.lst [V.int a1, V.int (z * a2), V.int (if z - a3 > 0 then z - a3 else 0)]) = H7 at k37 d7 hl3 hF7 ⊢
      obtain ⟨v, hv, ev⟩ := three_at (a := a1) (b := z * a2) (c := if z - a3 > 0 then z - a3 else 0) w0 w1
      have hvb : 0 ≤ v ∧ v ≤ z := by
        have e2 : a2 = 0 ∨ a2 = 1 := by omega
        rcases hv with rfl | rfl | rfl
        · omega
        · rcases e2 with rfl | rfl
          · rw [Int.mul_zero]; omega
          · rw [Int.mul_one]; omega
        · split <;> omega
      refine ⟨.ref F, rfl, .inl ⟨rfl, _, SqL.of hF7⟩, _, rfl, _, rfl, l3, _, wy, .int v, rfl, rfl, SqL.of hl3, ev, F, fd.map V.int, _, rfl, rfl, hF7, ?_, fd ++ [v], _, _, _, rfl, ?_, ?_, ?_, ?_, ?_⟩
      · rw [List.length_map]
        exact len_lt (by omega)
      · rw [List.length_append, hl]
        rfl
      · intro j hj
        by_cases hji : j = i
        · subst hji
          have : (fd ++ [v]).getD j 0 = v := by
            rw [List.getD_eq_getElem?_getD, ← hl, List.getElem?_append_right (Nat.le_refl _), Nat.sub_self]
            rfl
          rw [this]
          have : sizeAt rows j = z := hsd.symm
          omega
        · have : (fd ++ [v]).getD j 0 = fd.getD j 0 := by
            rw [List.getD_eq_getElem?_getD, List.getElem?_append_left (by omega), List.getD_eq_getElem?_getD]
          rw [this]
          exact hb j (by omega)
      · rw [upd_same, List.map_append]
        rfl
      · exact k37.updF nHF
      · exact (d7.updD fne.1 fne.2).up (by omega)
    · obtain ⟨fd, y4, y5, y6, rfl, hl, hb, hF, kp, d⟩ := h
      rw [List.length_map, st.len] at hl hb d
      refine ⟨.ref F, rfl, F, _, rfl, .inl ⟨SqL.of hF, fun tF nt => ?_⟩⟩
      exact q tF fd _ hl hb upd_same (kp.trans (kps (same_new nt))) ((d.kp nt).up (by omega))
end
end DD
namespace DD
open PySem PySem.Spec PyProof.Rows L2 RZ DM
/-- the room of these drawers -/
def roomS (rows : List (List Int)) (n : Nat) (cs : List (Option Int)) (ds : List Nat) : Int := (List.zipWith capv (totL rows n ds) cs).sum
def colS (rows : List (List Int)) (ds : List Nat) (k : Nat) : Int := (ds.map fun j => (rows.getD j []).getD k 0).sum
theorem colS_snoc (rows : List (List Int)) (ds : List Nat) (j k : Nat) : colS rows (ds ++ [j]) k = colS rows ds k + (rows.getD j []).getD k 0 := by
  unfold colS
  rw [List.map_append, List.sum_append]
  simp
theorem colS_perm {rows : List (List Int)} {ds es : List Nat} {k : Nat} (h : ds.Perm es) : colS rows ds k = colS rows es k := perm_sum (h.map _)
theorem colS_le {rows : List (List Int)} (hn : ∀ r ∈ rows, ∀ x ∈ r, 0 ≤ x) {k : Nat} : ∀ {S A : List Nat}, S.Nodup → (∀ x ∈ S, x ∈ A) → colS rows S k ≤ colS rows A k := by
  have nn : ∀ j : Nat, 0 ≤ (rows.getD j []).getD k 0 := fun j => by
    rw [List.getD_eq_getElem?_getD (l := rows)]
    cases e : rows[j]? with
    | none => exact Int.le_refl _
    | some r =>
      show 0 ≤ r.getD k 0
      rw [List.getD_eq_getElem?_getD]
      cases e2 : r[k]? with
      | none => exact Int.le_refl _
      | some x => exact hn r (List.mem_of_getElem? e) x (List.mem_of_getElem? e2)
  intro S
  induction S with
  | nil =>
    intro A _ _
    show 0 ≤ colS rows A k
    induction A with
    | nil => exact Int.le_refl _
    | cons a A ih =>
      show 0 ≤ ((a :: A).map _).sum
      rw [List.map_cons, List.sum_cons]
      have := nn a
      have ih2 : 0 ≤ (A.map fun j => (rows.getD j []).getD k 0).sum := ih (fun _ h => nomatch h)
      omega
  | cons j S ih =>
    intro A hd hs
    have hjA := hs j List.mem_cons_self
    have hp := List.perm_cons_erase hjA
    rw [colS_perm hp]
    have h2 : colS rows S k ≤ colS rows (A.erase j) k := ih (List.nodup_cons.mp hd).2 fun x hx => by
      have hne : x ≠ j := fun z => (List.nodup_cons.mp hd).1 (z ▸ hx)
      exact (List.mem_erase_of_ne hne).mpr (hs x (List.mem_cons_of_mem _ hx))
    show ((j :: S).map _).sum ≤ ((j :: A.erase j).map _).sum
    rw [List.map_cons, List.map_cons, List.sum_cons, List.sum_cons]
    have : (S.map fun j => (rows.getD j []).getD k 0).sum ≤ ((A.erase j).map fun j => (rows.getD j []).getD k 0).sum := h2
    omega
def rk (rows : List (List Int)) (cs : List (Option Int)) (ds : List Nat) (k : Nat) : Int := capv (colS rows ds k) (cs.getD k none)
theorem roomS_eq {rows : List (List Int)} {n : Nat} {cs : List (Option Int)} (hc : cs.length = n) (h0 : ∀ c, some c ∈ cs → 0 ≤ c) (ds : List Nat) : roomS rows n cs ds = ((List.range n).map (rk rows cs ds)).sum := by
  by_cases e : ds = []
  · subst e
    have z1 : roomS rows n cs [] = 0 := rfl
    rw [z1]
    have : ∀ l : List Nat, (∀ k ∈ l, k < n) → (l.map (rk rows cs [])).sum = 0 := by
      intro l
      induction l with
      | nil => intro _; rfl
      | cons a l ih =>
        intro h
        rw [List.map_cons, List.sum_cons, ih fun k hk => h k (List.mem_cons_of_mem _ hk)]
        have ha := h a List.mem_cons_self
        show capv 0 (cs.getD a none) + 0 = 0
        have hg := getD_of (d := none) (show a < cs.length by omega)
        cases hv : cs.getD a none with
        | none => rfl
        | some c =>
          have := h0 c (by rw [hv] at hg; exact List.mem_of_getElem? hg)
          show (if c < 0 then c else 0) + 0 = 0
          rw [if_neg (by omega)]
          rfl
    exact (this _ fun k hk => List.mem_range.mp hk).symm
  · unfold roomS totL
    rw [if_neg e]
    congr 1
    refine List.ext_getElem? fun i => ?_
    by_cases hi : i < n
    · rw [List.getElem?_zipWith, List.getElem?_map, List.getElem?_range hi]
      unfold totalsOf
      rw [List.getElem?_map, List.getElem?_range hi, getD_of (d := none) (show i < cs.length by omega)]
      show some (capv _ _) = some (rk rows cs ds i)
      unfold rk colS pickR
      dsimp only
      rw [List.map_map]
      rfl
    · rw [List.getElem?_eq_none (by rw [List.length_zipWith]; omega), List.getElem?_eq_none (by rw [List.length_map, List.length_range]; omega)]
theorem roomS_perm {rows : List (List Int)} {n : Nat} {cs : List (Option Int)} (hc : cs.length = n) (h0 : ∀ c, some c ∈ cs → 0 ≤ c) {ds es : List Nat} (h : ds.Perm es) : roomS rows n cs ds = roomS rows n cs es := by
  rw [roomS_eq hc h0, roomS_eq hc h0]
  refine congrArg List.sum (List.map_congr_left fun k _ => ?_)
  unfold rk
  rw [colS_perm h]
theorem sum4 {f g h i : Nat → Int} : ∀ {l : List Nat}, (∀ k ∈ l, f k + g k ≤ h k + i k) → (l.map f).sum + (l.map g).sum ≤ (l.map h).sum + (l.map i).sum
  | [], _ => by simp
  | a :: l, hk => by
    have := sum4 (l := l) fun k hh => hk k (List.mem_cons_of_mem _ hh)
    have := hk a List.mem_cons_self
    simp only [List.map_cons, List.sum_cons]
    omega
theorem capv_sub {a s x : Int} (o : Option Int) (h : s ≤ a) (hx : 0 ≤ x) : capv (a + x) o + capv s o ≤ capv a o + capv (s + x) o := by
  cases o with
  | none =>
    show a + x + s ≤ a + (s + x)
    omega
  | some c =>
    show (if c < a + x then c else a + x) + (if c < s then c else s) ≤ (if c < a then c else a) + (if c < s + x then c else s + x)
    by_cases h1 : c < a + x <;> by_cases h2 : c < s <;> by_cases h3 : c < a <;> by_cases h4 : c < s + x <;> simp only [h1, h2, h3, h4, if_true, if_false] <;> omega
theorem cell_nn {rows : List (List Int)} (hn : ∀ r ∈ rows, ∀ x ∈ r, 0 ≤ x) (j k : Nat) : 0 ≤ (rows.getD j []).getD k 0 := by
  have := colS_le hn (k := k) (S := []) (A := [j]) List.nodup_nil (fun x h => by cases h)
  have e1 : colS rows [] k = 0 := rfl
  have e2 : colS rows [j] k = (rows.getD j []).getD k 0 + 0 := rfl
  omega
theorem range_ps : ∀ m, List.range m ∈ pSets m
  | 0 => List.mem_singleton.mpr rfl
  | m + 1 => by
    rw [List.range_succ]
    exact List.mem_append_right _ (List.mem_map.mpr ⟨_, range_ps m, rfl⟩)
theorem pick_all (rows : List (List Int)) : pickR rows (List.range rows.length) = rows := by
  unfold pickR
  refine List.ext_getElem? fun i => ?_
  rw [List.getElem?_map]
  by_cases h : i < rows.length
  · rw [List.getElem?_range h, getD_of (d := []) h]
    rfl
  · rw [List.getElem?_eq_none (by rw [List.length_range]; omega), List.getElem?_eq_none (by omega)]
    rfl
theorem tot_colS (rows : List (List Int)) (n : Nat) : totalsOf rows n = (List.range n).map (colS rows (List.range rows.length)) := by
  unfold totalsOf
  refine List.map_congr_left fun i _ => ?_
  show _ = ((List.range rows.length).map _).sum
  congr 1
  refine List.ext_getElem? fun j => ?_
  rw [List.getElem?_map, List.getElem?_map]
  by_cases hj : j < rows.length
  · rw [List.getElem?_range hj, getD_of (d := []) hj]
    rfl
  · rw [List.getElem?_eq_none (by omega), List.getElem?_eq_none (by rw [List.length_range]; omega)]
    rfl
end DD
namespace DD
/-! ### sums by functions -/
def sN : Nat → (Nat → Int) → Int
  | 0, _ => 0
  | n + 1, f => sN n f + f n
theorem sN_le {f g : Nat → Int} : ∀ {n : Nat}, (∀ k, k < n → f k ≤ g k) → sN n f ≤ sN n g
  | 0, _ => Int.le_refl _
  | n + 1, h => by
    have := sN_le (n := n) fun k hk => h k (by omega)
    have := h n (by omega)
    show sN n f + f n ≤ sN n g + g n
    omega
theorem sN_congr {f g : Nat → Int} : ∀ {n : Nat}, (∀ k, k < n → f k = g k) → sN n f = sN n g
  | 0, _ => rfl
  | n + 1, h => by
    have := sN_congr (n := n) fun k hk => h k (by omega)
    have := h n (by omega)
    show sN n f + f n = sN n g + g n
    omega
theorem sN_add {f g : Nat → Int} : ∀ {n : Nat}, sN n (fun k => f k + g k) = sN n f + sN n g
  | 0 => rfl
  | n + 1 => by
    have := sN_add (f := f) (g := g) (n := n)
    show sN n (fun k => f k + g k) + (f n + g n) = sN n f + f n + (sN n g + g n)
    omega
theorem sN_zero {n : Nat} : sN n (fun _ => 0) = 0 := by
  induction n with
  | zero => rfl
  | succ n ih => show sN n (fun _ => 0) + 0 = 0; omega
theorem sN_range (n : Nat) (f : Nat → Int) : ((List.range n).map f).sum = sN n f := by
  induction n with
  | zero => rfl
  | succ n ih =>
    rw [List.range_succ, List.map_append, List.sum_append, ih]
    simp [sN]
/-- one term changed -/
theorem sN_at {f g : Nat → Int} {k : Nat} : ∀ {n : Nat}, k < n → (∀ j, j ≠ k → f j = g j) → sN n f - f k = sN n g - g k
  | 0, h, _ => absurd h (Nat.not_lt_zero _)
  | n + 1, h, hj => by
    show sN n f + f n - f k = sN n g + g n - g k
    by_cases e : k = n
    · subst e
      have := sN_congr (f := f) (g := g) (n := k) fun j hjk => hj j (by omega)
      omega
    · have := sN_at (f := f) (g := g) (k := k) (n := n) (by omega) hj
      have := hj n (by omega)
      omega
/-- the sum over a set of drawers -/
def sI (m : Nat) (S : Nat → Bool) (f : Nat → Int) : Int := sN m fun j => if S j = true then f j else 0
theorem sI_nn {m : Nat} {S : Nat → Bool} {f : Nat → Int} (h : ∀ j, 0 ≤ f j) : 0 ≤ sI m S f := by
  have := sN_le (n := m) (f := fun _ => 0) (g := fun j => if S j = true then f j else 0) fun k _ => by
    show 0 ≤ if S k = true then f k else 0
    have := h k
    split <;> omega
  rw [sN_zero] at this
  exact this
theorem sI_sub {m : Nat} {S T : Nat → Bool} {f : Nat → Int} (h : ∀ j, 0 ≤ f j) (hs : ∀ j, S j = true → T j = true) : sI m S f ≤ sI m T f := by
  refine sN_le fun k _ => ?_
  show (if S k = true then f k else 0) ≤ if T k = true then f k else 0
  have h0 := h k
  by_cases e : S k = true
  · rw [if_pos e, if_pos (hs k e)]
    exact Int.le_refl _
  · rw [if_neg e]
    split <;> omega
theorem sI_union {m : Nat} {S T : Nat → Bool} {f : Nat → Int} : sI m (fun j => S j || T j) f + sI m (fun j => S j && T j) f = sI m S f + sI m T f := by
  unfold sI
  rw [← sN_add, ← sN_add]
  refine sN_congr fun k _ => ?_
  dsimp only
  by_cases hS : S k = true <;> by_cases hT : T k = true <;> simp [hS, hT]
theorem sI_none {m : Nat} {f : Nat → Int} : sI m (fun _ => false) f = 0 := by
  unfold sI
  exact sN_zero
section
variable (m n : Nat) (X : Nat → Nat → Int) (p : Nat → Int)
/-- the room of a set of drawers under caps -/
def Rm (lf : Nat → Int) (S : Nat → Bool) : Int := sN n fun k => min (sI m S fun j => X j k) (lf k)
def Feas (lf : Nat → Int) : Prop := ∀ S, sI m S p ≤ Rm m n X lf S
def Tight (lf : Nat → Int) (S : Nat → Bool) : Prop := sI m S p = Rm m n X lf S
end
section
variable {m n : Nat} {X : Nat → Nat → Int} {p : Nat → Int} (hX : ∀ j k, 0 ≤ X j k)
theorem rm_sub {lf : Nat → Int} {S T : Nat → Bool} (hX : ∀ j k, 0 ≤ X j k) : Rm m n X lf (fun j => S j || T j) + Rm m n X lf (fun j => S j && T j) ≤ Rm m n X lf S + Rm m n X lf T := by
  unfold Rm
  rw [← sN_add, ← sN_add]
  refine sN_le fun k _ => ?_
  have h1 := sI_union (m := m) (S := S) (T := T) (f := fun j => X j k)
  have h2 := sI_sub (m := m) (S := S) (T := fun j => S j || T j) (f := fun j => X j k) (fun j => hX j k) fun j h => by simp [h]
  have h3 := sI_sub (m := m) (S := T) (T := fun j => S j || T j) (f := fun j => X j k) (fun j => hX j k) fun j h => by simp [h]
  generalize sI m (fun j => S j || T j) (fun j => X j k) = a at *
  generalize sI m (fun j => S j && T j) (fun j => X j k) = b at *
  generalize sI m S (fun j => X j k) = c at *
  generalize sI m T (fun j => X j k) = d at *
  omega
theorem tight_union {lf : Nat → Int} {S T : Nat → Bool} (hX : ∀ j k, 0 ≤ X j k) (hf : Feas m n X p lf) (hS : Tight m n X p lf S) (hT : Tight m n X p lf T) : Tight m n X p lf fun j => S j || T j := by
  have h1 := hf fun j => S j || T j
  have h2 := hf fun j => S j && T j
  have h3 := rm_sub (m := m) (n := n) (lf := lf) (S := S) (T := T) hX
  have h4 := sI_union (m := m) (S := S) (T := T) (f := p)
  unfold Tight at *
  omega
theorem rm_none {lf : Nat → Int} (h : ∀ k, k < n → 0 ≤ lf k) : Rm m n X lf (fun _ => false) = 0 := by
  unfold Rm
  rw [← sN_zero (n := n)]
  refine sN_congr fun k hk => ?_
  rw [sI_none]
  have := h k hk
  omega
theorem rm_mono {lf lf' : Nat → Int} {S : Nat → Bool} (h : ∀ k, k < n → lf' k ≤ lf k) : Rm m n X lf' S ≤ Rm m n X lf S := sN_le fun k hk => by
  have := h k hk
  omega
/-- what a step of the way through the kinds keeps -/
structure Gr (m n : Nat) (X : Nat → Nat → Int) (p r : Nat → Int) (left : Nat → Int) (pd : Int) (j : Nat) (cts lf : Nat → Int) (num : Int) : Prop where
  lf1 : ∀ k, k < n → 0 ≤ lf k ∧ lf k = left k - cts k
  c0 : ∀ k, j ≤ k → cts k = 0
  cb : ∀ k, 0 ≤ cts k ∧ (k < n → cts k ≤ r k)
  nm : num = pd - sN n cts
  n0 : 0 ≤ num
  fe : Feas m n X p lf
  ti : num = 0 ∨ ∃ T, Tight m n X p lf T ∧ ∀ k, k < j → cts k = r k ∨ lf k ≤ sI m T fun i => X i k
theorem Gr.step {r left : Nat → Int} {pd : Int} {j : Nat} {cts lf : Nat → Int} {num v : Int} (hX : ∀ j k, 0 ≤ X j k) (hr : ∀ k, 0 ≤ r k) (hj : j < n) (g : Gr m n X p r left pd j cts lf num)
    (v1 : ∀ S, v ≤ lf j + (Rm m n X (fun k => if k = j then 0 else lf k) S - sI m S p)) (v2 : ∃ S, v = lf j + (Rm m n X (fun k => if k = j then 0 else lf k) S - sI m S p)) :
    Gr m n X p r left pd (j + 1) (fun k => if k = j then min (min num (r j)) v else cts k) (fun k => if k = j then lf j - min (min num (r j)) v else lf k) (num - min (min num (r j)) v) := by
  have hl := g.lf1 j hj
  have hn0 := g.n0
  have hrj := hr j
  have hcj := g.c0 j (Nat.le_refl _)
  -- the room with other caps of this kind
  have rj : ∀ (c : Int) (S : Nat → Bool), Rm m n X (fun k => if k = j then c else lf k) S = Rm m n X (fun k => if k = j then 0 else lf k) S - min (sI m S fun i => X i j) 0 + min (sI m S fun i => X i j) c := fun c S => by
    have := sN_at (n := n) (k := j) (f := fun k => min (sI m S fun i => X i k) (if k = j then c else lf k)) (g := fun k => min (sI m S fun i => X i k) (if k = j then 0 else lf k)) hj fun k hk => by
      simp only [if_neg hk]
    simp only [if_true] at this
    unfold Rm
    dsimp only
    omega
  have r0 : ∀ S, Rm m n X lf S = Rm m n X (fun k => if k = j then 0 else lf k) S - min (sI m S fun i => X i j) 0 + min (sI m S fun i => X i j) (lf j) := fun S => by
    rw [← rj (lf j) S]
    unfold Rm
    refine sN_congr fun k _ => ?_
    dsimp only
    by_cases e : k = j
    · rw [if_pos e, e]
    · rw [if_neg e]
  have cnn : ∀ S, 0 ≤ sI m S fun i => X i j := fun S => sI_nn fun i => hX i j
  -- 0 <= v <= lf j
  have hv0 : 0 ≤ v := by
    obtain ⟨S, e⟩ := v2
    have h1 := g.fe S
    have h2 := r0 S
    have h3 := cnn S
    omega
  have hvl : v ≤ lf j := by
    have h1 := v1 fun _ => false
    rw [rm_none fun k hk => by
      by_cases e : k = j
      · rw [if_pos e]
        exact Int.le_refl _
      · rw [if_neg e]
        exact (g.lf1 k hk).1, sI_none] at h1
    omega
  generalize hc : min (min num (r j)) v = c
  have hc0 : 0 ≤ c := by omega
  have fe : Feas m n X p (fun k => if k = j then lf j - c else lf k) := fun S => by
    have h1 := g.fe S
    have h2 := r0 S
    have h3 := rj (lf j - c) S
    have h4 := v1 S
    have h5 := cnn S
    omega
  refine ⟨fun k hk => ?_, fun k hk => ?_, fun k => ?_, ?_, by omega, fe, ?_⟩
  · by_cases e : k = j
    · subst e
      simp only [if_true]
      omega
    · simp only [if_neg e]
      exact g.lf1 k hk
  · rw [if_neg (by omega)]
    exact g.c0 k (by omega)
  · by_cases e : k = j
    · rw [if_pos e]
      exact ⟨hc0, fun _ => by rw [e]; omega⟩
    · rw [if_neg e]
      exact g.cb k
  · have := sN_at (n := n) (k := j) (f := fun k => if k = j then c else cts k) (g := cts) hj fun k hk => if_neg hk
    simp only [if_true] at this
    have := g.nm
    omega
  · by_cases hz : num - c = 0
    · exact .inl hz
    · refine .inr ?_
      have hnz : num ≠ 0 := fun e => by omega
      obtain ⟨T, hT, hk⟩ := g.ti.resolve_left hnz
      -- tight sets stay tight
      have keep : ∀ S, Tight m n X p lf S → Tight m n X p (fun k => if k = j then lf j - c else lf k) S := fun S hS => by
        have h1 := fe S
        have h2 := rm_mono (m := m) (n := n) (X := X) (lf := lf) (lf' := fun k => if k = j then lf j - c else lf k) (S := S) fun k _ => by
          by_cases e : k = j
          · subst e
            simp only [if_true]
            omega
          · simp only [if_neg e]
            exact Int.le_refl _
        unfold Tight at *
        omega
      by_cases hcr : c = r j
      · refine ⟨T, keep T hT, fun k hkj => ?_⟩
        by_cases e : k = j
        · subst e
          simp only [if_true]
          exact .inl hcr
        · simp only [if_neg e]
          exact hk k (by omega)
      · have hcv : c = v := by omega
        obtain ⟨S, eS⟩ := v2
        have h3 := rj (lf j - c) S
        have h5 := cnn S
        have h1 := fe S
        have tS : Tight m n X p (fun k => if k = j then lf j - c else lf k) S := by
          unfold Tight
          omega
        have lS : lf j - c ≤ sI m S fun i => X i j := by omega
        refine ⟨_, tight_union hX fe (keep T hT) tS, fun k hkj => ?_⟩
        have hTU := fun i => sI_sub (m := m) (S := T) (T := fun j => T j || S j) (f := fun j => X j i) (fun j => hX j i) fun j h => by simp [h]
        have hSU := fun i => sI_sub (m := m) (S := S) (T := fun j => T j || S j) (f := fun j => X j i) (fun j => hX j i) fun j h => by simp [h]
        by_cases e : k = j
        · subst e
          simp only [if_true]
          exact .inr (Int.le_trans lS (hSU k))
        · simp only [if_neg e]
          rcases hk k (by omega) with h | h
          · exact .inl h
          · exact .inr (Int.le_trans h (hTU k))
/-- at the end nothing is wanted any more -/
theorem Gr.done {r left : Nat → Int} {pd : Int} {cts lf : Nat → Int} {num : Int} (g : Gr m n X p r left pd n cts lf num)
    (h : ∀ S, sI m S p + pd ≤ sN n fun k => min ((sI m S fun j => X j k) + r k) (left k)) : num = 0 := by
  rcases g.ti with e | ⟨T, hT, hk⟩
  · exact e
  · have h1 := h T
    have h2 : (sN n fun k => min ((sI m T fun j => X j k) + r k) (left k)) ≤ sN n fun k => min (sI m T fun j => X j k) (lf k) + cts k := sN_le fun k hkn => by
      have h3 := g.lf1 k hkn
      have h4 := (g.cb k).2 hkn
      rcases hk k hkn with e | e <;> omega
    rw [sN_add] at h2
    have h5 := g.nm
    have h6 := g.n0
    unfold Tight Rm at hT
    omega
theorem Gr.start {r left : Nat → Int} {pd : Int} (hl : ∀ k, k < n → 0 ≤ left k) (hr : ∀ k, 0 ≤ r k) (hp : 0 ≤ pd) (hf : Feas m n X p left) : Gr m n X p r left pd 0 (fun _ => 0) left pd := by
  refine ⟨fun k hk => ⟨hl k hk, by omega⟩, fun _ _ => rfl, fun k => ⟨Int.le_refl _, fun _ => hr k⟩, ?_, hp, hf, .inr ⟨fun _ => false, ?_, fun k hk => absurd hk (Nat.not_lt_zero _)⟩⟩
  · rw [sN_zero]
    omega
  · unfold Tight
    rw [sI_none, rm_none hl]
end
end DD
namespace DD
open PySem PySem.Spec PyProof.Rows L2 RZ DM
theorem filt_mem (S : Nat → Bool) : ∀ m, (List.range m).filter S ∈ pSets m
  | 0 => List.mem_singleton.mpr rfl
  | m + 1 => by
    rw [List.range_succ, List.filter_append]
    have ih := filt_mem S m
    show _ ∈ pSets m ++ (pSets m).map fun s => s ++ [m]
    by_cases h : S m = true
    · have e : [m].filter S = [m] := by simp [h]
      rw [e]
      exact List.mem_append_right _ (List.mem_map.mpr ⟨_, ih, rfl⟩)
    · have e : [m].filter S = [] := by simp [h]
      rw [e, List.append_nil]
      exact List.mem_append_left _ ih
theorem pset_filt : ∀ {m : Nat} {d : List Nat}, d ∈ pSets m → d = (List.range m).filter fun j => d.contains j
  | 0, d, h => by
    rw [List.mem_singleton.mp h]
    rfl
  | m + 1, d, h => by
    rw [List.range_succ, List.filter_append]
    rcases List.mem_append.mp (show d ∈ pSets m ++ (pSets m).map fun s => s ++ [m] from h) with h | h
    · have ih := pset_filt h
      have hm : d.contains m = false := by
        rw [List.contains_eq_mem]
        exact decide_eq_false fun z => absurd ((ps_bd h).2.2 m z) (Nat.lt_irrefl _)
      have e : [m].filter (fun j => d.contains j) = [] := by simp [hm] at *; exact hm
      rw [e, List.append_nil]
      exact ih
    · obtain ⟨s, hs, rfl⟩ := List.mem_map.mp h
      have ih := pset_filt hs
      have e : [m].filter (fun j => (s ++ [m]).contains j) = [m] := by simp
      rw [e]
      congr 1
      conv => lhs; rw [ih]
      refine List.filter_congr fun j hj => ?_
      have hj := List.mem_range.mp hj
      have hne : j ≠ m := by omega
      simp [hne]
theorem filt_sum {m : Nat} {S : Nat → Bool} {f : Nat → Int} : (((List.range m).filter S).map f).sum = sI m S f := by
  induction m with
  | zero => rfl
  | succ m ih =>
    rw [List.range_succ, List.filter_append, List.map_append, List.sum_append, ih]
    show _ = sI m S f + if S m = true then f m else 0
    by_cases h : S m = true
    · have e : [m].filter S = [m] := by simp [h]
      rw [e, if_pos h]
      simp
    · have e : [m].filter S = [] := by simp [h]
      rw [e, if_neg h]
      rfl
theorem pset_sum {m : Nat} {d : List Nat} {f : Nat → Int} (h : d ∈ pSets m) : (d.map f).sum = sI m (fun j => d.contains j) f := by
  conv => lhs; rw [pset_filt h]
  exact filt_sum
def cel (rows : List (List Int)) (j k : Nat) : Int := (rows.getD j []).getD k 0
def plF (ps : List Int) (j : Nat) : Int := ps.getD j 0
def lfF (l : List Int) (k : Nat) : Int := l.getD k 0
theorem capv_min (t c : Int) : capv t (some c) = min t c := by
  show (if c < t then c else t) = _
  omega
/-- a set's spare, by functions -/
theorem spare_fun {rows : List (List Int)} {ps : List Int} {n : Nat} {left : List Int} {kd : Nat} (hl : left.length = n) (hk : kd < n) (h0 : ∀ k, 0 ≤ lfF left k) {d : List Nat} (hd : d ∈ pSets rows.length) :
    spareAt rows ps n left kd d = Rm rows.length n (cel rows) (fun k => if k = kd then 0 else lfF left k) (fun j => d.contains j) - sI rows.length (fun j => d.contains j) (plF ps) := by
  have hc : ((left.set kd 0).map some).length = n := by rw [List.length_map, List.length_set, hl]
  have gd : ∀ k, k < n → ((left.set kd 0).map some).getD k none = some (if k = kd then 0 else lfF left k) := fun k hkn => by
    have e := setD (pl := left) (j := kd) (i := k) (v := 0) (by omega)
    rw [List.getD_eq_getElem?_getD, List.getElem?_map, getD_of (d := 0) (show k < (left.set kd 0).length by rw [List.length_set]; omega), e]
    show some _ = some _
    by_cases z : k = kd
    · rw [if_pos z, if_pos z.symm]
    · rw [if_neg z, if_neg fun q => z q.symm]
      rfl
  have hn0 : ∀ c, some c ∈ (left.set kd 0).map some → 0 ≤ c := fun c hc2 => by
    obtain ⟨k, hkk⟩ := List.mem_iff_getElem?.mp hc2
    have hkn : k < n := by
      have := (List.getElem?_eq_some_iff.mp hkk).1
      omega
    have e := gd k hkn
    rw [List.getD_eq_getElem?_getD, hkk] at e
    have e : c = if k = kd then 0 else lfF left k := Option.some.inj e
    have := h0 k
    rw [e]
    split <;> omega
  show roomS rows n ((left.set kd 0).map some) d - takenOf ps d = _
  rw [roomS_eq hc hn0, sN_range]
  congr 1
  · unfold Rm
    refine sN_congr fun k hkn => ?_
    unfold rk
    rw [gd k hkn, capv_min]
    congr 1
    exact pset_sum hd
  · exact pset_sum hd
theorem spareV_ok {rows : List (List Int)} {ps : List Int} {n : Nat} {left : List Int} {kd : Nat} (hl : left.length = n) (hk : kd < n) (h0 : ∀ k, 0 ≤ lfF left k) :
    (∀ S, spareV rows ps n left kd (pSets rows.length) ≤ lfF left kd + (Rm rows.length n (cel rows) (fun k => if k = kd then 0 else lfF left k) S - sI rows.length S (plF ps))) ∧
    ∃ S, spareV rows ps n left kd (pSets rows.length) = lfF left kd + (Rm rows.length n (cel rows) (fun k => if k = kd then 0 else lfF left k) S - sI rows.length S (plF ps)) := by
  have hne : (pSets rows.length).map (spareAt rows ps n left kd) ≠ [] := fun e => ps_ne _ (List.map_eq_nil_iff.mp e)
  obtain ⟨m, hm⟩ : ∃ m, ((pSets rows.length).map (spareAt rows ps n left kd)).min? = some m := by
    cases e : ((pSets rows.length).map (spareAt rows ps n left kd)).min? with
    | none => exact absurd (List.min?_eq_none_iff.mp e) hne
    | some m => exact ⟨m, rfl⟩
  obtain ⟨h1, h2⟩ := List.min?_eq_some_iff.mp hm
  have hv : spareV rows ps n left kd (pSets rows.length) = lfF left kd + m := by
    unfold spareV
    rw [hm]
    rfl
  refine ⟨fun S => ?_, ?_⟩
  · have hS := filt_mem S rows.length
    have h3 := h2 _ (List.mem_map_of_mem (f := spareAt rows ps n left kd) hS)
    rw [spare_fun hl hk h0 hS] at h3
    have e : ∀ f : Nat → Int, sI rows.length (fun j => ((List.range rows.length).filter S).contains j) f = sI rows.length S f := fun f => by
      rw [← pset_sum hS, filt_sum]
    have e2 : Rm rows.length n (cel rows) (fun k => if k = kd then 0 else lfF left k) (fun j => ((List.range rows.length).filter S).contains j) = Rm rows.length n (cel rows) (fun k => if k = kd then 0 else lfF left k) S := by
      unfold Rm
      exact sN_congr fun k _ => by rw [e]
    rw [e, e2] at h3
    rw [hv]
    omega
  · obtain ⟨d, hd, e⟩ := List.mem_map.mp h1
    refine ⟨fun j => d.contains j, ?_⟩
    rw [hv, ← spare_fun hl hk h0 hd, e]
theorem snocD {l : List Int} {j : Nat} {c : Int} (h : l.length = j) : lfF (l ++ [c]) = fun k => if k = j then c else lfF l k := funext fun k => by
  unfold lfF
  rw [List.getD_eq_getElem?_getD]
  by_cases e : k = j
  · rw [if_pos e, e, ← h, List.getElem?_append_right (Nat.le_refl _), Nat.sub_self]
    rfl
  · rw [if_neg e, List.getD_eq_getElem?_getD]
    by_cases hk : k < l.length
    · rw [List.getElem?_append_left hk]
    · rw [List.getElem?_eq_none (by rw [List.length_append]; simp only [List.length_cons, List.length_nil]; omega), List.getElem?_eq_none (by omega)]
theorem setF {l : List Int} {j : Nat} {v : Int} (h : j < l.length) : lfF (l.set j v) = fun k => if k = j then v else lfF l k := funext fun k => by
  unfold lfF
  rw [setD h]
  by_cases e : k = j
  · rw [if_pos e, if_pos e.symm]
  · rw [if_neg e, if_neg fun z => e z.symm]
/-- one drawer: the way through the kinds -/
theorem gSt_gr {rows : List (List Int)} {ps : List Int} {n : Nat} {dr left : List Int} {pd : Int} (hX : ∀ r ∈ rows, ∀ x ∈ r, 0 ≤ x) (hr : ∀ k, 0 ≤ lfF dr k) (hll : left.length = n) (hl : ∀ k, k < n → 0 ≤ lfF left k) (hp : 0 ≤ pd)
    (hf : Feas rows.length n (cel rows) (plF ps) (lfF left)) : ∀ j, j ≤ n →
    Gr rows.length n (cel rows) (plF ps) (lfF dr) (lfF left) pd j (lfF (gSt rows ps n (pSets rows.length) dr left pd j).1) (lfF (gSt rows ps n (pSets rows.length) dr left pd j).2.1) (gSt rows ps n (pSets rows.length) dr left pd j).2.2
  | 0, _ => by
    have e : lfF (gSt rows ps n (pSets rows.length) dr left pd 0).1 = fun _ => 0 := funext fun k => rfl
    rw [e]
    exact Gr.start hl hr hp hf
  | j + 1, hj => by
    have g := gSt_gr hX hr hll hl hp hf j (by omega)
    obtain ⟨l1, l2⟩ := gSt_len rows ps n (pSets rows.length) dr left pd j
    rw [gSt_succ]
    generalize gSt rows ps n (pSets rows.length) dr left pd j = s at g l1 l2 ⊢
    obtain ⟨cts, lf, num⟩ := s
    have hlf : lf.length = n := l2.trans hll
    have h0 : ∀ k, 0 ≤ lfF lf k := fun k => by
      by_cases hk : k < n
      · exact (g.lf1 k hk).1
      · unfold lfF
        rw [List.getD_eq_getElem?_getD, List.getElem?_eq_none (by omega)]
        exact Int.le_refl _
    obtain ⟨v1, v2⟩ := spareV_ok (rows := rows) (ps := ps) (n := n) (left := lf) (kd := j) hlf (by omega) h0
    have := g.step (fun j k => cell_nn hX j k) hr (by omega) v1 v2
    show Gr _ _ _ _ _ _ _ _ (lfF (cts ++ [_])) (lfF (lf.set j _)) _
    rw [snocD l1, setF (by omega)]
    exact this
end DD
namespace DD
open PySem PySem.Spec PyProof.Rows L2 RZ DM
theorem sN_head {f : Nat → Int} : ∀ {m : Nat}, sN (m + 1) f = f 0 + sN m fun j => f (j + 1)
  | 0 => by show 0 + f 0 = f 0 + 0; omega
  | m + 1 => by
    have := sN_head (f := f) (m := m)
    show sN (m + 1) f + f (m + 1) = f 0 + (sN m (fun j => f (j + 1)) + f (m + 1))
    omega
theorem sI_head {S : Nat → Bool} {f : Nat → Int} {m : Nat} : sI (m + 1) S f = (if S 0 = true then f 0 else 0) + sI m (fun j => S (j + 1)) fun j => f (j + 1) := by
  unfold sI
  exact sN_head
/-- a drawer with one more set in front -/
def consS (b : Bool) (S : Nat → Bool) : Nat → Bool
  | 0 => b
  | j + 1 => S j
theorem feas_tail {m n : Nat} {X : Nat → Nat → Int} {p lf : Nat → Int} (h : Feas (m + 1) n X p lf) : Feas m n (fun j k => X (j + 1) k) (fun j => p (j + 1)) lf := fun S => by
  have := h (consS false S)
  unfold Rm at this
  rw [sI_head] at this
  have e : (sN n fun k => min (sI (m + 1) (consS false S) fun j => X j k) (lf k)) = sN n fun k => min (sI m S fun j => X (j + 1) k) (lf k) := sN_congr fun k _ => by
    rw [sI_head]
    show min ((if false = true then _ else 0) + sI m S fun j => X (j + 1) k) (lf k) = _
    rw [if_neg (by decide), Int.zero_add]
  rw [e] at this
  have e2 : (if consS false S 0 = true then p 0 else 0) = 0 := rfl
  rw [e2, Int.zero_add] at this
  exact this
theorem feas_head {m n : Nat} {X : Nat → Nat → Int} {p lf : Nat → Int} (h : Feas (m + 1) n X p lf) (S : Nat → Bool) : (sI m S fun j => p (j + 1)) + p 0 ≤ sN n fun k => min ((sI m S fun j => X (j + 1) k) + X 0 k) (lf k) := by
  have := h (consS true S)
  unfold Rm at this
  rw [sI_head] at this
  have e : (sN n fun k => min (sI (m + 1) (consS true S) fun j => X j k) (lf k)) = sN n fun k => min ((sI m S fun j => X (j + 1) k) + X 0 k) (lf k) := sN_congr fun k _ => by
    rw [sI_head]
    show min ((if true = true then X 0 k else 0) + sI m S fun j => X (j + 1) k) (lf k) = _
    rw [if_pos rfl, Int.add_comm]
  rw [e] at this
  have e2 : (if consS true S 0 = true then p 0 else 0) = p 0 := rfl
  rw [e2] at this
  show sI m S (fun j => p (j + 1)) + p 0 ≤ _
  have e3 : (sI m (fun j => consS true S (j + 1)) fun j => p (j + 1)) = sI m S fun j => p (j + 1) := rfl
  omega
theorem cel_drop (rows : List (List Int)) (q j k : Nat) : cel (rows.drop q) j k = cel rows (q + j) k := by
  unfold cel
  rw [List.getD_eq_getElem?_getD (l := rows.drop q), List.getElem?_drop, ← List.getD_eq_getElem?_getD]
theorem plF_drop (ps : List Int) (q j : Nat) : plF (ps.drop q) j = plF ps (q + j) := by
  unfold plF
  rw [List.getD_eq_getElem?_getD, List.getElem?_drop, ← List.getD_eq_getElem?_getD]
theorem feas_congr {m n : Nat} {X Y : Nat → Nat → Int} {p q lf : Nat → Int} (h : Feas m n X p lf) (e1 : ∀ j k, X j k = Y j k) (e2 : ∀ j, p j = q j) : Feas m n Y q lf := by
  have a : X = Y := funext fun j => funext fun k => e1 j k
  have b : p = q := funext e2
  rw [← a, ← b]
  exact h
/-- one drawer's counts within the caps -/
structure Dr (r : List Int) (n : Nat) (pd : Int) (cts : List Int) : Prop where
  len : cts.length = n
  bd : ∀ k, 0 ≤ lfF cts k ∧ (k < n → lfF cts k ≤ lfF r k)
  sum : cts.sum = pd
theorem sum_lfF {l : List Int} {n : Nat} (h : l.length = n) : l.sum = sN n (lfF l) := by
  rw [← sN_range]
  congr 1
  refine List.ext_getElem? fun i => ?_
  rw [List.getElem?_map]
  by_cases hi : i < n
  · rw [List.getElem?_range hi, getD_of (d := 0) (by omega)]
    rfl
  · rw [List.getElem?_eq_none (by omega), List.getElem?_eq_none (by rw [List.length_range]; omega)]
    rfl
/-- the state after q drawers -/
structure Wi (rows : List (List Int)) (ps : List Int) (n : Nat) (l0 : List Int) (q : Nat) (D : List (List Int)) (lf : List Int) : Prop where
  dl : D.length = q
  ll : lf.length = n
  dr : ∀ j, j < q → Dr (rows.getD j []) n (plF ps j) (D.getD j [])
  lf0 : ∀ k, k < n → 0 ≤ lfF lf k ∧ lfF lf k = lfF l0 k - sN q fun j => cel D j k
  fe : Feas (rows.length - q) n (fun j k => cel rows (q + j) k) (fun j => plF ps (q + j)) (lfF lf)
theorem wSt_ok {rows : List (List Int)} {ps : List Int} {n : Nat} {l0 : List Int} (hX : ∀ r ∈ rows, ∀ x ∈ r, 0 ≤ x) (hp : ∀ j, 0 ≤ plF ps j) (hll : l0.length = n) (hl : ∀ k, k < n → 0 ≤ lfF l0 k)
    (hf : Feas rows.length n (cel rows) (plF ps) (lfF l0)) : ∀ q, q ≤ rows.length → Wi rows ps n l0 q (wSt rows ps n l0 q).1 (wSt rows ps n l0 q).2
  | 0, _ => ⟨rfl, hll, fun j h => absurd h (Nat.not_lt_zero _), fun k hk => ⟨hl k hk, by show lfF l0 k = lfF l0 k - 0; omega⟩, feas_congr hf (fun j k => by rw [Nat.zero_add]) fun j => by rw [Nat.zero_add]⟩
  | q + 1, hq => by
    have w := wSt_ok hX hp hll hl hf q (by omega)
    generalize hs : wSt rows ps n l0 q = s at w
    obtain ⟨D, lf⟩ := s
    have e1 : wSt rows ps n l0 (q + 1) = (D ++ [(gSt (rows.drop (q + 1)) (ps.drop (q + 1)) n (pSets (rows.length - (q + 1))) (rows.getD q []) lf (ps.getD q 0) n).1], (gSt (rows.drop (q + 1)) (ps.drop (q + 1)) n (pSets (rows.length - (q + 1))) (rows.getD q []) lf (ps.getD q 0) n).2.1) := by
      show ((wSt rows ps n l0 q).1 ++ _, _) = _
      rw [hs]
    rw [e1]
    have hm : rows.length - q = (rows.length - (q + 1)) + 1 := by omega
    have fe := w.fe
    rw [hm] at fe
    have ft := feas_tail fe
    have hdl : (rows.drop (q + 1)).length = rows.length - (q + 1) := List.length_drop
    have ft2 : Feas (rows.drop (q + 1)).length n (cel (rows.drop (q + 1))) (plF (ps.drop (q + 1))) (lfF lf) := by
      rw [hdl]
      exact feas_congr ft (fun j k => by rw [cel_drop]; congr 1; omega) fun j => by rw [plF_drop]; congr 1; omega
    have hrq : ∀ k, 0 ≤ lfF (rows.getD q []) k := fun k => cell_nn hX q k
    have g := gSt_gr (rows := rows.drop (q + 1)) (ps := ps.drop (q + 1)) (n := n) (dr := rows.getD q []) (left := lf) (pd := ps.getD q 0) (fun r hr x hx => hX r (List.mem_of_mem_drop hr) x hx) hrq w.ll (fun k hk => (w.lf0 k hk).1) (hp q) ft2 n (Nat.le_refl _)
    obtain ⟨l1, l2⟩ := gSt_len (rows.drop (q + 1)) (ps.drop (q + 1)) n (pSets (rows.length - (q + 1))) (rows.getD q []) lf (ps.getD q 0) n
    rw [hdl] at g
    generalize gSt (rows.drop (q + 1)) (ps.drop (q + 1)) n (pSets (rows.length - (q + 1))) (rows.getD q []) lf (ps.getD q 0) n = s at g l1 l2 ⊢
    obtain ⟨cts, lf', num⟩ := s
    have l1 : cts.length = n := l1
    have hnum : num = 0 := g.done fun S => by
      have h := feas_head fe S
      have a1 : (sI (rows.length - (q + 1)) S (plF (ps.drop (q + 1)))) = sI (rows.length - (q + 1)) S fun j => plF ps (q + (j + 1)) := by
        congr 1
        exact funext fun j => by rw [plF_drop]; congr 1; omega
      have a2 : (sN n fun k => min ((sI (rows.length - (q + 1)) S fun j => cel (rows.drop (q + 1)) j k) + lfF (rows.getD q []) k) (lfF lf k)) = sN n fun k => min ((sI (rows.length - (q + 1)) S fun j => cel rows (q + (j + 1)) k) + cel rows (q + 0) k) (lfF lf k) := by
        refine sN_congr fun k _ => ?_
        have b1 : (sI (rows.length - (q + 1)) S fun j => cel (rows.drop (q + 1)) j k) = sI (rows.length - (q + 1)) S fun j => cel rows (q + (j + 1)) k := by
          congr 1
          exact funext fun j => by rw [cel_drop]; congr 1; omega
        rw [b1]
        rfl
      rw [a1, a2]
      exact h
    have hsum : cts.sum = ps.getD q 0 := by
      have := g.nm
      rw [sum_lfF l1]
      have h2 : num = ps.getD q 0 - sN n (lfF cts) := this
      omega
    have gD : ∀ j, (D ++ [cts]).getD j [] = if j = q then cts else D.getD j [] := fun j => by
      rw [List.getD_eq_getElem?_getD]
      by_cases e : j = q
      · rw [if_pos e, e, ← w.dl, List.getElem?_append_right (Nat.le_refl _), Nat.sub_self]
        rfl
      · rw [if_neg e, List.getD_eq_getElem?_getD]
        by_cases hj : j < D.length
        · rw [List.getElem?_append_left hj]
        · have wdl : D.length = q := w.dl
          rw [List.getElem?_eq_none (by rw [List.length_append]; simp only [List.length_cons, List.length_nil]; omega), List.getElem?_eq_none (by omega)]
    refine ⟨by rw [List.length_append, w.dl]; rfl, l2.trans w.ll, fun j hj => ?_, fun k hk => ?_, ?_⟩
    · rw [gD]
      by_cases e : j = q
      · rw [if_pos e, e]
        exact ⟨l1, fun k => g.cb k, hsum⟩
      · rw [if_neg e]
        exact w.dr j (by omega)
    · have h1 := g.lf1 k hk
      have h2 : 0 ≤ lfF lf k ∧ lfF lf k = lfF l0 k - sN q fun j => cel D j k := w.lf0 k hk
      refine ⟨h1.1, ?_⟩
      have e2 : (sN (q + 1) fun j => cel (D ++ [cts]) j k) = (sN q fun j => cel D j k) + lfF cts k := by
        show (sN q fun j => cel (D ++ [cts]) j k) + cel (D ++ [cts]) q k = _
        have c1 : cel (D ++ [cts]) q k = lfF cts k := by
          unfold cel
          rw [gD, if_pos rfl]
          rfl
        rw [c1]
        congr 1
        refine sN_congr fun j hj => ?_
        unfold cel
        rw [gD, if_neg (by omega)]
      rw [e2]
      have := h1.2
      show lfF lf' k = _
      have h3 : lfF lf' k = lfF lf k - lfF cts k := h1.2
      omega
    · have fe2 : Feas (rows.length - (q + 1)) n (cel (rows.drop (q + 1))) (plF (ps.drop (q + 1))) (lfF lf') := g.fe
      exact feas_congr fe2 (fun j k => by rw [cel_drop]) fun j => by rw [plF_drop]
end DD
namespace DD
open PySem PySem.Spec PyProof.Rows L2 RZ DM
/-- a draw of a plan -/
structure IsDr (rows : List (List Int)) (ps : List Int) (n : Nat) (D : List (List Int)) : Prop where
  len : D.length = rows.length
  dr : ∀ j, j < rows.length → Dr (rows.getD j []) n (plF ps j) (D.getD j [])
theorem tot_fun {D : List (List Int)} {n k : Nat} (h : k < n) : (totalsOf D n).getD k 0 = sN D.length fun j => cel D j k := by
  rw [tot_colS, List.getD_eq_getElem?_getD, List.getElem?_map, List.getElem?_range h]
  show ((List.range D.length).map fun j => (D.getD j []).getD k 0).sum = _
  rw [sN_range]
  rfl
theorem left0_get {rows : List (List Int)} {n k : Nat} {cs : List (Option Int)} (hc : cs.length = n) (h : k < n) : lfF (left0 rows n cs) k = capl ((totalsOf rows n).getD k 0) (cs.getD k none) := by
  unfold lfF left0
  rw [List.getD_eq_getElem?_getD, List.getElem?_zipWith, getD_of (d := 0) (show k < (totalsOf rows n).length by rw [tot_len]; exact h), getD_of (d := none) (show k < cs.length by omega)]
  rfl
theorem left0_len {rows : List (List Int)} {n : Nat} {cs : List (Option Int)} (hc : cs.length = n) : (left0 rows n cs).length = n := by
  unfold left0
  rw [List.length_zipWith, tot_len]
  omega
theorem sI_full {m : Nat} {f : Nat → Int} : sI m (fun _ => true) f = sN m f := by
  unfold sI
  exact sN_congr fun k _ => if_pos rfl
theorem drawOf_ok {rows : List (List Int)} {ps : List Int} {n : Nat} {cs : List (Option Int)} (hX : ∀ r ∈ rows, ∀ x ∈ r, 0 ≤ x) (hp : ∀ j, 0 ≤ plF ps j) (hc : cs.length = n) (h0 : ∀ c, some c ∈ cs → 0 ≤ c)
    (hov : ∀ d ∈ pSets rows.length, ovB rows ps n cs d = false) : IsDr rows ps n (drawOf rows ps n cs) ∧ ∀ k, k < n → (sN rows.length fun j => cel (drawOf rows ps n cs) j k) ≤ lfF (left0 rows n cs) k := by
  have capnn : ∀ k c, cs.getD k none = some c → 0 ≤ c := fun k c e => by
    rw [List.getD_eq_getElem?_getD] at e
    cases e2 : cs[k]? with
    | none => rw [e2] at e; cases e
    | some o =>
      rw [e2] at e
      have e : o = some c := e
      rw [e] at e2
      exact h0 c (List.mem_of_getElem? e2)
  have tnn : ∀ k, 0 ≤ sN rows.length fun j => cel rows j k := fun k => by
    rw [← sI_full]
    exact sI_nn fun j => cell_nn hX j k
  have hl0 : ∀ k, k < n → 0 ≤ lfF (left0 rows n cs) k := fun k hk => by
    rw [left0_get hc hk, tot_fun hk]
    cases e : cs.getD k none with
    | none => exact tnn k
    | some c => exact capnn k c e
  have hf : Feas rows.length n (cel rows) (plF ps) (lfF (left0 rows n cs)) := fun S => by
    have hS := filt_mem S rows.length
    have h1 : decide (takenOf ps ((List.range rows.length).filter S) > roomS rows n cs ((List.range rows.length).filter S)) = false := hov _ hS
    have h1 := of_decide_eq_false h1
    have e1 : takenOf ps ((List.range rows.length).filter S) = sI rows.length S (plF ps) := filt_sum
    rw [e1, roomS_eq hc h0, sN_range] at h1
    have h2 : sN n (rk rows cs ((List.range rows.length).filter S)) ≤ Rm rows.length n (cel rows) (lfF (left0 rows n cs)) S := sN_le fun k hk => by
      have e2 : colS rows ((List.range rows.length).filter S) k = sI rows.length S fun j => cel rows j k := filt_sum
      unfold rk
      rw [e2, left0_get hc hk, tot_fun hk]
      cases e : cs.getD k none with
      | none =>
        show sI rows.length S (fun j => cel rows j k) ≤ min _ (sN rows.length fun j => cel rows j k)
        have := sI_sub (m := rows.length) (S := S) (T := fun _ => true) (f := fun j => cel rows j k) (fun j => cell_nn hX j k) fun _ _ => rfl
        rw [sI_full] at this
        omega
      | some c =>
        rw [capv_min]
        exact Int.le_refl _
    omega
  have w := wSt_ok hX hp (left0_len hc) hl0 hf rows.length (Nat.le_refl _)
  refine ⟨⟨w.dl, w.dr⟩, fun k hk => ?_⟩
  have h3 := w.lf0 k hk
  show (sN rows.length fun j => cel (wSt rows ps n (left0 rows n cs) rows.length).1 j k) ≤ _
  omega
/-- a draw within the caps of a spoiling fulfils nothing -/
theorem kept_draw {rows ws : List (List Int)} {D : List (List Int)} {n : Nat} {s : List Int} (hD : D.length = rows.length) (h : ∀ k, k < n → (sN rows.length fun j => cel D j k) ≤ lfF (left0 rows n (capsOf ws s n)) k) : keptB (capsOf ws s n) (totalsOf D n) = true :=
  kept_iff.mpr fun i v x e1 e2 => by
    have hin : i < n := by
      have := (List.getElem?_eq_some_iff.mp e1).1
      rw [caps_len] at this
      exact this
    have h1 := h i hin
    rw [left0_get (caps_len _ _ _) hin] at h1
    have e3 : (capsOf ws s n).getD i none = some v := by
      rw [List.getD_eq_getElem?_getD, e1]
      rfl
    have e4 : (totalsOf D n).getD i 0 = x := by
      rw [List.getD_eq_getElem?_getD, e2]
      rfl
    rw [e3] at h1
    rw [tot_fun hin, hD] at e4
    have h1 : (sN rows.length fun j => cel D j i) ≤ v := h1
    omega
theorem sI_swap {m n : Nat} {S : Nat → Bool} {F : Nat → Nat → Int} : sI m S (fun j => sN n (F j)) = sN n fun k => sI m S fun j => F j k := by
  induction m with
  | zero => exact sN_zero.symm
  | succ m ih =>
    show sI m S (fun j => sN n (F j)) + (if S m = true then sN n (F m) else 0) = sN n fun k => (sI m S fun j => F j k) + if S m = true then F m k else 0
    rw [ih, sN_add]
    congr 1
    by_cases h : S m = true
    · rw [if_pos h]
      exact sN_congr fun k _ => (if_pos h).symm
    · rw [if_neg h]
      exact (sN_zero (n := n)).symm.trans (sN_congr fun k _ => (if_neg h).symm)
theorem dr_tot_nn {rows : List (List Int)} {ps : List Int} {n : Nat} {D : List (List Int)} (d : IsDr rows ps n D) : ∀ x ∈ totalsOf D n, 0 ≤ x := fun x hx => by
  obtain ⟨k, hk⟩ := List.mem_iff_getElem?.mp hx
  have hkn : k < n := by
    have := (List.getElem?_eq_some_iff.mp hk).1
    rw [tot_len] at this
    exact this
  have e : (totalsOf D n).getD k 0 = x := by
    rw [List.getD_eq_getElem?_getD, hk]
    rfl
  rw [← e, tot_fun hkn]
  have := sN_le (n := D.length) (f := fun _ => 0) (g := fun j => cel D j k) fun j hj => ((d.dr j (by rw [← d.len]; exact hj)).bd k).1
  rw [sN_zero] at this
  exact this
/-- a table excludes every draw -/
theorem tab_draw {rows ws : List (List Int)} {ps : List Int} {n : Nat} {D : List (List Int)} (hX : ∀ r ∈ rows, ∀ x ∈ r, 0 ≤ x) (hg : ∀ r ∈ ws, r.length = n) (ht : tabB rows ws ps n = true) (d : IsDr rows ps n D) : fulOf ws (totalsOf D n) ≠ none := fun hf => by
  obtain ⟨s, hs, hk⟩ := (ful_kept hg (tot_len _ _) (dr_tot_nn d)).mp hf
  have hk := kept_iff.mp hk
  obtain ⟨S, hS, ho⟩ := List.any_eq_true.mp (List.all_eq_true.mp ht s hs)
  have ho : decide (takenOf ps S > roomS rows n (capsOf ws s n) S) = true := ho
  have ho := of_decide_eq_true ho
  rw [roomS_eq (caps_len _ _ _) (caps_nn hs), sN_range] at ho
  have hSm := (ps_bd hS).2.2
  have e1 : takenOf ps S = sI rows.length (fun j => S.contains j) (plF ps) := pset_sum hS
  have e2 : sI rows.length (fun j => S.contains j) (plF ps) = sI rows.length (fun j => S.contains j) fun j => sN n (lfF (D.getD j [])) := by
    unfold sI
    refine sN_congr fun j hj => ?_
    have := d.dr j hj
    rw [← this.sum, sum_lfF this.len]
  rw [e1, e2, sI_swap] at ho
  have h1 : (sN n fun k => sI rows.length (fun j => S.contains j) fun j => lfF (D.getD j []) k) ≤ sN n (rk rows (capsOf ws s n) S) := sN_le fun k hkn => by
    have e3 : colS rows S k = sI rows.length (fun j => S.contains j) fun j => cel rows j k := pset_sum hS
    unfold rk
    rw [e3]
    have h2 : (sI rows.length (fun j => S.contains j) fun j => lfF (D.getD j []) k) ≤ sI rows.length (fun j => S.contains j) fun j => cel rows j k := sN_le fun j hj => by
      have := ((d.dr j hj).bd k).2 hkn
      have h3 : lfF (D.getD j []) k ≤ cel rows j k := this
      show (if _ then _ else _) ≤ if _ then _ else _
      split <;> omega
    cases e : (capsOf ws s n).getD k none with
    | none => exact h2
    | some c =>
      rw [capv_min]
      have h4 : (sI rows.length (fun j => S.contains j) fun j => lfF (D.getD j []) k) ≤ sN rows.length fun j => cel D j k := sN_le fun j hj => by
        have := ((d.dr j hj).bd k).1
        have h3 : 0 ≤ cel D j k := this
        have e5 : cel D j k = lfF (D.getD j []) k := rfl
        show (if S.contains j = true then lfF (D.getD j []) k else 0) ≤ cel D j k
        split <;> omega
      have e6 : (capsOf ws s n)[k]? = some (some c) := by
        rw [getD_of (d := none) (show k < (capsOf ws s n).length by rw [caps_len]; exact hkn), e]
      have h5 := hk k c _ e6 (getD_of (d := 0) (show k < (totalsOf D n).length by rw [tot_len]; exact hkn))
      rw [tot_fun hkn, d.len] at h5
      omega
  omega
/-- without a table the certificate shows a draw that fulfils nothing -/
theorem free_draw {rows ws : List (List Int)} {ps : List Int} {n i : Nat} {sp : List Int} (hX : ∀ r ∈ rows, ∀ x ∈ r, 0 ≤ x) (hp : ∀ j, 0 ≤ plF ps j) (hg : ∀ r ∈ ws, r.length = n) (h : FreeAt rows ws ps n i sp) :
    IsDr rows ps n (drawOf rows ps n (capsOf ws sp n)) ∧ fulOf ws (totalsOf (drawOf rows ps n (capsOf ws sp n)) n) = none := by
  have hs := List.mem_of_getElem? h.1
  obtain ⟨d, hk⟩ := drawOf_ok hX hp (caps_len ws sp n) (caps_nn hs) h.2.1
  exact ⟨d, (ful_kept hg (tot_len _ _) (dr_tot_nn d)).mpr ⟨sp, hs, kept_draw d.len hk⟩⟩
theorem find_first {α : Type} {p : α → Bool} : ∀ {l : List α}, l.all p = false → ∃ (i : Nat) (x : α), l[i]? = some x ∧ p x = false ∧ ∀ y ∈ l.take i, p y = true
  | [], h => by simp at h
  | x :: xs, h => by
    by_cases e : p x = true
    · have h2 : xs.all p = false := by
        rw [List.all_cons, e] at h
        simpa using h
      obtain ⟨i, y, h3, h4, h5⟩ := find_first h2
      exact ⟨i + 1, y, h3, h4, fun z hz => by
        rcases List.mem_cons.mp (show z ∈ x :: xs.take i from hz) with rfl | hz
        · exact e
        · exact h5 z hz⟩
    · exact ⟨0, x, rfl, Bool.eq_false_iff.mpr e, fun y hy => by simp at hy⟩
theorem tab_free {rows ws : List (List Int)} {ps : List Int} {n : Nat} (h : tabB rows ws ps n = false) : ∃ i sp, FreeAt rows ws ps n i sp := by
  obtain ⟨i, sp, h1, h2, h3⟩ := find_first h
  exact ⟨i, sp, h1, fun d hd => Bool.eq_false_iff.mpr fun e => Bool.eq_false_iff.mp h2 (List.any_eq_true.mpr ⟨d, hd, e⟩), h3⟩
/-- a plan is sure exactly if each of its draws fulfils the wish -/
theorem tab_iff {rows ws : List (List Int)} {ps : List Int} {n : Nat} (hX : ∀ r ∈ rows, ∀ x ∈ r, 0 ≤ x) (hp : ∀ j, 0 ≤ plF ps j) (hg : ∀ r ∈ ws, r.length = n) :
    tabB rows ws ps n = true ↔ ∀ D, IsDr rows ps n D → fulOf ws (totalsOf D n) ≠ none := by
  refine ⟨fun h D d => tab_draw hX hg h d, fun h => ?_⟩
  cases e : tabB rows ws ps n with
  | true => rfl
  | false =>
    obtain ⟨i, sp, f⟩ := tab_free e
    obtain ⟨d, hf⟩ := free_draw hX hp hg f
    exact absurd hf (h _ d)
end DD
namespace DD
open PySem PySem.Spec PyProof.Rows L2 RZ DM
theorem scKnown : FnScope ["_law_stock_here", "_law_collections", "_law_plan_here", "_law_some"] ["_law_stock_here", "_law_collections", "_law_plan_here"] (defScope sKnown) := ⟨rfl, rfl, rfl, by decide +kernel, rfl, by decide +kernel, by decide +kernel⟩
/-- for each spoiling the list of the sets that give too much -/
structure KnAt (H : Hp) (rows ws : List (List Int)) (ps : List Int) (n : Nat) (ks : List Addr) (i : Nat) : Prop where
  len : ks.length = i
  at_ : ∀ (j : Nat) (a : Addr) (s : List Int), ks[j]? = some a → (spOf ws)[j]? = some s → ∃ as : List Addr, H a = some (.lst (as.map V.ref)) ∧ SetsAt H as (exOf rows (capsOf ws s n) ps) rows.length
theorem SetsAt.tk {H H' : Hp} {as : List Addr} {dss : List (List Nat)} {n : Nat} (a : SetsAt H as dss n) (k : TK H H') : SetsAt H' as dss n :=
  ⟨a.len, fun j x ds e1 e2 => k _ _ (a.at_ j x ds e1 e2), a.bd⟩
section
variable {P : Program} {w : World} {K : PySem.W.Frag} {mg : Str → Option Value} {base : Heap}
def spKnown : Sp := fun vs H Q _ => ∃ (t b p : Addr) (ls wl : List Addr) (rows ws : List (List Int)) (ps : List Int) (n : Nat), vs = [.ref t, .ref b, .ref p] ∧ Pb H t b p ls wl rows ws ps n ∧
  ∀ A ks H', Same H H' → H' A = some (.lst (ks.map V.ref)) → KnAt H' rows ws ps n ks (spOf ws).length → Q (.ref A) H'
theorem ok_known {f fN fU fTu fA fAu fO fFu fCo fSp fCa fIr fTk fI fR fFc fLo fSo fOv fDw fSv fCh fUd fEt fAo fAd fDk fD fS fTt fW fPl fLu fLs fLc fM fE fX fNu fId fKn fHo fAy fOo fRp fAt fVa : Addr} {fd dN dU dTu dA dAu dO dFu dCo dSp dCa dIr dTk dI dR dFc dLo dSo dOv dDw dSv dCh dUd dEt dAo dAd dDk dD dS dTt dW dPl dLu dLs dLc dM dE dX dNu dId dKn dHo dAy dOo dRp dAt dVa : FuncData} {k : Nat} (F : Fun K "_law_known" "_law_known" sKnown f fd) (T : Tx K mg fN fU fTu fA fAu fO fFu fCo fSp fCa fIr fTk fI fR fFc fLo fSo fOv fDw fSv fCh fUd fEt fAo fAd fDk fD fS fTt fW fPl fLu fLs fLc fM fE fX fNu fId fKn fHo fAy fOo fRp fAt fVa dN dU dTu dA dAu dO dFu dCo dSp dCa dIr dTk dI dR dFc dLo dSo dOv dDw dSv dCh dUd dEt dAo dAd dDk dD dS dTt dW dPl dLu dLs dLc dM dE dX dNu dId dKn dHo dAy dOo dRp dAt dVa) :
    FnOk P w K mg base CX0 (k + 3) f fd ["_law_stock_here", "_law_collections", "_law_plan_here"] spKnown := by
  have GX : FnOk P w K mg base CX0 (k + 2) fX dX ["_law_stock_here", "_law_caps_here", "_law_plan_here"] spExc := ok_exc T.X T
  have GLs : FnOk P w K mg base CX0 (k + 1) fLs dLs ["_law_collections"] spLSp := ok_lsp T.Ls T
  have GLc : FnOk P w K mg base CX0 (k + 1) fLc dLc ["_law_collections", "_law_spoiling"] spLCaps := ok_lcaps T.Lc T
  refine F.ok scKnown (fun vs H Q E h => ?_) (fun cdv A outer s H vs Q E hr h => ?_)
  · obtain ⟨t, b, p, ls, wl, rows, ws, ps, n, rfl, _⟩ := h
    rfl
  · obtain ⟨t, b, p, ls, wl, rows, ws, ps, n, rfl, ⟨st, hr1, hr4, hrn, wi, hp, hpl⟩, q⟩ := h
    refine ⟨_, (pss_one (ps_ret (pe_lc (own := [("_law_some", 3)]) (g := gName 3) rfl scKnown.nd (pi_list (pe_call GLs (hr.mono (by omega)) (by rfl) T.gLs T.Ls.kp T.bLs .nil pass0 (pa_cons (pv 1) pa_nil))) (blkOk_by (own := [("_law_some", 3)]) (N := ["_law_stock_here", "_law_collections", "_law_plan_here", "_law_some"]) (sc := defScope sKnown) (by decide +kernel)) (fun _ _ _ _ _ => (pg_name (i := 3) scKnown.nd rfl (Or.inl rfl))) (fun _ _ _ _ _ => pts_nil) (fun _ _ _ _ _ => (pe_call GX (hr.mono (by omega)) (by rfl) T.gX T.X.kp T.bX .nil pass0 (pa_cons (pv 0) (pa_cons (pe_call GLc (hr.mono (by omega)) (by rfl) T.gLc T.Lc.kp T.bLc .nil pass0 (pa_cons (pv 1) (pa_cons (pv 3) pa_nil))) (pa_cons (pv 2) pa_nil)))))))), ?_⟩
    have hg := wi.g
    have hn4 := wi.n4
    have hw4 : ∀ r ∈ ws, r.length ≤ 4 := fun r hr => by rw [(hg r hr).len]; exact hn4
    have h256 := sp_len hw4 wi.l4
    refine ⟨_, rfl, b, wl, ws, rfl, wi.st, wi.l4, hw4, fun L as H1 s1 hL hal hR => ?_⟩
    refine ⟨L, rfl, ⟨_, SqL.of hL⟩, fun D nD => ?_⟩
    refine lc_it (walk_list (xs := as.map V.ref)) (fun i H' => ∃ ks : List Addr, H' D = some (.lst (ks.map V.ref)) ∧ Same H1 H' ∧ KnAt H' rows ws ps n ks i ∧ ∀ a ∈ ks, a ≠ D)
      ⟨[], upd_same, same_new nD, ⟨rfl, fun j a s e => by simp at e⟩, fun a h => by cases h⟩ (fun i H' _ h => by obtain ⟨_, _, s2, _⟩ := h; exact SqL.of (s2 _ _ hL)) (fun i x H' H2 hi h y => ?_) (fun H' h => ?_)
    · obtain ⟨ks, hD, s2, kn, hne⟩ := h
      obtain ⟨rfl, hx⟩ := y
      obtain ⟨a1, ha1, rfl⟩ := get_map hx
      rw [List.length_map] at hi
      have hil : i < (spOf ws).length := by omega
      have hsi : (spOf ws)[i]? = some (spOf ws)[i] := List.getElem?_eq_getElem hil
      have hmem := List.getElem_mem hil
      have hai := s2 _ _ (hR i a1 _ ha1 hsi)
      generalize (spOf ws)[i] = sp at hsi hmem hai
      have s02 := s1.trans s2
      refine ⟨rfl, _, rfl, _, rfl, _, rfl, b, a1, wl, ws, sp, n, rfl, wi.same s02, hmem, hai, fun c H3 s3 hc => ?_⟩
      have s03 := s02.trans s3
      refine ⟨_, rfl, t, c, p, ls, rows, capsOf ws sp n, ps, rfl, st.same s03, hr1, hr4, fun r hr => by rw [caps_len]; exact hrn r hr, hc, by rw [caps_len]; exact hn4, caps_nn hmem, s03 _ _ hp, hpl, fun X xs H4 s4 nX hX sx => ?_⟩
      have hD4 := s4 _ _ (s3 _ _ hD)
      have hXD : X ≠ D := fun z => by rw [z, s3 _ _ hD] at nX; cases nX
      have tkD : TK H4 (upd H4 D (.lst (ks.map V.ref ++ [V.ref X]))) := TK.lst hD4
      refine ⟨_, hD4, ?_, ks ++ [X], ?_, fun b' o e => ?_, ?_, fun a ha => ?_⟩
      · rw [List.length_map, kn.len]
        exact len_lt (by omega)
      · rw [upd_same, List.map_append]
        rfl
      · rw [upd_ne (ne_of_none e nD)]
        exact s4 _ _ (s3 _ _ (s2 _ _ e))
      · refine ⟨by rw [List.length_append, kn.len]; rfl, fun j a s x1 x2 => ?_⟩
        by_cases hj : j < ks.length
        · rw [List.getElem?_append_left hj] at x1
          obtain ⟨as2, h1, h2⟩ := kn.at_ j a s x1 x2
          exact ⟨as2, by rw [upd_ne (hne a (List.mem_of_getElem? x1))]; exact s4 _ _ (s3 _ _ h1), (h2.same (s3.trans s4)).tk tkD⟩
        · have hj2 : j = ks.length := by
            have := (List.getElem?_eq_some_iff.mp x1).1
            rw [List.length_append] at this
            simp at this
            omega
          rw [hj2, List.getElem?_append_right (Nat.le_refl _), Nat.sub_self] at x1
          rw [hj2, kn.len, hsi] at x2
          obtain rfl : X = a := Option.some.inj x1
          obtain rfl : sp = s := Option.some.inj x2
          exact ⟨xs, by rw [upd_ne hXD]; exact hX, sx.tk tkD⟩
      · rcases List.mem_append.mp ha with h | h
        · exact hne a h
        · rw [List.mem_singleton.mp h]
          exact hXD
    · obtain ⟨ks, hD, s2, kn, _⟩ := h
      rw [List.length_map, hal] at kn
      exact q D ks _ (s1.trans s2) hD kn
end
end DD
namespace DD
open PySem PySem.Spec PyProof.Rows L2 RZ DM
theorem sets_ps {m : Nat} {S : List Nat} (h : S ∈ setsOf m) : S ∈ pSets m := by
  obtain ⟨i, _, rfl⟩ := List.mem_map.mp h
  exact filt_mem _ m
theorem ps_sets1 : ((pSets 1).all fun d => d.isEmpty || (setsOf 1).contains d) = true := by decide +kernel
theorem ps_sets2 : ((pSets 2).all fun d => d.isEmpty || (setsOf 2).contains d) = true := by decide +kernel
theorem ps_sets3 : ((pSets 3).all fun d => d.isEmpty || (setsOf 3).contains d) = true := by decide +kernel
theorem ps_sets4 : ((pSets 4).all fun d => d.isEmpty || (setsOf 4).contains d) = true := by decide +kernel
theorem ps_sets {m : Nat} (h1 : 1 ≤ m) (h4 : m ≤ 4) {d : List Nat} (h : d ∈ pSets m) (hne : d ≠ []) : d ∈ setsOf m := by
  have key : ((pSets m).all fun d => d.isEmpty || (setsOf m).contains d) = true := by
    match m, h1, h4 with
    | 1, _, _ => exact ps_sets1
    | 2, _, _ => exact ps_sets2
    | 3, _, _ => exact ps_sets3
    | 4, _, _ => exact ps_sets4
  have := List.all_eq_true.mp key d h
  rcases Bool.or_eq_true_iff.mp this with e | e
  · exact absurd (List.isEmpty_iff.mp e) hne
  · exact List.contains_iff_mem.mp e
theorem big_ov {rows : List (List Int)} {cs : List (Option Int)} {ps : List Int} {n : Nat} {d : List Nat} (hc : cs.length = n) (hne : d ≠ []) : big rows cs ps d = ovB rows ps n cs d := by
  unfold big ovB takenOf roomL totL
  rw [if_neg hne, hc]
/-- the law's look at the sets of drawers is the program's -/
theorem sure_tab {rows ws : List (List Int)} {ps : List Int} {n : Nat} (h1 : 1 ≤ rows.length) (h4 : rows.length ≤ 4) : sureB rows ws ps n = tabB rows ws ps n := by
  unfold sureB tabB
  have gen : ∀ l : List (List Int), (∀ s ∈ l, s ∈ spOf ws) → (l.all fun s => !(exOf rows (capsOf ws s n) ps).isEmpty) = l.all fun sp => (pSets rows.length).any (ovB rows ps n (capsOf ws sp n)) := fun l => by
    induction l with
    | nil => intro _; rfl
    | cons s l ih =>
      intro hl
      rw [List.all_cons, List.all_cons, ih fun x hx => hl x (List.mem_cons_of_mem _ hx)]
      congr 1
      have hs := hl s List.mem_cons_self
      have h0 := caps_nn (n := n) hs
      have hc := caps_len ws s n
      cases e : (pSets rows.length).any (ovB rows ps n (capsOf ws s n)) with
      | true =>
        obtain ⟨d, hd, ho⟩ := List.any_eq_true.mp e
        have hne : d ≠ [] := fun z => by
          rw [z] at ho
          have ho : decide ((0 : Int) > 0) = true := ho
          cases ho
        have hm : d ∈ exOf rows (capsOf ws s n) ps := List.mem_filter.mpr ⟨ps_sets h1 h4 hd hne, by rw [big_ov hc hne]; exact ho⟩
        cases he : exOf rows (capsOf ws s n) ps with
        | nil => rw [he] at hm; cases hm
        | cons a b => rfl
      | false =>
        have he : exOf rows (capsOf ws s n) ps = [] := List.eq_nil_iff_forall_not_mem.mpr fun S hS => by
          obtain ⟨h5, h6⟩ := List.mem_filter.mp hS
          by_cases z : S = []
          · rw [z] at h6
            have h6 : decide ((([] : List Nat).map fun j => ps.getD j 0).sum > roomL rows (capsOf ws s n) []) = true := h6
            rw [room_nil h0] at h6
            cases h6
          · rw [big_ov hc z] at h6
            exact Bool.eq_false_iff.mp e (List.any_eq_true.mpr ⟨S, sets_ps h5, h6⟩)
        rw [he]
        rfl
  exact gen _ fun s h => h
theorem sm_bl (b : Bool) : Sm 13 0 (.bool b) := by
  cases b
  · exact ⟨rfl, rfl, rfl, by decide, Nat.le_refl _⟩
  · exact ⟨rfl, rfl, rfl, by decide, Nat.le_refl _⟩
end DD
namespace DD
open PySem PySem.Spec PyProof.Rows L2 RZ

/-! ### data of any value of a law: also dicts, {} and {"a": 0} -/
mutual
inductive Dq (H : Hp) : V → PyData → Prop
  | non : Dq H .non .none
  | bl (b : Bool) : Dq H (.bl b) (.bool b)
  | int (i : Int) : Dq H (.int i) (.int i)
  | str (x : Str) : Dq H (.str x) (.str x)
  | lst {a : Addr} {xs : List V} {ds : List PyData} : H a = some (.lst xs) → DqAll H xs ds → Dq H (.ref a) (.list ds)
  | tup {a : Addr} {xs : List V} {ds : List PyData} : H a = some (.tup xs) → DqAll H xs ds → Dq H (.ref a) (.tuple ds)
  | d0 {a : Addr} : H a = some (.dK []) → Dq H (.ref a) (.dict [])
  | d1 {a : Addr} : H a = some (.dK [(.inr "a", .int 0)]) → Dq H (.ref a) (.dict [(.str "a", .int 0)])
inductive DqAll (H : Hp) : List V → List PyData → Prop
  | nil : DqAll H [] []
  | cons {v : V} {d : PyData} {vs : List V} {ds : List PyData} : Dq H v d → DqAll H vs ds → DqAll H (v :: vs) (d :: ds)
end
mutual
theorem Dq.same {H H' : Hp} (k : Same H H') : ∀ (d : PyData) (v : V), Dq H v d → Dq H' v d
  | .none, _, h => by cases h; exact .non
  | .bool b, _, h => by cases h; exact .bl b
  | .int i, _, h => by cases h; exact .int i
  | .str x, _, h => by cases h; exact .str x
  | .list ds, _, h => by
    cases h with
    | lst a b => exact .lst (k _ _ a) (DqAll.same k ds _ b)
  | .tuple ds, _, h => by
    cases h with
    | tup a b => exact .tup (k _ _ a) (DqAll.same k ds _ b)
  | .dict kvs, _, h => by
    cases h with
    | d0 a => exact .d0 (k _ _ a)
    | d1 a => exact .d1 (k _ _ a)
theorem DqAll.same {H H' : Hp} (k : Same H H') : ∀ (ds : List PyData) (vs : List V), DqAll H vs ds → DqAll H' vs ds
  | [], _, h => by cases h; exact .nil
  | d :: ds, _, h => by
    cases h with
    | cons a b => exact .cons (Dq.same k d _ a) (DqAll.same k ds _ b)
end
theorem DqAll.len {H : Hp} : ∀ {vs : List V} {ds : List PyData}, DqAll H vs ds → vs.length = ds.length
  | _, _, .nil => rfl
  | _, _, .cons _ b => congrArg (· + 1) b.len
theorem DqAll.app {H : Hp} : ∀ {vs : List V} {ds : List PyData} {ws : List V} {es : List PyData}, DqAll H vs ds → DqAll H ws es → DqAll H (vs ++ ws) (ds ++ es)
  | _, _, _, _, .nil, b => b
  | _, _, _, _, .cons a c, b => .cons a (c.app b)
theorem DqAll.get {H : Hp} : ∀ {vs : List V} {ds : List PyData}, DqAll H vs ds → ∀ {i : Nat} {v : V}, vs[i]? = some v → ∃ d, ds[i]? = some d ∧ Dq H v d
  | _, _, .nil, _, _, e => by simp at e
  | _, _, .cons a _, 0, _, e => by
    obtain rfl := Option.some.inj e
    exact ⟨_, rfl, a⟩
  | _, _, .cons _ b, i + 1, _, e => b.get (i := i) e
theorem DqAll.take {H : Hp} : ∀ {vs : List V} {ds : List PyData} (n : Nat), DqAll H vs ds → DqAll H (vs.take n) (ds.take n)
  | _, _, 0, _ => .nil
  | _, _, n + 1, .nil => .nil
  | _, _, n + 1, .cons a b => .cons a (b.take n)
theorem DqAll.drop {H : Hp} : ∀ {vs : List V} {ds : List PyData} (n : Nat), DqAll H vs ds → DqAll H (vs.drop n) (ds.drop n)
  | _, _, 0, h => h
  | _, _, n + 1, .nil => .nil
  | _, _, n + 1, .cons _ b => b.drop n
theorem dq_ints {H : Hp} : ∀ r : List Int, DqAll H (r.map V.int) (r.map PyData.int)
  | [] => .nil
  | x :: r => .cons (.int x) (dq_ints r)

/-! noL: no list in it -/
mutual
def noL : PyData → Bool
  | .list _ => false
  | .tuple ds => noLs ds
  | _ => true
def noLs : List PyData → Bool
  | [] => true
  | d :: ds => noL d && noLs ds
end
theorem reads_d0 {X : Cx} {pins : List (Addr × Obj)} {σ : L2.St} {H : Hp} {s : Shared} (I : Inv X pins σ H s) {a : Addr} (h : H a = some (.dK [])) : ∃ as, Reads s.heap (.ref a) (.dict []) as ∧ sysModules ∉ as := by
  have q : ObjOk X.prog X.w H s.heap a (.dK []) := I.hok a _ h
  unfold ObjOk at q
  obtain ⟨_, hs, vs, kv, o, es, ep, ho, hx, hd, hk, hp, _⟩ := q
  cases kv
  obtain ⟨l⟩ := es
  cases hp
  refine ⟨_, .dict ho hx.1 hd (.nil) (.nil), fun z => ?_⟩
  have : sysModules = a := by simpa using z
  rw [this] at hs
  simp at hs
theorem reads_d1 {X : Cx} {pins : List (Addr × Obj)} {σ : L2.St} {H : Hp} {s : Shared} (I : Inv X pins σ H s) {a : Addr} (h : H a = some (.dK [(.inr "a", .int 0)])) : ∃ as, Reads s.heap (.ref a) (.dict [(.str "a", .int 0)]) as ∧ sysModules ∉ as := by
  have q : ObjOk X.prog X.w H s.heap a (.dK [(.inr "a", .int 0)]) := I.hok a _ h
  unfold ObjOk at q
  obtain ⟨_, hs, vs, kv, o, es, ep, ho, hx, hd, hk, hp, _⟩ := q
  cases kv with
  | cons r n =>
    cases n
    obtain ⟨l⟩ := es
    cases hp with
    | cons hi hv hr =>
      cases hr
      obtain ⟨rk, tk, rv⟩ := r
      rename_i kv _ e
      rw [← rk] at hi
      rw [rv] at hv
      obtain ⟨tk2, hk2⟩ : ∃ t, e.key = .str "a" t := by
        have z : keyIs (.inr "a") e.key = true := hi
        cases q : e.key <;> rw [q] at z <;> first | (exact absurd z Bool.false_ne_true) | (obtain rfl : "a" = _ := of_decide_eq_true z; exact ⟨_, rfl⟩) | (have z2 := eq_of_beq z; subst z2; exact ⟨_, rfl⟩)
      refine ⟨_, .dict ho hx.1 hd (.cons (show Reads s.heap e.key (.str "a") _ by rw [hk2]; exact .str _ _) .nil) (.cons (show Reads s.heap e.val (.int 0) _ by rw [hv]; exact .int _ _) .nil), fun z => ?_⟩
      have : sysModules = a := by simpa using z
      rw [this] at hs
      simp at hs
mutual
theorem Dq.reads {X : Cx} {pins : List (Addr × Obj)} {σ : L2.St} {H : Hp} {s : Shared} (I : Inv X pins σ H s) : ∀ (d : PyData) (v : V) (u : Value), Dq H v d → RelV v u → ∃ as, Reads s.heap u d as ∧ (noL d = true → sysModules ∉ as)
  | .none, _, u, h, r => by
    cases h
    obtain rfl : u = .none := r
    exact ⟨_, .none, fun _ => by simp⟩
  | .bool b, _, u, h, r => by
    cases h
    obtain rfl : u = .bool b := r
    exact ⟨_, .bool b, fun _ => by simp⟩
  | .int i, _, u, h, r => by
    cases h
    obtain ⟨t, rfl⟩ := r
    exact ⟨_, .int i t, fun _ => by simp⟩
  | .str x, _, u, h, r => by
    cases h
    obtain ⟨t, rfl⟩ := r
    exact ⟨_, .str x t, fun _ => by simp⟩
  | .list ds, _, u, h, r => by
    cases h with
    | lst a b =>
      cases r
      obtain ⟨its, rv, ⟨o, n, h1, h2, _, h3⟩, _⟩ := I.list (SqL.of (K := X.K) a)
      obtain ⟨as, ra, _⟩ := DqAll.reads I ds _ _ b rv
      exact ⟨_, .list (vs := its.toArray) h1 h2 h3 ra, fun z => by cases z⟩
  | .tuple ds, _, u, h, r => by
    cases h with
    | tup a b =>
      cases r
      obtain ⟨its, rv, ⟨o, ho, hc, n, hd⟩, _⟩ := I.tuple (SqT.of (K := X.K) a)
      obtain ⟨as, ra, hn⟩ := DqAll.reads I ds _ _ b rv
      exact ⟨_, .tuple (vs := its.toArray) ho hc hd ra, fun z => hn z⟩
  | .dict kvs, _, u, h, r => by
    cases h with
    | d0 a =>
      cases r
      obtain ⟨as, q, n⟩ := reads_d0 I a
      exact ⟨as, q, fun _ => n⟩
    | d1 a =>
      cases r
      obtain ⟨as, q, n⟩ := reads_d1 I a
      exact ⟨as, q, fun _ => n⟩
theorem DqAll.reads {X : Cx} {pins : List (Addr × Obj)} {σ : L2.St} {H : Hp} {s : Shared} (I : Inv X pins σ H s) : ∀ (ds : List PyData) (vs : List V) (us : List Value), DqAll H vs ds → Vals vs us → ∃ as, ReadsAll s.heap us ds as ∧ (noLs ds = true → sysModules ∉ as)
  | [], _, _, h, r => by
    cases h
    cases r
    exact ⟨_, .nil, fun _ => by simp⟩
  | d :: ds, _, _, h, r => by
    cases h with
    | cons a b =>
      cases r with
      | cons r1 r2 =>
        obtain ⟨as, q1, n1⟩ := Dq.reads I d _ _ a r1
        obtain ⟨bs, q2, n2⟩ := DqAll.reads I ds _ _ b r2
        refine ⟨_, .cons q1 q2, fun z => ?_⟩
        have z' : (noL d && noLs ds) = true := z
        rw [Bool.and_eq_true] at z'
        intro m
        rcases List.mem_append.mp m with m | m
        · exact n1 z'.1 m
        · exact n2 z'.2 m
end
end DD
namespace DD
open PySem PySem.Spec PyProof.Rows L2 RZ

/-! ### repr of any such value -/
structure Gd (d : PyData) : Prop where
  show_ : d.showable = true
  dp : d.depth ≤ 64
  sz : d.shown.length ≤ sizeLine
  nl : d.hasDict = true → noL d = true
theorem call_reprQ {X : Cx} (hg : X.A.guards = some []) (hu : X.A.units + 66 < cLine) : CallR X (.builtin "repr") (fun xs H Q =>
    ∃ v d, xs = [v] ∧ Dq H v d ∧ Gd d ∧ Q (.str d.shown) H) := by
  intro pins s σ H xs us Q I r h
  obtain ⟨v, d, rfl, hd, g, q⟩ := h
  obtain ⟨u, rfl, ru⟩ := vals1 r
  obtain ⟨as, rd, nm⟩ := Dq.reads I d _ _ hd ru
  have hdp := g.dp
  have big : ∀ (a : Addr), u = .ref a → wpAny (model X.prog X.w) X.A (call (.builtin "repr") [u]) (fun u s1 => ∃ x H1, Inv X pins σ H1 s1 ∧ RelV x u ∧ Q x H1) X.xe s := fun a e => by
    subst e
    exact repr_of_reads' (Q := fun u s1 => ∃ x H1, Inv X pins σ H1 s1 ∧ RelV x u ∧ Q x H1) rd g.show_ (fun z => nm (g.nl z)) hg (by omega) (fun _ _ e => e)
      (fun h' u tk hk => ⟨.str d.shown, H, I.kept hk, ⟨_, rfl⟩, q⟩) g.sz
  cases hd with
  | non =>
    obtain rfl : u = .none := ru
    exact P.repr_of_none ⟨.str PyData.none.shown, H, I.tok _, ⟨_, rfl⟩, q⟩
  | bl b =>
    obtain rfl : u = .bool b := ru
    exact P.repr_of_bool ⟨.str (PyData.bool b).shown, H, I.tok _, ⟨_, rfl⟩, q⟩
  | int i =>
    obtain ⟨t, rfl⟩ := ru
    exact P.repr_of_int (of_decide_eq_true g.show_) ⟨.str (PyData.int i).shown, H, I.tok _, ⟨_, rfl⟩, q⟩
  | str x =>
    obtain ⟨t, rfl⟩ := ru
    exact P.repr_of_str ⟨.str (PyData.str x).shown, H, I.tok _, ⟨_, rfl⟩, q⟩ g.sz
  | lst _ _ => exact big _ ru
  | tup _ _ => exact big _ ru
  | d0 _ => exact big _ ru
  | d1 _ => exact big _ ru

/-! ### its kind -/
def isTup : PyData → Bool
  | .tuple _ => true
  | _ => false
def isI : PyData → Bool
  | .int _ => true
  | .bool _ => true
  | _ => false
def isB : PyData → Bool
  | .bool _ => true
  | _ => false
theorem dq_ty {K : PySem.W.Frag} {H : Hp} {v : V} {d : PyData} (h : Dq H v d) : ∃ T : String, TyX K H v (.type T) ∧ PySem.W.kitOne K (.type T) (.type "tuple") = some (isTup d) ∧ PySem.W.kitOne K (.type T) (.type "int") = some (isI d) ∧ PySem.W.kitOne K (.type T) (.type "bool") = some (isB d) := by
  cases h with
  | non => exact ⟨_, .base .non, kit_ty (by decide +kernel), kit_ty (by decide +kernel), kit_ty (by decide +kernel)⟩
  | bl b => exact ⟨_, .base (.bl b), kit_ty (a := "bool") (r := false) (by decide +kernel), kit_ty (a := "bool") (r := true) (by decide +kernel), kit_ty (a := "bool") (r := true) (by decide +kernel)⟩
  | int i => exact ⟨_, .base (.int i), kit_ty (a := "int") (r := false) (by decide +kernel), kit_ty (a := "int") (r := true) (by decide +kernel), kit_ty (a := "int") (r := false) (by decide +kernel)⟩
  | str x => exact ⟨_, .base (.str x), kit_ty (a := "str") (r := false) (by decide +kernel), kit_ty (a := "str") (r := false) (by decide +kernel), kit_ty (a := "str") (r := false) (by decide +kernel)⟩
  | lst a _ => exact ⟨_, .base (.lst a), kit_ty (a := "list") (r := false) (by decide +kernel), kit_ty (a := "list") (r := false) (by decide +kernel), kit_ty (a := "list") (r := false) (by decide +kernel)⟩
  | tup a _ => exact ⟨_, .base (.tup a), kit_ty (a := "tuple") (r := true) (by decide +kernel), kit_ty (a := "tuple") (r := false) (by decide +kernel), kit_ty (a := "tuple") (r := false) (by decide +kernel)⟩
  | d0 a => exact ⟨_, .base (.dK a), kit_ty (a := "dict") (r := false) (by decide +kernel), kit_ty (a := "dict") (r := false) (by decide +kernel), kit_ty (a := "dict") (r := false) (by decide +kernel)⟩
  | d1 a => exact ⟨_, .base (.dK a), kit_ty (a := "dict") (r := false) (by decide +kernel), kit_ty (a := "dict") (r := false) (by decide +kernel), kit_ty (a := "dict") (r := false) (by decide +kernel)⟩
/-- isinstance(v, tuple), isinstance(v, int), isinstance(v, bool) -/
theorem rIsi_tup {K : PySem.W.Frag} {H : Hp} {v : V} {d : PyData} (h : Dq H v d) {Q : VK} (q : Q (.bl (isTup d)) H) : rIsi K [v, .ty "tuple"] H Q := by
  obtain ⟨T, t, k, _, _⟩ := dq_ty (K := K) h
  exact ⟨_, _, _, _, _, rfl, .ty _, t, k, q⟩
theorem rIsi_int {K : PySem.W.Frag} {H : Hp} {v : V} {d : PyData} (h : Dq H v d) {Q : VK} (q : Q (.bl (isI d)) H) : rIsi K [v, .ty "int"] H Q := by
  obtain ⟨T, t, _, k, _⟩ := dq_ty (K := K) h
  exact ⟨_, _, _, _, _, rfl, .ty _, t, k, q⟩
theorem rIsi_bool {K : PySem.W.Frag} {H : Hp} {v : V} {d : PyData} (h : Dq H v d) {Q : VK} (q : Q (.bl (isB d)) H) : rIsi K [v, .ty "bool"] H Q := by
  obtain ⟨T, t, _, _, k⟩ := dq_ty (K := K) h
  exact ⟨_, _, _, _, _, rfl, .ty _, t, k, q⟩

theorem iteT2 {c : Bool} {A B : Prop} (e : c = true) (h : A) : if c = true then A else B := by rw [if_pos e]; exact h
theorem iteF2 {c : Bool} {A B : Prop} (e : c = false) (h : B) : if c = true then A else B := by rw [e, if_neg Bool.false_ne_true]; exact h
/-! ### numbers, rows -/
/-- an int that is no bool, from 0 to m -/
def numOk (m : Int) : PyData → Bool
  | .int i => decide (0 ≤ i) && decide (i ≤ m)
  | _ => false
/-- a tuple of n numbers from 0 to 50 -/
def rowOk (n : Nat) : PyData → Bool
  | .tuple xs => decide (xs.length = n) && xs.all (numOk 50)
  | _ => false

theorem scIsNum : FnScope ["value"] ["value"] (defScope sIsNum) := ⟨rfl, rfl, rfl, by decide +kernel, rfl, by decide +kernel, by decide +kernel⟩
theorem scUpTo : FnScope ["value", "most"] ["value", "most"] (defScope sUpTo) := ⟨rfl, rfl, rfl, by decide +kernel, rfl, by decide +kernel, by decide +kernel⟩
theorem scTupOf : FnScope ["value", "fewest", "most"] ["value", "fewest", "most"] (defScope sTupOf) := ⟨rfl, rfl, rfl, by decide +kernel, rfl, by decide +kernel, by decide +kernel⟩
section
variable {P : Program} {w : World} {K : PySem.W.Frag} {mg : Str → Option Value} {base : Heap}
def spIsNum : Sp := fun vs H Q _ => ∃ v d, vs = [v] ∧ Dq H v d ∧ Q (.bl (isI d && !isB d)) H
theorem ok_isnum {f : Addr} {fd : FuncData} {k : Nat} (F : Fun K "is_number" "is_number" sIsNum f fd) (mI : mg "isinstance" = none) (mi : mg "int" = none) (mb : mg "bool" = none) : FnOk P w K mg base CX0 (k + 1) f fd ["value"] spIsNum := by
  refine F.ok scIsNum (fun vs H Q E h => ?_) (fun cdv A outer s H vs Q E hr h => ?_)
  · obtain ⟨v, d, rfl, _⟩ := h
    rfl
  · obtain ⟨v, d, rfl, hd, q⟩ := h
    refine ⟨_, pss_one (ps_ret (pe_and (pe_callB (show CallR _ _ (rIsi K) from call_isi) (by rfl) mI (by decide +kernel) (pa_cons (pv 0) (pa_cons (pe_bltn (v := .ty "int") (by rfl) mi (by decide +kernel) rfl) pa_nil)))
      (pe_one (pe_not (pe_callB (show CallR _ _ (rIsi K) from call_isi) (by rfl) mI (by decide +kernel) (pa_cons (pv 0) (pa_cons (pe_bltn (v := .ty "bool") (by rfl) mb (by decide +kernel) rfl) pa_nil))))))), ?_⟩
    obtain ⟨T, t, kT, kI, kB⟩ := dq_ty (K := K) hd
    refine ⟨v, rfl, _, _, _, _, _, rfl, .ty _, t, kI, _, rfl, ?_⟩
    by_cases c : isI d = true
    · rw [if_pos c]
      refine ⟨v, rfl, _, _, _, _, _, rfl, .ty _, t, kB, _, rfl, ?_⟩
      rw [c, Bool.true_and] at q
      exact q
    · rw [if_neg c]
      rw [Bool.eq_false_iff.mpr c, Bool.false_and] at q
      exact q
def spUpTo : Sp := fun vs H Q _ => ∃ v d m, vs = [v, .int m] ∧ Dq H v d ∧ Q (.bl (numOk m d)) H
theorem ok_upto {f fN : Addr} {fd fdN : FuncData} {k : Nat} (F : Fun K "is_number_up_to" "is_number_up_to" sUpTo f fd) (FN : Fun K "is_number" "is_number" sIsNum fN fdN) (bN : Binds K fdN ["value"] []) (gN : mg "is_number" = some (.ref fN))
    (mI : mg "isinstance" = none) (mi : mg "int" = none) (mb : mg "bool" = none) : FnOk P w K mg base CX0 (k + 2) f fd ["value", "most"] spUpTo := by
  have GN : FnOk P w K mg base CX0 (k + 1) fN fdN ["value"] spIsNum := ok_isnum FN mI mi mb
  refine F.ok scUpTo (fun vs H Q E h => ?_) (fun cdv A outer s H vs Q E hr h => ?_)
  · obtain ⟨v, d, m, rfl, _⟩ := h
    rfl
  · obtain ⟨v, d, m, rfl, hd, q⟩ := h
    refine ⟨_, pss_one (ps_ret (pe_and (pe_call GN hr (by rfl) gN FN.kp bN .nil pass0 (pa_cons (pv 0) pa_nil)) (pe_one (pe_chain op_le op_le pe_int (pv 0) (pv 1))))), ?_⟩
    refine ⟨v, rfl, v, d, rfl, hd, _, rfl, ?_⟩
    cases hd with
    | int i =>
      refine iteT ⟨_, rfl, _, _, rfl, rfl, _, rfl, ?_⟩
      have q : Q (.bl (decide (0 ≤ i) && decide (i ≤ m))) H := q
      by_cases c : (0 : Int) ≤ i
      · rw [decide_eq_true c, Bool.true_and] at q
        refine iteT2 (decide_eq_true c) ⟨_, rfl, _, _, rfl, rfl, q⟩
      · rw [decide_eq_false c, Bool.false_and] at q
        exact iteF2 (decide_eq_false c) q
    | bl b => exact iteF q
    | non => exact iteF q
    | str _ => exact iteF q
    | lst _ _ => exact iteF q
    | tup _ _ => exact iteF q
    | d0 _ => exact iteF q
    | d1 _ => exact iteF q
def lenD : PyData → Nat
  | .tuple xs => xs.length
  | _ => 0
def spTupOf (K : PySem.W.Frag) : Sp := fun vs H Q _ => ∃ v d a b, vs = [v, .int a, .int b] ∧ Dq H v d ∧ Q (.bl (isTup d && (decide (a ≤ (lenD d : Int)) && decide ((lenD d : Int) ≤ b)))) H
theorem ok_tupof {f : Addr} {fd : FuncData} {k : Nat} (F : Fun K "is_tuple_of" "is_tuple_of" sTupOf f fd) (mI : mg "isinstance" = none) (mt : mg "tuple" = none) (ml : mg "len" = none) : FnOk P w K mg base CX0 (k + 1) f fd ["value", "fewest", "most"] (spTupOf K) := by
  refine F.ok scTupOf (fun vs H Q E h => ?_) (fun cdv A outer s H vs Q E hr h => ?_)
  · obtain ⟨v, d, a, b, rfl, _⟩ := h
    rfl
  · obtain ⟨v, d, a, b, rfl, hd, q⟩ := h
    refine ⟨_, pss_one (ps_ret (pe_and (pe_callB (show CallR _ _ (rIsi K) from call_isi) (by rfl) mI (by decide +kernel) (pa_cons (pv 0) (pa_cons (pe_bltn (v := .ty "tuple") (by rfl) mt (by decide +kernel) rfl) pa_nil)))
      (pe_one (pe_chain op_le op_le (pv 1) (pe_callB call_len_seq (by rfl) ml PySem.boot_len (pa_cons (pv 0) pa_nil)) (pv 2))))), ?_⟩
    obtain ⟨T, t, kT, kI, kB⟩ := dq_ty (K := K) hd
    refine ⟨v, rfl, _, _, _, _, _, rfl, .ty _, t, kT, _, rfl, ?_⟩
    cases hd with
    | @tup p xs ds hp hs =>
      have e := hs.len
      refine iteT ⟨_, rfl, _, rfl, p, xs, rfl, .inr (SqT.of hp), _, _, rfl, rfl, _, rfl, ?_⟩
      have q : Q (.bl (decide (a ≤ (ds.length : Int)) && decide ((ds.length : Int) ≤ b))) H := q
      rw [← e] at q
      by_cases c : a ≤ (xs.length : Int)
      · rw [decide_eq_true c, Bool.true_and] at q
        exact iteT2 (decide_eq_true c) ⟨_, rfl, _, _, rfl, rfl, q⟩
      · rw [decide_eq_false c, Bool.false_and] at q
        exact iteF2 (decide_eq_false c) q
    | bl b => exact iteF q
    | non => exact iteF q
    | str _ => exact iteF q
    | lst _ _ => exact iteF q
    | int _ => exact iteF q
    | d0 _ => exact iteF q
    | d1 _ => exact iteF q
end
end DD
namespace DD
open PySem PySem.Spec PyProof.Rows L2 RZ

/-! ### the heap without the deck -/
open Classical in
noncomputable def Wo (X : Addr → Prop) (H : Hp) : Hp := fun b => if X b then none else H b
theorem wo_some {X : Addr → Prop} {b : Addr} {H : Hp} {o : HO} (h : Wo X H b = some o) : H b = some o ∧ ¬ X b := by
  unfold Wo at h
  by_cases e : X b
  · rw [if_pos e] at h
    cases h
  · rw [if_neg e] at h
    exact ⟨h, e⟩
theorem wo_of {X : Addr → Prop} {b : Addr} {H : Hp} {o : HO} (h : H b = some o) (h1 : ¬ X b) : Wo X H b = some o := by
  unfold Wo
  rw [if_neg h1]
  exact h
theorem wo_in {X : Addr → Prop} {H : Hp} : Same (Wo X H) H := fun b o e => (wo_some e).1
theorem wo_same {X : Addr → Prop} {H H' : Hp} (k : Same H H') : Same (Wo X H) (Wo X H') := fun b o e => by
  obtain ⟨h, h1⟩ := wo_some e
  exact wo_of (k b o h) h1
/-- what is left out: the deck's two lists, perhaps more lists -/
structure LX (X : Addr → Prop) (dk c : Addr) (H : Hp) : Prop where
  d : X dk
  c : X c
  all : ∀ a, X a → ∃ l, H a = some (.lst l)
theorem wo_kp {X : Addr → Prop} {dk c : Addr} {H H1 H' : Hp} (hX : LX X dk c H1) (k : Kp2 dk c H H') : Same (Wo X H) (Wo X H') := fun b o e => by
  obtain ⟨h, h1⟩ := wo_some e
  exact wo_of (k b o (fun z => h1 (by rw [z]; exact hX.d)) (fun z => h1 (by rw [z]; exact hX.c)) h) h1
theorem LX.same {X : Addr → Prop} {dk c : Addr} {H H' : Hp} (hX : LX X dk c H) (s : Same H H') : LX X dk c H' := ⟨hX.d, hX.c, fun a x => by
  obtain ⟨l, h⟩ := hX.all a x
  exact ⟨l, s _ _ h⟩⟩
theorem LX.kp {X : Addr → Prop} {dk c : Addr} {H H' : Hp} {B : Nat} (hX : LX X dk c H) (k : Kp2 dk c H H') (d : Deck H' dk c B) : LX X dk c H' := ⟨hX.d, hX.c, fun a x => by
  obtain ⟨ns, t, h1, h2, _⟩ := d.ex
  obtain ⟨l, h⟩ := hX.all a x
  by_cases e1 : a = dk
  · rw [e1]
    exact ⟨_, h1⟩
  · by_cases e2 : a = c
    · rw [e2]
      exact ⟨_, h2⟩
    · exact ⟨l, k _ _ e1 e2 h⟩⟩
theorem LX.no {X : Addr → Prop} {dk c p : Addr} {H : Hp} (hX : LX X dk c H) (h : ¬ X p) : p ≠ dk ∧ p ≠ c := ⟨fun z => h (by rw [z]; exact hX.d), fun z => h (by rw [z]; exact hX.c)⟩

/-! ### written data: what its reading gives -/
def Lit (X : Addr → Prop) (σ : L2.St) (H0 : Hp) (te : TE) (d : PyData) : Prop := ∀ (H : Hp) (Q : VK), Same H0 H → (∀ v H', Same H H' → Dq (Wo X H') v d → Q v H') → te σ H Q
def LitA (X : Addr → Prop) (σ : L2.St) (H0 : Hp) (ta : TA) (ds : List PyData) : Prop := ∀ (H : Hp) (Q : List V → Hp → Prop), Same H0 H → (∀ vs H', Same H H' → DqAll (Wo X H') vs ds → Q vs H') → ta σ H Q
section
variable {X : Addr → Prop} {dk c : Addr} {σ : L2.St} {H0 : Hp}
theorem lit_c {v : V} {d : PyData} (h : ∀ H, Dq H v d) : Lit X σ H0 (tC v) d := fun H Q s k => k v H (Same.refl _) (h _)
theorem lit_var {i : Nat} {v : V} {d : PyData} (h : σ[i]? = some (some v)) (hv : Dq (Wo X H0) v d) : Lit X σ H0 (tVar i) d := fun H Q s k => ⟨v, h, k v H (Same.refl _) (Dq.same (wo_same s) _ _ hv)⟩
theorem litA_nil : LitA X σ H0 tNil [] := fun H Q s k => k [] H (Same.refl _) .nil
theorem litA_cons {te : TE} {ta : TA} {d : PyData} {ds : List PyData} (a : Lit X σ H0 te d) (b : LitA X σ H0 ta ds) : LitA X σ H0 (tCons te ta) (d :: ds) :=
  fun H Q s k => a H _ s fun v H1 s1 q1 => b H1 _ (s.trans s1) fun vs H2 s2 q2 => k (v :: vs) H2 (s1.trans s2) (.cons (Dq.same (wo_same s2) _ _ q1) q2)
theorem new_ne {H : Hp} {p : Addr} (hX : LX X dk c H0) (s : Same H0 H) (np : H p = none) : ¬ X p := fun x => by
  obtain ⟨l, h⟩ := hX.all p x
  rw [s _ _ h] at np
  cases np
theorem lit_tup {ta : TA} {ds : List PyData} (hX : LX X dk c H0) (a : LitA X σ H0 ta ds) (hl : ds.length ≤ 1000) : Lit X σ H0 (tTup ta) (.tuple ds) :=
  fun H Q s k => a H _ s fun vs H1 s1 q1 => ⟨Nat.le_of_lt (len_lt (by rw [q1.len]; exact hl)), fun p np => by
    have n1 := new_ne hX (s.trans s1) np
    exact k _ _ (s1.trans (same_new np)) (.tup (wo_of upd_same n1) (DqAll.same (wo_same (same_new np)) _ _ q1))⟩
theorem lit_lst {ta : TA} {ds : List PyData} (hX : LX X dk c H0) (a : LitA X σ H0 ta ds) (hl : ds.length ≤ 1000) : Lit X σ H0 (tLst ta) (.list ds) :=
  fun H Q s k => a H _ s fun vs H1 s1 q1 => ⟨Nat.le_of_lt (len_lt (by rw [q1.len]; exact hl)), fun p np => by
    have n1 := new_ne hX (s.trans s1) np
    exact k _ _ (s1.trans (same_new np)) (.lst (wo_of upd_same n1) (DqAll.same (wo_same (same_new np)) _ _ q1))⟩
theorem lit_neg {i : Int} {te : TE} (a : Lit X σ H0 te (.int i)) : Lit X σ H0 (tUn (rU fun i => V.int (-i)) te) (.int (-i)) :=
  fun H Q s k => a H _ s fun v H1 s1 q1 => by
    cases q1
    exact ⟨_, rfl, k _ _ s1 (.int _)⟩
theorem lit_pow {i j : Int} {ta tb : TE} (a : Lit X σ H0 ta (.int i)) (b : Lit X σ H0 tb (.int j)) (h : CPow i j) : Lit X σ H0 (tOp (rI CPow fun i j => V.int (i ^ j.toNat)) ta tb) (.int (i ^ j.toNat)) :=
  fun H Q s k => a H _ s fun v H1 s1 q1 => b H1 _ (s.trans s1) fun u H2 s2 q2 => by
    cases q1
    cases q2
    exact ⟨_, _, rfl, rfl, h, k _ _ (s1.trans s2) (.int _)⟩
theorem lit_add {i j : Int} {ta tb : TE} (a : Lit X σ H0 ta (.int i)) (b : Lit X σ H0 tb (.int j)) : Lit X σ H0 (tOp (rI0 fun i j => V.int (i + j)) ta tb) (.int (i + j)) :=
  fun H Q s k => a H _ s fun v H1 s1 q1 => b H1 _ (s.trans s1) fun u H2 s2 q2 => by
    cases q1
    cases q2
    exact ⟨_, _, rfl, rfl, k _ _ (s1.trans s2) (.int _)⟩
theorem lit_d0 (hX : LX X dk c H0) : Lit X σ H0 tDNewK (.dict []) := fun H Q s k p np => by
  have n1 := new_ne hX s np
  exact k _ _ (same_new np) (.d0 (wo_of upd_same n1))
theorem lit_d1 (hX : LX X dk c H0) : Lit X σ H0 (tDisp [(tC (.str "a"), tC (.int 0))]) (.dict [(.str "a", .int 0)]) := fun H Q s k p np => by
  have n1 := new_ne hX s np
  refine ⟨upd_same, [(.inr "a", .int 0)], rfl, by decide, k _ _ (fun b o e => ?_) (.d1 (wo_of upd_same n1))⟩
  rw [upd_ne (ne_of_none e np), upd_ne (ne_of_none e np)]
  exact e
/-- slices, sums, products of tuples -/
theorem DqAll.cut {H : Hp} {xs : List V} {ds : List PyData} (h : DqAll H xs ds) {lo hi : Option Int} : DqAll H (cutV xs lo hi) ((ds.drop (HT.sIx ds.length 0 lo)).take (HT.sIx ds.length ds.length hi - HT.sIx ds.length 0 lo)) := by
  unfold cutV
  rw [h.len]
  exact (h.drop _).take _
def LitO (σ : L2.St) (H0 : Hp) (to : TO) (i : Option Int) : Prop := ∀ (H : Hp) (Q : Option Int → Hp → Prop), Same H0 H → Q i H → to σ H Q
theorem lito_none : LitO σ H0 tNoPart none := fun H Q s k => k
theorem lito_var {i : Nat} {n : Int} (h : σ[i]? = some (some (.int n))) : LitO σ H0 (tPart (tVar i)) (some n) := fun H Q s k => ⟨_, h, n, rfl, k⟩
theorem lito_c {n : Int} : LitO σ H0 (tPart (tC (.int n))) (some n) := fun H Q s k => ⟨n, rfl, k⟩
theorem lito_var1 {i : Nat} {n : Int} (h : σ[i]? = some (some (.int n))) : LitO σ H0 (tPart (tOp (rI0 fun i j => V.int (i + j)) (tVar i) (tC (.int 1)))) (some (n + 1)) := fun H Q s k => ⟨_, h, _, _, rfl, rfl, _, rfl, k⟩
theorem tup_ne {H : Hp} {p : Addr} {xs : List V} (hX : LX X dk c H0) (s : Same H0 H) (h : H p = some (.tup xs)) : ¬ X p := fun x => by
  obtain ⟨l, h1⟩ := hX.all p x
  rw [s _ _ h1] at h
  cases h
theorem lit_sl {te : TE} {tl th : TO} {ds : List PyData} {lo hi : Option Int} (hX : LX X dk c H0) (a : Lit X σ H0 te (.tuple ds)) (l : LitO σ H0 tl lo) (h : LitO σ H0 th hi) :
    Lit X σ H0 (tSl rSlQ te tl th) (.tuple ((ds.drop (HT.sIx ds.length 0 lo)).take (HT.sIx ds.length ds.length hi - HT.sIx ds.length 0 lo))) :=
  fun H Q s k => a H _ s fun v H1 s1 q1 => l H1 _ (s.trans s1) (h H1 _ (s.trans s1) (by
    cases q1 with
    | @tup p xs _ hp hs =>
      obtain ⟨hp', n1⟩ := wo_some hp
      refine ⟨p, xs, rfl, hp', fun p2 H2 s2 h2 => ?_⟩
      have m1 := tup_ne hX (s.trans (s1.trans s2)) h2
      exact k _ _ (s1.trans s2) (.tup (wo_of h2 m1) (DqAll.same (wo_same s2) _ _ hs).cut)))
theorem lit_cat {ta tb : TE} {ds es : List PyData} (hX : LX X dk c H0) (a : Lit X σ H0 ta (.tuple ds)) (b : Lit X σ H0 tb (.tuple es)) (hl : ds.length + es.length ≤ 1000) :
    Lit X σ H0 (tOp rCatQ ta tb) (.tuple (ds ++ es)) :=
  fun H Q s k => a H _ s fun v H1 s1 q1 => b H1 _ (s.trans s1) fun u H2 s2 q2 => by
    have q1 := Dq.same (wo_same s2) _ _ q1
    cases q1 with
    | @tup p xs _ hp hs =>
      cases q2 with
      | @tup p2 ys _ hp2 hs2 =>
        refine ⟨p, p2, xs, ys, rfl, rfl, (wo_some hp).1, (wo_some hp2).1, by rw [hs.len, hs2.len]; exact hl, fun p3 H3 s3 h3 => ?_⟩
        have m1 := tup_ne hX (s.trans (s1.trans (s2.trans s3))) h3
        exact k _ _ (s1.trans (s2.trans s3)) (.tup (wo_of h3 m1) ((DqAll.same (wo_same s3) _ _ hs).app (DqAll.same (wo_same s3) _ _ hs2)))
theorem DqAll.rep {H : Hp} {xs : List V} {ds : List PyData} (h : DqAll H xs ds) : ∀ n : Nat, DqAll H (List.replicate n xs).flatten (List.replicate n ds).flatten
  | 0 => .nil
  | n + 1 => by
    rw [List.replicate_succ, List.replicate_succ, List.flatten_cons, List.flatten_cons]
    exact h.app (h.rep n)
theorem lit_rep {ta tb : TE} {ds : List PyData} {n : Int} (hX : LX X dk c H0) (a : Lit X σ H0 ta (.tuple ds)) (b : Lit X σ H0 tb (.int n)) (h0 : ds ≠ []) (hl : ds.length ≤ 1000) (hn : 1 ≤ n) (hn2 : n ≤ 1000) :
    Lit X σ H0 (tOp rRepQ ta tb) (.tuple (List.replicate n.toNat ds).flatten) :=
  fun H Q s k => a H _ s fun v H1 s1 q1 => b H1 _ (s.trans s1) fun u H2 s2 q2 => by
    have q1 := Dq.same (wo_same s2) _ _ q1
    cases q1 with
    | @tup p xs _ hp hs =>
      cases q2
      refine ⟨p, n, xs, rfl, rfl, (wo_some hp).1, ?_, hn, hn2, by rw [hs.len]; exact hl, fun p3 H3 s3 h3 => ?_⟩
      · intro z
        subst z
        cases hs
        exact h0 rfl
      · have m1 := tup_ne hX (s.trans (s1.trans (s2.trans s3))) h3
        exact k _ _ (s1.trans (s2.trans s3)) (.tup (wo_of h3 m1) ((DqAll.same (wo_same s3) _ _ hs).rep _))
/-- list(t), t a tuple -/
def rLstQ (K : PySem.W.Frag) : List V → Hp → VK → Prop := fun xs H Q => ∃ p ys, xs = [V.ref p] ∧ (SqL K H p ys ∨ SqT K H p ys) ∧ ∀ (l : Addr), H l = none → Q (V.ref l) (upd H l (HO.lst ys))
theorem lit_list {K : PySem.W.Frag} {ta : TE} {ds : List PyData} (hX : LX X dk c H0) (a : Lit X σ H0 ta (.tuple ds)) : Lit X σ H0 (tCB (rLstQ K) (tCons ta tNil)) (.list ds) :=
  fun H Q s k => a H _ s fun v H1 s1 q1 => by
    cases q1 with
    | @tup p xs _ hp hs =>
      refine ⟨p, xs, rfl, .inr (SqT.of (wo_some hp).1), fun l nl => ?_⟩
      have n1 := new_ne hX (s.trans s1) nl
      exact k _ _ (s1.trans (same_new nl)) (.lst (wo_of upd_same n1) (DqAll.same (wo_same (same_new nl)) _ _ hs))
/-- len(t) of a known tuple -/
def rLenQ (K : PySem.W.Frag) : List V → Hp → VK → Prop := fun xs H Q => ∃ p ys, xs = [V.ref p] ∧ (SqL K H p ys ∨ SqT K H p ys) ∧ Q (.int ys.length) H
theorem lit_len {K : PySem.W.Frag} {ta : TE} {ds : List PyData} (a : Lit X σ H0 ta (.tuple ds)) : Lit X σ H0 (tCB (rLenQ K) (tCons ta tNil)) (.int ds.length) :=
  fun H Q s k => a H _ s fun v H1 s1 q1 => by
    cases q1 with
    | @tup p xs _ hp hs =>
      refine ⟨p, xs, rfl, .inr (SqT.of (wo_some hp).1), k _ _ s1 ?_⟩
      rw [hs.len]
      exact .int _
/-- t[i] of a known tuple -/
theorem lit_ixT {K : PySem.W.Frag} {ta tb : TE} {ds : List PyData} {d : PyData} {j : Nat} (a : Lit X σ H0 ta (.tuple ds)) (b : Lit X σ H0 tb (.int j)) (h : ds[j]? = some d) : Lit X σ H0 (tOp (rIxT K) ta tb) d :=
  fun H Q s k => a H _ s fun v H1 s1 q1 => b H1 _ (s.trans s1) fun u H2 s2 q2 => by
    have q1 := Dq.same (wo_same s2) _ _ q1
    cases q1 with
    | @tup p xs _ hp hs =>
      cases q2
      have hj : j < xs.length := by
        rw [hs.len]
        exact (List.getElem?_eq_some_iff.mp h).1
      have hx : xs[j]? = some xs[j] := List.getElem?_eq_getElem hj
      obtain ⟨d', hd', hq⟩ := hs.get hx
      rw [h] at hd'
      cases hd'
      exact ⟨p, xs, (j : Int), xs[j], rfl, rfl, SqT.of (wo_some hp).1, atI_nat hx, k _ _ (s1.trans s2) hq⟩
end
end DD
namespace DD
open PySem PySem.Spec PyProof.Rows L2 RZ

/-! ### how great a value is, and whether lists and dicts meet in it -/
structure Bd (w k : Nat) (d : PyData) : Prop where
  short : d.leavesShort 48 = true
  show_ : d.showable = true
  wt : d.weight ≤ w
  dp : d.depth ≤ k
theorem Bd.up {w k w' k' : Nat} {d : PyData} (b : Bd w k d) (hw : w ≤ w') (hk : k ≤ k') : Bd w' k' d := ⟨b.short, b.show_, Nat.le_trans b.wt hw, Nat.le_trans b.dp hk⟩
def Nx (d : PyData) : Prop := d.hasDict = true → noL d = true
def Pl (d : PyData) : Prop := d.hasDict = false ∧ noL d = true
theorem hasDictAll_mem : ∀ {ds : List PyData}, PyData.hasDictAll ds = true → ∃ d ∈ ds, d.hasDict = true
  | [], h => Bool.noConfusion (show false = true from h)
  | d :: ds, h => by
    have h : (d.hasDict || PyData.hasDictAll ds) = true := h
    rw [Bool.or_eq_true] at h
    rcases h with h | h
    · exact ⟨d, List.mem_cons_self, h⟩
    · obtain ⟨e, he, q⟩ := hasDictAll_mem h
      exact ⟨e, List.mem_cons_of_mem _ he, q⟩
theorem noLs_of : ∀ {ds : List PyData}, (∀ d ∈ ds, noL d = true) → noLs ds = true
  | [], _ => rfl
  | d :: ds, h => by
    show (noL d && noLs ds) = true
    rw [h d List.mem_cons_self, noLs_of fun x hx => h x (List.mem_cons_of_mem _ hx)]
    rfl
theorem nx_mem {x : PyData} {ds : List PyData} (hx : Nx x) (h : ∀ y ∈ ds, y = x ∨ Pl y) : Nx (.tuple ds) := fun hd => by
  obtain ⟨e, he, q⟩ := hasDictAll_mem hd
  have ex : x.hasDict = true := by
    rcases h e he with rfl | z
    · exact q
    · rw [z.1] at q
      cases q
  refine noLs_of fun y hy => ?_
  rcases h y hy with rfl | z
  · exact hx ex
  · exact z.2
theorem nx_pl {ds : List PyData} (h : ∀ y ∈ ds, Pl y) : Pl (.tuple ds) := by
  refine ⟨?_, noLs_of fun y hy => (h y hy).2⟩
  cases e : (PyData.tuple ds).hasDict with
  | false => rfl
  | true =>
    obtain ⟨x, hx, q⟩ := hasDictAll_mem e
    rw [(h x hx).1] at q
    cases q
theorem nx_lst {ds : List PyData} (h : ∀ y ∈ ds, Pl y) : Nx (.list ds) := fun e => by
  obtain ⟨x, hx, q⟩ := hasDictAll_mem e
  rw [(h x hx).1] at q
  cases q
theorem Pl.nx {d : PyData} (h : Pl d) : Nx d := fun _ => h.2
theorem bd_all {w k : Nat} : ∀ {ds : List PyData}, (∀ d ∈ ds, Bd w k d) → PyData.leavesShortAll 48 ds = true ∧ PyData.showableAll ds = true ∧ PyData.weightAll ds ≤ ds.length * (w + 1) ∧ PyData.depthAll ds ≤ k
  | [], _ => ⟨rfl, rfl, by simp [PyData.weightAll], Nat.zero_le _⟩
  | d :: ds, h => by
    have a := h d List.mem_cons_self
    obtain ⟨h1, h2, h3, h4⟩ := bd_all fun x hx => h x (List.mem_cons_of_mem _ hx)
    refine ⟨?_, ?_, ?_, Nat.max_le.mpr ⟨a.dp, h4⟩⟩
    · show (d.leavesShort 48 && PyData.leavesShortAll 48 ds) = true
      rw [a.short, h1]
      rfl
    · show (d.showable && PyData.showableAll ds) = true
      rw [a.show_, h2]
      rfl
    · have := a.wt
      show d.weight + 1 + PyData.weightAll ds ≤ (ds.length + 1) * (w + 1)
      rw [Nat.succ_mul]
      omega
theorem Bd.tup {w k n : Nat} {ds : List PyData} (h : ∀ d ∈ ds, Bd w k d) (hn : ds.length ≤ n) : Bd (n * (w + 1)) (k + 1) (.tuple ds) := by
  obtain ⟨h1, h2, h3, h4⟩ := bd_all h
  exact ⟨h1, h2, Nat.le_trans h3 (Nat.mul_le_mul_right _ hn), Nat.succ_le_succ h4⟩
theorem Bd.lst {w k n : Nat} {ds : List PyData} (h : ∀ d ∈ ds, Bd w k d) (hn : ds.length ≤ n) : Bd (n * (w + 1)) (k + 1) (.list ds) := by
  obtain ⟨h1, h2, h3, h4⟩ := bd_all h
  exact ⟨h1, h2, Nat.le_trans h3 (Nat.mul_le_mul_right _ hn), Nat.succ_le_succ h4⟩
theorem Bd.of_sm {w k : Nat} {d : PyData} (a : Sm w k d) (h : PyData.intsShort 48 d = true) : Bd w k d := ⟨PyData.leavesShort_of_canLay0 48 d a.lay h, a.show_, a.wt, a.dp⟩
theorem bd_int {i : Int} (h0 : 0 ≤ i) (h : i < 4096) : Bd 13 0 (.int i) := by
  have s := Sm.int h0 h
  have e : (Str.ofString (toString i)).length ≤ 13 := of_decide_eq_true s.short
  exact ⟨decide_eq_true (Nat.le_trans e (by decide)), s.show_, s.wt, s.dp⟩
theorem bd_bool (b : Bool) : Bd 0 0 (.bool b) := by cases b <;> exact ⟨by decide +kernel, by decide +kernel, by decide +kernel, by decide +kernel⟩
def okB (w k : Nat) (d : PyData) : Bool := d.leavesShort 48 && (d.showable && (decide (d.weight ≤ w) && decide (d.depth ≤ k)))
theorem bd_of {w k : Nat} {d : PyData} (h : okB w k d = true) : Bd w k d := by
  unfold okB at h
  simp only [Bool.and_eq_true, decide_eq_true_eq] at h
  exact ⟨h.1, h.2.1, h.2.2.1, h.2.2.2⟩
/-! ### more written data: lists -/
section
variable {X : Addr → Prop} {dk c : Addr} {σ : L2.St} {H0 : Hp} {K : PySem.W.Frag}
theorem lit_catL {ta tb : TE} {ds es : List PyData} (hX : LX X dk c H0) (a : Lit X σ H0 ta (.list ds)) (b : Lit X σ H0 tb (.list es)) (hl : ds.length + es.length ≤ 1000) :
    Lit X σ H0 (tOp rCat ta tb) (.list (ds ++ es)) :=
  fun H Q s k => a H _ s fun v H1 s1 q1 => b H1 _ (s.trans s1) fun u H2 s2 q2 => by
    have q1 := Dq.same (wo_same s2) _ _ q1
    cases q1 with
    | @lst p xs _ hp hs =>
      cases q2 with
      | @lst p2 ys _ hp2 hs2 =>
        refine ⟨p, p2, xs, ys, rfl, rfl, (wo_some hp).1, (wo_some hp2).1, Nat.le_of_lt (len_lt (by rw [hs.len, hs2.len]; exact hl)), fun p3 np => ?_⟩
        have m1 := new_ne hX (s.trans (s1.trans s2)) np
        exact k _ _ (s1.trans (s2.trans (same_new np))) (.lst (wo_of upd_same m1) (DqAll.same (wo_same (same_new np)) _ _ (hs.app hs2)))
theorem lit_repL {ta tb : TE} {ds : List PyData} {n : Int} (hX : LX X dk c H0) (a : Lit X σ H0 ta (.list ds)) (b : Lit X σ H0 tb (.int n)) (hl : ds.length * n.toNat ≤ 1000) (hn : 1 ≤ n) (hn2 : n ≤ 1000) :
    Lit X σ H0 (tOp rRep ta tb) (.list (List.replicate n.toNat ds).flatten) :=
  fun H Q s k => a H _ s fun v H1 s1 q1 => b H1 _ (s.trans s1) fun u H2 s2 q2 => by
    have q1 := Dq.same (wo_same s2) _ _ q1
    cases q1 with
    | @lst p xs _ hp hs =>
      cases q2
      refine ⟨p, n, xs, rfl, rfl, (wo_some hp).1, by omega, by omega, Nat.le_of_lt (len_lt (by rw [hs.len]; exact hl)), fun p3 np => ?_⟩
      have m1 := new_ne hX (s.trans (s1.trans s2)) np
      exact k _ _ (s1.trans (s2.trans (same_new np))) (.lst (wo_of upd_same m1) (DqAll.same (wo_same (same_new np)) _ _ (hs.rep _)))
theorem lit_slL {te : TE} {tl th : TO} {ds : List PyData} {lo hi : Option Int} (hX : LX X dk c H0) (a : Lit X σ H0 te (.list ds)) (l : LitO σ H0 tl lo) (h : LitO σ H0 th hi) :
    Lit X σ H0 (tSl (rSlL K) te tl th) (.list ((ds.drop (HT.sIx ds.length 0 lo)).take (HT.sIx ds.length ds.length hi - HT.sIx ds.length 0 lo))) :=
  fun H Q s k => a H _ s fun v H1 s1 q1 => l H1 _ (s.trans s1) (h H1 _ (s.trans s1) (by
    cases q1 with
    | @lst p xs _ hp hs =>
      refine ⟨p, xs, rfl, SqL.of (wo_some hp).1, fun p2 np => ?_⟩
      have m1 := new_ne hX (s.trans s1) np
      exact k _ _ (s1.trans (same_new np)) (.lst (wo_of upd_same m1) (DqAll.same (wo_same (same_new np)) _ _ hs).cut)))
/-- a written list at a drawn index -/
theorem pick {te : TE} {ds : List PyData} {B : Nat} {n : Int} {Q : VK} (hX : LX X dk c H0) (a : Lit X σ H0 te (.list ds)) (dek : Deck H0 dk c B) (hB : B ≤ 1000000) (h0 : σ[0]? = some (some (.ref dk))) (hn : n = ds.length) (h1 : 1 ≤ n) (h2 : n ≤ 1000)
    (q : ∀ v d H', d ∈ ds → Kp2 dk c H0 H' → Deck H' dk c (B + 1) → Dq (Wo X H') v d → Q v H') : tOp (rIxL K) te (tCall spDraw [] E0 (tCons (tVar 0) (tCons (tC (.int n)) tNil))) σ H0 Q :=
  a H0 _ (Same.refl _) fun v H1 s1 q1 => by
    cases q1 with
    | @lst p xs _ hp hs =>
      refine ⟨.ref dk, h0, dk, c, B, n, rfl, dek.keep s1, hB, h1, h2, fun r H3 r0 r1 k3 d3 => ?_⟩
      obtain ⟨hp', n0⟩ := wo_some hp
      obtain ⟨n1, n2⟩ := hX.no n0
      have hp3 : H3 p = some (.lst xs) := k3 _ _ n1 n2 hp'
      obtain ⟨j, rfl⟩ : ∃ j : Nat, r = (j : Int) := ⟨r.toNat, by omega⟩
      have hj : j < xs.length := by
        rw [hs.len]
        omega
      have hx : xs[j]? = some xs[j] := List.getElem?_eq_getElem hj
      obtain ⟨d, hd', hq⟩ := (DqAll.same (wo_kp hX k3) _ _ hs).get hx
      exact ⟨p, xs, (j : Int), xs[j], rfl, rfl, SqL.of hp3, atI_nat hx, q _ d H3 (List.mem_of_getElem? hd') ((kps s1).trans k3) d3 hq⟩
end


/-! ### a written list is not sys.modules; repr of one -/
def tLstN (t : TA) : TE := fun σ H Q => t σ H fun xs H1 => xs.length ≤ sizeLine ∧ ∀ p, H1 p = none → p ≠ sysModules → Q (.ref p) (upd H1 p (.lst xs))
theorem pe_lstN {X : Cx} {es : List Expr} {t : TA} {pos : Pos} (h : PA X es t) : PE X (.List es pos) (tLstN t) := by
  refine ⟨fun pins s σ H Q I hq => ?_⟩
  refine wpAny_List_spliced (thn (h.run pos pins s σ H _ I hq) fun us s1 ⟨xs, H1, I1, r, z, q⟩ => ⟨by rw [← r.length]; exact z, ?_⟩)
  have hf : H1 s1.heap.objs.size = none := I1.hok.fresh (Nat.le_refl _)
  refine ⟨.ref s1.heap.objs.size, upd H1 s1.heap.objs.size (.lst xs), I1.laid (t' := s1.toks) (fun b u e => Heap.get?_push_of_some _ e) (Nat.le_refl _) ?_, rfl, q _ hf (Nat.ne_of_gt I1.big)⟩
  exact ⟨z, us, 0, r, Heap.get?_push_size _ rfl⟩
structure GdL (ds : List PyData) : Prop where
  show_ : (PyData.list ds).showable = true
  dp : (PyData.list ds).depth ≤ 64
  sz : (PyData.list ds).shown.length ≤ sizeLine
  nl : PyData.hasDictAll ds = true → noLs ds = true
theorem call_reprL {X : Cx} (hg : X.A.guards = some []) (hu : X.A.units + 66 < cLine) : CallR X (.builtin "repr") (fun xs H Q =>
    ∃ a ys ds, xs = [.ref a] ∧ a ≠ sysModules ∧ H a = some (.lst ys) ∧ DqAll H ys ds ∧ GdL ds ∧ Q (.str (PyData.list ds).shown) H) := by
  intro pins s σ H xs us Q I r h
  obtain ⟨a, ys, ds, rfl, hne, ha, hd, g, q⟩ := h
  obtain ⟨u, rfl, ru⟩ := vals1 r
  cases ru
  obtain ⟨its, rv, ⟨o, n, h1, h2, _, h3⟩, _⟩ := I.list (SqL.of (K := X.K) ha)
  obtain ⟨as, ra, hn⟩ := DqAll.reads I ds _ _ hd rv
  have rd : Reads s.heap (.ref a) (.list ds) _ := .list (vs := its.toArray) h1 h2 h3 ra
  have hdp := g.dp
  exact repr_of_reads' (Q := fun u s1 => ∃ x H1, Inv X pins σ H1 s1 ∧ RelV x u ∧ Q x H1) rd g.show_ (fun z m => by
      rcases List.mem_cons.mp m with m | m
      · exact hne m.symm
      · exact hn (g.nl z) m) hg (by omega) (fun _ _ e => e)
    (fun h' u tk hk => ⟨.str (PyData.list ds).shown, H, I.kept hk, ⟨_, rfl⟩, q⟩) g.sz
/-- repr([a, b, v]) where v is any value and the others are plain -/
theorem gdl_of {ds : List PyData} {x : PyData} (h : ∀ d ∈ ds, Bd 20000 30 d) (hl : ds.length ≤ 5) (hx : Nx x) (hp : ∀ y ∈ ds, y = x ∨ Pl y) : GdL ds := by
  have b := Bd.lst h hl
  refine ⟨b.show_, Nat.le_trans b.dp (by decide), ?_, fun hd => ?_⟩
  · have h := PyData.shown_le 48 (by decide) _ b.short
    have h2 := b.wt
    rw [sizeLine_eq]
    omega
  · exact nx_mem hx hp hd
theorem gd_bl (b : Bool) : Gd (.bool b) := by
  cases b <;> exact ⟨rfl, by decide, by rw [sizeLine_eq]; decide +kernel, fun z => by cases z⟩
end DD
namespace DD
open PySem PySem.Spec PyProof.Rows L2 RZ
/-! ### t[::-1] of a tuple -/
theorem back_pick (xs : Array Value) : ((List.range xs.size).filterMap fun (k : Nat) => xs[(((xs.size : Int) - 1) + (k : Int) * (-1)).toNat]?) = xs.toList.reverse := by
  have e : (fun (k : Nat) => xs[(((xs.size : Int) - 1) + (k : Int) * (-1)).toNat]?) = fun k => if k < xs.size then xs[xs.size - 1 - k]? else xs[0]? := by
    funext k
    by_cases h : k < xs.size
    · rw [if_pos h]
      congr 1
      omega
    · rw [if_neg h]
      congr 1
      omega
  rw [e]
  have e2 : (List.range xs.size).filterMap (fun k => if k < xs.size then xs[xs.size - 1 - k]? else xs[0]?) = ((List.range xs.size).map fun k => xs.size - 1 - k).filterMap fun k => xs[k]? := by
    rw [List.filterMap_map]
    have cg : ∀ (l : List Nat) (f g : Nat → Option Value), (∀ k ∈ l, f k = g k) → l.filterMap f = l.filterMap g := fun l f g => by
      induction l with
      | nil => intro _; rfl
      | cons a l ih =>
        intro h
        rw [List.filterMap_cons, List.filterMap_cons, h a List.mem_cons_self, ih fun k hk => h k (List.mem_cons_of_mem _ hk)]
    refine cg _ _ _ fun k hk => ?_
    show (if k < xs.size then xs[xs.size - 1 - k]? else xs[0]?) = xs[xs.size - 1 - k]?
    rw [if_pos (List.mem_range.mp hk)]
  rw [e2, PySem.W.krv_range, List.filterMap_reverse, PySem.W.krv_all]
section
variable {prog : Program} {w : World} {A : Around} {E : Value → Shared → Prop} {s : Shared}
theorem sliceApplied_back {sl : Addr} {vl vu vs : Value} {n : Nat} {R : Int × Int × Nat → Shared → Prop} (hs : s.heap.IsSliceOf sl vl vu vs) (pl : IsPart vl none) (pu : IsPart vu none) (ps : IsPart vs (some (-1)))
    (hR : R ((n : Int) - 1, -1, n) s) : wpAny (model prog w) A (Builtin.Slice.sliceApplied (.ref sl) (pure (n : Int))) R E s := by
  obtain ⟨os, hos, hcs, hds⟩ := id hs
  unfold Builtin.Slice.sliceApplied Builtin.Slice.sliceFields
  refine wpAny_bind (wpAny_bind (wpAny_field hos hds (x := vl) rfl (wpAny_bind (wpAny_field hos hds (x := vu) rfl (wpAny_bind (wpAny_field hos hds (x := vs) rfl (wpAny_pure ?_)))))))
  refine wpAny_bind (HT.slicePart_ ps ?_)
  show wpAny _ _ (if ((-1 : Int) == 0) = true then _ else _) _ _ s
  rw [if_neg (by decide)]
  refine wpAny_bind (HT.slicePart_ pl (wpAny_bind (HT.slicePart_ pu (wpAny_bind (wpAny_pure (wpAny_pure ?_))))))
  have e : Builtin.Slice.slicePlaces ((n : Int) - 1) (-1) (-1) = n := by
    unfold Builtin.Slice.slicePlaces
    rw [if_neg (by decide)]
    by_cases h : (n : Int) - 1 > -1
    · rw [if_pos h, show ((n : Int) - 1 - -1 - 1) / (- -1) + 1 = (n : Int) by rw [show (- -1 : Int) = 1 by decide, Int.ediv_one]; omega]
      exact Int.toNat_natCast n
    · rw [if_neg h]
      omega
  show R ((n : Int) - 1, -1, Builtin.Slice.slicePlaces ((n : Int) - 1) (-1) (-1)) s
  rw [e]
  exact hR
theorem getItem_tuple_back {t sl : Addr} {items : Array Value} {vl vu vs : Value} {Q : Value → Shared → Prop} (ht : IsTup s.heap t items) (hs : s.heap.IsSliceOf sl vl vu vs)
    (pl : IsPart vl none) (pu : IsPart vu none) (ps : IsPart vs (some (-1))) (h : Q (.ref s.heap.objs.size) { s with heap := s.heap.push { cls := .type "tuple", data := .seq items.toList.reverse.toArray } }) (hsz : items.size ≤ sizeLine) :
    wpAny (model prog w) A (getItem (.ref t) (.ref sl)) Q E s := by
  obtain ⟨os, hos, hcs, hds⟩ := id hs
  have hTs : s.TypeIs (.ref sl) "slice" := ⟨os, hos, hcs⟩
  have room : sizeOk (.seq items.toList.reverse.toArray) := by
    show items.toList.reverse.toArray.size ≤ sizeLine
    rw [List.size_toArray, List.length_reverse, Array.length_toList]
    exact hsz
  unfold getItem
  try with_reducible refine wpAny_holding ?_
  first | refine wpAny_bind (wpAny_pure ?_) | skip
  refine wpAny_bind (wpAny_sequenceKey ht.typeIs (by decide) ?_)
  refine wpAny_bind (wpAny_callSpecial?_slot (name := Str.ofString "__getitem__") ht.typeIs PyProof.Rows.slot_tuple_getitem (wpAny_call_entry PyProof.Rows.slot_tuple_getitem ht.typeIs entry_tuple_getitem ?_ (args_tuple_getitem _ _)))
  show wpAny _ _ (Builtin.Tuple.tupleItemsOf (.ref t) >>= _) _ _ s
  refine wpAny_bind (tupleItemsOf_ ht (wpAny_bind (wpAny_typeOf hTs ?_)))
  rw [if_pos (by decide)]
  refine wpAny_bind (sliceApplied_back hs pl pu ps ?_)
  have one : ¬ (((((items.size : Int) - 1) == 0 && ((-1 : Int) == 1)) && (items.size == items.size)) = true) := by
    rw [show ((-1 : Int) == 1) = false by decide, Bool.and_false, Bool.false_and]
    exact Bool.false_ne_true
  show wpAny _ _ (if ((((items.size : Int) - 1) == 0 && ((-1 : Int) == 1)) && (items.size == items.size)) = true then _ else _) _ _ s
  rw [if_neg one, back_pick]
  first
    | exact wpAny_bind (m := Builtin.Tuple.tupleExact _) (wpAny_newObj_type (wpAny_pure ⟨_, rfl, wpAny_pure h⟩) room)
    | exact wpAny_bind (m := Builtin.Tuple.tupleExact _) (wpAny_newObj_type (wpAny_bind (wpAny_pure (wpAny_pure ⟨_, rfl, wpAny_pure h⟩))) room)
    | exact wpAny_bind (wpAny_bind (m := Builtin.Tuple.tupleExact _) (wpAny_newObj_type (wpAny_pure (wpAny_pure ⟨_, rfl, wpAny_pure h⟩)) room))
    | exact wpAny_bind (wpAny_bind (m := Builtin.Tuple.tupleExact _) (wpAny_newObj_type (wpAny_pure ⟨_, rfl, wpAny_pure h⟩) room))
end
def tRevT (K : PySem.W.Frag) (te : TE) : TE := fun σ H Q => te σ H fun x H1 => ∃ a xs, x = .ref a ∧ SqT K H1 a xs ∧ ∀ p, H1 p = none → Q (.ref p) (upd H1 p (.tup xs.reverse))
theorem pe_revT {X : Cx} {e : Expr} {te : TE} {k : Nat} {p1 p2 p3 pos : Pos} (he : PE X e te) : PE X (.Subscript e (.Slice none none (some (.UnaryOp .USub (.Constant (.int 1) k p1) p2)) p3) pos) (tRevT X.K te) := by
  refine ⟨fun pins s σ H Q I h => Subscript_ (thn (he.run pins s σ H _ I h) fun v s1 hh => ?_)⟩
  obtain ⟨x, H1, I1, r1, a, xs, ex, hx, q⟩ := hh
  subst ex
  cases r1
  have step : PO X (some (.UnaryOp .USub (.Constant (.int 1) k p1) p2)) (tPart (tUn (rU fun i => .int (-i)) (tC (.int 1)))) := po_some (pe_un un_neg pe_int)
  refine wpAny_Slice (thn (po_none.run pins s1 σ H1 (fun o H2 => o = none ∧ H2 = H1) I1 ⟨rfl, rfl⟩) fun vl s2 hh => ?_)
  obtain ⟨l, H2, I2, pl, el, e2⟩ := hh
  subst el e2
  refine thn (po_none.run pins s2 σ H2 (fun o H3 => o = none ∧ H3 = H2) I2 ⟨rfl, rfl⟩) fun vu s3 hh => ?_
  obtain ⟨u, H3, I3, pu, eu, e3⟩ := hh
  subst eu e3
  refine thn (step.run pins s3 σ H3 (fun o H4 => o = some (-1) ∧ H4 = H3) I3 ⟨1, rfl, -1, rfl, rfl, rfl⟩) fun vs s4 hh => ?_
  obtain ⟨o, H4, I4, ps, eo, e4⟩ := hh
  subst eo e4
  have I5 := I4.kept (h' := s4.heap.push { cls := .type "slice", data := .fields #[vl, vu, vs] }) (t' := s4.toks) fun b ob q => Heap.get?_push_of_some _ q
  obtain ⟨its, r, ht, hz⟩ := I5.tuple hx
  have hlen := r.length
  show wpAny (model X.prog X.w) X.A (subscriptTail e (.Slice none none (some (.UnaryOp .USub (.Constant (.int 1) k p1) p2)) p3) (.ref a) (.ref s4.heap.objs.size)) (EP X pins σ Q) X.xe { s4 with heap := s4.heap.push { cls := .type "slice", data := .fields #[vl, vu, vs] } }
  refine tail_any (ops := [.ref a, .ref s4.heap.objs.size]) ht.typeIs PyProof.Rows.slot_tuple_getitem.lookup ?_ (by with_unfolding_all rfl)
  refine getItem_tuple_back ht (Heap.IsSliceOf.new _ vl vu vs) pl pu ps ?_ (by rw [List.size_toArray, ← hlen]; exact hz)
  refine ⟨.ref _, _, I5.laid (t' := s4.toks) (o := .tup xs.reverse) (fun b ob q => Heap.get?_push_of_some _ q) (Nat.le_refl _) ?_, rfl, q _ (I5.hok.fresh (Nat.le_refl _))⟩
  exact ⟨by rw [List.length_reverse]; exact hz, _, r.reverse, IsTup.new _ _⟩

/-! ### the law's odd values -/
def oddA : List PyData := [.none, .bool true, .bool false, .int 0, .int 1, .int (-1), .int (10 ^ (29 : Int).toNat), .str "", .str "0 1", .tuple [], .list [], .dict [], .tuple [.int 0], .list [.int 0], .tuple [.bool true], .tuple [.tuple []], .dict [(.str "a", .int 0)]]
def oddB : List PyData := [.tuple [.tuple [.int 0, .int 1]], .tuple [.tuple [.int 0, .int 1], .tuple [.int 2, .int 3]], .tuple [.str "0", .str "1"], .tuple [.none, .none]]
def valB (d : PyData) : Bool := okB 140 3 d && (!d.hasDict || noL d)
theorem val_odd {d : PyData} (h : d ∈ oddA ++ oddB) : Bd 140 3 d ∧ Nx d := by
  have all : (oddA ++ oddB).all valB = true := by decide +kernel
  have h := List.all_eq_true.mp all d h
  unfold valB at h
  rw [Bool.and_eq_true] at h
  refine ⟨bd_of h.1, fun e => ?_⟩
  have := h.2
  rw [e] at this
  simpa using this
theorem scOdd : FnScope ["_law_deck_here", "_law_items"] ["_law_deck_here"] (defScope sOdd) := ⟨rfl, rfl, rfl, by decide +kernel, rfl, by decide +kernel, by decide +kernel⟩
section
variable {P : Program} {w : World} {K : PySem.W.Frag} {mg : Str → Option Value} {base : Heap}

def spOdd : Sp := fun vs H Q _ => ∃ (X : Addr → Prop) (dk c : Addr) (B : Nat), vs = [.ref dk] ∧ LX X dk c H ∧ Deck H dk c B ∧ B ≤ 1000000 ∧
  ∀ v d H', d ∈ oddA ++ oddB → Kp2 dk c H H' → Deck H' dk c (B + 1) → Dq (Wo X H') v d → Q v H'
theorem ok_odd {f fN fU fTu fA fAu fO fFu fCo fSp fCa fIr fTk fI fR fFc fLo fSo fOv fDw fSv fCh fUd fEt fAo fAd fDk fD fS fTt fW fPl fLu fLs fLc fM fE fX fNu fId fKn fHo fAy fOo fRp fAt fVa : Addr} {fd dN dU dTu dA dAu dO dFu dCo dSp dCa dIr dTk dI dR dFc dLo dSo dOv dDw dSv dCh dUd dEt dAo dAd dDk dD dS dTt dW dPl dLu dLs dLc dM dE dX dNu dId dKn dHo dAy dOo dRp dAt dVa : FuncData} {k : Nat} (F : Fun K "_law_odd" "_law_odd" sOdd f fd) (T : Tx K mg fN fU fTu fA fAu fO fFu fCo fSp fCa fIr fTk fI fR fFc fLo fSo fOv fDw fSv fCh fUd fEt fAo fAd fDk fD fS fTt fW fPl fLu fLs fLc fM fE fX fNu fId fKn fHo fAy fOo fRp fAt fVa dN dU dTu dA dAu dO dFu dCo dSp dCa dIr dTk dI dR dFc dLo dSo dOv dDw dSv dCh dUd dEt dAo dAd dDk dD dS dTt dW dPl dLu dLs dLc dM dE dX dNu dId dKn dHo dAy dOo dRp dAt dVa) :
    FnOk P w K mg base CX0 (k + 2) f fd ["_law_deck_here"] spOdd := by
  have GD : FnOk P w K mg base CX0 (k + 1) fD dD ["_law_deck_here", "_law_bound"] spDraw := ok_draw T.D T.m_len T.m_max
  refine F.ok scOdd (fun vs H Q E h => ?_) (fun cdv A outer s H vs Q E hr h => ?_)
  · obtain ⟨X, dk, c, B, rfl, _⟩ := h
    rfl
  · obtain ⟨X, dk, c, B, rfl, hX, dek, hB, q⟩ := h
    refine ⟨_, (pss_cons (ps_set (i := 1) scOdd.nd rfl (.inl rfl) (pe_lst (pa_cons pe_non (pa_cons pe_bl (pa_cons pe_bl (pa_cons pe_int (pa_cons pe_int (pa_cons (pe_un un_neg pe_int) (pa_cons (pe_op op_pow pe_int pe_int) (pa_cons pe_str (pa_cons pe_str (pa_cons (pe_tup pa_nil) (pa_cons (pe_lst pa_nil) (pa_cons pe_dnewK (pa_cons (pe_tup (pa_cons pe_int pa_nil)) (pa_cons (pe_lst (pa_cons pe_int pa_nil)) (pa_cons (pe_tup (pa_cons pe_bl pa_nil)) (pa_cons (pe_tup (pa_cons (pe_tup pa_nil) pa_nil)) (pa_cons (pe_disp (pps_cons pe_str pe_int pps_nil) (by rfl) (by rfl) (fun z => by cases z) (by decide)) pa_nil)))))))))))))))))))
      (pss_one (ps_ret (pe_ix (show IxR _ (rIxL K) from ix_list) (pe_op op_cat (pv 1) (pe_lst (pa_cons (pe_tup (pa_cons (pe_tup (pa_cons pe_int (pa_cons pe_int pa_nil))) pa_nil)) (pa_cons (pe_tup (pa_cons (pe_tup (pa_cons pe_int (pa_cons pe_int pa_nil))) (pa_cons (pe_tup (pa_cons pe_int (pa_cons pe_int pa_nil))) pa_nil))) (pa_cons (pe_tup (pa_cons pe_str (pa_cons pe_str pa_nil))) (pa_cons (pe_tup (pa_cons pe_non (pa_cons pe_non pa_nil))) pa_nil)))))) (pe_call GD (hr.mono (by omega)) (by rfl) T.gD T.D.kp T.bD .nil pass0 (pa_cons (pv 0) (pa_cons pe_int pa_nil))) (fun _ _ => rfl))))), ?_⟩
    have LA : ∀ σ, Lit X σ H (tLst _) (.list oddA) := fun σ => (lit_lst hX (litA_cons (lit_c fun _ => .non) (litA_cons (lit_c fun _ => .bl true) (litA_cons (lit_c fun _ => .bl false) (litA_cons (lit_c fun _ => .int 0) (litA_cons (lit_c fun _ => .int 1) (litA_cons (lit_neg (lit_c fun _ => .int 1)) (litA_cons (lit_pow (lit_c fun _ => .int 10) (lit_c fun _ => .int 29) ⟨by decide, by decide, by decide⟩) (litA_cons (lit_c fun _ => .str "") (litA_cons (lit_c fun _ => .str "0 1") (litA_cons (lit_tup hX litA_nil (by decide)) (litA_cons (lit_lst hX litA_nil (by decide)) (litA_cons (lit_d0 hX) (litA_cons (lit_tup hX (litA_cons (lit_c fun _ => .int 0) litA_nil) (by decide)) (litA_cons (lit_lst hX (litA_cons (lit_c fun _ => .int 0) litA_nil) (by decide)) (litA_cons (lit_tup hX (litA_cons (lit_c fun _ => .bl true) litA_nil) (by decide)) (litA_cons (lit_tup hX (litA_cons (lit_tup hX litA_nil (by decide)) litA_nil) (by decide)) (litA_cons (lit_d1 hX) litA_nil))))))))))))))))) (by decide))
    have LB : ∀ σ, Lit X σ H (tLst _) (.list oddB) := fun σ => (lit_lst hX (litA_cons (lit_tup hX (litA_cons (lit_tup hX (litA_cons (lit_c fun _ => .int 0) (litA_cons (lit_c fun _ => .int 1) litA_nil)) (by decide)) litA_nil) (by decide)) (litA_cons (lit_tup hX (litA_cons (lit_tup hX (litA_cons (lit_c fun _ => .int 0) (litA_cons (lit_c fun _ => .int 1) litA_nil)) (by decide)) (litA_cons (lit_tup hX (litA_cons (lit_c fun _ => .int 2) (litA_cons (lit_c fun _ => .int 3) litA_nil)) (by decide)) litA_nil)) (by decide)) (litA_cons (lit_tup hX (litA_cons (lit_c fun _ => .str "0") (litA_cons (lit_c fun _ => .str "1") litA_nil)) (by decide)) (litA_cons (lit_tup hX (litA_cons (lit_c fun _ => .non) (litA_cons (lit_c fun _ => .non) litA_nil)) (by decide)) litA_nil)))) (by decide))
    unfold tSeq tAsg
    refine LA _ H _ (Same.refl _) fun v H1 s1 q1 => ?_
    cases q1 with
    | @lst a xs _ ha hs =>
      refine ⟨.ref a, rfl, LB _ H1 _ s1 fun u H2 s2 q2 => ?_⟩
      cases q2 with
      | @lst b ys _ hb hs2 =>
        have hlA : xs.length = 17 := hs.len
        have hlB : ys.length = 4 := hs2.len
        refine ⟨a, b, xs, ys, rfl, rfl, s2 _ _ (wo_some ha).1, (wo_some hb).1, Nat.le_of_lt (len_lt (by omega)), fun p np => ?_⟩
        have s3 : Same H (upd H2 p (.lst (xs ++ ys))) := s1.trans (s2.trans (same_new np))
        refine ⟨_, rfl, dk, c, B, 21, rfl, dek.keep s3, hB, by decide, by decide, fun r H3 r0 r1 k3 d3 => ?_⟩
        obtain ⟨n1, n2⟩ := hX.no (new_ne hX (s1.trans s2) np)
        have hp3 : H3 p = some (.lst (xs ++ ys)) := k3 _ _ n1 n2 upd_same
        obtain ⟨j, rfl⟩ : ∃ j : Nat, r = (j : Int) := ⟨r.toNat, by omega⟩
        have hj : j < (xs ++ ys).length := by
          rw [List.length_append]
          omega
        have hx : (xs ++ ys)[j]? = some (xs ++ ys)[j] := List.getElem?_eq_getElem hj
        have all : DqAll (Wo X H3) (xs ++ ys) (oddA ++ oddB) := DqAll.same ((wo_same (same_new np)).trans (wo_kp hX k3)) _ _ ((DqAll.same (wo_same s2) _ _ hs).app hs2)
        obtain ⟨d, hd', hq⟩ := all.get hx
        exact ⟨p, _, (j : Int), _, rfl, rfl, SqL.of hp3, atI_nat hx, q _ d H3 (List.mem_of_getElem? hd') ((kps s3).trans k3) d3 hq⟩

/-! ### plain values: numbers, short texts, tuples of such -/
mutual
def plainD : PyData → Bool
  | .int i => decide (-1000 ≤ i) && decide (i ≤ 1000)
  | .str x => decide (x.cps.size ≤ 10) && PyData.strOk x
  | .tuple ds => plainDs ds
  | _ => false
def plainDs : List PyData → Bool
  | [] => true
  | d :: ds => plainD d && plainDs ds
end
theorem plain_mem : ∀ {ds : List PyData}, plainDs ds = true → ∀ d ∈ ds, plainD d = true
  | d :: ds, h, x, hx => by
    have h : (plainD d && plainDs ds) = true := h
    rw [Bool.and_eq_true] at h
    rcases List.mem_cons.mp hx with rfl | hx
    · exact h.1
    · exact plain_mem h.2 x hx
theorem plain_int {i : Int} (h : plainD (.int i) = true) : -1000 ≤ i ∧ i ≤ 1000 := by
  have h : (decide (-1000 ≤ i) && decide (i ≤ 1000)) = true := h
  rw [Bool.and_eq_true] at h
  exact ⟨of_decide_eq_true h.1, of_decide_eq_true h.2⟩
theorem log_1001 {i : Int} (h0 : -1002 ≤ i) (h : i ≤ 1002) : i.natAbs.log2 ≤ 11 := log2_lt_of (by omega)
theorem sint {i : Int} (h0 : -1002 ≤ i) (h : i ≤ 1002) : (PyData.int i).leavesShort 48 = true ∧ (PyData.int i).showable = true ∧ (PyData.int i).weight ≤ 12 := by
  have h11 := log_1001 h0 h
  have hl : (toString i).length ≤ 48 := Nat.le_trans (int_text_length_le (a := i) (k := 12) (by decide) (by omega)) (by decide)
  refine ⟨decide_eq_true ?_, decide_eq_true (by omega), ?_⟩
  · show (Str.ofString (toString i)).length ≤ 48
    rw [PySem.ofString_length]
    exact hl
  · show (if i == 0 then 0 else i.natAbs.log2 + 1) ≤ 12
    split
    · omega
    · omega
theorem bd_sint {i : Int} (h0 : -1002 ≤ i) (h : i ≤ 1002) : Bd 12 0 (.int i) := ⟨(sint h0 h).1, (sint h0 h).2.1, (sint h0 h).2.2, Nat.le_refl _⟩
theorem strOk_short {x : Str} (h : PyData.strOk x = true) : (PyData.str x).leavesShort 48 = true := by
  unfold PyData.strOk at h
  show (x.cps.toList.all fun c => decide (c < 16 ^ 8)) = true
  rw [← Array.all_toList, List.all_eq_true] at h
  rw [List.all_eq_true]
  intro c hc
  have := of_decide_eq_true (h c hc)
  exact decide_eq_true (by omega)
mutual
theorem plain_ok : ∀ d : PyData, plainD d = true → d.leavesShort 48 = true ∧ d.showable = true ∧ d.canLay0 = true ∧ Pl d
  | .int i, h => by
    obtain ⟨h0, h1⟩ := plain_int h
    have s := sint (i := i) (by omega) (by omega)
    exact ⟨s.1, s.2.1, rfl, rfl, rfl⟩
  | .str x, h => by
    have h : (decide (x.cps.size ≤ 10) && PyData.strOk x) = true := h
    rw [Bool.and_eq_true] at h
    exact ⟨strOk_short h.2, rfl, h.2, rfl, rfl⟩
  | .tuple ds, h => by
    obtain ⟨h1, h2, h3, h4, h5⟩ := plains_ok ds h
    exact ⟨h1, h2, h3, h4, h5⟩
  | .none, h => by cases h
  | .bool _, h => by cases h
  | .list _, h => by cases h
  | .dict _, h => by cases h
theorem plains_ok : ∀ ds : List PyData, plainDs ds = true → PyData.leavesShortAll 48 ds = true ∧ PyData.showableAll ds = true ∧ PyData.canLayAll0 ds = true ∧ PyData.hasDictAll ds = false ∧ noLs ds = true
  | [], _ => ⟨rfl, rfl, rfl, rfl, rfl⟩
  | d :: ds, h => by
    have h : (plainD d && plainDs ds) = true := h
    rw [Bool.and_eq_true] at h
    obtain ⟨a1, a2, a3, a4, a5⟩ := plain_ok d h.1
    obtain ⟨b1, b2, b3, b4, b5⟩ := plains_ok ds h.2
    refine ⟨?_, ?_, ?_, ?_, ?_⟩
    · show (d.leavesShort 48 && PyData.leavesShortAll 48 ds) = true
      rw [a1, b1]; rfl
    · show (d.showable && PyData.showableAll ds) = true
      rw [a2, b2]; rfl
    · show (d.canLay0 && PyData.canLayAll0 ds) = true
      rw [a3, b3]; rfl
    · show (d.hasDict || PyData.hasDictAll ds) = false
      rw [a4, b4]; rfl
    · show (noL d && noLs ds) = true
      rw [a5, b5]; rfl
end
mutual
theorem plain_dp {K : PySem.W.Frag} {H : Hp} : ∀ (d : PyData) (v : V), plainD d = true → Dq H v d → Dp K H v d
  | .int i, _, _, h => by cases h; exact .int i
  | .str x, _, _, h => by cases h; exact .str x
  | .tuple ds, _, p, h => by
    cases h with
    | tup a b => exact .tup (SqT.of a) (plain_dps ds _ p b)
  | .none, _, p, _ => by cases p
  | .bool _, _, p, _ => by cases p
  | .list _, _, p, _ => by cases p
  | .dict _, _, p, _ => by cases p
theorem plain_dps {K : PySem.W.Frag} {H : Hp} : ∀ (ds : List PyData) (vs : List V), plainDs ds = true → DqAll H vs ds → DpAll K H vs ds
  | [], _, _, h => by cases h; exact .nil
  | d :: ds, _, p, h => by
    have p : (plainD d && plainDs ds) = true := p
    rw [Bool.and_eq_true] at p
    cases h with
    | cons a b => exact .cons (plain_dp d _ p.1 a) (plain_dps ds _ p.2 b)
end
/-- how great a plain value is -/
structure Pv (w m : Nat) (d : PyData) : Prop where
  pl : plainD d = true
  wt : d.weight ≤ w
  dp : d.depth ≤ m
theorem Pv.bd {w m : Nat} {d : PyData} (a : Pv w m d) : Bd w m d := ⟨(plain_ok d a.pl).1, (plain_ok d a.pl).2.1, a.wt, a.dp⟩
theorem weight_app : ∀ a b : List PyData, PyData.weightAll (a ++ b) = PyData.weightAll a + PyData.weightAll b
  | [], b => by rw [List.nil_append]; exact (Nat.zero_add _).symm
  | x :: a, b => by
    show x.weight + 1 + PyData.weightAll (a ++ b) = x.weight + 1 + PyData.weightAll a + PyData.weightAll b
    rw [weight_app a b]
    omega
theorem depth_app : ∀ a b : List PyData, PyData.depthAll (a ++ b) = max (PyData.depthAll a) (PyData.depthAll b)
  | [], b => by
    rw [List.nil_append]
    exact (Nat.max_eq_right (Nat.zero_le _)).symm
  | x :: a, b => by
    show max x.depth (PyData.depthAll (a ++ b)) = max (max x.depth (PyData.depthAll a)) (PyData.depthAll b)
    rw [depth_app a b, Nat.max_assoc]
theorem short_app : ∀ a b : List PyData, PyData.leavesShortAll 48 (a ++ b) = (PyData.leavesShortAll 48 a && PyData.leavesShortAll 48 b)
  | [], b => rfl
  | x :: a, b => by
    show (x.leavesShort 48 && PyData.leavesShortAll 48 (a ++ b)) = (x.leavesShort 48 && PyData.leavesShortAll 48 a && PyData.leavesShortAll 48 b)
    rw [short_app a b, Bool.and_assoc]
theorem show_app : ∀ a b : List PyData, PyData.showableAll (a ++ b) = (PyData.showableAll a && PyData.showableAll b)
  | [], b => rfl
  | x :: a, b => by
    show (x.showable && PyData.showableAll (a ++ b)) = (x.showable && PyData.showableAll a && PyData.showableAll b)
    rw [show_app a b, Bool.and_assoc]
theorem wt_mem : ∀ {ds : List PyData} {d : PyData}, d ∈ ds → d.weight + 1 ≤ PyData.weightAll ds
  | x :: ds, d, h => by
    show d.weight + 1 ≤ x.weight + 1 + PyData.weightAll ds
    rcases List.mem_cons.mp h with rfl | h
    · omega
    · have := wt_mem h
      omega
theorem dp_mem : ∀ {ds : List PyData} {d : PyData}, d ∈ ds → d.depth ≤ PyData.depthAll ds
  | x :: ds, d, h => by
    show d.depth ≤ max x.depth (PyData.depthAll ds)
    rcases List.mem_cons.mp h with rfl | h
    · exact Nat.le_max_left _ _
    · exact Nat.le_trans (dp_mem h) (Nat.le_max_right _ _)
theorem len_wt : ∀ ds : List PyData, ds.length ≤ PyData.weightAll ds
  | [] => Nat.le_refl _
  | d :: ds => by
    have := len_wt ds
    show ds.length + 1 ≤ d.weight + 1 + PyData.weightAll ds
    omega
theorem Pv.item {w m : Nat} {ds : List PyData} {d : PyData} (a : Pv w m (.tuple ds)) (h : d ∈ ds) : Pv (w - 1) (m - 1) d := by
  have h1 := wt_mem h
  have h2 := a.wt
  have h3 := dp_mem h
  have h4 : PyData.depthAll ds + 1 ≤ m := a.dp
  have h5 : PyData.weightAll ds ≤ w := h2
  exact ⟨plain_mem a.pl d h, by omega, by omega⟩
/-- a plain tuple with one item replaced by any value -/
theorem bd_put {w m w2 m2 : Nat} {ds : List PyData} {j : Nat} {x y : PyData} (a : Pv w m (.tuple ds)) (hj : ds[j]? = some y) (hx : Bd w2 m2 x) (nx : Nx x) : Bd (w + w2) (max m (m2 + 1)) (.tuple (ds.take j ++ [x] ++ ds.drop (j + 1))) ∧ Nx (.tuple (ds.take j ++ [x] ++ ds.drop (j + 1))) := by
  obtain ⟨p1, p2, _, p4, p5⟩ := plains_ok ds a.pl
  have ha : PyData.weightAll ds ≤ w := a.wt
  have hd : PyData.depthAll ds + 1 ≤ m := a.dp
  have hjl := (List.getElem?_eq_some_iff.mp hj).1
  have e : ds = ds.take j ++ ([y] ++ ds.drop (j + 1)) := by
    conv => lhs; rw [← List.take_append_drop j ds]
    congr 1
    rw [List.drop_eq_getElem_cons hjl]
    have : ds[j] = y := Option.some.inj ((List.getElem?_eq_getElem hjl).symm.trans hj)
    rw [this]
    rfl
  have sub1 : ∀ z ∈ ds.take j, z ∈ ds := fun z hz => List.mem_of_mem_take hz
  have sub2 : ∀ z ∈ ds.drop (j + 1), z ∈ ds := fun z hz => List.mem_of_mem_drop hz
  have e1 := congrArg PyData.weightAll e
  rw [weight_app, weight_app] at e1
  have e2 := congrArg PyData.depthAll e
  rw [depth_app, depth_app] at e2
  have e3 := congrArg (PyData.leavesShortAll 48) e
  rw [short_app, short_app, p1] at e3
  have e4 := congrArg PyData.showableAll e
  rw [show_app, show_app, p2] at e4
  have e3 := e3.symm
  have e4 := e4.symm
  simp only [Bool.and_eq_true] at e3 e4
  have w1 : PyData.weightAll [y] = y.weight + 1 := rfl
  have w3 : PyData.weightAll [x] = x.weight + 1 := rfl
  have d3 : PyData.depthAll [x] = max x.depth 0 := rfl
  have hxw := hx.wt
  have hxd := hx.dp
  refine ⟨⟨?_, ?_, ?_, ?_⟩, ?_⟩
  · show PyData.leavesShortAll 48 (ds.take j ++ [x] ++ ds.drop (j + 1)) = true
    rw [short_app, short_app, e3.1, e3.2.2]
    show ((true && (x.leavesShort 48 && true)) && true) = true
    rw [hx.short]
    rfl
  · show PyData.showableAll (ds.take j ++ [x] ++ ds.drop (j + 1)) = true
    rw [show_app, show_app, e4.1, e4.2.2]
    show ((true && (x.showable && true)) && true) = true
    rw [hx.show_]
    rfl
  · show PyData.weightAll (ds.take j ++ [x] ++ ds.drop (j + 1)) ≤ w + w2
    rw [weight_app, weight_app, w3]
    omega
  · show PyData.depthAll (ds.take j ++ [x] ++ ds.drop (j + 1)) + 1 ≤ max m (m2 + 1)
    rw [depth_app, depth_app, d3]
    omega
  · refine nx_mem nx fun z hz => ?_
    rcases List.mem_append.mp hz with h | h
    · rcases List.mem_append.mp h with h | h
      · exact .inr (plain_ok z (plain_mem a.pl z (sub1 z h))).2.2.2
      · exact .inl (List.mem_singleton.mp h)
    · exact .inr (plain_ok z (plain_mem a.pl z (sub2 z h))).2.2.2
/-- a list of items of a plain tuple -/
theorem bd_sub {w m n : Nat} {ds es : List PyData} (a : Pv w m (.tuple ds)) (h : ∀ z ∈ es, z ∈ ds) (hw : PyData.weightAll es ≤ n) : Bd n m (.tuple es) ∧ Bd n m (.list es) ∧ Nx (.tuple es) ∧ Nx (.list es) := by
  have pl : ∀ z ∈ es, plainD z = true := fun z hz => plain_mem a.pl z (h z hz)
  have b : ∀ z ∈ es, Bd z.weight (m - 1) z := fun z hz => by
    have q := a.item (h z hz)
    exact ⟨(plain_ok z q.pl).1, (plain_ok z q.pl).2.1, Nat.le_refl _, q.dp⟩
  have hm : 1 ≤ m := by
    have : PyData.depthAll ds + 1 ≤ m := a.dp
    omega
  have all : ∀ {es : List PyData}, (∀ z ∈ es, Bd z.weight (m - 1) z) → PyData.leavesShortAll 48 es = true ∧ PyData.showableAll es = true ∧ PyData.depthAll es ≤ m - 1 := fun {es} => by
    induction es with
    | nil => intro _; exact ⟨rfl, rfl, Nat.zero_le _⟩
    | cons x es ih =>
      intro hb
      obtain ⟨i1, i2, i3⟩ := ih fun z hz => hb z (List.mem_cons_of_mem _ hz)
      have hx := hb x List.mem_cons_self
      refine ⟨?_, ?_, Nat.max_le.mpr ⟨hx.dp, i3⟩⟩
      · show (x.leavesShort 48 && PyData.leavesShortAll 48 es) = true
        rw [hx.short, i1]
        rfl
      · show (x.showable && PyData.showableAll es) = true
        rw [hx.show_, i2]
        rfl
  obtain ⟨h1, h2, h3⟩ := all b
  have hpl : ∀ z ∈ es, Pl z := fun z hz => (plain_ok z (pl z hz)).2.2.2
  exact ⟨⟨h1, h2, hw, by show PyData.depthAll es + 1 ≤ m; omega⟩, ⟨h1, h2, hw, by show PyData.depthAll es + 1 ≤ m; omega⟩, (nx_pl hpl).nx, nx_lst hpl⟩
end
end DD
namespace DD
open PySem PySem.Spec PyProof.Rows L2 RZ
abbrev NRp : List Str := ["_law_deck_here", "_law_value", "_law_depth", "_law_at", "_law_part", "_law_way"]
theorem scRepl : FnScope NRp ["_law_deck_here", "_law_value", "_law_depth"] (defScope sRepl) := ⟨rfl, rfl, rfl, by decide +kernel, rfl, by decide +kernel, by decide +kernel⟩
theorem lay_ofString (s : String) (h : s.length ≤ 40) : Bd 40 0 (.str (Str.ofString s)) := by
  refine ⟨?_, rfl, ?_, Nat.le_refl _⟩
  · show ((Str.ofString s).cps.toList.all fun c => decide (c < 16 ^ 8)) = true
    rw [Str.ofString_eq_toList, List.all_eq_true]
    intro c hc
    have hc : c ∈ s.toList.map Char.toNat := by simpa using hc
    obtain ⟨ch, _, rfl⟩ := List.mem_map.mp hc
    have := ch.val.toNat_lt
    exact decide_eq_true (by show ch.val.toNat < _; omega)
  · have e := PySem.ofString_length s
    show (Str.ofString s).cps.size ≤ 40
    have e2 : (Str.ofString s).length = (Str.ofString s).cps.size := rfl
    omega
theorem wt_take : ∀ (ds : List PyData) (n : Nat), PyData.weightAll (ds.take n) ≤ PyData.weightAll ds
  | [], n => by rw [List.take_nil]; exact Nat.le_refl _
  | d :: ds, 0 => Nat.zero_le _
  | d :: ds, n + 1 => by
    have := wt_take ds n
    show d.weight + 1 + PyData.weightAll (ds.take n) ≤ d.weight + 1 + PyData.weightAll ds
    omega
theorem wt_drop : ∀ (ds : List PyData) (n : Nat), PyData.weightAll (ds.drop n) ≤ PyData.weightAll ds
  | [], n => by rw [List.drop_nil]; exact Nat.le_refl _
  | d :: ds, 0 => Nat.le_refl _
  | d :: ds, n + 1 => by
    have := wt_drop ds n
    show PyData.weightAll (ds.drop n) ≤ d.weight + 1 + PyData.weightAll ds
    omega
theorem wt_rev : ∀ ds : List PyData, PyData.weightAll ds.reverse = PyData.weightAll ds
  | [] => rfl
  | d :: ds => by
    rw [List.reverse_cons, weight_app, wt_rev ds]
    show PyData.weightAll ds + (d.weight + 1 + 0) = d.weight + 1 + PyData.weightAll ds
    omega
theorem dq_rev {H : Hp} : ∀ {vs : List V} {ds : List PyData}, DqAll H vs ds → DqAll H vs.reverse ds.reverse
  | _, _, .nil => .nil
  | _, _, .cons a b => by
    rw [List.reverse_cons, List.reverse_cons]
    exact (dq_rev b).app (.cons a .nil)
theorem cons_one {ds : List PyData} (h : ds ≠ []) : (ds.take 1).length = 1 := by
  cases ds with
  | nil => exact absurd rfl h
  | cons a b => rfl
section
variable {P : Program} {w : World} {K : PySem.W.Frag} {mg : Str → Option Value} {base : Heap}

def spRp (e : Nat) : Sp := fun vs H Q _ => ∃ (X : Addr → Prop) (dk c : Addr) (B : Nat) (v : V) (d : PyData) (w m : Nat), vs = [.ref dk, v, .int (e : Int)] ∧ LX X dk c H ∧ Deck H dk c B ∧ B + 10 * (e + 1) ≤ 1000000 ∧ Dq (Wo X H) v d ∧ Pv w m d ∧ w ≤ 900 ∧ 1 ≤ m ∧ m ≤ 40 ∧
  ∀ v' d' H', Bd ((e + 2) * w + 200) (m + 3 + e) d' → Nx d' → Kp2 dk c H H' → Deck H' dk c (B + 10 * (e + 1)) → Dq (Wo X H') v' d' → Q v' H'
def spG : Nat → Sp
  | 0 => fun _ _ _ _ => False
  | e + 1 => spRp e
theorem spG_e {e : Nat} {vs : List V} {H : Hp} {Q : VK} {E : XK} (h : 1 ≤ e) (q : spRp (e - 1) vs H Q E) : spG e vs H Q E := by
  cases e with
  | zero => omega
  | succ e => exact q
set_option maxHeartbeats 1600000 in
theorem repl_body {fN fU fTu fA fAu fO fFu fCo fSp fCa fIr fTk fI fR fFc fLo fSo fOv fDw fSv fCh fUd fEt fAo fAd fDk fD fS fTt fW fPl fLu fLs fLc fM fE fX fNu fId fKn fHo fAy fOo fRp fAt fVa : Addr} {dN dU dTu dA dAu dO dFu dCo dSp dCa dIr dTk dI dR dFc dLo dSo dOv dDw dSv dCh dUd dEt dAo dAd dDk dD dS dTt dW dPl dLu dLs dLc dM dE dX dNu dId dKn dHo dAy dOo dRp dAt dVa : FuncData} {k : Nat} (T : Tx K mg fN fU fTu fA fAu fO fFu fCo fSp fCa fIr fTk fI fR fFc fLo fSo fOv fDw fSv fCh fUd fEt fAo fAd fDk fD fS fTt fW fPl fLu fLs fLc fM fE fX fNu fId fKn fHo fAy fOo fRp fAt fVa dN dU dTu dA dAu dO dFu dCo dSp dCa dIr dTk dI dR dFc dLo dSo dOv dDw dSv dCh dUd dEt dAo dAd dDk dD dS dTt dW dPl dLu dLs dLc dM dE dX dNu dId dKn dHo dAy dOo dRp dAt dVa) (e : Nat) (G : FnOk P w K mg base CX0 (k + 2 + e) fRp dRp ["_law_deck_here", "_law_value", "_law_depth"] (spG e)) :
    FnOk P w K mg base CX0 (k + 2 + e + 1) fRp dRp ["_law_deck_here", "_law_value", "_law_depth"] (spRp e) := by
  have GD : FnOk P w K mg base CX0 (k + 1) fD dD ["_law_deck_here", "_law_bound"] spDraw := ok_draw T.D T.m_len T.m_max
  have GO : FnOk P w K mg base CX0 (k + 2) fOo dOo ["_law_deck_here"] spOdd := ok_odd T.Oo T
  refine T.Rp.ok scRepl (fun vs H Q E h => ?_) (fun cdv A outer s H vs Q E hr h => ?_)
  · obtain ⟨X, dk, c, B, v, d, w, m, rfl, _⟩ := h
    rfl
  · obtain ⟨X, dk, c, B, v, d, w, m, rfl, hX, dek, hB, hd, hpv, hw, hm, hm40, q⟩ := h
    refine ⟨_, (C8.pss_cut (ps_if (PW.pt (pw_and (pt_val (pe_callB (show CallR _ _ (rIsi K) from call_isi) (by rfl) T.m_isinstance (by decide +kernel) (pa_cons (pv 1) (pa_cons (pe_bltn (v := .ty "tuple") (by rfl) T.m_tuple (by decide +kernel) rfl) pa_nil)))) (pw_and (pt_cmpR (op_neD hr.units) (pv 1) (pe_tup pa_nil) (nomark _)) (pw_and (pt_cmpR op_gt (pv 2) pe_int (nomark _)) (pw_and1 (pt_cmpR op_gt (pe_call GD (hr.mono (by omega)) (by rfl) T.gD T.D.kp T.bD .nil pass0 (pa_cons (pv 0) (pa_cons pe_int pa_nil))) pe_int (nomark _))))))) (pss_cons (ps_set (i := 3) scRepl.nd rfl (.inl rfl) (pe_call GD (hr.mono (by omega)) (by rfl) T.gD T.D.kp T.bD .nil pass0 (pa_cons (pv 0) (pa_cons (pe_callB call_len_seq (by rfl) T.m_len PySem.boot_len (pa_cons (pv 1) pa_nil)) pa_nil))))
      (pss_cons (ps_set (i := 4) scRepl.nd rfl (.inl rfl) (pe_call G (hr.mono (by omega)) (by rfl) T.gRp T.Rp.kp T.bRp .nil pass0 (pa_cons (pv 0) (pa_cons (pe_ix (show IxR _ (rIxT K) from ix_tup) (pv 1) (pv 3) (fun _ _ => rfl)) (pa_cons (pe_op op_sub (pv 2) pe_int) pa_nil)))))
      (pss_one (ps_ret (pe_op op_catQ (pe_op op_catQ (pe_slice sl_tupQ (pv 1) po_none (po_some (pv 3))) (pe_tup (pa_cons (pv 4) pa_nil))) (pe_slice sl_tupQ (pv 1) (po_some (pe_op op_add (pv 3) pe_int)) po_none)))))) pss_nil)
      (pss_cons (ps_set (i := 5) scRepl.nd rfl (.inl rfl) (pe_call GD (hr.mono (by omega)) (by rfl) T.gD T.D.kp T.bD .nil pass0 (pa_cons (pv 0) (pa_cons pe_int pa_nil))))
      (pss_cons (ps_if (pt_val (pe_callB (show CallR _ _ (rIsi K) from call_isi) (by rfl) T.m_isinstance (by decide +kernel) (pa_cons (pv 1) (pa_cons (pe_bltn (v := .ty "tuple") (by rfl) T.m_tuple (by decide +kernel) rfl) pa_nil)))) (pss_one (ps_ret (pe_ix (show IxR _ (rIxL K) from ix_list) (pe_lst (pa_cons (pe_op op_catQ (pv 1) (pe_slice sl_tupQ (pv 1) po_none (po_some pe_int))) (pa_cons (pe_slice sl_tupQ (pv 1) (po_some pe_int) po_none) (pa_cons (pe_revT (pv 1)) (pa_cons (pe_callTy (T := "list") (show CallR _ _ (rLstQ K) from call_list_of) (by rfl) T.m_list (by decide +kernel) (pa_cons (pv 1) pa_nil)) (pa_cons (pe_call GO (hr.mono (by omega)) (by rfl) T.gOo T.Oo.kp T.bOo .nil pass0 (pa_cons (pv 0) pa_nil)) pa_nil)))))) (pv 5) (fun _ _ => rfl)))) pss_nil)
      (pss_cons (ps_if (PW.pt (pw_and (pt_val (pe_callB (show CallR _ _ (rIsi K) from call_isi) (by rfl) T.m_isinstance (by decide +kernel) (pa_cons (pv 1) (pa_cons (pe_bltn (v := .ty "int") (by rfl) T.m_int (by decide +kernel) rfl) pa_nil)))) (pw_and1 (pt_not (pt_val (pe_callB (show CallR _ _ (rIsi K) from call_isi) (by rfl) T.m_isinstance (by decide +kernel) (pa_cons (pv 1) (pa_cons (pe_bltn (v := .ty "bool") (by rfl) T.m_bool (by decide +kernel) rfl) pa_nil)))))))) (pss_one (ps_ret (pe_ix (show IxR _ (rIxL K) from ix_list) (pe_lst (pa_cons (pe_op op_add (pv 1) pe_int) (pa_cons (pe_op op_sub (pv 1) pe_int) (pa_cons (pe_cmpR op_eq (pv 1) pe_int (nomark _)) (pa_cons (pe_callTy call_str_int (by rfl) T.m_str (by decide +kernel) (pa_cons (pv 1) pa_nil)) (pa_cons (pe_call GO (hr.mono (by omega)) (by rfl) T.gOo T.Oo.kp T.bOo .nil pass0 (pa_cons (pv 0) pa_nil)) pa_nil)))))) (pv 5) (fun _ _ => rfl)))) pss_nil)
      (pss_one (ps_ret (pe_call GO (hr.mono (by omega)) (by rfl) T.gOo T.Oo.kp T.bOo .nil pass0 (pa_cons (pv 0) pa_nil)))))))), ?_⟩
    obtain ⟨T0, t0, kT, kI, kB⟩ := dq_ty (K := K) (Dq.same wo_in _ _ hd)
    have hw2 : 2 * w ≤ (e + 2) * w := Nat.mul_le_mul_right _ (by omega)
    have hdb := hpv.bd
    have hd0 := Dq.same wo_in _ _ hd
    refine ⟨fun σ' H' => σ' = [some (.ref dk), some v, some (.int (e : Int)), none, none, none] ∧ Kp2 dk c H H' ∧ Deck H' dk c (B + 1), ?_, fun σ' H' h => ?_⟩
    · -- a part is replaced
      refine ⟨v, rfl, _, _, _, _, _, rfl, .ty _, t0, kT, _, rfl, ite2 (fun eT => ?_) (fun eT => ⟨rfl, Kp2.refl, dek.up (by omega)⟩)⟩
      have hdX := hd
      cases hd with
      | @tup a xs ds ha hs =>
        obtain ⟨haH, haX⟩ := wo_some ha
        have hlen := hs.len
        have hlw := len_wt ds
        have hwd : PyData.weightAll ds ≤ w := hpv.wt
        refine ⟨_, rfl, Nat.zero_le _, fun e1 ne1 => ?_⟩
        have s1 := same_new (o := .tup []) ne1
        have he1 : (upd H e1 (.tup [])) e1 = some (.tup []) := upd_same
        generalize upd H e1 (.tup []) = H1 at s1 he1 ⊢
        have dp : Dp K H1 (.ref a) (.tuple ds) := plain_dp _ _ hpv.pl (Dq.same s1 _ _ hd0)
        refine ⟨.tuple ds, .tuple [], dp, .tup (SqT.of he1) .nil, ?_, by decide +kernel, _, rfl, ite2 (fun e2 => ?_) (fun e2 => ⟨rfl, kps s1, (dek.keep s1).up (by omega)⟩)⟩
        · show ((PyData.tuple ds).canLay0 && decide ((PyData.tuple ds).depth ≤ 64)) = true
          rw [(plain_ok _ hpv.pl).2.2.1, decide_eq_true (Nat.le_trans hpv.dp (by omega))]
          rfl
        have hne : 1 ≤ ds.length := by
          cases ds with
          | nil => cases e2
          | cons x y => exact Nat.succ_le_succ (Nat.zero_le _)
        refine ⟨_, rfl, (e : Int), 0, rfl, rfl, _, rfl, ite2 (fun e3 => ?_) (fun e3 => ⟨rfl, kps s1, (dek.keep s1).up (by omega)⟩)⟩
        have he : 1 ≤ e := by
          have := of_decide_eq_true e3
          omega
        refine ⟨_, rfl, dk, c, B, 5, rfl, dek.keep s1, by omega, by decide, by decide, fun r0 H2 r00 r01 k2 d2 => ?_⟩
        have k12 := (kps s1).trans k2
        refine ⟨r0, 0, rfl, rfl, _, rfl, ite2 (fun e4 => ?_) (fun e4 => ⟨rfl, k12, d2⟩)⟩
        have hX2 := hX.kp k12 d2
        have hd2 := Dq.same (wo_kp hX k12) _ _ hdX
        have ha2 : H2 a = some (.tup xs) := (TK.kp dek k12) _ _ haH
        refine ⟨_, rfl, _, rfl, a, _, rfl, .inr (SqT.of ha2), dk, c, _, (xs.length : Int), rfl, d2, by omega, by omega, by omega, fun r1 H3 r10 r11 k3 d3 => ?_⟩
        obtain ⟨j, rfl⟩ : ∃ j : Nat, r1 = (j : Int) := ⟨r1.toNat, by omega⟩
        have hjx : j < xs.length := by omega
        have k13 := k12.trans k3
        have hX3 := hX.kp k13 d3
        have hx : xs[j]? = some xs[j] := List.getElem?_eq_getElem hjx
        have hs3 := DqAll.same (wo_kp hX k13) _ _ hs
        obtain ⟨y, hy, hq⟩ := hs3.get hx
        generalize xs[j] = x at hx hq
        have ha3 : H3 a = some (.tup xs) := (TK.kp dek k13) _ _ haH
        refine ⟨_, rfl, .ref a, rfl, .int (j : Int), rfl, a, _, (j : Int), x, rfl, rfl, SqT.of ha3, atI_nat hx, _, rfl, (e : Int), 1, rfl, rfl, spG_e he ?_⟩
        obtain ⟨e', rfl⟩ : ∃ e', e = e' + 1 := ⟨e - 1, by omega⟩
        have hy2 := hpv.item (List.mem_of_getElem? hy)
        have hyd := wt_mem (List.mem_of_getElem? hy)
        refine ⟨X, dk, c, _, x, y, w - 1, m - 1 + 1, congrArg (fun z => [V.ref dk, x, V.int z]) (by show ((e' : Int) + 1) - 1 = ((e' + 1 - 1 : Nat) : Int); omega), hX3, d3, by omega, hq, ⟨hy2.pl, hy2.wt, by have := hy2.dp; omega⟩, by omega, by omega, by omega, fun pv' pd H4 b4 n4 k4 d4 q4 => ?_⟩
        -- the tuple with the new part
        have k14 := k13.trans k4
        have hX4 := hX.kp k14 d4
        have ha4 : H4 a = some (.tup xs) := (TK.kp dek k14) _ _ haH
        refine ⟨_, rfl, ?_⟩
        dsimp only [tNoPart]
        refine ⟨_, rfl, (j : Int), rfl, a, _, rfl, ha4, fun p1 H5 s5 h1 => ?_⟩
        rw [cutV_to] at h1
        refine ⟨_, rfl, by show 1 ≤ sizeLine; decide, fun p2 n2 => ?_⟩
        have s6 := same_new (o := .tup [pv']) n2
        refine ⟨p1, p2, _, _, rfl, rfl, s6 _ _ h1, upd_same, by rw [List.length_take]; simp only [List.length_cons, List.length_nil]; omega, fun p3 H7 s7 h3 => ?_⟩
        have s57 := s5.trans (s6.trans s7)
        refine ⟨_, rfl, ?_⟩
        refine ⟨_, rfl, (j : Int), 1, rfl, rfl, (j : Int) + 1, rfl, ?_⟩
        refine ⟨a, _, rfl, s57 _ _ ha4, fun p4 H8 s8 h4 => ?_⟩
        rw [show ((j : Int) + 1) = ((j + 1 : Nat) : Int) by omega, cutV_from] at h4
        refine ⟨p3, p4, _, _, rfl, rfl, s8 _ _ h3, h4, by simp only [List.length_append, List.length_take, List.length_drop, List.length_cons, List.length_nil]; omega, fun p5 H9 s9 h5 => ?_⟩
        have s49 := s57.trans (s8.trans s9)
        have k19 := k14.trans (kps s49)
        have d9 := d4.keep s49
        have hX9 := hX.kp k19 d9
        obtain ⟨bb, nn⟩ := bd_put hpv hy b4 n4
        have hxs := DqAll.same (wo_kp hX k19) _ _ hs
        have hpq := Dq.same (wo_same s49) _ _ q4
        refine q (.ref p5) (.tuple (ds.take j ++ [pd] ++ ds.drop (j + 1))) H9 (bb.up ?_ ?_) nn k19 (d9.up (by omega)) (.tup (wo_of h5 (tup_ne hX9 (Same.refl _) h5)) (((hxs.take j).app (.cons hpq .nil)).app (hxs.drop (j + 1))))
        · refine Nat.le_trans (m := w + ((e' + 1 + 1) * w + 200)) (Nat.add_le_add_left (Nat.add_le_add_right (Nat.mul_le_mul_left _ (by omega)) _) _) ?_
          rw [show e' + 1 + 2 = (e' + 1 + 1) + 1 from rfl, Nat.succ_mul (e' + 1 + 1)]
          generalize (e' + 1 + 1) * w = z
          omega
        · omega
      | non => cases eT
      | bl _ => cases eT
      | int _ => cases eT
      | str _ => cases eT
      | lst _ _ => cases eT
      | d0 _ => cases eT
      | d1 _ => cases eT
    · obtain ⟨rfl, kp, d1⟩ := h
      have hX1 := hX.kp kp d1
      refine ⟨_, rfl, dk, c, _, 5, rfl, d1, by omega, by decide, by decide, fun wy H2 w0 w1 k2 d2 => ?_⟩
      have kp2 := kp.trans k2
      have hX2 := hX.kp kp2 d2
      have hq2 := Dq.same (wo_kp hX kp2) _ _ hd
      obtain ⟨j, rfl⟩ : ∃ j : Nat, wy = (j : Int) := ⟨wy.toNat, by omega⟩
      have hj5 : j < 5 := by omega
      obtain ⟨T2, t2, kT2, kI2, kB2⟩ := dq_ty (K := K) (Dq.same wo_in _ _ hq2)
      have odd1 : ∀ {d : PyData}, d ∈ oddA ++ oddB → Bd ((e + 2) * w + 200) (m + 3 + e) d ∧ Nx d := fun h => ⟨(val_odd h).1.up (by omega) (by omega), (val_odd h).2⟩
      refine ⟨v, rfl, _, _, _, _, _, rfl, .ty _, t2, kT2, _, rfl, ite2 (fun eT => ?_) (fun eT => ?_)⟩
      · cases hq2 with
        | @tup a xs ds ha hs =>
          have haH := (wo_some ha).1
          have hlen := hs.len
          have hlw := len_wt ds
          have hwd : PyData.weightAll ds ≤ w := hpv.wt
          refine ⟨_, rfl, _, rfl, ?_⟩
          dsimp only [tNoPart]
          refine ⟨1, rfl, a, _, rfl, haH, fun p1 H3 s3 h1 => ?_⟩
          have h1 : H3 p1 = some (.tup (xs.take 1)) := by
            have e := cutV_to (xs := xs) (s := 1)
            rw [← e]
            exact h1
          refine ⟨a, p1, _, _, rfl, rfl, s3 _ _ haH, h1, by rw [List.length_take]; omega, fun p2 H4 s4 h2 => ?_⟩
          have s24 := s3.trans s4
          refine ⟨_, rfl, 1, rfl, a, _, rfl, s24 _ _ haH, fun p3 H5 s5 h3 => ?_⟩
          have h3 : H5 p3 = some (.tup (xs.drop 1)) := by
            have e := cutV_from (xs := xs) (s := 1)
            rw [← e]
            exact h3
          have s25 := s24.trans s5
          refine ⟨_, rfl, a, _, rfl, SqT.of (s25 _ _ haH), fun p4 n4 => ?_⟩
          have s6 := same_new (o := .tup xs.reverse) n4
          have h4 : (upd H5 p4 (.tup xs.reverse)) p4 = some (.tup xs.reverse) := upd_same
          have m4 := new_ne hX2 s25 n4
          generalize upd H5 p4 (.tup xs.reverse) = H6 at s6 h4 ⊢
          have s26 := s25.trans s6
          refine ⟨_, rfl, a, _, rfl, .inr (SqT.of (s26 _ _ haH)), fun p5 n5 => ?_⟩
          have s7 := same_new (o := .lst xs) n5
          have h5 : (upd H6 p5 (.lst xs)) p5 = some (.lst xs) := upd_same
          have m5 := new_ne hX2 s26 n5
          generalize upd H6 p5 (.lst xs) = H7 at s7 h5 ⊢
          have s27 := s26.trans s7
          have kp7 := kp2.trans (kps s27)
          have d7 := d2.keep s27
          have hX7 := hX.kp kp7 d7
          refine ⟨_, rfl, X, dk, c, _, rfl, hX7, d7, by omega, fun ov od H8 hod k8 d8 hoq => ?_⟩
          have kp8 := kp7.trans k8
          refine ⟨by show 5 ≤ sizeLine; decide, fun L nL => ?_⟩
          have s9 := same_new (o := .lst [.ref p2, .ref p3, .ref p4, .ref p5, ov]) nL
          have kp9 := kp8.trans (kps s9)
          have d9 := d8.keep s9
          have hX9 := hX.kp kp9 d9
          have up79 : Same (Wo X H7) (Wo X (upd H8 L (.lst [.ref p2, .ref p3, .ref p4, .ref p5, ov]))) := (wo_kp hX7 k8).trans (wo_same s9)
          have hs7 := DqAll.same (wo_same s27) _ _ hs
          have t2' : Dq (Wo X H7) (.ref p2) (.tuple (ds ++ ds.take 1)) := by
            have z := s7 _ _ (s6 _ _ (s5 _ _ h2))
            exact .tup (wo_of z (tup_ne hX7 (Same.refl _) z)) (hs7.app (hs7.take 1))
          have t3' : Dq (Wo X H7) (.ref p3) (.tuple (ds.drop 1)) := by
            have z := s7 _ _ (s6 _ _ h3)
            exact .tup (wo_of z (tup_ne hX7 (Same.refl _) z)) (hs7.drop 1)
          have t4' : Dq (Wo X H7) (.ref p4) (.tuple ds.reverse) := .tup (wo_of (s7 _ _ h4) m4) (dq_rev hs7)
          have t5' : Dq (Wo X H7) (.ref p5) (.list ds) := .lst (wo_of h5 m5) hs7
          have all : DqAll (Wo X (upd H8 L (.lst [.ref p2, .ref p3, .ref p4, .ref p5, ov]))) [.ref p2, .ref p3, .ref p4, .ref p5, ov] [.tuple (ds ++ ds.take 1), .tuple (ds.drop 1), .tuple ds.reverse, .list ds, od] :=
            .cons (Dq.same up79 _ _ t2') (.cons (Dq.same up79 _ _ t3') (.cons (Dq.same up79 _ _ t4') (.cons (Dq.same up79 _ _ t5') (.cons (Dq.same (wo_same s9) _ _ hoq) .nil))))
          have hx : ([V.ref p2, .ref p3, .ref p4, .ref p5, ov] : List V)[j]? = some ([V.ref p2, .ref p3, .ref p4, .ref p5, ov] : List V)[j] := List.getElem?_eq_getElem (by show j < 5; exact hj5)
          obtain ⟨d', hd', hq'⟩ := all.get hx
          refine ⟨_, rfl, L, _, (j : Int), _, rfl, rfl, SqL.of upd_same, atI_nat hx, ?_⟩
          have hmem := List.mem_of_getElem? hd'
          have wt1 : PyData.weightAll (ds ++ ds.take 1) ≤ (e + 2) * w + 200 := by
            have := wt_take ds 1
            rw [weight_app]
            omega
          have wt2 : PyData.weightAll (ds.drop 1) ≤ (e + 2) * w + 200 := by
            have := wt_drop ds 1
            omega
          have wt3 : PyData.weightAll ds.reverse ≤ (e + 2) * w + 200 := by
            rw [wt_rev]
            omega
          have key : Bd ((e + 2) * w + 200) (m + 3 + e) d' ∧ Nx d' := by
            simp only [List.mem_cons, List.not_mem_nil, or_false] at hmem
            rcases hmem with rfl | rfl | rfl | rfl | rfl
            · obtain ⟨b1, _, n1, _⟩ := bd_sub hpv (es := ds ++ ds.take 1) (fun z hz => by
                rcases List.mem_append.mp hz with h | h
                · exact h
                · exact List.mem_of_mem_take h) wt1
              exact ⟨b1.up (Nat.le_refl _) (by omega), n1⟩
            · obtain ⟨b1, _, n1, _⟩ := bd_sub hpv (es := ds.drop 1) (fun z hz => List.mem_of_mem_drop hz) wt2
              exact ⟨b1.up (Nat.le_refl _) (by omega), n1⟩
            · obtain ⟨b1, _, n1, _⟩ := bd_sub hpv (es := ds.reverse) (fun z hz => List.mem_reverse.mp hz) wt3
              exact ⟨b1.up (Nat.le_refl _) (by omega), n1⟩
            · obtain ⟨_, b1, _, n1⟩ := bd_sub hpv (es := ds) (n := (e + 2) * w + 200) (fun z hz => hz) (by omega)
              exact ⟨b1.up (Nat.le_refl _) (by omega), n1⟩
            · exact odd1 hod
          exact q _ d' _ key.1 key.2 kp9 (d9.up (by omega)) hq'
        | non => cases eT
        | bl _ => cases eT
        | int _ => cases eT
        | str _ => cases eT
        | lst _ _ => cases eT
        | d0 _ => cases eT
        | d1 _ => cases eT
      · refine ⟨v, rfl, _, _, _, _, _, rfl, .ty _, t2, kI2, _, rfl, ite2 (fun eI => ?_) (fun eI => ?_)⟩
        · cases hq2 with
          | int i =>
            obtain ⟨i0, i1⟩ := plain_int hpv.pl
            refine ⟨_, rfl, _, _, _, _, _, rfl, .ty _, t2, kB2, _, rfl, iteT ?_⟩
            refine ⟨_, rfl, i, 1, rfl, rfl, ?_⟩
            refine ⟨_, rfl, i, 1, rfl, rfl, ?_⟩
            refine ⟨_, rfl, rfl, ?_⟩
            refine ⟨_, rfl, i, rfl, by have := log_1001 (i := i) (by omega) (by omega); omega, ?_⟩
            refine ⟨_, rfl, X, dk, c, _, rfl, hX2, d2, by omega, fun ov od H8 hod k8 d8 hoq => ?_⟩
            have kp8 := kp2.trans k8
            refine ⟨by show 5 ≤ sizeLine; decide, fun L nL => ?_⟩
            have s9 := same_new (o := .lst [.int (i + 1), .int (i - 1), .bl (decide (V.int i = V.int 1)), .str (Str.ofString (toString i)), ov]) nL
            have kp9 := kp8.trans (kps s9)
            have d9 := d8.keep s9
            have all : DqAll (Wo X (upd H8 L (.lst [.int (i + 1), .int (i - 1), .bl (decide (V.int i = V.int 1)), .str (Str.ofString (toString i)), ov]))) [.int (i + 1), .int (i - 1), .bl (decide (V.int i = V.int 1)), .str (Str.ofString (toString i)), ov] [.int (i + 1), .int (i - 1), .bool (decide (V.int i = V.int 1)), .str (Str.ofString (toString i)), od] :=
              .cons (.int _) (.cons (.int _) (.cons (.bl _) (.cons (.str _) (.cons (Dq.same (wo_same s9) _ _ hoq) .nil))))
            have hx : ([V.int (i + 1), .int (i - 1), .bl (decide (V.int i = V.int 1)), .str (Str.ofString (toString i)), ov] : List V)[j]? = some ([V.int (i + 1), .int (i - 1), .bl (decide (V.int i = V.int 1)), .str (Str.ofString (toString i)), ov] : List V)[j] := List.getElem?_eq_getElem (by show j < 5; exact hj5)
            obtain ⟨d', hd', hq'⟩ := all.get hx
            refine ⟨_, rfl, L, _, (j : Int), _, rfl, rfl, SqL.of upd_same, atI_nat hx, ?_⟩
            have hmem := List.mem_of_getElem? hd'
            have key : Bd ((e + 2) * w + 200) (m + 3 + e) d' ∧ Nx d' := by
              simp only [List.mem_cons, List.not_mem_nil, or_false] at hmem
              rcases hmem with rfl | rfl | rfl | rfl | rfl
              · exact ⟨(bd_sint (by omega) (by omega)).up (by omega) (by omega), fun z => by cases z⟩
              · exact ⟨(bd_sint (by omega) (by omega)).up (by omega) (by omega), fun z => by cases z⟩
              · exact ⟨(bd_bool _).up (by omega) (by omega), fun z => by cases z⟩
              · exact ⟨(lay_ofString _ (Nat.le_trans (int_text_length_le (a := i) (k := 12) (by decide) (by have := log_1001 (i := i) (by omega) (by omega); omega)) (by decide))).up (by omega) (by omega), fun z => by cases z⟩
              · exact odd1 hod
            exact q _ d' _ key.1 key.2 kp9 (d9.up (by omega)) hq'
          | bl b => exact absurd hpv.pl Bool.false_ne_true
          | non => cases eI
          | str _ => cases eI
          | lst _ _ => cases eI
          | tup _ _ => cases eI
          | d0 _ => cases eI
          | d1 _ => cases eI
        · refine ⟨_, rfl, X, dk, c, _, rfl, hX2, d2, by omega, fun ov od H8 hod k8 d8 hoq => ?_⟩
          exact q _ od _ (odd1 hod).1 (odd1 hod).2 (kp2.trans k8) (d8.up (by omega)) hoq
theorem ok_repl {fN fU fTu fA fAu fO fFu fCo fSp fCa fIr fTk fI fR fFc fLo fSo fOv fDw fSv fCh fUd fEt fAo fAd fDk fD fS fTt fW fPl fLu fLs fLc fM fE fX fNu fId fKn fHo fAy fOo fRp fAt fVa : Addr} {dN dU dTu dA dAu dO dFu dCo dSp dCa dIr dTk dI dR dFc dLo dSo dOv dDw dSv dCh dUd dEt dAo dAd dDk dD dS dTt dW dPl dLu dLs dLc dM dE dX dNu dId dKn dHo dAy dOo dRp dAt dVa : FuncData} {k : Nat} (T : Tx K mg fN fU fTu fA fAu fO fFu fCo fSp fCa fIr fTk fI fR fFc fLo fSo fOv fDw fSv fCh fUd fEt fAo fAd fDk fD fS fTt fW fPl fLu fLs fLc fM fE fX fNu fId fKn fHo fAy fOo fRp fAt fVa dN dU dTu dA dAu dO dFu dCo dSp dCa dIr dTk dI dR dFc dLo dSo dOv dDw dSv dCh dUd dEt dAo dAd dDk dD dS dTt dW dPl dLu dLs dLc dM dE dX dNu dId dKn dHo dAy dOo dRp dAt dVa) : ∀ e : Nat, FnOk P w K mg base CX0 (k + 2 + e + 1) fRp dRp ["_law_deck_here", "_law_value", "_law_depth"] (spRp e)
  | 0 => repl_body (k := k) T 0 ⟨fun _ _ _ _ h => h.elim, fun _ _ _ _ _ _ _ _ _ _ _ _ _ h => h.elim⟩
  | e + 1 => repl_body (k := k) T (e + 1) ((ok_repl (k := k) T e).mono (by omega))
end
end DD
namespace DD
open PySem PySem.Spec PyProof.Rows L2 RZ DM
theorem sum_set {v : Int} : ∀ {l : List Int} {i : Nat}, i < l.length → (l.set i v).sum = l.sum - l.getD i 0 + v
  | [], i, h => by simp at h
  | a :: l, 0, _ => by
    show v + l.sum = a + l.sum - a + v
    omega
  | a :: l, i + 1, h => by
    have := sum_set (v := v) (l := l) (i := i) (by simpa using h)
    show a + (l.set i v).sum = a + l.sum - l.getD i 0 + v
    omega
theorem getD_set {v : Int} {l : List Int} {i j : Nat} (h : i < l.length) : (l.set i v).getD j 0 = if j = i then v else l.getD j 0 := by
  by_cases e : j = i
  · subst e
    rw [if_pos rfl, List.getD_eq_getElem?_getD, List.getElem?_set_self h]
    rfl
  · rw [if_neg e, List.getD_eq_getElem?_getD, List.getElem?_set_ne (fun z => e z.symm), List.getD_eq_getElem?_getD]
/-- what is left of a drawer and what was taken, after q things -/
structure An (r lf ow : List Int) (n : Nat) (q : Nat) : Prop where
  lr : r.length = n
  ll : lf.length = n
  lo : ow.length = n
  nl : ∀ k, 0 ≤ lf.getD k 0
  no : ∀ k, 0 ≤ ow.getD k 0
  ad : ∀ k, lf.getD k 0 + ow.getD k 0 = r.getD k 0
  sm : ow.sum = q
theorem An.start {r : List Int} {n : Nat} (h : r.length = n) (h0 : ∀ k, 0 ≤ r.getD k 0) : An r r (List.replicate n 0) n 0 := by
  have e : ∀ k, (List.replicate n (0 : Int)).getD k 0 = 0 := fun k => by
    rw [List.getD_eq_getElem?_getD, List.getElem?_replicate]
    split <;> rfl
  have e2 : ∀ m : Nat, (List.replicate m (0 : Int)).sum = 0 := fun m => by
    induction m with
    | zero => rfl
    | succ m ih => rw [List.replicate_succ, List.sum_cons, ih]; rfl
  exact ⟨h, h, List.length_replicate, h0, fun k => by rw [e]; exact Int.le_refl _, fun k => by rw [e, Int.add_zero], e2 n⟩
theorem An.step {r lf ow : List Int} {n q k : Nat} (a : An r lf ow n q) (hk : k < n) (hp : 0 < lf.getD k 0) : An r (lf.set k (lf.getD k 0 - 1)) (ow.set k (ow.getD k 0 + 1)) n (q + 1) := by
  have hl := a.ll
  have ho := a.lo
  refine ⟨a.lr, by rw [List.length_set]; exact hl, by rw [List.length_set]; exact ho, fun j => ?_, fun j => ?_, fun j => ?_, ?_⟩
  · rw [getD_set (by omega)]
    have := a.nl j
    split <;> omega
  · rw [getD_set (by omega)]
    have := a.no k
    have := a.no j
    split <;> omega
  · rw [getD_set (by omega), getD_set (by omega)]
    have h1 := a.ad j
    by_cases e : j = k
    · rw [if_pos e, if_pos e]
      subst e
      omega
    · rw [if_neg e, if_neg e]
      exact h1
  · rw [sum_set (by omega), a.sm]
    omega
theorem An.sum {r lf ow : List Int} {n q : Nat} (a : An r lf ow n q) : lf.sum + q = r.sum := by
  rw [← a.sm, sum_lfF a.ll, sum_lfF a.lo, sum_lfF a.lr, ← sN_add]
  exact sN_congr fun k _ => a.ad k
theorem An.dr {r lf ow : List Int} {n q : Nat} (a : An r lf ow n q) : Dr r n q ow :=
  ⟨a.lo, fun k => ⟨a.no k, fun _ => by
    have := a.nl k
    have := a.ad k
    unfold lfF
    omega⟩, a.sm⟩
theorem An.some {r lf ow : List Int} {n q : Nat} (a : An r lf ow n q) (h : (q : Int) < r.sum) : kindsUp lf n ≠ [] := fun z => by
  have h1 := a.sum
  have h2 : lf.sum ≤ 0 := by
    rw [sum_lfF a.ll, ← sN_zero (n := n)]
    refine sN_le fun k hk => ?_
    show lf.getD k 0 ≤ 0
    rcases Int.lt_or_le 0 (lf.getD k 0) with h | h
    · have hm : ((0 : Int) + (k : Nat)) ∈ kindsUp lf n := List.mem_map.mpr ⟨k, List.mem_filter.mpr ⟨List.mem_range.mpr hk, decide_eq_true h⟩, rfl⟩
      rw [z] at hm
      cases hm
    · exact h
  omega
theorem kinds_at {lf : List Int} {n : Nat} {j : Nat} {v : Int} (h : (kindsUp lf n)[j]? = some v) : ∃ k : Nat, v = (k : Int) ∧ k < n ∧ 0 < lf.getD k 0 := by
  obtain ⟨k, hk, rfl⟩ := List.mem_map.mp (List.mem_of_getElem? h)
  obtain ⟨h1, h2⟩ := List.mem_filter.mp hk
  exact ⟨k, by omega, List.mem_range.mp h1, of_decide_eq_true h2⟩
theorem kp_none {dk c F : Addr} {H H' : Hp} {B : Nat} (kp : Kp2 dk c H H') (d : Deck H' dk c B) (n : H' F = none) : H F = none := kp_free kp d n
/-- the draws so far -/
structure Fo (H : Hp) (rows : List (List Int)) (ps : List Int) (n : Nat) (fs : List Addr) (Ds : List (List Int)) (i : Nat) : Prop where
  l1 : fs.length = i
  l2 : Ds.length = i
  at_ : ∀ (j : Nat) (a : Addr) (D : List Int), fs[j]? = some a → Ds[j]? = some D → H a = some (.tup (D.map V.int)) ∧ Dr (rows.getD j []) n (ps.getD j 0) D
theorem Fo.tk {H H' : Hp} {rows : List (List Int)} {ps : List Int} {n : Nat} {fs : List Addr} {Ds : List (List Int)} {i : Nat} (a : Fo H rows ps n fs Ds i) (k : TK H H') : Fo H' rows ps n fs Ds i :=
  ⟨a.l1, a.l2, fun j x D e1 e2 => ⟨k _ _ (a.at_ j x D e1 e2).1, (a.at_ j x D e1 e2).2⟩⟩
theorem Fo.snoc {H : Hp} {rows : List (List Int)} {ps : List Int} {n : Nat} {fs : List Addr} {Ds : List (List Int)} {i : Nat} {x : Addr} {D : List Int} (a : Fo H rows ps n fs Ds i) (h : H x = some (.tup (D.map V.int))) (d : Dr (rows.getD i []) n (ps.getD i 0) D) : Fo H rows ps n (fs ++ [x]) (Ds ++ [D]) (i + 1) := by
  refine ⟨by rw [List.length_append, a.l1]; rfl, by rw [List.length_append, a.l2]; rfl, fun j y E e1 e2 => ?_⟩
  by_cases hj : j < fs.length
  · rw [List.getElem?_append_left hj] at e1
    rw [List.getElem?_append_left (by rw [a.l2, ← a.l1]; exact hj)] at e2
    exact a.at_ j y E e1 e2
  · have hj2 : j = fs.length := by
      have := (List.getElem?_eq_some_iff.mp e1).1
      rw [List.length_append] at this
      simp at this
      omega
    subst hj2
    rw [List.getElem?_append_right (Nat.le_refl _), Nat.sub_self] at e1
    rw [a.l1, ← a.l2, List.getElem?_append_right (Nat.le_refl _), Nat.sub_self] at e2
    obtain rfl : x = y := Option.some.inj e1
    obtain rfl : D = E := Option.some.inj e2
    rw [a.l1]
    exact ⟨h, d⟩
abbrev NAy : List Str := ["_law_deck_here", "_law_stock_here", "_law_plan_here", "_law_kind_first", "_law_found", "_law_style", "_law_row", "_law_many", "_law_left", "_law_own", "_law_turn", "_law_kind", "_law_kinds"]
theorem scAy : FnScope NAy ["_law_deck_here", "_law_stock_here", "_law_plan_here"] (defScope sAnyDr) := ⟨rfl, rfl, rfl, by decide +kernel, rfl, by decide +kernel, by decide +kernel⟩
section
variable {P : Program} {w : World} {K : PySem.W.Frag} {mg : Str → Option Value} {base : Heap}
def spAny : Sp := fun vs H Q _ => ∃ (dk c t p : Addr) (B : Nat) (ls : List Addr) (rows : List (List Int)) (ps : List Int) (n : Nat), vs = [.ref dk, .ref t, .ref p] ∧ Deck H dk c B ∧ B + 1000 ≤ 1000000 ∧ StockAt H t ls rows ∧ Rb rows n ∧ H p = some (.tup (ps.map V.int)) ∧ ps.length = rows.length ∧
  (∀ j, j < rows.length → 0 ≤ ps.getD j 0 ∧ ps.getD j 0 ≤ sizeAt rows j) ∧ ∀ (d : Addr) (dl : List Addr) (D : List (List Int)) H', StockAt H' d dl D → IsDr rows ps n D → Kp2 dk c H H' → Deck H' dk c (B + 1000) → Q (.ref d) H'
set_option maxHeartbeats 1600000 in
theorem ok_any {f fN fU fTu fA fAu fO fFu fCo fSp fCa fIr fTk fI fR fFc fLo fSo fOv fDw fSv fCh fUd fEt fAo fAd fDk fD fS fTt fW fPl fLu fLs fLc fM fE fX fNu fId fKn fHo fAy fOo fRp fAt fVa : Addr} {fd dN dU dTu dA dAu dO dFu dCo dSp dCa dIr dTk dI dR dFc dLo dSo dOv dDw dSv dCh dUd dEt dAo dAd dDk dD dS dTt dW dPl dLu dLs dLc dM dE dX dNu dId dKn dHo dAy dOo dRp dAt dVa : FuncData} {k : Nat} (F : Fun K "_law_any_draw" "_law_any_draw" sAnyDr f fd) (T : Tx K mg fN fU fTu fA fAu fO fFu fCo fSp fCa fIr fTk fI fR fFc fLo fSo fOv fDw fSv fCh fUd fEt fAo fAd fDk fD fS fTt fW fPl fLu fLs fLc fM fE fX fNu fId fKn fHo fAy fOo fRp fAt fVa dN dU dTu dA dAu dO dFu dCo dSp dCa dIr dTk dI dR dFc dLo dSo dOv dDw dSv dCh dUd dEt dAo dAd dDk dD dS dTt dW dPl dLu dLs dLc dM dE dX dNu dId dKn dHo dAy dOo dRp dAt dVa) :
    FnOk P w K mg base CX0 (k + 2) f fd ["_law_deck_here", "_law_stock_here", "_law_plan_here"] spAny := by
  have GD : FnOk P w K mg base CX0 (k + 1) fD dD ["_law_deck_here", "_law_bound"] spDraw := ok_draw T.D T.m_len T.m_max
  refine F.ok scAy (fun vs H Q E h => ?_) (fun cdv A outer s H vs Q E hr h => ?_)
  · obtain ⟨dk, c, t, p, B, ls, rows, ps, n, rfl, _⟩ := h
    rfl
  · obtain ⟨dk, c, t, p, B, ls, rows, ps, n, rfl, dek, hB, st, rb, hp, hpl, hbd, q⟩ := h
    refine ⟨_, (pss_cons (ps_par (i := 3) (j := 4) (by rfl) scAy.nd rfl rfl (by decide) rfl rfl (pa_cons (pe_call GD (hr.mono (by omega)) (by rfl) T.gD T.D.kp T.bD .nil pass0 (pa_cons (pv 0) (pa_cons (pe_callB call_len_seq (by rfl) T.m_len PySem.boot_len (pa_cons (pe_ix (show IxR _ (rIxT K) from ix_tup) (pv 1) pe_int (fun _ _ => rfl)) pa_nil)) pa_nil))) (pa_cons (pe_lst pa_nil) pa_nil)) (by rfl))
      (pss_cons (ps_set (i := 5) scAy.nd rfl (.inl rfl) (pe_call GD (hr.mono (by omega)) (by rfl) T.gD T.D.kp T.bD .nil pass0 (pa_cons (pv 0) (pa_cons pe_int pa_nil))))
      (pss_cons (ps_for PassesOwn.never rfl (pi_zipA (by rfl) T.m_zip (pa_cons (pv 1) (pa_cons (pv 2) pa_nil))) (pg_tup rfl (pgs_cons (pg_name (i := 6) scAy.nd rfl (Or.inl rfl)) (pgs_cons (pg_name (i := 7) scAy.nd rfl (Or.inl rfl)) pgs_nil))) (pss_cons (ps_asg (pe_tup (pa_cons (pe_callTy call_list_of (by rfl) T.m_list (by decide +kernel) (pa_cons (pv 6) pa_nil)) (pa_cons (pe_op op_rep (pe_lst (pa_cons pe_int pa_nil)) (pe_callB call_len_seq (by rfl) T.m_len PySem.boot_len (pa_cons (pv 6) pa_nil))) pa_nil))) (pg_tup rfl (pgs_cons (pg_name (i := 8) scAy.nd rfl (Or.inr rfl)) (pgs_cons (pg_name (i := 9) scAy.nd rfl (Or.inl rfl)) pgs_nil))))
      (pss_cons (ps_for PassesOwn.never rfl (pi_range1 (by rfl) T.m_range (pa_cons (pv 7) pa_nil)) (pg_name (i := 10) scAy.nd rfl (Or.inl rfl)) (pss_cons (ps_setLc (i := 12) (own := [("_law_kind", 11)]) (g := gName 11) rfl scAy.nd rfl rfl (sw_true rfl rfl rfl (by decide +kernel)) (pi_range1 (by rfl) T.m_range (pa_cons (pe_callB call_len_seq (by rfl) T.m_len PySem.boot_len (pa_cons (pv 6) pa_nil)) pa_nil)) (blkOk_by (own := [("_law_kind", 11)]) (N := NAy) (sc := defScope sAnyDr) (by decide +kernel)) (fun _ _ _ _ _ => (pg_name (i := 11) scAy.nd rfl (Or.inl rfl))) (fun _ _ _ _ _ => pts_one (pt_cmpR op_gt (pe_ix (show IxR _ (rIxL K) from ix_list) (pv 8) (pv 11) (fun _ _ => rfl)) pe_int (nomark _))) (fun _ _ _ _ _ => (pv 11)))
      (pss_cons (ps_set (i := 11) scAy.nd rfl (.inl rfl) (pe_ix (show IxR _ (rIxL K) from ix_list) (pv 12) (pe_call GD (hr.mono (by omega)) (by rfl) T.gD T.D.kp T.bD .nil pass0 (pa_cons (pv 0) (pa_cons (pe_callB call_len_seq (by rfl) T.m_len PySem.boot_len (pa_cons (pv 12) pa_nil)) pa_nil))) (fun _ _ => rfl)))
      (C8.pss_cut (ps_if (PW.pt (pw_and (pt_cmpR op_eq (pv 5) pe_int (nomark _)) (pw_and1 (pt_cmpR op_gt (pe_ix (show IxR _ (rIxL K) from ix_list) (pv 8) (pv 3) (fun _ _ => rfl)) pe_int (nomark _))))) (pss_one (ps_set (i := 11) scAy.nd rfl (.inl rfl) (pv 3))) pss_nil)
      (pss_cons (ps_asg (pe_op op_sub (pe_ix (show IxR _ (rIxL K) from ix_list) (pv 8) (pv 11) (fun _ _ => rfl)) pe_int) (pg_sub (pv 8) (pv 11) set_list))
      (pss_one (ps_asg (pe_op op_add (pe_ix (show IxR _ (rIxL K) from ix_list) (pv 9) (pv 11) (fun _ _ => rfl)) pe_int) (pg_sub (pv 9) (pv 11) set_list))))))))
      (pss_one (ps_expr (pe_bm PySem.F.plainAttrs_list PySem.F.slot_list_append PySem.F.type_list_append mt_append (pv 4) (pa_cons (pe_callTy call_tuple_of (by rfl) T.m_tuple (by decide +kernel) (pa_cons (pv 9) pa_nil)) pa_nil)))))))
      (pss_one (ps_ret (pe_callTy call_tuple_of (by rfl) T.m_tuple (by decide +kernel) (pa_cons (pv 4) pa_nil))))))), ?_⟩
    have hr1 := rb.r1
    have hr4 := rb.r4
    have hn1 := rb.n1
    have hn4 := rb.n4
    have hll := st.len
    have hl0 := getD_of (d := 0) (show 0 < ls.length by omega)
    have hr0 := getD_of (d := ([] : List Int)) hr1
    have g0 : (ls.map V.ref)[0]? = some (.ref (ls.getD 0 0)) := by
      rw [List.getElem?_map, hl0]
      rfl
    have hrl0 := (rb.rw _ (List.mem_of_getElem? hr0)).1
    refine ⟨_, rfl, _, rfl, t, _, 0, .ref (ls.getD 0 0), rfl, rfl, SqT.of st.top, atI_nat (j := 0) g0, ls.getD 0 0, _, rfl, .inr (SqT.of (st.row 0 _ _ hl0 hr0)), ?_⟩
    rw [List.length_map, hrl0]
    refine ⟨dk, c, B, n, rfl, dek, by omega, by omega, by omega, fun kf H1 kf0 kf1 k1 d1 => ?_⟩
    refine ⟨Nat.zero_le _, fun F nF => ?_⟩
    have nHF : H F = none := kp_free k1 d1 nF
    have fne := d1.nedk nF
    have k1 := k1.updF (o := .lst []) nHF
    have d1 := d1.kp (o := .lst []) nF
    have hF : (upd H1 F (.lst [])) F = some (.lst (([] : List Addr).map V.ref)) := upd_same
    generalize upd H1 F (.lst []) = H2 at k1 d1 hF ⊢
    refine ⟨_, _, rfl, ?_⟩
    refine ⟨_, rfl, dk, c, _, 2, rfl, d1, by omega, by decide, by decide, fun sty H3 _ _ k3 d3 => ?_⟩
    have hF := k3 _ _ fne.1 fne.2 hF
    have k3 := k1.trans k3
    have tk0 : ∀ {H' : Hp}, Kp2 dk c H H' → TK H H' := fun k => TK.kp dek k
    refine ⟨_, rfl, _, rfl, t, p, ls.map V.ref, ps.map V.int, rfl, .inr ⟨SqT.of (tk0 k3 _ _ st.top), SqT.of (tk0 k3 _ _ hp), ?_⟩⟩
    refine for_it (walk_zipT (xs := ls.map V.ref) (ys := ps.map V.int) (by rw [List.length_map, List.length_map]; omega)) (fun i σ H' => ∃ (fs : List Addr) (Ds : List (List Int)) (y6 y7 y8 y9 ya yb yc : Option V), σ = [some (.ref dk), some (.ref t), some (.ref p), some (.int kf), some (.ref F), some (.int sty), y6, y7, y8, y9, ya, yb, yc] ∧
        Fo H' rows ps n fs Ds i ∧ H' F = some (.lst (fs.map V.ref)) ∧ Kp2 dk c H H' ∧ Deck H' dk c (B + 2 + 205 * i))
      ⟨[], [], _, _, _, _, _, _, _, rfl, ⟨rfl, rfl, fun j a D e => by simp at e⟩, hF, k3, d3.up (by omega)⟩
      (fun i σ H' _ h => by obtain ⟨_, _, _, _, _, _, _, _, _, _, _, _, k', _⟩ := h; exact ⟨SqT.of (tk0 k' _ _ st.top), SqT.of (tk0 k' _ _ hp)⟩) (fun i x σ H' H4 hi h y => ?_) (fun σ H' h => ?_)
    · obtain ⟨fs, Ds, y6, y7, y8, y9, ya, yb, yc, rfl, fo, hF, kp, d⟩ := h
      obtain ⟨T1, x1, x2, rfl, nT, rfl, e1, e2⟩ := y
      obtain ⟨l, hl, rfl⟩ := get_map e1
      obtain ⟨m, hm, rfl⟩ := get_map e2
      rw [List.length_map] at hi
      have hil : i < rows.length := by omega
      have hri := getD_of (d := []) hil
      have hmi : ps.getD i 0 = m := by rw [List.getD_eq_getElem?_getD, hm]; rfl
      have hrow := tk0 kp _ _ (st.row i l _ hl hri)
      have hb := hbd i hil
      have hsz := rb.at_ hil
      have hrw := rb.rw _ (List.mem_of_getElem? hri)
      rw [hmi] at hb
      have hsd : sizeAt rows i = (rows.getD i []).sum := rfl
      have fo1 := fo
      obtain ⟨mn, rfl⟩ : ∃ mn : Nat, m = (mn : Int) := ⟨m.toNat, by omega⟩
      have snoc0 : ∀ {Hx : Hp} {x : Addr} {D : List Int}, Fo Hx rows ps n fs Ds i → Hx x = some (.tup (D.map V.int)) → Dr (rows.getD i []) n (mn : Int) D → Fo Hx rows ps n (fs ++ [x]) (Ds ++ [D]) (i + 1) := fun a h d => a.snoc h (by rw [hmi]; exact d)
      have hr0' : ∀ k, 0 ≤ (rows.getD i []).getD k 0 := fun k => (getD_bd (fun x hx => hrw.2 x hx) (by decide) k).1
      rw [hsd] at hb hsz
      generalize rows.getD i [] = r at hrow hb hrw hsz hr0' snoc0
      have nHT := kp_free kp d nT
      have k5 := kp.updF (o := .tup [.ref l, .int (mn : Int)]) nHT
      have d5 := d.kp (o := .tup [.ref l, .int (mn : Int)]) nT
      have sT : Same H' (upd H' T1 (.tup [.ref l, .int (mn : Int)])) := same_new nT
      have fo5 := fo.tk (TK.same sT)
      have hF5 := sT _ _ hF
      have hrow5 := sT _ _ hrow
      refine ⟨T1, [.ref l, .int (mn : Int)], rfl, .inl (.inl upd_same), rfl, .ref l, [.int (mn : Int)], rfl, .int (mn : Int), [], rfl, rfl, ?_⟩
      generalize upd H' T1 (.tup [V.ref l, V.int (mn : Int)]) = H5 at k5 d5 fo5 hF5 hrow5 ⊢
      -- list(row), [0] * len(row)
      refine ⟨_, rfl, l, r.map V.int, rfl, .inr (SqT.of hrow5), fun L nL => ?_⟩
      have nHL := kp_free k5 d5 nL
      have lne := d5.nedk nL
      have k6 := k5.updF (o := .lst (r.map V.int)) nHL
      have d6 := d5.kp (o := .lst (r.map V.int)) nL
      have sL : Same H5 (upd H5 L (.lst (r.map V.int))) := same_new nL
      have hL6 : (upd H5 L (.lst (r.map V.int))) L = some (.lst (r.map V.int)) := upd_same
      have fo6 := fo5.tk (TK.same sL)
      have hF6 := sL _ _ hF5
      have hrow6 := sL _ _ hrow5
      generalize upd H5 L (.lst (r.map V.int)) = H6 at k6 d6 hL6 fo6 hF6 hrow6 ⊢
      refine ⟨by show 1 ≤ sizeLine; decide, fun z nz => ?_⟩
      have sz : Same H6 (upd H6 z (.lst [.int 0])) := same_new nz
      have k7 := k6.updF (o := .lst [.int 0]) (kp_free k6 d6 nz)
      have d7 := d6.kp (o := .lst [.int 0]) nz
      have hz7 : (upd H6 z (.lst [V.int 0])) z = some (.lst [.int 0]) := upd_same
      have fo7 := fo6.tk (TK.same sz)
      have hF7 := sz _ _ hF6
      have hL7 := sz _ _ hL6
      have hrow7 := sz _ _ hrow6
      generalize upd H6 z (.lst [V.int 0]) = H7 at k7 d7 hz7 fo7 hF7 hL7 hrow7 ⊢
      refine ⟨_, rfl, l, _, rfl, .inr (SqT.of hrow7), ?_⟩
      refine ⟨z, (n : Int), [.int 0], rfl, by rw [List.length_map, hrw.1], hz7, by omega, by omega, ?_, fun O nO => ?_⟩
      · rw [Int.toNat_natCast]
        exact Nat.le_of_lt (len_lt (by show 1 * n ≤ 1000; omega))
      rw [Int.toNat_natCast]
      have hfl : (List.replicate n [V.int 0]).flatten = (List.replicate n (0 : Int)).map V.int := by
        have e1 : ∀ m : Nat, (List.replicate m [V.int 0]).flatten = (List.replicate m (0 : Int)).map V.int := fun m => by
          induction m with
          | zero => rfl
          | succ m ih =>
            rw [List.replicate_succ, List.flatten_cons, ih, List.replicate_succ]
            rfl
        exact e1 n
      rw [hfl]
      have one := d7.nedk nO
      have nHO := kp_free k7 d7 nO
      have sO : Same H7 (upd H7 O (.lst ((List.replicate n (0 : Int)).map V.int))) := same_new nO
      have k8 := k7.updF (o := .lst ((List.replicate n (0 : Int)).map V.int)) nHO
      have d8 := d7.kp (o := .lst ((List.replicate n (0 : Int)).map V.int)) nO
      have hO8 : (upd H7 O (.lst ((List.replicate n (0 : Int)).map V.int))) O = some (.lst ((List.replicate n (0 : Int)).map V.int)) := upd_same
      have fo8 := fo7.tk (TK.same sO)
      have hF8 := sO _ _ hF7
      have hL8 := sO _ _ hL7
      have hrow8 := sO _ _ hrow7
      have hLO : L ≠ O := fun e => by rw [e, nO] at hL7; cases hL7
      have hFL : F ≠ L := fun e => by rw [e, nL] at hF5; cases hF5
      have hFO : F ≠ O := fun e => by rw [e, nO] at hF7; cases hF7
      generalize upd H7 O (.lst ((List.replicate n (0 : Int)).map V.int)) = H8 at k8 d8 hO8 fo8 hF8 hL8 hrow8 ⊢
      refine ⟨by show 2 ≤ sizeLine; decide, fun T2 nT2 => ?_⟩
      have s9 : Same H8 (upd H8 T2 (.tup [.ref L, .ref O])) := same_new nT2
      have k9 := k8.updF (o := .tup [.ref L, .ref O]) (kp_free k8 d8 nT2)
      have d9 := d8.kp (o := .tup [.ref L, .ref O]) nT2
      have fo9 := fo8.tk (TK.same s9)
      have hF9 := s9 _ _ hF8
      have hL9 := s9 _ _ hL8
      have hO9 := s9 _ _ hO8
      have hrow9 := s9 _ _ hrow8
      refine ⟨T2, [.ref L, .ref O], rfl, .inl (.inl upd_same), rfl, .ref L, [.ref O], rfl, .ref O, [], rfl, rfl, ?_⟩
      generalize upd H8 T2 (.tup [V.ref L, V.ref O]) = H9 at k9 d9 fo9 hF9 hL9 hO9 hrow9 ⊢
      -- the turns
      refine ⟨_, rfl, (mn : Int), rfl, by omega, by omega, ?_⟩
      refine for_range (lo := 0) (n := mn) (fun j σ H' => ∃ (lf ow : List Int) (ya yb yc : Option V), σ = [some (.ref dk), some (.ref t), some (.ref p), some (.int kf), some (.ref F), some (.int sty), some (.ref l), some (.int (mn : Int)), some (.ref L), some (.ref O), ya, yb, yc] ∧
          An r lf ow n j ∧ H' L = some (.lst (lf.map V.int)) ∧ H' O = some (.lst (ow.map V.int)) ∧ H' F = some (.lst (fs.map V.ref)) ∧ Fo H' rows ps n fs Ds i ∧ Kp2 dk c H H' ∧ Deck H' dk c (B + 2 + 205 * i + j))
        ⟨r, List.replicate n 0, _, _, _, rfl, An.start hrw.1 hr0', hL9, hO9, hF9, fo9, k9, d9⟩ (fun j σ Ha hj h => ?_) (fun σ Ha h => ?_)
      · obtain ⟨lf, ow, ya, yb, yc, rfl, an, hL, hO, hF, fo, kp, d⟩ := h
        have hlf := an.ll
        have how := an.lo
        have hne := an.some (by omega)
        have hrw2 := tk0 kp _ _ (st.row i l _ hl hri)
        have hlen2 := (rb.rw _ (List.mem_of_getElem? hri)).1
        -- the kinds
        refine ⟨_, rfl, l, _, rfl, .inr (SqT.of hrw2), (n : Int), by rw [List.length_map, hlen2], by omega, by omega, fun B2 nB2 => ?_⟩
        refine lc_range (lo := 0) (n := n) (fun u H' => H' B2 = some (.lst ((kindsUp lf u).map V.int)) ∧ Same Ha H') ⟨upd_same, same_new nB2⟩ (fun u H' hu h => ?_) (fun H' h => ?_)
        · obtain ⟨hB2, sm⟩ := h
          have gu : (lf.map V.int)[u]? = some (.int (lf.getD u 0)) := by
            rw [List.getElem?_map, getD_of (d := 0) (by omega)]
            rfl
          refine ⟨rfl, _, rfl, _, rfl, L, _, _, .int (lf.getD u 0), rfl, rfl, SqL.of (sm _ _ hL), ?_, lf.getD u 0, 0, rfl, rfl, _, rfl, ?_⟩
          · rw [Int.zero_add]
            exact atI_nat gu
          rw [kinds_succ]
          refine ite2 (fun e => ?_) (fun e => ?_)
          · have e' : posAt lf u = true := e
            rw [if_pos e']
            refine ⟨_, rfl, _, hB2, ?_, ?_, fun b' o e => ?_⟩
            · rw [List.length_map]
              have := kinds_len lf u
              exact len_lt (by omega)
            · rw [upd_same, List.map_append]
              rfl
            · rw [upd_ne (ne_of_none e nB2)]
              exact sm _ _ e
          · have e' : ¬ posAt lf u = true := e
            rw [if_neg e', List.append_nil]
            exact ⟨hB2, sm⟩
        · obtain ⟨hB2, sm⟩ := h
          have bne := d.nedk nB2
          have nHB := kp_free kp d nB2
          have kpb := kp.trans (kps sm)
          have db := d.keep sm
          have hL := sm _ _ hL
          have hO := sm _ _ hO
          have hF := sm _ _ hF
          have fo := fo.tk (TK.same sm)
          have hkl := kinds_len lf n
          have hk1 : 1 ≤ (kindsUp lf n).length := by
            rcases Nat.eq_zero_or_pos (kindsUp lf n).length with z | z
            · exact absurd (List.eq_nil_of_length_eq_zero z) hne
            · exact z
          clear kp d
          refine ⟨_, rfl, _, rfl, _, rfl, B2, _, rfl, .inl (SqL.of hB2), ?_⟩
          rw [List.length_map]
          refine ⟨dk, c, _, ((kindsUp lf n).length : Int), rfl, db, by omega, by omega, by omega, fun v Hb v0 v1 kb db => ?_⟩
          have kpc := kpb.trans kb
          have hL := kb _ _ lne.1 lne.2 hL
          have hO := kb _ _ one.1 one.2 hO
          have hF := kb _ _ fne.1 fne.2 hF
          have hB3 := kb _ _ bne.1 bne.2 hB2
          have fo := fo.tk (TK.kp (by assumption) kb)
          obtain ⟨jn, rfl⟩ : ∃ jn : Nat, v = (jn : Int) := ⟨v.toNat, by omega⟩
          have hjn : (kindsUp lf n)[jn]? = some ((kindsUp lf n)[jn]'(by omega)) := List.getElem?_eq_getElem _
          obtain ⟨kd, hkd, hkn, hkp⟩ := kinds_at hjn
          rw [hkd] at hjn
          refine ⟨B2, _, (jn : Int), .int (kd : Int), rfl, rfl, SqL.of hB3, atI_nat (by rw [List.getElem?_map, hjn]; rfl), ?_⟩
          clear hjn hkd
          refine ⟨fun σ' H' => ∃ kd : Nat, σ' = [some (.ref dk), some (.ref t), some (.ref p), some (.int kf), some (.ref F), some (.int sty), some (.ref l), some (.int (mn : Int)), some (.ref L), some (.ref O), some (.int ((0 : Int) + (j : Nat))), some (.int (kd : Int)), some (.ref B2)] ∧ H' = Hb ∧ kd < n ∧ 0 < lf.getD kd 0, ?_, fun σ' H' h => ?_⟩
          · refine ⟨_, rfl, rfl, _, rfl, ite2 (fun e => ?_) (fun e => ?_)⟩
            · obtain ⟨kn, rfl⟩ : ∃ kn : Nat, kf = (kn : Int) := ⟨kf.toNat, by omega⟩
              have gk : (lf.map V.int)[kn]? = some (.int (lf.getD kn 0)) := by
                rw [List.getElem?_map, getD_of (d := 0) (by omega)]
                rfl
              refine ⟨_, rfl, _, rfl, L, _, (kn : Int), .int (lf.getD kn 0), rfl, rfl, SqL.of hL, atI_nat gk, lf.getD kn 0, 0, rfl, rfl, _, rfl, ite2 (fun e2 => ?_) (fun e2 => ?_)⟩
              · exact ⟨_, rfl, kn, rfl, rfl, by omega, of_decide_eq_true e2⟩
              · exact ⟨kd, rfl, rfl, hkn, hkp⟩
            · exact ⟨kd, rfl, rfl, hkn, hkp⟩
          · clear hkn hkp kd
            obtain ⟨kd, rfl, rfl, hkn, hkp⟩ := h
            have gk : (lf.map V.int)[kd]? = some (.int (lf.getD kd 0)) := by
              rw [List.getElem?_map, getD_of (d := 0) (by omega)]
              rfl
            have hix : ∀ xs : List Int, xs.length = n → ixN (xs.map V.int).length ((kd : Nat) : Int) = some kd := fun xs hx => by
              unfold ixN
              rw [if_pos (by omega), if_pos (by rw [List.length_map]; omega)]
              simp
            have an2 := an.step hkn hkp
            refine ⟨_, rfl, _, rfl, L, _, (kd : Int), .int (lf.getD kd 0), rfl, rfl, SqL.of hL, atI_nat gk, lf.getD kd 0, 1, rfl, rfl, _, rfl, _, rfl, L, _, (kd : Int), kd, rfl, rfl, hL, hix lf hlf, ?_⟩
            rw [← List.map_set]
            have hLc : (upd H' L (.lst ((lf.set kd (lf.getD kd 0 - 1)).map V.int))) L = some (.lst ((lf.set kd (lf.getD kd 0 - 1)).map V.int)) := upd_same
            have hOc : (upd H' L (.lst ((lf.set kd (lf.getD kd 0 - 1)).map V.int))) O = some (.lst (ow.map V.int)) := by
              rw [upd_ne hLO.symm]
              exact hO
            have hFc : (upd H' L (.lst ((lf.set kd (lf.getD kd 0 - 1)).map V.int))) F = some (.lst (fs.map V.ref)) := by
              rw [upd_ne hFL]
              exact hF
            have foc := fo.tk (TK.lst (o := .lst ((lf.set kd (lf.getD kd 0 - 1)).map V.int)) hL)
            have kpd := kpc.updF (o := .lst ((lf.set kd (lf.getD kd 0 - 1)).map V.int)) nHL
            have dc := db.updD (o := .lst ((lf.set kd (lf.getD kd 0 - 1)).map V.int)) lne.1 lne.2
            generalize upd H' L (.lst ((lf.set kd (lf.getD kd 0 - 1)).map V.int)) = Hc at hLc hOc hFc foc kpd dc ⊢
            have go : (ow.map V.int)[kd]? = some (.int (ow.getD kd 0)) := by
              rw [List.getElem?_map, getD_of (d := 0) (by omega)]
              rfl
            refine ⟨_, rfl, _, rfl, O, _, (kd : Int), .int (ow.getD kd 0), rfl, rfl, SqL.of hOc, atI_nat go, ow.getD kd 0, 1, rfl, rfl, _, rfl, _, rfl, O, _, (kd : Int), kd, rfl, rfl, hOc, hix ow how, ?_⟩
            rw [← List.map_set]
            refine ⟨_, _, _, _, _, rfl, an2, ?_, upd_same, ?_, foc.tk (TK.lst hOc), kpd.updF nHO, (dc.updD one.1 one.2).up (by omega)⟩
            · rw [upd_ne hLO]
              exact hLc
            · rw [upd_ne hFO]
              exact hFc
      · obtain ⟨lf, ow, ya, yb, yc, rfl, an, hL, hO, hF, fo, kp, d⟩ := h
        refine ⟨.ref F, rfl, .inl ⟨rfl, _, SqL.of hF⟩, _, rfl, O, _, rfl, .inl ⟨SqL.of hO, fun zt nzt => ?_⟩⟩
        have st9 : Same Ha (upd Ha zt (.tup (ow.map V.int))) := same_new nzt
        have hFt := st9 _ _ hF
        have fot := snoc0 (fo.tk (TK.same st9)) upd_same an.dr
        have kpt := kp.updF (o := .tup (ow.map V.int)) (kp_free kp d nzt)
        have dt := d.kp (o := .tup (ow.map V.int)) nzt
        have hfl1 := fo.l1
        generalize upd Ha zt (.tup (ow.map V.int)) = Hb at hFt fot kpt dt ⊢
        refine ⟨F, fs.map V.ref, .ref zt, rfl, rfl, hFt, ?_, fs ++ [zt], Ds ++ [ow], _, _, _, _, _, _, _, rfl, fot.tk (TK.lst hFt), ?_, kpt.updF nHF, (dt.updD fne.1 fne.2).up (by omega)⟩
        · rw [List.length_map]
          exact len_lt (by omega)
        · rw [upd_same, List.map_append]
          rfl
    · obtain ⟨fs, Ds, y6, y7, y8, y9, ya, yb, yc, rfl, fo, hF, kp, d⟩ := h
      rw [List.length_map, hll] at fo d
      have hl1 := fo.l1
      have hl2 := fo.l2
      refine ⟨_, rfl, F, _, rfl, .inl ⟨SqL.of hF, fun dd nd => ?_⟩⟩
      have sd : Same H' (upd H' dd (.tup (fs.map V.ref))) := same_new nd
      have fod := fo.tk (TK.same sd)
      refine q dd fs Ds _ ⟨upd_same, by omega, fun j a D e1 e2 => (fod.at_ j a D e1 e2).1⟩ ⟨hl2, fun j hj => ?_⟩ (kp.updF (kp_free kp d nd)) ((d.kp nd).up (by omega))
      have e1 := getD_of (d := 0) (show j < fs.length by omega)
      have e2 := getD_of (d := []) (show j < Ds.length by omega)
      exact (fo.at_ j _ _ e1 e2).2
end
end DD
namespace DD
open PySem PySem.Spec PyProof.Rows L2 RZ
theorem scLNum : FnScope ["_law_value", "_law_low", "_law_high"] ["_law_value", "_law_low", "_law_high"] (defScope sNum) := ⟨rfl, rfl, rfl, by decide +kernel, rfl, by decide +kernel, by decide +kernel⟩
section
variable {P : Program} {w : World} {K : PySem.W.Frag} {mg : Str → Option Value} {base : Heap}
def spLNum : Sp := fun vs H Q _ => ∃ v d m, vs = [v, .int 0, .int m] ∧ Dq H v d ∧ Q (.bl (numOk m d)) H
theorem ok_lnum {f : Addr} {fd : FuncData} {k : Nat} (F : Fun K "_law_number" "_law_number" sNum f fd) (mI : mg "isinstance" = none) (mi : mg "int" = none) (mb : mg "bool" = none) : FnOk P w K mg base CX0 (k + 1) f fd ["_law_value", "_law_low", "_law_high"] spLNum := by
  refine F.ok scLNum (fun vs H Q E h => ?_) (fun cdv A outer s H vs Q E hr h => ?_)
  · obtain ⟨v, d, m, rfl, _⟩ := h
    rfl
  · obtain ⟨v, d, m, rfl, hd, q⟩ := h
    refine ⟨_, pss_one (ps_ret (pe_and (pe_callB (show CallR _ _ (rIsi K) from call_isi) (by rfl) mI (by decide +kernel) (pa_cons (pv 0) (pa_cons (pe_bltn (v := .ty "int") (by rfl) mi (by decide +kernel) rfl) pa_nil)))
      (pe_and (pe_not (pe_callB (show CallR _ _ (rIsi K) from call_isi) (by rfl) mI (by decide +kernel) (pa_cons (pv 0) (pa_cons (pe_bltn (v := .ty "bool") (by rfl) mb (by decide +kernel) rfl) pa_nil))))
      (pe_one (pe_chain op_le op_le (pv 1) (pv 0) (pv 2)))))), ?_⟩
    obtain ⟨T, t, kT, kI, kB⟩ := dq_ty (K := K) hd
    refine ⟨v, rfl, _, _, _, _, _, rfl, .ty _, t, kI, _, rfl, ?_⟩
    cases hd with
    | int i =>
      refine iteT ⟨_, rfl, _, _, _, _, _, rfl, .ty _, t, kB, _, rfl, _, rfl, iteT ⟨_, rfl, _, rfl, _, _, rfl, rfl, _, rfl, ?_⟩⟩
      have q : Q (.bl (decide (0 ≤ i) && decide (i ≤ m))) H := q
      by_cases c : (0 : Int) ≤ i
      · rw [decide_eq_true c, Bool.true_and] at q
        refine iteT2 (decide_eq_true c) ⟨_, rfl, _, _, rfl, rfl, q⟩
      · rw [decide_eq_false c, Bool.false_and] at q
        exact iteF2 (decide_eq_false c) q
    | bl b => exact iteT ⟨_, rfl, _, _, _, _, _, rfl, .ty _, t, kB, _, rfl, _, rfl, iteF q⟩
    | non => exact iteF q
    | str _ => exact iteF q
    | lst _ _ => exact iteF q
    | tup _ _ => exact iteF q
    | d0 _ => exact iteF q
    | d1 _ => exact iteF q
end
def rEqE : R2 := fun x y H Q => ∃ a b xs, x = .ref a ∧ y = .ref b ∧ H a = some (.lst xs) ∧ H b = some (.lst []) ∧ Q (.bl xs.isEmpty) H
theorem op_eqE {X : Cx} (hu : X.A.units + 64 < cLine) : OpR X (compareOp .Eq) rEqE := by
  intro pins s σ H x y v u Q I rx ry h
  obtain ⟨a, b, xs, rfl, rfl, ha, hb, q⟩ := h
  by_cases hx : xs = []
  · subst hx
    refine op_eqD hu pins s σ H _ _ v u Q I rx ry ⟨.list [], .list [], .lst (SqL.of ha) .nil, .lst (SqL.of hb) .nil, by decide +kernel, by decide +kernel, ?_⟩
    rw [show PyData.eqv (.list []) (.list []) = true by decide +kernel]
    exact q
  · cases rx
    cases ry
    obtain ⟨its, rv, ⟨o, n, h1, h2, _, h3⟩, _⟩ := I.list (SqL.of (K := X.K) ha)
    obtain ⟨its2, rv2, ⟨o2, n2, k1, k2, _, k3⟩, _⟩ := I.list (SqL.of (K := X.K) hb)
    cases rv2
    have hs : (its.toArray.size != ([] : List Value).toArray.size) = true := by
      have := rv.length
      cases xs with
      | nil => exact absurd rfl hx
      | cons _ _ =>
        cases its with
        | nil => simp at this
        | cons _ _ => simp
    have e : xs.isEmpty = false := by
      cases xs with
      | nil => exact absurd rfl hx
      | cons _ _ => rfl
    rw [e] at q
    exact SeqAt.RcAt.lists_lengths (A := X.A) (s := s) ⟨o, h1, h2, n, h3⟩ ⟨o2, k1, k2, n2, k3⟩ hs (by omega) _ _ _ _ ⟨.bl false, H, I, rfl, q⟩
theorem scAuD : FnScope ["value", "limits", "number", "limit"] ["value", "limits"] (defScope sNumsUp) := ⟨rfl, rfl, rfl, by decide +kernel, rfl, by decide +kernel, by decide +kernel⟩
/-- a tuple with a number from 0 to the limit for each limit -/
def upOk (ls : List Int) : PyData → Bool
  | .tuple ds => decide (ds.length = ls.length) && (List.zipWith (fun d l => numOk l d) ds ls).all id
  | _ => false
def badUq (ds : List PyData) (ls : List Int) (i : Nat) : List Int := (((List.zipWith (fun d l => numOk l d) ds ls).take i).filter fun b => !b).map fun _ => 1
theorem bad_suq {ds : List PyData} {ls : List Int} {i : Nat} {d : PyData} {l : Int} (h1 : ds[i]? = some d) (h2 : ls[i]? = some l) : badUq ds ls (i + 1) = badUq ds ls i ++ (if numOk l d = true then [] else [1]) := by
  unfold badUq
  have hz : (List.zipWith (fun d l => numOk l d) ds ls)[i]? = some (numOk l d) := by rw [List.getElem?_zipWith, h1, h2]
  rw [List.take_add_one, hz, List.filter_append, List.map_append]
  congr 1
  cases e : numOk l d with
  | true => rfl
  | false => rfl
theorem bad_nil {ds : List PyData} {ls : List Int} {i : Nat} (hi : (List.zipWith (fun d l => numOk l d) ds ls).length ≤ i) : ((badUq ds ls i).map V.int).isEmpty = (List.zipWith (fun d l => numOk l d) ds ls).all id := by
  unfold badUq
  rw [List.take_of_length_le hi]
  generalize List.zipWith (fun d l => numOk l d) ds ls = bs
  induction bs with
  | nil => rfl
  | cons b bs ih =>
    cases b with
    | true =>
      show ((((bs.filter fun b => !b)).map fun _ => (1 : Int)).map V.int).isEmpty = (true && bs.all id)
      rw [Bool.true_and]
      exact ih
    | false => rfl
theorem bad_leq (ds : List PyData) (ls : List Int) (i : Nat) : (badUq ds ls i).length ≤ i := by
  unfold badUq
  rw [List.length_map]
  refine Nat.le_trans (List.length_filter_le _ _) ?_
  rw [List.length_take]
  exact Nat.min_le_left _ _
section
variable {P : Program} {w : World} {K : PySem.W.Frag} {mg : Str → Option Value} {base : Heap}
def spAuD : Sp := fun vs H Q _ => ∃ (v : V) (d : PyData) (b : Addr) (ls : List Int), vs = [v, .ref b] ∧ Dq H v d ∧ H b = some (.tup (ls.map V.int)) ∧ ls.length ≤ 900 ∧ ∀ H', Same H H' → Q (.bl (upOk ls d)) H'
theorem ok_auD {f fN fU fTu fA fAu fO fFu fCo fSp fCa fIr fTk fI fR fFc fLo fSo fOv fDw fSv fCh fUd fEt fAo fAd fDk fD fS fTt fW fPl fLu fLs fLc fM fE fX fNu fId fKn fHo fAy fOo fRp fAt fVa : Addr} {fd dN dU dTu dA dAu dO dFu dCo dSp dCa dIr dTk dI dR dFc dLo dSo dOv dDw dSv dCh dUd dEt dAo dAd dDk dD dS dTt dW dPl dLu dLs dLc dM dE dX dNu dId dKn dHo dAy dOo dRp dAt dVa : FuncData} {k : Nat} (F : Fun K "are_numbers_up_to" "are_numbers_up_to" sNumsUp f fd) (T : Tx K mg fN fU fTu fA fAu fO fFu fCo fSp fCa fIr fTk fI fR fFc fLo fSo fOv fDw fSv fCh fUd fEt fAo fAd fDk fD fS fTt fW fPl fLu fLs fLc fM fE fX fNu fId fKn fHo fAy fOo fRp fAt fVa dN dU dTu dA dAu dO dFu dCo dSp dCa dIr dTk dI dR dFc dLo dSo dOv dDw dSv dCh dUd dEt dAo dAd dDk dD dS dTt dW dPl dLu dLs dLc dM dE dX dNu dId dKn dHo dAy dOo dRp dAt dVa) :
    FnOk P w K mg base CX0 (k + 3) f fd ["value", "limits"] spAuD := by
  have GU : FnOk P w K mg base CX0 (k + 2) fU dU ["value", "most"] spUpTo := ok_upto T.U T.N T.bN T.gN T.m_isinstance T.m_int T.m_bool
  have GTu : FnOk P w K mg base CX0 (k + 1) fTu dTu ["value", "fewest", "most"] (spTupOf K) := ok_tupof T.Tu T.m_isinstance T.m_tuple T.m_len
  refine F.ok scAuD (fun vs H Q E h => ?_) (fun cdv A outer s H vs Q E hr h => ?_)
  · obtain ⟨v, d, b, ls, rfl, _⟩ := h
    rfl
  · obtain ⟨v, d, b, ls, rfl, hd, hb, hl, q⟩ := h
    refine ⟨_, (pss_cons (ps_if (pt_not (pt_val (pe_call GTu (hr.mono (by omega)) (by rfl) T.gTu T.Tu.kp T.bTu .nil pass0 (pa_cons (pv 0) (pa_cons (pe_callB call_len_seq (by rfl) T.m_len PySem.boot_len (pa_cons (pv 1) pa_nil)) (pa_cons (pe_callB call_len_seq (by rfl) T.m_len PySem.boot_len (pa_cons (pv 1) pa_nil)) pa_nil)))))) (pss_one (ps_ret pe_bl)) pss_nil)
      (pss_one (ps_ret (pe_callB (cr_all rfl) (by rfl) T.m_all (by decide +kernel) (pa_cons (pe_lc (own := [("number", 2), ("limit", 3)]) (g := gTup K 2 (gCons (gName 2) (gCons (gName 3) gNil))) rfl scAuD.nd (pi_zipA (by rfl) T.m_zip (pa_cons (pv 0) (pa_cons (pv 1) pa_nil))) (blkOk_by (own := [("number", 2), ("limit", 3)]) (N := ["value", "limits", "number", "limit"]) (sc := defScope sNumsUp) (by decide +kernel)) (fun _ _ _ _ _ => (pg_tup rfl (pgs_cons (pg_name (i := 2) scAuD.nd rfl (Or.inl rfl)) (pgs_cons (pg_name (i := 3) scAuD.nd rfl (Or.inl rfl)) pgs_nil)))) (fun _ _ _ _ _ => pts_nil) (fun _ _ _ _ _ => (pe_call GU (hr.mono (by omega)) (by rfl) T.gU T.U.kp T.bU .nil pass0 (pa_cons (pv 2) (pa_cons (pv 3) pa_nil))))) pa_nil))))), ?_⟩
    refine ⟨_, rfl, _, rfl, b, _, rfl, .inr (SqT.of hb), _, rfl, b, _, rfl, .inr (SqT.of hb), v, d, _, _, rfl, hd, _, rfl, ?_⟩
    rw [List.length_map]
    cases hd with
    | @tup a xs ds ha hs =>
      have hlen := hs.len
      show if (!(true && (decide ((ls.length : Int) ≤ (ds.length : Int)) && decide ((ds.length : Int) ≤ (ls.length : Int))))) = true then _ else _
      have q : ∀ H', Same H H' → Q (.bl (decide (ds.length = ls.length) && (List.zipWith (fun d l => numOk l d) ds ls).all id)) H' := q
      by_cases e : ds.length = ls.length
      · rw [show (decide ((ls.length : Int) ≤ (ds.length : Int)) && decide ((ds.length : Int) ≤ (ls.length : Int))) = true by simp [e]]
        rw [decide_eq_true e, Bool.true_and] at q
        refine iteF (A := False) ?_
        refine ⟨_, rfl, _, rfl, a, b, xs, _, rfl, .inr ⟨SqT.of ha, SqT.of hb, fun D nD => ?_⟩⟩
        refine lc_zipT (xs := xs) (ys := ls.map V.int) (by rw [List.length_map]; omega) (fun i H' => H' D = some (.lst (((List.zipWith (fun d l => numOk l d) ds ls).take i).map V.bl)) ∧ Same H H') ⟨upd_same, same_new nD⟩
          (fun i H' _ h => ⟨SqT.of (h.2 _ _ ha), SqT.of (h.2 _ _ hb)⟩) (fun i x y T H' hx hy h nT => ?_) (fun H' h => ?_)
        · obtain ⟨hD, sm⟩ := h
          obtain ⟨dx, hdx, hq⟩ := hs.get hx
          obtain ⟨n, hn, rfl⟩ := get_map hy
          have hz : (List.zipWith (fun d l => numOk l d) ds ls)[i]? = some (numOk n dx) := by
            rw [List.getElem?_zipWith, hdx, hn]
          have sT : Same H' (upd H' T (.tup [x, .int n])) := same_new nT
          refine ⟨T, [x, .int n], rfl, .inl (.inl upd_same), rfl, x, [.int n], rfl, .int n, [], rfl, rfl, rfl, _, rfl, _, rfl, x, dx, n, rfl, Dq.same (sm.trans sT) _ _ hq, _, sT _ _ hD, ?_, ?_, fun b' o e => ?_⟩
          · rw [List.length_map, List.length_take]
            have : (List.zipWith (fun d l => numOk l d) ds ls).length ≤ ls.length := by rw [List.length_zipWith]; omega
            exact len_lt (by omega)
          · rw [upd_same, take_succ_map hz]
          · rw [upd_ne (ne_of_none e nD)]
            exact sT _ _ (sm b' o e)
        · obtain ⟨hD, sm⟩ := h
          rw [List.take_of_length_le (by rw [List.length_zipWith]; omega)] at hD
          exact ⟨D, _, rfl, SqL.of hD, q _ sm⟩
      · rw [show (decide ((ls.length : Int) ≤ (ds.length : Int)) && decide ((ds.length : Int) ≤ (ls.length : Int))) = false by
          rw [Bool.and_eq_false_iff, decide_eq_false_iff_not, decide_eq_false_iff_not]
          omega]
        rw [decide_eq_false e, Bool.false_and] at q
        exact iteT (q _ (Same.refl _))
    | non => exact iteT (q _ (Same.refl _))
    | bl _ => exact iteT (q _ (Same.refl _))
    | int _ => exact iteT (q _ (Same.refl _))
    | str _ => exact iteT (q _ (Same.refl _))
    | lst _ _ => exact iteT (q _ (Same.refl _))
    | d0 _ => exact iteT (q _ (Same.refl _))
    | d1 _ => exact iteT (q _ (Same.refl _))
end
end DD
namespace DD
open PySem PySem.Spec PyProof.Rows L2 RZ DM
theorem rwm3 {K : PySem.W.Frag} {H : Hp} {a b c : Addr} {xs ys zs : List V} (h1 : SqT K H a xs) (h2 : SqT K H b ys) (h3 : SqT K H c zs) (l1 : xs.length ≤ ys.length) (l2 : xs.length ≤ zs.length) : Rwm K (fun _ => true) H [a, b, c] [xs, ys, zs] xs.length := by
  refine ⟨rfl, fun j x r e1 e2 => ?_⟩
  match j with
  | 0 =>
    obtain rfl : a = x := Option.some.inj e1
    obtain rfl : xs = r := Option.some.inj e2
    exact ⟨h1, Nat.le_refl _⟩
  | 1 =>
    obtain rfl : b = x := Option.some.inj e1
    obtain rfl : ys = r := Option.some.inj e2
    exact ⟨h2, l1⟩
  | 2 =>
    obtain rfl : c = x := Option.some.inj e1
    obtain rfl : zs = r := Option.some.inj e2
    exact ⟨h3, l2⟩
  | j + 3 => simp at e1
theorem col3 {xs ys zs : List V} {i : Nat} {x y z : V} (h1 : xs[i]? = some x) (h2 : ys[i]? = some y) (h3 : zs[i]? = some z) : colV [xs, ys, zs] i = [x, y, z] := by
  unfold colV
  simp [h1, h2, h3]
def rNeE : R2 := fun x y H Q => ∃ a b xs, x = .ref a ∧ y = .ref b ∧ H a = some (.lst xs) ∧ H b = some (.lst []) ∧ Q (.bl (!xs.isEmpty)) H
theorem op_neE {X : Cx} (hu : X.A.units + 64 < cLine) : OpR X (compareOp .NotEq) rNeE := by
  intro pins s σ H x y v u Q I rx ry h
  obtain ⟨a, b, xs, rfl, rfl, ha, hb, q⟩ := h
  by_cases hx : xs = []
  · subst hx
    refine op_neD hu pins s σ H _ _ v u Q I rx ry ⟨.list [], .list [], .lst (SqL.of ha) .nil, .lst (SqL.of hb) .nil, by decide +kernel, by decide +kernel, ?_⟩
    rw [show PyData.eqv (.list []) (.list []) = true by decide +kernel]
    exact q
  · cases rx
    cases ry
    obtain ⟨its, rv, ⟨o, n, h1, h2, _, h3⟩, _⟩ := I.list (SqL.of (K := X.K) ha)
    obtain ⟨its2, rv2, ⟨o2, n2, k1, k2, _, k3⟩, _⟩ := I.list (SqL.of (K := X.K) hb)
    cases rv2
    have hs : (its.toArray.size != ([] : List Value).toArray.size) = true := by
      have := rv.length
      cases xs with
      | nil => exact absurd rfl hx
      | cons _ _ =>
        cases its with
        | nil => simp at this
        | cons _ _ => simp
    have e : (!xs.isEmpty) = true := by
      cases xs with
      | nil => exact absurd rfl hx
      | cons _ _ => rfl
    rw [e] at q
    exact SeqAt.RcNeAt.lists_lengths (A := X.A) (s := s) ⟨o, h1, h2, n, h3⟩ ⟨o2, k1, k2, n2, k3⟩ hs (by omega) _ _ _ _ ⟨.bl true, H, I, rfl, q⟩


def intD : PyData → Int
  | .int i => i
  | _ => 0
def sumD : PyData → Int
  | .tuple ds => (ds.map intD).sum
  | _ => 0
theorem sum_row (r : List Int) : sumD (rowD r) = r.sum := by
  show ((r.map PyData.int).map intD).sum = r.sum
  rw [List.map_map]
  have : (intD ∘ PyData.int) = id := rfl
  rw [this, List.map_id]
theorem num_int {m : Int} {d : PyData} (h : numOk m d = true) : ∃ i, d = .int i := by
  cases d with
  | int i => exact ⟨i, rfl⟩
  | _ => cases h
theorem up_row {ls : List Int} {d : PyData} (h : upOk ls d = true) : ∃ r : List Int, d = rowD r ∧ r.length = ls.length := by
  cases d with
  | tuple ds =>
    have h : (decide (ds.length = ls.length) && (List.zipWith (fun d l => numOk l d) ds ls).all id) = true := h
    rw [Bool.and_eq_true] at h
    have hl := of_decide_eq_true h.1
    have gen : ∀ {ds : List PyData} {ls : List Int}, ds.length = ls.length → (List.zipWith (fun d l => numOk l d) ds ls).all id = true → ∃ r : List Int, ds = r.map PyData.int := fun {ds} => by
      induction ds with
      | nil => intro ls _ _; exact ⟨[], rfl⟩
      | cons x ds ih =>
        intro ls hl ha
        cases ls with
        | nil => simp at hl
        | cons l ls =>
          have ha : (numOk l x && (List.zipWith (fun d l => numOk l d) ds ls).all id) = true := ha
          rw [Bool.and_eq_true] at ha
          obtain ⟨i, rfl⟩ := num_int ha.1
          obtain ⟨r, rfl⟩ := ih (by simpa using hl) ha.2
          exact ⟨i :: r, rfl⟩
    obtain ⟨r, rfl⟩ := gen hl h.2
    exact ⟨r, rfl, by rw [← hl, List.length_map]⟩
  | _ => cases h
theorem dqs_ints {H : Hp} : ∀ {xs : List V} {r : List Int}, DqAll H xs (r.map PyData.int) → xs = r.map V.int
  | _, [], h => by cases h; rfl
  | _, x :: r, h => by
    cases h with
    | cons a b =>
      cases a
      rw [dqs_ints b]
      rfl
theorem dq_row {H : Hp} {v : V} {r : List Int} (h : Dq H v (rowD r)) : ∃ a, v = .ref a ∧ H a = some (.tup (r.map V.int)) := by
  cases h with
  | tup a b => exact ⟨_, rfl, by rw [a, dqs_ints b]⟩
def takenOk (row : List Int) (m : Int) (d : PyData) : Bool := upOk row d && decide (sumD d = m)
def drOk (rows : List (List Int)) (ps : List Int) : PyData → Bool
  | .tuple ds => decide (ds.length = rows.length) && (List.range rows.length).all fun j => takenOk (rows.getD j []) (ps.getD j 0) (ds.getD j .none)
  | _ => false
theorem dr_no {rows : List (List Int)} {ps : List Int} {ds : List PyData} {i : Nat} (hi : i < rows.length) (h : takenOk (rows.getD i []) (ps.getD i 0) (ds.getD i .none) = false) : drOk rows ps (.tuple ds) = false := by
  show (decide (ds.length = rows.length) && (List.range rows.length).all fun j => takenOk (rows.getD j []) (ps.getD j 0) (ds.getD j .none)) = false
  rw [Bool.and_eq_false_iff]
  refine .inr (Bool.eq_false_iff.mpr fun z => ?_)
  have := List.all_eq_true.mp z i (List.mem_range.mpr hi)
  rw [h] at this
  cases this
theorem dr_yes {rows : List (List Int)} {ps : List Int} {ds : List PyData} (hl : ds.length = rows.length) (h : ∀ j, j < rows.length → takenOk (rows.getD j []) (ps.getD j 0) (ds.getD j .none) = true) : drOk rows ps (.tuple ds) = true := by
  show (decide (ds.length = rows.length) && (List.range rows.length).all fun j => takenOk (rows.getD j []) (ps.getD j 0) (ds.getD j .none)) = true
  rw [decide_eq_true hl, Bool.true_and]
  exact List.all_eq_true.mpr fun j hj => h j (List.mem_range.mp hj)
theorem scTkD : FnScope ["drawer", "number", "value"] ["drawer", "number", "value"] (defScope sTaken) := ⟨rfl, rfl, rfl, by decide +kernel, rfl, by decide +kernel, by decide +kernel⟩
theorem scIrD : FnScope ["stock", "plan", "value", "drawer", "number", "counts"] ["stock", "plan", "value"] (defScope sIsDr) := ⟨rfl, rfl, rfl, by decide +kernel, rfl, by decide +kernel, by decide +kernel⟩
theorem scIdD : FnScope ["_law_stock_here", "_law_plan_here", "_law_value", "_law_counts", "_law_row", "_law_many", "_law_count", "_law_most"] ["_law_stock_here", "_law_plan_here", "_law_value"] (defScope sIsDraw) := ⟨rfl, rfl, rfl, by decide +kernel, rfl, by decide +kernel, by decide +kernel⟩
section
variable {P : Program} {w : World} {K : PySem.W.Frag} {mg : Str → Option Value} {base : Heap}
def spTkD : Sp := fun vs H Q _ => ∃ (b : Addr) (v : V) (d : PyData) (r : List Int) (m : Int), vs = [.ref b, .int m, v] ∧ H b = some (.tup (r.map V.int)) ∧ r.length ≤ 900 ∧ Dq H v d ∧ ∀ H', Same H H' → Q (.bl (takenOk r m d)) H'
theorem ok_tkD {f fN fU fTu fA fAu fO fFu fCo fSp fCa fIr fTk fI fR fFc fLo fSo fOv fDw fSv fCh fUd fEt fAo fAd fDk fD fS fTt fW fPl fLu fLs fLc fM fE fX fNu fId fKn fHo fAy fOo fRp fAt fVa : Addr} {fd dN dU dTu dA dAu dO dFu dCo dSp dCa dIr dTk dI dR dFc dLo dSo dOv dDw dSv dCh dUd dEt dAo dAd dDk dD dS dTt dW dPl dLu dLs dLc dM dE dX dNu dId dKn dHo dAy dOo dRp dAt dVa : FuncData} {k : Nat} (F : Fun K "is_taken_from" "is_taken_from" sTaken f fd) (T : Tx K mg fN fU fTu fA fAu fO fFu fCo fSp fCa fIr fTk fI fR fFc fLo fSo fOv fDw fSv fCh fUd fEt fAo fAd fDk fD fS fTt fW fPl fLu fLs fLc fM fE fX fNu fId fKn fHo fAy fOo fRp fAt fVa dN dU dTu dA dAu dO dFu dCo dSp dCa dIr dTk dI dR dFc dLo dSo dOv dDw dSv dCh dUd dEt dAo dAd dDk dD dS dTt dW dPl dLu dLs dLc dM dE dX dNu dId dKn dHo dAy dOo dRp dAt dVa) :
    FnOk P w K mg base CX0 (k + 4) f fd ["drawer", "number", "value"] spTkD := by
  have GAu : FnOk P w K mg base CX0 (k + 3) fAu dAu ["value", "limits"] spAuD := ok_auD T.Au T
  refine F.ok scTkD (fun vs H Q E h => ?_) (fun cdv A outer s H vs Q E hr h => ?_)
  · obtain ⟨b, v, d, r, m, rfl, _⟩ := h
    rfl
  · obtain ⟨b, v, d, r, m, rfl, hb, hl, hd, q⟩ := h
    refine ⟨_, (pss_one (ps_ret (pe_and (pe_call GAu (hr.mono (by omega)) (by rfl) T.gAu T.Au.kp T.bAu .nil pass0 (pa_cons (pv 2) (pa_cons (pv 0) pa_nil))) (pe_one (pe_cmpR op_eq (pe_callB (show CallR _ _ (fun vs H Q => ∃ (a : Addr) (ns : List Int), vs = [V.ref a] ∧ SqT K H a (ns.map V.int) ∧ Q (.int ns.sum) H) from cr_sumT rfl) (by rfl) T.m_sum (by decide +kernel) (pa_cons (pv 2) pa_nil)) (pv 1) (nomark _)))))), ?_⟩
    refine ⟨_, rfl, _, rfl, v, d, b, r, rfl, hd, hb, hl, fun H1 s1 => ?_⟩
    refine ⟨_, rfl, ite2 (fun e => ?_) (fun e => ?_)⟩
    · obtain ⟨cs, rfl, hcl⟩ := up_row e
      obtain ⟨a, rfl, ha⟩ := dq_row (Dq.same s1 _ _ hd)
      refine ⟨_, rfl, a, cs, rfl, SqT.of ha, _, rfl, rfl, ?_⟩
      have q := q _ s1
      unfold takenOk at q
      rw [e, Bool.true_and, sum_row] at q
      rw [dec_int]
      rw [show (cs.sum == m) = decide (cs.sum = m) from rfl]
      exact q
    · have q := q _ s1
      unfold takenOk at q
      rw [Bool.eq_false_iff.mpr e, Bool.false_and] at q
      exact q
def spIrD : Sp := fun vs H Q _ => ∃ (t p : Addr) (v : V) (d : PyData) (ls : List Addr) (rows : List (List Int)) (ps : List Int), vs = [.ref t, .ref p, v] ∧ StockAt H t ls rows ∧ rows.length ≤ 4 ∧ (∀ r ∈ rows, r.length ≤ 900) ∧ H p = some (.tup (ps.map V.int)) ∧ ps.length = rows.length ∧ Dq H v d ∧ ∀ H', Same H H' → Q (.bl (drOk rows ps d)) H'
theorem ok_irD {f fN fU fTu fA fAu fO fFu fCo fSp fCa fIr fTk fI fR fFc fLo fSo fOv fDw fSv fCh fUd fEt fAo fAd fDk fD fS fTt fW fPl fLu fLs fLc fM fE fX fNu fId fKn fHo fAy fOo fRp fAt fVa : Addr} {fd dN dU dTu dA dAu dO dFu dCo dSp dCa dIr dTk dI dR dFc dLo dSo dOv dDw dSv dCh dUd dEt dAo dAd dDk dD dS dTt dW dPl dLu dLs dLc dM dE dX dNu dId dKn dHo dAy dOo dRp dAt dVa : FuncData} {k : Nat} (F : Fun K "is_draw" "is_draw" sIsDr f fd) (T : Tx K mg fN fU fTu fA fAu fO fFu fCo fSp fCa fIr fTk fI fR fFc fLo fSo fOv fDw fSv fCh fUd fEt fAo fAd fDk fD fS fTt fW fPl fLu fLs fLc fM fE fX fNu fId fKn fHo fAy fOo fRp fAt fVa dN dU dTu dA dAu dO dFu dCo dSp dCa dIr dTk dI dR dFc dLo dSo dOv dDw dSv dCh dUd dEt dAo dAd dDk dD dS dTt dW dPl dLu dLs dLc dM dE dX dNu dId dKn dHo dAy dOo dRp dAt dVa) :
    FnOk P w K mg base CX0 (k + 5) f fd ["stock", "plan", "value"] spIrD := by
  have GTk : FnOk P w K mg base CX0 (k + 4) fTk dTk ["drawer", "number", "value"] spTkD := ok_tkD T.Tk T
  have GTu : FnOk P w K mg base CX0 (k + 1) fTu dTu ["value", "fewest", "most"] (spTupOf K) := ok_tupof T.Tu T.m_isinstance T.m_tuple T.m_len
  refine F.ok scIrD (fun vs H Q E h => ?_) (fun cdv A outer s H vs Q E hr h => ?_)
  · obtain ⟨t, p, v, d, ls, rows, ps, rfl, _⟩ := h
    rfl
  · obtain ⟨t, p, v, d, ls, rows, ps, rfl, st, hr4, hrl, hp, hpl, hd, q⟩ := h
    refine ⟨_, (pss_cons (ps_if (pt_not (pt_val (pe_call GTu (hr.mono (by omega)) (by rfl) T.gTu T.Tu.kp T.bTu .nil pass0 (pa_cons (pv 2) (pa_cons (pe_callB call_len_seq (by rfl) T.m_len PySem.boot_len (pa_cons (pv 0) pa_nil)) (pa_cons (pe_callB call_len_seq (by rfl) T.m_len PySem.boot_len (pa_cons (pv 0) pa_nil)) pa_nil)))))) (pss_one (ps_ret pe_bl)) pss_nil)
      (pss_one (ps_ret (pe_callB (cr_all rfl) (by rfl) T.m_all (by decide +kernel) (pa_cons (pe_lc (own := [("drawer", 3), ("number", 4), ("counts", 5)]) (g := gTup K 3 (gCons (gName 3) (gCons (gName 4) (gCons (gName 5) gNil)))) rfl scIrD.nd (pi_zipM (by rfl) T.m_zip (pa_cons (pv 0) (pa_cons (pv 1) (pa_cons (pv 2) pa_nil)))) (blkOk_by (own := [("drawer", 3), ("number", 4), ("counts", 5)]) (N := ["stock", "plan", "value", "drawer", "number", "counts"]) (sc := defScope sIsDr) (by decide +kernel)) (fun _ _ _ _ _ => (pg_tup rfl (pgs_cons (pg_name (i := 3) scIrD.nd rfl (Or.inl rfl)) (pgs_cons (pg_name (i := 4) scIrD.nd rfl (Or.inl rfl)) (pgs_cons (pg_name (i := 5) scIrD.nd rfl (Or.inl rfl)) pgs_nil))))) (fun _ _ _ _ _ => pts_nil) (fun _ _ _ _ _ => (pe_call GTk (hr.mono (by omega)) (by rfl) T.gTk T.Tk.kp T.bTk .nil pass0 (pa_cons (pv 3) (pa_cons (pv 4) (pa_cons (pv 5) pa_nil)))))) pa_nil))))), ?_⟩
    have hll := st.len
    refine ⟨_, rfl, _, rfl, t, _, rfl, .inr (SqT.of st.top), _, rfl, t, _, rfl, .inr (SqT.of st.top), v, d, _, _, rfl, hd, _, rfl, ?_⟩
    rw [List.length_map, hll]
    cases hd with
    | @tup a xs ds ha hs =>
      have hlen := hs.len
      show if (!(true && (decide ((rows.length : Int) ≤ (ds.length : Int)) && decide ((ds.length : Int) ≤ (rows.length : Int))))) = true then _ else _
      by_cases e : ds.length = rows.length
      · rw [show (decide ((rows.length : Int) ≤ (ds.length : Int)) && decide ((ds.length : Int) ≤ (rows.length : Int))) = true by simp [e]]
        refine iteF (A := False) ?_
        refine ⟨_, rfl, _, rfl, _, rfl, fun _ => true, [t, p, a], [ls.map V.ref, ps.map V.int, xs], (ls.map V.ref).length, rfl, by simp, by simp, fun r e => by cases e; rfl, rwm3 (SqT.of st.top) (SqT.of hp) (SqT.of ha) (by simp; omega) (by simp; omega), fun B nB => ?_⟩
        refine lc_it walk_zm (fun i H' => H' B = some (.lst ((((List.range rows.length).map fun j => takenOk (rows.getD j []) (ps.getD j 0) (ds.getD j .none)).take i).map V.bl)) ∧ Same H H') ⟨upd_same, same_new nB⟩
          (fun i H' _ h => rwm3 (SqT.of (h.2 _ _ st.top)) (SqT.of (h.2 _ _ hp)) (SqT.of (h.2 _ _ ha)) (by simp; omega) (by simp; omega)) (fun i x H' H2 hi h y => ?_) (fun H' h => ?_)
        · obtain ⟨hB, sm⟩ := h
          obtain ⟨T1, rfl, nT, rfl⟩ := y
          rw [List.length_map] at hi
          have hir : i < rows.length := by omega
          have h2 := getD_of (d := 0) hi
          have h3 := getD_of (d := (0 : Int)) (show i < ps.length by omega)
          have h1 : xs[i]? = some (xs[i]'(by omega)) := List.getElem?_eq_getElem (by omega)
          obtain ⟨dx, hdx, hq⟩ := hs.get h1
          generalize xs[i]'(by omega) = x at h1 hq
          have hdg : ds.getD i .none = dx := by rw [List.getD_eq_getElem?_getD, hdx]; rfl
          have hri := getD_of (d := []) hir
          rw [col3 (x := V.ref (ls.getD i 0)) (y := V.int (ps.getD i 0)) (z := x) (by rw [List.getElem?_map, h2]; rfl) (by rw [List.getElem?_map, h3]; rfl) h1]
          have sT := sm.trans (same_new (o := .tup [.ref (ls.getD i 0), .int (ps.getD i 0), x]) nT)
          have hBT := same_new (o := .tup [V.ref (ls.getD i 0), V.int (ps.getD i 0), x]) nT _ _ hB
          have hrw := sT _ _ (st.row i _ _ h2 hri)
          refine ⟨T1, [.ref (ls.getD i 0), .int (ps.getD i 0), x], rfl, .inl (.inl upd_same), rfl, .ref (ls.getD i 0), [.int (ps.getD i 0), x], rfl, .int (ps.getD i 0), [x], rfl, x, [], rfl, rfl, rfl, ?_⟩
          refine ⟨_, rfl, _, rfl, _, rfl, ls.getD i 0, x, dx, rows.getD i [], ps.getD i 0, rfl, hrw, hrl _ (List.mem_of_getElem? hri), Dq.same sT _ _ hq, fun H3 s3 => ?_⟩
          refine ⟨_, s3 _ _ hBT, ?_, ?_, fun b' o e => ?_⟩
          · rw [List.length_map, List.length_take, List.length_map, List.length_range]
            exact len_lt (by omega)
          · rw [upd_same, take_succ_map (by rw [List.getElem?_map, List.getElem?_range hir]; rfl), ← hdg]
          · rw [upd_ne (ne_of_none e nB)]
            exact s3 _ _ (sT _ _ e)
        · obtain ⟨hB, sm⟩ := h
          rw [List.length_map, hll, List.take_of_length_le (by rw [List.length_map, List.length_range]; exact Nat.le_refl _)] at hB
          refine ⟨B, _, rfl, SqL.of hB, ?_⟩
          have q : Q (.bl (decide (ds.length = rows.length) && (List.range rows.length).all fun j => takenOk (rows.getD j []) (ps.getD j 0) (ds.getD j .none))) H' := q _ sm
          rw [decide_eq_true e, Bool.true_and] at q
          rw [List.all_map]
          exact q
      · rw [show (decide ((rows.length : Int) ≤ (ds.length : Int)) && decide ((ds.length : Int) ≤ (rows.length : Int))) = false by
          rw [Bool.and_eq_false_iff, decide_eq_false_iff_not, decide_eq_false_iff_not]
          omega]
        have q : Q (.bl (decide (ds.length = rows.length) && (List.range rows.length).all fun j => takenOk (rows.getD j []) (ps.getD j 0) (ds.getD j .none))) H := q _ (Same.refl _)
        rw [decide_eq_false e, Bool.false_and] at q
        exact iteT q
    | non => exact iteT (q _ (Same.refl _))
    | bl _ => exact iteT (q _ (Same.refl _))
    | int _ => exact iteT (q _ (Same.refl _))
    | str _ => exact iteT (q _ (Same.refl _))
    | lst _ _ => exact iteT (q _ (Same.refl _))
    | d0 _ => exact iteT (q _ (Same.refl _))
    | d1 _ => exact iteT (q _ (Same.refl _))
set_option maxHeartbeats 800000 in
theorem ok_idD {f fN fU fTu fA fAu fO fFu fCo fSp fCa fIr fTk fI fR fFc fLo fSo fOv fDw fSv fCh fUd fEt fAo fAd fDk fD fS fTt fW fPl fLu fLs fLc fM fE fX fNu fId fKn fHo fAy fOo fRp fAt fVa : Addr} {fd dN dU dTu dA dAu dO dFu dCo dSp dCa dIr dTk dI dR dFc dLo dSo dOv dDw dSv dCh dUd dEt dAo dAd dDk dD dS dTt dW dPl dLu dLs dLc dM dE dX dNu dId dKn dHo dAy dOo dRp dAt dVa : FuncData} {k : Nat} (F : Fun K "_law_is_draw" "_law_is_draw" sIsDraw f fd) (T : Tx K mg fN fU fTu fA fAu fO fFu fCo fSp fCa fIr fTk fI fR fFc fLo fSo fOv fDw fSv fCh fUd fEt fAo fAd fDk fD fS fTt fW fPl fLu fLs fLc fM fE fX fNu fId fKn fHo fAy fOo fRp fAt fVa dN dU dTu dA dAu dO dFu dCo dSp dCa dIr dTk dI dR dFc dLo dSo dOv dDw dSv dCh dUd dEt dAo dAd dDk dD dS dTt dW dPl dLu dLs dLc dM dE dX dNu dId dKn dHo dAy dOo dRp dAt dVa) :
    FnOk P w K mg base CX0 (k + 2) f fd ["_law_stock_here", "_law_plan_here", "_law_value"] spIrD := by
  have GNu : FnOk P w K mg base CX0 (k + 1) fNu dNu ["_law_value", "_law_low", "_law_high"] spLNum := ok_lnum T.Nu T.m_isinstance T.m_int T.m_bool
  refine F.ok scIdD (fun vs H Q E h => ?_) (fun cdv A outer s H vs Q E hr h => ?_)
  · obtain ⟨t, p, v, d, ls, rows, ps, rfl, _⟩ := h
    rfl
  · obtain ⟨t, p, v, d, ls, rows, ps, rfl, st, hr4, hrl, hp, hpl, hd, q⟩ := h
    refine ⟨_, (pss_cons (ps_if (PW.pt (pw_or (pt_not (pt_val (pe_callB (show CallR _ _ (rIsi K) from call_isi) (by rfl) T.m_isinstance (by decide +kernel) (pa_cons (pv 2) (pa_cons (pe_bltn (v := .ty "tuple") (by rfl) T.m_tuple (by decide +kernel) rfl) pa_nil))))) (pw_or1 (pt_cmpR op_ne (pe_callB call_len_seq (by rfl) T.m_len PySem.boot_len (pa_cons (pv 2) pa_nil)) (pe_callB call_len_seq (by rfl) T.m_len PySem.boot_len (pa_cons (pv 0) pa_nil)) (nomark _))))) (pss_one (ps_ret pe_bl)) pss_nil)
      (pss_cons (ps_for PassesOwn.never rfl (pi_zipM (by rfl) T.m_zip (pa_cons (pv 2) (pa_cons (pv 0) (pa_cons (pv 1) pa_nil)))) (pg_tup rfl (pgs_cons (pg_name (i := 3) scIdD.nd rfl (Or.inl rfl)) (pgs_cons (pg_name (i := 4) scIdD.nd rfl (Or.inl rfl)) (pgs_cons (pg_name (i := 5) scIdD.nd rfl (Or.inl rfl)) pgs_nil)))) (pss_cons (ps_if (PW.pt (pw_or (pt_not (pt_val (pe_callB (show CallR _ _ (rIsi K) from call_isi) (by rfl) T.m_isinstance (by decide +kernel) (pa_cons (pv 3) (pa_cons (pe_bltn (v := .ty "tuple") (by rfl) T.m_tuple (by decide +kernel) rfl) pa_nil))))) (pw_or1 (pt_cmpR op_ne (pe_callB call_len_seq (by rfl) T.m_len PySem.boot_len (pa_cons (pv 3) pa_nil)) (pe_callB call_len_seq (by rfl) T.m_len PySem.boot_len (pa_cons (pv 4) pa_nil)) (nomark _))))) (pss_one (ps_ret pe_bl)) pss_nil)
      (pss_cons (ps_if (pt_cmpR (op_neE hr.units) (pe_lc (own := [("_law_count", 6), ("_law_most", 7)]) (g := gTup K 2 (gCons (gName 6) (gCons (gName 7) gNil))) rfl scIdD.nd (pi_zipA (by rfl) T.m_zip (pa_cons (pv 3) (pa_cons (pv 4) pa_nil))) (blkOk_by (own := [("_law_count", 6), ("_law_most", 7)]) (N := ["_law_stock_here", "_law_plan_here", "_law_value", "_law_counts", "_law_row", "_law_many", "_law_count", "_law_most"]) (sc := defScope sIsDraw) (by decide +kernel)) (fun _ _ _ _ _ => (pg_tup rfl (pgs_cons (pg_name (i := 6) scIdD.nd rfl (Or.inl rfl)) (pgs_cons (pg_name (i := 7) scIdD.nd rfl (Or.inl rfl)) pgs_nil)))) (fun _ _ _ _ _ => pts_one (pt_not (pt_val (pe_call GNu (hr.mono (by omega)) (by rfl) T.gNu T.Nu.kp T.bNu .nil pass0 (pa_cons (pv 6) (pa_cons pe_int (pa_cons (pv 7) pa_nil))))))) (fun _ _ _ _ _ => pe_int)) (pe_lst pa_nil) (nomark _)) (pss_one (ps_ret pe_bl)) pss_nil)
      (pss_one (ps_if (pt_cmpR op_ne (pe_callB (show CallR _ _ (fun vs H Q => ∃ (a : Addr) (ns : List Int), vs = [V.ref a] ∧ SqT K H a (ns.map V.int) ∧ Q (.int ns.sum) H) from cr_sumT rfl) (by rfl) T.m_sum (by decide +kernel) (pa_cons (pv 3) pa_nil)) (pv 5) (nomark _)) (pss_one (ps_ret pe_bl)) pss_nil)))))
      (pss_one (ps_ret pe_bl)))), ?_⟩
    have hll := st.len
    obtain ⟨T0, t0, kT, kI, kB⟩ := dq_ty (K := K) hd
    refine ⟨v, rfl, _, _, _, _, _, rfl, .ty _, t0, kT, _, rfl, ?_⟩
    cases hd with
    | @tup a xs ds ha hs =>
      have hlen := hs.len
      refine iteNx rfl ?_
      refine ⟨_, rfl, a, _, rfl, .inr (SqT.of ha), _, rfl, t, _, rfl, .inr (SqT.of st.top), rfl, _, rfl, ?_⟩
      rw [List.length_map, dec_int]
      by_cases e : ds.length = rows.length
      · refine iteNx (by simp; omega) ?_
        refine ⟨_, rfl, _, rfl, _, rfl, fun _ => true, [a, t, p], [xs, ls.map V.ref, ps.map V.int], xs.length, rfl, by simp, by simp, fun r e => by cases e; rfl, rwm3 (SqT.of ha) (SqT.of st.top) (SqT.of hp) (by simp; omega) (by simp; omega), ?_⟩
        refine for_it walk_zm (fun i σ H' => ∃ y3 y4 y5 : Option V, σ = [some (.ref t), some (.ref p), some (.ref a), y3, y4, y5, none, none] ∧ Same H H' ∧ ∀ j, j < i → takenOk (rows.getD j []) (ps.getD j 0) (ds.getD j .none) = true) ⟨_, _, _, rfl, Same.refl _, fun j h => absurd h (Nat.not_lt_zero _)⟩
          (fun i σ H' _ h => by
            obtain ⟨_, _, _, _, sm, _⟩ := h
            exact rwm3 (SqT.of (sm _ _ ha)) (SqT.of (sm _ _ st.top)) (SqT.of (sm _ _ hp)) (by simp; omega) (by simp; omega)) (fun i x σ H' H2 hi h y => ?_) (fun σ H' h => ?_)
        · obtain ⟨y3, y4, y5, rfl, sm, hok⟩ := h
          obtain ⟨T1, rfl, nT, rfl⟩ := y
          have hir : i < rows.length := by omega
          have h1 : xs[i]? = some (xs[i]'(by omega)) := List.getElem?_eq_getElem (by omega)
          obtain ⟨dx, hdx, hq⟩ := hs.get h1
          generalize xs[i]'(by omega) = x at h1 hq
          have hdg : ds.getD i .none = dx := by rw [List.getD_eq_getElem?_getD, hdx]; rfl
          have h2 := getD_of (d := 0) (show i < ls.length by omega)
          have h3 := getD_of (d := (0 : Int)) (show i < ps.length by omega)
          have hri := getD_of (d := []) hir
          rw [col3 (x := x) (y := V.ref (ls.getD i 0)) (z := V.int (ps.getD i 0)) h1 (by rw [List.getElem?_map, h2]; rfl) (by rw [List.getElem?_map, h3]; rfl)]
          have sT := sm.trans (same_new (o := .tup [x, .ref (ls.getD i 0), .int (ps.getD i 0)]) nT)
          have hT : (upd H' T1 (.tup [x, .ref (ls.getD i 0), .int (ps.getD i 0)])) T1 = some (.tup [x, .ref (ls.getD i 0), .int (ps.getD i 0)]) := upd_same
          generalize upd H' T1 (.tup [x, .ref (ls.getD i 0), .int (ps.getD i 0)]) = H3 at sT hT ⊢
          have hrw := sT _ _ (st.row i _ _ h2 hri)
          have hq3 := Dq.same sT _ _ hq
          have hrl1 := hrl _ (List.mem_of_getElem? hri)
          have no : takenOk (rows.getD i []) (ps.getD i 0) dx = false → ∀ {H4 : Hp}, Same H3 H4 → Q (.bl false) H4 := fun h {H4} s4 => by
            have q := q _ (sT.trans s4)
            rw [dr_no hir (by rw [hdg]; exact h)] at q
            exact q
          have yes : takenOk (rows.getD i []) (ps.getD i 0) dx = true → ∀ j, j < i + 1 → takenOk (rows.getD j []) (ps.getD j 0) (ds.getD j .none) = true := fun h j hj => by
            by_cases e : j = i
            · subst e
              rw [hdg]
              exact h
            · exact hok j (by omega)
          clear hok
          generalize ps.getD i 0 = many at hT no yes ⊢
          generalize rows.getD i [] = row at hrw hrl1 no yes
          generalize ls.getD i 0 = ra at hrw hT ⊢
          refine ⟨T1, [x, .ref ra, .int many], rfl, .inl (.inl hT), rfl, x, [.ref ra, .int many], rfl, .ref ra, [.int many], rfl, .int many, [], rfl, rfl, ?_⟩
          obtain ⟨T9, t9, kT9, _, _⟩ := dq_ty (K := K) hq3
          refine ⟨x, rfl, _, _, _, _, _, rfl, .ty _, t9, kT9, _, rfl, ?_⟩
          cases hq3 with
          | @tup ca cs es hc hcs =>
            have hcl := hcs.len
            refine iteNx rfl ?_
            refine ⟨_, rfl, ca, _, rfl, .inr (SqT.of hc), _, rfl, ra, _, rfl, .inr (SqT.of hrw), rfl, _, rfl, ?_⟩
            rw [List.length_map, dec_int]
            by_cases e5 : es.length = row.length
            · refine iteNx (by simp; omega) ?_
              refine ⟨_, rfl, _, rfl, ca, ra, cs, _, rfl, .inr ⟨SqT.of hc, SqT.of hrw, fun B nB => ?_⟩⟩
              refine lc_it (walk_zipT (xs := cs) (ys := row.map V.int) (by rw [List.length_map]; omega)) (fun j H4 => H4 B = some (.lst ((badUq es row j).map V.int)) ∧ Same H3 H4) ⟨upd_same, same_new nB⟩ (fun j H4 _ h => ⟨SqT.of (h.2 _ _ hc), SqT.of (h.2 _ _ hrw)⟩) (fun j z H4 H5 hj h y => ?_) (fun H4 h => ?_)
              · obtain ⟨hB, s4⟩ := h
                obtain ⟨T2, z1, z2, rfl, nT2, rfl, f1, f2⟩ := y
                obtain ⟨dz, hdz, hqz⟩ := hcs.get f1
                obtain ⟨l, hl, rfl⟩ := get_map f2
                have s5 := s4.trans (same_new (o := .tup [z1, .int l]) nT2)
                have hB5 := same_new (o := .tup [z1, V.int l]) nT2 _ _ hB
                refine ⟨T2, [z1, .int l], rfl, .inl (.inl upd_same), rfl, z1, [.int l], rfl, .int l, [], rfl, rfl, rfl, ?_⟩
                refine ⟨_, rfl, _, rfl, z1, dz, l, rfl, Dq.same s5 _ _ hqz, _, rfl, ?_⟩
                rw [bad_suq hdz hl]
                cases en : numOk l dz with
                | true =>
                  rw [if_pos rfl, List.append_nil]
                  exact iteF (A := False) ⟨hB5, s5⟩
                | false =>
                  refine iteT ⟨_, hB5, ?_, ?_, fun b' o e => ?_⟩
                  · have := bad_leq es row j
                    rw [List.length_map]
                    exact len_lt (by omega)
                  · rw [upd_same, List.map_append]
                    rfl
                  · rw [upd_ne (ne_of_none e nB)]
                    exact s5 _ _ e
              · obtain ⟨hB, s4⟩ := h
                refine ⟨Nat.zero_le _, fun e1 ne1 => ?_⟩
                have s5 := s4.trans (same_new (o := .lst []) ne1)
                refine ⟨B, e1, _, rfl, rfl, same_new ne1 _ _ hB, upd_same, _, rfl, ?_⟩
                rw [bad_nil (by rw [List.length_zipWith]; omega)]
                have hup : upOk row (.tuple es) = (List.zipWith (fun d l => numOk l d) es row).all id := by
                  show (decide (es.length = row.length) && _) = _
                  rw [decide_eq_true e5, Bool.true_and]
                rw [← hup]
                cases eu : upOk row (.tuple es) with
                | false =>
                  refine iteT (no ?_ s5)
                  unfold takenOk
                  rw [eu, Bool.false_and]
                | true =>
                  refine iteF (A := False) ?_
                  obtain ⟨ci, ei, hcil⟩ := up_row eu
                  obtain ⟨ca2, e8, hc2⟩ := dq_row (H := H3) (v := .ref ca) (r := ci) (by rw [← ei]; exact .tup hc hcs)
                  cases e8
                  refine ⟨_, rfl, ca, ci, rfl, SqT.of (s5 _ _ hc2), _, rfl, rfl, _, rfl, ?_⟩
                  rw [dec_int]
                  have htk : takenOk row many (.tuple es) = (ci.sum == many) := by
                    unfold takenOk
                    rw [eu, Bool.true_and, ei, sum_row]
                    rfl
                  cases eb : (ci.sum == many) with
                  | true => exact iteF (A := False) ⟨_, _, _, rfl, sT.trans s5, yes (htk.trans eb)⟩
                  | false => exact iteT (no (htk.trans eb) s5)
            · refine iteT2 (by simp; omega) (no ?_ (Same.refl _))
              unfold takenOk
              rw [show upOk row (.tuple es) = false by show (decide (es.length = row.length) && _) = false; rw [decide_eq_false e5]; rfl]
              rfl
          | non => exact iteT (no rfl (Same.refl _))
          | bl _ => exact iteT (no rfl (Same.refl _))
          | int _ => exact iteT (no rfl (Same.refl _))
          | str _ => exact iteT (no rfl (Same.refl _))
          | lst _ _ => exact iteT (no rfl (Same.refl _))
          | d0 _ => exact iteT (no rfl (Same.refl _))
          | d1 _ => exact iteT (no rfl (Same.refl _))
        · obtain ⟨y3, y4, y5, rfl, sm, hok⟩ := h
          have q := q _ sm
          rw [dr_yes e (by rw [← e, ← hlen]; exact hok)] at q
          exact q
      · refine iteT2 (by simp; omega) ?_
        have q : Q (.bl (decide (ds.length = rows.length) && (List.range rows.length).all fun j => takenOk (rows.getD j []) (ps.getD j 0) (ds.getD j .none))) H := q _ (Same.refl _)
        rw [decide_eq_false e, Bool.false_and] at q
        exact q
    | non => exact iteT (q _ (Same.refl _))
    | bl _ => exact iteT (q _ (Same.refl _))
    | int _ => exact iteT (q _ (Same.refl _))
    | str _ => exact iteT (q _ (Same.refl _))
    | lst _ _ => exact iteT (q _ (Same.refl _))
    | d0 _ => exact iteT (q _ (Same.refl _))
    | d1 _ => exact iteT (q _ (Same.refl _))
end
end DD
namespace DD
open PySem PySem.Spec PyProof.Rows L2 RZ DM
def allOk (m : Int) : PyData → Bool
  | .tuple xs => xs.all (numOk m)
  | _ => false
theorem len_lt3 {n : Nat} (h : n ≤ 20000) : n < sizeLine := by
  rw [sizeLine_eq]
  omega
abbrev NN : List Str := ["value", "fewest", "most", "limit", "number"]
theorem scNums : FnScope NN ["value", "fewest", "most", "limit"] (defScope sNums) := ⟨rfl, rfl, rfl, by decide +kernel, rfl, by decide +kernel, by decide +kernel⟩
section
variable {P : Program} {w : World} {K : PySem.W.Frag} {mg : Str → Option Value} {base : Heap}
def spNums : Sp := fun vs H Q _ => ∃ v d a b m, vs = [v, .int a, .int b, .int m] ∧ Dq H v d ∧ lenD d ≤ 20000 ∧
  ∀ H', Same H H' → Q (.bl (isTup d && (decide (a ≤ (lenD d : Int)) && decide ((lenD d : Int) ≤ b)) && allOk m d)) H'
theorem ok_nums {f fT fU fN : Addr} {fd fdT fdU fdN : FuncData} {k : Nat} (F : Fun K "are_numbers" "are_numbers" sNums f fd) (FT : Fun K "is_tuple_of" "is_tuple_of" sTupOf fT fdT) (bT : Binds K fdT ["value", "fewest", "most"] []) (gT : mg "is_tuple_of" = some (.ref fT))
    (FU : Fun K "is_number_up_to" "is_number_up_to" sUpTo fU fdU) (bU : Binds K fdU ["value", "most"] []) (gU : mg "is_number_up_to" = some (.ref fU)) (FN : Fun K "is_number" "is_number" sIsNum fN fdN) (bN : Binds K fdN ["value"] []) (gN : mg "is_number" = some (.ref fN))
    (mI : mg "isinstance" = none) (mi : mg "int" = none) (mb : mg "bool" = none) (mt : mg "tuple" = none) (ml : mg "len" = none) (mA : mg "all" = none) :
    FnOk P w K mg base CX0 (k + 3) f fd ["value", "fewest", "most", "limit"] spNums := by
  have GT : FnOk P w K mg base CX0 (k + 1) fT fdT ["value", "fewest", "most"] (spTupOf K) := ok_tupof FT mI mt ml
  have GU : FnOk P w K mg base CX0 (k + 2) fU fdU ["value", "most"] spUpTo := ok_upto FU FN bN gN mI mi mb
  refine F.ok scNums (fun vs H Q E h => ?_) (fun cdv A outer s H vs Q E hr h => ?_)
  · obtain ⟨v, d, a, b, m, rfl, _⟩ := h
    rfl
  · obtain ⟨v, d, a, b, m, rfl, hd, hl, q⟩ := h
    refine ⟨_, pss_cons (ps_if (pt_not (pt_val (pe_call GT (hr.mono (by omega)) (by rfl) gT FT.kp bT .nil pass0 (pa_cons (pv 0) (pa_cons (pv 1) (pa_cons (pv 2) pa_nil)))))) (pss_one (ps_ret pe_bl)) pss_nil)
      (pss_one (ps_ret (pe_callB (cr_all rfl) (by rfl) mA (by decide +kernel) (pa_cons (pe_lc (own := [("number", 4)]) (g := gName 4) rfl scNums.nd (pi_tup (pv 0))
        (blkOk_by (own := [("number", 4)]) (N := NN) (sc := defScope sNums) (by decide +kernel)) (fun _ _ _ _ _ => pg_name (i := 4) scNums.nd rfl (Or.inl rfl)) (fun _ _ _ _ _ => pts_nil)
        (fun _ _ _ _ _ => pe_call GU hr (by rfl) gU FU.kp bU .nil pass0 (pa_cons (pv 4) (pa_cons (pv 3) pa_nil)))) pa_nil)))), ?_⟩
    refine ⟨v, rfl, _, rfl, _, rfl, v, d, a, b, rfl, hd, _, rfl, ?_⟩
    by_cases c : (isTup d && (decide (a ≤ (lenD d : Int)) && decide ((lenD d : Int) ≤ b))) = true
    · rw [c]
      rw [c, Bool.true_and] at q
      refine iteF ?_
      have ct : isTup d = true := by
        rw [Bool.and_eq_true] at c
        exact c.1
      cases hd with
      | @tup p xs ds hp hs =>
        refine ⟨.ref p, rfl, p, rfl, ⟨_, SqT.of hp⟩, fun D nD => ?_⟩
        refine lc_tup (xs := xs) (fun i H' => H' D = some (.lst ((ds.take i).map fun d => V.bl (numOk m d))) ∧ Same H H') ⟨upd_same, same_new nD⟩ (fun i H' _ h => SqT.of (h.2 _ _ hp)) (fun i x H' hx h => ?_) (fun H' h => ?_)
        · obtain ⟨hD, sm⟩ := h
          obtain ⟨e, he, hde⟩ := hs.get hx
          refine ⟨rfl, x, rfl, _, rfl, x, e, m, rfl, Dq.same sm e x hde, _, hD, ?_, ?_, fun b' o e' => ?_⟩
          · rw [List.length_map, List.length_take]
            have hl' : ds.length ≤ 20000 := hl
            exact len_lt3 (by omega)
          · rw [upd_same, take_succ_map he]
          · rw [upd_ne (ne_of_none e' nD)]
            exact sm b' o e'
        · obtain ⟨hD, sm⟩ := h
          rw [hs.len, List.take_length] at hD
          refine ⟨D, ds.map (numOk m), rfl, ?_, ?_⟩
          · rw [List.map_map]
            exact SqL.of hD
          · have e : (ds.map (numOk m)).all id = ds.all (numOk m) := by rw [List.all_map]; rfl
            rw [e]
            exact q H' sm
      | _ => exact Bool.noConfusion (show false = true from ct)
    · have c' := Bool.eq_false_iff.mpr c
      rw [c']
      rw [c', Bool.false_and] at q
      exact iteT (q H (Same.refl _))
end
theorem walk_zipT2 {K : PySem.W.Frag} {a b : Addr} {xs ys : List V} (hl : ys.length ≤ xs.length) : Walk (ItzT K a b) ys.length (fun H => SqT K H a xs ∧ SqT K H b ys) (YPair (fun i => xs[i]?) (fun i => ys[i]?)) := by
  refine ⟨fun i H hi q => ⟨xs, ys, xs[i]'(by omega), ys[i], q.1, q.2, List.getElem?_eq_getElem (by omega), by simp [hi]⟩, fun H q => ⟨xs, ys, q.1, q.2, .inr (Nat.le_refl _)⟩, fun i H v H' _ q y => ?_⟩
  obtain ⟨T, x', y', rfl, hT, rfl, f1, f2⟩ := y
  exact ⟨T, x', y', rfl, hT, rfl, f1 xs q.1, f2 ys q.2⟩
theorem natsV_len (ds : List Nat) : (natsV ds).length = ds.length := by simp [natsV]
def ascD : PyData → Bool
  | .tuple ds => (List.zipWith (fun a b => decide (intD a < intD b)) ds (ds.drop 1)).all id
  | _ => false
def adOk (m : Nat) (d : PyData) : Bool := (isTup d && (decide ((0 : Int) ≤ (lenD d : Int)) && decide ((lenD d : Int) ≤ (m : Int))) && allOk ((m : Int) - 1) d) && ascD d
def natsOf : PyData → List Nat
  | .tuple ds => ds.map fun x => (intD x).toNat
  | _ => []
theorem nats_of {m : Int} : ∀ {ds : List PyData}, ds.all (numOk m) = true → ds = (ds.map fun x => (intD x).toNat).map (fun j : Nat => PyData.int (j : Int)) ∧ ∀ j ∈ ds.map (fun x => (intD x).toNat), (j : Int) ≤ m
  | [], _ => ⟨rfl, fun j hj => by simp at hj⟩
  | d :: ds, h => by
    rw [List.all_cons, Bool.and_eq_true] at h
    obtain ⟨h1, h2⟩ := nats_of h.2
    have h3 := h.1
    cases d with
    | int i =>
      have h3 : (decide (0 ≤ i) && decide (i ≤ m)) = true := h3
      rw [Bool.and_eq_true] at h3
      have a := of_decide_eq_true h3.1
      have b := of_decide_eq_true h3.2
      have e : ((i.toNat : Nat) : Int) = i := by omega
      refine ⟨?_, fun j hj => ?_⟩
      · rw [List.map_cons, List.map_cons, ← h1]
        show PyData.int i :: ds = PyData.int ((i.toNat : Nat) : Int) :: ds
        rw [e]
      · rw [List.map_cons] at hj
        rcases List.mem_cons.mp hj with rfl | hj
        · show ((i.toNat : Nat) : Int) ≤ m
          omega
        · exact h2 j hj
    | _ => cases h3
/-- a tuple of numbers below m, and it stands so -/
theorem ad_nats {H : Hp} {v : V} {d : PyData} {m : Nat} (h : (isTup d && (decide ((0 : Int) ≤ (lenD d : Int)) && decide ((lenD d : Int) ≤ (m : Int))) && allOk ((m : Int) - 1) d) = true) (hd : Dq H v d) :
    ∃ a, v = .ref a ∧ H a = some (.tup (natsV (natsOf d))) ∧ (natsOf d).length ≤ m ∧ (∀ j ∈ natsOf d, j < m) ∧ d = .tuple ((natsOf d).map fun j : Nat => PyData.int (j : Int)) := by
  rw [Bool.and_eq_true, Bool.and_eq_true, Bool.and_eq_true] at h
  obtain ⟨⟨h1, _, h2⟩, h3⟩ := h
  cases hd with
  | @tup a xs ds ha hs =>
    have h3 : ds.all (numOk ((m : Int) - 1)) = true := h3
    have h2 := of_decide_eq_true h2
    obtain ⟨e1, e2⟩ := nats_of h3
    have e3 : xs = natsV (ds.map fun x => (intD x).toNat) := by
      rw [e1] at hs
      have hs2 : DqAll H xs (((ds.map fun x => (intD x).toNat).map fun j : Nat => (j : Int)).map PyData.int) := by
        rw [List.map_map (g := PyData.int)]
        exact hs
      rw [dqs_ints hs2, List.map_map]
      rfl
    refine ⟨a, rfl, by rw [ha, e3]; rfl, ?_, fun j hj => ?_, ?_⟩
    · show (ds.map fun x => (intD x).toNat).length ≤ m
      rw [List.length_map]
      have h2 : ((ds.length : Nat) : Int) ≤ (m : Int) := h2
      omega
    · have := e2 j hj
      omega
    · show PyData.tuple ds = PyData.tuple ((ds.map fun x => (intD x).toNat).map fun j : Nat => PyData.int (j : Int))
      rw [← e1]
  | _ => cases h1
theorem asc_nats (js : List Nat) : ascD (.tuple (js.map fun j : Nat => PyData.int (j : Int))) = (List.zipWith (fun a b : Nat => decide ((a : Int) < (b : Int))) js (js.drop 1)).all id := by
  show (List.zipWith (fun a b => decide (intD a < intD b)) (js.map fun j : Nat => PyData.int (j : Int)) ((js.map fun j : Nat => PyData.int (j : Int)).drop 1)).all id = _
  rw [← List.map_drop, List.zipWith_map]
  rfl
theorem sc_ad : FnScope ["stock", "value", "drawer", "after"] ["stock", "value"] (defScope sAreDr) := ⟨rfl, rfl, rfl, by decide +kernel, rfl, by decide +kernel, by decide +kernel⟩
section
variable {P : Program} {w : World} {K : PySem.W.Frag} {mg : Str → Option Value} {base : Heap}
def spAdD : Sp := fun vs H Q _ => ∃ (t : Addr) (v : V) (d : PyData) (ls : List Addr) (rows : List (List Int)), vs = [.ref t, v] ∧ StockAt H t ls rows ∧ rows.length ≤ 4 ∧ Dq H v d ∧ lenD d ≤ 20000 ∧ ∀ H', Same H H' → Q (.bl (adOk rows.length d)) H'
theorem ok_adD {f fN fU fTu fA fAu fO fFu fCo fSp fCa fIr fTk fI fR fFc fLo fSo fOv fDw fSv fCh fUd fEt fAo fAd fDk fD fS fTt fW fPl fLu fLs fLc fM fE fX fNu fId fKn fHo fAy fOo fRp fAt fVa : Addr} {fd dN dU dTu dA dAu dO dFu dCo dSp dCa dIr dTk dI dR dFc dLo dSo dOv dDw dSv dCh dUd dEt dAo dAd dDk dD dS dTt dW dPl dLu dLs dLc dM dE dX dNu dId dKn dHo dAy dOo dRp dAt dVa : FuncData} {k : Nat} (F : Fun K "are_drawers" "are_drawers" sAreDr f fd) (T : Tx K mg fN fU fTu fA fAu fO fFu fCo fSp fCa fIr fTk fI fR fFc fLo fSo fOv fDw fSv fCh fUd fEt fAo fAd fDk fD fS fTt fW fPl fLu fLs fLc fM fE fX fNu fId fKn fHo fAy fOo fRp fAt fVa dN dU dTu dA dAu dO dFu dCo dSp dCa dIr dTk dI dR dFc dLo dSo dOv dDw dSv dCh dUd dEt dAo dAd dDk dD dS dTt dW dPl dLu dLs dLc dM dE dX dNu dId dKn dHo dAy dOo dRp dAt dVa) :
    FnOk P w K mg base CX0 (k + 4) f fd ["stock", "value"] spAdD := by
  have GA : FnOk P w K mg base CX0 (k + 3) fA dA ["value", "fewest", "most", "limit"] spNums := ok_nums T.A T.Tu T.bTu T.gTu T.U T.bU T.gU T.N T.bN T.gN T.m_isinstance T.m_int T.m_bool T.m_tuple T.m_len T.m_all
  refine F.ok sc_ad (fun vs H Q E h => ?_) (fun cdv A outer s H vs Q E hr h => ?_)
  · obtain ⟨t, v, d, ls, rows, rfl, _⟩ := h
    rfl
  · obtain ⟨t, v, d, ls, rows, rfl, st, h4, hd0, hl0, q⟩ := h
    refine ⟨_, (pss_cons (ps_if (pt_not (pt_val (pe_call GA (hr.mono (by omega)) (by rfl) T.gA T.A.kp T.bA .nil pass0 (pa_cons (pv 1) (pa_cons pe_int (pa_cons (pe_callB call_len_seq (by rfl) T.m_len PySem.boot_len (pa_cons (pv 0) pa_nil)) (pa_cons (pe_op op_sub (pe_callB call_len_seq (by rfl) T.m_len PySem.boot_len (pa_cons (pv 0) pa_nil)) pe_int) pa_nil))))))) (pss_one (ps_ret pe_bl)) pss_nil)
      (pss_one (ps_ret (pe_callB (cr_all rfl) (by rfl) T.m_all (by decide +kernel) (pa_cons (pe_lc (own := [("drawer", 2), ("after", 3)]) (g := gTup K 2 (gCons (gName 2) (gCons (gName 3) gNil))) rfl sc_ad.nd (pi_zipA (by rfl) T.m_zip (pa_cons (pv 1) (pa_cons (pe_slice sl_tupQ (pv 1) (po_some pe_int) po_none) pa_nil))) (blkOk_by (own := [("drawer", 2), ("after", 3)]) (N := ["stock", "value", "drawer", "after"]) (sc := defScope sAreDr) (by decide +kernel)) (fun _ _ _ _ _ => (pg_tup rfl (pgs_cons (pg_name (i := 2) sc_ad.nd rfl (Or.inl rfl)) (pgs_cons (pg_name (i := 3) sc_ad.nd rfl (Or.inl rfl)) pgs_nil)))) (fun _ _ _ _ _ => pts_nil) (fun _ _ _ _ _ => (pe_cmpR op_lt (pv 2) (pv 3) (nomark _)))) pa_nil))))), ?_⟩
    refine ⟨_, rfl, _, rfl, t, _, rfl, .inr (SqT.of st.top), _, rfl, t, _, rfl, .inr (SqT.of st.top), _, _, rfl, rfl, v, d, 0, _, _, rfl, hd0, hl0, fun H1 s1 => ?_⟩
    rw [List.length_map, st.len]
    unfold adOk at q
    cases hc : (isTup d && (decide ((0 : Int) ≤ (lenD d : Int)) && decide ((lenD d : Int) ≤ (rows.length : Int))) && allOk ((rows.length : Int) - 1) d) with
    | false =>
      rw [hc, Bool.false_and] at q
      exact ⟨_, rfl, iteT (q _ s1)⟩
    | true =>
      obtain ⟨d, rfl, hd, hjl, hjm, hde⟩ := ad_nats hc hd0
      rw [hc, Bool.true_and, hde, asc_nats] at q
      generalize natsOf _ = ds at hd hjl hjm q
      refine ⟨_, rfl, iteF (A := False) ?_⟩
      refine ⟨_, rfl, _, rfl, ?_⟩
      dsimp only [tNoPart, tPart]
      refine ⟨1, rfl, d, _, rfl, s1 _ _ hd, fun p H2 s2 hp => ?_⟩
      have hp2 : H2 p = some (.tup (natsV (ds.drop 1))) := by
        have e := cutV_from (xs := natsV ds) (s := 1)
        rw [hp, show ((1 : Nat) : Int) = 1 from rfl] at *
        rw [e]
        unfold natsV
        rw [List.map_drop]
      have hd2 := s2 _ _ (s1 _ _ hd)
      refine ⟨d, p, natsV ds, natsV (ds.drop 1), rfl, .inr ⟨SqT.of hd2, SqT.of hp2, fun D nD => ?_⟩⟩
      refine lc_it (walk_zipT2 (xs := natsV ds) (ys := natsV (ds.drop 1)) (by rw [natsV_len, natsV_len, List.length_drop]; omega)) (fun i H' => H' D = some (.lst (((List.zipWith (fun a b : Nat => decide ((a : Int) < (b : Int))) ds (ds.drop 1)).take i).map V.bl)) ∧ Same H2 H') ⟨upd_same, same_new nD⟩
        (fun i H' _ h => ⟨SqT.of (h.2 _ _ hd2), SqT.of (h.2 _ _ hp2)⟩) (fun i x H' H3 hi h y => ?_) (fun H' h => ?_)
      · obtain ⟨hD, sm⟩ := h
        obtain ⟨T1, x1, x2, rfl, nT, rfl, e1, e2⟩ := y
        obtain ⟨a1, ha1, rfl⟩ := get_map e1
        obtain ⟨a2, ha2, rfl⟩ := get_map e2
        have hz : (List.zipWith (fun a b : Nat => decide ((a : Int) < (b : Int))) ds (ds.drop 1))[i]? = some (decide ((a1 : Int) < (a2 : Int))) := by
          rw [List.getElem?_zipWith, ha1, ha2]
        have sT : Same H' (upd H' T1 (.tup [.int a1, .int a2])) := same_new nT
        refine ⟨T1, [.int a1, .int a2], rfl, .inl (.inl upd_same), rfl, .int a1, [.int a2], rfl, .int a2, [], rfl, rfl, rfl, _, rfl, _, rfl, _, _, rfl, rfl, _, sT _ _ hD, ?_, ?_, fun b' o e => ?_⟩
        · rw [List.length_map, List.length_take]
          have : (List.zipWith (fun a b : Nat => decide ((a : Int) < (b : Int))) ds (ds.drop 1)).length ≤ ds.length := by rw [List.length_zipWith]; omega
          exact len_lt (by omega)
        · rw [upd_same, take_succ_map hz]
        · rw [upd_ne (ne_of_none e nD)]
          exact sT _ _ (sm b' o e)
      · obtain ⟨hD, sm⟩ := h
        rw [natsV_len, List.take_of_length_le (by rw [List.length_zipWith]; omega)] at hD
        refine ⟨D, _, rfl, SqL.of hD, ?_⟩
        exact q _ (s1.trans (s2.trans sm))
end
end DD
namespace DD
open PySem PySem.Spec PyProof.Rows L2 RZ DM
theorem scRoomIn : FnScope ["stock", "caps", "drawers", "drawer"] ["stock", "caps", "drawers"] (defScope sRoomIn) := ⟨rfl, rfl, rfl, by decide +kernel, rfl, by decide +kernel, by decide +kernel⟩
theorem sc_ao : FnScope ["stock", "caps", "plan", "value", "drawer"] ["stock", "caps", "plan", "value"] (defScope sAreOv) := ⟨rfl, rfl, rfl, by decide +kernel, rfl, by decide +kernel, by decide +kernel⟩
theorem sc_et : FnScope ["stock", "collections", "plan", "value", "spoilings", "spoiling", "drawers"] ["stock", "collections", "plan", "value"] (defScope sExcl) := ⟨rfl, rfl, rfl, by decide +kernel, rfl, by decide +kernel, by decide +kernel⟩
def aoOk (rows : List (List Int)) (ps : List Int) (n : Nat) (cs : List (Option Int)) (d : PyData) : Bool := adOk rows.length d && ovB rows ps n cs (natsOf d)
def etOk (rows ws : List (List Int)) (ps : List Int) (n : Nat) : PyData → Bool
  | .tuple ds => decide (ds.length = (spOf ws).length) && (List.zipWith (fun sp x => aoOk rows ps n (capsOf ws sp n) x) (spOf ws) ds).all id
  | _ => false
/-- no tuple in it is longer than 20,000 -/
def Slim (d : PyData) : Prop := lenD d ≤ 20000 ∧ ∀ ds, d = .tuple ds → ∀ x ∈ ds, lenD x ≤ 20000
theorem etOk_no {rows ws : List (List Int)} {ps : List Int} {n : Nat} {d : PyData} (h : (isTup d && (decide (((spOf ws).length : Int) ≤ (lenD d : Int)) && decide ((lenD d : Int) ≤ ((spOf ws).length : Int)))) = false) : etOk rows ws ps n d = false := by
  cases d with
  | tuple ds =>
    show (decide (ds.length = (spOf ws).length) && _) = false
    rw [decide_eq_false, Bool.false_and]
    intro z
    have h : (true && (decide (((spOf ws).length : Int) ≤ (ds.length : Int)) && decide ((ds.length : Int) ≤ ((spOf ws).length : Int)))) = false := h
    rw [z, decide_eq_true (Int.le_refl _)] at h
    cases h
  | _ => rfl
section
variable {P : Program} {w : World} {K : PySem.W.Frag} {mg : Str → Option Value} {base : Heap}
def spRoomIn : Sp := fun vs H Q _ => ∃ (t b d : Addr) (ls : List Addr) (rows : List (List Int)) (n : Nat) (cs : List (Option Int)) (ds : List Nat), vs = [.ref t, .ref b, .ref d] ∧ StockAt H t ls rows ∧ (∀ r ∈ rows, r.length = n) ∧ n ≤ 100 ∧
  H b = some (.tup (cs.map optI)) ∧ cs.length = n ∧ H d = some (.tup (natsV ds)) ∧ ds.length ≤ 4 ∧ (∀ j ∈ ds, j < rows.length) ∧ ∀ H', Same H H' → Q (.int (roomS rows n cs ds)) H'
theorem ok_roomin {f fN fU fTu fA fAu fO fFu fCo fSp fCa fIr fTk fI fR fFc fLo fSo fOv fDw fSv fCh fUd fEt fAo fAd fDk fD fS fTt fW fPl fLu fLs fLc fM fE fX fNu fId fKn fHo fAy fOo fRp fAt fVa : Addr} {fd dN dU dTu dA dAu dO dFu dCo dSp dCa dIr dTk dI dR dFc dLo dSo dOv dDw dSv dCh dUd dEt dAo dAd dDk dD dS dTt dW dPl dLu dLs dLc dM dE dX dNu dId dKn dHo dAy dOo dRp dAt dVa : FuncData} {k : Nat} (F : Fun K "room_in" "room_in" sRoomIn f fd) (T : Tx K mg fN fU fTu fA fAu fO fFu fCo fSp fCa fIr fTk fI fR fFc fLo fSo fOv fDw fSv fCh fUd fEt fAo fAd fDk fD fS fTt fW fPl fLu fLs fLc fM fE fX fNu fId fKn fHo fAy fOo fRp fAt fVa dN dU dTu dA dAu dO dFu dCo dSp dCa dIr dTk dI dR dFc dLo dSo dOv dDw dSv dCh dUd dEt dAo dAd dDk dD dS dTt dW dPl dLu dLs dLc dM dE dX dNu dId dKn dHo dAy dOo dRp dAt dVa) :
    FnOk P w K mg base CX0 (k + 2) f fd ["stock", "caps", "drawers"] spRoomIn := by
  have GO : FnOk P w K mg base CX0 (k + 1) fO dO ["stock"] (spTotals K) := ok_totals T.O T.m_tuple T.m_sum T.m_zip
  have GR : FnOk P w K mg base CX0 (k + 1) fR dR ["totals", "caps"] spRoomOf := ok_roomof T.R T
  refine F.ok scRoomIn (fun vs H Q E h => ?_) (fun cdv A outer s H vs Q E hr h => ?_)
  · obtain ⟨t, b, d, ls, rows, n, cs, ds, rfl, _⟩ := h
    rfl
  · obtain ⟨t, b, d, ls, rows, n, cs, ds, rfl, st, hrn, hn, hb, hcl, hd, hd4, hdb, q⟩ := h
    refine ⟨_, (pss_one (ps_ret (pe_call GR (hr.mono (by omega)) (by rfl) T.gR T.R.kp T.bR .nil pass0 (pa_cons (pe_call GO (hr.mono (by omega)) (by rfl) T.gO T.O.kp T.bO .nil pass0 (pa_cons (pe_lc (own := [("drawer", 3)]) (g := gName 3) rfl scRoomIn.nd (pi_tup (pv 2)) (blkOk_by (own := [("drawer", 3)]) (N := ["stock", "caps", "drawers", "drawer"]) (sc := defScope sRoomIn) (by decide +kernel)) (fun _ _ _ _ _ => (pg_name (i := 3) scRoomIn.nd rfl (Or.inl rfl))) (fun _ _ _ _ _ => pts_nil) (fun _ _ _ _ _ => (pe_ix (show IxR _ (rIxT K) from ix_tup) (pv 0) (pv 3) (fun _ _ => rfl)))) pa_nil)) (pa_cons (pv 1) pa_nil))))), ?_⟩
    refine ⟨.ref d, rfl, d, rfl, ⟨_, SqT.of hd⟩, fun D2 nD2 => ?_⟩
    refine lc_tup (xs := natsV ds) (fun m H4 => H4 D2 = some (.lst (((pickL ls ds).take m).map V.ref)) ∧ Same H H4) ⟨upd_same, same_new nD2⟩ (fun m H4 _ h => SqT.of (h.2 _ _ hd)) (fun m x H4 hx h => ?_) (fun H4 h => ?_)
    · obtain ⟨hD2, s4⟩ := h
      obtain ⟨j, hj, rfl⟩ := get_map hx
      have hjr := hdb j (List.mem_of_getElem? hj)
      have hjl : j < ls.length := by rw [st.len]; exact hjr
      have hpk : (pickL ls ds)[m]? = some (ls.getD j 0) := by
        unfold pickL
        rw [List.getElem?_map, hj]
        rfl
      have gr : (ls.map V.ref)[j]? = some (.ref (ls.getD j 0)) := by
        rw [List.getElem?_map, getD_of (d := 0) hjl]
        rfl
      refine ⟨rfl, .ref t, rfl, .int (j : Int), rfl, t, _, (j : Int), .ref (ls.getD j 0), rfl, rfl, SqT.of (s4 _ _ st.top), atI_nat gr, _, hD2, ?_, ?_, fun b' o e => ?_⟩
      · rw [List.length_map, List.length_take]
        have : (pickL ls ds).length = ds.length := by simp [pickL]
        exact len_lt (by omega)
      · rw [upd_same, take_succ_map hpk]
      · rw [upd_ne (ne_of_none e nD2)]
        exact s4 b' o e
    · obtain ⟨hD2, s4⟩ := h
      rw [natsV_len, List.take_of_length_le (by simp [pickL])] at hD2
      have hll : (pickL ls ds).length = (pickR rows ds).length := by simp [pickL, pickR]
      have hpl2 : (pickR rows ds).length = ds.length := by simp [pickR]
      have hat : ∀ (j : Nat) (l : Addr) (r : List Int), (pickL ls ds)[j]? = some l → (pickR rows ds)[j]? = some r → H4 l = some (.tup (r.map V.int)) ∧ r.length = (if ds = [] then 0 else n) := fun j l r e1 e2 => by
        unfold pickL at e1
        unfold pickR at e2
        obtain ⟨j1, h1, rfl⟩ := get_map e1
        obtain ⟨j2, h2, rfl⟩ := get_map e2
        obtain rfl : j1 = j2 := Option.some.inj (h1.symm.trans h2)
        have hjr := hdb j1 (List.mem_of_getElem? h1)
        have g := getD_of (d := []) hjr
        rw [if_neg (fun z => by rw [z] at h1; simp at h1)]
        exact ⟨s4 _ _ (st.row j1 _ _ (getD_of (by rw [st.len]; exact hjr)) g), hrn _ (List.mem_of_getElem? g)⟩
      have htl : (totL rows n ds).length ≤ n := by
        unfold totL
        rw [tot_len]
        split <;> omega
      refine ⟨D2, pickL ls ds, pickR rows ds, if ds = [] then 0 else n, rfl, .inr (SqL.of hD2), hll, hat, (fun e => by rw [if_pos (List.eq_nil_of_length_eq_zero (by rw [← hpl2, e]; rfl))]), by omega, by split <;> omega, fun tt H5 s5 _ htt => ?_⟩
      exact ⟨_, rfl, tt, b, totL rows n ds, cs, rfl, htt, s5 _ _ (s4 _ _ hb), by omega, by omega, fun H6 s6 => q H6 (s4.trans (s5.trans s6))⟩
def spAoD : Sp := fun vs H Q _ => ∃ (t b p : Addr) (v : V) (d : PyData) (ls : List Addr) (rows : List (List Int)) (cs : List (Option Int)) (ps : List Int) (n : Nat), vs = [.ref t, .ref b, .ref p, v] ∧ StockAt H t ls rows ∧ rows.length ≤ 4 ∧ (∀ r ∈ rows, r.length = n) ∧ n ≤ 4 ∧ H b = some (.tup (cs.map optI)) ∧ cs.length = n ∧
  H p = some (.tup (ps.map V.int)) ∧ ps.length = rows.length ∧ Dq H v d ∧ lenD d ≤ 20000 ∧ ∀ H', Same H H' → Q (.bl (aoOk rows ps n cs d)) H'
def spEtD : Sp := fun vs H Q _ => ∃ (t b p : Addr) (v : V) (d : PyData) (ls wl : List Addr) (rows ws : List (List Int)) (ps : List Int) (n : Nat), vs = [.ref t, .ref b, .ref p, v] ∧ Pb H t b p ls wl rows ws ps n ∧ Dq H v d ∧ Slim d ∧ ∀ H', Same H H' → Q (.bl (etOk rows ws ps n d)) H'
theorem ok_aoD {f fN fU fTu fA fAu fO fFu fCo fSp fCa fIr fTk fI fR fFc fLo fSo fOv fDw fSv fCh fUd fEt fAo fAd fDk fD fS fTt fW fPl fLu fLs fLc fM fE fX fNu fId fKn fHo fAy fOo fRp fAt fVa : Addr} {fd dN dU dTu dA dAu dO dFu dCo dSp dCa dIr dTk dI dR dFc dLo dSo dOv dDw dSv dCh dUd dEt dAo dAd dDk dD dS dTt dW dPl dLu dLs dLc dM dE dX dNu dId dKn dHo dAy dOo dRp dAt dVa : FuncData} {k : Nat} (F : Fun K "are_overfull" "are_overfull" sAreOv f fd) (T : Tx K mg fN fU fTu fA fAu fO fFu fCo fSp fCa fIr fTk fI fR fFc fLo fSo fOv fDw fSv fCh fUd fEt fAo fAd fDk fD fS fTt fW fPl fLu fLs fLc fM fE fX fNu fId fKn fHo fAy fOo fRp fAt fVa dN dU dTu dA dAu dO dFu dCo dSp dCa dIr dTk dI dR dFc dLo dSo dOv dDw dSv dCh dUd dEt dAo dAd dDk dD dS dTt dW dPl dLu dLs dLc dM dE dX dNu dId dKn dHo dAy dOo dRp dAt dVa) :
    FnOk P w K mg base CX0 (k + 5) f fd ["stock", "caps", "plan", "value"] spAoD := by
  have GAd : FnOk P w K mg base CX0 (k + 4) fAd dAd ["stock", "value"] spAdD := ok_adD T.Ad T
  have GI : FnOk P w K mg base CX0 (k + 2) fI dI ["stock", "caps", "drawers"] spRoomIn := ok_roomin T.I T
  refine F.ok sc_ao (fun vs H Q E h => ?_) (fun cdv A outer s H vs Q E hr h => ?_)
  · obtain ⟨t, b, p, v, d, ls, rows, cs, ps, n, rfl, _⟩ := h
    rfl
  · obtain ⟨t, b, p, v, dd, ls, rows, cs, ps, n, rfl, st, h4, hrn, hn, hb, hcl, hp, hpl, hd0, hl0, q⟩ := h
    refine ⟨_, (pss_cons (ps_if (pt_not (pt_val (pe_call GAd (hr.mono (by omega)) (by rfl) T.gAd T.Ad.kp T.bAd .nil pass0 (pa_cons (pv 0) (pa_cons (pv 3) pa_nil))))) (pss_one (ps_ret pe_bl)) pss_nil)
      (pss_one (ps_ret (pe_cmpR op_gt (pe_callB (show CallR _ _ (rSum K) from cr_sum rfl) (by rfl) T.m_sum (by decide +kernel) (pa_cons (pe_lc (own := [("drawer", 4)]) (g := gName 4) rfl sc_ao.nd (pi_tup (pv 3)) (blkOk_by (own := [("drawer", 4)]) (N := ["stock", "caps", "plan", "value", "drawer"]) (sc := defScope sAreOv) (by decide +kernel)) (fun _ _ _ _ _ => (pg_name (i := 4) sc_ao.nd rfl (Or.inl rfl))) (fun _ _ _ _ _ => pts_nil) (fun _ _ _ _ _ => (pe_ix (show IxR _ (rIxT K) from ix_tup) (pv 2) (pv 4) (fun _ _ => rfl)))) pa_nil)) (pe_call GI (hr.mono (by omega)) (by rfl) T.gI T.I.kp T.bI .nil pass0 (pa_cons (pv 0) (pa_cons (pv 1) (pa_cons (pv 3) pa_nil)))) (nomark _))))), ?_⟩
    refine ⟨_, rfl, _, rfl, t, v, dd, ls, rows, rfl, st, h4, hd0, hl0, fun H1 s1 => ?_⟩
    unfold aoOk at q
    cases hc : adOk rows.length dd with
    | false =>
      rw [hc, Bool.false_and] at q
      exact ⟨_, rfl, iteT (q _ s1)⟩
    | true =>
      rw [hc, Bool.true_and] at q
      unfold adOk at hc
      rw [Bool.and_eq_true] at hc
      obtain ⟨d, rfl, hd, hjl, hjm, _⟩ := ad_nats hc.1 hd0
      generalize natsOf dd = ds at hd hjl hjm q
      refine ⟨_, rfl, iteF (A := False) ?_⟩
      refine ⟨.ref d, rfl, d, rfl, ⟨_, SqT.of (s1 _ _ hd)⟩, fun D nD => ?_⟩
      refine lc_it (walk_tup (xs := natsV ds)) (fun i H' => H' D = some (.lst (((ds.map fun j => ps.getD j 0).take i).map V.int)) ∧ Same H1 H') ⟨upd_same, same_new nD⟩ (fun i H' _ h => SqT.of (h.2 _ _ (s1 _ _ hd))) (fun i x H' H2 hi h y => ?_) (fun H' h => ?_)
      · obtain ⟨hD, sm⟩ := h
        obtain ⟨rfl, hx⟩ := y
        obtain ⟨j, hj, rfl⟩ := get_map hx
        have hjr := hjm j (List.mem_of_getElem? hj)
        have gj : (ps.map V.int)[j]? = some (.int (ps.getD j 0)) := by
          rw [List.getElem?_map, getD_of (d := 0) (show j < ps.length by omega)]
          rfl
        refine ⟨rfl, .ref p, rfl, .int (j : Int), rfl, p, _, (j : Int), .int (ps.getD j 0), rfl, rfl, SqT.of (sm _ _ (s1 _ _ hp)), atI_nat gj, _, hD, ?_, ?_, fun b' o e => ?_⟩
        · rw [List.length_map, List.length_take, List.length_map]
          exact len_lt (by omega)
        · rw [upd_same, take_succ_map (by rw [List.getElem?_map, hj]; rfl)]
        · rw [upd_ne (ne_of_none e nD)]
          exact sm b' o e
      · obtain ⟨hD, sm⟩ := h
        rw [natsV_len, List.take_of_length_le (by rw [List.length_map]; exact Nat.le_refl _)] at hD
        refine ⟨D, _, rfl, SqL.of hD, ?_⟩
        have s2 := s1.trans sm
        refine ⟨_, rfl, _, rfl, _, rfl, t, b, d, ls, rows, n, cs, ds, rfl, st.same s2, hrn, by omega, s2 _ _ hb, hcl, s2 _ _ hd, by omega, hjm, fun H3 s3 => ?_⟩
        exact ⟨_, _, rfl, rfl, q _ (s2.trans s3)⟩
theorem ok_etD {f fN fU fTu fA fAu fO fFu fCo fSp fCa fIr fTk fI fR fFc fLo fSo fOv fDw fSv fCh fUd fEt fAo fAd fDk fD fS fTt fW fPl fLu fLs fLc fM fE fX fNu fId fKn fHo fAy fOo fRp fAt fVa : Addr} {fd dN dU dTu dA dAu dO dFu dCo dSp dCa dIr dTk dI dR dFc dLo dSo dOv dDw dSv dCh dUd dEt dAo dAd dDk dD dS dTt dW dPl dLu dLs dLc dM dE dX dNu dId dKn dHo dAy dOo dRp dAt dVa : FuncData} {k : Nat} (F : Fun K "is_excluding_table" "is_excluding_table" sExcl f fd) (T : Tx K mg fN fU fTu fA fAu fO fFu fCo fSp fCa fIr fTk fI fR fFc fLo fSo fOv fDw fSv fCh fUd fEt fAo fAd fDk fD fS fTt fW fPl fLu fLs fLc fM fE fX fNu fId fKn fHo fAy fOo fRp fAt fVa dN dU dTu dA dAu dO dFu dCo dSp dCa dIr dTk dI dR dFc dLo dSo dOv dDw dSv dCh dUd dEt dAo dAd dDk dD dS dTt dW dPl dLu dLs dLc dM dE dX dNu dId dKn dHo dAy dOo dRp dAt dVa) :
    FnOk P w K mg base CX0 (k + 6) f fd ["stock", "collections", "plan", "value"] spEtD := by
  have GSp : FnOk P w K mg base CX0 (k + 1) fSp dSp ["collections"] spSpoil := ok_spoil T.Sp T.m_enumerate T.m_tuple
  have GCa : FnOk P w K mg base CX0 (k + 1) fCa dCa ["collections", "spoiling"] spCaps := ok_caps T.Ca T.m_enumerate T.m_zip T.m_min T.m_tuple
  have GTu : FnOk P w K mg base CX0 (k + 1) fTu dTu ["value", "fewest", "most"] (spTupOf K) := ok_tupof T.Tu T.m_isinstance T.m_tuple T.m_len
  have GAo : FnOk P w K mg base CX0 (k + 5) fAo dAo ["stock", "caps", "plan", "value"] spAoD := ok_aoD T.Ao T
  refine F.ok sc_et (fun vs H Q E h => ?_) (fun cdv A outer s H vs Q E hr h => ?_)
  · obtain ⟨t, b, p, v, d, ls, wl, rows, ws, ps, n, rfl, _⟩ := h
    rfl
  · obtain ⟨t, b, p, v, d, ls, wl, rows, ws, ps, n, rfl, ⟨st, hr1, hr4, hrn, wi, hp, hpl⟩, hd, sl, q⟩ := h
    refine ⟨_, (pss_cons (ps_set (i := 4) sc_et.nd rfl (.inl rfl) (pe_call GSp (hr.mono (by omega)) (by rfl) T.gSp T.Sp.kp T.bSp .nil pass0 (pa_cons (pv 1) pa_nil)))
      (pss_cons (ps_if (pt_not (pt_val (pe_call GTu (hr.mono (by omega)) (by rfl) T.gTu T.Tu.kp T.bTu .nil pass0 (pa_cons (pv 3) (pa_cons (pe_callB call_len_seq (by rfl) T.m_len PySem.boot_len (pa_cons (pv 4) pa_nil)) (pa_cons (pe_callB call_len_seq (by rfl) T.m_len PySem.boot_len (pa_cons (pv 4) pa_nil)) pa_nil)))))) (pss_one (ps_ret pe_bl)) pss_nil)
      (pss_one (ps_ret (pe_callB (cr_all rfl) (by rfl) T.m_all (by decide +kernel) (pa_cons (pe_lc (own := [("spoiling", 5), ("drawers", 6)]) (g := gTup K 2 (gCons (gName 5) (gCons (gName 6) gNil))) rfl sc_et.nd (pi_zipA (by rfl) T.m_zip (pa_cons (pv 4) (pa_cons (pv 3) pa_nil))) (blkOk_by (own := [("spoiling", 5), ("drawers", 6)]) (N := ["stock", "collections", "plan", "value", "spoilings", "spoiling", "drawers"]) (sc := defScope sExcl) (by decide +kernel)) (fun _ _ _ _ _ => (pg_tup rfl (pgs_cons (pg_name (i := 5) sc_et.nd rfl (Or.inl rfl)) (pgs_cons (pg_name (i := 6) sc_et.nd rfl (Or.inl rfl)) pgs_nil)))) (fun _ _ _ _ _ => pts_nil) (fun _ _ _ _ _ => (pe_call GAo (hr.mono (by omega)) (by rfl) T.gAo T.Ao.kp T.bAo .nil pass0 (pa_cons (pv 0) (pa_cons (pe_call GCa (hr.mono (by omega)) (by rfl) T.gCa T.Ca.kp T.bCa .nil pass0 (pa_cons (pv 1) (pa_cons (pv 5) pa_nil))) (pa_cons (pv 2) (pa_cons (pv 6) pa_nil))))))) pa_nil)))))), ?_⟩
    have hg := wi.g
    have hn4 := wi.n4
    have hw4 : ∀ r ∈ ws, r.length ≤ 4 := fun r hr => by rw [(hg r hr).len]; exact hn4
    have h256 := sp_len hw4 wi.l4
    refine ⟨_, rfl, b, wl, ws, rfl, wi.st, wi.l4, hw4, fun m zs H3 s3 sp3 => ?_⟩
    have hzl := sp3.len
    refine ⟨_, rfl, _, rfl, m, _, rfl, .inr (SqT.of sp3.top), _, rfl, m, _, rfl, .inr (SqT.of sp3.top), v, d, _, _, rfl, Dq.same s3 d v hd, _, rfl, ?_⟩
    rw [List.length_map, hzl]
    cases hc : (isTup d && (decide (((spOf ws).length : Int) ≤ (lenD d : Int)) && decide ((lenD d : Int) ≤ ((spOf ws).length : Int)))) with
    | false =>
      have := q _ s3
      rw [etOk_no hc] at this
      exact iteT this
    | true =>
      refine iteF (A := False) ?_
      rw [Bool.and_eq_true, Bool.and_eq_true] at hc
      obtain ⟨hc1, hc2, hc3⟩ := hc
      have hc2 := of_decide_eq_true hc2
      have hc3 := of_decide_eq_true hc3
      cases hd with
      | @tup D xs ds hD hs =>
        have hc2 : ((spOf ws).length : Int) ≤ (ds.length : Int) := hc2
        have hc3 : (ds.length : Int) ≤ ((spOf ws).length : Int) := hc3
        have hxl := hs.len
        refine ⟨_, rfl, _, rfl, m, D, zs.map V.ref, xs, rfl, .inr ⟨SqT.of sp3.top, SqT.of (s3 _ _ hD), fun B nB => ?_⟩⟩
        refine lc_it (walk_zipT (xs := zs.map V.ref) (ys := xs) (by rw [List.length_map]; omega)) (fun i H' => H' B = some (.lst (((List.zipWith (fun sp x => aoOk rows ps n (capsOf ws sp n) x) (spOf ws) ds).take i).map V.bl)) ∧ Same H3 H') ⟨upd_same, same_new nB⟩
          (fun i H' _ h => ⟨SqT.of (h.2 _ _ sp3.top), SqT.of (h.2 _ _ (s3 _ _ hD))⟩) (fun i x H' H4 hi h y => ?_) (fun H' h => ?_)
        · obtain ⟨hB, sm⟩ := h
          obtain ⟨T1, x1, x2, rfl, nT, rfl, e1, e2⟩ := y
          obtain ⟨z1, hz1, rfl⟩ := get_map e1
          obtain ⟨e, he, hde⟩ := hs.get e2
          rw [List.length_map] at hi
          have hil : i < (spOf ws).length := by omega
          have hsi : (spOf ws)[i]? = some (spOf ws)[i] := List.getElem?_eq_getElem hil
          have hmem : (spOf ws)[i] ∈ spR ws := by rw [← spOf_eq]; exact List.getElem_mem hil
          obtain ⟨hsl, _⟩ := spR_bd hw4 _ hmem
          have hzi := sp3.row i z1 _ hz1 hsi
          generalize (spOf ws)[i] = sp at hsi hsl hzi
          have hzw : (List.zipWith (fun sp x => aoOk rows ps n (capsOf ws sp n) x) (spOf ws) ds)[i]? = some (aoOk rows ps n (capsOf ws sp n) e) := by
            rw [List.getElem?_zipWith, hsi, he]
          have sT := (s3.trans sm).trans (same_new (o := .tup [.ref z1, x2]) nT)
          have sT3 := sm.trans (same_new (o := .tup [V.ref z1, x2]) nT)
          have hBT := same_new (o := .tup [V.ref z1, x2]) nT _ _ hB
          refine ⟨T1, [.ref z1, x2], rfl, .inl (.inl upd_same), rfl, .ref z1, [x2], rfl, x2, [], rfl, rfl, rfl, ?_⟩
          generalize upd H' T1 (.tup [V.ref z1, x2]) = H5 at sT sT3 hBT ⊢
          refine ⟨_, rfl, _, rfl, _, rfl, b, z1, wl, ws, sp, n, rfl, wi.st.same sT, wi.l1, wi.l4, fun r hr => (hg r hr).len, by omega, sT3 _ _ hzi, hsl, fun c H6 s6 hc => ?_⟩
          have s06 := sT.trans s6
          refine ⟨_, rfl, _, rfl, t, c, p, x2, e, ls, rows, capsOf ws sp n, ps, n, rfl, st.same s06, hr4, hrn, hn4, hc, caps_len _ _ _, s06 _ _ hp, hpl, Dq.same s06 e x2 hde, sl.2 ds rfl e (List.mem_of_getElem? he), fun H7 s7 => ?_⟩
          refine ⟨_, s7 _ _ (s6 _ _ hBT), ?_, ?_, fun b' o e' => ?_⟩
          · rw [List.length_map, List.length_take]
            exact len_lt (by omega)
          · rw [upd_same, take_succ_map hzw]
          · rw [upd_ne (ne_of_none e' nB)]
            exact s7 _ _ (s6 _ _ (sT3 _ _ e'))
        · obtain ⟨hB, sm⟩ := h
          rw [List.length_map, List.take_of_length_le (by rw [List.length_zipWith]; omega)] at hB
          refine ⟨B, _, rfl, SqL.of hB, ?_⟩
          have := q _ (s3.trans sm)
          rw [show etOk rows ws ps n (.tuple ds) = (List.zipWith (fun sp x => aoOk rows ps n (capsOf ws sp n) x) (spOf ws) ds).all id by
            show (decide (ds.length = (spOf ws).length) && _) = _
            rw [decide_eq_true (by omega), Bool.true_and]] at this
          exact this
      | _ => exact Bool.noConfusion (show false = true from hc1)
end
end DD
namespace DD
open PySem PySem.Spec PyProof.Rows L2 RZ DM
theorem optV_none {o : Option Nat} : decide (optV o = V.non) = decide (o = none) := by
  cases o with
  | none => rw [decide_eq_true (show optV none = V.non from rfl), decide_eq_true (show (none : Option Nat) = none from rfl)]
  | some j => rw [decide_eq_false (show optV (some j) ≠ V.non from fun h => by cases h), decide_eq_false (show (some j : Option Nat) ≠ none from fun h => by cases h)]
def rowsOf : PyData → List (List Int)
  | .tuple ds => ds.map fun x => match x with | .tuple es => es.map intD | _ => []
  | _ => []
theorem up_bd {ls r : List Int} (h : upOk ls (rowD r) = true) : r.length = ls.length ∧ ∀ k, k < ls.length → 0 ≤ r.getD k 0 ∧ r.getD k 0 ≤ ls.getD k 0 := by
  have h : (decide ((r.map PyData.int).length = ls.length) && (List.zipWith (fun d l => numOk l d) (r.map PyData.int) ls).all id) = true := h
  rw [Bool.and_eq_true] at h
  have hl := of_decide_eq_true h.1
  rw [List.length_map] at hl
  refine ⟨hl, fun k hk => ?_⟩
  have hz : (List.zipWith (fun d l => numOk l d) (r.map PyData.int) ls)[k]? = some (numOk (ls.getD k 0) (.int (r.getD k 0))) := by
    rw [List.getElem?_zipWith, List.getElem?_map, getD_of (d := 0) (show k < r.length by omega), getD_of (d := 0) hk]
    rfl
  have := List.all_eq_true.mp h.2 _ (List.mem_of_getElem? hz)
  have h2 : (decide (0 ≤ r.getD k 0) && decide (r.getD k 0 ≤ ls.getD k 0)) = true := this
  rw [Bool.and_eq_true] at h2
  exact ⟨of_decide_eq_true h2.1, of_decide_eq_true h2.2⟩
theorem intD_row (r : List Int) : (r.map PyData.int).map intD = r := by
  rw [List.map_map]
  have : (intD ∘ PyData.int) = id := rfl
  rw [this, List.map_id]
/-- a draw of the plan, and its rows -/
theorem dr_is {rows : List (List Int)} {ps : List Int} {n : Nat} {d : PyData} (hrn : ∀ r ∈ rows, r.length = n) (h : drOk rows ps d = true) : d = stockD (rowsOf d) ∧ IsDr rows ps n (rowsOf d) := by
  cases d with
  | tuple ds =>
    have h : (decide (ds.length = rows.length) && (List.range rows.length).all fun j => takenOk (rows.getD j []) (ps.getD j 0) (ds.getD j .none)) = true := h
    rw [Bool.and_eq_true] at h
    have hl := of_decide_eq_true h.1
    have hj : ∀ j, j < rows.length → ∃ r : List Int, ds[j]? = some (rowD r) ∧ upOk (rows.getD j []) (rowD r) = true ∧ r.sum = ps.getD j 0 := fun j hjr => by
      have ht : (upOk (rows.getD j []) (ds.getD j .none) && decide (sumD (ds.getD j .none) = ps.getD j 0)) = true := List.all_eq_true.mp h.2 j (List.mem_range.mpr hjr)
      rw [Bool.and_eq_true] at ht
      obtain ⟨r, e, _⟩ := up_row ht.1
      have g := getD_of (d := PyData.none) (show j < ds.length by omega)
      rw [e] at g ht
      have hs := of_decide_eq_true ht.2
      rw [sum_row] at hs
      exact ⟨r, g, ht.1, hs⟩
    have hrow : ∀ (j : Nat) (r : List Int), ds[j]? = some (rowD r) → (rowsOf (.tuple ds))[j]? = some r := fun j r e => by
      show (ds.map fun x => match x with | .tuple es => es.map intD | _ => [])[j]? = some r
      rw [List.getElem?_map, e]
      exact congrArg some (intD_row r)
    have hlen : (rowsOf (.tuple ds)).length = ds.length := by
      show (ds.map _).length = _
      rw [List.length_map]
    refine ⟨?_, ⟨by rw [hlen]; exact hl, fun j hjr => ?_⟩⟩
    · refine congrArg PyData.tuple (List.ext_getElem? fun j => ?_)
      rw [List.getElem?_map]
      by_cases hjr : j < rows.length
      · obtain ⟨r, e, _⟩ := hj j hjr
        rw [e, hrow j r e]
        rfl
      · rw [List.getElem?_eq_none (by omega), List.getElem?_eq_none (by omega)]
        rfl
    · obtain ⟨r, e, hu, hs⟩ := hj j hjr
      have e2 : (rowsOf (.tuple ds)).getD j [] = r := by rw [List.getD_eq_getElem?_getD, hrow j r e]; rfl
      have hn := hrn _ (List.mem_of_getElem? (getD_of (d := []) hjr))
      obtain ⟨b1, b2⟩ := up_bd hu
      rw [e2]
      refine ⟨by omega, fun k => ?_, hs⟩
      unfold lfF
      by_cases hk : k < n
      · exact ⟨(b2 k (by omega)).1, fun _ => (b2 k (by omega)).2⟩
      · rw [List.getD_eq_getElem?_getD (l := r), List.getElem?_eq_none (by omega)]
        exact ⟨Int.le_refl _, fun z => absurd z hk⟩
  | _ => cases h
theorem dqs_at {H : Hp} : ∀ {xs : List V} {D : List (List Int)}, DqAll H xs (D.map rowD) → ∃ ls : List Addr, xs = ls.map V.ref ∧ ls.length = D.length ∧ RowsAt H ls D
  | xs, [], h => by
    cases h
    exact ⟨[], rfl, rfl, fun j l r e => by simp at e⟩
  | xs, r :: D, h => by
    cases h with
    | cons a b =>
      obtain ⟨l, rfl, hl⟩ := dq_row a
      obtain ⟨ls, rfl, h2, h3⟩ := dqs_at b
      refine ⟨l :: ls, rfl, by rw [List.length_cons, List.length_cons, h2], fun j l' r' e1 e2 => ?_⟩
      match j, e1, e2 with
      | 0, e1, e2 =>
        obtain rfl := Option.some.inj e1
        obtain rfl := Option.some.inj e2
        exact hl
      | j + 1, e1, e2 => exact h3 j l' r' e1 e2
theorem dq_stock {H : Hp} {v : V} {D : List (List Int)} (h : Dq H v (stockD D)) : ∃ a ls, v = .ref a ∧ StockAt H a ls D := by
  cases h with
  | tup a b =>
    obtain ⟨ls, rfl, h2, h3⟩ := dqs_at b
    exact ⟨_, ls, rfl, ⟨a, h2, h3⟩⟩
def udOk (rows ws : List (List Int)) (ps : List Int) (n : Nat) (d : PyData) : Bool := drOk rows ps d && decide (fulOf ws (totalsOf (rowsOf d) n) = none)
theorem sc_ud : FnScope ["stock", "collections", "plan", "value"] ["stock", "collections", "plan", "value"] (defScope sUnl) := ⟨rfl, rfl, rfl, by decide +kernel, rfl, by decide +kernel, by decide +kernel⟩
section
variable {P : Program} {w : World} {K : PySem.W.Frag} {mg : Str → Option Value} {base : Heap}
def spUdD : Sp := fun vs H Q _ => ∃ (t b p : Addr) (v : V) (d : PyData) (ls wl : List Addr) (rows ws : List (List Int)) (ps : List Int) (n : Nat), vs = [.ref t, .ref b, .ref p, v] ∧ Pb H t b p ls wl rows ws ps n ∧ Dq H v d ∧ ∀ H', Same H H' → Q (.bl (udOk rows ws ps n d)) H'
theorem ok_udD {f fN fU fTu fA fAu fO fFu fCo fSp fCa fIr fTk fI fR fFc fLo fSo fOv fDw fSv fCh fUd fEt fAo fAd fDk fD fS fTt fW fPl fLu fLs fLc fM fE fX fNu fId fKn fHo fAy fOo fRp fAt fVa : Addr} {fd dN dU dTu dA dAu dO dFu dCo dSp dCa dIr dTk dI dR dFc dLo dSo dOv dDw dSv dCh dUd dEt dAo dAd dDk dD dS dTt dW dPl dLu dLs dLc dM dE dX dNu dId dKn dHo dAy dOo dRp dAt dVa : FuncData} {k : Nat} (F : Fun K "is_unlucky_draw" "is_unlucky_draw" sUnl f fd) (T : Tx K mg fN fU fTu fA fAu fO fFu fCo fSp fCa fIr fTk fI fR fFc fLo fSo fOv fDw fSv fCh fUd fEt fAo fAd fDk fD fS fTt fW fPl fLu fLs fLc fM fE fX fNu fId fKn fHo fAy fOo fRp fAt fVa dN dU dTu dA dAu dO dFu dCo dSp dCa dIr dTk dI dR dFc dLo dSo dOv dDw dSv dCh dUd dEt dAo dAd dDk dD dS dTt dW dPl dLu dLs dLc dM dE dX dNu dId dKn dHo dAy dOo dRp dAt dVa) :
    FnOk P w K mg base CX0 (k + 6) f fd ["stock", "collections", "plan", "value"] spUdD := by
  have GIr : FnOk P w K mg base CX0 (k + 5) fIr dIr ["stock", "plan", "value"] spIrD := ok_irD T.Ir T
  have GO : FnOk P w K mg base CX0 (k + 1) fO dO ["stock"] (spTotals K) := ok_totals T.O T.m_tuple T.m_sum T.m_zip
  have GFu : FnOk P w K mg base CX0 (k + 2) fFu dFu ["collections", "counts"] spFul := ok_ful T.Fu T.Co T.bCo T.gCo T.m_all T.m_zip T.m_enumerate
  refine F.ok sc_ud (fun vs H Q E h => ?_) (fun cdv A outer s H vs Q E hr h => ?_)
  · obtain ⟨t, b, p, v, d, ls, wl, rows, ws, ps, n, rfl, _⟩ := h
    rfl
  · obtain ⟨t, b, p, v, dd, ls, wl, rows, ws, ps, n, rfl, ⟨st, hr1, hr4, hrn, wi, hp, hpl⟩, hd, q⟩ := h
    refine ⟨_, (pss_one (ps_ret (pe_and (pe_call GIr (hr.mono (by omega)) (by rfl) T.gIr T.Ir.kp T.bIr .nil pass0 (pa_cons (pv 0) (pa_cons (pv 2) (pa_cons (pv 3) pa_nil)))) (pe_one (pe_cmpR op_isN (pe_call GFu (hr.mono (by omega)) (by rfl) T.gFu T.Fu.kp T.bFu .nil pass0 (pa_cons (pv 1) (pa_cons (pe_call GO (hr.mono (by omega)) (by rfl) T.gO T.O.kp T.bO .nil pass0 (pa_cons (pv 3) pa_nil)) pa_nil))) pe_non (nomark _)))))), ?_⟩
    have hn4 := wi.n4
    refine ⟨_, rfl, _, rfl, _, rfl, t, p, v, dd, ls, rows, ps, rfl, st, hr4, fun r hr => by rw [hrn r hr]; omega, hp, hpl, hd, fun H1 s1 => ?_⟩
    unfold udOk at q
    cases hc : drOk rows ps dd with
    | false =>
      rw [hc, Bool.false_and] at q
      exact ⟨_, rfl, iteF (A := _) (q _ s1)⟩
    | true =>
      rw [hc, Bool.true_and] at q
      obtain ⟨e, di⟩ := dr_is hrn hc
      generalize rowsOf dd = D at e di q
      subst e
      obtain ⟨d, dl, rfl, sd⟩ := dq_stock hd
      have hdl := di.len
      refine ⟨_, rfl, iteT ?_⟩
      have sd1 := sd.same s1
      refine ⟨_, rfl, _, rfl, d, dl, D, n, rfl, .inl (SqT.of sd1.top), sd1.len, fun j l r e1 e2 => ⟨sd1.row j l r e1 e2, ?_⟩, fun z => by rw [z] at hdl; simp at hdl; omega, by omega, by omega, fun tt H2 s2 _ htt => ?_⟩
      · have hj := (List.getElem?_eq_some_iff.mp e2).1
        have e : D.getD j [] = r := by rw [List.getD_eq_getElem?_getD, e2]; rfl
        rw [← e]
        exact (di.dr j (by omega)).len
      have s12 := s1.trans s2
      refine ⟨b, tt, wl, ws, totalsOf D n, rfl, wi.st.same s12, htt, fun r hr => by rw [tot_len]; exact (wi.g r hr).len, by rw [tot_len]; omega, fun H3 s3 => ?_⟩
      refine ⟨rfl, ?_⟩
      rw [optV_none]
      exact q _ (s12.trans s3)
end
end DD
/-! ### any value == a text -/
namespace DD
open PySem PySem.Spec PyProof.Rows L2
theorem dict_no_str (l : Addr) (es : Array DictEntry) (ep : Nat) (dd : Option Addr) (sl : Array (Option Value)) (b : Str) (u : Tok) :
    Meets (Builtin.«dict.__eq__» ⟨[.ref l, .str b u], []⟩) (fun _ R s => s.heap.get? l = some { cls := .type "dict", dict := dd, data := .dict es ep, slots := sl } ∧ R (.ok (.ret .notImplemented)) s) :=
  .of_wp fun prog w A R s h => by
    obtain ⟨hp, g, d, tk, os⟩ := s
    obtain ⟨hl, h⟩ := h
    have f1 := F.sub_str_dict
    wp_walk using wpAny_loadPart' hl, wpAny_load hl
    exact ⟨_, rfl, h⟩
theorem str_no_dict (l : Addr) (es : Array DictEntry) (ep : Nat) (dd : Option Addr) (sl : Array (Option Value)) (b : Str) (u : Tok) :
    Meets (Builtin.«str.__eq__» ⟨[.str b u, .ref l], []⟩) (fun _ R s => s.heap.get? l = some { cls := .type "dict", dict := dd, data := .dict es ep, slots := sl } ∧ R (.ok (.ret .notImplemented)) s) :=
  .of_wp fun prog w A R s h => by
    obtain ⟨hp, g, d, tk, os⟩ := s
    obtain ⟨hl, h⟩ := h
    wp_walk using wpAny_loadPart' hl, wpAny_load hl
    exact ⟨_, rfl, h⟩
theorem rc_dict_str {prog : Program} {w : World} {A : Around} {E : Value → Shared → Prop} {Q : Value → Shared → Prop} {s : Shared} {l : Addr} {es : Array DictEntry} {ep : Nat} {dd : Option Addr} {sl : Array (Option Value)} (b : Str) (u : Tok)
    (ho : s.heap.get? l = some { cls := .type "dict", dict := dd, data := .dict es ep, slots := sl }) (hu : A.units < cLine) (h : Q (.bool false) s) : wpAny (model prog w) A (richCompare .Eq (.ref l) (.str b u)) Q E s :=
  SeqAt.rc_eq_decline_or (k := false) ⟨_, ho, rfl⟩ (typeIs_str s b u) (by decide) F.sub_str_dict F.slot_dict_eq F.slot_str_eq_refl
    (fun _ hq => call_meets F.slot_dict_eq ⟨_, ho, rfl⟩ F.entry_dict_eq (F.args_dict_eq_2 _ _) (dict_no_str l es ep dd sl b u) ⟨ho, hq⟩)
    (fun _ hq => call_meets F.slot_str_eq_refl (typeIs_str s b u) F.entry_str_eq (F.args_str_eq_2 _ _) (str_no_dict l es ep dd sl b u) ⟨ho, hq⟩)
    (fun _ hq => wpAny_of_eq (rfl : isSame (.ref l) (.str b u) = pure false) hq) (.inr hu) h
def isS (t : Str) : PyData → Bool
  | .str x => decide (x = t)
  | _ => false
def rEqS : R2 := fun x y H Q => ∃ d t, Dq H x d ∧ y = .str t ∧ Q (.bl (isS t d)) H
theorem op_eqS {X : Cx} (hu : X.A.units + 64 < cLine) : OpR X (compareOp .Eq) rEqS := by
  intro pins s σ H x y v u Q I rx ry h
  obtain ⟨d, t, hd, rfl, q⟩ := h
  cases hd with
  | non => exact op_eq pins s σ H _ _ v u Q I rx ry ⟨rfl, by rw [decide_eq_false (fun z => nomatch z)]; exact q⟩
  | bl b => exact op_eq pins s σ H _ _ v u Q I rx ry ⟨rfl, by rw [decide_eq_false (fun z => nomatch z)]; exact q⟩
  | int i => exact op_eq pins s σ H _ _ v u Q I rx ry ⟨rfl, by rw [decide_eq_false (fun z => nomatch z)]; exact q⟩
  | str x =>
    refine op_eq pins s σ H _ _ v u Q I rx ry ⟨rfl, ?_⟩
    have e : decide (V.str x = V.str t) = decide (x = t) := by
      by_cases z : x = t
      · rw [z, decide_eq_true rfl, decide_eq_true rfl]
      · rw [decide_eq_false z, decide_eq_false (fun y => z (V.str.inj y))]
    rw [e]
    exact q
  | lst ha _ =>
    cases rx
    obtain ⟨tk, rfl⟩ := ry
    obtain ⟨its, rv, hl, _⟩ := I.list (SqL.of (K := X.K) ha)
    exact SeqAt.RcAt.list_str (A := X.A) (s := s) t tk hl.isList (by omega) _ _ _ _ ⟨.bl false, H, I, rfl, q⟩
  | tup ha _ =>
    cases rx
    obtain ⟨tk, rfl⟩ := ry
    obtain ⟨its, rv, hl, _⟩ := I.tuple (SqT.of (K := X.K) ha)
    exact SeqAt.RcAt.tuple_str (A := X.A) (s := s) t tk hl (by omega) _ _ _ _ ⟨.bl false, H, I, rfl, q⟩
  | d0 ha =>
    cases rx
    obtain ⟨tk, rfl⟩ := ry
    obtain ⟨_, _, vs, _, ⟨c, d, dt, sl⟩, es, ep, ho, ⟨hc, hd, hs⟩, hdt, _⟩ := dk_of I.hok ha
    simp only at hc hdt
    subst hc
    subst hdt
    exact rc_dict_str t tk ho (by omega) ⟨.bl false, H, I, rfl, q⟩
  | d1 ha =>
    cases rx
    obtain ⟨tk, rfl⟩ := ry
    obtain ⟨_, _, vs, _, ⟨c, d, dt, sl⟩, es, ep, ho, ⟨hc, hd, hs⟩, hdt, _⟩ := dk_of I.hok ha
    simp only at hc hdt
    subst hc
    subst hdt
    exact rc_dict_str t tk ho (by omega) ⟨.bl false, H, I, rfl, q⟩
end DD
namespace DD
open PySem PySem.Spec PyProof.Rows L2 RZ DM
theorem sc_ch : FnScope ["stock", "collections", "plan", "value", "word", "proof"] ["stock", "collections", "plan", "value"] (defScope sCHolds) := ⟨rfl, rfl, rfl, by decide +kernel, rfl, by decide +kernel, by decide +kernel⟩
def chOk (rows ws : List (List Int)) (ps : List Int) (n : Nat) : PyData → Bool
  | .tuple [w0, p0] => if isS "draw" w0 = true then udOk rows ws ps n p0 else if isS "table" w0 = true then etOk rows ws ps n p0 else false
  | _ => false
theorem chOk_no {rows ws : List (List Int)} {ps : List Int} {n : Nat} {d : PyData} (h : (isTup d && (decide ((2 : Int) ≤ (lenD d : Int)) && decide ((lenD d : Int) ≤ 2))) = false) : chOk rows ws ps n d = false := by
  unfold chOk
  split
  · exact absurd h (by show ¬ (true && (decide ((2 : Int) ≤ ((2 : Nat) : Int)) && decide (((2 : Nat) : Int) ≤ 2))) = false; decide)
  · rfl
section
variable {P : Program} {w : World} {K : PySem.W.Frag} {mg : Str → Option Value} {base : Heap}
def spChD : Sp := fun vs H Q _ => ∃ (t b p : Addr) (v : V) (d : PyData) (ls wl : List Addr) (rows ws : List (List Int)) (ps : List Int) (n : Nat), vs = [.ref t, .ref b, .ref p, v] ∧ Pb H t b p ls wl rows ws ps n ∧ Dq H v d ∧ (∀ w0 p0, d = .tuple [w0, p0] → Slim p0) ∧
  ∀ H', Same H H' → Q (.bl (chOk rows ws ps n d)) H'
theorem ok_chD {f fN fU fTu fA fAu fO fFu fCo fSp fCa fIr fTk fI fR fFc fLo fSo fOv fDw fSv fCh fUd fEt fAo fAd fDk fD fS fTt fW fPl fLu fLs fLc fM fE fX fNu fId fKn fHo fAy fOo fRp fAt fVa : Addr} {fd dN dU dTu dA dAu dO dFu dCo dSp dCa dIr dTk dI dR dFc dLo dSo dOv dDw dSv dCh dUd dEt dAo dAd dDk dD dS dTt dW dPl dLu dLs dLc dM dE dX dNu dId dKn dHo dAy dOo dRp dAt dVa : FuncData} {k : Nat} (F : Fun K "certificate_holds" "certificate_holds" sCHolds f fd) (T : Tx K mg fN fU fTu fA fAu fO fFu fCo fSp fCa fIr fTk fI fR fFc fLo fSo fOv fDw fSv fCh fUd fEt fAo fAd fDk fD fS fTt fW fPl fLu fLs fLc fM fE fX fNu fId fKn fHo fAy fOo fRp fAt fVa dN dU dTu dA dAu dO dFu dCo dSp dCa dIr dTk dI dR dFc dLo dSo dOv dDw dSv dCh dUd dEt dAo dAd dDk dD dS dTt dW dPl dLu dLs dLc dM dE dX dNu dId dKn dHo dAy dOo dRp dAt dVa) :
    FnOk P w K mg base CX0 (k + 7) f fd ["stock", "collections", "plan", "value"] spChD := by
  have GTu : FnOk P w K mg base CX0 (k + 1) fTu dTu ["value", "fewest", "most"] (spTupOf K) := ok_tupof T.Tu T.m_isinstance T.m_tuple T.m_len
  have GUd : FnOk P w K mg base CX0 (k + 6) fUd dUd ["stock", "collections", "plan", "value"] spUdD := ok_udD T.Ud T
  have GEt : FnOk P w K mg base CX0 (k + 6) fEt dEt ["stock", "collections", "plan", "value"] spEtD := ok_etD T.Et T
  refine F.ok sc_ch (fun vs H Q E h => ?_) (fun cdv A outer s H vs Q E hr h => ?_)
  · obtain ⟨t, b, p, v, d, ls, wl, rows, ws, ps, n, rfl, _⟩ := h
    rfl
  · obtain ⟨t, b, p, v, d, ls, wl, rows, ws, ps, n, rfl, pb, hd, sl, q⟩ := h
    refine ⟨_, (pss_cons (ps_if (pt_not (pt_val (pe_call GTu (hr.mono (by omega)) (by rfl) T.gTu T.Tu.kp T.bTu .nil pass0 (pa_cons (pv 3) (pa_cons pe_int (pa_cons pe_int pa_nil)))))) (pss_one (ps_ret pe_bl)) pss_nil)
      (pss_cons (ps_asg (pv 3) (pg_tup rfl (pgs_cons (pg_name (i := 4) sc_ch.nd rfl (Or.inl rfl)) (pgs_cons (pg_name (i := 5) sc_ch.nd rfl (Or.inl rfl)) pgs_nil))))
      (pss_cons (ps_if (pt_cmpR (show OpR _ _ rEqS from op_eqS hr.units) (pv 4) pe_str (nomark _)) (pss_one (ps_ret (pe_call GUd (hr.mono (by omega)) (by rfl) T.gUd T.Ud.kp T.bUd .nil pass0 (pa_cons (pv 0) (pa_cons (pv 1) (pa_cons (pv 2) (pa_cons (pv 5) pa_nil))))))) pss_nil)
      (pss_cons (ps_if (pt_cmpR (show OpR _ _ rEqS from op_eqS hr.units) (pv 4) pe_str (nomark _)) (pss_one (ps_ret (pe_call GEt (hr.mono (by omega)) (by rfl) T.gEt T.Et.kp T.bEt .nil pass0 (pa_cons (pv 0) (pa_cons (pv 1) (pa_cons (pv 2) (pa_cons (pv 5) pa_nil))))))) pss_nil)
      (pss_one (ps_ret pe_bl)))))), ?_⟩
    refine ⟨_, rfl, v, d, 2, 2, rfl, hd, _, rfl, ?_⟩
    cases hc : (isTup d && (decide ((2 : Int) ≤ (lenD d : Int)) && decide ((lenD d : Int) ≤ 2))) with
    | false =>
      have := q H (Same.refl _)
      rw [chOk_no hc] at this
      exact iteT this
    | true =>
      refine iteF (A := False) ?_
      rw [Bool.and_eq_true, Bool.and_eq_true] at hc
      obtain ⟨hc1, hc2, hc3⟩ := hc
      have hc2 := of_decide_eq_true hc2
      have hc3 := of_decide_eq_true hc3
      cases hd with
      | @tup r xs ds hr0 hs =>
        have hc2 : (2 : Int) ≤ (ds.length : Int) := hc2
        have hc3 : (ds.length : Int) ≤ 2 := hc3
        match ds, xs, hs, hc2, hc3 with
        | [w0, p0], _, .cons (v := v1) h1 (.cons (v := v2) h2 .nil), _, _ =>
          have hsl := sl w0 p0 rfl
          refine ⟨.ref r, rfl, r, [v1, v2], rfl, .inl (.inl hr0), rfl, v1, [v2], rfl, v2, [], rfl, rfl, ?_⟩
          have q : ∀ H', Same H H' → Q (.bl (if isS "draw" w0 = true then udOk rows ws ps n p0 else if isS "table" w0 = true then etOk rows ws ps n p0 else false)) H' := q
          refine ⟨v1, rfl, w0, "draw", h1, rfl, _, rfl, ite2 (fun e => ?_) (fun e => ?_)⟩
          · rw [if_pos e] at q
            exact ⟨_, rfl, _, rfl, _, rfl, _, rfl, t, b, p, v2, p0, ls, wl, rows, ws, ps, n, rfl, pb, h2, q⟩
          · rw [if_neg e] at q
            refine ⟨v1, rfl, w0, "table", h1, rfl, _, rfl, ite2 (fun e2 => ?_) (fun e2 => ?_)⟩
            · rw [if_pos e2] at q
              exact ⟨_, rfl, _, rfl, _, rfl, _, rfl, t, b, p, v2, p0, ls, wl, rows, ws, ps, n, rfl, pb, h2, hsl, q⟩
            · rw [if_neg e2] at q
              exact q H (Same.refl _)
        | [], _, _, a, _ => exact absurd a (by decide)
        | [_], _, _, a, _ => exact absurd a (by show ¬ (2 : Int) ≤ 1; decide)
        | _ :: _ :: _ :: ds, _, _, _, a =>
          have a : ((ds.length + 3 : Nat) : Int) ≤ 2 := a
          omega
      | _ => exact Bool.noConfusion (show false = true from hc1)
end
end DD
/-! ### what the text of a value tells: a text of a tuple of numbers is the text of no other value -/
namespace DD
open PySem PySem.Spec PyProof.Rows L2
theorem hd_from : ∀ (ts : List Str) (k : Nat) (acc : Str), ∃ r, TL.tl (textFrom k acc ts) = TL.tl acc ++ r
  | [], _, acc => ⟨[], by rw [List.append_nil]; rfl⟩
  | t :: ts, k, acc => by
    obtain ⟨r, e⟩ := hd_from ts (k + 1) (acc ++ (if k > 0 then ", " else "" : String) ++ t)
    refine ⟨TL.tl (Str.ofString (if k > 0 then ", " else "")) ++ TL.tl t ++ r, ?_⟩
    show TL.tl (textFrom (k + 1) (acc ++ (if k > 0 then ", " else "" : String) ++ t) ts) = _
    rw [e, TL.tl_append, TL.tl_append, List.append_assoc, List.append_assoc, List.append_assoc]
theorem hd_repr (f : Nat → List Nat) : ∀ (l : List Nat) (acc : Array Nat), ∃ r, (l.foldl (fun out c => out ++ (f c).toArray) acc).toList = acc.toList ++ r
  | [], acc => ⟨[], by rw [List.append_nil]; rfl⟩
  | c :: l, acc => by
    obtain ⟨r, e⟩ := hd_repr f l (acc ++ (f c).toArray)
    refine ⟨f c ++ r, ?_⟩
    rw [List.foldl_cons, e, Array.toList_append, List.append_assoc]
theorem hd_str (x : Str) : ∃ c r, TL.tl (reprText x) = c :: r ∧ (c = 34 ∨ c = 39) := by
  obtain ⟨r, e⟩ := hd_repr _ x.cps.toList #[reprQuote x]
  refine ⟨reprQuote x, r ++ [reprQuote x], ?_, ?_⟩
  · unfold TL.tl reprText
    rw [Array.toList_push, ← Array.foldl_toList, e]
    rfl
  · unfold reprQuote
    split
    · exact .inl rfl
    · exact .inr rfl
/-- a text that begins with a digit, a comma, a blank or a closing bracket is that of a number from 0 on -/
theorem hd_num : ∀ d : PyData, ∃ c r, TL.tl d.shown = c :: r ∧ ((c = 44 ∨ c = 32 ∨ c = 41 ∨ (48 ≤ c ∧ c ≤ 57)) → ∃ n : Nat, d = .int (n : Int)) ∧ (c = 40 → ∃ xs, d = .tuple xs)
  | .none => ⟨78, [111, 110, 101], by decide +kernel, fun h => by omega, fun h => by omega⟩
  | .bool true => ⟨84, [114, 117, 101], by decide +kernel, fun h => by omega, fun h => by omega⟩
  | .bool false => ⟨70, [97, 108, 115, 101], by decide +kernel, fun h => by omega, fun h => by omega⟩
  | .int (.ofNat n) => by
    have e : TL.tl (PyData.int (.ofNat n)).shown = TL.numL n := TL.tl_num n
    have h := TL.numL_ne n
    cases hn : TL.numL n with
    | nil => exact absurd hn h
    | cons c r => exact ⟨c, r, e.trans hn, fun _ => ⟨n, rfl⟩, fun h => by have := TL.numL_digits n c (by rw [hn]; exact List.mem_cons_self); omega⟩
  | .int (.negSucc n) => by
    have e : TL.tl (PyData.int (.negSucc n)).shown = 45 :: TL.numL (n + 1) := by
      show TL.tl (Str.ofString (toString (Int.negSucc n))) = _
      rw [TL.tl_ofString]
      show (String.toList ("-" ++ toString (n + 1))).map Char.toNat = _
      rw [String.toList_append, List.map_append]
      have e2 := TL.tl_num (n + 1)
      rw [TL.tl_ofString] at e2
      show [45] ++ ((toString (n + 1)).toList.map Char.toNat) = _
      exact congrArg (45 :: ·) e2
    exact ⟨45, _, e, fun h => by omega, fun h => by omega⟩
  | .str x => by
    obtain ⟨c, r, e, h⟩ := hd_str x
    exact ⟨c, r, e, fun h => by omega, fun h => by omega⟩
  | .list xs => by
    obtain ⟨r, e⟩ := hd_from (PyData.shownAll xs) 0 "["
    refine ⟨91, r ++ [93], ?_, fun h => by omega, fun h => by omega⟩
    show TL.tl (textFrom 0 "[" (PyData.shownAll xs) ++ "]") = _
    rw [TL.tl_append, e]
    rfl
  | .tuple xs => by
    refine ⟨40, TL.tl (Str.join ", " (PyData.shownAll xs)) ++ TL.tl (Str.ofString (if (PyData.shownAll xs).length == 1 then ",)" else ")")), ?_, fun h => by omega, fun _ => ⟨xs, rfl⟩⟩
    show TL.tl (("(" : Str) ++ Str.join ", " (PyData.shownAll xs) ++ (if (PyData.shownAll xs).length == 1 then ",)" else ")" : String)) = _
    rw [TL.tl_append, TL.tl_append, List.append_assoc]
    rfl
  | .dict kvs => by
    refine ⟨123, TL.tl (Str.join ", " (PyData.shownKv kvs)) ++ [125], ?_, fun h => by omega, fun h => by omega⟩
    show TL.tl (("{" : Str) ++ Str.join ", " (PyData.shownKv kvs) ++ "}") = _
    rw [TL.tl_append, TL.tl_append, List.append_assoc]
    rfl
/-- a tuple of numbers -/
def tupD (js : List Nat) : PyData := .tuple (js.map fun j : Nat => PyData.int (j : Int))
def tailL (n : Nat) : List Nat := if n = 1 then [44, 41] else [41]
theorem shown_all : ∀ xs : List PyData, PyData.shownAll xs = xs.map PyData.shown
  | [] => rfl
  | x :: xs => by
    show x.shown :: PyData.shownAll xs = _
    rw [shown_all xs]
    rfl
theorem tl_sep : TL.tl (", " : Str) = [44, 32] := by decide +kernel
theorem tl_tup (xs : List PyData) : TL.tl (PyData.tuple xs).shown = 40 :: (TL.joinL [44, 32] (xs.map fun x => TL.tl x.shown) ++ tailL xs.length) := by
  show TL.tl (("(" : Str) ++ Str.join ", " (PyData.shownAll xs) ++ (if (PyData.shownAll xs).length == 1 then ",)" else ")" : String)) = _
  rw [TL.tl_append, TL.tl_append, TL.tl_join, tl_sep, shown_all, List.map_map, List.length_map]
  have e : TL.tl (Str.ofString (if (xs.length == 1) = true then ",)" else ")")) = tailL xs.length := by
    unfold tailL
    by_cases h : xs.length = 1
    · rw [if_pos h, if_pos (by simpa using h)]
      decide +kernel
    · rw [if_neg h, if_neg (by simpa using h)]
      decide +kernel
  rw [e]
  rfl
theorem join_mem {S : List Nat} {c : Nat} : ∀ {ps : List (List Nat)}, c ∈ TL.joinL S ps → c ∈ S ∨ ∃ p ∈ ps, c ∈ p
  | [], h => by cases h
  | [p], h => .inr ⟨p, List.mem_singleton.mpr rfl, h⟩
  | p :: q :: r, h => by
    have h : c ∈ p ++ (S ++ TL.joinL S (q :: r)) := h
    rcases List.mem_append.mp h with h | h
    · exact .inr ⟨p, List.mem_cons_self, h⟩
    · rcases List.mem_append.mp h with h | h
      · exact .inl h
      · rcases join_mem h with h | ⟨p', hp, hc⟩
        · exact .inl h
        · exact .inr ⟨p', List.mem_cons_of_mem _ hp, hc⟩
theorem mem_join {S : List Nat} {c : Nat} {p : List Nat} (hc : c ∈ p) : ∀ {ps : List (List Nat)}, p ∈ ps → c ∈ TL.joinL S ps
  | [], h => by cases h
  | [q], h => by
    rw [List.mem_singleton.mp h] at hc
    exact hc
  | q :: q2 :: r, h => by
    show c ∈ q ++ (S ++ TL.joinL S (q2 :: r))
    rcases List.mem_cons.mp h with rfl | h
    · exact List.mem_append_left _ hc
    · exact List.mem_append_right _ (List.mem_append_right _ (mem_join hc h))
theorem tl_nat (n : Nat) : TL.tl (PyData.int (n : Int)).shown = TL.numL n := TL.tl_num n
theorem nums_text (js : List Nat) : (js.map fun j : Nat => PyData.int (j : Int)).map (fun x => TL.tl x.shown) = js.map TL.numL := by
  rw [List.map_map]
  exact List.map_congr_left fun j _ => tl_nat j
theorem nums_inj : ∀ {a b : List Nat}, a.map TL.numL = b.map TL.numL → a = b
  | [], [], _ => rfl
  | [], _ :: _, h => by simp at h
  | _ :: _, [], h => by simp at h
  | x :: a, y :: b, h => by
    rw [List.map_cons, List.map_cons] at h
    injection h with h1 h2
    rw [TL.numL_inj h1, nums_inj h2]
theorem nums_sep {js : List Nat} (h : 2 ≤ js.length) : 32 ∈ TL.joinL [44, 32] (js.map TL.numL) := by
  match js, h with
  | a :: b :: r, _ =>
    show 32 ∈ TL.numL a ++ ([44, 32] ++ TL.joinL [44, 32] (TL.numL b :: r.map TL.numL))
    exact List.mem_append_right _ (List.mem_append_left _ (by simp))
theorem text_inj {a b : List Nat} (h : TL.joinL [44, 32] (a.map TL.numL) ++ tailL a.length = TL.joinL [44, 32] (b.map TL.numL) ++ tailL b.length) : a = b := by
  have one : ∀ {a b : List Nat}, a.length = 1 → b.length ≠ 1 → TL.joinL [44, 32] (a.map TL.numL) ++ tailL a.length = TL.joinL [44, 32] (b.map TL.numL) ++ tailL b.length → False := fun {a b} ha hb h => by
    unfold tailL at h
    rw [if_pos ha, if_neg hb] at h
    match a, ha with
    | [x], _ =>
      have h : TL.numL x ++ ([44] ++ [41]) = TL.joinL [44, 32] (b.map TL.numL) ++ [41] := h
      rw [← List.append_assoc] at h
      have h2 := List.append_cancel_right h
      by_cases hb0 : b = []
      · subst hb0
        have : (TL.numL x ++ [44]) = [] := h2
        simp at this
      · have hb2 : 2 ≤ b.length := by
          have : b.length ≠ 0 := fun z => hb0 (List.eq_nil_of_length_eq_zero z)
          omega
        have hm := nums_sep hb2
        rw [← h2] at hm
        rcases List.mem_append.mp hm with hm | hm
        · have := TL.numL_digits x 32 hm
          omega
        · simp at hm
  by_cases ha : a.length = 1
  · by_cases hb : b.length = 1
    · unfold tailL at h
      rw [if_pos ha, if_pos hb] at h
      have h2 := List.append_cancel_right h
      match a, ha, b, hb with
      | [x], _, [y], _ =>
        have h2 : TL.numL x = TL.numL y := h2
        rw [TL.numL_inj h2]
    · exact (one ha hb h).elim
  · by_cases hb : b.length = 1
    · exact (one hb ha h.symm).elim
    · unfold tailL at h
      rw [if_neg ha, if_neg hb] at h
      have h2 := List.append_cancel_right h
      have nil : ∀ {b : List Nat}, b.length ≠ 1 → TL.joinL [44, 32] (b.map TL.numL) = [] → b = [] := fun {b} hb e => by
        by_cases hb0 : b = []
        · exact hb0
        · have hb2 : 2 ≤ b.length := by
            have : b.length ≠ 0 := fun z => hb0 (List.eq_nil_of_length_eq_zero z)
            omega
          have hm := nums_sep hb2
          rw [e] at hm
          simp at hm
      by_cases ha0 : a = []
      · subst ha0
        exact (nil hb h2.symm).symm
      · by_cases hb0 : b = []
        · subst hb0
          exact nil ha h2
        · have free : ∀ js : List Nat, ∀ p ∈ js.map TL.numL, 44 ∉ p := fun js p hp hm => by
            obtain ⟨n, _, rfl⟩ := List.mem_map.mp hp
            have := TL.numL_digits n 44 hm
            omega
          have e1 := TL.spl_join (S := [32]) (parts := a.map TL.numL) (fun z => ha0 (List.map_eq_nil_iff.mp z)) (free a)
          have e2 := TL.spl_join (S := [32]) (parts := b.map TL.numL) (fun z => hb0 (List.map_eq_nil_iff.mp z)) (free b)
          rw [h2] at e1
          exact nums_inj (e1.symm.trans e2)
/-- only a tuple of these numbers has their text -/
theorem shown_tup {d : PyData} {js : List Nat} (h : d.shown = (tupD js).shown) : d = tupD js := by
  have h := congrArg TL.tl h
  unfold tupD at h
  rw [tl_tup, nums_text, List.length_map] at h
  obtain ⟨c, r, e, _, h40⟩ := hd_num d
  rw [e] at h
  injection h with h1 h2
  obtain ⟨xs, rfl⟩ := h40 h1
  rw [tl_tup] at e
  injection e with _ e2
  rw [← e2] at h2
  have nat : ∀ x ∈ xs, ∃ n : Nat, x = .int (n : Int) := fun x hx => by
    obtain ⟨c, r, e, hn, _⟩ := hd_num x
    have hc : c ∈ TL.joinL [44, 32] (xs.map fun x => TL.tl x.shown) ++ tailL xs.length := List.mem_append_left _ (mem_join (p := TL.tl x.shown) (by rw [e]; exact List.mem_cons_self) (List.mem_map.mpr ⟨x, hx, rfl⟩))
    rw [h2] at hc
    refine hn ?_
    rcases List.mem_append.mp hc with hc | hc
    · rcases join_mem hc with hc | ⟨p, hp, hc⟩
      · simp only [List.mem_cons, List.not_mem_nil, or_false] at hc
        omega
      · obtain ⟨n, _, rfl⟩ := List.mem_map.mp hp
        exact .inr (.inr (.inr (TL.numL_digits n c hc)))
    · unfold tailL at hc
      split at hc
      · simp only [List.mem_cons, List.not_mem_nil, or_false] at hc
        omega
      · simp only [List.mem_cons, List.not_mem_nil, or_false] at hc
        omega
  have all : ∀ {xs : List PyData}, (∀ x ∈ xs, ∃ n : Nat, x = .int (n : Int)) → ∃ ks : List Nat, xs = ks.map fun j : Nat => PyData.int (j : Int) := fun {xs} => by
    induction xs with
    | nil => exact fun _ => ⟨[], rfl⟩
    | cons x xs ih =>
      intro h
      obtain ⟨n, rfl⟩ := h x List.mem_cons_self
      obtain ⟨ks, rfl⟩ := ih fun y hy => h y (List.mem_cons_of_mem _ hy)
      exact ⟨n :: ks, rfl⟩
  obtain ⟨ks, rfl⟩ := all nat
  rw [nums_text, List.length_map] at h2
  rw [text_inj h2]
  rfl
end DD
namespace DD
open PySem PySem.Spec PyProof.Rows L2 RZ DM
theorem pset_asc {m : Nat} {d : List Nat} (h : d ∈ pSets m) : d.Pairwise (· < ·) := by
  rw [pset_filt h]
  exact List.Pairwise.filter _ List.pairwise_lt_range
theorem asc_all {d : List Nat} (h : d.Pairwise (· < ·)) : (List.zipWith (fun a b : Nat => decide ((a : Int) < (b : Int))) d (d.drop 1)).all id = true := by
  induction d with
  | nil => rfl
  | cons x d ih =>
    cases d with
    | nil => rfl
    | cons y d =>
      have h1 := List.pairwise_cons.mp h
      have h2 := ih h1.2
      show (decide ((x : Int) < (y : Int)) && (List.zipWith (fun a b : Nat => decide ((a : Int) < (b : Int))) (y :: d) d).all id) = true
      have h3 := h1.1 y List.mem_cons_self
      rw [decide_eq_true (by omega)]
      exact h2
theorem ov_ex {rows ws : List (List Int)} {ps : List Int} {n : Nat} {s : List Int} {d : List Nat} (h1 : 1 ≤ rows.length) (h4 : rows.length ≤ 4) (hd : d ∈ pSets rows.length) (ho : ovB rows ps n (capsOf ws s n) d = true) : d ∈ exOf rows (capsOf ws s n) ps := by
  have hne : d ≠ [] := fun z => by
    rw [z] at ho
    have ho : decide ((0 : Int) > 0) = true := ho
    cases ho
  exact List.mem_filter.mpr ⟨ps_sets h1 h4 hd hne, by rw [big_ov (caps_len _ _ _) hne]; exact ho⟩
theorem asc_back : ∀ {d : List Nat}, (List.zipWith (fun a b : Nat => decide ((a : Int) < (b : Int))) d (d.drop 1)).all id = true → d.Pairwise (· < ·)
  | [], _ => .nil
  | [_], _ => List.pairwise_singleton _ _
  | x :: y :: d, h => by
    have h : (decide ((x : Int) < (y : Int)) && (List.zipWith (fun a b : Nat => decide ((a : Int) < (b : Int))) (y :: d) d).all id) = true := h
    rw [Bool.and_eq_true] at h
    have h1 := of_decide_eq_true h.1
    have h2 := asc_back (d := y :: d) h.2
    refine List.pairwise_cons.mpr ⟨fun z hz => ?_, h2⟩
    rcases List.mem_cons.mp hz with rfl | hz
    · omega
    · have := (List.pairwise_cons.mp h2).1 z hz
      omega
theorem sorted_eq : ∀ {a b : List Nat}, a.Pairwise (· < ·) → b.Pairwise (· < ·) → (∀ x, x ∈ a ↔ x ∈ b) → a = b
  | [], [], _, _, _ => rfl
  | [], y :: b, _, _, h => by
    have := (h y).mpr List.mem_cons_self
    simp at this
  | x :: a, [], _, _, h => by
    have := (h x).mp List.mem_cons_self
    simp at this
  | x :: a, y :: b, ha, hb, h => by
    obtain ⟨ha1, ha2⟩ := List.pairwise_cons.mp ha
    obtain ⟨hb1, hb2⟩ := List.pairwise_cons.mp hb
    have hxy : x = y := by
      have h1 := (h x).mp List.mem_cons_self
      have h2 := (h y).mpr List.mem_cons_self
      rcases List.mem_cons.mp h1 with e | h1
      · exact e
      · rcases List.mem_cons.mp h2 with e | h2
        · exact e.symm
        · have := hb1 x h1
          have := ha1 y h2
          omega
    subst hxy
    rw [sorted_eq ha2 hb2 fun z => ?_]
    constructor
    · intro hz
      rcases List.mem_cons.mp ((h z).mp (List.mem_cons_of_mem _ hz)) with e | hz'
      · have := ha1 z hz
        omega
      · exact hz'
    · intro hz
      rcases List.mem_cons.mp ((h z).mpr (List.mem_cons_of_mem _ hz)) with e | hz'
      · have := hb1 z hz
        omega
      · exact hz'
theorem asc_pset {m : Nat} {d : List Nat} (ha : d.Pairwise (· < ·)) (hb : ∀ j ∈ d, j < m) : d ∈ pSets m := by
  have e : d = (List.range m).filter fun j => d.contains j := by
    refine sorted_eq ha (List.Pairwise.filter _ List.pairwise_lt_range) fun x => ?_
    rw [List.mem_filter, List.mem_range]
    constructor
    · intro hx
      exact ⟨hb x hx, by simpa using hx⟩
    · rintro ⟨_, hx⟩
      simpa using hx
  rw [e]
  exact filt_mem _ m
theorem tup_row (js : List Nat) : tupD js = rowD (js.map fun j : Nat => (j : Int)) := by
  show PyData.tuple _ = PyData.tuple _
  rw [List.map_map]
  rfl
theorem nats_tup (js : List Nat) : natsOf (tupD js) = js := by
  show (js.map fun j : Nat => PyData.int (j : Int)).map (fun x => (intD x).toNat) = js
  rw [List.map_map]
  have : ((fun x => (intD x).toNat) ∘ fun j : Nat => PyData.int (j : Int)) = id := funext fun j => by
    show ((j : Int)).toNat = j
    omega
  rw [this, List.map_id]
theorem ad_tup {m : Nat} {js : List Nat} (h : js ∈ pSets m) : adOk m (tupD js) = true := by
  have hb := ps_bd h
  have hl : js.length ≤ m := by
    rw [pset_filt h]
    exact Nat.le_trans (List.length_filter_le _ _) (by rw [List.length_range]; exact Nat.le_refl _)
  have e := asc_nats js
  unfold adOk
  rw [show ascD (tupD js) = _ from e, asc_all (pset_asc h), Bool.and_true]
  show (true && (decide ((0 : Int) ≤ (((js.map fun j : Nat => PyData.int (j : Int)).length : Nat) : Int)) && decide ((((js.map fun j : Nat => PyData.int (j : Int)).length : Nat) : Int) ≤ (m : Int))) && (js.map fun j : Nat => PyData.int (j : Int)).all (numOk ((m : Int) - 1))) = true
  rw [List.length_map, decide_eq_true (show (0 : Int) ≤ (js.length : Int) by omega), decide_eq_true (show (js.length : Int) ≤ (m : Int) by omega), Bool.true_and, Bool.true_and, Bool.true_and]
  refine List.all_eq_true.mpr fun x hx => ?_
  obtain ⟨j, hj, rfl⟩ := List.mem_map.mp hx
  have := hb.2.2 j hj
  show (decide ((0 : Int) ≤ (j : Int)) && decide ((j : Int) ≤ (m : Int) - 1)) = true
  rw [decide_eq_true (show (0 : Int) ≤ (j : Int) by omega), decide_eq_true (show (j : Int) ≤ (m : Int) - 1 by omega)]
  rfl
theorem ad_is {m : Nat} {d : PyData} (h : adOk m d = true) : d = tupD (natsOf d) ∧ natsOf d ∈ pSets m := by
  unfold adOk at h
  rw [Bool.and_eq_true, Bool.and_eq_true, Bool.and_eq_true] at h
  obtain ⟨⟨⟨h1, _⟩, h3⟩, h4⟩ := h
  cases d with
  | tuple ds =>
    have h3 : ds.all (numOk ((m : Int) - 1)) = true := h3
    obtain ⟨e1, e2⟩ := nats_of h3
    have e : PyData.tuple ds = tupD (natsOf (.tuple ds)) := congrArg PyData.tuple e1
    refine ⟨e, asc_pset ?_ fun j hj => ?_⟩
    · rw [e] at h4
      have h5 : ascD (tupD (natsOf (.tuple ds))) = true := h4
      unfold tupD at h5
      rw [asc_nats] at h5
      exact asc_back h5
    · have := e2 j hj
      omega
  | _ => cases h1
theorem sets_ne1 : ((setsOf 1).all fun d => !d.isEmpty) = true := by decide +kernel
theorem sets_ne2 : ((setsOf 2).all fun d => !d.isEmpty) = true := by decide +kernel
theorem sets_ne3 : ((setsOf 3).all fun d => !d.isEmpty) = true := by decide +kernel
theorem sets_ne4 : ((setsOf 4).all fun d => !d.isEmpty) = true := by decide +kernel
theorem sets_ne {m : Nat} (h1 : 1 ≤ m) (h4 : m ≤ 4) {d : List Nat} (h : d ∈ setsOf m) : d ≠ [] := fun z => by
  have key : ((setsOf m).all fun d => !d.isEmpty) = true := by
    match m, h1, h4 with
    | 1, _, _ => exact sets_ne1
    | 2, _, _ => exact sets_ne2
    | 3, _, _ => exact sets_ne3
    | 4, _, _ => exact sets_ne4
  have := List.all_eq_true.mp key d h
  rw [z] at this
  cases this
/-- the program's look at any value and the law's look at its text agree -/
theorem ao_text {rows ws : List (List Int)} {ps : List Int} {n : Nat} {s : List Int} {d : PyData} (h1 : 1 ≤ rows.length) (h4 : rows.length ≤ 4) :
    aoOk rows ps n (capsOf ws s n) d = true ↔ ∃ js ∈ exOf rows (capsOf ws s n) ps, d.shown = (tupD js).shown := by
  constructor
  · intro h
    unfold aoOk at h
    rw [Bool.and_eq_true] at h
    obtain ⟨e, hm⟩ := ad_is h.1
    exact ⟨natsOf d, ov_ex h1 h4 hm h.2, congrArg PyData.shown e⟩
  · rintro ⟨js, hj, hs⟩
    obtain rfl := shown_tup hs
    obtain ⟨hj1, hj2⟩ := List.mem_filter.mp hj
    have hm := sets_ps hj1
    unfold aoOk
    rw [ad_tup hm, nats_tup, Bool.true_and]
    have hne := sets_ne h1 h4 hj1
    rw [← big_ov (caps_len _ _ _) hne]
    exact hj2
end DD
namespace DD
open PySem PySem.Spec PyProof.Rows L2 RZ DM
theorem dq_tyS {K : PySem.W.Frag} {H : Hp} {v : V} {d : PyData} (h : Dq H v d) : ∃ T : String, TyX K H v (.type T) ∧ PySem.W.kitOne K (.type T) (.type "str") = some (match d with | .str _ => true | _ => false) := by
  cases h with
  | non => exact ⟨_, .base .non, kit_ty (a := "NoneType") (r := false) (by decide +kernel)⟩
  | bl b => exact ⟨_, .base (.bl b), kit_ty (a := "bool") (r := false) (by decide +kernel)⟩
  | int i => exact ⟨_, .base (.int i), kit_ty (a := "int") (r := false) (by decide +kernel)⟩
  | str x => exact ⟨_, .base (.str x), kit_ty (a := "str") (r := true) (by decide +kernel)⟩
  | lst a _ => exact ⟨_, .base (.lst a), kit_ty (a := "list") (r := false) (by decide +kernel)⟩
  | tup a _ => exact ⟨_, .base (.tup a), kit_ty (a := "tuple") (r := false) (by decide +kernel)⟩
  | d0 a => exact ⟨_, .base (.dK a), kit_ty (a := "dict") (r := false) (by decide +kernel)⟩
  | d1 a => exact ⟨_, .base (.dK a), kit_ty (a := "dict") (r := false) (by decide +kernel)⟩
def txT (js : List Nat) : Str := (tupD js).shown
theorem in_txt {x : Str} {ex : List (List Nat)} : inV (V.str x) (ex.map fun js => V.str (txT js)) = true ↔ ∃ js ∈ ex, x = txT js := by
  unfold inV
  rw [List.any_map, List.any_eq_true]
  constructor
  · rintro ⟨js, hj, e⟩
    have e : eqV (V.str (txT js)) (V.str x) = true := e
    refine ⟨js, hj, ?_⟩
    have : txT js = x := by simpa [eqV] using e
    exact this.symm
  · rintro ⟨js, hj, rfl⟩
    exact ⟨js, hj, by show eqV (V.str (txT js)) (V.str (txT js)) = true; simp [eqV]⟩
abbrev NHo : List Str := ["_law_stock_here", "_law_collections", "_law_plan_here", "_law_value", "_law_known_here", "_law_word", "_law_shown", "_law_own", "_law_drawers", "_law_some"]
theorem scHolds : FnScope NHo ["_law_stock_here", "_law_collections", "_law_plan_here", "_law_value", "_law_known_here"] (defScope sHolds) := ⟨rfl, rfl, rfl, by decide +kernel, rfl, by decide +kernel, by decide +kernel⟩
def scOwn : Scope := { kind := .function, names := [(".0", .local), ("_law_own", .local), ("_law_drawers", .local), ("repr", .globalImplicit)], isGenerator := false, isCoroutine := false, more := [] }
def badA (rows ws : List (List Int)) (ps : List Int) (n : Nat) (ds : List PyData) (i : Nat) : List Int := (((List.zipWith (fun sp x => aoOk rows ps n (capsOf ws sp n) x) (spOf ws) ds).take i).filter fun b => !b).map fun _ => 1
theorem badA_succ {rows ws : List (List Int)} {ps : List Int} {n : Nat} {ds : List PyData} {i : Nat} {sp : List Int} {e : PyData} (h1 : (spOf ws)[i]? = some sp) (h2 : ds[i]? = some e) :
    badA rows ws ps n ds (i + 1) = badA rows ws ps n ds i ++ (if aoOk rows ps n (capsOf ws sp n) e = true then [] else [1]) := by
  unfold badA
  have hz : (List.zipWith (fun sp x => aoOk rows ps n (capsOf ws sp n) x) (spOf ws) ds)[i]? = some (aoOk rows ps n (capsOf ws sp n) e) := by
    rw [List.getElem?_zipWith, h1, h2]
  rw [List.take_add_one, hz, List.filter_append, List.map_append]
  congr 1
  cases aoOk rows ps n (capsOf ws sp n) e <;> rfl
theorem badA_len {rows ws : List (List Int)} {ps : List Int} {n : Nat} {ds : List PyData} {i : Nat} : (badA rows ws ps n ds i).length ≤ i := by
  unfold badA
  rw [List.length_map]
  exact Nat.le_trans (List.length_filter_le _ _) (by rw [List.length_take]; omega)
theorem badA_all {rows ws : List (List Int)} {ps : List Int} {n : Nat} {ds : List PyData} (hl : ds.length = (spOf ws).length) : (badA rows ws ps n ds (spOf ws).length).isEmpty = etOk rows ws ps n (.tuple ds) := by
  show _ = (decide (ds.length = (spOf ws).length) && (List.zipWith (fun sp x => aoOk rows ps n (capsOf ws sp n) x) (spOf ws) ds).all id)
  rw [decide_eq_true hl, Bool.true_and]
  unfold badA
  rw [List.take_of_length_le (by rw [List.length_zipWith]; omega)]
  generalize List.zipWith (fun sp x => aoOk rows ps n (capsOf ws sp n) x) (spOf ws) ds = bs
  induction bs with
  | nil => rfl
  | cons b bs ih =>
    cases b with
    | true =>
      rw [List.filter_cons_of_neg (by simp), ih]
      rfl
    | false => rfl
end DD
namespace DD
open PySem PySem.Spec PyProof.Rows L2 RZ DM
section
variable {P : Program} {w : World} {K : PySem.W.Frag} {mg : Str → Option Value} {base : Heap}
def spHoD : Sp := fun vs H Q _ => ∃ (t b p kn : Addr) (v : V) (d : PyData) (ls wl : List Addr) (rows ws : List (List Int)) (ps : List Int) (n : Nat) (ks : List Addr), vs = [.ref t, .ref b, .ref p, v, .ref kn] ∧ Pb H t b p ls wl rows ws ps n ∧ H kn = some (.lst (ks.map V.ref)) ∧ KnAt H rows ws ps n ks (spOf ws).length ∧
  Dq H v d ∧ (∀ w0 ds, d = .tuple [w0, .tuple ds] → ∀ e ∈ ds, Gd e) ∧ ∀ H', Same H H' → Q (.bl (chOk rows ws ps n d)) H'
set_option maxHeartbeats 1600000 in
theorem ok_hoD {f fN fU fTu fA fAu fO fFu fCo fSp fCa fIr fTk fI fR fFc fLo fSo fOv fDw fSv fCh fUd fEt fAo fAd fDk fD fS fTt fW fPl fLu fLs fLc fM fE fX fNu fId fKn fHo fAy fOo fRp fAt fVa : Addr} {fd dN dU dTu dA dAu dO dFu dCo dSp dCa dIr dTk dI dR dFc dLo dSo dOv dDw dSv dCh dUd dEt dAo dAd dDk dD dS dTt dW dPl dLu dLs dLc dM dE dX dNu dId dKn dHo dAy dOo dRp dAt dVa : FuncData} {k : Nat} (F : Fun K "_law_holds" "_law_holds" sHolds f fd) (T : Tx K mg fN fU fTu fA fAu fO fFu fCo fSp fCa fIr fTk fI fR fFc fLo fSo fOv fDw fSv fCh fUd fEt fAo fAd fDk fD fS fTt fW fPl fLu fLs fLc fM fE fX fNu fId fKn fHo fAy fOo fRp fAt fVa dN dU dTu dA dAu dO dFu dCo dSp dCa dIr dTk dI dR dFc dLo dSo dOv dDw dSv dCh dUd dEt dAo dAd dDk dD dS dTt dW dPl dLu dLs dLc dM dE dX dNu dId dKn dHo dAy dOo dRp dAt dVa) :
    FnG P w K mg base (k + 3) f fd ["_law_stock_here", "_law_collections", "_law_plan_here", "_law_value", "_law_known_here"] spHoD := by
  have GId : FnOk P w K mg base CX0 (k + 2) fId dId ["_law_stock_here", "_law_plan_here", "_law_value"] spIrD := ok_idD T.Id T
  have GLu : FnOk P w K mg base CX0 (k + 1) fLu dLu ["_law_collections", "_law_counts"] spLucky := ok_lucky T.Lu T
  have GT : FnOk P w K mg base CX0 (k + 1) fTt dTt ["_law_rows"] spLTot := ok_ltot T.Tt T
  refine fnG_of F scHolds (fun vs H Q E h => ?_) (fun cdv A hgu outer s H vs Q E hr h => ?_)
  · obtain ⟨t, b, p, kn, v, d, ls, wl, rows, ws, ps, n, ks, rfl, _⟩ := h
    rfl
  · obtain ⟨t, b, p, kn, v, d, ls, wl, rows, ws, ps, n, ks, rfl, ⟨st, hr1, hr4, hrn, wi, hp, hpl⟩, hkn, ka, hd, gd, q⟩ := h
    have hu : (A.deeper (envOfC "_law_holds" (defScope sHolds) s.heap.objs.size f cdv)).units + 66 < cLine := by
      have := hr.un
      omega
    refine ⟨_, (pss_cons (ps_if (PW.pt (pw_or (pt_not (pt_val (pe_callB (show CallR _ _ (rIsi K) from call_isi) (by rfl) T.m_isinstance (by decide +kernel) (pa_cons (pv 3) (pa_cons (pe_bltn (v := .ty "tuple") (by rfl) T.m_tuple (by decide +kernel) rfl) pa_nil))))) (pw_or (pt_cmpR op_ne (pe_callB call_len_seq (by rfl) T.m_len PySem.boot_len (pa_cons (pv 3) pa_nil)) pe_int (nomark _)) (pw_or1 (pt_not (pt_val (pe_callB (show CallR _ _ (rIsi K) from call_isi) (by rfl) T.m_isinstance (by decide +kernel) (pa_cons (pe_ix (show IxR _ (rIxT K) from ix_tup) (pv 3) pe_int (fun _ _ => rfl)) (pa_cons (pe_bltn (v := .ty "str") (by rfl) T.m_str (by decide +kernel) rfl) pa_nil))))))))) (pss_one (ps_ret pe_bl)) pss_nil)
      (pss_cons (ps_asg (pv 3) (pg_tup rfl (pgs_cons (pg_name (i := 5) scHolds.nd rfl (Or.inl rfl)) (pgs_cons (pg_name (i := 6) scHolds.nd rfl (Or.inl rfl)) pgs_nil))))
      (pss_cons (ps_if (pt_cmpR op_eq (pv 5) pe_str (nomark _)) (pss_one (ps_ret (pe_and (pe_call GId (hr.mono (by omega)) (by rfl) T.gId T.Id.kp T.bId .nil pass0 (pa_cons (pv 0) (pa_cons (pv 2) (pa_cons (pv 6) pa_nil)))) (pe_one (pe_not (pe_call GLu (hr.mono (by omega)) (by rfl) T.gLu T.Lu.kp T.bLu .nil pass0 (pa_cons (pv 1) (pa_cons (pe_call GT (hr.mono (by omega)) (by rfl) T.gTt T.Tt.kp T.bTt .nil pass0 (pa_cons (pv 6) pa_nil)) pa_nil)))))))) pss_nil)
      (pss_cons (ps_if (PW.pt (pw_or (pt_cmpR op_ne (pv 5) pe_str (nomark _)) (pw_or (pt_not (pt_val (pe_callB (show CallR _ _ (rIsi K) from call_isi) (by rfl) T.m_isinstance (by decide +kernel) (pa_cons (pv 6) (pa_cons (pe_bltn (v := .ty "tuple") (by rfl) T.m_tuple (by decide +kernel) rfl) pa_nil))))) (pw_or1 (pt_cmpR op_ne (pe_callB call_len_seq (by rfl) T.m_len PySem.boot_len (pa_cons (pv 6) pa_nil)) (pe_callB call_len_seq (by rfl) T.m_len PySem.boot_len (pa_cons (pv 4) pa_nil)) (nomark _)))))) (pss_one (ps_ret pe_bl)) pss_nil)
      (pss_one (ps_ret (pe_cmpR (op_eqE hr.units) (pe_lc (own := [("_law_own", 7), ("_law_drawers", 8)]) (g := gTup K 2 (gCons (gName 7) (gCons (gName 8) gNil))) rfl scHolds.nd (pi_zipM (by rfl) T.m_zip (pa_cons (pv 4) (pa_cons (pv 6) pa_nil))) (blkOk_by (own := [("_law_own", 7), ("_law_drawers", 8)]) (N := NHo) (sc := defScope sHolds) (by decide +kernel)) (fun _ _ _ _ _ => (pg_tup rfl (pgs_cons (pg_name (i := 7) scHolds.nd rfl (Or.inl rfl)) (pgs_cons (pg_name (i := 8) scHolds.nd rfl (Or.inl rfl)) pgs_nil)))) (fun _ _ _ _ _ => pts_one (pt_cmpR (show OpR _ _ (rIn K true) from op_notIn_seq) (pe_callB (show CallR _ (.builtin "repr") (fun xs H Q => ∃ v d, xs = [v] ∧ Dq H v d ∧ Gd d ∧ Q (.str d.shown) H) from call_reprQ hgu hu) (by rfl) T.m_repr (by decide +kernel) (pa_cons (pv 8) pa_nil)) (by exact (pe_lc (own := [("_law_some", 9)]) (g := gName 9) rfl scHolds.nd (show PI _ _ _ (iList K (tVar 7)) from pi_list (pv 7)) (blkOk_by (own := [("_law_some", 9)]) (N := NHo) (sc := scOwn) (by decide +kernel)) (fun _ _ _ _ _ => (pg_name (i := 9) scHolds.nd rfl (Or.inl rfl))) (fun _ _ _ _ _ => pts_nil) (fun _ _ _ _ _ => (pe_callB (show CallR _ (.builtin "repr") (fun xs H Q => ∃ a d wt, xs = [V.ref a] ∧ Dp K H (.ref a) d ∧ Sm wt 64 d ∧ wt ≤ 1048576 ∧ Q (.str d.shown) H) from call_reprD hgu hu) (by rfl) T.m_repr (by decide +kernel) (pa_cons (pv 9) pa_nil))))) (by rfl))) (fun _ _ _ _ _ => pe_int)) (pe_lst pa_nil) (nomark _)))))))), ?_⟩
    have hn4 := wi.n4
    obtain ⟨T0, t0, kT, _, _⟩ := dq_ty (K := K) hd
    refine ⟨v, rfl, _, _, _, _, _, rfl, .ty _, t0, kT, _, rfl, ?_⟩
    cases hd with
    | @tup a xs ds ha hs =>
      refine iteNx rfl ?_
      have hxl := hs.len
      refine ⟨_, rfl, a, _, rfl, .inr (SqT.of ha), rfl, _, rfl, ite2 (fun e => ?_) (fun e => ?_)⟩
      · have q := q H (Same.refl _)
        rw [show chOk rows ws ps n (.tuple ds) = false by
          unfold chOk
          split
          · next w0 p0 z =>
            obtain rfl := PyData.tuple.inj z
            rw [hxl] at e
            exact absurd e (by show ¬ (!decide (V.int ((2 : Nat) : Int) = V.int 2)) = true; decide)
          · rfl] at q
        exact q
      have hl2 : xs.length = 2 := by
        have e : ¬ (!decide (V.int ((xs.length : Nat) : Int) = V.int 2)) = true := e
        have := V.int.inj (of_decide_eq_true (by simpa using e : decide (V.int ((xs.length : Nat) : Int) = V.int 2) = true))
        omega
      match ds, xs, hs, hl2 with
      | [w0, p0], _, .cons (v := v1) h1 (.cons (v := v2) h2 .nil), _ =>
        obtain ⟨T1, t1, kS⟩ := dq_tyS (K := K) h1
        refine ⟨.ref a, rfl, a, _, 0, v1, rfl, rfl, SqT.of ha, rfl, _, _, _, _, _, rfl, .ty _, t1, kS, _, rfl, ?_⟩
        have q : ∀ H', Same H H' → Q (.bl (if isS "draw" w0 = true then udOk rows ws ps n p0 else if isS "table" w0 = true then etOk rows ws ps n p0 else false)) H' := q
        cases h1 with
        | str x =>
          refine iteNx rfl ?_
          refine ⟨.ref a, rfl, a, [.str x, v2], rfl, .inl (.inl ha), rfl, .str x, [v2], rfl, v2, [], rfl, rfl, ?_⟩
          have q : ∀ H', Same H H' → Q (.bl (if x = "draw" then udOk rows ws ps n p0 else if x = "table" then etOk rows ws ps n p0 else false)) H' := fun H' s' => by
            have := q H' s'
            simpa [isS] using this
          refine ⟨_, rfl, rfl, _, rfl, ?_⟩
          by_cases e1 : x = "draw"
          · rw [decide_eq_true (congrArg V.str e1)]
            refine iteT ?_
            have qd : ∀ H', Same H H' → Q (.bl (udOk rows ws ps n p0)) H' := fun H' s' => by
              have := q H' s'
              rwa [if_pos e1] at this
            refine ⟨.ref t, rfl, .ref p, rfl, v2, rfl, t, p, v2, p0, ls, rows, ps, rfl, st, hr4, fun r hr => by rw [hrn r hr]; omega, hp, hpl, h2, fun H1 s1 => ?_⟩
            unfold udOk at qd
            cases hc : drOk rows ps p0 with
            | false =>
              rw [hc, Bool.false_and] at qd
              exact ⟨_, rfl, iteF (A := _) (qd _ s1)⟩
            | true =>
              rw [hc, Bool.true_and] at qd
              obtain ⟨e, di⟩ := dr_is hrn hc
              generalize rowsOf p0 = Dr at e di qd
              subst e
              obtain ⟨D, dl, rfl, sd⟩ := dq_stock h2
              have hdl := di.len
              refine ⟨_, rfl, iteT ?_⟩
              refine ⟨_, rfl, _, rfl, D, dl, Dr, n, rfl, sd.same s1, by omega, by omega, hn4, fun rw' hr' => ?_, fun tt H2 s2 htt => ?_⟩
              · obtain ⟨j, hj⟩ := List.mem_iff_getElem?.mp hr'
                have hjl := (List.getElem?_eq_some_iff.mp hj).1
                have := (di.dr j (by omega)).len
                rwa [List.getD_eq_getElem?_getD, hj] at this
              · have s02 := s1.trans s2
                refine ⟨b, tt, wl, ws, n, _, rfl, wi.same s02, htt, tot_len _ _, fun H3 s3 => ?_⟩
                have qd := qd H3 (s02.trans s3)
                rw [show decide (fulOf ws (totalsOf Dr n) = none) = !decide (fulOf ws (totalsOf Dr n) ≠ none) by cases fulOf ws (totalsOf Dr n) <;> rfl] at qd
                exact ⟨_, rfl, qd⟩
          rw [decide_eq_false (fun z => e1 (V.str.inj z))]
          refine iteF (A := _) ?_
          refine ⟨_, rfl, rfl, _, rfl, ?_⟩
          by_cases e2 : x = "table"
          · rw [decide_eq_true (congrArg V.str e2)]
            refine iteF (A := _) ?_
            have qe : ∀ H', Same H H' → Q (.bl (etOk rows ws ps n p0)) H' := fun H' s' => by
              have := q H' s'
              rwa [if_neg e1, if_pos e2] at this
            obtain ⟨T2, t2, kT2, _, _⟩ := dq_ty (K := K) h2
            refine ⟨v2, rfl, _, _, _, _, _, rfl, .ty _, t2, kT2, _, rfl, ?_⟩
            cases h2 with
            | @tup D ys es hD hs2 =>
              refine iteNx rfl ?_
              have hkl := ka.len
              have hyl := hs2.len
              refine ⟨.ref D, rfl, D, _, rfl, .inr (SqT.of hD), .ref kn, rfl, kn, _, rfl, .inl (SqL.of hkn), rfl, _, rfl, ite2 (fun e3 => ?_) (fun e3 => ?_)⟩
              · have qe := qe H (Same.refl _)
                rw [show etOk rows ws ps n (.tuple es) = false by
                  show (decide (es.length = (spOf ws).length) && _) = false
                  rw [decide_eq_false, Bool.false_and]
                  intro z
                  rw [List.length_map, hkl, hyl, z, decide_eq_true rfl] at e3
                  exact absurd e3 (by decide)] at qe
                exact qe
              have hel : es.length = (spOf ws).length := by
                rw [List.length_map, hkl] at e3
                have e4 : decide (V.int ((ys.length : Nat) : Int) = V.int (((spOf ws).length : Nat) : Int)) = true := by simpa using e3
                have := V.int.inj (of_decide_eq_true e4)
                omega
              have hneq : kn ≠ D := fun z => by rw [z, hD] at hkn; cases hkn
              refine ⟨_, rfl, _, rfl, kd2 kn false true, [kn, D], [ks.map V.ref, ys], (ks.map V.ref).length, rfl, by simp, by simp, fun r e => by cases e; rfl, rwm2 (SqL.of hkn) (SqT.of hD) (by rw [List.length_map]; omega) (fun z => absurd z hneq), fun B nB => ?_⟩
              refine lc_it walk_zm (fun j H4 => H4 B = some (.lst ((badA rows ws ps n es j).map V.int)) ∧ Same H H4) ⟨upd_same, same_new nB⟩ (fun j H4 _ h => rwm2 (b1 := false) (b2 := true) (SqL.of (h.2 _ _ hkn)) (SqT.of (h.2 _ _ hD)) (by rw [List.length_map]; omega) (fun z => absurd z hneq)) (fun j x' H4 H5 hj h y => ?_) (fun H4 h => ?_)
              · obtain ⟨hB, s4⟩ := h
                obtain ⟨T3, rfl, nT3, rfl⟩ := y
                rw [List.length_map] at hj
                have g1 := getD_of (d := 0) hj
                have g2 : ys[j]? = some (ys[j]'(by omega)) := List.getElem?_eq_getElem (by omega)
                obtain ⟨ev, hev, hqv⟩ := hs2.get g2
                generalize ys[j]'(by omega) = x2 at g2 hqv
                have g4 := getD_of (d := []) (show j < (spOf ws).length by omega)
                rw [col2 (x := V.ref (ks.getD j 0)) (y := x2) (by rw [List.getElem?_map, g1]; rfl) g2]
                obtain ⟨as, has, ses⟩ := ka.at_ j _ _ g1 g4
                generalize ks.getD j 0 = ka1 at has ⊢
                have hao := ao_text (rows := rows) (ws := ws) (ps := ps) (n := n) (s := (spOf ws).getD j []) (d := ev) hr1 hr4
                have hsc := badA_succ (rows := rows) (ps := ps) (n := n) g4 hev
                have hbl := badA_len (rows := rows) (ws := ws) (ps := ps) (n := n) (ds := es) (i := j)
                have h256 := sp_len (fun r hr => by rw [(wi.g r hr).len]; exact hn4) wi.l4
                have hexl : (exOf rows (capsOf ws ((spOf ws).getD j []) n) ps).length ≤ 15 := by
                  refine Nat.le_trans (List.length_filter_le _ _) ?_
                  rw [sets_len]
                  have := Nat.pow_le_pow_right (n := 2) (by decide) hr4
                  omega
                generalize exOf rows (capsOf ws ((spOf ws).getD j []) n) ps = ex at ses hao hexl
                have s5 := s4.trans (same_new (o := .tup [.ref ka1, x2]) nT3)
                have hB5 := same_new (o := .tup [V.ref ka1, x2]) nT3 _ _ hB
                refine ⟨T3, [.ref ka1, x2], rfl, .inl (.inl upd_same), rfl, .ref ka1, [x2], rfl, x2, [], rfl, rfl, rfl, ?_⟩
                generalize upd H4 T3 (.tup [V.ref ka1, x2]) = H6 at s5 hB5 ⊢
                have hb4 : ∀ d ∈ ex, d.length ≤ 4 ∧ ∀ j ∈ d, j < 4 := fun d hd => ⟨(ses.bd d hd).1, fun j hj => by have := (ses.bd d hd).2 j hj; omega⟩
                refine ⟨x2, rfl, x2, ev, rfl, Dq.same s5 ev x2 hqv, gd (.str x) es rfl ev (List.mem_of_getElem? hev), ?_⟩
                have hes5 := s5 _ _ has
                refine ⟨.ref ka1, rfl, ka1, rfl, ⟨_, SqL.of hes5⟩, fun B2 nB2 => ?_⟩
                refine lc_it (walk_list (xs := as.map V.ref)) (fun m H7 => H7 B2 = some (.lst ((ex.take m).map fun d => V.str (txT d))) ∧ Same H6 H7) ⟨upd_same, same_new nB2⟩ (fun m H7 _ h => SqL.of (h.2 _ _ hes5)) (fun m x' H7 H8 hm h y => ?_) (fun H7 h => ?_)
                · obtain ⟨hB2, s7⟩ := h
                  obtain ⟨rfl, hx⟩ := y
                  obtain ⟨a2, ha2, rfl⟩ := get_map hx
                  have hml : m < ex.length := by
                    have := (List.getElem?_eq_some_iff.mp ha2).1
                    have := ses.len
                    omega
                  have e5 := getD_of (d := []) hml
                  have hbd := hb4 _ (List.mem_of_getElem? e5)
                  have hat := s7 _ _ (s5 _ _ (ses.at_ m a2 _ ha2 e5))
                  have tk := take_succ_map (f := fun d => V.str (txT d)) e5
                  generalize ex.getD m [] = d2 at e5 hbd hat tk
                  refine ⟨rfl, _, rfl, a2, rowD (natsI d2), 56, rfl, dp_row (by rw [← natsV_eq]; exact hat), (sm_nats hbd.2 hbd.1).up (Nat.le_refl _) (by decide), by decide, _, hB2, ?_, ?_, fun b' o e' => ?_⟩
                  · rw [List.length_map, List.length_take]
                    exact len_lt (by omega)
                  · rw [upd_same, tk]
                    unfold txT
                    rw [tup_row d2]
                    rfl
                  · rw [upd_ne (ne_of_none e' nB2)]
                    exact s7 _ _ e'
                · obtain ⟨hB2, s7⟩ := h
                  rw [List.length_map, ses.len, List.take_length] at hB2
                  have s6 := s5.trans s7
                  have hB7 := s7 _ _ hB5
                  refine ⟨B2, _, rfl, .inl (SqL.of hB2), rfl, by rw [List.all_map]; exact List.all_eq_true.mpr fun _ _ => rfl, _, rfl, ite2 (fun e5 => ?_) (fun e5 => ?_)⟩
                  · have hno : aoOk rows ps n (capsOf ws ((spOf ws).getD j []) n) ev = false := Bool.eq_false_iff.mpr fun z => by
                      have := in_txt.mpr (hao.mp z)
                      have e5 : (!inV (V.str ev.shown) (ex.map fun d => V.str (txT d))) = true := e5
                      rw [this] at e5
                      cases e5
                    refine ⟨_, hB7, ?_, ?_, fun b' o e' => ?_⟩
                    · rw [List.length_map]
                      exact len_lt (by omega)
                    · rw [upd_same, hsc, hno, if_neg (by decide), List.map_append]
                      rfl
                    · rw [upd_ne (ne_of_none e' nB)]
                      exact s6 _ _ e'
                  · have hyes : aoOk rows ps n (capsOf ws ((spOf ws).getD j []) n) ev = true := hao.mpr (in_txt.mp (by
                      have e5 : ¬ (!inV (V.str ev.shown) (ex.map fun d => V.str (txT d))) = true := e5
                      simpa using e5))
                    refine ⟨?_, s6⟩
                    rw [hsc, hyes, if_pos rfl, List.append_nil]
                    exact hB7
              · obtain ⟨hB, s4⟩ := h
                rw [List.length_map, hkl] at hB
                have ql := qe
                refine ⟨Nat.zero_le _, fun q0 nq0 => ?_⟩
                have s8 := same_new (o := .lst []) nq0
                refine ⟨B, q0, _, rfl, rfl, s8 _ _ hB, upd_same, ?_⟩
                have qf := qe _ (s4.trans s8)
                rw [← badA_all hel] at qf
                rw [show ((badA rows ws ps n es (spOf ws).length).map V.int).isEmpty = (badA rows ws ps n es (spOf ws).length).isEmpty by cases badA rows ws ps n es (spOf ws).length <;> rfl]
                exact qf
            | _ => exact iteT (qe H (Same.refl _))
          · rw [decide_eq_false (fun z => e2 (V.str.inj z))]
            have q := q H (Same.refl _)
            rw [if_neg e1, if_neg e2] at q
            exact iteT q
        | _ => exact iteT (q H (Same.refl _))
      | [], _, .nil, z => exact absurd z (by decide)
      | [_], _, .cons _ .nil, z => exact absurd z (by show ¬ 1 = 2; decide)
      | _ :: _ :: _ :: _, _, .cons _ (.cons _ (.cons (vs := r) _ _)), z =>
        have z : r.length + 3 = 2 := z
        omega
    | _ => exact iteT (q H (Same.refl _))
end
end DD
namespace DD
open PySem PySem.Spec PyProof.Rows L2 RZ DM
theorem none_back {H H' : Hp} {a : Addr} (s : Same H H') (n : H' a = none) : H a = none := by
  cases e : H a with
  | none => rfl
  | some o =>
    have := s _ _ e
    rw [n] at this
    cases this
theorem KnAt.kp {H H' : Hp} {dk c : Addr} {B : Nat} {rows ws : List (List Int)} {ps : List Int} {n : Nat} {ks : List Addr} {i : Nat} (a : KnAt H rows ws ps n ks i) (h : ∀ x ∈ ks, x ≠ dk ∧ x ≠ c) (d : Deck H dk c B) (k : Kp2 dk c H H') : KnAt H' rows ws ps n ks i :=
  ⟨a.len, fun j x s e1 e2 => by
    obtain ⟨as, h1, h2⟩ := a.at_ j x s e1 e2
    obtain ⟨n1, n2⟩ := h x (List.mem_of_getElem? e1)
    exact ⟨as, k _ _ n1 n2 h1, h2.tk (TK.kp d k)⟩⟩
theorem SetsAt.cons0 {H : Hp} {as : List Addr} {dss : List (List Nat)} {n : Nat} {z : Addr} (a : SetsAt H as dss n) (h : H z = some (.tup [])) : SetsAt H (z :: as) ([] :: dss) n := by
  refine ⟨by rw [List.length_cons, List.length_cons, a.len], fun j x ds e1 e2 => ?_, fun ds hd => ?_⟩
  · cases j with
    | zero =>
      obtain rfl : z = x := Option.some.inj e1
      obtain rfl : [] = ds := Option.some.inj e2
      exact h
    | succ j => exact a.at_ j x ds e1 e2
  · rcases List.mem_cons.mp hd with rfl | hd
    · exact ⟨Nat.zero_le _, fun j hj => by cases hj⟩
    · exact a.bd ds hd
abbrev NAt : List Str := ["_law_deck_here", "_law_stock_here", "_law_known_here", "_law_found", "_law_some"]
theorem scAt : FnScope NAt ["_law_deck_here", "_law_stock_here", "_law_known_here"] (defScope sAnyTab) := ⟨rfl, rfl, rfl, by decide +kernel, rfl, by decide +kernel, by decide +kernel⟩
section
variable {P : Program} {w : World} {K : PySem.W.Frag} {mg : Str → Option Value} {base : Heap}
def spKnownF : Sp := fun vs H Q _ => ∃ (t b p : Addr) (ls wl : List Addr) (rows ws : List (List Int)) (ps : List Int) (n : Nat), vs = [.ref t, .ref b, .ref p] ∧ Pb H t b p ls wl rows ws ps n ∧
  ∀ A ks H', Same H H' → H' A = some (.lst (ks.map V.ref)) → KnAt H' rows ws ps n ks (spOf ws).length → H A = none → (∀ a ∈ ks, H a = none) → Q (.ref A) H'
theorem ok_knownF {f fN fU fTu fA fAu fO fFu fCo fSp fCa fIr fTk fI fR fFc fLo fSo fOv fDw fSv fCh fUd fEt fAo fAd fDk fD fS fTt fW fPl fLu fLs fLc fM fE fX fNu fId fKn fHo fAy fOo fRp fAt fVa : Addr} {fd dN dU dTu dA dAu dO dFu dCo dSp dCa dIr dTk dI dR dFc dLo dSo dOv dDw dSv dCh dUd dEt dAo dAd dDk dD dS dTt dW dPl dLu dLs dLc dM dE dX dNu dId dKn dHo dAy dOo dRp dAt dVa : FuncData} {k : Nat} (F : Fun K "_law_known" "_law_known" sKnown f fd) (T : Tx K mg fN fU fTu fA fAu fO fFu fCo fSp fCa fIr fTk fI fR fFc fLo fSo fOv fDw fSv fCh fUd fEt fAo fAd fDk fD fS fTt fW fPl fLu fLs fLc fM fE fX fNu fId fKn fHo fAy fOo fRp fAt fVa dN dU dTu dA dAu dO dFu dCo dSp dCa dIr dTk dI dR dFc dLo dSo dOv dDw dSv dCh dUd dEt dAo dAd dDk dD dS dTt dW dPl dLu dLs dLc dM dE dX dNu dId dKn dHo dAy dOo dRp dAt dVa) :
    FnOk P w K mg base CX0 (k + 3) f fd ["_law_stock_here", "_law_collections", "_law_plan_here"] spKnownF := by
  have GX : FnOk P w K mg base CX0 (k + 2) fX dX ["_law_stock_here", "_law_caps_here", "_law_plan_here"] spExc := ok_exc T.X T
  have GLs : FnOk P w K mg base CX0 (k + 1) fLs dLs ["_law_collections"] spLSp := ok_lsp T.Ls T
  have GLc : FnOk P w K mg base CX0 (k + 1) fLc dLc ["_law_collections", "_law_spoiling"] spLCaps := ok_lcaps T.Lc T
  refine F.ok scKnown (fun vs H Q E h => ?_) (fun cdv A outer s H vs Q E hr h => ?_)
  · obtain ⟨t, b, p, ls, wl, rows, ws, ps, n, rfl, _⟩ := h
    rfl
  · obtain ⟨t, b, p, ls, wl, rows, ws, ps, n, rfl, ⟨st, hr1, hr4, hrn, wi, hp, hpl⟩, q⟩ := h
    refine ⟨_, (pss_one (ps_ret (pe_lc (own := [("_law_some", 3)]) (g := gName 3) rfl scKnown.nd (pi_list (pe_call GLs (hr.mono (by omega)) (by rfl) T.gLs T.Ls.kp T.bLs .nil pass0 (pa_cons (pv 1) pa_nil))) (blkOk_by (own := [("_law_some", 3)]) (N := ["_law_stock_here", "_law_collections", "_law_plan_here", "_law_some"]) (sc := defScope sKnown) (by decide +kernel)) (fun _ _ _ _ _ => (pg_name (i := 3) scKnown.nd rfl (Or.inl rfl))) (fun _ _ _ _ _ => pts_nil) (fun _ _ _ _ _ => (pe_call GX (hr.mono (by omega)) (by rfl) T.gX T.X.kp T.bX .nil pass0 (pa_cons (pv 0) (pa_cons (pe_call GLc (hr.mono (by omega)) (by rfl) T.gLc T.Lc.kp T.bLc .nil pass0 (pa_cons (pv 1) (pa_cons (pv 3) pa_nil))) (pa_cons (pv 2) pa_nil)))))))), ?_⟩
    have hg := wi.g
    have hn4 := wi.n4
    have hw4 : ∀ r ∈ ws, r.length ≤ 4 := fun r hr => by rw [(hg r hr).len]; exact hn4
    have h256 := sp_len hw4 wi.l4
    refine ⟨_, rfl, b, wl, ws, rfl, wi.st, wi.l4, hw4, fun L as H1 s1 hL hal hR => ?_⟩
    refine ⟨L, rfl, ⟨_, SqL.of hL⟩, fun D nD => ?_⟩
    refine lc_it (walk_list (xs := as.map V.ref)) (fun i H' => ∃ ks : List Addr, H' D = some (.lst (ks.map V.ref)) ∧ Same H1 H' ∧ KnAt H' rows ws ps n ks i ∧ ∀ a ∈ ks, a ≠ D ∧ H a = none)
      ⟨[], upd_same, same_new nD, ⟨rfl, fun j a s e => by simp at e⟩, fun a h => by cases h⟩ (fun i H' _ h => by obtain ⟨_, _, s2, _⟩ := h; exact SqL.of (s2 _ _ hL)) (fun i x H' H2 hi h y => ?_) (fun H' h => ?_)
    · obtain ⟨ks, hD, s2, kn, hne⟩ := h
      obtain ⟨rfl, hx⟩ := y
      obtain ⟨a1, ha1, rfl⟩ := get_map hx
      rw [List.length_map] at hi
      have hil : i < (spOf ws).length := by omega
      have hsi : (spOf ws)[i]? = some (spOf ws)[i] := List.getElem?_eq_getElem hil
      have hmem := List.getElem_mem hil
      have hai := s2 _ _ (hR i a1 _ ha1 hsi)
      generalize (spOf ws)[i] = sp at hsi hmem hai
      have s02 := s1.trans s2
      refine ⟨rfl, _, rfl, _, rfl, _, rfl, b, a1, wl, ws, sp, n, rfl, wi.same s02, hmem, hai, fun c H3 s3 hc => ?_⟩
      have s03 := s02.trans s3
      refine ⟨_, rfl, t, c, p, ls, rows, capsOf ws sp n, ps, rfl, st.same s03, hr1, hr4, fun r hr => by rw [caps_len]; exact hrn r hr, hc, by rw [caps_len]; exact hn4, caps_nn hmem, s03 _ _ hp, hpl, fun X xs H4 s4 nX hX sx => ?_⟩
      have hD4 := s4 _ _ (s3 _ _ hD)
      have hXD : X ≠ D := fun z => by rw [z, s3 _ _ hD] at nX; cases nX
      have tkD : TK H4 (upd H4 D (.lst (ks.map V.ref ++ [V.ref X]))) := TK.lst hD4
      refine ⟨_, hD4, ?_, ks ++ [X], ?_, fun b' o e => ?_, ?_, fun a ha => ?_⟩
      · rw [List.length_map, kn.len]
        exact len_lt (by omega)
      · rw [upd_same, List.map_append]
        rfl
      · rw [upd_ne (ne_of_none e nD)]
        exact s4 _ _ (s3 _ _ (s2 _ _ e))
      · refine ⟨by rw [List.length_append, kn.len]; rfl, fun j a s x1 x2 => ?_⟩
        by_cases hj : j < ks.length
        · rw [List.getElem?_append_left hj] at x1
          obtain ⟨as2, h1, h2⟩ := kn.at_ j a s x1 x2
          exact ⟨as2, by rw [upd_ne (hne a (List.mem_of_getElem? x1)).1]; exact s4 _ _ (s3 _ _ h1), (h2.same (s3.trans s4)).tk tkD⟩
        · have hj2 : j = ks.length := by
            have := (List.getElem?_eq_some_iff.mp x1).1
            rw [List.length_append] at this
            simp at this
            omega
          rw [hj2, List.getElem?_append_right (Nat.le_refl _), Nat.sub_self] at x1
          rw [hj2, kn.len, hsi] at x2
          obtain rfl : X = a := Option.some.inj x1
          obtain rfl : sp = s := Option.some.inj x2
          exact ⟨xs, by rw [upd_ne hXD]; exact hX, sx.tk tkD⟩
      · rcases List.mem_append.mp ha with h | h
        · exact hne a h
        · rw [List.mem_singleton.mp h]
          exact ⟨hXD, none_back s03 nX⟩
    · obtain ⟨ks, hD, s2, kn, hk⟩ := h
      rw [List.length_map, hal] at kn
      exact q D ks _ (s1.trans s2) hD kn (none_back s1 nD) fun a ha => (hk a ha).2
def spAt : Sp := fun vs H Q _ => ∃ (dk c t kn : Addr) (B : Nat) (ls : List Addr) (rows ws : List (List Int)) (ps : List Int) (n : Nat) (ks : List Addr), vs = [.ref dk, .ref t, .ref kn] ∧ Deck H dk c B ∧ B + 600 ≤ 1000000 ∧ StockAt H t ls rows ∧ 1 ≤ rows.length ∧ rows.length ≤ 4 ∧ H kn = some (.lst (ks.map V.ref)) ∧ (kn ≠ dk ∧ kn ≠ c) ∧ KnAt H rows ws ps n ks (spOf ws).length ∧ (∀ x ∈ ks, x ≠ dk ∧ x ≠ c) ∧ (spOf ws).length ≤ 256 ∧
  ∀ (r : Addr) (as : List Addr) (dss : List (List Nat)) H', H' r = some (.tup (as.map V.ref)) → dss.length = (spOf ws).length → SetsAt H' as dss rows.length → Kp2 dk c H H' → Deck H' dk c (B + 600) → Q (.ref r) H'
set_option maxHeartbeats 1600000 in
theorem ok_anytab {f fN fU fTu fA fAu fO fFu fCo fSp fCa fIr fTk fI fR fFc fLo fSo fOv fDw fSv fCh fUd fEt fAo fAd fDk fD fS fTt fW fPl fLu fLs fLc fM fE fX fNu fId fKn fHo fAy fOo fRp fAt fVa : Addr} {fd dN dU dTu dA dAu dO dFu dCo dSp dCa dIr dTk dI dR dFc dLo dSo dOv dDw dSv dCh dUd dEt dAo dAd dDk dD dS dTt dW dPl dLu dLs dLc dM dE dX dNu dId dKn dHo dAy dOo dRp dAt dVa : FuncData} {k : Nat} (F : Fun K "_law_any_table" "_law_any_table" sAnyTab f fd) (T : Tx K mg fN fU fTu fA fAu fO fFu fCo fSp fCa fIr fTk fI fR fFc fLo fSo fOv fDw fSv fCh fUd fEt fAo fAd fDk fD fS fTt fW fPl fLu fLs fLc fM fE fX fNu fId fKn fHo fAy fOo fRp fAt fVa dN dU dTu dA dAu dO dFu dCo dSp dCa dIr dTk dI dR dFc dLo dSo dOv dDw dSv dCh dUd dEt dAo dAd dDk dD dS dTt dW dPl dLu dLs dLc dM dE dX dNu dId dKn dHo dAy dOo dRp dAt dVa) :
    FnOk P w K mg base CX0 (k + 2) f fd ["_law_deck_here", "_law_stock_here", "_law_known_here"] spAt := by
  have GD : FnOk P w K mg base CX0 (k + 1) fD dD ["_law_deck_here", "_law_bound"] spDraw := ok_draw T.D T.m_len T.m_max
  have GE : FnOk P w K mg base CX0 (k + 1) fE dE ["_law_count"] spSets := ok_sets T.E T
  refine F.ok scAt (fun vs H Q E h => ?_) (fun cdv A outer s H vs Q E hr h => ?_)
  · obtain ⟨dk, c, t, kn, B, ls, rows, ws, ps, n, ks, rfl, _⟩ := h
    rfl
  · obtain ⟨dk, c, t, kn, B, ls, rows, ws, ps, n, ks, rfl, dek, hB, st, h1, h4, hkn, hkne, kna, hks, hL, q⟩ := h
    refine ⟨_, (pss_cons (ps_set (i := 3) scAt.nd rfl (.inl rfl) (pe_lst pa_nil))
      (pss_cons (ps_for PassesOwn.never rfl (pi_list (pv 2)) (pg_name (i := 4) scAt.nd rfl (Or.inl rfl)) (C8.pss_cut (ps_if (PW.pt (pw_or (pt_cmpR (op_eqE hr.units) (pv 4) (pe_lst pa_nil) (nomark _)) (pw_or1 (pt_cmpR op_eq (pe_call GD (hr.mono (by omega)) (by rfl) T.gD T.D.kp T.bD .nil pass0 (pa_cons (pv 0) (pa_cons pe_int pa_nil))) pe_int (nomark _))))) (pss_one (ps_set (i := 4) scAt.nd rfl (.inl rfl) (pe_op op_cat (pe_lst (pa_cons (pe_tup pa_nil) pa_nil)) (pe_call GE (hr.mono (by omega)) (by rfl) T.gE T.E.kp T.bE .nil pass0 (pa_cons (pe_callB call_len_seq (by rfl) T.m_len PySem.boot_len (pa_cons (pv 1) pa_nil)) pa_nil))))) pss_nil)
      (pss_one (ps_expr (pe_bm PySem.F.plainAttrs_list PySem.F.slot_list_append PySem.F.type_list_append mt_append (pv 3) (pa_cons (pe_ix (show IxR _ (rIxL K) from ix_list) (pv 4) (pe_call GD (hr.mono (by omega)) (by rfl) T.gD T.D.kp T.bD .nil pass0 (pa_cons (pv 0) (pa_cons (pe_callB call_len_seq (by rfl) T.m_len PySem.boot_len (pa_cons (pv 4) pa_nil)) pa_nil))) (fun _ _ => rfl)) pa_nil))))))
      (pss_one (ps_ret (pe_callTy call_tuple_of (by rfl) T.m_tuple (by decide +kernel) (pa_cons (pv 3) pa_nil)))))), ?_⟩
    have hll := st.len
    refine ⟨Nat.zero_le _, fun F nF => ?_⟩
    have fne := dek.nedk nF
    refine ⟨.ref kn, rfl, kn, rfl, ⟨_, SqL.of (same_new nF _ _ hkn)⟩, ?_⟩
    refine for_it (walk_list (xs := ks.map V.ref)) (fun i σ H' => ∃ (fs : List Addr) (Ds : List (List Nat)) (y4 : Option V), σ = [some (.ref dk), some (.ref t), some (.ref kn), some (.ref F), y4] ∧ H' F = some (.lst (fs.map V.ref)) ∧ Ds.length = i ∧ SetsAt H' fs Ds rows.length ∧ Kp2 dk c H H' ∧ Deck H' dk c (B + 2 * i))
      ⟨[], [], none, rfl, upd_same, rfl, ⟨rfl, fun j a ds e => by simp at e, fun ds h => by cases h⟩, kps (same_new nF), (dek.kp nF).up (by omega)⟩
      (fun i σ H' _ h => by
        obtain ⟨_, _, _, _, _, _, _, kp, _⟩ := h
        exact SqL.of (kp _ _ hkne.1 hkne.2 hkn)) (fun i x σ H' H2 hi h y => ?_) (fun σ H' h => ?_)
    · obtain ⟨fs, Ds, y4, rfl, hF, hDl, sa, kp, d⟩ := h
      obtain ⟨rfl, hx⟩ := y
      obtain ⟨a1, ha1, rfl⟩ := get_map hx
      rw [List.length_map, kna.len] at hi
      have hsi := getD_of (d := []) hi
      obtain ⟨as, has0, sas0⟩ := kna.at_ i a1 _ ha1 hsi
      obtain ⟨an1, an2⟩ := hks a1 (List.mem_of_getElem? ha1)
      have has := kp _ _ an1 an2 has0
      have sas := sas0.tk (TK.kp dek kp)
      have hfl := sa.len
      have hal : as.length ≤ 15 := by
        have e1 := sas.len
        have : (exOf rows (capsOf ws ((spOf ws).getD i []) n) ps).length ≤ 15 := by
          refine Nat.le_trans (List.length_filter_le _ _) ?_
          rw [sets_len]
          have := Nat.pow_le_pow_right (n := 2) (by decide) h4
          omega
        omega
      generalize exOf rows (capsOf ws ((spOf ws).getD i []) n) ps = ex at sas
      refine ⟨fun σ' H3 => ∃ (s : Addr) (as2 : List Addr) (dss : List (List Nat)), σ' = [some (.ref dk), some (.ref t), some (.ref kn), some (.ref F), some (.ref s)] ∧ (s ≠ dk ∧ s ≠ c) ∧ H3 s = some (.lst (as2.map V.ref)) ∧ 1 ≤ as2.length ∧ as2.length ≤ 20 ∧ SetsAt H3 as2 dss rows.length ∧ H3 F = some (.lst (fs.map V.ref)) ∧ SetsAt H3 fs Ds rows.length ∧ Kp2 dk c H H3 ∧ Deck H3 dk c (B + 2 * i + 1), ?_, fun σ' H3 h => ?_⟩
      · refine ⟨_, rfl, Nat.zero_le _, fun e1 ne1 => ?_⟩
        have s1 := same_new (o := .lst []) ne1
        have k1 := kp.trans (kps (a := dk) (b := c) s1)
        have d1 := d.keep s1
        have hF1 := s1 _ _ hF
        have sa1 := sa.same s1
        have has1 := s1 _ _ has
        have sas1 := sas.same s1
        refine ⟨a1, e1, _, rfl, rfl, has1, upd_same, _, rfl, ?_⟩
        generalize upd H2 e1 (.lst []) = H1 at s1 k1 d1 hF1 sa1 has1 sas1 ⊢
        cases as with
        | nil =>
          refine iteT2 rfl ?_
          refine iteT2 rfl ?_
          have d1u : Deck H1 dk c (B + 2 * i + 1) := d1.up (by omega)
          refine ⟨Nat.zero_le _, fun z nz => ?_⟩
          have sz := same_new (o := .tup []) nz
          have hz : (upd H1 z (.tup [])) z = some (.tup []) := upd_same
          have kz := k1.trans (kps (a := dk) (b := c) sz)
          have dz := d1u.keep sz
          have hFz := sz _ _ hF1
          have saz := sa1.same sz
          generalize upd H1 z (.tup []) = Hz at sz hz kz dz hFz saz ⊢
          refine ⟨by show 1 ≤ sizeLine; decide, fun l nl => ?_⟩
          have sl := same_new (o := .lst [V.ref z]) nl
          have hl : (upd Hz l (.lst [V.ref z])) l = some (.lst [V.ref z]) := upd_same
          have lne := dz.nedk nl
          have kl := kz.trans (kps (a := dk) (b := c) sl)
          have dl := dz.keep sl
          have hFl := sl _ _ hFz
          have sal := saz.same sl
          have hzl := sl _ _ hz
          generalize upd Hz l (.lst [V.ref z]) = Hl at sl hl kl dl hFl sal hzl ⊢
          have stl := st.kp kl dek
          refine ⟨_, rfl, t, _, rfl, .inr (SqT.of stl.top), rows.length, congrArg (fun n : Nat => [V.int (n : Int)]) (by rw [List.length_map, st.len]), h1, h4, fun D as' H7 s7 nD hD sa' hl' => ?_⟩
          have hFD : F ≠ D := fun e => by rw [← e, hFl] at nD; cases nD
          refine ⟨l, D, _, _, rfl, rfl, s7 _ _ hl, hD, by rw [List.length_map]; show 1 + as'.length ≤ sizeLine; exact Nat.le_of_lt (len_lt (by omega)), fun p np => ?_⟩
          have sp := same_new (o := .lst ([V.ref z] ++ as'.map V.ref)) np
          have pne := (dl.keep s7).nedk np
          have s8 := s7.trans sp
          exact ⟨p, z :: as', [] :: setsOf rows.length, rfl, pne, upd_same, Nat.succ_le_succ (Nat.zero_le _), by show as'.length + 1 ≤ 20; omega, (sa'.same sp).cons0 (s8 _ _ hzl), s8 _ _ hFl, sal.same s8, kl.trans (kps s8), dl.keep s8⟩
        | cons a0 as =>
          refine iteF2 rfl ?_
          refine ⟨_, rfl, dk, c, _, 30, rfl, d1, by omega, by decide, by decide, fun r H5 r0 r1 k5 d5 => ?_⟩
          have k15 := k1.trans k5
          have hF5 := k5 _ _ fne.1 fne.2 hF1
          have sa5 := sa1.tk (TK.kp d1 k5)
          refine ⟨rfl, _, rfl, ite2 (fun e => ?_) (fun e => ?_)⟩
          · refine ⟨Nat.zero_le _, fun z nz => ?_⟩
            have sz := same_new (o := .tup []) nz
            have hz : (upd H5 z (.tup [])) z = some (.tup []) := upd_same
            have kz := k15.trans (kps (a := dk) (b := c) sz)
            have dz := d5.keep sz
            have hFz := sz _ _ hF5
            have saz := sa5.same sz
            generalize upd H5 z (.tup []) = Hz at sz hz kz dz hFz saz ⊢
            refine ⟨by show 1 ≤ sizeLine; decide, fun l nl => ?_⟩
            have sl := same_new (o := .lst [V.ref z]) nl
            have hl : (upd Hz l (.lst [V.ref z])) l = some (.lst [V.ref z]) := upd_same
            have lne := dz.nedk nl
            have kl := kz.trans (kps (a := dk) (b := c) sl)
            have dl := dz.keep sl
            have hFl := sl _ _ hFz
            have sal := saz.same sl
            have hzl := sl _ _ hz
            generalize upd Hz l (.lst [V.ref z]) = Hl at sl hl kl dl hFl sal hzl ⊢
            have stl := st.kp kl dek
            refine ⟨_, rfl, t, _, rfl, .inr (SqT.of stl.top), rows.length, congrArg (fun n : Nat => [V.int (n : Int)]) (by rw [List.length_map, st.len]), h1, h4, fun D as' H7 s7 nD hD sa' hl' => ?_⟩
            have hFD : F ≠ D := fun e => by rw [← e, hFl] at nD; cases nD
            refine ⟨l, D, _, _, rfl, rfl, s7 _ _ hl, hD, by rw [List.length_map]; show 1 + as'.length ≤ sizeLine; exact Nat.le_of_lt (len_lt (by omega)), fun p np => ?_⟩
            have sp := same_new (o := .lst ([V.ref z] ++ as'.map V.ref)) np
            have pne := (dl.keep s7).nedk np
            have s8 := s7.trans sp
            exact ⟨p, z :: as', [] :: setsOf rows.length, rfl, pne, upd_same, Nat.succ_le_succ (Nat.zero_le _), by show as'.length + 1 ≤ 20; omega, (sa'.same sp).cons0 (s8 _ _ hzl), s8 _ _ hFl, sal.same s8, kl.trans (kps s8), dl.keep s8⟩
          · exact ⟨a1, a0 :: as, ex, rfl, ⟨an1, an2⟩, k5 _ _ an1 an2 has1, Nat.succ_le_succ (Nat.zero_le _), by show as.length + 1 ≤ 20; have : as.length + 1 ≤ 15 := hal; omega, sas1.tk (TK.kp d1 k5), hF5, sa5, k15, d5⟩
      · obtain ⟨s2, as2, dss, rfl, sne, hs, hl1, hl20, sas3, hF3, sa3, k3, d3⟩ := h
        refine ⟨.ref F, rfl, .inl ⟨rfl, _, SqL.of hF3⟩, ?_⟩
        refine ⟨.ref s2, rfl, _, rfl, _, rfl, s2, _, rfl, .inl (SqL.of hs), dk, c, _, ((as2.map V.ref).length : Int), rfl, d3, by omega, by rw [List.length_map]; omega, by rw [List.length_map]; omega, fun r H5 r0 r1 k5 d5 => ?_⟩
        rw [List.length_map] at r1
        obtain ⟨j, rfl⟩ : ∃ j : Nat, r = (j : Int) := ⟨r.toNat, by omega⟩
        have hj : j < as2.length := by omega
        have gj := getD_of (d := 0) hj
        have gj2 : (as2.map V.ref)[j]? = some (.ref (as2.getD j 0)) := by
          rw [List.getElem?_map, gj]
          rfl
        have hs5 := k5 _ _ sne.1 sne.2 hs
        have hF5 := k5 _ _ fne.1 fne.2 hF3
        have tk5 := TK.kp d3 k5
        have sa5 := sa3.tk tk5
        have sas5 := sas3.tk tk5
        have hdl := sas5.len
        have gd := getD_of (d := []) (show j < dss.length by omega)
        have hv := sas5.at_ j _ _ gj gd
        have hbd := sas5.bd _ (List.mem_of_getElem? gd)
        generalize as2.getD j 0 = v1 at gj2 hv
        generalize dss.getD j [] = dd at hv hbd
        refine ⟨s2, _, (j : Int), .ref v1, rfl, rfl, SqL.of hs5, atI_nat gj2, ?_⟩
        refine ⟨F, fs.map V.ref, .ref v1, rfl, rfl, hF5, ?_, fs ++ [v1], Ds ++ [dd], _, rfl, ?_, ?_, ?_, ?_, ?_⟩
        · rw [List.length_map, hfl]
          exact len_lt (by omega)
        · rw [upd_same, List.map_append]
          rfl
        · rw [List.length_append, hDl]
          rfl
        · exact (sa5.snoc hv hbd).lst hF5
        · exact (k3.trans k5).updF nF
        · exact (d5.updD fne.1 fne.2).up (by omega)
    · obtain ⟨fs, Ds, y4, rfl, hF, hDl, sa, kp, d⟩ := h
      rw [List.length_map, kna.len] at hDl d
      refine ⟨_, rfl, F, _, rfl, .inl ⟨SqL.of hF, fun dd nd => ?_⟩⟩
      have sd := same_new (o := .tup (fs.map V.ref)) nd
      exact q dd fs Ds _ upd_same hDl (sa.same sd) (kp.trans (kps sd)) ((d.keep sd).up (by omega))
end
end DD
namespace DD
open PySem PySem.Spec PyProof.Rows L2 RZ DM
theorem wo_add {X : Addr → Prop} {H : Hp} {p : Addr} {o : HO} (n : H p = none) : Same (Wo X H) (Wo (fun a => X a ∨ a = p) (upd H p o)) := fun b u e => by
  obtain ⟨h, h1⟩ := wo_some e
  have hne : b ≠ p := fun z => by rw [z, n] at h; cases h
  exact wo_of (by rw [upd_ne hne]; exact h) (fun z => z.elim h1 hne)
theorem LX.add {X : Addr → Prop} {dk c : Addr} {H : Hp} {p : Addr} {xs : List V} (hX : LX X dk c H) (n : H p = none) : LX (fun a => X a ∨ a = p) dk c (upd H p (.lst xs)) := ⟨.inl hX.d, .inl hX.c, fun a x => by
  rcases x with x | rfl
  · obtain ⟨l, h⟩ := hX.all a x
    exact ⟨l, by rw [upd_ne (fun z => by rw [z, n] at h; cases h)]; exact h⟩
  · exact ⟨xs, upd_same⟩⟩
theorem wo_upd {X : Addr → Prop} {H : Hp} {p : Addr} {o : HO} (h : X p) : Same (Wo X H) (Wo X (upd H p o)) := fun b u e => by
  obtain ⟨h1, h2⟩ := wo_some e
  exact wo_of (by rw [upd_ne (fun z => h2 (by rw [z]; exact h))]; exact h1) h2
theorem LX.upd {X : Addr → Prop} {dk c : Addr} {H : Hp} {p : Addr} {xs : List V} (hX : LX X dk c H) : LX X dk c (upd H p (.lst xs)) := ⟨hX.d, hX.c, fun a x => by
  by_cases e : a = p
  · subst e
    exact ⟨xs, upd_same⟩
  · obtain ⟨l, h⟩ := hX.all a x
    exact ⟨l, by rw [upd_ne e]; exact h⟩⟩
/-- the deck alone -/
def X0 (dk c : Addr) : Addr → Prop := fun a => a = dk ∨ a = c
theorem lx0 {H : Hp} {dk c : Addr} {B : Nat} (d : Deck H dk c B) : LX (X0 dk c) dk c H := by
  obtain ⟨ns, t, h1, h2, _⟩ := d.ex
  refine ⟨.inl rfl, .inr rfl, fun a x => ?_⟩
  rcases x with rfl | rfl
  · exact ⟨_, h1⟩
  · exact ⟨_, h2⟩
/-- what a value of the law may be -/
def Vok (d : PyData) : Prop := Bd 20000 30 d ∧ Nx d
/-- the list of values -/
structure Vs (X : Addr → Prop) (H : Hp) (L : Addr) (xs : List V) (ds : List PyData) : Prop where
  top : H L = some (.lst xs)
  all : DqAll (Wo X H) xs ds
  ok : ∀ d ∈ ds, Vok d
theorem plain_row {r : List Int} {n : Nat} (hl : r.length ≤ n) (h : ∀ x ∈ r, -1000 ≤ x ∧ x ≤ 1000) : Pv (n * 13) 1 (rowD r) := by
  have all : ∀ {r : List Int}, (∀ x ∈ r, -1000 ≤ x ∧ x ≤ 1000) → plainDs (r.map PyData.int) = true ∧ PyData.weightAll (r.map PyData.int) ≤ r.length * 13 ∧ PyData.depthAll (r.map PyData.int) = 0 := fun {r} => by
    induction r with
    | nil => intro _; exact ⟨rfl, Nat.zero_le _, rfl⟩
    | cons x r ih =>
      intro h
      obtain ⟨i1, i2, i3⟩ := ih fun y hy => h y (List.mem_cons_of_mem _ hy)
      have hx := h x List.mem_cons_self
      have hw := (sint (i := x) (by omega) (by omega)).2.2
      refine ⟨?_, ?_, ?_⟩
      · show ((decide (-1000 ≤ x) && decide (x ≤ 1000)) && plainDs (r.map PyData.int)) = true
        rw [decide_eq_true hx.1, decide_eq_true hx.2, i1]
        rfl
      · show (PyData.int x).weight + 1 + PyData.weightAll (r.map PyData.int) ≤ (r.length + 1) * 13
        omega
      · show max 0 (PyData.depthAll (r.map PyData.int)) = 0
        rw [i3]
        rfl
  obtain ⟨h1, h2, h3⟩ := all h
  refine ⟨h1, ?_, ?_⟩
  · have := Nat.mul_le_mul_right 13 hl
    show PyData.weightAll (r.map PyData.int) ≤ n * 13
    omega
  · show PyData.depthAll (r.map PyData.int) + 1 ≤ 1
    rw [h3]
    exact Nat.le_refl _
theorem Pv.vok {w m : Nat} {d : PyData} (a : Pv w m d) (hw : w ≤ 20000) (hm : m ≤ 30) : Vok d := ⟨a.bd.up hw hm, (plain_ok d a.pl).2.2.2.nx⟩
theorem dq_lst {H : Hp} {v : V} {ds : List PyData} (h : Dq H v (.list ds)) : ∃ a xs, v = .ref a ∧ H a = some (.lst xs) ∧ DqAll H xs ds := by
  cases h with
  | lst a b => exact ⟨_, _, rfl, a, b⟩
theorem mem_cut {α : Type} {ds : List α} {a b : Nat} {y : α} (h : y ∈ (ds.drop a).take b) : y ∈ ds := List.mem_of_mem_drop (List.mem_of_mem_take h)
theorem len_cut {α : Type} (ds : List α) (a b : Nat) : ((ds.drop a).take b).length ≤ ds.length := by
  rw [List.length_take, List.length_drop]
  omega
theorem mem_rep {α : Type} {ds : List α} {n : Nat} {y : α} (h : y ∈ (List.replicate n ds).flatten) : y ∈ ds := by
  obtain ⟨l, hl, hy⟩ := List.mem_flatten.mp h
  rw [(List.mem_replicate.mp hl).2] at hy
  exact hy
theorem len_rep {α : Type} (n : Nat) (ds : List α) : (List.replicate n ds).flatten.length = n * ds.length := by
  simp
theorem dqs_rows {X : Addr → Prop} {H : Hp} : ∀ (ls : List Addr) (rows : List (List Int)), ls.length = rows.length →
    (∀ (j : Nat) (l : Addr) (r : List Int), ls[j]? = some l → rows[j]? = some r → Wo X H l = some (.tup (r.map V.int))) → DqAll (Wo X H) (ls.map V.ref) (rows.map rowD)
  | [], [], _, _ => .nil
  | [], _ :: _, h, _ => by simp at h
  | _ :: _, [], h, _ => by simp at h
  | l :: ls, r :: rows, h, hat => .cons (.tup (hat 0 l r rfl rfl) (dq_ints r)) (dqs_rows ls rows (by simpa using h) fun j l' r' e1 e2 => hat (j + 1) l' r' e1 e2)
theorem stock_dq {X : Addr → Prop} {dk c t : Addr} {H : Hp} {ls : List Addr} {rows : List (List Int)} (hX : LX X dk c H) (st : StockAt H t ls rows) : Dq (Wo X H) (.ref t) (stockD rows) := by
  have ne : ∀ b xs, H b = some (.tup xs) → Wo X H b = some (.tup xs) := fun b xs e => wo_of e (tup_ne hX (Same.refl _) e)
  exact .tup (ne _ _ st.top) (dqs_rows ls rows st.len fun j l r e1 e2 => ne _ _ (st.row j l r e1 e2))
theorem wo_less {X : Addr → Prop} {R : Addr} {H : Hp} : Same (Wo (fun a => X a ∨ a = R) H) (Wo X H) := fun b u e => by
  obtain ⟨h1, h2⟩ := wo_some e
  exact wo_of h1 fun z => h2 (.inl z)
theorem plain_rows {rows : List (List Int)} {n m : Nat} (h4 : rows.length ≤ n) (h : ∀ r ∈ rows, r.length ≤ m ∧ ∀ x ∈ r, -1000 ≤ x ∧ x ≤ 1000) : Pv (n * (m * 13 + 1)) 2 (stockD rows) := by
  have all : ∀ {rows : List (List Int)}, (∀ r ∈ rows, r.length ≤ m ∧ ∀ x ∈ r, -1000 ≤ x ∧ x ≤ 1000) → plainDs (rows.map rowD) = true ∧ PyData.weightAll (rows.map rowD) ≤ rows.length * (m * 13 + 1) ∧ PyData.depthAll (rows.map rowD) ≤ 1 := fun {rows} => by
    induction rows with
    | nil => intro _; exact ⟨rfl, Nat.zero_le _, Nat.zero_le _⟩
    | cons x r ih =>
      intro h
      obtain ⟨i1, i2, i3⟩ := ih fun y hy => h y (List.mem_cons_of_mem _ hy)
      have hx := h x List.mem_cons_self
      have p := plain_row hx.1 hx.2
      have hw := p.wt
      refine ⟨?_, ?_, Nat.max_le.mpr ⟨p.dp, i3⟩⟩
      · show (plainD (rowD x) && plainDs (r.map rowD)) = true
        rw [p.pl, i1]
        rfl
      · show (rowD x).weight + 1 + PyData.weightAll (r.map rowD) ≤ (r.length + 1) * (m * 13 + 1)
        rw [Nat.succ_mul]
        omega
  obtain ⟨h1, h2, h3⟩ := all h
  exact ⟨h1, Nat.le_trans h2 (Nat.mul_le_mul_right _ h4), Nat.succ_le_succ h3⟩
theorem Vs.kp {X : Addr → Prop} {dk c L : Addr} {H H' H1 : Hp} {xs : List V} {ds : List PyData} (v : Vs X H L xs ds) (hX : LX X dk c H1) (h1 : L ≠ dk) (h2 : L ≠ c) (k : Kp2 dk c H H') : Vs X H' L xs ds :=
  ⟨k _ _ h1 h2 v.top, DqAll.same (wo_kp hX k) _ _ v.all, v.ok⟩
theorem Vs.same {X : Addr → Prop} {L : Addr} {H H' : Hp} {xs : List V} {ds : List PyData} (v : Vs X H L xs ds) (k : Same H H') : Vs X H' L xs ds :=
  ⟨k _ _ v.top, DqAll.same (wo_same k) _ _ v.all, v.ok⟩
theorem Vs.cat {X : Addr → Prop} {L p : Addr} {H : Hp} {xs ys : List V} {ds es : List PyData} (v : Vs X H L xs ds) (q : DqAll (Wo X H) ys es) (ok : ∀ d ∈ es, Vok d) (n : H p = none) : Vs X (upd H p (.lst (xs ++ ys))) p (xs ++ ys) (ds ++ es) :=
  ⟨upd_same, DqAll.same (wo_same (same_new n)) _ _ (v.all.app q), fun d hd => (List.mem_append.mp hd).elim (v.ok d) (ok d)⟩
theorem dr_rows {rows : List (List Int)} {ps : List Int} {n : Nat} {D : List (List Int)} (rb : Rb rows n) (d : IsDr rows ps n D) : D.length = rows.length ∧ ∀ r ∈ D, r.length = n ∧ ∀ x ∈ r, 0 ≤ x ∧ x ≤ 50 := by
  refine ⟨d.len, fun r hr => ?_⟩
  obtain ⟨j, hj⟩ := List.mem_iff_getElem?.mp hr
  have hjl := (List.getElem?_eq_some_iff.mp hj).1
  have hl := d.len
  have e1 : D.getD j [] = r := by rw [List.getD_eq_getElem?_getD, hj]; rfl
  have hd := d.dr j (by omega)
  rw [e1] at hd
  have hdl := hd.len
  refine ⟨hdl, fun x hx => ?_⟩
  obtain ⟨k, hk⟩ := List.mem_iff_getElem?.mp hx
  have hkl := (List.getElem?_eq_some_iff.mp hk).1
  have e2 : r.getD k 0 = x := by rw [List.getD_eq_getElem?_getD, hk]; rfl
  have hb : 0 ≤ r.getD k 0 ∧ (k < n → r.getD k 0 ≤ (rows.getD j []).getD k 0) := hd.bd k
  have h50 := getD_bd (b := 50) (rb.rw _ (List.mem_of_getElem? (getD_of (d := []) (show j < rows.length by omega)))).2 (by decide) k
  have := hb.2 (by omega)
  omega
section
variable {te tb : TE} {ta : TA} {g : TG} {t u : TS} {σ : L2.St} {H : Hp} {D : Ends} {i : Nat} {v : V} {r : R2}
theorem at_seq (h : t { D with nx := u D } σ H) : tSeq t u D σ H := h
theorem at_asg (h : te σ H fun x H1 => g x σ H1 D.nx) : tAsg te g D σ H := h
theorem at_name {Q : L2.St → Hp → Prop} (h : Q (σ.set i (some v)) H) : gName i v σ H Q := h
theorem at_op {Q : VK} (h : te σ H fun x H1 => tb σ H1 fun y H2 => r x y H2 Q) : tOp r te tb σ H Q := h
theorem at_lst {Q : VK} (h : ta σ H fun xs H1 => xs.length ≤ sizeLine ∧ ∀ p, H1 p = none → Q (.ref p) (upd H1 p (.lst xs))) : tLst ta σ H Q := h
theorem at_tup {Q : VK} (h : ta σ H fun xs H1 => xs.length ≤ sizeLine ∧ ∀ p, H1 p = none → Q (.ref p) (upd H1 p (.tup xs))) : tTup ta σ H Q := h
theorem at_cons {Q : List V → Hp → Prop} (h : te σ H fun x H1 => ta σ H1 fun xs H2 => Q (x :: xs) H2) : tCons te ta σ H Q := h
end
theorem at_forL {K : PySem.W.Frag} {te : TE} {g : TG} {tb : TS} {σ : L2.St} {H : Hp} {D : Ends} (h : te σ H fun x H1 => ∃ a, x = .ref a ∧ (∃ xs, SqL K H1 a xs) ∧ ∃ W : Nat → Nat → L2.St → Hp → Prop, (∃ m, W 0 m σ H1) ∧ ∀ i m σ H, W i m σ H →
  ((Itl K a).stop i H ∧ D.nx σ H) ∨ ((Itl K a).go i H ∧ ∃ N : L2.St → Hp → Prop, (∀ σ' H', N σ' H' → ∃ m', m' < m ∧ W (i + 1) m' σ' H') ∧ ∀ x H', (Itl K a).yld i H x H' → g x σ H' fun σ2 H2 => tb { D with nx := N, ct := N, bk := D.nx } σ2 H2)) : tFor (iList K te) g tb D σ H := h
section
variable {X : Addr → Prop} {dk c : Addr} {σ : L2.St} {H0 : Hp} {K : PySem.W.Frag}
theorem lit_rev {te : TE} {ds : List PyData} (hX : LX X dk c H0) (a : Lit X σ H0 te (.tuple ds)) : Lit X σ H0 (tRevT K te) (.tuple ds.reverse) :=
  fun H Q s k => a H _ s fun v H1 s1 q1 => by
    cases q1 with
    | @tup p xs _ hp hs =>
      refine ⟨p, xs, rfl, SqT.of (wo_some hp).1, fun p2 np => ?_⟩
      have m1 := new_ne hX (s.trans s1) np
      exact k _ _ (s1.trans (same_new np)) (.tup (wo_of upd_same m1) (DqAll.same (wo_same (same_new np)) _ _ (dq_rev hs)))
end
/-- a value without dicts, not too great -/
structure Bn (w k : Nat) (d : PyData) : Prop where
  bd : Bd w k d
  nd : d.hasDict = false
theorem Bn.up {w k w' k' : Nat} {d : PyData} (b : Bn w k d) (hw : w ≤ w') (hk : k ≤ k') : Bn w' k' d := ⟨b.bd.up hw hk, b.nd⟩
theorem nodict_all {ds : List PyData} (h : ∀ d ∈ ds, d.hasDict = false) : PyData.hasDictAll ds = false := by
  cases e : PyData.hasDictAll ds with
  | false => rfl
  | true =>
    obtain ⟨x, hx, q⟩ := hasDictAll_mem e
    rw [h x hx] at q
    cases q
theorem Bn.tup {w k n : Nat} {ds : List PyData} (h : ∀ d ∈ ds, Bn w k d) (hn : ds.length ≤ n) : Bn (n * (w + 1)) (k + 1) (.tuple ds) := ⟨Bd.tup (fun d hd => (h d hd).bd) hn, nodict_all fun d hd => (h d hd).nd⟩
theorem Bn.lst {w k n : Nat} {ds : List PyData} (h : ∀ d ∈ ds, Bn w k d) (hn : ds.length ≤ n) : Bn (n * (w + 1)) (k + 1) (.list ds) := ⟨Bd.lst (fun d hd => (h d hd).bd) hn, nodict_all fun d hd => (h d hd).nd⟩
theorem Pv.bn {w m : Nat} {d : PyData} (a : Pv w m d) : Bn w m d := ⟨a.bd, (plain_ok d a.pl).2.2.2.1⟩
theorem Bn.vok {w k : Nat} {d : PyData} (a : Bn w k d) (hw : w ≤ 20000) (hk : k ≤ 30) : Vok d := ⟨a.bd.up hw hk, fun e => by rw [a.nd] at e; cases e⟩
theorem bn_bool (b : Bool) : Bn 0 0 (.bool b) := ⟨bd_bool b, rfl⟩
theorem bn_non : Bn 0 0 .none := ⟨bd_of (by decide +kernel), rfl⟩
theorem bn_str {x : Str} (h : okB 60 0 (.str x) = true) : Bn 60 0 (.str x) := ⟨bd_of h, rfl⟩
theorem bn_int {i : Int} (h0 : -1002 ≤ i) (h : i ≤ 1002) : Bn 12 0 (.int i) := ⟨bd_sint h0 h, rfl⟩
/-- numbers from 0 to 3 -/
theorem small_int {i : Int} (h0 : 0 ≤ i) (h : i < 4) : (PyData.int i).weight ≤ 2 := by
  have e : i = 0 ∨ i = 1 ∨ i = 2 ∨ i = 3 := by omega
  rcases e with rfl | rfl | rfl | rfl <;> decide +kernel
theorem plain_set {d : List Nat} (hl : d.length ≤ 4) (h : ∀ j ∈ d, j < 4) : Pv 12 1 (rowD (natsI d)) := by
  have all : ∀ {d : List Nat}, (∀ j ∈ d, j < 4) → plainDs ((natsI d).map PyData.int) = true ∧ PyData.weightAll ((natsI d).map PyData.int) ≤ d.length * 3 ∧ PyData.depthAll ((natsI d).map PyData.int) = 0 := fun {d} => by
    induction d with
    | nil => intro _; exact ⟨rfl, Nat.zero_le _, rfl⟩
    | cons x r ih =>
      intro h
      obtain ⟨i1, i2, i3⟩ := ih fun y hy => h y (List.mem_cons_of_mem _ hy)
      have hx := h x List.mem_cons_self
      have hw := small_int (i := (x : Int)) (by omega) (by omega)
      refine ⟨?_, ?_, ?_⟩
      · show ((decide (-1000 ≤ (x : Int)) && decide ((x : Int) ≤ 1000)) && plainDs ((natsI r).map PyData.int)) = true
        rw [decide_eq_true (show -1000 ≤ (x : Int) by omega), decide_eq_true (show (x : Int) ≤ 1000 by omega), i1]
        rfl
      · show (PyData.int (x : Int)).weight + 1 + PyData.weightAll ((natsI r).map PyData.int) ≤ (r.length + 1) * 3
        omega
      · show max 0 (PyData.depthAll ((natsI r).map PyData.int)) = 0
        rw [i3]
        rfl
  obtain ⟨h1, h2, h3⟩ := all h
  refine ⟨h1, ?_, ?_⟩
  · show PyData.weightAll ((natsI d).map PyData.int) ≤ 12
    omega
  · show PyData.depthAll ((natsI d).map PyData.int) + 1 ≤ 1
    rw [h3]
    exact Nat.le_refl _
theorem plain_items {ds : List PyData} {w m : Nat} (h : ∀ z ∈ ds, Pv w m z) : Pv (ds.length * (w + 1)) (m + 1) (.tuple ds) := by
  have all : ∀ {ds : List PyData}, (∀ z ∈ ds, Pv w m z) → plainDs ds = true ∧ PyData.weightAll ds ≤ ds.length * (w + 1) ∧ PyData.depthAll ds ≤ m := fun {ds} => by
    induction ds with
    | nil => intro _; exact ⟨rfl, Nat.zero_le _, Nat.zero_le _⟩
    | cons x r ih =>
      intro h
      obtain ⟨i1, i2, i3⟩ := ih fun y hy => h y (List.mem_cons_of_mem _ hy)
      have hx := h x List.mem_cons_self
      have hw := hx.wt
      refine ⟨?_, ?_, Nat.max_le.mpr ⟨hx.dp, i3⟩⟩
      · show (plainD x && plainDs r) = true
        rw [hx.pl, i1]
        rfl
      · show x.weight + 1 + PyData.weightAll r ≤ (r.length + 1) * (w + 1)
        rw [Nat.succ_mul]
        omega
  obtain ⟨h1, h2, h3⟩ := all h
  exact ⟨h1, h2, Nat.succ_le_succ h3⟩
theorem Pv.up {w k w' k' : Nat} {d : PyData} (b : Pv w k d) (hw : w ≤ w') (hk : k ≤ k') : Pv w' k' d := ⟨b.pl, Nat.le_trans b.wt hw, Nat.le_trans b.dp hk⟩
theorem plain_pair {x : Str} {d : PyData} {w m : Nat} (hx : x = "draw" ∨ x = "table") (h : Pv w m d) : Pv (w + 7) (m + 1) (.tuple [.str x, d]) := by
  have e1 : plainD (.str x) = true ∧ (PyData.str x).weight ≤ 5 ∧ (PyData.str x).depth = 0 := by
    rcases hx with rfl | rfl <;> exact ⟨by decide +kernel, by decide +kernel, rfl⟩
  have hw := h.wt
  refine ⟨?_, ?_, ?_⟩
  · show (plainD (.str x) && (plainD d && true)) = true
    rw [e1.1, h.pl]
    rfl
  · show (PyData.str x).weight + 1 + (d.weight + 1 + 0) ≤ w + 7
    have := e1.2.1
    omega
  · show max (PyData.str x).depth (max d.depth 0) + 1 ≤ m + 1
    rw [e1.2.2]
    have := h.dp
    omega
/-- what find_certificate gives, as data -/
structure TldAt (H : Hp) (r : Addr) (w : Str) (D : Addr) (as : List Addr) (Ds : List (List Int)) : Prop where
  top : H r = some (.tup [.str w, .ref D])
  wd : w = "draw" ∨ w = "table"
  st : StockAt H D as Ds
  pv : Pv 840 2 (stockD Ds)
theorem TldAt.tk {H H' : Hp} {r : Addr} {w : Str} {D : Addr} {as : List Addr} {Ds : List (List Int)} (a : TldAt H r w D as Ds) (k : TK H H') : TldAt H' r w D as Ds := ⟨k _ _ a.top, a.wd, a.st.tk k, a.pv⟩
theorem TldAt.dq {X : Addr → Prop} {dk c : Addr} {H : Hp} {r : Addr} {w : Str} {D : Addr} {as : List Addr} {Ds : List (List Int)} (a : TldAt H r w D as Ds) (hX : LX X dk c H) : Dq (Wo X H) (.ref r) (.tuple [.str w, stockD Ds]) :=
  .tup (wo_of a.top (tup_ne hX (Same.refl _) a.top)) (.cons (.str _) (.cons (stock_dq hX a.st) .nil))
theorem TldAt.pvt {H : Hp} {r : Addr} {w : Str} {D : Addr} {as : List Addr} {Ds : List (List Int)} (a : TldAt H r w D as Ds) : Pv 847 3 (.tuple [.str w, stockD Ds]) := plain_pair a.wd a.pv
theorem tab_pv {dss : List (List Nat)} (hl : dss.length ≤ 64) (h : ∀ d ∈ dss, d.length ≤ 4 ∧ ∀ j ∈ d, j < 4) : Pv 832 2 (stockD (dss.map natsI)) := by
  have a := plain_items (ds := (dss.map natsI).map rowD) (w := 12) (m := 1) fun z hz => by
    obtain ⟨r, hr, rfl⟩ := List.mem_map.mp hz
    obtain ⟨d, hd, rfl⟩ := List.mem_map.mp hr
    exact plain_set (h d hd).1 (h d hd).2
  rw [List.length_map, List.length_map] at a
  exact a.up (by omega) (Nat.le_refl _)
theorem SetsAt.stock {H : Hp} {r : Addr} {as : List Addr} {dss : List (List Nat)} {n : Nat} (a : SetsAt H as dss n) (h : H r = some (.tup (as.map V.ref))) : StockAt H r as (dss.map natsI) := by
  refine ⟨h, by rw [List.length_map, a.len], fun j l q e1 e2 => ?_⟩
  obtain ⟨d, hd, rfl⟩ := get_map e2
  have := a.at_ j l d e1 hd
  rw [this]
  unfold natsV natsI
  rw [List.map_map]
  rfl
/-- what stands throughout -/
structure VX (H : Hp) (t p r a g D : Addr) (ls as tas gl : List Addr) (rows Ds trs G : List (List Int)) (ps : List Int) (wd : Str) : Prop where
  st : StockAt H t ls rows
  hp : H p = some (.tup (ps.map V.int))
  tl : TldAt H r wd D as Ds
  tt : StockAt H a tas trs
  sd : StockAt H g gl G
theorem VX.tk {H H' : Hp} {t p r a g D : Addr} {ls as tas gl : List Addr} {rows Ds trs G : List (List Int)} {ps : List Int} {wd : Str} (v : VX H t p r a g D ls as tas gl rows Ds trs G ps wd) (k : TK H H') : VX H' t p r a g D ls as tas gl rows Ds trs G ps wd := ⟨v.st.tk k, k _ _ v.hp, v.tl.tk k, v.tt.tk k, v.sd.tk k⟩
abbrev NVa : List Str := ["_law_deck_here", "_law_stock_here", "_law_collections", "_law_plan_here", "_law_known_here", "_law_told", "_law_table", "_law_draw_here", "_law_spot", "_law_found", "_law_drawers", "_law_k"]
theorem scVa : FnScope NVa ["_law_deck_here", "_law_stock_here", "_law_collections", "_law_plan_here", "_law_known_here"] (defScope sVals) := ⟨rfl, rfl, rfl, by decide +kernel, rfl, by decide +kernel, by decide +kernel⟩
section
variable {P : Program} {w : World} {K : PySem.W.Frag} {mg : Str → Option Value} {base : Heap}
def spFd : Sp := fun vs H Q _ => ∃ (t b p : Addr) (ls wl : List Addr) (rows ws : List (List Int)) (ps : List Int) (n : Nat), vs = [.ref t, .ref b, .ref p] ∧ Pb H t b p ls wl rows ws ps n ∧ Rb rows n ∧ (∀ j, 0 ≤ plF ps j) ∧ ws.length ≤ 3 ∧
  ∀ H' r w D as Ds, Same H H' → TldAt H' r w D as Ds → Q (.ref r) H'
theorem fd_find {vs : List V} {H : Hp} {Q : VK} {E : XK} (h : spFd vs H Q E) : spFind vs H Q E := by
  obtain ⟨t, b, p, ls, wl, rows, ws, ps, n, rfl, pb, rb, hp0, hw3, q⟩ := h
  have wi := pb.wi
  have hw4 : ∀ r ∈ ws, r.length ≤ 4 := fun r hr => by rw [(wi.g r hr).len]; exact wi.n4
  have h64 : (spOf ws).length ≤ 64 := by
    have a := spOf_len hw4 3
    rw [List.take_of_length_le hw3] at a
    exact a
  refine ⟨t, b, p, ls, wl, rows, ws, ps, n, rfl, pb, fun H' r D ds i sp s f h1 h2 => ?_, fun H' r D as dss s h1 h2 h3 => ?_⟩
  · have di := (free_draw (fun r hr x hx => ((rb.rw r hr).2 x hx).1) hp0 (fun r hr => (wi.g r hr).len) f).1
    obtain ⟨e1, e2⟩ := dr_rows rb di
    refine q H' r _ D ds _ s ⟨h1, .inl rfl, h2, (plain_rows (n := 4) (m := 4) (by have := rb.r4; omega) fun r hr => ⟨by have := (e2 r hr).1; have := rb.n4; omega, fun x hx => by have := (e2 r hr).2 x hx; omega⟩).up (by decide) (by decide)⟩
  · have hb : ∀ d ∈ dss, d.length ≤ 4 ∧ ∀ j ∈ d, j < 4 := fun d hd => by
      obtain ⟨j, hj⟩ := List.mem_iff_getElem?.mp hd
      have hjl := (List.getElem?_eq_some_iff.mp hj).1
      have l1 := h3.l1
      have l2 := h3.l2
      have h5 := (h3.at_ j _ d _ (getD_of (d := 0) (by omega)) hj (getD_of (d := []) (by omega))).2.1
      have h6 := ps_bd h5
      have h4 := rb.r4
      exact ⟨by omega, fun x hx => by have := h6.2.2 x hx; omega⟩
    have sa : SetsAt H' as dss 4 := ⟨by rw [h3.l1, h3.l2], fun j a d e1 e2 => (h3.at_ j a d _ e1 e2 (getD_of (d := []) (by
      have := (List.getElem?_eq_some_iff.mp e1).1
      have := h3.l1
      omega))).1, hb⟩
    exact q H' r _ D as _ s ⟨h1, .inr rfl, sa.stock h2, (tab_pv (by rw [h3.l2]; exact h64) hb).up (by decide) (by decide)⟩
def spVa : Sp := fun vs H Q _ => ∃ (dk c t b p kn : Addr) (B : Nat) (ls wl : List Addr) (rows ws : List (List Int)) (ps : List Int) (n : Nat) (ks : List Addr), vs = [.ref dk, .ref t, .ref b, .ref p, .ref kn] ∧ Deck H dk c B ∧ B + 9000 ≤ 1000000 ∧ Pb H t b p ls wl rows ws ps n ∧ Rb rows n ∧ (∀ j, j < rows.length → 0 ≤ ps.getD j 0 ∧ ps.getD j 0 ≤ sizeAt rows j) ∧ ws.length ≤ 3 ∧
  H kn = some (.lst (ks.map V.ref)) ∧ (kn ≠ dk ∧ kn ≠ c) ∧ KnAt H rows ws ps n ks (spOf ws).length ∧ (∀ x ∈ ks, x ≠ dk ∧ x ≠ c) ∧
  ∀ L xs ds H', Kp2 dk c H H' → Deck H' dk c (B + 9000) → H' L = some (.lst xs) → DqAll H' xs ds → xs.length ≤ 100 → (∀ d ∈ ds, Vok d) → Q (.ref L) H'
set_option maxHeartbeats 3200000 in
theorem ok_vals {f fN fU fTu fA fAu fO fFu fCo fSp fCa fIr fTk fI fR fFc fLo fSo fOv fDw fSv fCh fUd fEt fAo fAd fDk fD fS fTt fW fPl fLu fLs fLc fM fE fX fNu fId fKn fHo fAy fOo fRp fAt fVa : Addr} {fd dN dU dTu dA dAu dO dFu dCo dSp dCa dIr dTk dI dR dFc dLo dSo dOv dDw dSv dCh dUd dEt dAo dAd dDk dD dS dTt dW dPl dLu dLs dLc dM dE dX dNu dId dKn dHo dAy dOo dRp dAt dVa : FuncData} {k : Nat} (F : Fun K "_law_values" "_law_values" sVals f fd) (T : Tx K mg fN fU fTu fA fAu fO fFu fCo fSp fCa fIr fTk fI fR fFc fLo fSo fOv fDw fSv fCh fUd fEt fAo fAd fDk fD fS fTt fW fPl fLu fLs fLc fM fE fX fNu fId fKn fHo fAy fOo fRp fAt fVa dN dU dTu dA dAu dO dFu dCo dSp dCa dIr dTk dI dR dFc dLo dSo dOv dDw dSv dCh dUd dEt dAo dAd dDk dD dS dTt dW dPl dLu dLs dLc dM dE dX dNu dId dKn dHo dAy dOo dRp dAt dVa) :
    FnOk P w K mg base CX0 (k + 8) f fd ["_law_deck_here", "_law_stock_here", "_law_collections", "_law_plan_here", "_law_known_here"] spVa := by
  have GD : FnOk P w K mg base CX0 (k + 1) fD dD ["_law_deck_here", "_law_bound"] spDraw := ok_draw T.D T.m_len T.m_max
  have GFc : FnOk P w K mg base CX0 (k + 4) fFc dFc ["stock", "collections", "plan"] spFd := (ok_find T.Fc T).imp fun _ _ _ _ => fd_find
  have GAt : FnOk P w K mg base CX0 (k + 2) fAt dAt ["_law_deck_here", "_law_stock_here", "_law_known_here"] spAt := ok_anytab T.At T
  have GAy : FnOk P w K mg base CX0 (k + 2) fAy dAy ["_law_deck_here", "_law_stock_here", "_law_plan_here"] spAny := ok_any T.Ay T
  have GOo : FnOk P w K mg base CX0 (k + 2) fOo dOo ["_law_deck_here"] spOdd := ok_odd T.Oo T
  have GR4 : FnOk P w K mg base CX0 (k + 7) fRp dRp ["_law_deck_here", "_law_value", "_law_depth"] (spRp 4) := ok_repl T 4
  have GR3 : FnOk P w K mg base CX0 (k + 6) fRp dRp ["_law_deck_here", "_law_value", "_law_depth"] (spRp 3) := ok_repl T 3
  refine F.ok scVa (fun vs H Q E h => ?_) (fun cdv A outer s H vs Q E hr h => ?_)
  · obtain ⟨dk, c, t, b, p, kn, B, ls, wl, rows, ws, ps, n, ks, rfl, _⟩ := h
    rfl
  · obtain ⟨dk, c, t, b, p, kn, B, ls, wl, rows, ws, ps, n, ks, rfl, dek, hB, pb, rb, hbd, hw3, hkn, hkne, kna, hks, q⟩ := h
    refine ⟨_, (pss_cons (ps_asg (pe_tup (pa_cons (pe_call GFc (hr.mono (by omega)) (by rfl) T.gFc T.Fc.kp T.bFc .nil pass0 (pa_cons (pv 1) (pa_cons (pv 2) (pa_cons (pv 3) pa_nil)))) (pa_cons (pe_call GAt (hr.mono (by omega)) (by rfl) T.gAt T.At.kp T.bAt .nil pass0 (pa_cons (pv 0) (pa_cons (pv 1) (pa_cons (pv 4) pa_nil)))) pa_nil))) (pg_tup rfl (pgs_cons (pg_name (i := 5) scVa.nd rfl (Or.inr rfl)) (pgs_cons (pg_name (i := 6) scVa.nd rfl (Or.inl rfl)) pgs_nil))))
      (pss_cons (ps_par (i := 7) (j := 8) (by rfl) scVa.nd rfl rfl (by decide) rfl rfl (pa_cons (pe_call GAy (hr.mono (by omega)) (by rfl) T.gAy T.Ay.kp T.bAy .nil pass0 (pa_cons (pv 0) (pa_cons (pv 1) (pa_cons (pv 3) pa_nil)))) (pa_cons (pe_call GD (hr.mono (by omega)) (by rfl) T.gD T.D.kp T.bD .nil pass0 (pa_cons (pv 0) (pa_cons (pe_callB call_len_seq (by rfl) T.m_len PySem.boot_len (pa_cons (pv 6) pa_nil)) pa_nil))) pa_nil)) (by rfl))
      (pss_cons (ps_set (i := 9) scVa.nd rfl (.inl rfl) (pe_lst (pa_cons (pv 5) (pa_cons (pe_callTy (T := "list") (show CallR _ _ (rLstQ K) from call_list_of) (by rfl) T.m_list (by decide +kernel) (pa_cons (pv 5) pa_nil)) (pa_cons (pe_revT (pv 5)) (pa_cons (pe_op op_catQ (pv 5) (pe_tup (pa_cons pe_int pa_nil))) (pa_cons (pe_slice sl_tupQ (pv 5) (po_some pe_int) po_none) (pa_cons (pe_tup (pa_cons pe_str (pa_cons (pv 6) pa_nil))) (pa_cons (pe_tup (pa_cons pe_str (pa_cons (pv 7) pa_nil))) (pa_cons (pe_tup (pa_cons pe_str (pa_cons (pv 7) pa_nil))) pa_nil))))))))))
      (pss_cons (ps_set (i := 9) scVa.nd rfl (.inl rfl) (pe_op op_cat (pv 9) (pe_lc (own := [("_law_k", 11)]) (g := gName 11) rfl scVa.nd (pi_range1 (by rfl) T.m_range (pa_cons pe_int pa_nil)) (blkOk_by (own := [("_law_k", 11)]) (N := NVa) (sc := defScope sVals) (by decide +kernel)) (fun _ _ _ _ _ => (pg_name (i := 11) scVa.nd rfl (Or.inl rfl))) (fun _ _ _ _ _ => pts_nil) (fun _ _ _ _ _ => (pe_tup (pa_cons pe_str (pa_cons (pe_call GAy (hr.mono (by omega)) (by rfl) T.gAy T.Ay.kp T.bAy .nil pass0 (pa_cons (pv 0) (pa_cons (pv 1) (pa_cons (pv 3) pa_nil)))) pa_nil)))))))
      (pss_cons (ps_set (i := 9) scVa.nd rfl (.inl rfl) (pe_op op_cat (pv 9) (pe_lst (pa_cons (pe_tup (pa_cons pe_str (pa_cons (pv 6) pa_nil))) (pa_cons (pe_tup (pa_cons pe_str (pa_cons (pe_slice sl_tupQ (pv 6) (po_some pe_int) po_none) pa_nil))) (pa_cons (pe_tup (pa_cons pe_str (pa_cons (pe_op op_catQ (pv 6) (pe_slice sl_tupQ (pv 6) po_none (po_some pe_int))) pa_nil))) (pa_cons (pe_tup (pa_cons pe_str (pa_cons (pe_callTy (T := "list") (show CallR _ _ (rLstQ K) from call_list_of) (by rfl) T.m_list (by decide +kernel) (pa_cons (pv 6) pa_nil)) pa_nil))) pa_nil)))))))
      (pss_cons (ps_for PassesOwn.never rfl (pi_list (pe_lst (pa_cons (pe_tup pa_nil) (pa_cons (pe_tup (pa_cons pe_int pa_nil)) (pa_cons (pe_tup (pa_cons pe_int (pa_cons pe_int pa_nil))) (pa_cons (pe_revT (pe_ix (show IxR _ (rIxT K) from ix_tup) (pv 6) (pv 8) (fun _ _ => rfl))) (pa_cons (pe_callTy (T := "list") (show CallR _ _ (rLstQ K) from call_list_of) (by rfl) T.m_list (by decide +kernel) (pa_cons (pe_ix (show IxR _ (rIxT K) from ix_tup) (pv 6) (pv 8) (fun _ _ => rfl)) pa_nil)) (pa_cons (pe_tup (pa_cons (pe_callB (show CallR _ _ (rLenQ K) from call_len_seq) (by rfl) T.m_len PySem.boot_len (pa_cons (pv 1) pa_nil)) pa_nil)) (pa_cons (pe_tup (pa_cons (pe_un un_neg pe_int) pa_nil)) (pa_cons (pe_tup (pa_cons pe_bl pa_nil)) (pa_cons pe_non pa_nil))))))))))) (pg_name (i := 10) scVa.nd rfl (Or.inl rfl)) (pss_one (ps_expr (pe_bm PySem.F.plainAttrs_list PySem.F.slot_list_append PySem.F.type_list_append mt_append (pv 9) (pa_cons (pe_tup (pa_cons pe_str (pa_cons (pe_op op_catQ (pe_op op_catQ (pe_slice sl_tupQ (pv 6) po_none (po_some (pv 8))) (pe_tup (pa_cons (pv 10) pa_nil))) (pe_slice sl_tupQ (pv 6) (po_some (pe_op op_add (pv 8) pe_int)) po_none)) pa_nil))) pa_nil)))))
      (pss_cons (ps_set (i := 9) scVa.nd rfl (.inl rfl) (pe_op op_cat (pv 9) (pe_lst (pa_cons (pe_tup (pa_cons pe_str (pa_cons (pv 6) pa_nil))) (pa_cons (pe_tup (pa_cons pe_str (pa_cons (pe_tup pa_nil) pa_nil))) (pa_cons (pe_tup (pa_cons pe_str pa_nil)) (pa_cons (pe_tup pa_nil) (pa_cons pe_non (pa_cons (pe_call GOo (hr.mono (by omega)) (by rfl) T.gOo T.Oo.kp T.bOo .nil pass0 (pa_cons (pv 0) pa_nil)) (pa_cons (pe_tup (pa_cons pe_bl (pa_cons (pv 7) pa_nil))) pa_nil))))))))))
      (pss_one (ps_ret (pe_op op_cat (pe_op op_cat (pv 9) (pe_lc (own := [("_law_k", 11)]) (g := gName 11) rfl scVa.nd (pi_range1 (by rfl) T.m_range (pa_cons pe_int pa_nil)) (blkOk_by (own := [("_law_k", 11)]) (N := NVa) (sc := defScope sVals) (by decide +kernel)) (fun _ _ _ _ _ => (pg_name (i := 11) scVa.nd rfl (Or.inl rfl))) (fun _ _ _ _ _ => pts_nil) (fun _ _ _ _ _ => (pe_call GR4 (hr.mono (by omega)) (by rfl) T.gRp T.Rp.kp T.bRp .nil pass0 (pa_cons (pv 0) (pa_cons (pv 5) (pa_cons pe_int pa_nil))))))) (pe_lst (pa_cons (pe_call GR3 (hr.mono (by omega)) (by rfl) T.gRp T.Rp.kp T.bRp .nil pass0 (pa_cons (pv 0) (pa_cons (pe_tup (pa_cons pe_str (pa_cons (pv 6) pa_nil))) (pa_cons pe_int pa_nil)))) pa_nil)))))))))))), ?_⟩
    obtain ⟨st, _, _, hrn, wi, hp, hpl⟩ := id pb
    have hr1 := rb.r1
    have hr4 := rb.r4
    have hn4 := rb.n4
    have pnn : ∀ j, 0 ≤ plF ps j := fun j => by
      unfold plF
      by_cases hj : j < rows.length
      · exact (hbd j hj).1
      · rw [List.getD_eq_getElem?_getD, List.getElem?_eq_none (by omega)]
        exact Int.le_refl _
    have hw4 : ∀ r ∈ ws, r.length ≤ 4 := fun r hr => by rw [(wi.g r hr).len]; exact wi.n4
    have h64 : (spOf ws).length ≤ 64 := by
      have a := spOf_len hw4 3
      rw [List.take_of_length_le hw3] at a
      exact a
    have hsp1 : 1 ≤ (spOf ws).length := by
      have := sp_ne wi.g
      cases e : spOf ws with
      | nil => exact absurd e this
      | cons _ _ => exact Nat.succ_le_succ (Nat.zero_le _)
    refine ⟨_, rfl, _, rfl, _, rfl, t, b, p, ls, wl, rows, ws, ps, n, rfl, pb, rb, pnn, hw3, fun H1 r wd D as Ds s1 tl => ?_⟩
    have st1 := st.same s1
    have d1 := dek.keep s1
    have kn1 : KnAt H1 rows ws ps n ks (spOf ws).length := kna.kp hks dek (kps s1)
    refine ⟨_, rfl, _, rfl, _, rfl, dk, c, t, kn, B, ls, rows, ws, ps, n, ks, rfl, d1, by omega, st1, hr1, hr4, s1 _ _ hkn, hkne, kn1, hks, by omega, fun a tas dss H2 ha hdl sa k2 d2 => ?_⟩
    have tl2 := tl.tk (TK.kp d1 k2)
    have tt2 := sa.stock ha
    have k02 := (kps (a := dk) (b := c) s1).trans k2
    have tk02 := TK.kp dek k02
    have htal : tas.length = (spOf ws).length := by rw [sa.len, hdl]
    have hsb : ∀ d ∈ dss, d.length ≤ 4 ∧ ∀ j ∈ d, j < 4 := fun d hd => ⟨(sa.bd d hd).1, fun j hj => by have := (sa.bd d hd).2 j hj; omega⟩
    refine ⟨by show 2 ≤ sizeLine; decide, fun T3 nT3 => ?_⟩
    have s3 := same_new (o := .tup [.ref r, .ref a]) nT3
    refine ⟨T3, [.ref r, .ref a], rfl, .inl (.inl upd_same), rfl, .ref r, [.ref a], rfl, .ref a, [], rfl, rfl, ?_⟩
    generalize upd H2 T3 (.tup [V.ref r, .ref a]) = H3 at s3 ⊢
    have k03 := k02.trans (kps s3)
    have d3 := d2.keep s3
    have tk03 := TK.kp dek k03
    refine ⟨_, rfl, _, rfl, _, rfl, dk, c, t, p, _, ls, rows, ps, n, rfl, d3, by omega, st.tk tk03, rb, tk03 _ _ hp, hpl, hbd, fun g gl G H4 sd di k4 d4 => ?_⟩
    have k24 := (kps (a := dk) (b := c) s3).trans k4
    have tk24 := TK.kp d2 k24
    have tt4 := tt2.tk tk24
    refine ⟨_, rfl, _, rfl, a, _, rfl, .inr (SqT.of tt4.top), dk, c, _, ((tas.map V.ref).length : Int), rfl, d4, by omega, by rw [List.length_map]; omega, by rw [List.length_map]; omega, fun spt H5 p0 p1 k5 d5 => ?_⟩
    rw [List.length_map, htal] at p1
    obtain ⟨sj, rfl⟩ : ∃ j : Nat, spt = (j : Int) := ⟨spt.toNat, by omega⟩
    have hsj : sj < (spOf ws).length := by omega
    refine ⟨_, _, rfl, ?_⟩
    have k05 := k02.trans (k24.trans k5)
    have hR := dr_rows rb di
    have pvd : Pv 212 2 (stockD G) := (plain_rows (n := 4) (m := 4) (by rw [hR.1]; exact hr4) fun r hr => ⟨by have := (hR.2 r hr).1; omega, fun x hx => by have := (hR.2 r hr).2 x hx; omega⟩)
    have vx5 : VX H5 t p r a g D ls as tas gl rows Ds (dss.map natsI) G ps wd := ⟨st.tk (TK.kp dek k05), (TK.kp dek k05) _ _ hp, tl2.tk (TK.kp d2 (k24.trans k5)), tt4.tk (TK.kp d4 k5), sd.tk (TK.kp d4 k5)⟩
    have hX5 := lx0 d5
    have d5 : Deck H5 dk c (B + 1700) := d5.up (by omega)
    have pvt := tl.pvt
    have pvT : Pv 832 2 (stockD (dss.map natsI)) := tab_pv (by omega) hsb
    have tbl : ((dss.map natsI).map rowD).length = (spOf ws).length := by rw [List.length_map, List.length_map, hdl]
    have pvi : ∀ z ∈ (dss.map natsI).map rowD, Pv 12 1 z := fun z hz => by
      obtain ⟨r, hr, rfl⟩ := List.mem_map.mp hz
      obtain ⟨d, hd, rfl⟩ := List.mem_map.mp hr
      exact plain_set (hsb d hd).1 (hsb d hd).2
    clear k24 k4 k5 k03 s3 tk02 tk03 tt2 tl2 tk24 tt4 nT3 d3 d4 d1 kn1 st1 sd ha sa k2 d2 s1 tl k02
    generalize etb : (dss.map natsI).map rowD = tb at pvi tbl
    generalize dss.map natsI = trs at vx5 pvT etb
    have e0 : stockD trs = .tuple tb := by rw [← etb]; rfl
    have hw7 : okB 60 0 (.str "table") = true := by decide +kernel
    have hw8 : okB 60 0 (.str "draw") = true := by decide +kernel
    have bnT : ∀ {es : List PyData}, (∀ z ∈ es, z ∈ tb) → es.length ≤ 130 → Bn 1690 2 (.tuple es) ∧ Bn 1690 2 (.list es) := fun h hl =>
      ⟨(Bn.tup (fun z hz => (pvi z (h z hz)).bn) hl).up (by decide) (by decide), (Bn.lst (fun z hz => (pvi z (h z hz)).bn) hl).up (by decide) (by decide)⟩
    have pairV : ∀ {x : Str} {d : PyData}, okB 60 0 (.str x) = true → Bn 9200 6 d → Vok (.tuple [.str x, d]) := fun hx hd => by
      refine (Bn.tup (n := 2) (w := 9200) (k := 6) (fun z hz => ?_) (by show 2 ≤ 2; decide)).vok (by decide) (by decide)
      simp only [List.mem_cons, List.not_mem_nil, or_false] at hz
      rcases hz with rfl | rfl
      · exact (bn_str hx).up (by decide) (by decide)
      · exact hd
    have bnTab : Bn 9200 6 (stockD trs) := pvT.bn.up (by decide) (by decide)
    have bnDr : Bn 9200 6 (stockD G) := pvd.bn.up (by decide) (by decide)
    -- the first values
    dsimp only
    refine at_seq (at_asg ?_)
    have q5 := vx5.tl.dq hX5
    have qt5 := stock_dq hX5 vx5.tt
    have qd5 := stock_dq hX5 vx5.sd
    refine (lit_lst hX5 (litA_cons (lit_var rfl q5) (litA_cons (lit_list hX5 (lit_var rfl q5)) (litA_cons (lit_rev hX5 (lit_var rfl q5)) (litA_cons (lit_cat hX5 (lit_var rfl q5) (lit_tup hX5 (litA_cons (lit_c fun _ => .int 0) litA_nil) (by decide)) (by show 3 ≤ 1000; decide)) (litA_cons (lit_sl hX5 (lit_var rfl q5) lito_c lito_none)
      (litA_cons (lit_tup hX5 (litA_cons (lit_c fun _ => .str "draw") (litA_cons (lit_var rfl qt5) litA_nil)) (by show 2 ≤ 1000; decide)) (litA_cons (lit_tup hX5 (litA_cons (lit_c fun _ => .str "table") (litA_cons (lit_var rfl qd5) litA_nil)) (by show 2 ≤ 1000; decide)) (litA_cons (lit_tup hX5 (litA_cons (lit_c fun _ => .str "draw") (litA_cons (lit_var rfl qd5) litA_nil)) (by show 2 ≤ 1000; decide)) litA_nil)))))))) (by show 8 ≤ 1000; decide) : Lit (X0 dk c) _ H5 _ _) H5 _ (Same.refl _) fun v H6 s6 q6 => ?_
    refine at_name ?_
    obtain ⟨L1, x1, rfl, hL1, hq1⟩ := dq_lst q6
    have hx1 : x1.length = 8 := hq1.len
    have bt : ∀ z ∈ [PyData.str wd, stockD Ds], Bn 9000 5 z := fun z hz => by
      simp only [List.mem_cons, List.not_mem_nil, or_false] at hz
      rcases hz with rfl | rfl
      · exact (pvt.item (List.mem_cons_self)).bn.up (by decide) (by decide)
      · exact (pvt.item (List.mem_cons_of_mem _ List.mem_cons_self)).bn.up (by decide) (by decide)
    have vs1 : Vs (X0 dk c) H6 L1 x1 _ := ⟨(wo_some hL1).1, hq1, fun d hd => by
      simp only [List.mem_cons, List.not_mem_nil, or_false] at hd
      rcases hd with rfl | rfl | rfl | rfl | rfl | rfl | rfl | rfl
      · exact pvt.vok (by decide) (by decide)
      · exact (Bn.lst (n := 2) bt (by show 2 ≤ 2; decide)).vok (by decide) (by decide)
      · exact (Bn.tup (n := 2) (fun z hz => bt z (List.mem_reverse.mp hz)) (by show 2 ≤ 2; decide)).vok (by decide) (by decide)
      · refine (Bn.tup (n := 3) (w := 6000) (k := 5) (fun z hz => ?_) (by show 3 ≤ 3; decide)).vok (by decide) (by decide)
        rcases List.mem_append.mp hz with h | h
        · simp only [List.mem_cons, List.not_mem_nil, or_false] at h
          rcases h with rfl | rfl
          · exact (pvt.item (List.mem_cons_self)).bn.up (by decide) (by decide)
          · exact (pvt.item (List.mem_cons_of_mem _ List.mem_cons_self)).bn.up (by decide) (by decide)
        · rw [List.mem_singleton.mp h]
          exact (bn_int (by decide) (by decide)).up (by decide) (by decide)
      · exact (Bn.tup (n := 2) (fun z hz => bt z (mem_cut hz)) (Nat.le_trans (len_cut _ _ _) (by show 2 ≤ 2; decide))).vok (by decide) (by decide)
      · exact pairV hw8 bnTab
      · exact pairV hw7 bnDr
      · exact pairV hw8 bnDr⟩
    have hL1x := (wo_some hL1).2
    clear q6 hL1 hq1 q5 qt5 qd5
    generalize ([_, _, _, _, _, _, _, _] : List PyData) = ds1 at vs1
    have vx6 := vx5.tk (TK.same s6)
    have k06 := k05.trans (kps s6)
    have d6 := d5.keep s6
    have hX6 := hX5.same s6
    have l1ne := hX6.no hL1x
    -- three more draws
    dsimp only
    refine at_seq (at_asg ?_)
    have hB6 : B + 1700 + 3000 ≤ 1000000 := by omega
    refine ⟨_, rfl, 3, rfl, by decide, by decide, fun C nC => ?_⟩
    have cne := d6.nedk nC
    have hLC : L1 ≠ C := fun e => by have := vs1.top; rw [e, nC] at this; cases this
    have nHC := kp_free k06 d6 nC
    refine lc_range (lo := 0) (n := 3) (fun m H' => ∃ (cs : List V) (cd : List PyData), H' C = some (.lst cs) ∧ cs.length = m ∧ DqAll (Wo (fun a => X0 dk c a ∨ a = C) H') cs cd ∧ (∀ d ∈ cd, Vok d) ∧ Vs (fun a => X0 dk c a ∨ a = C) H' L1 x1 ds1 ∧ VX H' t p r a g D ls as tas gl rows Ds trs G ps wd ∧ Kp2 dk c H H' ∧ Deck H' dk c (B + 1700 + 1000 * m) ∧ LX (fun a => X0 dk c a ∨ a = C) dk c H')
      ⟨[], [], upd_same, rfl, .nil, fun d hd => (by cases hd), ⟨by rw [upd_ne hLC]; exact vs1.top, DqAll.same (wo_add nC) _ _ vs1.all, vs1.ok⟩, vx6.tk (TK.same (same_new nC)), k06.updF nHC, (d6.kp nC).up (by omega), hX6.add nC⟩ (fun m H' hm h => ?_) (fun Hh h => ?_)
    · obtain ⟨cs, cd, hC, hcl, hcq, hcok, vs2, vx2, kp2, d2', hX2⟩ := h
      refine ⟨rfl, _, rfl, _, rfl, _, rfl, dk, c, t, p, _, ls, rows, ps, n, rfl, d2', by omega, vx2.st, rb, vx2.hp, hpl, hbd, fun g2 gl2 G2 H7 sd2 di2 k7 d7 => ?_⟩
      have hR2 := dr_rows rb di2
      have pvd2 : Pv 212 2 (stockD G2) := (plain_rows (n := 4) (m := 4) (by rw [hR2.1]; exact hr4) fun r hr => ⟨by have := (hR2.2 r hr).1; omega, fun x hx => by have := (hR2.2 r hr).2 x hx; omega⟩)
      have hC7 := k7 _ _ cne.1 cne.2 hC
      have hX7 := hX2.kp k7 d7
      have upk := wo_kp hX2 k7
      refine ⟨by show 2 ≤ sizeLine; decide, fun T nT => ?_⟩
      have sT := same_new (o := .tup [.str "draw", .ref g2]) nT
      have hT : (upd H7 T (.tup [V.str "draw", .ref g2])) T = some (.tup [.str "draw", .ref g2]) := upd_same
      generalize upd H7 T (.tup [V.str "draw", .ref g2]) = H8 at sT hT ⊢
      have hX8 := hX7.same sT
      have dqT : Dq (Wo (fun a => X0 dk c a ∨ a = C) H8) (.ref T) (.tuple [.str "draw", stockD G2]) := .tup (wo_of hT (tup_ne hX8 (Same.refl _) hT)) (.cons (.str _) (.cons (stock_dq hX8 (sd2.same sT)) .nil))
      have hC8 := sT _ _ hC7
      have up8 := upk.trans (wo_same sT)
      have tkv := ((TK.kp d2' k7).trans (TK.same sT)).trans (TK.lst (o := .lst (cs ++ [.ref T])) hC8)
      refine ⟨cs, hC8, by rw [hcl]; exact len_lt (by omega), cs ++ [.ref T], cd ++ [.tuple [.str "draw", stockD G2]], upd_same, by rw [List.length_append, hcl]; rfl, DqAll.same (wo_upd (.inr rfl)) _ _ ((DqAll.same up8 _ _ hcq).app (.cons dqT .nil)), fun d hd => ?_, ⟨?_, DqAll.same (up8.trans (wo_upd (.inr rfl))) _ _ vs2.all, vs2.ok⟩, vx2.tk tkv, ((kp2.trans k7).trans (kps sT)).updF nHC, ((d7.keep sT).updD cne.1 cne.2).up (by omega), hX8.upd⟩
      · rcases List.mem_append.mp hd with h | h
        · exact hcok d h
        · rw [List.mem_singleton.mp h]
          exact pairV hw8 (pvd2.bn.up (by decide) (by decide))
      · rw [upd_ne hLC]
        exact sT _ _ (k7 _ _ l1ne.1 l1ne.2 vs2.top)
    obtain ⟨cs, cd, hC, hcl, hcq, hcok, vs3, vx3, kp3, d3, hX3⟩ := h
    refine ⟨L1, C, x1, cs, rfl, rfl, vs3.top, hC, by rw [hx1, hcl]; show 11 ≤ sizeLine; decide, fun M nM => ?_⟩
    refine at_name ?_
    have vs4 := vs3.cat hcq hcok nM
    have sM := same_new (o := .lst (x1 ++ cs)) nM
    have mne := d3.nedk nM
    have d4 := d3.kp (o := .lst (x1 ++ cs)) nM
    have vx4 := vx3.tk (TK.same sM)
    have kp4 := kp3.trans (kps sM)
    have hl11 : (x1 ++ cs).length = 11 := by rw [List.length_append, hx1, hcl]
    have vs5 : Vs (X0 dk c) (upd Hh M (.lst (x1 ++ cs))) M (x1 ++ cs) (ds1 ++ cd) := ⟨vs4.top, DqAll.same wo_less _ _ vs4.all, vs4.ok⟩
    have hX4 := lx0 d4
    clear vs4 vs3 hcq hcok hC hX3 vs1 vx6 vx5 hLC nHC d6 k06 k05 hX6 hX5 nC
    generalize x1 ++ cs = x2 at vs5 d4 vx4 kp4 hl11 hX4 ⊢
    generalize ds1 ++ cd = ds2 at vs5
    generalize upd Hh M (.lst x2) = H7 at vs5 d4 vx4 kp4 hX4 ⊢
    -- four tables
    dsimp only
    refine at_seq (at_asg ?_)
    have qt := e0 ▸ stock_dq hX4 vx4.tt
    refine ⟨_, rfl, (lit_lst hX4 (litA_cons (lit_tup hX4 (litA_cons (lit_c fun _ => .str "table") (litA_cons (lit_var rfl qt) litA_nil)) (by show 2 ≤ 1000; decide)) (litA_cons (lit_tup hX4 (litA_cons (lit_c fun _ => .str "table") (litA_cons (lit_sl hX4 (lit_var rfl qt) lito_c lito_none) litA_nil)) (by show 2 ≤ 1000; decide))
      (litA_cons (lit_tup hX4 (litA_cons (lit_c fun _ => .str "table") (litA_cons (lit_cat hX4 (lit_var rfl qt) (lit_sl hX4 (lit_var rfl qt) lito_none lito_c) (by have := len_cut tb (HT.sIx tb.length 0 none) (HT.sIx tb.length tb.length (some 1) - HT.sIx tb.length 0 none); omega)) litA_nil)) (by show 2 ≤ 1000; decide)) (litA_cons (lit_tup hX4 (litA_cons (lit_c fun _ => .str "table") (litA_cons (lit_list hX4 (lit_var rfl qt)) litA_nil)) (by show 2 ≤ 1000; decide)) litA_nil)))) (by show 4 ≤ 1000; decide) : Lit (X0 dk c) _ H7 _ _) H7 _ (Same.refl _) fun v H8 s8 q8 => ?_⟩
    obtain ⟨L2, x3, rfl, hL2, hq2⟩ := dq_lst q8
    have hx3 : x3.length = 4 := hq2.len
    have ok3 : Vs (X0 dk c) H8 L2 x3 _ := ⟨(wo_some hL2).1, hq2, fun d hd => by
      simp only [List.mem_cons, List.not_mem_nil, or_false] at hd
      rcases hd with rfl | rfl | rfl | rfl
      · exact pairV hw7 ((bnT (fun z hz => hz) (by omega)).1.up (by decide) (by decide))
      · exact pairV hw7 ((bnT (fun z hz => mem_cut hz) (Nat.le_trans (len_cut _ _ _) (by omega))).1.up (by decide) (by decide))
      · refine pairV hw7 ((bnT (fun z hz => ?_) ?_).1.up (by decide) (by decide))
        · rcases List.mem_append.mp hz with h | h
          · exact h
          · exact mem_cut h
        · rw [List.length_append]
          have := len_cut tb (HT.sIx tb.length 0 none) (HT.sIx tb.length tb.length (some 1) - HT.sIx tb.length 0 none)
          omega
      · exact pairV hw7 ((bnT (fun z hz => hz) (by omega)).2.up (by decide) (by decide))⟩
    clear hL2 hq2 q8
    generalize ([_, _, _, _] : List PyData) = ds3 at ok3
    refine ⟨M, L2, x2, x3, rfl, rfl, s8 _ _ vs5.top, ok3.top, by rw [hl11, hx3]; show 15 ≤ sizeLine; decide, fun M2 nM2 => ?_⟩
    refine at_name ?_
    have d8 := d4.keep s8
    have m2ne := d8.nedk nM2
    have s9 := same_new (o := .lst (x2 ++ x3)) nM2
    have nHM2 := kp_free (kp4.trans (kps s8)) d8 nM2
    have kp9 := (kp4.trans (kps s8)).trans (kps s9)
    have d9 := d8.keep s9
    have vx9 := (vx4.tk (TK.same s8)).tk (TK.same s9)
    have hX9 := (hX4.same s8).add (xs := x2 ++ x3) nM2
    have all9 : DqAll (Wo (fun z => X0 dk c z ∨ z = M2) (upd H8 M2 (.lst (x2 ++ x3)))) (x2 ++ x3) (ds2 ++ ds3) := DqAll.same (wo_add nM2) _ _ ((DqAll.same (wo_same s8) _ _ vs5.all).app ok3.all)
    have okA : ∀ d ∈ ds2 ++ ds3, Vok d := fun d hd => (List.mem_append.mp hd).elim (vs5.ok d) (ok3.ok d)
    have hl15 : (x2 ++ x3).length = 15 := by rw [List.length_append, hl11, hx3]
    have hM9 : (upd H8 M2 (.lst (x2 ++ x3))) M2 = some (.lst (x2 ++ x3)) := upd_same
    clear vs5 ok3 hX4 vx4 kp4 d4 d8 qt
    generalize x2 ++ x3 = xA at hX9 all9 hl15 hM9 vx9 kp9 d9 ⊢
    generalize ds2 ++ ds3 = dsA at all9 okA
    generalize upd H8 M2 (.lst xA) = H9 at hX9 all9 hM9 vx9 kp9 d9 ⊢
    -- tables with one set replaced
    have hsjt : sj < trs.length := by
      have e := tbl
      rw [← etb, List.length_map] at e
      omega
    obtain ⟨its, hit⟩ : ∃ its, tb[sj]? = some (.tuple its) := ⟨(trs.getD sj []).map PyData.int, by rw [← etb, List.getElem?_map, getD_of (d := []) hsjt]; rfl⟩
    have pvI := pvi _ (List.mem_of_getElem? hit)
    have hitl : its.length ≤ 12 := Nat.le_trans (len_wt its) pvI.wt
    have bnI : ∀ {es : List PyData}, (∀ z ∈ es, Bn 12 0 z) → es.length ≤ 3 → Bn 39 1 (.tuple es) ∧ Bn 39 1 (.list es) := fun h hl => ⟨Bn.tup h hl, Bn.lst h hl⟩
    have bnS : ∀ {es : List PyData}, (∀ z ∈ es, z ∈ its) → PyData.weightAll es ≤ 12 → Bn 12 1 (.tuple es) ∧ Bn 12 1 (.list es) := fun h hw => by
      obtain ⟨b1, b2, _, _⟩ := bd_sub pvI h hw
      have nd := nodict_all fun z hz => (pvI.item (h z hz)).bn.nd
      exact ⟨⟨b1, nd⟩, ⟨b2, nd⟩⟩
    have qt := e0 ▸ stock_dq hX9 vx9.tt
    have qs := stock_dq hX9 vx9.st
    dsimp only
    refine at_seq (at_forL ?_)
    refine (lit_lst hX9 (litA_cons (lit_tup hX9 litA_nil (by show 0 ≤ 1000; decide)) (litA_cons (lit_tup hX9 (litA_cons (lit_c fun _ => .int 0) litA_nil) (by show 1 ≤ 1000; decide)) (litA_cons (lit_tup hX9 (litA_cons (lit_c fun _ => .int 0) (litA_cons (lit_c fun _ => .int 0) litA_nil)) (by show 2 ≤ 1000; decide))
      (litA_cons (lit_rev hX9 (lit_ixT (lit_var rfl qt) (lit_var rfl (.int _)) hit)) (litA_cons (lit_list hX9 (lit_ixT (lit_var rfl qt) (lit_var rfl (.int _)) hit)) (litA_cons (lit_tup hX9 (litA_cons (lit_len (lit_var rfl qs)) litA_nil) (by show 1 ≤ 1000; decide)) (litA_cons (lit_tup hX9 (litA_cons (lit_neg (lit_c fun _ => .int 1)) litA_nil) (by show 1 ≤ 1000; decide))
      (litA_cons (lit_tup hX9 (litA_cons (lit_c fun _ => .bl false) litA_nil) (by show 1 ≤ 1000; decide)) (litA_cons (lit_c fun _ => .non) litA_nil))))))))) (by show 9 ≤ 1000; decide) : Lit (fun z => X0 dk c z ∨ z = M2) _ H9 _ _) H9 _ (Same.refl _) fun v H10 s10 q10 => ?_
    obtain ⟨A9, x9, rfl, hA9, hq9⟩ := dq_lst q10
    have hx9 : x9.length = 9 := hq9.len
    have i12 : ∀ i : Int, -1002 ≤ i → i ≤ 1002 → Bn 12 0 (.int i) := fun i h0 h1 => bn_int h0 h1
    have ok9 : ∀ d ∈ _, Bn 40 2 d := (fun d hd => by
      simp only [List.mem_cons, List.not_mem_nil, or_false] at hd
      rcases hd with rfl | rfl | rfl | rfl | rfl | rfl | rfl | rfl | rfl
      · exact (bnI (fun z hz => by cases hz) (by decide)).1.up (by decide) (by decide)
      · exact (bnI (fun z hz => by rw [List.mem_singleton.mp hz]; exact i12 _ (by decide) (by decide)) (by show 1 ≤ 3; decide)).1.up (by decide) (by decide)
      · refine (bnI (fun z hz => ?_) (by show 2 ≤ 3; decide)).1.up (by decide) (by decide)
        simp only [List.mem_cons, List.not_mem_nil, or_false] at hz
        rcases hz with rfl | rfl <;> exact i12 _ (by decide) (by decide)
      · exact (bnS (fun z hz => List.mem_reverse.mp hz) (by rw [wt_rev]; exact pvI.wt)).1.up (by decide) (by decide)
      · exact (bnS (fun z hz => hz) pvI.wt).2.up (by decide) (by decide)
      · exact (bnI (fun z hz => by rw [List.mem_singleton.mp hz]; exact i12 _ (by omega) (by rw [List.length_map]; omega)) (by show 1 ≤ 3; decide)).1.up (by decide) (by decide)
      · exact (bnI (fun z hz => by rw [List.mem_singleton.mp hz]; exact i12 _ (by decide) (by decide)) (by show 1 ≤ 3; decide)).1.up (by decide) (by decide)
      · exact (bnI (fun z hz => by rw [List.mem_singleton.mp hz]; exact (bn_bool _).up (by decide) (by decide)) (by show 1 ≤ 3; decide)).1.up (by decide) (by decide)
      · exact bn_non.up (by decide) (by decide) : ∀ d ∈ ([.tuple [], .tuple [.int 0], .tuple [.int 0, .int 0], .tuple its.reverse, .list its, .tuple [.int (((rows.map rowD).length : Nat) : Int)], .tuple [.int (-1)], .tuple [.bool false], .none] : List PyData), Bn 40 2 d)
    clear q10 qs
    have hq9 : DqAll (Wo (fun z => X0 dk c z ∨ z = M2) H10) x9 ([.tuple [], .tuple [.int 0], .tuple [.int 0, .int 0], .tuple its.reverse, .list its, .tuple [.int (((rows.map rowD).length : Nat) : Int)], .tuple [.int (-1)], .tuple [.bool false], .none] : List PyData) := hq9
    generalize ([.tuple [], .tuple [.int 0], .tuple [.int 0, .int 0], .tuple its.reverse, .list its, .tuple [.int (((rows.map rowD).length : Nat) : Int)], .tuple [.int (-1)], .tuple [.bool false], .none] : List PyData) = ds9 at hq9 ok9
    obtain ⟨hA9, nA9⟩ := wo_some hA9
    have a9ne : A9 ≠ M2 := fun e => nA9 (.inr e)
    refine ⟨A9, rfl, ⟨_, SqL.of hA9⟩, ?_⟩
    refine for_it (walk_list (xs := x9)) (fun m σ H' => ∃ (xs : List V) (ds : List PyData) (y10 : Option V), σ = [some (.ref dk), some (.ref t), some (.ref b), some (.ref p), some (.ref kn), some (.ref r), some (.ref a), some (.ref g), some (.int (sj : Int)), some (.ref M2), y10, none] ∧ H' M2 = some (.lst xs) ∧ xs.length = 15 + m ∧ DqAll (Wo (fun z => X0 dk c z ∨ z = M2) H') xs ds ∧ (∀ d ∈ ds, Vok d) ∧ DqAll (Wo (fun z => X0 dk c z ∨ z = M2) H') x9 ds9 ∧ H' A9 = some (.lst x9) ∧ VX H' t p r a g D ls as tas gl rows Ds trs G ps wd ∧ Kp2 dk c H H' ∧ Deck H' dk c (B + 4700) ∧ LX (fun z => X0 dk c z ∨ z = M2) dk c H')
      ⟨xA, dsA, none, rfl, s10 _ _ hM9, hl15, DqAll.same (wo_same s10) _ _ all9, okA, hq9, hA9, vx9.tk (TK.same s10), kp9.trans (kps s10), (d9.keep s10).up (by omega), hX9.same s10⟩
      (fun m σ H' _ h => by
        obtain ⟨_, _, _, _, _, _, _, _, _, hA, _⟩ := h
        exact SqL.of hA) (fun m x σ H' H2 hm h y => ?_) (fun σ H' h => ?_)
    · obtain ⟨xs, ds, y10, rfl, hM, hxl, hall, hok, hal9, hA, vx, kp, d, hX⟩ := h
      obtain ⟨rfl, hx⟩ := y
      obtain ⟨dd, hdd, hqd⟩ := hal9.get hx
      have bd9 := ok9 dd (List.mem_of_getElem? hdd)
      have qt := e0 ▸ stock_dq hX vx.tt
      have hc1 := fun x y => len_cut tb x y
      refine ⟨.ref M2, rfl, .inl ⟨rfl, _, SqL.of hM⟩, ?_⟩
      refine at_cons ((lit_tup hX (litA_cons (lit_c fun _ => .str "table") (litA_cons (lit_cat hX (lit_cat hX (lit_sl hX (lit_var rfl qt) lito_none (lito_var rfl)) (lit_tup hX (litA_cons (lit_var rfl hqd) litA_nil) (by show 1 ≤ 1000; decide)) (by have := hc1 (HT.sIx tb.length 0 none) (HT.sIx tb.length tb.length (some (sj : Int)) - HT.sIx tb.length 0 none); show _ + 1 ≤ 1000; omega)) (lit_sl hX (lit_var rfl qt) (lito_var1 rfl) lito_none) (by
        have h1 := hc1 (HT.sIx tb.length 0 none) (HT.sIx tb.length tb.length (some (sj : Int)) - HT.sIx tb.length 0 none)
        have h2 := hc1 (HT.sIx tb.length 0 (some ((sj : Int) + 1))) (HT.sIx tb.length tb.length none - HT.sIx tb.length 0 (some ((sj : Int) + 1)))
        rw [List.length_append]
        show _ + 1 + _ ≤ 1000
        omega)) litA_nil)) (by show 2 ≤ 1000; decide) : Lit (fun z => X0 dk c z ∨ z = M2) _ _ _ _) _ _ (Same.refl _) fun v H11 s11 q11 => ?_)
      have hM11 := s11 _ _ hM
      have vkd : Vok (.tuple [.str "table", .tuple ((tb.drop (HT.sIx tb.length 0 none)).take (HT.sIx tb.length tb.length (some (sj : Int)) - HT.sIx tb.length 0 none) ++ [dd] ++ (tb.drop (HT.sIx tb.length 0 (some ((sj : Int) + 1)))).take (HT.sIx tb.length tb.length none - HT.sIx tb.length 0 (some ((sj : Int) + 1))))]) := by
        have h1 := hc1 (HT.sIx tb.length 0 none) (HT.sIx tb.length tb.length (some (sj : Int)) - HT.sIx tb.length 0 none)
        have h2 := hc1 (HT.sIx tb.length 0 (some ((sj : Int) + 1))) (HT.sIx tb.length tb.length none - HT.sIx tb.length 0 (some ((sj : Int) + 1)))
        refine pairV hw7 ((Bn.tup (n := 130) (w := 40) (k := 2) (fun z hz => ?_) ?_).up (by decide) (by decide))
        · rcases List.mem_append.mp hz with h | h
          · rcases List.mem_append.mp h with h | h
            · exact (pvi z (mem_cut h)).bn.up (by decide) (by decide)
            · rw [List.mem_singleton.mp h]
              exact bd9
          · exact (pvi z (mem_cut h)).bn.up (by decide) (by decide)
        · rw [List.length_append, List.length_append]
          show _ + 1 + _ ≤ 130
          omega
      refine ⟨M2, xs, v, rfl, rfl, hM11, by rw [hxl]; exact len_lt (by omega), xs ++ [v], ds ++ [_], _, rfl, upd_same, by rw [List.length_append, hxl]; rfl, DqAll.same (wo_upd (.inr rfl)) _ _ ((DqAll.same (wo_same s11) _ _ hall).app (.cons q11 .nil)), fun d' hd' => ?_, DqAll.same ((wo_same s11).trans (wo_upd (.inr rfl))) _ _ hal9, ?_, (vx.tk (TK.same s11)).tk (TK.lst hM11), (kp.trans (kps s11)).updF nHM2, (d.keep s11).updD m2ne.1 m2ne.2, (hX.same s11).upd⟩
      · rcases List.mem_append.mp hd' with h | h
        · exact hok d' h
        · rw [List.mem_singleton.mp h]
          exact vkd
      · rw [upd_ne a9ne]
        exact s11 _ _ hA
    · obtain ⟨xs, ds, y10, rfl, hM, hxl, hall, hok, _, _, vx, kp, d, hX5⟩ := h
      rw [hx9] at hxl
      have hX : LX (X0 dk c) dk c H' := lx0 d
      have hall := DqAll.same (wo_less (X := X0 dk c) (R := M2) (H := H')) _ _ hall
      clear hX5 hA9 hq9 all9 hM9 vx9 kp9 d9 hX9 qt okA
      -- others
      dsimp only
      refine at_seq (at_asg ?_)
      have qt := e0 ▸ stock_dq hX vx.tt
      refine at_op ⟨_, rfl, at_lst (at_cons ((lit_tup hX (litA_cons (lit_c fun _ => .str "Table") (litA_cons (lit_var rfl qt) litA_nil)) (by show 2 ≤ 1000; decide) : Lit (X0 dk c) _ H' _ _) _ _ (Same.refl _) fun v1 h1 s1 q1 => at_cons ((lit_tup hX (litA_cons (lit_c fun _ => .str "table") (litA_cons (lit_tup hX litA_nil (by show 0 ≤ 1000; decide)) litA_nil)) (by show 2 ≤ 1000; decide) : Lit (X0 dk c) _ H' _ _) _ _ s1 fun v2 h2 s2 q2 => at_cons ((lit_tup hX (litA_cons (lit_c fun _ => .str "table") litA_nil) (by show 1 ≤ 1000; decide) : Lit (X0 dk c) _ H' _ _) _ _ (s1.trans s2) fun v3 h3 s3 q3 => at_cons ((lit_tup hX litA_nil (by show 0 ≤ 1000; decide) : Lit (X0 dk c) _ H' _ _) _ _ ((s1.trans s2).trans s3) fun v4 h4 s4 q4 => ?_)))))⟩
      have s04 := ((s1.trans s2).trans s3).trans s4
      have d4 := d.keep s04
      refine ⟨_, rfl, X0 dk c, dk, c, _, rfl, hX.same s04, d4, by omega, fun ov od h5 hod k5 d5 q5 => ?_⟩
      have k04 := (kps (a := dk) (b := c) s04).trans k5
      have vx5 := vx.tk (TK.kp d k04)
      have hX5 := lx0 d5
      refine at_cons ((lit_tup hX5 (litA_cons (lit_c fun _ => .bl true) (litA_cons (lit_var rfl (stock_dq hX5 vx5.sd)) litA_nil)) (by show 2 ≤ 1000; decide) : Lit (X0 dk c) _ h5 _ _) _ _ (Same.refl _) fun v7 h6 s6 q6 => ?_)
      refine ⟨by show 7 ≤ sizeLine; decide, fun Lz nLz => ?_⟩
      have sz := same_new (o := .lst [v1, v2, v3, v4, .non, ov, v7]) nLz
      have d6 := d5.keep s6
      have w56 := wo_same (X := X0 dk c) (s6.trans sz)
      have w46 := (wo_kp hX k5).trans w56
      have hM6 := sz _ _ (s6 _ _ (k04 _ _ m2ne.1 m2ne.2 hM))
      have newq : DqAll (Wo (X0 dk c) (upd h6 Lz (.lst [v1, v2, v3, v4, .non, ov, v7]))) [v1, v2, v3, v4, .non, ov, v7] [.tuple [.str "Table", .tuple tb], .tuple [.str "table", .tuple []], .tuple [.str "table"], .tuple [], .none, od, .tuple [.bool true, stockD G]] :=
        .cons (Dq.same ((wo_same (s2.trans (s3.trans s4))).trans w46) _ _ q1) (.cons (Dq.same ((wo_same (s3.trans s4)).trans w46) _ _ q2) (.cons (Dq.same ((wo_same s4).trans w46) _ _ q3) (.cons (Dq.same w46 _ _ q4) (.cons .non (.cons (Dq.same w56 _ _ q5) (.cons (Dq.same (wo_same sz) _ _ q6) .nil))))))
      have newok : ∀ d ∈ ([.tuple [.str "Table", .tuple tb], .tuple [.str "table", .tuple []], .tuple [.str "table"], .tuple [], .none, od, .tuple [.bool true, stockD G]] : List PyData), Vok d := fun d hd => by
        simp only [List.mem_cons, List.not_mem_nil, or_false] at hd
        rcases hd with rfl | rfl | rfl | rfl | rfl | rfl | rfl
        · exact pairV (by decide +kernel) ((bnT (fun z hz => hz) (by omega)).1.up (by decide) (by decide))
        · exact pairV hw7 ((Bn.tup (n := 0) (w := 0) (k := 0) (fun z hz => by cases hz) (Nat.le_refl _)).up (by decide) (by decide))
        · exact (Bn.tup (n := 1) (w := 60) (k := 0) (fun z hz => by rw [List.mem_singleton.mp hz]; exact bn_str hw7) (Nat.le_refl _)).vok (by decide) (by decide)
        · exact (Bn.tup (n := 0) (w := 0) (k := 0) (fun z hz => by cases hz) (Nat.le_refl _)).vok (by decide) (by decide)
        · exact bn_non.vok (by decide) (by decide)
        · exact ⟨(val_odd hod).1.up (by decide) (by decide), (val_odd hod).2⟩
        · refine (Bn.tup (n := 2) (w := 212) (k := 2) (fun z hz => ?_) (Nat.le_refl _)).vok (by decide) (by decide)
          simp only [List.mem_cons, List.not_mem_nil, or_false] at hz
          rcases hz with rfl | rfl
          · exact (bn_bool _).up (by decide) (by decide)
          · exact pvd.bn
      refine ⟨M2, Lz, xs, _, rfl, rfl, hM6, upd_same, by rw [hxl]; show 31 ≤ sizeLine; decide, fun M7 nM7 => ?_⟩
      refine at_name ?_
      have dz := d6.keep sz
      have m7ne := dz.nedk nM7
      have s7 := same_new (o := .lst (xs ++ [v1, v2, v3, v4, .non, ov, v7])) nM7
      have k07 := (k04.trans (kps s6)).trans (kps (sz.trans s7))
      have kp7 := kp.trans k07
      have d7 := dz.keep s7
      have vx7 := vx.tk (TK.kp d k07)
      have vs7 : Vs (X0 dk c) (upd (upd h6 Lz (.lst [v1, v2, v3, v4, .non, ov, v7])) M7 (.lst (xs ++ [v1, v2, v3, v4, .non, ov, v7]))) M7 (xs ++ [v1, v2, v3, v4, .non, ov, v7]) (ds ++ [.tuple [.str "Table", .tuple tb], .tuple [.str "table", .tuple []], .tuple [.str "table"], .tuple [], .none, od, .tuple [.bool true, stockD G]]) :=
        ⟨upd_same, (DqAll.same (wo_kp hX k07) _ _ hall).app (DqAll.same (wo_same s7) _ _ newq), fun d' hd' => (List.mem_append.mp hd').elim (hok d') (newok d')⟩
      have hl31 : (xs ++ [v1, v2, v3, v4, .non, ov, v7]).length = 31 := by rw [List.length_append, hxl]; rfl
      have hX7 := lx0 d7
      generalize (xs ++ [v1, v2, v3, v4, V.non, ov, v7]) = xB at vs7 hl31 kp7 d7 vx7 hX7 ⊢
      generalize (ds ++ [.tuple [.str "Table", .tuple tb], .tuple [.str "table", .tuple []], .tuple [.str "table"], .tuple [], PyData.none, od, .tuple [.bool true, stockD G]]) = dB at vs7
      generalize upd (upd h6 Lz (.lst [v1, v2, v3, v4, V.non, ov, v7])) M7 (.lst xB) = H12 at vs7 kp7 d7 vx7 hX7 ⊢
      clear hall newq hM6 w46 w56 q1 q2 q3 q4 q5 q6 s04 k04 s1 s2 s3 s4 s6 sz nLz qt hM
      -- the replaced ones
      dsimp only
      refine ⟨_, rfl, 4, rfl, by decide, by decide, fun C nC => ?_⟩
      have cne := d7.nedk nC
      have hLC : M7 ≠ C := fun e => by have := vs7.top; rw [e, nC] at this; cases this
      have nHC := kp_free kp7 d7 nC
      refine lc_range (lo := 0) (n := 4) (fun m H' => ∃ (cs : List V) (cd : List PyData), H' C = some (.lst cs) ∧ cs.length = m ∧ DqAll (Wo (fun a => X0 dk c a ∨ a = C) H') cs cd ∧ (∀ d ∈ cd, Vok d) ∧ Vs (fun a => X0 dk c a ∨ a = C) H' M7 xB dB ∧ VX H' t p r a g D ls as tas gl rows Ds trs G ps wd ∧ Kp2 dk c H H' ∧ Deck H' dk c (B + 4800 + 50 * m) ∧ LX (fun a => X0 dk c a ∨ a = C) dk c H')
        ⟨[], [], upd_same, rfl, .nil, fun d hd => (by cases hd), ⟨by rw [upd_ne hLC]; exact vs7.top, DqAll.same (wo_add nC) _ _ vs7.all, vs7.ok⟩, vx7.tk (TK.same (same_new nC)), kp7.updF nHC, (d7.kp nC).up (by omega), hX7.add nC⟩ (fun m H' hm h => ?_) (fun Hh h => ?_)
      · obtain ⟨cs, cd, hC, hcl, hcq, hcok, vs2, vx2, kp2, d2', hX2⟩ := h
        refine ⟨rfl, _, rfl, _, rfl, fun a => X0 dk c a ∨ a = C, dk, c, _, .ref r, _, 847, 3, rfl, hX2, d2', by omega, vx2.tl.dq hX2, pvt, by decide, by decide, by decide, fun v' dv Hi bv nv kv dvk qv => ?_⟩
        have hC2 := kv _ _ cne.1 cne.2 hC
        have hX3 := hX2.kp kv dvk
        have upk := wo_kp hX2 kv
        have tkv := (TK.kp d2' kv).trans (TK.lst (o := .lst (cs ++ [v'])) hC2)
        refine ⟨cs, hC2, by rw [hcl]; exact len_lt (by omega), cs ++ [v'], cd ++ [dv], upd_same, by rw [List.length_append, hcl]; rfl, DqAll.same (wo_upd (.inr rfl)) _ _ ((DqAll.same upk _ _ hcq).app (.cons qv .nil)), fun d hd => ?_, ⟨?_, DqAll.same (upk.trans (wo_upd (.inr rfl))) _ _ vs2.all, vs2.ok⟩, vx2.tk tkv, (kp2.trans kv).updF nHC, (dvk.updD cne.1 cne.2).up (by omega), hX3.upd⟩
        · rcases List.mem_append.mp hd with h | h
          · exact hcok d h
          · rw [List.mem_singleton.mp h]
            exact ⟨bv.up (by decide) (by decide), nv⟩
        · rw [upd_ne hLC]
          exact kv _ _ m7ne.1 m7ne.2 vs2.top
      · obtain ⟨cs, cd, hC, hcl, hcq, hcok, vs3, vx3, kp3, d3, hX3⟩ := h
        refine ⟨M7, C, xB, cs, rfl, rfl, vs3.top, hC, by rw [hl31, hcl]; show 35 ≤ sizeLine; decide, fun M8 nM8 => ?_⟩
        have vs4 := vs3.cat hcq hcok nM8
        have sM := same_new (o := .lst (xB ++ cs)) nM8
        have m8ne := d3.nedk nM8
        have d4 := d3.kp (o := .lst (xB ++ cs)) nM8
        have vx4 := vx3.tk (TK.same sM)
        have kp4 := kp3.trans (kps sM)
        have hl35 : (xB ++ cs).length = 35 := by rw [List.length_append, hl31, hcl]
        have vs5 : Vs (X0 dk c) (upd Hh M8 (.lst (xB ++ cs))) M8 (xB ++ cs) (dB ++ cd) := ⟨vs4.top, DqAll.same wo_less _ _ vs4.all, vs4.ok⟩
        have hX4 := lx0 d4
        generalize xB ++ cs = xC at vs5 d4 vx4 kp4 hl35 hX4 ⊢
        generalize dB ++ cd = dC at vs5
        generalize upd Hh M8 (.lst xC) = H13 at vs5 d4 vx4 kp4 hX4 ⊢
        have qt := stock_dq hX4 vx4.tt
        refine ⟨_, rfl, ?_⟩
        refine at_cons ((lit_tup hX4 (litA_cons (lit_c fun _ => .str "table") (litA_cons (lit_var rfl qt) litA_nil)) (by show 2 ≤ 1000; decide) : Lit (X0 dk c) _ H13 _ _) _ _ (Same.refl _) fun v1 h1 s1 q1 => ?_)
        have d14 := d4.keep s1
        refine ⟨X0 dk c, dk, c, _, v1, _, 839, 3, rfl, hX4.same s1, d14, by omega, q1, plain_pair (.inr rfl) pvT, by decide, by decide, by decide, fun v' dv Hi bv nv kv dvk qv => ?_⟩
        have k1i := (kps (a := dk) (b := c) s1).trans kv
        refine ⟨by show 1 ≤ sizeLine; decide, fun Lz nLz => ?_⟩
        have sz := same_new (o := .lst [v']) nLz
        refine ⟨M8, Lz, xC, [v'], rfl, rfl, sz _ _ (k1i _ _ m8ne.1 m8ne.2 vs5.top), upd_same, by rw [hl35]; show 36 ≤ sizeLine; decide, fun M9 nM9 => ?_⟩
        have sy := same_new (o := .lst (xC ++ [v'])) nM9
        have szy := sz.trans sy
        refine q M9 (xC ++ [v']) (dC ++ [dv]) _ (kp4.trans (k1i.trans (kps szy))) ((dvk.keep szy).up (by omega)) upd_same (DqAll.same wo_in _ _ ((DqAll.same ((wo_kp hX4 k1i).trans (wo_same szy)) _ _ vs5.all).app (.cons (Dq.same (wo_same szy) _ _ qv) .nil))) (by rw [List.length_append, hl35]; show 36 ≤ 100; decide) fun d hd => ?_
        rcases List.mem_append.mp hd with h | h
        · exact vs5.ok d h
        · rw [List.mem_singleton.mp h]
          exact ⟨bv.up (by decide) (by decide), nv⟩
end
end DD
namespace DD
open PySem PySem.Spec PyProof.Rows L2 RZ DM
theorem Wish.cut {H : Hp} {t p : Addr} {ls : List Addr} {ws : List (List Int)} {n m : Nat} (a : Wish H t ls ws n) (hm : 1 ≤ m) (h : H p = some (.tup ((ls.take m).map V.ref))) : Wish H p (ls.take m) (ws.take m) n := by
  refine ⟨⟨h, by rw [List.length_take, List.length_take, a.st.len], fun j l r e1 e2 => ?_⟩, ?_, ?_, fun r hr => a.g r (List.mem_of_mem_take hr), a.n1, a.n4⟩
  · have hj : j < m := by
      have := (List.getElem?_eq_some_iff.mp e1).1
      rw [List.length_take] at this
      omega
    rw [List.getElem?_take_of_lt hj] at e1 e2
    exact a.st.row j l r e1 e2
  · rw [List.length_take]
    have := a.l1
    omega
  · rw [List.length_take]
    have := a.l4
    omega
theorem plan_nn {rows : List (List Int)} {ps : List Int} {n : Nat} (rb : Rb rows n) (hl : ps.length = rows.length) (h : ∀ j, j < rows.length → 0 ≤ ps.getD j 0 ∧ ps.getD j 0 ≤ sizeAt rows j) : (∀ x ∈ ps, 0 ≤ x ∧ x ≤ 1000) ∧ ∀ j, 0 ≤ plF ps j := by
  refine ⟨fun x hx => ?_, fun j => ?_⟩
  · obtain ⟨j, hj⟩ := List.mem_iff_getElem?.mp hx
    have hjl : j < rows.length := by
      have := (List.getElem?_eq_some_iff.mp hj).1
      omega
    have e : ps.getD j 0 = x := by
      rw [List.getD_eq_getElem?_getD, hj]
      rfl
    have h1 := h j hjl
    have h2 := rb.at_ hjl
    omega
  · unfold plF
    by_cases hj : j < rows.length
    · exact (h j hj).1
    · rw [List.getD_eq_getElem?_getD, List.getElem?_eq_none (by omega)]
      exact Int.le_refl _
theorem mod_at {a b : Int} (i : Nat) : ∃ z : Int, (z = a ∨ z = b) ∧ atI [V.int a, V.int b] (((0 : Int) + i).fmod 2) = some (.int z) :=
  two_at (Int.fmod_nonneg_of_pos _ (by decide)) (Int.fmod_lt_of_pos _ (by decide))
theorem Pb.same2 {H H' : Hp} {t b p : Addr} {ls wl : List Addr} {rows ws : List (List Int)} {ps : List Int} {n : Nat} (a : Pb H t b p ls wl rows ws ps n) (s : Same H H') : Pb H' t b p ls wl rows ws ps n :=
  ⟨a.st.same s, a.r1, a.r4, a.rn, a.wi.same s, s _ _ a.hp, a.pl⟩
theorem KnAt.same {H H' : Hp} {rows ws : List (List Int)} {ps : List Int} {n : Nat} {ks : List Addr} {i : Nat} (a : KnAt H rows ws ps n ks i) (s : Same H H') : KnAt H' rows ws ps n ks i :=
  ⟨a.len, fun j x q e1 e2 => by
    obtain ⟨as, h1, h2⟩ := a.at_ j x q e1 e2
    exact ⟨as, s _ _ h1, h2.same s⟩⟩
theorem lsAll_mem : ∀ {ds : List PyData} {d : PyData}, PyData.leavesShortAll 48 ds = true → d ∈ ds → d.leavesShort 48 = true
  | x :: ds, d, h, hd => by
    have h : (x.leavesShort 48 && PyData.leavesShortAll 48 ds) = true := h
    rw [Bool.and_eq_true] at h
    rcases List.mem_cons.mp hd with rfl | hd
    · exact h.1
    · exact lsAll_mem h.2 hd
theorem shAll_mem : ∀ {ds : List PyData} {d : PyData}, PyData.showableAll ds = true → d ∈ ds → d.showable = true
  | x :: ds, d, h, hd => by
    have h : (x.showable && PyData.showableAll ds) = true := h
    rw [Bool.and_eq_true] at h
    rcases List.mem_cons.mp hd with rfl | hd
    · exact h.1
    · exact shAll_mem h.2 hd
theorem dictAll_mem : ∀ {ds : List PyData} {d : PyData}, d.hasDict = true → d ∈ ds → PyData.hasDictAll ds = true
  | x :: ds, d, h, hd => by
    show (x.hasDict || PyData.hasDictAll ds) = true
    rcases List.mem_cons.mp hd with rfl | hd
    · rw [h]
      rfl
    · rw [dictAll_mem h hd, Bool.or_true]
theorem noLs_mem : ∀ {ds : List PyData} {d : PyData}, noLs ds = true → d ∈ ds → noL d = true
  | x :: ds, d, h, hd => by
    have h : (noL x && noLs ds) = true := h
    rw [Bool.and_eq_true] at h
    rcases List.mem_cons.mp hd with rfl | hd
    · exact h.1
    · exact noLs_mem h.2 hd
theorem Vok.item {ds : List PyData} {d : PyData} (h : Vok (.tuple ds)) (hd : d ∈ ds) : Vok d := by
  obtain ⟨⟨h1, h2, h3, h4⟩, nx⟩ := h
  have h3 : PyData.weightAll ds ≤ 20000 := h3
  have h4 : PyData.depthAll ds + 1 ≤ 30 := h4
  have h5 := wt_mem hd
  have h6 := dp_mem hd
  refine ⟨⟨lsAll_mem h1 hd, shAll_mem h2 hd, by omega, by omega⟩, fun e => noLs_mem (nx (dictAll_mem e hd)) hd⟩
theorem Vok.gd {d : PyData} (h : Vok d) : Gd d := by
  obtain ⟨b, nx⟩ := h
  refine ⟨b.show_, Nat.le_trans b.dp (by decide), ?_, nx⟩
  have h := PyData.shown_le 48 (by decide) _ b.short
  have h2 := b.wt
  rw [sizeLine_eq]
  omega
theorem Vok.len {d : PyData} (h : Vok d) : lenD d ≤ 20000 := by
  have h2 := h.1.wt
  cases d with
  | tuple ds =>
    have h3 : PyData.weightAll ds ≤ 20000 := h2
    exact Nat.le_trans (len_wt ds) h3
  | _ => exact Nat.zero_le _
theorem Vok.slim {d : PyData} (h : Vok d) : Slim d := ⟨h.len, fun ds e x hx => by
  subst e
  exact (h.item hx).len⟩
abbrev NL : List Str := ["_law_script", "_law_deck_here", "_law_turn", "_law_stock_here", "_law_collections", "_law_k", "_law_plan_here", "_law_known_here", "_law_value", "_law_shown", "_law_due"]
theorem scLaw : FnScope NL ["_law_script"] (defScope sLaw) := ⟨rfl, rfl, rfl, by decide +kernel, rfl, by decide +kernel, by decide +kernel⟩
section
variable {P : Program} {w : World} {K : PySem.W.Frag} {mg : Str → Option Value} {base : Heap}
def spLaw (K : PySem.W.Frag) : Sp := fun vs H Q _ => ∃ (a : Addr) (ns : List Int), vs = [.ref a] ∧ SqL K H a (ns.map V.int) ∧ ns.length ≤ 63 ∧ ∀ H', Q (.bl true) H'
set_option maxHeartbeats 3200000 in
theorem ok_law {f fN fU fTu fA fAu fO fFu fCo fSp fCa fIr fTk fI fR fFc fLo fSo fOv fDw fSv fCh fUd fEt fAo fAd fDk fD fS fTt fW fPl fLu fLs fLc fM fE fX fNu fId fKn fHo fAy fOo fRp fAt fVa : Addr} {fd dN dU dTu dA dAu dO dFu dCo dSp dCa dIr dTk dI dR dFc dLo dSo dOv dDw dSv dCh dUd dEt dAo dAd dDk dD dS dTt dW dPl dLu dLs dLc dM dE dX dNu dId dKn dHo dAy dOo dRp dAt dVa : FuncData} (F : Fun K "law" "law" sLaw f fd) (T : Tx K mg fN fU fTu fA fAu fO fFu fCo fSp fCa fIr fTk fI fR fFc fLo fSo fOv fDw fSv fCh fUd fEt fAo fAd fDk fD fS fTt fW fPl fLu fLs fLc fM fE fX fNu fId fKn fHo fAy fOo fRp fAt fVa dN dU dTu dA dAu dO dFu dCo dSp dCa dIr dTk dI dR dFc dLo dSo dOv dDw dSv dCh dUd dEt dAo dAd dDk dD dS dTt dW dPl dLu dLs dLc dM dE dX dNu dId dKn dHo dAy dOo dRp dAt dVa) :
    FnG P w K mg base 12 f fd ["_law_script"] (spLaw K) := by
  have GDk : FnOk P w K mg base CX0 1 fDk dDk ["_law_script"] (spDeck K) := ok_deck T.Dk T.m_abs
  have GS : FnOk P w K mg base CX0 2 fS dS ["_law_deck_here", "_law_drawers", "_law_kinds", "_law_most"] spStock := ok_stock T.S T
  have GW : FnOk P w K mg base CX0 2 fW dW ["_law_deck_here", "_law_stock_here"] spWish := ok_wish T.W T
  have GPl : FnOk P w K mg base CX0 2 fPl dPl ["_law_deck_here", "_law_stock_here"] spLPlan := ok_lplan T.Pl T
  have GKn : FnOk P w K mg base CX0 3 fKn dKn ["_law_stock_here", "_law_collections", "_law_plan_here"] spKnownF := ok_knownF T.Kn T
  have GVa : FnOk P w K mg base CX0 8 fVa dVa ["_law_deck_here", "_law_stock_here", "_law_collections", "_law_plan_here", "_law_known_here"] spVa := ok_vals (k := 0) T.Va T
  have GHo : FnG P w K mg base 11 fHo dHo ["_law_stock_here", "_law_collections", "_law_plan_here", "_law_value", "_law_known_here"] spHoD := ok_hoD (k := 8) T.Ho T
  have GCh : FnOk P w K mg base CX0 7 fCh dCh ["stock", "collections", "plan", "value"] spChD := ok_chD (k := 0) T.Ch T
  refine fnG_of F scLaw (fun vs H Q E h => ?_) (fun cdv A hgu outer s H vs Q E hr h => ?_)
  · obtain ⟨a, ns, rfl, _⟩ := h
    rfl
  · obtain ⟨a, ns, rfl, hS, hlen, q⟩ := h
    have hu : (A.deeper (envOfC "law" (defScope sLaw) s.heap.objs.size f cdv)).units + 66 < cLine := by
      have := hr.un
      omega
    refine ⟨_, (pss_cons (ps_set (i := 1) scLaw.nd rfl (.inl rfl) (pe_call GDk (hr.mono (by omega)) (by rfl) T.gDk T.Dk.kp T.bDk .nil pass0 (pa_cons (pv 0) pa_nil)))
      (pss_cons (ps_for PassesOwn.never rfl (pi_range1 (by rfl) T.m_range (pa_cons pe_int pa_nil)) (pg_name (i := 2) scLaw.nd rfl (Or.inl rfl)) (pss_cons (ps_set (i := 3) scLaw.nd rfl (.inl rfl) (pe_call GS (hr.mono (by omega)) (by rfl) T.gS T.S.kp T.bS .nil pass0 (pa_cons (pv 1) (pa_cons (pe_ix (show IxR _ (rIxL K) from ix_list) (pe_lst (pa_cons pe_int (pa_cons pe_int pa_nil))) (pe_op op_modN (pv 2) pe_int) (fun _ _ => rfl)) (pa_cons pe_int (pa_cons (pe_ix (show IxR _ (rIxL K) from ix_list) (pe_lst (pa_cons pe_int (pa_cons pe_int pa_nil))) (pe_op op_modN (pv 2) pe_int) (fun _ _ => rfl)) pa_nil))))))
      (pss_cons (ps_set (i := 4) scLaw.nd rfl (.inl rfl) (pe_slice sl_tupQ (pe_call GW (hr.mono (by omega)) (by rfl) T.gW T.W.kp T.bW .nil pass0 (pa_cons (pv 1) (pa_cons (pv 3) pa_nil))) po_none (po_some pe_int)))
      (pss_one (ps_for PassesOwn.never rfl (pi_range1 (by rfl) T.m_range (pa_cons pe_int pa_nil)) (pg_name (i := 5) scLaw.nd rfl (Or.inl rfl)) (pss_cons (ps_set (i := 6) scLaw.nd rfl (.inl rfl) (pe_call GPl (hr.mono (by omega)) (by rfl) T.gPl T.Pl.kp T.bPl .nil pass0 (pa_cons (pv 1) (pa_cons (pv 3) pa_nil))))
      (pss_cons (ps_set (i := 7) scLaw.nd rfl (.inl rfl) (pe_call GKn (hr.mono (by omega)) (by rfl) T.gKn T.Kn.kp T.bKn .nil pass0 (pa_cons (pv 3) (pa_cons (pv 4) (pa_cons (pv 6) pa_nil)))))
      (pss_one (ps_for PassesOwn.never rfl (pi_list (pe_call GVa (hr.mono (by omega)) (by rfl) T.gVa T.Va.kp T.bVa .nil pass0 (pa_cons (pv 1) (pa_cons (pv 3) (pa_cons (pv 4) (pa_cons (pv 6) (pa_cons (pv 7) pa_nil))))))) (pg_name (i := 8) scLaw.nd rfl (Or.inl rfl)) (pss_cons (ps_set (i := 9) scLaw.nd rfl (.inl rfl) (pe_callB (call_reprL hgu hu) (by rfl) T.m_repr (by decide +kernel) (pa_cons (pe_lstN (pa_cons (pv 3) (pa_cons (pv 4) (pa_cons (pv 6) (pa_cons (pv 8) pa_nil))))) pa_nil)))
      (pss_cons (ps_set (i := 10) scLaw.nd rfl (.inl rfl) (pe_callG GHo hgu (hr.mono (by omega)) (by rfl) T.gHo T.Ho.kp T.bHo (pa_cons (pv 3) (pa_cons (pv 4) (pa_cons (pv 6) (pa_cons (pv 8) (pa_cons (pv 7) pa_nil)))))))
      (pss_cons (ps_if (pt_cmpR op_ne (pe_callB (call_reprQ hgu hu) (by rfl) T.m_repr (by decide +kernel) (pa_cons (pe_call GCh (hr.mono (by omega)) (by rfl) T.gCh T.Ch.kp T.bCh .nil pass0 (pa_cons (pv 3) (pa_cons (pv 4) (pa_cons (pv 6) (pa_cons (pv 8) pa_nil))))) pa_nil)) (pe_callB (call_reprQ hgu hu) (by rfl) T.m_repr (by decide +kernel) (pa_cons (pv 10) pa_nil)) (nomark _)) (pss_one (ps_ret pe_bl)) pss_nil)
      (pss_one (ps_if (pt_cmpR op_ne (pe_callB (call_reprL hgu hu) (by rfl) T.m_repr (by decide +kernel) (pa_cons (pe_lstN (pa_cons (pv 3) (pa_cons (pv 4) (pa_cons (pv 6) (pa_cons (pv 8) pa_nil))))) pa_nil)) (pv 9) (nomark _)) (pss_one (ps_ret pe_bl)) pss_nil))))))))))))))
      (pss_one (ps_ret pe_bl)))), ?_⟩
    refine ⟨.ref a, rfl, a, ns, rfl, hS, hlen, fun dk c H1 s1 ndk nc d1 => ?_⟩
    refine ⟨7, rfl, by decide, by decide, ?_⟩
    refine for_range (lo := 0) (n := 7) (fun i σ H' => ∃ y2 y3 y4 y5 y6 y7 y8 y9 ya : Option V, σ = [some (.ref a), some (.ref dk), y2, y3, y4, y5, y6, y7, y8, y9, ya] ∧ Deck H' dk c (i * 30000))
      ⟨_, _, _, _, _, _, _, _, _, rfl, d1⟩ (fun i σ H2 hi h => ?_) (fun σ H2 h => ?_)
    · obtain ⟨y2, y3, y4, y5, y6, y7, y8, y9, ya, rfl, d2⟩ := h
      obtain ⟨z1, hz1, ez1⟩ := mod_at (a := 3) (b := 4) i
      obtain ⟨z2, hz2, ez2⟩ := mod_at (a := 50) (b := 4) i
      obtain ⟨N, hN, hN1, hN4⟩ : ∃ N : Nat, z1 = (N : Int) ∧ 1 ≤ N ∧ N ≤ 4 := by
        rcases hz1 with rfl | rfl
        · exact ⟨3, rfl, by decide, by decide⟩
        · exact ⟨4, rfl, by decide, by decide⟩
      have hz : 1 ≤ z2 ∧ z2 ≤ 50 := by rcases hz2 with rfl | rfl <;> decide
      refine ⟨_, rfl, by show 2 ≤ sizeLine; decide, fun l1 nl1 => ?_⟩
      have dl1 := d2.kp (o := .lst [.int 3, .int 4]) nl1
      refine ⟨_, rfl, _, 2, rfl, rfl, (by show (2 : Int) ≠ 0; decide), l1, _, _, .int z1, rfl, rfl, SqL.of upd_same, ez1, ?_⟩
      refine ⟨by show 2 ≤ sizeLine; decide, fun l3 nl3 => ?_⟩
      have dl3 := dl1.kp (o := .lst [.int 50, .int 4]) nl3
      refine ⟨_, rfl, _, 2, rfl, rfl, (by show (2 : Int) ≠ 0; decide), l3, _, _, .int z2, rfl, rfl, SqL.of upd_same, ez2, ?_⟩
      refine ⟨dk, c, i * 30000, N, 3, z2, by rw [hN]; rfl, dl3, hN1, hN4, by decide, by decide, by omega, by omega, by omega, fun t ls rows n H3 e1 e2 e3 e4 hrow st3 k3 d3 => ?_⟩
      have hrn : ∀ r ∈ rows, r.length = n := fun r hr => (hrow r hr).1
      have hb50 : ∀ r ∈ rows, ∀ x ∈ r, 0 ≤ x ∧ x ≤ 50 := fun r hr x hx => by
        have := (hrow r hr).2 x hx
        omega
      have e2 : rows.length ≤ 4 := by omega
      have hn4 : n ≤ 4 := by omega
      have rb : Rb rows n := ⟨e1, e2, e3, hn4, fun r hr => ⟨hrn r hr, hb50 r hr⟩⟩
      -- the wish
      refine ⟨_, rfl, _, rfl, dk, c, _, t, ls, rows, n, rfl, d3, by omega, st3, e1, e2, e3, hn4, fun r hr => ⟨hrn r hr, hb50 r hr⟩, fun b0 wl0 ws0 H4 wi0 k4 d4 => ?_⟩
      have st4 := st3.kp k4 d3
      dsimp only [tNoPart, tPart]
      refine ⟨3, rfl, b0, _, rfl, wi0.st.top, fun b H5 s5 hb => ?_⟩
      have hb5 : H5 b = some (.tup ((wl0.take 3).map V.ref)) := by
        have e := cutV_to (xs := wl0.map V.ref) (s := 3)
        rw [List.map_take, ← e]
        exact hb
      have wi5 := (wi0.same s5).cut (m := 3) (by decide) hb5
      have hw3 : (ws0.take 3).length ≤ 3 := by
        rw [List.length_take]
        omega
      generalize wl0.take 3 = wl at wi5
      generalize ws0.take 3 = ws at wi5 hw3
      have st5 := st4.same s5
      have d5 := d4.keep s5
      refine ⟨2, rfl, by decide, by decide, ?_⟩
      refine for_range (lo := 0) (n := 2) (fun j σ H' => ∃ y5 y6 y7 y8 y9 ya : Option V, σ = [some (.ref a), some (.ref dk), some (.int ((0 : Int) + (i : Nat))), some (.ref t), some (.ref b), y5, y6, y7, y8, y9, ya] ∧ StockAt H' t ls rows ∧ Wish H' b wl ws n ∧ Deck H' dk c (i * 30000 + 200 + j * 9100))
        ⟨_, _, _, _, _, _, rfl, st5, wi5, d5.up (by omega)⟩ (fun j σ H' hj h => ?_) (fun σ H' h => ?_)
      · obtain ⟨y5, y6, y7, y8, y9, ya, rfl, st, wi, d⟩ := h
        refine ⟨_, rfl, _, rfl, dk, c, t, _, ls, rows, n, rfl, d, by omega, st, rb, fun p ps H6 pl hbd hp k6 d6 => ?_⟩
        have st6 := st.kp k6 d
        have wi6 := wi.tk (TK.kp d k6)
        have pb6 : Pb H6 t b p ls wl rows ws ps n := ⟨st6, e1, e2, hrn, wi6, hp, pl⟩
        refine ⟨_, rfl, _, rfl, _, rfl, t, b, p, ls, wl, rows, ws, ps, n, rfl, pb6, fun KN ks H7 s7 hKN kna nKN nks => ?_⟩
        have pb7 := pb6.same2 s7
        have d7 := d6.keep s7
        have kne := d6.nedk nKN
        have ksne : ∀ x ∈ ks, x ≠ dk ∧ x ≠ c := fun x hx => d6.nedk (nks x hx)
        refine ⟨_, rfl, _, rfl, _, rfl, _, rfl, _, rfl, dk, c, t, b, p, KN, _, ls, wl, rows, ws, ps, n, ks, rfl, d7, by omega, pb7, rb, hbd, hw3, hKN, kne, kna, ksne, fun L xs ds H8 k8 d8 hL hall hxl hok => ?_⟩
        have pb8 : Pb H8 t b p ls wl rows ws ps n := ⟨pb7.st.tk (TK.kp d7 k8), e1, e2, hrn, pb7.wi.tk (TK.kp d7 k8), (TK.kp d7 k8) _ _ pb7.hp, pl⟩
        have kn8 := kna.kp ksne d7 k8
        have hK8 := k8 _ _ kne.1 kne.2 hKN
        have pvr := plain_rows (n := 4) (m := 4) (rows := rows) (by omega) fun r hr => ⟨by have := hrn r hr; omega, fun x hx => by have := hb50 r hr x hx; omega⟩
        have pvw := plain_rows (n := 4) (m := 4) (rows := ws) (by omega) fun r hr => ⟨by have := (wi.g r hr).len; omega, fun x hx => by have := (wi.g r hr).bd x hx; omega⟩
        have pvp := plain_row (n := 4) (r := ps) (by omega) fun x hx => by
          have := (plan_nn rb pl hbd).1 x hx
          omega
        refine ⟨L, rfl, ⟨_, SqL.of hL⟩, ?_⟩
        refine for_it (walk_list (xs := xs)) (fun m σ H' => ∃ y8 y9 ya : Option V, σ = [some (.ref a), some (.ref dk), some (.int ((0 : Int) + (i : Nat))), some (.ref t), some (.ref b), some (.int ((0 : Int) + (j : Nat))), some (.ref p), some (.ref KN), y8, y9, ya] ∧ Same H8 H')
          ⟨_, _, _, rfl, Same.refl _⟩ (fun m σ H' _ h => by obtain ⟨_, _, _, _, sm⟩ := h; exact SqL.of (sm _ _ hL)) (fun m x σ H' H2 hm h y => ?_) (fun σ Hn h => ?_)
        · obtain ⟨y8, y9, ya, rfl, sm⟩ := h
          obtain ⟨rfl, hx⟩ := y
          obtain ⟨dx, hdx, hqx⟩ := hall.get hx
          have vx := hok dx (List.mem_of_getElem? hdx)
          have gd2 : GdL [stockD rows, stockD ws, rowD ps, dx] := gdl_of (x := dx) (fun d hd => by
            simp only [List.mem_cons, List.not_mem_nil, or_false] at hd
            rcases hd with rfl | rfl | rfl | rfl
            · exact pvr.bd.up (by decide) (by decide)
            · exact pvw.bd.up (by decide) (by decide)
            · exact pvp.bd.up (by decide) (by decide)
            · exact vx.1) (by show 4 ≤ 5; decide) vx.2 (fun d hd => by
            simp only [List.mem_cons, List.not_mem_nil, or_false] at hd
            rcases hd with rfl | rfl | rfl | rfl
            · exact .inr (plain_ok _ pvr.pl).2.2.2
            · exact .inr (plain_ok _ pvw.pl).2.2.2
            · exact .inr (plain_ok _ pvp.pl).2.2.2
            · exact .inl rfl)
          have data : ∀ {H' : Hp}, Same H8 H' → DqAll H' [.ref t, .ref b, .ref p, x] [stockD rows, stockD ws, rowD ps, dx] := fun {H'} s => .cons (Dq.same wo_in _ _ (stock_dq (X := X0 dk c) (lx0 (d8.keep s)) (pb8.st.same s))) (.cons (Dq.same wo_in _ _ (stock_dq (X := X0 dk c) (lx0 (d8.keep s)) (pb8.wi.st.same s))) (.cons (.tup (s _ _ pb8.hp) (dq_ints _)) (.cons (Dq.same s _ _ hqx) .nil)))
          refine ⟨_, rfl, _, rfl, _, rfl, _, rfl, by show 4 ≤ sizeLine; decide, fun q1 nq1 hq1 => ?_⟩
          have t1 := sm.trans (same_new (o := .lst [.ref t, .ref b, .ref p, x]) nq1)
          refine ⟨q1, _, _, rfl, hq1, upd_same, data t1, gd2, ?_⟩
          generalize upd _ q1 (.lst [V.ref t, .ref b, .ref p, x]) = Hp1 at t1 ⊢
          refine ⟨_, rfl, _, rfl, _, rfl, _, rfl, _, rfl, t, b, p, KN, x, dx, ls, wl, rows, ws, ps, n, ks, rfl, pb8.same2 t1, t1 _ _ hK8, kn8.same t1, Dq.same t1 _ _ hqx, (fun w0 ds e z hz => ((e ▸ vx : Vok (.tuple [w0, .tuple ds])).item (List.mem_cons_of_mem _ List.mem_cons_self)).item hz |>.gd), fun H11 s11 => ?_⟩
          have t2 := t1.trans s11
          refine ⟨_, rfl, _, rfl, _, rfl, _, rfl, t, b, p, x, dx, ls, wl, rows, ws, ps, n, rfl, pb8.same2 t2, Dq.same t2 _ _ hqx, (fun w0 p0 e => ((e ▸ vx : Vok (.tuple [w0, p0])).item (List.mem_cons_of_mem _ List.mem_cons_self)).slim), fun H12 s12 => ?_⟩
          have t3 := t2.trans s12
          refine ⟨_, _, rfl, .bl _, gd_bl _, ?_⟩
          refine ⟨_, rfl, _, _, rfl, .bl _, gd_bl _, ?_⟩
          refine ⟨rfl, _, rfl, ?_⟩
          rw [decide_eq_true rfl]
          refine iteNx rfl ?_
          refine ⟨_, rfl, _, rfl, _, rfl, _, rfl, by show 4 ≤ sizeLine; decide, fun q2 nq2 hq2 => ?_⟩
          have t4 := t3.trans (same_new (o := .lst [.ref t, .ref b, .ref p, x]) nq2)
          refine ⟨q2, _, _, rfl, hq2, upd_same, data t4, gd2, ?_⟩
          refine ⟨_, rfl, rfl, _, rfl, ?_⟩
          rw [decide_eq_true rfl]
          exact iteNx rfl ⟨_, _, _, rfl, t4⟩
        · obtain ⟨y8, y9, ya, rfl, sm⟩ := h
          exact ⟨_, _, _, _, _, _, rfl, pb8.st.same sm, pb8.wi.same sm, (d8.keep sm).up (by omega)⟩
      · obtain ⟨y5, y6, y7, y8, y9, ya, rfl, st, wi, d⟩ := h
        exact ⟨_, _, _, _, _, _, _, _, _, rfl, d.up (by omega)⟩
    · exact q _
end
end DD
namespace DD
open PySem PySem.Spec PyProof.Rows L2
set_option maxHeartbeats 0 in
theorem all_mk {l : PySem.W.OpenLaw} {w : World} {K : PySem.W.Frag} {h : Heap} {mg : Str → Option Value} {fa f1 f2 f3 f4 f5 f6 f7 f8 f9 f10 f11 f12 f13 f14 f15 f16 f17 f18 f19 f20 f21 f22 f23 f24 f25 f26 f27 f28 f29 f30 f31 f32 f33 f34 f35 f36 f37 f38 f39 f40 f41 f42 f43 f44 f45 f46 f47 : Addr} (kin : K.In h) (nsG : h.Ns mainGlobals mg) (hfa : mg "law" = some (.ref fa))
    {od1 an1 : Option Addr} {sl1 : Array (Option Value)} {oc1 kV1 dc1 pm1 cd1 ct1 : Value}
    {od2 an2 : Option Addr} {sl2 : Array (Option Value)} {oc2 kV2 dc2 pm2 cd2 ct2 : Value}
    {od3 an3 : Option Addr} {sl3 : Array (Option Value)} {oc3 kV3 dc3 pm3 cd3 ct3 : Value}
    {od4 an4 : Option Addr} {sl4 : Array (Option Value)} {oc4 kV4 dc4 pm4 cd4 ct4 : Value}
    {od5 an5 : Option Addr} {sl5 : Array (Option Value)} {oc5 kV5 dc5 pm5 cd5 ct5 : Value}
    {od6 an6 : Option Addr} {sl6 : Array (Option Value)} {oc6 kV6 dc6 pm6 cd6 ct6 : Value}
    {od7 an7 : Option Addr} {sl7 : Array (Option Value)} {oc7 kV7 dc7 pm7 cd7 ct7 : Value}
    {od8 an8 : Option Addr} {sl8 : Array (Option Value)} {oc8 kV8 dc8 pm8 cd8 ct8 : Value}
    {od9 an9 : Option Addr} {sl9 : Array (Option Value)} {oc9 kV9 dc9 pm9 cd9 ct9 : Value}
    {od10 an10 : Option Addr} {sl10 : Array (Option Value)} {oc10 kV10 dc10 pm10 cd10 ct10 : Value}
    {od11 an11 : Option Addr} {sl11 : Array (Option Value)} {oc11 kV11 dc11 pm11 cd11 ct11 : Value}
    {od12 an12 : Option Addr} {sl12 : Array (Option Value)} {oc12 kV12 dc12 pm12 cd12 ct12 : Value}
    {od13 an13 : Option Addr} {sl13 : Array (Option Value)} {oc13 kV13 dc13 pm13 cd13 ct13 : Value}
    {od14 an14 : Option Addr} {sl14 : Array (Option Value)} {oc14 kV14 dc14 pm14 cd14 ct14 : Value}
    {od15 an15 : Option Addr} {sl15 : Array (Option Value)} {oc15 kV15 dc15 pm15 cd15 ct15 : Value}
    {od16 an16 : Option Addr} {sl16 : Array (Option Value)} {oc16 kV16 dc16 pm16 cd16 ct16 : Value}
    {od17 an17 : Option Addr} {sl17 : Array (Option Value)} {oc17 kV17 dc17 pm17 cd17 ct17 : Value}
    {od18 an18 : Option Addr} {sl18 : Array (Option Value)} {oc18 kV18 dc18 pm18 cd18 ct18 : Value}
    {od19 an19 : Option Addr} {sl19 : Array (Option Value)} {oc19 kV19 dc19 pm19 cd19 ct19 : Value}
    {od20 an20 : Option Addr} {sl20 : Array (Option Value)} {oc20 kV20 dc20 pm20 cd20 ct20 : Value}
    {od21 an21 : Option Addr} {sl21 : Array (Option Value)} {oc21 kV21 dc21 pm21 cd21 ct21 : Value}
    {od22 an22 : Option Addr} {sl22 : Array (Option Value)} {oc22 kV22 dc22 pm22 cd22 ct22 : Value}
    {od23 an23 : Option Addr} {sl23 : Array (Option Value)} {oc23 kV23 dc23 pm23 cd23 ct23 : Value}
    {od24 an24 : Option Addr} {sl24 : Array (Option Value)} {oc24 kV24 dc24 pm24 cd24 ct24 : Value}
    {od25 an25 : Option Addr} {sl25 : Array (Option Value)} {oc25 kV25 dc25 pm25 cd25 ct25 : Value}
    {od26 an26 : Option Addr} {sl26 : Array (Option Value)} {oc26 kV26 dc26 pm26 cd26 ct26 : Value}
    {od27 an27 : Option Addr} {sl27 : Array (Option Value)} {oc27 kV27 dc27 pm27 cd27 ct27 : Value}
    {od28 an28 : Option Addr} {sl28 : Array (Option Value)} {oc28 kV28 dc28 pm28 cd28 ct28 : Value}
    {od29 an29 : Option Addr} {sl29 : Array (Option Value)} {oc29 kV29 dc29 pm29 cd29 ct29 : Value}
    {od30 an30 : Option Addr} {sl30 : Array (Option Value)} {oc30 kV30 dc30 pm30 cd30 ct30 : Value}
    {od31 an31 : Option Addr} {sl31 : Array (Option Value)} {oc31 kV31 dc31 pm31 cd31 ct31 : Value}
    {od32 an32 : Option Addr} {sl32 : Array (Option Value)} {oc32 kV32 dc32 pm32 cd32 ct32 : Value}
    {od33 an33 : Option Addr} {sl33 : Array (Option Value)} {oc33 kV33 dc33 pm33 cd33 ct33 : Value}
    {od34 an34 : Option Addr} {sl34 : Array (Option Value)} {oc34 kV34 dc34 pm34 cd34 ct34 : Value}
    {od35 an35 : Option Addr} {sl35 : Array (Option Value)} {oc35 kV35 dc35 pm35 cd35 ct35 : Value}
    {od36 an36 : Option Addr} {sl36 : Array (Option Value)} {oc36 kV36 dc36 pm36 cd36 ct36 : Value}
    {od37 an37 : Option Addr} {sl37 : Array (Option Value)} {oc37 kV37 dc37 pm37 cd37 ct37 : Value}
    {od38 an38 : Option Addr} {sl38 : Array (Option Value)} {oc38 kV38 dc38 pm38 cd38 ct38 : Value}
    {od39 an39 : Option Addr} {sl39 : Array (Option Value)} {oc39 kV39 dc39 pm39 cd39 ct39 : Value}
    {od40 an40 : Option Addr} {sl40 : Array (Option Value)} {oc40 kV40 dc40 pm40 cd40 ct40 : Value}
    {od41 an41 : Option Addr} {sl41 : Array (Option Value)} {oc41 kV41 dc41 pm41 cd41 ct41 : Value}
    {od42 an42 : Option Addr} {sl42 : Array (Option Value)} {oc42 kV42 dc42 pm42 cd42 ct42 : Value}
    {od43 an43 : Option Addr} {sl43 : Array (Option Value)} {oc43 kV43 dc43 pm43 cd43 ct43 : Value}
    {od44 an44 : Option Addr} {sl44 : Array (Option Value)} {oc44 kV44 dc44 pm44 cd44 ct44 : Value}
    {od45 an45 : Option Addr} {sl45 : Array (Option Value)} {oc45 kV45 dc45 pm45 cd45 ct45 : Value}
    {od46 an46 : Option Addr} {sl46 : Array (Option Value)} {oc46 kV46 dc46 pm46 cd46 ct46 : Value}
    {od47 an47 : Option Addr} {sl47 : Array (Option Value)} {oc47 kV47 dc47 pm47 cd47 ct47 : Value}
    (a1 : PySem.W.nsIn K mainGlobals "is_number" = some (some (.ref f1)))
    (l1 : K.lookup f1 = some ⟨oc1, od1, .func (PySem.W.fnOf "is_number" "is_number" (defArgs sIsNum) (defBody sIsNum) (defScope sIsNum) .none kV1 dc1 pm1 an1 cd1 ct1), sl1⟩)
    (c1 : PySem.W.codeIn K cd1 "is_number" = true)
    (k1 : PySem.W.keepIn K (.ref f1) = true)
    (a2 : PySem.W.nsIn K mainGlobals "is_number_up_to" = some (some (.ref f2)))
    (l2 : K.lookup f2 = some ⟨oc2, od2, .func (PySem.W.fnOf "is_number_up_to" "is_number_up_to" (defArgs sUpTo) (defBody sUpTo) (defScope sUpTo) .none kV2 dc2 pm2 an2 cd2 ct2), sl2⟩)
    (c2 : PySem.W.codeIn K cd2 "is_number_up_to" = true)
    (k2 : PySem.W.keepIn K (.ref f2) = true)
    (a3 : PySem.W.nsIn K mainGlobals "is_tuple_of" = some (some (.ref f3)))
    (l3 : K.lookup f3 = some ⟨oc3, od3, .func (PySem.W.fnOf "is_tuple_of" "is_tuple_of" (defArgs sTupOf) (defBody sTupOf) (defScope sTupOf) .none kV3 dc3 pm3 an3 cd3 ct3), sl3⟩)
    (c3 : PySem.W.codeIn K cd3 "is_tuple_of" = true)
    (k3 : PySem.W.keepIn K (.ref f3) = true)
    (a4 : PySem.W.nsIn K mainGlobals "are_numbers" = some (some (.ref f4)))
    (l4 : K.lookup f4 = some ⟨oc4, od4, .func (PySem.W.fnOf "are_numbers" "are_numbers" (defArgs sNums) (defBody sNums) (defScope sNums) .none kV4 dc4 pm4 an4 cd4 ct4), sl4⟩)
    (c4 : PySem.W.codeIn K cd4 "are_numbers" = true)
    (k4 : PySem.W.keepIn K (.ref f4) = true)
    (a5 : PySem.W.nsIn K mainGlobals "are_numbers_up_to" = some (some (.ref f5)))
    (l5 : K.lookup f5 = some ⟨oc5, od5, .func (PySem.W.fnOf "are_numbers_up_to" "are_numbers_up_to" (defArgs sNumsUp) (defBody sNumsUp) (defScope sNumsUp) .none kV5 dc5 pm5 an5 cd5 ct5), sl5⟩)
    (c5 : PySem.W.codeIn K cd5 "are_numbers_up_to" = true)
    (k5 : PySem.W.keepIn K (.ref f5) = true)
    (a6 : PySem.W.nsIn K mainGlobals "totals_of" = some (some (.ref f6)))
    (l6 : K.lookup f6 = some ⟨oc6, od6, .func (PySem.W.fnOf "totals_of" "totals_of" (defArgs sTotals) (defBody sTotals) (defScope sTotals) .none kV6 dc6 pm6 an6 cd6 ct6), sl6⟩)
    (c6 : PySem.W.codeIn K cd6 "totals_of" = true)
    (k6 : PySem.W.keepIn K (.ref f6) = true)
    (a7 : PySem.W.nsIn K mainGlobals "fulfilled_by" = some (some (.ref f7)))
    (l7 : K.lookup f7 = some ⟨oc7, od7, .func (PySem.W.fnOf "fulfilled_by" "fulfilled_by" (defArgs sFul) (defBody sFul) (defScope sFul) .none kV7 dc7 pm7 an7 cd7 ct7), sl7⟩)
    (c7 : PySem.W.codeIn K cd7 "fulfilled_by" = true)
    (k7 : PySem.W.keepIn K (.ref f7) = true)
    (a8 : PySem.W.nsIn K mainGlobals "contain" = some (some (.ref f8)))
    (l8 : K.lookup f8 = some ⟨oc8, od8, .func (PySem.W.fnOf "contain" "contain" (defArgs sCont) (defBody sCont) (defScope sCont) .none kV8 dc8 pm8 an8 cd8 ct8), sl8⟩)
    (c8 : PySem.W.codeIn K cd8 "contain" = true)
    (k8 : PySem.W.keepIn K (.ref f8) = true)
    (a9 : PySem.W.nsIn K mainGlobals "spoilings_of" = some (some (.ref f9)))
    (l9 : K.lookup f9 = some ⟨oc9, od9, .func (PySem.W.fnOf "spoilings_of" "spoilings_of" (defArgs sSpoil) (defBody sSpoil) (defScope sSpoil) .none kV9 dc9 pm9 an9 cd9 ct9), sl9⟩)
    (c9 : PySem.W.codeIn K cd9 "spoilings_of" = true)
    (k9 : PySem.W.keepIn K (.ref f9) = true)
    (a10 : PySem.W.nsIn K mainGlobals "caps_of" = some (some (.ref f10)))
    (l10 : K.lookup f10 = some ⟨oc10, od10, .func (PySem.W.fnOf "caps_of" "caps_of" (defArgs sCaps) (defBody sCaps) (defScope sCaps) .none kV10 dc10 pm10 an10 cd10 ct10), sl10⟩)
    (c10 : PySem.W.codeIn K cd10 "caps_of" = true)
    (k10 : PySem.W.keepIn K (.ref f10) = true)
    (a11 : PySem.W.nsIn K mainGlobals "is_draw" = some (some (.ref f11)))
    (l11 : K.lookup f11 = some ⟨oc11, od11, .func (PySem.W.fnOf "is_draw" "is_draw" (defArgs sIsDr) (defBody sIsDr) (defScope sIsDr) .none kV11 dc11 pm11 an11 cd11 ct11), sl11⟩)
    (c11 : PySem.W.codeIn K cd11 "is_draw" = true)
    (k11 : PySem.W.keepIn K (.ref f11) = true)
    (a12 : PySem.W.nsIn K mainGlobals "is_taken_from" = some (some (.ref f12)))
    (l12 : K.lookup f12 = some ⟨oc12, od12, .func (PySem.W.fnOf "is_taken_from" "is_taken_from" (defArgs sTaken) (defBody sTaken) (defScope sTaken) .none kV12 dc12 pm12 an12 cd12 ct12), sl12⟩)
    (c12 : PySem.W.codeIn K cd12 "is_taken_from" = true)
    (k12 : PySem.W.keepIn K (.ref f12) = true)
    (a13 : PySem.W.nsIn K mainGlobals "room_in" = some (some (.ref f13)))
    (l13 : K.lookup f13 = some ⟨oc13, od13, .func (PySem.W.fnOf "room_in" "room_in" (defArgs sRoomIn) (defBody sRoomIn) (defScope sRoomIn) .none kV13 dc13 pm13 an13 cd13 ct13), sl13⟩)
    (c13 : PySem.W.codeIn K cd13 "room_in" = true)
    (k13 : PySem.W.keepIn K (.ref f13) = true)
    (a14 : PySem.W.nsIn K mainGlobals "room_of" = some (some (.ref f14)))
    (l14 : K.lookup f14 = some ⟨oc14, od14, .func (PySem.W.fnOf "room_of" "room_of" (defArgs sRoomOf) (defBody sRoomOf) (defScope sRoomOf) .none kV14 dc14 pm14 an14 cd14 ct14), sl14⟩)
    (c14 : PySem.W.codeIn K cd14 "room_of" = true)
    (k14 : PySem.W.keepIn K (.ref f14) = true)
    (a15 : PySem.W.nsIn K mainGlobals "find_certificate" = some (some (.ref f15)))
    (l15 : K.lookup f15 = some ⟨oc15, od15, .func (PySem.W.fnOf "find_certificate" "find_certificate" (defArgs sFind) (defBody sFind) (defScope sFind) .none kV15 dc15 pm15 an15 cd15 ct15), sl15⟩)
    (c15 : PySem.W.codeIn K cd15 "find_certificate" = true)
    (k15 : PySem.W.keepIn K (.ref f15) = true)
    (a16 : PySem.W.nsIn K mainGlobals "loads_of" = some (some (.ref f16)))
    (l16 : K.lookup f16 = some ⟨oc16, od16, .func (PySem.W.fnOf "loads_of" "loads_of" (defArgs sLoads) (defBody sLoads) (defScope sLoads) .none kV16 dc16 pm16 an16 cd16 ct16), sl16⟩)
    (c16 : PySem.W.codeIn K cd16 "loads_of" = true)
    (k16 : PySem.W.keepIn K (.ref f16) = true)
    (a17 : PySem.W.nsIn K mainGlobals "sets_of_drawers" = some (some (.ref f17)))
    (l17 : K.lookup f17 = some ⟨oc17, od17, .func (PySem.W.fnOf "sets_of_drawers" "sets_of_drawers" (defArgs sSetsOf) (defBody sSetsOf) (defScope sSetsOf) .none kV17 dc17 pm17 an17 cd17 ct17), sl17⟩)
    (c17 : PySem.W.codeIn K cd17 "sets_of_drawers" = true)
    (k17 : PySem.W.keepIn K (.ref f17) = true)
    (a18 : PySem.W.nsIn K mainGlobals "overfull" = some (some (.ref f18)))
    (l18 : K.lookup f18 = some ⟨oc18, od18, .func (PySem.W.fnOf "overfull" "overfull" (defArgs sOver) (defBody sOver) (defScope sOver) .none kV18 dc18 pm18 an18 cd18 ct18), sl18⟩)
    (c18 : PySem.W.codeIn K cd18 "overfull" = true)
    (k18 : PySem.W.keepIn K (.ref f18) = true)
    (a19 : PySem.W.nsIn K mainGlobals "draw_within" = some (some (.ref f19)))
    (l19 : K.lookup f19 = some ⟨oc19, od19, .func (PySem.W.fnOf "draw_within" "draw_within" (defArgs sWithin) (defBody sWithin) (defScope sWithin) .none kV19 dc19 pm19 an19 cd19 ct19), sl19⟩)
    (c19 : PySem.W.codeIn K cd19 "draw_within" = true)
    (k19 : PySem.W.keepIn K (.ref f19) = true)
    (a20 : PySem.W.nsIn K mainGlobals "spare_of" = some (some (.ref f20)))
    (l20 : K.lookup f20 = some ⟨oc20, od20, .func (PySem.W.fnOf "spare_of" "spare_of" (defArgs sSpare) (defBody sSpare) (defScope sSpare) .none kV20 dc20 pm20 an20 cd20 ct20), sl20⟩)
    (c20 : PySem.W.codeIn K cd20 "spare_of" = true)
    (k20 : PySem.W.keepIn K (.ref f20) = true)
    (a21 : PySem.W.nsIn K mainGlobals "certificate_holds" = some (some (.ref f21)))
    (l21 : K.lookup f21 = some ⟨oc21, od21, .func (PySem.W.fnOf "certificate_holds" "certificate_holds" (defArgs sCHolds) (defBody sCHolds) (defScope sCHolds) .none kV21 dc21 pm21 an21 cd21 ct21), sl21⟩)
    (c21 : PySem.W.codeIn K cd21 "certificate_holds" = true)
    (k21 : PySem.W.keepIn K (.ref f21) = true)
    (a22 : PySem.W.nsIn K mainGlobals "is_unlucky_draw" = some (some (.ref f22)))
    (l22 : K.lookup f22 = some ⟨oc22, od22, .func (PySem.W.fnOf "is_unlucky_draw" "is_unlucky_draw" (defArgs sUnl) (defBody sUnl) (defScope sUnl) .none kV22 dc22 pm22 an22 cd22 ct22), sl22⟩)
    (c22 : PySem.W.codeIn K cd22 "is_unlucky_draw" = true)
    (k22 : PySem.W.keepIn K (.ref f22) = true)
    (a23 : PySem.W.nsIn K mainGlobals "is_excluding_table" = some (some (.ref f23)))
    (l23 : K.lookup f23 = some ⟨oc23, od23, .func (PySem.W.fnOf "is_excluding_table" "is_excluding_table" (defArgs sExcl) (defBody sExcl) (defScope sExcl) .none kV23 dc23 pm23 an23 cd23 ct23), sl23⟩)
    (c23 : PySem.W.codeIn K cd23 "is_excluding_table" = true)
    (k23 : PySem.W.keepIn K (.ref f23) = true)
    (a24 : PySem.W.nsIn K mainGlobals "are_overfull" = some (some (.ref f24)))
    (l24 : K.lookup f24 = some ⟨oc24, od24, .func (PySem.W.fnOf "are_overfull" "are_overfull" (defArgs sAreOv) (defBody sAreOv) (defScope sAreOv) .none kV24 dc24 pm24 an24 cd24 ct24), sl24⟩)
    (c24 : PySem.W.codeIn K cd24 "are_overfull" = true)
    (k24 : PySem.W.keepIn K (.ref f24) = true)
    (a25 : PySem.W.nsIn K mainGlobals "are_drawers" = some (some (.ref f25)))
    (l25 : K.lookup f25 = some ⟨oc25, od25, .func (PySem.W.fnOf "are_drawers" "are_drawers" (defArgs sAreDr) (defBody sAreDr) (defScope sAreDr) .none kV25 dc25 pm25 an25 cd25 ct25), sl25⟩)
    (c25 : PySem.W.codeIn K cd25 "are_drawers" = true)
    (k25 : PySem.W.keepIn K (.ref f25) = true)
    (a26 : PySem.W.nsIn K mainGlobals "_law_deck" = some (some (.ref f26)))
    (l26 : K.lookup f26 = some ⟨oc26, od26, .func (PySem.W.fnOf "_law_deck" "_law_deck" (defArgs sDeck) (defBody sDeck) (defScope sDeck) .none kV26 dc26 pm26 an26 cd26 ct26), sl26⟩)
    (c26 : PySem.W.codeIn K cd26 "_law_deck" = true)
    (k26 : PySem.W.keepIn K (.ref f26) = true)
    (a27 : PySem.W.nsIn K mainGlobals "_law_draw" = some (some (.ref f27)))
    (l27 : K.lookup f27 = some ⟨oc27, od27, .func (PySem.W.fnOf "_law_draw" "_law_draw" (defArgs sDraw) (defBody sDraw) (defScope sDraw) .none kV27 dc27 pm27 an27 cd27 ct27), sl27⟩)
    (c27 : PySem.W.codeIn K cd27 "_law_draw" = true)
    (k27 : PySem.W.keepIn K (.ref f27) = true)
    (a28 : PySem.W.nsIn K mainGlobals "_law_stock" = some (some (.ref f28)))
    (l28 : K.lookup f28 = some ⟨oc28, od28, .func (PySem.W.fnOf "_law_stock" "_law_stock" (defArgs sStock) (defBody sStock) (defScope sStock) .none kV28 dc28 pm28 an28 cd28 ct28), sl28⟩)
    (c28 : PySem.W.codeIn K cd28 "_law_stock" = true)
    (k28 : PySem.W.keepIn K (.ref f28) = true)
    (a29 : PySem.W.nsIn K mainGlobals "_law_totals" = some (some (.ref f29)))
    (l29 : K.lookup f29 = some ⟨oc29, od29, .func (PySem.W.fnOf "_law_totals" "_law_totals" (defArgs sLTot) (defBody sLTot) (defScope sLTot) .none kV29 dc29 pm29 an29 cd29 ct29), sl29⟩)
    (c29 : PySem.W.codeIn K cd29 "_law_totals" = true)
    (k29 : PySem.W.keepIn K (.ref f29) = true)
    (a30 : PySem.W.nsIn K mainGlobals "_law_wish" = some (some (.ref f30)))
    (l30 : K.lookup f30 = some ⟨oc30, od30, .func (PySem.W.fnOf "_law_wish" "_law_wish" (defArgs sWish) (defBody sWish) (defScope sWish) .none kV30 dc30 pm30 an30 cd30 ct30), sl30⟩)
    (c30 : PySem.W.codeIn K cd30 "_law_wish" = true)
    (k30 : PySem.W.keepIn K (.ref f30) = true)
    (a31 : PySem.W.nsIn K mainGlobals "_law_plan" = some (some (.ref f31)))
    (l31 : K.lookup f31 = some ⟨oc31, od31, .func (PySem.W.fnOf "_law_plan" "_law_plan" (defArgs sLPlan) (defBody sLPlan) (defScope sLPlan) .none kV31 dc31 pm31 an31 cd31 ct31), sl31⟩)
    (c31 : PySem.W.codeIn K cd31 "_law_plan" = true)
    (k31 : PySem.W.keepIn K (.ref f31) = true)
    (a32 : PySem.W.nsIn K mainGlobals "_law_lucky" = some (some (.ref f32)))
    (l32 : K.lookup f32 = some ⟨oc32, od32, .func (PySem.W.fnOf "_law_lucky" "_law_lucky" (defArgs sLucky) (defBody sLucky) (defScope sLucky) .none kV32 dc32 pm32 an32 cd32 ct32), sl32⟩)
    (c32 : PySem.W.codeIn K cd32 "_law_lucky" = true)
    (k32 : PySem.W.keepIn K (.ref f32) = true)
    (a33 : PySem.W.nsIn K mainGlobals "_law_spoilings" = some (some (.ref f33)))
    (l33 : K.lookup f33 = some ⟨oc33, od33, .func (PySem.W.fnOf "_law_spoilings" "_law_spoilings" (defArgs sLSp) (defBody sLSp) (defScope sLSp) .none kV33 dc33 pm33 an33 cd33 ct33), sl33⟩)
    (c33 : PySem.W.codeIn K cd33 "_law_spoilings" = true)
    (k33 : PySem.W.keepIn K (.ref f33) = true)
    (a34 : PySem.W.nsIn K mainGlobals "_law_caps" = some (some (.ref f34)))
    (l34 : K.lookup f34 = some ⟨oc34, od34, .func (PySem.W.fnOf "_law_caps" "_law_caps" (defArgs sLCaps) (defBody sLCaps) (defScope sLCaps) .none kV34 dc34 pm34 an34 cd34 ct34), sl34⟩)
    (c34 : PySem.W.codeIn K cd34 "_law_caps" = true)
    (k34 : PySem.W.keepIn K (.ref f34) = true)
    (a35 : PySem.W.nsIn K mainGlobals "_law_room" = some (some (.ref f35)))
    (l35 : K.lookup f35 = some ⟨oc35, od35, .func (PySem.W.fnOf "_law_room" "_law_room" (defArgs sRoom) (defBody sRoom) (defScope sRoom) .none kV35 dc35 pm35 an35 cd35 ct35), sl35⟩)
    (c35 : PySem.W.codeIn K cd35 "_law_room" = true)
    (k35 : PySem.W.keepIn K (.ref f35) = true)
    (a36 : PySem.W.nsIn K mainGlobals "_law_sets" = some (some (.ref f36)))
    (l36 : K.lookup f36 = some ⟨oc36, od36, .func (PySem.W.fnOf "_law_sets" "_law_sets" (defArgs sSets) (defBody sSets) (defScope sSets) .none kV36 dc36 pm36 an36 cd36 ct36), sl36⟩)
    (c36 : PySem.W.codeIn K cd36 "_law_sets" = true)
    (k36 : PySem.W.keepIn K (.ref f36) = true)
    (a37 : PySem.W.nsIn K mainGlobals "_law_excess" = some (some (.ref f37)))
    (l37 : K.lookup f37 = some ⟨oc37, od37, .func (PySem.W.fnOf "_law_excess" "_law_excess" (defArgs sExc) (defBody sExc) (defScope sExc) .none kV37 dc37 pm37 an37 cd37 ct37), sl37⟩)
    (c37 : PySem.W.codeIn K cd37 "_law_excess" = true)
    (k37 : PySem.W.keepIn K (.ref f37) = true)
    (a38 : PySem.W.nsIn K mainGlobals "_law_number" = some (some (.ref f38)))
    (l38 : K.lookup f38 = some ⟨oc38, od38, .func (PySem.W.fnOf "_law_number" "_law_number" (defArgs sNum) (defBody sNum) (defScope sNum) .none kV38 dc38 pm38 an38 cd38 ct38), sl38⟩)
    (c38 : PySem.W.codeIn K cd38 "_law_number" = true)
    (k38 : PySem.W.keepIn K (.ref f38) = true)
    (a39 : PySem.W.nsIn K mainGlobals "_law_is_draw" = some (some (.ref f39)))
    (l39 : K.lookup f39 = some ⟨oc39, od39, .func (PySem.W.fnOf "_law_is_draw" "_law_is_draw" (defArgs sIsDraw) (defBody sIsDraw) (defScope sIsDraw) .none kV39 dc39 pm39 an39 cd39 ct39), sl39⟩)
    (c39 : PySem.W.codeIn K cd39 "_law_is_draw" = true)
    (k39 : PySem.W.keepIn K (.ref f39) = true)
    (a40 : PySem.W.nsIn K mainGlobals "_law_known" = some (some (.ref f40)))
    (l40 : K.lookup f40 = some ⟨oc40, od40, .func (PySem.W.fnOf "_law_known" "_law_known" (defArgs sKnown) (defBody sKnown) (defScope sKnown) .none kV40 dc40 pm40 an40 cd40 ct40), sl40⟩)
    (c40 : PySem.W.codeIn K cd40 "_law_known" = true)
    (k40 : PySem.W.keepIn K (.ref f40) = true)
    (a41 : PySem.W.nsIn K mainGlobals "_law_holds" = some (some (.ref f41)))
    (l41 : K.lookup f41 = some ⟨oc41, od41, .func (PySem.W.fnOf "_law_holds" "_law_holds" (defArgs sHolds) (defBody sHolds) (defScope sHolds) .none kV41 dc41 pm41 an41 cd41 ct41), sl41⟩)
    (c41 : PySem.W.codeIn K cd41 "_law_holds" = true)
    (k41 : PySem.W.keepIn K (.ref f41) = true)
    (a42 : PySem.W.nsIn K mainGlobals "_law_any_draw" = some (some (.ref f42)))
    (l42 : K.lookup f42 = some ⟨oc42, od42, .func (PySem.W.fnOf "_law_any_draw" "_law_any_draw" (defArgs sAnyDr) (defBody sAnyDr) (defScope sAnyDr) .none kV42 dc42 pm42 an42 cd42 ct42), sl42⟩)
    (c42 : PySem.W.codeIn K cd42 "_law_any_draw" = true)
    (k42 : PySem.W.keepIn K (.ref f42) = true)
    (a43 : PySem.W.nsIn K mainGlobals "_law_odd" = some (some (.ref f43)))
    (l43 : K.lookup f43 = some ⟨oc43, od43, .func (PySem.W.fnOf "_law_odd" "_law_odd" (defArgs sOdd) (defBody sOdd) (defScope sOdd) .none kV43 dc43 pm43 an43 cd43 ct43), sl43⟩)
    (c43 : PySem.W.codeIn K cd43 "_law_odd" = true)
    (k43 : PySem.W.keepIn K (.ref f43) = true)
    (a44 : PySem.W.nsIn K mainGlobals "_law_replaced" = some (some (.ref f44)))
    (l44 : K.lookup f44 = some ⟨oc44, od44, .func (PySem.W.fnOf "_law_replaced" "_law_replaced" (defArgs sRepl) (defBody sRepl) (defScope sRepl) .none kV44 dc44 pm44 an44 cd44 ct44), sl44⟩)
    (c44 : PySem.W.codeIn K cd44 "_law_replaced" = true)
    (k44 : PySem.W.keepIn K (.ref f44) = true)
    (a45 : PySem.W.nsIn K mainGlobals "_law_any_table" = some (some (.ref f45)))
    (l45 : K.lookup f45 = some ⟨oc45, od45, .func (PySem.W.fnOf "_law_any_table" "_law_any_table" (defArgs sAnyTab) (defBody sAnyTab) (defScope sAnyTab) .none kV45 dc45 pm45 an45 cd45 ct45), sl45⟩)
    (c45 : PySem.W.codeIn K cd45 "_law_any_table" = true)
    (k45 : PySem.W.keepIn K (.ref f45) = true)
    (a46 : PySem.W.nsIn K mainGlobals "_law_values" = some (some (.ref f46)))
    (l46 : K.lookup f46 = some ⟨oc46, od46, .func (PySem.W.fnOf "_law_values" "_law_values" (defArgs sVals) (defBody sVals) (defScope sVals) .none kV46 dc46 pm46 an46 cd46 ct46), sl46⟩)
    (c46 : PySem.W.codeIn K cd46 "_law_values" = true)
    (k46 : PySem.W.keepIn K (.ref f46) = true)
    (a47 : PySem.W.nsIn K mainGlobals "law" = some (some (.ref f47)))
    (l47 : K.lookup f47 = some ⟨oc47, od47, .func (PySem.W.fnOf "law" "law" (defArgs sLaw) (defBody sLaw) (defScope sLaw) .none kV47 dc47 pm47 an47 cd47 ct47), sl47⟩)
    (c47 : PySem.W.codeIn K cd47 "law" = true)
    (k47 : PySem.W.keepIn K (.ref f47) = true)
    (z1 : PySem.W.nsIn K mainGlobals "all" = some none)
    (z2 : PySem.W.nsIn K mainGlobals "tuple" = some none)
    (z3 : PySem.W.nsIn K mainGlobals "enumerate" = some none)
    (z4 : PySem.W.nsIn K mainGlobals "sum" = some none)
    (z5 : PySem.W.nsIn K mainGlobals "range" = some none)
    (z6 : PySem.W.nsIn K mainGlobals "list" = some none)
    (z7 : PySem.W.nsIn K mainGlobals "zip" = some none)
    (z8 : PySem.W.nsIn K mainGlobals "isinstance" = some none)
    (z9 : PySem.W.nsIn K mainGlobals "int" = some none)
    (z10 : PySem.W.nsIn K mainGlobals "len" = some none)
    (z11 : PySem.W.nsIn K mainGlobals "min" = some none)
    (z12 : PySem.W.nsIn K mainGlobals "max" = some none)
    (z13 : PySem.W.nsIn K mainGlobals "bool" = some none)
    (z14 : PySem.W.nsIn K mainGlobals "abs" = some none)
    (z15 : PySem.W.nsIn K mainGlobals "str" = some none)
    (z16 : PySem.W.nsIn K mainGlobals "repr" = some none)
    : ∃ fd : FuncData, (∀ (s : Shared) (v : Value), BindsTo s fd ⟨[v], []⟩ [("_law_script", v)]) ∧ ∀ base : Heap, K.In base → base.Ns mainGlobals mg → FnG l.prog w K mg base 12 fa fd ["_law_script"] (spLaw K) := by
  cases hfa.symm.trans (PySem.W.mg_of kin nsG a47)
  have F1 := fun_mk (st := sIsNum) l1 c1 k1
  have F2 := fun_mk (st := sUpTo) l2 c2 k2
  have F3 := fun_mk (st := sTupOf) l3 c3 k3
  have F4 := fun_mk (st := sNums) l4 c4 k4
  have F5 := fun_mk (st := sNumsUp) l5 c5 k5
  have F6 := fun_mk (st := sTotals) l6 c6 k6
  have F7 := fun_mk (st := sFul) l7 c7 k7
  have F8 := fun_mk (st := sCont) l8 c8 k8
  have F9 := fun_mk (st := sSpoil) l9 c9 k9
  have F10 := fun_mk (st := sCaps) l10 c10 k10
  have F11 := fun_mk (st := sIsDr) l11 c11 k11
  have F12 := fun_mk (st := sTaken) l12 c12 k12
  have F13 := fun_mk (st := sRoomIn) l13 c13 k13
  have F14 := fun_mk (st := sRoomOf) l14 c14 k14
  have F15 := fun_mk (st := sFind) l15 c15 k15
  have F16 := fun_mk (st := sLoads) l16 c16 k16
  have F17 := fun_mk (st := sSetsOf) l17 c17 k17
  have F18 := fun_mk (st := sOver) l18 c18 k18
  have F19 := fun_mk (st := sWithin) l19 c19 k19
  have F20 := fun_mk (st := sSpare) l20 c20 k20
  have F21 := fun_mk (st := sCHolds) l21 c21 k21
  have F22 := fun_mk (st := sUnl) l22 c22 k22
  have F23 := fun_mk (st := sExcl) l23 c23 k23
  have F24 := fun_mk (st := sAreOv) l24 c24 k24
  have F25 := fun_mk (st := sAreDr) l25 c25 k25
  have F26 := fun_mk (st := sDeck) l26 c26 k26
  have F27 := fun_mk (st := sDraw) l27 c27 k27
  have F28 := fun_mk (st := sStock) l28 c28 k28
  have F29 := fun_mk (st := sLTot) l29 c29 k29
  have F30 := fun_mk (st := sWish) l30 c30 k30
  have F31 := fun_mk (st := sLPlan) l31 c31 k31
  have F32 := fun_mk (st := sLucky) l32 c32 k32
  have F33 := fun_mk (st := sLSp) l33 c33 k33
  have F34 := fun_mk (st := sLCaps) l34 c34 k34
  have F35 := fun_mk (st := sRoom) l35 c35 k35
  have F36 := fun_mk (st := sSets) l36 c36 k36
  have F37 := fun_mk (st := sExc) l37 c37 k37
  have F38 := fun_mk (st := sNum) l38 c38 k38
  have F39 := fun_mk (st := sIsDraw) l39 c39 k39
  have F40 := fun_mk (st := sKnown) l40 c40 k40
  have F41 := fun_mk (st := sHolds) l41 c41 k41
  have F42 := fun_mk (st := sAnyDr) l42 c42 k42
  have F43 := fun_mk (st := sOdd) l43 c43 k43
  have F44 := fun_mk (st := sRepl) l44 c44 k44
  have F45 := fun_mk (st := sAnyTab) l45 c45 k45
  have F46 := fun_mk (st := sVals) l46 c46 k46
  have F47 := fun_mk (st := sLaw) l47 c47 k47
  have b1 := F1.binds (ps := ["value"]) fun _ _ _ _ _ _ us hl => match us, hl with | [_], _ => rfl
  have b2 := F2.binds (ps := ["value", "most"]) fun _ _ _ _ _ _ us hl => match us, hl with | [_, _], _ => rfl
  have b3 := F3.binds (ps := ["value", "fewest", "most"]) fun _ _ _ _ _ _ us hl => match us, hl with | [_, _, _], _ => rfl
  have b4 := F4.binds (ps := ["value", "fewest", "most", "limit"]) fun _ _ _ _ _ _ us hl => match us, hl with | [_, _, _, _], _ => rfl
  have b5 := F5.binds (ps := ["value", "limits"]) fun _ _ _ _ _ _ us hl => match us, hl with | [_, _], _ => rfl
  have b6 := F6.binds (ps := ["stock"]) fun _ _ _ _ _ _ us hl => match us, hl with | [_], _ => rfl
  have b7 := F7.binds (ps := ["collections", "counts"]) fun _ _ _ _ _ _ us hl => match us, hl with | [_, _], _ => rfl
  have b8 := F8.binds (ps := ["counts", "collection"]) fun _ _ _ _ _ _ us hl => match us, hl with | [_, _], _ => rfl
  have b9 := F9.binds (ps := ["collections"]) fun _ _ _ _ _ _ us hl => match us, hl with | [_], _ => rfl
  have b10 := F10.binds (ps := ["collections", "spoiling"]) fun _ _ _ _ _ _ us hl => match us, hl with | [_, _], _ => rfl
  have b11 := F11.binds (ps := ["stock", "plan", "value"]) fun _ _ _ _ _ _ us hl => match us, hl with | [_, _, _], _ => rfl
  have b12 := F12.binds (ps := ["drawer", "number", "value"]) fun _ _ _ _ _ _ us hl => match us, hl with | [_, _, _], _ => rfl
  have b13 := F13.binds (ps := ["stock", "caps", "drawers"]) fun _ _ _ _ _ _ us hl => match us, hl with | [_, _, _], _ => rfl
  have b14 := F14.binds (ps := ["totals", "caps"]) fun _ _ _ _ _ _ us hl => match us, hl with | [_, _], _ => rfl
  have b15 := F15.binds (ps := ["stock", "collections", "plan"]) fun _ _ _ _ _ _ us hl => match us, hl with | [_, _, _], _ => rfl
  have b16 := F16.binds (ps := ["stock", "plan"]) fun _ _ _ _ _ _ us hl => match us, hl with | [_, _], _ => rfl
  have b17 := F17.binds (ps := ["stock"]) fun _ _ _ _ _ _ us hl => match us, hl with | [_], _ => rfl
  have b18 := F18.binds (ps := ["loads", "caps"]) fun _ _ _ _ _ _ us hl => match us, hl with | [_, _], _ => rfl
  have b19 := F19.binds (ps := ["stock", "caps", "plan"]) fun _ _ _ _ _ _ us hl => match us, hl with | [_, _, _], _ => rfl
  have b20 := F20.binds (ps := ["loads", "caps", "kind"]) fun _ _ _ _ _ _ us hl => match us, hl with | [_, _, _], _ => rfl
  have b21 := F21.binds (ps := ["stock", "collections", "plan", "value"]) fun _ _ _ _ _ _ us hl => match us, hl with | [_, _, _, _], _ => rfl
  have b22 := F22.binds (ps := ["stock", "collections", "plan", "value"]) fun _ _ _ _ _ _ us hl => match us, hl with | [_, _, _, _], _ => rfl
  have b23 := F23.binds (ps := ["stock", "collections", "plan", "value"]) fun _ _ _ _ _ _ us hl => match us, hl with | [_, _, _, _], _ => rfl
  have b24 := F24.binds (ps := ["stock", "caps", "plan", "value"]) fun _ _ _ _ _ _ us hl => match us, hl with | [_, _, _, _], _ => rfl
  have b25 := F25.binds (ps := ["stock", "value"]) fun _ _ _ _ _ _ us hl => match us, hl with | [_, _], _ => rfl
  have b26 := F26.binds (ps := ["_law_script"]) fun _ _ _ _ _ _ us hl => match us, hl with | [_], _ => rfl
  have b27 := F27.binds (ps := ["_law_deck_here", "_law_bound"]) fun _ _ _ _ _ _ us hl => match us, hl with | [_, _], _ => rfl
  have b28 := F28.binds (ps := ["_law_deck_here", "_law_drawers", "_law_kinds", "_law_most"]) fun _ _ _ _ _ _ us hl => match us, hl with | [_, _, _, _], _ => rfl
  have b29 := F29.binds (ps := ["_law_rows"]) fun _ _ _ _ _ _ us hl => match us, hl with | [_], _ => rfl
  have b30 := F30.binds (ps := ["_law_deck_here", "_law_stock_here"]) fun _ _ _ _ _ _ us hl => match us, hl with | [_, _], _ => rfl
  have b31 := F31.binds (ps := ["_law_deck_here", "_law_stock_here"]) fun _ _ _ _ _ _ us hl => match us, hl with | [_, _], _ => rfl
  have b32 := F32.binds (ps := ["_law_collections", "_law_counts"]) fun _ _ _ _ _ _ us hl => match us, hl with | [_, _], _ => rfl
  have b33 := F33.binds (ps := ["_law_collections"]) fun _ _ _ _ _ _ us hl => match us, hl with | [_], _ => rfl
  have b34 := F34.binds (ps := ["_law_collections", "_law_spoiling"]) fun _ _ _ _ _ _ us hl => match us, hl with | [_, _], _ => rfl
  have b35 := F35.binds (ps := ["_law_stock_here", "_law_caps_here", "_law_drawers"]) fun _ _ _ _ _ _ us hl => match us, hl with | [_, _, _], _ => rfl
  have b36 := F36.binds (ps := ["_law_count"]) fun _ _ _ _ _ _ us hl => match us, hl with | [_], _ => rfl
  have b37 := F37.binds (ps := ["_law_stock_here", "_law_caps_here", "_law_plan_here"]) fun _ _ _ _ _ _ us hl => match us, hl with | [_, _, _], _ => rfl
  have b38 := F38.binds (ps := ["_law_value", "_law_low", "_law_high"]) fun _ _ _ _ _ _ us hl => match us, hl with | [_, _, _], _ => rfl
  have b39 := F39.binds (ps := ["_law_stock_here", "_law_plan_here", "_law_value"]) fun _ _ _ _ _ _ us hl => match us, hl with | [_, _, _], _ => rfl
  have b40 := F40.binds (ps := ["_law_stock_here", "_law_collections", "_law_plan_here"]) fun _ _ _ _ _ _ us hl => match us, hl with | [_, _, _], _ => rfl
  have b41 := F41.binds (ps := ["_law_stock_here", "_law_collections", "_law_plan_here", "_law_value", "_law_known_here"]) fun _ _ _ _ _ _ us hl => match us, hl with | [_, _, _, _, _], _ => rfl
  have b42 := F42.binds (ps := ["_law_deck_here", "_law_stock_here", "_law_plan_here"]) fun _ _ _ _ _ _ us hl => match us, hl with | [_, _, _], _ => rfl
  have b43 := F43.binds (ps := ["_law_deck_here"]) fun _ _ _ _ _ _ us hl => match us, hl with | [_], _ => rfl
  have b44 := F44.binds (ps := ["_law_deck_here", "_law_value", "_law_depth"]) fun _ _ _ _ _ _ us hl => match us, hl with | [_, _, _], _ => rfl
  have b45 := F45.binds (ps := ["_law_deck_here", "_law_stock_here", "_law_known_here"]) fun _ _ _ _ _ _ us hl => match us, hl with | [_, _, _], _ => rfl
  have b46 := F46.binds (ps := ["_law_deck_here", "_law_stock_here", "_law_collections", "_law_plan_here", "_law_known_here"]) fun _ _ _ _ _ _ us hl => match us, hl with | [_, _, _, _, _], _ => rfl
  refine ⟨PySem.W.fnOf "law" "law" (defArgs sLaw) (defBody sLaw) (defScope sLaw) .none kV47 dc47 pm47 an47 cd47 ct47, fun s v => .of_eq rfl, fun base _ _ => ?_⟩
  exact ok_law F47 { N := F1, bN := b1, gN := PySem.W.mg_of kin nsG a1, U := F2, bU := b2, gU := PySem.W.mg_of kin nsG a2, Tu := F3, bTu := b3, gTu := PySem.W.mg_of kin nsG a3, A := F4, bA := b4, gA := PySem.W.mg_of kin nsG a4, Au := F5, bAu := b5, gAu := PySem.W.mg_of kin nsG a5, O := F6, bO := b6, gO := PySem.W.mg_of kin nsG a6, Fu := F7, bFu := b7, gFu := PySem.W.mg_of kin nsG a7, Co := F8, bCo := b8, gCo := PySem.W.mg_of kin nsG a8, Sp := F9, bSp := b9, gSp := PySem.W.mg_of kin nsG a9, Ca := F10, bCa := b10, gCa := PySem.W.mg_of kin nsG a10, Ir := F11, bIr := b11, gIr := PySem.W.mg_of kin nsG a11, Tk := F12, bTk := b12, gTk := PySem.W.mg_of kin nsG a12, I := F13, bI := b13, gI := PySem.W.mg_of kin nsG a13, R := F14, bR := b14, gR := PySem.W.mg_of kin nsG a14, Fc := F15, bFc := b15, gFc := PySem.W.mg_of kin nsG a15, Lo := F16, bLo := b16, gLo := PySem.W.mg_of kin nsG a16, So := F17, bSo := b17, gSo := PySem.W.mg_of kin nsG a17, Ov := F18, bOv := b18, gOv := PySem.W.mg_of kin nsG a18, Dw := F19, bDw := b19, gDw := PySem.W.mg_of kin nsG a19, Sv := F20, bSv := b20, gSv := PySem.W.mg_of kin nsG a20, Ch := F21, bCh := b21, gCh := PySem.W.mg_of kin nsG a21, Ud := F22, bUd := b22, gUd := PySem.W.mg_of kin nsG a22, Et := F23, bEt := b23, gEt := PySem.W.mg_of kin nsG a23, Ao := F24, bAo := b24, gAo := PySem.W.mg_of kin nsG a24, Ad := F25, bAd := b25, gAd := PySem.W.mg_of kin nsG a25, Dk := F26, bDk := b26, gDk := PySem.W.mg_of kin nsG a26, D := F27, bD := b27, gD := PySem.W.mg_of kin nsG a27, S := F28, bS := b28, gS := PySem.W.mg_of kin nsG a28, Tt := F29, bTt := b29, gTt := PySem.W.mg_of kin nsG a29, W := F30, bW := b30, gW := PySem.W.mg_of kin nsG a30, Pl := F31, bPl := b31, gPl := PySem.W.mg_of kin nsG a31, Lu := F32, bLu := b32, gLu := PySem.W.mg_of kin nsG a32, Ls := F33, bLs := b33, gLs := PySem.W.mg_of kin nsG a33, Lc := F34, bLc := b34, gLc := PySem.W.mg_of kin nsG a34, M := F35, bM := b35, gM := PySem.W.mg_of kin nsG a35, E := F36, bE := b36, gE := PySem.W.mg_of kin nsG a36, X := F37, bX := b37, gX := PySem.W.mg_of kin nsG a37, Nu := F38, bNu := b38, gNu := PySem.W.mg_of kin nsG a38, Id := F39, bId := b39, gId := PySem.W.mg_of kin nsG a39, Kn := F40, bKn := b40, gKn := PySem.W.mg_of kin nsG a40, Ho := F41, bHo := b41, gHo := PySem.W.mg_of kin nsG a41, Ay := F42, bAy := b42, gAy := PySem.W.mg_of kin nsG a42, Oo := F43, bOo := b43, gOo := PySem.W.mg_of kin nsG a43, Rp := F44, bRp := b44, gRp := PySem.W.mg_of kin nsG a44, At := F45, bAt := b45, gAt := PySem.W.mg_of kin nsG a45, Va := F46, bVa := b46, gVa := PySem.W.mg_of kin nsG a46, m_all := PySem.W.mg_none_of kin nsG z1, m_tuple := PySem.W.mg_none_of kin nsG z2, m_enumerate := PySem.W.mg_none_of kin nsG z3, m_sum := PySem.W.mg_none_of kin nsG z4, m_range := PySem.W.mg_none_of kin nsG z5, m_list := PySem.W.mg_none_of kin nsG z6, m_zip := PySem.W.mg_none_of kin nsG z7, m_isinstance := PySem.W.mg_none_of kin nsG z8, m_int := PySem.W.mg_none_of kin nsG z9, m_len := PySem.W.mg_none_of kin nsG z10, m_min := PySem.W.mg_none_of kin nsG z11, m_max := PySem.W.mg_none_of kin nsG z12, m_bool := PySem.W.mg_none_of kin nsG z13, m_abs := PySem.W.mg_none_of kin nsG z14, m_str := PySem.W.mg_none_of kin nsG z15, m_repr := PySem.W.mg_none_of kin nsG z16 }
end DD
open PySem PySem.W PyProof.Rows
set_option maxHeartbeats 0 in
theorem PySem.Challenge.cw_darkdrawers_k13_certificates_judged_holds : PySem.Challenge.rw_darkdrawers_k13_certificates_judged.Holds := by
  w_on; o_law; k_head; (case hw => w_witness2)
  k_fill
  refine DD.walk_ofG (l := PySem.Challenge.rw_darkdrawers_k13_certificates_judged) (n := 63) (k := 12) (x := "_law_script") (sp := fun w => DD.spLaw _) rfl (by decide) rfl ⟨rfl, by decide, by decide⟩ (fun w h Y => PySem.W.kIn_of Y) ?F
    (fun _ _ a ns hl _ hS => ⟨a, ns, rfl, hS, hl, fun _ => rfl⟩)
  case F =>
    intro w mg fa h KX G hmg
    refine' DD.all_mk KX G hmg ?a1 ?l1 ?c1 ?k1 ?a2 ?l2 ?c2 ?k2 ?a3 ?l3 ?c3 ?k3 ?a4 ?l4 ?c4 ?k4 ?a5 ?l5 ?c5 ?k5 ?a6 ?l6 ?c6 ?k6 ?a7 ?l7 ?c7 ?k7 ?a8 ?l8 ?c8 ?k8 ?a9 ?l9 ?c9 ?k9 ?a10 ?l10 ?c10 ?k10 ?a11 ?l11 ?c11 ?k11 ?a12 ?l12 ?c12 ?k12 ?a13 ?l13 ?c13 ?k13 ?a14 ?l14 ?c14 ?k14 ?a15 ?l15 ?c15 ?k15 ?a16 ?l16 ?c16 ?k16 ?a17 ?l17 ?c17 ?k17 ?a18 ?l18 ?c18 ?k18 ?a19 ?l19 ?c19 ?k19 ?a20 ?l20 ?c20 ?k20 ?a21 ?l21 ?c21 ?k21 ?a22 ?l22 ?c22 ?k22 ?a23 ?l23 ?c23 ?k23 ?a24 ?l24 ?c24 ?k24 ?a25 ?l25 ?c25 ?k25 ?a26 ?l26 ?c26 ?k26 ?a27 ?l27 ?c27 ?k27 ?a28 ?l28 ?c28 ?k28 ?a29 ?l29 ?c29 ?k29 ?a30 ?l30 ?c30 ?k30 ?a31 ?l31 ?c31 ?k31 ?a32 ?l32 ?c32 ?k32 ?a33 ?l33 ?c33 ?k33 ?a34 ?l34 ?c34 ?k34 ?a35 ?l35 ?c35 ?k35 ?a36 ?l36 ?c36 ?k36 ?a37 ?l37 ?c37 ?k37 ?a38 ?l38 ?c38 ?k38 ?a39 ?l39 ?c39 ?k39 ?a40 ?l40 ?c40 ?k40 ?a41 ?l41 ?c41 ?k41 ?a42 ?l42 ?c42 ?k42 ?a43 ?l43 ?c43 ?k43 ?a44 ?l44 ?c44 ?k44 ?a45 ?l45 ?c45 ?k45 ?a46 ?l46 ?c46 ?k46 ?a47 ?l47 ?c47 ?k47 ?z1 ?z2 ?z3 ?z4 ?z5 ?z6 ?z7 ?z8 ?z9 ?z10 ?z11 ?z12 ?z13 ?z14 ?z15 ?z16
    (case a1 => k_is); (case l1 => k_is); (case c1 => k_is); (case k1 => k_is); (case a2 => k_is); (case l2 => k_is); (case c2 => k_is); (case k2 => k_is); (case a3 => k_is); (case l3 => k_is); (case c3 => k_is); (case k3 => k_is); (case a4 => k_is); (case l4 => k_is); (case c4 => k_is); (case k4 => k_is); (case a5 => k_is); (case l5 => k_is); (case c5 => k_is); (case k5 => k_is); (case a6 => k_is); (case l6 => k_is); (case c6 => k_is); (case k6 => k_is); (case a7 => k_is); (case l7 => k_is); (case c7 => k_is); (case k7 => k_is); (case a8 => k_is); (case l8 => k_is); (case c8 => k_is); (case k8 => k_is); (case a9 => k_is); (case l9 => k_is); (case c9 => k_is); (case k9 => k_is); (case a10 => k_is); (case l10 => k_is); (case c10 => k_is); (case k10 => k_is); (case a11 => k_is); (case l11 => k_is); (case c11 => k_is); (case k11 => k_is); (case a12 => k_is); (case l12 => k_is); (case c12 => k_is); (case k12 => k_is); (case a13 => k_is); (case l13 => k_is); (case c13 => k_is); (case k13 => k_is); (case a14 => k_is); (case l14 => k_is); (case c14 => k_is); (case k14 => k_is); (case a15 => k_is); (case l15 => k_is); (case c15 => k_is); (case k15 => k_is); (case a16 => k_is); (case l16 => k_is); (case c16 => k_is); (case k16 => k_is); (case a17 => k_is); (case l17 => k_is); (case c17 => k_is); (case k17 => k_is); (case a18 => k_is); (case l18 => k_is); (case c18 => k_is); (case k18 => k_is); (case a19 => k_is); (case l19 => k_is); (case c19 => k_is); (case k19 => k_is); (case a20 => k_is); (case l20 => k_is); (case c20 => k_is); (case k20 => k_is); (case a21 => k_is); (case l21 => k_is); (case c21 => k_is); (case k21 => k_is); (case a22 => k_is); (case l22 => k_is); (case c22 => k_is); (case k22 => k_is); (case a23 => k_is); (case l23 => k_is); (case c23 => k_is); (case k23 => k_is); (case a24 => k_is); (case l24 => k_is); (case c24 => k_is); (case k24 => k_is); (case a25 => k_is); (case l25 => k_is); (case c25 => k_is); (case k25 => k_is); (case a26 => k_is); (case l26 => k_is); (case c26 => k_is); (case k26 => k_is); (case a27 => k_is); (case l27 => k_is); (case c27 => k_is); (case k27 => k_is); (case a28 => k_is); (case l28 => k_is); (case c28 => k_is); (case k28 => k_is); (case a29 => k_is); (case l29 => k_is); (case c29 => k_is); (case k29 => k_is); (case a30 => k_is); (case l30 => k_is); (case c30 => k_is); (case k30 => k_is); (case a31 => k_is); (case l31 => k_is); (case c31 => k_is); (case k31 => k_is); (case a32 => k_is); (case l32 => k_is); (case c32 => k_is); (case k32 => k_is); (case a33 => k_is); (case l33 => k_is); (case c33 => k_is); (case k33 => k_is); (case a34 => k_is); (case l34 => k_is); (case c34 => k_is); (case k34 => k_is); (case a35 => k_is); (case l35 => k_is); (case c35 => k_is); (case k35 => k_is); (case a36 => k_is); (case l36 => k_is); (case c36 => k_is); (case k36 => k_is); (case a37 => k_is); (case l37 => k_is); (case c37 => k_is); (case k37 => k_is); (case a38 => k_is); (case l38 => k_is); (case c38 => k_is); (case k38 => k_is); (case a39 => k_is); (case l39 => k_is); (case c39 => k_is); (case k39 => k_is); (case a40 => k_is); (case l40 => k_is); (case c40 => k_is); (case k40 => k_is); (case a41 => k_is); (case l41 => k_is); (case c41 => k_is); (case k41 => k_is); (case a42 => k_is); (case l42 => k_is); (case c42 => k_is); (case k42 => k_is); (case a43 => k_is); (case l43 => k_is); (case c43 => k_is); (case k43 => k_is); (case a44 => k_is); (case l44 => k_is); (case c44 => k_is); (case k44 => k_is); (case a45 => k_is); (case l45 => k_is); (case c45 => k_is); (case k45 => k_is); (case a46 => k_is); (case l46 => k_is); (case c46 => k_is); (case k46 => k_is); (case a47 => k_is); (case l47 => k_is); (case c47 => k_is); (case k47 => k_is); (case z1 => k_is); (case z2 => k_is); (case z3 => k_is); (case z4 => k_is); (case z5 => k_is); (case z6 => k_is); (case z7 => k_is); (case z8 => k_is); (case z9 => k_is); (case z10 => k_is); (case z11 => k_is); (case z12 => k_is); (case z13 => k_is); (case z14 => k_is); (case z15 => k_is); (case z16 => k_is)
