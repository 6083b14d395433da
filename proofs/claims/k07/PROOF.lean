import PyProof.Rows.All
import Wide.All
import OpenK.AllK
import Wide.FinOn
import HandS.ForMost
import HandS.Wide
import HandS.TupAny
import HandS.TupMul
import HandS.Style
import HandS.Conv
import HandS.Zip
import PyProof.ReprRoads
import PyProof.SumWalkG
import PyProof.WalksMore
import KE.DataMinMax
import HandS.Evl
import PyProof.ReprBulk
import PyProof.FitsInt
import KE.GoesMore
import PyProof.Draws
import HandS.SortRule
import HandS.Walk
import KE.DatumOrd
import KE.DataFind
import HandS.SetFor
import PyProof.Rows.RowBridgeK
import PySem.Challenge.RW_roadbikes_k07_waits
set_option Elab.async false
set_option linter.all false
set_option maxRecDepth 100000
set_option maxHeartbeats 4000000
namespace Rb
open PySem PySem.Spec PyProof.Rows L2

/-! repr of data -/
def rRepr (K : PySem.W.Frag) : List V → Hp → VK → Prop := fun vs H Q =>
  ∃ v d, vs = [v] ∧ Dp K H v d ∧ d.showable = true ∧ d.depth ≤ 20 ∧ d.shown.length ≤ sizeLine ∧ Q (.str d.shown) H
theorem Dp.noDict {K : PySem.W.Frag} {H : Hp} : ∀ (d : PyData) (v : V), Dp K H v d → d.hasDict = false
  | .none, _, _ => by simp only [PyData.hasDict]
  | .bool _, _, _ => by simp only [PyData.hasDict]
  | .int _, _, _ => by simp only [PyData.hasDict]
  | .str _, _, _ => by simp only [PyData.hasDict]
  | .list ds, _, h => by
    cases h with
    | lst _ ha => simp only [PyData.hasDict]; exact all ds _ ha
  | .tuple ds, _, h => by
    cases h with
    | tup _ ha => simp only [PyData.hasDict]; exact all ds _ ha
  | .dict _, _, h => by cases h
where all {K : PySem.W.Frag} {H : Hp} : ∀ (ds : List PyData) (vs : List V), DpAll K H vs ds → PyData.hasDictAll ds = false
  | [], _, _ => by simp only [PyData.hasDictAll]
  | d :: ds, _, h => by
    cases h with
    | cons h1 h2 => simp only [PyData.hasDictAll, Dp.noDict d _ h1, all ds _ h2, Bool.or_false]
theorem call_reprD {X : Cx} (hg : X.A.guards = some []) (hu : X.A.units + 64 < cLine) : CallR X (.builtin "repr") (rRepr X.K) := by
  intro pins s σ H vs us Q I r h
  obtain ⟨v, d, rfl, hd, hs, hdep, hsz, q⟩ := h
  obtain ⟨u, rfl, ru⟩ := vals1 r
  obtain ⟨as, rd⟩ := Dp.reads I d v u hd ru
  cases v with
  | ref a =>
    cases ru
    refine repr_of_reads' rd hs (fun e => by rw [Dp.noDict d _ hd] at e; cases e) hg (by omega) (fun _ _ e => e) (fun h' t tk hk => ?_) hsz
    exact ⟨.str _, H, I.kept hk, ⟨_, rfl⟩, q⟩
  | int i =>
    obtain ⟨t, rfl⟩ := ru
    cases hd
    simp only [PyData.showable, decide_eq_true_eq] at hs
    simp only [PyData.shown] at q
    exact PySem.P.repr_of_int hs ⟨.str _, H, I.tok _, ⟨_, rfl⟩, q⟩
  | str x =>
    obtain ⟨t, rfl⟩ := ru
    cases hd
    simp only [PyData.shown] at q hsz
    exact PySem.P.repr_of_str ⟨.str _, H, I.tok _, ⟨_, rfl⟩, q⟩ hsz
  | bl b =>
    cases ru
    cases hd
    simp only [PyData.shown] at q
    exact PySem.P.repr_of_bool ⟨.str _, H, I.tok _, ⟨_, rfl⟩, q⟩
  | non =>
    cases ru
    cases hd
    simp only [PyData.shown] at q
    exact PySem.P.repr_of_none ⟨.str _, H, I.tok _, ⟨_, rfl⟩, q⟩
  | byt b => cases hd
  | flt b => cases hd
  | ty n => cases hd

/-! sum of a tuple of ints -/
def rSumT (K : PySem.W.Frag) : List V → Hp → VK → Prop := fun vs H Q => ∃ (a : Addr) (ns : List Int), vs = [V.ref a] ∧ SqT K H a (ns.map V.int) ∧ Q (.int ns.sum) H
theorem isTup_isTuple {h : Heap} {a : Addr} {items : Array Value} (x : IsTup h a items) : h.IsTuple a items := by
  obtain ⟨o, e, c, n, d⟩ := x
  exact ⟨o, e, c, n, d⟩
theorem cr_sumT {X : Cx} (hc : X.calm = true) : CallR X (.builtin "sum") (rSumT X.K) := by
  intro pins s σ H vs us Q I r h
  obtain ⟨a, ns, rfl, hs, q⟩ := h
  obtain ⟨its, rv, hl, _⟩ := I.tuple hs
  rw [Vals.ref1 r]
  have hi := rv.ints
  obtain ⟨xs, e⟩ := hi.allInts.items
  have hn : numsOf (intItems xs).toList = ns := by rw [← e]; exact hi.numsOf
  rw [nums_intItems] at hn
  rw [e] at hl
  have hl2 := isTup_isTuple hl
  have hh := I.ok.hd hc
  have hlt : a < s.heap.objs.size := by obtain ⟨_, e, _⟩ := hl2; exact Heap.lt_size e
  refine call_sum_walkG (wpAny_pyIter_tuple hl2 ?_)
  refine ⟨s.heap.objs.size, _, _, _, _, _, numAt xs, rfl, Walks.tuple (A := X.A.in1) hh _ a (Nat.ne_of_lt hlt) (intItems xs), ⟨⟨_, Heap.get?_push_size _ rfl, rfl, rfl⟩, hl2.push _⟩, ?_, fun _ _ => intItems_at, fun h' tk t' hk => ?_⟩
  · intro b hb
    show b < (s.heap.push _).objs.size
    rw [Heap.size_push]
    rcases List.mem_cons.mp hb with rfl | hb
    · exact Nat.lt_succ_self _
    · rcases List.mem_cons.mp hb with rfl | hb
      · exact Nat.lt_succ_of_lt hlt
      · cases hb
  · have hk2 : ∀ b o, s.heap.get? b = some o → h'.get? b = some o := fun b o eb => hk b o (fun hm => by
      simp only [List.mem_cons, List.not_mem_nil, or_false] at hm
      exact absurd (hm ▸ Heap.lt_size eb) (Nat.lt_irrefl _)) (Heap.get?_push_of_some _ eb)
    have z : preSum (numAt xs) (intItems xs).size = ns.sum := by
      rw [preSum_eq, List.take_of_length_le (by simp [intItems]), hn]
    rw [z]
    exact ⟨.int _, H, I.kept hk2, ⟨_, rfl⟩, q⟩
/-- tuple(x), x a list or a tuple -/
def rTupS (K : PySem.W.Frag) : List V → Hp → VK → Prop := fun xs H Q => ∃ p ys, xs = [.ref p] ∧ ((SqL K H p ys ∧ ∀ l, H l = none → Q (.ref l) (upd H l (.tup ys))) ∨ (SqT K H p ys ∧ Q (.ref p) H))
end Rb
namespace Rb
open PySem PySem.Spec PyProof.Rows L2
/-! defs that are run where no repr is under way -/
structure FnG (pr : Program) (wo : World) (K : PySem.W.Frag) (mg : Str → Option Value) (b0 : Heap) (cx : CXT) (lv : Nat) (fn : Addr) (dat : FuncData) (pars : List Str) (sp : Sp) : Prop where
  many : ∀ xs H Q E, sp xs H Q E → xs.length = pars.length
  goes : ∀ (A : Around) (out : List Env) (s : Shared) (H : Hp) (ar : Args) (us : List Value) (xs : List V) (Q : VK) (E : XK),
    Room lv A → A.guards = some [] → Env0 pr wo K mg b0 A out s H → BindsTo s dat ar (pars.zip us) → Vals xs us → sp xs H Q E →
    codeAny (model pr wo) A (.call (.ref fn) ar) (CR cx out pr wo H s Q E) s
section
variable {pr : Program} {wo : World} {K : PySem.W.Frag} {mg : Str → Option Value} {b0 : Heap} {cx : CXT} {lv : Nat} {fn : Addr} {dat : FuncData} {pars : List Str} {sp : Sp}
theorem FnG.of (F : FnOk pr wo K mg b0 cx lv fn dat pars sp) : FnG pr wo K mg b0 cx lv fn dat pars sp :=
  ⟨F.len, fun A out s H ar us xs Q E h1 _ h2 h3 h4 h5 => F.run A out s H ar us xs Q E h1 h2 h3 h4 h5⟩
end
section
variable {X : Cx} {cx : CXT} {lv : Nat} {fn : Addr} {dat : FuncData} {pars : List Str} {sp : Sp} {dv : List V} {dw : List Value} {E : XK} {nm : Str} {p1 p2 : Pos} {a0 : Expr} {as : List Expr} {ta : TA}
theorem runG {pins : List (Addr × Obj)} {σ : L2.St} {H : Hp} {s : Shared} {Q : VK} {us : List Value} {xs : List V} (F : FnG X.prog X.w X.K X.mg X.base cx lv fn dat pars sp) (gd : X.A.guards = some []) (rm : Room lv X.A)
    (bi : Binds X.K dat pars dw) (vd : Vals dv dw) (ps : Passes cx X E) (I : Inv X pins σ H s) (vx : Vals xs us) (pro : sp (xs ++ dv) H Q E) :
    wpAny (model X.prog X.w) X.A (call (.ref fn) us) (EP X pins σ Q) X.xe s := by
  have v2 : Vals (xs ++ dv) (us ++ dw) := vx.append vd
  have l2 : (us ++ dw).length = pars.length := v2.length ▸ F.many _ _ _ _ pro
  have go := F.goes X.A X.stack s H ⟨us, []⟩ (us ++ dw) (xs ++ dv) Q E rm gd I.env0 (bi s us I.kIn l2) v2 pro
  refine wpAny_call (codeAny_mono go ?_)
  intro res s2 fin
  match res, fin with
  | .error e, fin => exact ps pins σ H s e s2 I fin
  | .ok (.ret u), fin => exact I.after fin
  | .ok .next, fin => exact (fin : False).elim
  | .ok .brk, fin => exact (fin : False).elim
  | .ok .cont, fin => exact (fin : False).elim
theorem pe_callG (F : FnG X.prog X.w X.K X.mg X.base cx lv fn dat pars sp) (gd : X.A.guards = some []) (rm : Room lv X.A) (gl : Gl X nm) (at_ : X.mg nm = some (.ref fn)) (kp : PySem.W.keepIn X.K (.ref fn) = true)
    (bi : Binds X.K dat pars dw) (vd : Vals dv dw) (ps : Passes cx X E) (pa : PA X (a0 :: as) ta) (ndb : (nm == ("__debug__" : Str)) = false := by decide)
    (st1 : starEach (a0 :: as) X.env = (false, eval a0 X.env) :: starEach as X.env := by rfl) (st2 : (backTo p2 (starEach as X.env)).any (·.1) = false := by rfl) :
    PE X (.Call (.Name nm p1) (a0 :: as) [] p2) (tCall sp dv E ta) := by
  constructor
  intro pins s σ H Q I pre
  refine wpAny_Call_Name_kw (ld_glob I gl at_ ?_ ndb)
  exact PySem.W.callWith_K (h₀ := X.base) I.ok.mod.kin kp (thn (pa.run p2 pins s σ H _ I pre) fun us s1 ⟨xs, H1, I1, rx, q1⟩ => ⟨I1.kIn, runG F gd rm bi vd ps I1 rx q1⟩) st1 st2
end
section
variable {pr : Program} {wo : World} {K : PySem.W.Frag} {mg : Str → Option Value} {b0 : Heap} {lv : Nat} {sp : Sp}
theorem fnG_of {cx : CXT} {fn : Addr} {nm qn : Str} {pm : Arguments} {bd : List Stmt} {sco : Scope} {dV kV dc pv cdv ct oc : Value} {an od : Option Addr} {osl : Array (Option Value)} {NN pars : List Str}
    (at_ : K.lookup fn = some ⟨oc, od, .func (PySem.W.fnOf nm qn pm bd sco dV kV dc pv an cdv ct), osl⟩) (code : PySem.W.codeIn K cdv qn = true) (S : FnScope NN pars sco)
    (many : ∀ xs H Q E, sp xs H Q E → xs.length = pars.length)
    (body : ∀ (A : Around) (out : List Env) (s : Shared) (H : Hp) (xs : List V) (Q : VK) (E : XK), A.guards = some [] → Room lv (A.deeper (envOfC qn sco s.heap.objs.size fn cdv)) → sp xs H Q E →
      ∃ t, PSs (cxOf cx pr wo K mg b0 NN qn sco fn cdv A out s H E) bd t ∧ t { nx := fun _ H' => Q .non H', rt := Q } (start NN xs) H) :
    FnG pr wo K mg b0 cx (lv + 1) fn (PySem.W.fnOf nm qn pm bd sco dV kV dc pv an cdv ct) pars sp := by
  constructor
  · exact many
  intro A out s H ar us xs Q E rm gd e0 bi vx pro
  have old : ∀ b o, b0.get? b = some o → s.heap.get? b = some o := fun b o e => (e0.bs b o e).1
  have kin : K.In s.heap := e0.mod.kin.keeps old
  refine codeAny_call_function rm.depth (kin _ _ at_) rfl S.co S.gen rfl (PySem.W.codeRec_of kin code) (bi _ _ _ _ ?_)
  refine wpAny_newFunctionEnv_cells S.kind ?_ ?_
  · rintro ⟨n, v⟩ hy
    cases S.par n (List.of_mem_zip hy).1 with
    | inl q => exact Or.inl q
    | inr q => exact Or.inr ⟨q, PySem.W.cellsFrom_some _ _ _ (Or.inl q)⟩
  intro env he s1 ic
  subst he
  refine ⟨(e0.mod.nolimit.keeps old).keeps ic.toInCall.keep, codeAny_func ?_⟩
  obtain ⟨t, ht, rd⟩ := body A out s H xs Q E gd (rm.deeper _) pro
  have I : Inv (cxOf cx pr wo K mg b0 NN qn sco fn cdv A out s H E) [] (start NN xs) H s1 := inv_start S rm.hd e0 (many _ _ _ _ pro) vx ic
  refine wpAny_mono (ht.run [] s1 (start NN xs) H _ I rd) ?_ (fun _ _ z => z)
  intro fl s2 hs
  match fl, hs with
  | .ret u, ⟨v, σ2, H2, J, rv, q⟩ => exact ⟨v, H2, J.os, J.bare, J.base, J.hok, rv, q⟩
  | .next, ⟨σ2, H2, J, q⟩ => exact ⟨V.non, H2, J.os, J.bare, J.base, J.hok, rfl, q⟩
  | .brk, ⟨_, _, _, q⟩ => exact (q : False).elim
  | .cont, ⟨_, _, _, q⟩ => exact (q : False).elim
/-- a def of the text that is run where no repr is under way -/
theorem okG {x qn : Str} {st : Stmt} {fn : Addr} {dat : FuncData} {NN pars : List Str} (F : Fun K x qn st fn dat) (S : FnScope NN pars (defScope st)) (many : ∀ xs H Q E, sp xs H Q E → xs.length = pars.length)
    (body : ∀ (cdv : Value) (A : Around) (out : List Env) (s : Shared) (H : Hp) (xs : List V) (Q : VK) (E : XK), A.guards = some [] → Room lv (A.deeper (envOfC qn (defScope st) s.heap.objs.size fn cdv)) → sp xs H Q E →
      ∃ t, PSs (cxOf CX0 pr wo K mg b0 NN qn (defScope st) fn cdv A out s H E).nox (defBody st) t ∧ t { nx := fun _ H' => Q .non H', rt := Q } (start NN xs) H) :
    FnG pr wo K mg b0 CX0 (lv + 1) fn dat pars sp := by
  obtain ⟨oc, od, kV, dc, pv, an, cdv, ct, osl, rfl, at_, code⟩ := F.ex
  refine fnG_of at_ code S many fun A out s H xs Q E gd rm pro => ?_
  obtain ⟨t, h, q⟩ := body cdv A out s H xs Q E gd rm pro
  exact ⟨t, h.nox, q⟩
end
/-- the law's own call: the script is all that is known of the heap -/
theorem lawG {pr : Program} {wo : World} {K : PySem.W.Frag} {mg mb : Str → Option Value} {lv : Nat} {fn sc : Addr} {dat : FuncData} {x : Str} {sp : Sp} {s : Shared} {us : List Value} {ns : List Int}
    (kin : K.In s.heap) (gns : s.heap.Ns mainGlobals mg) (bns : s.heap.Ns builtinsNs mb) (boot : ∀ y : Str, y ≠ "__name__" → mb y = bootBuiltins y) (nol : s.heap.NoLimit) (ge : s.gens = #[])
    (at_ : s.heap.get? sc = some { cls := .type "list", data := .seq us.toArray }) (ia : IntsAre us ns) (few : ns.length ≤ sizeLine) (rm : Room lv callerA)
    (F : ∀ b0 : Heap, K.In b0 → b0.Ns mainGlobals mg → FnG pr wo K mg b0 CX0 lv fn dat [x] sp) (bi : ∀ (z : Shared) (u : Value), BindsTo z dat ⟨[u], []⟩ [(x, u)])
    (pro : ∀ H : Hp, SqL K H sc (ns.map V.int) → sp [.ref sc] H (fun v _ => v = .bl true) fun _ _ _ => False) :
    codeAny (model pr wo) callerA (.call (.ref fn) ⟨[.ref sc], []⟩) (fun r z => r = .ok (.ret (.bool true)) ∧ OldK s.heap z.heap ∧ z.os = s.os ∧ AllBare z.gens) s := by
  have go : ∀ H : Hp, (∀ b o, H b = some o → b = sc ∧ ∃ ob xs, o = .frz ob (.lst xs)) → SqL K H sc (ns.map V.int) → HOk pr wo H s.heap → (H sc ≠ none → K.lookup sc = none) →
      codeAny (model pr wo) callerA (.call (.ref fn) ⟨[.ref sc], []⟩) (fun r z => r = .ok (.ret (.bool true)) ∧ OldK s.heap z.heap ∧ z.os = s.os ∧ AllBare z.gens) s := by
    intro H one sq hok notK
    have dicts : ∀ {b : Addr} {o : Obj} {es : Array DictEntry} {ep : Nat}, s.heap.get? b = some o → o.data = .dict es ep → H b = none := by
      intro b o es ep e d
      match q : H b with
      | none => rfl
      | some u =>
        obtain ⟨rfl, _⟩ := one b u q
        rw [at_] at e
        cases e
        cases (show Data.seq us.toArray _ = Data.dict es ep from d)
    have names : ∀ {b : Addr} {m : Str → Option Value}, s.heap.Ns b m → (hidT s.heap H).Ns b m := by
      rintro b m ⟨o, es, ep, e, d, r⟩
      exact ⟨o, es, ep, hidT_get e (dicts e d), d, r⟩
    have kin2 : K.In (hidT s.heap H) := by
      intro b o e
      refine hidT_get (kin b o e) ?_
      match q : H b with
      | none => rfl
      | some u =>
        obtain ⟨rfl, _⟩ := one b u q
        rw [notK (by rw [q]; exact Option.some_ne_none u)] at e
        cases e
    have md : Mod K mg (hidT s.heap H) := by
      obtain ⟨mc, n1, n2⟩ := nol
      exact ⟨kin2, names gns, ⟨mb, names bns, boot⟩, ⟨mc, names n1, n2⟩⟩
    have env : Env0 pr wo K mg (hidT s.heap H) callerA [] s H :=
      { frames := rfl, mod := md, bs := fun _ _ e => of_hidT e, bsz := Nat.le_of_eq (hidT_size _ _), funs := trivial, frf := (fun _ z => nomatch z), hok := hok, bare := .of_eq ge }
    refine codeAny_mono ((F _ kin2 (names gns)).goes callerA [] s H ⟨[.ref sc], []⟩ [.ref sc] [.ref sc] _ _ rm rfl env (bi s (.ref sc)) (.cons rfl .nil) (pro H sq)) ?_
    intro res z fin
    match res, fin with
    | .error e, fin => exact (fin : False).elim
    | .ok .next, fin => exact (fin : False).elim
    | .ok .brk, fin => exact (fin : False).elim
    | .ok .cont, fin => exact (fin : False).elim
    | .ok (.ret u), ⟨v, H2, os, bare, un, hok2, rv, q⟩ =>
      cases (q : v = .bl true)
      cases (rv : u = Value.bool true)
      refine ⟨rfl, OldK.of_keep ?_, os, bare⟩
      intro b o e
      match w : H b with
      | none => exact un.keep b o e w (fun z => nomatch z) (fun z => nomatch z)
      | some uo =>
        obtain ⟨rfl, ob, xs, rfl⟩ := one b uo w
        have e1 := (hok b _ w).1
        have e2 := (hok2 b _ (un.frzs b ob _ w)).1
        exact e2.trans (e1.symm.trans e)
  have vx := vals_ints ia
  have ln := ia.length
  match kk : K.lookup sc with
  | some o =>
    have e := kin sc o kk
    rw [at_] at e
    cases e
    exact go (fun _ => none) (fun _ _ z => nomatch z) (.inr ⟨_, us.toArray, _, kk, rfl, rfl, rfl, by rw [List.size_toArray, ln]; exact few, by simpa using vx⟩) (fun _ _ z => nomatch z) (fun z => absurd rfl z)
  | none =>
    let one : HO := .frz { cls := .type "list", data := .seq us.toArray } (.lst (ns.map V.int))
    refine go (upd (fun _ => none) sc one) ?_ (.inl (.inr ⟨_, upd_same⟩)) ?_ (fun _ => kk)
    · intro b o z
      by_cases hb : b = sc
      · subst hb
        rw [upd_same] at z
        cases z
        exact ⟨rfl, _, _, rfl⟩
      · rw [upd_ne hb] at z
        cases z
    · intro b o z
      by_cases hb : b = sc
      · subst hb
        rw [upd_same] at z
        cases z
        exact ⟨at_, by rw [List.length_map]; exact few, us, _, vx, at_⟩
      · rw [upd_ne hb] at z
        cases z
/-- from the law's promise to the row's claim -/
theorem endG {l : PySem.W.OpenLaw} {n lv : Nat} {q : Program} {loose : List Str} {XP : (Str → Option Value) → Heap → Prop} {YP : World → Heap → Prop} {d : DefRec} {KK : Params → PySem.W.Frag} {sp : World → Sp} {x : Str}
    (most : l.most = some n) (few : n ≤ sizeLine) (nodef : d.params.defaults = []) (rm : Room lv callerA) (inY : ∀ (w : World) (h : Heap), YP w h → (KK w.params).In h)
    (F : ∀ (w : World) (mg : Str → Option Value) (fn : Addr) (h : Heap), (KK w.params).In h → h.Ns mainGlobals mg → mg d.name = some (.ref fn) →
      ∃ dat : FuncData, (∀ (s : Shared) (u : Value), BindsTo s dat ⟨[u], []⟩ [(x, u)]) ∧ ∀ b0 : Heap, (KK w.params).In b0 → b0.Ns mainGlobals mg → FnG l.prog w (KK w.params) mg b0 CX0 lv fn dat [x] (sp w))
    (pro : ∀ (w : World) (H : Hp) (a : Addr) (ns : List Int), ns.length ≤ n → SqL (KK w.params) H a (ns.map V.int) → sp w [.ref a] H (fun v _ => v = .bl true) fun _ _ _ => False) :
    PySem.W.WalkO q loose XP YP l.row.toRowW d [] (fun f vs => PySem.call f vs) := by
  refine Att.attach_call most nodef ?_
  intro w s0 s1 mg mb fn o pm cd dc a us ns G Y at_ dd cdd gm ob ia ln ge
  obtain ⟨dat, bi, ok⟩ := F w mg fn _ (inY w _ Y) G.T.g gm
  exact lawG (inY w _ Y) G.T.g G.T.b G.T.builtins G.T.nolimit ge ob ia (Nat.le_trans ln few) rm ok bi (fun H sq => pro w H a ns ln sq)
end Rb
namespace Rb
open PySem PySem.Spec PyProof.Rows L2

/-! the deck: a list of the cells and the count of draws -/
def Dk (H : Hp) (d c : Addr) (N : Int) : Prop := ∃ (cs : List Int) (n : Int), H d = some (.lst [.ref c, .int n]) ∧ H c = some (.lst (cs.map V.int)) ∧ cs.length ≤ 63 ∧ (∀ x ∈ cs, 0 ≤ x) ∧ 0 ≤ n ∧ n ≤ N
/-- all but the deck is kept -/
def Kp (d c : Addr) (H H' : Hp) : Prop := ∀ b o, H b = some o → b ≠ d → b ≠ c → H' b = some o
theorem Kp.refl {d c : Addr} {H : Hp} : Kp d c H H := fun _ _ e _ _ => e
theorem Kp.trans {d c : Addr} {H H1 H2 : Hp} (a : Kp d c H H1) (b : Kp d c H1 H2) : Kp d c H H2 := fun x o e n1 n2 => b x o (a x o e n1 n2) n1 n2
theorem Kp.ex {d c : Addr} {H H1 : Hp} (a : Evl.Ex H H1) : Kp d c H H1 := fun x o e _ _ => a x o e
theorem Kp.new {d c : Addr} {H : Hp} {p : Addr} {o : HO} (h : H p = none) : Kp d c H (upd H p o) := Kp.ex (Evl.Ex.new h)
theorem Dk.ex {H H' : Hp} {d c : Addr} {N : Int} (h : Dk H d c N) (e : Evl.Ex H H') : Dk H' d c N := by
  obtain ⟨cs, n, h1, h2, r⟩ := h
  exact ⟨cs, n, e _ _ h1, e _ _ h2, r⟩
theorem Dk.new {H : Hp} {d c p : Addr} {N : Int} {o : HO} (h : Dk H d c N) (hp : H p = none) : Dk (upd H p o) d c N := h.ex (Evl.Ex.new hp)
theorem Dk.le {H : Hp} {d c : Addr} {N M : Int} (h : Dk H d c N) (e : N ≤ M) : Dk H d c M := by
  obtain ⟨cs, n, h1, h2, h3, h4, h5, h6⟩ := h
  exact ⟨cs, n, h1, h2, h3, h4, h5, by omega⟩
theorem Dk.ne1 {H : Hp} {d c p : Addr} {N : Int} (h : Dk H d c N) (hp : H p = none) : p ≠ d := by
  obtain ⟨cs, n, h1, _⟩ := h
  rintro rfl
  rw [h1] at hp
  cases hp
theorem Dk.ne2 {H : Hp} {d c p : Addr} {N : Int} (h : Dk H d c N) (hp : H p = none) : p ≠ c := by
  obtain ⟨cs, n, _, h1, _⟩ := h
  rintro rfl
  rw [h1] at hp
  cases hp
/-- fresh behind is fresh before -/
theorem Kp.fresh {d c p : Addr} {H H' : Hp} {N : Int} (k : Kp d c H H') (h : Dk H' d c N) (hp : H' p = none) : H p = none := by
  cases e : H p with
  | none => rfl
  | some o =>
    rw [k p o e (h.ne1 hp) (h.ne2 hp)] at hp
    cases hp
/-- a new object changes: all else is kept -/
theorem Kp.mut {d c p : Addr} {H H' : Hp} {o : HO} (k : Kp d c H H') (hp : H p = none) : Kp d c H (upd H' p o) := fun b u e n1 n2 => by
  rw [upd_ne (ne_of_none e hp)]
  exact k b u e n1 n2
theorem Kp.sqT {K : PySem.W.Frag} {d c a : Addr} {H H' : Hp} {N : Int} {xs : List V} (k : Kp d c H H') (h : Dk H d c N) (hs : SqT K H a xs) : SqT K H' a xs := by
  obtain ⟨cs, n, h1, h2, _⟩ := h
  have go : ∀ u : HO, (∀ ys, u ≠ .lst ys) → H a = some u → H' a = some u := fun u nu e => k a u e
    (by rintro rfl; rw [h1] at e; exact nu _ (Option.some.inj e).symm) (by rintro rfl; rw [h2] at e; exact nu _ (Option.some.inj e).symm)
  rcases hs with (e | ⟨o, e⟩) | e
  · exact .inl (.inl (go _ (fun _ z => nomatch z) e))
  · exact .inl (.inr ⟨o, go _ (fun _ z => nomatch z) e⟩)
  · exact .inr e
theorem tupOf {K : PySem.W.Frag} {H : Hp} {a : Addr} {xs : List V} (h : H a = some (.tup xs)) : SqT K H a xs := .inl (.inl h)
theorem lstOf {K : PySem.W.Frag} {H : Hp} {a : Addr} {xs : List V} (h : H a = some (.lst xs)) : SqL K H a xs := .inl (.inl h)
theorem tupNew {K : PySem.W.Frag} {H : Hp} {a p : Addr} {xs : List V} {o : HO} (h : SqT K H a xs) (hp : H p = none) : SqT K (upd H p o) a xs := Evl.ex_t (Evl.Ex.new hp) h
/-! picks from short lists -/
theorem pick2 {x y : V} {r : Int} (h0 : 0 ≤ r) (h1 : r < 2) : ∃ v, atI [x, y] r = some v ∧ (v = x ∨ v = y) := by
  rcases (by omega : r = 0 ∨ r = 1) with rfl | rfl
  · exact ⟨x, rfl, .inl rfl⟩
  · exact ⟨y, rfl, .inr rfl⟩
theorem pick3 {x y z : V} {r : Int} (h0 : 0 ≤ r) (h1 : r < 3) : ∃ v, atI [x, y, z] r = some v ∧ (v = x ∨ v = y ∨ v = z) := by
  rcases (by omega : r = 0 ∨ r = 1 ∨ r = 2) with rfl | rfl | rfl
  · exact ⟨x, rfl, .inl rfl⟩
  · exact ⟨y, rfl, .inr (.inl rfl)⟩
  · exact ⟨z, rfl, .inr (.inr rfl)⟩
theorem pick2i {x y r : Int} (h0 : 0 ≤ r) (h1 : r < 2) : ∃ v : Int, atI [V.int x, V.int y] r = some (V.int v) ∧ (v = x ∨ v = y) := by
  rcases (by omega : r = 0 ∨ r = 1) with rfl | rfl
  · exact ⟨x, rfl, .inl rfl⟩
  · exact ⟨y, rfl, .inr rfl⟩
theorem pick3i {x y z r : Int} (h0 : 0 ≤ r) (h1 : r < 3) : ∃ v : Int, atI [V.int x, V.int y, V.int z] r = some (V.int v) ∧ (v = x ∨ v = y ∨ v = z) := by
  rcases (by omega : r = 0 ∨ r = 1 ∨ r = 2) with rfl | rfl | rfl
  · exact ⟨x, rfl, .inl rfl⟩
  · exact ⟨y, rfl, .inr (.inl rfl)⟩
  · exact ⟨z, rfl, .inr (.inr rfl)⟩
/-- an item of a list of ints by its place -/
theorem at_ints {ns : List Int} {j : Nat} (h : j < ns.length) : atI (ns.map V.int) (j : Int) = some (.int ns[j]) := by
  refine atI_nat (j := j) ?_
  rw [List.getElem?_map, List.getElem?_eq_getElem h]
  rfl
theorem sz_le {n : Nat} (h : n ≤ 100000) : n ≤ sizeLine := Evl.sz_of h
theorem sz_lt {n : Nat} (h : n < 100000) : n < sizeLine := Evl.sz_lt h
/-- slices from the beginning -/
theorem cut_to {xs : List V} {k : Nat} : cutV xs none (some (k : Int)) = xs.take k := by
  unfold cutV
  rw [HT.sIx_none, HT.sIx_nat]
  show List.take (min k xs.length - 0) (xs.drop 0) = _
  rw [List.drop_zero, Nat.sub_zero]
  rcases Nat.le_total k xs.length with h | h
  · rw [Nat.min_eq_left h]
  · rw [Nat.min_eq_right h, List.take_length, List.take_of_length_le h]
/-! a road -/
def Road (K : PySem.W.Frag) (H : Hp) (v : V) (w r : Int) (bs : List Int) : Prop := ∃ a b, v = .ref a ∧ SqT K H a [.int w, .int r, .ref b] ∧ SqT K H b (bs.map V.int)
theorem Road.kp {K : PySem.W.Frag} {d c : Addr} {H H' : Hp} {N : Int} {v : V} {w r : Int} {bs : List Int} (x : Road K H v w r bs) (k : Kp d c H H') (h : Dk H d c N) : Road K H' v w r bs := by
  obtain ⟨a, b, e, h1, h2⟩ := x
  exact ⟨a, b, e, k.sqT h h1, k.sqT h h2⟩
theorem Road.ex {K : PySem.W.Frag} {H H' : Hp} {v : V} {w r : Int} {bs : List Int} (x : Road K H v w r bs) (k : Evl.Ex H H') : Road K H' v w r bs := by
  obtain ⟨a, b, e, h1, h2⟩ := x
  exact ⟨a, b, e, Evl.ex_t k h1, Evl.ex_t k h2⟩
/-! data of ints: what repr shows -/
theorem DpAll.ints {K : PySem.W.Frag} {H : Hp} : ∀ ns : List Int, DpAll K H (ns.map V.int) (ns.map PyData.int)
  | [] => .nil
  | n :: ns => .cons (.int n) (DpAll.ints ns)
theorem Dp.tupI {K : PySem.W.Frag} {H : Hp} {a : Addr} {ns : List Int} (h : SqT K H a (ns.map V.int)) : Dp K H (.ref a) (.tuple (ns.map .int)) := .tup h (DpAll.ints ns)
def roadD (w r : Int) (bs : List Int) : PyData := .tuple [.int w, .int r, .tuple (bs.map .int)]
theorem Road.dp {K : PySem.W.Frag} {H : Hp} {v : V} {w r : Int} {bs : List Int} (x : Road K H v w r bs) : Dp K H v (roadD w r bs) := by
  obtain ⟨a, b, rfl, h1, h2⟩ := x
  exact .tup h1 (.cons (.int w) (.cons (.int r) (.cons (Dp.tupI h2) .nil)))
/-! data that repr shows: what it asks, by parts -/
structure Nice (k n : Nat) (d : PyData) : Prop where
  sh : d.showable = true
  lv : d.leavesShort 100 = true
  dep : d.depth ≤ k
  blk : d.bulk ≤ n
theorem Nice.mono {k n k' n' : Nat} {d : PyData} (h : Nice k n d) (h1 : k ≤ k') (h2 : n ≤ n') : Nice k' n' d := ⟨h.sh, h.lv, Nat.le_trans h.dep h1, Nat.le_trans h.blk h2⟩
theorem Nice.int {i : Int} (h : i.natAbs < 10 ^ 99) : Nice 0 0 (.int i) := by
  refine ⟨?_, ?_, Nat.le_refl _, Nat.le_refl _⟩
  · simp only [PyData.showable, decide_eq_true_eq]
    by_cases z : i.natAbs = 0
    · rw [z]; decide
    · refine (Nat.log2_lt z).mpr (Nat.lt_of_lt_of_le h ?_)
      decide +kernel
  · simp only [PyData.leavesShort, decide_eq_true_eq, PyData.shown]
    refine decide_eq_true ?_
    rw [PySem.ofString_length]
    exact int_text_length_le10 (k := 99) (by decide) h
theorem Nice.none : Nice 0 0 .none := ⟨rfl, rfl, Nat.le_refl _, Nat.le_refl _⟩
theorem Nice.bool {b : Bool} : Nice 0 0 (.bool b) := ⟨rfl, rfl, Nat.le_refl _, Nat.le_refl _⟩
theorem Nice.str {x : Str} {n : Nat} (h : x.cps.size ≤ n) (hx : ∀ c ∈ x.cps.toList, c < 16 ^ 8) : Nice 0 n (.str x) := by
  refine ⟨rfl, ?_, Nat.le_refl _, h⟩
  simpa only [PyData.leavesShort, List.all_eq_true, decide_eq_true_eq] using hx
theorem nice_all {k n : Nat} : ∀ {xs : List PyData}, (∀ x ∈ xs, Nice k n x) → PyData.showableAll xs = true ∧ PyData.leavesShortAll 100 xs = true ∧ PyData.depthAll xs ≤ k ∧ PyData.bulkAll xs ≤ xs.length * (n + 1)
  | [], _ => ⟨rfl, rfl, Nat.zero_le _, Nat.zero_le _⟩
  | x :: xs, h => by
    obtain ⟨a, b, c, d⟩ := nice_all (xs := xs) fun y hy => h y (List.mem_cons_of_mem _ hy)
    have hx := h x List.mem_cons_self
    refine ⟨?_, ?_, ?_, ?_⟩
    · simp only [PyData.showableAll, hx.sh, a, Bool.and_true]
    · simp only [PyData.leavesShortAll, hx.lv, b, Bool.and_true]
    · simp only [PyData.depthAll]
      exact Nat.max_le.mpr ⟨hx.dep, c⟩
    · simp only [PyData.bulkAll, List.length_cons]
      have := hx.blk
      rw [Nat.add_mul]
      omega
theorem Nice.tup {k n m : Nat} {xs : List PyData} (h : ∀ x ∈ xs, Nice k n x) (hm : xs.length * (n + 1) ≤ m) : Nice (k + 1) m (.tuple xs) := by
  obtain ⟨a, b, c, d⟩ := nice_all h
  exact ⟨by simpa only [PyData.showable] using a, by simpa only [PyData.leavesShort] using b, by simp only [PyData.depth]; omega, by simp only [PyData.bulk]; omega⟩
theorem Nice.lst {k n m : Nat} {xs : List PyData} (h : ∀ x ∈ xs, Nice k n x) (hm : xs.length * (n + 1) ≤ m) : Nice (k + 1) m (.list xs) := by
  obtain ⟨a, b, c, d⟩ := nice_all h
  exact ⟨by simpa only [PyData.showable] using a, by simpa only [PyData.leavesShort] using b, by simp only [PyData.depth]; omega, by simp only [PyData.bulk]; omega⟩
theorem Nice.ints {ns : List Int} {m : Nat} (h : ∀ i ∈ ns, i.natAbs < 10 ^ 99) (hm : ns.length ≤ m) : Nice 1 m (.tuple (ns.map .int)) := by
  refine Nice.tup (k := 0) (n := 0) (fun x hx => ?_) (by rw [List.length_map]; omega)
  obtain ⟨i, hi, rfl⟩ := List.mem_map.mp hx
  exact Nice.int (h i hi)
theorem Nice.fits {k : Nat} {d : PyData} (n : Nice k 100000 d) : d.shown.length ≤ sizeLine := by
  have e := PyData.shown_le_bulk 100 (by decide) d n.lv
  have := n.blk
  have : (16777216 : Nat) ≤ sizeLine := by decide
  omega
/-! comprehensions whose element changes nothing -/
section
variable {K : PySem.W.Frag} {te : TE} {vs : List Nat} {σ : L2.St} {H1 : Hp} {D a : Addr} {j : Nat} {Qd : Hp → Prop}
theorem lc_mapL {xs : List V} (f : V → V) (hS : SqL K H1 a xs) (nD : H1 D = none) (hw : ∀ x, wipe ((wipe σ vs).set j (some x)) vs = wipe σ vs) (hz : xs.length ≤ 90000)
    (he : ∀ (i : Nat) x H3, xs[i]? = some x → Evl.Ex H1 H3 → ∀ Q : VK, (∀ H4, Evl.Ex H3 H4 → Q (f x) H4) → te ((wipe σ vs).set j (some x)) H3 Q) (hd : ∀ H', Evl.Ex H1 H' → H' D = some (.lst (xs.map f)) → Qd H') :
    ∃ W : Nat → Nat → Hp → Prop, (∃ m, W 0 m (upd H1 D (.lst []))) ∧ ∀ i m H, W i m H →
      ((Itl K a).stop i H ∧ Qd H) ∨ ((Itl K a).go i H ∧ ∃ Nx : Hp → Prop, (∀ H', Nx H' → ∃ m', m' < m ∧ W (i + 1) m' H') ∧ ∀ x H', (Itl K a).yld i H x H' → (gName j) x (wipe σ vs) H' fun σ2 H2 => wipe σ2 vs = wipe σ vs ∧ tYes σ2 H2 fun b H3 =>
        if b = true then te σ2 H3 fun y H4 => ∃ acc, H4 D = some (.lst acc) ∧ acc.length < sizeLine ∧ Nx (upd H4 D (.lst (acc ++ [y]))) else Nx H3) := by
  refine lc_list (xs := xs) (fun i H' => Evl.Ex H1 H' ∧ H' D = some (.lst ((xs.take i).map f))) ⟨Evl.Ex.new nD, upd_same⟩ (fun i H' _ p => Evl.ex_l p.1 hS) ?_ (fun H' p => hd H' p.1 (by rw [p.2, List.take_length]))
  rintro i x H' hx ⟨p1, p2⟩
  refine ⟨hw x, ?_⟩
  show te ((wipe σ vs).set j (some x)) H' _
  refine he i x H' hx p1 _ fun H4 e4 => ⟨_, e4 _ _ p2, ?_, Evl.Ex.mut (p1.trans e4) nD, ?_⟩
  · rw [List.length_map, List.length_take]
    exact sz_lt (by omega)
  · rw [upd_same, List.take_add_one, hx, List.map_append]
    rfl
theorem lc_mapT {xs : List V} (f : V → V) (hS : SqT K H1 a xs) (nD : H1 D = none) (hw : ∀ x, wipe ((wipe σ vs).set j (some x)) vs = wipe σ vs) (hz : xs.length ≤ 90000)
    (he : ∀ (i : Nat) x H3, xs[i]? = some x → Evl.Ex H1 H3 → ∀ Q : VK, (∀ H4, Evl.Ex H3 H4 → Q (f x) H4) → te ((wipe σ vs).set j (some x)) H3 Q) (hd : ∀ H', Evl.Ex H1 H' → H' D = some (.lst (xs.map f)) → Qd H') :
    ∃ W : Nat → Nat → Hp → Prop, (∃ m, W 0 m (upd H1 D (.lst []))) ∧ ∀ i m H, W i m H →
      ((Itt K a).stop i H ∧ Qd H) ∨ ((Itt K a).go i H ∧ ∃ Nx : Hp → Prop, (∀ H', Nx H' → ∃ m', m' < m ∧ W (i + 1) m' H') ∧ ∀ x H', (Itt K a).yld i H x H' → (gName j) x (wipe σ vs) H' fun σ2 H2 => wipe σ2 vs = wipe σ vs ∧ tYes σ2 H2 fun b H3 =>
        if b = true then te σ2 H3 fun y H4 => ∃ acc, H4 D = some (.lst acc) ∧ acc.length < sizeLine ∧ Nx (upd H4 D (.lst (acc ++ [y]))) else Nx H3) := by
  refine lc_tup (xs := xs) (fun i H' => Evl.Ex H1 H' ∧ H' D = some (.lst ((xs.take i).map f))) ⟨Evl.Ex.new nD, upd_same⟩ (fun i H' _ p => Evl.ex_t p.1 hS) ?_ (fun H' p => hd H' p.1 (by rw [p.2, List.take_length]))
  rintro i x H' hx ⟨p1, p2⟩
  refine ⟨hw x, ?_⟩
  show te ((wipe σ vs).set j (some x)) H' _
  refine he i x H' hx p1 _ fun H4 e4 => ⟨_, e4 _ _ p2, ?_, Evl.Ex.mut (p1.trans e4) nD, ?_⟩
  · rw [List.length_map, List.length_take]
    exact sz_lt (by omega)
  · rw [upd_same, List.take_add_one, hx, List.map_append]
    rfl
theorem lc_mapR {n : Nat} (f : Nat → V) (nD : H1 D = none) (hw : ∀ x, wipe ((wipe σ vs).set j (some x)) vs = wipe σ vs) (hz : n ≤ 90000)
    (he : ∀ i H3, i < n → Evl.Ex H1 H3 → ∀ Q : VK, (∀ H4, Evl.Ex H3 H4 → Q (f i) H4) → te ((wipe σ vs).set j (some (.int (i : Int)))) H3 Q) (hd : ∀ H', Evl.Ex H1 H' → H' D = some (.lst ((List.range n).map f)) → Qd H') :
    ∃ W : Nat → Nat → Hp → Prop, (∃ m, W 0 m (upd H1 D (.lst []))) ∧ ∀ i m H, W i m H →
      ((Itr 0 n).stop i H ∧ Qd H) ∨ ((Itr 0 n).go i H ∧ ∃ Nx : Hp → Prop, (∀ H', Nx H' → ∃ m', m' < m ∧ W (i + 1) m' H') ∧ ∀ x H', (Itr 0 n).yld i H x H' → (gName j) x (wipe σ vs) H' fun σ2 H2 => wipe σ2 vs = wipe σ vs ∧ tYes σ2 H2 fun b H3 =>
        if b = true then te σ2 H3 fun y H4 => ∃ acc, H4 D = some (.lst acc) ∧ acc.length < sizeLine ∧ Nx (upd H4 D (.lst (acc ++ [y]))) else Nx H3) := by
  refine lc_range (lo := 0) (n := n) (fun i H' => Evl.Ex H1 H' ∧ H' D = some (.lst ((List.range i).map f))) ⟨Evl.Ex.new nD, upd_same⟩ ?_ (fun H' p => hd H' p.1 p.2)
  rintro i H' hi ⟨p1, p2⟩
  refine ⟨hw _, ?_⟩
  show te ((wipe σ vs).set j (some (.int ((0 : Int) + (i : Int))))) H' _
  rw [Int.zero_add]
  refine he i H' hi p1 _ fun H4 e4 => ⟨_, e4 _ _ p2, ?_, Evl.Ex.mut (p1.trans e4) nD, ?_⟩
  · rw [List.length_map, List.length_range]
    exact sz_lt (by omega)
  · rw [upd_same, List.range_succ, List.map_append]
    rfl
end
end Rb
namespace Rb
open PySem PySem.Spec PyProof.Rows L2
/-! data without lists: it never changes -/
mutual
inductive Tp (K : PySem.W.Frag) (H : Hp) : V → PyData → Prop
  | non : Tp K H .non .none
  | bl (b : Bool) : Tp K H (.bl b) (.bool b)
  | int (i : Int) : Tp K H (.int i) (.int i)
  | str (x : Str) : Tp K H (.str x) (.str x)
  | tup {a : Addr} {xs : List V} {ds : List PyData} : SqT K H a xs → TpAll K H xs ds → Tp K H (.ref a) (.tuple ds)
inductive TpAll (K : PySem.W.Frag) (H : Hp) : List V → List PyData → Prop
  | nil : TpAll K H [] []
  | cons {v : V} {vs : List V} {d : PyData} {ds : List PyData} : Tp K H v d → TpAll K H vs ds → TpAll K H (v :: vs) (d :: ds)
end
section
variable {K : PySem.W.Frag} {H H' : Hp}
mutual
theorem Tp.dp : ∀ (d : PyData) (v : V), Tp K H v d → Dp K H v d
  | .none, _, h => by cases h; exact .non
  | .bool b, _, h => by cases h; exact .bl b
  | .int i, _, h => by cases h; exact .int i
  | .str x, _, h => by cases h; exact .str x
  | .list _, _, h => by cases h
  | .dict _, _, h => by cases h
  | .tuple ds, _, h => by
    cases h with
    | tup hs ha => exact .tup hs (TpAll.dp ds _ ha)
theorem TpAll.dp : ∀ (ds : List PyData) (vs : List V), TpAll K H vs ds → DpAll K H vs ds
  | [], _, h => by cases h; exact .nil
  | d :: ds, _, h => by
    cases h with
    | cons h1 h2 => exact .cons (Tp.dp d _ h1) (TpAll.dp ds _ h2)
end
mutual
theorem Tp.keep (k : ∀ a xs, SqT K H a xs → SqT K H' a xs) : ∀ (d : PyData) (v : V), Tp K H v d → Tp K H' v d
  | .none, _, h => by cases h; exact .non
  | .bool b, _, h => by cases h; exact .bl b
  | .int i, _, h => by cases h; exact .int i
  | .str x, _, h => by cases h; exact .str x
  | .list _, _, h => by cases h
  | .dict _, _, h => by cases h
  | .tuple ds, _, h => by
    cases h with
    | tup hs ha => exact .tup (k _ _ hs) (TpAll.keep k ds _ ha)
theorem TpAll.keep (k : ∀ a xs, SqT K H a xs → SqT K H' a xs) : ∀ (ds : List PyData) (vs : List V), TpAll K H vs ds → TpAll K H' vs ds
  | [], _, h => by cases h; exact .nil
  | d :: ds, _, h => by
    cases h with
    | cons h1 h2 => exact .cons (Tp.keep k d _ h1) (TpAll.keep k ds _ h2)
end
theorem Tp.ex {v : V} {d : PyData} (h : Tp K H v d) (e : Evl.Ex H H') : Tp K H' v d := Tp.keep (fun _ _ z => Evl.ex_t e z) d v h
theorem TpAll.ex {vs : List V} {ds : List PyData} (h : TpAll K H vs ds) (e : Evl.Ex H H') : TpAll K H' vs ds := TpAll.keep (fun _ _ z => Evl.ex_t e z) ds vs h
theorem Tp.kp {d c : Addr} {N : Int} {v : V} {x : PyData} (h : Tp K H v x) (k : Kp d c H H') (dk : Dk H d c N) : Tp K H' v x := Tp.keep (fun _ _ z => k.sqT dk z) x v h
theorem TpAll.kp {d c : Addr} {N : Int} {vs : List V} {ds : List PyData} (h : TpAll K H vs ds) (k : Kp d c H H') (dk : Dk H d c N) : TpAll K H' vs ds := TpAll.keep (fun _ _ z => k.sqT dk z) ds vs h
theorem sqT_upd {D a : Addr} {ys zs xs : List V} (hD : H D = some (.lst ys)) (h : SqT K H a xs) : SqT K (upd H D (.lst zs)) a xs := by
  have go : ∀ u : HO, (∀ ys, u ≠ .lst ys) → H a = some u → upd H D (.lst zs) a = some u := fun u nu e => by
    rw [upd_ne (by rintro rfl; rw [hD] at e; exact nu _ (Option.some.inj e).symm)]
    exact e
  rcases h with (e | ⟨o, e⟩) | e
  · exact .inl (.inl (go _ (fun _ z => nomatch z) e))
  · exact .inl (.inr ⟨o, go _ (fun _ z => nomatch z) e⟩)
  · exact .inr e
theorem Tp.upd {D : Addr} {ys zs : List V} {v : V} {d : PyData} (h : Tp K H v d) (hD : H D = some (.lst ys)) : Tp K (upd H D (.lst zs)) v d := Tp.keep (fun _ _ z => sqT_upd hD z) d v h
theorem TpAll.upd {D : Addr} {ys zs : List V} {vs : List V} {ds : List PyData} (h : TpAll K H vs ds) (hD : H D = some (.lst ys)) : TpAll K (upd H D (.lst zs)) vs ds := TpAll.keep (fun _ _ z => sqT_upd hD z) ds vs h
theorem TpAll.snoc {v : V} {d : PyData} : ∀ {vs : List V} {ds : List PyData}, TpAll K H vs ds → Tp K H v d → TpAll K H (vs ++ [v]) (ds ++ [d])
  | _, _, .nil, h => .cons h .nil
  | _, _, .cons h1 h2, h => .cons h1 (TpAll.snoc h2 h)
theorem TpAll.length : ∀ {vs : List V} {ds : List PyData}, TpAll K H vs ds → vs.length = ds.length
  | _, _, .nil => rfl
  | _, _, .cons _ h => congrArg (· + 1) (TpAll.length h)
theorem TpAll.ints : ∀ ns : List Int, TpAll K H (ns.map V.int) (ns.map PyData.int)
  | [] => .nil
  | n :: ns => .cons (.int n) (TpAll.ints ns)
theorem Tp.tupI {a : Addr} {ns : List Int} (h : SqT K H a (ns.map V.int)) : Tp K H (.ref a) (.tuple (ns.map .int)) := .tup h (TpAll.ints ns)
theorem Road.tp {v : V} {w r : Int} {bs : List Int} (x : Road K H v w r bs) : Tp K H v (roadD w r bs) := by
  obtain ⟨a, b, rfl, h1, h2⟩ := x
  exact .tup h1 (.cons (.int w) (.cons (.int r) (.cons (Tp.tupI h2) .nil)))
end
/-! a comprehension over a range whose elements are such data -/
section
variable {K : PySem.W.Frag} {te : TE} {vs : List Nat} {σ : L2.St} {H1 : Hp} {D a : Addr} {j : Nat} {Qd : Hp → Prop}
theorem lc_tpR {n : Nat} (f : Nat → PyData) (nD : H1 D = none) (hw : ∀ x, wipe ((wipe σ vs).set j (some x)) vs = wipe σ vs) (hz : n ≤ 90000)
    (he : ∀ i H3, i < n → Evl.Ex H1 H3 → ∀ Q : VK, (∀ y H4, Evl.Ex H3 H4 → Tp K H4 y (f i) → Q y H4) → te ((wipe σ vs).set j (some (.int (i : Int)))) H3 Q)
    (hd : ∀ xs H', Evl.Ex H1 H' → H' D = some (.lst xs) → TpAll K H' xs ((List.range n).map f) → Qd H') :
    ∃ W : Nat → Nat → Hp → Prop, (∃ m, W 0 m (upd H1 D (.lst []))) ∧ ∀ i m H, W i m H →
      ((Itr 0 n).stop i H ∧ Qd H) ∨ ((Itr 0 n).go i H ∧ ∃ Nx : Hp → Prop, (∀ H', Nx H' → ∃ m', m' < m ∧ W (i + 1) m' H') ∧ ∀ x H', (Itr 0 n).yld i H x H' → (gName j) x (wipe σ vs) H' fun σ2 H2 => wipe σ2 vs = wipe σ vs ∧ tYes σ2 H2 fun b H3 =>
        if b = true then te σ2 H3 fun y H4 => ∃ acc, H4 D = some (.lst acc) ∧ acc.length < sizeLine ∧ Nx (upd H4 D (.lst (acc ++ [y]))) else Nx H3) := by
  refine lc_range (lo := 0) (n := n) (fun i H' => Evl.Ex H1 H' ∧ ∃ xs, H' D = some (.lst xs) ∧ TpAll K H' xs ((List.range i).map f)) ⟨Evl.Ex.new nD, [], upd_same, .nil⟩ ?_ ?_
  · rintro i H' hi ⟨p1, xs, p2, p3⟩
    refine ⟨hw _, ?_⟩
    show te ((wipe σ vs).set j (some (.int ((0 : Int) + (i : Int))))) H' _
    rw [Int.zero_add]
    refine he i H' hi p1 _ fun y H4 e4 hy => ⟨xs, e4 _ _ p2, ?_, Evl.Ex.mut (p1.trans e4) nD, xs ++ [y], upd_same, ?_⟩
    · have := p3.length
      rw [List.length_map, List.length_range] at this
      exact sz_lt (by omega)
    · rw [List.range_succ, List.map_append]
      exact TpAll.snoc ((p3.ex e4).upd (e4 _ _ p2)) (hy.upd (e4 _ _ p2))
  · rintro H' ⟨p1, xs, p2, p3⟩
    exact hd xs H' p1 p2 p3
end
end Rb
namespace Rb
/-! ### plans and ticks: the mathematics -/
def mx (a b : Int) : Int := if b > a then b else a
def leP (p q : Int × Int) : Prop := p.1 < q.1 ∨ (p.1 = q.1 ∧ p.2 ≤ q.2)
instance (p q : Int × Int) : Decidable (leP p q) := inferInstanceAs (Decidable (p.1 < q.1 ∨ (p.1 = q.1 ∧ p.2 ≤ q.2)))
def insB {α : Type} (le : α → α → Bool) (x : α) : List α → List α
  | [] => [x]
  | y :: ys => if le x y = true then x :: y :: ys else y :: insB le x ys
def sortB {α : Type} (le : α → α → Bool) : List α → List α
  | [] => []
  | x :: xs => insB le x (sortB le xs)
theorem insB_perm {α : Type} (le : α → α → Bool) (x : α) : ∀ l : List α, (insB le x l).Perm (x :: l)
  | [] => List.Perm.refl _
  | y :: ys => by
    unfold insB
    split
    · exact List.Perm.refl _
    · exact ((insB_perm le x ys).cons y).trans (List.Perm.swap x y ys)
theorem sortB_perm {α : Type} (le : α → α → Bool) : ∀ l : List α, (sortB le l).Perm l
  | [] => List.Perm.refl _
  | x :: xs => (insB_perm le x _).trans ((sortB_perm le xs).cons x)
theorem insB_sorted {α : Type} {le : α → α → Bool} (tr : ∀ a b c, le a b = true → le b c = true → le a c = true) (tot : ∀ a b, le a b = true ∨ le b a = true) (x : α) : ∀ l : List α, l.Pairwise (fun a b => le a b = true) → (insB le x l).Pairwise (fun a b => le a b = true)
  | [], _ => List.pairwise_singleton _ _
  | y :: ys, h => by
    have hy := List.pairwise_cons.mp h
    unfold insB
    split
    · rename_i c
      refine List.pairwise_cons.mpr ⟨fun z hz => ?_, h⟩
      rcases List.mem_cons.mp hz with rfl | hz
      · exact c
      · exact tr _ _ _ c (hy.1 z hz)
    · rename_i c
      refine List.pairwise_cons.mpr ⟨fun z hz => ?_, insB_sorted tr tot x ys hy.2⟩
      rcases List.mem_cons.mp ((insB_perm le x ys).mem_iff.mp hz) with rfl | hz
      · exact (tot z y).resolve_left c
      · exact hy.1 z hz
theorem sortB_sorted {α : Type} {le : α → α → Bool} (tr : ∀ a b c, le a b = true → le b c = true → le a c = true) (tot : ∀ a b, le a b = true ∨ le b a = true) : ∀ l : List α, (sortB le l).Pairwise (fun a b => le a b = true)
  | [] => List.Pairwise.nil
  | x :: xs => insB_sorted tr tot x _ (sortB_sorted tr tot xs)
def srt (l : List Int) : List Int := sortB (fun a b => decide (a ≤ b)) l
def srtP (l : List (Int × Int)) : List (Int × Int) := sortB (fun a b => decide (leP a b)) l
theorem srt_perm (l : List Int) : (srt l).Perm l := sortB_perm _ l
theorem srtP_perm (l : List (Int × Int)) : (srtP l).Perm l := sortB_perm _ l
theorem srt_sorted (l : List Int) : (srt l).Pairwise (· ≤ ·) := by
  have h := sortB_sorted (le := fun a b : Int => decide (a ≤ b)) (fun a b c h1 h2 => by simp only [decide_eq_true_eq] at *; omega) (fun a b => by simp only [decide_eq_true_eq]; omega) l
  exact h.imp fun h => of_decide_eq_true h
theorem leP_trans {a b c : Int × Int} (h1 : leP a b) (h2 : leP b c) : leP a c := by
  unfold leP at *
  omega
theorem leP_total (a b : Int × Int) : leP a b ∨ leP b a := by
  unfold leP
  omega
theorem srtP_sorted (l : List (Int × Int)) : (srtP l).Pairwise leP := by
  have h := sortB_sorted (le := fun a b : Int × Int => decide (leP a b)) (fun a b c h1 h2 => decide_eq_true (leP_trans (of_decide_eq_true h1) (of_decide_eq_true h2))) (fun a b => by rcases leP_total a b with h | h <;> simp [h]) l
  exact h.imp fun h => of_decide_eq_true h
theorem leP_anti {a b : Int × Int} (h1 : leP a b) (h2 : leP b a) : a = b := by
  obtain ⟨a1, a2⟩ := a
  obtain ⟨b1, b2⟩ := b
  simp only [leP] at h1 h2
  have : a1 = b1 := by omega
  have : a2 = b2 := by omega
  simp [*]
theorem srt_uniq {l m : List Int} (hp : m.Perm l) (hs : m.Pairwise (· ≤ ·)) : m = srt l :=
  List.Perm.eq_of_pairwise (fun a b _ _ h1 h2 => Int.le_antisymm h1 h2) hs (srt_sorted l) (hp.trans (srt_perm l).symm)
theorem srtP_uniq {l m : List (Int × Int)} (hp : m.Perm l) (hs : m.Pairwise leP) : m = srtP l :=
  List.Perm.eq_of_pairwise (fun a b _ _ h1 h2 => leP_anti h1 h2) hs (srtP_sorted l) (hp.trans (srtP_perm l).symm)
theorem srt_len (l : List Int) : (srt l).length = l.length := (srt_perm l).length_eq
theorem srtP_len (l : List (Int × Int)) : (srtP l).length = l.length := (srtP_perm l).length_eq
/-- places set one after another -/
def setF (l : List Int) (zs : List (Nat × Int)) : List Int := zs.foldl (fun l z => l.set z.1 z.2) l
theorem setF_len : ∀ (zs : List (Nat × Int)) (l : List Int), (setF l zs).length = l.length
  | [], _ => rfl
  | z :: zs, l => by
    show (setF (l.set z.1 z.2) zs).length = _
    rw [setF_len zs, List.length_set]
theorem setF_snoc (l : List Int) (zs : List (Nat × Int)) (z : Nat × Int) : setF l (zs ++ [z]) = (setF l zs).set z.1 z.2 := by
  unfold setF
  rw [List.foldl_append]
  rfl
theorem setF_out : ∀ (zs : List (Nat × Int)) (l : List Int) (p : Nat), (∀ z ∈ zs, z.1 ≠ p) → (setF l zs)[p]? = l[p]?
  | [], _, _, _ => rfl
  | z :: zs, l, p, h => by
    show (setF (l.set z.1 z.2) zs)[p]? = _
    rw [setF_out zs _ p fun y hy => h y (List.mem_cons_of_mem _ hy), List.getElem?_set, if_neg (h z List.mem_cons_self)]
theorem setF_in : ∀ (zs : List (Nat × Int)) (l : List Int) (p : Nat) (x : Int), (zs.map (·.1)).Nodup → (p, x) ∈ zs → p < l.length → (setF l zs)[p]? = some x
  | [], _, _, _, _, h, _ => nomatch h
  | z :: zs, l, p, x, nd, h, hp => by
    show (setF (l.set z.1 z.2) zs)[p]? = _
    have nd' := List.nodup_cons.mp nd
    rcases List.mem_cons.mp h with e | h
    · subst e
      rw [setF_out zs _ p fun y hy e => nd'.1 (List.mem_map.mpr ⟨y, hy, e⟩), List.getElem?_set, if_pos rfl, if_pos hp]
    · exact setF_in zs _ p x nd'.2 h (by rw [List.length_set]; exact hp)
/-! one stage -/
section
variable (ticks : List Int) (riders brought : List Nat) (st : Nat) (walk ride : Int)
def tickAt (p : Nat) : Int := ticks.getD p 0
def queueM : List (Int × Int) := srtP (riders.map fun p => (tickAt ticks p, (p : Int)))
def bikesM : List Int := srt (List.replicate st 0 ++ brought.map fun p => tickAt ticks p)
def pairsM : List ((Int × Int) × Int) := (queueM ticks riders).zip (bikesM ticks brought st)
def leaveM : List Int := setF ticks ((pairsM ticks riders brought st).map fun z => (z.1.2.toNat, mx z.1.1 z.2))
def rowM : List Int := (leaveM ticks riders brought st).mapIdx fun p t => t + if p ∈ riders then ride else walk
end
section
variable {ticks : List Int} {riders brought : List Nat} {st : Nat} {walk ride : Int}
theorem queueM_len : (queueM ticks riders).length = riders.length := by
  unfold queueM
  rw [srtP_len, List.length_map]
theorem bikesM_len : (bikesM ticks brought st).length = st + brought.length := by
  unfold bikesM
  rw [srt_len, List.length_append, List.length_replicate, List.length_map]
theorem pairsM_len (h : riders.length ≤ st + brought.length) : (pairsM ticks riders brought st).length = riders.length := by
  unfold pairsM
  rw [List.length_zip, queueM_len, bikesM_len]
  omega
theorem leaveM_len : (leaveM ticks riders brought st).length = ticks.length := setF_len _ _
theorem rowM_len : (rowM ticks riders brought st walk ride).length = ticks.length := by
  unfold rowM
  rw [List.length_mapIdx, leaveM_len]
/-- the people of the pairs are the riders -/
theorem pairs_people (h : riders.length ≤ st + brought.length) : ((pairsM ticks riders brought st).map fun z => z.1.2.toNat).Perm riders := by
  have e : (pairsM ticks riders brought st).map (fun z => z.1.2.toNat) = (queueM ticks riders).map (fun z => z.2.toNat) := by
    unfold pairsM
    rw [show (fun z : (Int × Int) × Int => z.1.2.toNat) = (fun z : Int × Int => z.2.toNat) ∘ Prod.fst from rfl, ← List.map_map, List.map_fst_zip (by rw [queueM_len, bikesM_len]; exact h)]
  rw [e]
  have p := (srtP_perm (riders.map fun p => (tickAt ticks p, (p : Int)))).map fun z => z.2.toNat
  rw [List.map_map] at p
  have e2 : riders.map ((fun z : Int × Int => z.2.toNat) ∘ fun p => (tickAt ticks p, (p : Int))) = riders := by
    rw [show ((fun z : Int × Int => z.2.toNat) ∘ fun p : Nat => (tickAt ticks p, (p : Int))) = id from funext fun p => Int.toNat_natCast p, List.map_id]
  rw [e2] at p
  exact p
theorem pairs_mem {z : (Int × Int) × Int} (h : z ∈ pairsM ticks riders brought st) : ∃ p ∈ riders, z.1 = (tickAt ticks p, (p : Int)) := by
  have h1 : z.1 ∈ queueM ticks riders := (List.of_mem_zip (show (z.1, z.2) ∈ (queueM ticks riders).zip _ from h)).1
  have h2 := (srtP_perm _).mem_iff.mp h1
  obtain ⟨p, hp, e⟩ := List.mem_map.mp h2
  exact ⟨p, hp, e.symm⟩
/-- who leaves when -/
theorem leave_in (h : riders.length ≤ st + brought.length) (nd : riders.Nodup) {p : Nat} (hp : p ∈ riders) (hl : p < ticks.length) :
    ∃ b, ((tickAt ticks p, (p : Int)), b) ∈ pairsM ticks riders brought st ∧ (leaveM ticks riders brought st)[p]? = some (mx (tickAt ticks p) b) := by
  have pp := pairs_people (ticks := ticks) h
  obtain ⟨z, hz, e⟩ := List.mem_map.mp (pp.mem_iff.mpr hp)
  obtain ⟨p2, hp2, e2⟩ := pairs_mem hz
  have : p2 = p := by
    rw [e2] at e
    simpa using e
  subst this
  obtain ⟨z1, b⟩ := z
  simp only at e2
  subst e2
  refine ⟨b, hz, ?_⟩
  refine setF_in _ _ p2 _ ?_ (List.mem_map.mpr ⟨_, hz, by simp⟩) hl
  rw [List.map_map]
  exact pp.nodup_iff.mpr nd
theorem leave_out {p : Nat} (hp : p ∉ riders) : (leaveM ticks riders brought st)[p]? = ticks[p]? := by
  refine setF_out _ _ p fun y hy e => ?_
  obtain ⟨z, hz, rfl⟩ := List.mem_map.mp hy
  obtain ⟨p2, hp2, e2⟩ := pairs_mem hz
  simp only [e2] at e
  have : p2 = p := by simpa using e
  exact hp (this ▸ hp2)
/-! the law's own way: the same pairs, rides added at once, then the walkers -/
def afterM (ticks : List Int) (riders brought : List Nat) (st : Nat) (ride : Int) (i : Nat) : List Int := setF ticks (((pairsM ticks riders brought st).take i).map fun z => (z.1.2.toNat, mx z.2 z.1.1 + ride))
def walkM (l : List Int) (riders : List Nat) (walk : Int) (k : Nat) : List Int := l.mapIdx fun p t => if p < k ∧ p ∉ riders then t + walk else t
theorem mx_comm (a b : Int) : mx a b = mx b a := by
  unfold mx
  split <;> split <;> omega
theorem after_row (h : riders.length ≤ st + brought.length) (nd : riders.Nodup) (hr : ∀ p ∈ riders, p < ticks.length) :
    walkM (afterM ticks riders brought st ride riders.length) riders walk ticks.length = rowM ticks riders brought st walk ride := by
  apply List.ext_getElem?
  intro p
  unfold walkM rowM
  rw [List.getElem?_mapIdx, List.getElem?_mapIdx]
  have hz : (pairsM ticks riders brought st).take riders.length = pairsM ticks riders brought st := List.take_of_length_le (by rw [pairsM_len h]; exact Nat.le_refl _)
  unfold afterM
  rw [hz]
  by_cases hp : p ∈ riders
  · obtain ⟨b, hb, e⟩ := leave_in h nd hp (hr p hp)
    rw [e]
    have e2 : (setF ticks ((pairsM ticks riders brought st).map fun z => (z.1.2.toNat, mx z.2 z.1.1 + ride)))[p]? = some (mx b (tickAt ticks p) + ride) := by
      refine setF_in _ _ p _ ?_ (List.mem_map.mpr ⟨_, hb, by simp⟩) (hr p hp)
      rw [List.map_map]
      exact (pairs_people (ticks := ticks) h).nodup_iff.mpr nd
    rw [e2]
    simp only [Option.map_some, hp, not_true_eq_false, and_false, if_false, if_true]
    rw [mx_comm]
  · rw [leave_out hp]
    have e2 : (setF ticks ((pairsM ticks riders brought st).map fun z => (z.1.2.toNat, mx z.2 z.1.1 + ride)))[p]? = ticks[p]? := by
      refine setF_out _ _ p fun y hy e => ?_
      obtain ⟨z, hz, rfl⟩ := List.mem_map.mp hy
      obtain ⟨p2, hp2, e2⟩ := pairs_mem hz
      simp only [e2] at e
      have : p2 = p := by simpa using e
      exact hp (this ▸ hp2)
    rw [e2]
    by_cases hl : p < ticks.length
    · rw [List.getElem?_eq_getElem hl]
      simp only [Option.map_some, hp, hl, not_false_eq_true, and_self, if_true, if_false]
    · rw [List.getElem?_eq_none (by omega)]
      rfl
end
/-! a whole plan: the ticks at each station -/
structure PlanOk (bikes : List Int) (n : Nat) (plan : List (List Nat)) : Prop where
  len : plan.length = bikes.length
  nn : ∀ b ∈ bikes, 0 ≤ b
  asc : ∀ r ∈ plan, r.Pairwise (· < ·)
  lt : ∀ r ∈ plan, ∀ p ∈ r, p < n
  few : ∀ i, (plan.getD i []).length ≤ (bikes.getD i 0).toNat + (if i = 0 then 0 else (plan.getD (i - 1) []).length)
def brM (plan : List (List Nat)) (i : Nat) : List Nat := if i = 0 then [] else plan.getD (i - 1) []
def tkM (walk ride : Int) (bikes starts : List Int) (plan : List (List Nat)) : Nat → List Int
  | 0 => starts
  | i + 1 => rowM (tkM walk ride bikes starts plan i) (plan.getD i []) (brM plan i) (bikes.getD i 0).toNat walk ride
theorem tkM_len {walk ride : Int} {bikes starts : List Int} {plan : List (List Nat)} : ∀ i, (tkM walk ride bikes starts plan i).length = starts.length
  | 0 => rfl
  | i + 1 => by
    show (rowM _ _ _ _ _ _).length = _
    rw [rowM_len, tkM_len i]
def rowsM (walk ride : Int) (bikes starts : List Int) (plan : List (List Nat)) (m : Nat) : List (List Int) := (List.range (m + 1)).map (tkM walk ride bikes starts plan)
/-! waits -/
def waitsI (w0 ticks : List Int) (riders brought : List Nat) (st k : Nat) : List Int := setF w0 (((pairsM ticks riders brought st).take k).map fun z => (z.1.2.toNat, w0.getD z.1.2.toNat 0 + mx 0 (z.2 - z.1.1)))
def wtM (walk ride : Int) (bikes starts : List Int) (plan : List (List Nat)) : Nat → List Int
  | 0 => List.replicate starts.length 0
  | i + 1 => waitsI (wtM walk ride bikes starts plan i) (tkM walk ride bikes starts plan i) (plan.getD i []) (brM plan i) (bikes.getD i 0).toNat (plan.getD i []).length
theorem waitsI_len {w0 ticks : List Int} {riders brought : List Nat} {st k : Nat} : (waitsI w0 ticks riders brought st k).length = w0.length := setF_len _ _
theorem wtM_len {walk ride : Int} {bikes starts : List Int} {plan : List (List Nat)} : ∀ i, (wtM walk ride bikes starts plan i).length = starts.length
  | 0 => List.length_replicate
  | i + 1 => by
    show (waitsI _ _ _ _ _ _).length = _
    rw [waitsI_len, wtM_len i]
theorem afterM_len {ticks : List Int} {riders brought : List Nat} {st : Nat} {ride : Int} {k : Nat} : (afterM ticks riders brought st ride k).length = ticks.length := setF_len _ _
section
variable {ticks w0 : List Int} {riders brought : List Nat} {st k : Nat} {ride : Int} {z : (Int × Int) × Int}
theorem take_snoc (hz : (pairsM ticks riders brought st)[k]? = some z) : (pairsM ticks riders brought st).take (k + 1) = (pairsM ticks riders brought st).take k ++ [z] := by
  rw [List.take_add_one, hz]
  rfl
theorem afterM_succ (hz : (pairsM ticks riders brought st)[k]? = some z) : afterM ticks riders brought st ride (k + 1) = (afterM ticks riders brought st ride k).set z.1.2.toNat (mx z.2 z.1.1 + ride) := by
  unfold afterM
  rw [take_snoc hz, List.map_append]
  exact setF_snoc _ _ _
theorem waitsI_succ (hz : (pairsM ticks riders brought st)[k]? = some z) : waitsI w0 ticks riders brought st (k + 1) = (waitsI w0 ticks riders brought st k).set z.1.2.toNat (w0.getD z.1.2.toNat 0 + mx 0 (z.2 - z.1.1)) := by
  unfold waitsI
  rw [take_snoc hz, List.map_append]
  exact setF_snoc _ _ _
/-- a rider's wait is not set before the rider's turn -/
theorem waitsI_at (h : riders.length ≤ st + brought.length) (nd : riders.Nodup) (hz : (pairsM ticks riders brought st)[k]? = some z) : (waitsI w0 ticks riders brought st k)[z.1.2.toNat]? = w0[z.1.2.toNat]? := by
  refine setF_out _ _ _ fun y hy e => ?_
  obtain ⟨x, hx, rfl⟩ := List.mem_map.mp hy
  obtain ⟨j, hj, ej⟩ := List.getElem_of_mem hx
  rw [List.length_take] at hj
  have pn : ((pairsM ticks riders brought st).map fun z => z.1.2.toNat).Nodup := (pairs_people (ticks := ticks) h).nodup_iff.mpr nd
  have kl : k < (pairsM ticks riders brought st).length := (List.getElem?_eq_some_iff.mp hz).1
  have ek : (pairsM ticks riders brought st)[k] = z := (List.getElem?_eq_some_iff.mp hz).2
  rw [List.getElem_take] at ej
  have jl : j < (pairsM ticks riders brought st).length := by omega
  have ne := List.pairwise_iff_getElem.mp (List.nodup_iff_pairwise_ne.mp pn) j k (by rw [List.length_map]; exact jl) (by rw [List.length_map]; exact kl) (by omega)
  rw [List.getElem_map, List.getElem_map, ej, ek] at ne
  exact ne e
theorem walkM_len {l : List Int} {walk : Int} : (walkM l riders walk k).length = l.length := by
  unfold walkM
  rw [List.length_mapIdx]
theorem walkM_zero {l : List Int} {walk : Int} : walkM l riders walk 0 = l := by
  unfold walkM
  apply List.ext_getElem?
  intro p
  rw [List.getElem?_mapIdx]
  cases l[p]? with
  | none => rfl
  | some x => simp
theorem walkM_in {l : List Int} {walk : Int} (h : k ∈ riders) : walkM l riders walk (k + 1) = walkM l riders walk k := by
  unfold walkM
  apply List.ext_getElem?
  intro p
  rw [List.getElem?_mapIdx, List.getElem?_mapIdx]
  cases l[p]? with
  | none => rfl
  | some x =>
    have e : (p < k + 1 ∧ p ∉ riders) ↔ (p < k ∧ p ∉ riders) := by
      constructor
      · rintro ⟨a, b⟩
        refine ⟨?_, b⟩
        rcases Nat.lt_or_ge p k with c | c
        · exact c
        · have : p = k := by omega
          exact absurd (this ▸ h) b
      · rintro ⟨a, b⟩
        exact ⟨by omega, b⟩
    simp only [Option.map_some, e]
theorem walkM_out {l : List Int} {walk x : Int} (h : k ∉ riders) (hx : (walkM l riders walk k)[k]? = some x) : walkM l riders walk (k + 1) = (walkM l riders walk k).set k (x + walk) := by
  have kl : k < l.length := by
    have := (List.getElem?_eq_some_iff.mp hx).1
    rw [walkM_len] at this
    exact this
  apply List.ext_getElem?
  intro p
  rw [List.getElem?_set]
  by_cases e : k = p
  · subst e
    rw [if_pos rfl, if_pos (by rw [walkM_len]; exact kl)]
    unfold walkM at hx ⊢
    rw [List.getElem?_mapIdx, List.getElem?_eq_getElem kl] at hx ⊢
    simp only [Option.map_some, Nat.lt_irrefl, false_and, if_false, Option.some.injEq] at hx
    simp only [Option.map_some, Nat.lt_succ_self, h, not_false_eq_true, and_self, if_true, hx]
  · rw [if_neg e]
    unfold walkM
    rw [List.getElem?_mapIdx, List.getElem?_mapIdx]
    cases l[p]? with
    | none => rfl
    | some y =>
      have e2 : (p < k + 1 ∧ p ∉ riders) ↔ (p < k ∧ p ∉ riders) := by
        constructor <;> (rintro ⟨a, b⟩; exact ⟨by omega, b⟩)
      simp only [Option.map_some, e2]
end
/-- a least item of what is left is the next in order -/
theorem least_next {S l : List (Int × Int)} {k : Nat} {m : Int × Int} (hs : S.Pairwise leP) (hp : l.Perm (S.drop k)) (hm : m ∈ l) (hle : ∀ q ∈ l, leP m q) : S[k]? = some m ∧ S.drop k = m :: S.drop (k + 1) := by
  have hm2 := hp.mem_iff.mp hm
  have kl : k < S.length := by
    rcases Nat.lt_or_ge k S.length with c | c
    · exact c
    · rw [List.drop_of_length_le c] at hm2
      cases hm2
  have ed : S.drop k = S[k] :: S.drop (k + 1) := List.drop_eq_getElem_cons kl
  have h1 : leP m S[k] := hle _ (hp.mem_iff.mpr (by rw [ed]; exact List.mem_cons_self))
  have h2 : leP S[k] m := by
    have hs2 : (S.drop k).Pairwise leP := hs.sublist (List.drop_sublist _ _)
    rw [ed] at hs2 hm2
    rcases List.mem_cons.mp hm2 with e | e
    · rw [e]
      exact .inr ⟨rfl, Int.le_refl _⟩
    · exact (List.pairwise_cons.mp hs2).1 m e
  have e := leP_anti h1 h2
  exact ⟨by rw [List.getElem?_eq_getElem kl, e], by rw [e]; exact ed⟩
theorem least_nextI {S l : List Int} {k : Nat} {m : Int} (hs : S.Pairwise (· ≤ ·)) (hp : l.Perm (S.drop k)) (hm : m ∈ l) (hle : ∀ q ∈ l, m ≤ q) : S[k]? = some m ∧ S.drop k = m :: S.drop (k + 1) := by
  have hm2 := hp.mem_iff.mp hm
  have kl : k < S.length := by
    rcases Nat.lt_or_ge k S.length with c | c
    · exact c
    · rw [List.drop_of_length_le c] at hm2
      cases hm2
  have ed : S.drop k = S[k] :: S.drop (k + 1) := List.drop_eq_getElem_cons kl
  have h1 : m ≤ S[k] := hle _ (hp.mem_iff.mpr (by rw [ed]; exact List.mem_cons_self))
  have h2 : S[k] ≤ m := by
    have hs2 : (S.drop k).Pairwise (· ≤ ·) := hs.sublist (List.drop_sublist _ _)
    rw [ed] at hs2 hm2
    rcases List.mem_cons.mp hm2 with e | e
    · omega
    · exact (List.pairwise_cons.mp hs2).1 m e
  have e : m = S[k] := by omega
  exact ⟨by rw [List.getElem?_eq_getElem kl, e], by rw [e]; exact ed⟩
theorem first_idx {α : Type} [DecidableEq α] {l : List α} {m : α} (h : m ∈ l) : ∃ j : Nat, l[j]? = some m ∧ ∀ i : Nat, i < j → l[i]? ≠ some m := by
  induction l with
  | nil => cases h
  | cons x r ih =>
    by_cases e : x = m
    · exact ⟨0, by rw [e]; rfl, fun i hi => absurd hi (Nat.not_lt_zero _)⟩
    · rcases List.mem_cons.mp h with h | h
      · exact absurd h.symm e
      · obtain ⟨j, h1, h2⟩ := ih h
        refine ⟨j + 1, h1, fun i hi => ?_⟩
        cases i with
        | zero => exact fun z => e (Option.some.inj z)
        | succ i => exact h2 i (by omega)
theorem erase_next {α : Type} {l r : List α} {m : α} {j : Nat} (hj : l[j]? = some m) (hp : l.Perm (m :: r)) : (l.eraseIdx j).Perm r := by
  have h : (m :: l.eraseIdx j).Perm l := by
    clear hp
    induction l generalizing j with
    | nil => simp at hj
    | cons x l ih =>
      cases j with
      | zero =>
        cases hj
        exact List.Perm.refl _
      | succ j => exact (List.Perm.swap x m _).trans ((ih hj).cons x)
  exact (h.trans hp).cons_inv
/-! bounds -/
def Bnd (M : Int) (l : List Int) : Prop := ∀ x ∈ l, 0 ≤ x ∧ x ≤ M
theorem setF_mem : ∀ (zs : List (Nat × Int)) (l : List Int) (x : Int), x ∈ setF l zs → x ∈ l ∨ ∃ z ∈ zs, x = z.2
  | [], _, _, h => .inl h
  | z :: zs, l, x, h => by
    rcases setF_mem zs (l.set z.1 z.2) x h with h | ⟨y, hy, e⟩
    · rcases List.mem_or_eq_of_mem_set h with h | h
      · exact .inl h
      · exact .inr ⟨z, List.mem_cons_self, h⟩
    · exact .inr ⟨y, List.mem_cons_of_mem _ hy, e⟩
theorem tickAt_bnd {M : Int} {ticks : List Int} (hM : 0 ≤ M) (h : Bnd M ticks) (p : Nat) : 0 ≤ tickAt ticks p ∧ tickAt ticks p ≤ M := by
  unfold tickAt
  rw [List.getD_eq_getElem?_getD]
  cases e : ticks[p]? with
  | none => exact ⟨Int.le_refl _, hM⟩
  | some x => exact h x (List.mem_of_getElem? e)
theorem leave_bnd {M : Int} {ticks : List Int} {riders brought : List Nat} {st : Nat} (hM : 0 ≤ M) (h : Bnd M ticks) : Bnd M (leaveM ticks riders brought st) := by
  intro x hx
  rcases setF_mem _ _ x hx with g | ⟨z, hz, rfl⟩
  · exact h x g
  · obtain ⟨y, hy, rfl⟩ := List.mem_map.mp hz
    obtain ⟨p, hp, e⟩ := pairs_mem hy
    have hb : y.2 ∈ bikesM ticks brought st := (List.of_mem_zip (show (y.1, y.2) ∈ (queueM ticks riders).zip (bikesM ticks brought st) from hy)).2
    have hb2 : 0 ≤ y.2 ∧ y.2 ≤ M := by
      rcases List.mem_append.mp ((srt_perm _).mem_iff.mp hb) with g | g
      · rw [List.eq_of_mem_replicate g]
        exact ⟨Int.le_refl _, hM⟩
      · obtain ⟨q, _, e2⟩ := List.mem_map.mp g
        rw [← e2]
        exact tickAt_bnd hM h q
    have ht := tickAt_bnd hM h p
    have e1 : y.1.1 = tickAt ticks p := by rw [e]
    show 0 ≤ mx y.1.1 y.2 ∧ mx y.1.1 y.2 ≤ M
    unfold mx
    split <;> omega
theorem row_bnd {M walk ride : Int} {ticks : List Int} {riders brought : List Nat} {st : Nat} (hM : 0 ≤ M) (h : Bnd M ticks) (hw : 0 ≤ walk ∧ walk ≤ 1000) (hr : 0 ≤ ride ∧ ride ≤ 1000) : Bnd (M + 1000) (rowM ticks riders brought st walk ride) := by
  intro x hx
  obtain ⟨i, hi, e⟩ := List.getElem_of_mem hx
  unfold rowM at hi e
  rw [List.getElem_mapIdx] at e
  rw [List.length_mapIdx] at hi
  have g := leave_bnd (riders := riders) (brought := brought) (st := st) hM h _ (List.getElem_mem hi)
  split at e <;> omega
theorem tk_bnd {walk ride M : Int} {bikes starts : List Int} {plan : List (List Nat)} (hM : 0 ≤ M) (h : Bnd M starts) (hw : 0 ≤ walk ∧ walk ≤ 1000) (hr : 0 ≤ ride ∧ ride ≤ 1000) : ∀ i : Nat, Bnd (M + 1000 * i) (tkM walk ride bikes starts plan i)
  | 0 => fun x hx => by have := h x hx; omega
  | i + 1 => by
    have g := row_bnd (riders := plan.getD i []) (brought := brM plan i) (st := (bikes.getD i 0).toNat) (by omega) (tk_bnd (bikes := bikes) (plan := plan) hM h hw hr i) hw hr
    intro x hx
    have := g x hx
    have e : ((i + 1 : Nat) : Int) = (i : Int) + 1 := by omega
    omega
end Rb
namespace Rb
open PySem PySem.Spec PyProof.Rows L2
/-! enumerate of a tuple -/
abbrev tIter (t : Addr) : Obj := { cls := .type "tuple_iterator", data := .fields #[.ref t, .int 0 0] }
abbrev enObj (it : Addr) : Obj := { cls := .type "enumerate", data := .fields #[.none, .bool false, .ref it, rawInt 0, .none, .none] }
open AutoSeq1 (wpAny_loadPart') in
theorem enumTupNew (t : Addr) (its : Array Value) (n : Nat) (dc : Option Addr) (sl : Array (Option Value)) :
    Meets (Builtin.«enumerate.__new__» ⟨[.type "enumerate", .ref t], []⟩) (fun _ R s => s.heap.get? t = some { cls := .type "tuple", dict := dc, data := .seq its n, slots := sl } ∧
      R (.ok (.ret (.ref (s.heap.push (tIter t)).objs.size))) { s with heap := (s.heap.push (tIter t)).push (enObj s.heap.objs.size) }) := by
  refine .of_wp fun pr wo A R s h => ?_
  obtain ⟨hp, g, d, tk, os⟩ := s
  obtain ⟨ht, h⟩ := h
  have hsub := sub_enumerate
  have hT : Heap.IsTuple (Shared.heap ⟨hp, g, d, tk, os⟩) t its := ⟨_, ht, rfl, n, rfl⟩
  wp_walk using wpAny_loadPart' ht
  refine wpAny_stack_any fun st => wpAny_pure ?_
  split
  · rename_i c _ _ _ _ _
    cases (c == Value.type "enumerate") <;> (wp_walk using wpAny_loadPart' ht, wpAny_pyIter_tuple hT; exact ⟨_, rfl, h⟩)
  · wp_walk using wpAny_loadPart' ht, wpAny_pyIter_tuple hT
    exact ⟨_, rfl, h⟩
theorem enumTup {pr : Program} {wo : World} {A : Around} {E : Value → Shared → Prop} {s : Shared} {t : Addr} {its : Array Value} {Q : Value → Shared → Prop} (hT : s.heap.IsTuple t its)
    (h : ∀ h2, IsEnum h2 (s.heap.objs.size + 1) s.heap.objs.size 0 .none → h2.IsTupleIter s.heap.objs.size t 0 → (∀ b o, s.heap.get? b = some o → h2.get? b = some o) → Q (.ref (s.heap.objs.size + 1)) { s with heap := h2 }) :
    wpAny (model pr wo) A (call (.type "enumerate") [.ref t]) Q E s := by
  obtain ⟨⟨c, dc, dt, sl⟩, ht, hc, n, hd⟩ := hT
  cases (show c = .type "tuple" from hc)
  cases (show dt = .seq its n from hd)
  refine callType_new F.called_enumerate (by decide) (F.typeCall_enumerate_1 _) (F.newCall_enumerate_1 _) (fun obj => F.args_object_init_2 obj _) F.entry_enumerate_new (enumTupNew t its n dc sl) ⟨ht, ?_⟩
  have hz : (s.heap.push (tIter t)).objs.size = s.heap.objs.size + 1 := Heap.size_push ..
  have he : IsEnum ((s.heap.push (tIter t)).push (enObj s.heap.objs.size)) (s.heap.objs.size + 1) s.heap.objs.size 0 .none := by
    have q := Heap.get?_push_size (s.heap.push (tIter t)) (o := enObj s.heap.objs.size) rfl
    rw [hz] at q
    exact q
  show _ ∧ _
  rw [hz]
  exact ⟨⟨_, he, rfl⟩, h _ he ⟨_, Heap.get?_push_of_some _ (Heap.get?_push_size _ rfl), rfl, rfl⟩ fun b o x => Heap.get?_push_of_some _ (Heap.get?_push_of_some _ x)⟩
/-- the tuple at a, each item in a new pair with its place -/
def ItE (K : PySem.W.Frag) (a : Addr) : It where
  go i H := ∃ (xs : List V) (x : V), SqT K H a xs ∧ xs[i]? = some x
  yld i H v H' := ∃ T x, v = .ref T ∧ H T = none ∧ H' = upd H T (.tup [.int (i : Nat), x]) ∧ ∀ xs, SqT K H a xs → xs[i]? = some x
  stop i H := ∃ xs : List V, SqT K H a xs ∧ xs.length = i
theorem turnE {pr : Program} {wo : World} {K : PySem.W.Frag} {elts : List Expr} {kk : Nat} {tp : Pos} (a e it : Addr) :
    Turn pr wo K (.Tuple elts kk tp) (ItE K a) [e, it] e (fun i h => (∃ old, IsEnum h e it ((i : Nat) : Int) old) ∧ h.IsTupleIter it a i ∧ e ≠ it ∧ e ≠ a ∧ a ≠ it) := by
  have two : ∀ {b : Addr}, b ∈ [e, it] → b = e ∨ b = it := fun hb => by simpa using hb
  constructor
  case mem => exact List.mem_cons_self
  case obj =>
    rintro i h ⟨⟨old, he⟩, ⟨o, ho, hc, hd⟩, _⟩ b hb
    rcases two hb with rfl | rfl
    · exact ⟨_, he, fun v q => nomatch q⟩
    · exact ⟨o, ho, fun v q => by rw [hd] at q; cases q⟩
  case keep =>
    rintro i h h' ⟨⟨old, he⟩, hi, hn⟩ k
    exact ⟨⟨old, k e List.mem_cons_self _ he⟩, hi.at fun o q => k it (List.mem_cons_of_mem _ List.mem_cons_self) o q, hn⟩
  case item =>
    intro X h1 h2 h3 hc i pins s σ H E I hf st hg
    subst h1 h2 h3
    obtain ⟨⟨old, he⟩, hit, hne, hea, hai⟩ := st
    obtain ⟨xs, x, hq, hx⟩ := hg
    obtain ⟨its, rv, p, hz⟩ := I.tuple hq
    have p2 := isTup_isTuple p
    obtain ⟨u, hu, ru⟩ := rv.get hx
    have hel : e < s.heap.objs.size := Heap.lt_size he
    have hil : it < s.heap.objs.size := by obtain ⟨_, q, _⟩ := hit; exact Heap.lt_size q
    have ilt : i < its.toArray.size := by
      have := (List.getElem?_eq_some_iff.mp hu).1
      simpa using this
    refine wpAny_pyNext_enum_itemD (Draws.tuple (A := X.A.in1) (I.ok.hd hc) it a hai its.toArray) he ⟨hit, p2⟩ ilt hne (fun hm => ?_) fun x2 h' tk hP ho hs hT hsz hk => ?_
    · rcases List.mem_cons.mp hm with z | hm
      · exact hne z
      · exact hea (List.mem_singleton.mp hm)
    have hx2 : x2 = u := by
      have hP' : its.toArray[i]? = some x2 := hP
      rw [List.getElem?_toArray, hu] at hP'
      exact (Option.some.inj hP').symm
    subst hx2
    refine ⟨_, rfl, wpAny_letOwnedTupleGo_enum (s := { s with heap := h', toks := tk + 1 }) ho fun h2 he2 sb => ?_⟩
    have hT2 : h2.get? s.heap.objs.size = some { cls := .type "tuple", data := .seq #[.int i tk, x2] } := (sb.2 _ (Nat.ne_of_gt hel)).trans hT
    have new : ObjOk X.prog X.w (upd H s.heap.objs.size (.tup [.int (i : Nat), x])) h2 s.heap.objs.size (.tup [.int (i : Nat), x]) :=
      ⟨by show 2 ≤ sizeLine; decide, [.int i tk, x2], .cons ⟨_, rfl⟩ (.cons ru .nil), ⟨_, hT2, rfl, _, rfl⟩⟩
    have I1 : Inv X pins σ (upd H s.heap.objs.size (.tup [.int (i : Nat), x])) { s with heap := h2, toks := tk + 1 } :=
      I.turnedNew (ch := [e, it]) (fun b ob hb q => (sb.2 b (fun z => hb (by simp [z]))).trans (hk b ob (fun z => hb (by simp [z])) (fun z => hb (by simp [z])) q)) hf (Nat.le_refl _) new
    refine ⟨.ref s.heap.objs.size, _, I1, rfl, ⟨_, x, rfl, I.hok.fresh (Nat.le_refl _), rfl, fun ys hy => by rw [I.tuple_inj hy hq]; exact hx⟩, ⟨⟨x2, ?_⟩, hs.1.at fun o q => (sb.2 it (Ne.symm hne)).trans q, hne, hea, hai⟩, fun b hb => ?_⟩
    · rw [show ((i + 1 : Nat) : Int) = (i : Int) + 1 by omega]
      exact he2
    · have hb2 : b < s.heap.objs.size := by
        rcases two hb with rfl | rfl
        · exact hel
        · exact hil
      rw [upd_ne (Nat.ne_of_lt hb2)]
      exact (hf b hb).1
  case done =>
    intro X h1 h2 h3 hc i pins s σ H E I hf st hg
    subst h1 h2 h3
    obtain ⟨⟨old, he⟩, hit, hne, hea, hai⟩ := st
    obtain ⟨xs, hq, hx⟩ := hg
    obtain ⟨its, rv, p, hz⟩ := I.tuple hq
    obtain ⟨f0, f1, f2, f3, f4, f5⟩ := hf it (List.mem_cons_of_mem _ List.mem_cons_self)
    have hl := rv.length
    have ei : i = its.toArray.size := by simp; omega
    subst ei
    exact wpAny_pyNext_enum_endD (Draws.tuple (A := X.A.in1) (I.ok.hd hc) it a hai its.toArray) he ⟨hit, isTup_isTuple p⟩ fun h2 eb => ⟨rfl, I.turned (t' := s.toks) (fun b o hb q => eb b o hb q) f0 f1 f3 f4 f5⟩
  case self =>
    rintro A i s Q E ⟨⟨_, he⟩, _⟩ h
    exact wpAny_pyIter_enum he h
def iEnumT (K : PySem.W.Frag) (ta : TA) : TI := fun σ H R => ta σ H fun vs H1 => ∃ a xs, vs = [.ref a] ∧ SqT K H1 a xs ∧ R (ItE K a) H1
theorem pi_enumT {X : Cx} {e : Expr} {ta : TA} {p1 p2 p3 : Pos} {elts : List Expr} {kk : Nat} (gl : Gl X "enumerate") (nm : X.mg "enumerate" = none) (pa : PA X [e] ta) (st : starEach [e] X.env = [(false, eval e X.env)] := by rfl) :
    PI X (.Tuple elts kk p3) (.Call (.Name "enumerate" p1) [e] [] p2) (iEnumT X.K ta) := by
  constructor
  intro pins s σ H R I h
  refine Call_ (ld_blt I gl nm boot_enumerate (PyProof.Rows.callWith_type1 (thn (pa.run p2 pins s σ H _ I h) fun us s1 ⟨vs, H1, I1, r1, q1⟩ => ?_) st rfl))
  obtain ⟨a, xs, rfl, hq, q⟩ := q1
  obtain ⟨u, rfl, ru⟩ := vals1 r1
  cases ru
  obtain ⟨its, rv, p, hz⟩ := I1.tuple hq
  have p2 := isTup_isTuple p
  have alt : a < s1.heap.objs.size := by obtain ⟨_, e, _⟩ := p2; exact Heap.lt_size e
  refine enumTup p2 fun h2 he hit hk => wpAny_pyIter_enum he ?_
  have I2 : Inv X pins σ H1 { s1 with heap := h2 } := I1.kept (t' := s1.toks) hk
  refine ⟨s1.heap.objs.size + 1, [s1.heap.objs.size + 1, s1.heap.objs.size], _, _, H1, rfl, I2, turnE a (s1.heap.objs.size + 1) s1.heap.objs.size, ⟨⟨.none, he⟩, hit, Nat.succ_ne_self _, Nat.ne_of_gt (Nat.lt_succ_of_lt alt), Nat.ne_of_lt alt⟩, fun b hb => ?_, q⟩
  have hle : s1.heap.objs.size ≤ b := by
    rcases List.mem_cons.mp hb with rfl | hb
    · omega
    · rw [List.mem_singleton.mp hb]
      exact Nat.le_refl _
  exact I1.fpOk hle (I1.hok.fresh hle)
/-! loops over pairs: the pair is a new tuple -/
section
variable {K : PySem.W.Frag} {a b : Addr} {xs ys : List V} {g : TG} {tb : TS} {D : Ends} {σ : L2.St} {H : Hp}
theorem for_enumT (Pv : Nat → L2.St → Hp → Prop) (h0 : Pv 0 σ H) (hl : ∀ i σ H, i ≤ xs.length → Pv i σ H → SqT K H a xs)
    (hs : ∀ (i : Nat) x T σ H, xs[i]? = some x → Pv i σ H → H T = none → g (.ref T) σ (upd H T (.tup [.int (i : Int), x])) fun σ2 H2 => tb { D with nx := Pv (i + 1), ct := Pv (i + 1), bk := D.nx } σ2 H2) (hd : ∀ σ H, Pv xs.length σ H → D.nx σ H) :
    ∃ W : Nat → Nat → L2.St → Hp → Prop, (∃ m, W 0 m σ H) ∧ ∀ i m σ H, W i m σ H →
      ((ItE K a).stop i H ∧ D.nx σ H) ∨ ((ItE K a).go i H ∧ ∃ N : L2.St → Hp → Prop, (∀ σ' H', N σ' H' → ∃ m', m' < m ∧ W (i + 1) m' σ' H') ∧ ∀ x H', (ItE K a).yld i H x H' → g x σ H' fun σ2 H2 => tb { D with nx := N, ct := N, bk := D.nx } σ2 H2) := by
  refine ⟨fun i m σ H => m = xs.length - i ∧ i ≤ xs.length ∧ Pv i σ H, ⟨xs.length, rfl, Nat.zero_le _, h0⟩, ?_⟩
  rintro i m σ H ⟨rfl, hi, p⟩
  have q := hl i σ H hi p
  by_cases hlt : i < xs.length
  · have hx : xs[i]? = some xs[i] := List.getElem?_eq_getElem hlt
    refine .inr ⟨⟨xs, _, q, hx⟩, Pv (i + 1), fun σ' H' p' => ⟨xs.length - (i + 1), by omega, rfl, hlt, p'⟩, ?_⟩
    rintro v H' ⟨T, x, rfl, nT, rfl, f⟩
    exact hs i x T σ H (f xs q) p nT
  · cases (show i = xs.length by omega)
    exact .inl ⟨⟨xs, q, rfl⟩, hd σ H p⟩
theorem for_enumL (Pv : Nat → L2.St → Hp → Prop) (h0 : Pv 0 σ H) (hl : ∀ i σ H, i ≤ xs.length → Pv i σ H → SqL K H a xs)
    (hs : ∀ (i : Nat) x T σ H, xs[i]? = some x → Pv i σ H → H T = none → g (.ref T) σ (upd H T (.tup [.int (i : Int), x])) fun σ2 H2 => tb { D with nx := Pv (i + 1), ct := Pv (i + 1), bk := D.nx } σ2 H2) (hd : ∀ σ H, Pv xs.length σ H → D.nx σ H) :
    ∃ W : Nat → Nat → L2.St → Hp → Prop, (∃ m, W 0 m σ H) ∧ ∀ i m σ H, W i m σ H →
      ((Ite K a).stop i H ∧ D.nx σ H) ∨ ((Ite K a).go i H ∧ ∃ N : L2.St → Hp → Prop, (∀ σ' H', N σ' H' → ∃ m', m' < m ∧ W (i + 1) m' σ' H') ∧ ∀ x H', (Ite K a).yld i H x H' → g x σ H' fun σ2 H2 => tb { D with nx := N, ct := N, bk := D.nx } σ2 H2) := by
  refine ⟨fun i m σ H => m = xs.length - i ∧ i ≤ xs.length ∧ Pv i σ H, ⟨xs.length, rfl, Nat.zero_le _, h0⟩, ?_⟩
  rintro i m σ H ⟨rfl, hi, p⟩
  have q := hl i σ H hi p
  by_cases hlt : i < xs.length
  · have hx : xs[i]? = some xs[i] := List.getElem?_eq_getElem hlt
    refine .inr ⟨⟨xs, _, q, hx⟩, Pv (i + 1), fun σ' H' p' => ⟨xs.length - (i + 1), by omega, rfl, hlt, p'⟩, ?_⟩
    rintro v H' ⟨T, x, rfl, nT, rfl, f⟩
    exact hs i x T σ H (f xs q) p nT
  · cases (show i = xs.length by omega)
    exact .inl ⟨⟨xs, q, Nat.le_refl _⟩, hd σ H p⟩
/-- zip of two lists: as long as the shorter one -/
theorem for_zipLm (n : Nat) (hn : n = min xs.length ys.length) (Pv : Nat → L2.St → Hp → Prop) (h0 : Pv 0 σ H) (hq : ∀ i σ H, Pv i σ H → SqL K H a xs ∧ SqL K H b ys)
    (hs : ∀ (i : Nat) (x y : V) (T : Addr) (σ : L2.St) (H : Hp), xs[i]? = some x → ys[i]? = some y → Pv i σ H → H T = none → g (.ref T) σ (upd H T (.tup [x, y])) fun σ2 H2 => tb { D with nx := Pv (i + 1), ct := Pv (i + 1), bk := D.nx } σ2 H2) (hd : ∀ σ H, Pv n σ H → D.nx σ H) :
    ∃ W : Nat → Nat → L2.St → Hp → Prop, (∃ m, W 0 m σ H) ∧ ∀ i m σ H, W i m σ H →
      ((Itz K a b).stop i H ∧ D.nx σ H) ∨ ((Itz K a b).go i H ∧ ∃ N : L2.St → Hp → Prop, (∀ σ' H', N σ' H' → ∃ m', m' < m ∧ W (i + 1) m' σ' H') ∧ ∀ v H', (Itz K a b).yld i H v H' → g v σ H' fun σ2 H2 => tb { D with nx := N, ct := N, bk := D.nx } σ2 H2) := by
  refine ⟨fun i m σ H => m = n - i ∧ i ≤ n ∧ Pv i σ H, ⟨n, rfl, Nat.zero_le _, h0⟩, ?_⟩
  rintro i m σ H ⟨rfl, hi, p⟩
  obtain ⟨qx, qy⟩ := hq i σ H p
  by_cases hlt : i < n
  · have l1 : i < xs.length := by omega
    have l2 : i < ys.length := by omega
    refine .inr ⟨⟨xs, ys, _, _, qx, qy, List.getElem?_eq_getElem l1, List.getElem?_eq_getElem l2⟩, Pv (i + 1), fun σ' H' p' => ⟨n - (i + 1), by omega, rfl, hlt, p'⟩, ?_⟩
    rintro v H' ⟨T, x, y, rfl, nT, rfl, f1, f2⟩
    exact hs i x y T σ H (f1 _ qx) (f2 _ qy) p nT
  · cases (show i = n by omega)
    exact .inl ⟨⟨xs, ys, qx, qy, by omega⟩, hd σ H p⟩
end
end Rb
namespace Rb
open PySem PySem.Spec PyProof.Rows L2
/-! pairs of ints in a list: min, remove, sorted -/
def pairD (p : Int × Int) : PyData := .tuple [.int p.1, .int p.2]
/-- the list's items are pairs, as told -/
def Prs (H : Hp) (xs : List V) (ps : List (Int × Int)) : Prop := xs.length = ps.length ∧ ∀ (i : Nat) (p : Int × Int), ps[i]? = some p → ∃ t, xs[i]? = some (.ref t) ∧ H t = some (.tup [.int p.1, .int p.2])
theorem Prs.nil {H : Hp} : Prs H [] [] := ⟨rfl, fun i p h => by simp at h⟩
theorem Prs.keep {H H' : Hp} {xs : List V} {ps : List (Int × Int)} (h : Prs H xs ps) (k : ∀ a ys, H a = some (.tup ys) → H' a = some (.tup ys)) : Prs H' xs ps :=
  ⟨h.1, fun i p hp => by
    obtain ⟨t, h1, h2⟩ := h.2 i p hp
    exact ⟨t, h1, k _ _ h2⟩⟩
theorem Prs.snoc {H : Hp} {xs : List V} {ps : List (Int × Int)} {t : Addr} {p : Int × Int} (h : Prs H xs ps) (ht : H t = some (.tup [.int p.1, .int p.2])) : Prs H (xs ++ [.ref t]) (ps ++ [p]) := by
  refine ⟨by rw [List.length_append, List.length_append, h.1]; rfl, fun i q hq => ?_⟩
  rw [List.getElem?_append] at hq
  split at hq
  · rename_i hi
    obtain ⟨t2, h1, h2⟩ := h.2 i q hq
    exact ⟨t2, by rw [List.getElem?_append_left (by rw [h.1]; exact hi)]; exact h1, h2⟩
  · rename_i hi
    have e : i - ps.length = 0 := by
      rcases Nat.eq_zero_or_pos (i - ps.length) with e | e
      · exact e
      · rw [List.getElem?_eq_none (by show 1 ≤ i - ps.length; exact e)] at hq
        cases hq
    rw [e] at hq
    cases hq
    refine ⟨t, ?_, ht⟩
    rw [List.getElem?_append_right (by rw [h.1]; omega), h.1, e]
    rfl
theorem Prs.erase {H : Hp} {xs : List V} {ps : List (Int × Int)} (h : Prs H xs ps) (j : Nat) : Prs H (xs.eraseIdx j) (ps.eraseIdx j) := by
  refine ⟨by rw [List.length_eraseIdx, List.length_eraseIdx, h.1], fun i q hq => ?_⟩
  rw [List.getElem?_eraseIdx] at hq ⊢
  split at hq
  · rename_i hi
    rw [if_pos hi]
    exact h.2 i q hq
  · rename_i hi
    rw [if_neg hi]
    exact h.2 (i + 1) q hq
theorem Prs.dp {K : PySem.W.Frag} {H : Hp} : ∀ {xs : List V} {ps : List (Int × Int)}, Prs H xs ps → DpAll K H xs (ps.map pairD)
  | [], [], _ => .nil
  | [], _ :: _, h => by cases h.1
  | _ :: _, [], h => by cases h.1
  | x :: xs, p :: ps, h => by
    obtain ⟨t, h1, h2⟩ := h.2 0 p rfl
    cases (Option.some.inj h1)
    refine .cons (.tup (tupOf h2) (.cons (.int _) (.cons (.int _) .nil))) (Prs.dp ⟨Nat.succ.inj h.1, fun i q hq => ?_⟩)
    exact h.2 (i + 1) q hq
theorem minOf_least : ∀ (ps : List (Int × Int)) (p : Int × Int), (PySem.W.minOf p ps ∈ p :: ps) ∧ ∀ q ∈ p :: ps, leP (PySem.W.minOf p ps) q
  | [], p => ⟨List.mem_cons_self, fun q hq => by
    rw [List.mem_singleton.mp hq]
    exact .inr ⟨rfl, Int.le_refl _⟩⟩
  | y :: ys, p => by
    have e : PySem.W.minOf p (y :: ys) = PySem.W.minOf (if PySem.W.DatumOrd.lt y p = true then y else p) ys := rfl
    rw [e]
    have l1 : (PySem.W.DatumOrd.lt y p = true) ↔ (y.1 < p.1 ∨ (y.1 = p.1 ∧ y.2 < p.2)) := by
      show ((if y.1 = p.1 then decide (y.2 < p.2) else decide (y.1 < p.1)) = true) ↔ _
      split <;> simp only [decide_eq_true_eq] <;> omega
    by_cases c : PySem.W.DatumOrd.lt y p = true
    · rw [if_pos c]
      obtain ⟨h1, h2⟩ := minOf_least ys y
      refine ⟨List.mem_cons_of_mem _ h1, fun q hq => ?_⟩
      rcases List.mem_cons.mp hq with rfl | hq
      · have a := h2 y List.mem_cons_self
        have b := l1.mp c
        unfold leP at *
        omega
      · exact h2 q hq
    · rw [if_neg c]
      obtain ⟨h1, h2⟩ := minOf_least ys p
      refine ⟨?_, fun q hq => ?_⟩
      · rcases List.mem_cons.mp h1 with h | h
        · rw [h]; exact List.mem_cons_self
        · exact List.mem_cons_of_mem _ (List.mem_cons_of_mem _ h)
      · rcases List.mem_cons.mp hq with rfl | hq
        · exact h2 q List.mem_cons_self
        · rcases List.mem_cons.mp hq with rfl | hq
          · have a := h2 p List.mem_cons_self
            have b : ¬ (q.1 < p.1 ∨ (q.1 = p.1 ∧ q.2 < p.2)) := fun z => c (l1.mpr z)
            unfold leP at *
            omega
          · exact h2 q (List.mem_cons_of_mem _ hq)
def rMinP (K : PySem.W.Frag) : List V → Hp → VK → Prop := fun vs H Q => ∃ (a : Addr) (xs : List V) (ps : List (Int × Int)), vs = [V.ref a] ∧ SqL K H a xs ∧ Prs H xs ps ∧ ps ≠ [] ∧
  ∀ (t : Addr) (m : Int × Int), H t = some (.tup [.int m.1, .int m.2]) → m ∈ ps → (∀ q ∈ ps, leP m q) → Q (.ref t) H
theorem cr_minP {X : Cx} (hc : X.calm = true) (hu : X.A.units + 64 < cLine) : CallR X (.builtin "min") (rMinP X.K) := by
  intro pins s σ H vs us Q I r h
  obtain ⟨a, xs, ps, rfl, hs, hp, hne, q⟩ := h
  obtain ⟨its, rv, hl, _⟩ := I.list hs
  rw [Vals.ref1 r]
  cases ps with
  | nil => exact absurd rfl hne
  | cons p ps =>
    obtain ⟨as, ra⟩ := Dp.readsAll I _ _ its (hp.dp (K := X.K)) rv
    refine PySem.W.min_list_datum (α := Int × Int) (x := p) (xs := ps) (I.ok.hd hc) hl.isList ⟨as, ra⟩ (by show X.A.units + 1 + 1 < _; omega) fun i v h' tk hi hv hk => ?_
    obtain ⟨hm, hle⟩ := minOf_least ps p
    have hi2 : its[i]? = some v := by simpa using hi
    have il : i < xs.length := by
      have := (List.getElem?_eq_some_iff.mp hi2).1
      rw [rv.length]; exact this
    obtain ⟨m, hm1⟩ : ∃ m, (p :: ps)[i]? = some m := ⟨_, List.getElem?_eq_getElem (by rw [← hp.1]; exact il)⟩
    obtain ⟨t, e1, e2⟩ := hp.2 i m hm1
    obtain ⟨u, hu2, ru⟩ := rv.get e1
    rw [hi2] at hu2
    cases hu2
    cases ru
    have dpt : Dp X.K H (.ref t) (pairD m) := .tup (tupOf e2) (.cons (.int _) (.cons (.int _) .nil))
    obtain ⟨bs, rt⟩ := Dp.reads I _ _ _ dpt rfl
    obtain ⟨cs, rm⟩ := hv
    have dd := (reads_det (fun b o e _ => hk b o e) rt rm).1
    have em : PySem.W.minOf p ps = m := by
      have d2 : PyData.tuple [.int (PySem.W.minOf p ps).1, .int (PySem.W.minOf p ps).2] = PyData.tuple [.int m.1, .int m.2] := dd
      simp only [PyData.tuple.injEq, List.cons.injEq, PyData.int.injEq, and_true] at d2
      exact Prod.ext d2.1 d2.2
    rw [em] at hm hle
    exact ⟨.ref t, H, I.kept hk, rfl, q t _ e2 hm hle⟩
def rRemP (K : PySem.W.Frag) : V → List V → Hp → VK → Prop := fun x vs H Q => ∃ (l t : Addr) (xs : List V) (ps : List (Int × Int)) (p : Int × Int) (j : Nat), x = .ref l ∧ vs = [.ref t] ∧ H l = some (.lst xs) ∧ Prs H xs ps ∧ H t = some (.tup [.int p.1, .int p.2]) ∧
  ps[j]? = some p ∧ (∀ m : Nat, m < j → ps[m]? ≠ some p) ∧ Q .non (upd H l (.lst (xs.eraseIdx j)))
theorem pairD_inj {p q : Int × Int} : PyData.eqv (pairD p) (pairD q) = decide (p = q) := PySem.W.Datum.eqv (α := Int × Int) p q
theorem mt_removeP {X : Cx} (hu : X.A.units + 64 < cLine) : MtM X "list.remove" (rRemP X.K) := by
  intro pins s σ H x vs v us Q I rx rxs h
  obtain ⟨l, t, xs, ps, p, j, rfl, rfl, hH, hP, ht, hj, hno, q⟩ := h
  cases rx
  obtain ⟨u, rfl, ru⟩ := rxs.one
  cases ru
  obtain ⟨z, its, n, r, hl, e⟩ := I.lstM hH
  obtain ⟨as, ra⟩ := Dp.readsAll I _ _ its (hP.dp (K := X.K)) r
  have dpt : Dp X.K H (.ref t) (pairD p) := .tup (tupOf ht) (.cons (.int _) (.cons (.int _) .nil))
  obtain ⟨bs, rt⟩ := Dp.reads I _ _ _ dpt rfl
  have pl : PyData.plainAll (ps.map pairD) = true := by
    clear hP ra hj hno
    induction ps with
    | nil => rfl
    | cons y ys ih =>
      rw [List.map_cons]
      simp only [PyData.plainAll, ih, Bool.and_true]
      exact PySem.W.Datum.plain (α := Int × Int) y
  refine SeqAt.remove_list_data (j := j) (xs := ps.map pairD) (d := pairD p) ⟨_, e, rfl, n, rfl⟩ ra rt pl (PySem.W.Datum.plain (α := Int × Int) p) ?_ ?_ (by rw [List.size_toArray, ← r.length]; exact z) ?_
  · have : (pairD p).depth = 1 := by simp [pairD, PyData.depth, PyData.depthAll]
    omega
  · refine List.findIdx?_eq_some_iff_getElem.mpr ?_
    obtain ⟨jl, je⟩ := List.getElem?_eq_some_iff.mp hj
    refine ⟨by rw [List.length_map]; exact jl, ?_, fun m hm => ?_⟩
    · rw [List.getElem_map, je, pairD_inj]
      exact decide_eq_true rfl
    · rw [List.getElem_map, pairD_inj]
      intro e2
      refine hno m hm ?_
      rw [List.getElem?_eq_getElem (by omega)]
      exact congrArg some (of_decide_eq_true e2)
  · have rr := r.eraseIdx j
    refine ⟨.non, _, I.lset (its' := its.eraseIdx j) (t' := s.toks) hH e ?_ rr ?_, rfl, q⟩
    · show its.toArray.eraseIdxIfInBounds j = (its.eraseIdx j).toArray
      rw [List.eraseIdxIfInBounds_toArray]
    · exact Nat.le_trans (len_erase xs j) z
end Rb
namespace Rb
open PySem PySem.Spec PyProof.Rows L2
/-- rows: refs of tuples of ints -/
def Rws (K : PySem.W.Frag) (H : Hp) (xs : List V) (rows : List (List Int)) : Prop := xs.length = rows.length ∧ ∀ (i : Nat) (r : List Int), rows[i]? = some r → ∃ t, xs[i]? = some (.ref t) ∧ SqT K H t (r.map V.int)
section
variable {K : PySem.W.Frag} {H H' : Hp} {xs : List V} {rows : List (List Int)}
theorem Rws.nil : Rws K H [] [] := ⟨rfl, fun i p h => by simp at h⟩
theorem Rws.keep (h : Rws K H xs rows) (k : ∀ a ys, SqT K H a ys → SqT K H' a ys) : Rws K H' xs rows :=
  ⟨h.1, fun i p hp => by
    obtain ⟨t, h1, h2⟩ := h.2 i p hp
    exact ⟨t, h1, k _ _ h2⟩⟩
theorem Rws.ex (h : Rws K H xs rows) (e : Evl.Ex H H') : Rws K H' xs rows := h.keep fun _ _ z => Evl.ex_t e z
theorem Rws.kp {d c : Addr} {N : Int} (h : Rws K H xs rows) (k : Kp d c H H') (dk : Dk H d c N) : Rws K H' xs rows := h.keep fun _ _ z => k.sqT dk z
theorem Rws.upd {D : Addr} {ys zs : List V} (h : Rws K H xs rows) (hD : H D = some (.lst ys)) : Rws K (upd H D (.lst zs)) xs rows := h.keep fun _ _ z => sqT_upd hD z
theorem Rws.snoc {t : Addr} {r : List Int} (h : Rws K H xs rows) (ht : SqT K H t (r.map V.int)) : Rws K H (xs ++ [.ref t]) (rows ++ [r]) := by
  refine ⟨by rw [List.length_append, List.length_append, h.1]; rfl, fun i q hq => ?_⟩
  rw [List.getElem?_append] at hq
  split at hq
  · rename_i hi
    obtain ⟨t2, h1, h2⟩ := h.2 i q hq
    exact ⟨t2, by rw [List.getElem?_append_left (by rw [h.1]; exact hi)]; exact h1, h2⟩
  · rename_i hi
    have e : i - rows.length = 0 := by
      rcases Nat.eq_zero_or_pos (i - rows.length) with e | e
      · exact e
      · rw [List.getElem?_eq_none (by show 1 ≤ i - rows.length; exact e)] at hq
        cases hq
    rw [e] at hq
    cases hq
    refine ⟨t, ?_, ht⟩
    rw [List.getElem?_append_right (by rw [h.1]; omega), h.1, e]
    rfl
theorem Rws.tp : ∀ {xs : List V} {rows : List (List Int)}, Rws K H xs rows → TpAll K H xs (rows.map fun r => .tuple (r.map .int))
  | [], [], _ => .nil
  | [], _ :: _, h => by cases h.1
  | _ :: _, [], h => by cases h.1
  | x :: xs, p :: ps, h => by
    obtain ⟨t, h1, h2⟩ := h.2 0 p rfl
    cases (Option.some.inj h1)
    exact .cons (Tp.tupI h2) (Rws.tp ⟨Nat.succ.inj h.1, fun i q hq => h.2 (i + 1) q hq⟩)
end
theorem tup_upd {H : Hp} {D : Addr} {ys zs : List V} (hD : H D = some (.lst ys)) : ∀ a xs, H a = some (.tup xs) → upd H D (.lst zs) a = some (.tup xs) := fun a xs h => by
  rw [upd_ne (by rintro rfl; rw [hD] at h; cases h)]
  exact h
/-! comprehensions over enumerate(list), and whose elements are new pairs -/
section
variable {K : PySem.W.Frag} {te : TE} {vs : List Nat} {σ : L2.St} {H1 : Hp} {D a : Addr} {j l : Nat} {Qd : Hp → Prop}
theorem take_mapIdx {xs : List V} {f : Nat → V → V} {i : Nat} {x : V} (hx : xs[i]? = some x) : (xs.take (i + 1)).mapIdx f = (xs.take i).mapIdx f ++ [f i x] := by
  rw [List.take_add_one, hx]
  show (xs.take i ++ [x]).mapIdx f = _
  rw [List.mapIdx_append]
  have hl : (xs.take i).length = i := by
    rw [List.length_take]
    have := (List.getElem?_eq_some_iff.mp hx).1
    omega
  simp [hl]
theorem lc_enumMap {xs : List V} (f : Nat → V → V) (hS : SqL K H1 a xs) (nD : H1 D = none) (hw : ∀ x y, wipe (((wipe σ vs).set j (some x)).set l (some y)) vs = wipe σ vs) (hz : xs.length ≤ 90000)
    (he : ∀ (i : Nat) x H3, xs[i]? = some x → Evl.Ex H1 H3 → ∀ Q : VK, (∀ H4, Evl.Ex H3 H4 → Q (f i x) H4) → te (((wipe σ vs).set j (some (.int (i : Int)))).set l (some x)) H3 Q) (hd : ∀ H', Evl.Ex H1 H' → H' D = some (.lst (xs.mapIdx f)) → Qd H') :
    ∃ W : Nat → Nat → Hp → Prop, (∃ m, W 0 m (upd H1 D (.lst []))) ∧ ∀ i m H, W i m H →
      ((Ite K a).stop i H ∧ Qd H) ∨ ((Ite K a).go i H ∧ ∃ Nx : Hp → Prop, (∀ H', Nx H' → ∃ m', m' < m ∧ W (i + 1) m' H') ∧ ∀ x H', (Ite K a).yld i H x H' → (gTup K 2 (gCons (gName j) (gCons (gName l) gNil))) x (wipe σ vs) H' fun σ2 H2 => wipe σ2 vs = wipe σ vs ∧ tYes σ2 H2 fun b H3 =>
        if b = true then te σ2 H3 fun y H4 => ∃ acc, H4 D = some (.lst acc) ∧ acc.length < sizeLine ∧ Nx (upd H4 D (.lst (acc ++ [y]))) else Nx H3) := by
  let Pv : Nat → Hp → Prop := fun i H' => Evl.Ex H1 H' ∧ H' D = some (.lst ((xs.take i).mapIdx f))
  refine ⟨fun i m H => m = xs.length - i ∧ i ≤ xs.length ∧ Pv i H, ⟨xs.length, rfl, Nat.zero_le _, Evl.Ex.new nD, upd_same⟩, ?_⟩
  rintro i m H ⟨rfl, hi, p1, p2⟩
  have q := Evl.ex_l p1 hS
  by_cases hlt : i < xs.length
  · refine .inr ⟨⟨xs, _, q, List.getElem?_eq_getElem hlt⟩, Pv (i + 1), fun H' p' => ⟨xs.length - (i + 1), by omega, rfl, hlt, p'⟩, ?_⟩
    rintro v H' ⟨T, x, rfl, nT, rfl, fx⟩
    have hx := fx xs q
    refine ⟨T, _, rfl, tupOf upd_same, rfl, .int (i : Int), [x], rfl, x, [], rfl, rfl, hw _ _, ?_⟩
    show te _ _ _
    have e5 := p1.trans (Evl.Ex.new (o := .tup [.int ((i : Nat) : Int), x]) nT)
    refine he i x _ hx e5 _ fun H4 e4 => ⟨_, e4 _ _ (Evl.Ex.new nT _ _ p2), ?_, Evl.Ex.mut (e5.trans e4) nD, ?_⟩
    · rw [List.length_mapIdx, List.length_take]
      exact sz_lt (by omega)
    · rw [upd_same, take_mapIdx hx]
  · cases (show i = xs.length by omega)
    exact .inl ⟨⟨xs, q, Nat.le_refl _⟩, hd H p1 (by rw [p2, List.take_length])⟩
theorem lc_prsT {xs : List V} (f : V → Int × Int) (hS : SqT K H1 a xs) (nD : H1 D = none) (hw : ∀ x, wipe ((wipe σ vs).set j (some x)) vs = wipe σ vs) (hz : xs.length ≤ 90000)
    (he : ∀ (i : Nat) x H3, xs[i]? = some x → Evl.Ex H1 H3 → ∀ Q : VK, (∀ t H4, Evl.Ex H3 H4 → H4 t = some (.tup [.int (f x).1, .int (f x).2]) → Q (.ref t) H4) → te ((wipe σ vs).set j (some x)) H3 Q)
    (hd : ∀ ys H', Evl.Ex H1 H' → H' D = some (.lst ys) → Prs H' ys (xs.map f) → Qd H') :
    ∃ W : Nat → Nat → Hp → Prop, (∃ m, W 0 m (upd H1 D (.lst []))) ∧ ∀ i m H, W i m H →
      ((Itt K a).stop i H ∧ Qd H) ∨ ((Itt K a).go i H ∧ ∃ Nx : Hp → Prop, (∀ H', Nx H' → ∃ m', m' < m ∧ W (i + 1) m' H') ∧ ∀ x H', (Itt K a).yld i H x H' → (gName j) x (wipe σ vs) H' fun σ2 H2 => wipe σ2 vs = wipe σ vs ∧ tYes σ2 H2 fun b H3 =>
        if b = true then te σ2 H3 fun y H4 => ∃ acc, H4 D = some (.lst acc) ∧ acc.length < sizeLine ∧ Nx (upd H4 D (.lst (acc ++ [y]))) else Nx H3) := by
  refine lc_tup (xs := xs) (fun i H' => Evl.Ex H1 H' ∧ ∃ ys, H' D = some (.lst ys) ∧ Prs H' ys ((xs.take i).map f)) ⟨Evl.Ex.new nD, [], upd_same, Prs.nil⟩ (fun i H' _ p => Evl.ex_t p.1 hS) ?_ ?_
  · rintro i x H' hx ⟨p1, ys, p2, p3⟩
    refine ⟨hw x, ?_⟩
    show te _ _ _
    refine he i x H' hx p1 _ fun t H4 e4 ht => ⟨ys, e4 _ _ p2, ?_, Evl.Ex.mut (p1.trans e4) nD, ys ++ [.ref t], upd_same, ?_⟩
    · rw [p3.1, List.length_map, List.length_take]
      exact sz_lt (by omega)
    · rw [List.take_add_one, hx, List.map_append]
      exact ((p3.keep fun a zs z => e4 _ _ z).snoc ht).keep (tup_upd (e4 _ _ p2))
  · rintro H' ⟨p1, ys, p2, p3⟩
    rw [List.take_length] at p3
    exact hd ys H' p1 p2 p3
end
/-! sorted pairs -/
def keyOf (H : Hp) (x : V) : Int × Int :=
  match x with
  | .ref t => match H t with
    | some (.tup [.int i, .int j]) => (i, j)
    | _ => (0, 0)
  | _ => (0, 0)
theorem keyOf_eq {H : Hp} {t : Addr} {p : Int × Int} (h : H t = some (.tup [.int p.1, .int p.2])) : keyOf H (.ref t) = p := by
  unfold keyOf
  simp only [h]
theorem Prs.keys {H : Hp} {xs : List V} {ps : List (Int × Int)} (h : Prs H xs ps) : xs.map (keyOf H) = ps := by
  apply List.ext_getElem?
  intro i
  rw [List.getElem?_map]
  cases e : ps[i]? with
  | none => rw [List.getElem?_eq_none (by rw [h.1]; exact List.getElem?_eq_none_iff.mp e)]; rfl
  | some p =>
    obtain ⟨t, h1, h2⟩ := h.2 i p e
    rw [h1]
    exact congrArg some (keyOf_eq h2)
theorem sorted_prs {K : PySem.W.Frag} {H : Hp} {a : Addr} {xs : List V} {ps : List (Int × Int)} {Q : VK} (hS : SqL K H a xs) (hP : Prs H xs ps) (q : ∀ ys p, Prs H ys (srtP ps) → H p = none → Q (.ref p) (upd H p (.lst ys))) : rSortedPO K [.ref a] H Q := by
  refine ⟨a, xs, keyOf H, rfl, hS, fun x hx => ?_, fun ys p h1 h2 np => q ys p ?_ np⟩
  · obtain ⟨i, hi, e⟩ := List.getElem_of_mem hx
    have il : i < ps.length := by rw [← hP.1]; exact hi
    obtain ⟨t, g1, g2⟩ := hP.2 i ps[i] (List.getElem?_eq_getElem il)
    rw [List.getElem?_eq_getElem hi, e] at g1
    cases Option.some.inj g1
    refine ⟨t, rfl, ?_⟩
    rw [keyOf_eq g2]
    exact g2
  · have e : ys.map (keyOf H) = srtP ps := by
      rw [← hP.keys]
      refine srtP_uniq (h2.perm.map _) ?_
      refine List.pairwise_map.mpr (List.Pairwise.imp (fun {x y} h => ?_) h1)
      have := SrtO.lexB_no.mp (show SrtO.lexB (keyOf H y) (keyOf H x) = false from h)
      unfold leP
      omega
    rw [← e]
    refine ⟨(List.length_map _).symm, fun i p hp => ?_⟩
    rw [List.getElem?_map] at hp
    obtain ⟨y, hy, rfl⟩ := Option.map_eq_some_iff.mp hp
    have ym : y ∈ xs := h2.perm.mem_iff.mp (List.mem_of_getElem? hy)
    obtain ⟨k, hk, ek⟩ := List.getElem_of_mem ym
    have kl : k < ps.length := by rw [← hP.1]; exact hk
    obtain ⟨t, g1, g2⟩ := hP.2 k ps[k] (List.getElem?_eq_getElem kl)
    rw [List.getElem?_eq_getElem hk, ek] at g1
    cases Option.some.inj g1
    refine ⟨t, hy, ?_⟩
    rw [keyOf_eq g2]
    exact g2
theorem rep_flat {x : V} : ∀ n : Nat, (List.replicate n [x]).flatten = List.replicate n x
  | 0 => rfl
  | n + 1 => by
    rw [List.replicate_succ, List.flatten_cons, List.replicate_succ, rep_flat n]
    rfl
theorem nodup_le {n : Nat} : ∀ {l : List Nat}, l.Nodup → (∀ p ∈ l, p < n) → l.length ≤ n := by
  induction n with
  | zero =>
    intro l _ h
    cases l with
    | nil => exact Nat.le_refl _
    | cons x r => exact absurd (h x List.mem_cons_self) (Nat.not_lt_zero _)
  | succ n ih =>
    intro l nd h
    have h1 : (l.erase n).length ≤ n := ih (nd.erase n) fun p hp => by
      have a := h p (List.mem_of_mem_erase hp)
      have b : p ≠ n := fun e => (nd.not_mem_erase (a := n)) (e ▸ hp)
      omega
    rw [List.length_erase] at h1
    split at h1 <;> omega
end Rb
namespace Rb
open PySem PySem.Spec PyProof.Rows L2
/-! a tuple times a number: once is the tuple itself -/
open AutoSeq1 (wpAny_loadPart') in
theorem tupMul1 (t : Addr) (its : Array Value) (n : Nat) (dc : Option Addr) (sl : Array (Option Value)) (u : Tok) :
    Meets (Builtin.«tuple.__mul__» ⟨[.ref t, .int 1 u], []⟩) (fun _ R s => s.heap.get? t = some { cls := .type "tuple", dict := dc, data := .seq its n, slots := sl } ∧ R (.ok (.ret (Value.ref t))) s) := by
  refine .of_wp fun pr wo A R s h => ?_
  obtain ⟨hp, g, d, tk, os⟩ := s
  obtain ⟨ht, h⟩ := h
  have f1 := AutoSeq1.idx_int
  wp_walk using wpAny_loadPart' ht
  repeat (first
    | (refine wpAny_ite_false (by decide) ?_; wp_walk using wpAny_loadPart' ht)
    | (refine wpAny_ite_true (decide_eq_true (by cases its.isEmpty <;> rfl)) ?_; wp_walk using wpAny_loadPart' ht))
  exact ⟨_, rfl, h⟩
def rRepN (K : PySem.W.Frag) : R2 := fun x y H Q => ∃ (l : Addr) (k : Nat) (xs : List V), x = .ref l ∧ y = .int (k : Int) ∧ SqT K H l xs ∧ xs ≠ [] ∧ 1 ≤ k ∧ k ≤ 1000 ∧ xs.length ≤ 1000 ∧ ∀ p H', Evl.Ex H H' → SqT K H' p (List.replicate k xs).flatten → Q (.ref p) H'
theorem op_repN {X : Cx} : OpR X (binaryOp .Mult) (rRepN X.K) := by
  intro pins s σ H x y v u Q I rx ry h
  obtain ⟨l, k, xs, rfl, rfl, hT, hne, h1, h2, hz, q⟩ := h
  by_cases hk : k = 1
  · subst hk
    cases rx
    obtain ⟨t, rfl⟩ := ry
    obtain ⟨its, r, ⟨⟨cls, dd, data, sl⟩, ho, hc, n, hd⟩, hs⟩ := I.tuple hT
    simp only at hc hd
    subst hc hd
    refine wpAny_binaryOp_repeat_ref (T := "tuple") (U := "int") (by decide) ⟨_, ho, rfl⟩ (fun s' => typeIs_int s' 1 t) noFill_tuple_mul F.fills_int_mul F.slot_int_rmul repeat_tuple F.slot_int_index.lookup
      (call_meets F.slot_int_rmul (typeIs_int s 1 t) F.entry_int_rmul (F.args_int_rmul_2 _ _) (int_rmul_tuple 1 t l its.toArray n dd sl)
        ⟨ho, rfl, ⟨_, ho, rfl⟩, call_meets F.slot_tuple_mul ⟨_, ho, rfl⟩ F.entry_tuple_mul (F.args_tuple_mul_2 _ _) (tupMul1 l its.toArray n dd sl t) ⟨ho, ?_⟩⟩)
    refine ⟨.ref l, H, I, rfl, q l H (Evl.Ex.refl _) ?_⟩
    simpa using hT
  · refine op_repT pins s σ H (.ref l) (.int (k : Int)) v u Q I rx ry ⟨l, (k : Int), xs, rfl, rfl, hT, hne, by omega, by omega, hz, fun p np => ?_⟩
    exact q p _ (Evl.Ex.new np) (tupOf (by rw [upd_same, Int.toNat_natCast]))
/-! max of a tuple of ints -/
def rMaxT (K : PySem.W.Frag) : List V → Hp → VK → Prop := fun vs H Q => ∃ (a : Addr) (ns : List Int), vs = [V.ref a] ∧ SqT K H a (ns.map V.int) ∧ ns ≠ [] ∧ ∀ m, m ∈ ns → (∀ y ∈ ns, y ≤ m) → Q (.int m) H
theorem maxOf_most : ∀ (ns : List Int) (n : Int), (PySem.W.maxOf n ns ∈ n :: ns) ∧ ∀ q ∈ n :: ns, q ≤ PySem.W.maxOf n ns
  | [], n => ⟨List.mem_cons_self, fun q hq => by
    rw [List.mem_singleton.mp hq]
    exact Int.le_refl _⟩
  | y :: ys, n => by
    have e : PySem.W.maxOf n (y :: ys) = PySem.W.maxOf (if PySem.W.DatumOrd.lt n y = true then y else n) ys := rfl
    rw [e]
    have l1 : (PySem.W.DatumOrd.lt n y = true) ↔ n < y := by
      show decide (n < y) = true ↔ _
      exact decide_eq_true_iff
    by_cases c : PySem.W.DatumOrd.lt n y = true
    · rw [if_pos c]
      obtain ⟨h1, h2⟩ := maxOf_most ys y
      refine ⟨List.mem_cons_of_mem _ h1, fun q hq => ?_⟩
      rcases List.mem_cons.mp hq with rfl | hq
      · have a := h2 y List.mem_cons_self
        have b := l1.mp c
        omega
      · exact h2 q hq
    · rw [if_neg c]
      obtain ⟨h1, h2⟩ := maxOf_most ys n
      refine ⟨?_, fun q hq => ?_⟩
      · rcases List.mem_cons.mp h1 with h | h
        · rw [h]; exact List.mem_cons_self
        · exact List.mem_cons_of_mem _ (List.mem_cons_of_mem _ h)
      · rcases List.mem_cons.mp hq with rfl | hq
        · exact h2 q List.mem_cons_self
        · rcases List.mem_cons.mp hq with rfl | hq
          · have a := h2 n List.mem_cons_self
            have b : ¬ n < q := fun z => c (l1.mpr z)
            omega
          · exact h2 q (List.mem_cons_of_mem _ hq)
theorem cr_maxT {X : Cx} (hc : X.calm = true) (hu : X.A.units + 64 < cLine) : CallR X (.builtin "max") (rMaxT X.K) := by
  intro pins s σ H vs us Q I r h
  obtain ⟨a, ns, rfl, hs, hne, q⟩ := h
  obtain ⟨its, rv, hl, _⟩ := I.tuple hs
  rw [Vals.ref1 r]
  cases ns with
  | nil => exact absurd rfl hne
  | cons n ns =>
    obtain ⟨as, ra⟩ := Dp.readsAll I _ _ its (DpAll.ints (K := X.K) (n :: ns)) rv
    refine PySem.W.max_tuple_datum (α := Int) (x := n) (xs := ns) (I.ok.hd hc) (isTup_isTuple hl) ⟨as, ra⟩ (by show X.A.units + 1 + 0 < _; omega) fun i v h' tk hi hv hk => ?_
    obtain ⟨hm, hle⟩ := maxOf_most ns n
    obtain ⟨cs, rm⟩ := hv
    have rm' : Reads h' v (.int (PySem.W.maxOf n ns)) cs := rm
    cases rm' with
    | int _ t => exact ⟨.int _, H, I.kept hk, ⟨t, rfl⟩, q _ hm hle⟩
/-- the greatest of a list that is not empty -/
def mostOf : List Int → Int
  | [] => 0
  | n :: ns => ns.foldl (fun a y => if a < y then y else a) n
theorem most_uniq {ns : List Int} {a b : Int} (ha : a ∈ ns) (ha2 : ∀ y ∈ ns, y ≤ a) (hb : b ∈ ns) (hb2 : ∀ y ∈ ns, y ≤ b) : a = b := Int.le_antisymm (hb2 a ha) (ha2 b hb)
end Rb
namespace Rb
/-! waits by the ticks alone -/
def mvM (walk ride : Int) (plan : List (List Nat)) (p : Nat) : Nat → Int
  | 0 => 0
  | i + 1 => mvM walk ride plan p i + if p ∈ plan.getD i [] then ride else walk
theorem mv_rides {walk ride : Int} {plan : List (List Nat)} {p : Nat} : ∀ i : Nat, i ≤ plan.length → mvM walk ride plan p i = ride * (((plan.take i).filter fun r => decide (p ∈ r)).length : Int) + walk * ((i : Int) - (((plan.take i).filter fun r => decide (p ∈ r)).length : Int))
  | 0, _ => by simp [mvM]
  | i + 1, h => by
    have ih := mv_rides (walk := walk) (ride := ride) (plan := plan) (p := p) i (by omega)
    have hr : plan[i]? = some plan[i] := List.getElem?_eq_getElem (by omega)
    rw [mvM, ih, List.take_add_one, hr, List.filter_append, List.length_append, List.getD_eq_getElem?_getD, hr]
    generalize ((plan.take i).filter fun r => decide (p ∈ r)).length = n
    simp only [Option.getD_some, Option.toList_some, List.filter_cons, List.filter_nil]
    by_cases c : p ∈ plan[i]
    · simp only [c, decide_true, if_true, List.length_cons, List.length_nil, Int.natCast_add]
      have e1 : (n : Int) + (((0 : Nat) : Int) + ((1 : Nat) : Int)) = (n : Int) + 1 := by omega
      have e2 : ((i : Int) + ((1 : Nat) : Int)) - ((n : Int) + 1) = (i : Int) - n := by omega
      rw [e1, e2, Int.mul_add, Int.mul_one]
      omega
    · simp only [c, decide_false, if_false, List.length_nil, Int.natCast_add]
      have e2 : ((i : Int) + ((1 : Nat) : Int)) - ((n : Int) + ((0 : Nat) : Int)) = ((i : Int) - n) + 1 := by omega
      have e1 : (n : Int) + ((0 : Nat) : Int) = n := by omega
      simp only [Bool.false_eq_true, if_false, List.length_nil]
      rw [e2, e1, Int.mul_add, Int.mul_one]
      omega
theorem mx_wait (t b : Int) : mx t b - t = mx 0 (b - t) := by
  unfold mx
  split <;> split <;> omega
/-- the wait of one stage is the time between coming and leaving -/
theorem stage_wait {ticks w0 : List Int} {riders brought : List Nat} {st p : Nat} (h : riders.length ≤ st + brought.length) (nd : riders.Nodup) (hr : ∀ q ∈ riders, q < ticks.length) (hl : w0.length = ticks.length) (hp : p < ticks.length) :
    ∃ l w t v, (leaveM ticks riders brought st)[p]? = some l ∧ (waitsI w0 ticks riders brought st riders.length)[p]? = some w ∧ ticks[p]? = some t ∧ w0[p]? = some v ∧ w = v + (l - t) := by
  have ht : ticks[p]? = some ticks[p] := List.getElem?_eq_getElem hp
  have hpw : p < w0.length := by omega
  have hw : w0[p]? = some w0[p] := List.getElem?_eq_getElem hpw
  have hz : (pairsM ticks riders brought st).take riders.length = pairsM ticks riders brought st := List.take_of_length_le (by rw [pairsM_len h]; exact Nat.le_refl _)
  unfold waitsI
  rw [hz]
  by_cases c : p ∈ riders
  · obtain ⟨b, hb, e⟩ := leave_in h nd c hp
    have et : tickAt ticks p = ticks[p] := by
      unfold tickAt
      rw [List.getD_eq_getElem?_getD, ht]
      rfl
    refine ⟨_, w0.getD p 0 + mx 0 (b - tickAt ticks p), _, _, e, ?_, ht, hw, ?_⟩
    · refine setF_in _ _ p _ ?_ (List.mem_map.mpr ⟨_, hb, by simp⟩) hpw
      rw [List.map_map]
      exact (pairs_people (ticks := ticks) h).nodup_iff.mpr nd
    · rw [← mx_wait, et, List.getD_eq_getElem?_getD, hw]
      rfl
  · refine ⟨ticks[p], w0[p], ticks[p], w0[p], by rw [leave_out c]; exact ht, ?_, ht, hw, by omega⟩
    rw [setF_out _ _ p fun y hy e => ?_]
    · exact hw
    · obtain ⟨z, hz2, rfl⟩ := List.mem_map.mp hy
      obtain ⟨p2, hp2, e2⟩ := pairs_mem hz2
      simp only [e2] at e
      have : p2 = p := by simpa using e
      exact c (this ▸ hp2)
theorem stages_ok {bikes : List Int} {n i : Nat} {plan : List (List Nat)} (h : PlanOk bikes n plan) (hi : i < plan.length) : (plan.getD i []).Nodup ∧ (∀ p ∈ plan.getD i [], p < n) ∧ (plan.getD i []).length ≤ (bikes.getD i 0).toNat + (brM plan i).length := by
  have hr : plan[i]? = some plan[i] := List.getElem?_eq_getElem hi
  have e : plan.getD i [] = plan[i] := by rw [List.getD_eq_getElem?_getD, hr]; rfl
  have hm : plan[i] ∈ plan := List.getElem_mem hi
  have f := h.few i
  refine ⟨by rw [e]; exact (h.asc _ hm).imp fun h => Nat.ne_of_lt h, by rw [e]; exact h.lt _ hm, ?_⟩
  unfold brM
  split
  · rename_i z
    rw [if_pos z] at f
    exact f
  · rename_i z
    rw [if_neg z] at f
    exact f
theorem ticks_waits {walk ride : Int} {bikes starts : List Int} {plan : List (List Nat)} (ok : PlanOk bikes starts.length plan) {p : Nat} (hp : p < starts.length) : ∀ i, i ≤ plan.length →
    ∃ t w s, (tkM walk ride bikes starts plan i)[p]? = some t ∧ (wtM walk ride bikes starts plan i)[p]? = some w ∧ starts[p]? = some s ∧ t - s - mvM walk ride plan p i = w
  | 0, _ => by
    have hs : starts[p]? = some starts[p] := List.getElem?_eq_getElem hp
    refine ⟨starts[p], 0, starts[p], hs, ?_, hs, ?_⟩
    · show (List.replicate starts.length (0 : Int))[p]? = some 0
      rw [List.getElem?_replicate, if_pos hp]
    · show starts[p] - starts[p] - 0 = 0
      omega
  | i + 1, h => by
    obtain ⟨t, w, s, h1, h2, h3, h4⟩ := ticks_waits (walk := walk) (ride := ride) ok hp i (by omega)
    obtain ⟨nd, rlt, few⟩ := stages_ok ok (show i < plan.length by omega)
    have tl := tkM_len (walk := walk) (ride := ride) (bikes := bikes) (starts := starts) (plan := plan) i
    have wl := wtM_len (walk := walk) (ride := ride) (bikes := bikes) (starts := starts) (plan := plan) i
    obtain ⟨l, w2, t2, v2, g1, g2, g3, g4, g5⟩ := stage_wait (w0 := wtM walk ride bikes starts plan i) few nd (fun q hq => by rw [tl]; exact rlt q hq) (by rw [wl, tl]) (show p < (tkM walk ride bikes starts plan i).length by rw [tl]; exact hp)
    rw [h1] at g3
    rw [h2] at g4
    cases g3
    cases g4
    refine ⟨l + (if p ∈ plan.getD i [] then ride else walk), w2, s, ?_, g2, h3, ?_⟩
    · show (rowM _ _ _ _ _ _)[p]? = _
      unfold rowM
      rw [List.getElem?_mapIdx, g1]
      rfl
    · rw [mvM]
      split <;> omega
theorem wt_bnd {walk ride M : Int} {bikes starts : List Int} {plan : List (List Nat)} (ok : PlanOk bikes starts.length plan) (hM : 0 ≤ M) (h : Bnd M starts) (hw : 0 ≤ walk ∧ walk ≤ 1000) (hr : 0 ≤ ride ∧ ride ≤ 1000) : ∀ i, i ≤ plan.length → ∀ x ∈ wtM walk ride bikes starts plan i, x.natAbs ≤ (M + 2000 * i).natAbs := by
  intro i hi x hx
  obtain ⟨p, hp, e⟩ := List.getElem_of_mem hx
  have wl := wtM_len (walk := walk) (ride := ride) (bikes := bikes) (starts := starts) (plan := plan) i
  rw [wl] at hp
  obtain ⟨t, w, s, h1, h2, h3, h4⟩ := ticks_waits (walk := walk) (ride := ride) ok hp i hi
  have ex : w = x := by
    rw [List.getElem?_eq_getElem (by rw [wl]; exact hp), e] at h2
    exact (Option.some.inj h2).symm
  have b1 := tk_bnd (bikes := bikes) (plan := plan) hM h hw hr i t (List.mem_of_getElem? h1)
  have b2 := h s (List.mem_of_getElem? h3)
  have b3 : ∀ j : Nat, 0 ≤ mvM walk ride plan p j ∧ mvM walk ride plan p j ≤ 1000 * j := by
    intro j
    induction j with
    | zero => exact ⟨Int.le_refl _, Int.le_refl _⟩
    | succ j ih =>
      rw [mvM]
      have : ((j + 1 : Nat) : Int) = (j : Int) + 1 := by omega
      split <;> omega
  have b4 := b3 i
  omega
end Rb
namespace Rb
open PySem PySem.Spec PyProof.Rows L2
section
variable {K : PySem.W.Frag} {tt : TT} {te : TE} {vs : List Nat} {σ : L2.St} {H1 : Hp} {D a : Addr} {j l : Nat} {Qd : Hp → Prop}
theorem lc_enumMapT {xs : List V} (f : Nat → V → V) (hS : SqT K H1 a xs) (nD : H1 D = none) (hw : ∀ x y, wipe (((wipe σ vs).set j (some x)).set l (some y)) vs = wipe σ vs) (hz : xs.length ≤ 90000)
    (he : ∀ (i : Nat) x H3, xs[i]? = some x → Evl.Ex H1 H3 → ∀ Q : VK, (∀ H4, Evl.Ex H3 H4 → Q (f i x) H4) → te (((wipe σ vs).set j (some (.int (i : Int)))).set l (some x)) H3 Q) (hd : ∀ H', Evl.Ex H1 H' → H' D = some (.lst (xs.mapIdx f)) → Qd H') :
    ∃ W : Nat → Nat → Hp → Prop, (∃ m, W 0 m (upd H1 D (.lst []))) ∧ ∀ i m H, W i m H →
      ((ItE K a).stop i H ∧ Qd H) ∨ ((ItE K a).go i H ∧ ∃ Nx : Hp → Prop, (∀ H', Nx H' → ∃ m', m' < m ∧ W (i + 1) m' H') ∧ ∀ x H', (ItE K a).yld i H x H' → (gTup K 2 (gCons (gName j) (gCons (gName l) gNil))) x (wipe σ vs) H' fun σ2 H2 => wipe σ2 vs = wipe σ vs ∧ tYes σ2 H2 fun b H3 =>
        if b = true then te σ2 H3 fun y H4 => ∃ acc, H4 D = some (.lst acc) ∧ acc.length < sizeLine ∧ Nx (upd H4 D (.lst (acc ++ [y]))) else Nx H3) := by
  let Pv : Nat → Hp → Prop := fun i H' => Evl.Ex H1 H' ∧ H' D = some (.lst ((xs.take i).mapIdx f))
  refine ⟨fun i m H => m = xs.length - i ∧ i ≤ xs.length ∧ Pv i H, ⟨xs.length, rfl, Nat.zero_le _, Evl.Ex.new nD, upd_same⟩, ?_⟩
  rintro i m H ⟨rfl, hi, p1, p2⟩
  have q := Evl.ex_t p1 hS
  by_cases hlt : i < xs.length
  · refine .inr ⟨⟨xs, _, q, List.getElem?_eq_getElem hlt⟩, Pv (i + 1), fun H' p' => ⟨xs.length - (i + 1), by omega, rfl, hlt, p'⟩, ?_⟩
    rintro v H' ⟨T, x, rfl, nT, rfl, fx⟩
    have hx := fx xs q
    refine ⟨T, _, rfl, tupOf upd_same, rfl, .int (i : Int), [x], rfl, x, [], rfl, rfl, hw _ _, ?_⟩
    show te _ _ _
    have e5 := p1.trans (Evl.Ex.new (o := .tup [.int ((i : Nat) : Int), x]) nT)
    refine he i x _ hx e5 _ fun H4 e4 => ⟨_, e4 _ _ (Evl.Ex.new nT _ _ p2), ?_, Evl.Ex.mut (e5.trans e4) nD, ?_⟩
    · rw [List.length_mapIdx, List.length_take]
      exact sz_lt (by omega)
    · rw [upd_same, take_mapIdx hx]
  · cases (show i = xs.length by omega)
    exact .inl ⟨⟨xs, q, rfl⟩, hd H p1 (by rw [p2, List.take_length])⟩
theorem lc_filtT {xs : List V} (f : Nat → Bool) (hS : SqT K H1 a xs) (nD : H1 D = none) (hw : ∀ x, wipe ((wipe σ vs).set j (some x)) vs = wipe σ vs) (hz : xs.length ≤ 90000)
    (ht : ∀ (i : Nat) x H3, xs[i]? = some x → Evl.Ex H1 H3 → ∀ Q : Bool → Hp → Prop, (∀ H4, Evl.Ex H3 H4 → Q (f i) H4) → tt ((wipe σ vs).set j (some x)) H3 Q)
    (he : ∀ (i : Nat) x H3, xs[i]? = some x → Evl.Ex H1 H3 → ∀ Q : VK, (∀ H4, Evl.Ex H3 H4 → Q x H4) → te ((wipe σ vs).set j (some x)) H3 Q) (hd : ∀ ys H', Evl.Ex H1 H' → H' D = some (.lst ys) → ys = ((List.range xs.length).filter f).map (fun i => xs.getD i .non) → Qd H') :
    ∃ W : Nat → Nat → Hp → Prop, (∃ m, W 0 m (upd H1 D (.lst []))) ∧ ∀ i m H, W i m H →
      ((Itt K a).stop i H ∧ Qd H) ∨ ((Itt K a).go i H ∧ ∃ Nx : Hp → Prop, (∀ H', Nx H' → ∃ m', m' < m ∧ W (i + 1) m' H') ∧ ∀ x H', (Itt K a).yld i H x H' → (gName j) x (wipe σ vs) H' fun σ2 H2 => wipe σ2 vs = wipe σ vs ∧ tt σ2 H2 fun b H3 =>
        if b = true then te σ2 H3 fun y H4 => ∃ acc, H4 D = some (.lst acc) ∧ acc.length < sizeLine ∧ Nx (upd H4 D (.lst (acc ++ [y]))) else Nx H3) := by
  refine lc_tup (xs := xs) (fun i H' => Evl.Ex H1 H' ∧ H' D = some (.lst (((List.range i).filter f).map fun i => xs.getD i .non))) ⟨Evl.Ex.new nD, upd_same⟩ (fun i H' _ p => Evl.ex_t p.1 hS) ?_ (fun H' p => hd _ H' p.1 p.2 rfl)
  rintro i x H' hx ⟨p1, p2⟩
  have il := (List.getElem?_eq_some_iff.mp hx).1
  refine ⟨hw x, ?_⟩
  refine ht i x H' hx p1 _ fun H3 e3 => ?_
  cases c : f i with
  | true =>
    refine iteT ?_
    refine he i x H3 hx (p1.trans e3) _ fun H4 e4 => ⟨_, e4 _ _ (e3 _ _ p2), ?_, Evl.Ex.mut ((p1.trans e3).trans e4) nD, ?_⟩
    · have h1 := List.length_filter_le f (List.range i)
      rw [List.length_range] at h1
      rw [List.length_map]
      exact sz_lt (by omega)
    · rw [upd_same, List.range_succ, List.filter_append, List.map_append]
      simp [c, hx]
  | false =>
    refine iteF ⟨p1.trans e3, ?_⟩
    rw [e3 _ _ p2, List.range_succ, List.filter_append]
    simp [c]
end
end Rb
namespace Rb
open PySem PySem.Spec PyProof.Rows L2
def topS (i : Nat) : Stmt := PySem.Challenge.pw_roadbikes_k07_waits.main.body.getD i (.Pass ⟨0, 0, 0, 0⟩)
abbrev s_ticks_of : Stmt := topS 1
abbrev N_ticks_of : List Str := ["road", "starts", "plan", "walk", "ride", "bikes", "rows", "brought", "riders", "standing", "ticks", "leaving", "person", "tick"]
theorem sc_ticks_of : FnScope N_ticks_of ["road", "starts", "plan"] (defScope s_ticks_of) := ⟨rfl, rfl, rfl, by decide +kernel, rfl, by decide +kernel, by decide +kernel⟩
abbrev s_bike_ticks : Stmt := topS 2
abbrev N_bike_ticks : List Str := ["ticks", "brought", "standing", "person"]
theorem sc_bike_ticks : FnScope N_bike_ticks ["ticks", "brought", "standing"] (defScope s_bike_ticks) := ⟨rfl, rfl, rfl, by decide +kernel, rfl, by decide +kernel, by decide +kernel⟩
abbrev s_leaving_ticks : Stmt := topS 3
abbrev N_leaving_ticks : List Str := ["ticks", "riders", "bikes", "leaving", "queue", "tick", "person", "bike"]
theorem sc_leaving_ticks : FnScope N_leaving_ticks ["ticks", "riders", "bikes"] (defScope s_leaving_ticks) := ⟨rfl, rfl, rfl, by decide +kernel, rfl, by decide +kernel, by decide +kernel⟩
abbrev s_waits_of : Stmt := topS 4
abbrev N_waits_of : List Str := ["road", "starts", "plan", "last", "person", "start"]
theorem sc_waits_of : FnScope N_waits_of ["road", "starts", "plan"] (defScope s_waits_of) := ⟨rfl, rfl, rfl, by decide +kernel, rfl, by decide +kernel, by decide +kernel⟩
abbrev s_moving_ticks : Stmt := topS 5
abbrev N_moving_ticks : List Str := ["road", "plan", "person", "walk", "ride", "bikes", "rides", "riders"]
theorem sc_moving_ticks : FnScope N_moving_ticks ["road", "plan", "person"] (defScope s_moving_ticks) := ⟨rfl, rfl, rfl, by decide +kernel, rfl, by decide +kernel, by decide +kernel⟩
abbrev s__law_deck : Stmt := topS 7
abbrev N__law_deck : List Str := ["_law_script", "_law_cell"]
theorem sc__law_deck : FnScope N__law_deck ["_law_script"] (defScope s__law_deck) := ⟨rfl, rfl, rfl, by decide +kernel, rfl, by decide +kernel, by decide +kernel⟩
abbrev s__law_draw : Stmt := topS 8
abbrev N__law_draw : List Str := ["_law_deck_here", "_law_limit", "_law_cell", "_law_index"]
theorem sc__law_draw : FnScope N__law_draw ["_law_deck_here", "_law_limit"] (defScope s__law_draw) := ⟨rfl, rfl, rfl, by decide +kernel, rfl, by decide +kernel, by decide +kernel⟩
abbrev s__law_same : Stmt := topS 9
abbrev N__law_same : List Str := ["_law_value", "_law_due"]
theorem sc__law_same : FnScope N__law_same ["_law_value", "_law_due"] (defScope s__law_same) := ⟨rfl, rfl, rfl, by decide +kernel, rfl, by decide +kernel, by decide +kernel⟩
abbrev s__law_road : Stmt := topS 10
abbrev N__law_road : List Str := ["_law_deck_here", "_law_stages", "_law_most", "_law_walk", "_law_ride", "_law_count", "_law_bikes", "_law_k"]
theorem sc__law_road : FnScope N__law_road ["_law_deck_here", "_law_stages", "_law_most"] (defScope s__law_road) := ⟨rfl, rfl, rfl, by decide +kernel, rfl, by decide +kernel, by decide +kernel⟩
abbrev s__law_starts : Stmt := topS 11
abbrev N__law_starts : List Str := ["_law_deck_here", "_law_people", "_law_late", "_law_count", "_law_wide", "_law_k"]
theorem sc__law_starts : FnScope N__law_starts ["_law_deck_here", "_law_people", "_law_late"] (defScope s__law_starts) := ⟨rfl, rfl, rfl, by decide +kernel, rfl, by decide +kernel, by decide +kernel⟩
abbrev s__law_plan : Stmt := topS 12
abbrev N__law_plan : List Str := ["_law_deck_here", "_law_road_here", "_law_people", "_law_found", "_law_most", "_law_number", "_law_left", "_law_many", "_law_riders", "_law_k"]
theorem sc__law_plan : FnScope N__law_plan ["_law_deck_here", "_law_road_here", "_law_people"] (defScope s__law_plan) := ⟨rfl, rfl, rfl, by decide +kernel, rfl, by decide +kernel, by decide +kernel⟩
abbrev s__law_run : Stmt := topS 13
abbrev N__law_run : List Str := ["_law_road_here", "_law_starts_here", "_law_plan_here", "_law_rows", "_law_waits", "_law_left", "_law_k", "_law_riders", "_law_ready", "_law_after", "_law_queue", "_law_tick", "_law_person", "_law_first"]
theorem sc__law_run : FnScope N__law_run ["_law_road_here", "_law_starts_here", "_law_plan_here"] (defScope s__law_run) := ⟨rfl, rfl, rfl, by decide +kernel, rfl, by decide +kernel, by decide +kernel⟩
abbrev s_law : Stmt := topS 14
abbrev N_law : List Str := ["_law_script", "_law_deck_here", "_law_turn", "_law_road_here", "_law_starts_here", "_law_plan_here", "_law_before", "_law_due", "_law_found", "_law_k", "_law_again"]
theorem sc_law : FnScope N_law ["_law_script"] (defScope s_law) := ⟨rfl, rfl, rfl, by decide +kernel, rfl, by decide +kernel, by decide +kernel⟩
structure Tx (K : PySem.W.Frag) (mg : Str → Option Value) where
  f_ticks_of : Addr
  fd_ticks_of : FuncData
  F_ticks_of : Fun K "ticks_of" "ticks_of" s_ticks_of f_ticks_of fd_ticks_of
  g_ticks_of : mg "ticks_of" = some (.ref f_ticks_of)
  b_ticks_of : Binds K fd_ticks_of ["road", "starts", "plan"] []
  f_bike_ticks : Addr
  fd_bike_ticks : FuncData
  F_bike_ticks : Fun K "bike_ticks" "bike_ticks" s_bike_ticks f_bike_ticks fd_bike_ticks
  g_bike_ticks : mg "bike_ticks" = some (.ref f_bike_ticks)
  b_bike_ticks : Binds K fd_bike_ticks ["ticks", "brought", "standing"] []
  f_leaving_ticks : Addr
  fd_leaving_ticks : FuncData
  F_leaving_ticks : Fun K "leaving_ticks" "leaving_ticks" s_leaving_ticks f_leaving_ticks fd_leaving_ticks
  g_leaving_ticks : mg "leaving_ticks" = some (.ref f_leaving_ticks)
  b_leaving_ticks : Binds K fd_leaving_ticks ["ticks", "riders", "bikes"] []
  f_waits_of : Addr
  fd_waits_of : FuncData
  F_waits_of : Fun K "waits_of" "waits_of" s_waits_of f_waits_of fd_waits_of
  g_waits_of : mg "waits_of" = some (.ref f_waits_of)
  b_waits_of : Binds K fd_waits_of ["road", "starts", "plan"] []
  f_moving_ticks : Addr
  fd_moving_ticks : FuncData
  F_moving_ticks : Fun K "moving_ticks" "moving_ticks" s_moving_ticks f_moving_ticks fd_moving_ticks
  g_moving_ticks : mg "moving_ticks" = some (.ref f_moving_ticks)
  b_moving_ticks : Binds K fd_moving_ticks ["road", "plan", "person"] []
  f__law_deck : Addr
  fd__law_deck : FuncData
  F__law_deck : Fun K "_law_deck" "_law_deck" s__law_deck f__law_deck fd__law_deck
  g__law_deck : mg "_law_deck" = some (.ref f__law_deck)
  b__law_deck : Binds K fd__law_deck ["_law_script"] []
  f__law_draw : Addr
  fd__law_draw : FuncData
  F__law_draw : Fun K "_law_draw" "_law_draw" s__law_draw f__law_draw fd__law_draw
  g__law_draw : mg "_law_draw" = some (.ref f__law_draw)
  b__law_draw : Binds K fd__law_draw ["_law_deck_here", "_law_limit"] []
  f__law_same : Addr
  fd__law_same : FuncData
  F__law_same : Fun K "_law_same" "_law_same" s__law_same f__law_same fd__law_same
  g__law_same : mg "_law_same" = some (.ref f__law_same)
  b__law_same : Binds K fd__law_same ["_law_value", "_law_due"] []
  f__law_road : Addr
  fd__law_road : FuncData
  F__law_road : Fun K "_law_road" "_law_road" s__law_road f__law_road fd__law_road
  g__law_road : mg "_law_road" = some (.ref f__law_road)
  b__law_road : Binds K fd__law_road ["_law_deck_here", "_law_stages", "_law_most"] []
  f__law_starts : Addr
  fd__law_starts : FuncData
  F__law_starts : Fun K "_law_starts" "_law_starts" s__law_starts f__law_starts fd__law_starts
  g__law_starts : mg "_law_starts" = some (.ref f__law_starts)
  b__law_starts : Binds K fd__law_starts ["_law_deck_here", "_law_people", "_law_late"] []
  f__law_plan : Addr
  fd__law_plan : FuncData
  F__law_plan : Fun K "_law_plan" "_law_plan" s__law_plan f__law_plan fd__law_plan
  g__law_plan : mg "_law_plan" = some (.ref f__law_plan)
  b__law_plan : Binds K fd__law_plan ["_law_deck_here", "_law_road_here", "_law_people"] []
  f__law_run : Addr
  fd__law_run : FuncData
  F__law_run : Fun K "_law_run" "_law_run" s__law_run f__law_run fd__law_run
  g__law_run : mg "_law_run" = some (.ref f__law_run)
  b__law_run : Binds K fd__law_run ["_law_road_here", "_law_starts_here", "_law_plan_here"] []
  f_law : Addr
  fd_law : FuncData
  F_law : Fun K "law" "law" s_law f_law fd_law
  g_law : mg "law" = some (.ref f_law)
  b_law : Binds K fd_law ["_law_script"] []
  z_abs : mg "abs" = none
  z_enumerate : mg "enumerate" = none
  z_int : mg "int" = none
  z_len : mg "len" = none
  z_list : mg "list" = none
  z_max : mg "max" = none
  z_min : mg "min" = none
  z_range : mg "range" = none
  z_repr : mg "repr" = none
  z_sorted : mg "sorted" = none
  z_tuple : mg "tuple" = none
  z_zip : mg "zip" = none

end Rb
namespace Rb
open PySem PySem.Spec PyProof.Rows L2
/-! ### the deck -/
section
variable {P : Program} {w : World} {K : PySem.W.Frag} {mg : Str → Option Value} {base : Heap}
def spDeck (K : PySem.W.Frag) : Sp := fun vs H Q _ => ∃ (a : Addr) (ns : List Int), vs = [.ref a] ∧ SqL K H a (ns.map V.int) ∧ ∀ d c H', Dk H' d c 0 → Evl.Ex H H' → Q (.ref d) H'
theorem ok__law_deck (T : Tx K mg) : FnOk P w K mg base CX0 1 T.f__law_deck T.fd__law_deck ["_law_script"] (spDeck K) := by
  refine T.F__law_deck.ok sc__law_deck (fun vs H Q E h => ?_) (fun cdv A outer s H vs Q E hr h => ?_)
  · obtain ⟨a, ns, rfl, _⟩ := h
    rfl
  obtain ⟨a, ns, rfl, hS, q⟩ := h
  refine ⟨_, (pss_one (ps_ret (pe_lst (pa_cons (pe_lc (own := [("_law_cell", 1)]) (g := gName 1) (tt := tYes) (by rfl) sc__law_deck.nd (pi_list (pe_slice (show SlR _ (rSlL K) from sl_list) (pv 0) po_none (po_some pe_int))) (blkOk_by (own := [("_law_cell", 1)]) (N := N__law_deck) (sc := defScope s__law_deck) (by decide +kernel)) (fun _ _ _ _ _ => (pg_name (i := 1) sc__law_deck.nd rfl (.inl rfl))) (fun _ _ _ _ _ => pts_nil) (fun _ _ _ _ _ => (pe_callB call_abs (by rfl) T.z_abs (by decide +kernel) (pa_cons (pv 1) pa_nil)))) (pa_cons pe_int pa_nil))))), ?_⟩
  refine ⟨.ref a, rfl, 63, rfl, a, ns.map V.int, rfl, hS, fun p np => ?_⟩
  have hc : cutV (ns.map V.int) none (some 63) = ((ns.take 63).map V.int) := by
    rw [show (63 : Int) = ((63 : Nat) : Int) from rfl, cut_to, List.map_take]
  rw [hc]
  refine ⟨p, rfl, ⟨_, lstOf upd_same⟩, fun D nD => ?_⟩
  refine lc_mapL (f := fun v => match v with | .int i => .int (if i < 0 then -i else i) | v => v) (lstOf upd_same) nD (fun _ => rfl) ?_ ?_ ?_
  · rw [List.length_map, List.length_take]
    omega
  · intro i x H3 hx e3 Q2 hQ
    rw [List.getElem?_map] at hx
    obtain ⟨n, _, rfl⟩ := Option.map_eq_some_iff.mp hx
    exact ⟨.int n, rfl, n, rfl, hQ H3 (Evl.Ex.refl _)⟩
  · intro H' e' hD
    refine ⟨by show 2 ≤ sizeLine; decide, fun l nl => ?_⟩
    refine q l D _ ⟨(ns.take 63).map (fun i => if i < 0 then -i else i), 0, upd_same, ?_, ?_, ?_, Int.le_refl _, Int.le_refl _⟩ ?_
    · rw [upd_ne (ne_of_none hD nl), hD, List.map_map, List.map_map]
      rfl
    · rw [List.length_map, List.length_take]
      omega
    · intro x hx
      obtain ⟨i, _, rfl⟩ := List.mem_map.mp hx
      split <;> omega
    · exact (Evl.Ex.new np).trans (e'.trans (Evl.Ex.new nl))
end

end Rb
namespace Rb
open PySem PySem.Spec PyProof.Rows L2
section
variable {P : Program} {w : World} {K : PySem.W.Frag} {mg : Str → Option Value} {base : Heap}
def spDraw : Sp := fun vs H Q _ => ∃ (d c : Addr) (N m : Int), vs = [.ref d, .int m] ∧ Dk H d c N ∧ N ≤ 1000000000 ∧ 0 < m ∧ m ≤ 1000000000 ∧
  ∀ r H', 0 ≤ r → r < m → Dk H' d c (N + 1) → Kp d c H H' → Q (.int r) H'
theorem ok__law_draw (T : Tx K mg) : FnOk P w K mg base CX0 1 T.f__law_draw T.fd__law_draw ["_law_deck_here", "_law_limit"] spDraw := by
  refine T.F__law_draw.ok sc__law_draw (fun vs H Q E h => ?_) (fun cdv A outer s H vs Q E hr h => ?_)
  · obtain ⟨d, c, N, m, rfl, _⟩ := h
    rfl
  obtain ⟨d, c, N, m, rfl, ⟨cs, n, hd, hc, hl, hcs, n0, nN⟩, hN, m0, m1, q⟩ := h
  refine ⟨_, (pss_cons (ps_asg (pe_op op_add (pe_ix (show IxR _ (rIxL K) from ix_list) (pv 0) pe_int (fun _ _ => rfl)) pe_int) (pg_sub (pv 0) pe_int set_list))
 (pss_cons (ps_asg (pe_tup (pa_cons pe_int (pa_cons (pe_un un_neg pe_int) pa_nil))) (pg_tup rfl (pgs_cons (pg_name (i := 2) sc__law_draw.nd rfl (.inl rfl)) (pgs_cons (pg_name (i := 3) sc__law_draw.nd rfl (.inl rfl)) pgs_nil))))
 (Evl.pss_cut (ps_if (pt_cmpR op_gt (pe_callB (show CallR _ (.builtin "len") (Evl.rLenS K) from call_len_seq) (by rfl) T.z_len PySem.boot_len (pa_cons (pe_ix (show IxR _ (rIxL K) from ix_list) (pv 0) pe_int (fun _ _ => rfl)) pa_nil)) pe_int (nomark _))
 (pss_cons (ps_set (i := 3) sc__law_draw.nd rfl (.inl rfl) (pe_op op_mod (pe_ix (show IxR _ (rIxL K) from ix_list) (pv 0) pe_int (fun _ _ => rfl)) (pe_callB (show CallR _ (.builtin "len") (Evl.rLenS K) from call_len_seq) (by rfl) T.z_len PySem.boot_len (pa_cons (pe_ix (show IxR _ (rIxL K) from ix_list) (pv 0) pe_int (fun _ _ => rfl)) pa_nil))))
 (pss_one (ps_set (i := 2) sc__law_draw.nd rfl (.inl rfl) (pe_ix (show IxR _ (rIxL K) from ix_list) (pe_ix (show IxR _ (rIxL K) from ix_list) (pv 0) pe_int (fun _ _ => rfl)) (pv 3) (fun _ _ => rfl)))))
 pss_nil)
 (pss_cons (ps_if (pt_cmpR op_ge (pv 2) (pe_op op_pow pe_int pe_int) (nomark _))
 (pss_cons (ps_asg (pe_op op_fdivW (pv 2) (pv 1)) (pg_sub (pe_ix (show IxR _ (rIxL K) from ix_list) (pv 0) pe_int (fun _ _ => rfl)) (pv 3) set_list))
 (pss_one (ps_ret (pe_op op_mod (pv 2) (pv 1)))))
 pss_nil)
 (pss_one (ps_ret (pe_op op_mod (pe_op op_fdivW (pe_op op_mod (pe_op op_pow (pe_op op_add (pe_op op_add (pe_op op_mod (pv 2) pe_int) (pe_op op_mul pe_int (pe_ix (show IxR _ (rIxL K) from ix_list) (pv 0) pe_int (fun _ _ => rfl)))) pe_int) pe_int) pe_int) pe_int) (pv 1)))))))), ?_⟩
  have ndc : d ≠ c := ne_of hd hc (by
    cases cs with
    | nil => intro z; cases z
    | cons x r => intro z; cases z)
  -- deck[1] = deck[1] + 1
  refine ⟨.ref d, rfl, d, _, 1, .int n, rfl, rfl, lstOf hd, rfl, n, 1, rfl, rfl, ?_⟩
  refine ⟨.ref d, rfl, d, _, 1, 1, rfl, rfl, hd, rfl, ?_⟩
  have hd1 : (upd H d (.lst ([V.ref c, V.int n].set 1 (.int (n + 1))))) d = some (.lst [.ref c, .int (n + 1)]) := upd_same
  have hc1 : (upd H d (.lst ([V.ref c, V.int n].set 1 (.int (n + 1))))) c = some (.lst (cs.map V.int)) := by
    rw [upd_ne ndc.symm]
    exact hc
  have kk1 : Kp d c H (upd H d (.lst ([V.ref c, V.int n].set 1 (.int (n + 1))))) := fun b o e h1 h2 => by
    rw [upd_ne h1]
    exact e
  -- cell, index = 0, -1
  refine ⟨1, rfl, by show 2 ≤ sizeLine; decide, fun t nt => ?_⟩
  refine ⟨t, [.int 0, .int (-1)], rfl, tupOf upd_same, rfl, .int 0, [.int (-1)], rfl, .int (-1), [], rfl, rfl, ?_⟩
  have hd2 := Evl.Ex.new (o := .tup [.int 0, .int (-1)]) nt _ _ hd1
  have hc2 := Evl.Ex.new (o := .tup [.int 0, .int (-1)]) nt _ _ hc1
  have kk2 := kk1.trans (Kp.new (o := .tup [.int 0, .int (-1)]) nt)
  -- if len(deck[0]) > 0
  refine ⟨fun σ' H' => ∃ cell ix : Int, σ' = [some (.ref d), some (.int m), some (.int cell), some (.int ix)] ∧ 0 ≤ cell ∧ (cell < 10 ^ 18 ∨ ∃ j : Nat, ix = (j : Int) ∧ j < cs.length) ∧
    H' d = some (.lst [.ref c, .int (n + 1)]) ∧ H' c = some (.lst (cs.map V.int)) ∧ Kp d c H H', ?_, ?_⟩
  · refine ⟨.ref d, rfl, d, _, 0, .ref c, rfl, rfl, lstOf hd2, rfl, c, _, rfl, .inl (lstOf hc2), _, 0, rfl, rfl, _, rfl, ite2 (fun e => ?_) (fun e => ?_)⟩
    · have e1 : (0 : Int) < ((cs.map V.int).length : Int) := of_decide_eq_true e
      rw [List.length_map] at e1
      refine ⟨.ref d, rfl, d, _, 1, .int (n + 1), rfl, rfl, lstOf hd2, rfl, .ref d, rfl, d, _, 0, .ref c, rfl, rfl, lstOf hd2, rfl, c, _, rfl, .inl (lstOf hc2), n + 1, _, rfl, rfl, by rw [List.length_map]; exact e1, ?_⟩
      rw [List.length_map]
      have i0 : 0 ≤ (n + 1) % (cs.length : Int) := Int.emod_nonneg _ (by omega)
      have i1 : (n + 1) % (cs.length : Int) < (cs.length : Int) := Int.emod_lt_of_pos _ e1
      obtain ⟨j, hj⟩ : ∃ j : Nat, (n + 1) % (cs.length : Int) = (j : Int) := ⟨((n + 1) % (cs.length : Int)).toNat, by omega⟩
      rw [hj] at i1
      have jl : j < cs.length := by omega
      refine ⟨.ref d, rfl, d, _, 0, .ref c, rfl, rfl, lstOf hd2, rfl, _, rfl, c, _, _, .int cs[j], rfl, rfl, lstOf hc2, (congrArg (atI (cs.map V.int)) hj).trans (at_ints jl), ?_⟩
      exact ⟨cs[j], _, rfl, hcs _ (List.getElem_mem jl), .inr ⟨j, hj, jl⟩, hd2, hc2, kk2⟩
    · exact ⟨0, -1, rfl, by decide, .inl (by decide), hd2, hc2, kk2⟩
  rintro σ' H' ⟨cell, ix, rfl, c0, cx, hd3, hc3, kk3⟩
  have dk3 : Dk H' d c (N + 1) := ⟨cs, n + 1, hd3, hc3, hl, hcs, by omega, by omega⟩
  refine ⟨.int cell, rfl, 10, 18, rfl, rfl, ⟨by decide, by decide, by decide⟩, cell, _, rfl, rfl, _, rfl, ite2 (fun e => ?_) (fun e => ?_)⟩
  · -- a great cell
    have e1 : (10 : Int) ^ 18 ≤ cell := of_decide_eq_true e
    obtain ⟨j, rfl, hj⟩ := cx.resolve_left (by omega)
    refine ⟨.int cell, rfl, .int m, rfl, cell, m, rfl, rfl, wide_div (b := 40) m0 (by omega) (by decide) (by decide), ?_⟩
    refine ⟨.ref d, rfl, d, _, 0, .ref c, rfl, rfl, lstOf hd3, rfl, .int (j : Int), rfl, c, _, (j : Int), j, rfl, rfl, hc3, Evl.ixN_nat (by rw [List.length_map]; exact hj), ?_⟩
    refine ⟨.int cell, rfl, .int m, rfl, cell, m, rfl, rfl, m0, ?_⟩
    refine q _ _ (Int.emod_nonneg _ (by omega)) (Int.emod_lt_of_pos _ m0) ⟨cs.set j (cell / m), n + 1, ?_, ?_, ?_, ?_, by omega, by omega⟩ ?_
    · rw [upd_ne ndc]
      exact hd3
    · rw [upd_same, List.map_set]
    · rw [List.length_set]
      exact hl
    · intro x hx
      rcases List.mem_or_eq_of_mem_set hx with h | rfl
      · exact hcs x h
      · exact Int.ediv_nonneg c0 (by omega)
    · intro b o eb h1 h2
      rw [upd_ne h2]
      exact kk3 b o eb h1 h2
  · -- a mixed number
    have b1 : 0 ≤ cell % 2147483587 := Int.emod_nonneg _ (by decide)
    have b2 : cell % 2147483587 < 2147483587 := Int.emod_lt_of_pos _ (by decide)
    refine ⟨.int cell, rfl, cell, 2147483587, rfl, rfl, (by show (0 : Int) < 2147483587; decide), .ref d, rfl, d, _, 1, .int (n + 1), rfl, rfl, lstOf hd3, rfl, 7919, n + 1, rfl, rfl, .inl ⟨by decide, by decide⟩, _, _, rfl, rfl, _, 1, rfl, rfl, ?_⟩
    refine ⟨_, 5, rfl, rfl, ⟨by decide, by decide, by omega⟩, _, 2147483647, rfl, rfl, (by show (0 : Int) < 2147483647; decide), _, 7, rfl, rfl, wide_div (b := 4) (by decide) (by decide) (by decide) (by decide), .int m, rfl, _, m, rfl, rfl, m0, ?_⟩
    exact q _ _ (Int.emod_nonneg _ (by omega)) (Int.emod_lt_of_pos _ m0) dk3 kk3
end

end Rb
namespace Rb
open PySem PySem.Spec PyProof.Rows L2
section
variable {P : Program} {w : World} {K : PySem.W.Frag} {mg : Str → Option Value} {base : Heap}
def spRoad (K : PySem.W.Frag) : Sp := fun vs H Q _ => ∃ (d c : Addr) (N st mo : Int), vs = [.ref d, .int st, .int mo] ∧ Dk H d c N ∧ N ≤ 900000000 ∧ 1 ≤ st ∧ st ≤ 12 ∧ 0 ≤ mo ∧ mo ≤ 12 ∧
  ∀ v wk rd bs H', Road K H' v wk rd bs → 2 ≤ wk → wk ≤ 1000 → 1 ≤ rd → rd < wk → 1 ≤ bs.length → (bs.length : Int) ≤ st → (∀ b ∈ bs, 0 ≤ b ∧ b ≤ mo) → Dk H' d c (N + 40) → Kp d c H H' → Q v H'
theorem ok__law_road (T : Tx K mg) : FnOk P w K mg base CX0 2 T.f__law_road T.fd__law_road ["_law_deck_here", "_law_stages", "_law_most"] (spRoad K) := by
  have G__law_draw := ok__law_draw (P := P) (w := w) (base := base) T
  refine T.F__law_road.ok sc__law_road (fun vs H Q E h => ?_) (fun cdv A outer s H vs Q E hr h => ?_)
  · obtain ⟨d, c, N, st, mo, rfl, _⟩ := h
    rfl
  obtain ⟨d, c, N, st, mo, rfl, dk, hN, st1, st2, mo1, mo2, q⟩ := h
  refine ⟨_, (pss_cons (ps_set (i := 3) sc__law_road.nd rfl (.inl rfl) (pe_op op_add pe_int (pe_call G__law_draw hr (by rfl) T.g__law_draw T.F__law_draw.kp T.b__law_draw .nil pass0 (pa_cons (pv 0) (pa_cons (pe_ix (show IxR _ (rIxL K) from ix_list) (pe_lst (pa_cons pe_int (pa_cons pe_int (pa_cons pe_int pa_nil)))) (pe_call G__law_draw hr (by rfl) T.g__law_draw T.F__law_draw.kp T.b__law_draw .nil pass0 (pa_cons (pv 0) (pa_cons pe_int pa_nil))) (fun _ _ => rfl)) pa_nil)))))
 (pss_cons (ps_set (i := 4) sc__law_road.nd rfl (.inl rfl) (pe_ix (show IxR _ (rIxL K) from ix_list) (pe_lst (pa_cons pe_int (pa_cons (pe_op op_add pe_int (pe_call G__law_draw hr (by rfl) T.g__law_draw T.F__law_draw.kp T.b__law_draw .nil pass0 (pa_cons (pv 0) (pa_cons (pe_op op_sub (pv 3) pe_int) pa_nil)))) pa_nil))) (pe_call G__law_draw hr (by rfl) T.g__law_draw T.F__law_draw.kp T.b__law_draw .nil pass0 (pa_cons (pv 0) (pa_cons pe_int pa_nil))) (fun _ _ => rfl)))
 (pss_cons (ps_par (i := 5) (j := 6) (by rfl) sc__law_road.nd rfl rfl (by decide) rfl rfl (pa_cons (pe_ix (show IxR _ (rIxL K) from ix_list) (pe_lst (pa_cons (pe_op op_add pe_int (pe_call G__law_draw hr (by rfl) T.g__law_draw T.F__law_draw.kp T.b__law_draw .nil pass0 (pa_cons (pv 0) (pa_cons (pv 1) pa_nil)))) (pa_cons (pv 1) pa_nil))) (pe_call G__law_draw hr (by rfl) T.g__law_draw T.F__law_draw.kp T.b__law_draw .nil pass0 (pa_cons (pv 0) (pa_cons pe_int pa_nil))) (fun _ _ => rfl)) (pa_cons (pe_tup pa_nil) pa_nil)) (by rfl))
 (pss_cons (ps_for PassesOwn.never rfl (pi_range1 (by rfl) T.z_range (pa_cons (pv 5) pa_nil)) (pg_name (i := 7) sc__law_road.nd rfl (.inl rfl))
 (pss_one (ps_set (i := 6) sc__law_road.nd rfl (.inl rfl) (pe_op (show OpR _ (binaryOp .Add) (rCatA K) from op_catA) (pv 6) (pe_tup (pa_cons (pe_op op_mul (pe_call G__law_draw hr (by rfl) T.g__law_draw T.F__law_draw.kp T.b__law_draw .nil pass0 (pa_cons (pv 0) (pa_cons (pe_op op_add (pv 2) pe_int) pa_nil))) (pe_ix (show IxR _ (rIxL K) from ix_list) (pe_lst (pa_cons pe_int (pa_cons (pe_callTy call_int1 (by rfl) T.z_int (by decide +kernel) (pa_cons (pe_cmpR op_eq (pv 7) pe_int (nomark _)) pa_nil)) (pa_cons pe_int pa_nil)))) (pe_call G__law_draw hr (by rfl) T.g__law_draw T.F__law_draw.kp T.b__law_draw .nil pass0 (pa_cons (pv 0) (pa_cons pe_int pa_nil))) (fun _ _ => rfl))) pa_nil))))))
 (pss_one (ps_ret (pe_tup (pa_cons (pv 3) (pa_cons (pv 4) (pa_cons (pv 6) pa_nil)))))))))), ?_⟩
  -- walk
  refine ⟨.ref d, rfl, by show 3 ≤ sizeLine; decide, fun p np => ?_⟩
  refine ⟨.ref d, rfl, d, c, N, 3, rfl, dk.new np, by omega, by decide, by decide, fun r1 H1 r1a r1b dk1 k1 => ?_⟩
  have hp1 := k1 p _ upd_same (dk.ne1 np) (dk.ne2 np)
  obtain ⟨m1, at1, m1c⟩ := pick3i (x := 4) (y := 20) (z := 999) r1a r1b
  refine ⟨p, _, r1, _, rfl, rfl, lstOf hp1, at1, d, c, N + 1, m1, rfl, dk1, by omega, by omega, by omega, fun r2 H2 r2a r2b dk2 k2 => ?_⟩
  refine ⟨2, r2, rfl, rfl, ?_⟩
  have K2 : Kp d c H H2 := (Kp.new np).trans (k1.trans k2)
  -- ride
  refine ⟨.ref d, rfl, _, rfl, 2 + r2, 1, rfl, rfl, d, c, N + 1 + 1, 2 + r2 - 1, rfl, dk2, by omega, by omega, by omega, fun r3 H3 r3a r3b dk3 k3 => ?_⟩
  refine ⟨1, r3, rfl, rfl, by show 2 ≤ sizeLine; decide, fun p2 np2 => ?_⟩
  refine ⟨.ref d, rfl, d, c, _, 2, rfl, dk3.new np2, by omega, by decide, by decide, fun r4 H4 r4a r4b dk4 k4 => ?_⟩
  obtain ⟨rd, at4, rdc⟩ := pick2i (x := 1) (y := 1 + r3) r4a r4b
  refine ⟨p2, _, r4, _, rfl, rfl, lstOf (k4 p2 _ upd_same (dk3.ne1 np2) (dk3.ne2 np2)), at4, ?_⟩
  have K4 : Kp d c H H4 := K2.trans (k3.trans ((Kp.new np2).trans k4))
  -- count, bikes
  refine ⟨.ref d, rfl, .int st, rfl, d, c, _, st, rfl, dk4, by omega, by omega, by omega, fun r5 H5 r5a r5b dk5 k5 => ?_⟩
  refine ⟨1, r5, rfl, rfl, .int st, rfl, by show 2 ≤ sizeLine; decide, fun p3 np3 => ?_⟩
  refine ⟨.ref d, rfl, d, c, _, 2, rfl, dk5.new np3, by omega, by decide, by decide, fun r6 H6 r6a r6b dk6 k6 => ?_⟩
  obtain ⟨cnt, at6, cntc⟩ := pick2i (x := 1 + r5) (y := st) r6a r6b
  refine ⟨p3, _, r6, _, rfl, rfl, lstOf (k6 p3 _ upd_same (dk5.ne1 np3) (dk5.ne2 np3)), at6, ?_⟩
  refine ⟨by show 0 ≤ sizeLine; decide, fun t0 nt0 => ⟨_, _, rfl, ?_⟩⟩
  have K6 : Kp d c H (upd H6 t0 (.tup [])) := K4.trans (k5.trans ((Kp.new np3).trans (k6.trans (Kp.new nt0))))
  have dk7 : Dk (upd H6 t0 (.tup [])) d c (N + 6) := (dk6.new nt0).le (by omega)
  have cnt1 : 1 ≤ cnt ∧ cnt ≤ st := by omega
  -- the loop
  refine ⟨.int cnt, rfl, cnt, rfl, by omega, by omega, ?_⟩
  refine for_range (lo := 0) (n := cnt.toNat) (fun i σ' H' => ∃ (t : Addr) (y7 : Option V) (bs : List Int), σ' = [some (.ref d), some (.int st), some (.int mo), some (.int (2 + r2)), some (.int rd), some (.int cnt), some (.ref t), y7] ∧ SqT K H' t (bs.map V.int) ∧ bs.length = i ∧ (∀ b ∈ bs, 0 ≤ b ∧ b ≤ mo) ∧
    Dk H' d c (N + 6 + 2 * i) ∧ Kp d c H H') ?_ ?_ ?_
  · exact ⟨t0, none, [], rfl, tupOf upd_same, rfl, (fun _ z => nomatch z), dk7.le (by omega), K6⟩
  · rintro i σ' H' hi ⟨t, y7, bs, rfl, hT, hl, hb, dki, ki⟩
    refine ⟨.ref t, rfl, .ref d, rfl, .int mo, rfl, mo, 1, rfl, rfl, d, c, _, mo + 1, rfl, dki, by omega, by omega, by omega, fun a1 H7 a1a a1b dk8 k8 => ?_⟩
    refine ⟨_, rfl, rfl, .inr ⟨_, rfl, ?_⟩⟩
    refine ⟨by show 3 ≤ sizeLine; decide, fun p4 np4 => ?_⟩
    refine ⟨.ref d, rfl, d, c, _, 3, rfl, dk8.new np4, by omega, by decide, by decide, fun a2 H8 a2a a2b dk9 k9 => ?_⟩
    obtain ⟨f, at8, fc⟩ := pick3i (x := 1) (y := if decide (V.int (0 + (i : Int)) = V.int 0) then 1 else 0) (z := 0) a2a a2b
    have fb : f = 0 ∨ f = 1 := by
      rcases fc with h | h | h
      · exact .inr h
      · rw [h]
        split
        · exact .inr rfl
        · exact .inl rfl
      · exact .inl h
    refine ⟨p4, _, a2, _, rfl, rfl, lstOf (k9 p4 _ upd_same (dk8.ne1 np4) (dk8.ne2 np4)), at8, a1, f, rfl, rfl, .inl ⟨by omega, by omega⟩, ?_⟩
    refine ⟨by show 1 ≤ sizeLine; decide, fun t2 nt2 => ?_⟩
    have kT : Kp d c H' (upd H8 t2 (.tup [.int (a1 * f)])) := k8.trans ((Kp.new np4).trans (k9.trans (Kp.new nt2)))
    have dkT : Dk (upd H8 t2 (.tup [.int (a1 * f)])) d c (N + 6 + 2 * ((i + 1 : Nat) : Int)) := (dk9.new nt2).le (by omega)
    have hT2 : SqT K (upd H8 t2 (.tup [.int (a1 * f)])) t (bs.map V.int) := kT.sqT dki hT
    have hv : 0 ≤ a1 * f ∧ a1 * f ≤ mo := by
      rcases fb with rfl | rfl
      · rw [Int.mul_zero]
        omega
      · rw [Int.mul_one]
        omega
    have hb2 : ∀ b ∈ bs ++ [a1 * f], 0 ≤ b ∧ b ≤ mo := fun b hm => by
      rcases List.mem_append.mp hm with h | h
      · exact hb b h
      · cases List.mem_singleton.mp h
        exact hv
    refine ⟨t, t2, bs.map V.int, [.int (a1 * f)], rfl, rfl, hT2, tupOf upd_same, sz_le (by rw [List.length_map]; show bs.length + 1 ≤ _; omega), fun e => ?_, (fun e z => nomatch z), fun e _ p5 np5 => ?_⟩
    · have e2 : bs = [] := List.map_eq_nil_iff.mp e
      subst e2
      exact ⟨t2, _, [a1 * f], rfl, tupOf upd_same, by rw [← hl]; rfl, hb2, dkT, ki.trans kT⟩
    · exact ⟨p5, _, bs ++ [a1 * f], rfl, by rw [List.map_append]; exact tupOf upd_same, by rw [List.length_append, hl]; rfl, hb2, dkT.new np5, ki.trans (kT.trans (Kp.new np5))⟩
  · rintro σ' H' ⟨t, y7, bs, rfl, hT, hl, hb, dki, ki⟩
    refine ⟨_, rfl, _, rfl, .ref t, rfl, by show 3 ≤ sizeLine; decide, fun rp nrp => ?_⟩
    exact q (.ref rp) (2 + r2) rd bs _ ⟨rp, t, rfl, tupOf upd_same, tupNew hT nrp⟩ (by omega) (by omega) (by omega) (by omega) (by omega) (by omega) hb ((dki.new nrp).le (by omega)) (ki.trans (Kp.new nrp))
end

end Rb
namespace Rb
open PySem PySem.Spec PyProof.Rows L2
section
variable {P : Program} {w : World} {K : PySem.W.Frag} {mg : Str → Option Value} {base : Heap}
def spSame (K : PySem.W.Frag) : Sp := fun vs H Q _ => ∃ (v1 v2 : V) (d : PyData), vs = [v1, v2] ∧ Dp K H v1 d ∧ Dp K H v2 d ∧ Nice 20 100000 d ∧ Q (.bl true) H
theorem ok__law_same (T : Tx K mg) : FnG P w K mg base CX0 1 T.f__law_same T.fd__law_same ["_law_value", "_law_due"] (spSame K) := by
  refine okG T.F__law_same sc__law_same (fun vs H Q E h => ?_) (fun cdv A outer s H vs Q E hg hr h => ?_)
  · obtain ⟨v1, v2, d, rfl, _⟩ := h
    rfl
  obtain ⟨v1, v2, d, rfl, h1, h2, hn, q⟩ := h
  refine ⟨_, (pss_one (ps_ret (pe_cmpR op_eq (pe_callB (show CallR _ (.builtin "repr") (rRepr K) from (call_reprD hg hr.units)) (by rfl) T.z_repr (by decide +kernel) (pa_cons (pv 0) pa_nil)) (pe_callB (show CallR _ (.builtin "repr") (rRepr K) from (call_reprD hg hr.units)) (by rfl) T.z_repr (by decide +kernel) (pa_cons (pv 1) pa_nil)) (nomark _)))), ?_⟩
  refine ⟨v1, rfl, v1, d, rfl, h1, hn.sh, hn.dep, hn.fits, v2, rfl, v2, d, rfl, h2, hn.sh, hn.dep, hn.fits, rfl, ?_⟩
  rw [decide_eq_true rfl]
  exact q
end

end Rb
namespace Rb
open PySem PySem.Spec PyProof.Rows L2
section
variable {P : Program} {w : World} {K : PySem.W.Frag} {mg : Str → Option Value} {base : Heap}
def nI (r : List Nat) : List Int := r.map fun p : Nat => (p : Int)
theorem nI_get {r : List Nat} {i : Nat} {x : V} (h : ((nI r).map V.int)[i]? = some x) : ∃ p : Nat, r[i]? = some p ∧ x = .int (p : Int) := by
  unfold nI at h
  rw [List.map_map, List.getElem?_map] at h
  obtain ⟨p, hp, rfl⟩ := Option.map_eq_some_iff.mp h
  exact ⟨p, hp, rfl⟩
theorem at_tick {ticks : List Int} {p : Nat} (h : p < ticks.length) : atI (ticks.map V.int) (p : Int) = some (.int (tickAt ticks p)) := by
  rw [at_ints h]
  unfold tickAt
  rw [List.getD_eq_getElem?_getD, List.getElem?_eq_getElem h]
  rfl
theorem at_last {xs : List V} {i : Nat} {x : V} (hl : xs.length = i + 1) (hx : xs[i]? = some x) : atI xs (-1) = some x := by
  have e : xs = xs.take i ++ [x] := by
    have h1 : xs.take (i + 1) = xs := List.take_of_length_le (by omega)
    rw [List.take_add_one, hx] at h1
    exact h1.symm
  rw [e]
  exact atI_last _ _
theorem flat_ints (ns : List Int) : (ns.map V.int).all flatV = true := by
  rw [List.all_map, List.all_eq_true]
  intro x _
  rfl
theorem inV_nI {p : Nat} : ∀ {r : List Nat}, inV (.int (p : Int)) ((nI r).map V.int) = decide (p ∈ r)
  | [] => by simp [inV, nI]
  | q :: r => by
    have ih := inV_nI (p := p) (r := r)
    unfold inV nI at *
    simp only [List.map_cons, List.any_cons, List.map_map] at *
    rw [ih]
    by_cases e : p = q
    · subst e
      simp [eqV]
    · have e2 : ¬ ((p : Int) = (q : Int)) := by omega
      have e3 : ¬ ((q : Int) = (p : Int)) := by omega
      simp [e, e3, eqV]
def spBikes (K : PySem.W.Frag) : Sp := fun vs H Q _ => ∃ (ta ba : Addr) (ticks : List Int) (br : List Nat) (st : Nat), vs = [.ref ta, .ref ba, .int (st : Int)] ∧ SqT K H ta (ticks.map V.int) ∧ SqT K H ba ((nI br).map V.int) ∧
  (∀ p ∈ br, p < ticks.length) ∧ st + br.length < 64 ∧ ∀ p H', Evl.Ex H H' → H' p = some (.lst ((bikesM ticks br st).map V.int)) → Q (.ref p) H'
theorem ok_bike_ticks (T : Tx K mg) : FnOk P w K mg base CX0 1 T.f_bike_ticks T.fd_bike_ticks ["ticks", "brought", "standing"] (spBikes K) := by
  refine T.F_bike_ticks.ok sc_bike_ticks (fun vs H Q E h => ?_) (fun cdv A outer s H vs Q E hr h => ?_)
  · obtain ⟨ta, ba, ticks, br, st, rfl, _⟩ := h
    rfl
  obtain ⟨ta, ba, ticks, br, st, rfl, hT, hB, hlt, hfew, q⟩ := h
  refine ⟨_, (pss_one (ps_ret (pe_callB (show CallR _ (.builtin "sorted") (rSorted K) from cr_sorted) (by rfl) T.z_sorted (by decide +kernel) (pa_cons (pe_op op_cat (pe_op op_rep (pe_lst (pa_cons pe_int pa_nil)) (pv 2)) (pe_lc (own := [("person", 3)]) (g := gName 3) (tt := tYes) (by rfl) sc_bike_ticks.nd (pi_tup (pv 1)) (blkOk_by (own := [("person", 3)]) (N := N_bike_ticks) (sc := defScope s_bike_ticks) (by decide +kernel)) (fun _ _ _ _ _ => (pg_name (i := 3) sc_bike_ticks.nd rfl (.inl rfl))) (fun _ _ _ _ _ => pts_nil) (fun _ _ _ _ _ => (pe_ix (show IxR _ (rIxT K) from ix_tup) (pv 0) (pv 3) (fun _ _ => rfl))))) pa_nil)))), ?_⟩
  refine ⟨by show 1 ≤ sizeLine; decide, fun z nz => ?_⟩
  refine ⟨.int (st : Int), rfl, z, (st : Int), _, rfl, rfl, upd_same, by omega, by omega, ?_, fun z2 nz2 => ?_⟩
  · rw [Int.toNat_natCast]
    exact sz_le (by show 1 * st ≤ _; omega)
  have e1 := (Evl.Ex.new (o := .lst [.int 0]) nz).trans (Evl.Ex.new (o := .lst (List.replicate ((st : Int).toNat) [V.int 0]).flatten) nz2)
  have hz2 : upd (upd H z (.lst [.int 0])) z2 (.lst (List.replicate ((st : Int).toNat) [V.int 0]).flatten) z2 = some (.lst ((List.replicate st (0 : Int)).map V.int)) := by
    rw [upd_same, Int.toNat_natCast, List.map_replicate, rep_flat]
  refine ⟨.ref ba, rfl, ba, rfl, ⟨_, Evl.ex_t e1 hB⟩, fun D nD => ?_⟩
  refine lc_mapT (f := fun v => match v with | .int p => .int (tickAt ticks p.toNat) | v => v) (Evl.ex_t e1 hB) nD (fun _ => rfl) ?_ ?_ ?_
  · rw [List.length_map, nI, List.length_map]
    omega
  · intro i x H3 hx e3 Q2 hQ
    obtain ⟨p, hp, rfl⟩ := nI_get hx
    refine ⟨.ref ta, rfl, .int (p : Int), rfl, ta, _, (p : Int), _, rfl, rfl, Evl.ex_t (e1.trans e3) hT, at_tick (hlt p (List.mem_of_getElem? hp)), ?_⟩
    exact hQ H3 (Evl.Ex.refl _)
  · intro H' e' hD
    have hD2 : H' D = some (.lst ((br.map fun p => tickAt ticks p).map V.int)) := by
      rw [hD, nI, List.map_map, List.map_map, List.map_map]
      congr 2
    refine ⟨z2, D, _, _, rfl, rfl, e' _ _ hz2, hD2, ?_, fun l nl => ?_⟩
    · rw [List.length_map, List.length_map, List.length_replicate, List.length_map]
      exact sz_le (by omega)
    rw [← List.map_append]
    refine ⟨l, _, rfl, lstOf upd_same, ?_, fun ns' p hperm hsort np => ?_⟩
    · rw [List.length_append, List.length_replicate, List.length_map]
      exact hfew
    rw [srt_uniq hperm hsort]
    exact q p _ (e1.trans (e'.trans ((Evl.Ex.new nl).trans (Evl.Ex.new np)))) upd_same
def leaveB (ticks : List Int) (riders : List Nat) (bs : List Int) : List Int := setF ticks (((queueM ticks riders).zip bs).map fun z => (z.1.2.toNat, mx z.1.1 z.2))
def spLeave (K : PySem.W.Frag) : Sp := fun vs H Q _ => ∃ (ta ra ba : Addr) (ticks : List Int) (rd : List Nat) (bs : List Int), vs = [.ref ta, .ref ra, .ref ba] ∧ SqT K H ta (ticks.map V.int) ∧ SqT K H ra ((nI rd).map V.int) ∧ SqL K H ba (bs.map V.int) ∧
  (∀ p ∈ rd, p < ticks.length) ∧ rd.length ≤ bs.length ∧ bs.length ≤ 1000 ∧ ∀ p H', Evl.Ex H H' → H' p = some (.lst ((leaveB ticks rd bs).map V.int)) → Q (.ref p) H'
theorem ok_leaving_ticks (T : Tx K mg) : FnOk P w K mg base CX0 1 T.f_leaving_ticks T.fd_leaving_ticks ["ticks", "riders", "bikes"] (spLeave K) := by
  refine T.F_leaving_ticks.ok sc_leaving_ticks (fun vs H Q E h => ?_) (fun cdv A outer s H vs Q E hr h => ?_)
  · obtain ⟨ta, ra, ba, ticks, rd, bs, rfl, _⟩ := h
    rfl
  obtain ⟨ta, ra, ba, ticks, rd, bs, rfl, hT, hR, hB, hlt, hlen, hb1, q⟩ := h
  refine ⟨_, (pss_cons (ps_set (i := 3) sc_leaving_ticks.nd rfl (.inl rfl) (pe_callTy (show CallR _ (.type "list") (Evl.rListS K) from call_list_of) (by rfl) T.z_list (by decide +kernel) (pa_cons (pv 0) pa_nil)))
 (pss_cons (ps_set (i := 4) sc_leaving_ticks.nd rfl (.inl rfl) (pe_callB (show CallR _ (.builtin "sorted") (rSortedPO K) from cr_sortedPO) (by rfl) T.z_sorted (by decide +kernel) (pa_cons (pe_lc (own := [("person", 6)]) (g := gName 6) (tt := tYes) (by rfl) sc_leaving_ticks.nd (pi_tup (pv 1)) (blkOk_by (own := [("person", 6)]) (N := N_leaving_ticks) (sc := defScope s_leaving_ticks) (by decide +kernel)) (fun _ _ _ _ _ => (pg_name (i := 6) sc_leaving_ticks.nd rfl (.inl rfl))) (fun _ _ _ _ _ => pts_nil) (fun _ _ _ _ _ => (pe_tup (pa_cons (pe_ix (show IxR _ (rIxT K) from ix_tup) (pv 0) (pv 6) (fun _ _ => rfl)) (pa_cons (pv 6) pa_nil))))) pa_nil)))
 (pss_cons (ps_for PassesOwn.never rfl (RZ.pi_zipA (by rfl) T.z_zip (pa_cons (pv 4) (pa_cons (pv 2) pa_nil))) (pg_tup rfl (pgs_cons (pg_tup rfl (pgs_cons (pg_name (i := 5) sc_leaving_ticks.nd rfl (.inl rfl)) (pgs_cons (pg_name (i := 6) sc_leaving_ticks.nd rfl (.inl rfl)) pgs_nil))) (pgs_cons (pg_name (i := 7) sc_leaving_ticks.nd rfl (.inl rfl)) pgs_nil)))
 (pss_one (ps_asg (pe_callB (call_max2 rfl) (by rfl) T.z_max (by decide +kernel) (pa_cons (pv 5) (pa_cons (pv 7) pa_nil))) (pg_sub (pv 3) (pv 6) set_list))))
 (pss_one (ps_ret (pv 3)))))), ?_⟩
  -- leaving = list(ticks)
  refine ⟨.ref ta, rfl, ta, _, rfl, .inr hT, fun lv nlv => ?_⟩
  have e1 := Evl.Ex.new (o := .lst (ticks.map V.int)) nlv
  -- the queue
  refine ⟨.ref ra, rfl, ra, rfl, ⟨_, Evl.ex_t e1 hR⟩, fun D nD => ?_⟩
  refine lc_prsT (f := fun v => match v with | .int p => (tickAt ticks p.toNat, p) | _ => (0, 0)) (Evl.ex_t e1 hR) nD (fun _ => rfl) ?_ ?_ ?_
  · rw [List.length_map, nI, List.length_map]
    omega
  · intro i x H3 hx e3 Q2 hQ
    obtain ⟨p, hp, rfl⟩ := nI_get hx
    refine ⟨.ref ta, rfl, .int (p : Int), rfl, ta, _, (p : Int), _, rfl, rfl, Evl.ex_t (e1.trans e3) hT, at_tick (hlt p (List.mem_of_getElem? hp)), .int (p : Int), rfl, by show 2 ≤ sizeLine; decide, fun t nt => ?_⟩
    exact hQ t _ (Evl.Ex.new nt) upd_same
  intro ys H3 e3 hD hP
  have hps : ((nI rd).map V.int).map (fun v => match v with | .int p => (tickAt ticks p.toNat, p) | _ => (0, 0)) = rd.map fun p => (tickAt ticks p, (p : Int)) := by
    rw [nI, List.map_map, List.map_map]
    rfl
  rw [hps] at hP
  dsimp only [tNil]
  refine sorted_prs (lstOf hD) hP fun zs qa hZ nq => ?_
  have e4 := e1.trans (e3.trans (Evl.Ex.new (o := .lst zs) nq))
  have hlv4 : (upd H3 qa (.lst zs)) lv = some (.lst (ticks.map V.int)) := Evl.Ex.new nq _ _ (e3 _ _ upd_same)
  have hZ4 : Prs (upd H3 qa (.lst zs)) zs (queueM ticks rd) := hZ.keep fun a ys z => Evl.Ex.new nq _ _ z
  have hq4 : (upd H3 qa (.lst zs)) qa = some (.lst zs) := upd_same
  have qlv : qa ≠ lv := (ne_of_none (e3 _ _ upd_same) nq).symm
  have blv : ba ≠ lv ∨ H ba = none := by
    cases hb : H ba with
    | none => exact .inr rfl
    | some o => exact .inl (ne_of_none hb nlv)
  -- the loop
  refine ⟨.ref qa, rfl, .ref ba, rfl, qa, ba, zs, bs.map V.int, rfl, .inl ⟨lstOf hq4, Evl.ex_l e4 hB, ?_⟩⟩
  have ql : (queueM ticks rd).length = rd.length := queueM_len
  refine for_zipLm (xs := zs) (ys := bs.map V.int) rd.length (by rw [hZ4.1, ql, List.length_map]; omega) (fun i σ' H' => ∃ (y5 y6 y7 : Option V), σ' = [some (.ref ta), some (.ref ra), some (.ref ba), some (.ref lv), some (.ref qa), y5, y6, y7] ∧
    H' lv = some (.lst ((setF ticks ((((queueM ticks rd).zip bs).take i).map fun z => (z.1.2.toNat, mx z.1.1 z.2))).map V.int)) ∧ H' qa = some (.lst zs) ∧ Prs H' zs (queueM ticks rd) ∧ Evl.Ex H H') ?_ ?_ ?_ ?_
  · exact ⟨none, none, none, rfl, hlv4, hq4, hZ4, e4⟩
  · rintro i σ' H' ⟨y5, y6, y7, rfl, h1, h2, h3, h4⟩
    exact ⟨lstOf h2, Evl.ex_l h4 hB⟩
  · rintro i x y t σ' H' hx hy ⟨y5, y6, y7, rfl, h1, h2, h3, h4⟩ nt
    have il : i < (queueM ticks rd).length := by
      rw [← h3.1]
      exact (List.getElem?_eq_some_iff.mp hx).1
    obtain ⟨⟨tk, pn⟩, hpn⟩ : ∃ z, (queueM ticks rd)[i]? = some z := ⟨_, List.getElem?_eq_getElem il⟩
    obtain ⟨t2, g1, g2⟩ := h3.2 i _ hpn
    rw [hx] at g1
    cases g1
    rw [List.getElem?_map] at hy
    obtain ⟨b, hb, rfl⟩ := Option.map_eq_some_iff.mp hy
    -- the person is one of the riders
    have hpm : ∃ p ∈ rd, (tk, pn) = (tickAt ticks p, (p : Int)) := by
      have := (srtP_perm _).mem_iff.mp (List.mem_of_getElem? hpn)
      obtain ⟨p, hp, e⟩ := List.mem_map.mp this
      exact ⟨p, hp, e.symm⟩
    obtain ⟨p, hp, e⟩ := hpm
    cases e
    have e5 := Evl.Ex.new (o := .tup [.ref t2, .int b]) nt
    refine ⟨t, _, rfl, tupOf upd_same, rfl, .ref t2, [.int b], rfl, t2, _, rfl, tupOf (e5 _ _ g2), rfl, .int (tickAt ticks p), [.int (p : Int)], rfl, .int (p : Int), [], rfl, rfl, .int b, [], rfl, rfl, ?_⟩
    refine ⟨_, rfl, _, rfl, tickAt ticks p, b, rfl, ?_⟩
    refine ⟨.ref lv, rfl, .int (p : Int), rfl, lv, _, (p : Int), p, rfl, rfl, e5 _ _ h1, Evl.ixN_nat (by rw [List.length_map, setF_len]; exact hlt p hp), ?_⟩
    refine ⟨_, _, _, rfl, ?_, ?_, ?_, ?_⟩
    · rw [upd_same, ← List.map_set, List.take_add_one]
      have hz : ((queueM ticks rd).zip bs)[i]? = some ((tickAt ticks p, (p : Int)), b) := by
        rw [List.getElem?_zip_eq_some]
        exact ⟨hpn, hb⟩
      rw [hz]
      show some (HO.lst _) = some (HO.lst ((setF ticks (List.map _ (_ ++ [_]))).map V.int))
      rw [List.map_append]
      show some (HO.lst _) = some (HO.lst ((setF ticks (_ ++ [_])).map V.int))
      rw [setF_snoc]
      rfl
    · rw [upd_ne qlv]
      exact e5 _ _ h2
    · exact (h3.keep fun a ys z => e5 _ _ z).keep (tup_upd (e5 _ _ h1))
    · exact Evl.Ex.mut (h4.trans e5) nlv
  · rintro σ' H' ⟨y5, y6, y7, rfl, h1, h2, h3, h4⟩
    refine ⟨.ref lv, rfl, q lv _ h4 ?_⟩
    rw [h1, List.take_of_length_le (by rw [List.length_zip, ql]; omega)]
    rfl
end

end Rb
namespace Rb
open PySem PySem.Spec PyProof.Rows L2
section
variable {P : Program} {w : World} {K : PySem.W.Frag} {mg : Str → Option Value} {base : Heap}
/-- a plan as it stands in the heap -/
def Plan (K : PySem.W.Frag) (H : Hp) (v : V) (plan : List (List Nat)) : Prop := ∃ a xs, v = .ref a ∧ SqT K H a xs ∧ Rws K H xs (plan.map nI)
theorem Plan.ex {H H' : Hp} {v : V} {plan : List (List Nat)} (h : Plan K H v plan) (e : Evl.Ex H H') : Plan K H' v plan := by
  obtain ⟨a, xs, rfl, h1, h2⟩ := h
  exact ⟨a, xs, rfl, Evl.ex_t e h1, h2.ex e⟩
theorem Plan.kp {d c : Addr} {N : Int} {H H' : Hp} {v : V} {plan : List (List Nat)} (h : Plan K H v plan) (k : Kp d c H H') (dk : Dk H d c N) : Plan K H' v plan := by
  obtain ⟨a, xs, rfl, h1, h2⟩ := h
  exact ⟨a, xs, rfl, k.sqT dk h1, h2.kp k dk⟩
/-- ints in a tuple -/
def Ints (K : PySem.W.Frag) (H : Hp) (v : V) (ns : List Int) : Prop := ∃ a, v = .ref a ∧ SqT K H a (ns.map V.int)
theorem Ints.ex {H H' : Hp} {v : V} {ns : List Int} (h : Ints K H v ns) (e : Evl.Ex H H') : Ints K H' v ns := by
  obtain ⟨a, rfl, h1⟩ := h
  exact ⟨a, rfl, Evl.ex_t e h1⟩
theorem Ints.kp {d c : Addr} {N : Int} {H H' : Hp} {v : V} {ns : List Int} (h : Ints K H v ns) (k : Kp d c H H') (dk : Dk H d c N) : Ints K H' v ns := by
  obtain ⟨a, rfl, h1⟩ := h
  exact ⟨a, rfl, k.sqT dk h1⟩
theorem getD_some {α : Type} {l : List α} {i : Nat} {x d : α} (h : l[i]? = some x) : l.getD i d = x := by
  rw [List.getD_eq_getElem?_getD, h]
  rfl
theorem PlanOk.at {bikes : List Int} {n i : Nat} {plan : List (List Nat)} {r : List Nat} (h : PlanOk bikes n plan) (hr : plan[i]? = some r) : r.Nodup ∧ (∀ p ∈ r, p < n) ∧ r.length ≤ (bikes.getD i 0).toNat + (brM plan i).length ∧ ∀ p ∈ brM plan i, p < n := by
  have hm := List.mem_of_getElem? hr
  refine ⟨(h.asc r hm).imp (fun h => Nat.ne_of_lt h), h.lt r hm, ?_, ?_⟩
  · have := h.few i
    rw [getD_some hr] at this
    unfold brM
    split
    · rename_i e
      rw [if_pos e] at this
      exact this
    · rename_i e
      rw [if_neg e] at this
      exact this
  · intro p hp
    unfold brM at hp
    split at hp
    · cases hp
    · rename_i e
      cases e2 : plan[i - 1]? with
      | none =>
        rw [List.getD_eq_getElem?_getD, e2] at hp
        cases hp
      | some r2 =>
        rw [getD_some e2] at hp
        exact h.lt r2 (List.mem_of_getElem? e2) p hp
theorem rowsM_succ {walk ride : Int} {bikes starts : List Int} {plan : List (List Nat)} {m : Nat} : rowsM walk ride bikes starts plan (m + 1) = rowsM walk ride bikes starts plan m ++ [tkM walk ride bikes starts plan (m + 1)] := by
  unfold rowsM
  rw [List.range_succ, List.map_append]
  rfl
theorem rowsM_at {walk ride : Int} {bikes starts : List Int} {plan : List (List Nat)} {m i : Nat} (h : i ≤ m) : (rowsM walk ride bikes starts plan m)[i]? = some (tkM walk ride bikes starts plan i) := by
  unfold rowsM
  rw [List.getElem?_map, List.getElem?_range (by omega)]
  rfl
theorem rowsM_len {walk ride : Int} {bikes starts : List Int} {plan : List (List Nat)} {m : Nat} : (rowsM walk ride bikes starts plan m).length = m + 1 := by
  unfold rowsM
  rw [List.length_map, List.length_range]
def spTicks (K : PySem.W.Frag) : Sp := fun vs H Q _ => ∃ (rv sv pv : V) (wk rd : Int) (bs starts : List Int) (plan : List (List Nat)), vs = [rv, sv, pv] ∧ Road K H rv wk rd bs ∧ Ints K H sv starts ∧ Plan K H pv plan ∧
  PlanOk bs starts.length plan ∧ bs.length ≤ 100 ∧ (∀ b ∈ bs, b ≤ 12) ∧ starts.length ≤ 40 ∧
  ∀ p xs H', Evl.Ex H H' → SqT K H' p xs → Rws K H' xs (rowsM wk rd bs starts plan bs.length) → Q (.ref p) H'
theorem ok_ticks_of (T : Tx K mg) : FnOk P w K mg base CX0 2 T.f_ticks_of T.fd_ticks_of ["road", "starts", "plan"] (spTicks K) := by
  have G_bike_ticks := ok_bike_ticks (P := P) (w := w) (base := base) T
  have G_leaving_ticks := ok_leaving_ticks (P := P) (w := w) (base := base) T
  refine T.F_ticks_of.ok sc_ticks_of (fun vs H Q E h => ?_) (fun cdv A outer s H vs Q E hr h => ?_)
  · obtain ⟨rv, sv, pv, wk, rd, bs, starts, plan, rfl, _⟩ := h
    rfl
  obtain ⟨rv, sv, pv, wk, rd, bs, starts, plan, rfl, ⟨ra, bb, rfl, hA, hB⟩, ⟨sa, rfl, hS⟩, ⟨pa, pxs, rfl, hP, hPR⟩, ok, hbl, hb12, hsl, q⟩ := h
  refine ⟨_, (pss_cons (ps_asg (pv 0) (pg_tup rfl (pgs_cons (pg_name (i := 3) sc_ticks_of.nd rfl (.inr rfl)) (pgs_cons (pg_name (i := 4) sc_ticks_of.nd rfl (.inr rfl)) (pgs_cons (pg_name (i := 5) sc_ticks_of.nd rfl (.inl rfl)) pgs_nil)))))
 (pss_cons (ps_set (i := 6) sc_ticks_of.nd rfl (.inl rfl) (pe_lst (pa_cons (pv 1) pa_nil)))
 (pss_cons (ps_set (i := 7) sc_ticks_of.nd rfl (.inl rfl) (pe_tup pa_nil))
 (pss_cons (ps_for PassesOwn.never rfl (RZ.pi_zipA (by rfl) T.z_zip (pa_cons (pv 2) (pa_cons (pv 5) pa_nil))) (pg_tup rfl (pgs_cons (pg_name (i := 8) sc_ticks_of.nd rfl (.inr rfl)) (pgs_cons (pg_name (i := 9) sc_ticks_of.nd rfl (.inl rfl)) pgs_nil)))
 (pss_cons (ps_set (i := 10) sc_ticks_of.nd rfl (.inl rfl) (pe_ix (show IxR _ (rIxL K) from ix_list) (pv 6) (pe_un un_neg pe_int) (fun _ _ => rfl)))
 (pss_cons (ps_set (i := 11) sc_ticks_of.nd rfl (.inl rfl) (pe_call G_leaving_ticks hr (by rfl) T.g_leaving_ticks T.F_leaving_ticks.kp T.b_leaving_ticks .nil pass0 (pa_cons (pv 10) (pa_cons (pv 8) (pa_cons (pe_call G_bike_ticks hr (by rfl) T.g_bike_ticks T.F_bike_ticks.kp T.b_bike_ticks .nil pass0 (pa_cons (pv 10) (pa_cons (pv 7) (pa_cons (pv 9) pa_nil)))) pa_nil)))))
 (pss_cons (ps_expr (show PE _ _ (tBM K "list" _ _ _) from pe_bm PySem.F.plainAttrs_list PySem.F.slot_list_append PySem.F.type_list_append mt_append (pv 6) (pa_cons (pe_callTy (show CallR _ (.type "tuple") (rTupS K) from call_tuple_of) (by rfl) T.z_tuple (by decide +kernel) (pa_cons (pe_lc (own := [("person", 12), ("tick", 13)]) (g := gTup K 2 (gCons (gName 12) (gCons (gName 13) (gNil)))) (tt := tYes) (by rfl) sc_ticks_of.nd (pi_enum (by rfl) T.z_enumerate (pa_cons (pv 11) pa_nil)) (blkOk_by (own := [("person", 12), ("tick", 13)]) (N := N_ticks_of) (sc := defScope s_ticks_of) (by decide +kernel)) (fun _ _ _ _ _ => (pg_tup rfl (pgs_cons (pg_name (i := 12) sc_ticks_of.nd rfl (.inl rfl)) (pgs_cons (pg_name (i := 13) sc_ticks_of.nd rfl (.inl rfl)) pgs_nil)))) (fun _ _ _ _ _ => pts_nil) (fun _ _ _ _ _ => (pe_op op_add (pv 13) (pe_ifExp (pt_cmpR (show OpR _ (compareOp .In) (rIn K false) from op_in_seq) (pv 12) (pv 8) (by rfl)) (pv 4) (pv 3))))) pa_nil)) pa_nil)))
 (pss_one (ps_set (i := 7) sc_ticks_of.nd rfl (.inl rfl) (pv 8)))))))
 (pss_one (ps_ret (pe_callTy (show CallR _ (.type "tuple") (rTupS K) from call_tuple_of) (by rfl) T.z_tuple (by decide +kernel) (pa_cons (pv 6) pa_nil)))))))), ?_⟩
  -- walk, ride, bikes = road
  refine ⟨.ref ra, rfl, ra, _, rfl, hA, rfl, .int wk, _, rfl, .int rd, _, rfl, .ref bb, _, rfl, rfl, ?_⟩
  -- rows = [starts]; brought = ()
  refine ⟨.ref sa, rfl, by show 1 ≤ sizeLine; decide, fun rl nrl => ?_⟩
  refine ⟨by show 0 ≤ sizeLine; decide, fun bt0 nbt0 => ?_⟩
  have e1 := (Evl.Ex.new (o := .lst [.ref sa]) nrl).trans (Evl.Ex.new (o := .tup []) nbt0)
  have hrl : (upd (upd H rl (.lst [.ref sa])) bt0 (.tup [])) rl = some (.lst [.ref sa]) := Evl.Ex.new nbt0 _ _ upd_same
  have hR0 : Rws K (upd (upd H rl (.lst [.ref sa])) bt0 (.tup [])) [.ref sa] (rowsM wk rd bs starts plan 0) := by
    refine ⟨rfl, fun i r hr => ?_⟩
    cases i with
    | zero =>
      cases hr
      exact ⟨sa, rfl, Evl.ex_t e1 hS⟩
    | succ i => simp [rowsM] at hr
  -- the loop
  refine ⟨.ref pa, rfl, .ref bb, rfl, pa, bb, pxs, bs.map V.int, rfl, .inr ⟨Evl.ex_t e1 hP, Evl.ex_t e1 hB, ?_⟩⟩
  have plen : pxs.length = (bs.map V.int).length := by
    rw [hPR.1, List.length_map, List.length_map, ok.len]
  refine RZ.for_zipT plen (fun i σ' H' => ∃ (xs : List V) (bt : Addr) (y8 y9 y10 y11 y12 y13 : Option V), σ' = [some (.ref ra), some (.ref sa), some (.ref pa), some (.int wk), some (.int rd), some (.ref bb), some (.ref rl), some (.ref bt), y8, y9, y10, y11, y12, y13] ∧
    H' rl = some (.lst xs) ∧ Rws K H' xs (rowsM wk rd bs starts plan i) ∧ SqT K H' bt ((nI (brM plan i)).map V.int) ∧ Evl.Ex H H') ?_ ?_ ?_ ?_
  · exact ⟨_, bt0, none, none, none, none, none, none, rfl, hrl, hR0, tupOf upd_same, e1⟩
  · rintro i σ' H' ⟨xs, bt, y8, y9, y10, y11, y12, y13, rfl, h1, h2, h3, h4⟩
    exact ⟨Evl.ex_t h4 hP, Evl.ex_t h4 hB⟩
  · rintro i x y t σ' H' hx hy ⟨xs, bt, y8, y9, y10, y11, y12, y13, rfl, h1, h2, h3, h4⟩ nt
    -- the stage's riders and bicycles
    have il : i < plan.length := by
      have := (List.getElem?_eq_some_iff.mp hx).1
      rw [hPR.1, List.length_map] at this
      exact this
    obtain ⟨r, hr⟩ : ∃ r, plan[i]? = some r := ⟨_, List.getElem?_eq_getElem il⟩
    obtain ⟨rt, g1, g2⟩ := hPR.2 i (nI r) (by rw [List.getElem?_map, hr]; rfl)
    rw [hx] at g1
    cases g1
    rw [List.getElem?_map] at hy
    obtain ⟨b, hb, rfl⟩ := Option.map_eq_some_iff.mp hy
    obtain ⟨rnd, rlt, rfew, brlt⟩ := ok.at hr
    have hb0 := ok.nn b (List.mem_of_getElem? hb)
    have hb1 := hb12 b (List.mem_of_getElem? hb)
    obtain ⟨st, hst⟩ : ∃ st : Nat, b = (st : Int) := ⟨b.toNat, by omega⟩
    subst hst
    have hbd : (bs.getD i 0).toNat = st := by
      rw [getD_some hb]
      exact Int.toNat_natCast st
    rw [hbd] at rfew
    have tl := tkM_len (walk := wk) (ride := rd) (bikes := bs) (starts := starts) (plan := plan) i
    have e5 := Evl.Ex.new (o := .tup [.ref rt, .int (st : Int)]) nt
    refine ⟨t, _, rfl, tupOf upd_same, rfl, .ref rt, [.int (st : Int)], rfl, .int (st : Int), [], rfl, rfl, ?_⟩
    -- ticks = rows[-1]
    obtain ⟨tt, k1, k2⟩ := h2.2 i _ (rowsM_at (Nat.le_refl i))
    refine ⟨.ref rl, rfl, 1, rfl, rl, xs, -1, _, rfl, rfl, lstOf (e5 _ _ h1), at_last (by rw [h2.1, rowsM_len]) k1, ?_⟩
    -- leaving
    have brl : (brM plan i).length ≤ 40 := by
      have h1 : ∀ p ∈ brM plan i, p < 40 := fun p hp => by have := brlt p hp; omega
      have h2 : (brM plan i).Nodup := by
        unfold brM
        split
        · exact List.nodup_nil
        · cases e2 : plan[i - 1]? with
          | none => rw [List.getD_eq_getElem?_getD, e2]; exact List.nodup_nil
          | some r2 => rw [getD_some e2]; exact (ok.at e2).1
      exact nodup_le h2 h1
    refine ⟨.ref tt, rfl, .ref rt, rfl, .ref tt, rfl, .ref bt, rfl, .int (st : Int), rfl, tt, bt, _, brM plan i, st, rfl, Evl.ex_t e5 k2, Evl.ex_t e5 h3, fun p hp => by rw [tl]; exact brlt p hp, by omega, fun bl H6 e6 hbl6 => ?_⟩
    refine ⟨tt, rt, bl, _, r, _, rfl, Evl.ex_t (e5.trans e6) k2, Evl.ex_t (h4.trans (e5.trans e6)) g2, lstOf hbl6, fun p hp => by rw [tl]; exact rlt p hp, by rw [bikesM_len]; exact rfew, by rw [bikesM_len]; omega, fun lv H7 e7 hlv7 => ?_⟩
    have e57 := e5.trans (e6.trans e7)
    have hrl7 := e57 _ _ h1
    -- rows.append(tuple([..]))
    refine ⟨.ref rl, rfl, .inl ⟨rfl, _, lstOf hrl7⟩, ?_⟩
    refine ⟨.ref lv, rfl, lv, _, rfl, lstOf hlv7, fun D nD => ?_⟩
    refine lc_enumMap (j := 12) (l := 13) (fun p x => match x with | .int t => .int (t + if p ∈ r then rd else wk) | x => x) (lstOf hlv7) nD (fun _ _ => rfl) ?_ ?_ ?_
    · rw [List.length_map, leaveB, setF_len, tl]
      omega
    · intro p x H8 hx8 e8 Q2 hQ
      rw [List.getElem?_map] at hx8
      obtain ⟨t8, _, rfl⟩ := Option.map_eq_some_iff.mp hx8
      refine ⟨.int t8, rfl, .int (p : Int), rfl, .ref rt, rfl, rt, _, rfl, .inr (Evl.ex_t (h4.trans (e57.trans e8)) g2), rfl, flat_ints _, _, rfl, ?_⟩
      rw [if_neg Bool.false_ne_true, inV_nI]
      by_cases hp : p ∈ r
      · rw [decide_eq_true hp]
        refine iteT ⟨.int rd, rfl, t8, rd, rfl, rfl, ?_⟩
        have := hQ H8 (Evl.Ex.refl _)
        simp only [hp, if_true] at this
        exact this
      · rw [decide_eq_false hp]
        refine iteF ⟨.int wk, rfl, t8, wk, rfl, rfl, ?_⟩
        have := hQ H8 (Evl.Ex.refl _)
        simp only [hp, if_false] at this
        exact this
    intro H8 e8 hD8
    have hD9 : H8 D = some (.lst ((tkM wk rd bs starts plan (i + 1)).map V.int)) := by
      rw [hD8]
      congr 2
      show _ = (rowM _ _ _ _ _ _).map V.int
      rw [getD_some hr, hbd]
      unfold rowM leaveM pairsM
      apply List.ext_getElem?
      intro p
      rw [List.getElem?_mapIdx, List.getElem?_map, List.getElem?_map, List.getElem?_mapIdx]
      unfold leaveB
      cases (setF (tkM wk rd bs starts plan i) (List.map (fun z => (z.1.2.toNat, mx z.1.1 z.2)) ((queueM (tkM wk rd bs starts plan i) r).zip (bikesM (tkM wk rd bs starts plan i) (brM plan i) st))))[p]? with
      | none => rfl
      | some z => rfl
    refine ⟨D, _, rfl, .inl ⟨lstOf hD9, fun tp ntp => ?_⟩⟩
    have e9 := e8.trans (Evl.Ex.new (o := .tup ((tkM wk rd bs starts plan (i + 1)).map V.int)) ntp)
    refine ⟨rl, xs, .ref tp, rfl, rfl, e9 _ _ hrl7, ?_, ?_⟩
    · rw [h2.1, rowsM_len]
      have := ok.len
      exact sz_lt (by omega)
    -- brought = riders
    have R9 := ((h2.ex (e57.trans e9)).snoc (t := tp) (r := tkM wk rd bs starts plan (i + 1)) (tupOf upd_same)).upd (D := rl) (zs := xs ++ [.ref tp]) (e9 _ _ hrl7)
    rw [← rowsM_succ] at R9
    refine ⟨.ref rt, rfl, ?_⟩
    refine ⟨xs ++ [.ref tp], rt, _, _, _, _, _, _, rfl, upd_same, R9, ?_, Evl.Ex.mut (h4.trans (e57.trans e9)) nrl⟩
    have eb : brM plan (i + 1) = r := by
      unfold brM
      rw [if_neg (by omega)]
      exact getD_some hr
    rw [eb]
    exact sqT_upd (e9 _ _ hrl7) (Evl.ex_t (h4.trans (e57.trans e9)) g2)
  · rintro σ' H' ⟨xs, bt, y8, y9, y10, y11, y12, y13, rfl, h1, h2, h3, h4⟩
    have h2' : Rws K H' xs (rowsM wk rd bs starts plan bs.length) := by
      rw [hPR.1, List.length_map, ok.len] at h2
      exact h2
    refine ⟨.ref rl, rfl, rl, xs, rfl, .inl ⟨lstOf h1, fun p np => ?_⟩⟩
    exact q p xs _ (h4.trans (Evl.Ex.new np)) (tupOf upd_same) (h2'.ex (Evl.Ex.new np))
end

end Rb
namespace Rb
open PySem PySem.Spec PyProof.Rows L2
section
variable {P : Program} {w : World} {K : PySem.W.Frag} {mg : Str → Option Value} {base : Heap}
def spStarts (K : PySem.W.Frag) : Sp := fun vs H Q _ => ∃ (d c : Addr) (N pe la : Int), vs = [.ref d, .int pe, .int la] ∧ Dk H d c N ∧ N ≤ 900000000 ∧ 1 ≤ pe ∧ pe ≤ 10 ∧ 0 ≤ la ∧ la ≤ 1000000 ∧
  ∀ v starts H', Ints K H' v starts → 1 ≤ starts.length → (starts.length : Int) ≤ pe → (∀ x ∈ starts, 0 ≤ x ∧ x ≤ 1000000) → Dk H' d c (N + 20) → Kp d c H H' → Q v H'
theorem ok__law_starts (T : Tx K mg) : FnOk P w K mg base CX0 2 T.f__law_starts T.fd__law_starts ["_law_deck_here", "_law_people", "_law_late"] (spStarts K) := by
  have G__law_draw := ok__law_draw (P := P) (w := w) (base := base) T
  refine T.F__law_starts.ok sc__law_starts (fun vs H Q E h => ?_) (fun cdv A outer s H vs Q E hr h => ?_)
  · obtain ⟨d, c, N, pe, la, rfl, _⟩ := h
    rfl
  obtain ⟨d, c, N, pe, la, rfl, dk, hN, pe1, pe2, la1, la2, q⟩ := h
  refine ⟨_, (pss_cons (ps_set (i := 3) sc__law_starts.nd rfl (.inl rfl) (pe_ix (show IxR _ (rIxL K) from ix_list) (pe_lst (pa_cons (pe_op op_add pe_int (pe_call G__law_draw hr (by rfl) T.g__law_draw T.F__law_draw.kp T.b__law_draw .nil pass0 (pa_cons (pv 0) (pa_cons (pv 1) pa_nil)))) (pa_cons (pv 1) pa_nil))) (pe_call G__law_draw hr (by rfl) T.g__law_draw T.F__law_draw.kp T.b__law_draw .nil pass0 (pa_cons (pv 0) (pa_cons pe_int pa_nil))) (fun _ _ => rfl)))
 (pss_cons (ps_set (i := 4) sc__law_starts.nd rfl (.inr rfl) (pe_ix (show IxR _ (rIxL K) from ix_list) (pe_lst (pa_cons pe_int (pa_cons pe_int (pa_cons (pe_op op_add (pv 2) pe_int) pa_nil)))) (pe_call G__law_draw hr (by rfl) T.g__law_draw T.F__law_draw.kp T.b__law_draw .nil pass0 (pa_cons (pv 0) (pa_cons pe_int pa_nil))) (fun _ _ => rfl)))
 (pss_one (ps_ret (pe_callTy (show CallR _ (.type "tuple") (rTupS K) from call_tuple_of) (by rfl) T.z_tuple (by decide +kernel) (pa_cons (pe_lc (own := [("_law_k", 5)]) (g := gName 5) (tt := tYes) (by rfl) sc__law_starts.nd (pi_range1 (by rfl) T.z_range (pa_cons (pv 3) pa_nil)) (blkOk_by (own := [("_law_k", 5)]) (N := N__law_starts) (sc := defScope s__law_starts) (by decide +kernel)) (fun _ _ _ _ _ => (pg_name (i := 5) sc__law_starts.nd rfl (.inl rfl))) (fun _ _ _ _ _ => pts_nil) (fun _ _ _ _ _ => (pe_call G__law_draw hr (by rfl) T.g__law_draw T.F__law_draw.kp T.b__law_draw .nil pass0 (pa_cons (pv 0) (pa_cons (pv 4) pa_nil))))) pa_nil)))))), ?_⟩
  -- count
  refine ⟨.ref d, rfl, .int pe, rfl, d, c, N, pe, rfl, dk, by omega, by omega, by omega, fun r1 H1 r1a r1b dk1 k1 => ?_⟩
  refine ⟨1, r1, rfl, rfl, .int pe, rfl, by show 2 ≤ sizeLine; decide, fun p1 np1 => ?_⟩
  refine ⟨.ref d, rfl, d, c, _, 2, rfl, dk1.new np1, by omega, by decide, by decide, fun r2 H2 r2a r2b dk2 k2 => ?_⟩
  obtain ⟨cnt, at2, cntc⟩ := pick2i (x := 1 + r1) (y := pe) r2a r2b
  refine ⟨p1, _, r2, _, rfl, rfl, lstOf (k2 p1 _ upd_same (dk1.ne1 np1) (dk1.ne2 np1)), at2, ?_⟩
  -- wide
  refine ⟨.int la, rfl, la, 1, rfl, rfl, by show 3 ≤ sizeLine; decide, fun p2 np2 => ?_⟩
  refine ⟨.ref d, rfl, d, c, _, 3, rfl, dk2.new np2, by omega, by decide, by decide, fun r3 H3 r3a r3b dk3 k3 => ?_⟩
  obtain ⟨wd, at3, wdc⟩ := pick3i (x := 1) (y := 9) (z := la + 1) r3a r3b
  refine ⟨p2, _, r3, _, rfl, rfl, lstOf (k3 p2 _ upd_same (dk2.ne1 np2) (dk2.ne2 np2)), at3, ?_⟩
  have K3 : Kp d c H H3 := k1.trans ((Kp.new np1).trans (k2.trans ((Kp.new np2).trans k3)))
  -- the starts
  refine ⟨.int cnt, rfl, cnt, rfl, by omega, by omega, fun D nD => ?_⟩
  have hD0 := K3.fresh dk3 nD
  refine lc_range (lo := 0) (n := cnt.toNat) (fun i H' => ∃ ns : List Int, H' D = some (.lst (ns.map V.int)) ∧ ns.length = i ∧ (∀ x ∈ ns, 0 ≤ x ∧ x ≤ 1000000) ∧ Dk H' d c (N + 3 + i) ∧ Kp d c H H') ?_ ?_ ?_
  · exact ⟨[], upd_same, rfl, (fun _ z => nomatch z), (dk3.new nD).le (by omega), K3.trans (Kp.new nD)⟩
  · rintro i H' hi ⟨ns, h1, h2, h3, h4, h5⟩
    refine ⟨rfl, ?_⟩
    refine ⟨.ref d, rfl, .int wd, rfl, d, c, _, wd, rfl, h4, by omega, by omega, by omega, fun r H7 ra rb dk7 k7 => ?_⟩
    have dD : D ≠ d := (dk3.ne1 nD)
    have cD : D ≠ c := (dk3.ne2 nD)
    refine ⟨_, k7 _ _ h1 dD cD, ?_, ns ++ [r], ?_, ?_, ?_, ?_, ?_⟩
    · rw [List.length_map, h2]
      exact sz_lt (by omega)
    · rw [upd_same, List.map_append]
      rfl
    · rw [List.length_append, h2]
      rfl
    · intro x hx
      rcases List.mem_append.mp hx with h | h
      · exact h3 x h
      · rw [List.mem_singleton.mp h]
        omega
    · obtain ⟨cs, n, g1, g2, g3⟩ := dk7.le (M := N + 3 + ((i + 1 : Nat) : Int)) (by omega)
      exact ⟨cs, n, by rw [upd_ne dD.symm]; exact g1, by rw [upd_ne cD.symm]; exact g2, g3⟩
    · exact (h5.trans k7).mut hD0
  · rintro H' ⟨ns, h1, h2, h3, h4, h5⟩
    refine ⟨D, _, rfl, .inl ⟨lstOf h1, fun t nt => ?_⟩⟩
    exact q (.ref t) ns _ ⟨t, rfl, tupOf upd_same⟩ (by omega) (by omega) h3 ((h4.new nt).le (by omega)) (h5.trans (Kp.new nt))
end

end Rb
namespace Rb
open PySem PySem.Spec PyProof.Rows L2
section
variable {P : Program} {w : World} {K : PySem.W.Frag} {mg : Str → Option Value} {base : Heap}
theorem nI_toNat (r : List Nat) : (nI r).map Int.toNat = r := by
  unfold nI
  rw [List.map_map]
  have : (Int.toNat ∘ fun p : Nat => (p : Int)) = id := funext fun p => Int.toNat_natCast p
  rw [this, List.map_id]
theorem nI_perm {ns : List Int} {acc : List Nat} (h : ns.Perm (nI acc)) : ∃ r : List Nat, ns = nI r ∧ r.Perm acc := by
  refine ⟨ns.map Int.toNat, ?_, ?_⟩
  · unfold nI
    rw [List.map_map]
    have : ∀ x ∈ ns, ((fun p : Nat => (p : Int)) ∘ Int.toNat) x = x := fun x hx => by
      obtain ⟨p, _, rfl⟩ := List.mem_map.mp (h.mem_iff.mp hx)
      simp
    rw [List.map_congr_left this, List.map_id']
  · have := h.map Int.toNat
    rw [nI_toNat] at this
    exact this
theorem nI_asc {r : List Nat} (h : (nI r).Pairwise (· ≤ ·)) (nd : r.Nodup) : r.Pairwise (· < ·) := by
  unfold nI at h
  have h1 := List.pairwise_map.mp h
  have h2 := List.nodup_iff_pairwise_ne.mp nd
  exact (h1.and h2).imp fun ⟨a, b⟩ => by omega
theorem nI_len (r : List Nat) : (nI r).length = r.length := by
  unfold nI
  rw [List.length_map]
theorem nI_snoc (r : List Nat) (p : Nat) : nI (r ++ [p]) = nI r ++ [(p : Int)] := by
  unfold nI
  rw [List.map_append]
  rfl
theorem nI_erase : ∀ (r : List Nat) (j : Nat), ((nI r).map V.int).eraseIdx j = (nI (r.eraseIdx j)).map V.int
  | [], _ => rfl
  | x :: r, 0 => rfl
  | x :: r, j + 1 => by
    show _ :: ((nI r).map V.int).eraseIdx j = _ :: (nI (r.eraseIdx j)).map V.int
    rw [nI_erase r j]
theorem erase_perm2 {lf acc : List Nat} {j y : Nat} (hj : lf[j]? = some y) : ((acc ++ [y]) ++ lf.eraseIdx j).Perm (acc ++ lf) := by
  have h : (y :: lf.eraseIdx j).Perm lf := erase_perm lf j y hj
  rw [List.append_assoc]
  exact List.Perm.append_left acc h
structure PlanPre (bikes : List Int) (n : Nat) (plan : List (List Nat)) : Prop where
  asc : ∀ r ∈ plan, r.Pairwise (· < ·)
  lt : ∀ r ∈ plan, ∀ p ∈ r, p < n
  few : ∀ i, i < plan.length → (plan.getD i []).length ≤ (bikes.getD i 0).toNat + (brM plan i).length
theorem PlanPre.snoc {bikes : List Int} {n : Nat} {plan : List (List Nat)} {r : List Nat} (h : PlanPre bikes n plan) (h1 : r.Pairwise (· < ·)) (h2 : ∀ p ∈ r, p < n) (h3 : r.length ≤ (bikes.getD plan.length 0).toNat + (brM plan plan.length).length) : PlanPre bikes n (plan ++ [r]) := by
  refine ⟨fun s hs => ?_, fun s hs => ?_, fun i hi => ?_⟩
  · rcases List.mem_append.mp hs with g | g
    · exact h.asc s g
    · rw [List.mem_singleton.mp g]
      exact h1
  · rcases List.mem_append.mp hs with g | g
    · exact h.lt s g
    · rw [List.mem_singleton.mp g]
      exact h2
  · rw [List.length_append] at hi
    have hi : i < plan.length + 1 := hi
    have eb : brM (plan ++ [r]) i = brM plan i := by
      unfold brM
      split
      · rfl
      · rw [List.getD_eq_getElem?_getD, List.getD_eq_getElem?_getD, List.getElem?_append_left (by omega)]
    rw [eb]
    by_cases c : i < plan.length
    · rw [List.getD_eq_getElem?_getD, List.getElem?_append_left c, ← List.getD_eq_getElem?_getD]
      exact h.few i c
    · have e : i = plan.length := by omega
      subst e
      rw [List.getD_eq_getElem?_getD, List.getElem?_append_right (Nat.le_refl _), Nat.sub_self]
      exact h3
theorem PlanPre.ok {bikes : List Int} {n : Nat} {plan : List (List Nat)} (h : PlanPre bikes n plan) (hl : plan.length = bikes.length) (nn : ∀ b ∈ bikes, 0 ≤ b) : PlanOk bikes n plan := by
  refine ⟨hl, nn, h.asc, h.lt, fun i => ?_⟩
  by_cases c : i < plan.length
  · have := h.few i c
    unfold brM at this
    split
    · rename_i e
      rw [if_pos e] at this
      exact this
    · rename_i e
      rw [if_neg e] at this
      exact this
  · rw [List.getD_eq_getElem?_getD, List.getElem?_eq_none (by omega)]
    exact Nat.zero_le _
def spPlan (K : PySem.W.Frag) : Sp := fun vs H Q _ => ∃ (d c : Addr) (N : Int) (rv : V) (wk rd : Int) (bs : List Int) (n : Nat), vs = [.ref d, rv, .int (n : Int)] ∧ Dk H d c N ∧ N ≤ 900000000 ∧ Road K H rv wk rd bs ∧ 1 ≤ n ∧ n ≤ 10 ∧ bs.length ≤ 12 ∧ (∀ b ∈ bs, 0 ≤ b ∧ b ≤ 12) ∧
  ∀ v plan H', Plan K H' v plan → PlanOk bs n plan → Dk H' d c (N + 200) → Kp d c H H' → Q v H'
theorem ok__law_plan (T : Tx K mg) : FnOk P w K mg base CX0 2 T.f__law_plan T.fd__law_plan ["_law_deck_here", "_law_road_here", "_law_people"] (spPlan K) := by
  have G__law_draw := ok__law_draw (P := P) (w := w) (base := base) T
  refine T.F__law_plan.ok sc__law_plan (fun vs H Q E h => ?_) (fun cdv A outer s H vs Q E hr h => ?_)
  · obtain ⟨d, c, N, rv, wk, rd, bs, n, rfl, _⟩ := h
    rfl
  obtain ⟨d, c, N, rv, wk, rd, bs, n, rfl, dk, hN, ⟨ra, rb, rfl, hA, hB⟩, n1, n2, hbl, hb, q⟩ := h
  refine ⟨_, (pss_cons (ps_asg (pe_tup (pa_cons (pe_tup pa_nil) (pa_cons pe_int pa_nil))) (pg_tup rfl (pgs_cons (pg_name (i := 3) sc__law_plan.nd rfl (.inl rfl)) (pgs_cons (pg_name (i := 4) sc__law_plan.nd rfl (.inl rfl)) pgs_nil))))
 (pss_cons (ps_for PassesOwn.never rfl (pi_tup (pe_ix (show IxR _ (rIxT K) from ix_tup) (pv 1) pe_int (fun _ _ => rfl))) (pg_name (i := 5) sc__law_plan.nd rfl (.inl rfl))
 (pss_cons (ps_asg (pe_tup (pa_cons (pe_listRg rfl (by rfl) T.z_list (prg_1 (by rfl) T.z_range (pv 2))) (pa_cons (pe_callB (call_min2 rfl) (by rfl) T.z_min (by decide +kernel) (pa_cons (pv 2) (pa_cons (pe_op op_add (pv 4) (pv 5)) pa_nil))) pa_nil))) (pg_tup rfl (pgs_cons (pg_name (i := 6) sc__law_plan.nd rfl (.inr rfl)) (pgs_cons (pg_name (i := 4) sc__law_plan.nd rfl (.inl rfl)) pgs_nil))))
 (pss_cons (ps_set (i := 7) sc__law_plan.nd rfl (.inl rfl) (pe_ix (show IxR _ (rIxL K) from ix_list) (pe_lst (pa_cons (pv 4) (pa_cons (pe_call G__law_draw hr (by rfl) T.g__law_draw T.F__law_draw.kp T.b__law_draw .nil pass0 (pa_cons (pv 0) (pa_cons (pe_op op_add (pv 4) pe_int) pa_nil))) pa_nil))) (pe_call G__law_draw hr (by rfl) T.g__law_draw T.F__law_draw.kp T.b__law_draw .nil pass0 (pa_cons (pv 0) (pa_cons pe_int pa_nil))) (fun _ _ => rfl)))
 (pss_cons (ps_set (i := 8) sc__law_plan.nd rfl (.inl rfl) (pe_callB (show CallR _ (.builtin "sorted") (rSorted K) from cr_sorted) (by rfl) T.z_sorted (by decide +kernel) (pa_cons (pe_lc (own := [("_law_k", 9)]) (g := gName 9) (tt := tYes) (by rfl) sc__law_plan.nd (pi_range1 (by rfl) T.z_range (pa_cons (pv 7) pa_nil)) (blkOk_by (own := [("_law_k", 9)]) (N := N__law_plan) (sc := defScope s__law_plan) (by decide +kernel)) (fun _ _ _ _ _ => (pg_name (i := 9) sc__law_plan.nd rfl (.inl rfl))) (fun _ _ _ _ _ => pts_nil) (fun _ _ _ _ _ => (show PE _ _ (tBM K "list" _ _ _) from pe_bm PySem.F.plainAttrs_list PySem.F.slot_list_pop PySem.F.type_list_pop mt_popAt (pv 6) (pa_cons (pe_call G__law_draw hr (by rfl) T.g__law_draw T.F__law_draw.kp T.b__law_draw .nil pass0 (pa_cons (pv 0) (pa_cons (pe_callB (show CallR _ (.builtin "len") (Evl.rLenS K) from call_len_seq) (by rfl) T.z_len PySem.boot_len (pa_cons (pv 6) pa_nil)) pa_nil))) pa_nil)))) pa_nil)))
 (pss_one (ps_par (i := 3) (j := 4) (by rfl) sc__law_plan.nd rfl rfl (by decide) rfl rfl (pa_cons (pe_op (show OpR _ (binaryOp .Add) (rCatA K) from op_catA) (pv 3) (pe_tup (pa_cons (pe_callTy (show CallR _ (.type "tuple") (rTupS K) from call_tuple_of) (by rfl) T.z_tuple (by decide +kernel) (pa_cons (pv 8) pa_nil)) pa_nil))) (pa_cons (pv 7) pa_nil)) (by rfl)))))))
 (pss_one (ps_ret (pv 3))))), ?_⟩
  refine ⟨by show 0 ≤ sizeLine; decide, fun t0 nt0 => ?_⟩
  refine ⟨by show 2 ≤ sizeLine; decide, fun t1 nt1 => ?_⟩
  refine ⟨t1, _, rfl, tupOf upd_same, rfl, .ref t0, [.int 0], rfl, .int 0, [], rfl, rfl, ?_⟩
  have e1 := (Evl.Ex.new (o := .tup []) nt0).trans (Evl.Ex.new (o := .tup [.ref t0, .int 0]) nt1)
  refine ⟨.ref ra, rfl, ra, _, 2, .ref rb, rfl, rfl, Evl.ex_t e1 hA, rfl, rb, rfl, ⟨_, Evl.ex_t e1 hB⟩, ?_⟩
  refine for_tup (xs := bs.map V.int) (fun i σ' H' => ∃ (ft : Addr) (xs : List V) (plan : List (List Nat)) (most : Nat) (y5 y6 y7 y8 y9 : Option V), σ' = [some (.ref d), some (.ref ra), some (.int (n : Int)), some (.ref ft), some (.int (most : Int)), y5, y6, y7, y8, y9] ∧
    SqT K H' ft xs ∧ Rws K H' xs (plan.map nI) ∧ plan.length = i ∧ PlanPre bs n plan ∧ most = (brM plan i).length ∧ most ≤ n ∧ Dk H' d c (N + 12 * i) ∧ Kp d c H H') ?_ ?_ ?_ ?_
  · refine ⟨t0, [], [], 0, none, none, none, none, none, rfl, tupOf (Evl.Ex.new nt1 _ _ upd_same), Rws.nil, rfl, ⟨(fun _ z => nomatch z), (fun _ z => nomatch z), fun i z => absurd z (Nat.not_lt_zero _)⟩, rfl, by omega, (dk.ex e1).le (by omega), Kp.ex e1⟩
  · rintro i σ' H' hi ⟨ft, xs, plan, most, y5, y6, y7, y8, y9, rfl, h1, h2, h3, h4, h5, h5b, h6, h7⟩
    exact h7.sqT dk hB
  · rintro i x σ' H' hx ⟨ft, xs, plan, most, y5, y6, y7, y8, y9, rfl, h1, h2, h3, h4, h5, h5b, h6, h7⟩
    rw [List.getElem?_map] at hx
    obtain ⟨num, hnum, rfl⟩ := Option.map_eq_some_iff.mp hx
    have hnb := hb num (List.mem_of_getElem? hnum)
    have il : i < bs.length := (List.getElem?_eq_some_iff.mp hnum).1
    -- left, most
    refine ⟨.int (n : Int), rfl, (n : Int), rfl, RgOk.of_le (by decide) (by omega) (by decide) (by omega), fun L nL => ?_⟩
    refine ⟨.int (n : Int), rfl, .int (most : Int), rfl, .int num, rfl, (most : Int), num, rfl, rfl, (n : Int), (most : Int) + num, rfl, by show 2 ≤ sizeLine; decide, fun t nt => ?_⟩
    refine ⟨t, _, rfl, tupOf upd_same, rfl, .ref L, _, rfl, _, [], rfl, rfl, ?_⟩
    have e2 := (Evl.Ex.new (o := .lst (rgV 0 (n : Int))) nL).trans (Evl.Ex.new (o := .tup [.ref L, .int (if (most : Int) + num < (n : Int) then (most : Int) + num else (n : Int))]) nt)
    have hL2 : (upd (upd H' L (.lst (rgV 0 (n : Int)))) t (.tup [.ref L, .int (if (most : Int) + num < (n : Int) then (most : Int) + num else (n : Int))])) L = some (.lst ((nI (List.range n)).map V.int)) := by
      refine Evl.Ex.new nt _ _ ?_
      rw [upd_same]
      unfold rgV nI
      rw [List.map_map, show ((n : Int) - 0).toNat = n by omega]
      congr 2
      apply List.map_congr_left
      intro k _
      show V.int (0 + (k : Int)) = V.int (k : Int)
      rw [Int.zero_add]
    obtain ⟨ms, hms⟩ : ∃ ms : Nat, (if (most : Int) + num < (n : Int) then (most : Int) + num else (n : Int)) = (ms : Int) := ⟨(if (most : Int) + num < (n : Int) then (most : Int) + num else (n : Int)).toNat, by split <;> omega⟩
    have ms1 : ms ≤ n ∧ (ms : Int) ≤ (most : Int) + num := by
      rw [← hms] <;> constructor <;> (split at hms <;> omega)
    have dk2 := h6.ex e2
    have k2 : Kp d c H (upd (upd H' L (.lst (rgV 0 (n : Int)))) t (.tup [.ref L, .int (if (most : Int) + num < (n : Int) then (most : Int) + num else (n : Int))])) := h7.trans (Kp.ex e2)
    have f2 := Evl.ex_t (K := K) e2 h1
    have r2 := h2.ex e2
    have hL0 : H L = none := h7.fresh h6 nL
    have Ld : L ≠ d := h6.ne1 nL
    have Lc : L ≠ c := h6.ne2 nL
    rw [hms] at dk2 k2 f2 r2 hL2
    rw [hms]
    generalize upd (upd H' L (.lst (rgV 0 (n : Int)))) t (.tup [.ref L, .int (ms : Int)]) = H2 at dk2 k2 f2 r2 hL2
    -- many
    refine ⟨.int (ms : Int), rfl, .ref d, rfl, .int (ms : Int), rfl, (ms : Int), 1, rfl, rfl, d, c, _, (ms : Int) + 1, rfl, dk2, by omega, by omega, by omega, fun r1 H3 r1a r1b dk3 k3 => ?_⟩
    refine ⟨by show 2 ≤ sizeLine; decide, fun p1 np1 => ?_⟩
    refine ⟨.ref d, rfl, d, c, _, 2, rfl, dk3.new np1, by omega, by decide, by decide, fun r4 H4 r4a r4b dk4 k4 => ?_⟩
    obtain ⟨mny, at4, mnyc⟩ := pick2i (x := (ms : Int)) (y := r1) r4a r4b
    refine ⟨p1, _, r4, _, rfl, rfl, lstOf (k4 p1 _ upd_same (dk3.ne1 np1) (dk3.ne2 np1)), at4, ?_⟩
    obtain ⟨my, rfl⟩ : ∃ my : Nat, mny = (my : Int) := ⟨mny.toNat, by omega⟩
    have my1 : my ≤ ms := by omega
    have k24 : Kp d c H2 H4 := k3.trans ((Kp.new np1).trans k4)
    have hL4 := k24 _ _ hL2 Ld Lc
    have f4 := k24.sqT dk2 f2
    have r4' := r2.kp k24 dk2
    have K4 := k2.trans k24
    -- riders
    refine ⟨.int (my : Int), rfl, (my : Int), rfl, by omega, by omega, fun D nD => ?_⟩
    rw [Int.toNat_natCast]
    have hD0 : H D = none := K4.fresh dk4 nD
    have Dd : D ≠ d := dk4.ne1 nD
    have Dc : D ≠ c := dk4.ne2 nD
    have DL : D ≠ L := (ne_of_none hL4 nD).symm
    refine lc_range (lo := 0) (n := my) (fun k H5 => ∃ acc lf : List Nat, H5 D = some (.lst ((nI acc).map V.int)) ∧ H5 L = some (.lst ((nI lf).map V.int)) ∧ (acc ++ lf).Perm (List.range n) ∧ acc.length = k ∧ SqT K H5 ft xs ∧ Rws K H5 xs (plan.map nI) ∧ Dk H5 d c (N + 12 * i + 2 + k) ∧ Kp d c H H5) ?_ ?_ ?_
    · exact ⟨[], List.range n, upd_same, Evl.Ex.new nD _ _ hL4, List.Perm.refl _, rfl, tupNew f4 nD, r4'.ex (Evl.Ex.new nD), (dk4.new nD).le (by omega), K4.trans (Kp.new nD)⟩
    · rintro k H5 hk ⟨acc, lf, g1, g2, g3, g4, g5, g6, g7, g8⟩
      have ll : acc.length + lf.length = n := by
        have := g3.length_eq
        rw [List.length_append, List.length_range] at this
        exact this
      refine ⟨rfl, ?_⟩
      refine ⟨.ref L, rfl, .inl ⟨rfl, _, lstOf g2⟩, ?_⟩
      refine ⟨.ref d, rfl, .ref L, rfl, L, _, rfl, .inl (lstOf g2), d, c, _, _, rfl, g7, by omega, ?_, ?_, fun r H6 r6a r6b dk6 k6 => ?_⟩
      · rw [List.length_map, nI_len]
        omega
      · rw [List.length_map, nI_len]
        omega
      rw [List.length_map, nI_len] at r6b
      obtain ⟨j, rfl⟩ : ∃ j : Nat, r = (j : Int) := ⟨r.toNat, by omega⟩
      have jl : j < lf.length := by omega
      have hj : lf[j]? = some lf[j] := List.getElem?_eq_getElem jl
      have g1' := k6 _ _ g1 Dd Dc
      have g2' := k6 _ _ g2 Ld Lc
      refine ⟨L, _, (j : Int), j, .int ((lf[j] : Nat) : Int), rfl, rfl, g2', by omega, by omega, ?_, ?_, ?_⟩
      · rw [List.length_map, nI_len]
        exact seqIndex_of (by omega) (by omega)
      · unfold nI
        rw [List.map_map, List.getElem?_map, hj]
        rfl
      have g1'' : (upd H6 L (.lst (((nI lf).map V.int).eraseIdx j))) D = some (.lst ((nI acc).map V.int)) := by
        rw [upd_ne DL]
        exact g1'
      refine ⟨_, g1'', ?_, acc ++ [lf[j]], lf.eraseIdx j, ?_, ?_, (erase_perm2 hj).trans g3, ?_, ?_, ?_, ?_, ?_⟩
      · rw [List.length_map, nI_len]
        exact sz_lt (by omega)
      · rw [upd_same, nI_snoc, List.map_append]
        rfl
      · rw [upd_ne DL.symm, upd_same, nI_erase]
      · rw [List.length_append, g4]
        rfl
      · exact sqT_upd g1'' (sqT_upd g2' (k6.sqT g7 g5))
      · exact ((g6.kp k6 g7).upd g2').upd g1''
      · obtain ⟨cs, m, u1, u2, u3⟩ := dk6.le (M := N + 12 * i + 2 + ((k + 1 : Nat) : Int)) (by omega)
        exact ⟨cs, m, by rw [upd_ne Dd.symm, upd_ne Ld.symm]; exact u1, by rw [upd_ne Dc.symm, upd_ne Lc.symm]; exact u2, u3⟩
      · exact ((g8.trans k6).mut hL0).mut hD0
    · rintro H5 ⟨acc, lf, g1, g2, g3, g4, g5, g6, g7, g8⟩
      have and1 : acc.Nodup := by
        have := g3.nodup_iff.mpr List.nodup_range
        exact (List.nodup_append.mp this).1
      have alt : ∀ p ∈ acc, p < n := fun p hp => List.mem_range.mp (g3.mem_iff.mp (List.mem_append_left _ hp))
      refine ⟨D, _, rfl, lstOf g1, by rw [nI_len]; omega, fun ns' sp hperm hsort nsp => ?_⟩
      obtain ⟨r, rfl, rp⟩ := nI_perm hperm
      have rnd : r.Nodup := rp.nodup_iff.mpr and1
      have rasc := nI_asc hsort rnd
      have rlt : ∀ p ∈ r, p < n := fun p hp => alt p (rp.mem_iff.mp hp)
      have rl : r.length = my := by rw [rp.length_eq, g4]
      -- found, most
      refine ⟨.ref ft, rfl, .ref sp, rfl, sp, _, rfl, .inl ⟨lstOf upd_same, fun tr ntr => ?_⟩⟩
      refine ⟨by show 1 ≤ sizeLine; decide, fun t1 nt1 => ?_⟩
      have e6 := (Evl.Ex.new (o := .lst ((nI r).map V.int)) nsp).trans ((Evl.Ex.new (o := .tup ((nI r).map V.int)) ntr).trans (Evl.Ex.new (o := .tup [.ref tr]) nt1))
      have htr : SqT K (upd (upd (upd H5 sp (.lst ((nI r).map V.int))) tr (.tup ((nI r).map V.int))) t1 (.tup [.ref tr])) tr ((nI r).map V.int) := tupNew (tupOf upd_same) nt1
      have pre := h4.snoc rasc rlt (by
        rw [h3, rl, getD_some hnum, ← h5]
        omega)
      have R6 := (g6.ex e6).snoc htr
      have hbr : (brM (plan ++ [r]) (i + 1)).length = my := by
        unfold brM
        rw [if_neg (by omega), Nat.add_sub_cancel, List.getD_eq_getElem?_getD, List.getElem?_append_right (by omega), h3, Nat.sub_self]
        exact rl
      rw [show plan.map nI ++ [nI r] = (plan ++ [r]).map nI by rw [List.map_append]; rfl] at R6
      have fin : ∀ (ft' : Addr) (H7 : Hp), SqT K H7 ft' (xs ++ [.ref tr]) → Evl.Ex (upd (upd (upd H5 sp (.lst ((nI r).map V.int))) tr (.tup ((nI r).map V.int))) t1 (.tup [.ref tr])) H7 →
          ∃ (ft : Addr) (xs : List V) (plan : List (List Nat)) (most : Nat) (z5 z6 z7 z8 z9 : Option V), [some (V.ref d), some (.ref ra), some (.int (n : Int)), some (.ref ft'), some (.int (my : Int)), some (.int num), some (.ref L), some (.int (my : Int)), some (.ref sp), y9] = [some (.ref d), some (.ref ra), some (.int (n : Int)), some (.ref ft), some (.int (most : Int)), z5, z6, z7, z8, z9] ∧
            SqT K H7 ft xs ∧ Rws K H7 xs (plan.map nI) ∧ plan.length = i + 1 ∧ PlanPre bs n plan ∧ most = (brM plan (i + 1)).length ∧ most ≤ n ∧ Dk H7 d c (N + 12 * ((i + 1 : Nat) : Int)) ∧ Kp d c H H7 := by
        intro ft' H7 hs7 e7
        exact ⟨ft', xs ++ [.ref tr], plan ++ [r], my, _, _, _, _, _, rfl, hs7, R6.ex e7, by rw [List.length_append, h3]; rfl, pre, hbr.symm, by omega, (g7.ex (e6.trans e7)).le (by omega), g8.trans (Kp.ex (e6.trans e7))⟩
      refine ⟨ft, t1, xs, [.ref tr], rfl, rfl, Evl.ex_t e6 g5, tupOf upd_same, ?_, fun ex => ?_, (fun _ z => nomatch z), fun _ _ p5 np5 => ?_⟩
      · rw [h2.1, List.length_map, h3]
        show i + 1 ≤ _
        exact sz_le (by omega)
      · refine ⟨.int (my : Int), rfl, _, _, rfl, ?_⟩
        subst ex
        exact fin t1 _ (tupOf upd_same) (Evl.Ex.refl _)
      · refine ⟨.int (my : Int), rfl, _, _, rfl, ?_⟩
        exact fin p5 _ (tupOf upd_same) (Evl.Ex.new np5)
  · rintro σ' H' ⟨ft, xs, plan, most, y5, y6, y7, y8, y9, rfl, h1, h2, h3, h4, h5, h5b, h6, h7⟩
    rw [List.length_map] at h3 h6
    exact ⟨.ref ft, rfl, q (.ref ft) plan H' ⟨ft, xs, rfl, h1, h2⟩ (h4.ok h3 fun b hm => (hb b hm).1) (h6.le (by omega)) h7⟩
end

end Rb
namespace Rb
open PySem PySem.Spec PyProof.Rows L2
section
variable {K : PySem.W.Frag}
theorem pairs_shaped (ps : List (Int × Int)) : SeqAt.shaped (.list (ps.map pairD)) = true := by
  have h1 : PyData.canLayAll0 (ps.map pairD) = true ∧ PyData.depthAll (ps.map pairD) ≤ 2 := by
    induction ps with
    | nil => exact ⟨by simp [PyData.canLayAll0], by simp [PyData.depthAll]⟩
    | cons p ps ih =>
      refine ⟨?_, ?_⟩
      · rw [List.map_cons]
        simp only [PyData.canLayAll0, ih.1, Bool.and_true]
        simp [pairD, PyData.canLay0, PyData.canLayAll0]
      · rw [List.map_cons]
        simp only [PyData.depthAll]
        have : (pairD p).depth = 1 := by simp [pairD, PyData.depth, PyData.depthAll]
        have := ih.2
        omega
  show (PyData.canLay0 _ && decide (PyData.depth _ ≤ 64)) = true
  rw [Bool.and_eq_true]
  refine ⟨by simp only [PyData.canLay0]; exact h1.1, decide_eq_true ?_⟩
  simp only [PyData.depth]
  omega
theorem pairs_empty (ps : List (Int × Int)) : PyData.eqv (.list (ps.map pairD)) (.list []) = decide (ps = []) := by
  cases ps with
  | nil => simp [PyData.eqv, PyData.eqvAll]
  | cons p ps => simp [PyData.eqv, PyData.eqvAll]
/-- the five lists of the run -/
structure Ds (rl wl al rdl ql : Addr) : Prop where
  a1 : rl ≠ wl
  a2 : rl ≠ al
  a3 : rl ≠ rdl
  a4 : rl ≠ ql
  b1 : wl ≠ al
  b2 : wl ≠ rdl
  b3 : wl ≠ ql
  c1 : al ≠ rdl
  c2 : al ≠ ql
  d1 : rdl ≠ ql
structure Hr (K : PySem.W.Frag) (H0 H : Hp) (rl wl al rdl ql : Addr) (xs qxs : List V) (rows : List (List Int)) (wt af rds : List Int) (qs : List (Int × Int)) : Prop where
  rl : H rl = some (.lst xs)
  rw : Rws K H xs rows
  wl : H wl = some (.lst (wt.map V.int))
  al : H al = some (.lst (af.map V.int))
  rd : H rdl = some (.lst (rds.map V.int))
  ql : H ql = some (.lst qxs)
  pr : Prs H qxs qs
  ex : Evl.Ex H0 H
section
variable {H0 H H' : Hp} {rl wl al rdl ql : Addr} {xs qxs : List V} {rows : List (List Int)} {wt af rds : List Int} {qs : List (Int × Int)}
theorem Hr.more (h : Hr K H0 H rl wl al rdl ql xs qxs rows wt af rds qs) (e : Evl.Ex H H') : Hr K H0 H' rl wl al rdl ql xs qxs rows wt af rds qs :=
  ⟨e _ _ h.rl, h.rw.ex e, e _ _ h.wl, e _ _ h.al, e _ _ h.rd, e _ _ h.ql, h.pr.keep fun _ _ z => e _ _ z, h.ex.trans e⟩
theorem Hr.setW {wt' : List Int} (h : Hr K H0 H rl wl al rdl ql xs qxs rows wt af rds qs) (d : Ds rl wl al rdl ql) (n : H0 wl = none) : Hr K H0 (upd H wl (.lst (wt'.map V.int))) rl wl al rdl ql xs qxs rows wt' af rds qs :=
  ⟨by rw [upd_ne d.a1]; exact h.rl, h.rw.upd h.wl, upd_same, by rw [upd_ne d.b1.symm]; exact h.al, by rw [upd_ne d.b2.symm]; exact h.rd, by rw [upd_ne d.b3.symm]; exact h.ql, h.pr.keep (tup_upd h.wl), Evl.Ex.mut h.ex n⟩
theorem Hr.setA {af' : List Int} (h : Hr K H0 H rl wl al rdl ql xs qxs rows wt af rds qs) (d : Ds rl wl al rdl ql) (n : H0 al = none) : Hr K H0 (upd H al (.lst (af'.map V.int))) rl wl al rdl ql xs qxs rows wt af' rds qs :=
  ⟨by rw [upd_ne d.a2]; exact h.rl, h.rw.upd h.al, by rw [upd_ne d.b1]; exact h.wl, upd_same, by rw [upd_ne d.c1.symm]; exact h.rd, by rw [upd_ne d.c2.symm]; exact h.ql, h.pr.keep (tup_upd h.al), Evl.Ex.mut h.ex n⟩
theorem Hr.setR {rds' : List Int} (h : Hr K H0 H rl wl al rdl ql xs qxs rows wt af rds qs) (d : Ds rl wl al rdl ql) (n : H0 rdl = none) : Hr K H0 (upd H rdl (.lst (rds'.map V.int))) rl wl al rdl ql xs qxs rows wt af rds' qs :=
  ⟨by rw [upd_ne d.a3]; exact h.rl, h.rw.upd h.rd, by rw [upd_ne d.b2]; exact h.wl, by rw [upd_ne d.c1]; exact h.al, upd_same, by rw [upd_ne d.d1.symm]; exact h.ql, h.pr.keep (tup_upd h.rd), Evl.Ex.mut h.ex n⟩
theorem Hr.setQ {qxs' : List V} {qs' : List (Int × Int)} (h : Hr K H0 H rl wl al rdl ql xs qxs rows wt af rds qs) (d : Ds rl wl al rdl ql) (n : H0 ql = none) (hp : Prs H qxs' qs') : Hr K H0 (upd H ql (.lst qxs')) rl wl al rdl ql xs qxs' rows wt af rds qs' :=
  ⟨by rw [upd_ne d.a4]; exact h.rl, h.rw.upd h.ql, by rw [upd_ne d.b3]; exact h.wl, by rw [upd_ne d.c2]; exact h.al, by rw [upd_ne d.d1]; exact h.rd, upd_same, hp.keep (tup_upd h.ql), Evl.Ex.mut h.ex n⟩
end
end
section
variable {P : Program} {w : World} {K : PySem.W.Frag} {mg : Str → Option Value} {base : Heap}
def spRun (K : PySem.W.Frag) : Sp := fun vs H Q _ => ∃ (rv sv pv : V) (wk rd : Int) (bs starts : List Int) (plan : List (List Nat)), vs = [rv, sv, pv] ∧ Road K H rv wk rd bs ∧ Ints K H sv starts ∧ Plan K H pv plan ∧
  PlanOk bs starts.length plan ∧ bs.length ≤ 100 ∧ (∀ b ∈ bs, b ≤ 12) ∧ starts.length ≤ 40 ∧
  ∀ p rt wt xs H', Evl.Ex H H' → H' p = some (.lst [.ref rt, .ref wt]) → SqT K H' rt xs → Rws K H' xs (rowsM wk rd bs starts plan bs.length) → SqT K H' wt ((wtM wk rd bs starts plan bs.length).map V.int) → Q (.ref p) H'
theorem ok__law_run (T : Tx K mg) : FnOk P w K mg base CX0 1 T.f__law_run T.fd__law_run ["_law_road_here", "_law_starts_here", "_law_plan_here"] (spRun K) := by
  refine T.F__law_run.ok sc__law_run (fun vs H Q E h => ?_) (fun cdv A outer s H vs Q E hr h => ?_)
  · obtain ⟨rv, sv, pv, wk, rd, bs, starts, plan, rfl, _⟩ := h
    rfl
  obtain ⟨rv, sv, pv, wk, rd, bs, starts, plan, rfl, ⟨ra, bb, rfl, hA, hB⟩, ⟨sa, rfl, hS⟩, ⟨pa, pxs, rfl, hP, hPR⟩, ok, hbl, hb12, hsl, q⟩ := h
  refine ⟨_, (pss_cons (ps_par3 (i := 3) (j := 4) (l := 5) (by rfl) sc__law_run.nd rfl rfl rfl (by decide) (by decide) (by decide) rfl rfl rfl (pa_cons (pe_lst (pa_cons (pe_callTy (show CallR _ (.type "tuple") (rTupS K) from call_tuple_of) (by rfl) T.z_tuple (by decide +kernel) (pa_cons (pv 1) pa_nil)) pa_nil)) (pa_cons (pe_op op_rep (pe_lst (pa_cons pe_int pa_nil)) (pe_callB (show CallR _ (.builtin "len") (Evl.rLenS K) from call_len_seq) (by rfl) T.z_len PySem.boot_len (pa_cons (pv 1) pa_nil))) (pa_cons (pe_lst pa_nil) pa_nil))) (by rfl))
 (pss_cons (ps_for PassesOwn.never rfl (pi_enumT (by rfl) T.z_enumerate (pa_cons (pv 2) pa_nil)) (pg_tup rfl (pgs_cons (pg_name (i := 6) sc__law_run.nd rfl (.inl rfl)) (pgs_cons (pg_name (i := 7) sc__law_run.nd rfl (.inl rfl)) pgs_nil)))
 (pss_cons (ps_asg (pe_tup (pa_cons (pe_op op_cat (pv 5) (pe_op op_rep (pe_lst (pa_cons pe_int pa_nil)) (pe_ix (show IxR _ (rIxT K) from ix_tup) (pe_ix (show IxR _ (rIxT K) from ix_tup) (pv 0) pe_int (fun _ _ => rfl)) (pv 6) (fun _ _ => rfl)))) (pa_cons (pe_callTy (show CallR _ (.type "list") (Evl.rListS K) from call_list_of) (by rfl) T.z_list (by decide +kernel) (pa_cons (pe_ix (show IxR _ (rIxL K) from ix_list) (pv 3) (pv 6) (fun _ _ => rfl)) pa_nil)) pa_nil))) (pg_tup rfl (pgs_cons (pg_name (i := 8) sc__law_run.nd rfl (.inl rfl)) (pgs_cons (pg_name (i := 9) sc__law_run.nd rfl (.inr rfl)) pgs_nil))))
 (pss_cons (ps_setLc (i := 10) (own := [("_law_person", 12)]) (g := gName 12) (tt := tYes) (by rfl) sc__law_run.nd rfl rfl (sw_true rfl rfl rfl (by decide +kernel)) (pi_tup (pv 7)) (blkOk_by (own := [("_law_person", 12)]) (N := N__law_run) (sc := defScope s__law_run) (by decide +kernel)) (fun _ _ _ _ _ => (pg_name (i := 12) sc__law_run.nd rfl (.inl rfl))) (fun _ _ _ _ _ => pts_nil) (fun _ _ _ _ _ => (pe_tup (pa_cons (pe_ix (show IxR _ (rIxL K) from ix_list) (pv 9) (pv 12) (fun _ _ => rfl)) (pa_cons (pv 12) pa_nil)))))
 (pss_cons (ps_while PassesOwn.never (pt_cmpR (show OpR _ (compareOp .NotEq) (rNeD K) from (op_neD hr.units)) (pv 10) (pe_lst pa_nil) (nomark _))
 (pss_cons (ps_asg (pe_callB (show CallR _ (.builtin "min") (rMinP K) from (cr_minP rfl hr.units)) (by rfl) T.z_min (by decide +kernel) (pa_cons (pv 10) pa_nil)) (pg_tup rfl (pgs_cons (pg_name (i := 11) sc__law_run.nd rfl (.inl rfl)) (pgs_cons (pg_name (i := 12) sc__law_run.nd rfl (.inl rfl)) pgs_nil))))
 (pss_cons (ps_expr (show PE _ _ (tBM K "list" _ _ _) from pe_bm PySem.F.plainAttrs_list PySem.F.slot_list_remove PySem.F.type_list_remove (mt_removeP hr.units) (pv 10) (pa_cons (pe_tup (pa_cons (pv 11) (pa_cons (pv 12) pa_nil))) pa_nil)))
 (pss_cons (ps_set (i := 13) sc__law_run.nd rfl (.inl rfl) (pe_callB (show CallR _ (.builtin "min") (rMin K) from (cr_min rfl)) (by rfl) T.z_min (by decide +kernel) (pa_cons (pv 8) pa_nil)))
 (pss_cons (ps_expr (show PE _ _ (tBM K "list" _ _ _) from pe_bm PySem.F.plainAttrs_list PySem.F.slot_list_remove PySem.F.type_list_remove mt_remove (pv 8) (pa_cons (pv 13) pa_nil)))
 (pss_cons (ps_asg (pe_op op_add (pe_ix (show IxR _ (rIxL K) from ix_list) (pv 4) (pv 12) (fun _ _ => rfl)) (pe_callB (call_max2 rfl) (by rfl) T.z_max (by decide +kernel) (pa_cons pe_int (pa_cons (pe_op op_sub (pv 13) (pv 11)) pa_nil)))) (pg_sub (pv 4) (pv 12) set_list))
 (pss_one (ps_asg (pe_op op_add (pe_callB (call_max2 rfl) (by rfl) T.z_max (by decide +kernel) (pa_cons (pv 13) (pa_cons (pv 11) pa_nil))) (pe_ix (show IxR _ (rIxT K) from ix_tup) (pv 0) pe_int (fun _ _ => rfl))) (pg_sub (pv 9) (pv 12) set_list)))))))))
 (pss_cons (ps_for PassesOwn.never rfl (pi_range1 (by rfl) T.z_range (pa_cons (pe_callB (show CallR _ (.builtin "len") (Evl.rLenS K) from call_len_seq) (by rfl) T.z_len PySem.boot_len (pa_cons (pv 1) pa_nil)) pa_nil)) (pg_name (i := 12) sc__law_run.nd rfl (.inl rfl))
 (pss_one (ps_if (pt_cmpR (show OpR _ (compareOp .NotIn) (rIn K true) from op_notIn_seq) (pv 12) (pv 7) (by rfl))
 (pss_one (ps_asg (pe_op op_add (pe_ix (show IxR _ (rIxL K) from ix_list) (pv 9) (pv 12) (fun _ _ => rfl)) (pe_ix (show IxR _ (rIxT K) from ix_tup) (pv 0) pe_int (fun _ _ => rfl))) (pg_sub (pv 9) (pv 12) set_list)))
 pss_nil)))
 (pss_cons (ps_setLc (i := 5) (own := [("_law_person", 12)]) (g := gName 12) (tt := tYes) (by rfl) sc__law_run.nd rfl rfl (sw_true rfl rfl rfl (by decide +kernel)) (pi_tup (pv 7)) (blkOk_by (own := [("_law_person", 12)]) (N := N__law_run) (sc := defScope s__law_run) (by decide +kernel)) (fun _ _ _ _ _ => (pg_name (i := 12) sc__law_run.nd rfl (.inl rfl))) (fun _ _ _ _ _ => pts_nil) (fun _ _ _ _ _ => (pe_ix (show IxR _ (rIxL K) from ix_list) (pv 9) (pv 12) (fun _ _ => rfl))))
 (pss_one (ps_expr (show PE _ _ (tBM K "list" _ _ _) from pe_bm PySem.F.plainAttrs_list PySem.F.slot_list_append PySem.F.type_list_append mt_append (pv 3) (pa_cons (pe_callTy (show CallR _ (.type "tuple") (rTupS K) from call_tuple_of) (by rfl) T.z_tuple (by decide +kernel) (pa_cons (pv 9) pa_nil)) pa_nil))))))))))
 (pss_one (ps_ret (pe_lst (pa_cons (pe_callTy (show CallR _ (.type "tuple") (rTupS K) from call_tuple_of) (by rfl) T.z_tuple (by decide +kernel) (pa_cons (pv 3) pa_nil)) (pa_cons (pe_callTy (show CallR _ (.type "tuple") (rTupS K) from call_tuple_of) (by rfl) T.z_tuple (by decide +kernel) (pa_cons (pv 4) pa_nil)) pa_nil))))))), ?_⟩
  -- rows, waits, left
  refine ⟨.ref sa, rfl, sa, _, rfl, .inr ⟨hS, ?_⟩⟩
  refine ⟨by show 1 ≤ sizeLine; decide, fun rl nrl => ?_⟩
  refine ⟨by show 1 ≤ sizeLine; decide, fun z0 nz0 => ?_⟩
  have e0 := (Evl.Ex.new (o := .lst [.ref sa]) nrl).trans (Evl.Ex.new (o := .lst [.int 0]) nz0)
  refine ⟨.ref sa, rfl, sa, _, rfl, .inr (Evl.ex_t e0 hS), z0, _, _, rfl, rfl, upd_same, by omega, by rw [List.length_map]; omega, ?_, fun wl nwl => ?_⟩
  · rw [List.length_map, Int.toNat_natCast]
    exact sz_le (by show 1 * starts.length ≤ _; omega)
  refine ⟨by show 0 ≤ sizeLine; decide, fun ll0 nll0 => ?_⟩
  refine ⟨_, _, _, rfl, ?_⟩
  have hwl0 : upd (upd (upd H rl (.lst [.ref sa])) z0 (.lst [.int 0])) wl (.lst (List.replicate (((starts.map V.int).length : Int).toNat) [V.int 0]).flatten) wl = some (.lst ((wtM wk rd bs starts plan 0).map V.int)) := by
    rw [upd_same, rep_flat, Int.toNat_natCast, List.length_map]
    show _ = some (HO.lst ((List.replicate starts.length 0).map V.int))
    rw [List.map_replicate]
  have e1 := (e0.trans (Evl.Ex.new (o := .lst (List.replicate (((starts.map V.int).length : Int).toNat) [V.int 0]).flatten) nwl)).trans (Evl.Ex.new (o := .lst []) nll0)
  have hwl1 := Evl.Ex.new (o := .lst []) nll0 _ _ hwl0
  have hrl1 : (upd (upd (upd (upd H rl (.lst [.ref sa])) z0 (.lst [.int 0])) wl (.lst (List.replicate (((starts.map V.int).length : Int).toNat) [V.int 0]).flatten)) ll0 (.lst [])) rl = some (.lst [.ref sa]) :=
    Evl.Ex.new nll0 _ _ (Evl.Ex.new nwl _ _ (Evl.Ex.new nz0 _ _ upd_same))
  have hll1 : (upd (upd (upd (upd H rl (.lst [.ref sa])) z0 (.lst [.int 0])) wl (.lst (List.replicate (((starts.map V.int).length : Int).toNat) [V.int 0]).flatten)) ll0 (.lst [])) ll0 = some (.lst []) := upd_same
  have hw0 : H wl = none := Evl.fresh_back e0 nwl
  have rwne : rl ≠ wl := ne_of_none (Evl.Ex.new nz0 _ _ upd_same) nwl
  generalize upd (upd (upd (upd H rl (.lst [.ref sa])) z0 (.lst [.int 0])) wl (.lst (List.replicate (((starts.map V.int).length : Int).toNat) [V.int 0]).flatten)) ll0 (.lst []) = H1 at e1 hwl1 hrl1 hll1
  have hR0 : Rws K H1 [.ref sa] (rowsM wk rd bs starts plan 0) := by
    refine ⟨rfl, fun i r hr => ?_⟩
    cases i with
    | zero =>
      cases hr
      exact ⟨sa, rfl, Evl.ex_t e1 hS⟩
    | succ i => simp [rowsM] at hr
  -- the stages
  refine ⟨.ref pa, rfl, pa, pxs, rfl, Evl.ex_t e1 hP, ?_⟩
  refine for_enumT (xs := pxs) (fun i σ' H' => ∃ (xs : List V) (ll : Addr) (y6 y7 y8 y9 y10 y11 y12 y13 : Option V), σ' = [some (.ref ra), some (.ref sa), some (.ref pa), some (.ref rl), some (.ref wl), some (.ref ll), y6, y7, y8, y9, y10, y11, y12, y13] ∧
    H' rl = some (.lst xs) ∧ Rws K H' xs (rowsM wk rd bs starts plan i) ∧ H' wl = some (.lst ((wtM wk rd bs starts plan i).map V.int)) ∧ H' ll = some (.lst (((brM plan i).map fun p => tickAt (tkM wk rd bs starts plan i) p).map V.int)) ∧ Evl.Ex H H') ?_ ?_ ?_ ?_
  · exact ⟨_, ll0, none, none, none, none, none, none, none, none, rfl, hrl1, hR0, hwl1, hll1, e1⟩
  · rintro i σ' H' hi ⟨xs, ll, y6, y7, y8, y9, y10, y11, y12, y13, rfl, h1, h2, h3, h4, h5⟩
    exact Evl.ex_t h5 hP
  · rintro i x t σ' H' hx ⟨xs, ll, y6, y7, y8, y9, y10, y11, y12, y13, rfl, h1, h2, h3, h4, h5⟩ nt
    have il : i < plan.length := by
      have := (List.getElem?_eq_some_iff.mp hx).1
      rw [hPR.1, List.length_map] at this
      exact this
    obtain ⟨r, hr1⟩ : ∃ r, plan[i]? = some r := ⟨_, List.getElem?_eq_getElem il⟩
    obtain ⟨rt, g1, g2⟩ := hPR.2 i (nI r) (by rw [List.getElem?_map, hr1]; rfl)
    rw [hx] at g1
    cases g1
    obtain ⟨rnd, rlt, rfew, brlt⟩ := ok.at hr1
    have ib : i < bs.length := by rw [← ok.len]; exact il
    have hbi : bs[i]? = some bs[i] := List.getElem?_eq_getElem ib
    have hb0 := ok.nn bs[i] (List.getElem_mem ib)
    have hb1 := hb12 bs[i] (List.getElem_mem ib)
    obtain ⟨st, hst⟩ : ∃ st : Nat, bs[i] = (st : Int) := ⟨bs[i].toNat, by omega⟩
    have hbd : (bs.getD i 0).toNat = st := by
      rw [getD_some hbi, hst]
      exact Int.toNat_natCast st
    rw [hbd] at rfew
    have tl := tkM_len (walk := wk) (ride := rd) (bikes := bs) (starts := starts) (plan := plan) i
    have brl : (brM plan i).length ≤ 40 := by
      have h2 : (brM plan i).Nodup := by
        unfold brM
        split
        · exact List.nodup_nil
        · cases e2 : plan[i - 1]? with
          | none => rw [List.getD_eq_getElem?_getD, e2]; exact List.nodup_nil
          | some r2 => rw [getD_some e2]; exact (ok.at e2).1
      exact nodup_le h2 fun p hp => by have := brlt p hp; omega
    have rl40 : r.length ≤ 40 := nodup_le rnd fun p hp => by have := rlt p hp; omega
    generalize htk : tkM wk rd bs starts plan i = tk at *
    generalize hwt : wtM wk rd bs starts plan i = wt at *
    have wtl : wt.length = starts.length := by rw [← hwt, wtM_len]
    generalize hbr : brM plan i = br at *
    have e2 := Evl.Ex.new (o := .tup [.int (i : Int), .ref rt]) nt
    refine ⟨t, _, rfl, tupOf upd_same, rfl, .int (i : Int), [.ref rt], rfl, .ref rt, [], rfl, rfl, ?_⟩
    -- ready, after
    refine ⟨.ref ll, rfl, by show 1 ≤ sizeLine; decide, fun z1 nz1 => ?_⟩
    have e3 := e2.trans (Evl.Ex.new (o := .lst [.int 0]) nz1)
    have ebi : atI (bs.map V.int) (i : Int) = some (.int (st : Int)) := by rw [at_ints ib, hst]
    refine ⟨.ref ra, rfl, ra, _, 2, .ref bb, rfl, rfl, Evl.ex_t (h5.trans e3) hA, rfl, .int (i : Int), rfl, bb, _, (i : Int), _, rfl, rfl, Evl.ex_t (h5.trans e3) hB, ebi, ?_⟩
    refine ⟨z1, (st : Int), _, rfl, rfl, upd_same, by omega, by omega, ?_, fun z2 nz2 => ?_⟩
    · rw [Int.toNat_natCast]
      exact sz_le (by show 1 * st ≤ _; omega)
    rw [rep_flat, Int.toNat_natCast]
    have e4 := e3.trans (Evl.Ex.new (o := .lst (List.replicate st (V.int 0))) nz2)
    refine ⟨ll, z2, _, _, rfl, rfl, e4 _ _ h4, upd_same, ?_, fun rdl nrdl => ?_⟩
    · rw [List.length_map, List.length_map, List.length_replicate]
      exact sz_le (by omega)
    have hrd5 : ((br.map fun p => tickAt tk p).map V.int ++ List.replicate st (V.int 0)) = ((br.map fun p => tickAt tk p) ++ List.replicate st 0).map V.int := by
      rw [List.map_append, List.map_replicate]
    have e5 := e4.trans (Evl.Ex.new (o := .lst ((br.map fun p => tickAt tk p).map V.int ++ List.replicate st (V.int 0))) nrdl)
    obtain ⟨tt, k1, k2⟩ := h2.2 i _ (rowsM_at (Nat.le_refl i))
    rw [htk] at k2
    refine ⟨.ref rl, rfl, .int (i : Int), rfl, rl, xs, (i : Int), _, rfl, rfl, lstOf (e5 _ _ h1), atI_nat k1, tt, _, rfl, .inr (Evl.ex_t e5 k2), fun al nal => ?_⟩
    refine ⟨by show 2 ≤ sizeLine; decide, fun t3 nt3 => ?_⟩
    refine ⟨t3, _, rfl, tupOf upd_same, rfl, .ref rdl, [.ref al], rfl, .ref al, [], rfl, rfl, ?_⟩
    have e6 := Evl.Ex.new (o := .lst (tk.map V.int)) nal
    have e7 := Evl.Ex.new (o := .tup [.ref rdl, .ref al]) nt3
    have hrdl7 := e7 _ _ (e6 _ _ (upd_same (H := _) (a := rdl) (o := .lst ((br.map fun p => tickAt tk p).map V.int ++ List.replicate st (V.int 0)))))
    have hal7 := e7 _ _ (upd_same (H := _) (a := al) (o := .lst (tk.map V.int)))
    have e57 := e5.trans (e6.trans e7)
    have nalr : al ≠ rdl := (ne_of_none upd_same nal).symm
    have hH0 : ∀ {p : Addr}, H' p = none → H p = none := fun hp => Evl.fresh_back h5 hp
    have nrd0 : H' rdl = none := Evl.fresh_back e4 nrdl
    have nal0 : H' al = none := Evl.fresh_back e5 nal
    -- queue
    refine ⟨.ref rt, rfl, rt, rfl, ⟨_, Evl.ex_t (h5.trans e57) g2⟩, fun ql nql => ?_⟩
    have nql0 : H' ql = none := Evl.fresh_back e57 nql
    refine lc_prsT (f := fun v => match v with | .int p => (tickAt tk p.toNat, p) | _ => (0, 0)) (Evl.ex_t (h5.trans e57) g2) nql (fun _ => rfl) ?_ ?_ ?_
    · rw [List.length_map, nI, List.length_map]
      omega
    · intro i2 x H3 hx3 ex3 Q2 hQ
      obtain ⟨p, hp, rfl⟩ := nI_get hx3
      refine ⟨.ref al, rfl, .int (p : Int), rfl, al, _, (p : Int), _, rfl, rfl, lstOf (ex3 _ _ hal7), at_tick (by rw [tl]; exact rlt p (List.mem_of_getElem? hp)), .int (p : Int), rfl, by show 2 ≤ sizeLine; decide, fun t nt => ?_⟩
      exact hQ t _ (Evl.Ex.new nt) upd_same
    intro qxs0 H8 e8 hql8 hP8
    have hps : ((nI r).map V.int).map (fun v => match v with | .int p => (tickAt tk p.toNat, p) | _ => (0, 0)) = r.map fun p => (tickAt tk p, (p : Int)) := by
      rw [nI, List.map_map, List.map_map]
      rfl
    rw [hps] at hP8
    have e58 := e57.trans e8
    have hrdl7' := hrdl7.trans (congrArg (fun l => some (HO.lst l)) hrd5)
    have ds : Ds rl wl al rdl ql := ⟨rwne, ne_of_none h1 nal0, ne_of_none h1 nrd0, ne_of_none h1 nql0, ne_of_none h3 nal0, ne_of_none h3 nrd0, ne_of_none h3 nql0, nalr, ne_of_none hal7 nql, ne_of_none hrdl7 nql⟩
    have hh0 : Hr K H H8 rl wl al rdl ql xs qxs0 (rowsM wk rd bs starts plan i) wt tk ((br.map fun p => tickAt tk p) ++ List.replicate st 0) (r.map fun p => (tickAt tk p, (p : Int))) :=
      ⟨e58 _ _ h1, h2.ex e58, e58 _ _ h3, e8 _ _ hal7, e8 _ _ hrdl7', hql8, hP8, h5.trans e58⟩
    have plen : (pairsM tk r br st).length = r.length := pairsM_len rfew
    have hN : ∀ {a : Addr}, H' a = none → H a = none := hH0
    -- while queue
    refine ⟨fun m σ2 H2 => ∃ (k : Nat) (qxs : List V) (qs : List (Int × Int)) (rds : List Int) (y11 y12 y13 : Option V), m = r.length - k ∧ k ≤ r.length ∧
      σ2 = [some (.ref ra), some (.ref sa), some (.ref pa), some (.ref rl), some (.ref wl), some (.ref ll), some (.int (i : Int)), some (.ref rt), some (.ref rdl), some (.ref al), some (.ref ql), y11, y12, y13] ∧
      qs.Perm ((queueM tk r).drop k) ∧ rds.Perm ((bikesM tk br st).drop k) ∧ Hr K H H2 rl wl al rdl ql xs qxs (rowsM wk rd bs starts plan i) (waitsI wt tk r br st k) (afterM tk r br st rd k) rds qs, ⟨r.length, 0, qxs0, _, (br.map fun p => tickAt tk p) ++ List.replicate st 0, y11, y12, y13, rfl, Nat.zero_le _, rfl, (srtP_perm _).symm, ?_, hh0⟩, ?_⟩
    · exact (List.perm_append_comm).trans (srt_perm _).symm
    rintro m σ2 H2 ⟨k, qxs, qs, rds, y11, y12, y13, rfl, kl, rfl, pq, prd, hh⟩
    refine ⟨.ref ql, rfl, by show 0 ≤ sizeLine; decide, fun e0 ne0 => ?_⟩
    have hh1 := hh.more (Evl.Ex.new (o := .lst []) ne0)
    refine ⟨.list (qs.map pairD), .list [], .lst (lstOf hh1.ql) hh1.pr.dp, .lst (lstOf upd_same) .nil, pairs_shaped qs, by decide, _, rfl, ?_⟩
    rw [pairs_empty]
    have qlen : qs.length = r.length - k := by
      rw [pq.length_eq, List.length_drop, queueM_len]
    generalize upd H2 e0 (.lst []) = H3 at hh1
    by_cases hq : qs = []
    · rw [decide_eq_true hq]
      refine iteF ?_
      have ek : k = r.length := by
        rw [hq] at qlen
        simp only [List.length_nil] at qlen
        omega
      subst ek
      -- the walkers
      refine ⟨.ref sa, rfl, sa, _, rfl, .inr (Evl.ex_t hh1.ex hS), _, rfl, by rw [List.length_map]; omega, by rw [List.length_map]; omega, ?_⟩
      rw [List.length_map, Int.toNat_natCast]
      refine for_range (lo := 0) (n := starts.length) (fun p σ3 H4 => ∃ (y11 y12 y13 : Option V), σ3 = [some (.ref ra), some (.ref sa), some (.ref pa), some (.ref rl), some (.ref wl), some (.ref ll), some (.int (i : Int)), some (.ref rt), some (.ref rdl), some (.ref al), some (.ref ql), y11, y12, y13] ∧
        Hr K H H4 rl wl al rdl ql xs qxs (rowsM wk rd bs starts plan i) (waitsI wt tk r br st r.length) (walkM (afterM tk r br st rd r.length) r wk p) rds qs) ?_ ?_ ?_
      · exact ⟨_, _, _, rfl, by rw [walkM_zero]; exact hh1⟩
      · rintro p σ3 H4 hp ⟨z11, z12, z13, rfl, h4'⟩
        rw [Int.zero_add]
        refine ⟨.int (p : Int), rfl, .ref rt, rfl, rt, _, rfl, .inr (Evl.ex_t h4'.ex g2), rfl, flat_ints _, _, rfl, ?_⟩
        rw [if_pos rfl, inV_nI]
        by_cases hpr : p ∈ r
        · rw [decide_eq_true hpr]
          refine iteF ?_
          exact ⟨_, _, _, rfl, by rw [walkM_in hpr]; exact h4'⟩
        · rw [decide_eq_false hpr]
          refine iteT ?_
          have pl : p < (walkM (afterM tk r br st rd r.length) r wk p).length := by
            rw [walkM_len, afterM_len, tl]
            exact hp
          refine ⟨.ref al, rfl, .int (p : Int), rfl, al, _, (p : Int), _, rfl, rfl, lstOf h4'.al, at_ints pl, .ref ra, rfl, ra, _, 0, .int wk, rfl, rfl, Evl.ex_t h4'.ex hA, rfl, _, wk, rfl, rfl, ?_⟩
          refine ⟨.ref al, rfl, .int (p : Int), rfl, al, _, (p : Int), p, rfl, rfl, h4'.al, Evl.ixN_nat (by rw [List.length_map]; exact pl), ?_⟩
          refine ⟨_, _, _, rfl, ?_⟩
          rw [walkM_out hpr (List.getElem?_eq_getElem pl), ← List.map_set]
          exact h4'.setA ds (hN nal0)
      · rintro σ3 H4 ⟨z11, z12, z13, rfl, h4'⟩
        have etk : walkM (afterM tk r br st rd r.length) r wk starts.length = tkM wk rd bs starts plan (i + 1) := by
          rw [← tl, after_row rfew rnd (fun p hp => by rw [tl]; exact rlt p hp)]
          show _ = rowM (tkM wk rd bs starts plan i) (plan.getD i []) (brM plan i) (bs.getD i 0).toNat wk rd
          rw [htk, hbr, getD_some hr1, hbd]
        rw [etk] at h4'
        have tl1 := tkM_len (walk := wk) (ride := rd) (bikes := bs) (starts := starts) (plan := plan) (i + 1)
        -- left
        refine ⟨.ref rt, rfl, rt, rfl, ⟨_, Evl.ex_t h4'.ex g2⟩, fun l2 nl2 => ?_⟩
        refine lc_mapT (f := fun v => match v with | .int p => .int (tickAt (tkM wk rd bs starts plan (i + 1)) p.toNat) | v => v) (Evl.ex_t h4'.ex g2) nl2 (fun _ => rfl) ?_ ?_ ?_
        · rw [List.length_map, nI, List.length_map]
          omega
        · intro i2 x H5 hx5 e5' Q2 hQ
          obtain ⟨p, hp, rfl⟩ := nI_get hx5
          refine ⟨.ref al, rfl, .int (p : Int), rfl, al, _, (p : Int), _, rfl, rfl, lstOf (e5' _ _ h4'.al), at_tick (by rw [tl1]; exact rlt p (List.mem_of_getElem? hp)), ?_⟩
          exact hQ H5 (Evl.Ex.refl _)
        intro H5 e5' hl2
        have hl2' : H5 l2 = some (.lst ((r.map fun p => tickAt (tkM wk rd bs starts plan (i + 1)) p).map V.int)) := by
          rw [hl2, nI, List.map_map, List.map_map, List.map_map]
          congr 2
        have h5' := h4'.more e5'
        have nrl2 : rl ≠ l2 := ne_of_none h4'.rl nl2
        -- rows.append
        refine ⟨.ref rl, rfl, .inl ⟨rfl, _, lstOf h5'.rl⟩, .ref al, rfl, al, _, rfl, .inl ⟨lstOf h5'.al, fun tp ntp => ?_⟩⟩
        have e6' := Evl.Ex.new (o := .tup ((tkM wk rd bs starts plan (i + 1)).map V.int)) ntp
        have h6' := h5'.more e6'
        refine ⟨rl, xs, .ref tp, rfl, rfl, h6'.rl, ?_, ?_⟩
        · rw [h2.1, rowsM_len]
          have := ok.len
          exact sz_lt (by omega)
        have R6 := (h6'.rw.snoc (t := tp) (r := tkM wk rd bs starts plan (i + 1)) (tupOf upd_same)).upd (D := rl) (zs := xs ++ [.ref tp]) h6'.rl
        rw [← rowsM_succ] at R6
        have ebr : brM plan (i + 1) = r := by
          unfold brM
          rw [if_neg (by omega)]
          exact getD_some hr1
        have ewt : wtM wk rd bs starts plan (i + 1) = waitsI wt tk r br st r.length := by
          show waitsI (wtM wk rd bs starts plan i) (tkM wk rd bs starts plan i) (plan.getD i []) (brM plan i) (bs.getD i 0).toNat (plan.getD i []).length = _
          rw [htk, hwt, hbr, getD_some hr1, hbd]
        refine ⟨xs ++ [.ref tp], l2, _, _, _, _, _, _, _, _, rfl, upd_same, R6, ?_, ?_, Evl.Ex.mut h6'.ex nrl⟩
        · rw [upd_ne rwne.symm, ewt]
          exact h6'.wl
        · rw [upd_ne nrl2.symm, ebr]
          exact e6' _ _ hl2'
    · rw [decide_eq_false hq]
      refine iteT ⟨fun σ3 H4 => ∃ (qxs : List V) (qs : List (Int × Int)) (rds : List Int) (y11 y12 y13 : Option V),
        σ3 = [some (.ref ra), some (.ref sa), some (.ref pa), some (.ref rl), some (.ref wl), some (.ref ll), some (.int (i : Int)), some (.ref rt), some (.ref rdl), some (.ref al), some (.ref ql), y11, y12, y13] ∧
        qs.Perm ((queueM tk r).drop (k + 1)) ∧ rds.Perm ((bikesM tk br st).drop (k + 1)) ∧ Hr K H H4 rl wl al rdl ql xs qxs (rowsM wk rd bs starts plan i) (waitsI wt tk r br st (k + 1)) (afterM tk r br st rd (k + 1)) rds qs, ?_, ?_⟩
      · rintro σ3 H4 ⟨qxs, qs2, rds, z11, z12, z13, rfl, a1, a2, a3⟩
        have q1 : 0 < qs.length := List.length_pos_iff.mpr hq
        exact ⟨r.length - (k + 1), by omega, k + 1, qxs, qs2, rds, z11, z12, z13, rfl, by omega, rfl, a1, a2, a3⟩
      have q1 : 0 < qs.length := List.length_pos_iff.mpr hq
      have kr : k < r.length := by omega
      -- tick, person = min(queue)
      refine ⟨.ref ql, rfl, ql, qxs, qs, rfl, lstOf hh1.ql, hh1.pr, hq, fun tm mm htm hmm hle => ?_⟩
      obtain ⟨hS1, hS2⟩ := least_next (srtP_sorted _) pq hmm hle
      have hmem : ∃ p ∈ r, mm = (tickAt tk p, (p : Int)) := by
        obtain ⟨p, hp, e⟩ := List.mem_map.mp ((srtP_perm _).mem_iff.mp (List.mem_of_getElem? hS1))
        exact ⟨p, hp, e.symm⟩
      obtain ⟨p, hp, rfl⟩ := hmem
      refine ⟨tm, _, rfl, tupOf htm, rfl, .int (tickAt tk p), [.int (p : Int)], rfl, .int (p : Int), [], rfl, rfl, ?_⟩
      -- queue.remove
      obtain ⟨j, hj1, hj2⟩ := first_idx hmm
      refine ⟨.ref ql, rfl, .inl ⟨rfl, _, lstOf hh1.ql⟩, .int (tickAt tk p), rfl, .int (p : Int), rfl, by show 2 ≤ sizeLine; decide, fun t4 nt4 => ?_⟩
      have hh2 := hh1.more (Evl.Ex.new (o := .tup [.int (tickAt tk p), .int (p : Int)]) nt4)
      refine ⟨ql, t4, qxs, qs, (tickAt tk p, (p : Int)), j, rfl, rfl, hh2.ql, hh2.pr, upd_same, hj1, hj2, ?_⟩
      have hh3 := hh2.setQ ds (hN nql0) (hh2.pr.erase j)
      -- first = min(ready)
      have rlen : rds.length = (bikesM tk br st).length - k := by rw [prd.length_eq, List.length_drop]
      rw [bikesM_len] at rlen
      refine ⟨.ref rdl, rfl, rdl, rds, rfl, lstOf hh3.rd, by omega, fun fm hfm hfle => ?_⟩
      obtain ⟨hB1, hB2⟩ := least_nextI (srt_sorted _) prd hfm hfle
      have hz : (pairsM tk r br st)[k]? = some ((tickAt tk p, (p : Int)), fm) := by
        unfold pairsM
        rw [List.getElem?_zip_eq_some]
        exact ⟨hS1, hB1⟩
      -- ready.remove
      obtain ⟨j2, hk1, hk2⟩ := first_idx hfm
      refine ⟨.ref rdl, rfl, .inl ⟨rfl, _, lstOf hh3.rd⟩, .int fm, rfl, rdl, rds, fm, j2, rfl, rfl, hh3.rd, hk1, hk2, ?_⟩
      have hh4 := hh3.setR (rds' := rds.eraseIdx j2) ds (hN nrd0)
      -- waits[person]
      have pw : p < wt.length := by rw [wtl]; exact rlt p hp
      have wat := waitsI_at (w0 := wt) rfew rnd hz
      simp only [Int.toNat_natCast] at wat
      have pwk : p < (waitsI wt tk r br st k).length := by rw [waitsI_len]; exact pw
      have ewv : (waitsI wt tk r br st k)[p] = wt.getD p 0 := by
        rw [List.getElem?_eq_getElem pwk, List.getElem?_eq_getElem pw] at wat
        rw [List.getD_eq_getElem?_getD, List.getElem?_eq_getElem pw]
        exact Option.some.inj wat
      refine ⟨.ref wl, rfl, .int (p : Int), rfl, wl, _, (p : Int), _, rfl, rfl, lstOf hh4.wl, at_ints pwk, .int fm, rfl, .int (tickAt tk p), rfl, fm, tickAt tk p, rfl, rfl, 0, fm - tickAt tk p, rfl, _, _, rfl, rfl, ?_⟩
      refine ⟨.ref wl, rfl, .int (p : Int), rfl, wl, _, (p : Int), p, rfl, rfl, hh4.wl, Evl.ixN_nat (by rw [List.length_map]; exact pwk), ?_⟩
      have ew : waitsI wt tk r br st (k + 1) = (waitsI wt tk r br st k).set p ((waitsI wt tk r br st k)[p] + mx 0 (fm - tickAt tk p)) := by
        rw [waitsI_succ hz, ewv]
        simp only [Int.toNat_natCast]
      have hh5 := hh4.setW (wt' := waitsI wt tk r br st (k + 1)) ds hw0
      rw [ew, List.map_set] at hh5
      -- after[person]
      refine ⟨.int fm, rfl, .int (tickAt tk p), rfl, fm, tickAt tk p, rfl, .ref ra, rfl, ra, _, 1, .int rd, rfl, rfl, Evl.ex_t hh5.ex hA, rfl, _, rd, rfl, rfl, ?_⟩
      have pa1 : p < (afterM tk r br st rd k).length := by rw [afterM_len, tl]; exact rlt p hp
      refine ⟨.ref al, rfl, .int (p : Int), rfl, al, _, (p : Int), p, rfl, rfl, hh5.al, Evl.ixN_nat (by rw [List.length_map]; exact pa1), ?_⟩
      have ea : afterM tk r br st rd (k + 1) = (afterM tk r br st rd k).set p (mx fm (tickAt tk p) + rd) := by
        rw [afterM_succ hz]
        simp only [Int.toNat_natCast]
      have hh6 := hh5.setA (af' := afterM tk r br st rd (k + 1)) ds (hN nal0)
      rw [ea, List.map_set] at hh6
      refine ⟨qxs.eraseIdx j, qs.eraseIdx j, rds.eraseIdx j2, _, _, _, rfl, erase_next hj1 (hS2 ▸ pq), erase_next hk1 (hB2 ▸ prd), ?_⟩
      rw [ew, ea]
      exact hh6
  · rintro σ' H' ⟨xs, ll, y6, y7, y8, y9, y10, y11, y12, y13, rfl, h1, h2, h3, h4, h5⟩
    have hpl : pxs.length = bs.length := by rw [hPR.1, List.length_map, ok.len]
    rw [hpl] at h2 h3
    refine ⟨.ref rl, rfl, rl, xs, rfl, .inl ⟨lstOf h1, fun rt nrt => ?_⟩⟩
    have e2 := Evl.Ex.new (o := .tup xs) nrt
    refine ⟨.ref wl, rfl, wl, _, rfl, .inl ⟨lstOf (e2 _ _ h3), fun wt nwt => ?_⟩⟩
    have e3 := e2.trans (Evl.Ex.new (o := .tup ((wtM wk rd bs starts plan bs.length).map V.int)) nwt)
    refine ⟨by show 2 ≤ sizeLine; decide, fun p np => ?_⟩
    have e4 := Evl.Ex.new (o := .lst [.ref rt, .ref wt]) np
    exact q p rt wt xs _ (h5.trans (e3.trans e4)) upd_same (tupNew (tupNew (tupOf upd_same) nwt) np) (h2.ex (e3.trans e4)) (tupNew (tupOf upd_same) np)
end

end Rb
namespace Rb
open PySem PySem.Spec PyProof.Rows L2
section
variable {P : Program} {w : World} {K : PySem.W.Frag} {mg : Str → Option Value} {base : Heap}
def rowsD (rows : List (List Int)) : PyData := .tuple (rows.map fun r => .tuple (r.map .int))
theorem niceRoad {wk rd : Int} {bs : List Int} (w1 : 2 ≤ wk) (w2 : wk ≤ 1000) (r1 : 1 ≤ rd) (r2 : rd < wk) (l2 : bs.length ≤ 12) (hb : ∀ b ∈ bs, 0 ≤ b ∧ b ≤ 12) : Nice 2 100 (roadD wk rd bs) := by
  refine Nice.tup (k := 1) (n := 12) (fun x hx => ?_) (by show 3 * (12 + 1) ≤ 100; decide)
  simp only [List.mem_cons, List.not_mem_nil, or_false] at hx
  rcases hx with rfl | rfl | rfl
  · exact (Nice.int (by omega)).mono (by decide) (by decide)
  · exact (Nice.int (by omega)).mono (by decide) (by decide)
  · exact Nice.ints (fun b hm => by have := hb b hm; omega) l2
theorem niceRows {rows : List (List Int)} {m n : Nat} (hm : rows.length ≤ m) (hn : ∀ r ∈ rows, r.length ≤ n ∧ ∀ x ∈ r, x.natAbs < 10 ^ 99) : Nice 2 (m * (n + 1)) (rowsD rows) := by
  refine Nice.tup (k := 1) (n := n) (fun x hx => ?_) (by rw [List.length_map]; exact Nat.mul_le_mul_right _ hm)
  obtain ⟨r, hr, rfl⟩ := List.mem_map.mp hx
  exact Nice.ints (hn r hr).2 (hn r hr).1
theorem Plan.dp {H : Hp} {v : V} {plan : List (List Nat)} (h : Plan K H v plan) : Dp K H v (rowsD (plan.map nI)) := by
  obtain ⟨a, xs, rfl, h1, h2⟩ := h
  exact .tup h1 (TpAll.dp _ _ h2.tp)
theorem planRows {bs : List Int} {n : Nat} {plan : List (List Nat)} (ok : PlanOk bs n plan) (hn : n ≤ 10) : ∀ r ∈ plan.map nI, r.length ≤ 10 ∧ ∀ x ∈ r, x.natAbs < 10 ^ 99 := by
  intro r hr
  obtain ⟨q, hq, rfl⟩ := List.mem_map.mp hr
  have lt := ok.lt q hq
  refine ⟨?_, fun x hx => ?_⟩
  · unfold nI
    rw [List.length_map]
    exact Nat.le_trans (nodup_le ((ok.asc q hq).imp fun h => Nat.ne_of_lt h) lt) hn
  · obtain ⟨p, hp, rfl⟩ := List.mem_map.mp hx
    have := lt p hp
    omega
theorem rows_nice {wk rd : Int} {bs starts : List Int} {plan : List (List Nat)} (w1 : 0 ≤ wk) (w2 : wk ≤ 1000) (r1 : 0 ≤ rd) (r2 : rd ≤ 1000) (hl : bs.length ≤ 12) (hs : starts.length ≤ 10) (hS : ∀ x ∈ starts, 0 ≤ x ∧ x ≤ 1000000) : Nice 2 (13 * 11) (rowsD (rowsM wk rd bs starts plan bs.length)) := by
  refine niceRows (m := 13) (n := 10) (by rw [rowsM_len]; omega) fun r hr => ?_
  obtain ⟨i, hi, rfl⟩ := List.mem_map.mp hr
  refine ⟨by rw [tkM_len]; exact hs, fun x hx => ?_⟩
  have := tk_bnd (M := 1000000) (bikes := bs) (plan := plan) (by decide) hS ⟨w1, w2⟩ ⟨r1, r2⟩ i x hx
  have := List.mem_range.mp hi
  omega
end

end Rb
namespace Rb
open PySem PySem.Spec PyProof.Rows L2
section
variable {P : Program} {w : World} {K : PySem.W.Frag} {mg : Str → Option Value} {base : Heap}
theorem Plan.keep {H H' : Hp} {v : V} {plan : List (List Nat)} (h : Plan K H v plan) (k : ∀ a ys, SqT K H a ys → SqT K H' a ys) : Plan K H' v plan := by
  obtain ⟨a, xs, rfl, h1, h2⟩ := h
  exact ⟨a, xs, rfl, k _ _ h1, h2.keep k⟩
theorem Road.keep {H H' : Hp} {v : V} {w r : Int} {bs : List Int} (x : Road K H v w r bs) (k : ∀ a ys, SqT K H a ys → SqT K H' a ys) : Road K H' v w r bs := by
  obtain ⟨a, b, e, h1, h2⟩ := x
  exact ⟨a, b, e, k _ _ h1, k _ _ h2⟩
theorem Ints.keep {H H' : Hp} {v : V} {ns : List Int} (h : Ints K H v ns) (k : ∀ a ys, SqT K H a ys → SqT K H' a ys) : Ints K H' v ns := by
  obtain ⟨a, rfl, h1⟩ := h
  exact ⟨a, rfl, k _ _ h1⟩
theorem Dk.upd {H : Hp} {d c D : Addr} {N : Int} {o : HO} (h : Dk H d c N) (h1 : D ≠ d) (h2 : D ≠ c) : Dk (upd H D o) d c N := by
  obtain ⟨cs, n, g1, g2, g3⟩ := h
  exact ⟨cs, n, by rw [upd_ne h1.symm]; exact g1, by rw [upd_ne h2.symm]; exact g2, g3⟩
theorem tk_ne {wk rd : Int} {bs starts : List Int} {plan : List (List Nat)} {i : Nat} (h : starts ≠ []) : tkM wk rd bs starts plan i ≠ [] := by
  intro e
  have := tkM_len (walk := wk) (ride := rd) (bikes := bs) (starts := starts) (plan := plan) i
  rw [e] at this
  exact h (List.eq_nil_of_length_eq_zero this.symm)
end

end Rb
namespace Rb
open PySem PySem.Spec PyProof.Rows L2
section
variable {P : Program} {w : World} {K : PySem.W.Frag} {mg : Str → Option Value} {base : Heap}
def ridesM (plan : List (List Nat)) (p : Nat) : Nat := (plan.filter fun r => decide (p ∈ r)).length
def spMove (K : PySem.W.Frag) : Sp := fun vs H Q _ => ∃ (rv pl : V) (p : Nat) (wk rd : Int) (bs : List Int) (plan : List (List Nat)), vs = [rv, pl, .int (p : Int)] ∧ Road K H rv wk rd bs ∧ Plan K H pl plan ∧ plan.length ≤ 1000 ∧ 0 ≤ wk ∧ wk ≤ 1000 ∧ 0 ≤ rd ∧ rd ≤ 1000 ∧
  ∀ H', Evl.Ex H H' → Q (.int (rd * (ridesM plan p : Int) + wk * ((bs.length : Int) - (ridesM plan p : Int)))) H'
theorem rides_range (plan : List (List Nat)) (p : Nat) : ((List.range plan.length).filter fun i => decide (p ∈ plan.getD i [])).length = ridesM plan p := by
  unfold ridesM
  have e : plan = (List.range plan.length).map fun i => plan.getD i [] := by
    apply List.ext_getElem?
    intro i
    rw [List.getElem?_map]
    by_cases h : i < plan.length
    · rw [List.getElem?_range h, List.getElem?_eq_getElem h]
      simp [List.getD_eq_getElem?_getD, List.getElem?_eq_getElem h]
    · rw [List.getElem?_eq_none (by omega), List.getElem?_eq_none (by rw [List.length_range]; omega)]
      rfl
  conv => rhs; rw [e]
  rw [List.filter_map, List.length_map]
  rfl
theorem ok_moving_ticks (T : Tx K mg) : FnOk P w K mg base CX0 1 T.f_moving_ticks T.fd_moving_ticks ["road", "plan", "person"] (spMove K) := by
  refine T.F_moving_ticks.ok sc_moving_ticks (fun vs H Q E h => ?_) (fun cdv A outer s H vs Q E hr h => ?_)
  · obtain ⟨rv, pl, p, wk, rd, bs, plan, rfl, _⟩ := h
    rfl
  obtain ⟨rv, pl, p, wk, rd, bs, plan, rfl, ⟨ra, rb, rfl, hA, hB⟩, ⟨pa, xs, rfl, hP, hX⟩, hl, w1, w2, r1, r2, q⟩ := h
  refine ⟨_, (pss_cons (ps_asg (pv 0) (pg_tup rfl (pgs_cons (pg_name (i := 3) sc_moving_ticks.nd rfl (.inl rfl)) (pgs_cons (pg_name (i := 4) sc_moving_ticks.nd rfl (.inl rfl)) (pgs_cons (pg_name (i := 5) sc_moving_ticks.nd rfl (.inl rfl)) pgs_nil)))))
 (pss_cons (ps_set (i := 6) sc_moving_ticks.nd rfl (.inl rfl) (pe_callB (show CallR _ (.builtin "len") (Evl.rLenS K) from call_len_seq) (by rfl) T.z_len PySem.boot_len (pa_cons (pe_lc (own := [("riders", 7)]) (g := gName 7) (by rfl) sc_moving_ticks.nd (pi_tup (pv 1)) (blkOk_by (own := [("riders", 7)]) (N := N_moving_ticks) (sc := defScope s_moving_ticks) (by decide +kernel)) (fun _ _ _ _ _ => (pg_name (i := 7) sc_moving_ticks.nd rfl (.inl rfl))) (fun _ _ _ _ _ => (pts_one (pt_cmpR (show OpR _ (compareOp .In) (rIn K false) from op_in_seq) (pv 2) (pv 7) (by rfl)))) (fun _ _ _ _ _ => (pv 7))) pa_nil)))
 (pss_one (ps_ret (pe_op op_add (pe_op op_mul (pv 4) (pv 6)) (pe_op op_mul (pv 3) (pe_op op_sub (pe_callB (show CallR _ (.builtin "len") (Evl.rLenS K) from call_len_seq) (by rfl) T.z_len PySem.boot_len (pa_cons (pv 5) pa_nil)) (pv 6)))))))), ?_⟩
  refine ⟨.ref ra, rfl, ra, _, rfl, hA, rfl, .int wk, _, rfl, .int rd, _, rfl, .ref rb, _, rfl, rfl, ?_⟩
  refine ⟨.ref pa, rfl, pa, rfl, ⟨_, hP⟩, fun D nD => ?_⟩
  have xl : xs.length = plan.length := by rw [hX.1, List.length_map]
  refine lc_filtT (fun i => decide (p ∈ plan.getD i [])) hP nD (fun _ => rfl) (by omega) ?_ ?_ ?_
  · intro i x H3 hx e3 Q2 hQ
    have il : i < plan.length := by
      have := (List.getElem?_eq_some_iff.mp hx).1
      omega
    obtain ⟨t, g1, g2⟩ := hX.2 i (nI plan[i]) (by rw [List.getElem?_map, List.getElem?_eq_getElem il]; rfl)
    rw [hx] at g1
    cases g1
    refine ⟨.int (p : Int), rfl, .ref t, rfl, t, _, rfl, .inr (Evl.ex_t e3 g2), rfl, flat_ints _, _, rfl, ?_⟩
    rw [if_neg Bool.false_ne_true, inV_nI]
    have h := hQ H3 (Evl.Ex.refl _)
    rw [getD_some (List.getElem?_eq_getElem il)] at h
    exact h
  · intro i x H3 hx e3 Q2 hQ
    exact ⟨x, rfl, hQ H3 (Evl.Ex.refl _)⟩
  intro ys H1 e1 hD hy
  have yl : ys.length = ridesM plan p := by
    rw [hy, List.length_map, xl, rides_range]
  have rle : ridesM plan p ≤ 1000 := by
    unfold ridesM
    exact Nat.le_trans (List.length_filter_le _ _) hl
  refine ⟨D, _, rfl, .inl (lstOf hD), ?_⟩
  refine ⟨.int rd, rfl, _, rfl, rd, _, rfl, rfl, .inl ⟨by omega, by omega⟩, .int wk, rfl, .ref rb, rfl, rb, _, rfl, .inr (Evl.ex_t e1 hB), _, rfl, _, _, rfl, rfl, wk, _, rfl, rfl, .inl ⟨by omega, by omega⟩, _, _, rfl, rfl, ?_⟩
  rw [yl, List.length_map]
  exact q H1 e1
def spWaits (K : PySem.W.Frag) : Sp := fun vs H Q _ => ∃ (rv sv pl : V) (wk rd : Int) (bs starts : List Int) (plan : List (List Nat)), vs = [rv, sv, pl] ∧ Road K H rv wk rd bs ∧ Ints K H sv starts ∧ Plan K H pl plan ∧
  PlanOk bs starts.length plan ∧ bs.length ≤ 100 ∧ (∀ b ∈ bs, b ≤ 12) ∧ starts.length ≤ 40 ∧ 0 ≤ wk ∧ wk ≤ 1000 ∧ 0 ≤ rd ∧ rd ≤ 1000 ∧
  ∀ p H', Evl.Ex H H' → SqT K H' p ((wtM wk rd bs starts plan bs.length).map V.int) → Q (.ref p) H'
theorem ok_waits_of (T : Tx K mg) : FnOk P w K mg base CX0 3 T.f_waits_of T.fd_waits_of ["road", "starts", "plan"] (spWaits K) := by
  have G_ticks_of := ok_ticks_of (P := P) (w := w) (base := base) T
  have G_moving_ticks := ok_moving_ticks (P := P) (w := w) (base := base) T
  refine T.F_waits_of.ok sc_waits_of (fun vs H Q E h => ?_) (fun cdv A outer s H vs Q E hr h => ?_)
  · obtain ⟨rv, sv, pl, wk, rd, bs, starts, plan, rfl, _⟩ := h
    rfl
  obtain ⟨rv, sv, pl, wk, rd, bs, starts, plan, rfl, hR, ⟨sa, rfl, hS⟩, hP, ok, hbl, hb12, hsl, w1, w2, r1, r2, q⟩ := h
  refine ⟨_, (pss_cons (ps_set (i := 3) sc_waits_of.nd rfl (.inr rfl) (pe_ix (show IxR _ (rIxT K) from ix_tup) (pe_call G_ticks_of hr (by rfl) T.g_ticks_of T.F_ticks_of.kp T.b_ticks_of .nil pass0 (pa_cons (pv 0) (pa_cons (pv 1) (pa_cons (pv 2) pa_nil)))) (pe_un un_neg pe_int) (fun _ _ => rfl)))
 (pss_one (ps_ret (pe_callTy (show CallR _ (.type "tuple") (rTupS K) from call_tuple_of) (by rfl) T.z_tuple (by decide +kernel) (pa_cons (pe_lc (own := [("person", 4), ("start", 5)]) (g := gTup K 2 (gCons (gName 4) (gCons (gName 5) (gNil)))) (tt := tYes) (by rfl) sc_waits_of.nd (pi_enumT (by rfl) T.z_enumerate (pa_cons (pv 1) pa_nil)) (blkOk_by (own := [("person", 4), ("start", 5)]) (N := N_waits_of) (sc := defScope s_waits_of) (by decide +kernel)) (fun _ _ _ _ _ => (pg_tup rfl (pgs_cons (pg_name (i := 4) sc_waits_of.nd rfl (.inl rfl)) (pgs_cons (pg_name (i := 5) sc_waits_of.nd rfl (.inl rfl)) pgs_nil)))) (fun _ _ _ _ _ => pts_nil) (fun _ _ _ _ _ => (pe_op op_sub (pe_op op_sub (pe_ix (show IxR _ (rIxT K) from ix_tup) (pv 3) (pv 4) (fun _ _ => rfl)) (pv 5)) (pe_call G_moving_ticks (hr.mono (by decide)) (by rfl) T.g_moving_ticks T.F_moving_ticks.kp T.b_moving_ticks .nil pass0 (pa_cons (pv 0) (pa_cons (pv 2) (pa_cons (pv 4) pa_nil))))))) pa_nil))))), ?_⟩
  refine ⟨rv, rfl, .ref sa, rfl, pl, rfl, rv, .ref sa, pl, wk, rd, bs, starts, plan, rfl, hR, ⟨sa, rfl, hS⟩, hP, ok, hbl, hb12, hsl, fun tp xs H1 e1 hp hx => ?_⟩
  obtain ⟨lt, h1, h2⟩ := hx.2 bs.length _ (rowsM_at (Nat.le_refl _))
  refine ⟨1, rfl, tp, _, -1, .ref lt, rfl, rfl, hp, at_last (by rw [hx.1, rowsM_len]) h1, ?_⟩
  have tl := tkM_len (walk := wk) (ride := rd) (bikes := bs) (starts := starts) (plan := plan) bs.length
  have wl := wtM_len (walk := wk) (ride := rd) (bikes := bs) (starts := starts) (plan := plan) bs.length
  refine ⟨.ref sa, rfl, sa, _, rfl, Evl.ex_t e1 hS, fun D nD => ?_⟩
  refine lc_enumMapT (j := 4) (l := 5) (fun p _ => .int ((wtM wk rd bs starts plan bs.length).getD p 0)) (Evl.ex_t e1 hS) nD (fun _ _ => rfl) ?_ ?_ ?_
  · rw [List.length_map]
    omega
  · intro p x H3 hx3 e3 Q2 hQ
    rw [List.getElem?_map] at hx3
    obtain ⟨s0, hs0, rfl⟩ := Option.map_eq_some_iff.mp hx3
    have pl2 : p < starts.length := (List.getElem?_eq_some_iff.mp hs0).1
    obtain ⟨t, ww, s1, g1, g2, g3, g4⟩ := ticks_waits (walk := wk) (ride := rd) ok pl2 bs.length (by rw [ok.len]; exact Nat.le_refl _)
    rw [hs0] at g3
    cases g3
    have at1 : atI ((tkM wk rd bs starts plan bs.length).map V.int) (p : Int) = some (.int t) := by
      refine atI_nat (j := p) ?_
      rw [List.getElem?_map, g1]
      rfl
    refine ⟨.ref lt, rfl, .int (p : Int), rfl, lt, _, (p : Int), .int t, rfl, rfl, Evl.ex_t e3 h2, at1, .int s0, rfl, t, s0, rfl, rfl, ?_⟩
    refine ⟨rv, rfl, pl, rfl, .int (p : Int), rfl, rv, pl, p, wk, rd, bs, plan, rfl, hR.ex (e1.trans e3), hP.ex (e1.trans e3), by rw [ok.len]; omega, w1, w2, r1, r2, fun H4 e4 => ?_⟩
    refine ⟨_, _, rfl, rfl, ?_⟩
    have em : rd * (ridesM plan p : Int) + wk * ((bs.length : Int) - (ridesM plan p : Int)) = mvM wk rd plan p bs.length := by
      have h := mv_rides (walk := wk) (ride := rd) (plan := plan) (p := p) bs.length (by rw [ok.len]; exact Nat.le_refl _)
      rw [h, List.take_of_length_le (by rw [ok.len]; exact Nat.le_refl _)]
      rfl
    rw [em]
    show Q2 (.int (t - s0 - mvM wk rd plan p bs.length)) H4
    rw [g4]
    have h := hQ H4 e4
    rw [getD_some g2] at h
    exact h
  · intro H3 e3 hD
    have hD2 : H3 D = some (.lst ((wtM wk rd bs starts plan bs.length).map V.int)) := by
      rw [hD]
      congr 2
      apply List.ext_getElem?
      intro p
      rw [List.getElem?_mapIdx, List.getElem?_map, List.getElem?_map]
      by_cases c : p < starts.length
      · rw [List.getElem?_eq_getElem c, List.getElem?_eq_getElem (by rw [wl]; exact c)]
        simp [List.getD_eq_getElem?_getD, List.getElem?_eq_getElem (show p < (wtM wk rd bs starts plan bs.length).length by rw [wl]; exact c)]
      · rw [List.getElem?_eq_none (by omega), List.getElem?_eq_none (by rw [wl]; omega)]
        rfl
    refine ⟨D, _, rfl, .inl ⟨lstOf hD2, fun r nr => ?_⟩⟩
    exact q r _ (e1.trans (e3.trans (Evl.Ex.new nr))) (tupOf upd_same)
end

end Rb
namespace Rb
open PySem PySem.Spec PyProof.Rows L2
section
variable {P : Program} {w : World} {K : PySem.W.Frag} {mg : Str → Option Value} {base : Heap}
theorem emptyPlan {H : Hp} {p t0 : Addr} {bs : List Int} {n : Nat} (hp : SqT K H p (List.replicate bs.length [V.ref t0]).flatten) (h0 : SqT K H t0 []) (nn : ∀ b ∈ bs, 0 ≤ b) : Plan K H (.ref p) (List.replicate bs.length []) ∧ PlanOk bs n (List.replicate bs.length []) := by
  rw [rep_flat] at hp
  refine ⟨⟨p, _, rfl, hp, by rw [List.length_replicate, List.length_map, List.length_replicate], fun i r hr => ?_⟩, ⟨List.length_replicate, nn, fun r hr => ?_, fun r hr => ?_, fun i => ?_⟩⟩
  · rw [List.getElem?_map] at hr
    obtain ⟨q, hq, rfl⟩ := Option.map_eq_some_iff.mp hr
    have eq := List.eq_of_mem_replicate (List.mem_of_getElem? hq)
    subst eq
    have il := (List.getElem?_eq_some_iff.mp hq).1
    rw [List.length_replicate] at il
    exact ⟨t0, by rw [List.getElem?_replicate, if_pos il], h0⟩
  · rw [List.eq_of_mem_replicate hr]
    exact List.Pairwise.nil
  · rw [List.eq_of_mem_replicate hr]
    exact fun _ z => nomatch z
  · have e : (List.replicate bs.length ([] : List Nat)).getD i [] = [] := by
      rw [List.getD_eq_getElem?_getD, List.getElem?_replicate]
      split <;> rfl
    rw [e]
    exact Nat.zero_le _
def spLaw (K : PySem.W.Frag) : Sp := fun vs H Q _ => ∃ (a : Addr) (ns : List Int), vs = [.ref a] ∧ SqL K H a (ns.map V.int) ∧ ∀ H', Q (.bl true) H'
theorem ok_law (T : Tx K mg) : FnG P w K mg base CX0 4 T.f_law T.fd_law ["_law_script"] (spLaw K) := by
  have G__law_deck := ok__law_deck (P := P) (w := w) (base := base) T
  have G__law_draw := ok__law_draw (P := P) (w := w) (base := base) T
  have G__law_road := ok__law_road (P := P) (w := w) (base := base) T
  have G__law_starts := ok__law_starts (P := P) (w := w) (base := base) T
  have G__law_plan := ok__law_plan (P := P) (w := w) (base := base) T
  have G__law_run := ok__law_run (P := P) (w := w) (base := base) T
  have G__law_same := ok__law_same (P := P) (w := w) (base := base) T
  have G_waits_of := ok_waits_of (P := P) (w := w) (base := base) T
  refine okG T.F_law sc_law (fun vs H Q E h => ?_) (fun cdv A outer s H vs Q E hg hr h => ?_)
  · obtain ⟨a, ns, rfl, _⟩ := h
    rfl
  obtain ⟨a, ns, rfl, hS, q⟩ := h
  refine ⟨_, (pss_cons (ps_set (i := 1) sc_law.nd rfl (.inr rfl) (pe_call G__law_deck (hr.mono (by decide)) (by rfl) T.g__law_deck T.F__law_deck.kp T.b__law_deck .nil pass0 (pa_cons (pv 0) pa_nil)))
 (pss_cons (ps_for PassesOwn.never rfl (pi_range1 (by rfl) T.z_range (pa_cons pe_int pa_nil)) (pg_name (i := 2) sc_law.nd rfl (.inl rfl))
 (pss_cons (ps_set (i := 3) sc_law.nd rfl (.inr rfl) (pe_call G__law_road (hr.mono (by decide)) (by rfl) T.g__law_road T.F__law_road.kp T.b__law_road .nil pass0 (pa_cons (pv 1) (pa_cons (pe_ix (show IxR _ (rIxL K) from ix_list) (pe_lst (pa_cons pe_int (pa_cons pe_int (pa_cons pe_int pa_nil)))) (pe_op op_mod (pv 2) pe_int) (fun _ _ => rfl)) (pa_cons (pe_ix (show IxR _ (rIxL K) from ix_list) (pe_lst (pa_cons pe_int (pa_cons pe_int (pa_cons pe_int pa_nil)))) (pe_op op_fdivW (pv 2) pe_int) (fun _ _ => rfl)) pa_nil)))))
 (pss_cons (ps_set (i := 4) sc_law.nd rfl (.inr rfl) (pe_call G__law_starts (hr.mono (by decide)) (by rfl) T.g__law_starts T.F__law_starts.kp T.b__law_starts .nil pass0 (pa_cons (pv 1) (pa_cons (pe_ix (show IxR _ (rIxL K) from ix_list) (pe_lst (pa_cons pe_int (pa_cons pe_int (pa_cons pe_int pa_nil)))) (pe_op op_mod (pv 2) pe_int) (fun _ _ => rfl)) (pa_cons (pe_ix (show IxR _ (rIxL K) from ix_list) (pe_lst (pa_cons pe_int (pa_cons (pe_op op_pow pe_int pe_int) pa_nil))) (pe_call G__law_draw (hr.mono (by decide)) (by rfl) T.g__law_draw T.F__law_draw.kp T.b__law_draw .nil pass0 (pa_cons (pv 1) (pa_cons pe_int pa_nil))) (fun _ _ => rfl)) pa_nil)))))
 (pss_one (ps_for PassesOwn.never rfl (pi_list (pe_op op_cat (pe_lc (own := [("_law_k", 9)]) (g := gName 9) (tt := tYes) (by rfl) sc_law.nd (pi_range1 (by rfl) T.z_range (pa_cons pe_int pa_nil)) (blkOk_by (own := [("_law_k", 9)]) (N := N_law) (sc := defScope s_law) (by decide +kernel)) (fun _ _ _ _ _ => (pg_name (i := 9) sc_law.nd rfl (.inl rfl))) (fun _ _ _ _ _ => pts_nil) (fun _ _ _ _ _ => (pe_call G__law_plan (hr.mono (by decide)) (by rfl) T.g__law_plan T.F__law_plan.kp T.b__law_plan .nil pass0 (pa_cons (pv 1) (pa_cons (pv 3) (pa_cons (pe_callB (show CallR _ (.builtin "len") (Evl.rLenS K) from call_len_seq) (by rfl) T.z_len PySem.boot_len (pa_cons (pv 4) pa_nil)) pa_nil)))))) (pe_lst (pa_cons (pe_op (show OpR _ (binaryOp .Mult) (rRepN K) from op_repN) (pe_tup (pa_cons (pe_tup pa_nil) pa_nil)) (pe_callB (show CallR _ (.builtin "len") (Evl.rLenS K) from call_len_seq) (by rfl) T.z_len PySem.boot_len (pa_cons (pe_ix (show IxR _ (rIxT K) from ix_tup) (pv 3) pe_int (fun _ _ => rfl)) pa_nil))) pa_nil)))) (pg_name (i := 5) sc_law.nd rfl (.inr rfl))
 (pss_cons (ps_par (i := 6) (j := 7) (by rfl) sc_law.nd rfl rfl (by decide) rfl rfl (pa_cons (pe_callB (show CallR _ (.builtin "repr") (rRepr K) from (call_reprD hg hr.units)) (by rfl) T.z_repr (by decide +kernel) (pa_cons (pe_lst (pa_cons (pv 3) (pa_cons (pv 4) (pa_cons (pv 5) pa_nil)))) pa_nil)) (pa_cons (pe_ix (show IxR _ (rIxL K) from ix_list) (pe_call G__law_run (hr.mono (by decide)) (by rfl) T.g__law_run T.F__law_run.kp T.b__law_run .nil pass0 (pa_cons (pv 3) (pa_cons (pv 4) (pa_cons (pv 5) pa_nil)))) pe_int (fun _ _ => rfl)) pa_nil)) (by rfl))
 (pss_cons (ps_setLc (i := 8) (own := [("_law_again", 10)]) (g := gName 10) (tt := tYes) (by rfl) sc_law.nd rfl rfl (sw_true rfl rfl rfl (by decide +kernel)) (pi_range1 (by rfl) T.z_range (pa_cons pe_int pa_nil)) (blkOk_by (own := [("_law_again", 10)]) (N := N_law) (sc := defScope s_law) (by decide +kernel)) (fun _ _ _ _ _ => (pg_name (i := 10) sc_law.nd rfl (.inl rfl))) (fun _ _ _ _ _ => pts_nil) (fun _ _ _ _ _ => (pe_call G_waits_of hr (by rfl) T.g_waits_of T.F_waits_of.kp T.b_waits_of .nil pass0 (pa_cons (pv 3) (pa_cons (pv 4) (pa_cons (pv 5) pa_nil))))))
 (pss_one (ps_if (PW.pt (pw_or (pt_not (pt_val (pe_callG G__law_same hg (hr.mono (by decide)) (by rfl) T.g__law_same T.F__law_same.kp T.b__law_same .nil pass0 (pa_cons (pv 8) (pa_cons (pe_lst (pa_cons (pv 7) (pa_cons (pv 7) pa_nil))) pa_nil))))) (pw_or1 (pt_cmpR op_ne (pe_callB (show CallR _ (.builtin "repr") (rRepr K) from (call_reprD hg hr.units)) (by rfl) T.z_repr (by decide +kernel) (pa_cons (pe_lst (pa_cons (pv 3) (pa_cons (pv 4) (pa_cons (pv 5) pa_nil)))) pa_nil)) (pv 6) (nomark _)))))
 (pss_one (ps_ret pe_bl))
 pss_nil)))))))))
 (pss_one (ps_ret (pe_cmpR (show OpR _ (compareOp .Eq) (rEqD K) from (op_eqD hr.units)) (pe_call G_waits_of hr (by rfl) T.g_waits_of T.F_waits_of.kp T.b_waits_of .nil pass0 (pa_cons (pe_tup (pa_cons pe_int (pa_cons pe_int (pa_cons (pe_tup (pa_cons pe_int (pa_cons pe_int pa_nil))) pa_nil)))) (pa_cons (pe_tup (pa_cons pe_int (pa_cons pe_int pa_nil))) (pa_cons (pe_tup (pa_cons (pe_tup (pa_cons pe_int pa_nil)) (pa_cons (pe_tup (pa_cons pe_int pa_nil)) pa_nil))) pa_nil)))) (pe_tup (pa_cons pe_int (pa_cons pe_int pa_nil))) (nomark _)))))), ?_⟩
  refine ⟨.ref a, rfl, a, ns, rfl, hS, fun d c H1 dk e1 => ?_⟩
  refine ⟨9, rfl, by decide, by decide, ?_⟩
  refine for_range (lo := 0) (n := 9) (fun i σ' H' => ∃ (y2 y3 y4 y5 y6 y7 y8 y9 y10 : Option V), σ' = [some (.ref a), some (.ref d), y2, y3, y4, y5, y6, y7, y8, y9, y10] ∧ Dk H' d c (1000 * i)) ?_ ?_ ?_
  · exact ⟨none, none, none, none, none, none, none, none, none, rfl, dk⟩
  · rintro i σ' H' hi ⟨y2, y3, y4, y5, y6, y7, y8, y9, y10, rfl, dki⟩
    -- road
    refine ⟨.ref d, rfl, by show 3 ≤ sizeLine; decide, fun p1 np1 => ?_⟩
    obtain ⟨st, at1, stc⟩ := pick3i (x := 12) (y := 3) (z := 6) (r := (0 + (i : Int)) % 3) (Int.emod_nonneg _ (by decide)) (Int.emod_lt_of_pos _ (by decide))
    refine ⟨_, rfl, 0 + (i : Int), 3, rfl, rfl, by show (0 : Int) < 3; decide, p1, _, _, _, rfl, rfl, lstOf upd_same, at1, ?_⟩
    refine ⟨by show 3 ≤ sizeLine; decide, fun p2 np2 => ?_⟩
    obtain ⟨mo, at2, moc⟩ := pick3i (x := 1) (y := 12) (z := 3) (r := (0 + (i : Int)) / 3) (by omega) (by omega)
    refine ⟨_, rfl, 0 + (i : Int), 3, rfl, rfl, wide_div (b := 4) (by decide) (by decide) (by decide) (by decide), p2, _, _, _, rfl, rfl, lstOf upd_same, at2, ?_⟩
    refine ⟨d, c, _, st, mo, rfl, (dki.new np1).new np2, by omega, by omega, by omega, by omega, by omega, fun v wk rd bs H2 hR w1 w2 r1 r2 l1 l2 hb dk2 k2 => ?_⟩
    -- starts
    refine ⟨.ref d, rfl, by show 3 ≤ sizeLine; decide, fun p3 np3 => ?_⟩
    obtain ⟨pe, at3, pec⟩ := pick3i (x := 10) (y := 2) (z := 4) (r := (0 + (i : Int)) % 3) (Int.emod_nonneg _ (by decide)) (Int.emod_lt_of_pos _ (by decide))
    refine ⟨_, rfl, 0 + (i : Int), 3, rfl, rfl, by show (0 : Int) < 3; decide, p3, _, _, _, rfl, rfl, lstOf upd_same, at3, ?_⟩
    refine ⟨10, 6, rfl, rfl, ⟨by decide, by decide, by decide⟩, by show 2 ≤ sizeLine; decide, fun p4 np4 => ?_⟩
    refine ⟨.ref d, rfl, d, c, _, 2, rfl, (dk2.new np3).new np4, by omega, by decide, by decide, fun r5 H5 r5a r5b dk5 k5 => ?_⟩
    obtain ⟨la, at5, lac⟩ := pick2i (x := 30) (y := 10 ^ 6) r5a r5b
    refine ⟨p4, _, r5, _, rfl, rfl, lstOf (k5 p4 _ upd_same ((dk2.new np3).ne1 np4) ((dk2.new np3).ne2 np4)), at5, ?_⟩
    refine ⟨d, c, _, pe, la, rfl, dk5, by omega, by omega, by omega, by omega, by omega, fun sv starts H6 hI s1 s2 hs dk6 k6 => ?_⟩
    have K26 : Kp d c H2 H6 := (Kp.new np3).trans ((Kp.new np4).trans (k5.trans k6))
    have hR6 := hR.kp K26 dk2
    have nR := niceRoad (wk := wk) (rd := rd) (bs := bs) w1 w2 r1 r2 (by omega) (fun b hm => by have := hb b hm; constructor <;> omega)
    have nS : Nice 1 10 (.tuple (starts.map .int)) := Nice.ints (fun x hx => by have := hs x hx; omega) (by omega)
    have hbn : ∀ b ∈ bs, 0 ≤ b := fun b hm => (hb b hm).1
    have hb12 : ∀ b ∈ bs, b ≤ 12 := fun b hm => by have := hb b hm; omega
    have sne : starts ≠ [] := fun e => by rw [e] at s1; exact absurd s1 (by decide)
    obtain ⟨sa, rfl, hSa⟩ := id hI
    -- the plans
    refine ⟨4, rfl, by decide, by decide, fun D nD => ?_⟩
    have Dd := dk6.ne1 nD
    have Dc := dk6.ne2 nD
    refine lc_range (lo := 0) (n := 4) (fun k H7 => ∃ xs : List V, H7 D = some (.lst xs) ∧ xs.length = k ∧ (∀ x ∈ xs, ∃ plan, Plan K H7 x plan ∧ PlanOk bs starts.length plan) ∧ Road K H7 v wk rd bs ∧ Ints K H7 (.ref sa) starts ∧ Dk H7 d c (1000 * i + 62 + 200 * k)) ?_ ?_ ?_
    · exact ⟨[], upd_same, rfl, (fun _ z => nomatch z), hR6.ex (Evl.Ex.new nD), hI.ex (Evl.Ex.new nD), (dk6.new nD).le (by omega)⟩
    · rintro k H7 hk ⟨xs, h1, h2, h3, h4, h5, h6⟩
      refine ⟨rfl, ?_⟩
      obtain ⟨sa2, es, hSa7⟩ := id h5
      cases es
      refine ⟨.ref d, rfl, v, rfl, .ref sa, rfl, sa, _, rfl, .inr hSa7, ?_⟩
      rw [List.length_map]
      refine ⟨d, c, _, v, wk, rd, bs, starts.length, rfl, h6, by omega, h4, s1, by omega, by omega, (fun b hm => ⟨hbn b hm, hb12 b hm⟩), fun pv plan H8 hP ok dk8 k8 => ?_⟩
      have hD8 := k8 _ _ h1 Dd Dc
      refine ⟨xs, hD8, by rw [h2]; exact sz_lt (by omega), xs ++ [pv], upd_same, by rw [List.length_append, h2]; rfl, fun x hx => ?_, ?_, ?_, ?_⟩
      · rcases List.mem_append.mp hx with g | g
        · obtain ⟨pl, g1, g2⟩ := h3 x g
          exact ⟨pl, (g1.kp k8 h6).keep fun _ _ z => sqT_upd hD8 z, g2⟩
        · rw [List.mem_singleton.mp g]
          exact ⟨plan, hP.keep fun _ _ z => sqT_upd hD8 z, ok⟩
      · exact (h4.kp k8 h6).keep fun _ _ z => sqT_upd hD8 z
      · exact (h5.kp k8 h6).keep fun _ _ z => sqT_upd hD8 z
      · exact (dk8.upd Dd Dc).le (by omega)
    rintro H7 ⟨xs, h1, h2, h3, h4, h5, h6⟩
    -- nobody rides
    refine ⟨by show 0 ≤ sizeLine; decide, fun t0 nt0 => ?_⟩
    refine ⟨by show 1 ≤ sizeLine; decide, fun t1 nt1 => ?_⟩
    have e8 := (Evl.Ex.new (o := .tup []) nt0).trans (Evl.Ex.new (o := .tup [.ref t0]) nt1)
    obtain ⟨ra, rb, rfl, hA7, hB7⟩ := id h4
    refine ⟨.ref ra, rfl, ra, _, 2, .ref rb, rfl, rfl, Evl.ex_t e8 hA7, rfl, rb, _, rfl, .inr (Evl.ex_t e8 hB7), ?_⟩
    refine ⟨t1, (bs.map V.int).length, [.ref t0], rfl, rfl, tupOf upd_same, by simp, by rw [List.length_map]; exact l1, by rw [List.length_map]; omega, by show 1 ≤ 1000; decide, fun ep H9 e9 hep => ?_⟩
    rw [List.length_map] at hep
    have e79 := e8.trans e9
    have hE := emptyPlan (n := starts.length) hep (tupOf (e9 _ _ (Evl.Ex.new nt1 _ _ upd_same))) hbn
    refine ⟨by show 1 ≤ sizeLine; decide, fun el nel => ?_⟩
    have e10 := e79.trans (Evl.Ex.new (o := .lst [.ref ep]) nel)
    refine ⟨D, el, xs, [.ref ep], rfl, rfl, e10 _ _ h1, upd_same, by rw [h2]; exact sz_le (by show 4 + 1 ≤ 100000; decide), fun pl npl => ?_⟩
    have e11 := e10.trans (Evl.Ex.new (o := .lst (xs ++ [.ref ep])) npl)
    have hAll : ∀ x ∈ xs ++ [V.ref ep], ∃ plan, Plan K (upd (upd H9 el (.lst [.ref ep])) pl (.lst (xs ++ [.ref ep]))) x plan ∧ PlanOk bs starts.length plan := by
      intro x hx
      rcases List.mem_append.mp hx with g | g
      · obtain ⟨p, g1, g2⟩ := h3 x g
        exact ⟨p, g1.ex e11, g2⟩
      · rw [List.mem_singleton.mp g]
        exact ⟨_, hE.1.ex ((Evl.Ex.new nel).trans (Evl.Ex.new npl)), hE.2⟩
    have hR11 := h4.ex e11
    have hI11 := h5.ex e11
    have dk11 := h6.ex e11
    have hpl : (upd (upd H9 el (.lst [.ref ep])) pl (.lst (xs ++ [.ref ep]))) pl = some (.lst (xs ++ [.ref ep])) := upd_same
    refine ⟨pl, rfl, ⟨_, lstOf upd_same⟩, ?_⟩
    generalize upd (upd H9 el (.lst [.ref ep])) pl (.lst (xs ++ [.ref ep])) = H11 at hAll hR11 hI11 dk11 hpl
    refine for_list (xs := xs ++ [.ref ep]) (fun j σ' H' => ∃ (y2 y5 y6 y7 y8 y9 y10 : Option V), σ' = [some (.ref a), some (.ref d), y2, some (.ref ra), some (.ref sa), y5, y6, y7, y8, y9, y10] ∧ Evl.Ex H11 H') ?_ ?_ ?_ ?_
    · exact ⟨_, _, _, _, _, _, _, rfl, Evl.Ex.refl _⟩
    · rintro j σ' H12 hj ⟨_, _, _, _, _, _, _, _, e12⟩
      exact lstOf (e12 _ _ hpl)
    · rintro j pv σ' H12 hx ⟨z2, y5, y6, y7, y8, y9, y10, rfl, e12⟩
      obtain ⟨plan, hP11, ok⟩ := hAll pv (List.mem_of_getElem? hx)
      have hP := hP11.ex e12
      have hR8 := hR11.ex e12
      have hI8 := hI11.ex e12
      have nP : Nice 2 (12 * 11) (rowsD (plan.map nI)) := niceRows (m := 12) (n := 10) (by rw [List.length_map, ok.len]; omega) (planRows ok (by omega))
      have nAll : Nice 20 100000 (.list [roadD wk rd bs, .tuple (starts.map .int), rowsD (plan.map nI)]) := by
        refine Nice.mono (Nice.lst (k := 2) (n := 200) (m := 1000) (fun x hx => ?_) (by show 3 * (200 + 1) ≤ 1000; decide)) (by decide) (by decide)
        simp only [List.mem_cons, List.not_mem_nil, or_false] at hx
        rcases hx with rfl | rfl | rfl
        · exact nR.mono (by decide) (by decide)
        · exact nS.mono (by decide) (by decide)
        · exact nP.mono (by decide) (by decide)
      obtain ⟨sa2, es, hSa8⟩ := id hI8
      cases es
      -- before
      refine ⟨.ref ra, rfl, .ref sa, rfl, pv, rfl, by show 3 ≤ sizeLine; decide, fun p5 np5 => ?_⟩
      have e9 := Evl.Ex.new (o := .lst [.ref ra, .ref sa, pv]) np5
      refine ⟨.ref p5, _, rfl, .lst (lstOf upd_same) (.cons (hR8.ex e9).dp (.cons (Dp.tupI (Evl.ex_t e9 hSa8)) (.cons (hP.ex e9).dp .nil))), nAll.sh, nAll.dep, nAll.fits, ?_⟩
      -- due
      refine ⟨.ref ra, rfl, .ref sa, rfl, pv, rfl, .ref ra, .ref sa, pv, wk, rd, bs, starts, plan, rfl, hR8.ex e9, hI8.ex e9, hP.ex e9, ok, by omega, hb12, by omega, fun rp rt wt rxs H10 e10 hrp hrt hrw hwt => ?_⟩
      refine ⟨rp, _, 1, .ref wt, rfl, rfl, lstOf hrp, rfl, _, _, rfl, ?_⟩
      have e810 := e9.trans e10
      have nD : Nice 1 10 (.tuple ((wtM wk rd bs starts plan bs.length).map .int)) := by
        refine Nice.ints (fun x hx => ?_) (by rw [wtM_len]; omega)
        have := wt_bnd (M := 1000000) (walk := wk) (ride := rd) ok (by decide) hs ⟨by omega, by omega⟩ ⟨by omega, by omega⟩ bs.length (by rw [ok.len]; exact Nat.le_refl _) x hx
        omega
      -- found
      refine ⟨2, rfl, by decide, by decide, fun D2 nD2 => ?_⟩
      refine lc_tpR (K := K) (n := 2) (fun _ => .tuple ((wtM wk rd bs starts plan bs.length).map .int)) nD2 (fun _ => rfl) (by decide) (fun i2 H11 hi2 e11 Q2 hQ => ?_) (fun xs H11 e11 hD2 hX => ?_)
      · exact ⟨.ref ra, rfl, .ref sa, rfl, pv, rfl, .ref ra, .ref sa, pv, wk, rd, bs, starts, plan, rfl, hR8.ex (e810.trans e11), hI8.ex (e810.trans e11), hP.ex (e810.trans e11), ok, by omega, hb12, by omega, by omega, by omega, by omega, by omega, fun tp H12 e12 htp => hQ _ _ e12 (Tp.tupI htp)⟩
      -- the test
      refine ⟨.ref D2, rfl, .ref wt, rfl, .ref wt, rfl, by show 2 ≤ sizeLine; decide, fun p6 np6 => ?_⟩
      have e12' := Evl.Ex.new (o := .lst [.ref wt, .ref wt]) np6
      have dpt : Dp K (upd H11 p6 (.lst [.ref wt, .ref wt])) (.ref wt) (.tuple ((wtM wk rd bs starts plan bs.length).map .int)) := Dp.tupI (Evl.ex_t (e11.trans e12') hwt)
      have nSm : Nice 20 100000 (.list [.tuple ((wtM wk rd bs starts plan bs.length).map .int), .tuple ((wtM wk rd bs starts plan bs.length).map .int)]) := by
        refine Nice.mono (Nice.lst (k := 1) (n := 10) (m := 1000) (fun x hx => ?_) (by show 2 * (10 + 1) ≤ 1000; decide)) (by decide) (by decide)
        simp only [List.mem_cons, List.not_mem_nil, or_false, or_self] at hx
        cases hx
        exact nD
      refine ⟨.ref D2, .ref p6, _, rfl, .lst (lstOf (e12' _ _ hD2)) (TpAll.dp _ _ (hX.ex e12')), .lst (lstOf upd_same) (.cons dpt (.cons dpt .nil)), nSm, true, rfl, iteF ?_⟩
      have e812 := e810.trans (e11.trans e12')
      refine ⟨.ref ra, rfl, .ref sa, rfl, pv, rfl, by show 3 ≤ sizeLine; decide, fun p7 np7 => ?_⟩
      have e13 := e812.trans (Evl.Ex.new (o := .lst [.ref ra, .ref sa, pv]) np7)
      refine ⟨.ref p7, _, rfl, .lst (lstOf upd_same) (.cons (hR8.ex e13).dp (.cons (Dp.tupI (Evl.ex_t e13 hSa8)) (.cons (hP.ex e13).dp .nil))), nAll.sh, nAll.dep, nAll.fits, _, rfl, rfl, _, rfl, ?_⟩
      rw [decide_eq_true rfl]
      refine iteF ?_
      exact ⟨_, _, _, _, _, _, _, rfl, e12.trans e13⟩
    · rintro σ' H7 ⟨z2, y5, y6, y7, y8, y9, y10, rfl, e12⟩
      exact ⟨_, _, _, _, _, _, _, _, _, rfl, (dk11.ex e12).le (by omega)⟩
  · rintro σ' H' ⟨y2, y3, y4, y5, y6, y7, y8, y9, y10, rfl, dki⟩
    refine ⟨by show 2 ≤ sizeLine; decide, fun b1 nb1 => ?_⟩
    refine ⟨by show 3 ≤ sizeLine; decide, fun a1 na1 => ?_⟩
    refine ⟨by show 2 ≤ sizeLine; decide, fun s1 ns1 => ?_⟩
    refine ⟨by show 1 ≤ sizeLine; decide, fun q1 nq1 => ?_⟩
    refine ⟨by show 1 ≤ sizeLine; decide, fun q2 nq2 => ?_⟩
    refine ⟨by show 2 ≤ sizeLine; decide, fun pp npp => ?_⟩
    have f2 := Evl.Ex.new (o := .tup [.ref q1, .ref q2]) npp
    have f3 := (Evl.Ex.new (o := .tup [.int 0]) nq2).trans f2
    have f4 := (Evl.Ex.new (o := .tup [.int 1]) nq1).trans f3
    have f5 := (Evl.Ex.new (o := .tup [.int 0, .int 9]) ns1).trans f4
    have f6 := (Evl.Ex.new (o := .tup [.int 10, .int 4, .ref b1]) na1).trans f5
    refine ⟨.ref a1, .ref s1, .ref pp, 10, 4, [1, 0], [0, 9], [[1], [0]], rfl, ⟨a1, b1, rfl, tupOf (f5 _ _ upd_same), tupOf (f6 _ _ upd_same)⟩, ⟨s1, rfl, tupOf (f4 _ _ upd_same)⟩, ⟨pp, [.ref q1, .ref q2], rfl, tupOf upd_same, rfl, fun i r hr => ?_⟩, ?_, by decide, by decide, by decide, by decide, by decide, by decide, by decide, fun tp H8 e8 htp => ?_⟩
    · match i, hr with
      | 0, hr => cases hr; exact ⟨q1, rfl, tupOf (f3 _ _ upd_same)⟩
      | 1, hr => cases hr; exact ⟨q2, rfl, tupOf (f2 _ _ upd_same)⟩
      | i + 2, hr => cases hr
    · refine ⟨rfl, by decide, by decide, by decide, fun i => ?_⟩
      match i with
      | 0 => decide
      | 1 => decide
      | i + 2 => exact Nat.zero_le _
    · have et : wtM 10 4 [1, 0] [0, 9] [[1], [0]] ([1, 0] : List Int).length = [3, 0] := by decide +kernel
      rw [et] at htp
      refine ⟨by show 2 ≤ sizeLine; decide, fun p9 np9 => ?_⟩
      refine ⟨.tuple [.int 3, .int 0], .tuple [.int 3, .int 0], Dp.tupI (tupNew htp np9), Dp.tupI (ns := [3, 0]) (tupOf upd_same), by decide, by decide, ?_⟩
      rw [show PyData.eqv (.tuple [.int 3, .int 0]) (.tuple [.int 3, .int 0]) = true by decide]
      exact q _
end

end Rb
namespace Rb
open PySem PySem.Spec PyProof.Rows L2
theorem all_mk {l : PySem.W.OpenLaw} {w : World} {K : PySem.W.Frag} {h : Heap} {mg : Str → Option Value} {fa : Addr} (X : K.In h) (G : h.Ns mainGlobals mg) (hfa : mg "law" = some (.ref fa))
    {f0 : Addr} {od0 an0 : Option Addr} {sl0 : Array (Option Value)} {oc0 kV0 dc0 pm0 cd0 ct0 : Value}
    (a0 : PySem.W.nsIn K mainGlobals "ticks_of" = some (some (.ref f0)))
    (l0 : K.lookup f0 = some ⟨oc0, od0, .func (PySem.W.fnOf "ticks_of" "ticks_of" (defArgs s_ticks_of) (defBody s_ticks_of) (defScope s_ticks_of) .none kV0 dc0 pm0 an0 cd0 ct0), sl0⟩)
    (c0 : PySem.W.codeIn K cd0 "ticks_of" = true) (k0 : PySem.W.keepIn K (.ref f0) = true)
    {f1 : Addr} {od1 an1 : Option Addr} {sl1 : Array (Option Value)} {oc1 kV1 dc1 pm1 cd1 ct1 : Value}
    (a1 : PySem.W.nsIn K mainGlobals "bike_ticks" = some (some (.ref f1)))
    (l1 : K.lookup f1 = some ⟨oc1, od1, .func (PySem.W.fnOf "bike_ticks" "bike_ticks" (defArgs s_bike_ticks) (defBody s_bike_ticks) (defScope s_bike_ticks) .none kV1 dc1 pm1 an1 cd1 ct1), sl1⟩)
    (c1 : PySem.W.codeIn K cd1 "bike_ticks" = true) (k1 : PySem.W.keepIn K (.ref f1) = true)
    {f2 : Addr} {od2 an2 : Option Addr} {sl2 : Array (Option Value)} {oc2 kV2 dc2 pm2 cd2 ct2 : Value}
    (a2 : PySem.W.nsIn K mainGlobals "leaving_ticks" = some (some (.ref f2)))
    (l2 : K.lookup f2 = some ⟨oc2, od2, .func (PySem.W.fnOf "leaving_ticks" "leaving_ticks" (defArgs s_leaving_ticks) (defBody s_leaving_ticks) (defScope s_leaving_ticks) .none kV2 dc2 pm2 an2 cd2 ct2), sl2⟩)
    (c2 : PySem.W.codeIn K cd2 "leaving_ticks" = true) (k2 : PySem.W.keepIn K (.ref f2) = true)
    {f3 : Addr} {od3 an3 : Option Addr} {sl3 : Array (Option Value)} {oc3 kV3 dc3 pm3 cd3 ct3 : Value}
    (a3 : PySem.W.nsIn K mainGlobals "waits_of" = some (some (.ref f3)))
    (l3 : K.lookup f3 = some ⟨oc3, od3, .func (PySem.W.fnOf "waits_of" "waits_of" (defArgs s_waits_of) (defBody s_waits_of) (defScope s_waits_of) .none kV3 dc3 pm3 an3 cd3 ct3), sl3⟩)
    (c3 : PySem.W.codeIn K cd3 "waits_of" = true) (k3 : PySem.W.keepIn K (.ref f3) = true)
    {f4 : Addr} {od4 an4 : Option Addr} {sl4 : Array (Option Value)} {oc4 kV4 dc4 pm4 cd4 ct4 : Value}
    (a4 : PySem.W.nsIn K mainGlobals "moving_ticks" = some (some (.ref f4)))
    (l4 : K.lookup f4 = some ⟨oc4, od4, .func (PySem.W.fnOf "moving_ticks" "moving_ticks" (defArgs s_moving_ticks) (defBody s_moving_ticks) (defScope s_moving_ticks) .none kV4 dc4 pm4 an4 cd4 ct4), sl4⟩)
    (c4 : PySem.W.codeIn K cd4 "moving_ticks" = true) (k4 : PySem.W.keepIn K (.ref f4) = true)
    {f5 : Addr} {od5 an5 : Option Addr} {sl5 : Array (Option Value)} {oc5 kV5 dc5 pm5 cd5 ct5 : Value}
    (a5 : PySem.W.nsIn K mainGlobals "_law_deck" = some (some (.ref f5)))
    (l5 : K.lookup f5 = some ⟨oc5, od5, .func (PySem.W.fnOf "_law_deck" "_law_deck" (defArgs s__law_deck) (defBody s__law_deck) (defScope s__law_deck) .none kV5 dc5 pm5 an5 cd5 ct5), sl5⟩)
    (c5 : PySem.W.codeIn K cd5 "_law_deck" = true) (k5 : PySem.W.keepIn K (.ref f5) = true)
    {f6 : Addr} {od6 an6 : Option Addr} {sl6 : Array (Option Value)} {oc6 kV6 dc6 pm6 cd6 ct6 : Value}
    (a6 : PySem.W.nsIn K mainGlobals "_law_draw" = some (some (.ref f6)))
    (l6 : K.lookup f6 = some ⟨oc6, od6, .func (PySem.W.fnOf "_law_draw" "_law_draw" (defArgs s__law_draw) (defBody s__law_draw) (defScope s__law_draw) .none kV6 dc6 pm6 an6 cd6 ct6), sl6⟩)
    (c6 : PySem.W.codeIn K cd6 "_law_draw" = true) (k6 : PySem.W.keepIn K (.ref f6) = true)
    {f7 : Addr} {od7 an7 : Option Addr} {sl7 : Array (Option Value)} {oc7 kV7 dc7 pm7 cd7 ct7 : Value}
    (a7 : PySem.W.nsIn K mainGlobals "_law_same" = some (some (.ref f7)))
    (l7 : K.lookup f7 = some ⟨oc7, od7, .func (PySem.W.fnOf "_law_same" "_law_same" (defArgs s__law_same) (defBody s__law_same) (defScope s__law_same) .none kV7 dc7 pm7 an7 cd7 ct7), sl7⟩)
    (c7 : PySem.W.codeIn K cd7 "_law_same" = true) (k7 : PySem.W.keepIn K (.ref f7) = true)
    {f8 : Addr} {od8 an8 : Option Addr} {sl8 : Array (Option Value)} {oc8 kV8 dc8 pm8 cd8 ct8 : Value}
    (a8 : PySem.W.nsIn K mainGlobals "_law_road" = some (some (.ref f8)))
    (l8 : K.lookup f8 = some ⟨oc8, od8, .func (PySem.W.fnOf "_law_road" "_law_road" (defArgs s__law_road) (defBody s__law_road) (defScope s__law_road) .none kV8 dc8 pm8 an8 cd8 ct8), sl8⟩)
    (c8 : PySem.W.codeIn K cd8 "_law_road" = true) (k8 : PySem.W.keepIn K (.ref f8) = true)
    {f9 : Addr} {od9 an9 : Option Addr} {sl9 : Array (Option Value)} {oc9 kV9 dc9 pm9 cd9 ct9 : Value}
    (a9 : PySem.W.nsIn K mainGlobals "_law_starts" = some (some (.ref f9)))
    (l9 : K.lookup f9 = some ⟨oc9, od9, .func (PySem.W.fnOf "_law_starts" "_law_starts" (defArgs s__law_starts) (defBody s__law_starts) (defScope s__law_starts) .none kV9 dc9 pm9 an9 cd9 ct9), sl9⟩)
    (c9 : PySem.W.codeIn K cd9 "_law_starts" = true) (k9 : PySem.W.keepIn K (.ref f9) = true)
    {f10 : Addr} {od10 an10 : Option Addr} {sl10 : Array (Option Value)} {oc10 kV10 dc10 pm10 cd10 ct10 : Value}
    (a10 : PySem.W.nsIn K mainGlobals "_law_plan" = some (some (.ref f10)))
    (l10 : K.lookup f10 = some ⟨oc10, od10, .func (PySem.W.fnOf "_law_plan" "_law_plan" (defArgs s__law_plan) (defBody s__law_plan) (defScope s__law_plan) .none kV10 dc10 pm10 an10 cd10 ct10), sl10⟩)
    (c10 : PySem.W.codeIn K cd10 "_law_plan" = true) (k10 : PySem.W.keepIn K (.ref f10) = true)
    {f11 : Addr} {od11 an11 : Option Addr} {sl11 : Array (Option Value)} {oc11 kV11 dc11 pm11 cd11 ct11 : Value}
    (a11 : PySem.W.nsIn K mainGlobals "_law_run" = some (some (.ref f11)))
    (l11 : K.lookup f11 = some ⟨oc11, od11, .func (PySem.W.fnOf "_law_run" "_law_run" (defArgs s__law_run) (defBody s__law_run) (defScope s__law_run) .none kV11 dc11 pm11 an11 cd11 ct11), sl11⟩)
    (c11 : PySem.W.codeIn K cd11 "_law_run" = true) (k11 : PySem.W.keepIn K (.ref f11) = true)
    {f12 : Addr} {od12 an12 : Option Addr} {sl12 : Array (Option Value)} {oc12 kV12 dc12 pm12 cd12 ct12 : Value}
    (a12 : PySem.W.nsIn K mainGlobals "law" = some (some (.ref f12)))
    (l12 : K.lookup f12 = some ⟨oc12, od12, .func (PySem.W.fnOf "law" "law" (defArgs s_law) (defBody s_law) (defScope s_law) .none kV12 dc12 pm12 an12 cd12 ct12), sl12⟩)
    (c12 : PySem.W.codeIn K cd12 "law" = true) (k12 : PySem.W.keepIn K (.ref f12) = true)
    (z0 : PySem.W.nsIn K mainGlobals "abs" = some none)
    (z1 : PySem.W.nsIn K mainGlobals "enumerate" = some none)
    (z2 : PySem.W.nsIn K mainGlobals "int" = some none)
    (z3 : PySem.W.nsIn K mainGlobals "len" = some none)
    (z4 : PySem.W.nsIn K mainGlobals "list" = some none)
    (z5 : PySem.W.nsIn K mainGlobals "max" = some none)
    (z6 : PySem.W.nsIn K mainGlobals "min" = some none)
    (z7 : PySem.W.nsIn K mainGlobals "range" = some none)
    (z8 : PySem.W.nsIn K mainGlobals "repr" = some none)
    (z9 : PySem.W.nsIn K mainGlobals "sorted" = some none)
    (z10 : PySem.W.nsIn K mainGlobals "tuple" = some none)
    (z11 : PySem.W.nsIn K mainGlobals "zip" = some none)
    : ∃ fd : FuncData, (∀ (s : Shared) (v : Value), BindsTo s fd ⟨[v], []⟩ [("_law_script", v)]) ∧ ∀ base : Heap, K.In base → base.Ns mainGlobals mg → FnG l.prog w K mg base CX0 4 fa fd ["_law_script"] (spLaw K) := by
  cases hfa.symm.trans (PySem.W.mg_of X G a12)
  have F0 := fun_mk (st := s_ticks_of) l0 c0 k0
  have b0 := F0.binds (ps := ["road", "starts", "plan"]) fun _ _ _ _ _ _ us hl => match us, hl with | [_, _, _], _ => rfl
  have F1 := fun_mk (st := s_bike_ticks) l1 c1 k1
  have b1 := F1.binds (ps := ["ticks", "brought", "standing"]) fun _ _ _ _ _ _ us hl => match us, hl with | [_, _, _], _ => rfl
  have F2 := fun_mk (st := s_leaving_ticks) l2 c2 k2
  have b2 := F2.binds (ps := ["ticks", "riders", "bikes"]) fun _ _ _ _ _ _ us hl => match us, hl with | [_, _, _], _ => rfl
  have F3 := fun_mk (st := s_waits_of) l3 c3 k3
  have b3 := F3.binds (ps := ["road", "starts", "plan"]) fun _ _ _ _ _ _ us hl => match us, hl with | [_, _, _], _ => rfl
  have F4 := fun_mk (st := s_moving_ticks) l4 c4 k4
  have b4 := F4.binds (ps := ["road", "plan", "person"]) fun _ _ _ _ _ _ us hl => match us, hl with | [_, _, _], _ => rfl
  have F5 := fun_mk (st := s__law_deck) l5 c5 k5
  have b5 := F5.binds (ps := ["_law_script"]) fun _ _ _ _ _ _ us hl => match us, hl with | [_], _ => rfl
  have F6 := fun_mk (st := s__law_draw) l6 c6 k6
  have b6 := F6.binds (ps := ["_law_deck_here", "_law_limit"]) fun _ _ _ _ _ _ us hl => match us, hl with | [_, _], _ => rfl
  have F7 := fun_mk (st := s__law_same) l7 c7 k7
  have b7 := F7.binds (ps := ["_law_value", "_law_due"]) fun _ _ _ _ _ _ us hl => match us, hl with | [_, _], _ => rfl
  have F8 := fun_mk (st := s__law_road) l8 c8 k8
  have b8 := F8.binds (ps := ["_law_deck_here", "_law_stages", "_law_most"]) fun _ _ _ _ _ _ us hl => match us, hl with | [_, _, _], _ => rfl
  have F9 := fun_mk (st := s__law_starts) l9 c9 k9
  have b9 := F9.binds (ps := ["_law_deck_here", "_law_people", "_law_late"]) fun _ _ _ _ _ _ us hl => match us, hl with | [_, _, _], _ => rfl
  have F10 := fun_mk (st := s__law_plan) l10 c10 k10
  have b10 := F10.binds (ps := ["_law_deck_here", "_law_road_here", "_law_people"]) fun _ _ _ _ _ _ us hl => match us, hl with | [_, _, _], _ => rfl
  have F11 := fun_mk (st := s__law_run) l11 c11 k11
  have b11 := F11.binds (ps := ["_law_road_here", "_law_starts_here", "_law_plan_here"]) fun _ _ _ _ _ _ us hl => match us, hl with | [_, _, _], _ => rfl
  have F12 := fun_mk (st := s_law) l12 c12 k12
  have b12 := F12.binds (ps := ["_law_script"]) fun _ _ _ _ _ _ us hl => match us, hl with | [_], _ => rfl
  exact ⟨_, fun s v => .of_eq rfl, fun base _ _ => ok_law (⟨_, _, F0, PySem.W.mg_of X G a0, b0, _, _, F1, PySem.W.mg_of X G a1, b1, _, _, F2, PySem.W.mg_of X G a2, b2, _, _, F3, PySem.W.mg_of X G a3, b3, _, _, F4, PySem.W.mg_of X G a4, b4, _, _, F5, PySem.W.mg_of X G a5, b5, _, _, F6, PySem.W.mg_of X G a6, b6, _, _, F7, PySem.W.mg_of X G a7, b7, _, _, F8, PySem.W.mg_of X G a8, b8, _, _, F9, PySem.W.mg_of X G a9, b9, _, _, F10, PySem.W.mg_of X G a10, b10, _, _, F11, PySem.W.mg_of X G a11, b11, _, _, F12, PySem.W.mg_of X G a12, b12, PySem.W.mg_none_of X G z0, PySem.W.mg_none_of X G z1, PySem.W.mg_none_of X G z2, PySem.W.mg_none_of X G z3, PySem.W.mg_none_of X G z4, PySem.W.mg_none_of X G z5, PySem.W.mg_none_of X G z6, PySem.W.mg_none_of X G z7, PySem.W.mg_none_of X G z8, PySem.W.mg_none_of X G z9, PySem.W.mg_none_of X G z10, PySem.W.mg_none_of X G z11⟩ : Tx K mg)⟩
end Rb
open PySem PySem.W PyProof.Rows
set_option maxHeartbeats 0 in
theorem PySem.Challenge.cw_roadbikes_k07_waits_holds : PySem.Challenge.rw_roadbikes_k07_waits.Holds := by
  w_on; o_law; k_head; (case hw => w_witness2)
  k_fill
  refine Rb.endG (l := PySem.Challenge.rw_roadbikes_k07_waits) (n := 63) (lv := 4) (x := "_law_script") (sp := fun w => Rb.spLaw _) rfl (by decide) rfl ⟨rfl, by decide, by decide⟩ (fun w h Y => PySem.W.kIn_of Y) ?F (fun _ _ a ns hl hS => ⟨a, ns, rfl, hS, fun _ => rfl⟩)
  case F =>
    intro w mg fa h KX G hmg
    refine' Rb.all_mk KX G hmg ?a0 ?l0 ?c0 ?k0 ?a1 ?l1 ?c1 ?k1 ?a2 ?l2 ?c2 ?k2 ?a3 ?l3 ?c3 ?k3 ?a4 ?l4 ?c4 ?k4 ?a5 ?l5 ?c5 ?k5 ?a6 ?l6 ?c6 ?k6 ?a7 ?l7 ?c7 ?k7 ?a8 ?l8 ?c8 ?k8 ?a9 ?l9 ?c9 ?k9 ?a10 ?l10 ?c10 ?k10 ?a11 ?l11 ?c11 ?k11 ?a12 ?l12 ?c12 ?k12 ?z0 ?z1 ?z2 ?z3 ?z4 ?z5 ?z6 ?z7 ?z8 ?z9 ?z10 ?z11
    (case a0 => k_is); (case l0 => k_is); (case c0 => k_is); (case k0 => k_is); (case a1 => k_is); (case l1 => k_is); (case c1 => k_is); (case k1 => k_is); (case a2 => k_is); (case l2 => k_is); (case c2 => k_is); (case k2 => k_is); (case a3 => k_is); (case l3 => k_is); (case c3 => k_is); (case k3 => k_is); (case a4 => k_is); (case l4 => k_is); (case c4 => k_is); (case k4 => k_is); (case a5 => k_is); (case l5 => k_is); (case c5 => k_is); (case k5 => k_is); (case a6 => k_is); (case l6 => k_is); (case c6 => k_is); (case k6 => k_is); (case a7 => k_is); (case l7 => k_is); (case c7 => k_is); (case k7 => k_is); (case a8 => k_is); (case l8 => k_is); (case c8 => k_is); (case k8 => k_is); (case a9 => k_is); (case l9 => k_is); (case c9 => k_is); (case k9 => k_is); (case a10 => k_is); (case l10 => k_is); (case c10 => k_is); (case k10 => k_is); (case a11 => k_is); (case l11 => k_is); (case c11 => k_is); (case k11 => k_is); (case a12 => k_is); (case l12 => k_is); (case c12 => k_is); (case k12 => k_is); (case z0 => k_is); (case z1 => k_is); (case z2 => k_is); (case z3 => k_is); (case z4 => k_is); (case z5 => k_is); (case z6 => k_is); (case z7 => k_is); (case z8 => k_is); (case z9 => k_is); (case z10 => k_is); (case z11 => k_is)
