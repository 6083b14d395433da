import PyProof.Rows.All
import Wide.All
import OpenK.AllK
import Wide.FinOn
import HandS.ForMost
import HandS.Wide
import HandS.TupAny
import HandS.TupMul
import HandS.Style
import HandS.Conv
import HandS.Zip
import PyProof.ReprRoads
import PyProof.SumWalkG
import PyProof.WalksMore
import KE.DataMinMax
import HandS.Evl
import PyProof.ReprBulk
import PyProof.FitsInt
import KE.GoesMore
import PyProof.Draws
import HandS.SortRule
import HandS.Walk
import KE.DatumOrd
import KE.DataFind
import HandS.SetFor
import PyProof.Rows.RowBridgeK
import KE.KExcIs
import HandS.Star
import HandS.ExcInit
import HandS.ExcField
import HandS.ExcOwn
import HandS.WordsExc
import HandS.NoneIn
import PySem.Challenge.RW_roadbikes_k03_roads_joined
set_option Elab.async false
set_option linter.all false
set_option maxRecDepth 100000
set_option maxHeartbeats 4000000
namespace Rb
open PySem PySem.Spec PyProof.Rows L2

/-! repr of data -/
def rRepr (K : PySem.W.Frag) : List V → Hp → VK → Prop := fun vs H Q =>
  ∃ v d, vs = [v] ∧ Dp K H v d ∧ d.showable = true ∧ d.depth ≤ 20 ∧ d.shown.length ≤ sizeLine ∧ Q (.str d.shown) H
theorem Dp.noDict {K : PySem.W.Frag} {H : Hp} : ∀ (d : PyData) (v : V), Dp K H v d → d.hasDict = false
  | .none, _, _ => by simp only [PyData.hasDict]
  | .bool _, _, _ => by simp only [PyData.hasDict]
  | .int _, _, _ => by simp only [PyData.hasDict]
  | .str _, _, _ => by simp only [PyData.hasDict]
  | .list ds, _, h => by
    cases h with
    | lst _ ha => simp only [PyData.hasDict]; exact all ds _ ha
  | .tuple ds, _, h => by
    cases h with
    | tup _ ha => simp only [PyData.hasDict]; exact all ds _ ha
  | .dict _, _, h => by cases h
where all {K : PySem.W.Frag} {H : Hp} : ∀ (ds : List PyData) (vs : List V), DpAll K H vs ds → PyData.hasDictAll ds = false
  | [], _, _ => by simp only [PyData.hasDictAll]
  | d :: ds, _, h => by
    cases h with
    | cons h1 h2 => simp only [PyData.hasDictAll, Dp.noDict d _ h1, all ds _ h2, Bool.or_false]
theorem call_reprD {X : Cx} (hg : X.A.guards = some []) (hu : X.A.units + 64 < cLine) : CallR X (.builtin "repr") (rRepr X.K) := by
  intro pins s σ H vs us Q I r h
  obtain ⟨v, d, rfl, hd, hs, hdep, hsz, q⟩ := h
  obtain ⟨u, rfl, ru⟩ := vals1 r
  obtain ⟨as, rd⟩ := Dp.reads I d v u hd ru
  cases v with
  | ref a =>
    cases ru
    refine repr_of_reads' rd hs (fun e => by rw [Dp.noDict d _ hd] at e; cases e) hg (by omega) (fun _ _ e => e) (fun h' t tk hk => ?_) hsz
    exact ⟨.str _, H, I.kept hk, ⟨_, rfl⟩, q⟩
  | int i =>
    obtain ⟨t, rfl⟩ := ru
    cases hd
    simp only [PyData.showable, decide_eq_true_eq] at hs
    simp only [PyData.shown] at q
    exact PySem.P.repr_of_int hs ⟨.str _, H, I.tok _, ⟨_, rfl⟩, q⟩
  | str x =>
    obtain ⟨t, rfl⟩ := ru
    cases hd
    simp only [PyData.shown] at q hsz
    exact PySem.P.repr_of_str ⟨.str _, H, I.tok _, ⟨_, rfl⟩, q⟩ hsz
  | bl b =>
    cases ru
    cases hd
    simp only [PyData.shown] at q
    exact PySem.P.repr_of_bool ⟨.str _, H, I.tok _, ⟨_, rfl⟩, q⟩
  | non =>
    cases ru
    cases hd
    simp only [PyData.shown] at q
    exact PySem.P.repr_of_none ⟨.str _, H, I.tok _, ⟨_, rfl⟩, q⟩
  | byt b => cases hd
  | flt b => cases hd
  | ty n => cases hd

/-! sum of a tuple of ints -/
def rSumT (K : PySem.W.Frag) : List V → Hp → VK → Prop := fun vs H Q => ∃ (a : Addr) (ns : List Int), vs = [V.ref a] ∧ SqT K H a (ns.map V.int) ∧ Q (.int ns.sum) H
theorem isTup_isTuple {h : Heap} {a : Addr} {items : Array Value} (x : IsTup h a items) : h.IsTuple a items := by
  obtain ⟨o, e, c, n, d⟩ := x
  exact ⟨o, e, c, n, d⟩
theorem cr_sumT {X : Cx} (hc : X.calm = true) : CallR X (.builtin "sum") (rSumT X.K) := by
  intro pins s σ H vs us Q I r h
  obtain ⟨a, ns, rfl, hs, q⟩ := h
  obtain ⟨its, rv, hl, _⟩ := I.tuple hs
  rw [Vals.ref1 r]
  have hi := rv.ints
  obtain ⟨xs, e⟩ := hi.allInts.items
  have hn : numsOf (intItems xs).toList = ns := by rw [← e]; exact hi.numsOf
  rw [nums_intItems] at hn
  rw [e] at hl
  have hl2 := isTup_isTuple hl
  have hh := I.ok.hd hc
  have hlt : a < s.heap.objs.size := by obtain ⟨_, e, _⟩ := hl2; exact Heap.lt_size e
  refine call_sum_walkG (wpAny_pyIter_tuple hl2 ?_)
  refine ⟨s.heap.objs.size, _, _, _, _, _, numAt xs, rfl, Walks.tuple (A := X.A.in1) hh _ a (Nat.ne_of_lt hlt) (intItems xs), ⟨⟨_, Heap.get?_push_size _ rfl, rfl, rfl⟩, hl2.push _⟩, ?_, fun _ _ => intItems_at, fun h' tk t' hk => ?_⟩
  · intro b hb
    show b < (s.heap.push _).objs.size
    rw [Heap.size_push]
    rcases List.mem_cons.mp hb with rfl | hb
    · exact Nat.lt_succ_self _
    · rcases List.mem_cons.mp hb with rfl | hb
      · exact Nat.lt_succ_of_lt hlt
      · cases hb
  · have hk2 : ∀ b o, s.heap.get? b = some o → h'.get? b = some o := fun b o eb => hk b o (fun hm => by
      simp only [List.mem_cons, List.not_mem_nil, or_false] at hm
      exact absurd (hm ▸ Heap.lt_size eb) (Nat.lt_irrefl _)) (Heap.get?_push_of_some _ eb)
    have z : preSum (numAt xs) (intItems xs).size = ns.sum := by
      rw [preSum_eq, List.take_of_length_le (by simp [intItems]), hn]
    rw [z]
    exact ⟨.int _, H, I.kept hk2, ⟨_, rfl⟩, q⟩
/-- tuple(x), x a list or a tuple -/
def rTupS (K : PySem.W.Frag) : List V → Hp → VK → Prop := fun xs H Q => ∃ p ys, xs = [.ref p] ∧ ((SqL K H p ys ∧ ∀ l, H l = none → Q (.ref l) (upd H l (.tup ys))) ∨ (SqT K H p ys ∧ Q (.ref p) H))
end Rb
namespace Rb
open PySem PySem.Spec PyProof.Rows L2
/-! defs that are run where no repr is under way -/
structure FnG (pr : Program) (wo : World) (K : PySem.W.Frag) (mg : Str → Option Value) (b0 : Heap) (cx : CXT) (lv : Nat) (fn : Addr) (dat : FuncData) (pars : List Str) (sp : Sp) : Prop where
  many : ∀ xs H Q E, sp xs H Q E → xs.length = pars.length
  goes : ∀ (A : Around) (out : List Env) (s : Shared) (H : Hp) (ar : Args) (us : List Value) (xs : List V) (Q : VK) (E : XK),
    Room lv A → A.guards = some [] → Env0 pr wo K mg b0 A out s H → BindsTo s dat ar (pars.zip us) → Vals xs us → sp xs H Q E →
    codeAny (model pr wo) A (.call (.ref fn) ar) (CR cx out pr wo H s Q E) s
section
variable {pr : Program} {wo : World} {K : PySem.W.Frag} {mg : Str → Option Value} {b0 : Heap} {cx : CXT} {lv : Nat} {fn : Addr} {dat : FuncData} {pars : List Str} {sp : Sp}
theorem FnG.of (F : FnOk pr wo K mg b0 cx lv fn dat pars sp) : FnG pr wo K mg b0 cx lv fn dat pars sp :=
  ⟨F.len, fun A out s H ar us xs Q E h1 _ h2 h3 h4 h5 => F.run A out s H ar us xs Q E h1 h2 h3 h4 h5⟩
end
section
variable {X : Cx} {cx : CXT} {lv : Nat} {fn : Addr} {dat : FuncData} {pars : List Str} {sp : Sp} {dv : List V} {dw : List Value} {E : XK} {nm : Str} {p1 p2 : Pos} {a0 : Expr} {as : List Expr} {ta : TA}
theorem runG {pins : List (Addr × Obj)} {σ : L2.St} {H : Hp} {s : Shared} {Q : VK} {us : List Value} {xs : List V} (F : FnG X.prog X.w X.K X.mg X.base cx lv fn dat pars sp) (gd : X.A.guards = some []) (rm : Room lv X.A)
    (bi : Binds X.K dat pars dw) (vd : Vals dv dw) (ps : Passes cx X E) (I : Inv X pins σ H s) (vx : Vals xs us) (pro : sp (xs ++ dv) H Q E) :
    wpAny (model X.prog X.w) X.A (call (.ref fn) us) (EP X pins σ Q) X.xe s := by
  have v2 : Vals (xs ++ dv) (us ++ dw) := vx.append vd
  have l2 : (us ++ dw).length = pars.length := v2.length ▸ F.many _ _ _ _ pro
  have go := F.goes X.A X.stack s H ⟨us, []⟩ (us ++ dw) (xs ++ dv) Q E rm gd I.env0 (bi s us I.kIn l2) v2 pro
  refine wpAny_call (codeAny_mono go ?_)
  intro res s2 fin
  match res, fin with
  | .error e, fin => exact ps pins σ H s e s2 I fin
  | .ok (.ret u), fin => exact I.after fin
  | .ok .next, fin => exact (fin : False).elim
  | .ok .brk, fin => exact (fin : False).elim
  | .ok .cont, fin => exact (fin : False).elim
theorem pe_callG (F : FnG X.prog X.w X.K X.mg X.base cx lv fn dat pars sp) (gd : X.A.guards = some []) (rm : Room lv X.A) (gl : Gl X nm) (at_ : X.mg nm = some (.ref fn)) (kp : PySem.W.keepIn X.K (.ref fn) = true)
    (bi : Binds X.K dat pars dw) (vd : Vals dv dw) (ps : Passes cx X E) (pa : PA X (a0 :: as) ta) (ndb : (nm == ("__debug__" : Str)) = false := by decide)
    (st1 : starEach (a0 :: as) X.env = (false, eval a0 X.env) :: starEach as X.env := by rfl) (st2 : (backTo p2 (starEach as X.env)).any (·.1) = false := by rfl) :
    PE X (.Call (.Name nm p1) (a0 :: as) [] p2) (tCall sp dv E ta) := by
  constructor
  intro pins s σ H Q I pre
  refine wpAny_Call_Name_kw (ld_glob I gl at_ ?_ ndb)
  exact PySem.W.callWith_K (h₀ := X.base) I.ok.mod.kin kp (thn (pa.run p2 pins s σ H _ I pre) fun us s1 ⟨xs, H1, I1, rx, q1⟩ => ⟨I1.kIn, runG F gd rm bi vd ps I1 rx q1⟩) st1 st2
end
section
variable {pr : Program} {wo : World} {K : PySem.W.Frag} {mg : Str → Option Value} {b0 : Heap} {lv : Nat} {sp : Sp}
theorem fnG_of {cx : CXT} {fn : Addr} {nm qn : Str} {pm : Arguments} {bd : List Stmt} {sco : Scope} {dV kV dc pv cdv ct oc : Value} {an od : Option Addr} {osl : Array (Option Value)} {NN pars : List Str}
    (at_ : K.lookup fn = some ⟨oc, od, .func (PySem.W.fnOf nm qn pm bd sco dV kV dc pv an cdv ct), osl⟩) (code : PySem.W.codeIn K cdv qn = true) (S : FnScope NN pars sco)
    (many : ∀ xs H Q E, sp xs H Q E → xs.length = pars.length)
    (body : ∀ (A : Around) (out : List Env) (s : Shared) (H : Hp) (xs : List V) (Q : VK) (E : XK), A.guards = some [] → Room lv (A.deeper (envOfC qn sco s.heap.objs.size fn cdv)) → sp xs H Q E →
      ∃ t, PSs (cxOf cx pr wo K mg b0 NN qn sco fn cdv A out s H E) bd t ∧ t { nx := fun _ H' => Q .non H', rt := Q } (start NN xs) H) :
    FnG pr wo K mg b0 cx (lv + 1) fn (PySem.W.fnOf nm qn pm bd sco dV kV dc pv an cdv ct) pars sp := by
  constructor
  · exact many
  intro A out s H ar us xs Q E rm gd e0 bi vx pro
  have old : ∀ b o, b0.get? b = some o → s.heap.get? b = some o := fun b o e => (e0.bs b o e).1
  have kin : K.In s.heap := e0.mod.kin.keeps old
  refine codeAny_call_function rm.depth (kin _ _ at_) rfl S.co S.gen rfl (PySem.W.codeRec_of kin code) (bi _ _ _ _ ?_)
  refine wpAny_newFunctionEnv_cells S.kind ?_ ?_
  · rintro ⟨n, v⟩ hy
    cases S.par n (List.of_mem_zip hy).1 with
    | inl q => exact Or.inl q
    | inr q => exact Or.inr ⟨q, PySem.W.cellsFrom_some _ _ _ (Or.inl q)⟩
  intro env he s1 ic
  subst he
  refine ⟨(e0.mod.nolimit.keeps old).keeps ic.toInCall.keep, codeAny_func ?_⟩
  obtain ⟨t, ht, rd⟩ := body A out s H xs Q E gd (rm.deeper _) pro
  have I : Inv (cxOf cx pr wo K mg b0 NN qn sco fn cdv A out s H E) [] (start NN xs) H s1 := inv_start S rm.hd e0 (many _ _ _ _ pro) vx ic
  refine wpAny_mono (ht.run [] s1 (start NN xs) H _ I rd) ?_ (fun _ _ z => z)
  intro fl s2 hs
  match fl, hs with
  | .ret u, ⟨v, σ2, H2, J, rv, q⟩ => exact ⟨v, H2, J.os, J.bare, J.base, J.hok, rv, q⟩
  | .next, ⟨σ2, H2, J, q⟩ => exact ⟨V.non, H2, J.os, J.bare, J.base, J.hok, rfl, q⟩
  | .brk, ⟨_, _, _, q⟩ => exact (q : False).elim
  | .cont, ⟨_, _, _, q⟩ => exact (q : False).elim
/-- a def of the text that is run where no repr is under way -/
theorem okG {x qn : Str} {st : Stmt} {fn : Addr} {dat : FuncData} {NN pars : List Str} (F : Fun K x qn st fn dat) (S : FnScope NN pars (defScope st)) (many : ∀ xs H Q E, sp xs H Q E → xs.length = pars.length)
    (body : ∀ (cdv : Value) (A : Around) (out : List Env) (s : Shared) (H : Hp) (xs : List V) (Q : VK) (E : XK), A.guards = some [] → Room lv (A.deeper (envOfC qn (defScope st) s.heap.objs.size fn cdv)) → sp xs H Q E →
      ∃ t, PSs (cxOf CX0 pr wo K mg b0 NN qn (defScope st) fn cdv A out s H E).nox (defBody st) t ∧ t { nx := fun _ H' => Q .non H', rt := Q } (start NN xs) H) :
    FnG pr wo K mg b0 CX0 (lv + 1) fn dat pars sp := by
  obtain ⟨oc, od, kV, dc, pv, an, cdv, ct, osl, rfl, at_, code⟩ := F.ex
  refine fnG_of at_ code S many fun A out s H xs Q E gd rm pro => ?_
  obtain ⟨t, h, q⟩ := body cdv A out s H xs Q E gd rm pro
  exact ⟨t, h.nox, q⟩
end
/-- the law's own call: the script is all that is known of the heap -/
theorem lawG {pr : Program} {wo : World} {K : PySem.W.Frag} {mg mb : Str → Option Value} {lv : Nat} {fn sc : Addr} {dat : FuncData} {x : Str} {sp : Sp} {s : Shared} {us : List Value} {ns : List Int}
    (kin : K.In s.heap) (gns : s.heap.Ns mainGlobals mg) (bns : s.heap.Ns builtinsNs mb) (boot : ∀ y : Str, y ≠ "__name__" → mb y = bootBuiltins y) (nol : s.heap.NoLimit) (ge : s.gens = #[])
    (at_ : s.heap.get? sc = some { cls := .type "list", data := .seq us.toArray }) (ia : IntsAre us ns) (few : ns.length ≤ sizeLine) (rm : Room lv callerA)
    (F : ∀ b0 : Heap, K.In b0 → b0.Ns mainGlobals mg → FnG pr wo K mg b0 CX0 lv fn dat [x] sp) (bi : ∀ (z : Shared) (u : Value), BindsTo z dat ⟨[u], []⟩ [(x, u)])
    (pro : ∀ H : Hp, SqL K H sc (ns.map V.int) → sp [.ref sc] H (fun v _ => v = .bl true) fun _ _ _ => False) :
    codeAny (model pr wo) callerA (.call (.ref fn) ⟨[.ref sc], []⟩) (fun r z => r = .ok (.ret (.bool true)) ∧ OldK s.heap z.heap ∧ z.os = s.os ∧ AllBare z.gens) s := by
  have go : ∀ H : Hp, (∀ b o, H b = some o → b = sc ∧ ∃ ob xs, o = .frz ob (.lst xs)) → SqL K H sc (ns.map V.int) → HOk pr wo H s.heap → (H sc ≠ none → K.lookup sc = none) →
      codeAny (model pr wo) callerA (.call (.ref fn) ⟨[.ref sc], []⟩) (fun r z => r = .ok (.ret (.bool true)) ∧ OldK s.heap z.heap ∧ z.os = s.os ∧ AllBare z.gens) s := by
    intro H one sq hok notK
    have dicts : ∀ {b : Addr} {o : Obj} {es : Array DictEntry} {ep : Nat}, s.heap.get? b = some o → o.data = .dict es ep → H b = none := by
      intro b o es ep e d
      match q : H b with
      | none => rfl
      | some u =>
        obtain ⟨rfl, _⟩ := one b u q
        rw [at_] at e
        cases e
        cases (show Data.seq us.toArray _ = Data.dict es ep from d)
    have names : ∀ {b : Addr} {m : Str → Option Value}, s.heap.Ns b m → (hidT s.heap H).Ns b m := by
      rintro b m ⟨o, es, ep, e, d, r⟩
      exact ⟨o, es, ep, hidT_get e (dicts e d), d, r⟩
    have kin2 : K.In (hidT s.heap H) := by
      intro b o e
      refine hidT_get (kin b o e) ?_
      match q : H b with
      | none => rfl
      | some u =>
        obtain ⟨rfl, _⟩ := one b u q
        rw [notK (by rw [q]; exact Option.some_ne_none u)] at e
        cases e
    have md : Mod K mg (hidT s.heap H) := by
      obtain ⟨mc, n1, n2⟩ := nol
      exact ⟨kin2, names gns, ⟨mb, names bns, boot⟩, ⟨mc, names n1, n2⟩⟩
    have env : Env0 pr wo K mg (hidT s.heap H) callerA [] s H :=
      { frames := rfl, mod := md, bs := fun _ _ e => of_hidT e, bsz := Nat.le_of_eq (hidT_size _ _), funs := trivial, frf := (fun _ z => nomatch z), hok := hok, bare := .of_eq ge }
    refine codeAny_mono ((F _ kin2 (names gns)).goes callerA [] s H ⟨[.ref sc], []⟩ [.ref sc] [.ref sc] _ _ rm rfl env (bi s (.ref sc)) (.cons rfl .nil) (pro H sq)) ?_
    intro res z fin
    match res, fin with
    | .error e, fin => exact (fin : False).elim
    | .ok .next, fin => exact (fin : False).elim
    | .ok .brk, fin => exact (fin : False).elim
    | .ok .cont, fin => exact (fin : False).elim
    | .ok (.ret u), ⟨v, H2, os, bare, un, hok2, rv, q⟩ =>
      cases (q : v = .bl true)
      cases (rv : u = Value.bool true)
      refine ⟨rfl, OldK.of_keep ?_, os, bare⟩
      intro b o e
      match w : H b with
      | none => exact un.keep b o e w (fun z => nomatch z) (fun z => nomatch z)
      | some uo =>
        obtain ⟨rfl, ob, xs, rfl⟩ := one b uo w
        have e1 := (hok b _ w).1
        have e2 := (hok2 b _ (un.frzs b ob _ w)).1
        exact e2.trans (e1.symm.trans e)
  have vx := vals_ints ia
  have ln := ia.length
  match kk : K.lookup sc with
  | some o =>
    have e := kin sc o kk
    rw [at_] at e
    cases e
    exact go (fun _ => none) (fun _ _ z => nomatch z) (.inr ⟨_, us.toArray, _, kk, rfl, rfl, rfl, by rw [List.size_toArray, ln]; exact few, by simpa using vx⟩) (fun _ _ z => nomatch z) (fun z => absurd rfl z)
  | none =>
    let one : HO := .frz { cls := .type "list", data := .seq us.toArray } (.lst (ns.map V.int))
    refine go (upd (fun _ => none) sc one) ?_ (.inl (.inr ⟨_, upd_same⟩)) ?_ (fun _ => kk)
    · intro b o z
      by_cases hb : b = sc
      · subst hb
        rw [upd_same] at z
        cases z
        exact ⟨rfl, _, _, rfl⟩
      · rw [upd_ne hb] at z
        cases z
    · intro b o z
      by_cases hb : b = sc
      · subst hb
        rw [upd_same] at z
        cases z
        exact ⟨at_, by rw [List.length_map]; exact few, us, _, vx, at_⟩
      · rw [upd_ne hb] at z
        cases z
/-- from the law's promise to the row's claim -/
theorem endG {l : PySem.W.OpenLaw} {n lv : Nat} {q : Program} {loose : List Str} {XP : (Str → Option Value) → Heap → Prop} {YP : World → Heap → Prop} {d : DefRec} {KK : Params → PySem.W.Frag} {sp : World → Sp} {x : Str}
    (most : l.most = some n) (few : n ≤ sizeLine) (nodef : d.params.defaults = []) (rm : Room lv callerA) (inY : ∀ (w : World) (h : Heap), YP w h → (KK w.params).In h)
    (F : ∀ (w : World) (mg : Str → Option Value) (fn : Addr) (h : Heap), (KK w.params).In h → h.Ns mainGlobals mg → mg d.name = some (.ref fn) →
      ∃ dat : FuncData, (∀ (s : Shared) (u : Value), BindsTo s dat ⟨[u], []⟩ [(x, u)]) ∧ ∀ b0 : Heap, (KK w.params).In b0 → b0.Ns mainGlobals mg → FnG l.prog w (KK w.params) mg b0 CX0 lv fn dat [x] (sp w))
    (pro : ∀ (w : World) (H : Hp) (a : Addr) (ns : List Int), ns.length ≤ n → SqL (KK w.params) H a (ns.map V.int) → sp w [.ref a] H (fun v _ => v = .bl true) fun _ _ _ => False) :
    PySem.W.WalkO q loose XP YP l.row.toRowW d [] (fun f vs => PySem.call f vs) := by
  refine Att.attach_call most nodef ?_
  intro w s0 s1 mg mb fn o pm cd dc a us ns G Y at_ dd cdd gm ob ia ln ge
  obtain ⟨dat, bi, ok⟩ := F w mg fn _ (inY w _ Y) G.T.g gm
  exact lawG (inY w _ Y) G.T.g G.T.b G.T.builtins G.T.nolimit ge ob ia (Nat.le_trans ln few) rm ok bi (fun H sq => pro w H a ns ln sq)
end Rb
namespace Rb
open PySem PySem.Spec PyProof.Rows L2

/-! the deck: a list of the cells and the count of draws -/
def Dk (H : Hp) (d c : Addr) (N : Int) : Prop := ∃ (cs : List Int) (n : Int), H d = some (.lst [.ref c, .int n]) ∧ H c = some (.lst (cs.map V.int)) ∧ cs.length ≤ 63 ∧ (∀ x ∈ cs, 0 ≤ x) ∧ 0 ≤ n ∧ n ≤ N
/-- all but the deck is kept -/
def Kp (d c : Addr) (H H' : Hp) : Prop := ∀ b o, H b = some o → b ≠ d → b ≠ c → H' b = some o
theorem Kp.refl {d c : Addr} {H : Hp} : Kp d c H H := fun _ _ e _ _ => e
theorem Kp.trans {d c : Addr} {H H1 H2 : Hp} (a : Kp d c H H1) (b : Kp d c H1 H2) : Kp d c H H2 := fun x o e n1 n2 => b x o (a x o e n1 n2) n1 n2
theorem Kp.ex {d c : Addr} {H H1 : Hp} (a : Evl.Ex H H1) : Kp d c H H1 := fun x o e _ _ => a x o e
theorem Kp.new {d c : Addr} {H : Hp} {p : Addr} {o : HO} (h : H p = none) : Kp d c H (upd H p o) := Kp.ex (Evl.Ex.new h)
theorem Dk.ex {H H' : Hp} {d c : Addr} {N : Int} (h : Dk H d c N) (e : Evl.Ex H H') : Dk H' d c N := by
  obtain ⟨cs, n, h1, h2, r⟩ := h
  exact ⟨cs, n, e _ _ h1, e _ _ h2, r⟩
theorem Dk.new {H : Hp} {d c p : Addr} {N : Int} {o : HO} (h : Dk H d c N) (hp : H p = none) : Dk (upd H p o) d c N := h.ex (Evl.Ex.new hp)
theorem Dk.le {H : Hp} {d c : Addr} {N M : Int} (h : Dk H d c N) (e : N ≤ M) : Dk H d c M := by
  obtain ⟨cs, n, h1, h2, h3, h4, h5, h6⟩ := h
  exact ⟨cs, n, h1, h2, h3, h4, h5, by omega⟩
theorem Dk.ne1 {H : Hp} {d c p : Addr} {N : Int} (h : Dk H d c N) (hp : H p = none) : p ≠ d := by
  obtain ⟨cs, n, h1, _⟩ := h
  rintro rfl
  rw [h1] at hp
  cases hp
theorem Dk.ne2 {H : Hp} {d c p : Addr} {N : Int} (h : Dk H d c N) (hp : H p = none) : p ≠ c := by
  obtain ⟨cs, n, _, h1, _⟩ := h
  rintro rfl
  rw [h1] at hp
  cases hp
/-- fresh behind is fresh before -/
theorem Kp.fresh {d c p : Addr} {H H' : Hp} {N : Int} (k : Kp d c H H') (h : Dk H' d c N) (hp : H' p = none) : H p = none := by
  cases e : H p with
  | none => rfl
  | some o =>
    rw [k p o e (h.ne1 hp) (h.ne2 hp)] at hp
    cases hp
/-- a new object changes: all else is kept -/
theorem Kp.mut {d c p : Addr} {H H' : Hp} {o : HO} (k : Kp d c H H') (hp : H p = none) : Kp d c H (upd H' p o) := fun b u e n1 n2 => by
  rw [upd_ne (ne_of_none e hp)]
  exact k b u e n1 n2
theorem Kp.sqT {K : PySem.W.Frag} {d c a : Addr} {H H' : Hp} {N : Int} {xs : List V} (k : Kp d c H H') (h : Dk H d c N) (hs : SqT K H a xs) : SqT K H' a xs := by
  obtain ⟨cs, n, h1, h2, _⟩ := h
  have go : ∀ u : HO, (∀ ys, u ≠ .lst ys) → H a = some u → H' a = some u := fun u nu e => k a u e
    (by rintro rfl; rw [h1] at e; exact nu _ (Option.some.inj e).symm) (by rintro rfl; rw [h2] at e; exact nu _ (Option.some.inj e).symm)
  rcases hs with (e | ⟨o, e⟩) | e
  · exact .inl (.inl (go _ (fun _ z => nomatch z) e))
  · exact .inl (.inr ⟨o, go _ (fun _ z => nomatch z) e⟩)
  · exact .inr e
theorem tupOf {K : PySem.W.Frag} {H : Hp} {a : Addr} {xs : List V} (h : H a = some (.tup xs)) : SqT K H a xs := .inl (.inl h)
theorem lstOf {K : PySem.W.Frag} {H : Hp} {a : Addr} {xs : List V} (h : H a = some (.lst xs)) : SqL K H a xs := .inl (.inl h)
theorem tupNew {K : PySem.W.Frag} {H : Hp} {a p : Addr} {xs : List V} {o : HO} (h : SqT K H a xs) (hp : H p = none) : SqT K (upd H p o) a xs := Evl.ex_t (Evl.Ex.new hp) h
/-! picks from short lists -/
theorem pick2 {x y : V} {r : Int} (h0 : 0 ≤ r) (h1 : r < 2) : ∃ v, atI [x, y] r = some v ∧ (v = x ∨ v = y) := by
  rcases (by omega : r = 0 ∨ r = 1) with rfl | rfl
  · exact ⟨x, rfl, .inl rfl⟩
  · exact ⟨y, rfl, .inr rfl⟩
theorem pick3 {x y z : V} {r : Int} (h0 : 0 ≤ r) (h1 : r < 3) : ∃ v, atI [x, y, z] r = some v ∧ (v = x ∨ v = y ∨ v = z) := by
  rcases (by omega : r = 0 ∨ r = 1 ∨ r = 2) with rfl | rfl | rfl
  · exact ⟨x, rfl, .inl rfl⟩
  · exact ⟨y, rfl, .inr (.inl rfl)⟩
  · exact ⟨z, rfl, .inr (.inr rfl)⟩
theorem pick2i {x y r : Int} (h0 : 0 ≤ r) (h1 : r < 2) : ∃ v : Int, atI [V.int x, V.int y] r = some (V.int v) ∧ (v = x ∨ v = y) := by
  rcases (by omega : r = 0 ∨ r = 1) with rfl | rfl
  · exact ⟨x, rfl, .inl rfl⟩
  · exact ⟨y, rfl, .inr rfl⟩
theorem pick3i {x y z r : Int} (h0 : 0 ≤ r) (h1 : r < 3) : ∃ v : Int, atI [V.int x, V.int y, V.int z] r = some (V.int v) ∧ (v = x ∨ v = y ∨ v = z) := by
  rcases (by omega : r = 0 ∨ r = 1 ∨ r = 2) with rfl | rfl | rfl
  · exact ⟨x, rfl, .inl rfl⟩
  · exact ⟨y, rfl, .inr (.inl rfl)⟩
  · exact ⟨z, rfl, .inr (.inr rfl)⟩
/-- an item of a list of ints by its place -/
theorem at_ints {ns : List Int} {j : Nat} (h : j < ns.length) : atI (ns.map V.int) (j : Int) = some (.int ns[j]) := by
  refine atI_nat (j := j) ?_
  rw [List.getElem?_map, List.getElem?_eq_getElem h]
  rfl
theorem sz_le {n : Nat} (h : n ≤ 100000) : n ≤ sizeLine := Evl.sz_of h
theorem sz_lt {n : Nat} (h : n < 100000) : n < sizeLine := Evl.sz_lt h
/-- slices from the beginning -/
theorem cut_to {xs : List V} {k : Nat} : cutV xs none (some (k : Int)) = xs.take k := by
  unfold cutV
  rw [HT.sIx_none, HT.sIx_nat]
  show List.take (min k xs.length - 0) (xs.drop 0) = _
  rw [List.drop_zero, Nat.sub_zero]
  rcases Nat.le_total k xs.length with h | h
  · rw [Nat.min_eq_left h]
  · rw [Nat.min_eq_right h, List.take_length, List.take_of_length_le h]
/-! a road -/
def Road (K : PySem.W.Frag) (H : Hp) (v : V) (w r : Int) (bs : List Int) : Prop := ∃ a b, v = .ref a ∧ SqT K H a [.int w, .int r, .ref b] ∧ SqT K H b (bs.map V.int)
theorem Road.kp {K : PySem.W.Frag} {d c : Addr} {H H' : Hp} {N : Int} {v : V} {w r : Int} {bs : List Int} (x : Road K H v w r bs) (k : Kp d c H H') (h : Dk H d c N) : Road K H' v w r bs := by
  obtain ⟨a, b, e, h1, h2⟩ := x
  exact ⟨a, b, e, k.sqT h h1, k.sqT h h2⟩
theorem Road.ex {K : PySem.W.Frag} {H H' : Hp} {v : V} {w r : Int} {bs : List Int} (x : Road K H v w r bs) (k : Evl.Ex H H') : Road K H' v w r bs := by
  obtain ⟨a, b, e, h1, h2⟩ := x
  exact ⟨a, b, e, Evl.ex_t k h1, Evl.ex_t k h2⟩
/-! data of ints: what repr shows -/
theorem DpAll.ints {K : PySem.W.Frag} {H : Hp} : ∀ ns : List Int, DpAll K H (ns.map V.int) (ns.map PyData.int)
  | [] => .nil
  | n :: ns => .cons (.int n) (DpAll.ints ns)
theorem Dp.tupI {K : PySem.W.Frag} {H : Hp} {a : Addr} {ns : List Int} (h : SqT K H a (ns.map V.int)) : Dp K H (.ref a) (.tuple (ns.map .int)) := .tup h (DpAll.ints ns)
def roadD (w r : Int) (bs : List Int) : PyData := .tuple [.int w, .int r, .tuple (bs.map .int)]
theorem Road.dp {K : PySem.W.Frag} {H : Hp} {v : V} {w r : Int} {bs : List Int} (x : Road K H v w r bs) : Dp K H v (roadD w r bs) := by
  obtain ⟨a, b, rfl, h1, h2⟩ := x
  exact .tup h1 (.cons (.int w) (.cons (.int r) (.cons (Dp.tupI h2) .nil)))
/-! data that repr shows: what it asks, by parts -/
structure Nice (k n : Nat) (d : PyData) : Prop where
  sh : d.showable = true
  lv : d.leavesShort 100 = true
  dep : d.depth ≤ k
  blk : d.bulk ≤ n
theorem Nice.mono {k n k' n' : Nat} {d : PyData} (h : Nice k n d) (h1 : k ≤ k') (h2 : n ≤ n') : Nice k' n' d := ⟨h.sh, h.lv, Nat.le_trans h.dep h1, Nat.le_trans h.blk h2⟩
theorem Nice.int {i : Int} (h : i.natAbs < 10 ^ 99) : Nice 0 0 (.int i) := by
  refine ⟨?_, ?_, Nat.le_refl _, Nat.le_refl _⟩
  · simp only [PyData.showable, decide_eq_true_eq]
    by_cases z : i.natAbs = 0
    · rw [z]; decide
    · refine (Nat.log2_lt z).mpr (Nat.lt_of_lt_of_le h ?_)
      decide +kernel
  · simp only [PyData.leavesShort, decide_eq_true_eq, PyData.shown]
    refine decide_eq_true ?_
    rw [PySem.ofString_length]
    exact int_text_length_le10 (k := 99) (by decide) h
theorem Nice.none : Nice 0 0 .none := ⟨rfl, rfl, Nat.le_refl _, Nat.le_refl _⟩
theorem Nice.bool {b : Bool} : Nice 0 0 (.bool b) := ⟨rfl, rfl, Nat.le_refl _, Nat.le_refl _⟩
theorem Nice.str {x : Str} {n : Nat} (h : x.cps.size ≤ n) (hx : ∀ c ∈ x.cps.toList, c < 16 ^ 8) : Nice 0 n (.str x) := by
  refine ⟨rfl, ?_, Nat.le_refl _, h⟩
  simpa only [PyData.leavesShort, List.all_eq_true, decide_eq_true_eq] using hx
theorem nice_all {k n : Nat} : ∀ {xs : List PyData}, (∀ x ∈ xs, Nice k n x) → PyData.showableAll xs = true ∧ PyData.leavesShortAll 100 xs = true ∧ PyData.depthAll xs ≤ k ∧ PyData.bulkAll xs ≤ xs.length * (n + 1)
  | [], _ => ⟨rfl, rfl, Nat.zero_le _, Nat.zero_le _⟩
  | x :: xs, h => by
    obtain ⟨a, b, c, d⟩ := nice_all (xs := xs) fun y hy => h y (List.mem_cons_of_mem _ hy)
    have hx := h x List.mem_cons_self
    refine ⟨?_, ?_, ?_, ?_⟩
    · simp only [PyData.showableAll, hx.sh, a, Bool.and_true]
    · simp only [PyData.leavesShortAll, hx.lv, b, Bool.and_true]
    · simp only [PyData.depthAll]
      exact Nat.max_le.mpr ⟨hx.dep, c⟩
    · simp only [PyData.bulkAll, List.length_cons]
      have := hx.blk
      rw [Nat.add_mul]
      omega
theorem Nice.tup {k n m : Nat} {xs : List PyData} (h : ∀ x ∈ xs, Nice k n x) (hm : xs.length * (n + 1) ≤ m) : Nice (k + 1) m (.tuple xs) := by
  obtain ⟨a, b, c, d⟩ := nice_all h
  exact ⟨by simpa only [PyData.showable] using a, by simpa only [PyData.leavesShort] using b, by simp only [PyData.depth]; omega, by simp only [PyData.bulk]; omega⟩
theorem Nice.lst {k n m : Nat} {xs : List PyData} (h : ∀ x ∈ xs, Nice k n x) (hm : xs.length * (n + 1) ≤ m) : Nice (k + 1) m (.list xs) := by
  obtain ⟨a, b, c, d⟩ := nice_all h
  exact ⟨by simpa only [PyData.showable] using a, by simpa only [PyData.leavesShort] using b, by simp only [PyData.depth]; omega, by simp only [PyData.bulk]; omega⟩
theorem Nice.ints {ns : List Int} {m : Nat} (h : ∀ i ∈ ns, i.natAbs < 10 ^ 99) (hm : ns.length ≤ m) : Nice 1 m (.tuple (ns.map .int)) := by
  refine Nice.tup (k := 0) (n := 0) (fun x hx => ?_) (by rw [List.length_map]; omega)
  obtain ⟨i, hi, rfl⟩ := List.mem_map.mp hx
  exact Nice.int (h i hi)
theorem Nice.fits {k : Nat} {d : PyData} (n : Nice k 100000 d) : d.shown.length ≤ sizeLine := by
  have e := PyData.shown_le_bulk 100 (by decide) d n.lv
  have := n.blk
  have : (16777216 : Nat) ≤ sizeLine := by decide
  omega
/-! comprehensions whose element changes nothing -/
section
variable {K : PySem.W.Frag} {te : TE} {vs : List Nat} {σ : L2.St} {H1 : Hp} {D a : Addr} {j : Nat} {Qd : Hp → Prop}
theorem lc_mapL {xs : List V} (f : V → V) (hS : SqL K H1 a xs) (nD : H1 D = none) (hw : ∀ x, wipe ((wipe σ vs).set j (some x)) vs = wipe σ vs) (hz : xs.length ≤ 90000)
    (he : ∀ (i : Nat) x H3, xs[i]? = some x → Evl.Ex H1 H3 → ∀ Q : VK, (∀ H4, Evl.Ex H3 H4 → Q (f x) H4) → te ((wipe σ vs).set j (some x)) H3 Q) (hd : ∀ H', Evl.Ex H1 H' → H' D = some (.lst (xs.map f)) → Qd H') :
    ∃ W : Nat → Nat → Hp → Prop, (∃ m, W 0 m (upd H1 D (.lst []))) ∧ ∀ i m H, W i m H →
      ((Itl K a).stop i H ∧ Qd H) ∨ ((Itl K a).go i H ∧ ∃ Nx : Hp → Prop, (∀ H', Nx H' → ∃ m', m' < m ∧ W (i + 1) m' H') ∧ ∀ x H', (Itl K a).yld i H x H' → (gName j) x (wipe σ vs) H' fun σ2 H2 => wipe σ2 vs = wipe σ vs ∧ tYes σ2 H2 fun b H3 =>
        if b = true then te σ2 H3 fun y H4 => ∃ acc, H4 D = some (.lst acc) ∧ acc.length < sizeLine ∧ Nx (upd H4 D (.lst (acc ++ [y]))) else Nx H3) := by
  refine lc_list (xs := xs) (fun i H' => Evl.Ex H1 H' ∧ H' D = some (.lst ((xs.take i).map f))) ⟨Evl.Ex.new nD, upd_same⟩ (fun i H' _ p => Evl.ex_l p.1 hS) ?_ (fun H' p => hd H' p.1 (by rw [p.2, List.take_length]))
  rintro i x H' hx ⟨p1, p2⟩
  refine ⟨hw x, ?_⟩
  show te ((wipe σ vs).set j (some x)) H' _
  refine he i x H' hx p1 _ fun H4 e4 => ⟨_, e4 _ _ p2, ?_, Evl.Ex.mut (p1.trans e4) nD, ?_⟩
  · rw [List.length_map, List.length_take]
    exact sz_lt (by omega)
  · rw [upd_same, List.take_add_one, hx, List.map_append]
    rfl
theorem lc_mapT {xs : List V} (f : V → V) (hS : SqT K H1 a xs) (nD : H1 D = none) (hw : ∀ x, wipe ((wipe σ vs).set j (some x)) vs = wipe σ vs) (hz : xs.length ≤ 90000)
    (he : ∀ (i : Nat) x H3, xs[i]? = some x → Evl.Ex H1 H3 → ∀ Q : VK, (∀ H4, Evl.Ex H3 H4 → Q (f x) H4) → te ((wipe σ vs).set j (some x)) H3 Q) (hd : ∀ H', Evl.Ex H1 H' → H' D = some (.lst (xs.map f)) → Qd H') :
    ∃ W : Nat → Nat → Hp → Prop, (∃ m, W 0 m (upd H1 D (.lst []))) ∧ ∀ i m H, W i m H →
      ((Itt K a).stop i H ∧ Qd H) ∨ ((Itt K a).go i H ∧ ∃ Nx : Hp → Prop, (∀ H', Nx H' → ∃ m', m' < m ∧ W (i + 1) m' H') ∧ ∀ x H', (Itt K a).yld i H x H' → (gName j) x (wipe σ vs) H' fun σ2 H2 => wipe σ2 vs = wipe σ vs ∧ tYes σ2 H2 fun b H3 =>
        if b = true then te σ2 H3 fun y H4 => ∃ acc, H4 D = some (.lst acc) ∧ acc.length < sizeLine ∧ Nx (upd H4 D (.lst (acc ++ [y]))) else Nx H3) := by
  refine lc_tup (xs := xs) (fun i H' => Evl.Ex H1 H' ∧ H' D = some (.lst ((xs.take i).map f))) ⟨Evl.Ex.new nD, upd_same⟩ (fun i H' _ p => Evl.ex_t p.1 hS) ?_ (fun H' p => hd H' p.1 (by rw [p.2, List.take_length]))
  rintro i x H' hx ⟨p1, p2⟩
  refine ⟨hw x, ?_⟩
  show te ((wipe σ vs).set j (some x)) H' _
  refine he i x H' hx p1 _ fun H4 e4 => ⟨_, e4 _ _ p2, ?_, Evl.Ex.mut (p1.trans e4) nD, ?_⟩
  · rw [List.length_map, List.length_take]
    exact sz_lt (by omega)
  · rw [upd_same, List.take_add_one, hx, List.map_append]
    rfl
theorem lc_mapR {n : Nat} (f : Nat → V) (nD : H1 D = none) (hw : ∀ x, wipe ((wipe σ vs).set j (some x)) vs = wipe σ vs) (hz : n ≤ 90000)
    (he : ∀ i H3, i < n → Evl.Ex H1 H3 → ∀ Q : VK, (∀ H4, Evl.Ex H3 H4 → Q (f i) H4) → te ((wipe σ vs).set j (some (.int (i : Int)))) H3 Q) (hd : ∀ H', Evl.Ex H1 H' → H' D = some (.lst ((List.range n).map f)) → Qd H') :
    ∃ W : Nat → Nat → Hp → Prop, (∃ m, W 0 m (upd H1 D (.lst []))) ∧ ∀ i m H, W i m H →
      ((Itr 0 n).stop i H ∧ Qd H) ∨ ((Itr 0 n).go i H ∧ ∃ Nx : Hp → Prop, (∀ H', Nx H' → ∃ m', m' < m ∧ W (i + 1) m' H') ∧ ∀ x H', (Itr 0 n).yld i H x H' → (gName j) x (wipe σ vs) H' fun σ2 H2 => wipe σ2 vs = wipe σ vs ∧ tYes σ2 H2 fun b H3 =>
        if b = true then te σ2 H3 fun y H4 => ∃ acc, H4 D = some (.lst acc) ∧ acc.length < sizeLine ∧ Nx (upd H4 D (.lst (acc ++ [y]))) else Nx H3) := by
  refine lc_range (lo := 0) (n := n) (fun i H' => Evl.Ex H1 H' ∧ H' D = some (.lst ((List.range i).map f))) ⟨Evl.Ex.new nD, upd_same⟩ ?_ (fun H' p => hd H' p.1 p.2)
  rintro i H' hi ⟨p1, p2⟩
  refine ⟨hw _, ?_⟩
  show te ((wipe σ vs).set j (some (.int ((0 : Int) + (i : Int))))) H' _
  rw [Int.zero_add]
  refine he i H' hi p1 _ fun H4 e4 => ⟨_, e4 _ _ p2, ?_, Evl.Ex.mut (p1.trans e4) nD, ?_⟩
  · rw [List.length_map, List.length_range]
    exact sz_lt (by omega)
  · rw [upd_same, List.range_succ, List.map_append]
    rfl
end
end Rb
namespace Rb
open PySem PySem.Spec PyProof.Rows L2
/-! data without lists: it never changes -/
mutual
inductive Tp (K : PySem.W.Frag) (H : Hp) : V → PyData → Prop
  | non : Tp K H .non .none
  | bl (b : Bool) : Tp K H (.bl b) (.bool b)
  | int (i : Int) : Tp K H (.int i) (.int i)
  | str (x : Str) : Tp K H (.str x) (.str x)
  | tup {a : Addr} {xs : List V} {ds : List PyData} : SqT K H a xs → TpAll K H xs ds → Tp K H (.ref a) (.tuple ds)
inductive TpAll (K : PySem.W.Frag) (H : Hp) : List V → List PyData → Prop
  | nil : TpAll K H [] []
  | cons {v : V} {vs : List V} {d : PyData} {ds : List PyData} : Tp K H v d → TpAll K H vs ds → TpAll K H (v :: vs) (d :: ds)
end
section
variable {K : PySem.W.Frag} {H H' : Hp}
mutual
theorem Tp.dp : ∀ (d : PyData) (v : V), Tp K H v d → Dp K H v d
  | .none, _, h => by cases h; exact .non
  | .bool b, _, h => by cases h; exact .bl b
  | .int i, _, h => by cases h; exact .int i
  | .str x, _, h => by cases h; exact .str x
  | .list _, _, h => by cases h
  | .dict _, _, h => by cases h
  | .tuple ds, _, h => by
    cases h with
    | tup hs ha => exact .tup hs (TpAll.dp ds _ ha)
theorem TpAll.dp : ∀ (ds : List PyData) (vs : List V), TpAll K H vs ds → DpAll K H vs ds
  | [], _, h => by cases h; exact .nil
  | d :: ds, _, h => by
    cases h with
    | cons h1 h2 => exact .cons (Tp.dp d _ h1) (TpAll.dp ds _ h2)
end
mutual
theorem Tp.keep (k : ∀ a xs, SqT K H a xs → SqT K H' a xs) : ∀ (d : PyData) (v : V), Tp K H v d → Tp K H' v d
  | .none, _, h => by cases h; exact .non
  | .bool b, _, h => by cases h; exact .bl b
  | .int i, _, h => by cases h; exact .int i
  | .str x, _, h => by cases h; exact .str x
  | .list _, _, h => by cases h
  | .dict _, _, h => by cases h
  | .tuple ds, _, h => by
    cases h with
    | tup hs ha => exact .tup (k _ _ hs) (TpAll.keep k ds _ ha)
theorem TpAll.keep (k : ∀ a xs, SqT K H a xs → SqT K H' a xs) : ∀ (ds : List PyData) (vs : List V), TpAll K H vs ds → TpAll K H' vs ds
  | [], _, h => by cases h; exact .nil
  | d :: ds, _, h => by
    cases h with
    | cons h1 h2 => exact .cons (Tp.keep k d _ h1) (TpAll.keep k ds _ h2)
end
theorem Tp.ex {v : V} {d : PyData} (h : Tp K H v d) (e : Evl.Ex H H') : Tp K H' v d := Tp.keep (fun _ _ z => Evl.ex_t e z) d v h
theorem TpAll.ex {vs : List V} {ds : List PyData} (h : TpAll K H vs ds) (e : Evl.Ex H H') : TpAll K H' vs ds := TpAll.keep (fun _ _ z => Evl.ex_t e z) ds vs h
theorem Tp.kp {d c : Addr} {N : Int} {v : V} {x : PyData} (h : Tp K H v x) (k : Kp d c H H') (dk : Dk H d c N) : Tp K H' v x := Tp.keep (fun _ _ z => k.sqT dk z) x v h
theorem TpAll.kp {d c : Addr} {N : Int} {vs : List V} {ds : List PyData} (h : TpAll K H vs ds) (k : Kp d c H H') (dk : Dk H d c N) : TpAll K H' vs ds := TpAll.keep (fun _ _ z => k.sqT dk z) ds vs h
theorem sqT_upd {D a : Addr} {ys zs xs : List V} (hD : H D = some (.lst ys)) (h : SqT K H a xs) : SqT K (upd H D (.lst zs)) a xs := by
  have go : ∀ u : HO, (∀ ys, u ≠ .lst ys) → H a = some u → upd H D (.lst zs) a = some u := fun u nu e => by
    rw [upd_ne (by rintro rfl; rw [hD] at e; exact nu _ (Option.some.inj e).symm)]
    exact e
  rcases h with (e | ⟨o, e⟩) | e
  · exact .inl (.inl (go _ (fun _ z => nomatch z) e))
  · exact .inl (.inr ⟨o, go _ (fun _ z => nomatch z) e⟩)
  · exact .inr e
theorem Tp.upd {D : Addr} {ys zs : List V} {v : V} {d : PyData} (h : Tp K H v d) (hD : H D = some (.lst ys)) : Tp K (upd H D (.lst zs)) v d := Tp.keep (fun _ _ z => sqT_upd hD z) d v h
theorem TpAll.upd {D : Addr} {ys zs : List V} {vs : List V} {ds : List PyData} (h : TpAll K H vs ds) (hD : H D = some (.lst ys)) : TpAll K (upd H D (.lst zs)) vs ds := TpAll.keep (fun _ _ z => sqT_upd hD z) ds vs h
theorem TpAll.snoc {v : V} {d : PyData} : ∀ {vs : List V} {ds : List PyData}, TpAll K H vs ds → Tp K H v d → TpAll K H (vs ++ [v]) (ds ++ [d])
  | _, _, .nil, h => .cons h .nil
  | _, _, .cons h1 h2, h => .cons h1 (TpAll.snoc h2 h)
theorem TpAll.length : ∀ {vs : List V} {ds : List PyData}, TpAll K H vs ds → vs.length = ds.length
  | _, _, .nil => rfl
  | _, _, .cons _ h => congrArg (· + 1) (TpAll.length h)
theorem TpAll.ints : ∀ ns : List Int, TpAll K H (ns.map V.int) (ns.map PyData.int)
  | [] => .nil
  | n :: ns => .cons (.int n) (TpAll.ints ns)
theorem Tp.tupI {a : Addr} {ns : List Int} (h : SqT K H a (ns.map V.int)) : Tp K H (.ref a) (.tuple (ns.map .int)) := .tup h (TpAll.ints ns)
theorem Road.tp {v : V} {w r : Int} {bs : List Int} (x : Road K H v w r bs) : Tp K H v (roadD w r bs) := by
  obtain ⟨a, b, rfl, h1, h2⟩ := x
  exact .tup h1 (.cons (.int w) (.cons (.int r) (.cons (Tp.tupI h2) .nil)))
end
/-! a comprehension over a range whose elements are such data -/
section
variable {K : PySem.W.Frag} {te : TE} {vs : List Nat} {σ : L2.St} {H1 : Hp} {D a : Addr} {j : Nat} {Qd : Hp → Prop}
theorem lc_tpR {n : Nat} (f : Nat → PyData) (nD : H1 D = none) (hw : ∀ x, wipe ((wipe σ vs).set j (some x)) vs = wipe σ vs) (hz : n ≤ 90000)
    (he : ∀ i H3, i < n → Evl.Ex H1 H3 → ∀ Q : VK, (∀ y H4, Evl.Ex H3 H4 → Tp K H4 y (f i) → Q y H4) → te ((wipe σ vs).set j (some (.int (i : Int)))) H3 Q)
    (hd : ∀ xs H', Evl.Ex H1 H' → H' D = some (.lst xs) → TpAll K H' xs ((List.range n).map f) → Qd H') :
    ∃ W : Nat → Nat → Hp → Prop, (∃ m, W 0 m (upd H1 D (.lst []))) ∧ ∀ i m H, W i m H →
      ((Itr 0 n).stop i H ∧ Qd H) ∨ ((Itr 0 n).go i H ∧ ∃ Nx : Hp → Prop, (∀ H', Nx H' → ∃ m', m' < m ∧ W (i + 1) m' H') ∧ ∀ x H', (Itr 0 n).yld i H x H' → (gName j) x (wipe σ vs) H' fun σ2 H2 => wipe σ2 vs = wipe σ vs ∧ tYes σ2 H2 fun b H3 =>
        if b = true then te σ2 H3 fun y H4 => ∃ acc, H4 D = some (.lst acc) ∧ acc.length < sizeLine ∧ Nx (upd H4 D (.lst (acc ++ [y]))) else Nx H3) := by
  refine lc_range (lo := 0) (n := n) (fun i H' => Evl.Ex H1 H' ∧ ∃ xs, H' D = some (.lst xs) ∧ TpAll K H' xs ((List.range i).map f)) ⟨Evl.Ex.new nD, [], upd_same, .nil⟩ ?_ ?_
  · rintro i H' hi ⟨p1, xs, p2, p3⟩
    refine ⟨hw _, ?_⟩
    show te ((wipe σ vs).set j (some (.int ((0 : Int) + (i : Int))))) H' _
    rw [Int.zero_add]
    refine he i H' hi p1 _ fun y H4 e4 hy => ⟨xs, e4 _ _ p2, ?_, Evl.Ex.mut (p1.trans e4) nD, xs ++ [y], upd_same, ?_⟩
    · have := p3.length
      rw [List.length_map, List.length_range] at this
      exact sz_lt (by omega)
    · rw [List.range_succ, List.map_append]
      exact TpAll.snoc ((p3.ex e4).upd (e4 _ _ p2)) (hy.upd (e4 _ _ p2))
  · rintro H' ⟨p1, xs, p2, p3⟩
    exact hd xs H' p1 p2 p3
end
end Rb
namespace Rb
/-! ### plans and ticks: the mathematics -/
def mx (a b : Int) : Int := if b > a then b else a
def leP (p q : Int × Int) : Prop := p.1 < q.1 ∨ (p.1 = q.1 ∧ p.2 ≤ q.2)
instance (p q : Int × Int) : Decidable (leP p q) := inferInstanceAs (Decidable (p.1 < q.1 ∨ (p.1 = q.1 ∧ p.2 ≤ q.2)))
def insB {α : Type} (le : α → α → Bool) (x : α) : List α → List α
  | [] => [x]
  | y :: ys => if le x y = true then x :: y :: ys else y :: insB le x ys
def sortB {α : Type} (le : α → α → Bool) : List α → List α
  | [] => []
  | x :: xs => insB le x (sortB le xs)
theorem insB_perm {α : Type} (le : α → α → Bool) (x : α) : ∀ l : List α, (insB le x l).Perm (x :: l)
  | [] => List.Perm.refl _
  | y :: ys => by
    unfold insB
    split
    · exact List.Perm.refl _
    · exact ((insB_perm le x ys).cons y).trans (List.Perm.swap x y ys)
theorem sortB_perm {α : Type} (le : α → α → Bool) : ∀ l : List α, (sortB le l).Perm l
  | [] => List.Perm.refl _
  | x :: xs => (insB_perm le x _).trans ((sortB_perm le xs).cons x)
theorem insB_sorted {α : Type} {le : α → α → Bool} (tr : ∀ a b c, le a b = true → le b c = true → le a c = true) (tot : ∀ a b, le a b = true ∨ le b a = true) (x : α) : ∀ l : List α, l.Pairwise (fun a b => le a b = true) → (insB le x l).Pairwise (fun a b => le a b = true)
  | [], _ => List.pairwise_singleton _ _
  | y :: ys, h => by
    have hy := List.pairwise_cons.mp h
    unfold insB
    split
    · rename_i c
      refine List.pairwise_cons.mpr ⟨fun z hz => ?_, h⟩
      rcases List.mem_cons.mp hz with rfl | hz
      · exact c
      · exact tr _ _ _ c (hy.1 z hz)
    · rename_i c
      refine List.pairwise_cons.mpr ⟨fun z hz => ?_, insB_sorted tr tot x ys hy.2⟩
      rcases List.mem_cons.mp ((insB_perm le x ys).mem_iff.mp hz) with rfl | hz
      · exact (tot z y).resolve_left c
      · exact hy.1 z hz
theorem sortB_sorted {α : Type} {le : α → α → Bool} (tr : ∀ a b c, le a b = true → le b c = true → le a c = true) (tot : ∀ a b, le a b = true ∨ le b a = true) : ∀ l : List α, (sortB le l).Pairwise (fun a b => le a b = true)
  | [] => List.Pairwise.nil
  | x :: xs => insB_sorted tr tot x _ (sortB_sorted tr tot xs)
def srt (l : List Int) : List Int := sortB (fun a b => decide (a ≤ b)) l
def srtP (l : List (Int × Int)) : List (Int × Int) := sortB (fun a b => decide (leP a b)) l
theorem srt_perm (l : List Int) : (srt l).Perm l := sortB_perm _ l
theorem srtP_perm (l : List (Int × Int)) : (srtP l).Perm l := sortB_perm _ l
theorem srt_sorted (l : List Int) : (srt l).Pairwise (· ≤ ·) := by
  have h := sortB_sorted (le := fun a b : Int => decide (a ≤ b)) (fun a b c h1 h2 => by simp only [decide_eq_true_eq] at *; omega) (fun a b => by simp only [decide_eq_true_eq]; omega) l
  exact h.imp fun h => of_decide_eq_true h
theorem leP_trans {a b c : Int × Int} (h1 : leP a b) (h2 : leP b c) : leP a c := by
  unfold leP at *
  omega
theorem leP_total (a b : Int × Int) : leP a b ∨ leP b a := by
  unfold leP
  omega
theorem srtP_sorted (l : List (Int × Int)) : (srtP l).Pairwise leP := by
  have h := sortB_sorted (le := fun a b : Int × Int => decide (leP a b)) (fun a b c h1 h2 => decide_eq_true (leP_trans (of_decide_eq_true h1) (of_decide_eq_true h2))) (fun a b => by rcases leP_total a b with h | h <;> simp [h]) l
  exact h.imp fun h => of_decide_eq_true h
theorem leP_anti {a b : Int × Int} (h1 : leP a b) (h2 : leP b a) : a = b := by
  obtain ⟨a1, a2⟩ := a
  obtain ⟨b1, b2⟩ := b
  simp only [leP] at h1 h2
  have : a1 = b1 := by omega
  have : a2 = b2 := by omega
  simp [*]
theorem srt_uniq {l m : List Int} (hp : m.Perm l) (hs : m.Pairwise (· ≤ ·)) : m = srt l :=
  List.Perm.eq_of_pairwise (fun a b _ _ h1 h2 => Int.le_antisymm h1 h2) hs (srt_sorted l) (hp.trans (srt_perm l).symm)
theorem srtP_uniq {l m : List (Int × Int)} (hp : m.Perm l) (hs : m.Pairwise leP) : m = srtP l :=
  List.Perm.eq_of_pairwise (fun a b _ _ h1 h2 => leP_anti h1 h2) hs (srtP_sorted l) (hp.trans (srtP_perm l).symm)
theorem srt_len (l : List Int) : (srt l).length = l.length := (srt_perm l).length_eq
theorem srtP_len (l : List (Int × Int)) : (srtP l).length = l.length := (srtP_perm l).length_eq
/-- places set one after another -/
def setF (l : List Int) (zs : List (Nat × Int)) : List Int := zs.foldl (fun l z => l.set z.1 z.2) l
theorem setF_len : ∀ (zs : List (Nat × Int)) (l : List Int), (setF l zs).length = l.length
  | [], _ => rfl
  | z :: zs, l => by
    show (setF (l.set z.1 z.2) zs).length = _
    rw [setF_len zs, List.length_set]
theorem setF_snoc (l : List Int) (zs : List (Nat × Int)) (z : Nat × Int) : setF l (zs ++ [z]) = (setF l zs).set z.1 z.2 := by
  unfold setF
  rw [List.foldl_append]
  rfl
theorem setF_out : ∀ (zs : List (Nat × Int)) (l : List Int) (p : Nat), (∀ z ∈ zs, z.1 ≠ p) → (setF l zs)[p]? = l[p]?
  | [], _, _, _ => rfl
  | z :: zs, l, p, h => by
    show (setF (l.set z.1 z.2) zs)[p]? = _
    rw [setF_out zs _ p fun y hy => h y (List.mem_cons_of_mem _ hy), List.getElem?_set, if_neg (h z List.mem_cons_self)]
theorem setF_in : ∀ (zs : List (Nat × Int)) (l : List Int) (p : Nat) (x : Int), (zs.map (·.1)).Nodup → (p, x) ∈ zs → p < l.length → (setF l zs)[p]? = some x
  | [], _, _, _, _, h, _ => nomatch h
  | z :: zs, l, p, x, nd, h, hp => by
    show (setF (l.set z.1 z.2) zs)[p]? = _
    have nd' := List.nodup_cons.mp nd
    rcases List.mem_cons.mp h with e | h
    · subst e
      rw [setF_out zs _ p fun y hy e => nd'.1 (List.mem_map.mpr ⟨y, hy, e⟩), List.getElem?_set, if_pos rfl, if_pos hp]
    · exact setF_in zs _ p x nd'.2 h (by rw [List.length_set]; exact hp)
/-! one stage -/
section
variable (ticks : List Int) (riders brought : List Nat) (st : Nat) (walk ride : Int)
def tickAt (p : Nat) : Int := ticks.getD p 0
def queueM : List (Int × Int) := srtP (riders.map fun p => (tickAt ticks p, (p : Int)))
def bikesM : List Int := srt (List.replicate st 0 ++ brought.map fun p => tickAt ticks p)
def pairsM : List ((Int × Int) × Int) := (queueM ticks riders).zip (bikesM ticks brought st)
def leaveM : List Int := setF ticks ((pairsM ticks riders brought st).map fun z => (z.1.2.toNat, mx z.1.1 z.2))
def rowM : List Int := (leaveM ticks riders brought st).mapIdx fun p t => t + if p ∈ riders then ride else walk
end
section
variable {ticks : List Int} {riders brought : List Nat} {st : Nat} {walk ride : Int}
theorem queueM_len : (queueM ticks riders).length = riders.length := by
  unfold queueM
  rw [srtP_len, List.length_map]
theorem bikesM_len : (bikesM ticks brought st).length = st + brought.length := by
  unfold bikesM
  rw [srt_len, List.length_append, List.length_replicate, List.length_map]
theorem pairsM_len (h : riders.length ≤ st + brought.length) : (pairsM ticks riders brought st).length = riders.length := by
  unfold pairsM
  rw [List.length_zip, queueM_len, bikesM_len]
  omega
theorem leaveM_len : (leaveM ticks riders brought st).length = ticks.length := setF_len _ _
theorem rowM_len : (rowM ticks riders brought st walk ride).length = ticks.length := by
  unfold rowM
  rw [List.length_mapIdx, leaveM_len]
/-- the people of the pairs are the riders -/
theorem pairs_people (h : riders.length ≤ st + brought.length) : ((pairsM ticks riders brought st).map fun z => z.1.2.toNat).Perm riders := by
  have e : (pairsM ticks riders brought st).map (fun z => z.1.2.toNat) = (queueM ticks riders).map (fun z => z.2.toNat) := by
    unfold pairsM
    rw [show (fun z : (Int × Int) × Int => z.1.2.toNat) = (fun z : Int × Int => z.2.toNat) ∘ Prod.fst from rfl, ← List.map_map, List.map_fst_zip (by rw [queueM_len, bikesM_len]; exact h)]
  rw [e]
  have p := (srtP_perm (riders.map fun p => (tickAt ticks p, (p : Int)))).map fun z => z.2.toNat
  rw [List.map_map] at p
  have e2 : riders.map ((fun z : Int × Int => z.2.toNat) ∘ fun p => (tickAt ticks p, (p : Int))) = riders := by
    rw [show ((fun z : Int × Int => z.2.toNat) ∘ fun p : Nat => (tickAt ticks p, (p : Int))) = id from funext fun p => Int.toNat_natCast p, List.map_id]
  rw [e2] at p
  exact p
theorem pairs_mem {z : (Int × Int) × Int} (h : z ∈ pairsM ticks riders brought st) : ∃ p ∈ riders, z.1 = (tickAt ticks p, (p : Int)) := by
  have h1 : z.1 ∈ queueM ticks riders := (List.of_mem_zip (show (z.1, z.2) ∈ (queueM ticks riders).zip _ from h)).1
  have h2 := (srtP_perm _).mem_iff.mp h1
  obtain ⟨p, hp, e⟩ := List.mem_map.mp h2
  exact ⟨p, hp, e.symm⟩
/-- who leaves when -/
theorem leave_in (h : riders.length ≤ st + brought.length) (nd : riders.Nodup) {p : Nat} (hp : p ∈ riders) (hl : p < ticks.length) :
    ∃ b, ((tickAt ticks p, (p : Int)), b) ∈ pairsM ticks riders brought st ∧ (leaveM ticks riders brought st)[p]? = some (mx (tickAt ticks p) b) := by
  have pp := pairs_people (ticks := ticks) h
  obtain ⟨z, hz, e⟩ := List.mem_map.mp (pp.mem_iff.mpr hp)
  obtain ⟨p2, hp2, e2⟩ := pairs_mem hz
  have : p2 = p := by
    rw [e2] at e
    simpa using e
  subst this
  obtain ⟨z1, b⟩ := z
  simp only at e2
  subst e2
  refine ⟨b, hz, ?_⟩
  refine setF_in _ _ p2 _ ?_ (List.mem_map.mpr ⟨_, hz, by simp⟩) hl
  rw [List.map_map]
  exact pp.nodup_iff.mpr nd
theorem leave_out {p : Nat} (hp : p ∉ riders) : (leaveM ticks riders brought st)[p]? = ticks[p]? := by
  refine setF_out _ _ p fun y hy e => ?_
  obtain ⟨z, hz, rfl⟩ := List.mem_map.mp hy
  obtain ⟨p2, hp2, e2⟩ := pairs_mem hz
  simp only [e2] at e
  have : p2 = p := by simpa using e
  exact hp (this ▸ hp2)
/-! the law's own way: the same pairs, rides added at once, then the walkers -/
def afterM (ticks : List Int) (riders brought : List Nat) (st : Nat) (ride : Int) (i : Nat) : List Int := setF ticks (((pairsM ticks riders brought st).take i).map fun z => (z.1.2.toNat, mx z.2 z.1.1 + ride))
def walkM (l : List Int) (riders : List Nat) (walk : Int) (k : Nat) : List Int := l.mapIdx fun p t => if p < k ∧ p ∉ riders then t + walk else t
theorem mx_comm (a b : Int) : mx a b = mx b a := by
  unfold mx
  split <;> split <;> omega
theorem after_row (h : riders.length ≤ st + brought.length) (nd : riders.Nodup) (hr : ∀ p ∈ riders, p < ticks.length) :
    walkM (afterM ticks riders brought st ride riders.length) riders walk ticks.length = rowM ticks riders brought st walk ride := by
  apply List.ext_getElem?
  intro p
  unfold walkM rowM
  rw [List.getElem?_mapIdx, List.getElem?_mapIdx]
  have hz : (pairsM ticks riders brought st).take riders.length = pairsM ticks riders brought st := List.take_of_length_le (by rw [pairsM_len h]; exact Nat.le_refl _)
  unfold afterM
  rw [hz]
  by_cases hp : p ∈ riders
  · obtain ⟨b, hb, e⟩ := leave_in h nd hp (hr p hp)
    rw [e]
    have e2 : (setF ticks ((pairsM ticks riders brought st).map fun z => (z.1.2.toNat, mx z.2 z.1.1 + ride)))[p]? = some (mx b (tickAt ticks p) + ride) := by
      refine setF_in _ _ p _ ?_ (List.mem_map.mpr ⟨_, hb, by simp⟩) (hr p hp)
      rw [List.map_map]
      exact (pairs_people (ticks := ticks) h).nodup_iff.mpr nd
    rw [e2]
    simp only [Option.map_some, hp, not_true_eq_false, and_false, if_false, if_true]
    rw [mx_comm]
  · rw [leave_out hp]
    have e2 : (setF ticks ((pairsM ticks riders brought st).map fun z => (z.1.2.toNat, mx z.2 z.1.1 + ride)))[p]? = ticks[p]? := by
      refine setF_out _ _ p fun y hy e => ?_
      obtain ⟨z, hz, rfl⟩ := List.mem_map.mp hy
      obtain ⟨p2, hp2, e2⟩ := pairs_mem hz
      simp only [e2] at e
      have : p2 = p := by simpa using e
      exact hp (this ▸ hp2)
    rw [e2]
    by_cases hl : p < ticks.length
    · rw [List.getElem?_eq_getElem hl]
      simp only [Option.map_some, hp, hl, not_false_eq_true, and_self, if_true, if_false]
    · rw [List.getElem?_eq_none (by omega)]
      rfl
end
/-! a whole plan: the ticks at each station -/
structure PlanOk (bikes : List Int) (n : Nat) (plan : List (List Nat)) : Prop where
  len : plan.length = bikes.length
  nn : ∀ b ∈ bikes, 0 ≤ b
  asc : ∀ r ∈ plan, r.Pairwise (· < ·)
  lt : ∀ r ∈ plan, ∀ p ∈ r, p < n
  few : ∀ i, (plan.getD i []).length ≤ (bikes.getD i 0).toNat + (if i = 0 then 0 else (plan.getD (i - 1) []).length)
def brM (plan : List (List Nat)) (i : Nat) : List Nat := if i = 0 then [] else plan.getD (i - 1) []
def tkM (walk ride : Int) (bikes starts : List Int) (plan : List (List Nat)) : Nat → List Int
  | 0 => starts
  | i + 1 => rowM (tkM walk ride bikes starts plan i) (plan.getD i []) (brM plan i) (bikes.getD i 0).toNat walk ride
theorem tkM_len {walk ride : Int} {bikes starts : List Int} {plan : List (List Nat)} : ∀ i, (tkM walk ride bikes starts plan i).length = starts.length
  | 0 => rfl
  | i + 1 => by
    show (rowM _ _ _ _ _ _).length = _
    rw [rowM_len, tkM_len i]
def rowsM (walk ride : Int) (bikes starts : List Int) (plan : List (List Nat)) (m : Nat) : List (List Int) := (List.range (m + 1)).map (tkM walk ride bikes starts plan)
/-! waits -/
def waitsI (w0 ticks : List Int) (riders brought : List Nat) (st k : Nat) : List Int := setF w0 (((pairsM ticks riders brought st).take k).map fun z => (z.1.2.toNat, w0.getD z.1.2.toNat 0 + mx 0 (z.2 - z.1.1)))
def wtM (walk ride : Int) (bikes starts : List Int) (plan : List (List Nat)) : Nat → List Int
  | 0 => List.replicate starts.length 0
  | i + 1 => waitsI (wtM walk ride bikes starts plan i) (tkM walk ride bikes starts plan i) (plan.getD i []) (brM plan i) (bikes.getD i 0).toNat (plan.getD i []).length
theorem waitsI_len {w0 ticks : List Int} {riders brought : List Nat} {st k : Nat} : (waitsI w0 ticks riders brought st k).length = w0.length := setF_len _ _
theorem wtM_len {walk ride : Int} {bikes starts : List Int} {plan : List (List Nat)} : ∀ i, (wtM walk ride bikes starts plan i).length = starts.length
  | 0 => List.length_replicate
  | i + 1 => by
    show (waitsI _ _ _ _ _ _).length = _
    rw [waitsI_len, wtM_len i]
theorem afterM_len {ticks : List Int} {riders brought : List Nat} {st : Nat} {ride : Int} {k : Nat} : (afterM ticks riders brought st ride k).length = ticks.length := setF_len _ _
section
variable {ticks w0 : List Int} {riders brought : List Nat} {st k : Nat} {ride : Int} {z : (Int × Int) × Int}
theorem take_snoc (hz : (pairsM ticks riders brought st)[k]? = some z) : (pairsM ticks riders brought st).take (k + 1) = (pairsM ticks riders brought st).take k ++ [z] := by
  rw [List.take_add_one, hz]
  rfl
theorem afterM_succ (hz : (pairsM ticks riders brought st)[k]? = some z) : afterM ticks riders brought st ride (k + 1) = (afterM ticks riders brought st ride k).set z.1.2.toNat (mx z.2 z.1.1 + ride) := by
  unfold afterM
  rw [take_snoc hz, List.map_append]
  exact setF_snoc _ _ _
theorem waitsI_succ (hz : (pairsM ticks riders brought st)[k]? = some z) : waitsI w0 ticks riders brought st (k + 1) = (waitsI w0 ticks riders brought st k).set z.1.2.toNat (w0.getD z.1.2.toNat 0 + mx 0 (z.2 - z.1.1)) := by
  unfold waitsI
  rw [take_snoc hz, List.map_append]
  exact setF_snoc _ _ _
/-- a rider's wait is not set before the rider's turn -/
theorem waitsI_at (h : riders.length ≤ st + brought.length) (nd : riders.Nodup) (hz : (pairsM ticks riders brought st)[k]? = some z) : (waitsI w0 ticks riders brought st k)[z.1.2.toNat]? = w0[z.1.2.toNat]? := by
  refine setF_out _ _ _ fun y hy e => ?_
  obtain ⟨x, hx, rfl⟩ := List.mem_map.mp hy
  obtain ⟨j, hj, ej⟩ := List.getElem_of_mem hx
  rw [List.length_take] at hj
  have pn : ((pairsM ticks riders brought st).map fun z => z.1.2.toNat).Nodup := (pairs_people (ticks := ticks) h).nodup_iff.mpr nd
  have kl : k < (pairsM ticks riders brought st).length := (List.getElem?_eq_some_iff.mp hz).1
  have ek : (pairsM ticks riders brought st)[k] = z := (List.getElem?_eq_some_iff.mp hz).2
  rw [List.getElem_take] at ej
  have jl : j < (pairsM ticks riders brought st).length := by omega
  have ne := List.pairwise_iff_getElem.mp (List.nodup_iff_pairwise_ne.mp pn) j k (by rw [List.length_map]; exact jl) (by rw [List.length_map]; exact kl) (by omega)
  rw [List.getElem_map, List.getElem_map, ej, ek] at ne
  exact ne e
theorem walkM_len {l : List Int} {walk : Int} : (walkM l riders walk k).length = l.length := by
  unfold walkM
  rw [List.length_mapIdx]
theorem walkM_zero {l : List Int} {walk : Int} : walkM l riders walk 0 = l := by
  unfold walkM
  apply List.ext_getElem?
  intro p
  rw [List.getElem?_mapIdx]
  cases l[p]? with
  | none => rfl
  | some x => simp
theorem walkM_in {l : List Int} {walk : Int} (h : k ∈ riders) : walkM l riders walk (k + 1) = walkM l riders walk k := by
  unfold walkM
  apply List.ext_getElem?
  intro p
  rw [List.getElem?_mapIdx, List.getElem?_mapIdx]
  cases l[p]? with
  | none => rfl
  | some x =>
    have e : (p < k + 1 ∧ p ∉ riders) ↔ (p < k ∧ p ∉ riders) := by
      constructor
      · rintro ⟨a, b⟩
        refine ⟨?_, b⟩
        rcases Nat.lt_or_ge p k with c | c
        · exact c
        · have : p = k := by omega
          exact absurd (this ▸ h) b
      · rintro ⟨a, b⟩
        exact ⟨by omega, b⟩
    simp only [Option.map_some, e]
theorem walkM_out {l : List Int} {walk x : Int} (h : k ∉ riders) (hx : (walkM l riders walk k)[k]? = some x) : walkM l riders walk (k + 1) = (walkM l riders walk k).set k (x + walk) := by
  have kl : k < l.length := by
    have := (List.getElem?_eq_some_iff.mp hx).1
    rw [walkM_len] at this
    exact this
  apply List.ext_getElem?
  intro p
  rw [List.getElem?_set]
  by_cases e : k = p
  · subst e
    rw [if_pos rfl, if_pos (by rw [walkM_len]; exact kl)]
    unfold walkM at hx ⊢
    rw [List.getElem?_mapIdx, List.getElem?_eq_getElem kl] at hx ⊢
    simp only [Option.map_some, Nat.lt_irrefl, false_and, if_false, Option.some.injEq] at hx
    simp only [Option.map_some, Nat.lt_succ_self, h, not_false_eq_true, and_self, if_true, hx]
  · rw [if_neg e]
    unfold walkM
    rw [List.getElem?_mapIdx, List.getElem?_mapIdx]
    cases l[p]? with
    | none => rfl
    | some y =>
      have e2 : (p < k + 1 ∧ p ∉ riders) ↔ (p < k ∧ p ∉ riders) := by
        constructor <;> (rintro ⟨a, b⟩; exact ⟨by omega, b⟩)
      simp only [Option.map_some, e2]
end
/-- a least item of what is left is the next in order -/
theorem least_next {S l : List (Int × Int)} {k : Nat} {m : Int × Int} (hs : S.Pairwise leP) (hp : l.Perm (S.drop k)) (hm : m ∈ l) (hle : ∀ q ∈ l, leP m q) : S[k]? = some m ∧ S.drop k = m :: S.drop (k + 1) := by
  have hm2 := hp.mem_iff.mp hm
  have kl : k < S.length := by
    rcases Nat.lt_or_ge k S.length with c | c
    · exact c
    · rw [List.drop_of_length_le c] at hm2
      cases hm2
  have ed : S.drop k = S[k] :: S.drop (k + 1) := List.drop_eq_getElem_cons kl
  have h1 : leP m S[k] := hle _ (hp.mem_iff.mpr (by rw [ed]; exact List.mem_cons_self))
  have h2 : leP S[k] m := by
    have hs2 : (S.drop k).Pairwise leP := hs.sublist (List.drop_sublist _ _)
    rw [ed] at hs2 hm2
    rcases List.mem_cons.mp hm2 with e | e
    · rw [e]
      exact .inr ⟨rfl, Int.le_refl _⟩
    · exact (List.pairwise_cons.mp hs2).1 m e
  have e := leP_anti h1 h2
  exact ⟨by rw [List.getElem?_eq_getElem kl, e], by rw [e]; exact ed⟩
theorem least_nextI {S l : List Int} {k : Nat} {m : Int} (hs : S.Pairwise (· ≤ ·)) (hp : l.Perm (S.drop k)) (hm : m ∈ l) (hle : ∀ q ∈ l, m ≤ q) : S[k]? = some m ∧ S.drop k = m :: S.drop (k + 1) := by
  have hm2 := hp.mem_iff.mp hm
  have kl : k < S.length := by
    rcases Nat.lt_or_ge k S.length with c | c
    · exact c
    · rw [List.drop_of_length_le c] at hm2
      cases hm2
  have ed : S.drop k = S[k] :: S.drop (k + 1) := List.drop_eq_getElem_cons kl
  have h1 : m ≤ S[k] := hle _ (hp.mem_iff.mpr (by rw [ed]; exact List.mem_cons_self))
  have h2 : S[k] ≤ m := by
    have hs2 : (S.drop k).Pairwise (· ≤ ·) := hs.sublist (List.drop_sublist _ _)
    rw [ed] at hs2 hm2
    rcases List.mem_cons.mp hm2 with e | e
    · omega
    · exact (List.pairwise_cons.mp hs2).1 m e
  have e : m = S[k] := by omega
  exact ⟨by rw [List.getElem?_eq_getElem kl, e], by rw [e]; exact ed⟩
theorem first_idx {α : Type} [DecidableEq α] {l : List α} {m : α} (h : m ∈ l) : ∃ j : Nat, l[j]? = some m ∧ ∀ i : Nat, i < j → l[i]? ≠ some m := by
  induction l with
  | nil => cases h
  | cons x r ih =>
    by_cases e : x = m
    · exact ⟨0, by rw [e]; rfl, fun i hi => absurd hi (Nat.not_lt_zero _)⟩
    · rcases List.mem_cons.mp h with h | h
      · exact absurd h.symm e
      · obtain ⟨j, h1, h2⟩ := ih h
        refine ⟨j + 1, h1, fun i hi => ?_⟩
        cases i with
        | zero => exact fun z => e (Option.some.inj z)
        | succ i => exact h2 i (by omega)
theorem erase_next {α : Type} {l r : List α} {m : α} {j : Nat} (hj : l[j]? = some m) (hp : l.Perm (m :: r)) : (l.eraseIdx j).Perm r := by
  have h : (m :: l.eraseIdx j).Perm l := by
    clear hp
    induction l generalizing j with
    | nil => simp at hj
    | cons x l ih =>
      cases j with
      | zero =>
        cases hj
        exact List.Perm.refl _
      | succ j => exact (List.Perm.swap x m _).trans ((ih hj).cons x)
  exact (h.trans hp).cons_inv
/-! bounds -/
def Bnd (M : Int) (l : List Int) : Prop := ∀ x ∈ l, 0 ≤ x ∧ x ≤ M
theorem setF_mem : ∀ (zs : List (Nat × Int)) (l : List Int) (x : Int), x ∈ setF l zs → x ∈ l ∨ ∃ z ∈ zs, x = z.2
  | [], _, _, h => .inl h
  | z :: zs, l, x, h => by
    rcases setF_mem zs (l.set z.1 z.2) x h with h | ⟨y, hy, e⟩
    · rcases List.mem_or_eq_of_mem_set h with h | h
      · exact .inl h
      · exact .inr ⟨z, List.mem_cons_self, h⟩
    · exact .inr ⟨y, List.mem_cons_of_mem _ hy, e⟩
theorem tickAt_bnd {M : Int} {ticks : List Int} (hM : 0 ≤ M) (h : Bnd M ticks) (p : Nat) : 0 ≤ tickAt ticks p ∧ tickAt ticks p ≤ M := by
  unfold tickAt
  rw [List.getD_eq_getElem?_getD]
  cases e : ticks[p]? with
  | none => exact ⟨Int.le_refl _, hM⟩
  | some x => exact h x (List.mem_of_getElem? e)
theorem leave_bnd {M : Int} {ticks : List Int} {riders brought : List Nat} {st : Nat} (hM : 0 ≤ M) (h : Bnd M ticks) : Bnd M (leaveM ticks riders brought st) := by
  intro x hx
  rcases setF_mem _ _ x hx with g | ⟨z, hz, rfl⟩
  · exact h x g
  · obtain ⟨y, hy, rfl⟩ := List.mem_map.mp hz
    obtain ⟨p, hp, e⟩ := pairs_mem hy
    have hb : y.2 ∈ bikesM ticks brought st := (List.of_mem_zip (show (y.1, y.2) ∈ (queueM ticks riders).zip (bikesM ticks brought st) from hy)).2
    have hb2 : 0 ≤ y.2 ∧ y.2 ≤ M := by
      rcases List.mem_append.mp ((srt_perm _).mem_iff.mp hb) with g | g
      · rw [List.eq_of_mem_replicate g]
        exact ⟨Int.le_refl _, hM⟩
      · obtain ⟨q, _, e2⟩ := List.mem_map.mp g
        rw [← e2]
        exact tickAt_bnd hM h q
    have ht := tickAt_bnd hM h p
    have e1 : y.1.1 = tickAt ticks p := by rw [e]
    show 0 ≤ mx y.1.1 y.2 ∧ mx y.1.1 y.2 ≤ M
    unfold mx
    split <;> omega
theorem row_bnd {M walk ride : Int} {ticks : List Int} {riders brought : List Nat} {st : Nat} (hM : 0 ≤ M) (h : Bnd M ticks) (hw : 0 ≤ walk ∧ walk ≤ 1000) (hr : 0 ≤ ride ∧ ride ≤ 1000) : Bnd (M + 1000) (rowM ticks riders brought st walk ride) := by
  intro x hx
  obtain ⟨i, hi, e⟩ := List.getElem_of_mem hx
  unfold rowM at hi e
  rw [List.getElem_mapIdx] at e
  rw [List.length_mapIdx] at hi
  have g := leave_bnd (riders := riders) (brought := brought) (st := st) hM h _ (List.getElem_mem hi)
  split at e <;> omega
theorem tk_bnd {walk ride M : Int} {bikes starts : List Int} {plan : List (List Nat)} (hM : 0 ≤ M) (h : Bnd M starts) (hw : 0 ≤ walk ∧ walk ≤ 1000) (hr : 0 ≤ ride ∧ ride ≤ 1000) : ∀ i : Nat, Bnd (M + 1000 * i) (tkM walk ride bikes starts plan i)
  | 0 => fun x hx => by have := h x hx; omega
  | i + 1 => by
    have g := row_bnd (riders := plan.getD i []) (brought := brM plan i) (st := (bikes.getD i 0).toNat) (by omega) (tk_bnd (bikes := bikes) (plan := plan) hM h hw hr i) hw hr
    intro x hx
    have := g x hx
    have e : ((i + 1 : Nat) : Int) = (i : Int) + 1 := by omega
    omega
end Rb
namespace Rb
open PySem PySem.Spec PyProof.Rows L2
/-! enumerate of a tuple -/
abbrev tIter (t : Addr) : Obj := { cls := .type "tuple_iterator", data := .fields #[.ref t, .int 0 0] }
abbrev enObj (it : Addr) : Obj := { cls := .type "enumerate", data := .fields #[.none, .bool false, .ref it, rawInt 0, .none, .none] }
open AutoSeq1 (wpAny_loadPart') in
theorem enumTupNew (t : Addr) (its : Array Value) (n : Nat) (dc : Option Addr) (sl : Array (Option Value)) :
    Meets (Builtin.«enumerate.__new__» ⟨[.type "enumerate", .ref t], []⟩) (fun _ R s => s.heap.get? t = some { cls := .type "tuple", dict := dc, data := .seq its n, slots := sl } ∧
      R (.ok (.ret (.ref (s.heap.push (tIter t)).objs.size))) { s with heap := (s.heap.push (tIter t)).push (enObj s.heap.objs.size) }) := by
  refine .of_wp fun pr wo A R s h => ?_
  obtain ⟨hp, g, d, tk, os⟩ := s
  obtain ⟨ht, h⟩ := h
  have hsub := sub_enumerate
  have hT : Heap.IsTuple (Shared.heap ⟨hp, g, d, tk, os⟩) t its := ⟨_, ht, rfl, n, rfl⟩
  wp_walk using wpAny_loadPart' ht
  refine wpAny_stack_any fun st => wpAny_pure ?_
  split
  · rename_i c _ _ _ _ _
    cases (c == Value.type "enumerate") <;> (wp_walk using wpAny_loadPart' ht, wpAny_pyIter_tuple hT; exact ⟨_, rfl, h⟩)
  · wp_walk using wpAny_loadPart' ht, wpAny_pyIter_tuple hT
    exact ⟨_, rfl, h⟩
theorem enumTup {pr : Program} {wo : World} {A : Around} {E : Value → Shared → Prop} {s : Shared} {t : Addr} {its : Array Value} {Q : Value → Shared → Prop} (hT : s.heap.IsTuple t its)
    (h : ∀ h2, IsEnum h2 (s.heap.objs.size + 1) s.heap.objs.size 0 .none → h2.IsTupleIter s.heap.objs.size t 0 → (∀ b o, s.heap.get? b = some o → h2.get? b = some o) → Q (.ref (s.heap.objs.size + 1)) { s with heap := h2 }) :
    wpAny (model pr wo) A (call (.type "enumerate") [.ref t]) Q E s := by
  obtain ⟨⟨c, dc, dt, sl⟩, ht, hc, n, hd⟩ := hT
  cases (show c = .type "tuple" from hc)
  cases (show dt = .seq its n from hd)
  refine callType_new F.called_enumerate (by decide) (F.typeCall_enumerate_1 _) (F.newCall_enumerate_1 _) (fun obj => F.args_object_init_2 obj _) F.entry_enumerate_new (enumTupNew t its n dc sl) ⟨ht, ?_⟩
  have hz : (s.heap.push (tIter t)).objs.size = s.heap.objs.size + 1 := Heap.size_push ..
  have he : IsEnum ((s.heap.push (tIter t)).push (enObj s.heap.objs.size)) (s.heap.objs.size + 1) s.heap.objs.size 0 .none := by
    have q := Heap.get?_push_size (s.heap.push (tIter t)) (o := enObj s.heap.objs.size) rfl
    rw [hz] at q
    exact q
  show _ ∧ _
  rw [hz]
  exact ⟨⟨_, he, rfl⟩, h _ he ⟨_, Heap.get?_push_of_some _ (Heap.get?_push_size _ rfl), rfl, rfl⟩ fun b o x => Heap.get?_push_of_some _ (Heap.get?_push_of_some _ x)⟩
/-- the tuple at a, each item in a new pair with its place -/
def ItE (K : PySem.W.Frag) (a : Addr) : It where
  go i H := ∃ (xs : List V) (x : V), SqT K H a xs ∧ xs[i]? = some x
  yld i H v H' := ∃ T x, v = .ref T ∧ H T = none ∧ H' = upd H T (.tup [.int (i : Nat), x]) ∧ ∀ xs, SqT K H a xs → xs[i]? = some x
  stop i H := ∃ xs : List V, SqT K H a xs ∧ xs.length = i
theorem turnE {pr : Program} {wo : World} {K : PySem.W.Frag} {elts : List Expr} {kk : Nat} {tp : Pos} (a e it : Addr) :
    Turn pr wo K (.Tuple elts kk tp) (ItE K a) [e, it] e (fun i h => (∃ old, IsEnum h e it ((i : Nat) : Int) old) ∧ h.IsTupleIter it a i ∧ e ≠ it ∧ e ≠ a ∧ a ≠ it) := by
  have two : ∀ {b : Addr}, b ∈ [e, it] → b = e ∨ b = it := fun hb => by simpa using hb
  constructor
  case mem => exact List.mem_cons_self
  case obj =>
    rintro i h ⟨⟨old, he⟩, ⟨o, ho, hc, hd⟩, _⟩ b hb
    rcases two hb with rfl | rfl
    · exact ⟨_, he, fun v q => nomatch q⟩
    · exact ⟨o, ho, fun v q => by rw [hd] at q; cases q⟩
  case keep =>
    rintro i h h' ⟨⟨old, he⟩, hi, hn⟩ k
    exact ⟨⟨old, k e List.mem_cons_self _ he⟩, hi.at fun o q => k it (List.mem_cons_of_mem _ List.mem_cons_self) o q, hn⟩
  case item =>
    intro X h1 h2 h3 hc i pins s σ H E I hf st hg
    subst h1 h2 h3
    obtain ⟨⟨old, he⟩, hit, hne, hea, hai⟩ := st
    obtain ⟨xs, x, hq, hx⟩ := hg
    obtain ⟨its, rv, p, hz⟩ := I.tuple hq
    have p2 := isTup_isTuple p
    obtain ⟨u, hu, ru⟩ := rv.get hx
    have hel : e < s.heap.objs.size := Heap.lt_size he
    have hil : it < s.heap.objs.size := by obtain ⟨_, q, _⟩ := hit; exact Heap.lt_size q
    have ilt : i < its.toArray.size := by
      have := (List.getElem?_eq_some_iff.mp hu).1
      simpa using this
    refine wpAny_pyNext_enum_itemD (Draws.tuple (A := X.A.in1) (I.ok.hd hc) it a hai its.toArray) he ⟨hit, p2⟩ ilt hne (fun hm => ?_) fun x2 h' tk hP ho hs hT hsz hk => ?_
    · rcases List.mem_cons.mp hm with z | hm
      · exact hne z
      · exact hea (List.mem_singleton.mp hm)
    have hx2 : x2 = u := by
      have hP' : its.toArray[i]? = some x2 := hP
      rw [List.getElem?_toArray, hu] at hP'
      exact (Option.some.inj hP').symm
    subst hx2
    refine ⟨_, rfl, wpAny_letOwnedTupleGo_enum (s := { s with heap := h', toks := tk + 1 }) ho fun h2 he2 sb => ?_⟩
    have hT2 : h2.get? s.heap.objs.size = some { cls := .type "tuple", data := .seq #[.int i tk, x2] } := (sb.2 _ (Nat.ne_of_gt hel)).trans hT
    have new : ObjOk X.prog X.w (upd H s.heap.objs.size (.tup [.int (i : Nat), x])) h2 s.heap.objs.size (.tup [.int (i : Nat), x]) :=
      ⟨by show 2 ≤ sizeLine; decide, [.int i tk, x2], .cons ⟨_, rfl⟩ (.cons ru .nil), ⟨_, hT2, rfl, _, rfl⟩⟩
    have I1 : Inv X pins σ (upd H s.heap.objs.size (.tup [.int (i : Nat), x])) { s with heap := h2, toks := tk + 1 } :=
      I.turnedNew (ch := [e, it]) (fun b ob hb q => (sb.2 b (fun z => hb (by simp [z]))).trans (hk b ob (fun z => hb (by simp [z])) (fun z => hb (by simp [z])) q)) hf (Nat.le_refl _) new
    refine ⟨.ref s.heap.objs.size, _, I1, rfl, ⟨_, x, rfl, I.hok.fresh (Nat.le_refl _), rfl, fun ys hy => by rw [I.tuple_inj hy hq]; exact hx⟩, ⟨⟨x2, ?_⟩, hs.1.at fun o q => (sb.2 it (Ne.symm hne)).trans q, hne, hea, hai⟩, fun b hb => ?_⟩
    · rw [show ((i + 1 : Nat) : Int) = (i : Int) + 1 by omega]
      exact he2
    · have hb2 : b < s.heap.objs.size := by
        rcases two hb with rfl | rfl
        · exact hel
        · exact hil
      rw [upd_ne (Nat.ne_of_lt hb2)]
      exact (hf b hb).1
  case done =>
    intro X h1 h2 h3 hc i pins s σ H E I hf st hg
    subst h1 h2 h3
    obtain ⟨⟨old, he⟩, hit, hne, hea, hai⟩ := st
    obtain ⟨xs, hq, hx⟩ := hg
    obtain ⟨its, rv, p, hz⟩ := I.tuple hq
    obtain ⟨f0, f1, f2, f3, f4, f5⟩ := hf it (List.mem_cons_of_mem _ List.mem_cons_self)
    have hl := rv.length
    have ei : i = its.toArray.size := by simp; omega
    subst ei
    exact wpAny_pyNext_enum_endD (Draws.tuple (A := X.A.in1) (I.ok.hd hc) it a hai its.toArray) he ⟨hit, isTup_isTuple p⟩ fun h2 eb => ⟨rfl, I.turned (t' := s.toks) (fun b o hb q => eb b o hb q) f0 f1 f3 f4 f5⟩
  case self =>
    rintro A i s Q E ⟨⟨_, he⟩, _⟩ h
    exact wpAny_pyIter_enum he h
def iEnumT (K : PySem.W.Frag) (ta : TA) : TI := fun σ H R => ta σ H fun vs H1 => ∃ a xs, vs = [.ref a] ∧ SqT K H1 a xs ∧ R (ItE K a) H1
theorem pi_enumT {X : Cx} {e : Expr} {ta : TA} {p1 p2 p3 : Pos} {elts : List Expr} {kk : Nat} (gl : Gl X "enumerate") (nm : X.mg "enumerate" = none) (pa : PA X [e] ta) (st : starEach [e] X.env = [(false, eval e X.env)] := by rfl) :
    PI X (.Tuple elts kk p3) (.Call (.Name "enumerate" p1) [e] [] p2) (iEnumT X.K ta) := by
  constructor
  intro pins s σ H R I h
  refine Call_ (ld_blt I gl nm boot_enumerate (PyProof.Rows.callWith_type1 (thn (pa.run p2 pins s σ H _ I h) fun us s1 ⟨vs, H1, I1, r1, q1⟩ => ?_) st rfl))
  obtain ⟨a, xs, rfl, hq, q⟩ := q1
  obtain ⟨u, rfl, ru⟩ := vals1 r1
  cases ru
  obtain ⟨its, rv, p, hz⟩ := I1.tuple hq
  have p2 := isTup_isTuple p
  have alt : a < s1.heap.objs.size := by obtain ⟨_, e, _⟩ := p2; exact Heap.lt_size e
  refine enumTup p2 fun h2 he hit hk => wpAny_pyIter_enum he ?_
  have I2 : Inv X pins σ H1 { s1 with heap := h2 } := I1.kept (t' := s1.toks) hk
  refine ⟨s1.heap.objs.size + 1, [s1.heap.objs.size + 1, s1.heap.objs.size], _, _, H1, rfl, I2, turnE a (s1.heap.objs.size + 1) s1.heap.objs.size, ⟨⟨.none, he⟩, hit, Nat.succ_ne_self _, Nat.ne_of_gt (Nat.lt_succ_of_lt alt), Nat.ne_of_lt alt⟩, fun b hb => ?_, q⟩
  have hle : s1.heap.objs.size ≤ b := by
    rcases List.mem_cons.mp hb with rfl | hb
    · omega
    · rw [List.mem_singleton.mp hb]
      exact Nat.le_refl _
  exact I1.fpOk hle (I1.hok.fresh hle)
/-! loops over pairs: the pair is a new tuple -/
section
variable {K : PySem.W.Frag} {a b : Addr} {xs ys : List V} {g : TG} {tb : TS} {D : Ends} {σ : L2.St} {H : Hp}
theorem for_enumT (Pv : Nat → L2.St → Hp → Prop) (h0 : Pv 0 σ H) (hl : ∀ i σ H, i ≤ xs.length → Pv i σ H → SqT K H a xs)
    (hs : ∀ (i : Nat) x T σ H, xs[i]? = some x → Pv i σ H → H T = none → g (.ref T) σ (upd H T (.tup [.int (i : Int), x])) fun σ2 H2 => tb { D with nx := Pv (i + 1), ct := Pv (i + 1), bk := D.nx } σ2 H2) (hd : ∀ σ H, Pv xs.length σ H → D.nx σ H) :
    ∃ W : Nat → Nat → L2.St → Hp → Prop, (∃ m, W 0 m σ H) ∧ ∀ i m σ H, W i m σ H →
      ((ItE K a).stop i H ∧ D.nx σ H) ∨ ((ItE K a).go i H ∧ ∃ N : L2.St → Hp → Prop, (∀ σ' H', N σ' H' → ∃ m', m' < m ∧ W (i + 1) m' σ' H') ∧ ∀ x H', (ItE K a).yld i H x H' → g x σ H' fun σ2 H2 => tb { D with nx := N, ct := N, bk := D.nx } σ2 H2) := by
  refine ⟨fun i m σ H => m = xs.length - i ∧ i ≤ xs.length ∧ Pv i σ H, ⟨xs.length, rfl, Nat.zero_le _, h0⟩, ?_⟩
  rintro i m σ H ⟨rfl, hi, p⟩
  have q := hl i σ H hi p
  by_cases hlt : i < xs.length
  · have hx : xs[i]? = some xs[i] := List.getElem?_eq_getElem hlt
    refine .inr ⟨⟨xs, _, q, hx⟩, Pv (i + 1), fun σ' H' p' => ⟨xs.length - (i + 1), by omega, rfl, hlt, p'⟩, ?_⟩
    rintro v H' ⟨T, x, rfl, nT, rfl, f⟩
    exact hs i x T σ H (f xs q) p nT
  · cases (show i = xs.length by omega)
    exact .inl ⟨⟨xs, q, rfl⟩, hd σ H p⟩
theorem for_enumL (Pv : Nat → L2.St → Hp → Prop) (h0 : Pv 0 σ H) (hl : ∀ i σ H, i ≤ xs.length → Pv i σ H → SqL K H a xs)
    (hs : ∀ (i : Nat) x T σ H, xs[i]? = some x → Pv i σ H → H T = none → g (.ref T) σ (upd H T (.tup [.int (i : Int), x])) fun σ2 H2 => tb { D with nx := Pv (i + 1), ct := Pv (i + 1), bk := D.nx } σ2 H2) (hd : ∀ σ H, Pv xs.length σ H → D.nx σ H) :
    ∃ W : Nat → Nat → L2.St → Hp → Prop, (∃ m, W 0 m σ H) ∧ ∀ i m σ H, W i m σ H →
      ((Ite K a).stop i H ∧ D.nx σ H) ∨ ((Ite K a).go i H ∧ ∃ N : L2.St → Hp → Prop, (∀ σ' H', N σ' H' → ∃ m', m' < m ∧ W (i + 1) m' σ' H') ∧ ∀ x H', (Ite K a).yld i H x H' → g x σ H' fun σ2 H2 => tb { D with nx := N, ct := N, bk := D.nx } σ2 H2) := by
  refine ⟨fun i m σ H => m = xs.length - i ∧ i ≤ xs.length ∧ Pv i σ H, ⟨xs.length, rfl, Nat.zero_le _, h0⟩, ?_⟩
  rintro i m σ H ⟨rfl, hi, p⟩
  have q := hl i σ H hi p
  by_cases hlt : i < xs.length
  · have hx : xs[i]? = some xs[i] := List.getElem?_eq_getElem hlt
    refine .inr ⟨⟨xs, _, q, hx⟩, Pv (i + 1), fun σ' H' p' => ⟨xs.length - (i + 1), by omega, rfl, hlt, p'⟩, ?_⟩
    rintro v H' ⟨T, x, rfl, nT, rfl, f⟩
    exact hs i x T σ H (f xs q) p nT
  · cases (show i = xs.length by omega)
    exact .inl ⟨⟨xs, q, Nat.le_refl _⟩, hd σ H p⟩
/-- zip of two lists: as long as the shorter one -/
theorem for_zipLm (n : Nat) (hn : n = min xs.length ys.length) (Pv : Nat → L2.St → Hp → Prop) (h0 : Pv 0 σ H) (hq : ∀ i σ H, Pv i σ H → SqL K H a xs ∧ SqL K H b ys)
    (hs : ∀ (i : Nat) (x y : V) (T : Addr) (σ : L2.St) (H : Hp), xs[i]? = some x → ys[i]? = some y → Pv i σ H → H T = none → g (.ref T) σ (upd H T (.tup [x, y])) fun σ2 H2 => tb { D with nx := Pv (i + 1), ct := Pv (i + 1), bk := D.nx } σ2 H2) (hd : ∀ σ H, Pv n σ H → D.nx σ H) :
    ∃ W : Nat → Nat → L2.St → Hp → Prop, (∃ m, W 0 m σ H) ∧ ∀ i m σ H, W i m σ H →
      ((Itz K a b).stop i H ∧ D.nx σ H) ∨ ((Itz K a b).go i H ∧ ∃ N : L2.St → Hp → Prop, (∀ σ' H', N σ' H' → ∃ m', m' < m ∧ W (i + 1) m' σ' H') ∧ ∀ v H', (Itz K a b).yld i H v H' → g v σ H' fun σ2 H2 => tb { D with nx := N, ct := N, bk := D.nx } σ2 H2) := by
  refine ⟨fun i m σ H => m = n - i ∧ i ≤ n ∧ Pv i σ H, ⟨n, rfl, Nat.zero_le _, h0⟩, ?_⟩
  rintro i m σ H ⟨rfl, hi, p⟩
  obtain ⟨qx, qy⟩ := hq i σ H p
  by_cases hlt : i < n
  · have l1 : i < xs.length := by omega
    have l2 : i < ys.length := by omega
    refine .inr ⟨⟨xs, ys, _, _, qx, qy, List.getElem?_eq_getElem l1, List.getElem?_eq_getElem l2⟩, Pv (i + 1), fun σ' H' p' => ⟨n - (i + 1), by omega, rfl, hlt, p'⟩, ?_⟩
    rintro v H' ⟨T, x, y, rfl, nT, rfl, f1, f2⟩
    exact hs i x y T σ H (f1 _ qx) (f2 _ qy) p nT
  · cases (show i = n by omega)
    exact .inl ⟨⟨xs, ys, qx, qy, by omega⟩, hd σ H p⟩
end
end Rb
namespace Rb
open PySem PySem.Spec PyProof.Rows L2
/-! pairs of ints in a list: min, remove, sorted -/
def pairD (p : Int × Int) : PyData := .tuple [.int p.1, .int p.2]
/-- the list's items are pairs, as told -/
def Prs (H : Hp) (xs : List V) (ps : List (Int × Int)) : Prop := xs.length = ps.length ∧ ∀ (i : Nat) (p : Int × Int), ps[i]? = some p → ∃ t, xs[i]? = some (.ref t) ∧ H t = some (.tup [.int p.1, .int p.2])
theorem Prs.nil {H : Hp} : Prs H [] [] := ⟨rfl, fun i p h => by simp at h⟩
theorem Prs.keep {H H' : Hp} {xs : List V} {ps : List (Int × Int)} (h : Prs H xs ps) (k : ∀ a ys, H a = some (.tup ys) → H' a = some (.tup ys)) : Prs H' xs ps :=
  ⟨h.1, fun i p hp => by
    obtain ⟨t, h1, h2⟩ := h.2 i p hp
    exact ⟨t, h1, k _ _ h2⟩⟩
theorem Prs.snoc {H : Hp} {xs : List V} {ps : List (Int × Int)} {t : Addr} {p : Int × Int} (h : Prs H xs ps) (ht : H t = some (.tup [.int p.1, .int p.2])) : Prs H (xs ++ [.ref t]) (ps ++ [p]) := by
  refine ⟨by rw [List.length_append, List.length_append, h.1]; rfl, fun i q hq => ?_⟩
  rw [List.getElem?_append] at hq
  split at hq
  · rename_i hi
    obtain ⟨t2, h1, h2⟩ := h.2 i q hq
    exact ⟨t2, by rw [List.getElem?_append_left (by rw [h.1]; exact hi)]; exact h1, h2⟩
  · rename_i hi
    have e : i - ps.length = 0 := by
      rcases Nat.eq_zero_or_pos (i - ps.length) with e | e
      · exact e
      · rw [List.getElem?_eq_none (by show 1 ≤ i - ps.length; exact e)] at hq
        cases hq
    rw [e] at hq
    cases hq
    refine ⟨t, ?_, ht⟩
    rw [List.getElem?_append_right (by rw [h.1]; omega), h.1, e]
    rfl
theorem Prs.erase {H : Hp} {xs : List V} {ps : List (Int × Int)} (h : Prs H xs ps) (j : Nat) : Prs H (xs.eraseIdx j) (ps.eraseIdx j) := by
  refine ⟨by rw [List.length_eraseIdx, List.length_eraseIdx, h.1], fun i q hq => ?_⟩
  rw [List.getElem?_eraseIdx] at hq ⊢
  split at hq
  · rename_i hi
    rw [if_pos hi]
    exact h.2 i q hq
  · rename_i hi
    rw [if_neg hi]
    exact h.2 (i + 1) q hq
theorem Prs.dp {K : PySem.W.Frag} {H : Hp} : ∀ {xs : List V} {ps : List (Int × Int)}, Prs H xs ps → DpAll K H xs (ps.map pairD)
  | [], [], _ => .nil
  | [], _ :: _, h => by cases h.1
  | _ :: _, [], h => by cases h.1
  | x :: xs, p :: ps, h => by
    obtain ⟨t, h1, h2⟩ := h.2 0 p rfl
    cases (Option.some.inj h1)
    refine .cons (.tup (tupOf h2) (.cons (.int _) (.cons (.int _) .nil))) (Prs.dp ⟨Nat.succ.inj h.1, fun i q hq => ?_⟩)
    exact h.2 (i + 1) q hq
theorem minOf_least : ∀ (ps : List (Int × Int)) (p : Int × Int), (PySem.W.minOf p ps ∈ p :: ps) ∧ ∀ q ∈ p :: ps, leP (PySem.W.minOf p ps) q
  | [], p => ⟨List.mem_cons_self, fun q hq => by
    rw [List.mem_singleton.mp hq]
    exact .inr ⟨rfl, Int.le_refl _⟩⟩
  | y :: ys, p => by
    have e : PySem.W.minOf p (y :: ys) = PySem.W.minOf (if PySem.W.DatumOrd.lt y p = true then y else p) ys := rfl
    rw [e]
    have l1 : (PySem.W.DatumOrd.lt y p = true) ↔ (y.1 < p.1 ∨ (y.1 = p.1 ∧ y.2 < p.2)) := by
      show ((if y.1 = p.1 then decide (y.2 < p.2) else decide (y.1 < p.1)) = true) ↔ _
      split <;> simp only [decide_eq_true_eq] <;> omega
    by_cases c : PySem.W.DatumOrd.lt y p = true
    · rw [if_pos c]
      obtain ⟨h1, h2⟩ := minOf_least ys y
      refine ⟨List.mem_cons_of_mem _ h1, fun q hq => ?_⟩
      rcases List.mem_cons.mp hq with rfl | hq
      · have a := h2 y List.mem_cons_self
        have b := l1.mp c
        unfold leP at *
        omega
      · exact h2 q hq
    · rw [if_neg c]
      obtain ⟨h1, h2⟩ := minOf_least ys p
      refine ⟨?_, fun q hq => ?_⟩
      · rcases List.mem_cons.mp h1 with h | h
        · rw [h]; exact List.mem_cons_self
        · exact List.mem_cons_of_mem _ (List.mem_cons_of_mem _ h)
      · rcases List.mem_cons.mp hq with rfl | hq
        · exact h2 q List.mem_cons_self
        · rcases List.mem_cons.mp hq with rfl | hq
          · have a := h2 p List.mem_cons_self
            have b : ¬ (q.1 < p.1 ∨ (q.1 = p.1 ∧ q.2 < p.2)) := fun z => c (l1.mpr z)
            unfold leP at *
            omega
          · exact h2 q (List.mem_cons_of_mem _ hq)
def rMinP (K : PySem.W.Frag) : List V → Hp → VK → Prop := fun vs H Q => ∃ (a : Addr) (xs : List V) (ps : List (Int × Int)), vs = [V.ref a] ∧ SqL K H a xs ∧ Prs H xs ps ∧ ps ≠ [] ∧
  ∀ (t : Addr) (m : Int × Int), H t = some (.tup [.int m.1, .int m.2]) → m ∈ ps → (∀ q ∈ ps, leP m q) → Q (.ref t) H
theorem cr_minP {X : Cx} (hc : X.calm = true) (hu : X.A.units + 64 < cLine) : CallR X (.builtin "min") (rMinP X.K) := by
  intro pins s σ H vs us Q I r h
  obtain ⟨a, xs, ps, rfl, hs, hp, hne, q⟩ := h
  obtain ⟨its, rv, hl, _⟩ := I.list hs
  rw [Vals.ref1 r]
  cases ps with
  | nil => exact absurd rfl hne
  | cons p ps =>
    obtain ⟨as, ra⟩ := Dp.readsAll I _ _ its (hp.dp (K := X.K)) rv
    refine PySem.W.min_list_datum (α := Int × Int) (x := p) (xs := ps) (I.ok.hd hc) hl.isList ⟨as, ra⟩ (by show X.A.units + 1 + 1 < _; omega) fun i v h' tk hi hv hk => ?_
    obtain ⟨hm, hle⟩ := minOf_least ps p
    have hi2 : its[i]? = some v := by simpa using hi
    have il : i < xs.length := by
      have := (List.getElem?_eq_some_iff.mp hi2).1
      rw [rv.length]; exact this
    obtain ⟨m, hm1⟩ : ∃ m, (p :: ps)[i]? = some m := ⟨_, List.getElem?_eq_getElem (by rw [← hp.1]; exact il)⟩
    obtain ⟨t, e1, e2⟩ := hp.2 i m hm1
    obtain ⟨u, hu2, ru⟩ := rv.get e1
    rw [hi2] at hu2
    cases hu2
    cases ru
    have dpt : Dp X.K H (.ref t) (pairD m) := .tup (tupOf e2) (.cons (.int _) (.cons (.int _) .nil))
    obtain ⟨bs, rt⟩ := Dp.reads I _ _ _ dpt rfl
    obtain ⟨cs, rm⟩ := hv
    have dd := (reads_det (fun b o e _ => hk b o e) rt rm).1
    have em : PySem.W.minOf p ps = m := by
      have d2 : PyData.tuple [.int (PySem.W.minOf p ps).1, .int (PySem.W.minOf p ps).2] = PyData.tuple [.int m.1, .int m.2] := dd
      simp only [PyData.tuple.injEq, List.cons.injEq, PyData.int.injEq, and_true] at d2
      exact Prod.ext d2.1 d2.2
    rw [em] at hm hle
    exact ⟨.ref t, H, I.kept hk, rfl, q t _ e2 hm hle⟩
def rRemP (K : PySem.W.Frag) : V → List V → Hp → VK → Prop := fun x vs H Q => ∃ (l t : Addr) (xs : List V) (ps : List (Int × Int)) (p : Int × Int) (j : Nat), x = .ref l ∧ vs = [.ref t] ∧ H l = some (.lst xs) ∧ Prs H xs ps ∧ H t = some (.tup [.int p.1, .int p.2]) ∧
  ps[j]? = some p ∧ (∀ m : Nat, m < j → ps[m]? ≠ some p) ∧ Q .non (upd H l (.lst (xs.eraseIdx j)))
theorem pairD_inj {p q : Int × Int} : PyData.eqv (pairD p) (pairD q) = decide (p = q) := PySem.W.Datum.eqv (α := Int × Int) p q
theorem mt_removeP {X : Cx} (hu : X.A.units + 64 < cLine) : MtM X "list.remove" (rRemP X.K) := by
  intro pins s σ H x vs v us Q I rx rxs h
  obtain ⟨l, t, xs, ps, p, j, rfl, rfl, hH, hP, ht, hj, hno, q⟩ := h
  cases rx
  obtain ⟨u, rfl, ru⟩ := rxs.one
  cases ru
  obtain ⟨z, its, n, r, hl, e⟩ := I.lstM hH
  obtain ⟨as, ra⟩ := Dp.readsAll I _ _ its (hP.dp (K := X.K)) r
  have dpt : Dp X.K H (.ref t) (pairD p) := .tup (tupOf ht) (.cons (.int _) (.cons (.int _) .nil))
  obtain ⟨bs, rt⟩ := Dp.reads I _ _ _ dpt rfl
  have pl : PyData.plainAll (ps.map pairD) = true := by
    clear hP ra hj hno
    induction ps with
    | nil => rfl
    | cons y ys ih =>
      rw [List.map_cons]
      simp only [PyData.plainAll, ih, Bool.and_true]
      exact PySem.W.Datum.plain (α := Int × Int) y
  refine SeqAt.remove_list_data (j := j) (xs := ps.map pairD) (d := pairD p) ⟨_, e, rfl, n, rfl⟩ ra rt pl (PySem.W.Datum.plain (α := Int × Int) p) ?_ ?_ (by rw [List.size_toArray, ← r.length]; exact z) ?_
  · have : (pairD p).depth = 1 := by simp [pairD, PyData.depth, PyData.depthAll]
    omega
  · refine List.findIdx?_eq_some_iff_getElem.mpr ?_
    obtain ⟨jl, je⟩ := List.getElem?_eq_some_iff.mp hj
    refine ⟨by rw [List.length_map]; exact jl, ?_, fun m hm => ?_⟩
    · rw [List.getElem_map, je, pairD_inj]
      exact decide_eq_true rfl
    · rw [List.getElem_map, pairD_inj]
      intro e2
      refine hno m hm ?_
      rw [List.getElem?_eq_getElem (by omega)]
      exact congrArg some (of_decide_eq_true e2)
  · have rr := r.eraseIdx j
    refine ⟨.non, _, I.lset (its' := its.eraseIdx j) (t' := s.toks) hH e ?_ rr ?_, rfl, q⟩
    · show its.toArray.eraseIdxIfInBounds j = (its.eraseIdx j).toArray
      rw [List.eraseIdxIfInBounds_toArray]
    · exact Nat.le_trans (len_erase xs j) z
end Rb
namespace Rb
open PySem PySem.Spec PyProof.Rows L2
/-- rows: refs of tuples of ints -/
def Rws (K : PySem.W.Frag) (H : Hp) (xs : List V) (rows : List (List Int)) : Prop := xs.length = rows.length ∧ ∀ (i : Nat) (r : List Int), rows[i]? = some r → ∃ t, xs[i]? = some (.ref t) ∧ SqT K H t (r.map V.int)
section
variable {K : PySem.W.Frag} {H H' : Hp} {xs : List V} {rows : List (List Int)}
theorem Rws.nil : Rws K H [] [] := ⟨rfl, fun i p h => by simp at h⟩
theorem Rws.keep (h : Rws K H xs rows) (k : ∀ a ys, SqT K H a ys → SqT K H' a ys) : Rws K H' xs rows :=
  ⟨h.1, fun i p hp => by
    obtain ⟨t, h1, h2⟩ := h.2 i p hp
    exact ⟨t, h1, k _ _ h2⟩⟩
theorem Rws.ex (h : Rws K H xs rows) (e : Evl.Ex H H') : Rws K H' xs rows := h.keep fun _ _ z => Evl.ex_t e z
theorem Rws.kp {d c : Addr} {N : Int} (h : Rws K H xs rows) (k : Kp d c H H') (dk : Dk H d c N) : Rws K H' xs rows := h.keep fun _ _ z => k.sqT dk z
theorem Rws.upd {D : Addr} {ys zs : List V} (h : Rws K H xs rows) (hD : H D = some (.lst ys)) : Rws K (upd H D (.lst zs)) xs rows := h.keep fun _ _ z => sqT_upd hD z
theorem Rws.snoc {t : Addr} {r : List Int} (h : Rws K H xs rows) (ht : SqT K H t (r.map V.int)) : Rws K H (xs ++ [.ref t]) (rows ++ [r]) := by
  refine ⟨by rw [List.length_append, List.length_append, h.1]; rfl, fun i q hq => ?_⟩
  rw [List.getElem?_append] at hq
  split at hq
  · rename_i hi
    obtain ⟨t2, h1, h2⟩ := h.2 i q hq
    exact ⟨t2, by rw [List.getElem?_append_left (by rw [h.1]; exact hi)]; exact h1, h2⟩
  · rename_i hi
    have e : i - rows.length = 0 := by
      rcases Nat.eq_zero_or_pos (i - rows.length) with e | e
      · exact e
      · rw [List.getElem?_eq_none (by show 1 ≤ i - rows.length; exact e)] at hq
        cases hq
    rw [e] at hq
    cases hq
    refine ⟨t, ?_, ht⟩
    rw [List.getElem?_append_right (by rw [h.1]; omega), h.1, e]
    rfl
theorem Rws.tp : ∀ {xs : List V} {rows : List (List Int)}, Rws K H xs rows → TpAll K H xs (rows.map fun r => .tuple (r.map .int))
  | [], [], _ => .nil
  | [], _ :: _, h => by cases h.1
  | _ :: _, [], h => by cases h.1
  | x :: xs, p :: ps, h => by
    obtain ⟨t, h1, h2⟩ := h.2 0 p rfl
    cases (Option.some.inj h1)
    exact .cons (Tp.tupI h2) (Rws.tp ⟨Nat.succ.inj h.1, fun i q hq => h.2 (i + 1) q hq⟩)
end
theorem tup_upd {H : Hp} {D : Addr} {ys zs : List V} (hD : H D = some (.lst ys)) : ∀ a xs, H a = some (.tup xs) → upd H D (.lst zs) a = some (.tup xs) := fun a xs h => by
  rw [upd_ne (by rintro rfl; rw [hD] at h; cases h)]
  exact h
/-! comprehensions over enumerate(list), and whose elements are new pairs -/
section
variable {K : PySem.W.Frag} {te : TE} {vs : List Nat} {σ : L2.St} {H1 : Hp} {D a : Addr} {j l : Nat} {Qd : Hp → Prop}
theorem take_mapIdx {xs : List V} {f : Nat → V → V} {i : Nat} {x : V} (hx : xs[i]? = some x) : (xs.take (i + 1)).mapIdx f = (xs.take i).mapIdx f ++ [f i x] := by
  rw [List.take_add_one, hx]
  show (xs.take i ++ [x]).mapIdx f = _
  rw [List.mapIdx_append]
  have hl : (xs.take i).length = i := by
    rw [List.length_take]
    have := (List.getElem?_eq_some_iff.mp hx).1
    omega
  simp [hl]
theorem lc_enumMap {xs : List V} (f : Nat → V → V) (hS : SqL K H1 a xs) (nD : H1 D = none) (hw : ∀ x y, wipe (((wipe σ vs).set j (some x)).set l (some y)) vs = wipe σ vs) (hz : xs.length ≤ 90000)
    (he : ∀ (i : Nat) x H3, xs[i]? = some x → Evl.Ex H1 H3 → ∀ Q : VK, (∀ H4, Evl.Ex H3 H4 → Q (f i x) H4) → te (((wipe σ vs).set j (some (.int (i : Int)))).set l (some x)) H3 Q) (hd : ∀ H', Evl.Ex H1 H' → H' D = some (.lst (xs.mapIdx f)) → Qd H') :
    ∃ W : Nat → Nat → Hp → Prop, (∃ m, W 0 m (upd H1 D (.lst []))) ∧ ∀ i m H, W i m H →
      ((Ite K a).stop i H ∧ Qd H) ∨ ((Ite K a).go i H ∧ ∃ Nx : Hp → Prop, (∀ H', Nx H' → ∃ m', m' < m ∧ W (i + 1) m' H') ∧ ∀ x H', (Ite K a).yld i H x H' → (gTup K 2 (gCons (gName j) (gCons (gName l) gNil))) x (wipe σ vs) H' fun σ2 H2 => wipe σ2 vs = wipe σ vs ∧ tYes σ2 H2 fun b H3 =>
        if b = true then te σ2 H3 fun y H4 => ∃ acc, H4 D = some (.lst acc) ∧ acc.length < sizeLine ∧ Nx (upd H4 D (.lst (acc ++ [y]))) else Nx H3) := by
  let Pv : Nat → Hp → Prop := fun i H' => Evl.Ex H1 H' ∧ H' D = some (.lst ((xs.take i).mapIdx f))
  refine ⟨fun i m H => m = xs.length - i ∧ i ≤ xs.length ∧ Pv i H, ⟨xs.length, rfl, Nat.zero_le _, Evl.Ex.new nD, upd_same⟩, ?_⟩
  rintro i m H ⟨rfl, hi, p1, p2⟩
  have q := Evl.ex_l p1 hS
  by_cases hlt : i < xs.length
  · refine .inr ⟨⟨xs, _, q, List.getElem?_eq_getElem hlt⟩, Pv (i + 1), fun H' p' => ⟨xs.length - (i + 1), by omega, rfl, hlt, p'⟩, ?_⟩
    rintro v H' ⟨T, x, rfl, nT, rfl, fx⟩
    have hx := fx xs q
    refine ⟨T, _, rfl, tupOf upd_same, rfl, .int (i : Int), [x], rfl, x, [], rfl, rfl, hw _ _, ?_⟩
    show te _ _ _
    have e5 := p1.trans (Evl.Ex.new (o := .tup [.int ((i : Nat) : Int), x]) nT)
    refine he i x _ hx e5 _ fun H4 e4 => ⟨_, e4 _ _ (Evl.Ex.new nT _ _ p2), ?_, Evl.Ex.mut (e5.trans e4) nD, ?_⟩
    · rw [List.length_mapIdx, List.length_take]
      exact sz_lt (by omega)
    · rw [upd_same, take_mapIdx hx]
  · cases (show i = xs.length by omega)
    exact .inl ⟨⟨xs, q, Nat.le_refl _⟩, hd H p1 (by rw [p2, List.take_length])⟩
theorem lc_prsT {xs : List V} (f : V → Int × Int) (hS : SqT K H1 a xs) (nD : H1 D = none) (hw : ∀ x, wipe ((wipe σ vs).set j (some x)) vs = wipe σ vs) (hz : xs.length ≤ 90000)
    (he : ∀ (i : Nat) x H3, xs[i]? = some x → Evl.Ex H1 H3 → ∀ Q : VK, (∀ t H4, Evl.Ex H3 H4 → H4 t = some (.tup [.int (f x).1, .int (f x).2]) → Q (.ref t) H4) → te ((wipe σ vs).set j (some x)) H3 Q)
    (hd : ∀ ys H', Evl.Ex H1 H' → H' D = some (.lst ys) → Prs H' ys (xs.map f) → Qd H') :
    ∃ W : Nat → Nat → Hp → Prop, (∃ m, W 0 m (upd H1 D (.lst []))) ∧ ∀ i m H, W i m H →
      ((Itt K a).stop i H ∧ Qd H) ∨ ((Itt K a).go i H ∧ ∃ Nx : Hp → Prop, (∀ H', Nx H' → ∃ m', m' < m ∧ W (i + 1) m' H') ∧ ∀ x H', (Itt K a).yld i H x H' → (gName j) x (wipe σ vs) H' fun σ2 H2 => wipe σ2 vs = wipe σ vs ∧ tYes σ2 H2 fun b H3 =>
        if b = true then te σ2 H3 fun y H4 => ∃ acc, H4 D = some (.lst acc) ∧ acc.length < sizeLine ∧ Nx (upd H4 D (.lst (acc ++ [y]))) else Nx H3) := by
  refine lc_tup (xs := xs) (fun i H' => Evl.Ex H1 H' ∧ ∃ ys, H' D = some (.lst ys) ∧ Prs H' ys ((xs.take i).map f)) ⟨Evl.Ex.new nD, [], upd_same, Prs.nil⟩ (fun i H' _ p => Evl.ex_t p.1 hS) ?_ ?_
  · rintro i x H' hx ⟨p1, ys, p2, p3⟩
    refine ⟨hw x, ?_⟩
    show te _ _ _
    refine he i x H' hx p1 _ fun t H4 e4 ht => ⟨ys, e4 _ _ p2, ?_, Evl.Ex.mut (p1.trans e4) nD, ys ++ [.ref t], upd_same, ?_⟩
    · rw [p3.1, List.length_map, List.length_take]
      exact sz_lt (by omega)
    · rw [List.take_add_one, hx, List.map_append]
      exact ((p3.keep fun a zs z => e4 _ _ z).snoc ht).keep (tup_upd (e4 _ _ p2))
  · rintro H' ⟨p1, ys, p2, p3⟩
    rw [List.take_length] at p3
    exact hd ys H' p1 p2 p3
end
/-! sorted pairs -/
def keyOf (H : Hp) (x : V) : Int × Int :=
  match x with
  | .ref t => match H t with
    | some (.tup [.int i, .int j]) => (i, j)
    | _ => (0, 0)
  | _ => (0, 0)
theorem keyOf_eq {H : Hp} {t : Addr} {p : Int × Int} (h : H t = some (.tup [.int p.1, .int p.2])) : keyOf H (.ref t) = p := by
  unfold keyOf
  simp only [h]
theorem Prs.keys {H : Hp} {xs : List V} {ps : List (Int × Int)} (h : Prs H xs ps) : xs.map (keyOf H) = ps := by
  apply List.ext_getElem?
  intro i
  rw [List.getElem?_map]
  cases e : ps[i]? with
  | none => rw [List.getElem?_eq_none (by rw [h.1]; exact List.getElem?_eq_none_iff.mp e)]; rfl
  | some p =>
    obtain ⟨t, h1, h2⟩ := h.2 i p e
    rw [h1]
    exact congrArg some (keyOf_eq h2)
theorem sorted_prs {K : PySem.W.Frag} {H : Hp} {a : Addr} {xs : List V} {ps : List (Int × Int)} {Q : VK} (hS : SqL K H a xs) (hP : Prs H xs ps) (q : ∀ ys p, Prs H ys (srtP ps) → H p = none → Q (.ref p) (upd H p (.lst ys))) : rSortedPO K [.ref a] H Q := by
  refine ⟨a, xs, keyOf H, rfl, hS, fun x hx => ?_, fun ys p h1 h2 np => q ys p ?_ np⟩
  · obtain ⟨i, hi, e⟩ := List.getElem_of_mem hx
    have il : i < ps.length := by rw [← hP.1]; exact hi
    obtain ⟨t, g1, g2⟩ := hP.2 i ps[i] (List.getElem?_eq_getElem il)
    rw [List.getElem?_eq_getElem hi, e] at g1
    cases Option.some.inj g1
    refine ⟨t, rfl, ?_⟩
    rw [keyOf_eq g2]
    exact g2
  · have e : ys.map (keyOf H) = srtP ps := by
      rw [← hP.keys]
      refine srtP_uniq (h2.perm.map _) ?_
      refine List.pairwise_map.mpr (List.Pairwise.imp (fun {x y} h => ?_) h1)
      have := SrtO.lexB_no.mp (show SrtO.lexB (keyOf H y) (keyOf H x) = false from h)
      unfold leP
      omega
    rw [← e]
    refine ⟨(List.length_map _).symm, fun i p hp => ?_⟩
    rw [List.getElem?_map] at hp
    obtain ⟨y, hy, rfl⟩ := Option.map_eq_some_iff.mp hp
    have ym : y ∈ xs := h2.perm.mem_iff.mp (List.mem_of_getElem? hy)
    obtain ⟨k, hk, ek⟩ := List.getElem_of_mem ym
    have kl : k < ps.length := by rw [← hP.1]; exact hk
    obtain ⟨t, g1, g2⟩ := hP.2 k ps[k] (List.getElem?_eq_getElem kl)
    rw [List.getElem?_eq_getElem hk, ek] at g1
    cases Option.some.inj g1
    refine ⟨t, hy, ?_⟩
    rw [keyOf_eq g2]
    exact g2
theorem rep_flat {x : V} : ∀ n : Nat, (List.replicate n [x]).flatten = List.replicate n x
  | 0 => rfl
  | n + 1 => by
    rw [List.replicate_succ, List.flatten_cons, List.replicate_succ, rep_flat n]
    rfl
theorem nodup_le {n : Nat} : ∀ {l : List Nat}, l.Nodup → (∀ p ∈ l, p < n) → l.length ≤ n := by
  induction n with
  | zero =>
    intro l _ h
    cases l with
    | nil => exact Nat.le_refl _
    | cons x r => exact absurd (h x List.mem_cons_self) (Nat.not_lt_zero _)
  | succ n ih =>
    intro l nd h
    have h1 : (l.erase n).length ≤ n := ih (nd.erase n) fun p hp => by
      have a := h p (List.mem_of_mem_erase hp)
      have b : p ≠ n := fun e => (nd.not_mem_erase (a := n)) (e ▸ hp)
      omega
    rw [List.length_erase] at h1
    split at h1 <;> omega
end Rb
namespace Rb
open PySem PySem.Spec PyProof.Rows L2
/-! a tuple times a number: once is the tuple itself -/
open AutoSeq1 (wpAny_loadPart') in
theorem tupMul1 (t : Addr) (its : Array Value) (n : Nat) (dc : Option Addr) (sl : Array (Option Value)) (u : Tok) :
    Meets (Builtin.«tuple.__mul__» ⟨[.ref t, .int 1 u], []⟩) (fun _ R s => s.heap.get? t = some { cls := .type "tuple", dict := dc, data := .seq its n, slots := sl } ∧ R (.ok (.ret (Value.ref t))) s) := by
  refine .of_wp fun pr wo A R s h => ?_
  obtain ⟨hp, g, d, tk, os⟩ := s
  obtain ⟨ht, h⟩ := h
  have f1 := AutoSeq1.idx_int
  wp_walk using wpAny_loadPart' ht
  repeat (first
    | (refine wpAny_ite_false (by decide) ?_; wp_walk using wpAny_loadPart' ht)
    | (refine wpAny_ite_true (decide_eq_true (by cases its.isEmpty <;> rfl)) ?_; wp_walk using wpAny_loadPart' ht))
  exact ⟨_, rfl, h⟩
def rRepN (K : PySem.W.Frag) : R2 := fun x y H Q => ∃ (l : Addr) (k : Nat) (xs : List V), x = .ref l ∧ y = .int (k : Int) ∧ SqT K H l xs ∧ xs ≠ [] ∧ 1 ≤ k ∧ k ≤ 1000 ∧ xs.length ≤ 1000 ∧ ∀ p H', Evl.Ex H H' → SqT K H' p (List.replicate k xs).flatten → Q (.ref p) H'
theorem op_repN {X : Cx} : OpR X (binaryOp .Mult) (rRepN X.K) := by
  intro pins s σ H x y v u Q I rx ry h
  obtain ⟨l, k, xs, rfl, rfl, hT, hne, h1, h2, hz, q⟩ := h
  by_cases hk : k = 1
  · subst hk
    cases rx
    obtain ⟨t, rfl⟩ := ry
    obtain ⟨its, r, ⟨⟨cls, dd, data, sl⟩, ho, hc, n, hd⟩, hs⟩ := I.tuple hT
    simp only at hc hd
    subst hc hd
    refine wpAny_binaryOp_repeat_ref (T := "tuple") (U := "int") (by decide) ⟨_, ho, rfl⟩ (fun s' => typeIs_int s' 1 t) noFill_tuple_mul F.fills_int_mul F.slot_int_rmul repeat_tuple F.slot_int_index.lookup
      (call_meets F.slot_int_rmul (typeIs_int s 1 t) F.entry_int_rmul (F.args_int_rmul_2 _ _) (int_rmul_tuple 1 t l its.toArray n dd sl)
        ⟨ho, rfl, ⟨_, ho, rfl⟩, call_meets F.slot_tuple_mul ⟨_, ho, rfl⟩ F.entry_tuple_mul (F.args_tuple_mul_2 _ _) (tupMul1 l its.toArray n dd sl t) ⟨ho, ?_⟩⟩)
    refine ⟨.ref l, H, I, rfl, q l H (Evl.Ex.refl _) ?_⟩
    simpa using hT
  · refine op_repT pins s σ H (.ref l) (.int (k : Int)) v u Q I rx ry ⟨l, (k : Int), xs, rfl, rfl, hT, hne, by omega, by omega, hz, fun p np => ?_⟩
    exact q p _ (Evl.Ex.new np) (tupOf (by rw [upd_same, Int.toNat_natCast]))
/-! max of a tuple of ints -/
def rMaxT (K : PySem.W.Frag) : List V → Hp → VK → Prop := fun vs H Q => ∃ (a : Addr) (ns : List Int), vs = [V.ref a] ∧ SqT K H a (ns.map V.int) ∧ ns ≠ [] ∧ ∀ m, m ∈ ns → (∀ y ∈ ns, y ≤ m) → Q (.int m) H
theorem maxOf_most : ∀ (ns : List Int) (n : Int), (PySem.W.maxOf n ns ∈ n :: ns) ∧ ∀ q ∈ n :: ns, q ≤ PySem.W.maxOf n ns
  | [], n => ⟨List.mem_cons_self, fun q hq => by
    rw [List.mem_singleton.mp hq]
    exact Int.le_refl _⟩
  | y :: ys, n => by
    have e : PySem.W.maxOf n (y :: ys) = PySem.W.maxOf (if PySem.W.DatumOrd.lt n y = true then y else n) ys := rfl
    rw [e]
    have l1 : (PySem.W.DatumOrd.lt n y = true) ↔ n < y := by
      show decide (n < y) = true ↔ _
      exact decide_eq_true_iff
    by_cases c : PySem.W.DatumOrd.lt n y = true
    · rw [if_pos c]
      obtain ⟨h1, h2⟩ := maxOf_most ys y
      refine ⟨List.mem_cons_of_mem _ h1, fun q hq => ?_⟩
      rcases List.mem_cons.mp hq with rfl | hq
      · have a := h2 y List.mem_cons_self
        have b := l1.mp c
        omega
      · exact h2 q hq
    · rw [if_neg c]
      obtain ⟨h1, h2⟩ := maxOf_most ys n
      refine ⟨?_, fun q hq => ?_⟩
      · rcases List.mem_cons.mp h1 with h | h
        · rw [h]; exact List.mem_cons_self
        · exact List.mem_cons_of_mem _ (List.mem_cons_of_mem _ h)
      · rcases List.mem_cons.mp hq with rfl | hq
        · exact h2 q List.mem_cons_self
        · rcases List.mem_cons.mp hq with rfl | hq
          · have a := h2 n List.mem_cons_self
            have b : ¬ n < q := fun z => c (l1.mpr z)
            omega
          · exact h2 q (List.mem_cons_of_mem _ hq)
theorem cr_maxT {X : Cx} (hc : X.calm = true) (hu : X.A.units + 64 < cLine) : CallR X (.builtin "max") (rMaxT X.K) := by
  intro pins s σ H vs us Q I r h
  obtain ⟨a, ns, rfl, hs, hne, q⟩ := h
  obtain ⟨its, rv, hl, _⟩ := I.tuple hs
  rw [Vals.ref1 r]
  cases ns with
  | nil => exact absurd rfl hne
  | cons n ns =>
    obtain ⟨as, ra⟩ := Dp.readsAll I _ _ its (DpAll.ints (K := X.K) (n :: ns)) rv
    refine PySem.W.max_tuple_datum (α := Int) (x := n) (xs := ns) (I.ok.hd hc) (isTup_isTuple hl) ⟨as, ra⟩ (by show X.A.units + 1 + 0 < _; omega) fun i v h' tk hi hv hk => ?_
    obtain ⟨hm, hle⟩ := maxOf_most ns n
    obtain ⟨cs, rm⟩ := hv
    have rm' : Reads h' v (.int (PySem.W.maxOf n ns)) cs := rm
    cases rm' with
    | int _ t => exact ⟨.int _, H, I.kept hk, ⟨t, rfl⟩, q _ hm hle⟩
/-- the greatest of a list that is not empty -/
def mostOf : List Int → Int
  | [] => 0
  | n :: ns => ns.foldl (fun a y => if a < y then y else a) n
theorem most_uniq {ns : List Int} {a b : Int} (ha : a ∈ ns) (ha2 : ∀ y ∈ ns, y ≤ a) (hb : b ∈ ns) (hb2 : ∀ y ∈ ns, y ≤ b) : a = b := Int.le_antisymm (hb2 a ha) (ha2 b hb)
end Rb
namespace Rb
/-! waits by the ticks alone -/
def mvM (walk ride : Int) (plan : List (List Nat)) (p : Nat) : Nat → Int
  | 0 => 0
  | i + 1 => mvM walk ride plan p i + if p ∈ plan.getD i [] then ride else walk
theorem mv_rides {walk ride : Int} {plan : List (List Nat)} {p : Nat} : ∀ i : Nat, i ≤ plan.length → mvM walk ride plan p i = ride * (((plan.take i).filter fun r => decide (p ∈ r)).length : Int) + walk * ((i : Int) - (((plan.take i).filter fun r => decide (p ∈ r)).length : Int))
  | 0, _ => by simp [mvM]
  | i + 1, h => by
    have ih := mv_rides (walk := walk) (ride := ride) (plan := plan) (p := p) i (by omega)
    have hr : plan[i]? = some plan[i] := List.getElem?_eq_getElem (by omega)
    rw [mvM, ih, List.take_add_one, hr, List.filter_append, List.length_append, List.getD_eq_getElem?_getD, hr]
    generalize ((plan.take i).filter fun r => decide (p ∈ r)).length = n
    simp only [Option.getD_some, Option.toList_some, List.filter_cons, List.filter_nil]
    by_cases c : p ∈ plan[i]
    · simp only [c, decide_true, if_true, List.length_cons, List.length_nil, Int.natCast_add]
      have e1 : (n : Int) + (((0 : Nat) : Int) + ((1 : Nat) : Int)) = (n : Int) + 1 := by omega
      have e2 : ((i : Int) + ((1 : Nat) : Int)) - ((n : Int) + 1) = (i : Int) - n := by omega
      rw [e1, e2, Int.mul_add, Int.mul_one]
      omega
    · simp only [c, decide_false, if_false, List.length_nil, Int.natCast_add]
      have e2 : ((i : Int) + ((1 : Nat) : Int)) - ((n : Int) + ((0 : Nat) : Int)) = ((i : Int) - n) + 1 := by omega
      have e1 : (n : Int) + ((0 : Nat) : Int) = n := by omega
      simp only [Bool.false_eq_true, if_false, List.length_nil]
      rw [e2, e1, Int.mul_add, Int.mul_one]
      omega
theorem mx_wait (t b : Int) : mx t b - t = mx 0 (b - t) := by
  unfold mx
  split <;> split <;> omega
/-- the wait of one stage is the time between coming and leaving -/
theorem stage_wait {ticks w0 : List Int} {riders brought : List Nat} {st p : Nat} (h : riders.length ≤ st + brought.length) (nd : riders.Nodup) (hr : ∀ q ∈ riders, q < ticks.length) (hl : w0.length = ticks.length) (hp : p < ticks.length) :
    ∃ l w t v, (leaveM ticks riders brought st)[p]? = some l ∧ (waitsI w0 ticks riders brought st riders.length)[p]? = some w ∧ ticks[p]? = some t ∧ w0[p]? = some v ∧ w = v + (l - t) := by
  have ht : ticks[p]? = some ticks[p] := List.getElem?_eq_getElem hp
  have hpw : p < w0.length := by omega
  have hw : w0[p]? = some w0[p] := List.getElem?_eq_getElem hpw
  have hz : (pairsM ticks riders brought st).take riders.length = pairsM ticks riders brought st := List.take_of_length_le (by rw [pairsM_len h]; exact Nat.le_refl _)
  unfold waitsI
  rw [hz]
  by_cases c : p ∈ riders
  · obtain ⟨b, hb, e⟩ := leave_in h nd c hp
    have et : tickAt ticks p = ticks[p] := by
      unfold tickAt
      rw [List.getD_eq_getElem?_getD, ht]
      rfl
    refine ⟨_, w0.getD p 0 + mx 0 (b - tickAt ticks p), _, _, e, ?_, ht, hw, ?_⟩
    · refine setF_in _ _ p _ ?_ (List.mem_map.mpr ⟨_, hb, by simp⟩) hpw
      rw [List.map_map]
      exact (pairs_people (ticks := ticks) h).nodup_iff.mpr nd
    · rw [← mx_wait, et, List.getD_eq_getElem?_getD, hw]
      rfl
  · refine ⟨ticks[p], w0[p], ticks[p], w0[p], by rw [leave_out c]; exact ht, ?_, ht, hw, by omega⟩
    rw [setF_out _ _ p fun y hy e => ?_]
    · exact hw
    · obtain ⟨z, hz2, rfl⟩ := List.mem_map.mp hy
      obtain ⟨p2, hp2, e2⟩ := pairs_mem hz2
      simp only [e2] at e
      have : p2 = p := by simpa using e
      exact c (this ▸ hp2)
theorem stages_ok {bikes : List Int} {n i : Nat} {plan : List (List Nat)} (h : PlanOk bikes n plan) (hi : i < plan.length) : (plan.getD i []).Nodup ∧ (∀ p ∈ plan.getD i [], p < n) ∧ (plan.getD i []).length ≤ (bikes.getD i 0).toNat + (brM plan i).length := by
  have hr : plan[i]? = some plan[i] := List.getElem?_eq_getElem hi
  have e : plan.getD i [] = plan[i] := by rw [List.getD_eq_getElem?_getD, hr]; rfl
  have hm : plan[i] ∈ plan := List.getElem_mem hi
  have f := h.few i
  refine ⟨by rw [e]; exact (h.asc _ hm).imp fun h => Nat.ne_of_lt h, by rw [e]; exact h.lt _ hm, ?_⟩
  unfold brM
  split
  · rename_i z
    rw [if_pos z] at f
    exact f
  · rename_i z
    rw [if_neg z] at f
    exact f
theorem ticks_waits {walk ride : Int} {bikes starts : List Int} {plan : List (List Nat)} (ok : PlanOk bikes starts.length plan) {p : Nat} (hp : p < starts.length) : ∀ i, i ≤ plan.length →
    ∃ t w s, (tkM walk ride bikes starts plan i)[p]? = some t ∧ (wtM walk ride bikes starts plan i)[p]? = some w ∧ starts[p]? = some s ∧ t - s - mvM walk ride plan p i = w
  | 0, _ => by
    have hs : starts[p]? = some starts[p] := List.getElem?_eq_getElem hp
    refine ⟨starts[p], 0, starts[p], hs, ?_, hs, ?_⟩
    · show (List.replicate starts.length (0 : Int))[p]? = some 0
      rw [List.getElem?_replicate, if_pos hp]
    · show starts[p] - starts[p] - 0 = 0
      omega
  | i + 1, h => by
    obtain ⟨t, w, s, h1, h2, h3, h4⟩ := ticks_waits (walk := walk) (ride := ride) ok hp i (by omega)
    obtain ⟨nd, rlt, few⟩ := stages_ok ok (show i < plan.length by omega)
    have tl := tkM_len (walk := walk) (ride := ride) (bikes := bikes) (starts := starts) (plan := plan) i
    have wl := wtM_len (walk := walk) (ride := ride) (bikes := bikes) (starts := starts) (plan := plan) i
    obtain ⟨l, w2, t2, v2, g1, g2, g3, g4, g5⟩ := stage_wait (w0 := wtM walk ride bikes starts plan i) few nd (fun q hq => by rw [tl]; exact rlt q hq) (by rw [wl, tl]) (show p < (tkM walk ride bikes starts plan i).length by rw [tl]; exact hp)
    rw [h1] at g3
    rw [h2] at g4
    cases g3
    cases g4
    refine ⟨l + (if p ∈ plan.getD i [] then ride else walk), w2, s, ?_, g2, h3, ?_⟩
    · show (rowM _ _ _ _ _ _)[p]? = _
      unfold rowM
      rw [List.getElem?_mapIdx, g1]
      rfl
    · rw [mvM]
      split <;> omega
theorem wt_bnd {walk ride M : Int} {bikes starts : List Int} {plan : List (List Nat)} (ok : PlanOk bikes starts.length plan) (hM : 0 ≤ M) (h : Bnd M starts) (hw : 0 ≤ walk ∧ walk ≤ 1000) (hr : 0 ≤ ride ∧ ride ≤ 1000) : ∀ i, i ≤ plan.length → ∀ x ∈ wtM walk ride bikes starts plan i, x.natAbs ≤ (M + 2000 * i).natAbs := by
  intro i hi x hx
  obtain ⟨p, hp, e⟩ := List.getElem_of_mem hx
  have wl := wtM_len (walk := walk) (ride := ride) (bikes := bikes) (starts := starts) (plan := plan) i
  rw [wl] at hp
  obtain ⟨t, w, s, h1, h2, h3, h4⟩ := ticks_waits (walk := walk) (ride := ride) ok hp i hi
  have ex : w = x := by
    rw [List.getElem?_eq_getElem (by rw [wl]; exact hp), e] at h2
    exact (Option.some.inj h2).symm
  have b1 := tk_bnd (bikes := bikes) (plan := plan) hM h hw hr i t (List.mem_of_getElem? h1)
  have b2 := h s (List.mem_of_getElem? h3)
  have b3 : ∀ j : Nat, 0 ≤ mvM walk ride plan p j ∧ mvM walk ride plan p j ≤ 1000 * j := by
    intro j
    induction j with
    | zero => exact ⟨Int.le_refl _, Int.le_refl _⟩
    | succ j ih =>
      rw [mvM]
      have : ((j + 1 : Nat) : Int) = (j : Int) + 1 := by omega
      split <;> omega
  have b4 := b3 i
  omega
end Rb
namespace Rb
open PySem PySem.Spec PyProof.Rows L2
section
variable {K : PySem.W.Frag} {tt : TT} {te : TE} {vs : List Nat} {σ : L2.St} {H1 : Hp} {D a : Addr} {j l : Nat} {Qd : Hp → Prop}
theorem lc_enumMapT {xs : List V} (f : Nat → V → V) (hS : SqT K H1 a xs) (nD : H1 D = none) (hw : ∀ x y, wipe (((wipe σ vs).set j (some x)).set l (some y)) vs = wipe σ vs) (hz : xs.length ≤ 90000)
    (he : ∀ (i : Nat) x H3, xs[i]? = some x → Evl.Ex H1 H3 → ∀ Q : VK, (∀ H4, Evl.Ex H3 H4 → Q (f i x) H4) → te (((wipe σ vs).set j (some (.int (i : Int)))).set l (some x)) H3 Q) (hd : ∀ H', Evl.Ex H1 H' → H' D = some (.lst (xs.mapIdx f)) → Qd H') :
    ∃ W : Nat → Nat → Hp → Prop, (∃ m, W 0 m (upd H1 D (.lst []))) ∧ ∀ i m H, W i m H →
      ((ItE K a).stop i H ∧ Qd H) ∨ ((ItE K a).go i H ∧ ∃ Nx : Hp → Prop, (∀ H', Nx H' → ∃ m', m' < m ∧ W (i + 1) m' H') ∧ ∀ x H', (ItE K a).yld i H x H' → (gTup K 2 (gCons (gName j) (gCons (gName l) gNil))) x (wipe σ vs) H' fun σ2 H2 => wipe σ2 vs = wipe σ vs ∧ tYes σ2 H2 fun b H3 =>
        if b = true then te σ2 H3 fun y H4 => ∃ acc, H4 D = some (.lst acc) ∧ acc.length < sizeLine ∧ Nx (upd H4 D (.lst (acc ++ [y]))) else Nx H3) := by
  let Pv : Nat → Hp → Prop := fun i H' => Evl.Ex H1 H' ∧ H' D = some (.lst ((xs.take i).mapIdx f))
  refine ⟨fun i m H => m = xs.length - i ∧ i ≤ xs.length ∧ Pv i H, ⟨xs.length, rfl, Nat.zero_le _, Evl.Ex.new nD, upd_same⟩, ?_⟩
  rintro i m H ⟨rfl, hi, p1, p2⟩
  have q := Evl.ex_t p1 hS
  by_cases hlt : i < xs.length
  · refine .inr ⟨⟨xs, _, q, List.getElem?_eq_getElem hlt⟩, Pv (i + 1), fun H' p' => ⟨xs.length - (i + 1), by omega, rfl, hlt, p'⟩, ?_⟩
    rintro v H' ⟨T, x, rfl, nT, rfl, fx⟩
    have hx := fx xs q
    refine ⟨T, _, rfl, tupOf upd_same, rfl, .int (i : Int), [x], rfl, x, [], rfl, rfl, hw _ _, ?_⟩
    show te _ _ _
    have e5 := p1.trans (Evl.Ex.new (o := .tup [.int ((i : Nat) : Int), x]) nT)
    refine he i x _ hx e5 _ fun H4 e4 => ⟨_, e4 _ _ (Evl.Ex.new nT _ _ p2), ?_, Evl.Ex.mut (e5.trans e4) nD, ?_⟩
    · rw [List.length_mapIdx, List.length_take]
      exact sz_lt (by omega)
    · rw [upd_same, take_mapIdx hx]
  · cases (show i = xs.length by omega)
    exact .inl ⟨⟨xs, q, rfl⟩, hd H p1 (by rw [p2, List.take_length])⟩
theorem lc_filtT {xs : List V} (f : Nat → Bool) (hS : SqT K H1 a xs) (nD : H1 D = none) (hw : ∀ x, wipe ((wipe σ vs).set j (some x)) vs = wipe σ vs) (hz : xs.length ≤ 90000)
    (ht : ∀ (i : Nat) x H3, xs[i]? = some x → Evl.Ex H1 H3 → ∀ Q : Bool → Hp → Prop, (∀ H4, Evl.Ex H3 H4 → Q (f i) H4) → tt ((wipe σ vs).set j (some x)) H3 Q)
    (he : ∀ (i : Nat) x H3, xs[i]? = some x → Evl.Ex H1 H3 → ∀ Q : VK, (∀ H4, Evl.Ex H3 H4 → Q x H4) → te ((wipe σ vs).set j (some x)) H3 Q) (hd : ∀ ys H', Evl.Ex H1 H' → H' D = some (.lst ys) → ys = ((List.range xs.length).filter f).map (fun i => xs.getD i .non) → Qd H') :
    ∃ W : Nat → Nat → Hp → Prop, (∃ m, W 0 m (upd H1 D (.lst []))) ∧ ∀ i m H, W i m H →
      ((Itt K a).stop i H ∧ Qd H) ∨ ((Itt K a).go i H ∧ ∃ Nx : Hp → Prop, (∀ H', Nx H' → ∃ m', m' < m ∧ W (i + 1) m' H') ∧ ∀ x H', (Itt K a).yld i H x H' → (gName j) x (wipe σ vs) H' fun σ2 H2 => wipe σ2 vs = wipe σ vs ∧ tt σ2 H2 fun b H3 =>
        if b = true then te σ2 H3 fun y H4 => ∃ acc, H4 D = some (.lst acc) ∧ acc.length < sizeLine ∧ Nx (upd H4 D (.lst (acc ++ [y]))) else Nx H3) := by
  refine lc_tup (xs := xs) (fun i H' => Evl.Ex H1 H' ∧ H' D = some (.lst (((List.range i).filter f).map fun i => xs.getD i .non))) ⟨Evl.Ex.new nD, upd_same⟩ (fun i H' _ p => Evl.ex_t p.1 hS) ?_ (fun H' p => hd _ H' p.1 p.2 rfl)
  rintro i x H' hx ⟨p1, p2⟩
  have il := (List.getElem?_eq_some_iff.mp hx).1
  refine ⟨hw x, ?_⟩
  refine ht i x H' hx p1 _ fun H3 e3 => ?_
  cases c : f i with
  | true =>
    refine iteT ?_
    refine he i x H3 hx (p1.trans e3) _ fun H4 e4 => ⟨_, e4 _ _ (e3 _ _ p2), ?_, Evl.Ex.mut ((p1.trans e3).trans e4) nD, ?_⟩
    · have h1 := List.length_filter_le f (List.range i)
      rw [List.length_range] at h1
      rw [List.length_map]
      exact sz_lt (by omega)
    · rw [upd_same, List.range_succ, List.filter_append, List.map_append]
      simp [c, hx]
  | false =>
    refine iteF ⟨p1.trans e3, ?_⟩
    rw [e3 _ _ p2, List.range_succ, List.filter_append]
    simp [c]
end
end Rb
namespace Rb
open PySem PySem.Spec PyProof.Rows L2
/-! own errors with one field: made, raised, caught, asked for their class -/
section
variable {X : Cx} {cx : CXT} {lv : Nat} {fn : Addr} {sp : Sp} {E : L2.St → XK} {nm : Str} {p1 p2 : Pos} {a0 : Expr} {as : List Expr} {ta : TA}
theorem pe_callR (F : FnR X.prog X.w X.K X.mg X.base cx lv fn sp) (rm : Room lv X.A) (gl : Gl X nm) (at_ : X.mg nm = some (.ref fn)) (kp : PySem.W.keepIn X.K (.ref fn) = true) (ps : ∀ σ, PassesAt cx X σ (E σ)) (pa : PA X (a0 :: as) ta)
    (ndb : (nm == ("__debug__" : Str)) = false := by decide) (st1 : starEach (a0 :: as) X.env = (false, eval a0 X.env) :: starEach as X.env := by rfl) (st2 : (backTo p2 (starEach as X.env)).any (·.1) = false := by rfl) :
    PE X (.Call (.Name nm p1) (a0 :: as) [] p2) (tCallS sp E ta) := by
  constructor
  intro pins s σ H Q I pre
  refine wpAny_Call_Name_kw (ld_glob I gl at_ ?_ ndb)
  refine PySem.W.callWith_K (h₀ := X.base) I.ok.mod.kin kp (thn (pa.run p2 pins s σ H _ I pre) fun us s1 ⟨xs, H1, I1, rx, q1⟩ => ⟨I1.kIn, ?_⟩) st1 st2
  refine wpAny_call (codeAny_mono (F X.A X.stack s1 H1 us xs Q (E σ) rm I1.env0 rx q1) ?_)
  intro res s2 fin
  match res, fin with
  | .error e, fin => exact ps σ pins H1 s1 e s2 I1 fin
  | .ok (.ret u), fin => exact I1.after fin
  | .ok .next, fin => exact (fin : False).elim
  | .ok .brk, fin => exact (fin : False).elim
  | .ok .cont, fin => exact (fin : False).elim
end
/-- what is told of a class of errors that is raised -/
structure OwnE (K : PySem.W.Frag) (C : Addr) : Prop where
  oex : OexC K C
  xf : XfC K C
  is : PySem.W.isClsIn K C = true
  cl : PySem.W.findIn K (.ref C) "__class__" = some (some (.builtin "object.__class__"))
  cg : PySem.W.specialIn K (.builtin "object.__class__") "__get__" = some (some (.builtin "getset_descriptor.__get__"))
  ct : PySem.W.takesIn K (.builtin "object.__class__") = some true
  co : PySem.W.mroIn K C (.type "object") = some true
/-- __init__(self, f): self.f = f -/
def spIni (K : PySem.W.Frag) (C : Addr) (f : Str) : Sp := fun vs H Q _ => ∃ (a : Addr) (y : V), vs = [.ref a, y] ∧ H a = some (exo a C none) ∧ ∀ dx, H dx = none → dx ≠ a → Q .non (upd (upd H dx (exd dx [(f, y)])) a (exo a C (some dx)))
theorem made_eq {H : Hp} {a d C : Addr} {f : Str} {y : V} (ha : H a = none) (hd : d ≠ a) :
    upd (del (upd (upd (upd H a (exo a C none)) d (exd d [(f, y)])) a (exo a C (some d))) a) d (.xd [(f, y)]) = upd H d (.xd [(f, y)]) := by
  funext b
  by_cases h1 : b = d
  · subst h1
    rw [upd_same, upd_same]
  · rw [upd_ne h1, upd_ne h1]
    by_cases h2 : b = a
    · subst h2
      rw [del_same, ha]
    · rw [del_ne h2, upd_ne h2, upd_ne h1, upd_ne h2]
/-- what remains to show of raise C(e) -/
theorem mkO_of {K : PySem.W.Frag} {C : Addr} {f : Str} {H1 : Hp} {y : V} {W : XK} (q : ∀ d, H1 d = none → W (.ref C) (some d) (upd H1 d (.xd [(f, y)]))) :
    [y].length ≤ 1000 ∧ ∀ a, H1 a = none → spIni K C f (.ref a :: ([y] ++ [])) (upd H1 a (exo a C none))
      (fun v H2 => v = .non ∧ ∃ (d : Addr) (fs : List (Str × V)), H2 a = some (exo a C (some d)) ∧ H2 d = some (exd d fs) ∧ H1 d = none ∧ W (.ref C) (some d) (upd (del H2 a) d (.xd fs))) (fun _ _ _ => False) := by
  refine ⟨by show 1 ≤ 1000; decide, fun a ha => ⟨a, y, rfl, upd_same, fun d hd ne => ⟨rfl, d, [(f, y)], upd_same, ?_, ?_, ?_⟩⟩⟩
  · rw [upd_ne ne, upd_same]
  · rw [upd_ne ne] at hd
    exact hd
  · rw [made_eq ha ne]
    rw [upd_ne ne] at hd
    exact q d hd
/-! ### isinstance of the error that a suite holds -/
theorem kit_self {K : PySem.W.Frag} {D : Value} : PySem.W.kitOne K D D = some true := by
  unfold PySem.W.kitOne
  rw [if_pos (beq_self_eq_true D)]
theorem kit_sub {K : PySem.W.Frag} {D C : Addr} {b : Bool} (i : PySem.W.isClsIn K C = true) (t : PySem.W.typeIn K (.ref C) = some (.type "type")) (s : PySem.W.subIn K (.ref D) (.ref C) = some b) (ss : PySem.W.subIn K (.ref D) (.ref D) = some true) : PySem.W.kitOne K (.ref D) (.ref C) = some b := by
  unfold PySem.W.kitOne
  by_cases h : D = C
  · subst h
    rw [if_pos (beq_self_eq_true _)]
    rw [ss] at s
    exact s
  · rw [if_neg (fun q => h (Value.ref.inj (beq_iff_eq.mp q)))]
    have i' : (PySem.W.clsIn K C).isSome = true := i
    have e2 : ((PySem.W.clsIn K C).isSome && PySem.W.typeIn K (.ref C) == some (.type "type")) = true := by rw [i', t] <;> rfl
    show (if ((PySem.W.clsIn K C).isSome && PySem.W.typeIn K (.ref C) == some (.type "type")) = true then PySem.W.subIn K (.ref D) (.ref C) else none) = some b
    rw [if_pos e2]
    exact s
theorem kit_any {K : PySem.W.Frag} {t : Value} : ∀ {cs : List Value}, (∀ c ∈ cs, PySem.W.kitOne K t c = some false) → PySem.W.kitAny K t cs = some false
  | [], _ => rfl
  | c :: r, h => by
    unfold PySem.W.kitAny
    rw [h c List.mem_cons_self]
    exact kit_any fun x hx => h x (List.mem_cons_of_mem _ hx)
theorem exm_of {K : PySem.W.Frag} {C D : Addr} {b : Bool} (h1 : PySem.W.subIn K (.ref C) (.type "BaseException") = some true) (h2 : PySem.W.isClsIn K C = true) (h3 : PySem.W.typeIn K (.ref C) = some (.type "type")) (h4 : PySem.W.subIn K (.ref D) (.ref C) = some b) :
    PySem.W.exmOne K (.ref D) (.ref C) = some b := by
  have e1 : (PySem.W.subIn K (.ref C) (.type "BaseException") == some true) = true := by rw [h1] <;> rfl
  have e2 : ((PySem.W.clsIn K C).isSome && PySem.W.typeIn K (.ref C) == some (.type "type")) = true := by
    have h2' : (PySem.W.clsIn K C).isSome = true := h2
    rw [h2', h3] <;> rfl
  show (if (PySem.W.subIn K (.ref C) (.type "BaseException") == some true) = true then (if ((PySem.W.clsIn K C).isSome && PySem.W.typeIn K (.ref C) == some (.type "type")) = true then PySem.W.subIn K (.ref D) (.ref C) else none) else none) = some b
  rw [if_pos e1, if_pos e2]
  exact h4
/-- isinstance(e, c): e the held error, of the class at D, its dict tracked; c one class or a tuple of classes -/
def rIsX (K : PySem.W.Frag) (a : Addr) (cls : Value) (d : Option Addr) : List V → Hp → VK → Prop := fun xs H Q => ∃ (D dd c : Addr) (fs : List (Str × V)) (b : Bool), cls = .ref D ∧ OwnE K D ∧ d = some dd ∧ H dd = some (.xd fs) ∧ xs = [.ref a, .ref c] ∧
  (PySem.W.kitOne K (.ref D) (.ref c) = some b ∨ ∃ cs : List Addr, H c = some (.tup (cs.map V.ref)) ∧ PySem.W.kitAny K (.ref D) (cs.map Value.ref) = some b) ∧ Q (.bl b) H
theorem vals_refs : ∀ {cs : List Addr} {us : List Value}, Vals (cs.map V.ref) us → us = cs.map Value.ref
  | [], _, .nil => rfl
  | c :: r, _, .cons h t => by
    rw [vals_refs t, List.map_cons]
    exact congrArg (· :: _) h
theorem call_isX {X : Cx} {a : Addr} {oe : Obj} {cls : Value} {d : Option Addr} {pn : List (Addr × Obj)} (hz : Zc cls d oe) (hf : ∃ vs, oe.data = .fields vs) : CallR (X.suite a ((a, oe) :: pn)) (.builtin "isinstance") (rIsX X.K a cls d) := by
  intro pins s σ H xs us Q I r h
  obtain ⟨D, dd, c, fs, b, rfl, W, rfl, ed, rfl, alt, q⟩ := h
  cases r with
  | cons rx rr =>
    cases rr with
    | cons rt rr =>
      cases rr
      cases rx
      cases rt
      obtain ⟨hget, _⟩ := I.pin (a, oe) (List.mem_append.mpr (.inl List.mem_cons_self))
      obtain ⟨vs, hv⟩ := hf
      have hx : ObjOk X.prog X.w H s.heap dd (.xd fs) := I.hok dd _ ed
      obtain ⟨mA, hns, hr⟩ := hx
      obtain ⟨od, ho, hl⟩ := lookIn_ns hns
      have J : PySem.W.InstAt s.heap a oe D (some od) := ⟨hget, hz.1, by unfold PySem.W.notCls; rw [hv] <;> rfl, by rw [hz.2]; exact ho⟩
      have Z := PySem.W.kitx_exc (x := a) (ox := oe) (od := some od) W.is W.xf.ga W.xf.gg W.xf.exC W.cl W.cg W.ct W.co
      rcases alt with e | ⟨cs, ec, e⟩
      · exact PySem.W.kia_one Z I.kIn J e (fun z => nomatch z) fun tk => ⟨.bl b, H, I.kept (t' := tk) fun _ _ z => z, rfl, q⟩
      · have ht : ObjOk X.prog X.w H s.heap c (.tup (cs.map V.ref)) := I.hok c _ ec
        obtain ⟨_, us, rv, ⟨o, hoc, hcl, n, hdat⟩⟩ := ht
        have eu := vals_refs rv
        subst eu
        obtain ⟨oc, odd, oda, osl⟩ := o
        dsimp only at hcl hdat
        subst hcl hdat
        exact PySem.W.kia_tup Z I.kIn J hoc e (fun z => nomatch z) fun tk => ⟨.bl b, H, I.kept (t' := tk) fun _ _ z => z, rfl, q⟩
end Rb
namespace Rb
open PySem PySem.Spec PyProof.Rows L2
/-! roads one behind the other -/
abbrev Rd := Int × Int × List Int
def badM (r0 r : Rd) : Bool := !(decide (r.1 = r0.1) && decide (r.2.1 = r0.2.1))
def SameTo (r0 : Rd) (rest : List Rd) (n : Nat) : Prop := ∀ j r, j < n → rest[j]? = some r → badM r0 r = false
def joinM (r0 : Rd) (rest : List Rd) : List Int := r0.2.2 ++ (rest.map (·.2.2)).flatten
def wrongM (r0 : Rd) (rest : List Rd) (n : Nat) : List Nat := (List.range n).filter fun j => match rest[j]? with | some r => badM r0 r | none => false
def dueD (r0 : Rd) (rest : List Rd) : PyData := match wrongM r0 rest rest.length with
  | k :: _ => .list [.str "ticks", .int (k : Int)]
  | [] => if (joinM r0 rest).length < 13 then roadD r0.1 r0.2.1 (joinM r0 rest) else .list [.str "long", .int 12]
theorem wrong_nil {r0 : Rd} {rest : List Rd} {n : Nat} (h : SameTo r0 rest n) : wrongM r0 rest n = [] := by
  unfold wrongM
  rw [List.filter_eq_nil_iff]
  intro j hj
  have hj2 := List.mem_range.mp hj
  cases e : rest[j]? with
  | none => simp
  | some r => simp [h j r hj2 e]
theorem wrong_at {r0 r : Rd} {rest : List Rd} {k n : Nat} (h : SameTo r0 rest k) (hk : rest[k]? = some r) (b : badM r0 r = true) (hn : k < n) : ∃ t, wrongM r0 rest n = k :: t := by
  induction n with
  | zero => omega
  | succ n ih =>
    unfold wrongM
    rw [List.range_succ, List.filter_append]
    by_cases hkn : k < n
    · obtain ⟨t, e⟩ := ih hkn
      unfold wrongM at e
      rw [e]
      exact ⟨_, rfl⟩
    · have hkn2 : k = n := by omega
      subst hkn2
      have e := wrong_nil h
      unfold wrongM at e
      rw [e]
      exact ⟨[], by simp [hk, b]⟩
theorem wrong_cases {r0 : Rd} {rest : List Rd} : ∀ n : Nat, n ≤ rest.length → SameTo r0 rest n ∨ ∃ k r, k < n ∧ rest[k]? = some r ∧ badM r0 r = true ∧ SameTo r0 rest k
  | 0, _ => .inl fun j r hj => absurd hj (Nat.not_lt_zero _)
  | n + 1, hl => by
    rcases wrong_cases (r0 := r0) (rest := rest) n (by omega) with h | ⟨k, r, h1, h2, h3, h4⟩
    · have hl2 : n < rest.length := by omega
      have e : rest[n]? = some rest[n] := List.getElem?_eq_getElem hl2
      cases b : badM r0 rest[n] with
      | true => exact .inr ⟨n, _, by omega, e, b, h⟩
      | false =>
        refine .inl fun j r hj hr => ?_
        by_cases hjn : j < n
        · exact h j r hjn hr
        · have hjn2 : j = n := by omega
          subst hjn2
          rw [e] at hr
          cases hr
          exact b
    · exact .inr ⟨k, r, by omega, h2, h3, h4⟩
theorem due_bad {r0 r : Rd} {rest : List Rd} {k : Nat} (h : SameTo r0 rest k) (hk : rest[k]? = some r) (b : badM r0 r = true) : dueD r0 rest = .list [.str "ticks", .int (k : Int)] := by
  obtain ⟨t, e⟩ := wrong_at h hk b (List.getElem?_eq_some_iff.mp hk).1
  unfold dueD
  rw [e]
theorem due_long {r0 : Rd} {rest : List Rd} (h : SameTo r0 rest rest.length) (l : 12 < (joinM r0 rest).length) : dueD r0 rest = .list [.str "long", .int 12] := by
  unfold dueD
  rw [wrong_nil h]
  exact if_neg (by omega)
theorem due_road {r0 : Rd} {rest : List Rd} (h : SameTo r0 rest rest.length) (l : (joinM r0 rest).length ≤ 12) : dueD r0 rest = roadD r0.1 r0.2.1 (joinM r0 rest) := by
  unfold dueD
  rw [wrong_nil h]
  exact if_pos (by omega)
/-- roads in a sequence -/
def Rds (K : PySem.W.Frag) (H : Hp) (xs : List V) (rs : List Rd) : Prop := xs.length = rs.length ∧ ∀ (i : Nat) (r : Rd), rs[i]? = some r → ∃ v, xs[i]? = some v ∧ Road K H v r.1 r.2.1 r.2.2
section
variable {K : PySem.W.Frag} {H H' : Hp} {xs : List V} {rs : List Rd}
theorem Rds.nil : Rds K H [] [] := ⟨rfl, fun i r h => by simp at h⟩
theorem Road.keep {v : V} {w r : Int} {bs : List Int} (x : Road K H v w r bs) (k : ∀ a ys, SqT K H a ys → SqT K H' a ys) : Road K H' v w r bs := by
  obtain ⟨a, b, rfl, h1, h2⟩ := x
  exact ⟨a, b, rfl, k _ _ h1, k _ _ h2⟩
theorem Rds.keep (h : Rds K H xs rs) (k : ∀ a ys, SqT K H a ys → SqT K H' a ys) : Rds K H' xs rs :=
  ⟨h.1, fun i r e => by
    obtain ⟨v, h1, h2⟩ := h.2 i r e
    exact ⟨v, h1, h2.keep k⟩⟩
theorem Rds.ex (h : Rds K H xs rs) (e : Evl.Ex H H') : Rds K H' xs rs := h.keep fun _ _ z => Evl.ex_t e z
theorem Rds.kp {d c : Addr} {N : Int} (h : Rds K H xs rs) (k : Kp d c H H') (dk : Dk H d c N) : Rds K H' xs rs := h.keep fun _ _ z => k.sqT dk z
theorem Rds.upd {D : Addr} {ys zs : List V} (h : Rds K H xs rs) (hD : H D = some (.lst ys)) : Rds K (upd H D (.lst zs)) xs rs := h.keep fun _ _ z => sqT_upd hD z
theorem Rds.cons {v : V} {r : Rd} (h1 : Road K H v r.1 r.2.1 r.2.2) (h : Rds K H xs rs) : Rds K H (v :: xs) (r :: rs) := by
  refine ⟨by rw [List.length_cons, List.length_cons, h.1], fun i s e => ?_⟩
  cases i with
  | zero =>
    cases e
    exact ⟨v, rfl, h1⟩
  | succ i => exact h.2 i s e
theorem Rds.snoc {v : V} {r : Rd} (h : Rds K H xs rs) (h1 : Road K H v r.1 r.2.1 r.2.2) : Rds K H (xs ++ [v]) (rs ++ [r]) := by
  refine ⟨by simp [h.1], fun i s e => ?_⟩
  by_cases hi : i < rs.length
  · rw [List.getElem?_append_left hi] at e
    obtain ⟨u, h2, h3⟩ := h.2 i s e
    exact ⟨u, by rw [List.getElem?_append_left (by rw [h.1]; exact hi)]; exact h2, h3⟩
  · have hl := (List.getElem?_eq_some_iff.mp e).1
    rw [List.length_append] at hl
    have hi2 : i = rs.length := by simp at hl; omega
    subst hi2
    rw [List.getElem?_concat_length] at e
    cases e
    exact ⟨v, by rw [← h.1]; exact List.getElem?_concat_length, h1⟩
theorem Rds.uncons {v : V} {r : Rd} (h : Rds K H (v :: xs) (r :: rs)) : Road K H v r.1 r.2.1 r.2.2 ∧ Rds K H xs rs := by
  refine ⟨?_, by have := h.1; rw [List.length_cons, List.length_cons] at this; omega, fun i s e => h.2 (i + 1) s e⟩
  obtain ⟨u, h1, h2⟩ := h.2 0 r rfl
  cases h1
  exact h2
theorem Rds.at {i : Nat} {v : V} (h : Rds K H xs rs) (hv : xs[i]? = some v) : ∃ r, rs[i]? = some r ∧ Road K H v r.1 r.2.1 r.2.2 := by
  have hl := (List.getElem?_eq_some_iff.mp hv).1
  have e : rs[i]? = some (rs[i]'(by rw [← h.1]; exact hl)) := List.getElem?_eq_getElem _
  obtain ⟨u, h1, h2⟩ := h.2 i _ e
  rw [hv] at h1
  cases h1
  exact ⟨_, e, h2⟩
theorem Rds.set {i : Nat} {v : V} {r : Rd} (h : Rds K H xs rs) (h1 : Road K H v r.1 r.2.1 r.2.2) : Rds K H (xs.set i v) (rs.set i r) := by
  refine ⟨by simp [h.1], fun j s e => ?_⟩
  by_cases hij : i = j
  · subst hij
    by_cases hl : i < rs.length
    · rw [List.getElem?_set_self hl] at e
      cases e
      exact ⟨v, List.getElem?_set_self (by rw [h.1]; exact hl), h1⟩
    · rw [List.getElem?_eq_none (by simp; omega)] at e
      cases e
  · rw [List.getElem?_set_ne hij] at e
    obtain ⟨u, h2, h3⟩ := h.2 j s e
    exact ⟨u, by rw [List.getElem?_set_ne hij]; exact h2, h3⟩
theorem Rds.dp : ∀ {xs : List V} {rs : List Rd}, Rds K H xs rs → DpAll K H xs (rs.map fun r => roadD r.1 r.2.1 r.2.2)
  | [], [], _ => .nil
  | [], _ :: _, h => by cases h.1
  | _ :: _, [], h => by cases h.1
  | x :: xs, r :: rs, h => by
    obtain ⟨h1, h2⟩ := h.uncons
    exact .cons h1.dp (Rds.dp h2)
/-! the two ends of a road -/
theorem road_to2 {v : V} {w r : Int} {bs : List Int} {Q : VK} (h : Road K H v w r bs) (q : ∀ p, H p = none → Q (.ref p) (L2.upd H p (.tup [.int w, .int r]))) : rSlA K v none (some 2) H Q := by
  obtain ⟨a, b, rfl, h1, h2⟩ := h
  exact ⟨a, _, rfl, h1, fun hw => absurd hw.2 (by show HT.sIx 3 3 (some 2) ≠ 3; decide), fun _ p np => q p np⟩
theorem road_from2 {v : V} {w r : Int} {bs : List Int} {Q : VK} (h : Road K H v w r bs) (q : ∀ p b, H p = none → SqT K H b (bs.map V.int) → Q (.ref p) (L2.upd H p (.tup [.ref b]))) : rSlA K v (some 2) none H Q := by
  obtain ⟨a, b, rfl, h1, h2⟩ := h
  exact ⟨a, _, rfl, h1, fun hw => absurd hw.1 (by show HT.sIx 3 0 (some 2) ≠ 0; decide), fun _ p np => q p b np h2⟩
theorem eqv_pair {a b c d : Int} : PyData.eqv (.tuple [.int a, .int b]) (.tuple [.int c, .int d]) = (decide (a = c) && decide (b = d)) := by
  have e1 : (a == c) = decide (a = c) := by by_cases h : a = c <;> simp [h]
  have e2 : (b == d) = decide (b = d) := by by_cases h : b = d <;> simp [h]
  rw [← e1, ← e2]
  simp [PyData.eqv, PyData.eqvAll]
end
/-! a result: plain immutable data, or a new list of a text and a number -/
def Res (K : PySem.W.Frag) (H0 H : Hp) (v : V) (d : PyData) : Prop := Tp K H v d ∨ ∃ (q : Addr) (x : Str) (n : Int), v = .ref q ∧ H0 q = none ∧ H q = some (.lst [.str x, .int n]) ∧ d = .list [.str x, .int n]
theorem Res.ex {K : PySem.W.Frag} {H0 H H' : Hp} {v : V} {d : PyData} (h : Res K H0 H v d) (e : Evl.Ex H H') : Res K H0 H' v d := by
  rcases h with h | ⟨q, x, n, h1, h2, h3, h4⟩
  · exact .inl (h.ex e)
  · exact .inr ⟨q, x, n, h1, h2, e _ _ h3, h4⟩
theorem Res.old {K : PySem.W.Frag} {H0 H1 H : Hp} {v : V} {d : PyData} (h : Res K H1 H v d) (e : Evl.Ex H0 H1) : Res K H0 H v d := by
  rcases h with h | ⟨q, x, n, h1, h2, h3, h4⟩
  · exact .inl h
  · refine .inr ⟨q, x, n, h1, ?_, h3, h4⟩
    cases z : H0 q with
    | none => rfl
    | some o => rw [e _ _ z] at h2; cases h2
theorem Res.dp {K : PySem.W.Frag} {H0 H : Hp} {v : V} {d : PyData} (h : Res K H0 H v d) : Dp K H v d := by
  rcases h with h | ⟨q, x, n, h1, h2, h3, h4⟩
  · exact Tp.dp _ _ h
  · subst h1 h4
    exact .lst (lstOf h3) (.cons (.str x) (.cons (.int n) .nil))
/-- the same of all, the lists none of them at D -/
inductive ResAll (K : PySem.W.Frag) (D : Addr) (H : Hp) : List V → List PyData → Prop
  | nil : ResAll K D H [] []
  | tp {v : V} {d : PyData} {vs : List V} {ds : List PyData} : Tp K H v d → ResAll K D H vs ds → ResAll K D H (v :: vs) (d :: ds)
  | ls {q : Addr} {x : Str} {n : Int} {vs : List V} {ds : List PyData} : q ≠ D → H q = some (.lst [.str x, .int n]) → ResAll K D H vs ds → ResAll K D H (.ref q :: vs) (.list [.str x, .int n] :: ds)
section
variable {K : PySem.W.Frag} {D : Addr} {H H' : Hp}
theorem ResAll.dp : ∀ {vs : List V} {ds : List PyData}, ResAll K D H vs ds → DpAll K H vs ds
  | _, _, .nil => .nil
  | _, _, .tp h r => .cons (Tp.dp _ _ h) r.dp
  | _, _, .ls _ h r => .cons (.lst (lstOf h) (.cons (.str _) (.cons (.int _) .nil))) r.dp
theorem ResAll.ex (e : Evl.Ex H H') : ∀ {vs : List V} {ds : List PyData}, ResAll K D H vs ds → ResAll K D H' vs ds
  | _, _, .nil => .nil
  | _, _, .tp h r => .tp (h.ex e) (r.ex e)
  | _, _, .ls n h r => .ls n (e _ _ h) (r.ex e)
theorem ResAll.upd {ys zs : List V} (hD : H D = some (.lst ys)) : ∀ {vs : List V} {ds : List PyData}, ResAll K D H vs ds → ResAll K D (upd H D (.lst zs)) vs ds
  | _, _, .nil => .nil
  | _, _, .tp h r => .tp (h.upd hD) (r.upd hD)
  | _, _, .ls n h r => .ls n (by rw [upd_ne n]; exact h) (r.upd hD)
theorem ResAll.snoc {H0 : Hp} {v : V} {d : PyData} {o : HO} (hv : Res K H0 H v d) (hD : H0 D = some o) : ∀ {vs : List V} {ds : List PyData}, ResAll K D H vs ds → ResAll K D H (vs ++ [v]) (ds ++ [d])
  | _, _, .nil => by
    rcases hv with h | ⟨q, x, n, h1, h2, h3, h4⟩
    · exact .tp h .nil
    · subst h1 h4
      exact .ls (fun z => by rw [z, hD] at h2; cases h2) h3 .nil
  | _, _, .tp h r => .tp h (r.snoc hv hD)
  | _, _, .ls n h r => .ls n h (r.snoc hv hD)
theorem ResAll.length : ∀ {vs : List V} {ds : List PyData}, ResAll K D H vs ds → vs.length = ds.length
  | _, _, .nil => rfl
  | _, _, .tp _ r => congrArg Nat.succ r.length
  | _, _, .ls _ _ r => congrArg Nat.succ r.length
end
section
variable {K : PySem.W.Frag} {tt : TT} {te : TE} {vs : List Nat} {σ : L2.St} {H1 : Hp} {D a : Addr} {j : Nat} {Qd : Hp → Prop}
theorem lc_resR {n : Nat} (f : Nat → PyData) (nD : H1 D = none) (hw : ∀ x, wipe ((wipe σ vs).set j (some x)) vs = wipe σ vs) (hz : n ≤ 90000)
    (he : ∀ i H3, i < n → Evl.Ex H1 H3 → ∀ Q : VK, (∀ y H4, Evl.Ex H3 H4 → Res K H3 H4 y (f i) → Q y H4) → te ((wipe σ vs).set j (some (.int (i : Int)))) H3 Q)
    (hd : ∀ xs H', Evl.Ex H1 H' → H' D = some (.lst xs) → ResAll K D H' xs ((List.range n).map f) → Qd H') :
    ∃ W : Nat → Nat → Hp → Prop, (∃ m, W 0 m (upd H1 D (.lst []))) ∧ ∀ i m H, W i m H →
      ((Itr 0 n).stop i H ∧ Qd H) ∨ ((Itr 0 n).go i H ∧ ∃ Nx : Hp → Prop, (∀ H', Nx H' → ∃ m', m' < m ∧ W (i + 1) m' H') ∧ ∀ x H', (Itr 0 n).yld i H x H' → (gName j) x (wipe σ vs) H' fun σ2 H2 => wipe σ2 vs = wipe σ vs ∧ tYes σ2 H2 fun b H3 =>
        if b = true then te σ2 H3 fun y H4 => ∃ acc, H4 D = some (.lst acc) ∧ acc.length < sizeLine ∧ Nx (upd H4 D (.lst (acc ++ [y]))) else Nx H3) := by
  refine lc_range (lo := 0) (n := n) (fun i H' => Evl.Ex H1 H' ∧ ∃ xs, H' D = some (.lst xs) ∧ ResAll K D H' xs ((List.range i).map f)) ⟨Evl.Ex.new nD, [], upd_same, .nil⟩ ?_ ?_
  · rintro i H' hi ⟨p1, xs, p2, p3⟩
    refine ⟨hw _, ?_⟩
    show te ((wipe σ vs).set j (some (.int ((0 : Int) + (i : Int))))) H' _
    rw [Int.zero_add]
    refine he i H' hi p1 _ fun y H4 e4 hy => ⟨xs, e4 _ _ p2, ?_, Evl.Ex.mut (p1.trans e4) nD, xs ++ [y], upd_same, ?_⟩
    · have := p3.length
      rw [List.length_map, List.length_range] at this
      exact sz_lt (by omega)
    · rw [List.range_succ, List.map_append]
      exact ((p3.ex e4).snoc hy p2).upd (e4 _ _ p2)
  · rintro H' ⟨p1, xs, p2, p3⟩
    exact hd xs H' p1 p2 p3
/-- [k for k in range(lo, lo + n) if ..] -/
theorem lc_filtR {lo : Int} {n : Nat} (f : Nat → Bool) (nD : H1 D = none) (hw : ∀ x, wipe ((wipe σ vs).set j (some x)) vs = wipe σ vs) (hz : n ≤ 90000)
    (ht : ∀ (i : Nat) H3, i < n → Evl.Ex H1 H3 → ∀ Q : Bool → Hp → Prop, (∀ H4, Evl.Ex H3 H4 → Q (f i) H4) → tt ((wipe σ vs).set j (some (.int (lo + i)))) H3 Q)
    (he : ∀ (i : Nat) H3, i < n → Evl.Ex H1 H3 → ∀ Q : VK, (∀ H4, Evl.Ex H3 H4 → Q (.int (lo + i)) H4) → te ((wipe σ vs).set j (some (.int (lo + i)))) H3 Q) (hd : ∀ H', Evl.Ex H1 H' → H' D = some (.lst (((List.range n).filter f).map fun (i : Nat) => V.int (lo + i))) → Qd H') :
    ∃ W : Nat → Nat → Hp → Prop, (∃ m, W 0 m (upd H1 D (.lst []))) ∧ ∀ i m H, W i m H →
      ((Itr lo n).stop i H ∧ Qd H) ∨ ((Itr lo n).go i H ∧ ∃ Nx : Hp → Prop, (∀ H', Nx H' → ∃ m', m' < m ∧ W (i + 1) m' H') ∧ ∀ x H', (Itr lo n).yld i H x H' → (gName j) x (wipe σ vs) H' fun σ2 H2 => wipe σ2 vs = wipe σ vs ∧ tt σ2 H2 fun b H3 =>
        if b = true then te σ2 H3 fun y H4 => ∃ acc, H4 D = some (.lst acc) ∧ acc.length < sizeLine ∧ Nx (upd H4 D (.lst (acc ++ [y]))) else Nx H3) := by
  refine lc_range (lo := lo) (n := n) (fun i H' => Evl.Ex H1 H' ∧ H' D = some (.lst (((List.range i).filter f).map fun (i : Nat) => V.int (lo + i)))) ⟨Evl.Ex.new nD, upd_same⟩ ?_ (fun H' p => hd H' p.1 p.2)
  rintro i H' hi ⟨p1, p2⟩
  refine ⟨hw _, ?_⟩
  refine ht i H' hi p1 _ fun H3 e3 => ?_
  cases c : f i with
  | true =>
    refine iteT ?_
    refine he i H3 hi (p1.trans e3) _ fun H4 e4 => ⟨_, e4 _ _ (e3 _ _ p2), ?_, Evl.Ex.mut ((p1.trans e3).trans e4) nD, ?_⟩
    · have h1 := List.length_filter_le f (List.range i)
      rw [List.length_range] at h1
      rw [List.length_map]
      exact sz_lt (by omega)
    · rw [upd_same, List.range_succ, List.filter_append, List.map_append]
      simp [c]
  | false =>
    refine iteF ⟨p1.trans e3, ?_⟩
    rw [e3 _ _ p2, List.range_succ, List.filter_append]
    simp [c]
end
end Rb
namespace Rb
open PySem PySem.Spec PyProof.Rows L2
def topS (i : Nat) : Stmt := PySem.Challenge.pw_roadbikes_k03_roads_joined.main.body.getD i (.Pass ⟨0, 0, 0, 0⟩)
abbrev s_joined : Stmt := topS 8
abbrev N_joined : List Str := ["road", "others", "index", "other", "walk", "ride", "bikes"]
theorem sc_joined : FnScope N_joined ["road", "others"] (defScope s_joined) := ⟨rfl, rfl, rfl, by decide +kernel, rfl, by decide +kernel, by decide +kernel⟩
abbrev s__law_deck : Stmt := topS 10
abbrev N__law_deck : List Str := ["_law_script", "_law_cell"]
theorem sc__law_deck : FnScope N__law_deck ["_law_script"] (defScope s__law_deck) := ⟨rfl, rfl, rfl, by decide +kernel, rfl, by decide +kernel, by decide +kernel⟩
abbrev s__law_draw : Stmt := topS 11
abbrev N__law_draw : List Str := ["_law_deck_here", "_law_limit", "_law_cell", "_law_index"]
theorem sc__law_draw : FnScope N__law_draw ["_law_deck_here", "_law_limit"] (defScope s__law_draw) := ⟨rfl, rfl, rfl, by decide +kernel, rfl, by decide +kernel, by decide +kernel⟩
abbrev s__law_same : Stmt := topS 12
abbrev N__law_same : List Str := ["_law_value", "_law_due_here"]
theorem sc__law_same : FnScope N__law_same ["_law_value", "_law_due_here"] (defScope s__law_same) := ⟨rfl, rfl, rfl, by decide +kernel, rfl, by decide +kernel, by decide +kernel⟩
abbrev s__law_road : Stmt := topS 13
abbrev N__law_road : List Str := ["_law_deck_here", "_law_stages", "_law_most", "_law_walk", "_law_ride", "_law_count", "_law_bikes", "_law_k"]
theorem sc__law_road : FnScope N__law_road ["_law_deck_here", "_law_stages", "_law_most"] (defScope s__law_road) := ⟨rfl, rfl, rfl, by decide +kernel, rfl, by decide +kernel, by decide +kernel⟩
abbrev s__law_due : Stmt := topS 14
abbrev N__law_due : List Str := ["_law_roads", "_law_wrong", "_law_bikes", "_law_road_here", "_law_k"]
theorem sc__law_due : FnScope N__law_due ["_law_roads"] (defScope s__law_due) := ⟨rfl, rfl, rfl, by decide +kernel, rfl, by decide +kernel, by decide +kernel⟩
abbrev s__law_call : Stmt := topS 15
abbrev N__law_call : List Str := ["_law_roads", "_law_a", "_law_b", "_law_c", "_law_d", "_law_e", "_law_f", "_law_g", "_law_h", "_law_last"]
theorem sc__law_call : FnScope N__law_call ["_law_roads"] (defScope s__law_call) := ⟨rfl, rfl, rfl, by decide +kernel, rfl, by decide +kernel, by decide +kernel⟩
abbrev s__law_told : Stmt := topS 16
abbrev N__law_told : List Str := ["_law_roads", "_law_e"]
theorem sc__law_told : FnScope N__law_told ["_law_roads"] (defScope s__law_told) := ⟨rfl, rfl, rfl, by decide +kernel, rfl, by decide +kernel, by decide +kernel⟩
abbrev s_law : Stmt := topS 17
abbrev N_law : List Str := ["_law_script", "_law_deck_here", "_law_turn", "_law_count", "_law_roads", "_law_at", "_law_long", "_law_walk", "_law_ride", "_law_bikes", "_law_before", "_law_due_here", "_law_found", "_law_k", "_law_road_here", "_law_again"]
theorem sc_law : FnScope N_law ["_law_script"] (defScope s_law) := ⟨rfl, rfl, rfl, by decide +kernel, rfl, by decide +kernel, by decide +kernel⟩
abbrev s_TooLong : Stmt := inClass (topS 4) 0
theorem sc_TooLong : FnScope ["self", "bound"] ["self", "bound"] (defScope s_TooLong) := ⟨rfl, rfl, rfl, by decide +kernel, rfl, by decide +kernel, by decide +kernel⟩
abbrev s_OtherTicks : Stmt := inClass (topS 3) 0
theorem sc_OtherTicks : FnScope ["self", "index"] ["self", "index"] (defScope s_OtherTicks) := ⟨rfl, rfl, rfl, by decide +kernel, rfl, by decide +kernel, by decide +kernel⟩
structure Tx (K : PySem.W.Frag) (mg : Str → Option Value) where
  f_joined : Addr
  fd_joined : FuncData
  F_joined : Fun K "joined" "joined" s_joined f_joined fd_joined
  g_joined : mg "joined" = some (.ref f_joined)
  b_joined : ∀ us rest : List Value, us.length = (["road"] : List Str).length → bindArgs fd_joined ⟨us ++ rest, []⟩ = (newTuple rest >>= fun t => pure ((["road"] : List Str).zip us ++ [(("others" : Str), t)]))
  f__law_deck : Addr
  fd__law_deck : FuncData
  F__law_deck : Fun K "_law_deck" "_law_deck" s__law_deck f__law_deck fd__law_deck
  g__law_deck : mg "_law_deck" = some (.ref f__law_deck)
  b__law_deck : Binds K fd__law_deck ["_law_script"] []
  f__law_draw : Addr
  fd__law_draw : FuncData
  F__law_draw : Fun K "_law_draw" "_law_draw" s__law_draw f__law_draw fd__law_draw
  g__law_draw : mg "_law_draw" = some (.ref f__law_draw)
  b__law_draw : Binds K fd__law_draw ["_law_deck_here", "_law_limit"] []
  f__law_same : Addr
  fd__law_same : FuncData
  F__law_same : Fun K "_law_same" "_law_same" s__law_same f__law_same fd__law_same
  g__law_same : mg "_law_same" = some (.ref f__law_same)
  b__law_same : Binds K fd__law_same ["_law_value", "_law_due_here"] []
  f__law_road : Addr
  fd__law_road : FuncData
  F__law_road : Fun K "_law_road" "_law_road" s__law_road f__law_road fd__law_road
  g__law_road : mg "_law_road" = some (.ref f__law_road)
  b__law_road : Binds K fd__law_road ["_law_deck_here", "_law_stages", "_law_most"] []
  f__law_due : Addr
  fd__law_due : FuncData
  F__law_due : Fun K "_law_due" "_law_due" s__law_due f__law_due fd__law_due
  g__law_due : mg "_law_due" = some (.ref f__law_due)
  b__law_due : Binds K fd__law_due ["_law_roads"] []
  f__law_call : Addr
  fd__law_call : FuncData
  F__law_call : Fun K "_law_call" "_law_call" s__law_call f__law_call fd__law_call
  g__law_call : mg "_law_call" = some (.ref f__law_call)
  b__law_call : Binds K fd__law_call ["_law_roads"] []
  f__law_told : Addr
  fd__law_told : FuncData
  F__law_told : Fun K "_law_told" "_law_told" s__law_told f__law_told fd__law_told
  g__law_told : mg "_law_told" = some (.ref f__law_told)
  b__law_told : Binds K fd__law_told ["_law_roads"] []
  f_law : Addr
  fd_law : FuncData
  F_law : Fun K "law" "law" s_law f_law fd_law
  g_law : mg "law" = some (.ref f_law)
  b_law : Binds K fd_law ["_law_script"] []
  C_TooLong : Addr
  gC_TooLong : mg "TooLong" = some (.ref C_TooLong)
  C_OtherTicks : Addr
  gC_OtherTicks : mg "OtherTicks" = some (.ref C_OtherTicks)
  C_TripError : Addr
  gC_TripError : mg "TripError" = some (.ref C_TripError)
  C_BadRoad : Addr
  gC_BadRoad : mg "BadRoad" = some (.ref C_BadRoad)
  C_TooLarge : Addr
  gC_TooLarge : mg "TooLarge" = some (.ref C_TooLarge)
  E_TooLong : OwnE K C_TooLong
  no_TooLong : PySem.W.findIn K (.ref C_TooLong) "bound" = some none
  fI_TooLong : Addr
  fdI_TooLong : FuncData
  iC_TooLong : PySem.W.findIn K (.ref C_TooLong) "__init__" = some (some (.ref fI_TooLong))
  tI_TooLong : PySem.W.typeIn K (.ref fI_TooLong) = some (.type "function")
  FI_TooLong : Fun K "__init__" "TooLong.__init__" s_TooLong fI_TooLong fdI_TooLong
  bI_TooLong : Binds K fdI_TooLong ["self", "bound"] []
  k_TooLong_TooLong : PySem.W.kitOne K (.ref C_TooLong) (.ref C_TooLong) = some true
  x_TooLong_TooLong : PySem.W.exmOne K (.ref C_TooLong) (.ref C_TooLong) = some true
  k_TooLong_OtherTicks : PySem.W.kitOne K (.ref C_TooLong) (.ref C_OtherTicks) = some false
  x_TooLong_OtherTicks : PySem.W.exmOne K (.ref C_TooLong) (.ref C_OtherTicks) = some false
  k_TooLong_TripError : PySem.W.kitOne K (.ref C_TooLong) (.ref C_TripError) = some true
  x_TooLong_TripError : PySem.W.exmOne K (.ref C_TooLong) (.ref C_TripError) = some true
  k_TooLong_BadRoad : PySem.W.kitOne K (.ref C_TooLong) (.ref C_BadRoad) = some false
  x_TooLong_BadRoad : PySem.W.exmOne K (.ref C_TooLong) (.ref C_BadRoad) = some false
  k_TooLong_TooLarge : PySem.W.kitOne K (.ref C_TooLong) (.ref C_TooLarge) = some false
  x_TooLong_TooLarge : PySem.W.exmOne K (.ref C_TooLong) (.ref C_TooLarge) = some false
  E_OtherTicks : OwnE K C_OtherTicks
  no_OtherTicks : PySem.W.findIn K (.ref C_OtherTicks) "index" = some none
  fI_OtherTicks : Addr
  fdI_OtherTicks : FuncData
  iC_OtherTicks : PySem.W.findIn K (.ref C_OtherTicks) "__init__" = some (some (.ref fI_OtherTicks))
  tI_OtherTicks : PySem.W.typeIn K (.ref fI_OtherTicks) = some (.type "function")
  FI_OtherTicks : Fun K "__init__" "OtherTicks.__init__" s_OtherTicks fI_OtherTicks fdI_OtherTicks
  bI_OtherTicks : Binds K fdI_OtherTicks ["self", "index"] []
  k_OtherTicks_TooLong : PySem.W.kitOne K (.ref C_OtherTicks) (.ref C_TooLong) = some false
  x_OtherTicks_TooLong : PySem.W.exmOne K (.ref C_OtherTicks) (.ref C_TooLong) = some false
  k_OtherTicks_OtherTicks : PySem.W.kitOne K (.ref C_OtherTicks) (.ref C_OtherTicks) = some true
  x_OtherTicks_OtherTicks : PySem.W.exmOne K (.ref C_OtherTicks) (.ref C_OtherTicks) = some true
  k_OtherTicks_TripError : PySem.W.kitOne K (.ref C_OtherTicks) (.ref C_TripError) = some true
  x_OtherTicks_TripError : PySem.W.exmOne K (.ref C_OtherTicks) (.ref C_TripError) = some true
  k_OtherTicks_BadRoad : PySem.W.kitOne K (.ref C_OtherTicks) (.ref C_BadRoad) = some false
  x_OtherTicks_BadRoad : PySem.W.exmOne K (.ref C_OtherTicks) (.ref C_BadRoad) = some false
  k_OtherTicks_TooLarge : PySem.W.kitOne K (.ref C_OtherTicks) (.ref C_TooLarge) = some false
  x_OtherTicks_TooLarge : PySem.W.exmOne K (.ref C_OtherTicks) (.ref C_TooLarge) = some false
  t_MAX_STAGES : Tok
  c_MAX_STAGES : mg "MAX_STAGES" = some (.int 12 t_MAX_STAGES)
  z_abs : mg "abs" = none
  z_enumerate : mg "enumerate" = none
  z_int : mg "int" = none
  z_isinstance : mg "isinstance" = none
  z_len : mg "len" = none
  z_max : mg "max" = none
  z_min : mg "min" = none
  z_range : mg "range" = none
  z_repr : mg "repr" = none

end Rb
namespace Rb
open PySem PySem.Spec PyProof.Rows L2
/-! ### the deck -/
section
variable {P : Program} {w : World} {K : PySem.W.Frag} {mg : Str → Option Value} {base : Heap}
def spDeck (K : PySem.W.Frag) : Sp := fun vs H Q _ => ∃ (a : Addr) (ns : List Int), vs = [.ref a] ∧ SqL K H a (ns.map V.int) ∧ ∀ d c H', Dk H' d c 0 → Evl.Ex H H' → Q (.ref d) H'
theorem ok__law_deck (T : Tx K mg) : FnOk P w K mg base CX0 1 T.f__law_deck T.fd__law_deck ["_law_script"] (spDeck K) := by
  refine T.F__law_deck.ok sc__law_deck (fun vs H Q E h => ?_) (fun cdv A outer s H vs Q E hr h => ?_)
  · obtain ⟨a, ns, rfl, _⟩ := h
    rfl
  obtain ⟨a, ns, rfl, hS, q⟩ := h
  refine ⟨_, (pss_one (ps_ret (pe_lst (pa_cons (pe_lc (own := [("_law_cell", 1)]) (g := gName 1) (tt := tYes) (by rfl) sc__law_deck.nd (pi_list (pe_slice (show SlR _ (rSlL K) from sl_list) (pv 0) po_none (po_some pe_int))) (blkOk_by (own := [("_law_cell", 1)]) (N := N__law_deck) (sc := defScope s__law_deck) (by decide +kernel)) (fun _ _ _ _ _ => (pg_name (i := 1) sc__law_deck.nd rfl (.inl rfl))) (fun _ _ _ _ _ => pts_nil) (fun _ _ _ _ _ => (pe_callB call_abs (by rfl) T.z_abs (by decide +kernel) (pa_cons (pv 1) pa_nil)))) (pa_cons pe_int pa_nil))))), ?_⟩
  refine ⟨.ref a, rfl, 63, rfl, a, ns.map V.int, rfl, hS, fun p np => ?_⟩
  have hc : cutV (ns.map V.int) none (some 63) = ((ns.take 63).map V.int) := by
    rw [show (63 : Int) = ((63 : Nat) : Int) from rfl, cut_to, List.map_take]
  rw [hc]
  refine ⟨p, rfl, ⟨_, lstOf upd_same⟩, fun D nD => ?_⟩
  refine lc_mapL (f := fun v => match v with | .int i => .int (if i < 0 then -i else i) | v => v) (lstOf upd_same) nD (fun _ => rfl) ?_ ?_ ?_
  · rw [List.length_map, List.length_take]
    omega
  · intro i x H3 hx e3 Q2 hQ
    rw [List.getElem?_map] at hx
    obtain ⟨n, _, rfl⟩ := Option.map_eq_some_iff.mp hx
    exact ⟨.int n, rfl, n, rfl, hQ H3 (Evl.Ex.refl _)⟩
  · intro H' e' hD
    refine ⟨by show 2 ≤ sizeLine; decide, fun l nl => ?_⟩
    refine q l D _ ⟨(ns.take 63).map (fun i => if i < 0 then -i else i), 0, upd_same, ?_, ?_, ?_, Int.le_refl _, Int.le_refl _⟩ ?_
    · rw [upd_ne (ne_of_none hD nl), hD, List.map_map, List.map_map]
      rfl
    · rw [List.length_map, List.length_take]
      omega
    · intro x hx
      obtain ⟨i, _, rfl⟩ := List.mem_map.mp hx
      split <;> omega
    · exact (Evl.Ex.new np).trans (e'.trans (Evl.Ex.new nl))
end

end Rb
namespace Rb
open PySem PySem.Spec PyProof.Rows L2
section
variable {P : Program} {w : World} {K : PySem.W.Frag} {mg : Str → Option Value} {base : Heap}
def spDraw : Sp := fun vs H Q _ => ∃ (d c : Addr) (N m : Int), vs = [.ref d, .int m] ∧ Dk H d c N ∧ N ≤ 1000000000 ∧ 0 < m ∧ m ≤ 1000000000 ∧
  ∀ r H', 0 ≤ r → r < m → Dk H' d c (N + 1) → Kp d c H H' → Q (.int r) H'
theorem ok__law_draw (T : Tx K mg) : FnOk P w K mg base CX0 1 T.f__law_draw T.fd__law_draw ["_law_deck_here", "_law_limit"] spDraw := by
  refine T.F__law_draw.ok sc__law_draw (fun vs H Q E h => ?_) (fun cdv A outer s H vs Q E hr h => ?_)
  · obtain ⟨d, c, N, m, rfl, _⟩ := h
    rfl
  obtain ⟨d, c, N, m, rfl, ⟨cs, n, hd, hc, hl, hcs, n0, nN⟩, hN, m0, m1, q⟩ := h
  refine ⟨_, (pss_cons (ps_asg (pe_op op_add (pe_ix (show IxR _ (rIxL K) from ix_list) (pv 0) pe_int (fun _ _ => rfl)) pe_int) (pg_sub (pv 0) pe_int set_list))
 (pss_cons (ps_asg (pe_tup (pa_cons pe_int (pa_cons (pe_un un_neg pe_int) pa_nil))) (pg_tup rfl (pgs_cons (pg_name (i := 2) sc__law_draw.nd rfl (.inl rfl)) (pgs_cons (pg_name (i := 3) sc__law_draw.nd rfl (.inl rfl)) pgs_nil))))
 (Evl.pss_cut (ps_if (pt_cmpR op_gt (pe_callB (show CallR _ (.builtin "len") (Evl.rLenS K) from call_len_seq) (by rfl) T.z_len PySem.boot_len (pa_cons (pe_ix (show IxR _ (rIxL K) from ix_list) (pv 0) pe_int (fun _ _ => rfl)) pa_nil)) pe_int (nomark _))
 (pss_cons (ps_set (i := 3) sc__law_draw.nd rfl (.inl rfl) (pe_op op_mod (pe_ix (show IxR _ (rIxL K) from ix_list) (pv 0) pe_int (fun _ _ => rfl)) (pe_callB (show CallR _ (.builtin "len") (Evl.rLenS K) from call_len_seq) (by rfl) T.z_len PySem.boot_len (pa_cons (pe_ix (show IxR _ (rIxL K) from ix_list) (pv 0) pe_int (fun _ _ => rfl)) pa_nil))))
 (pss_one (ps_set (i := 2) sc__law_draw.nd rfl (.inl rfl) (pe_ix (show IxR _ (rIxL K) from ix_list) (pe_ix (show IxR _ (rIxL K) from ix_list) (pv 0) pe_int (fun _ _ => rfl)) (pv 3) (fun _ _ => rfl)))))
 pss_nil)
 (pss_cons (ps_if (pt_cmpR op_ge (pv 2) (pe_op op_pow pe_int pe_int) (nomark _))
 (pss_cons (ps_asg (pe_op op_fdivW (pv 2) (pv 1)) (pg_sub (pe_ix (show IxR _ (rIxL K) from ix_list) (pv 0) pe_int (fun _ _ => rfl)) (pv 3) set_list))
 (pss_one (ps_ret (pe_op op_mod (pv 2) (pv 1)))))
 pss_nil)
 (pss_one (ps_ret (pe_op op_mod (pe_op op_fdivW (pe_op op_mod (pe_op op_pow (pe_op op_add (pe_op op_add (pe_op op_mod (pv 2) pe_int) (pe_op op_mul pe_int (pe_ix (show IxR _ (rIxL K) from ix_list) (pv 0) pe_int (fun _ _ => rfl)))) pe_int) pe_int) pe_int) pe_int) (pv 1)))))))), ?_⟩
  have ndc : d ≠ c := ne_of hd hc (by
    cases cs with
    | nil => intro z; cases z
    | cons x r => intro z; cases z)
  -- deck[1] = deck[1] + 1
  refine ⟨.ref d, rfl, d, _, 1, .int n, rfl, rfl, lstOf hd, rfl, n, 1, rfl, rfl, ?_⟩
  refine ⟨.ref d, rfl, d, _, 1, 1, rfl, rfl, hd, rfl, ?_⟩
  have hd1 : (upd H d (.lst ([V.ref c, V.int n].set 1 (.int (n + 1))))) d = some (.lst [.ref c, .int (n + 1)]) := upd_same
  have hc1 : (upd H d (.lst ([V.ref c, V.int n].set 1 (.int (n + 1))))) c = some (.lst (cs.map V.int)) := by
    rw [upd_ne ndc.symm]
    exact hc
  have kk1 : Kp d c H (upd H d (.lst ([V.ref c, V.int n].set 1 (.int (n + 1))))) := fun b o e h1 h2 => by
    rw [upd_ne h1]
    exact e
  -- cell, index = 0, -1
  refine ⟨1, rfl, by show 2 ≤ sizeLine; decide, fun t nt => ?_⟩
  refine ⟨t, [.int 0, .int (-1)], rfl, tupOf upd_same, rfl, .int 0, [.int (-1)], rfl, .int (-1), [], rfl, rfl, ?_⟩
  have hd2 := Evl.Ex.new (o := .tup [.int 0, .int (-1)]) nt _ _ hd1
  have hc2 := Evl.Ex.new (o := .tup [.int 0, .int (-1)]) nt _ _ hc1
  have kk2 := kk1.trans (Kp.new (o := .tup [.int 0, .int (-1)]) nt)
  -- if len(deck[0]) > 0
  refine ⟨fun σ' H' => ∃ cell ix : Int, σ' = [some (.ref d), some (.int m), some (.int cell), some (.int ix)] ∧ 0 ≤ cell ∧ (cell < 10 ^ 18 ∨ ∃ j : Nat, ix = (j : Int) ∧ j < cs.length) ∧
    H' d = some (.lst [.ref c, .int (n + 1)]) ∧ H' c = some (.lst (cs.map V.int)) ∧ Kp d c H H', ?_, ?_⟩
  · refine ⟨.ref d, rfl, d, _, 0, .ref c, rfl, rfl, lstOf hd2, rfl, c, _, rfl, .inl (lstOf hc2), _, 0, rfl, rfl, _, rfl, ite2 (fun e => ?_) (fun e => ?_)⟩
    · have e1 : (0 : Int) < ((cs.map V.int).length : Int) := of_decide_eq_true e
      rw [List.length_map] at e1
      refine ⟨.ref d, rfl, d, _, 1, .int (n + 1), rfl, rfl, lstOf hd2, rfl, .ref d, rfl, d, _, 0, .ref c, rfl, rfl, lstOf hd2, rfl, c, _, rfl, .inl (lstOf hc2), n + 1, _, rfl, rfl, by rw [List.length_map]; exact e1, ?_⟩
      rw [List.length_map]
      have i0 : 0 ≤ (n + 1) % (cs.length : Int) := Int.emod_nonneg _ (by omega)
      have i1 : (n + 1) % (cs.length : Int) < (cs.length : Int) := Int.emod_lt_of_pos _ e1
      obtain ⟨j, hj⟩ : ∃ j : Nat, (n + 1) % (cs.length : Int) = (j : Int) := ⟨((n + 1) % (cs.length : Int)).toNat, by omega⟩
      rw [hj] at i1
      have jl : j < cs.length := by omega
      refine ⟨.ref d, rfl, d, _, 0, .ref c, rfl, rfl, lstOf hd2, rfl, _, rfl, c, _, _, .int cs[j], rfl, rfl, lstOf hc2, (congrArg (atI (cs.map V.int)) hj).trans (at_ints jl), ?_⟩
      exact ⟨cs[j], _, rfl, hcs _ (List.getElem_mem jl), .inr ⟨j, hj, jl⟩, hd2, hc2, kk2⟩
    · exact ⟨0, -1, rfl, by decide, .inl (by decide), hd2, hc2, kk2⟩
  rintro σ' H' ⟨cell, ix, rfl, c0, cx, hd3, hc3, kk3⟩
  have dk3 : Dk H' d c (N + 1) := ⟨cs, n + 1, hd3, hc3, hl, hcs, by omega, by omega⟩
  refine ⟨.int cell, rfl, 10, 18, rfl, rfl, ⟨by decide, by decide, by decide⟩, cell, _, rfl, rfl, _, rfl, ite2 (fun e => ?_) (fun e => ?_)⟩
  · -- a great cell
    have e1 : (10 : Int) ^ 18 ≤ cell := of_decide_eq_true e
    obtain ⟨j, rfl, hj⟩ := cx.resolve_left (by omega)
    refine ⟨.int cell, rfl, .int m, rfl, cell, m, rfl, rfl, wide_div (b := 40) m0 (by omega) (by decide) (by decide), ?_⟩
    refine ⟨.ref d, rfl, d, _, 0, .ref c, rfl, rfl, lstOf hd3, rfl, .int (j : Int), rfl, c, _, (j : Int), j, rfl, rfl, hc3, Evl.ixN_nat (by rw [List.length_map]; exact hj), ?_⟩
    refine ⟨.int cell, rfl, .int m, rfl, cell, m, rfl, rfl, m0, ?_⟩
    refine q _ _ (Int.emod_nonneg _ (by omega)) (Int.emod_lt_of_pos _ m0) ⟨cs.set j (cell / m), n + 1, ?_, ?_, ?_, ?_, by omega, by omega⟩ ?_
    · rw [upd_ne ndc]
      exact hd3
    · rw [upd_same, List.map_set]
    · rw [List.length_set]
      exact hl
    · intro x hx
      rcases List.mem_or_eq_of_mem_set hx with h | rfl
      · exact hcs x h
      · exact Int.ediv_nonneg c0 (by omega)
    · intro b o eb h1 h2
      rw [upd_ne h2]
      exact kk3 b o eb h1 h2
  · -- a mixed number
    have b1 : 0 ≤ cell % 2147483587 := Int.emod_nonneg _ (by decide)
    have b2 : cell % 2147483587 < 2147483587 := Int.emod_lt_of_pos _ (by decide)
    refine ⟨.int cell, rfl, cell, 2147483587, rfl, rfl, (by show (0 : Int) < 2147483587; decide), .ref d, rfl, d, _, 1, .int (n + 1), rfl, rfl, lstOf hd3, rfl, 7919, n + 1, rfl, rfl, .inl ⟨by decide, by decide⟩, _, _, rfl, rfl, _, 1, rfl, rfl, ?_⟩
    refine ⟨_, 5, rfl, rfl, ⟨by decide, by decide, by omega⟩, _, 2147483647, rfl, rfl, (by show (0 : Int) < 2147483647; decide), _, 7, rfl, rfl, wide_div (b := 4) (by decide) (by decide) (by decide) (by decide), .int m, rfl, _, m, rfl, rfl, m0, ?_⟩
    exact q _ _ (Int.emod_nonneg _ (by omega)) (Int.emod_lt_of_pos _ m0) dk3 kk3
end

end Rb
namespace Rb
open PySem PySem.Spec PyProof.Rows L2
section
variable {P : Program} {w : World} {K : PySem.W.Frag} {mg : Str → Option Value} {base : Heap}
def spRoad (K : PySem.W.Frag) : Sp := fun vs H Q _ => ∃ (d c : Addr) (N st mo : Int), vs = [.ref d, .int st, .int mo] ∧ Dk H d c N ∧ N ≤ 900000000 ∧ 1 ≤ st ∧ st ≤ 12 ∧ 0 ≤ mo ∧ mo ≤ 12 ∧
  ∀ v wk rd bs H', Road K H' v wk rd bs → 2 ≤ wk → wk ≤ 1000 → 1 ≤ rd → rd < wk → 1 ≤ bs.length → (bs.length : Int) ≤ st → (∀ b ∈ bs, 0 ≤ b ∧ b ≤ mo) → Dk H' d c (N + 40) → Kp d c H H' → Q v H'
theorem ok__law_road (T : Tx K mg) : FnOk P w K mg base CX0 2 T.f__law_road T.fd__law_road ["_law_deck_here", "_law_stages", "_law_most"] (spRoad K) := by
  have G__law_draw := ok__law_draw (P := P) (w := w) (base := base) T
  refine T.F__law_road.ok sc__law_road (fun vs H Q E h => ?_) (fun cdv A outer s H vs Q E hr h => ?_)
  · obtain ⟨d, c, N, st, mo, rfl, _⟩ := h
    rfl
  obtain ⟨d, c, N, st, mo, rfl, dk, hN, st1, st2, mo1, mo2, q⟩ := h
  refine ⟨_, (pss_cons (ps_set (i := 3) sc__law_road.nd rfl (.inl rfl) (pe_op op_add pe_int (pe_call G__law_draw hr (by rfl) T.g__law_draw T.F__law_draw.kp T.b__law_draw .nil pass0 (pa_cons (pv 0) (pa_cons (pe_ix (show IxR _ (rIxL K) from ix_list) (pe_lst (pa_cons pe_int (pa_cons pe_int (pa_cons pe_int pa_nil)))) (pe_call G__law_draw hr (by rfl) T.g__law_draw T.F__law_draw.kp T.b__law_draw .nil pass0 (pa_cons (pv 0) (pa_cons pe_int pa_nil))) (fun _ _ => rfl)) pa_nil)))))
 (pss_cons (ps_set (i := 4) sc__law_road.nd rfl (.inl rfl) (pe_ix (show IxR _ (rIxL K) from ix_list) (pe_lst (pa_cons pe_int (pa_cons (pe_op op_add pe_int (pe_call G__law_draw hr (by rfl) T.g__law_draw T.F__law_draw.kp T.b__law_draw .nil pass0 (pa_cons (pv 0) (pa_cons (pe_op op_sub (pv 3) pe_int) pa_nil)))) pa_nil))) (pe_call G__law_draw hr (by rfl) T.g__law_draw T.F__law_draw.kp T.b__law_draw .nil pass0 (pa_cons (pv 0) (pa_cons pe_int pa_nil))) (fun _ _ => rfl)))
 (pss_cons (ps_par (i := 5) (j := 6) (by rfl) sc__law_road.nd rfl rfl (by decide) rfl rfl (pa_cons (pe_ix (show IxR _ (rIxL K) from ix_list) (pe_lst (pa_cons (pe_op op_add pe_int (pe_call G__law_draw hr (by rfl) T.g__law_draw T.F__law_draw.kp T.b__law_draw .nil pass0 (pa_cons (pv 0) (pa_cons (pv 1) pa_nil)))) (pa_cons (pv 1) pa_nil))) (pe_call G__law_draw hr (by rfl) T.g__law_draw T.F__law_draw.kp T.b__law_draw .nil pass0 (pa_cons (pv 0) (pa_cons pe_int pa_nil))) (fun _ _ => rfl)) (pa_cons (pe_tup pa_nil) pa_nil)) (by rfl))
 (pss_cons (ps_for PassesOwn.never rfl (pi_range1 (by rfl) T.z_range (pa_cons (pv 5) pa_nil)) (pg_name (i := 7) sc__law_road.nd rfl (.inl rfl))
 (pss_one (ps_set (i := 6) sc__law_road.nd rfl (.inl rfl) (pe_op (show OpR _ (binaryOp .Add) (rCatA K) from op_catA) (pv 6) (pe_tup (pa_cons (pe_op op_mul (pe_call G__law_draw hr (by rfl) T.g__law_draw T.F__law_draw.kp T.b__law_draw .nil pass0 (pa_cons (pv 0) (pa_cons (pe_op op_add (pv 2) pe_int) pa_nil))) (pe_ix (show IxR _ (rIxL K) from ix_list) (pe_lst (pa_cons pe_int (pa_cons (pe_callTy call_int1 (by rfl) T.z_int (by decide +kernel) (pa_cons (pe_cmpR op_eq (pv 7) pe_int (nomark _)) pa_nil)) (pa_cons pe_int pa_nil)))) (pe_call G__law_draw hr (by rfl) T.g__law_draw T.F__law_draw.kp T.b__law_draw .nil pass0 (pa_cons (pv 0) (pa_cons pe_int pa_nil))) (fun _ _ => rfl))) pa_nil))))))
 (pss_one (ps_ret (pe_tup (pa_cons (pv 3) (pa_cons (pv 4) (pa_cons (pv 6) pa_nil)))))))))), ?_⟩
  -- walk
  refine ⟨.ref d, rfl, by show 3 ≤ sizeLine; decide, fun p np => ?_⟩
  refine ⟨.ref d, rfl, d, c, N, 3, rfl, dk.new np, by omega, by decide, by decide, fun r1 H1 r1a r1b dk1 k1 => ?_⟩
  have hp1 := k1 p _ upd_same (dk.ne1 np) (dk.ne2 np)
  obtain ⟨m1, at1, m1c⟩ := pick3i (x := 4) (y := 20) (z := 999) r1a r1b
  refine ⟨p, _, r1, _, rfl, rfl, lstOf hp1, at1, d, c, N + 1, m1, rfl, dk1, by omega, by omega, by omega, fun r2 H2 r2a r2b dk2 k2 => ?_⟩
  refine ⟨2, r2, rfl, rfl, ?_⟩
  have K2 : Kp d c H H2 := (Kp.new np).trans (k1.trans k2)
  -- ride
  refine ⟨.ref d, rfl, _, rfl, 2 + r2, 1, rfl, rfl, d, c, N + 1 + 1, 2 + r2 - 1, rfl, dk2, by omega, by omega, by omega, fun r3 H3 r3a r3b dk3 k3 => ?_⟩
  refine ⟨1, r3, rfl, rfl, by show 2 ≤ sizeLine; decide, fun p2 np2 => ?_⟩
  refine ⟨.ref d, rfl, d, c, _, 2, rfl, dk3.new np2, by omega, by decide, by decide, fun r4 H4 r4a r4b dk4 k4 => ?_⟩
  obtain ⟨rd, at4, rdc⟩ := pick2i (x := 1) (y := 1 + r3) r4a r4b
  refine ⟨p2, _, r4, _, rfl, rfl, lstOf (k4 p2 _ upd_same (dk3.ne1 np2) (dk3.ne2 np2)), at4, ?_⟩
  have K4 : Kp d c H H4 := K2.trans (k3.trans ((Kp.new np2).trans k4))
  -- count, bikes
  refine ⟨.ref d, rfl, .int st, rfl, d, c, _, st, rfl, dk4, by omega, by omega, by omega, fun r5 H5 r5a r5b dk5 k5 => ?_⟩
  refine ⟨1, r5, rfl, rfl, .int st, rfl, by show 2 ≤ sizeLine; decide, fun p3 np3 => ?_⟩
  refine ⟨.ref d, rfl, d, c, _, 2, rfl, dk5.new np3, by omega, by decide, by decide, fun r6 H6 r6a r6b dk6 k6 => ?_⟩
  obtain ⟨cnt, at6, cntc⟩ := pick2i (x := 1 + r5) (y := st) r6a r6b
  refine ⟨p3, _, r6, _, rfl, rfl, lstOf (k6 p3 _ upd_same (dk5.ne1 np3) (dk5.ne2 np3)), at6, ?_⟩
  refine ⟨by show 0 ≤ sizeLine; decide, fun t0 nt0 => ⟨_, _, rfl, ?_⟩⟩
  have K6 : Kp d c H (upd H6 t0 (.tup [])) := K4.trans (k5.trans ((Kp.new np3).trans (k6.trans (Kp.new nt0))))
  have dk7 : Dk (upd H6 t0 (.tup [])) d c (N + 6) := (dk6.new nt0).le (by omega)
  have cnt1 : 1 ≤ cnt ∧ cnt ≤ st := by omega
  -- the loop
  refine ⟨.int cnt, rfl, cnt, rfl, by omega, by omega, ?_⟩
  refine for_range (lo := 0) (n := cnt.toNat) (fun i σ' H' => ∃ (t : Addr) (y7 : Option V) (bs : List Int), σ' = [some (.ref d), some (.int st), some (.int mo), some (.int (2 + r2)), some (.int rd), some (.int cnt), some (.ref t), y7] ∧ SqT K H' t (bs.map V.int) ∧ bs.length = i ∧ (∀ b ∈ bs, 0 ≤ b ∧ b ≤ mo) ∧
    Dk H' d c (N + 6 + 2 * i) ∧ Kp d c H H') ?_ ?_ ?_
  · exact ⟨t0, none, [], rfl, tupOf upd_same, rfl, (fun _ z => nomatch z), dk7.le (by omega), K6⟩
  · rintro i σ' H' hi ⟨t, y7, bs, rfl, hT, hl, hb, dki, ki⟩
    refine ⟨.ref t, rfl, .ref d, rfl, .int mo, rfl, mo, 1, rfl, rfl, d, c, _, mo + 1, rfl, dki, by omega, by omega, by omega, fun a1 H7 a1a a1b dk8 k8 => ?_⟩
    refine ⟨_, rfl, rfl, .inr ⟨_, rfl, ?_⟩⟩
    refine ⟨by show 3 ≤ sizeLine; decide, fun p4 np4 => ?_⟩
    refine ⟨.ref d, rfl, d, c, _, 3, rfl, dk8.new np4, by omega, by decide, by decide, fun a2 H8 a2a a2b dk9 k9 => ?_⟩
    obtain ⟨f, at8, fc⟩ := pick3i (x := 1) (y := if decide (V.int (0 + (i : Int)) = V.int 0) then 1 else 0) (z := 0) a2a a2b
    have fb : f = 0 ∨ f = 1 := by
      rcases fc with h | h | h
      · exact .inr h
      · rw [h]
        split
        · exact .inr rfl
        · exact .inl rfl
      · exact .inl h
    refine ⟨p4, _, a2, _, rfl, rfl, lstOf (k9 p4 _ upd_same (dk8.ne1 np4) (dk8.ne2 np4)), at8, a1, f, rfl, rfl, .inl ⟨by omega, by omega⟩, ?_⟩
    refine ⟨by show 1 ≤ sizeLine; decide, fun t2 nt2 => ?_⟩
    have kT : Kp d c H' (upd H8 t2 (.tup [.int (a1 * f)])) := k8.trans ((Kp.new np4).trans (k9.trans (Kp.new nt2)))
    have dkT : Dk (upd H8 t2 (.tup [.int (a1 * f)])) d c (N + 6 + 2 * ((i + 1 : Nat) : Int)) := (dk9.new nt2).le (by omega)
    have hT2 : SqT K (upd H8 t2 (.tup [.int (a1 * f)])) t (bs.map V.int) := kT.sqT dki hT
    have hv : 0 ≤ a1 * f ∧ a1 * f ≤ mo := by
      rcases fb with rfl | rfl
      · rw [Int.mul_zero]
        omega
      · rw [Int.mul_one]
        omega
    have hb2 : ∀ b ∈ bs ++ [a1 * f], 0 ≤ b ∧ b ≤ mo := fun b hm => by
      rcases List.mem_append.mp hm with h | h
      · exact hb b h
      · cases List.mem_singleton.mp h
        exact hv
    refine ⟨t, t2, bs.map V.int, [.int (a1 * f)], rfl, rfl, hT2, tupOf upd_same, sz_le (by rw [List.length_map]; show bs.length + 1 ≤ _; omega), fun e => ?_, (fun e z => nomatch z), fun e _ p5 np5 => ?_⟩
    · have e2 : bs = [] := List.map_eq_nil_iff.mp e
      subst e2
      exact ⟨t2, _, [a1 * f], rfl, tupOf upd_same, by rw [← hl]; rfl, hb2, dkT, ki.trans kT⟩
    · exact ⟨p5, _, bs ++ [a1 * f], rfl, by rw [List.map_append]; exact tupOf upd_same, by rw [List.length_append, hl]; rfl, hb2, dkT.new np5, ki.trans (kT.trans (Kp.new np5))⟩
  · rintro σ' H' ⟨t, y7, bs, rfl, hT, hl, hb, dki, ki⟩
    refine ⟨_, rfl, _, rfl, .ref t, rfl, by show 3 ≤ sizeLine; decide, fun rp nrp => ?_⟩
    exact q (.ref rp) (2 + r2) rd bs _ ⟨rp, t, rfl, tupOf upd_same, tupNew hT nrp⟩ (by omega) (by omega) (by omega) (by omega) (by omega) (by omega) hb ((dki.new nrp).le (by omega)) (ki.trans (Kp.new nrp))
end

end Rb
namespace Rb
open PySem PySem.Spec PyProof.Rows L2
section
variable {P : Program} {w : World} {K : PySem.W.Frag} {mg : Str → Option Value} {base : Heap}
def spSame (K : PySem.W.Frag) : Sp := fun vs H Q _ => ∃ (v1 v2 : V) (d : PyData), vs = [v1, v2] ∧ Dp K H v1 d ∧ Dp K H v2 d ∧ Nice 20 100000 d ∧ Q (.bl true) H
theorem ok__law_same (T : Tx K mg) : FnG P w K mg base CX0 1 T.f__law_same T.fd__law_same ["_law_value", "_law_due_here"] (spSame K) := by
  refine okG T.F__law_same sc__law_same (fun vs H Q E h => ?_) (fun cdv A outer s H vs Q E hg hr h => ?_)
  · obtain ⟨v1, v2, d, rfl, _⟩ := h
    rfl
  obtain ⟨v1, v2, d, rfl, h1, h2, hn, q⟩ := h
  refine ⟨_, (pss_one (ps_ret (pe_cmpR op_eq (pe_callB (show CallR _ (.builtin "repr") (rRepr K) from (call_reprD hg hr.units)) (by rfl) T.z_repr (by decide +kernel) (pa_cons (pv 0) pa_nil)) (pe_callB (show CallR _ (.builtin "repr") (rRepr K) from (call_reprD hg hr.units)) (by rfl) T.z_repr (by decide +kernel) (pa_cons (pv 1) pa_nil)) (nomark _)))), ?_⟩
  refine ⟨v1, rfl, v1, d, rfl, h1, hn.sh, hn.dep, hn.fits, v2, rfl, v2, d, rfl, h2, hn.sh, hn.dep, hn.fits, rfl, ?_⟩
  rw [decide_eq_true rfl]
  exact q
end

end Rb
namespace Rb
open PySem PySem.Spec PyProof.Rows L2
section
variable {P : Program} {w : World} {K : PySem.W.Frag} {mg : Str → Option Value} {base : Heap}
theorem ok_OtherTicks (T : Tx K mg) : FnOk P w K mg base CX0 1 T.fI_OtherTicks T.fdI_OtherTicks ["self", "index"] (spIni K T.C_OtherTicks "index") := by
  refine T.FI_OtherTicks.ok sc_OtherTicks (fun vs H Q E h => ?_) (fun cdv A outer s H vs Q E hr h => ?_)
  · obtain ⟨a, y, rfl, _⟩ := h
    rfl
  obtain ⟨a, y, rfl, e, q⟩ := h
  refine ⟨_, pss_one (ps_ost (pv 0) (pv 1)), ?_⟩
  exact ⟨_, rfl, _, rfl, a, T.C_OtherTicks, rfl, T.E_OtherTicks.oex, T.no_OtherTicks, .inl ⟨e, fun dx h ne => q dx h ne⟩⟩
theorem ok_TooLong (T : Tx K mg) : FnOk P w K mg base CX0 1 T.fI_TooLong T.fdI_TooLong ["self", "bound"] (spIni K T.C_TooLong "bound") := by
  refine T.FI_TooLong.ok sc_TooLong (fun vs H Q E h => ?_) (fun cdv A outer s H vs Q E hr h => ?_)
  · obtain ⟨a, y, rfl, _⟩ := h
    rfl
  obtain ⟨a, y, rfl, e, q⟩ := h
  refine ⟨_, pss_one (ps_ost (pv 0) (pv 1)), ?_⟩
  exact ⟨_, rfl, _, rfl, a, T.C_TooLong, rfl, T.E_TooLong.oex, T.no_TooLong, .inl ⟨e, fun dx h ne => q dx h ne⟩⟩
end

end Rb
namespace Rb
open PySem PySem.Spec PyProof.Rows L2
section
variable {P : Program} {w : World} {K : PySem.W.Frag} {mg : Str → Option Value} {base : Heap}
/-- the body's promise: others is a tuple -/
def spJoin0 (K : PySem.W.Frag) (C1 C2 : Addr) : Sp := fun vs H Q E => ∃ (v0 : V) (t : Addr) (xs : List V) (r0 : Rd) (rest : List Rd), vs = [v0, .ref t] ∧ SqT K H t xs ∧ Road K H v0 r0.1 r0.2.1 r0.2.2 ∧ Rds K H xs rest ∧ (∀ n, ((rest.take n).map (·.2.2.length)).sum + r0.2.2.length ≤ 1000) ∧
  (∀ k r, rest[k]? = some r → badM r0 r = true → SameTo r0 rest k → ∀ H' d, Evl.Ex H H' → H' d = none → E (.ref C1) (some d) (upd H' d (.xd [("index", .int (k : Int))]))) ∧
  (SameTo r0 rest rest.length → 12 < (joinM r0 rest).length → ∀ H' d, Evl.Ex H H' → H' d = none → E (.ref C2) (some d) (upd H' d (.xd [("bound", .int 12)]))) ∧
  (SameTo r0 rest rest.length → (joinM r0 rest).length ≤ 12 → ∀ v H', Evl.Ex H H' → Road K H' v r0.1 r0.2.1 (joinM r0 rest) → Q v H')
theorem len_join {r0 : Rd} {rest : List Rd} : (joinM r0 rest).length = r0.2.2.length + (rest.map (·.2.2.length)).sum := by
  unfold joinM
  rw [List.length_append, List.length_flatten, List.map_map]
  rfl
theorem join_succ {r0 r : Rd} {rest : List Rd} {i : Nat} (h : rest[i]? = some r) : joinM r0 (rest.take (i + 1)) = joinM r0 (rest.take i) ++ r.2.2 := by
  unfold joinM
  rw [List.take_add_one, h]
  simp
theorem body_joined (T : Tx K mg) (cdv : Value) (A : Around) (outer : List Env) (s : Shared) (H : Hp) (vs : List V) (Q : VK) (E : XK) (hr : Room 2 (A.deeper (envOfC "joined" (defScope s_joined) s.heap.objs.size T.f_joined cdv))) (h : spJoin0 K T.C_OtherTicks T.C_TooLong vs H Q E) :
    ∃ t, PSs (cxOf (L2.CX P w) P w K mg base N_joined "joined" (defScope s_joined) T.f_joined cdv A outer s H E) (defBody s_joined) t ∧ t { nx := fun _ H' => Q .non H', rt := Q } (start N_joined vs) H := by
  have G_OtherTicks := ok_OtherTicks (P := P) (w := w) (base := base) T
  have G_TooLong := ok_TooLong (P := P) (w := w) (base := base) T
  obtain ⟨v0, t, xs, r0, rest, rfl, hT, hR, hX, few, qT, qL, q⟩ := h
  refine ⟨_, (pss_cons (ps_for (passes_of rfl) rfl (pi_enumT (by rfl) T.z_enumerate (pa_cons (pv 1) pa_nil)) (pg_tup rfl (pgs_cons (pg_name (i := 2) sc_joined.nd rfl (.inl rfl)) (pgs_cons (pg_name (i := 3) sc_joined.nd rfl (.inl rfl)) pgs_nil)))
 (pss_one (ps_if (pt_cmpR (show OpR _ (compareOp .NotEq) (rNeD K) from (op_neD hr.units)) (pe_slice (show SlR _ (rSlA K) from sl_tupA) (pv 3) po_none (po_some pe_int)) (pe_slice (show SlR _ (rSlA K) from sl_tupA) (pv 0) po_none (po_some pe_int)) (nomark _))
 (pss_one (ps_raise rfl (takes_of rfl rfl rfl rfl) (pmk_oex T.E_OtherTicks.oex T.iC_OtherTicks T.tI_OtherTicks G_OtherTicks hr T.bI_OtherTicks .nil pass0 (by rfl) T.gC_OtherTicks (pa_cons (pv 2) pa_nil))))
 pss_nil)))
 (pss_cons (ps_asg (pv 0) (pg_tup rfl (pgs_cons (pg_name (i := 4) sc_joined.nd rfl (.inl rfl)) (pgs_cons (pg_name (i := 5) sc_joined.nd rfl (.inl rfl)) (pgs_cons (pg_name (i := 6) sc_joined.nd rfl (.inl rfl)) pgs_nil)))))
 (pss_cons (ps_for (passes_of rfl) rfl (pi_tup (pv 1)) (pg_name (i := 3) sc_joined.nd rfl (.inl rfl))
 (pss_one (ps_set (i := 6) sc_joined.nd rfl (.inl rfl) (pe_op (show OpR _ (binaryOp .Add) (rCatA K) from op_catA) (pv 6) (pe_ix (show IxR _ (rIxT K) from ix_tup) (pv 3) pe_int (fun _ _ => rfl))))))
 (pss_cons (ps_if (pt_cmpR op_gt (pe_callB (show CallR _ (.builtin "len") (Evl.rLenS K) from call_len_seq) (by rfl) T.z_len PySem.boot_len (pa_cons (pv 6) pa_nil)) (pe_glob (by rfl) T.c_MAX_STAGES (show RelV (V.int 12) _ from ⟨_, rfl⟩)) (nomark _))
 (pss_one (ps_raise rfl (takes_of rfl rfl rfl rfl) (pmk_oex T.E_TooLong.oex T.iC_TooLong T.tI_TooLong G_TooLong hr T.bI_TooLong .nil pass0 (by rfl) T.gC_TooLong (pa_cons (pe_glob (by rfl) T.c_MAX_STAGES (show RelV (V.int 12) _ from ⟨_, rfl⟩)) pa_nil))))
 pss_nil)
 (pss_one (ps_ret (pe_tup (pa_cons (pv 4) (pa_cons (pv 5) (pa_cons (pv 6) pa_nil)))))))))), ?_⟩
  -- other ticks?
  refine ⟨.ref t, rfl, t, xs, rfl, hT, ?_⟩
  refine for_enumT (xs := xs) (fun i σ' H' => ∃ (y2 y3 : Option V), σ' = [some v0, some (.ref t), y2, y3, none, none, none] ∧ Evl.Ex H H' ∧ SameTo r0 rest i) ⟨none, none, rfl, Evl.Ex.refl _, fun j r hj => absurd hj (Nat.not_lt_zero _)⟩ (fun i σ' H' _ ⟨_, _, _, e, _⟩ => Evl.ex_t e hT) ?_ ?_
  · rintro i x T1 σ' H1 hx ⟨y2, y3, rfl, e1, sm⟩ nT1
    obtain ⟨r, hr1, hr2⟩ := hX.at hx
    have e2 := e1.trans (Evl.Ex.new (o := .tup [.int (i : Int), x]) nT1)
    refine ⟨T1, _, rfl, tupOf upd_same, rfl, _, _, rfl, _, _, rfl, rfl, ?_⟩
    refine ⟨x, rfl, 2, rfl, road_to2 (hr2.ex e2) fun p1 np1 => ?_⟩
    have e3 := e2.trans (Evl.Ex.new (o := .tup [.int r.1, .int r.2.1]) np1)
    refine ⟨v0, rfl, 2, rfl, road_to2 (hR.ex e3) fun p2 np2 => ?_⟩
    have e4 := e3.trans (Evl.Ex.new (o := .tup [.int r0.1, .int r0.2.1]) np2)
    refine ⟨.tuple [.int r.1, .int r.2.1], .tuple [.int r0.1, .int r0.2.1], Dp.tupI (ns := [r.1, r.2.1]) (tupNew (tupOf upd_same) np2), Dp.tupI (ns := [r0.1, r0.2.1]) (tupOf upd_same), rfl, rfl, ?_⟩
    rw [eqv_pair]
    show ∃ b, _ ∧ _
    refine ⟨badM r0 r, rfl, ?_⟩
    cases b : badM r0 r with
    | true =>
      refine iteT ?_
      exact ⟨_, rfl, mkO_of fun d hd => qT i r hr1 b sm _ d e4 hd⟩
    | false =>
      refine iteF ⟨_, _, rfl, e4, fun j r' hj hr' => ?_⟩
      by_cases hji : j < i
      · exact sm j r' hji hr'
      · cases (show j = i by omega)
        rw [hr1] at hr'
        cases hr'
        exact b
  · rintro σ' H1 ⟨y2, y3, rfl, e1, sm⟩
    have same : SameTo r0 rest rest.length := by rw [← hX.1]; exact sm
    -- the parts
    obtain ⟨ra, rb, rfl, hA, hB⟩ := id (hR.ex e1)
    refine ⟨.ref ra, rfl, ra, _, rfl, hA, rfl, _, _, rfl, _, _, rfl, _, _, rfl, rfl, ?_⟩
    -- the loop
    refine ⟨.ref t, rfl, t, rfl, ⟨_, Evl.ex_t e1 hT⟩, ?_⟩
    refine for_tup (xs := xs) (fun i σ' H' => ∃ (y2 y3 : Option V) (b : Addr), σ' = [some (.ref ra), some (.ref t), y2, y3, some (.int r0.1), some (.int r0.2.1), some (.ref b)] ∧ Evl.Ex H H' ∧ SqT K H' b ((joinM r0 (rest.take i)).map V.int)) ?_ (fun i σ' H' _ ⟨_, _, _, _, e, _⟩ => Evl.ex_t e hT) ?_ ?_
    · refine ⟨_, _, rb, rfl, e1, ?_⟩
      have z : joinM r0 (rest.take 0) = r0.2.2 := by simp [joinM]
      rw [z]
      exact hB
    · rintro i x σ' H2 hx ⟨z2, z3, b, rfl, e2, hb⟩
      obtain ⟨r, hr1, hr2⟩ := hX.at hx
      obtain ⟨xa, xb, rfl, hxa, hxb⟩ := id (hr2.ex e2)
      refine ⟨.ref b, rfl, .ref xa, rfl, xa, _, 2, .ref xb, rfl, rfl, hxa, rfl, ?_⟩
      have js := join_succ (r0 := r0) hr1
      refine ⟨b, xb, _, _, rfl, rfl, hb, hxb, ?_, fun hn => ?_, fun hn hm => ?_, fun hn hm p np => ?_⟩
      · have h1 := few (i + 1)
        have h2 := len_join (r0 := r0) (rest := rest.take (i + 1))
        rw [js, List.length_append] at h2
        rw [List.length_map, List.length_map]
        exact sz_le (by omega)
      · have hn2 := List.map_eq_nil_iff.mp hn
        exact ⟨_, _, xb, rfl, e2, by rw [js, hn2]; exact hxb⟩
      · have hm2 := List.map_eq_nil_iff.mp hm
        exact ⟨_, _, b, rfl, e2, by rw [js, hm2, List.append_nil]; exact hb⟩
      · exact ⟨_, _, p, rfl, e2.trans (Evl.Ex.new np), by rw [js, List.map_append]; exact tupOf upd_same⟩
    · rintro σ' H2 ⟨z2, z3, b, rfl, e2, hb⟩
      rw [hX.1, List.take_length] at hb
      refine ⟨.ref b, rfl, b, _, rfl, .inr hb, ?_⟩
      rw [List.length_map]
      refine ⟨_, _, rfl, rfl, _, rfl, ?_⟩
      by_cases c : 12 < (joinM r0 rest).length
      · rw [decide_eq_true (show (12 : Int) < ((joinM r0 rest).length : Int) by omega)]
        refine iteT ?_
        exact mkO_of fun d hd => qL same c _ d e2 hd
      · rw [decide_eq_false (show ¬ (12 : Int) < ((joinM r0 rest).length : Int) by omega)]
        refine iteF ?_
        refine ⟨_, rfl, _, rfl, _, rfl, by show 3 ≤ sizeLine; decide, fun p np => ?_⟩
        exact q same (by omega) _ _ (e2.trans (Evl.Ex.new np)) ⟨p, b, rfl, tupOf upd_same, tupNew hb np⟩
end

end Rb
namespace Rb
open PySem PySem.Spec PyProof.Rows L2
section
variable {P : Program} {w : World} {K : PySem.W.Frag} {mg : Str → Option Value} {base : Heap}
/-- what comes of roads one behind the other -/
structure JoinQ (K : PySem.W.Frag) (C1 C2 : Addr) (r0 : Rd) (rest : List Rd) (H : Hp) (Q : VK) (E : XK) : Prop where
  qT : ∀ k r, rest[k]? = some r → badM r0 r = true → SameTo r0 rest k → ∀ H' d, Evl.Ex H H' → H' d = none → E (.ref C1) (some d) (upd H' d (.xd [("index", .int (k : Int))]))
  qL : SameTo r0 rest rest.length → 12 < (joinM r0 rest).length → ∀ H' d, Evl.Ex H H' → H' d = none → E (.ref C2) (some d) (upd H' d (.xd [("bound", .int 12)]))
  q : SameTo r0 rest rest.length → (joinM r0 rest).length ≤ 12 → ∀ v H', Evl.Ex H H' → Road K H' v r0.1 r0.2.1 (joinM r0 rest) → Q v H'
def spJoin (K : PySem.W.Frag) (C1 C2 : Addr) : Sp := fun vs H Q E => ∃ (v0 : V) (xs : List V) (r0 : Rd) (rest : List Rd), vs = v0 :: xs ∧ xs.length ≤ 100 ∧ Road K H v0 r0.1 r0.2.1 r0.2.2 ∧ Rds K H xs rest ∧ (∀ n, ((rest.take n).map (·.2.2.length)).sum + r0.2.2.length ≤ 1000) ∧ JoinQ K C1 C2 r0 rest H Q E
theorem ok_joined (T : Tx K mg) : FnR P w K mg base (L2.CX P w) 3 T.f_joined (spJoin K T.C_OtherTicks T.C_TooLong) := by
  obtain ⟨oc, od, kV, doc, pm, an, cdv, ct, osl, e, lk, hcd⟩ := T.F_joined.ex
  have hb := T.b_joined
  rw [e] at lk hb
  refine (StX.fn_star (k := 2) (sp := spJoin0 K T.C_OtherTicks T.C_TooLong) lk hcd sc_joined StX.cxUp hb (fun A outer s H vs Q E hr h => body_joined T cdv A outer s H vs Q E hr h)).imp ?_
  rintro vs H Q E ⟨v0, xs, r0, rest, rfl, hl, hR, hX, few, j⟩
  refine ⟨[v0], xs, rfl, rfl, sz_le (by omega), fun p hp => ⟨v0, p, xs, r0, rest, rfl, tupOf upd_same, hR.ex (Evl.Ex.new hp), hX.ex (Evl.Ex.new hp), few, fun k r h1 h2 h3 H' d e1 hd => ?_, fun h1 h2 H' d e1 hd => ?_, fun h1 h2 v H' e1 hv => ?_⟩⟩
  · exact j.qT k r h1 h2 h3 H' d ((Evl.Ex.new hp).trans e1) hd
  · exact j.qL h1 h2 H' d ((Evl.Ex.new hp).trans e1) hd
  · exact j.q h1 h2 v H' ((Evl.Ex.new hp).trans e1) hv
end

end Rb
namespace Rb
open PySem PySem.Spec PyProof.Rows L2
section
variable {P : Program} {w : World} {K : PySem.W.Frag} {mg : Str → Option Value} {base : Heap}
def spDue (K : PySem.W.Frag) : Sp := fun vs H Q _ => ∃ (a : Addr) (xs : List V) (r0 : Rd) (rest : List Rd), vs = [.ref a] ∧ SqL K H a xs ∧ Rds K H xs (r0 :: rest) ∧ rest.length ≤ 100 ∧ (∀ n, ((rest.take n).map (·.2.2.length)).sum + r0.2.2.length ≤ 1000) ∧
  ∀ v H', Evl.Ex H H' → Res K H H' v (dueD r0 rest) → Q v H'
theorem ok__law_due (T : Tx K mg) : FnOk P w K mg base CX0 1 T.f__law_due T.fd__law_due ["_law_roads"] (spDue K) := by
  refine T.F__law_due.ok sc__law_due (fun vs H Q E h => ?_) (fun cdv A outer s H vs Q E hr h => ?_)
  · obtain ⟨a, xs, r0, rest, rfl, _⟩ := h
    rfl
  obtain ⟨a, xs, r0, rest, rfl, hS, hX, hl, few, q⟩ := h
  have xl : xs.length = rest.length + 1 := hX.1
  obtain ⟨x0, hx0, hR0⟩ := hX.2 0 r0 rfl
  refine ⟨_, (pss_cons (ps_setLc (i := 1) (own := [("_law_k", 4)]) (g := gName 4) (by rfl) sc__law_due.nd rfl rfl (sw_true rfl rfl rfl (by decide +kernel)) (pi_range2 (by rfl) T.z_range (pa_cons pe_int (pa_cons (pe_callB (show CallR _ (.builtin "len") (Evl.rLenS K) from call_len_seq) (by rfl) T.z_len PySem.boot_len (pa_cons (pv 0) pa_nil)) pa_nil))) (blkOk_by (own := [("_law_k", 4)]) (N := N__law_due) (sc := defScope s__law_due) (by decide +kernel)) (fun _ _ _ _ _ => (pg_name (i := 4) sc__law_due.nd rfl (.inl rfl))) (fun _ _ _ _ _ => (pts_one (pt_cmpR (show OpR _ (compareOp .NotEq) (rNeD K) from (op_neD hr.units)) (pe_slice (show SlR _ (rSlA K) from sl_tupA) (pe_ix (show IxR _ (rIxL K) from ix_list) (pv 0) (pv 4) (fun _ _ => rfl)) po_none (po_some pe_int)) (pe_slice (show SlR _ (rSlA K) from sl_tupA) (pe_ix (show IxR _ (rIxL K) from ix_list) (pv 0) pe_int (fun _ _ => rfl)) po_none (po_some pe_int)) (nomark _)))) (fun _ _ _ _ _ => (pv 4)))
 (pss_cons (ps_if (pt_cmpR (show OpR _ (compareOp .NotEq) (rNeD K) from (op_neD hr.units)) (pv 1) (pe_lst pa_nil) (nomark _))
 (pss_one (ps_ret (pe_lst (pa_cons pe_str (pa_cons (pe_op op_sub (pe_ix (show IxR _ (rIxL K) from ix_list) (pv 1) pe_int (fun _ _ => rfl)) pe_int) pa_nil)))))
 pss_nil)
 (pss_cons (ps_set (i := 2) sc__law_due.nd rfl (.inl rfl) (pe_tup pa_nil))
 (pss_cons (ps_for PassesOwn.never rfl (pi_list (pv 0)) (pg_name (i := 3) sc__law_due.nd rfl (.inl rfl))
 (pss_one (ps_set (i := 2) sc__law_due.nd rfl (.inl rfl) (pe_op (show OpR _ (binaryOp .Add) (rCatA K) from op_catA) (pv 2) (pe_ix (show IxR _ (rIxT K) from ix_tup) (pv 3) pe_int (fun _ _ => rfl))))))
 (pss_one (ps_ret (pe_ifExp (pt_cmpR op_lt (pe_callB (show CallR _ (.builtin "len") (Evl.rLenS K) from call_len_seq) (by rfl) T.z_len PySem.boot_len (pa_cons (pv 2) pa_nil)) pe_int (nomark _)) (pe_op (show OpR _ (binaryOp .Add) (rCatA K) from op_catA) (pe_slice (show SlR _ (rSlA K) from sl_tupA) (pe_ix (show IxR _ (rIxL K) from ix_list) (pv 0) pe_int (fun _ _ => rfl)) po_none (po_some pe_int)) (pe_tup (pa_cons (pv 2) pa_nil))) (pe_lst (pa_cons pe_str (pa_cons pe_int pa_nil)))))))))), ?_⟩
  -- wrong
  refine ⟨.ref a, rfl, a, _, rfl, .inl hS, 1, (xs.length : Int), rfl, ⟨by decide, by decide, by omega, by omega⟩, ?_⟩
  rw [show ((xs.length : Int) - 1).toNat = rest.length by omega]
  intro D nD
  refine lc_filtR (lo := 1) (n := rest.length) (fun j => match rest[j]? with | some r => badM r0 r | none => false) nD (fun _ => rfl) (by omega) (fun i H1 hi e1 Q1 hQ => ?_) (fun i H1 hi e1 Q1 hQ => ?_) (fun H1 e1 hD => ?_)
  · have hri : rest[i]? = some rest[i] := List.getElem?_eq_getElem hi
    obtain ⟨xv, hxv, hRv⟩ := hX.2 (i + 1) rest[i] hri
    refine ⟨.ref a, rfl, _, rfl, a, xs, 1 + (i : Int), xv, rfl, rfl, Evl.ex_l e1 hS, ?_, 2, rfl, road_to2 (hRv.ex e1) fun p1 np1 => ?_⟩
    · rw [show (1 + (i : Int)) = ((i + 1 : Nat) : Int) by omega]
      exact atI_nat hxv
    have e2 := e1.trans (Evl.Ex.new (o := .tup [.int rest[i].1, .int rest[i].2.1]) np1)
    refine ⟨.ref a, rfl, a, xs, 0, x0, rfl, rfl, Evl.ex_l e2 hS, atI_nat hx0, 2, rfl, road_to2 (hR0.ex e2) fun p2 np2 => ?_⟩
    refine ⟨.tuple [.int rest[i].1, .int rest[i].2.1], .tuple [.int r0.1, .int r0.2.1], Dp.tupI (ns := [rest[i].1, rest[i].2.1]) (tupNew (tupOf upd_same) np2), Dp.tupI (ns := [r0.1, r0.2.1]) (tupOf upd_same), rfl, rfl, ?_⟩
    rw [eqv_pair]
    refine ⟨badM r0 rest[i], rfl, ?_⟩
    have z := hQ _ ((Evl.Ex.new (o := .tup [.int rest[i].1, .int rest[i].2.1]) np1).trans (Evl.Ex.new (o := .tup [.int r0.1, .int r0.2.1]) np2))
    rw [hri] at z
    exact z
  · exact ⟨_, rfl, hQ _ (Evl.Ex.refl _)⟩
  -- wrong != []
  refine ⟨.ref D, rfl, by show 0 ≤ sizeLine; decide, fun p0 np0 => ?_⟩
  have e2 := e1.trans (Evl.Ex.new (o := .lst []) np0)
  have hD2 := Evl.Ex.new (o := .lst []) np0 _ _ hD
  have wr : (((List.range rest.length).filter fun j => match rest[j]? with | some r => badM r0 r | none => false).map fun (i : Nat) => V.int (1 + (i : Int))) = ((wrongM r0 rest rest.length).map fun (i : Nat) => (1 + (i : Int))).map V.int := by
    rw [List.map_map]
    rfl
  rw [wr] at hD2
  refine ⟨.list (((wrongM r0 rest rest.length).map fun (i : Nat) => (1 + (i : Int))).map .int), .list [], .lst (lstOf hD2) (DpAll.ints _), .lst (lstOf upd_same) .nil, PySem.W.ke_shaped_ints _, rfl, ?_⟩
  rcases wrong_cases (r0 := r0) (rest := rest) rest.length (Nat.le_refl _) with sm | ⟨k, r, hk, hr2, hb, sm⟩
  · -- all the same ticks
    rw [wrong_nil sm]
    refine ⟨false, rfl, iteF ?_⟩
    refine ⟨by show 0 ≤ sizeLine; decide, fun t0 nt0 => ?_⟩
    have e3 := e2.trans (Evl.Ex.new (o := .tup []) nt0)
    refine ⟨.ref a, rfl, a, rfl, ⟨_, Evl.ex_l e3 hS⟩, ?_⟩
    refine for_list (xs := xs) (fun i σ' H' => ∃ (y3 : Option V) (b : Addr), σ' = [some (.ref a), some (.ref D), some (.ref b), y3, none] ∧ Evl.Ex H H' ∧ SqT K H' b (((((r0 :: rest).take i).map (·.2.2)).flatten).map V.int)) ⟨none, t0, rfl, e3, tupOf upd_same⟩ (fun i σ' H' _ ⟨_, _, _, e, _⟩ => Evl.ex_l e hS) ?_ ?_
    · rintro i x σ' H4 hx ⟨y3, b, rfl, e4, hb4⟩
      obtain ⟨r, hr1, hrd⟩ := hX.at hx
      obtain ⟨xa, xb, rfl, hxa, hxb⟩ := id (hrd.ex e4)
      have js : ((((r0 :: rest).take (i + 1)).map (·.2.2)).flatten) = ((((r0 :: rest).take i).map (·.2.2)).flatten) ++ r.2.2 := by
        rw [List.take_add_one, hr1]
        simp
      refine ⟨.ref b, rfl, .ref xa, rfl, xa, _, 2, .ref xb, rfl, rfl, hxa, rfl, ?_⟩
      refine ⟨b, xb, _, _, rfl, rfl, hb4, hxb, ?_, fun hn => ?_, fun hn hm => ?_, fun hn hm p np => ?_⟩
      · have h1 := few i
        have h2 : ((((r0 :: rest).take (i + 1)).map (·.2.2)).flatten).length = r0.2.2.length + ((rest.take i).map (·.2.2.length)).sum := by
          rw [List.length_flatten, List.map_map, List.take_succ_cons, List.map_cons, List.sum_cons]
          rfl
        rw [js, List.length_append] at h2
        rw [List.length_map, List.length_map]
        exact sz_le (by omega)
      · have hn2 := List.map_eq_nil_iff.mp hn
        exact ⟨_, xb, rfl, e4, by rw [js, hn2]; exact hxb⟩
      · have hm2 := List.map_eq_nil_iff.mp hm
        exact ⟨_, b, rfl, e4, by rw [js, hm2, List.append_nil]; exact hb4⟩
      · exact ⟨_, p, rfl, e4.trans (Evl.Ex.new np), by rw [js, List.map_append]; exact tupOf upd_same⟩
    · rintro σ' H4 ⟨y3, b, rfl, e4, hb4⟩
      have ej : (((r0 :: rest).take xs.length).map (·.2.2)).flatten = joinM r0 rest := by
        rw [List.take_of_length_le (by rw [xl, List.length_cons]; exact Nat.le_refl _)]
        rfl
      rw [ej] at hb4
      refine ⟨.ref b, rfl, b, _, rfl, .inr hb4, ?_⟩
      rw [List.length_map]
      refine ⟨_, _, rfl, rfl, _, rfl, ?_⟩
      by_cases c : (joinM r0 rest).length < 13
      · rw [decide_eq_true (show ((joinM r0 rest).length : Int) < 13 by omega)]
        refine iteT ?_
        refine ⟨.ref a, rfl, a, xs, 0, x0, rfl, rfl, Evl.ex_l e4 hS, atI_nat hx0, 2, rfl, road_to2 (hR0.ex e4) fun p2 np2 => ?_⟩
        have e5 := e4.trans (Evl.Ex.new (o := .tup [.int r0.1, .int r0.2.1]) np2)
        refine ⟨_, rfl, by show 1 ≤ sizeLine; decide, fun p3 np3 => ?_⟩
        refine ⟨p2, p3, [.int r0.1, .int r0.2.1], [.ref b], rfl, rfl, tupNew (tupOf upd_same) np3, tupOf upd_same, by show 3 ≤ sizeLine; decide, (fun z => nomatch z), (fun _ z => nomatch z), fun _ _ p4 np4 => ?_⟩
        have e6 := (e5.trans (Evl.Ex.new (o := .tup [.ref b]) np3)).trans (Evl.Ex.new (o := .tup ([.int r0.1, .int r0.2.1] ++ [.ref b])) np4)
        refine q _ _ e6 (.inl ?_)
        rw [due_road sm (by omega)]
        exact Road.tp ⟨p4, b, rfl, tupOf upd_same, tupNew (tupNew (tupNew hb4 np2) np3) np4⟩
      · rw [decide_eq_false (show ¬ ((joinM r0 rest).length : Int) < 13 by omega)]
        refine iteF ?_
        refine ⟨by show 2 ≤ sizeLine; decide, fun p2 np2 => ?_⟩
        refine q _ _ (e4.trans (Evl.Ex.new np2)) (.inr ⟨p2, _, _, rfl, ?_, upd_same, due_long sm (by omega)⟩)
        cases z : H p2 with
        | none => rfl
        | some o => rw [e4 _ _ z] at np2; cases np2
  · -- other ticks
    obtain ⟨t, et⟩ := wrong_at sm hr2 hb hk
    rw [et] at hD2
    rw [et]
    refine ⟨true, rfl, iteT ?_⟩
    refine ⟨.ref D, rfl, D, _, 0, .int (1 + (k : Int)), rfl, rfl, lstOf hD2, atI_nat (j := 0) rfl, _, _, rfl, rfl, by show 2 ≤ sizeLine; decide, fun p2 np2 => ?_⟩
    refine q _ _ (e2.trans (Evl.Ex.new np2)) (.inr ⟨p2, _, _, rfl, ?_, upd_same, ?_⟩)
    · cases z : H p2 with
      | none => rfl
      | some o => rw [e2 _ _ z] at np2; cases np2
    · rw [due_bad sm hr2 hb, show (1 + (k : Int) - 1) = (k : Int) by omega]
end

end Rb
namespace Rb
open PySem PySem.Spec PyProof.Rows L2
section
variable {P : Program} {w : World} {K : PySem.W.Frag} {mg : Str → Option Value} {base : Heap}
def spCall (K : PySem.W.Frag) (C1 C2 : Addr) : Sp := fun vs H Q E => ∃ (a : Addr) (xs : List V) (r0 : Rd) (rest : List Rd), vs = [.ref a] ∧ SqL K H a xs ∧ Rds K H xs (r0 :: rest) ∧ (rest.length = 0 ∨ rest.length = 1 ∨ rest.length = 2 ∨ rest.length = 3 ∨ rest.length = 8) ∧
  (∀ n, ((rest.take n).map (·.2.2.length)).sum + r0.2.2.length ≤ 1000) ∧ JoinQ K C1 C2 r0 rest H Q E
theorem ok__law_call (T : Tx K mg) : FnOk P w K mg base (L2.CX P w) 4 T.f__law_call T.fd__law_call ["_law_roads"] (spCall K T.C_OtherTicks T.C_TooLong) := by
  have G_joined := ok_joined (P := P) (w := w) (base := base) T
  refine T.F__law_call.okX sc__law_call (fun vs H Q E h => ?_) (fun cdv A outer s H vs Q E hr h => ?_)
  · obtain ⟨a, xs, r0, rest, rfl, _⟩ := h
    rfl
  obtain ⟨a, xs, r0, rest, rfl, hS, hX, hl, few, j⟩ := h
  have xl : xs.length = rest.length + 1 := hX.1
  refine ⟨_, (pss_cons (ps_if (pt_cmpR op_eq (pe_callB (show CallR _ (.builtin "len") (Evl.rLenS K) from call_len_seq) (by rfl) T.z_len PySem.boot_len (pa_cons (pv 0) pa_nil)) pe_int (nomark _))
 (pss_one (ps_ret (pe_callR G_joined hr (by rfl) T.g_joined T.F_joined.kp (fun σ => passAt (takes_of rfl rfl rfl rfl) σ) (pa_cons (pe_ix (show IxR _ (rIxL K) from ix_list) (pv 0) pe_int (fun _ _ => rfl)) pa_nil))))
 pss_nil)
 (pss_cons (ps_if (pt_cmpR op_eq (pe_callB (show CallR _ (.builtin "len") (Evl.rLenS K) from call_len_seq) (by rfl) T.z_len PySem.boot_len (pa_cons (pv 0) pa_nil)) pe_int (nomark _))
 (pss_one (ps_ret (pe_callR G_joined hr (by rfl) T.g_joined T.F_joined.kp (fun σ => passAt (takes_of rfl rfl rfl rfl) σ) (pa_cons (pe_ix (show IxR _ (rIxL K) from ix_list) (pv 0) pe_int (fun _ _ => rfl)) (pa_cons (pe_ix (show IxR _ (rIxL K) from ix_list) (pv 0) pe_int (fun _ _ => rfl)) pa_nil)))))
 pss_nil)
 (pss_cons (ps_if (pt_cmpR op_eq (pe_callB (show CallR _ (.builtin "len") (Evl.rLenS K) from call_len_seq) (by rfl) T.z_len PySem.boot_len (pa_cons (pv 0) pa_nil)) pe_int (nomark _))
 (pss_one (ps_ret (pe_callR G_joined hr (by rfl) T.g_joined T.F_joined.kp (fun σ => passAt (takes_of rfl rfl rfl rfl) σ) (pa_cons (pe_ix (show IxR _ (rIxL K) from ix_list) (pv 0) pe_int (fun _ _ => rfl)) (pa_cons (pe_ix (show IxR _ (rIxL K) from ix_list) (pv 0) pe_int (fun _ _ => rfl)) (pa_cons (pe_ix (show IxR _ (rIxL K) from ix_list) (pv 0) pe_int (fun _ _ => rfl)) pa_nil))))))
 pss_nil)
 (pss_cons (ps_if (pt_cmpR op_eq (pe_callB (show CallR _ (.builtin "len") (Evl.rLenS K) from call_len_seq) (by rfl) T.z_len PySem.boot_len (pa_cons (pv 0) pa_nil)) pe_int (nomark _))
 (pss_one (ps_ret (pe_callR G_joined hr (by rfl) T.g_joined T.F_joined.kp (fun σ => passAt (takes_of rfl rfl rfl rfl) σ) (pa_cons (pe_ix (show IxR _ (rIxL K) from ix_list) (pv 0) pe_int (fun _ _ => rfl)) (pa_cons (pe_ix (show IxR _ (rIxL K) from ix_list) (pv 0) pe_int (fun _ _ => rfl)) (pa_cons (pe_ix (show IxR _ (rIxL K) from ix_list) (pv 0) pe_int (fun _ _ => rfl)) (pa_cons (pe_ix (show IxR _ (rIxL K) from ix_list) (pv 0) pe_int (fun _ _ => rfl)) pa_nil)))))))
 pss_nil)
 (pss_cons (ps_asg (pv 0) (pg_unl rfl (pgs_cons (pg_name (i := 1) sc__law_call.nd rfl (.inl rfl)) (pgs_cons (pg_name (i := 2) sc__law_call.nd rfl (.inl rfl)) (pgs_cons (pg_name (i := 3) sc__law_call.nd rfl (.inl rfl)) (pgs_cons (pg_name (i := 4) sc__law_call.nd rfl (.inl rfl)) (pgs_cons (pg_name (i := 5) sc__law_call.nd rfl (.inl rfl)) (pgs_cons (pg_name (i := 6) sc__law_call.nd rfl (.inl rfl)) (pgs_cons (pg_name (i := 7) sc__law_call.nd rfl (.inl rfl)) (pgs_cons (pg_name (i := 8) sc__law_call.nd rfl (.inl rfl)) (pgs_cons (pg_name (i := 9) sc__law_call.nd rfl (.inl rfl)) pgs_nil)))))))))))
 (pss_one (ps_ret (pe_callR G_joined hr (by rfl) T.g_joined T.F_joined.kp (fun σ => passAt (takes_of rfl rfl rfl rfl) σ) (pa_cons (pv 1) (pa_cons (pv 2) (pa_cons (pv 3) (pa_cons (pv 4) (pa_cons (pv 5) (pa_cons (pv 6) (pa_cons (pv 7) (pa_cons (pv 8) (pa_cons (pv 9) pa_nil))))))))))))))))), ?_⟩
  rcases hl with h0 | h0 | h0 | h0 | h0
  · obtain ⟨x0, rfl⟩ : ∃ x0, xs = [x0] := by
      match xs, (show xs.length = 1 by omega) with
      | [x0], _ => exact ⟨x0, rfl⟩
    obtain ⟨hR, hY⟩ := hX.uncons
    have go : spJoin K T.C_OtherTicks T.C_TooLong [x0] H Q E := ⟨_, _, r0, rest, rfl, by show 0 ≤ 100; decide, hR, hY, few, j⟩
    refine ⟨.ref a, rfl, a, _, rfl, .inl hS, rfl, true, rfl, iteT ?_⟩
    exact ⟨.ref a, rfl, a, _, 0, x0, rfl, rfl, hS, rfl, go⟩
  · obtain ⟨x0, x1, rfl⟩ : ∃ x0 x1, xs = [x0, x1] := by
      match xs, (show xs.length = 2 by omega) with
      | [x0, x1], _ => exact ⟨x0, x1, rfl⟩
    obtain ⟨hR, hY⟩ := hX.uncons
    have go : spJoin K T.C_OtherTicks T.C_TooLong [x0, x1] H Q E := ⟨_, _, r0, rest, rfl, by show 1 ≤ 100; decide, hR, hY, few, j⟩
    refine ⟨.ref a, rfl, a, _, rfl, .inl hS, rfl, false, rfl, iteF ?_⟩
    refine ⟨.ref a, rfl, a, _, rfl, .inl hS, rfl, true, rfl, iteT ?_⟩
    exact ⟨.ref a, rfl, a, _, 0, x0, rfl, rfl, hS, rfl, .ref a, rfl, a, _, 1, x1, rfl, rfl, hS, rfl, go⟩
  · obtain ⟨x0, x1, x2, rfl⟩ : ∃ x0 x1 x2, xs = [x0, x1, x2] := by
      match xs, (show xs.length = 3 by omega) with
      | [x0, x1, x2], _ => exact ⟨x0, x1, x2, rfl⟩
    obtain ⟨hR, hY⟩ := hX.uncons
    have go : spJoin K T.C_OtherTicks T.C_TooLong [x0, x1, x2] H Q E := ⟨_, _, r0, rest, rfl, by show 2 ≤ 100; decide, hR, hY, few, j⟩
    refine ⟨.ref a, rfl, a, _, rfl, .inl hS, rfl, false, rfl, iteF ?_⟩
    refine ⟨.ref a, rfl, a, _, rfl, .inl hS, rfl, false, rfl, iteF ?_⟩
    refine ⟨.ref a, rfl, a, _, rfl, .inl hS, rfl, true, rfl, iteT ?_⟩
    exact ⟨.ref a, rfl, a, _, 0, x0, rfl, rfl, hS, rfl, .ref a, rfl, a, _, 1, x1, rfl, rfl, hS, rfl, .ref a, rfl, a, _, 2, x2, rfl, rfl, hS, rfl, go⟩
  · obtain ⟨x0, x1, x2, x3, rfl⟩ : ∃ x0 x1 x2 x3, xs = [x0, x1, x2, x3] := by
      match xs, (show xs.length = 4 by omega) with
      | [x0, x1, x2, x3], _ => exact ⟨x0, x1, x2, x3, rfl⟩
    obtain ⟨hR, hY⟩ := hX.uncons
    have go : spJoin K T.C_OtherTicks T.C_TooLong [x0, x1, x2, x3] H Q E := ⟨_, _, r0, rest, rfl, by show 3 ≤ 100; decide, hR, hY, few, j⟩
    refine ⟨.ref a, rfl, a, _, rfl, .inl hS, rfl, false, rfl, iteF ?_⟩
    refine ⟨.ref a, rfl, a, _, rfl, .inl hS, rfl, false, rfl, iteF ?_⟩
    refine ⟨.ref a, rfl, a, _, rfl, .inl hS, rfl, false, rfl, iteF ?_⟩
    refine ⟨.ref a, rfl, a, _, rfl, .inl hS, rfl, true, rfl, iteT ?_⟩
    exact ⟨.ref a, rfl, a, _, 0, x0, rfl, rfl, hS, rfl, .ref a, rfl, a, _, 1, x1, rfl, rfl, hS, rfl, .ref a, rfl, a, _, 2, x2, rfl, rfl, hS, rfl, .ref a, rfl, a, _, 3, x3, rfl, rfl, hS, rfl, go⟩
  · obtain ⟨x0, x1, x2, x3, x4, x5, x6, x7, x8, rfl⟩ : ∃ x0 x1 x2 x3 x4 x5 x6 x7 x8, xs = [x0, x1, x2, x3, x4, x5, x6, x7, x8] := by
      match xs, (show xs.length = 9 by omega) with
      | [x0, x1, x2, x3, x4, x5, x6, x7, x8], _ => exact ⟨x0, x1, x2, x3, x4, x5, x6, x7, x8, rfl⟩
    obtain ⟨hR, hY⟩ := hX.uncons
    have go : spJoin K T.C_OtherTicks T.C_TooLong [x0, x1, x2, x3, x4, x5, x6, x7, x8] H Q E := ⟨_, _, r0, rest, rfl, by show 8 ≤ 100; decide, hR, hY, few, j⟩
    refine ⟨.ref a, rfl, a, _, rfl, .inl hS, rfl, false, rfl, iteF ?_⟩
    refine ⟨.ref a, rfl, a, _, rfl, .inl hS, rfl, false, rfl, iteF ?_⟩
    refine ⟨.ref a, rfl, a, _, rfl, .inl hS, rfl, false, rfl, iteF ?_⟩
    refine ⟨.ref a, rfl, a, _, rfl, .inl hS, rfl, false, rfl, iteF ?_⟩
    refine ⟨.ref a, rfl, a, _, rfl, hS, rfl, _, _, rfl, _, _, rfl, _, _, rfl, _, _, rfl, _, _, rfl, _, _, rfl, _, _, rfl, _, _, rfl, _, _, rfl, rfl, ?_⟩
    exact ⟨_, rfl, _, rfl, _, rfl, _, rfl, _, rfl, _, rfl, _, rfl, _, rfl, _, rfl, go⟩
end

end Rb
namespace Rb
open PySem PySem.Spec PyProof.Rows L2
section
variable {P : Program} {w : World} {K : PySem.W.Frag} {mg : Str → Option Value} {base : Heap}
def spTold (K : PySem.W.Frag) : Sp := fun vs H Q _ => ∃ (a : Addr) (xs : List V) (r0 : Rd) (rest : List Rd), vs = [.ref a] ∧ SqL K H a xs ∧ Rds K H xs (r0 :: rest) ∧ (rest.length = 0 ∨ rest.length = 1 ∨ rest.length = 2 ∨ rest.length = 3 ∨ rest.length = 8) ∧
  (∀ n, ((rest.take n).map (·.2.2.length)).sum + r0.2.2.length ≤ 1000) ∧ ∀ v H', Evl.Ex H H' → Res K H H' v (dueD r0 rest) → Q v H'
theorem ok__law_told (T : Tx K mg) : FnOk P w K mg base CX0 5 T.f__law_told T.fd__law_told ["_law_roads"] (spTold K) := by
  have G__law_call := ok__law_call (P := P) (w := w) (base := base) T
  refine T.F__law_told.ok sc__law_told (fun vs H Q E h => ?_) (fun cdv A outer s H vs Q E hr h => ?_)
  · obtain ⟨a, xs, r0, rest, rfl, _⟩ := h
    rfl
  obtain ⟨a, xs, r0, rest, rfl, hS, hX, hl, few, q⟩ := h
  refine ⟨_, (pss_cons (ps_try_as (i := 1) (Wout := fun _ _ _ _ => False) rfl rfl sc__law_told.nd rfl rfl ⟨rfl, by decide, Or.inl T.gC_TripError⟩ takes0
 (fun W pn xe tk _ => (pss_one (ps_ret (pe_callS G__law_call hr (by rfl) T.g__law_call T.F__law_call.kp T.b__law_call (fun σ => passAt (tk) σ) (pa_cons (pv 0) pa_nil)))))
 (fun a oe cls d pn hz hf => (pss_cons (ps_if (PW.pt (pw_and (pt_val (pe_callB (call_isX hz hf) (by rfl) T.z_isinstance (by decide +kernel) (pa_cons (pv 1) (pa_cons (pe_glob (by rfl) T.gC_OtherTicks (show RelV (V.ref T.C_OtherTicks) _ from rfl)) pa_nil)))) (pw_and1 (pt_not (pt_val (pe_callB (call_isX hz hf) (by rfl) T.z_isinstance (by decide +kernel) (pa_cons (pv 1) (pa_cons (pe_tup (pa_cons (pe_glob (by rfl) T.gC_BadRoad (show RelV (V.ref T.C_BadRoad) _ from rfl)) (pa_cons (pe_glob (by rfl) T.gC_TooLarge (show RelV (V.ref T.C_TooLarge) _ from rfl)) (pa_cons (pe_glob (by rfl) T.gC_TooLong (show RelV (V.ref T.C_TooLong) _ from rfl)) pa_nil)))) pa_nil))))))))
 (pss_one (ps_ret (pe_lst (pa_cons pe_str (pa_cons (pe_xf T.E_OtherTicks.xf T.no_OtherTicks hz hf (pv 1)) pa_nil)))))
 pss_nil)
 (pss_one (ps_if (PW.pt (pw_and (pt_val (pe_callB (call_isX hz hf) (by rfl) T.z_isinstance (by decide +kernel) (pa_cons (pv 1) (pa_cons (pe_glob (by rfl) T.gC_TooLong (show RelV (V.ref T.C_TooLong) _ from rfl)) pa_nil)))) (pw_and1 (pt_not (pt_val (pe_callB (call_isX hz hf) (by rfl) T.z_isinstance (by decide +kernel) (pa_cons (pv 1) (pa_cons (pe_tup (pa_cons (pe_glob (by rfl) T.gC_BadRoad (show RelV (V.ref T.C_BadRoad) _ from rfl)) (pa_cons (pe_glob (by rfl) T.gC_OtherTicks (show RelV (V.ref T.C_OtherTicks) _ from rfl)) (pa_cons (pe_glob (by rfl) T.gC_TooLarge (show RelV (V.ref T.C_TooLarge) _ from rfl)) pa_nil)))) pa_nil))))))))
 (pss_one (ps_ret (pe_lst (pa_cons pe_str (pa_cons (pe_xf T.E_TooLong.xf T.no_TooLong hz hf (pv 1)) pa_nil)))))
 pss_nil)))))
 (pss_one (ps_ret (pe_lst (pa_cons pe_str pa_nil))))), ?_⟩
  refine ⟨.ref a, rfl, a, xs, r0, rest, rfl, hS, hX, hl, few, ⟨fun k r h1 h2 sm H1 d e1 hd => ?_, fun sm lo H1 d e1 hd => ?_, fun sm sh v H1 e1 hv => ?_⟩⟩
  · refine ⟨true, T.x_OtherTicks_TripError, fun _ a0 na0 => ?_, fun z => Bool.noConfusion z⟩
    have hd2 : (upd H1 d (.xd [("index", .int (k : Int))])) d = some (.xd [("index", .int (k : Int))]) := upd_same
    refine ⟨.ref a0, rfl, T.C_OtherTicks, d, T.C_OtherTicks, _, true, rfl, T.E_OtherTicks, rfl, hd2, rfl, .inl T.k_OtherTicks_OtherTicks, true, rfl, iteT ?_⟩
    refine ⟨.ref a0, rfl, by show 3 ≤ sizeLine; decide, fun p np => ?_⟩
    have e2 := Evl.Ex.new (o := .tup [.ref T.C_BadRoad, .ref T.C_TooLarge, .ref T.C_TooLong]) np
    refine ⟨T.C_OtherTicks, d, p, _, false, rfl, T.E_OtherTicks, rfl, e2 _ _ hd2, rfl, .inr ⟨[T.C_BadRoad, T.C_TooLarge, T.C_TooLong], upd_same, kit_any (fun c hc => by
        simp only [List.map_cons, List.map_nil, List.mem_cons, List.not_mem_nil, or_false] at hc
        rcases hc with rfl | rfl | rfl
        · exact T.k_OtherTicks_BadRoad
        · exact T.k_OtherTicks_TooLarge
        · exact T.k_OtherTicks_TooLong
        )⟩, false, rfl, iteT ?_⟩
    refine ⟨.ref a0, rfl, rfl, rfl, d, _, .int (k : Int), rfl, e2 _ _ hd2, rfl, by show 2 ≤ sizeLine; decide, fun p2 np2 => ?_⟩
    have e3 := e1.trans ((Evl.Ex.new (o := .xd [("index", .int (k : Int))]) hd).trans e2)
    refine q _ _ (e3.trans (Evl.Ex.new np2)) (.inr ⟨p2, _, _, rfl, ?_, upd_same, due_bad sm h1 h2⟩)
    cases z : H p2 with
    | none => rfl
    | some o => rw [e3 _ _ z] at np2; cases np2
  · refine ⟨true, T.x_TooLong_TripError, fun _ a0 na0 => ?_, fun z => Bool.noConfusion z⟩
    have hd2 : (upd H1 d (.xd [("bound", .int 12)])) d = some (.xd [("bound", .int 12)]) := upd_same
    refine ⟨.ref a0, rfl, T.C_TooLong, d, T.C_OtherTicks, _, false, rfl, T.E_TooLong, rfl, hd2, rfl, .inl T.k_TooLong_OtherTicks, false, rfl, iteF (iteF ?_)⟩
    refine ⟨.ref a0, rfl, T.C_TooLong, d, T.C_TooLong, _, true, rfl, T.E_TooLong, rfl, hd2, rfl, .inl T.k_TooLong_TooLong, true, rfl, iteT ?_⟩
    refine ⟨.ref a0, rfl, by show 3 ≤ sizeLine; decide, fun p np => ?_⟩
    have e2 := Evl.Ex.new (o := .tup [.ref T.C_BadRoad, .ref T.C_OtherTicks, .ref T.C_TooLarge]) np
    refine ⟨T.C_TooLong, d, p, _, false, rfl, T.E_TooLong, rfl, e2 _ _ hd2, rfl, .inr ⟨[T.C_BadRoad, T.C_OtherTicks, T.C_TooLarge], upd_same, kit_any (fun c hc => by
        simp only [List.map_cons, List.map_nil, List.mem_cons, List.not_mem_nil, or_false] at hc
        rcases hc with rfl | rfl | rfl
        · exact T.k_TooLong_BadRoad
        · exact T.k_TooLong_OtherTicks
        · exact T.k_TooLong_TooLarge
        )⟩, false, rfl, iteT ?_⟩
    refine ⟨.ref a0, rfl, rfl, rfl, d, _, .int 12, rfl, e2 _ _ hd2, rfl, by show 2 ≤ sizeLine; decide, fun p2 np2 => ?_⟩
    have e3 := e1.trans ((Evl.Ex.new (o := .xd [("bound", .int 12)]) hd).trans e2)
    refine q _ _ (e3.trans (Evl.Ex.new np2)) (.inr ⟨p2, _, _, rfl, ?_, upd_same, due_long sm lo⟩)
    cases z : H p2 with
    | none => rfl
    | some o => rw [e3 _ _ z] at np2; cases np2
  · refine q _ _ e1 (.inl ?_)
    rw [due_road sm sh]
    exact hv.tp
end

end Rb
namespace Rb
open PySem PySem.Spec PyProof.Rows L2
section
variable {K : PySem.W.Frag}
/-- a road of small numbers -/
def Gd (r : Rd) : Prop := 1 ≤ r.1 ∧ r.1 ≤ 1000 ∧ 1 ≤ r.2.1 ∧ r.2.1 ≤ 1000 ∧ r.2.2.length ≤ 12 ∧ ∀ b ∈ r.2.2, 0 ≤ b ∧ b ≤ 12
theorem pick4i {x y z t r : Int} (h0 : 0 ≤ r) (h1 : r < 4) : ∃ v : Int, atI [V.int x, V.int y, V.int z, V.int t] r = some (V.int v) ∧ (v = x ∨ v = y ∨ v = z ∨ v = t) := by
  rcases (show r = 0 ∨ r = 1 ∨ r = 2 ∨ r = 3 by omega) with rfl | rfl | rfl | rfl
  · exact ⟨x, rfl, .inl rfl⟩
  · exact ⟨y, rfl, .inr (.inl rfl)⟩
  · exact ⟨z, rfl, .inr (.inr (.inl rfl))⟩
  · exact ⟨t, rfl, .inr (.inr (.inr rfl))⟩
theorem pick5i {x y z t u r : Int} (h0 : 0 ≤ r) (h1 : r < 5) : ∃ v : Int, atI [V.int x, V.int y, V.int z, V.int t, V.int u] r = some (V.int v) ∧ (v = x ∨ v = y ∨ v = z ∨ v = t ∨ v = u) := by
  rcases (show r = 0 ∨ r = 1 ∨ r = 2 ∨ r = 3 ∨ r = 4 by omega) with rfl | rfl | rfl | rfl | rfl
  · exact ⟨x, rfl, .inl rfl⟩
  · exact ⟨y, rfl, .inr (.inl rfl)⟩
  · exact ⟨z, rfl, .inr (.inr (.inl rfl))⟩
  · exact ⟨t, rfl, .inr (.inr (.inr (.inl rfl)))⟩
  · exact ⟨u, rfl, .inr (.inr (.inr (.inr rfl)))⟩
theorem Dk.mut {H : Hp} {d c D : Addr} {N : Int} {o : HO} (h : Dk H d c N) (n1 : D ≠ d) (n2 : D ≠ c) : Dk (upd H D o) d c N := by
  obtain ⟨cs, n, h1, h2, h3⟩ := h
  exact ⟨cs, n, by rw [upd_ne (Ne.symm n1)]; exact h1, by rw [upd_ne (Ne.symm n2)]; exact h2, h3⟩
theorem few_of {r0 : Rd} {rest : List Rd} (h0 : Gd r0) (h : ∀ r ∈ rest, Gd r) (hl : rest.length ≤ 8) (n : Nat) : ((rest.take n).map (·.2.2.length)).sum + r0.2.2.length ≤ 1000 := by
  have go : ∀ l : List Rd, (∀ r ∈ l, Gd r) → (l.map (·.2.2.length)).sum ≤ 12 * l.length := by
    intro l
    induction l with
    | nil => intro _; exact Nat.le_refl _
    | cons x r ih =>
      intro hx
      have h1 := (hx x List.mem_cons_self).2.2.2.2.1
      have h2 := ih fun b hb => hx b (List.mem_cons_of_mem _ hb)
      rw [List.map_cons, List.sum_cons, List.length_cons]
      omega
  have h1 := go (rest.take n) fun r hr => h r (List.mem_of_mem_take hr)
  have h2 := h0.2.2.2.2.1
  rw [List.length_take] at h1
  omega
theorem nice_rd {r : Rd} (h : Gd r) : Nice 2 100 (roadD r.1 r.2.1 r.2.2) := by
  obtain ⟨h1, h2, h3, h4, h5, h6⟩ := h
  refine Nice.tup (k := 1) (n := 12) (fun x hx => ?_) (by show 3 * (12 + 1) ≤ 100; decide)
  simp only [List.mem_cons, List.not_mem_nil, or_false] at hx
  rcases hx with rfl | rfl | rfl
  · exact (Nice.int (by omega)).mono (by decide) (by decide)
  · exact (Nice.int (by omega)).mono (by decide) (by decide)
  · exact Nice.ints (fun b hm => by have := h6 b hm; omega) h5
theorem nice_rds {rs : List Rd} (h : ∀ r ∈ rs, Gd r) (hl : rs.length ≤ 9) : Nice 20 100000 (.list (rs.map fun r => roadD r.1 r.2.1 r.2.2)) := by
  refine Nice.mono (Nice.lst (k := 2) (n := 100) (m := 1000) (fun x hx => ?_) (by rw [List.length_map]; omega)) (by decide) (by decide)
  obtain ⟨r, hr, rfl⟩ := List.mem_map.mp hx
  exact nice_rd (h r hr)
theorem nice_due {r0 : Rd} {rest : List Rd} (h0 : Gd r0) (h : ∀ r ∈ rest, Gd r) (hl : rest.length ≤ 8) : Nice 2 100 (dueD r0 rest) := by
  have two : ∀ (x : Str) (n : Int), x.cps.size ≤ 20 → (∀ c ∈ x.cps.toList, c < 16 ^ 8) → n.natAbs < 10 ^ 99 → Nice 2 100 (.list [.str x, .int n]) := by
    intro x n h1 h2 h3
    refine Nice.mono (Nice.lst (k := 0) (n := 20) (m := 50) (fun y hy => ?_) (by show 2 * (20 + 1) ≤ 50; decide)) (by decide) (by decide)
    simp only [List.mem_cons, List.not_mem_nil, or_false] at hy
    rcases hy with rfl | rfl
    · exact Nice.str h1 h2
    · exact (Nice.int h3).mono (by decide) (by decide)
  rcases wrong_cases (r0 := r0) (rest := rest) rest.length (Nat.le_refl _) with sm | ⟨k, r, hk, hr2, hb, sm⟩
  · by_cases c : (joinM r0 rest).length ≤ 12
    · rw [due_road sm c]
      refine nice_rd (r := (r0.1, r0.2.1, joinM r0 rest)) ⟨h0.1, h0.2.1, h0.2.2.1, h0.2.2.2.1, c, fun b hb => ?_⟩
      unfold joinM at hb
      rcases List.mem_append.mp hb with hb | hb
      · exact h0.2.2.2.2.2 b hb
      · obtain ⟨l, hl2, hb2⟩ := List.mem_flatten.mp hb
        obtain ⟨r, hr, rfl⟩ := List.mem_map.mp hl2
        exact (h r hr).2.2.2.2.2 b hb2
    · rw [due_long sm (by omega)]
      exact two _ _ (by decide) (by decide) (by decide)
  · rw [due_bad sm hr2 hb]
    exact two _ _ (by decide) (by decide) (by omega)
variable {te : TE} {vs : List Nat} {σ : L2.St} {H1 : Hp} {D d c : Addr} {N : Int} {j : Nat} {Qd : Hp → Prop}
/-- drawn roads, one after another -/
theorem lc_rds {n : Nat} (nD : H1 D = none) (dk : Dk H1 d c N) (hw : ∀ x, wipe ((wipe σ vs).set j (some x)) vs = wipe σ vs) (hz : n ≤ 90000)
    (he : ∀ i H3, i < n → Kp d c H1 H3 → Dk H3 d c (N + 40 * i) → ∀ Q : VK, (∀ y r H4, Road K H4 y r.1 r.2.1 r.2.2 → Gd r → Dk H4 d c (N + 40 * (i + 1)) → Kp d c H3 H4 → Q y H4) → te ((wipe σ vs).set j (some (.int (i : Int)))) H3 Q)
    (hd : ∀ xs rs H', Kp d c H1 H' → H' D = some (.lst xs) → Rds K H' xs rs → rs.length = n → (∀ r ∈ rs, Gd r) → Dk H' d c (N + 40 * n) → Qd H') :
    ∃ W : Nat → Nat → Hp → Prop, (∃ m, W 0 m (upd H1 D (.lst []))) ∧ ∀ i m H, W i m H →
      ((Itr 0 n).stop i H ∧ Qd H) ∨ ((Itr 0 n).go i H ∧ ∃ Nx : Hp → Prop, (∀ H', Nx H' → ∃ m', m' < m ∧ W (i + 1) m' H') ∧ ∀ x H', (Itr 0 n).yld i H x H' → (gName j) x (wipe σ vs) H' fun σ2 H2 => wipe σ2 vs = wipe σ vs ∧ tYes σ2 H2 fun b H3 =>
        if b = true then te σ2 H3 fun y H4 => ∃ acc, H4 D = some (.lst acc) ∧ acc.length < sizeLine ∧ Nx (upd H4 D (.lst (acc ++ [y]))) else Nx H3) := by
  have n1 := dk.ne1 nD
  have n2 := dk.ne2 nD
  refine lc_range (lo := 0) (n := n) (fun i H' => Kp d c H1 H' ∧ Dk H' d c (N + 40 * i) ∧ ∃ xs rs, H' D = some (.lst xs) ∧ Rds K H' xs rs ∧ rs.length = i ∧ ∀ r ∈ rs, Gd r) ⟨Kp.new nD, (dk.new nD).le (by omega), [], [], upd_same, Rds.nil, rfl, (fun _ z => nomatch z)⟩ ?_ ?_
  · rintro i H' hi ⟨p1, p2, xs, rs, p3, p4, p5, p6⟩
    refine ⟨hw _, ?_⟩
    show te ((wipe σ vs).set j (some (.int ((0 : Int) + (i : Int))))) H' _
    rw [Int.zero_add]
    refine he i H' hi p1 p2 _ fun y r H4 hr hg dk4 k4 => ?_
    have hD4 := k4 _ _ p3 n1 n2
    refine ⟨xs, hD4, ?_, Kp.mut (p1.trans k4) nD, (dk4.mut n1 n2).le (by omega), xs ++ [y], rs ++ [r], upd_same, ?_, by rw [List.length_append, p5]; rfl, fun s hs => ?_⟩
    · have := p4.1
      exact sz_lt (by omega)
    · refine Rds.snoc ((p4.kp k4 p2).upd hD4) (hr.keep fun _ _ z => sqT_upd hD4 z)
    · rcases List.mem_append.mp hs with hs | hs
      · exact p6 s hs
      · cases List.mem_singleton.mp hs
        exact hg
  · rintro H' ⟨p1, p2, xs, rs, p3, p4, p5, p6⟩
    exact hd xs rs H' p1 p3 p4 p5 p6 p2
/-- [roads[0][:2] + road[2:] for road in roads] -/
theorem lc_same {a : Addr} {xs : List V} {rs : List Rd} {r0 : Rd} (hS : SqL K H1 a xs) (hX : Rds K H1 xs rs) (nD : H1 D = none) (hw : ∀ x, wipe ((wipe σ vs).set j (some x)) vs = wipe σ vs) (hz : xs.length ≤ 90000)
    (he : ∀ (i : Nat) x r H3, xs[i]? = some x → rs[i]? = some r → Evl.Ex H1 H3 → ∀ Q : VK, (∀ y H4, Evl.Ex H3 H4 → Road K H4 y r0.1 r0.2.1 r.2.2 → Q y H4) → te ((wipe σ vs).set j (some x)) H3 Q)
    (hd : ∀ ys H', Evl.Ex H1 H' → H' D = some (.lst ys) → Rds K H' ys (rs.map fun r => (r0.1, r0.2.1, r.2.2)) → Qd H') :
    ∃ W : Nat → Nat → Hp → Prop, (∃ m, W 0 m (upd H1 D (.lst []))) ∧ ∀ i m H, W i m H →
      ((Itl K a).stop i H ∧ Qd H) ∨ ((Itl K a).go i H ∧ ∃ Nx : Hp → Prop, (∀ H', Nx H' → ∃ m', m' < m ∧ W (i + 1) m' H') ∧ ∀ x H', (Itl K a).yld i H x H' → (gName j) x (wipe σ vs) H' fun σ2 H2 => wipe σ2 vs = wipe σ vs ∧ tYes σ2 H2 fun b H3 =>
        if b = true then te σ2 H3 fun y H4 => ∃ acc, H4 D = some (.lst acc) ∧ acc.length < sizeLine ∧ Nx (upd H4 D (.lst (acc ++ [y]))) else Nx H3) := by
  refine lc_list (xs := xs) (fun i H' => Evl.Ex H1 H' ∧ ∃ ys, H' D = some (.lst ys) ∧ Rds K H' ys ((rs.take i).map fun r => (r0.1, r0.2.1, r.2.2))) ⟨Evl.Ex.new nD, [], upd_same, Rds.nil⟩ (fun i H' _ p => Evl.ex_l p.1 hS) ?_ ?_
  · rintro i x H' hx ⟨p1, ys, p2, p3⟩
    refine ⟨hw _, ?_⟩
    obtain ⟨r, hr, _⟩ := hX.at hx
    refine he i x r H' hx hr p1 _ fun y H4 e4 hy => ⟨ys, e4 _ _ p2, ?_, Evl.Ex.mut (p1.trans e4) nD, ys ++ [y], upd_same, ?_⟩
    · have := p3.1
      rw [List.length_map, List.length_take] at this
      have := hX.1
      exact sz_lt (by omega)
    · rw [List.take_add_one, hr, Option.toList_some, List.map_append]
      exact Rds.snoc ((p3.ex e4).upd (e4 _ _ p2)) (hy.keep fun _ _ z => sqT_upd (e4 _ _ p2) z)
  · rintro H' ⟨p1, ys, p2, p3⟩
    rw [List.take_of_length_le (by rw [hX.1]; exact Nat.le_refl _)] at p3
    exact hd ys H' p1 p2 p3
end

end Rb
namespace Rb
open PySem PySem.Spec PyProof.Rows L2
section
variable {P : Program} {w : World} {K : PySem.W.Frag} {mg : Str → Option Value} {base : Heap}
def spLaw (K : PySem.W.Frag) : Sp := fun vs H Q _ => ∃ (a : Addr) (ns : List Int), vs = [.ref a] ∧ SqL K H a (ns.map V.int) ∧ ∀ H', Q (.bl true) H'
theorem ok_law (T : Tx K mg) : FnG P w K mg base CX0 6 T.f_law T.fd_law ["_law_script"] (spLaw K) := by
  have G__law_deck := ok__law_deck (P := P) (w := w) (base := base) T
  have G__law_draw := ok__law_draw (P := P) (w := w) (base := base) T
  have G__law_road := ok__law_road (P := P) (w := w) (base := base) T
  have G__law_due := ok__law_due (P := P) (w := w) (base := base) T
  have G__law_told := ok__law_told (P := P) (w := w) (base := base) T
  have G__law_same := ok__law_same (P := P) (w := w) (base := base) T
  refine okG T.F_law sc_law (fun vs H Q E h => ?_) (fun cdv A outer s H vs Q E hg hr h => ?_)
  · obtain ⟨a, ns, rfl, _⟩ := h
    rfl
  obtain ⟨a, ns, rfl, hS, q⟩ := h
  refine ⟨_, (pss_cons (ps_set (i := 1) sc_law.nd rfl (.inr rfl) (pe_call G__law_deck (hr.mono (by decide)) (by rfl) T.g__law_deck T.F__law_deck.kp T.b__law_deck .nil pass0 (pa_cons (pv 0) pa_nil)))
 (pss_cons (ps_for PassesOwn.never rfl (pi_range1 (by rfl) T.z_range (pa_cons pe_int pa_nil)) (pg_name (i := 2) sc_law.nd rfl (.inr rfl))
 (pss_cons (ps_set (i := 3) sc_law.nd rfl (.inl rfl) (pe_ix (show IxR _ (rIxL K) from ix_list) (pe_lst (pa_cons pe_int (pa_cons pe_int (pa_cons pe_int (pa_cons pe_int (pa_cons pe_int pa_nil)))))) (pe_op op_mod (pv 2) pe_int) (fun _ _ => rfl)))
 (pss_cons (ps_set (i := 4) sc_law.nd rfl (.inr rfl) (pe_lc (own := [("_law_k", 13)]) (g := gName 13) (tt := tYes) (by rfl) sc_law.nd (pi_range1 (by rfl) T.z_range (pa_cons (pv 3) pa_nil)) (blkOk_by (own := [("_law_k", 13)]) (N := N_law) (sc := defScope s_law) (by decide +kernel)) (fun _ _ _ _ _ => (pg_name (i := 13) sc_law.nd rfl (.inl rfl))) (fun _ _ _ _ _ => pts_nil) (fun _ _ _ _ _ => (pe_call G__law_road (hr.mono (by decide)) (by rfl) T.g__law_road T.F__law_road.kp T.b__law_road .nil pass0 (pa_cons (pv 1) (pa_cons (pe_ix (show IxR _ (rIxL K) from ix_list) (pe_lst (pa_cons pe_int (pa_cons pe_int (pa_cons pe_int (pa_cons pe_int pa_nil))))) (pe_op op_fdivW (pv 2) pe_int) (fun _ _ => rfl)) (pa_cons pe_int pa_nil)))))))
 (Evl.pss_cut (ps_if (pt_cmpR op_gt (pe_call G__law_draw (hr.mono (by decide)) (by rfl) T.g__law_draw T.F__law_draw.kp T.b__law_draw .nil pass0 (pa_cons (pv 1) (pa_cons pe_int pa_nil))) pe_int (nomark _))
 (pss_cons (ps_set (i := 4) sc_law.nd rfl (.inr rfl) (pe_lc (own := [("_law_road_here", 14)]) (g := gName 14) (tt := tYes) (by rfl) sc_law.nd (pi_list (pv 4)) (blkOk_by (own := [("_law_road_here", 14)]) (N := N_law) (sc := defScope s_law) (by decide +kernel)) (fun _ _ _ _ _ => (pg_name (i := 14) sc_law.nd rfl (.inl rfl))) (fun _ _ _ _ _ => pts_nil) (fun _ _ _ _ _ => (pe_op (show OpR _ (binaryOp .Add) (rCatA K) from op_catA) (pe_slice (show SlR _ (rSlA K) from sl_tupA) (pe_ix (show IxR _ (rIxL K) from ix_list) (pv 4) pe_int (fun _ _ => rfl)) po_none (po_some pe_int)) (pe_slice (show SlR _ (rSlA K) from sl_tupA) (pv 14) (po_some pe_int) po_none)))))
 (pss_one (ps_if (pt_cmpR op_eq (pe_call G__law_draw (hr.mono (by decide)) (by rfl) T.g__law_draw T.F__law_draw.kp T.b__law_draw .nil pass0 (pa_cons (pv 1) (pa_cons pe_int pa_nil))) pe_int (nomark _))
 (pss_cons (ps_par (i := 5) (j := 6) (by rfl) sc_law.nd rfl rfl (by decide) rfl rfl (pa_cons (pe_call G__law_draw (hr.mono (by decide)) (by rfl) T.g__law_draw T.F__law_draw.kp T.b__law_draw .nil pass0 (pa_cons (pv 1) (pa_cons (pv 3) pa_nil))) (pa_cons (pe_call G__law_draw (hr.mono (by decide)) (by rfl) T.g__law_draw T.F__law_draw.kp T.b__law_draw .nil pass0 (pa_cons (pv 1) (pa_cons pe_int pa_nil))) pa_nil)) (by rfl))
 (pss_cons (ps_asg (pe_ix (show IxR _ (rIxL K) from ix_list) (pv 4) (pv 5) (fun _ _ => rfl)) (pg_tup rfl (pgs_cons (pg_name (i := 7) sc_law.nd rfl (.inl rfl)) (pgs_cons (pg_name (i := 8) sc_law.nd rfl (.inl rfl)) (pgs_cons (pg_name (i := 9) sc_law.nd rfl (.inl rfl)) pgs_nil)))))
 (pss_one (ps_asg (pe_ix (show IxR _ (rIxL K) from ix_list) (pe_lst (pa_cons (pe_tup (pa_cons (pe_callB (call_min2 rfl) (by rfl) T.z_min (by decide +kernel) (pa_cons pe_int (pa_cons (pe_op op_add (pv 7) pe_int) pa_nil))) (pa_cons (pv 8) (pa_cons (pv 9) pa_nil)))) (pa_cons (pe_tup (pa_cons (pv 7) (pa_cons (pe_callB (call_max2 rfl) (by rfl) T.z_max (by decide +kernel) (pa_cons pe_int (pa_cons (pe_op op_sub (pv 8) pe_int) pa_nil))) (pa_cons (pv 9) pa_nil)))) pa_nil))) (pv 6) (fun _ _ => rfl)) (pg_sub (pv 4) (pv 5) set_list)))))
 pss_nil)))
 pss_nil)
 (pss_cons (ps_par (i := 10) (j := 11) (by rfl) sc_law.nd rfl rfl (by decide) rfl rfl (pa_cons (pe_callB (show CallR _ (.builtin "repr") (rRepr K) from (call_reprD hg hr.units)) (by rfl) T.z_repr (by decide +kernel) (pa_cons (pv 4) pa_nil)) (pa_cons (pe_call G__law_due (hr.mono (by decide)) (by rfl) T.g__law_due T.F__law_due.kp T.b__law_due .nil pass0 (pa_cons (pv 4) pa_nil)) pa_nil)) (by rfl))
 (pss_cons (ps_setLc (i := 12) (own := [("_law_again", 15)]) (g := gName 15) (tt := tYes) (by rfl) sc_law.nd rfl rfl (sw_true rfl rfl rfl (by decide +kernel)) (pi_range1 (by rfl) T.z_range (pa_cons pe_int pa_nil)) (blkOk_by (own := [("_law_again", 15)]) (N := N_law) (sc := defScope s_law) (by decide +kernel)) (fun _ _ _ _ _ => (pg_name (i := 15) sc_law.nd rfl (.inl rfl))) (fun _ _ _ _ _ => pts_nil) (fun _ _ _ _ _ => (pe_call G__law_told hr (by rfl) T.g__law_told T.F__law_told.kp T.b__law_told .nil pass0 (pa_cons (pv 4) pa_nil))))
 (pss_one (ps_if (PW.pt (pw_or (pt_not (pt_val (pe_callG G__law_same hg (hr.mono (by decide)) (by rfl) T.g__law_same T.F__law_same.kp T.b__law_same .nil pass0 (pa_cons (pv 12) (pa_cons (pe_lst (pa_cons (pv 11) (pa_cons (pv 11) pa_nil))) pa_nil))))) (pw_or1 (pt_cmpR op_ne (pe_callB (show CallR _ (.builtin "repr") (rRepr K) from (call_reprD hg hr.units)) (by rfl) T.z_repr (by decide +kernel) (pa_cons (pv 4) pa_nil)) (pv 10) (nomark _)))))
 (pss_one (ps_ret pe_bl))
 pss_nil))))))))
 (pss_one (ps_ret pe_bl)))), ?_⟩
  refine ⟨.ref a, rfl, a, ns, rfl, hS, fun d c H1 dk e1 => ?_⟩
  refine ⟨20, rfl, by decide, by decide, ?_⟩
  refine for_range (lo := 0) (n := 20) (fun i σ' H' => ∃ (y2 y3 y4 y5 y6 y7 y8 y9 y10 y11 y12 : Option V), σ' = [some (.ref a), some (.ref d), y2, y3, y4, y5, y6, y7, y8, y9, y10, y11, y12, none, none, none] ∧ Dk H' d c (1000 * i)) ?_ ?_ ?_
  · exact ⟨none, none, none, none, none, none, none, none, none, none, none, rfl, dk⟩
  · rintro i σ' H' hi ⟨y2, y3, y4, y5, y6, y7, y8, y9, y10, y11, y12, rfl, dki⟩
    -- count
    refine ⟨by show 5 ≤ sizeLine; decide, fun p1 np1 => ?_⟩
    obtain ⟨cnt, at1, cc⟩ := pick5i (x := 1) (y := 2) (z := 3) (t := 4) (u := 9) (r := (0 + (i : Int)) % 5) (Int.emod_nonneg _ (by decide)) (Int.emod_lt_of_pos _ (by decide))
    refine ⟨_, rfl, 0 + (i : Int), 5, rfl, rfl, by show (0 : Int) < 5; decide, p1, _, _, _, rfl, rfl, lstOf upd_same, at1, ?_⟩
    have dk1 := dki.new (o := .lst [.int 1, .int 2, .int 3, .int 4, .int 9]) np1
    -- roads
    refine ⟨.int cnt, rfl, cnt, rfl, by omega, by omega, fun D nD => ?_⟩
    refine lc_rds (K := K) (n := cnt.toNat) nD dk1 (fun _ => rfl) (by omega) (fun k H2 hk k2 dk2 Q2 hQ => ?_) (fun xs rs H2 k2 hD hX rl gd dk2 => ?_)
    · refine ⟨.ref d, rfl, by show 4 ≤ sizeLine; decide, fun p2 np2 => ?_⟩
      obtain ⟨st, at2, stc⟩ := pick4i (x := 3) (y := 6) (z := 12) (t := 1) (r := (0 + (i : Int)) / 5) (by omega) (by omega)
      refine ⟨_, rfl, 0 + (i : Int), 5, rfl, rfl, wide_div (b := 4) (by decide) (by decide) (by decide) (by decide), p2, _, _, _, rfl, rfl, lstOf upd_same, at2, ?_⟩
      refine ⟨d, c, _, st, 3, rfl, dk2.new np2, by omega, by omega, by omega, by decide, by decide, fun v wk rd bs H3 hR w1 w2 r1 r2 l1 l2 hb dk3 k3 => ?_⟩
      exact hQ v (wk, rd, bs) H3 hR ⟨by show 1 ≤ wk; omega, w2, r1, by show rd ≤ 1000; omega, by show bs.length ≤ 12; omega, fun b hm => by have := hb b hm; constructor <;> omega⟩ (dk3.le (by omega)) ((Kp.new np2).trans k3)
    -- may be with the same ticks
    refine ⟨fun σ' H' => ∃ (y5 y6 y7 y8 y9 : Option V) (ra : Addr) (xs : List V) (rs : List Rd), σ' = [some (.ref a), some (.ref d), some (.int (0 + (i : Int))), some (.int cnt), some (.ref ra), y5, y6, y7, y8, y9, y10, y11, y12, none, none, none] ∧
      H' ra = some (.lst xs) ∧ Rds K H' xs rs ∧ (rs.length : Int) = cnt ∧ (∀ r ∈ rs, Gd r) ∧ Dk H' d c (1000 * i + 500), ?_, ?_⟩
    · refine ⟨.ref d, rfl, d, c, _, 4, rfl, dk2, by omega, by decide, by decide, fun r3 H3 r3a r3b dk3 k3 => ?_⟩
      have n1 := dk1.ne1 nD
      have n2 := dk1.ne2 nD
      have hD3 := k3 _ _ hD n1 n2
      have hX3 := hX.kp k3 dk2
      refine ⟨_, _, rfl, rfl, _, rfl, ?_⟩
      by_cases c3 : 0 < r3
      · rw [decide_eq_true c3]
        refine iteT ?_
        -- the same ticks
        match rs, rl, hX3, gd with
        | [], rl, _, _ => exact absurd rl (by simp; omega)
        | r0 :: rest, rl, hX3, gd =>
        rw [List.length_cons] at rl
        obtain ⟨x0, hx0, hR0⟩ := hX3.2 0 r0 rfl
        refine ⟨.ref D, rfl, D, rfl, ⟨_, lstOf hD3⟩, fun D2 nD2 => ?_⟩
        refine lc_same (K := K) (r0 := r0) (lstOf hD3) hX3 nD2 (fun _ => rfl) (by rw [hX3.1, List.length_cons]; omega) (fun k x r H4 hx hr e4 Q4 hQ => ?_) (fun ys H4 e4 hD4 hY => ?_)
        · obtain ⟨v, hv, hRv⟩ := hX3.2 k r hr
          rw [hx] at hv
          cases hv
          refine ⟨.ref D, rfl, D, _, 0, x0, rfl, rfl, lstOf (e4 _ _ hD3), atI_nat hx0, 2, rfl, road_to2 (hR0.ex e4) fun p2 np2 => ?_⟩
          have e5 := Evl.Ex.new (o := .tup [.int r0.1, .int r0.2.1]) np2
          refine ⟨x, rfl, 2, rfl, ?_⟩
          show rSlA K x (some 2) none _ (fun y H2 => rCatA K (V.ref p2) y H2 Q4)
          refine road_from2 (hRv.ex (e4.trans e5)) fun p3 b np3 hb => ?_
          have e6 := Evl.Ex.new (o := .tup [.ref b]) np3
          refine ⟨p2, p3, [.int r0.1, .int r0.2.1], [.ref b], rfl, rfl, tupNew (tupOf upd_same) np3, tupOf upd_same, by show 3 ≤ sizeLine; decide, (fun z => nomatch z), (fun _ z => nomatch z), fun _ _ p4 np4 => ?_⟩
          exact hQ _ _ (e5.trans (e6.trans (Evl.Ex.new np4))) ⟨p4, b, rfl, tupOf upd_same, tupNew (tupNew hb np3) np4⟩
        have dk4 := dk3.ex e4
        have gd2 : ∀ r ∈ ((r0 :: rest).map fun r => (r0.1, r0.2.1, r.2.2) : List Rd), Gd r := fun r hr => by
          obtain ⟨s, hs, rfl⟩ := List.mem_map.mp hr
          have h0 := gd r0 List.mem_cons_self
          have h1 := gd s hs
          exact ⟨h0.1, h0.2.1, h0.2.2.1, h0.2.2.2.1, h1.2.2.2.2⟩
        -- a road with other ticks?
        refine ⟨.ref d, rfl, d, c, _, 4, rfl, dk4, by omega, by decide, by decide, fun r5 H5 r5a r5b dk5 k5 => ?_⟩
        have m1 := dk3.ne1 nD2
        have m2 := dk3.ne2 nD2
        have hD5 := k5 _ _ hD4 m1 m2
        have hY5 := hY.kp k5 dk4
        refine ⟨rfl, _, rfl, ?_⟩
        by_cases c5 : r5 = 0
        · subst c5
          refine iteT ?_
          refine ⟨.ref d, rfl, .int cnt, rfl, d, c, _, cnt, rfl, dk5, by omega, by omega, by omega, fun ai H6 a6 b6 dk6 k6 => ?_⟩
          refine ⟨.ref d, rfl, d, c, _, 2, rfl, dk6, by omega, by decide, by decide, fun lo H7 a7 b7 dk7 k7 => ?_⟩
          have k67 := k6.trans k7
          have hD7 := k67 _ _ hD5 m1 m2
          have hY7 := hY5.kp k67 dk5
          have yl : ys.length = rest.length + 1 := by
            have := hY.1
            rw [List.length_map, List.length_cons] at this
            exact this
          obtain ⟨n, rfl⟩ : ∃ n : Nat, ai = (n : Int) := ⟨ai.toNat, by omega⟩
          have hn : n < ys.length := by omega
          have hyn : ys[n]? = some ys[n] := List.getElem?_eq_getElem hn
          obtain ⟨rn, hrn, hRn⟩ := hY7.at hyn
          have gn := gd2 rn (List.mem_of_getElem? hrn)
          obtain ⟨ya, yb, ey, hya, hyb⟩ := id hRn
          refine ⟨_, _, rfl, .ref D2, rfl, _, rfl, D2, _, (n : Int), _, rfl, rfl, lstOf hD7, atI_nat hyn, ?_⟩
          rw [ey]
          refine ⟨ya, _, rfl, hya, rfl, _, _, rfl, _, _, rfl, _, _, rfl, rfl, ?_⟩
          refine ⟨_, rfl, _, _, rfl, rfl, _, _, rfl, _, rfl, _, rfl, by show 3 ≤ sizeLine; decide, fun q1 nq1 => ?_⟩
          refine ⟨_, rfl, _, rfl, _, _, rfl, rfl, _, _, rfl, _, rfl, by show 3 ≤ sizeLine; decide, fun q2 nq2 => ?_⟩
          refine ⟨by show 2 ≤ sizeLine; decide, fun q3 nq3 => ?_⟩
          obtain ⟨nv, atv, nvc⟩ := pick2 (x := .ref q1) (y := .ref q2) a7 b7
          refine ⟨_, rfl, q3, _, lo, nv, rfl, rfl, lstOf upd_same, atv, ?_⟩
          have f3 := Evl.Ex.new (o := .lst [.ref q1, .ref q2]) nq3
          have f2 := (Evl.Ex.new (o := .tup [.int rn.1, .int (if rn.2.1 - 1 > 1 then rn.2.1 - 1 else 1), .ref yb]) nq2).trans f3
          have f1 := (Evl.Ex.new (o := .tup [.int (if rn.1 + 1 < 1000 then rn.1 + 1 else 1000), .int rn.2.1, .ref yb]) nq1).trans f2
          have hD8 := f1 _ _ hD7
          refine ⟨.ref D2, rfl, _, rfl, D2, ys, (n : Int), n, rfl, rfl, hD8, ?_, ?_⟩
          · unfold ixN
            simp [hn]
          rcases nvc with rfl | rfl
          · refine ⟨_, _, _, _, _, D2, _, (((r0 :: rest).map fun r => (r0.1, r0.2.1, r.2.2)) : List Rd).set n (((if rn.1 + 1 < 1000 then rn.1 + 1 else 1000), rn.2.1, rn.2.2) : Rd), rfl, upd_same, Rds.set ((hY7.ex f1).upd hD8) (Road.keep (r := (((if rn.1 + 1 < 1000 then rn.1 + 1 else 1000), rn.2.1, rn.2.2) : Rd).2.1) (w := (((if rn.1 + 1 < 1000 then rn.1 + 1 else 1000), rn.2.1, rn.2.2) : Rd).1) (bs := (((if rn.1 + 1 < 1000 then rn.1 + 1 else 1000), rn.2.1, rn.2.2) : Rd).2.2) ⟨q1, yb, rfl, tupOf (f2 _ _ upd_same), Evl.ex_t f1 hyb⟩ fun _ _ z => sqT_upd hD8 z), by rw [List.length_set, List.length_map, List.length_cons]; omega, fun s hs => ?_, ((dk7.ex f1).mut m1 m2).le (by omega)⟩
            rcases List.mem_or_eq_of_mem_set hs with hs | rfl
            · exact gd2 s hs
            · obtain ⟨g1, g2, g3, g4, g5⟩ := gn
              refine ⟨?_, ?_, ?_, ?_, g5⟩
              all_goals (dsimp only; try split) <;> omega
          · refine ⟨_, _, _, _, _, D2, _, (((r0 :: rest).map fun r => (r0.1, r0.2.1, r.2.2)) : List Rd).set n ((rn.1, (if rn.2.1 - 1 > 1 then rn.2.1 - 1 else 1), rn.2.2) : Rd), rfl, upd_same, Rds.set ((hY7.ex f1).upd hD8) (Road.keep (r := ((rn.1, (if rn.2.1 - 1 > 1 then rn.2.1 - 1 else 1), rn.2.2) : Rd).2.1) (w := ((rn.1, (if rn.2.1 - 1 > 1 then rn.2.1 - 1 else 1), rn.2.2) : Rd).1) (bs := ((rn.1, (if rn.2.1 - 1 > 1 then rn.2.1 - 1 else 1), rn.2.2) : Rd).2.2) ⟨q2, yb, rfl, tupOf (f3 _ _ upd_same), Evl.ex_t f1 hyb⟩ fun _ _ z => sqT_upd hD8 z), by rw [List.length_set, List.length_map, List.length_cons]; omega, fun s hs => ?_, ((dk7.ex f1).mut m1 m2).le (by omega)⟩
            rcases List.mem_or_eq_of_mem_set hs with hs | rfl
            · exact gd2 s hs
            · obtain ⟨g1, g2, g3, g4, g5⟩ := gn
              refine ⟨?_, ?_, ?_, ?_, g5⟩
              all_goals (dsimp only; try split) <;> omega
        · rw [decide_eq_false (fun z => c5 (V.int.inj z))]
          exact iteF ⟨_, _, _, _, _, D2, ys, _, rfl, hD5, hY5, by rw [List.length_map, List.length_cons]; omega, gd2, dk5.le (by omega)⟩
      · rw [decide_eq_false c3]
        exact iteF ⟨_, _, _, _, _, D, xs, rs, rfl, hD3, hX3, by omega, gd, dk3.le (by omega)⟩
    · rintro σ' H3 ⟨y5, y6, y7, y8, y9, ra, xs, rs, rfl, hRa, hX, rl, gd, dk3⟩
      match rs, rl, hX, gd with
      | [], rl, _, _ => exact absurd rl (by simp; omega)
      | r0 :: rest, rl, hX, gd =>
      rw [List.length_cons] at rl
      have nR := nice_rds gd (by rw [List.length_cons]; omega)
      have g0 := gd r0 List.mem_cons_self
      have gr : ∀ r ∈ rest, Gd r := fun r hr => gd r (List.mem_cons_of_mem _ hr)
      have few := few_of g0 gr (by omega)
      have nD := nice_due g0 gr (by omega)
      -- before, due
      refine ⟨.ref ra, rfl, .ref ra, _, rfl, .lst (lstOf hRa) hX.dp, nR.sh, nR.dep, nR.fits, ?_⟩
      refine ⟨.ref ra, rfl, ra, xs, r0, rest, rfl, lstOf hRa, hX, by omega, few, fun v H4 e4 hv => ?_⟩
      refine ⟨_, _, rfl, ?_⟩
      -- found
      refine ⟨2, rfl, by decide, by decide, fun D2 nD2 => ?_⟩
      refine lc_resR (K := K) (n := 2) (fun _ => dueD r0 rest) nD2 (fun _ => rfl) (by decide) (fun i2 H5 hi2 e5 Q2 hQ => ?_) (fun zs H5 e5 hD2 hZ => ?_)
      · exact ⟨.ref ra, rfl, ra, xs, r0, rest, rfl, lstOf ((e4.trans e5) _ _ hRa), hX.ex (e4.trans e5), by omega, few, fun y H6 e6 hy => hQ _ _ e6 hy⟩
      -- the test
      refine ⟨.ref D2, rfl, v, rfl, v, rfl, by show 2 ≤ sizeLine; decide, fun p6 np6 => ?_⟩
      have e6 := Evl.Ex.new (o := .lst [v, v]) np6
      have dv := (hv.ex (e5.trans e6)).dp
      have nS : Nice 20 100000 (.list [dueD r0 rest, dueD r0 rest]) := by
        refine Nice.mono (Nice.lst (k := 2) (n := 100) (m := 1000) (fun x hx => ?_) (by show 2 * (100 + 1) ≤ 1000; decide)) (by decide) (by decide)
        simp only [List.mem_cons, List.not_mem_nil, or_false, or_self] at hx
        cases hx
        exact nD
      refine ⟨.ref D2, .ref p6, _, rfl, .lst (lstOf (e6 _ _ hD2)) (hZ.ex e6).dp, .lst (lstOf upd_same) (.cons dv (.cons dv .nil)), nS, true, rfl, iteF ?_⟩
      have e36 := e4.trans (e5.trans e6)
      refine ⟨.ref ra, rfl, .ref ra, _, rfl, .lst (lstOf (e36 _ _ hRa)) (hX.ex e36).dp, nR.sh, nR.dep, nR.fits, _, rfl, rfl, _, rfl, ?_⟩
      rw [decide_eq_true rfl]
      refine iteF ?_
      exact ⟨_, _, _, _, _, _, _, _, _, _, _, rfl, (dk3.ex e36).le (by omega)⟩
  · rintro σ' H' ⟨y2, y3, y4, y5, y6, y7, y8, y9, y10, y11, y12, rfl, dki⟩
    exact q _
end

end Rb
namespace Rb
open PySem PySem.Spec PyProof.Rows L2
theorem all_mk {l : PySem.W.OpenLaw} {w : World} {K : PySem.W.Frag} {h : Heap} {mg : Str → Option Value} {fa : Addr} (X : K.In h) (G : h.Ns mainGlobals mg) (hfa : mg "law" = some (.ref fa))
    {f0 : Addr} {od0 an0 : Option Addr} {sl0 : Array (Option Value)} {oc0 kV0 dc0 pm0 cd0 ct0 : Value}
    (a0 : PySem.W.nsIn K mainGlobals "joined" = some (some (.ref f0)))
    (l0 : K.lookup f0 = some ⟨oc0, od0, .func (PySem.W.fnOf "joined" "joined" (defArgs s_joined) (defBody s_joined) (defScope s_joined) .none kV0 dc0 pm0 an0 cd0 ct0), sl0⟩)
    (c0 : PySem.W.codeIn K cd0 "joined" = true) (k0 : PySem.W.keepIn K (.ref f0) = true)
    {f1 : Addr} {od1 an1 : Option Addr} {sl1 : Array (Option Value)} {oc1 kV1 dc1 pm1 cd1 ct1 : Value}
    (a1 : PySem.W.nsIn K mainGlobals "_law_deck" = some (some (.ref f1)))
    (l1 : K.lookup f1 = some ⟨oc1, od1, .func (PySem.W.fnOf "_law_deck" "_law_deck" (defArgs s__law_deck) (defBody s__law_deck) (defScope s__law_deck) .none kV1 dc1 pm1 an1 cd1 ct1), sl1⟩)
    (c1 : PySem.W.codeIn K cd1 "_law_deck" = true) (k1 : PySem.W.keepIn K (.ref f1) = true)
    {f2 : Addr} {od2 an2 : Option Addr} {sl2 : Array (Option Value)} {oc2 kV2 dc2 pm2 cd2 ct2 : Value}
    (a2 : PySem.W.nsIn K mainGlobals "_law_draw" = some (some (.ref f2)))
    (l2 : K.lookup f2 = some ⟨oc2, od2, .func (PySem.W.fnOf "_law_draw" "_law_draw" (defArgs s__law_draw) (defBody s__law_draw) (defScope s__law_draw) .none kV2 dc2 pm2 an2 cd2 ct2), sl2⟩)
    (c2 : PySem.W.codeIn K cd2 "_law_draw" = true) (k2 : PySem.W.keepIn K (.ref f2) = true)
    {f3 : Addr} {od3 an3 : Option Addr} {sl3 : Array (Option Value)} {oc3 kV3 dc3 pm3 cd3 ct3 : Value}
    (a3 : PySem.W.nsIn K mainGlobals "_law_same" = some (some (.ref f3)))
    (l3 : K.lookup f3 = some ⟨oc3, od3, .func (PySem.W.fnOf "_law_same" "_law_same" (defArgs s__law_same) (defBody s__law_same) (defScope s__law_same) .none kV3 dc3 pm3 an3 cd3 ct3), sl3⟩)
    (c3 : PySem.W.codeIn K cd3 "_law_same" = true) (k3 : PySem.W.keepIn K (.ref f3) = true)
    {f4 : Addr} {od4 an4 : Option Addr} {sl4 : Array (Option Value)} {oc4 kV4 dc4 pm4 cd4 ct4 : Value}
    (a4 : PySem.W.nsIn K mainGlobals "_law_road" = some (some (.ref f4)))
    (l4 : K.lookup f4 = some ⟨oc4, od4, .func (PySem.W.fnOf "_law_road" "_law_road" (defArgs s__law_road) (defBody s__law_road) (defScope s__law_road) .none kV4 dc4 pm4 an4 cd4 ct4), sl4⟩)
    (c4 : PySem.W.codeIn K cd4 "_law_road" = true) (k4 : PySem.W.keepIn K (.ref f4) = true)
    {f5 : Addr} {od5 an5 : Option Addr} {sl5 : Array (Option Value)} {oc5 kV5 dc5 pm5 cd5 ct5 : Value}
    (a5 : PySem.W.nsIn K mainGlobals "_law_due" = some (some (.ref f5)))
    (l5 : K.lookup f5 = some ⟨oc5, od5, .func (PySem.W.fnOf "_law_due" "_law_due" (defArgs s__law_due) (defBody s__law_due) (defScope s__law_due) .none kV5 dc5 pm5 an5 cd5 ct5), sl5⟩)
    (c5 : PySem.W.codeIn K cd5 "_law_due" = true) (k5 : PySem.W.keepIn K (.ref f5) = true)
    {f6 : Addr} {od6 an6 : Option Addr} {sl6 : Array (Option Value)} {oc6 kV6 dc6 pm6 cd6 ct6 : Value}
    (a6 : PySem.W.nsIn K mainGlobals "_law_call" = some (some (.ref f6)))
    (l6 : K.lookup f6 = some ⟨oc6, od6, .func (PySem.W.fnOf "_law_call" "_law_call" (defArgs s__law_call) (defBody s__law_call) (defScope s__law_call) .none kV6 dc6 pm6 an6 cd6 ct6), sl6⟩)
    (c6 : PySem.W.codeIn K cd6 "_law_call" = true) (k6 : PySem.W.keepIn K (.ref f6) = true)
    {f7 : Addr} {od7 an7 : Option Addr} {sl7 : Array (Option Value)} {oc7 kV7 dc7 pm7 cd7 ct7 : Value}
    (a7 : PySem.W.nsIn K mainGlobals "_law_told" = some (some (.ref f7)))
    (l7 : K.lookup f7 = some ⟨oc7, od7, .func (PySem.W.fnOf "_law_told" "_law_told" (defArgs s__law_told) (defBody s__law_told) (defScope s__law_told) .none kV7 dc7 pm7 an7 cd7 ct7), sl7⟩)
    (c7 : PySem.W.codeIn K cd7 "_law_told" = true) (k7 : PySem.W.keepIn K (.ref f7) = true)
    {f8 : Addr} {od8 an8 : Option Addr} {sl8 : Array (Option Value)} {oc8 kV8 dc8 pm8 cd8 ct8 : Value}
    (a8 : PySem.W.nsIn K mainGlobals "law" = some (some (.ref f8)))
    (l8 : K.lookup f8 = some ⟨oc8, od8, .func (PySem.W.fnOf "law" "law" (defArgs s_law) (defBody s_law) (defScope s_law) .none kV8 dc8 pm8 an8 cd8 ct8), sl8⟩)
    (c8 : PySem.W.codeIn K cd8 "law" = true) (k8 : PySem.W.keepIn K (.ref f8) = true)
    {C_TooLong : Addr} (aC_TooLong : PySem.W.nsIn K mainGlobals "TooLong" = some (some (.ref C_TooLong))) (iC_TooLong : PySem.W.isClsIn K C_TooLong = true) (tC_TooLong : PySem.W.typeIn K (.ref C_TooLong) = some (.type "type")) (eC_TooLong : PySem.W.subIn K (.ref C_TooLong) (.type "BaseException") = some true)
    {C_OtherTicks : Addr} (aC_OtherTicks : PySem.W.nsIn K mainGlobals "OtherTicks" = some (some (.ref C_OtherTicks))) (iC_OtherTicks : PySem.W.isClsIn K C_OtherTicks = true) (tC_OtherTicks : PySem.W.typeIn K (.ref C_OtherTicks) = some (.type "type")) (eC_OtherTicks : PySem.W.subIn K (.ref C_OtherTicks) (.type "BaseException") = some true)
    {C_TripError : Addr} (aC_TripError : PySem.W.nsIn K mainGlobals "TripError" = some (some (.ref C_TripError))) (iC_TripError : PySem.W.isClsIn K C_TripError = true) (tC_TripError : PySem.W.typeIn K (.ref C_TripError) = some (.type "type")) (eC_TripError : PySem.W.subIn K (.ref C_TripError) (.type "BaseException") = some true)
    {C_BadRoad : Addr} (aC_BadRoad : PySem.W.nsIn K mainGlobals "BadRoad" = some (some (.ref C_BadRoad))) (iC_BadRoad : PySem.W.isClsIn K C_BadRoad = true) (tC_BadRoad : PySem.W.typeIn K (.ref C_BadRoad) = some (.type "type")) (eC_BadRoad : PySem.W.subIn K (.ref C_BadRoad) (.type "BaseException") = some true)
    {C_TooLarge : Addr} (aC_TooLarge : PySem.W.nsIn K mainGlobals "TooLarge" = some (some (.ref C_TooLarge))) (iC_TooLarge : PySem.W.isClsIn K C_TooLarge = true) (tC_TooLarge : PySem.W.typeIn K (.ref C_TooLarge) = some (.type "type")) (eC_TooLarge : PySem.W.subIn K (.ref C_TooLarge) (.type "BaseException") = some true)
    (cgE : PySem.W.specialIn K (.builtin "object.__class__") "__get__" = some (some (.builtin "getset_descriptor.__get__"))) (ctE : PySem.W.takesIn K (.builtin "object.__class__") = some true)
    {nm_TooLong q_TooLong : Str} {N_TooLong : Addr} {bs_TooLong : List Value} {sn_TooLong : List Str} {sub_TooLong : List Value} {ab_TooLong : Bool} {col_TooLong : Option Bool} {dd_TooLong : Option Addr} {m0_TooLong m1_TooLong m2_TooLong m3_TooLong m5_TooLong : Option Value} {B0_TooLong : Addr}
    (xL_TooLong : K.lookup C_TooLong = some (excClassObj nm_TooLong q_TooLong C_TooLong N_TooLong bs_TooLong [.ref B0_TooLong, .type "ValueError", .type "Exception", .type "BaseException", .type "object"] true sn_TooLong sub_TooLong ab_TooLong col_TooLong dd_TooLong m0_TooLong m1_TooLong m2_TooLong m3_TooLong m5_TooLong "ValueError.__new__"))
    (sa_TooLong : PySem.W.findIn K (.ref C_TooLong) "__setattr__" = some (some (.builtin "object.__setattr__")))
    (ga_TooLong : PySem.W.findIn K (.ref C_TooLong) "__getattribute__" = some (some (.builtin "BaseException.__getattribute__")))
    (gg_TooLong : PySem.W.findIn K (.ref C_TooLong) "__getattr__" = some none)
    (nb_TooLong : PySem.W.findIn K (.ref C_TooLong) "bound" = some none)
    (cl_TooLong : PySem.W.findIn K (.ref C_TooLong) "__class__" = some (some (.builtin "object.__class__")))
    (co_TooLong : PySem.W.mroIn K C_TooLong (.type "object") = some true)
    (kC_TooLong : PySem.W.keepIn K (.ref C_TooLong) = true)
    (hd_TooLong : PySem.W.hasDictIn K C_TooLong = true)
    (ss_TooLong : PySem.W.subIn K (.ref C_TooLong) (.ref C_TooLong) = some true)
    (s_OtherTicks_TooLong : PySem.W.subIn K (.ref C_TooLong) (.ref C_OtherTicks) = some false)
    (s_TripError_TooLong : PySem.W.subIn K (.ref C_TooLong) (.ref C_TripError) = some true)
    (s_BadRoad_TooLong : PySem.W.subIn K (.ref C_TooLong) (.ref C_BadRoad) = some false)
    (s_TooLarge_TooLong : PySem.W.subIn K (.ref C_TooLong) (.ref C_TooLarge) = some false)
    {f_TooLong : Addr} {od_TooLong an_TooLong : Option Addr} {sl_TooLong : Array (Option Value)} {oc_TooLong kV_TooLong dc_TooLong pm_TooLong cd_TooLong ct_TooLong : Value}
    (ini_TooLong : PySem.W.findIn K (.ref C_TooLong) "__init__" = some (some (.ref f_TooLong)))
    (tI_TooLong : PySem.W.typeIn K (.ref f_TooLong) = some (.type "function"))
    (lI_TooLong : K.lookup f_TooLong = some ⟨oc_TooLong, od_TooLong, .func (PySem.W.fnOf "__init__" "TooLong.__init__" (defArgs s_TooLong) (defBody s_TooLong) (defScope s_TooLong) .none kV_TooLong dc_TooLong pm_TooLong an_TooLong cd_TooLong ct_TooLong), sl_TooLong⟩)
    (cI_TooLong : PySem.W.codeIn K cd_TooLong "TooLong.__init__" = true)
    (kI_TooLong : PySem.W.keepIn K (.ref f_TooLong) = true)
    {nm_OtherTicks q_OtherTicks : Str} {N_OtherTicks : Addr} {bs_OtherTicks : List Value} {sn_OtherTicks : List Str} {sub_OtherTicks : List Value} {ab_OtherTicks : Bool} {col_OtherTicks : Option Bool} {dd_OtherTicks : Option Addr} {m0_OtherTicks m1_OtherTicks m2_OtherTicks m3_OtherTicks m5_OtherTicks : Option Value} {B0_OtherTicks : Addr}
    (xL_OtherTicks : K.lookup C_OtherTicks = some (excClassObj nm_OtherTicks q_OtherTicks C_OtherTicks N_OtherTicks bs_OtherTicks [.ref B0_OtherTicks, .type "ValueError", .type "Exception", .type "BaseException", .type "object"] true sn_OtherTicks sub_OtherTicks ab_OtherTicks col_OtherTicks dd_OtherTicks m0_OtherTicks m1_OtherTicks m2_OtherTicks m3_OtherTicks m5_OtherTicks "ValueError.__new__"))
    (sa_OtherTicks : PySem.W.findIn K (.ref C_OtherTicks) "__setattr__" = some (some (.builtin "object.__setattr__")))
    (ga_OtherTicks : PySem.W.findIn K (.ref C_OtherTicks) "__getattribute__" = some (some (.builtin "BaseException.__getattribute__")))
    (gg_OtherTicks : PySem.W.findIn K (.ref C_OtherTicks) "__getattr__" = some none)
    (nb_OtherTicks : PySem.W.findIn K (.ref C_OtherTicks) "index" = some none)
    (cl_OtherTicks : PySem.W.findIn K (.ref C_OtherTicks) "__class__" = some (some (.builtin "object.__class__")))
    (co_OtherTicks : PySem.W.mroIn K C_OtherTicks (.type "object") = some true)
    (kC_OtherTicks : PySem.W.keepIn K (.ref C_OtherTicks) = true)
    (hd_OtherTicks : PySem.W.hasDictIn K C_OtherTicks = true)
    (ss_OtherTicks : PySem.W.subIn K (.ref C_OtherTicks) (.ref C_OtherTicks) = some true)
    (s_TooLong_OtherTicks : PySem.W.subIn K (.ref C_OtherTicks) (.ref C_TooLong) = some false)
    (s_TripError_OtherTicks : PySem.W.subIn K (.ref C_OtherTicks) (.ref C_TripError) = some true)
    (s_BadRoad_OtherTicks : PySem.W.subIn K (.ref C_OtherTicks) (.ref C_BadRoad) = some false)
    (s_TooLarge_OtherTicks : PySem.W.subIn K (.ref C_OtherTicks) (.ref C_TooLarge) = some false)
    {f_OtherTicks : Addr} {od_OtherTicks an_OtherTicks : Option Addr} {sl_OtherTicks : Array (Option Value)} {oc_OtherTicks kV_OtherTicks dc_OtherTicks pm_OtherTicks cd_OtherTicks ct_OtherTicks : Value}
    (ini_OtherTicks : PySem.W.findIn K (.ref C_OtherTicks) "__init__" = some (some (.ref f_OtherTicks)))
    (tI_OtherTicks : PySem.W.typeIn K (.ref f_OtherTicks) = some (.type "function"))
    (lI_OtherTicks : K.lookup f_OtherTicks = some ⟨oc_OtherTicks, od_OtherTicks, .func (PySem.W.fnOf "__init__" "OtherTicks.__init__" (defArgs s_OtherTicks) (defBody s_OtherTicks) (defScope s_OtherTicks) .none kV_OtherTicks dc_OtherTicks pm_OtherTicks an_OtherTicks cd_OtherTicks ct_OtherTicks), sl_OtherTicks⟩)
    (cI_OtherTicks : PySem.W.codeIn K cd_OtherTicks "OtherTicks.__init__" = true)
    (kI_OtherTicks : PySem.W.keepIn K (.ref f_OtherTicks) = true)
    {t0 : Tok} (v0 : PySem.W.nsIn K mainGlobals "MAX_STAGES" = some (some (.int 12 t0)))
    (z0 : PySem.W.nsIn K mainGlobals "abs" = some none)
    (z1 : PySem.W.nsIn K mainGlobals "enumerate" = some none)
    (z2 : PySem.W.nsIn K mainGlobals "int" = some none)
    (z3 : PySem.W.nsIn K mainGlobals "isinstance" = some none)
    (z4 : PySem.W.nsIn K mainGlobals "len" = some none)
    (z5 : PySem.W.nsIn K mainGlobals "max" = some none)
    (z6 : PySem.W.nsIn K mainGlobals "min" = some none)
    (z7 : PySem.W.nsIn K mainGlobals "range" = some none)
    (z8 : PySem.W.nsIn K mainGlobals "repr" = some none)
    : ∃ fd : FuncData, (∀ (s : Shared) (v : Value), BindsTo s fd ⟨[v], []⟩ [("_law_script", v)]) ∧ ∀ base : Heap, K.In base → base.Ns mainGlobals mg → FnG l.prog w K mg base CX0 6 fa fd ["_law_script"] (spLaw K) := by
  cases hfa.symm.trans (PySem.W.mg_of X G a8)
  have F0 := fun_mk (st := s_joined) l0 c0 k0
  have b0 := StX.bind_star1 (B := fun us => bindArgs _ ⟨us, []⟩) (p1 := "road") (pv := "others") (fun a => (rfl : bindArgs (PySem.W.fnOf "joined" "joined" (defArgs s_joined) (defBody s_joined) (defScope s_joined) .none kV0 dc0 pm0 an0 cd0 ct0) ⟨[a], []⟩ = _)) (fun _ _ _ => rfl)
  have F1 := fun_mk (st := s__law_deck) l1 c1 k1
  have b1 := F1.binds (ps := ["_law_script"]) fun _ _ _ _ _ _ us hl => match us, hl with | [_], _ => rfl
  have F2 := fun_mk (st := s__law_draw) l2 c2 k2
  have b2 := F2.binds (ps := ["_law_deck_here", "_law_limit"]) fun _ _ _ _ _ _ us hl => match us, hl with | [_, _], _ => rfl
  have F3 := fun_mk (st := s__law_same) l3 c3 k3
  have b3 := F3.binds (ps := ["_law_value", "_law_due_here"]) fun _ _ _ _ _ _ us hl => match us, hl with | [_, _], _ => rfl
  have F4 := fun_mk (st := s__law_road) l4 c4 k4
  have b4 := F4.binds (ps := ["_law_deck_here", "_law_stages", "_law_most"]) fun _ _ _ _ _ _ us hl => match us, hl with | [_, _, _], _ => rfl
  have F5 := fun_mk (st := s__law_due) l5 c5 k5
  have b5 := F5.binds (ps := ["_law_roads"]) fun _ _ _ _ _ _ us hl => match us, hl with | [_], _ => rfl
  have F6 := fun_mk (st := s__law_call) l6 c6 k6
  have b6 := F6.binds (ps := ["_law_roads"]) fun _ _ _ _ _ _ us hl => match us, hl with | [_], _ => rfl
  have F7 := fun_mk (st := s__law_told) l7 c7 k7
  have b7 := F7.binds (ps := ["_law_roads"]) fun _ _ _ _ _ _ us hl => match us, hl with | [_], _ => rfl
  have F8 := fun_mk (st := s_law) l8 c8 k8
  have b8 := F8.binds (ps := ["_law_script"]) fun _ _ _ _ _ _ us hl => match us, hl with | [_], _ => rfl
  have E_TooLong : OwnE K C_TooLong := ⟨⟨⟨_, _, _, _, _, _, _, _, _, _, _, _, _, _, _, xL_TooLong, rfl⟩, sa_TooLong, eC_TooLong, tC_TooLong, kC_TooLong⟩, ⟨ga_TooLong, gg_TooLong, eC_TooLong, hd_TooLong⟩, iC_TooLong, cl_TooLong, cgE, ctE, co_TooLong⟩
  have FI_TooLong := fun_mk (st := s_TooLong) lI_TooLong cI_TooLong kI_TooLong
  have bI_TooLong := FI_TooLong.binds (ps := ["self", "bound"]) fun _ _ _ _ _ _ us hl => match us, hl with | [_, _], _ => rfl
  have E_OtherTicks : OwnE K C_OtherTicks := ⟨⟨⟨_, _, _, _, _, _, _, _, _, _, _, _, _, _, _, xL_OtherTicks, rfl⟩, sa_OtherTicks, eC_OtherTicks, tC_OtherTicks, kC_OtherTicks⟩, ⟨ga_OtherTicks, gg_OtherTicks, eC_OtherTicks, hd_OtherTicks⟩, iC_OtherTicks, cl_OtherTicks, cgE, ctE, co_OtherTicks⟩
  have FI_OtherTicks := fun_mk (st := s_OtherTicks) lI_OtherTicks cI_OtherTicks kI_OtherTicks
  have bI_OtherTicks := FI_OtherTicks.binds (ps := ["self", "index"]) fun _ _ _ _ _ _ us hl => match us, hl with | [_, _], _ => rfl
  exact ⟨_, fun s v => .of_eq rfl, fun base _ _ => ok_law (⟨_, _, F0, PySem.W.mg_of X G a0, b0, _, _, F1, PySem.W.mg_of X G a1, b1, _, _, F2, PySem.W.mg_of X G a2, b2, _, _, F3, PySem.W.mg_of X G a3, b3, _, _, F4, PySem.W.mg_of X G a4, b4, _, _, F5, PySem.W.mg_of X G a5, b5, _, _, F6, PySem.W.mg_of X G a6, b6, _, _, F7, PySem.W.mg_of X G a7, b7, _, _, F8, PySem.W.mg_of X G a8, b8, _, PySem.W.mg_of X G aC_TooLong, _, PySem.W.mg_of X G aC_OtherTicks, _, PySem.W.mg_of X G aC_TripError, _, PySem.W.mg_of X G aC_BadRoad, _, PySem.W.mg_of X G aC_TooLarge, E_TooLong, nb_TooLong, _, _, ini_TooLong, tI_TooLong, FI_TooLong, bI_TooLong, kit_sub iC_TooLong tC_TooLong ss_TooLong ss_TooLong, exm_of eC_TooLong iC_TooLong tC_TooLong ss_TooLong, kit_sub iC_OtherTicks tC_OtherTicks s_OtherTicks_TooLong ss_TooLong, exm_of eC_OtherTicks iC_OtherTicks tC_OtherTicks s_OtherTicks_TooLong, kit_sub iC_TripError tC_TripError s_TripError_TooLong ss_TooLong, exm_of eC_TripError iC_TripError tC_TripError s_TripError_TooLong, kit_sub iC_BadRoad tC_BadRoad s_BadRoad_TooLong ss_TooLong, exm_of eC_BadRoad iC_BadRoad tC_BadRoad s_BadRoad_TooLong, kit_sub iC_TooLarge tC_TooLarge s_TooLarge_TooLong ss_TooLong, exm_of eC_TooLarge iC_TooLarge tC_TooLarge s_TooLarge_TooLong, E_OtherTicks, nb_OtherTicks, _, _, ini_OtherTicks, tI_OtherTicks, FI_OtherTicks, bI_OtherTicks, kit_sub iC_TooLong tC_TooLong s_TooLong_OtherTicks ss_OtherTicks, exm_of eC_TooLong iC_TooLong tC_TooLong s_TooLong_OtherTicks, kit_sub iC_OtherTicks tC_OtherTicks ss_OtherTicks ss_OtherTicks, exm_of eC_OtherTicks iC_OtherTicks tC_OtherTicks ss_OtherTicks, kit_sub iC_TripError tC_TripError s_TripError_OtherTicks ss_OtherTicks, exm_of eC_TripError iC_TripError tC_TripError s_TripError_OtherTicks, kit_sub iC_BadRoad tC_BadRoad s_BadRoad_OtherTicks ss_OtherTicks, exm_of eC_BadRoad iC_BadRoad tC_BadRoad s_BadRoad_OtherTicks, kit_sub iC_TooLarge tC_TooLarge s_TooLarge_OtherTicks ss_OtherTicks, exm_of eC_TooLarge iC_TooLarge tC_TooLarge s_TooLarge_OtherTicks, _, PySem.W.mg_of X G v0, PySem.W.mg_none_of X G z0, PySem.W.mg_none_of X G z1, PySem.W.mg_none_of X G z2, PySem.W.mg_none_of X G z3, PySem.W.mg_none_of X G z4, PySem.W.mg_none_of X G z5, PySem.W.mg_none_of X G z6, PySem.W.mg_none_of X G z7, PySem.W.mg_none_of X G z8⟩ : Tx K mg)⟩
end Rb
open PySem PySem.W PyProof.Rows
set_option maxHeartbeats 0 in
theorem PySem.Challenge.cw_roadbikes_k03_roads_joined_holds : PySem.Challenge.rw_roadbikes_k03_roads_joined.Holds := by
  w_on; o_law; k_head; (case hw => w_witness2)
  k_fill
  refine Rb.endG (l := PySem.Challenge.rw_roadbikes_k03_roads_joined) (n := 63) (lv := 6) (x := "_law_script") (sp := fun w => Rb.spLaw _) rfl (by decide) rfl ⟨rfl, by decide, by decide⟩ (fun w h Y => PySem.W.kIn_of Y) ?F (fun _ _ a ns hl hS => ⟨a, ns, rfl, hS, fun _ => rfl⟩)
  case F =>
    intro w mg fa h KX G hmg
    refine' Rb.all_mk KX G hmg ?a0 ?l0 ?c0 ?k0 ?a1 ?l1 ?c1 ?k1 ?a2 ?l2 ?c2 ?k2 ?a3 ?l3 ?c3 ?k3 ?a4 ?l4 ?c4 ?k4 ?a5 ?l5 ?c5 ?k5 ?a6 ?l6 ?c6 ?k6 ?a7 ?l7 ?c7 ?k7 ?a8 ?l8 ?c8 ?k8 ?aC_TooLong ?iC_TooLong ?tC_TooLong ?eC_TooLong ?aC_OtherTicks ?iC_OtherTicks ?tC_OtherTicks ?eC_OtherTicks ?aC_TripError ?iC_TripError ?tC_TripError ?eC_TripError ?aC_BadRoad ?iC_BadRoad ?tC_BadRoad ?eC_BadRoad ?aC_TooLarge ?iC_TooLarge ?tC_TooLarge ?eC_TooLarge ?cgE ?ctE ?xL_TooLong ?sa_TooLong ?ga_TooLong ?gg_TooLong ?nb_TooLong ?cl_TooLong ?co_TooLong ?kC_TooLong ?hd_TooLong ?ss_TooLong ?s_OtherTicks_TooLong ?s_TripError_TooLong ?s_BadRoad_TooLong ?s_TooLarge_TooLong ?ini_TooLong ?tI_TooLong ?lI_TooLong ?cI_TooLong ?kI_TooLong ?xL_OtherTicks ?sa_OtherTicks ?ga_OtherTicks ?gg_OtherTicks ?nb_OtherTicks ?cl_OtherTicks ?co_OtherTicks ?kC_OtherTicks ?hd_OtherTicks ?ss_OtherTicks ?s_TooLong_OtherTicks ?s_TripError_OtherTicks ?s_BadRoad_OtherTicks ?s_TooLarge_OtherTicks ?ini_OtherTicks ?tI_OtherTicks ?lI_OtherTicks ?cI_OtherTicks ?kI_OtherTicks ?v0 ?z0 ?z1 ?z2 ?z3 ?z4 ?z5 ?z6 ?z7 ?z8
    (case a0 => k_is); (case l0 => k_is); (case c0 => k_is); (case k0 => k_is); (case a1 => k_is); (case l1 => k_is); (case c1 => k_is); (case k1 => k_is); (case a2 => k_is); (case l2 => k_is); (case c2 => k_is); (case k2 => k_is); (case a3 => k_is); (case l3 => k_is); (case c3 => k_is); (case k3 => k_is); (case a4 => k_is); (case l4 => k_is); (case c4 => k_is); (case k4 => k_is); (case a5 => k_is); (case l5 => k_is); (case c5 => k_is); (case k5 => k_is); (case a6 => k_is); (case l6 => k_is); (case c6 => k_is); (case k6 => k_is); (case a7 => k_is); (case l7 => k_is); (case c7 => k_is); (case k7 => k_is); (case a8 => k_is); (case l8 => k_is); (case c8 => k_is); (case k8 => k_is); (case aC_TooLong => k_is); (case iC_TooLong => k_is); (case tC_TooLong => k_is); (case eC_TooLong => k_is); (case aC_OtherTicks => k_is); (case iC_OtherTicks => k_is); (case tC_OtherTicks => k_is); (case eC_OtherTicks => k_is); (case aC_TripError => k_is); (case iC_TripError => k_is); (case tC_TripError => k_is); (case eC_TripError => k_is); (case aC_BadRoad => k_is); (case iC_BadRoad => k_is); (case tC_BadRoad => k_is); (case eC_BadRoad => k_is); (case aC_TooLarge => k_is); (case iC_TooLarge => k_is); (case tC_TooLarge => k_is); (case eC_TooLarge => k_is); (case cgE => k_is); (case ctE => k_is); (case xL_TooLong => k_is); (case sa_TooLong => k_is); (case ga_TooLong => k_is); (case gg_TooLong => k_is); (case nb_TooLong => k_is); (case cl_TooLong => k_is); (case co_TooLong => k_is); (case kC_TooLong => k_is); (case hd_TooLong => k_is); (case ss_TooLong => k_is); (case s_OtherTicks_TooLong => k_is); (case s_TripError_TooLong => k_is); (case s_BadRoad_TooLong => k_is); (case s_TooLarge_TooLong => k_is); (case ini_TooLong => k_is); (case tI_TooLong => k_is); (case lI_TooLong => k_is); (case cI_TooLong => k_is); (case kI_TooLong => k_is); (case xL_OtherTicks => k_is); (case sa_OtherTicks => k_is); (case ga_OtherTicks => k_is); (case gg_OtherTicks => k_is); (case nb_OtherTicks => k_is); (case cl_OtherTicks => k_is); (case co_OtherTicks => k_is); (case kC_OtherTicks => k_is); (case hd_OtherTicks => k_is); (case ss_OtherTicks => k_is); (case s_TooLong_OtherTicks => k_is); (case s_TripError_OtherTicks => k_is); (case s_BadRoad_OtherTicks => k_is); (case s_TooLarge_OtherTicks => k_is); (case ini_OtherTicks => k_is); (case tI_OtherTicks => k_is); (case lI_OtherTicks => k_is); (case cI_OtherTicks => k_is); (case kI_OtherTicks => k_is); (case v0 => k_is); (case z0 => k_is); (case z1 => k_is); (case z2 => k_is); (case z3 => k_is); (case z4 => k_is); (case z5 => k_is); (case z6 => k_is); (case z7 => k_is); (case z8 => k_is)
