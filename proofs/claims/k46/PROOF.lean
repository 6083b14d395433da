import PyProof.Rows.All
import Wide.All
import OpenK.AllK
import Wide.FinOn
import HandS.ForMost
import HandS.Wide
import HandS.TupAny
import HandS.TupMul
import HandS.Style
import HandS.Conv
import HandS.Zip
import PyProof.ReprRoads
import PyProof.SumWalkG
import PyProof.WalksMore
import KE.DataMinMax
import HandS.Evl
import PyProof.ReprBulk
import PyProof.FitsInt
import KE.GoesMore
import PyProof.Draws
import HandS.SortRule
import HandS.Walk
import KE.DatumOrd
import KE.DataFind
import HandS.SetFor
import PyProof.Rows.RowBridgeK
import KE.KExcIs
import HandS.Star
import HandS.ExcInit
import HandS.ExcField
import HandS.ExcOwn
import HandS.WordsExc
import HandS.NoneIn
import HandS.IsInst
import HandS.SortInts
import HandS.Strs
import HandS.TupLe
import HandS.Property
import PyProof.Rows.ReprOcc
import PySem.Challenge.RW_roadbikes_k46_promises
set_option Elab.async false
set_option linter.all false
set_option maxRecDepth 100000
set_option maxHeartbeats 4000000
namespace Rb
open PySem PySem.Spec PyProof.Rows L2

/-! repr of data -/
def rRepr (K : PySem.W.Frag) : List V → Hp → VK → Prop := fun vs H Q =>
  ∃ v d, vs = [v] ∧ Dp K H v d ∧ d.showable = true ∧ d.depth ≤ 20 ∧ d.shown.length ≤ sizeLine ∧ Q (.str d.shown) H
theorem Dp.noDict {K : PySem.W.Frag} {H : Hp} : ∀ (d : PyData) (v : V), Dp K H v d → d.hasDict = false
  | .none, _, _ => by simp only [PyData.hasDict]
  | .bool _, _, _ => by simp only [PyData.hasDict]
  | .int _, _, _ => by simp only [PyData.hasDict]
  | .str _, _, _ => by simp only [PyData.hasDict]
  | .list ds, _, h => by
    cases h with
    | lst _ ha => simp only [PyData.hasDict]; exact all ds _ ha
  | .tuple ds, _, h => by
    cases h with
    | tup _ ha => simp only [PyData.hasDict]; exact all ds _ ha
  | .dict _, _, h => by cases h
where all {K : PySem.W.Frag} {H : Hp} : ∀ (ds : List PyData) (vs : List V), DpAll K H vs ds → PyData.hasDictAll ds = false
  | [], _, _ => by simp only [PyData.hasDictAll]
  | d :: ds, _, h => by
    cases h with
    | cons h1 h2 => simp only [PyData.hasDictAll, Dp.noDict d _ h1, all ds _ h2, Bool.or_false]
theorem call_reprD {X : Cx} (hg : X.A.guards = some []) (hu : X.A.units + 64 < cLine) : CallR X (.builtin "repr") (rRepr X.K) := by
  intro pins s σ H vs us Q I r h
  obtain ⟨v, d, rfl, hd, hs, hdep, hsz, q⟩ := h
  obtain ⟨u, rfl, ru⟩ := vals1 r
  obtain ⟨as, rd⟩ := Dp.reads I d v u hd ru
  cases v with
  | ref a =>
    cases ru
    refine repr_of_reads' rd hs (fun e => by rw [Dp.noDict d _ hd] at e; cases e) hg (by omega) (fun _ _ e => e) (fun h' t tk hk => ?_) hsz
    exact ⟨.str _, H, I.kept hk, ⟨_, rfl⟩, q⟩
  | int i =>
    obtain ⟨t, rfl⟩ := ru
    cases hd
    simp only [PyData.showable, decide_eq_true_eq] at hs
    simp only [PyData.shown] at q
    exact PySem.P.repr_of_int hs ⟨.str _, H, I.tok _, ⟨_, rfl⟩, q⟩
  | str x =>
    obtain ⟨t, rfl⟩ := ru
    cases hd
    simp only [PyData.shown] at q hsz
    exact PySem.P.repr_of_str ⟨.str _, H, I.tok _, ⟨_, rfl⟩, q⟩ hsz
  | bl b =>
    cases ru
    cases hd
    simp only [PyData.shown] at q
    exact PySem.P.repr_of_bool ⟨.str _, H, I.tok _, ⟨_, rfl⟩, q⟩
  | non =>
    cases ru
    cases hd
    simp only [PyData.shown] at q
    exact PySem.P.repr_of_none ⟨.str _, H, I.tok _, ⟨_, rfl⟩, q⟩
  | byt b => cases hd
  | flt b => cases hd
  | ty n => cases hd

/-! sum of a tuple of ints -/
def rSumT (K : PySem.W.Frag) : List V → Hp → VK → Prop := fun vs H Q => ∃ (a : Addr) (ns : List Int), vs = [V.ref a] ∧ SqT K H a (ns.map V.int) ∧ Q (.int ns.sum) H
theorem isTup_isTuple {h : Heap} {a : Addr} {items : Array Value} (x : IsTup h a items) : h.IsTuple a items := by
  obtain ⟨o, e, c, n, d⟩ := x
  exact ⟨o, e, c, n, d⟩
theorem cr_sumT {X : Cx} (hc : X.calm = true) : CallR X (.builtin "sum") (rSumT X.K) := by
  intro pins s σ H vs us Q I r h
  obtain ⟨a, ns, rfl, hs, q⟩ := h
  obtain ⟨its, rv, hl, _⟩ := I.tuple hs
  rw [Vals.ref1 r]
  have hi := rv.ints
  obtain ⟨xs, e⟩ := hi.allInts.items
  have hn : numsOf (intItems xs).toList = ns := by rw [← e]; exact hi.numsOf
  rw [nums_intItems] at hn
  rw [e] at hl
  have hl2 := isTup_isTuple hl
  have hh := I.ok.hd hc
  have hlt : a < s.heap.objs.size := by obtain ⟨_, e, _⟩ := hl2; exact Heap.lt_size e
  refine call_sum_walkG (wpAny_pyIter_tuple hl2 ?_)
  refine ⟨s.heap.objs.size, _, _, _, _, _, numAt xs, rfl, Walks.tuple (A := X.A.in1) hh _ a (Nat.ne_of_lt hlt) (intItems xs), ⟨⟨_, Heap.get?_push_size _ rfl, rfl, rfl⟩, hl2.push _⟩, ?_, fun _ _ => intItems_at, fun h' tk t' hk => ?_⟩
  · intro b hb
    show b < (s.heap.push _).objs.size
    rw [Heap.size_push]
    rcases List.mem_cons.mp hb with rfl | hb
    · exact Nat.lt_succ_self _
    · rcases List.mem_cons.mp hb with rfl | hb
      · exact Nat.lt_succ_of_lt hlt
      · cases hb
  · have hk2 : ∀ b o, s.heap.get? b = some o → h'.get? b = some o := fun b o eb => hk b o (fun hm => by
      simp only [List.mem_cons, List.not_mem_nil, or_false] at hm
      exact absurd (hm ▸ Heap.lt_size eb) (Nat.lt_irrefl _)) (Heap.get?_push_of_some _ eb)
    have z : preSum (numAt xs) (intItems xs).size = ns.sum := by
      rw [preSum_eq, List.take_of_length_le (by simp [intItems]), hn]
    rw [z]
    exact ⟨.int _, H, I.kept hk2, ⟨_, rfl⟩, q⟩
/-- tuple(x), x a list or a tuple -/
def rTupS (K : PySem.W.Frag) : List V → Hp → VK → Prop := fun xs H Q => ∃ p ys, xs = [.ref p] ∧ ((SqL K H p ys ∧ ∀ l, H l = none → Q (.ref l) (upd H l (.tup ys))) ∨ (SqT K H p ys ∧ Q (.ref p) H))
end Rb
namespace Rb
open PySem PySem.Spec PyProof.Rows L2
/-! defs that are run where no repr is under way -/
structure FnG (pr : Program) (wo : World) (K : PySem.W.Frag) (mg : Str → Option Value) (b0 : Heap) (cx : CXT) (lv : Nat) (fn : Addr) (dat : FuncData) (pars : List Str) (sp : Sp) : Prop where
  many : ∀ xs H Q E, sp xs H Q E → xs.length = pars.length
  goes : ∀ (A : Around) (out : List Env) (s : Shared) (H : Hp) (ar : Args) (us : List Value) (xs : List V) (Q : VK) (E : XK),
    Room lv A → A.guards = some [] → Env0 pr wo K mg b0 A out s H → BindsTo s dat ar (pars.zip us) → Vals xs us → sp xs H Q E →
    codeAny (model pr wo) A (.call (.ref fn) ar) (CR cx out pr wo H s Q E) s
section
variable {pr : Program} {wo : World} {K : PySem.W.Frag} {mg : Str → Option Value} {b0 : Heap} {cx : CXT} {lv : Nat} {fn : Addr} {dat : FuncData} {pars : List Str} {sp : Sp}
theorem FnG.of (F : FnOk pr wo K mg b0 cx lv fn dat pars sp) : FnG pr wo K mg b0 cx lv fn dat pars sp :=
  ⟨F.len, fun A out s H ar us xs Q E h1 _ h2 h3 h4 h5 => F.run A out s H ar us xs Q E h1 h2 h3 h4 h5⟩
end
section
variable {X : Cx} {cx : CXT} {lv : Nat} {fn : Addr} {dat : FuncData} {pars : List Str} {sp : Sp} {dv : List V} {dw : List Value} {E : XK} {nm : Str} {p1 p2 : Pos} {a0 : Expr} {as : List Expr} {ta : TA}
theorem runG {pins : List (Addr × Obj)} {σ : L2.St} {H : Hp} {s : Shared} {Q : VK} {us : List Value} {xs : List V} (F : FnG X.prog X.w X.K X.mg X.base cx lv fn dat pars sp) (gd : X.A.guards = some []) (rm : Room lv X.A)
    (bi : Binds X.K dat pars dw) (vd : Vals dv dw) (ps : Passes cx X E) (I : Inv X pins σ H s) (vx : Vals xs us) (pro : sp (xs ++ dv) H Q E) :
    wpAny (model X.prog X.w) X.A (call (.ref fn) us) (EP X pins σ Q) X.xe s := by
  have v2 : Vals (xs ++ dv) (us ++ dw) := vx.append vd
  have l2 : (us ++ dw).length = pars.length := v2.length ▸ F.many _ _ _ _ pro
  have go := F.goes X.A X.stack s H ⟨us, []⟩ (us ++ dw) (xs ++ dv) Q E rm gd I.env0 (bi s us I.kIn l2) v2 pro
  refine wpAny_call (codeAny_mono go ?_)
  intro res s2 fin
  match res, fin with
  | .error e, fin => exact ps pins σ H s e s2 I fin
  | .ok (.ret u), fin => exact I.after fin
  | .ok .next, fin => exact (fin : False).elim
  | .ok .brk, fin => exact (fin : False).elim
  | .ok .cont, fin => exact (fin : False).elim
theorem pe_callG (F : FnG X.prog X.w X.K X.mg X.base cx lv fn dat pars sp) (gd : X.A.guards = some []) (rm : Room lv X.A) (gl : Gl X nm) (at_ : X.mg nm = some (.ref fn)) (kp : PySem.W.keepIn X.K (.ref fn) = true)
    (bi : Binds X.K dat pars dw) (vd : Vals dv dw) (ps : Passes cx X E) (pa : PA X (a0 :: as) ta) (ndb : (nm == ("__debug__" : Str)) = false := by decide)
    (st1 : starEach (a0 :: as) X.env = (false, eval a0 X.env) :: starEach as X.env := by rfl) (st2 : (backTo p2 (starEach as X.env)).any (·.1) = false := by rfl) :
    PE X (.Call (.Name nm p1) (a0 :: as) [] p2) (tCall sp dv E ta) := by
  constructor
  intro pins s σ H Q I pre
  refine wpAny_Call_Name_kw (ld_glob I gl at_ ?_ ndb)
  exact PySem.W.callWith_K (h₀ := X.base) I.ok.mod.kin kp (thn (pa.run p2 pins s σ H _ I pre) fun us s1 ⟨xs, H1, I1, rx, q1⟩ => ⟨I1.kIn, runG F gd rm bi vd ps I1 rx q1⟩) st1 st2
end
section
variable {pr : Program} {wo : World} {K : PySem.W.Frag} {mg : Str → Option Value} {b0 : Heap} {lv : Nat} {sp : Sp}
theorem fnG_of {cx : CXT} {fn : Addr} {nm qn : Str} {pm : Arguments} {bd : List Stmt} {sco : Scope} {dV kV dc pv cdv ct oc : Value} {an od : Option Addr} {osl : Array (Option Value)} {NN pars : List Str}
    (at_ : K.lookup fn = some ⟨oc, od, .func (PySem.W.fnOf nm qn pm bd sco dV kV dc pv an cdv ct), osl⟩) (code : PySem.W.codeIn K cdv qn = true) (S : FnScope NN pars sco)
    (many : ∀ xs H Q E, sp xs H Q E → xs.length = pars.length)
    (body : ∀ (A : Around) (out : List Env) (s : Shared) (H : Hp) (xs : List V) (Q : VK) (E : XK), A.guards = some [] → Room lv (A.deeper (envOfC qn sco s.heap.objs.size fn cdv)) → sp xs H Q E →
      ∃ t, PSs (cxOf cx pr wo K mg b0 NN qn sco fn cdv A out s H E) bd t ∧ t { nx := fun _ H' => Q .non H', rt := Q } (start NN xs) H) :
    FnG pr wo K mg b0 cx (lv + 1) fn (PySem.W.fnOf nm qn pm bd sco dV kV dc pv an cdv ct) pars sp := by
  constructor
  · exact many
  intro A out s H ar us xs Q E rm gd e0 bi vx pro
  have old : ∀ b o, b0.get? b = some o → s.heap.get? b = some o := fun b o e => (e0.bs b o e).1
  have kin : K.In s.heap := e0.mod.kin.keeps old
  refine codeAny_call_function rm.depth (kin _ _ at_) rfl S.co S.gen rfl (PySem.W.codeRec_of kin code) (bi _ _ _ _ ?_)
  refine wpAny_newFunctionEnv_cells S.kind ?_ ?_
  · rintro ⟨n, v⟩ hy
    cases S.par n (List.of_mem_zip hy).1 with
    | inl q => exact Or.inl q
    | inr q => exact Or.inr ⟨q, PySem.W.cellsFrom_some _ _ _ (Or.inl q)⟩
  intro env he s1 ic
  subst he
  refine ⟨(e0.mod.nolimit.keeps old).keeps ic.toInCall.keep, codeAny_func ?_⟩
  obtain ⟨t, ht, rd⟩ := body A out s H xs Q E gd (rm.deeper _) pro
  have I : Inv (cxOf cx pr wo K mg b0 NN qn sco fn cdv A out s H E) [] (start NN xs) H s1 := inv_start S rm.hd e0 (many _ _ _ _ pro) vx ic
  refine wpAny_mono (ht.run [] s1 (start NN xs) H _ I rd) ?_ (fun _ _ z => z)
  intro fl s2 hs
  match fl, hs with
  | .ret u, ⟨v, σ2, H2, J, rv, q⟩ => exact ⟨v, H2, J.os, J.bare, J.base, J.hok, rv, q⟩
  | .next, ⟨σ2, H2, J, q⟩ => exact ⟨V.non, H2, J.os, J.bare, J.base, J.hok, rfl, q⟩
  | .brk, ⟨_, _, _, q⟩ => exact (q : False).elim
  | .cont, ⟨_, _, _, q⟩ => exact (q : False).elim
/-- a def of the text that is run where no repr is under way -/
theorem okG {x qn : Str} {st : Stmt} {fn : Addr} {dat : FuncData} {NN pars : List Str} (F : Fun K x qn st fn dat) (S : FnScope NN pars (defScope st)) (many : ∀ xs H Q E, sp xs H Q E → xs.length = pars.length)
    (body : ∀ (cdv : Value) (A : Around) (out : List Env) (s : Shared) (H : Hp) (xs : List V) (Q : VK) (E : XK), A.guards = some [] → Room lv (A.deeper (envOfC qn (defScope st) s.heap.objs.size fn cdv)) → sp xs H Q E →
      ∃ t, PSs (cxOf CX0 pr wo K mg b0 NN qn (defScope st) fn cdv A out s H E).nox (defBody st) t ∧ t { nx := fun _ H' => Q .non H', rt := Q } (start NN xs) H) :
    FnG pr wo K mg b0 CX0 (lv + 1) fn dat pars sp := by
  obtain ⟨oc, od, kV, dc, pv, an, cdv, ct, osl, rfl, at_, code⟩ := F.ex
  refine fnG_of at_ code S many fun A out s H xs Q E gd rm pro => ?_
  obtain ⟨t, h, q⟩ := body cdv A out s H xs Q E gd rm pro
  exact ⟨t, h.nox, q⟩
end
/-- the law's own call: the script is all that is known of the heap -/
theorem lawG {pr : Program} {wo : World} {K : PySem.W.Frag} {mg mb : Str → Option Value} {lv : Nat} {fn sc : Addr} {dat : FuncData} {x : Str} {sp : Sp} {s : Shared} {us : List Value} {ns : List Int}
    (kin : K.In s.heap) (gns : s.heap.Ns mainGlobals mg) (bns : s.heap.Ns builtinsNs mb) (boot : ∀ y : Str, y ≠ "__name__" → mb y = bootBuiltins y) (nol : s.heap.NoLimit) (ge : s.gens = #[])
    (at_ : s.heap.get? sc = some { cls := .type "list", data := .seq us.toArray }) (ia : IntsAre us ns) (few : ns.length ≤ sizeLine) (rm : Room lv callerA)
    (F : ∀ b0 : Heap, K.In b0 → b0.Ns mainGlobals mg → FnG pr wo K mg b0 CX0 lv fn dat [x] sp) (bi : ∀ (z : Shared) (u : Value), BindsTo z dat ⟨[u], []⟩ [(x, u)])
    (pro : ∀ H : Hp, SqL K H sc (ns.map V.int) → sp [.ref sc] H (fun v _ => v = .bl true) fun _ _ _ => False) :
    codeAny (model pr wo) callerA (.call (.ref fn) ⟨[.ref sc], []⟩) (fun r z => r = .ok (.ret (.bool true)) ∧ OldK s.heap z.heap ∧ z.os = s.os ∧ AllBare z.gens) s := by
  have go : ∀ H : Hp, (∀ b o, H b = some o → b = sc ∧ ∃ ob xs, o = .frz ob (.lst xs)) → SqL K H sc (ns.map V.int) → HOk pr wo H s.heap → (H sc ≠ none → K.lookup sc = none) →
      codeAny (model pr wo) callerA (.call (.ref fn) ⟨[.ref sc], []⟩) (fun r z => r = .ok (.ret (.bool true)) ∧ OldK s.heap z.heap ∧ z.os = s.os ∧ AllBare z.gens) s := by
    intro H one sq hok notK
    have dicts : ∀ {b : Addr} {o : Obj} {es : Array DictEntry} {ep : Nat}, s.heap.get? b = some o → o.data = .dict es ep → H b = none := by
      intro b o es ep e d
      match q : H b with
      | none => rfl
      | some u =>
        obtain ⟨rfl, _⟩ := one b u q
        rw [at_] at e
        cases e
        cases (show Data.seq us.toArray _ = Data.dict es ep from d)
    have names : ∀ {b : Addr} {m : Str → Option Value}, s.heap.Ns b m → (hidT s.heap H).Ns b m := by
      rintro b m ⟨o, es, ep, e, d, r⟩
      exact ⟨o, es, ep, hidT_get e (dicts e d), d, r⟩
    have kin2 : K.In (hidT s.heap H) := by
      intro b o e
      refine hidT_get (kin b o e) ?_
      match q : H b with
      | none => rfl
      | some u =>
        obtain ⟨rfl, _⟩ := one b u q
        rw [notK (by rw [q]; exact Option.some_ne_none u)] at e
        cases e
    have md : Mod K mg (hidT s.heap H) := by
      obtain ⟨mc, n1, n2⟩ := nol
      exact ⟨kin2, names gns, ⟨mb, names bns, boot⟩, ⟨mc, names n1, n2⟩⟩
    have env : Env0 pr wo K mg (hidT s.heap H) callerA [] s H :=
      { frames := rfl, mod := md, bs := fun _ _ e => of_hidT e, bsz := Nat.le_of_eq (hidT_size _ _), funs := trivial, frf := (fun _ z => nomatch z), hok := hok, bare := .of_eq ge }
    refine codeAny_mono ((F _ kin2 (names gns)).goes callerA [] s H ⟨[.ref sc], []⟩ [.ref sc] [.ref sc] _ _ rm rfl env (bi s (.ref sc)) (.cons rfl .nil) (pro H sq)) ?_
    intro res z fin
    match res, fin with
    | .error e, fin => exact (fin : False).elim
    | .ok .next, fin => exact (fin : False).elim
    | .ok .brk, fin => exact (fin : False).elim
    | .ok .cont, fin => exact (fin : False).elim
    | .ok (.ret u), ⟨v, H2, os, bare, un, hok2, rv, q⟩ =>
      cases (q : v = .bl true)
      cases (rv : u = Value.bool true)
      refine ⟨rfl, OldK.of_keep ?_, os, bare⟩
      intro b o e
      match w : H b with
      | none => exact un.keep b o e w (fun z => nomatch z) (fun z => nomatch z)
      | some uo =>
        obtain ⟨rfl, ob, xs, rfl⟩ := one b uo w
        have e1 := (hok b _ w).1
        have e2 := (hok2 b _ (un.frzs b ob _ w)).1
        exact e2.trans (e1.symm.trans e)
  have vx := vals_ints ia
  have ln := ia.length
  match kk : K.lookup sc with
  | some o =>
    have e := kin sc o kk
    rw [at_] at e
    cases e
    exact go (fun _ => none) (fun _ _ z => nomatch z) (.inr ⟨_, us.toArray, _, kk, rfl, rfl, rfl, by rw [List.size_toArray, ln]; exact few, by simpa using vx⟩) (fun _ _ z => nomatch z) (fun z => absurd rfl z)
  | none =>
    let one : HO := .frz { cls := .type "list", data := .seq us.toArray } (.lst (ns.map V.int))
    refine go (upd (fun _ => none) sc one) ?_ (.inl (.inr ⟨_, upd_same⟩)) ?_ (fun _ => kk)
    · intro b o z
      by_cases hb : b = sc
      · subst hb
        rw [upd_same] at z
        cases z
        exact ⟨rfl, _, _, rfl⟩
      · rw [upd_ne hb] at z
        cases z
    · intro b o z
      by_cases hb : b = sc
      · subst hb
        rw [upd_same] at z
        cases z
        exact ⟨at_, by rw [List.length_map]; exact few, us, _, vx, at_⟩
      · rw [upd_ne hb] at z
        cases z
/-- from the law's promise to the row's claim -/
theorem endG {l : PySem.W.OpenLaw} {n lv : Nat} {q : Program} {loose : List Str} {XP : (Str → Option Value) → Heap → Prop} {YP : World → Heap → Prop} {d : DefRec} {KK : Params → PySem.W.Frag} {sp : World → Sp} {x : Str}
    (most : l.most = some n) (few : n ≤ sizeLine) (nodef : d.params.defaults = []) (rm : Room lv callerA) (inY : ∀ (w : World) (h : Heap), YP w h → (KK w.params).In h)
    (F : ∀ (w : World) (mg : Str → Option Value) (fn : Addr) (h : Heap), (KK w.params).In h → h.Ns mainGlobals mg → mg d.name = some (.ref fn) →
      ∃ dat : FuncData, (∀ (s : Shared) (u : Value), BindsTo s dat ⟨[u], []⟩ [(x, u)]) ∧ ∀ b0 : Heap, (KK w.params).In b0 → b0.Ns mainGlobals mg → FnG l.prog w (KK w.params) mg b0 CX0 lv fn dat [x] (sp w))
    (pro : ∀ (w : World) (H : Hp) (a : Addr) (ns : List Int), ns.length ≤ n → SqL (KK w.params) H a (ns.map V.int) → sp w [.ref a] H (fun v _ => v = .bl true) fun _ _ _ => False) :
    PySem.W.WalkO q loose XP YP l.row.toRowW d [] (fun f vs => PySem.call f vs) := by
  refine Att.attach_call most nodef ?_
  intro w s0 s1 mg mb fn o pm cd dc a us ns G Y at_ dd cdd gm ob ia ln ge
  obtain ⟨dat, bi, ok⟩ := F w mg fn _ (inY w _ Y) G.T.g gm
  exact lawG (inY w _ Y) G.T.g G.T.b G.T.builtins G.T.nolimit ge ob ia (Nat.le_trans ln few) rm ok bi (fun H sq => pro w H a ns ln sq)
end Rb
namespace Rb
open PySem PySem.Spec PyProof.Rows L2

/-! the deck: a list of the cells and the count of draws -/
def Dk (H : Hp) (d c : Addr) (N : Int) : Prop := ∃ (cs : List Int) (n : Int), H d = some (.lst [.ref c, .int n]) ∧ H c = some (.lst (cs.map V.int)) ∧ cs.length ≤ 63 ∧ (∀ x ∈ cs, 0 ≤ x) ∧ 0 ≤ n ∧ n ≤ N
/-- all but the deck is kept -/
def Kp (d c : Addr) (H H' : Hp) : Prop := ∀ b o, H b = some o → b ≠ d → b ≠ c → H' b = some o
theorem Kp.refl {d c : Addr} {H : Hp} : Kp d c H H := fun _ _ e _ _ => e
theorem Kp.trans {d c : Addr} {H H1 H2 : Hp} (a : Kp d c H H1) (b : Kp d c H1 H2) : Kp d c H H2 := fun x o e n1 n2 => b x o (a x o e n1 n2) n1 n2
theorem Kp.ex {d c : Addr} {H H1 : Hp} (a : Evl.Ex H H1) : Kp d c H H1 := fun x o e _ _ => a x o e
theorem Kp.new {d c : Addr} {H : Hp} {p : Addr} {o : HO} (h : H p = none) : Kp d c H (upd H p o) := Kp.ex (Evl.Ex.new h)
theorem Dk.ex {H H' : Hp} {d c : Addr} {N : Int} (h : Dk H d c N) (e : Evl.Ex H H') : Dk H' d c N := by
  obtain ⟨cs, n, h1, h2, r⟩ := h
  exact ⟨cs, n, e _ _ h1, e _ _ h2, r⟩
theorem Dk.new {H : Hp} {d c p : Addr} {N : Int} {o : HO} (h : Dk H d c N) (hp : H p = none) : Dk (upd H p o) d c N := h.ex (Evl.Ex.new hp)
theorem Dk.le {H : Hp} {d c : Addr} {N M : Int} (h : Dk H d c N) (e : N ≤ M) : Dk H d c M := by
  obtain ⟨cs, n, h1, h2, h3, h4, h5, h6⟩ := h
  exact ⟨cs, n, h1, h2, h3, h4, h5, by omega⟩
theorem Dk.ne1 {H : Hp} {d c p : Addr} {N : Int} (h : Dk H d c N) (hp : H p = none) : p ≠ d := by
  obtain ⟨cs, n, h1, _⟩ := h
  rintro rfl
  rw [h1] at hp
  cases hp
theorem Dk.ne2 {H : Hp} {d c p : Addr} {N : Int} (h : Dk H d c N) (hp : H p = none) : p ≠ c := by
  obtain ⟨cs, n, _, h1, _⟩ := h
  rintro rfl
  rw [h1] at hp
  cases hp
/-- fresh behind is fresh before -/
theorem Kp.fresh {d c p : Addr} {H H' : Hp} {N : Int} (k : Kp d c H H') (h : Dk H' d c N) (hp : H' p = none) : H p = none := by
  cases e : H p with
  | none => rfl
  | some o =>
    rw [k p o e (h.ne1 hp) (h.ne2 hp)] at hp
    cases hp
/-- a new object changes: all else is kept -/
theorem Kp.mut {d c p : Addr} {H H' : Hp} {o : HO} (k : Kp d c H H') (hp : H p = none) : Kp d c H (upd H' p o) := fun b u e n1 n2 => by
  rw [upd_ne (ne_of_none e hp)]
  exact k b u e n1 n2
theorem Kp.sqT {K : PySem.W.Frag} {d c a : Addr} {H H' : Hp} {N : Int} {xs : List V} (k : Kp d c H H') (h : Dk H d c N) (hs : SqT K H a xs) : SqT K H' a xs := by
  obtain ⟨cs, n, h1, h2, _⟩ := h
  have go : ∀ u : HO, (∀ ys, u ≠ .lst ys) → H a = some u → H' a = some u := fun u nu e => k a u e
    (by rintro rfl; rw [h1] at e; exact nu _ (Option.some.inj e).symm) (by rintro rfl; rw [h2] at e; exact nu _ (Option.some.inj e).symm)
  rcases hs with (e | ⟨o, e⟩) | e
  · exact .inl (.inl (go _ (fun _ z => nomatch z) e))
  · exact .inl (.inr ⟨o, go _ (fun _ z => nomatch z) e⟩)
  · exact .inr e
theorem tupOf {K : PySem.W.Frag} {H : Hp} {a : Addr} {xs : List V} (h : H a = some (.tup xs)) : SqT K H a xs := .inl (.inl h)
theorem lstOf {K : PySem.W.Frag} {H : Hp} {a : Addr} {xs : List V} (h : H a = some (.lst xs)) : SqL K H a xs := .inl (.inl h)
theorem tupNew {K : PySem.W.Frag} {H : Hp} {a p : Addr} {xs : List V} {o : HO} (h : SqT K H a xs) (hp : H p = none) : SqT K (upd H p o) a xs := Evl.ex_t (Evl.Ex.new hp) h
/-! picks from short lists -/
theorem pick2 {x y : V} {r : Int} (h0 : 0 ≤ r) (h1 : r < 2) : ∃ v, atI [x, y] r = some v ∧ (v = x ∨ v = y) := by
  rcases (by omega : r = 0 ∨ r = 1) with rfl | rfl
  · exact ⟨x, rfl, .inl rfl⟩
  · exact ⟨y, rfl, .inr rfl⟩
theorem pick3 {x y z : V} {r : Int} (h0 : 0 ≤ r) (h1 : r < 3) : ∃ v, atI [x, y, z] r = some v ∧ (v = x ∨ v = y ∨ v = z) := by
  rcases (by omega : r = 0 ∨ r = 1 ∨ r = 2) with rfl | rfl | rfl
  · exact ⟨x, rfl, .inl rfl⟩
  · exact ⟨y, rfl, .inr (.inl rfl)⟩
  · exact ⟨z, rfl, .inr (.inr rfl)⟩
theorem pick2i {x y r : Int} (h0 : 0 ≤ r) (h1 : r < 2) : ∃ v : Int, atI [V.int x, V.int y] r = some (V.int v) ∧ (v = x ∨ v = y) := by
  rcases (by omega : r = 0 ∨ r = 1) with rfl | rfl
  · exact ⟨x, rfl, .inl rfl⟩
  · exact ⟨y, rfl, .inr rfl⟩
theorem pick3i {x y z r : Int} (h0 : 0 ≤ r) (h1 : r < 3) : ∃ v : Int, atI [V.int x, V.int y, V.int z] r = some (V.int v) ∧ (v = x ∨ v = y ∨ v = z) := by
  rcases (by omega : r = 0 ∨ r = 1 ∨ r = 2) with rfl | rfl | rfl
  · exact ⟨x, rfl, .inl rfl⟩
  · exact ⟨y, rfl, .inr (.inl rfl)⟩
  · exact ⟨z, rfl, .inr (.inr rfl)⟩
/-- an item of a list of ints by its place -/
theorem at_ints {ns : List Int} {j : Nat} (h : j < ns.length) : atI (ns.map V.int) (j : Int) = some (.int ns[j]) := by
  refine atI_nat (j := j) ?_
  rw [List.getElem?_map, List.getElem?_eq_getElem h]
  rfl
theorem sz_le {n : Nat} (h : n ≤ 100000) : n ≤ sizeLine := Evl.sz_of h
theorem sz_lt {n : Nat} (h : n < 100000) : n < sizeLine := Evl.sz_lt h
/-- slices from the beginning -/
theorem cut_to {xs : List V} {k : Nat} : cutV xs none (some (k : Int)) = xs.take k := by
  unfold cutV
  rw [HT.sIx_none, HT.sIx_nat]
  show List.take (min k xs.length - 0) (xs.drop 0) = _
  rw [List.drop_zero, Nat.sub_zero]
  rcases Nat.le_total k xs.length with h | h
  · rw [Nat.min_eq_left h]
  · rw [Nat.min_eq_right h, List.take_length, List.take_of_length_le h]
/-! a road -/
def Road (K : PySem.W.Frag) (H : Hp) (v : V) (w r : Int) (bs : List Int) : Prop := ∃ a b, v = .ref a ∧ SqT K H a [.int w, .int r, .ref b] ∧ SqT K H b (bs.map V.int)
theorem Road.kp {K : PySem.W.Frag} {d c : Addr} {H H' : Hp} {N : Int} {v : V} {w r : Int} {bs : List Int} (x : Road K H v w r bs) (k : Kp d c H H') (h : Dk H d c N) : Road K H' v w r bs := by
  obtain ⟨a, b, e, h1, h2⟩ := x
  exact ⟨a, b, e, k.sqT h h1, k.sqT h h2⟩
theorem Road.ex {K : PySem.W.Frag} {H H' : Hp} {v : V} {w r : Int} {bs : List Int} (x : Road K H v w r bs) (k : Evl.Ex H H') : Road K H' v w r bs := by
  obtain ⟨a, b, e, h1, h2⟩ := x
  exact ⟨a, b, e, Evl.ex_t k h1, Evl.ex_t k h2⟩
/-! data of ints: what repr shows -/
theorem DpAll.ints {K : PySem.W.Frag} {H : Hp} : ∀ ns : List Int, DpAll K H (ns.map V.int) (ns.map PyData.int)
  | [] => .nil
  | n :: ns => .cons (.int n) (DpAll.ints ns)
theorem Dp.tupI {K : PySem.W.Frag} {H : Hp} {a : Addr} {ns : List Int} (h : SqT K H a (ns.map V.int)) : Dp K H (.ref a) (.tuple (ns.map .int)) := .tup h (DpAll.ints ns)
def roadD (w r : Int) (bs : List Int) : PyData := .tuple [.int w, .int r, .tuple (bs.map .int)]
theorem Road.dp {K : PySem.W.Frag} {H : Hp} {v : V} {w r : Int} {bs : List Int} (x : Road K H v w r bs) : Dp K H v (roadD w r bs) := by
  obtain ⟨a, b, rfl, h1, h2⟩ := x
  exact .tup h1 (.cons (.int w) (.cons (.int r) (.cons (Dp.tupI h2) .nil)))
/-! data that repr shows: what it asks, by parts -/
structure Nice (k n : Nat) (d : PyData) : Prop where
  sh : d.showable = true
  lv : d.leavesShort 100 = true
  dep : d.depth ≤ k
  blk : d.bulk ≤ n
theorem Nice.mono {k n k' n' : Nat} {d : PyData} (h : Nice k n d) (h1 : k ≤ k') (h2 : n ≤ n') : Nice k' n' d := ⟨h.sh, h.lv, Nat.le_trans h.dep h1, Nat.le_trans h.blk h2⟩
theorem Nice.int {i : Int} (h : i.natAbs < 10 ^ 99) : Nice 0 0 (.int i) := by
  refine ⟨?_, ?_, Nat.le_refl _, Nat.le_refl _⟩
  · simp only [PyData.showable, decide_eq_true_eq]
    by_cases z : i.natAbs = 0
    · rw [z]; decide
    · refine (Nat.log2_lt z).mpr (Nat.lt_of_lt_of_le h ?_)
      decide +kernel
  · simp only [PyData.leavesShort, decide_eq_true_eq, PyData.shown]
    refine decide_eq_true ?_
    rw [PySem.ofString_length]
    exact int_text_length_le10 (k := 99) (by decide) h
theorem Nice.none : Nice 0 0 .none := ⟨rfl, rfl, Nat.le_refl _, Nat.le_refl _⟩
theorem Nice.bool {b : Bool} : Nice 0 0 (.bool b) := ⟨rfl, rfl, Nat.le_refl _, Nat.le_refl _⟩
theorem Nice.str {x : Str} {n : Nat} (h : x.cps.size ≤ n) (hx : ∀ c ∈ x.cps.toList, c < 16 ^ 8) : Nice 0 n (.str x) := by
  refine ⟨rfl, ?_, Nat.le_refl _, h⟩
  simpa only [PyData.leavesShort, List.all_eq_true, decide_eq_true_eq] using hx
theorem nice_all {k n : Nat} : ∀ {xs : List PyData}, (∀ x ∈ xs, Nice k n x) → PyData.showableAll xs = true ∧ PyData.leavesShortAll 100 xs = true ∧ PyData.depthAll xs ≤ k ∧ PyData.bulkAll xs ≤ xs.length * (n + 1)
  | [], _ => ⟨rfl, rfl, Nat.zero_le _, Nat.zero_le _⟩
  | x :: xs, h => by
    obtain ⟨a, b, c, d⟩ := nice_all (xs := xs) fun y hy => h y (List.mem_cons_of_mem _ hy)
    have hx := h x List.mem_cons_self
    refine ⟨?_, ?_, ?_, ?_⟩
    · simp only [PyData.showableAll, hx.sh, a, Bool.and_true]
    · simp only [PyData.leavesShortAll, hx.lv, b, Bool.and_true]
    · simp only [PyData.depthAll]
      exact Nat.max_le.mpr ⟨hx.dep, c⟩
    · simp only [PyData.bulkAll, List.length_cons]
      have := hx.blk
      rw [Nat.add_mul]
      omega
theorem Nice.tup {k n m : Nat} {xs : List PyData} (h : ∀ x ∈ xs, Nice k n x) (hm : xs.length * (n + 1) ≤ m) : Nice (k + 1) m (.tuple xs) := by
  obtain ⟨a, b, c, d⟩ := nice_all h
  exact ⟨by simpa only [PyData.showable] using a, by simpa only [PyData.leavesShort] using b, by simp only [PyData.depth]; omega, by simp only [PyData.bulk]; omega⟩
theorem Nice.lst {k n m : Nat} {xs : List PyData} (h : ∀ x ∈ xs, Nice k n x) (hm : xs.length * (n + 1) ≤ m) : Nice (k + 1) m (.list xs) := by
  obtain ⟨a, b, c, d⟩ := nice_all h
  exact ⟨by simpa only [PyData.showable] using a, by simpa only [PyData.leavesShort] using b, by simp only [PyData.depth]; omega, by simp only [PyData.bulk]; omega⟩
theorem Nice.ints {ns : List Int} {m : Nat} (h : ∀ i ∈ ns, i.natAbs < 10 ^ 99) (hm : ns.length ≤ m) : Nice 1 m (.tuple (ns.map .int)) := by
  refine Nice.tup (k := 0) (n := 0) (fun x hx => ?_) (by rw [List.length_map]; omega)
  obtain ⟨i, hi, rfl⟩ := List.mem_map.mp hx
  exact Nice.int (h i hi)
theorem Nice.fits {k : Nat} {d : PyData} (n : Nice k 100000 d) : d.shown.length ≤ sizeLine := by
  have e := PyData.shown_le_bulk 100 (by decide) d n.lv
  have := n.blk
  have : (16777216 : Nat) ≤ sizeLine := by decide
  omega
/-! comprehensions whose element changes nothing -/
section
variable {K : PySem.W.Frag} {te : TE} {vs : List Nat} {σ : L2.St} {H1 : Hp} {D a : Addr} {j : Nat} {Qd : Hp → Prop}
theorem lc_mapL {xs : List V} (f : V → V) (hS : SqL K H1 a xs) (nD : H1 D = none) (hw : ∀ x, wipe ((wipe σ vs).set j (some x)) vs = wipe σ vs) (hz : xs.length ≤ 90000)
    (he : ∀ (i : Nat) x H3, xs[i]? = some x → Evl.Ex H1 H3 → ∀ Q : VK, (∀ H4, Evl.Ex H3 H4 → Q (f x) H4) → te ((wipe σ vs).set j (some x)) H3 Q) (hd : ∀ H', Evl.Ex H1 H' → H' D = some (.lst (xs.map f)) → Qd H') :
    ∃ W : Nat → Nat → Hp → Prop, (∃ m, W 0 m (upd H1 D (.lst []))) ∧ ∀ i m H, W i m H →
      ((Itl K a).stop i H ∧ Qd H) ∨ ((Itl K a).go i H ∧ ∃ Nx : Hp → Prop, (∀ H', Nx H' → ∃ m', m' < m ∧ W (i + 1) m' H') ∧ ∀ x H', (Itl K a).yld i H x H' → (gName j) x (wipe σ vs) H' fun σ2 H2 => wipe σ2 vs = wipe σ vs ∧ tYes σ2 H2 fun b H3 =>
        if b = true then te σ2 H3 fun y H4 => ∃ acc, H4 D = some (.lst acc) ∧ acc.length < sizeLine ∧ Nx (upd H4 D (.lst (acc ++ [y]))) else Nx H3) := by
  refine lc_list (xs := xs) (fun i H' => Evl.Ex H1 H' ∧ H' D = some (.lst ((xs.take i).map f))) ⟨Evl.Ex.new nD, upd_same⟩ (fun i H' _ p => Evl.ex_l p.1 hS) ?_ (fun H' p => hd H' p.1 (by rw [p.2, List.take_length]))
  rintro i x H' hx ⟨p1, p2⟩
  refine ⟨hw x, ?_⟩
  show te ((wipe σ vs).set j (some x)) H' _
  refine he i x H' hx p1 _ fun H4 e4 => ⟨_, e4 _ _ p2, ?_, Evl.Ex.mut (p1.trans e4) nD, ?_⟩
  · rw [List.length_map, List.length_take]
    exact sz_lt (by omega)
  · rw [upd_same, List.take_add_one, hx, List.map_append]
    rfl
theorem lc_mapT {xs : List V} (f : V → V) (hS : SqT K H1 a xs) (nD : H1 D = none) (hw : ∀ x, wipe ((wipe σ vs).set j (some x)) vs = wipe σ vs) (hz : xs.length ≤ 90000)
    (he : ∀ (i : Nat) x H3, xs[i]? = some x → Evl.Ex H1 H3 → ∀ Q : VK, (∀ H4, Evl.Ex H3 H4 → Q (f x) H4) → te ((wipe σ vs).set j (some x)) H3 Q) (hd : ∀ H', Evl.Ex H1 H' → H' D = some (.lst (xs.map f)) → Qd H') :
    ∃ W : Nat → Nat → Hp → Prop, (∃ m, W 0 m (upd H1 D (.lst []))) ∧ ∀ i m H, W i m H →
      ((Itt K a).stop i H ∧ Qd H) ∨ ((Itt K a).go i H ∧ ∃ Nx : Hp → Prop, (∀ H', Nx H' → ∃ m', m' < m ∧ W (i + 1) m' H') ∧ ∀ x H', (Itt K a).yld i H x H' → (gName j) x (wipe σ vs) H' fun σ2 H2 => wipe σ2 vs = wipe σ vs ∧ tYes σ2 H2 fun b H3 =>
        if b = true then te σ2 H3 fun y H4 => ∃ acc, H4 D = some (.lst acc) ∧ acc.length < sizeLine ∧ Nx (upd H4 D (.lst (acc ++ [y]))) else Nx H3) := by
  refine lc_tup (xs := xs) (fun i H' => Evl.Ex H1 H' ∧ H' D = some (.lst ((xs.take i).map f))) ⟨Evl.Ex.new nD, upd_same⟩ (fun i H' _ p => Evl.ex_t p.1 hS) ?_ (fun H' p => hd H' p.1 (by rw [p.2, List.take_length]))
  rintro i x H' hx ⟨p1, p2⟩
  refine ⟨hw x, ?_⟩
  show te ((wipe σ vs).set j (some x)) H' _
  refine he i x H' hx p1 _ fun H4 e4 => ⟨_, e4 _ _ p2, ?_, Evl.Ex.mut (p1.trans e4) nD, ?_⟩
  · rw [List.length_map, List.length_take]
    exact sz_lt (by omega)
  · rw [upd_same, List.take_add_one, hx, List.map_append]
    rfl
theorem lc_mapR {n : Nat} (f : Nat → V) (nD : H1 D = none) (hw : ∀ x, wipe ((wipe σ vs).set j (some x)) vs = wipe σ vs) (hz : n ≤ 90000)
    (he : ∀ i H3, i < n → Evl.Ex H1 H3 → ∀ Q : VK, (∀ H4, Evl.Ex H3 H4 → Q (f i) H4) → te ((wipe σ vs).set j (some (.int (i : Int)))) H3 Q) (hd : ∀ H', Evl.Ex H1 H' → H' D = some (.lst ((List.range n).map f)) → Qd H') :
    ∃ W : Nat → Nat → Hp → Prop, (∃ m, W 0 m (upd H1 D (.lst []))) ∧ ∀ i m H, W i m H →
      ((Itr 0 n).stop i H ∧ Qd H) ∨ ((Itr 0 n).go i H ∧ ∃ Nx : Hp → Prop, (∀ H', Nx H' → ∃ m', m' < m ∧ W (i + 1) m' H') ∧ ∀ x H', (Itr 0 n).yld i H x H' → (gName j) x (wipe σ vs) H' fun σ2 H2 => wipe σ2 vs = wipe σ vs ∧ tYes σ2 H2 fun b H3 =>
        if b = true then te σ2 H3 fun y H4 => ∃ acc, H4 D = some (.lst acc) ∧ acc.length < sizeLine ∧ Nx (upd H4 D (.lst (acc ++ [y]))) else Nx H3) := by
  refine lc_range (lo := 0) (n := n) (fun i H' => Evl.Ex H1 H' ∧ H' D = some (.lst ((List.range i).map f))) ⟨Evl.Ex.new nD, upd_same⟩ ?_ (fun H' p => hd H' p.1 p.2)
  rintro i H' hi ⟨p1, p2⟩
  refine ⟨hw _, ?_⟩
  show te ((wipe σ vs).set j (some (.int ((0 : Int) + (i : Int))))) H' _
  rw [Int.zero_add]
  refine he i H' hi p1 _ fun H4 e4 => ⟨_, e4 _ _ p2, ?_, Evl.Ex.mut (p1.trans e4) nD, ?_⟩
  · rw [List.length_map, List.length_range]
    exact sz_lt (by omega)
  · rw [upd_same, List.range_succ, List.map_append]
    rfl
end
end Rb
namespace Rb
open PySem PySem.Spec PyProof.Rows L2
/-! data without lists: it never changes -/
mutual
inductive Tp (K : PySem.W.Frag) (H : Hp) : V → PyData → Prop
  | non : Tp K H .non .none
  | bl (b : Bool) : Tp K H (.bl b) (.bool b)
  | int (i : Int) : Tp K H (.int i) (.int i)
  | str (x : Str) : Tp K H (.str x) (.str x)
  | tup {a : Addr} {xs : List V} {ds : List PyData} : SqT K H a xs → TpAll K H xs ds → Tp K H (.ref a) (.tuple ds)
inductive TpAll (K : PySem.W.Frag) (H : Hp) : List V → List PyData → Prop
  | nil : TpAll K H [] []
  | cons {v : V} {vs : List V} {d : PyData} {ds : List PyData} : Tp K H v d → TpAll K H vs ds → TpAll K H (v :: vs) (d :: ds)
end
section
variable {K : PySem.W.Frag} {H H' : Hp}
mutual
theorem Tp.dp : ∀ (d : PyData) (v : V), Tp K H v d → Dp K H v d
  | .none, _, h => by cases h; exact .non
  | .bool b, _, h => by cases h; exact .bl b
  | .int i, _, h => by cases h; exact .int i
  | .str x, _, h => by cases h; exact .str x
  | .list _, _, h => by cases h
  | .dict _, _, h => by cases h
  | .tuple ds, _, h => by
    cases h with
    | tup hs ha => exact .tup hs (TpAll.dp ds _ ha)
theorem TpAll.dp : ∀ (ds : List PyData) (vs : List V), TpAll K H vs ds → DpAll K H vs ds
  | [], _, h => by cases h; exact .nil
  | d :: ds, _, h => by
    cases h with
    | cons h1 h2 => exact .cons (Tp.dp d _ h1) (TpAll.dp ds _ h2)
end
mutual
theorem Tp.keep (k : ∀ a xs, SqT K H a xs → SqT K H' a xs) : ∀ (d : PyData) (v : V), Tp K H v d → Tp K H' v d
  | .none, _, h => by cases h; exact .non
  | .bool b, _, h => by cases h; exact .bl b
  | .int i, _, h => by cases h; exact .int i
  | .str x, _, h => by cases h; exact .str x
  | .list _, _, h => by cases h
  | .dict _, _, h => by cases h
  | .tuple ds, _, h => by
    cases h with
    | tup hs ha => exact .tup (k _ _ hs) (TpAll.keep k ds _ ha)
theorem TpAll.keep (k : ∀ a xs, SqT K H a xs → SqT K H' a xs) : ∀ (ds : List PyData) (vs : List V), TpAll K H vs ds → TpAll K H' vs ds
  | [], _, h => by cases h; exact .nil
  | d :: ds, _, h => by
    cases h with
    | cons h1 h2 => exact .cons (Tp.keep k d _ h1) (TpAll.keep k ds _ h2)
end
theorem Tp.ex {v : V} {d : PyData} (h : Tp K H v d) (e : Evl.Ex H H') : Tp K H' v d := Tp.keep (fun _ _ z => Evl.ex_t e z) d v h
theorem TpAll.ex {vs : List V} {ds : List PyData} (h : TpAll K H vs ds) (e : Evl.Ex H H') : TpAll K H' vs ds := TpAll.keep (fun _ _ z => Evl.ex_t e z) ds vs h
theorem Tp.kp {d c : Addr} {N : Int} {v : V} {x : PyData} (h : Tp K H v x) (k : Kp d c H H') (dk : Dk H d c N) : Tp K H' v x := Tp.keep (fun _ _ z => k.sqT dk z) x v h
theorem TpAll.kp {d c : Addr} {N : Int} {vs : List V} {ds : List PyData} (h : TpAll K H vs ds) (k : Kp d c H H') (dk : Dk H d c N) : TpAll K H' vs ds := TpAll.keep (fun _ _ z => k.sqT dk z) ds vs h
theorem sqT_upd {D a : Addr} {ys zs xs : List V} (hD : H D = some (.lst ys)) (h : SqT K H a xs) : SqT K (upd H D (.lst zs)) a xs := by
  have go : ∀ u : HO, (∀ ys, u ≠ .lst ys) → H a = some u → upd H D (.lst zs) a = some u := fun u nu e => by
    rw [upd_ne (by rintro rfl; rw [hD] at e; exact nu _ (Option.some.inj e).symm)]
    exact e
  rcases h with (e | ⟨o, e⟩) | e
  · exact .inl (.inl (go _ (fun _ z => nomatch z) e))
  · exact .inl (.inr ⟨o, go _ (fun _ z => nomatch z) e⟩)
  · exact .inr e
theorem Tp.upd {D : Addr} {ys zs : List V} {v : V} {d : PyData} (h : Tp K H v d) (hD : H D = some (.lst ys)) : Tp K (upd H D (.lst zs)) v d := Tp.keep (fun _ _ z => sqT_upd hD z) d v h
theorem TpAll.upd {D : Addr} {ys zs : List V} {vs : List V} {ds : List PyData} (h : TpAll K H vs ds) (hD : H D = some (.lst ys)) : TpAll K (upd H D (.lst zs)) vs ds := TpAll.keep (fun _ _ z => sqT_upd hD z) ds vs h
theorem TpAll.snoc {v : V} {d : PyData} : ∀ {vs : List V} {ds : List PyData}, TpAll K H vs ds → Tp K H v d → TpAll K H (vs ++ [v]) (ds ++ [d])
  | _, _, .nil, h => .cons h .nil
  | _, _, .cons h1 h2, h => .cons h1 (TpAll.snoc h2 h)
theorem TpAll.length : ∀ {vs : List V} {ds : List PyData}, TpAll K H vs ds → vs.length = ds.length
  | _, _, .nil => rfl
  | _, _, .cons _ h => congrArg (· + 1) (TpAll.length h)
theorem TpAll.ints : ∀ ns : List Int, TpAll K H (ns.map V.int) (ns.map PyData.int)
  | [] => .nil
  | n :: ns => .cons (.int n) (TpAll.ints ns)
theorem Tp.tupI {a : Addr} {ns : List Int} (h : SqT K H a (ns.map V.int)) : Tp K H (.ref a) (.tuple (ns.map .int)) := .tup h (TpAll.ints ns)
theorem Road.tp {v : V} {w r : Int} {bs : List Int} (x : Road K H v w r bs) : Tp K H v (roadD w r bs) := by
  obtain ⟨a, b, rfl, h1, h2⟩ := x
  exact .tup h1 (.cons (.int w) (.cons (.int r) (.cons (Tp.tupI h2) .nil)))
end
/-! a comprehension over a range whose elements are such data -/
section
variable {K : PySem.W.Frag} {te : TE} {vs : List Nat} {σ : L2.St} {H1 : Hp} {D a : Addr} {j : Nat} {Qd : Hp → Prop}
theorem lc_tpR {n : Nat} (f : Nat → PyData) (nD : H1 D = none) (hw : ∀ x, wipe ((wipe σ vs).set j (some x)) vs = wipe σ vs) (hz : n ≤ 90000)
    (he : ∀ i H3, i < n → Evl.Ex H1 H3 → ∀ Q : VK, (∀ y H4, Evl.Ex H3 H4 → Tp K H4 y (f i) → Q y H4) → te ((wipe σ vs).set j (some (.int (i : Int)))) H3 Q)
    (hd : ∀ xs H', Evl.Ex H1 H' → H' D = some (.lst xs) → TpAll K H' xs ((List.range n).map f) → Qd H') :
    ∃ W : Nat → Nat → Hp → Prop, (∃ m, W 0 m (upd H1 D (.lst []))) ∧ ∀ i m H, W i m H →
      ((Itr 0 n).stop i H ∧ Qd H) ∨ ((Itr 0 n).go i H ∧ ∃ Nx : Hp → Prop, (∀ H', Nx H' → ∃ m', m' < m ∧ W (i + 1) m' H') ∧ ∀ x H', (Itr 0 n).yld i H x H' → (gName j) x (wipe σ vs) H' fun σ2 H2 => wipe σ2 vs = wipe σ vs ∧ tYes σ2 H2 fun b H3 =>
        if b = true then te σ2 H3 fun y H4 => ∃ acc, H4 D = some (.lst acc) ∧ acc.length < sizeLine ∧ Nx (upd H4 D (.lst (acc ++ [y]))) else Nx H3) := by
  refine lc_range (lo := 0) (n := n) (fun i H' => Evl.Ex H1 H' ∧ ∃ xs, H' D = some (.lst xs) ∧ TpAll K H' xs ((List.range i).map f)) ⟨Evl.Ex.new nD, [], upd_same, .nil⟩ ?_ ?_
  · rintro i H' hi ⟨p1, xs, p2, p3⟩
    refine ⟨hw _, ?_⟩
    show te ((wipe σ vs).set j (some (.int ((0 : Int) + (i : Int))))) H' _
    rw [Int.zero_add]
    refine he i H' hi p1 _ fun y H4 e4 hy => ⟨xs, e4 _ _ p2, ?_, Evl.Ex.mut (p1.trans e4) nD, xs ++ [y], upd_same, ?_⟩
    · have := p3.length
      rw [List.length_map, List.length_range] at this
      exact sz_lt (by omega)
    · rw [List.range_succ, List.map_append]
      exact TpAll.snoc ((p3.ex e4).upd (e4 _ _ p2)) (hy.upd (e4 _ _ p2))
  · rintro H' ⟨p1, xs, p2, p3⟩
    exact hd xs H' p1 p2 p3
end
end Rb
namespace Rb
open PySem PySem.Spec PyProof.Rows L2
/-! enumerate of a tuple -/
abbrev tIter (t : Addr) : Obj := { cls := .type "tuple_iterator", data := .fields #[.ref t, .int 0 0] }
abbrev enObj (it : Addr) : Obj := { cls := .type "enumerate", data := .fields #[.none, .bool false, .ref it, rawInt 0, .none, .none] }
open AutoSeq1 (wpAny_loadPart') in
theorem enumTupNew (t : Addr) (its : Array Value) (n : Nat) (dc : Option Addr) (sl : Array (Option Value)) :
    Meets (Builtin.«enumerate.__new__» ⟨[.type "enumerate", .ref t], []⟩) (fun _ R s => s.heap.get? t = some { cls := .type "tuple", dict := dc, data := .seq its n, slots := sl } ∧
      R (.ok (.ret (.ref (s.heap.push (tIter t)).objs.size))) { s with heap := (s.heap.push (tIter t)).push (enObj s.heap.objs.size) }) := by
  refine .of_wp fun pr wo A R s h => ?_
  obtain ⟨hp, g, d, tk, os⟩ := s
  obtain ⟨ht, h⟩ := h
  have hsub := sub_enumerate
  have hT : Heap.IsTuple (Shared.heap ⟨hp, g, d, tk, os⟩) t its := ⟨_, ht, rfl, n, rfl⟩
  wp_walk using wpAny_loadPart' ht
  refine wpAny_stack_any fun st => wpAny_pure ?_
  split
  · rename_i c _ _ _ _ _
    cases (c == Value.type "enumerate") <;> (wp_walk using wpAny_loadPart' ht, wpAny_pyIter_tuple hT; exact ⟨_, rfl, h⟩)
  · wp_walk using wpAny_loadPart' ht, wpAny_pyIter_tuple hT
    exact ⟨_, rfl, h⟩
theorem enumTup {pr : Program} {wo : World} {A : Around} {E : Value → Shared → Prop} {s : Shared} {t : Addr} {its : Array Value} {Q : Value → Shared → Prop} (hT : s.heap.IsTuple t its)
    (h : ∀ h2, IsEnum h2 (s.heap.objs.size + 1) s.heap.objs.size 0 .none → h2.IsTupleIter s.heap.objs.size t 0 → (∀ b o, s.heap.get? b = some o → h2.get? b = some o) → Q (.ref (s.heap.objs.size + 1)) { s with heap := h2 }) :
    wpAny (model pr wo) A (call (.type "enumerate") [.ref t]) Q E s := by
  obtain ⟨⟨c, dc, dt, sl⟩, ht, hc, n, hd⟩ := hT
  cases (show c = .type "tuple" from hc)
  cases (show dt = .seq its n from hd)
  refine callType_new F.called_enumerate (by decide) (F.typeCall_enumerate_1 _) (F.newCall_enumerate_1 _) (fun obj => F.args_object_init_2 obj _) F.entry_enumerate_new (enumTupNew t its n dc sl) ⟨ht, ?_⟩
  have hz : (s.heap.push (tIter t)).objs.size = s.heap.objs.size + 1 := Heap.size_push ..
  have he : IsEnum ((s.heap.push (tIter t)).push (enObj s.heap.objs.size)) (s.heap.objs.size + 1) s.heap.objs.size 0 .none := by
    have q := Heap.get?_push_size (s.heap.push (tIter t)) (o := enObj s.heap.objs.size) rfl
    rw [hz] at q
    exact q
  show _ ∧ _
  rw [hz]
  exact ⟨⟨_, he, rfl⟩, h _ he ⟨_, Heap.get?_push_of_some _ (Heap.get?_push_size _ rfl), rfl, rfl⟩ fun b o x => Heap.get?_push_of_some _ (Heap.get?_push_of_some _ x)⟩
/-- the tuple at a, each item in a new pair with its place -/
def ItE (K : PySem.W.Frag) (a : Addr) : It where
  go i H := ∃ (xs : List V) (x : V), SqT K H a xs ∧ xs[i]? = some x
  yld i H v H' := ∃ T x, v = .ref T ∧ H T = none ∧ H' = upd H T (.tup [.int (i : Nat), x]) ∧ ∀ xs, SqT K H a xs → xs[i]? = some x
  stop i H := ∃ xs : List V, SqT K H a xs ∧ xs.length = i
theorem turnE {pr : Program} {wo : World} {K : PySem.W.Frag} {elts : List Expr} {kk : Nat} {tp : Pos} (a e it : Addr) :
    Turn pr wo K (.Tuple elts kk tp) (ItE K a) [e, it] e (fun i h => (∃ old, IsEnum h e it ((i : Nat) : Int) old) ∧ h.IsTupleIter it a i ∧ e ≠ it ∧ e ≠ a ∧ a ≠ it) := by
  have two : ∀ {b : Addr}, b ∈ [e, it] → b = e ∨ b = it := fun hb => by simpa using hb
  constructor
  case mem => exact List.mem_cons_self
  case obj =>
    rintro i h ⟨⟨old, he⟩, ⟨o, ho, hc, hd⟩, _⟩ b hb
    rcases two hb with rfl | rfl
    · exact ⟨_, he, fun v q => nomatch q⟩
    · exact ⟨o, ho, fun v q => by rw [hd] at q; cases q⟩
  case keep =>
    rintro i h h' ⟨⟨old, he⟩, hi, hn⟩ k
    exact ⟨⟨old, k e List.mem_cons_self _ he⟩, hi.at fun o q => k it (List.mem_cons_of_mem _ List.mem_cons_self) o q, hn⟩
  case item =>
    intro X h1 h2 h3 hc i pins s σ H E I hf st hg
    subst h1 h2 h3
    obtain ⟨⟨old, he⟩, hit, hne, hea, hai⟩ := st
    obtain ⟨xs, x, hq, hx⟩ := hg
    obtain ⟨its, rv, p, hz⟩ := I.tuple hq
    have p2 := isTup_isTuple p
    obtain ⟨u, hu, ru⟩ := rv.get hx
    have hel : e < s.heap.objs.size := Heap.lt_size he
    have hil : it < s.heap.objs.size := by obtain ⟨_, q, _⟩ := hit; exact Heap.lt_size q
    have ilt : i < its.toArray.size := by
      have := (List.getElem?_eq_some_iff.mp hu).1
      simpa using this
    refine wpAny_pyNext_enum_itemD (Draws.tuple (A := X.A.in1) (I.ok.hd hc) it a hai its.toArray) he ⟨hit, p2⟩ ilt hne (fun hm => ?_) fun x2 h' tk hP ho hs hT hsz hk => ?_
    · rcases List.mem_cons.mp hm with z | hm
      · exact hne z
      · exact hea (List.mem_singleton.mp hm)
    have hx2 : x2 = u := by
      have hP' : its.toArray[i]? = some x2 := hP
      rw [List.getElem?_toArray, hu] at hP'
      exact (Option.some.inj hP').symm
    subst hx2
    refine ⟨_, rfl, wpAny_letOwnedTupleGo_enum (s := { s with heap := h', toks := tk + 1 }) ho fun h2 he2 sb => ?_⟩
    have hT2 : h2.get? s.heap.objs.size = some { cls := .type "tuple", data := .seq #[.int i tk, x2] } := (sb.2 _ (Nat.ne_of_gt hel)).trans hT
    have new : ObjOk X.prog X.w (upd H s.heap.objs.size (.tup [.int (i : Nat), x])) h2 s.heap.objs.size (.tup [.int (i : Nat), x]) :=
      ⟨by show 2 ≤ sizeLine; decide, [.int i tk, x2], .cons ⟨_, rfl⟩ (.cons ru .nil), ⟨_, hT2, rfl, _, rfl⟩⟩
    have I1 : Inv X pins σ (upd H s.heap.objs.size (.tup [.int (i : Nat), x])) { s with heap := h2, toks := tk + 1 } :=
      I.turnedNew (ch := [e, it]) (fun b ob hb q => (sb.2 b (fun z => hb (by simp [z]))).trans (hk b ob (fun z => hb (by simp [z])) (fun z => hb (by simp [z])) q)) hf (Nat.le_refl _) new
    refine ⟨.ref s.heap.objs.size, _, I1, rfl, ⟨_, x, rfl, I.hok.fresh (Nat.le_refl _), rfl, fun ys hy => by rw [I.tuple_inj hy hq]; exact hx⟩, ⟨⟨x2, ?_⟩, hs.1.at fun o q => (sb.2 it (Ne.symm hne)).trans q, hne, hea, hai⟩, fun b hb => ?_⟩
    · rw [show ((i + 1 : Nat) : Int) = (i : Int) + 1 by omega]
      exact he2
    · have hb2 : b < s.heap.objs.size := by
        rcases two hb with rfl | rfl
        · exact hel
        · exact hil
      rw [upd_ne (Nat.ne_of_lt hb2)]
      exact (hf b hb).1
  case done =>
    intro X h1 h2 h3 hc i pins s σ H E I hf st hg
    subst h1 h2 h3
    obtain ⟨⟨old, he⟩, hit, hne, hea, hai⟩ := st
    obtain ⟨xs, hq, hx⟩ := hg
    obtain ⟨its, rv, p, hz⟩ := I.tuple hq
    obtain ⟨f0, f1, f2, f3, f4, f5⟩ := hf it (List.mem_cons_of_mem _ List.mem_cons_self)
    have hl := rv.length
    have ei : i = its.toArray.size := by simp; omega
    subst ei
    exact wpAny_pyNext_enum_endD (Draws.tuple (A := X.A.in1) (I.ok.hd hc) it a hai its.toArray) he ⟨hit, isTup_isTuple p⟩ fun h2 eb => ⟨rfl, I.turned (t' := s.toks) (fun b o hb q => eb b o hb q) f0 f1 f3 f4 f5⟩
  case self =>
    rintro A i s Q E ⟨⟨_, he⟩, _⟩ h
    exact wpAny_pyIter_enum he h
def iEnumT (K : PySem.W.Frag) (ta : TA) : TI := fun σ H R => ta σ H fun vs H1 => ∃ a xs, vs = [.ref a] ∧ SqT K H1 a xs ∧ R (ItE K a) H1
theorem pi_enumT {X : Cx} {e : Expr} {ta : TA} {p1 p2 p3 : Pos} {elts : List Expr} {kk : Nat} (gl : Gl X "enumerate") (nm : X.mg "enumerate" = none) (pa : PA X [e] ta) (st : starEach [e] X.env = [(false, eval e X.env)] := by rfl) :
    PI X (.Tuple elts kk p3) (.Call (.Name "enumerate" p1) [e] [] p2) (iEnumT X.K ta) := by
  constructor
  intro pins s σ H R I h
  refine Call_ (ld_blt I gl nm boot_enumerate (PyProof.Rows.callWith_type1 (thn (pa.run p2 pins s σ H _ I h) fun us s1 ⟨vs, H1, I1, r1, q1⟩ => ?_) st rfl))
  obtain ⟨a, xs, rfl, hq, q⟩ := q1
  obtain ⟨u, rfl, ru⟩ := vals1 r1
  cases ru
  obtain ⟨its, rv, p, hz⟩ := I1.tuple hq
  have p2 := isTup_isTuple p
  have alt : a < s1.heap.objs.size := by obtain ⟨_, e, _⟩ := p2; exact Heap.lt_size e
  refine enumTup p2 fun h2 he hit hk => wpAny_pyIter_enum he ?_
  have I2 : Inv X pins σ H1 { s1 with heap := h2 } := I1.kept (t' := s1.toks) hk
  refine ⟨s1.heap.objs.size + 1, [s1.heap.objs.size + 1, s1.heap.objs.size], _, _, H1, rfl, I2, turnE a (s1.heap.objs.size + 1) s1.heap.objs.size, ⟨⟨.none, he⟩, hit, Nat.succ_ne_self _, Nat.ne_of_gt (Nat.lt_succ_of_lt alt), Nat.ne_of_lt alt⟩, fun b hb => ?_, q⟩
  have hle : s1.heap.objs.size ≤ b := by
    rcases List.mem_cons.mp hb with rfl | hb
    · omega
    · rw [List.mem_singleton.mp hb]
      exact Nat.le_refl _
  exact I1.fpOk hle (I1.hok.fresh hle)
/-! loops over pairs: the pair is a new tuple -/
section
variable {K : PySem.W.Frag} {a b : Addr} {xs ys : List V} {g : TG} {tb : TS} {D : Ends} {σ : L2.St} {H : Hp}
theorem for_enumT (Pv : Nat → L2.St → Hp → Prop) (h0 : Pv 0 σ H) (hl : ∀ i σ H, i ≤ xs.length → Pv i σ H → SqT K H a xs)
    (hs : ∀ (i : Nat) x T σ H, xs[i]? = some x → Pv i σ H → H T = none → g (.ref T) σ (upd H T (.tup [.int (i : Int), x])) fun σ2 H2 => tb { D with nx := Pv (i + 1), ct := Pv (i + 1), bk := D.nx } σ2 H2) (hd : ∀ σ H, Pv xs.length σ H → D.nx σ H) :
    ∃ W : Nat → Nat → L2.St → Hp → Prop, (∃ m, W 0 m σ H) ∧ ∀ i m σ H, W i m σ H →
      ((ItE K a).stop i H ∧ D.nx σ H) ∨ ((ItE K a).go i H ∧ ∃ N : L2.St → Hp → Prop, (∀ σ' H', N σ' H' → ∃ m', m' < m ∧ W (i + 1) m' σ' H') ∧ ∀ x H', (ItE K a).yld i H x H' → g x σ H' fun σ2 H2 => tb { D with nx := N, ct := N, bk := D.nx } σ2 H2) := by
  refine ⟨fun i m σ H => m = xs.length - i ∧ i ≤ xs.length ∧ Pv i σ H, ⟨xs.length, rfl, Nat.zero_le _, h0⟩, ?_⟩
  rintro i m σ H ⟨rfl, hi, p⟩
  have q := hl i σ H hi p
  by_cases hlt : i < xs.length
  · have hx : xs[i]? = some xs[i] := List.getElem?_eq_getElem hlt
    refine .inr ⟨⟨xs, _, q, hx⟩, Pv (i + 1), fun σ' H' p' => ⟨xs.length - (i + 1), by omega, rfl, hlt, p'⟩, ?_⟩
    rintro v H' ⟨T, x, rfl, nT, rfl, f⟩
    exact hs i x T σ H (f xs q) p nT
  · cases (show i = xs.length by omega)
    exact .inl ⟨⟨xs, q, rfl⟩, hd σ H p⟩
theorem for_enumL (Pv : Nat → L2.St → Hp → Prop) (h0 : Pv 0 σ H) (hl : ∀ i σ H, i ≤ xs.length → Pv i σ H → SqL K H a xs)
    (hs : ∀ (i : Nat) x T σ H, xs[i]? = some x → Pv i σ H → H T = none → g (.ref T) σ (upd H T (.tup [.int (i : Int), x])) fun σ2 H2 => tb { D with nx := Pv (i + 1), ct := Pv (i + 1), bk := D.nx } σ2 H2) (hd : ∀ σ H, Pv xs.length σ H → D.nx σ H) :
    ∃ W : Nat → Nat → L2.St → Hp → Prop, (∃ m, W 0 m σ H) ∧ ∀ i m σ H, W i m σ H →
      ((Ite K a).stop i H ∧ D.nx σ H) ∨ ((Ite K a).go i H ∧ ∃ N : L2.St → Hp → Prop, (∀ σ' H', N σ' H' → ∃ m', m' < m ∧ W (i + 1) m' σ' H') ∧ ∀ x H', (Ite K a).yld i H x H' → g x σ H' fun σ2 H2 => tb { D with nx := N, ct := N, bk := D.nx } σ2 H2) := by
  refine ⟨fun i m σ H => m = xs.length - i ∧ i ≤ xs.length ∧ Pv i σ H, ⟨xs.length, rfl, Nat.zero_le _, h0⟩, ?_⟩
  rintro i m σ H ⟨rfl, hi, p⟩
  have q := hl i σ H hi p
  by_cases hlt : i < xs.length
  · have hx : xs[i]? = some xs[i] := List.getElem?_eq_getElem hlt
    refine .inr ⟨⟨xs, _, q, hx⟩, Pv (i + 1), fun σ' H' p' => ⟨xs.length - (i + 1), by omega, rfl, hlt, p'⟩, ?_⟩
    rintro v H' ⟨T, x, rfl, nT, rfl, f⟩
    exact hs i x T σ H (f xs q) p nT
  · cases (show i = xs.length by omega)
    exact .inl ⟨⟨xs, q, Nat.le_refl _⟩, hd σ H p⟩
/-- zip of two lists: as long as the shorter one -/
theorem for_zipLm (n : Nat) (hn : n = min xs.length ys.length) (Pv : Nat → L2.St → Hp → Prop) (h0 : Pv 0 σ H) (hq : ∀ i σ H, Pv i σ H → SqL K H a xs ∧ SqL K H b ys)
    (hs : ∀ (i : Nat) (x y : V) (T : Addr) (σ : L2.St) (H : Hp), xs[i]? = some x → ys[i]? = some y → Pv i σ H → H T = none → g (.ref T) σ (upd H T (.tup [x, y])) fun σ2 H2 => tb { D with nx := Pv (i + 1), ct := Pv (i + 1), bk := D.nx } σ2 H2) (hd : ∀ σ H, Pv n σ H → D.nx σ H) :
    ∃ W : Nat → Nat → L2.St → Hp → Prop, (∃ m, W 0 m σ H) ∧ ∀ i m σ H, W i m σ H →
      ((Itz K a b).stop i H ∧ D.nx σ H) ∨ ((Itz K a b).go i H ∧ ∃ N : L2.St → Hp → Prop, (∀ σ' H', N σ' H' → ∃ m', m' < m ∧ W (i + 1) m' σ' H') ∧ ∀ v H', (Itz K a b).yld i H v H' → g v σ H' fun σ2 H2 => tb { D with nx := N, ct := N, bk := D.nx } σ2 H2) := by
  refine ⟨fun i m σ H => m = n - i ∧ i ≤ n ∧ Pv i σ H, ⟨n, rfl, Nat.zero_le _, h0⟩, ?_⟩
  rintro i m σ H ⟨rfl, hi, p⟩
  obtain ⟨qx, qy⟩ := hq i σ H p
  by_cases hlt : i < n
  · have l1 : i < xs.length := by omega
    have l2 : i < ys.length := by omega
    refine .inr ⟨⟨xs, ys, _, _, qx, qy, List.getElem?_eq_getElem l1, List.getElem?_eq_getElem l2⟩, Pv (i + 1), fun σ' H' p' => ⟨n - (i + 1), by omega, rfl, hlt, p'⟩, ?_⟩
    rintro v H' ⟨T, x, y, rfl, nT, rfl, f1, f2⟩
    exact hs i x y T σ H (f1 _ qx) (f2 _ qy) p nT
  · cases (show i = n by omega)
    exact .inl ⟨⟨xs, ys, qx, qy, by omega⟩, hd σ H p⟩
end
end Rb
namespace Rb
/-! ### plans and ticks: the mathematics -/
def mx (a b : Int) : Int := if b > a then b else a
def leP (p q : Int × Int) : Prop := p.1 < q.1 ∨ (p.1 = q.1 ∧ p.2 ≤ q.2)
instance (p q : Int × Int) : Decidable (leP p q) := inferInstanceAs (Decidable (p.1 < q.1 ∨ (p.1 = q.1 ∧ p.2 ≤ q.2)))
def insB {α : Type} (le : α → α → Bool) (x : α) : List α → List α
  | [] => [x]
  | y :: ys => if le x y = true then x :: y :: ys else y :: insB le x ys
def sortB {α : Type} (le : α → α → Bool) : List α → List α
  | [] => []
  | x :: xs => insB le x (sortB le xs)
theorem insB_perm {α : Type} (le : α → α → Bool) (x : α) : ∀ l : List α, (insB le x l).Perm (x :: l)
  | [] => List.Perm.refl _
  | y :: ys => by
    unfold insB
    split
    · exact List.Perm.refl _
    · exact ((insB_perm le x ys).cons y).trans (List.Perm.swap x y ys)
theorem sortB_perm {α : Type} (le : α → α → Bool) : ∀ l : List α, (sortB le l).Perm l
  | [] => List.Perm.refl _
  | x :: xs => (insB_perm le x _).trans ((sortB_perm le xs).cons x)
theorem insB_sorted {α : Type} {le : α → α → Bool} (tr : ∀ a b c, le a b = true → le b c = true → le a c = true) (tot : ∀ a b, le a b = true ∨ le b a = true) (x : α) : ∀ l : List α, l.Pairwise (fun a b => le a b = true) → (insB le x l).Pairwise (fun a b => le a b = true)
  | [], _ => List.pairwise_singleton _ _
  | y :: ys, h => by
    have hy := List.pairwise_cons.mp h
    unfold insB
    split
    · rename_i c
      refine List.pairwise_cons.mpr ⟨fun z hz => ?_, h⟩
      rcases List.mem_cons.mp hz with rfl | hz
      · exact c
      · exact tr _ _ _ c (hy.1 z hz)
    · rename_i c
      refine List.pairwise_cons.mpr ⟨fun z hz => ?_, insB_sorted tr tot x ys hy.2⟩
      rcases List.mem_cons.mp ((insB_perm le x ys).mem_iff.mp hz) with rfl | hz
      · exact (tot z y).resolve_left c
      · exact hy.1 z hz
theorem sortB_sorted {α : Type} {le : α → α → Bool} (tr : ∀ a b c, le a b = true → le b c = true → le a c = true) (tot : ∀ a b, le a b = true ∨ le b a = true) : ∀ l : List α, (sortB le l).Pairwise (fun a b => le a b = true)
  | [] => List.Pairwise.nil
  | x :: xs => insB_sorted tr tot x _ (sortB_sorted tr tot xs)
def srt (l : List Int) : List Int := sortB (fun a b => decide (a ≤ b)) l
def srtP (l : List (Int × Int)) : List (Int × Int) := sortB (fun a b => decide (leP a b)) l
theorem srt_perm (l : List Int) : (srt l).Perm l := sortB_perm _ l
theorem srtP_perm (l : List (Int × Int)) : (srtP l).Perm l := sortB_perm _ l
theorem srt_sorted (l : List Int) : (srt l).Pairwise (· ≤ ·) := by
  have h := sortB_sorted (le := fun a b : Int => decide (a ≤ b)) (fun a b c h1 h2 => by simp only [decide_eq_true_eq] at *; omega) (fun a b => by simp only [decide_eq_true_eq]; omega) l
  exact h.imp fun h => of_decide_eq_true h
theorem leP_trans {a b c : Int × Int} (h1 : leP a b) (h2 : leP b c) : leP a c := by
  unfold leP at *
  omega
theorem leP_total (a b : Int × Int) : leP a b ∨ leP b a := by
  unfold leP
  omega
theorem srtP_sorted (l : List (Int × Int)) : (srtP l).Pairwise leP := by
  have h := sortB_sorted (le := fun a b : Int × Int => decide (leP a b)) (fun a b c h1 h2 => decide_eq_true (leP_trans (of_decide_eq_true h1) (of_decide_eq_true h2))) (fun a b => by rcases leP_total a b with h | h <;> simp [h]) l
  exact h.imp fun h => of_decide_eq_true h
theorem leP_anti {a b : Int × Int} (h1 : leP a b) (h2 : leP b a) : a = b := by
  obtain ⟨a1, a2⟩ := a
  obtain ⟨b1, b2⟩ := b
  simp only [leP] at h1 h2
  have : a1 = b1 := by omega
  have : a2 = b2 := by omega
  simp [*]
theorem srt_uniq {l m : List Int} (hp : m.Perm l) (hs : m.Pairwise (· ≤ ·)) : m = srt l :=
  List.Perm.eq_of_pairwise (fun a b _ _ h1 h2 => Int.le_antisymm h1 h2) hs (srt_sorted l) (hp.trans (srt_perm l).symm)
theorem srtP_uniq {l m : List (Int × Int)} (hp : m.Perm l) (hs : m.Pairwise leP) : m = srtP l :=
  List.Perm.eq_of_pairwise (fun a b _ _ h1 h2 => leP_anti h1 h2) hs (srtP_sorted l) (hp.trans (srtP_perm l).symm)
theorem srt_len (l : List Int) : (srt l).length = l.length := (srt_perm l).length_eq
theorem srtP_len (l : List (Int × Int)) : (srtP l).length = l.length := (srtP_perm l).length_eq
/-- places set one after another -/
def setF (l : List Int) (zs : List (Nat × Int)) : List Int := zs.foldl (fun l z => l.set z.1 z.2) l
theorem setF_len : ∀ (zs : List (Nat × Int)) (l : List Int), (setF l zs).length = l.length
  | [], _ => rfl
  | z :: zs, l => by
    show (setF (l.set z.1 z.2) zs).length = _
    rw [setF_len zs, List.length_set]
theorem setF_snoc (l : List Int) (zs : List (Nat × Int)) (z : Nat × Int) : setF l (zs ++ [z]) = (setF l zs).set z.1 z.2 := by
  unfold setF
  rw [List.foldl_append]
  rfl
theorem setF_out : ∀ (zs : List (Nat × Int)) (l : List Int) (p : Nat), (∀ z ∈ zs, z.1 ≠ p) → (setF l zs)[p]? = l[p]?
  | [], _, _, _ => rfl
  | z :: zs, l, p, h => by
    show (setF (l.set z.1 z.2) zs)[p]? = _
    rw [setF_out zs _ p fun y hy => h y (List.mem_cons_of_mem _ hy), List.getElem?_set, if_neg (h z List.mem_cons_self)]
theorem setF_in : ∀ (zs : List (Nat × Int)) (l : List Int) (p : Nat) (x : Int), (zs.map (·.1)).Nodup → (p, x) ∈ zs → p < l.length → (setF l zs)[p]? = some x
  | [], _, _, _, _, h, _ => nomatch h
  | z :: zs, l, p, x, nd, h, hp => by
    show (setF (l.set z.1 z.2) zs)[p]? = _
    have nd' := List.nodup_cons.mp nd
    rcases List.mem_cons.mp h with e | h
    · subst e
      rw [setF_out zs _ p fun y hy e => nd'.1 (List.mem_map.mpr ⟨y, hy, e⟩), List.getElem?_set, if_pos rfl, if_pos hp]
    · exact setF_in zs _ p x nd'.2 h (by rw [List.length_set]; exact hp)
/-! one stage -/
section
variable (ticks : List Int) (riders brought : List Nat) (st : Nat) (walk ride : Int)
def tickAt (p : Nat) : Int := ticks.getD p 0
def queueM : List (Int × Int) := srtP (riders.map fun p => (tickAt ticks p, (p : Int)))
def bikesM : List Int := srt (List.replicate st 0 ++ brought.map fun p => tickAt ticks p)
def pairsM : List ((Int × Int) × Int) := (queueM ticks riders).zip (bikesM ticks brought st)
def leaveM : List Int := setF ticks ((pairsM ticks riders brought st).map fun z => (z.1.2.toNat, mx z.1.1 z.2))
def rowM : List Int := (leaveM ticks riders brought st).mapIdx fun p t => t + if p ∈ riders then ride else walk
end
section
variable {ticks : List Int} {riders brought : List Nat} {st : Nat} {walk ride : Int}
theorem queueM_len : (queueM ticks riders).length = riders.length := by
  unfold queueM
  rw [srtP_len, List.length_map]
theorem bikesM_len : (bikesM ticks brought st).length = st + brought.length := by
  unfold bikesM
  rw [srt_len, List.length_append, List.length_replicate, List.length_map]
theorem pairsM_len (h : riders.length ≤ st + brought.length) : (pairsM ticks riders brought st).length = riders.length := by
  unfold pairsM
  rw [List.length_zip, queueM_len, bikesM_len]
  omega
theorem leaveM_len : (leaveM ticks riders brought st).length = ticks.length := setF_len _ _
theorem rowM_len : (rowM ticks riders brought st walk ride).length = ticks.length := by
  unfold rowM
  rw [List.length_mapIdx, leaveM_len]
/-- the people of the pairs are the riders -/
theorem pairs_people (h : riders.length ≤ st + brought.length) : ((pairsM ticks riders brought st).map fun z => z.1.2.toNat).Perm riders := by
  have e : (pairsM ticks riders brought st).map (fun z => z.1.2.toNat) = (queueM ticks riders).map (fun z => z.2.toNat) := by
    unfold pairsM
    rw [show (fun z : (Int × Int) × Int => z.1.2.toNat) = (fun z : Int × Int => z.2.toNat) ∘ Prod.fst from rfl, ← List.map_map, List.map_fst_zip (by rw [queueM_len, bikesM_len]; exact h)]
  rw [e]
  have p := (srtP_perm (riders.map fun p => (tickAt ticks p, (p : Int)))).map fun z => z.2.toNat
  rw [List.map_map] at p
  have e2 : riders.map ((fun z : Int × Int => z.2.toNat) ∘ fun p => (tickAt ticks p, (p : Int))) = riders := by
    rw [show ((fun z : Int × Int => z.2.toNat) ∘ fun p : Nat => (tickAt ticks p, (p : Int))) = id from funext fun p => Int.toNat_natCast p, List.map_id]
  rw [e2] at p
  exact p
theorem pairs_mem {z : (Int × Int) × Int} (h : z ∈ pairsM ticks riders brought st) : ∃ p ∈ riders, z.1 = (tickAt ticks p, (p : Int)) := by
  have h1 : z.1 ∈ queueM ticks riders := (List.of_mem_zip (show (z.1, z.2) ∈ (queueM ticks riders).zip _ from h)).1
  have h2 := (srtP_perm _).mem_iff.mp h1
  obtain ⟨p, hp, e⟩ := List.mem_map.mp h2
  exact ⟨p, hp, e.symm⟩
/-- who leaves when -/
theorem leave_in (h : riders.length ≤ st + brought.length) (nd : riders.Nodup) {p : Nat} (hp : p ∈ riders) (hl : p < ticks.length) :
    ∃ b, ((tickAt ticks p, (p : Int)), b) ∈ pairsM ticks riders brought st ∧ (leaveM ticks riders brought st)[p]? = some (mx (tickAt ticks p) b) := by
  have pp := pairs_people (ticks := ticks) h
  obtain ⟨z, hz, e⟩ := List.mem_map.mp (pp.mem_iff.mpr hp)
  obtain ⟨p2, hp2, e2⟩ := pairs_mem hz
  have : p2 = p := by
    rw [e2] at e
    simpa using e
  subst this
  obtain ⟨z1, b⟩ := z
  simp only at e2
  subst e2
  refine ⟨b, hz, ?_⟩
  refine setF_in _ _ p2 _ ?_ (List.mem_map.mpr ⟨_, hz, by simp⟩) hl
  rw [List.map_map]
  exact pp.nodup_iff.mpr nd
theorem leave_out {p : Nat} (hp : p ∉ riders) : (leaveM ticks riders brought st)[p]? = ticks[p]? := by
  refine setF_out _ _ p fun y hy e => ?_
  obtain ⟨z, hz, rfl⟩ := List.mem_map.mp hy
  obtain ⟨p2, hp2, e2⟩ := pairs_mem hz
  simp only [e2] at e
  have : p2 = p := by simpa using e
  exact hp (this ▸ hp2)
/-! the law's own way: the same pairs, rides added at once, then the walkers -/
def afterM (ticks : List Int) (riders brought : List Nat) (st : Nat) (ride : Int) (i : Nat) : List Int := setF ticks (((pairsM ticks riders brought st).take i).map fun z => (z.1.2.toNat, mx z.2 z.1.1 + ride))
def walkM (l : List Int) (riders : List Nat) (walk : Int) (k : Nat) : List Int := l.mapIdx fun p t => if p < k ∧ p ∉ riders then t + walk else t
theorem mx_comm (a b : Int) : mx a b = mx b a := by
  unfold mx
  split <;> split <;> omega
theorem after_row (h : riders.length ≤ st + brought.length) (nd : riders.Nodup) (hr : ∀ p ∈ riders, p < ticks.length) :
    walkM (afterM ticks riders brought st ride riders.length) riders walk ticks.length = rowM ticks riders brought st walk ride := by
  apply List.ext_getElem?
  intro p
  unfold walkM rowM
  rw [List.getElem?_mapIdx, List.getElem?_mapIdx]
  have hz : (pairsM ticks riders brought st).take riders.length = pairsM ticks riders brought st := List.take_of_length_le (by rw [pairsM_len h]; exact Nat.le_refl _)
  unfold afterM
  rw [hz]
  by_cases hp : p ∈ riders
  · obtain ⟨b, hb, e⟩ := leave_in h nd hp (hr p hp)
    rw [e]
    have e2 : (setF ticks ((pairsM ticks riders brought st).map fun z => (z.1.2.toNat, mx z.2 z.1.1 + ride)))[p]? = some (mx b (tickAt ticks p) + ride) := by
      refine setF_in _ _ p _ ?_ (List.mem_map.mpr ⟨_, hb, by simp⟩) (hr p hp)
      rw [List.map_map]
      exact (pairs_people (ticks := ticks) h).nodup_iff.mpr nd
    rw [e2]
    simp only [Option.map_some, hp, not_true_eq_false, and_false, if_false, if_true]
    rw [mx_comm]
  · rw [leave_out hp]
    have e2 : (setF ticks ((pairsM ticks riders brought st).map fun z => (z.1.2.toNat, mx z.2 z.1.1 + ride)))[p]? = ticks[p]? := by
      refine setF_out _ _ p fun y hy e => ?_
      obtain ⟨z, hz, rfl⟩ := List.mem_map.mp hy
      obtain ⟨p2, hp2, e2⟩ := pairs_mem hz
      simp only [e2] at e
      have : p2 = p := by simpa using e
      exact hp (this ▸ hp2)
    rw [e2]
    by_cases hl : p < ticks.length
    · rw [List.getElem?_eq_getElem hl]
      simp only [Option.map_some, hp, hl, not_false_eq_true, and_self, if_true, if_false]
    · rw [List.getElem?_eq_none (by omega)]
      rfl
end
/-! a whole plan: the ticks at each station -/
structure PlanOk (bikes : List Int) (n : Nat) (plan : List (List Nat)) : Prop where
  len : plan.length = bikes.length
  nn : ∀ b ∈ bikes, 0 ≤ b
  asc : ∀ r ∈ plan, r.Pairwise (· < ·)
  lt : ∀ r ∈ plan, ∀ p ∈ r, p < n
  few : ∀ i, (plan.getD i []).length ≤ (bikes.getD i 0).toNat + (if i = 0 then 0 else (plan.getD (i - 1) []).length)
def brM (plan : List (List Nat)) (i : Nat) : List Nat := if i = 0 then [] else plan.getD (i - 1) []
def tkM (walk ride : Int) (bikes starts : List Int) (plan : List (List Nat)) : Nat → List Int
  | 0 => starts
  | i + 1 => rowM (tkM walk ride bikes starts plan i) (plan.getD i []) (brM plan i) (bikes.getD i 0).toNat walk ride
theorem tkM_len {walk ride : Int} {bikes starts : List Int} {plan : List (List Nat)} : ∀ i, (tkM walk ride bikes starts plan i).length = starts.length
  | 0 => rfl
  | i + 1 => by
    show (rowM _ _ _ _ _ _).length = _
    rw [rowM_len, tkM_len i]
def rowsM (walk ride : Int) (bikes starts : List Int) (plan : List (List Nat)) (m : Nat) : List (List Int) := (List.range (m + 1)).map (tkM walk ride bikes starts plan)
/-! waits -/
def waitsI (w0 ticks : List Int) (riders brought : List Nat) (st k : Nat) : List Int := setF w0 (((pairsM ticks riders brought st).take k).map fun z => (z.1.2.toNat, w0.getD z.1.2.toNat 0 + mx 0 (z.2 - z.1.1)))
def wtM (walk ride : Int) (bikes starts : List Int) (plan : List (List Nat)) : Nat → List Int
  | 0 => List.replicate starts.length 0
  | i + 1 => waitsI (wtM walk ride bikes starts plan i) (tkM walk ride bikes starts plan i) (plan.getD i []) (brM plan i) (bikes.getD i 0).toNat (plan.getD i []).length
theorem waitsI_len {w0 ticks : List Int} {riders brought : List Nat} {st k : Nat} : (waitsI w0 ticks riders brought st k).length = w0.length := setF_len _ _
theorem wtM_len {walk ride : Int} {bikes starts : List Int} {plan : List (List Nat)} : ∀ i, (wtM walk ride bikes starts plan i).length = starts.length
  | 0 => List.length_replicate
  | i + 1 => by
    show (waitsI _ _ _ _ _ _).length = _
    rw [waitsI_len, wtM_len i]
theorem afterM_len {ticks : List Int} {riders brought : List Nat} {st : Nat} {ride : Int} {k : Nat} : (afterM ticks riders brought st ride k).length = ticks.length := setF_len _ _
section
variable {ticks w0 : List Int} {riders brought : List Nat} {st k : Nat} {ride : Int} {z : (Int × Int) × Int}
theorem take_snoc (hz : (pairsM ticks riders brought st)[k]? = some z) : (pairsM ticks riders brought st).take (k + 1) = (pairsM ticks riders brought st).take k ++ [z] := by
  rw [List.take_add_one, hz]
  rfl
theorem afterM_succ (hz : (pairsM ticks riders brought st)[k]? = some z) : afterM ticks riders brought st ride (k + 1) = (afterM ticks riders brought st ride k).set z.1.2.toNat (mx z.2 z.1.1 + ride) := by
  unfold afterM
  rw [take_snoc hz, List.map_append]
  exact setF_snoc _ _ _
theorem waitsI_succ (hz : (pairsM ticks riders brought st)[k]? = some z) : waitsI w0 ticks riders brought st (k + 1) = (waitsI w0 ticks riders brought st k).set z.1.2.toNat (w0.getD z.1.2.toNat 0 + mx 0 (z.2 - z.1.1)) := by
  unfold waitsI
  rw [take_snoc hz, List.map_append]
  exact setF_snoc _ _ _
/-- a rider's wait is not set before the rider's turn -/
theorem waitsI_at (h : riders.length ≤ st + brought.length) (nd : riders.Nodup) (hz : (pairsM ticks riders brought st)[k]? = some z) : (waitsI w0 ticks riders brought st k)[z.1.2.toNat]? = w0[z.1.2.toNat]? := by
  refine setF_out _ _ _ fun y hy e => ?_
  obtain ⟨x, hx, rfl⟩ := List.mem_map.mp hy
  obtain ⟨j, hj, ej⟩ := List.getElem_of_mem hx
  rw [List.length_take] at hj
  have pn : ((pairsM ticks riders brought st).map fun z => z.1.2.toNat).Nodup := (pairs_people (ticks := ticks) h).nodup_iff.mpr nd
  have kl : k < (pairsM ticks riders brought st).length := (List.getElem?_eq_some_iff.mp hz).1
  have ek : (pairsM ticks riders brought st)[k] = z := (List.getElem?_eq_some_iff.mp hz).2
  rw [List.getElem_take] at ej
  have jl : j < (pairsM ticks riders brought st).length := by omega
  have ne := List.pairwise_iff_getElem.mp (List.nodup_iff_pairwise_ne.mp pn) j k (by rw [List.length_map]; exact jl) (by rw [List.length_map]; exact kl) (by omega)
  rw [List.getElem_map, List.getElem_map, ej, ek] at ne
  exact ne e
theorem walkM_len {l : List Int} {walk : Int} : (walkM l riders walk k).length = l.length := by
  unfold walkM
  rw [List.length_mapIdx]
theorem walkM_zero {l : List Int} {walk : Int} : walkM l riders walk 0 = l := by
  unfold walkM
  apply List.ext_getElem?
  intro p
  rw [List.getElem?_mapIdx]
  cases l[p]? with
  | none => rfl
  | some x => simp
theorem walkM_in {l : List Int} {walk : Int} (h : k ∈ riders) : walkM l riders walk (k + 1) = walkM l riders walk k := by
  unfold walkM
  apply List.ext_getElem?
  intro p
  rw [List.getElem?_mapIdx, List.getElem?_mapIdx]
  cases l[p]? with
  | none => rfl
  | some x =>
    have e : (p < k + 1 ∧ p ∉ riders) ↔ (p < k ∧ p ∉ riders) := by
      constructor
      · rintro ⟨a, b⟩
        refine ⟨?_, b⟩
        rcases Nat.lt_or_ge p k with c | c
        · exact c
        · have : p = k := by omega
          exact absurd (this ▸ h) b
      · rintro ⟨a, b⟩
        exact ⟨by omega, b⟩
    simp only [Option.map_some, e]
theorem walkM_out {l : List Int} {walk x : Int} (h : k ∉ riders) (hx : (walkM l riders walk k)[k]? = some x) : walkM l riders walk (k + 1) = (walkM l riders walk k).set k (x + walk) := by
  have kl : k < l.length := by
    have := (List.getElem?_eq_some_iff.mp hx).1
    rw [walkM_len] at this
    exact this
  apply List.ext_getElem?
  intro p
  rw [List.getElem?_set]
  by_cases e : k = p
  · subst e
    rw [if_pos rfl, if_pos (by rw [walkM_len]; exact kl)]
    unfold walkM at hx ⊢
    rw [List.getElem?_mapIdx, List.getElem?_eq_getElem kl] at hx ⊢
    simp only [Option.map_some, Nat.lt_irrefl, false_and, if_false, Option.some.injEq] at hx
    simp only [Option.map_some, Nat.lt_succ_self, h, not_false_eq_true, and_self, if_true, hx]
  · rw [if_neg e]
    unfold walkM
    rw [List.getElem?_mapIdx, List.getElem?_mapIdx]
    cases l[p]? with
    | none => rfl
    | some y =>
      have e2 : (p < k + 1 ∧ p ∉ riders) ↔ (p < k ∧ p ∉ riders) := by
        constructor <;> (rintro ⟨a, b⟩; exact ⟨by omega, b⟩)
      simp only [Option.map_some, e2]
end
/-- a least item of what is left is the next in order -/
theorem least_next {S l : List (Int × Int)} {k : Nat} {m : Int × Int} (hs : S.Pairwise leP) (hp : l.Perm (S.drop k)) (hm : m ∈ l) (hle : ∀ q ∈ l, leP m q) : S[k]? = some m ∧ S.drop k = m :: S.drop (k + 1) := by
  have hm2 := hp.mem_iff.mp hm
  have kl : k < S.length := by
    rcases Nat.lt_or_ge k S.length with c | c
    · exact c
    · rw [List.drop_of_length_le c] at hm2
      cases hm2
  have ed : S.drop k = S[k] :: S.drop (k + 1) := List.drop_eq_getElem_cons kl
  have h1 : leP m S[k] := hle _ (hp.mem_iff.mpr (by rw [ed]; exact List.mem_cons_self))
  have h2 : leP S[k] m := by
    have hs2 : (S.drop k).Pairwise leP := hs.sublist (List.drop_sublist _ _)
    rw [ed] at hs2 hm2
    rcases List.mem_cons.mp hm2 with e | e
    · rw [e]
      exact .inr ⟨rfl, Int.le_refl _⟩
    · exact (List.pairwise_cons.mp hs2).1 m e
  have e := leP_anti h1 h2
  exact ⟨by rw [List.getElem?_eq_getElem kl, e], by rw [e]; exact ed⟩
theorem least_nextI {S l : List Int} {k : Nat} {m : Int} (hs : S.Pairwise (· ≤ ·)) (hp : l.Perm (S.drop k)) (hm : m ∈ l) (hle : ∀ q ∈ l, m ≤ q) : S[k]? = some m ∧ S.drop k = m :: S.drop (k + 1) := by
  have hm2 := hp.mem_iff.mp hm
  have kl : k < S.length := by
    rcases Nat.lt_or_ge k S.length with c | c
    · exact c
    · rw [List.drop_of_length_le c] at hm2
      cases hm2
  have ed : S.drop k = S[k] :: S.drop (k + 1) := List.drop_eq_getElem_cons kl
  have h1 : m ≤ S[k] := hle _ (hp.mem_iff.mpr (by rw [ed]; exact List.mem_cons_self))
  have h2 : S[k] ≤ m := by
    have hs2 : (S.drop k).Pairwise (· ≤ ·) := hs.sublist (List.drop_sublist _ _)
    rw [ed] at hs2 hm2
    rcases List.mem_cons.mp hm2 with e | e
    · omega
    · exact (List.pairwise_cons.mp hs2).1 m e
  have e : m = S[k] := by omega
  exact ⟨by rw [List.getElem?_eq_getElem kl, e], by rw [e]; exact ed⟩
theorem first_idx {α : Type} [DecidableEq α] {l : List α} {m : α} (h : m ∈ l) : ∃ j : Nat, l[j]? = some m ∧ ∀ i : Nat, i < j → l[i]? ≠ some m := by
  induction l with
  | nil => cases h
  | cons x r ih =>
    by_cases e : x = m
    · exact ⟨0, by rw [e]; rfl, fun i hi => absurd hi (Nat.not_lt_zero _)⟩
    · rcases List.mem_cons.mp h with h | h
      · exact absurd h.symm e
      · obtain ⟨j, h1, h2⟩ := ih h
        refine ⟨j + 1, h1, fun i hi => ?_⟩
        cases i with
        | zero => exact fun z => e (Option.some.inj z)
        | succ i => exact h2 i (by omega)
theorem erase_next {α : Type} {l r : List α} {m : α} {j : Nat} (hj : l[j]? = some m) (hp : l.Perm (m :: r)) : (l.eraseIdx j).Perm r := by
  have h : (m :: l.eraseIdx j).Perm l := by
    clear hp
    induction l generalizing j with
    | nil => simp at hj
    | cons x l ih =>
      cases j with
      | zero =>
        cases hj
        exact List.Perm.refl _
      | succ j => exact (List.Perm.swap x m _).trans ((ih hj).cons x)
  exact (h.trans hp).cons_inv
/-! bounds -/
def Bnd (M : Int) (l : List Int) : Prop := ∀ x ∈ l, 0 ≤ x ∧ x ≤ M
theorem setF_mem : ∀ (zs : List (Nat × Int)) (l : List Int) (x : Int), x ∈ setF l zs → x ∈ l ∨ ∃ z ∈ zs, x = z.2
  | [], _, _, h => .inl h
  | z :: zs, l, x, h => by
    rcases setF_mem zs (l.set z.1 z.2) x h with h | ⟨y, hy, e⟩
    · rcases List.mem_or_eq_of_mem_set h with h | h
      · exact .inl h
      · exact .inr ⟨z, List.mem_cons_self, h⟩
    · exact .inr ⟨y, List.mem_cons_of_mem _ hy, e⟩
theorem tickAt_bnd {M : Int} {ticks : List Int} (hM : 0 ≤ M) (h : Bnd M ticks) (p : Nat) : 0 ≤ tickAt ticks p ∧ tickAt ticks p ≤ M := by
  unfold tickAt
  rw [List.getD_eq_getElem?_getD]
  cases e : ticks[p]? with
  | none => exact ⟨Int.le_refl _, hM⟩
  | some x => exact h x (List.mem_of_getElem? e)
theorem leave_bnd {M : Int} {ticks : List Int} {riders brought : List Nat} {st : Nat} (hM : 0 ≤ M) (h : Bnd M ticks) : Bnd M (leaveM ticks riders brought st) := by
  intro x hx
  rcases setF_mem _ _ x hx with g | ⟨z, hz, rfl⟩
  · exact h x g
  · obtain ⟨y, hy, rfl⟩ := List.mem_map.mp hz
    obtain ⟨p, hp, e⟩ := pairs_mem hy
    have hb : y.2 ∈ bikesM ticks brought st := (List.of_mem_zip (show (y.1, y.2) ∈ (queueM ticks riders).zip (bikesM ticks brought st) from hy)).2
    have hb2 : 0 ≤ y.2 ∧ y.2 ≤ M := by
      rcases List.mem_append.mp ((srt_perm _).mem_iff.mp hb) with g | g
      · rw [List.eq_of_mem_replicate g]
        exact ⟨Int.le_refl _, hM⟩
      · obtain ⟨q, _, e2⟩ := List.mem_map.mp g
        rw [← e2]
        exact tickAt_bnd hM h q
    have ht := tickAt_bnd hM h p
    have e1 : y.1.1 = tickAt ticks p := by rw [e]
    show 0 ≤ mx y.1.1 y.2 ∧ mx y.1.1 y.2 ≤ M
    unfold mx
    split <;> omega
theorem row_bnd {M walk ride : Int} {ticks : List Int} {riders brought : List Nat} {st : Nat} (hM : 0 ≤ M) (h : Bnd M ticks) (hw : 0 ≤ walk ∧ walk ≤ 1000) (hr : 0 ≤ ride ∧ ride ≤ 1000) : Bnd (M + 1000) (rowM ticks riders brought st walk ride) := by
  intro x hx
  obtain ⟨i, hi, e⟩ := List.getElem_of_mem hx
  unfold rowM at hi e
  rw [List.getElem_mapIdx] at e
  rw [List.length_mapIdx] at hi
  have g := leave_bnd (riders := riders) (brought := brought) (st := st) hM h _ (List.getElem_mem hi)
  split at e <;> omega
theorem tk_bnd {walk ride M : Int} {bikes starts : List Int} {plan : List (List Nat)} (hM : 0 ≤ M) (h : Bnd M starts) (hw : 0 ≤ walk ∧ walk ≤ 1000) (hr : 0 ≤ ride ∧ ride ≤ 1000) : ∀ i : Nat, Bnd (M + 1000 * i) (tkM walk ride bikes starts plan i)
  | 0 => fun x hx => by have := h x hx; omega
  | i + 1 => by
    have g := row_bnd (riders := plan.getD i []) (brought := brM plan i) (st := (bikes.getD i 0).toNat) (by omega) (tk_bnd (bikes := bikes) (plan := plan) hM h hw hr i) hw hr
    intro x hx
    have := g x hx
    have e : ((i + 1 : Nat) : Int) = (i : Int) + 1 := by omega
    omega
end Rb
namespace Rb
open PySem PySem.Spec PyProof.Rows L2
/-! pairs of ints in a list: min, remove, sorted -/
def pairD (p : Int × Int) : PyData := .tuple [.int p.1, .int p.2]
/-- the list's items are pairs, as told -/
def Prs (H : Hp) (xs : List V) (ps : List (Int × Int)) : Prop := xs.length = ps.length ∧ ∀ (i : Nat) (p : Int × Int), ps[i]? = some p → ∃ t, xs[i]? = some (.ref t) ∧ H t = some (.tup [.int p.1, .int p.2])
theorem Prs.nil {H : Hp} : Prs H [] [] := ⟨rfl, fun i p h => by simp at h⟩
theorem Prs.keep {H H' : Hp} {xs : List V} {ps : List (Int × Int)} (h : Prs H xs ps) (k : ∀ a ys, H a = some (.tup ys) → H' a = some (.tup ys)) : Prs H' xs ps :=
  ⟨h.1, fun i p hp => by
    obtain ⟨t, h1, h2⟩ := h.2 i p hp
    exact ⟨t, h1, k _ _ h2⟩⟩
theorem Prs.snoc {H : Hp} {xs : List V} {ps : List (Int × Int)} {t : Addr} {p : Int × Int} (h : Prs H xs ps) (ht : H t = some (.tup [.int p.1, .int p.2])) : Prs H (xs ++ [.ref t]) (ps ++ [p]) := by
  refine ⟨by rw [List.length_append, List.length_append, h.1]; rfl, fun i q hq => ?_⟩
  rw [List.getElem?_append] at hq
  split at hq
  · rename_i hi
    obtain ⟨t2, h1, h2⟩ := h.2 i q hq
    exact ⟨t2, by rw [List.getElem?_append_left (by rw [h.1]; exact hi)]; exact h1, h2⟩
  · rename_i hi
    have e : i - ps.length = 0 := by
      rcases Nat.eq_zero_or_pos (i - ps.length) with e | e
      · exact e
      · rw [List.getElem?_eq_none (by show 1 ≤ i - ps.length; exact e)] at hq
        cases hq
    rw [e] at hq
    cases hq
    refine ⟨t, ?_, ht⟩
    rw [List.getElem?_append_right (by rw [h.1]; omega), h.1, e]
    rfl
theorem Prs.erase {H : Hp} {xs : List V} {ps : List (Int × Int)} (h : Prs H xs ps) (j : Nat) : Prs H (xs.eraseIdx j) (ps.eraseIdx j) := by
  refine ⟨by rw [List.length_eraseIdx, List.length_eraseIdx, h.1], fun i q hq => ?_⟩
  rw [List.getElem?_eraseIdx] at hq ⊢
  split at hq
  · rename_i hi
    rw [if_pos hi]
    exact h.2 i q hq
  · rename_i hi
    rw [if_neg hi]
    exact h.2 (i + 1) q hq
theorem Prs.dp {K : PySem.W.Frag} {H : Hp} : ∀ {xs : List V} {ps : List (Int × Int)}, Prs H xs ps → DpAll K H xs (ps.map pairD)
  | [], [], _ => .nil
  | [], _ :: _, h => by cases h.1
  | _ :: _, [], h => by cases h.1
  | x :: xs, p :: ps, h => by
    obtain ⟨t, h1, h2⟩ := h.2 0 p rfl
    cases (Option.some.inj h1)
    refine .cons (.tup (tupOf h2) (.cons (.int _) (.cons (.int _) .nil))) (Prs.dp ⟨Nat.succ.inj h.1, fun i q hq => ?_⟩)
    exact h.2 (i + 1) q hq
theorem minOf_least : ∀ (ps : List (Int × Int)) (p : Int × Int), (PySem.W.minOf p ps ∈ p :: ps) ∧ ∀ q ∈ p :: ps, leP (PySem.W.minOf p ps) q
  | [], p => ⟨List.mem_cons_self, fun q hq => by
    rw [List.mem_singleton.mp hq]
    exact .inr ⟨rfl, Int.le_refl _⟩⟩
  | y :: ys, p => by
    have e : PySem.W.minOf p (y :: ys) = PySem.W.minOf (if PySem.W.DatumOrd.lt y p = true then y else p) ys := rfl
    rw [e]
    have l1 : (PySem.W.DatumOrd.lt y p = true) ↔ (y.1 < p.1 ∨ (y.1 = p.1 ∧ y.2 < p.2)) := by
      show ((if y.1 = p.1 then decide (y.2 < p.2) else decide (y.1 < p.1)) = true) ↔ _
      split <;> simp only [decide_eq_true_eq] <;> omega
    by_cases c : PySem.W.DatumOrd.lt y p = true
    · rw [if_pos c]
      obtain ⟨h1, h2⟩ := minOf_least ys y
      refine ⟨List.mem_cons_of_mem _ h1, fun q hq => ?_⟩
      rcases List.mem_cons.mp hq with rfl | hq
      · have a := h2 y List.mem_cons_self
        have b := l1.mp c
        unfold leP at *
        omega
      · exact h2 q hq
    · rw [if_neg c]
      obtain ⟨h1, h2⟩ := minOf_least ys p
      refine ⟨?_, fun q hq => ?_⟩
      · rcases List.mem_cons.mp h1 with h | h
        · rw [h]; exact List.mem_cons_self
        · exact List.mem_cons_of_mem _ (List.mem_cons_of_mem _ h)
      · rcases List.mem_cons.mp hq with rfl | hq
        · exact h2 q List.mem_cons_self
        · rcases List.mem_cons.mp hq with rfl | hq
          · have a := h2 p List.mem_cons_self
            have b : ¬ (q.1 < p.1 ∨ (q.1 = p.1 ∧ q.2 < p.2)) := fun z => c (l1.mpr z)
            unfold leP at *
            omega
          · exact h2 q (List.mem_cons_of_mem _ hq)
def rMinP (K : PySem.W.Frag) : List V → Hp → VK → Prop := fun vs H Q => ∃ (a : Addr) (xs : List V) (ps : List (Int × Int)), vs = [V.ref a] ∧ SqL K H a xs ∧ Prs H xs ps ∧ ps ≠ [] ∧
  ∀ (t : Addr) (m : Int × Int), H t = some (.tup [.int m.1, .int m.2]) → m ∈ ps → (∀ q ∈ ps, leP m q) → Q (.ref t) H
theorem cr_minP {X : Cx} (hc : X.calm = true) (hu : X.A.units + 64 < cLine) : CallR X (.builtin "min") (rMinP X.K) := by
  intro pins s σ H vs us Q I r h
  obtain ⟨a, xs, ps, rfl, hs, hp, hne, q⟩ := h
  obtain ⟨its, rv, hl, _⟩ := I.list hs
  rw [Vals.ref1 r]
  cases ps with
  | nil => exact absurd rfl hne
  | cons p ps =>
    obtain ⟨as, ra⟩ := Dp.readsAll I _ _ its (hp.dp (K := X.K)) rv
    refine PySem.W.min_list_datum (α := Int × Int) (x := p) (xs := ps) (I.ok.hd hc) hl.isList ⟨as, ra⟩ (by show X.A.units + 1 + 1 < _; omega) fun i v h' tk hi hv hk => ?_
    obtain ⟨hm, hle⟩ := minOf_least ps p
    have hi2 : its[i]? = some v := by simpa using hi
    have il : i < xs.length := by
      have := (List.getElem?_eq_some_iff.mp hi2).1
      rw [rv.length]; exact this
    obtain ⟨m, hm1⟩ : ∃ m, (p :: ps)[i]? = some m := ⟨_, List.getElem?_eq_getElem (by rw [← hp.1]; exact il)⟩
    obtain ⟨t, e1, e2⟩ := hp.2 i m hm1
    obtain ⟨u, hu2, ru⟩ := rv.get e1
    rw [hi2] at hu2
    cases hu2
    cases ru
    have dpt : Dp X.K H (.ref t) (pairD m) := .tup (tupOf e2) (.cons (.int _) (.cons (.int _) .nil))
    obtain ⟨bs, rt⟩ := Dp.reads I _ _ _ dpt rfl
    obtain ⟨cs, rm⟩ := hv
    have dd := (reads_det (fun b o e _ => hk b o e) rt rm).1
    have em : PySem.W.minOf p ps = m := by
      have d2 : PyData.tuple [.int (PySem.W.minOf p ps).1, .int (PySem.W.minOf p ps).2] = PyData.tuple [.int m.1, .int m.2] := dd
      simp only [PyData.tuple.injEq, List.cons.injEq, PyData.int.injEq, and_true] at d2
      exact Prod.ext d2.1 d2.2
    rw [em] at hm hle
    exact ⟨.ref t, H, I.kept hk, rfl, q t _ e2 hm hle⟩
def rRemP (K : PySem.W.Frag) : V → List V → Hp → VK → Prop := fun x vs H Q => ∃ (l t : Addr) (xs : List V) (ps : List (Int × Int)) (p : Int × Int) (j : Nat), x = .ref l ∧ vs = [.ref t] ∧ H l = some (.lst xs) ∧ Prs H xs ps ∧ H t = some (.tup [.int p.1, .int p.2]) ∧
  ps[j]? = some p ∧ (∀ m : Nat, m < j → ps[m]? ≠ some p) ∧ Q .non (upd H l (.lst (xs.eraseIdx j)))
theorem pairD_inj {p q : Int × Int} : PyData.eqv (pairD p) (pairD q) = decide (p = q) := PySem.W.Datum.eqv (α := Int × Int) p q
theorem mt_removeP {X : Cx} (hu : X.A.units + 64 < cLine) : MtM X "list.remove" (rRemP X.K) := by
  intro pins s σ H x vs v us Q I rx rxs h
  obtain ⟨l, t, xs, ps, p, j, rfl, rfl, hH, hP, ht, hj, hno, q⟩ := h
  cases rx
  obtain ⟨u, rfl, ru⟩ := rxs.one
  cases ru
  obtain ⟨z, its, n, r, hl, e⟩ := I.lstM hH
  obtain ⟨as, ra⟩ := Dp.readsAll I _ _ its (hP.dp (K := X.K)) r
  have dpt : Dp X.K H (.ref t) (pairD p) := .tup (tupOf ht) (.cons (.int _) (.cons (.int _) .nil))
  obtain ⟨bs, rt⟩ := Dp.reads I _ _ _ dpt rfl
  have pl : PyData.plainAll (ps.map pairD) = true := by
    clear hP ra hj hno
    induction ps with
    | nil => rfl
    | cons y ys ih =>
      rw [List.map_cons]
      simp only [PyData.plainAll, ih, Bool.and_true]
      exact PySem.W.Datum.plain (α := Int × Int) y
  refine SeqAt.remove_list_data (j := j) (xs := ps.map pairD) (d := pairD p) ⟨_, e, rfl, n, rfl⟩ ra rt pl (PySem.W.Datum.plain (α := Int × Int) p) ?_ ?_ (by rw [List.size_toArray, ← r.length]; exact z) ?_
  · have : (pairD p).depth = 1 := by simp [pairD, PyData.depth, PyData.depthAll]
    omega
  · refine List.findIdx?_eq_some_iff_getElem.mpr ?_
    obtain ⟨jl, je⟩ := List.getElem?_eq_some_iff.mp hj
    refine ⟨by rw [List.length_map]; exact jl, ?_, fun m hm => ?_⟩
    · rw [List.getElem_map, je, pairD_inj]
      exact decide_eq_true rfl
    · rw [List.getElem_map, pairD_inj]
      intro e2
      refine hno m hm ?_
      rw [List.getElem?_eq_getElem (by omega)]
      exact congrArg some (of_decide_eq_true e2)
  · have rr := r.eraseIdx j
    refine ⟨.non, _, I.lset (its' := its.eraseIdx j) (t' := s.toks) hH e ?_ rr ?_, rfl, q⟩
    · show its.toArray.eraseIdxIfInBounds j = (its.eraseIdx j).toArray
      rw [List.eraseIdxIfInBounds_toArray]
    · exact Nat.le_trans (len_erase xs j) z
end Rb
namespace Rb
open PySem PySem.Spec PyProof.Rows L2
/-- rows: refs of tuples of ints -/
def Rws (K : PySem.W.Frag) (H : Hp) (xs : List V) (rows : List (List Int)) : Prop := xs.length = rows.length ∧ ∀ (i : Nat) (r : List Int), rows[i]? = some r → ∃ t, xs[i]? = some (.ref t) ∧ SqT K H t (r.map V.int)
section
variable {K : PySem.W.Frag} {H H' : Hp} {xs : List V} {rows : List (List Int)}
theorem Rws.nil : Rws K H [] [] := ⟨rfl, fun i p h => by simp at h⟩
theorem Rws.keep (h : Rws K H xs rows) (k : ∀ a ys, SqT K H a ys → SqT K H' a ys) : Rws K H' xs rows :=
  ⟨h.1, fun i p hp => by
    obtain ⟨t, h1, h2⟩ := h.2 i p hp
    exact ⟨t, h1, k _ _ h2⟩⟩
theorem Rws.ex (h : Rws K H xs rows) (e : Evl.Ex H H') : Rws K H' xs rows := h.keep fun _ _ z => Evl.ex_t e z
theorem Rws.kp {d c : Addr} {N : Int} (h : Rws K H xs rows) (k : Kp d c H H') (dk : Dk H d c N) : Rws K H' xs rows := h.keep fun _ _ z => k.sqT dk z
theorem Rws.upd {D : Addr} {ys zs : List V} (h : Rws K H xs rows) (hD : H D = some (.lst ys)) : Rws K (upd H D (.lst zs)) xs rows := h.keep fun _ _ z => sqT_upd hD z
theorem Rws.snoc {t : Addr} {r : List Int} (h : Rws K H xs rows) (ht : SqT K H t (r.map V.int)) : Rws K H (xs ++ [.ref t]) (rows ++ [r]) := by
  refine ⟨by rw [List.length_append, List.length_append, h.1]; rfl, fun i q hq => ?_⟩
  rw [List.getElem?_append] at hq
  split at hq
  · rename_i hi
    obtain ⟨t2, h1, h2⟩ := h.2 i q hq
    exact ⟨t2, by rw [List.getElem?_append_left (by rw [h.1]; exact hi)]; exact h1, h2⟩
  · rename_i hi
    have e : i - rows.length = 0 := by
      rcases Nat.eq_zero_or_pos (i - rows.length) with e | e
      · exact e
      · rw [List.getElem?_eq_none (by show 1 ≤ i - rows.length; exact e)] at hq
        cases hq
    rw [e] at hq
    cases hq
    refine ⟨t, ?_, ht⟩
    rw [List.getElem?_append_right (by rw [h.1]; omega), h.1, e]
    rfl
theorem Rws.tp : ∀ {xs : List V} {rows : List (List Int)}, Rws K H xs rows → TpAll K H xs (rows.map fun r => .tuple (r.map .int))
  | [], [], _ => .nil
  | [], _ :: _, h => by cases h.1
  | _ :: _, [], h => by cases h.1
  | x :: xs, p :: ps, h => by
    obtain ⟨t, h1, h2⟩ := h.2 0 p rfl
    cases (Option.some.inj h1)
    exact .cons (Tp.tupI h2) (Rws.tp ⟨Nat.succ.inj h.1, fun i q hq => h.2 (i + 1) q hq⟩)
end
theorem tup_upd {H : Hp} {D : Addr} {ys zs : List V} (hD : H D = some (.lst ys)) : ∀ a xs, H a = some (.tup xs) → upd H D (.lst zs) a = some (.tup xs) := fun a xs h => by
  rw [upd_ne (by rintro rfl; rw [hD] at h; cases h)]
  exact h
/-! comprehensions over enumerate(list), and whose elements are new pairs -/
section
variable {K : PySem.W.Frag} {te : TE} {vs : List Nat} {σ : L2.St} {H1 : Hp} {D a : Addr} {j l : Nat} {Qd : Hp → Prop}
theorem take_mapIdx {xs : List V} {f : Nat → V → V} {i : Nat} {x : V} (hx : xs[i]? = some x) : (xs.take (i + 1)).mapIdx f = (xs.take i).mapIdx f ++ [f i x] := by
  rw [List.take_add_one, hx]
  show (xs.take i ++ [x]).mapIdx f = _
  rw [List.mapIdx_append]
  have hl : (xs.take i).length = i := by
    rw [List.length_take]
    have := (List.getElem?_eq_some_iff.mp hx).1
    omega
  simp [hl]
theorem lc_enumMap {xs : List V} (f : Nat → V → V) (hS : SqL K H1 a xs) (nD : H1 D = none) (hw : ∀ x y, wipe (((wipe σ vs).set j (some x)).set l (some y)) vs = wipe σ vs) (hz : xs.length ≤ 90000)
    (he : ∀ (i : Nat) x H3, xs[i]? = some x → Evl.Ex H1 H3 → ∀ Q : VK, (∀ H4, Evl.Ex H3 H4 → Q (f i x) H4) → te (((wipe σ vs).set j (some (.int (i : Int)))).set l (some x)) H3 Q) (hd : ∀ H', Evl.Ex H1 H' → H' D = some (.lst (xs.mapIdx f)) → Qd H') :
    ∃ W : Nat → Nat → Hp → Prop, (∃ m, W 0 m (upd H1 D (.lst []))) ∧ ∀ i m H, W i m H →
      ((Ite K a).stop i H ∧ Qd H) ∨ ((Ite K a).go i H ∧ ∃ Nx : Hp → Prop, (∀ H', Nx H' → ∃ m', m' < m ∧ W (i + 1) m' H') ∧ ∀ x H', (Ite K a).yld i H x H' → (gTup K 2 (gCons (gName j) (gCons (gName l) gNil))) x (wipe σ vs) H' fun σ2 H2 => wipe σ2 vs = wipe σ vs ∧ tYes σ2 H2 fun b H3 =>
        if b = true then te σ2 H3 fun y H4 => ∃ acc, H4 D = some (.lst acc) ∧ acc.length < sizeLine ∧ Nx (upd H4 D (.lst (acc ++ [y]))) else Nx H3) := by
  let Pv : Nat → Hp → Prop := fun i H' => Evl.Ex H1 H' ∧ H' D = some (.lst ((xs.take i).mapIdx f))
  refine ⟨fun i m H => m = xs.length - i ∧ i ≤ xs.length ∧ Pv i H, ⟨xs.length, rfl, Nat.zero_le _, Evl.Ex.new nD, upd_same⟩, ?_⟩
  rintro i m H ⟨rfl, hi, p1, p2⟩
  have q := Evl.ex_l p1 hS
  by_cases hlt : i < xs.length
  · refine .inr ⟨⟨xs, _, q, List.getElem?_eq_getElem hlt⟩, Pv (i + 1), fun H' p' => ⟨xs.length - (i + 1), by omega, rfl, hlt, p'⟩, ?_⟩
    rintro v H' ⟨T, x, rfl, nT, rfl, fx⟩
    have hx := fx xs q
    refine ⟨T, _, rfl, tupOf upd_same, rfl, .int (i : Int), [x], rfl, x, [], rfl, rfl, hw _ _, ?_⟩
    show te _ _ _
    have e5 := p1.trans (Evl.Ex.new (o := .tup [.int ((i : Nat) : Int), x]) nT)
    refine he i x _ hx e5 _ fun H4 e4 => ⟨_, e4 _ _ (Evl.Ex.new nT _ _ p2), ?_, Evl.Ex.mut (e5.trans e4) nD, ?_⟩
    · rw [List.length_mapIdx, List.length_take]
      exact sz_lt (by omega)
    · rw [upd_same, take_mapIdx hx]
  · cases (show i = xs.length by omega)
    exact .inl ⟨⟨xs, q, Nat.le_refl _⟩, hd H p1 (by rw [p2, List.take_length])⟩
theorem lc_prsT {xs : List V} (f : V → Int × Int) (hS : SqT K H1 a xs) (nD : H1 D = none) (hw : ∀ x, wipe ((wipe σ vs).set j (some x)) vs = wipe σ vs) (hz : xs.length ≤ 90000)
    (he : ∀ (i : Nat) x H3, xs[i]? = some x → Evl.Ex H1 H3 → ∀ Q : VK, (∀ t H4, Evl.Ex H3 H4 → H4 t = some (.tup [.int (f x).1, .int (f x).2]) → Q (.ref t) H4) → te ((wipe σ vs).set j (some x)) H3 Q)
    (hd : ∀ ys H', Evl.Ex H1 H' → H' D = some (.lst ys) → Prs H' ys (xs.map f) → Qd H') :
    ∃ W : Nat → Nat → Hp → Prop, (∃ m, W 0 m (upd H1 D (.lst []))) ∧ ∀ i m H, W i m H →
      ((Itt K a).stop i H ∧ Qd H) ∨ ((Itt K a).go i H ∧ ∃ Nx : Hp → Prop, (∀ H', Nx H' → ∃ m', m' < m ∧ W (i + 1) m' H') ∧ ∀ x H', (Itt K a).yld i H x H' → (gName j) x (wipe σ vs) H' fun σ2 H2 => wipe σ2 vs = wipe σ vs ∧ tYes σ2 H2 fun b H3 =>
        if b = true then te σ2 H3 fun y H4 => ∃ acc, H4 D = some (.lst acc) ∧ acc.length < sizeLine ∧ Nx (upd H4 D (.lst (acc ++ [y]))) else Nx H3) := by
  refine lc_tup (xs := xs) (fun i H' => Evl.Ex H1 H' ∧ ∃ ys, H' D = some (.lst ys) ∧ Prs H' ys ((xs.take i).map f)) ⟨Evl.Ex.new nD, [], upd_same, Prs.nil⟩ (fun i H' _ p => Evl.ex_t p.1 hS) ?_ ?_
  · rintro i x H' hx ⟨p1, ys, p2, p3⟩
    refine ⟨hw x, ?_⟩
    show te _ _ _
    refine he i x H' hx p1 _ fun t H4 e4 ht => ⟨ys, e4 _ _ p2, ?_, Evl.Ex.mut (p1.trans e4) nD, ys ++ [.ref t], upd_same, ?_⟩
    · rw [p3.1, List.length_map, List.length_take]
      exact sz_lt (by omega)
    · rw [List.take_add_one, hx, List.map_append]
      exact ((p3.keep fun a zs z => e4 _ _ z).snoc ht).keep (tup_upd (e4 _ _ p2))
  · rintro H' ⟨p1, ys, p2, p3⟩
    rw [List.take_length] at p3
    exact hd ys H' p1 p2 p3
end
/-! sorted pairs -/
def keyOf (H : Hp) (x : V) : Int × Int :=
  match x with
  | .ref t => match H t with
    | some (.tup [.int i, .int j]) => (i, j)
    | _ => (0, 0)
  | _ => (0, 0)
theorem keyOf_eq {H : Hp} {t : Addr} {p : Int × Int} (h : H t = some (.tup [.int p.1, .int p.2])) : keyOf H (.ref t) = p := by
  unfold keyOf
  simp only [h]
theorem Prs.keys {H : Hp} {xs : List V} {ps : List (Int × Int)} (h : Prs H xs ps) : xs.map (keyOf H) = ps := by
  apply List.ext_getElem?
  intro i
  rw [List.getElem?_map]
  cases e : ps[i]? with
  | none => rw [List.getElem?_eq_none (by rw [h.1]; exact List.getElem?_eq_none_iff.mp e)]; rfl
  | some p =>
    obtain ⟨t, h1, h2⟩ := h.2 i p e
    rw [h1]
    exact congrArg some (keyOf_eq h2)
theorem sorted_prs {K : PySem.W.Frag} {H : Hp} {a : Addr} {xs : List V} {ps : List (Int × Int)} {Q : VK} (hS : SqL K H a xs) (hP : Prs H xs ps) (q : ∀ ys p, Prs H ys (srtP ps) → H p = none → Q (.ref p) (upd H p (.lst ys))) : rSortedPO K [.ref a] H Q := by
  refine ⟨a, xs, keyOf H, rfl, hS, fun x hx => ?_, fun ys p h1 h2 np => q ys p ?_ np⟩
  · obtain ⟨i, hi, e⟩ := List.getElem_of_mem hx
    have il : i < ps.length := by rw [← hP.1]; exact hi
    obtain ⟨t, g1, g2⟩ := hP.2 i ps[i] (List.getElem?_eq_getElem il)
    rw [List.getElem?_eq_getElem hi, e] at g1
    cases Option.some.inj g1
    refine ⟨t, rfl, ?_⟩
    rw [keyOf_eq g2]
    exact g2
  · have e : ys.map (keyOf H) = srtP ps := by
      rw [← hP.keys]
      refine srtP_uniq (h2.perm.map _) ?_
      refine List.pairwise_map.mpr (List.Pairwise.imp (fun {x y} h => ?_) h1)
      have := SrtO.lexB_no.mp (show SrtO.lexB (keyOf H y) (keyOf H x) = false from h)
      unfold leP
      omega
    rw [← e]
    refine ⟨(List.length_map _).symm, fun i p hp => ?_⟩
    rw [List.getElem?_map] at hp
    obtain ⟨y, hy, rfl⟩ := Option.map_eq_some_iff.mp hp
    have ym : y ∈ xs := h2.perm.mem_iff.mp (List.mem_of_getElem? hy)
    obtain ⟨k, hk, ek⟩ := List.getElem_of_mem ym
    have kl : k < ps.length := by rw [← hP.1]; exact hk
    obtain ⟨t, g1, g2⟩ := hP.2 k ps[k] (List.getElem?_eq_getElem kl)
    rw [List.getElem?_eq_getElem hk, ek] at g1
    cases Option.some.inj g1
    refine ⟨t, hy, ?_⟩
    rw [keyOf_eq g2]
    exact g2
theorem rep_flat {x : V} : ∀ n : Nat, (List.replicate n [x]).flatten = List.replicate n x
  | 0 => rfl
  | n + 1 => by
    rw [List.replicate_succ, List.flatten_cons, List.replicate_succ, rep_flat n]
    rfl
theorem nodup_le {n : Nat} : ∀ {l : List Nat}, l.Nodup → (∀ p ∈ l, p < n) → l.length ≤ n := by
  induction n with
  | zero =>
    intro l _ h
    cases l with
    | nil => exact Nat.le_refl _
    | cons x r => exact absurd (h x List.mem_cons_self) (Nat.not_lt_zero _)
  | succ n ih =>
    intro l nd h
    have h1 : (l.erase n).length ≤ n := ih (nd.erase n) fun p hp => by
      have a := h p (List.mem_of_mem_erase hp)
      have b : p ≠ n := fun e => (nd.not_mem_erase (a := n)) (e ▸ hp)
      omega
    rw [List.length_erase] at h1
    split at h1 <;> omega
end Rb
namespace Rb
open PySem PySem.Spec PyProof.Rows L2
/-! a tuple times a number: once is the tuple itself -/
open AutoSeq1 (wpAny_loadPart') in
theorem tupMul1 (t : Addr) (its : Array Value) (n : Nat) (dc : Option Addr) (sl : Array (Option Value)) (u : Tok) :
    Meets (Builtin.«tuple.__mul__» ⟨[.ref t, .int 1 u], []⟩) (fun _ R s => s.heap.get? t = some { cls := .type "tuple", dict := dc, data := .seq its n, slots := sl } ∧ R (.ok (.ret (Value.ref t))) s) := by
  refine .of_wp fun pr wo A R s h => ?_
  obtain ⟨hp, g, d, tk, os⟩ := s
  obtain ⟨ht, h⟩ := h
  have f1 := AutoSeq1.idx_int
  wp_walk using wpAny_loadPart' ht
  repeat (first
    | (refine wpAny_ite_false (by decide) ?_; wp_walk using wpAny_loadPart' ht)
    | (refine wpAny_ite_true (decide_eq_true (by cases its.isEmpty <;> rfl)) ?_; wp_walk using wpAny_loadPart' ht))
  exact ⟨_, rfl, h⟩
def rRepN (K : PySem.W.Frag) : R2 := fun x y H Q => ∃ (l : Addr) (k : Nat) (xs : List V), x = .ref l ∧ y = .int (k : Int) ∧ SqT K H l xs ∧ xs ≠ [] ∧ 1 ≤ k ∧ k ≤ 1000 ∧ xs.length ≤ 1000 ∧ ∀ p H', Evl.Ex H H' → SqT K H' p (List.replicate k xs).flatten → Q (.ref p) H'
theorem op_repN {X : Cx} : OpR X (binaryOp .Mult) (rRepN X.K) := by
  intro pins s σ H x y v u Q I rx ry h
  obtain ⟨l, k, xs, rfl, rfl, hT, hne, h1, h2, hz, q⟩ := h
  by_cases hk : k = 1
  · subst hk
    cases rx
    obtain ⟨t, rfl⟩ := ry
    obtain ⟨its, r, ⟨⟨cls, dd, data, sl⟩, ho, hc, n, hd⟩, hs⟩ := I.tuple hT
    simp only at hc hd
    subst hc hd
    refine wpAny_binaryOp_repeat_ref (T := "tuple") (U := "int") (by decide) ⟨_, ho, rfl⟩ (fun s' => typeIs_int s' 1 t) noFill_tuple_mul F.fills_int_mul F.slot_int_rmul repeat_tuple F.slot_int_index.lookup
      (call_meets F.slot_int_rmul (typeIs_int s 1 t) F.entry_int_rmul (F.args_int_rmul_2 _ _) (int_rmul_tuple 1 t l its.toArray n dd sl)
        ⟨ho, rfl, ⟨_, ho, rfl⟩, call_meets F.slot_tuple_mul ⟨_, ho, rfl⟩ F.entry_tuple_mul (F.args_tuple_mul_2 _ _) (tupMul1 l its.toArray n dd sl t) ⟨ho, ?_⟩⟩)
    refine ⟨.ref l, H, I, rfl, q l H (Evl.Ex.refl _) ?_⟩
    simpa using hT
  · refine op_repT pins s σ H (.ref l) (.int (k : Int)) v u Q I rx ry ⟨l, (k : Int), xs, rfl, rfl, hT, hne, by omega, by omega, hz, fun p np => ?_⟩
    exact q p _ (Evl.Ex.new np) (tupOf (by rw [upd_same, Int.toNat_natCast]))
/-! max of a tuple of ints -/
def rMaxT (K : PySem.W.Frag) : List V → Hp → VK → Prop := fun vs H Q => ∃ (a : Addr) (ns : List Int), vs = [V.ref a] ∧ SqT K H a (ns.map V.int) ∧ ns ≠ [] ∧ ∀ m, m ∈ ns → (∀ y ∈ ns, y ≤ m) → Q (.int m) H
theorem maxOf_most : ∀ (ns : List Int) (n : Int), (PySem.W.maxOf n ns ∈ n :: ns) ∧ ∀ q ∈ n :: ns, q ≤ PySem.W.maxOf n ns
  | [], n => ⟨List.mem_cons_self, fun q hq => by
    rw [List.mem_singleton.mp hq]
    exact Int.le_refl _⟩
  | y :: ys, n => by
    have e : PySem.W.maxOf n (y :: ys) = PySem.W.maxOf (if PySem.W.DatumOrd.lt n y = true then y else n) ys := rfl
    rw [e]
    have l1 : (PySem.W.DatumOrd.lt n y = true) ↔ n < y := by
      show decide (n < y) = true ↔ _
      exact decide_eq_true_iff
    by_cases c : PySem.W.DatumOrd.lt n y = true
    · rw [if_pos c]
      obtain ⟨h1, h2⟩ := maxOf_most ys y
      refine ⟨List.mem_cons_of_mem _ h1, fun q hq => ?_⟩
      rcases List.mem_cons.mp hq with rfl | hq
      · have a := h2 y List.mem_cons_self
        have b := l1.mp c
        omega
      · exact h2 q hq
    · rw [if_neg c]
      obtain ⟨h1, h2⟩ := maxOf_most ys n
      refine ⟨?_, fun q hq => ?_⟩
      · rcases List.mem_cons.mp h1 with h | h
        · rw [h]; exact List.mem_cons_self
        · exact List.mem_cons_of_mem _ (List.mem_cons_of_mem _ h)
      · rcases List.mem_cons.mp hq with rfl | hq
        · exact h2 q List.mem_cons_self
        · rcases List.mem_cons.mp hq with rfl | hq
          · have a := h2 n List.mem_cons_self
            have b : ¬ n < q := fun z => c (l1.mpr z)
            omega
          · exact h2 q (List.mem_cons_of_mem _ hq)
theorem cr_maxT {X : Cx} (hc : X.calm = true) (hu : X.A.units + 64 < cLine) : CallR X (.builtin "max") (rMaxT X.K) := by
  intro pins s σ H vs us Q I r h
  obtain ⟨a, ns, rfl, hs, hne, q⟩ := h
  obtain ⟨its, rv, hl, _⟩ := I.tuple hs
  rw [Vals.ref1 r]
  cases ns with
  | nil => exact absurd rfl hne
  | cons n ns =>
    obtain ⟨as, ra⟩ := Dp.readsAll I _ _ its (DpAll.ints (K := X.K) (n :: ns)) rv
    refine PySem.W.max_tuple_datum (α := Int) (x := n) (xs := ns) (I.ok.hd hc) (isTup_isTuple hl) ⟨as, ra⟩ (by show X.A.units + 1 + 0 < _; omega) fun i v h' tk hi hv hk => ?_
    obtain ⟨hm, hle⟩ := maxOf_most ns n
    obtain ⟨cs, rm⟩ := hv
    have rm' : Reads h' v (.int (PySem.W.maxOf n ns)) cs := rm
    cases rm' with
    | int _ t => exact ⟨.int _, H, I.kept hk, ⟨t, rfl⟩, q _ hm hle⟩
/-- the greatest of a list that is not empty -/
def mostOf : List Int → Int
  | [] => 0
  | n :: ns => ns.foldl (fun a y => if a < y then y else a) n
theorem most_uniq {ns : List Int} {a b : Int} (ha : a ∈ ns) (ha2 : ∀ y ∈ ns, y ≤ a) (hb : b ∈ ns) (hb2 : ∀ y ∈ ns, y ≤ b) : a = b := Int.le_antisymm (hb2 a ha) (ha2 b hb)
end Rb
namespace Rb
/-! waits by the ticks alone -/
def mvM (walk ride : Int) (plan : List (List Nat)) (p : Nat) : Nat → Int
  | 0 => 0
  | i + 1 => mvM walk ride plan p i + if p ∈ plan.getD i [] then ride else walk
theorem mv_rides {walk ride : Int} {plan : List (List Nat)} {p : Nat} : ∀ i : Nat, i ≤ plan.length → mvM walk ride plan p i = ride * (((plan.take i).filter fun r => decide (p ∈ r)).length : Int) + walk * ((i : Int) - (((plan.take i).filter fun r => decide (p ∈ r)).length : Int))
  | 0, _ => by simp [mvM]
  | i + 1, h => by
    have ih := mv_rides (walk := walk) (ride := ride) (plan := plan) (p := p) i (by omega)
    have hr : plan[i]? = some plan[i] := List.getElem?_eq_getElem (by omega)
    rw [mvM, ih, List.take_add_one, hr, List.filter_append, List.length_append, List.getD_eq_getElem?_getD, hr]
    generalize ((plan.take i).filter fun r => decide (p ∈ r)).length = n
    simp only [Option.getD_some, Option.toList_some, List.filter_cons, List.filter_nil]
    by_cases c : p ∈ plan[i]
    · simp only [c, decide_true, if_true, List.length_cons, List.length_nil, Int.natCast_add]
      have e1 : (n : Int) + (((0 : Nat) : Int) + ((1 : Nat) : Int)) = (n : Int) + 1 := by omega
      have e2 : ((i : Int) + ((1 : Nat) : Int)) - ((n : Int) + 1) = (i : Int) - n := by omega
      rw [e1, e2, Int.mul_add, Int.mul_one]
      omega
    · simp only [c, decide_false, if_false, List.length_nil, Int.natCast_add]
      have e2 : ((i : Int) + ((1 : Nat) : Int)) - ((n : Int) + ((0 : Nat) : Int)) = ((i : Int) - n) + 1 := by omega
      have e1 : (n : Int) + ((0 : Nat) : Int) = n := by omega
      simp only [Bool.false_eq_true, if_false, List.length_nil]
      rw [e2, e1, Int.mul_add, Int.mul_one]
      omega
theorem mx_wait (t b : Int) : mx t b - t = mx 0 (b - t) := by
  unfold mx
  split <;> split <;> omega
/-- the wait of one stage is the time between coming and leaving -/
theorem stage_wait {ticks w0 : List Int} {riders brought : List Nat} {st p : Nat} (h : riders.length ≤ st + brought.length) (nd : riders.Nodup) (hr : ∀ q ∈ riders, q < ticks.length) (hl : w0.length = ticks.length) (hp : p < ticks.length) :
    ∃ l w t v, (leaveM ticks riders brought st)[p]? = some l ∧ (waitsI w0 ticks riders brought st riders.length)[p]? = some w ∧ ticks[p]? = some t ∧ w0[p]? = some v ∧ w = v + (l - t) := by
  have ht : ticks[p]? = some ticks[p] := List.getElem?_eq_getElem hp
  have hpw : p < w0.length := by omega
  have hw : w0[p]? = some w0[p] := List.getElem?_eq_getElem hpw
  have hz : (pairsM ticks riders brought st).take riders.length = pairsM ticks riders brought st := List.take_of_length_le (by rw [pairsM_len h]; exact Nat.le_refl _)
  unfold waitsI
  rw [hz]
  by_cases c : p ∈ riders
  · obtain ⟨b, hb, e⟩ := leave_in h nd c hp
    have et : tickAt ticks p = ticks[p] := by
      unfold tickAt
      rw [List.getD_eq_getElem?_getD, ht]
      rfl
    refine ⟨_, w0.getD p 0 + mx 0 (b - tickAt ticks p), _, _, e, ?_, ht, hw, ?_⟩
    · refine setF_in _ _ p _ ?_ (List.mem_map.mpr ⟨_, hb, by simp⟩) hpw
      rw [List.map_map]
      exact (pairs_people (ticks := ticks) h).nodup_iff.mpr nd
    · rw [← mx_wait, et, List.getD_eq_getElem?_getD, hw]
      rfl
  · refine ⟨ticks[p], w0[p], ticks[p], w0[p], by rw [leave_out c]; exact ht, ?_, ht, hw, by omega⟩
    rw [setF_out _ _ p fun y hy e => ?_]
    · exact hw
    · obtain ⟨z, hz2, rfl⟩ := List.mem_map.mp hy
      obtain ⟨p2, hp2, e2⟩ := pairs_mem hz2
      simp only [e2] at e
      have : p2 = p := by simpa using e
      exact c (this ▸ hp2)
theorem stages_ok {bikes : List Int} {n i : Nat} {plan : List (List Nat)} (h : PlanOk bikes n plan) (hi : i < plan.length) : (plan.getD i []).Nodup ∧ (∀ p ∈ plan.getD i [], p < n) ∧ (plan.getD i []).length ≤ (bikes.getD i 0).toNat + (brM plan i).length := by
  have hr : plan[i]? = some plan[i] := List.getElem?_eq_getElem hi
  have e : plan.getD i [] = plan[i] := by rw [List.getD_eq_getElem?_getD, hr]; rfl
  have hm : plan[i] ∈ plan := List.getElem_mem hi
  have f := h.few i
  refine ⟨by rw [e]; exact (h.asc _ hm).imp fun h => Nat.ne_of_lt h, by rw [e]; exact h.lt _ hm, ?_⟩
  unfold brM
  split
  · rename_i z
    rw [if_pos z] at f
    exact f
  · rename_i z
    rw [if_neg z] at f
    exact f
theorem ticks_waits {walk ride : Int} {bikes starts : List Int} {plan : List (List Nat)} (ok : PlanOk bikes starts.length plan) {p : Nat} (hp : p < starts.length) : ∀ i, i ≤ plan.length →
    ∃ t w s, (tkM walk ride bikes starts plan i)[p]? = some t ∧ (wtM walk ride bikes starts plan i)[p]? = some w ∧ starts[p]? = some s ∧ t - s - mvM walk ride plan p i = w
  | 0, _ => by
    have hs : starts[p]? = some starts[p] := List.getElem?_eq_getElem hp
    refine ⟨starts[p], 0, starts[p], hs, ?_, hs, ?_⟩
    · show (List.replicate starts.length (0 : Int))[p]? = some 0
      rw [List.getElem?_replicate, if_pos hp]
    · show starts[p] - starts[p] - 0 = 0
      omega
  | i + 1, h => by
    obtain ⟨t, w, s, h1, h2, h3, h4⟩ := ticks_waits (walk := walk) (ride := ride) ok hp i (by omega)
    obtain ⟨nd, rlt, few⟩ := stages_ok ok (show i < plan.length by omega)
    have tl := tkM_len (walk := walk) (ride := ride) (bikes := bikes) (starts := starts) (plan := plan) i
    have wl := wtM_len (walk := walk) (ride := ride) (bikes := bikes) (starts := starts) (plan := plan) i
    obtain ⟨l, w2, t2, v2, g1, g2, g3, g4, g5⟩ := stage_wait (w0 := wtM walk ride bikes starts plan i) few nd (fun q hq => by rw [tl]; exact rlt q hq) (by rw [wl, tl]) (show p < (tkM walk ride bikes starts plan i).length by rw [tl]; exact hp)
    rw [h1] at g3
    rw [h2] at g4
    cases g3
    cases g4
    refine ⟨l + (if p ∈ plan.getD i [] then ride else walk), w2, s, ?_, g2, h3, ?_⟩
    · show (rowM _ _ _ _ _ _)[p]? = _
      unfold rowM
      rw [List.getElem?_mapIdx, g1]
      rfl
    · rw [mvM]
      split <;> omega
theorem wt_bnd {walk ride M : Int} {bikes starts : List Int} {plan : List (List Nat)} (ok : PlanOk bikes starts.length plan) (hM : 0 ≤ M) (h : Bnd M starts) (hw : 0 ≤ walk ∧ walk ≤ 1000) (hr : 0 ≤ ride ∧ ride ≤ 1000) : ∀ i, i ≤ plan.length → ∀ x ∈ wtM walk ride bikes starts plan i, x.natAbs ≤ (M + 2000 * i).natAbs := by
  intro i hi x hx
  obtain ⟨p, hp, e⟩ := List.getElem_of_mem hx
  have wl := wtM_len (walk := walk) (ride := ride) (bikes := bikes) (starts := starts) (plan := plan) i
  rw [wl] at hp
  obtain ⟨t, w, s, h1, h2, h3, h4⟩ := ticks_waits (walk := walk) (ride := ride) ok hp i hi
  have ex : w = x := by
    rw [List.getElem?_eq_getElem (by rw [wl]; exact hp), e] at h2
    exact (Option.some.inj h2).symm
  have b1 := tk_bnd (bikes := bikes) (plan := plan) hM h hw hr i t (List.mem_of_getElem? h1)
  have b2 := h s (List.mem_of_getElem? h3)
  have b3 : ∀ j : Nat, 0 ≤ mvM walk ride plan p j ∧ mvM walk ride plan p j ≤ 1000 * j := by
    intro j
    induction j with
    | zero => exact ⟨Int.le_refl _, Int.le_refl _⟩
    | succ j ih =>
      rw [mvM]
      have : ((j + 1 : Nat) : Int) = (j : Int) + 1 := by omega
      split <;> omega
  have b4 := b3 i
  omega
end Rb
namespace Rb
open PySem PySem.Spec PyProof.Rows L2
section
variable {K : PySem.W.Frag} {tt : TT} {te : TE} {vs : List Nat} {σ : L2.St} {H1 : Hp} {D a : Addr} {j l : Nat} {Qd : Hp → Prop}
theorem lc_enumMapT {xs : List V} (f : Nat → V → V) (hS : SqT K H1 a xs) (nD : H1 D = none) (hw : ∀ x y, wipe (((wipe σ vs).set j (some x)).set l (some y)) vs = wipe σ vs) (hz : xs.length ≤ 90000)
    (he : ∀ (i : Nat) x H3, xs[i]? = some x → Evl.Ex H1 H3 → ∀ Q : VK, (∀ H4, Evl.Ex H3 H4 → Q (f i x) H4) → te (((wipe σ vs).set j (some (.int (i : Int)))).set l (some x)) H3 Q) (hd : ∀ H', Evl.Ex H1 H' → H' D = some (.lst (xs.mapIdx f)) → Qd H') :
    ∃ W : Nat → Nat → Hp → Prop, (∃ m, W 0 m (upd H1 D (.lst []))) ∧ ∀ i m H, W i m H →
      ((ItE K a).stop i H ∧ Qd H) ∨ ((ItE K a).go i H ∧ ∃ Nx : Hp → Prop, (∀ H', Nx H' → ∃ m', m' < m ∧ W (i + 1) m' H') ∧ ∀ x H', (ItE K a).yld i H x H' → (gTup K 2 (gCons (gName j) (gCons (gName l) gNil))) x (wipe σ vs) H' fun σ2 H2 => wipe σ2 vs = wipe σ vs ∧ tYes σ2 H2 fun b H3 =>
        if b = true then te σ2 H3 fun y H4 => ∃ acc, H4 D = some (.lst acc) ∧ acc.length < sizeLine ∧ Nx (upd H4 D (.lst (acc ++ [y]))) else Nx H3) := by
  let Pv : Nat → Hp → Prop := fun i H' => Evl.Ex H1 H' ∧ H' D = some (.lst ((xs.take i).mapIdx f))
  refine ⟨fun i m H => m = xs.length - i ∧ i ≤ xs.length ∧ Pv i H, ⟨xs.length, rfl, Nat.zero_le _, Evl.Ex.new nD, upd_same⟩, ?_⟩
  rintro i m H ⟨rfl, hi, p1, p2⟩
  have q := Evl.ex_t p1 hS
  by_cases hlt : i < xs.length
  · refine .inr ⟨⟨xs, _, q, List.getElem?_eq_getElem hlt⟩, Pv (i + 1), fun H' p' => ⟨xs.length - (i + 1), by omega, rfl, hlt, p'⟩, ?_⟩
    rintro v H' ⟨T, x, rfl, nT, rfl, fx⟩
    have hx := fx xs q
    refine ⟨T, _, rfl, tupOf upd_same, rfl, .int (i : Int), [x], rfl, x, [], rfl, rfl, hw _ _, ?_⟩
    show te _ _ _
    have e5 := p1.trans (Evl.Ex.new (o := .tup [.int ((i : Nat) : Int), x]) nT)
    refine he i x _ hx e5 _ fun H4 e4 => ⟨_, e4 _ _ (Evl.Ex.new nT _ _ p2), ?_, Evl.Ex.mut (e5.trans e4) nD, ?_⟩
    · rw [List.length_mapIdx, List.length_take]
      exact sz_lt (by omega)
    · rw [upd_same, take_mapIdx hx]
  · cases (show i = xs.length by omega)
    exact .inl ⟨⟨xs, q, rfl⟩, hd H p1 (by rw [p2, List.take_length])⟩
theorem lc_filtT {xs : List V} (f : Nat → Bool) (hS : SqT K H1 a xs) (nD : H1 D = none) (hw : ∀ x, wipe ((wipe σ vs).set j (some x)) vs = wipe σ vs) (hz : xs.length ≤ 90000)
    (ht : ∀ (i : Nat) x H3, xs[i]? = some x → Evl.Ex H1 H3 → ∀ Q : Bool → Hp → Prop, (∀ H4, Evl.Ex H3 H4 → Q (f i) H4) → tt ((wipe σ vs).set j (some x)) H3 Q)
    (he : ∀ (i : Nat) x H3, xs[i]? = some x → Evl.Ex H1 H3 → ∀ Q : VK, (∀ H4, Evl.Ex H3 H4 → Q x H4) → te ((wipe σ vs).set j (some x)) H3 Q) (hd : ∀ ys H', Evl.Ex H1 H' → H' D = some (.lst ys) → ys = ((List.range xs.length).filter f).map (fun i => xs.getD i .non) → Qd H') :
    ∃ W : Nat → Nat → Hp → Prop, (∃ m, W 0 m (upd H1 D (.lst []))) ∧ ∀ i m H, W i m H →
      ((Itt K a).stop i H ∧ Qd H) ∨ ((Itt K a).go i H ∧ ∃ Nx : Hp → Prop, (∀ H', Nx H' → ∃ m', m' < m ∧ W (i + 1) m' H') ∧ ∀ x H', (Itt K a).yld i H x H' → (gName j) x (wipe σ vs) H' fun σ2 H2 => wipe σ2 vs = wipe σ vs ∧ tt σ2 H2 fun b H3 =>
        if b = true then te σ2 H3 fun y H4 => ∃ acc, H4 D = some (.lst acc) ∧ acc.length < sizeLine ∧ Nx (upd H4 D (.lst (acc ++ [y]))) else Nx H3) := by
  refine lc_tup (xs := xs) (fun i H' => Evl.Ex H1 H' ∧ H' D = some (.lst (((List.range i).filter f).map fun i => xs.getD i .non))) ⟨Evl.Ex.new nD, upd_same⟩ (fun i H' _ p => Evl.ex_t p.1 hS) ?_ (fun H' p => hd _ H' p.1 p.2 rfl)
  rintro i x H' hx ⟨p1, p2⟩
  have il := (List.getElem?_eq_some_iff.mp hx).1
  refine ⟨hw x, ?_⟩
  refine ht i x H' hx p1 _ fun H3 e3 => ?_
  cases c : f i with
  | true =>
    refine iteT ?_
    refine he i x H3 hx (p1.trans e3) _ fun H4 e4 => ⟨_, e4 _ _ (e3 _ _ p2), ?_, Evl.Ex.mut ((p1.trans e3).trans e4) nD, ?_⟩
    · have h1 := List.length_filter_le f (List.range i)
      rw [List.length_range] at h1
      rw [List.length_map]
      exact sz_lt (by omega)
    · rw [upd_same, List.range_succ, List.filter_append, List.map_append]
      simp [c, hx]
  | false =>
    refine iteF ⟨p1.trans e3, ?_⟩
    rw [e3 _ _ p2, List.range_succ, List.filter_append]
    simp [c]
end
end Rb
namespace Rb
open PySem PySem.Spec PyProof.Rows L2
/-! own errors with one field: made, raised, caught, asked for their class -/
section
variable {X : Cx} {cx : CXT} {lv : Nat} {fn : Addr} {sp : Sp} {E : L2.St → XK} {nm : Str} {p1 p2 : Pos} {a0 : Expr} {as : List Expr} {ta : TA}
theorem pe_callR (F : FnR X.prog X.w X.K X.mg X.base cx lv fn sp) (rm : Room lv X.A) (gl : Gl X nm) (at_ : X.mg nm = some (.ref fn)) (kp : PySem.W.keepIn X.K (.ref fn) = true) (ps : ∀ σ, PassesAt cx X σ (E σ)) (pa : PA X (a0 :: as) ta)
    (ndb : (nm == ("__debug__" : Str)) = false := by decide) (st1 : starEach (a0 :: as) X.env = (false, eval a0 X.env) :: starEach as X.env := by rfl) (st2 : (backTo p2 (starEach as X.env)).any (·.1) = false := by rfl) :
    PE X (.Call (.Name nm p1) (a0 :: as) [] p2) (tCallS sp E ta) := by
  constructor
  intro pins s σ H Q I pre
  refine wpAny_Call_Name_kw (ld_glob I gl at_ ?_ ndb)
  refine PySem.W.callWith_K (h₀ := X.base) I.ok.mod.kin kp (thn (pa.run p2 pins s σ H _ I pre) fun us s1 ⟨xs, H1, I1, rx, q1⟩ => ⟨I1.kIn, ?_⟩) st1 st2
  refine wpAny_call (codeAny_mono (F X.A X.stack s1 H1 us xs Q (E σ) rm I1.env0 rx q1) ?_)
  intro res s2 fin
  match res, fin with
  | .error e, fin => exact ps σ pins H1 s1 e s2 I1 fin
  | .ok (.ret u), fin => exact I1.after fin
  | .ok .next, fin => exact (fin : False).elim
  | .ok .brk, fin => exact (fin : False).elim
  | .ok .cont, fin => exact (fin : False).elim
end
/-- what is told of a class of errors that is raised -/
structure OwnE (K : PySem.W.Frag) (C : Addr) : Prop where
  oex : OexC K C
  xf : XfC K C
  is : PySem.W.isClsIn K C = true
  cl : PySem.W.findIn K (.ref C) "__class__" = some (some (.builtin "object.__class__"))
  cg : PySem.W.specialIn K (.builtin "object.__class__") "__get__" = some (some (.builtin "getset_descriptor.__get__"))
  ct : PySem.W.takesIn K (.builtin "object.__class__") = some true
  co : PySem.W.mroIn K C (.type "object") = some true
/-- __init__(self, f): self.f = f -/
def spIni (K : PySem.W.Frag) (C : Addr) (f : Str) : Sp := fun vs H Q _ => ∃ (a : Addr) (y : V), vs = [.ref a, y] ∧ H a = some (exo a C none) ∧ ∀ dx, H dx = none → dx ≠ a → Q .non (upd (upd H dx (exd dx [(f, y)])) a (exo a C (some dx)))
theorem made_eq {H : Hp} {a d C : Addr} {f : Str} {y : V} (ha : H a = none) (hd : d ≠ a) :
    upd (del (upd (upd (upd H a (exo a C none)) d (exd d [(f, y)])) a (exo a C (some d))) a) d (.xd [(f, y)]) = upd H d (.xd [(f, y)]) := by
  funext b
  by_cases h1 : b = d
  · subst h1
    rw [upd_same, upd_same]
  · rw [upd_ne h1, upd_ne h1]
    by_cases h2 : b = a
    · subst h2
      rw [del_same, ha]
    · rw [del_ne h2, upd_ne h2, upd_ne h1, upd_ne h2]
/-- what remains to show of raise C(e) -/
theorem mkO_of {K : PySem.W.Frag} {C : Addr} {f : Str} {H1 : Hp} {y : V} {W : XK} (q : ∀ d, H1 d = none → W (.ref C) (some d) (upd H1 d (.xd [(f, y)]))) :
    [y].length ≤ 1000 ∧ ∀ a, H1 a = none → spIni K C f (.ref a :: ([y] ++ [])) (upd H1 a (exo a C none))
      (fun v H2 => v = .non ∧ ∃ (d : Addr) (fs : List (Str × V)), H2 a = some (exo a C (some d)) ∧ H2 d = some (exd d fs) ∧ H1 d = none ∧ W (.ref C) (some d) (upd (del H2 a) d (.xd fs))) (fun _ _ _ => False) := by
  refine ⟨by show 1 ≤ 1000; decide, fun a ha => ⟨a, y, rfl, upd_same, fun d hd ne => ⟨rfl, d, [(f, y)], upd_same, ?_, ?_, ?_⟩⟩⟩
  · rw [upd_ne ne, upd_same]
  · rw [upd_ne ne] at hd
    exact hd
  · rw [made_eq ha ne]
    rw [upd_ne ne] at hd
    exact q d hd
/-! ### isinstance of the error that a suite holds -/
theorem kit_self {K : PySem.W.Frag} {D : Value} : PySem.W.kitOne K D D = some true := by
  unfold PySem.W.kitOne
  rw [if_pos (beq_self_eq_true D)]
theorem kit_sub {K : PySem.W.Frag} {D C : Addr} {b : Bool} (i : PySem.W.isClsIn K C = true) (t : PySem.W.typeIn K (.ref C) = some (.type "type")) (s : PySem.W.subIn K (.ref D) (.ref C) = some b) (ss : PySem.W.subIn K (.ref D) (.ref D) = some true) : PySem.W.kitOne K (.ref D) (.ref C) = some b := by
  unfold PySem.W.kitOne
  by_cases h : D = C
  · subst h
    rw [if_pos (beq_self_eq_true _)]
    rw [ss] at s
    exact s
  · rw [if_neg (fun q => h (Value.ref.inj (beq_iff_eq.mp q)))]
    have i' : (PySem.W.clsIn K C).isSome = true := i
    have e2 : ((PySem.W.clsIn K C).isSome && PySem.W.typeIn K (.ref C) == some (.type "type")) = true := by rw [i', t] <;> rfl
    show (if ((PySem.W.clsIn K C).isSome && PySem.W.typeIn K (.ref C) == some (.type "type")) = true then PySem.W.subIn K (.ref D) (.ref C) else none) = some b
    rw [if_pos e2]
    exact s
theorem kit_any {K : PySem.W.Frag} {t : Value} : ∀ {cs : List Value}, (∀ c ∈ cs, PySem.W.kitOne K t c = some false) → PySem.W.kitAny K t cs = some false
  | [], _ => rfl
  | c :: r, h => by
    unfold PySem.W.kitAny
    rw [h c List.mem_cons_self]
    exact kit_any fun x hx => h x (List.mem_cons_of_mem _ hx)
theorem exm_of {K : PySem.W.Frag} {C D : Addr} {b : Bool} (h1 : PySem.W.subIn K (.ref C) (.type "BaseException") = some true) (h2 : PySem.W.isClsIn K C = true) (h3 : PySem.W.typeIn K (.ref C) = some (.type "type")) (h4 : PySem.W.subIn K (.ref D) (.ref C) = some b) :
    PySem.W.exmOne K (.ref D) (.ref C) = some b := by
  have e1 : (PySem.W.subIn K (.ref C) (.type "BaseException") == some true) = true := by rw [h1] <;> rfl
  have e2 : ((PySem.W.clsIn K C).isSome && PySem.W.typeIn K (.ref C) == some (.type "type")) = true := by
    have h2' : (PySem.W.clsIn K C).isSome = true := h2
    rw [h2', h3] <;> rfl
  show (if (PySem.W.subIn K (.ref C) (.type "BaseException") == some true) = true then (if ((PySem.W.clsIn K C).isSome && PySem.W.typeIn K (.ref C) == some (.type "type")) = true then PySem.W.subIn K (.ref D) (.ref C) else none) else none) = some b
  rw [if_pos e1, if_pos e2]
  exact h4
/-- isinstance(e, c): e the held error, of the class at D, its dict tracked; c one class or a tuple of classes -/
def rIsX (K : PySem.W.Frag) (a : Addr) (cls : Value) (d : Option Addr) : List V → Hp → VK → Prop := fun xs H Q => ∃ (D dd c : Addr) (fs : List (Str × V)) (b : Bool), cls = .ref D ∧ OwnE K D ∧ d = some dd ∧ H dd = some (.xd fs) ∧ xs = [.ref a, .ref c] ∧
  (PySem.W.kitOne K (.ref D) (.ref c) = some b ∨ ∃ cs : List Addr, H c = some (.tup (cs.map V.ref)) ∧ PySem.W.kitAny K (.ref D) (cs.map Value.ref) = some b) ∧ Q (.bl b) H
theorem vals_refs : ∀ {cs : List Addr} {us : List Value}, Vals (cs.map V.ref) us → us = cs.map Value.ref
  | [], _, .nil => rfl
  | c :: r, _, .cons h t => by
    rw [vals_refs t, List.map_cons]
    exact congrArg (· :: _) h
theorem call_isX {X : Cx} {a : Addr} {oe : Obj} {cls : Value} {d : Option Addr} {pn : List (Addr × Obj)} (hz : Zc cls d oe) (hf : ∃ vs, oe.data = .fields vs) : CallR (X.suite a ((a, oe) :: pn)) (.builtin "isinstance") (rIsX X.K a cls d) := by
  intro pins s σ H xs us Q I r h
  obtain ⟨D, dd, c, fs, b, rfl, W, rfl, ed, rfl, alt, q⟩ := h
  cases r with
  | cons rx rr =>
    cases rr with
    | cons rt rr =>
      cases rr
      cases rx
      cases rt
      obtain ⟨hget, _⟩ := I.pin (a, oe) (List.mem_append.mpr (.inl List.mem_cons_self))
      obtain ⟨vs, hv⟩ := hf
      have hx : ObjOk X.prog X.w H s.heap dd (.xd fs) := I.hok dd _ ed
      obtain ⟨mA, hns, hr⟩ := hx
      obtain ⟨od, ho, hl⟩ := lookIn_ns hns
      have J : PySem.W.InstAt s.heap a oe D (some od) := ⟨hget, hz.1, by unfold PySem.W.notCls; rw [hv] <;> rfl, by rw [hz.2]; exact ho⟩
      have Z := PySem.W.kitx_exc (x := a) (ox := oe) (od := some od) W.is W.xf.ga W.xf.gg W.xf.exC W.cl W.cg W.ct W.co
      rcases alt with e | ⟨cs, ec, e⟩
      · exact PySem.W.kia_one Z I.kIn J e (fun z => nomatch z) fun tk => ⟨.bl b, H, I.kept (t' := tk) fun _ _ z => z, rfl, q⟩
      · have ht : ObjOk X.prog X.w H s.heap c (.tup (cs.map V.ref)) := I.hok c _ ec
        obtain ⟨_, us, rv, ⟨o, hoc, hcl, n, hdat⟩⟩ := ht
        have eu := vals_refs rv
        subst eu
        obtain ⟨oc, odd, oda, osl⟩ := o
        dsimp only at hcl hdat
        subst hcl hdat
        exact PySem.W.kia_tup Z I.kIn J hoc e (fun z => nomatch z) fun tk => ⟨.bl b, H, I.kept (t' := tk) fun _ _ z => z, rfl, q⟩
end Rb
namespace Rb
open PySem PySem.Spec PyProof.Rows L2
/-! roads one behind the other -/
abbrev Rd := Int × Int × List Int
def badM (r0 r : Rd) : Bool := !(decide (r.1 = r0.1) && decide (r.2.1 = r0.2.1))
def SameTo (r0 : Rd) (rest : List Rd) (n : Nat) : Prop := ∀ j r, j < n → rest[j]? = some r → badM r0 r = false
def joinM (r0 : Rd) (rest : List Rd) : List Int := r0.2.2 ++ (rest.map (·.2.2)).flatten
def wrongM (r0 : Rd) (rest : List Rd) (n : Nat) : List Nat := (List.range n).filter fun j => match rest[j]? with | some r => badM r0 r | none => false
def dueD (r0 : Rd) (rest : List Rd) : PyData := match wrongM r0 rest rest.length with
  | k :: _ => .list [.str "ticks", .int (k : Int)]
  | [] => if (joinM r0 rest).length < 13 then roadD r0.1 r0.2.1 (joinM r0 rest) else .list [.str "long", .int 12]
theorem wrong_nil {r0 : Rd} {rest : List Rd} {n : Nat} (h : SameTo r0 rest n) : wrongM r0 rest n = [] := by
  unfold wrongM
  rw [List.filter_eq_nil_iff]
  intro j hj
  have hj2 := List.mem_range.mp hj
  cases e : rest[j]? with
  | none => simp
  | some r => simp [h j r hj2 e]
theorem wrong_at {r0 r : Rd} {rest : List Rd} {k n : Nat} (h : SameTo r0 rest k) (hk : rest[k]? = some r) (b : badM r0 r = true) (hn : k < n) : ∃ t, wrongM r0 rest n = k :: t := by
  induction n with
  | zero => omega
  | succ n ih =>
    unfold wrongM
    rw [List.range_succ, List.filter_append]
    by_cases hkn : k < n
    · obtain ⟨t, e⟩ := ih hkn
      unfold wrongM at e
      rw [e]
      exact ⟨_, rfl⟩
    · have hkn2 : k = n := by omega
      subst hkn2
      have e := wrong_nil h
      unfold wrongM at e
      rw [e]
      exact ⟨[], by simp [hk, b]⟩
theorem wrong_cases {r0 : Rd} {rest : List Rd} : ∀ n : Nat, n ≤ rest.length → SameTo r0 rest n ∨ ∃ k r, k < n ∧ rest[k]? = some r ∧ badM r0 r = true ∧ SameTo r0 rest k
  | 0, _ => .inl fun j r hj => absurd hj (Nat.not_lt_zero _)
  | n + 1, hl => by
    rcases wrong_cases (r0 := r0) (rest := rest) n (by omega) with h | ⟨k, r, h1, h2, h3, h4⟩
    · have hl2 : n < rest.length := by omega
      have e : rest[n]? = some rest[n] := List.getElem?_eq_getElem hl2
      cases b : badM r0 rest[n] with
      | true => exact .inr ⟨n, _, by omega, e, b, h⟩
      | false =>
        refine .inl fun j r hj hr => ?_
        by_cases hjn : j < n
        · exact h j r hjn hr
        · have hjn2 : j = n := by omega
          subst hjn2
          rw [e] at hr
          cases hr
          exact b
    · exact .inr ⟨k, r, by omega, h2, h3, h4⟩
theorem due_bad {r0 r : Rd} {rest : List Rd} {k : Nat} (h : SameTo r0 rest k) (hk : rest[k]? = some r) (b : badM r0 r = true) : dueD r0 rest = .list [.str "ticks", .int (k : Int)] := by
  obtain ⟨t, e⟩ := wrong_at h hk b (List.getElem?_eq_some_iff.mp hk).1
  unfold dueD
  rw [e]
theorem due_long {r0 : Rd} {rest : List Rd} (h : SameTo r0 rest rest.length) (l : 12 < (joinM r0 rest).length) : dueD r0 rest = .list [.str "long", .int 12] := by
  unfold dueD
  rw [wrong_nil h]
  exact if_neg (by omega)
theorem due_road {r0 : Rd} {rest : List Rd} (h : SameTo r0 rest rest.length) (l : (joinM r0 rest).length ≤ 12) : dueD r0 rest = roadD r0.1 r0.2.1 (joinM r0 rest) := by
  unfold dueD
  rw [wrong_nil h]
  exact if_pos (by omega)
/-- roads in a sequence -/
def Rds (K : PySem.W.Frag) (H : Hp) (xs : List V) (rs : List Rd) : Prop := xs.length = rs.length ∧ ∀ (i : Nat) (r : Rd), rs[i]? = some r → ∃ v, xs[i]? = some v ∧ Road K H v r.1 r.2.1 r.2.2
section
variable {K : PySem.W.Frag} {H H' : Hp} {xs : List V} {rs : List Rd}
theorem Rds.nil : Rds K H [] [] := ⟨rfl, fun i r h => by simp at h⟩
theorem Road.keep {v : V} {w r : Int} {bs : List Int} (x : Road K H v w r bs) (k : ∀ a ys, SqT K H a ys → SqT K H' a ys) : Road K H' v w r bs := by
  obtain ⟨a, b, rfl, h1, h2⟩ := x
  exact ⟨a, b, rfl, k _ _ h1, k _ _ h2⟩
theorem Rds.keep (h : Rds K H xs rs) (k : ∀ a ys, SqT K H a ys → SqT K H' a ys) : Rds K H' xs rs :=
  ⟨h.1, fun i r e => by
    obtain ⟨v, h1, h2⟩ := h.2 i r e
    exact ⟨v, h1, h2.keep k⟩⟩
theorem Rds.ex (h : Rds K H xs rs) (e : Evl.Ex H H') : Rds K H' xs rs := h.keep fun _ _ z => Evl.ex_t e z
theorem Rds.kp {d c : Addr} {N : Int} (h : Rds K H xs rs) (k : Kp d c H H') (dk : Dk H d c N) : Rds K H' xs rs := h.keep fun _ _ z => k.sqT dk z
theorem Rds.upd {D : Addr} {ys zs : List V} (h : Rds K H xs rs) (hD : H D = some (.lst ys)) : Rds K (upd H D (.lst zs)) xs rs := h.keep fun _ _ z => sqT_upd hD z
theorem Rds.cons {v : V} {r : Rd} (h1 : Road K H v r.1 r.2.1 r.2.2) (h : Rds K H xs rs) : Rds K H (v :: xs) (r :: rs) := by
  refine ⟨by rw [List.length_cons, List.length_cons, h.1], fun i s e => ?_⟩
  cases i with
  | zero =>
    cases e
    exact ⟨v, rfl, h1⟩
  | succ i => exact h.2 i s e
theorem Rds.snoc {v : V} {r : Rd} (h : Rds K H xs rs) (h1 : Road K H v r.1 r.2.1 r.2.2) : Rds K H (xs ++ [v]) (rs ++ [r]) := by
  refine ⟨by simp [h.1], fun i s e => ?_⟩
  by_cases hi : i < rs.length
  · rw [List.getElem?_append_left hi] at e
    obtain ⟨u, h2, h3⟩ := h.2 i s e
    exact ⟨u, by rw [List.getElem?_append_left (by rw [h.1]; exact hi)]; exact h2, h3⟩
  · have hl := (List.getElem?_eq_some_iff.mp e).1
    rw [List.length_append] at hl
    have hi2 : i = rs.length := by simp at hl; omega
    subst hi2
    rw [List.getElem?_concat_length] at e
    cases e
    exact ⟨v, by rw [← h.1]; exact List.getElem?_concat_length, h1⟩
theorem Rds.uncons {v : V} {r : Rd} (h : Rds K H (v :: xs) (r :: rs)) : Road K H v r.1 r.2.1 r.2.2 ∧ Rds K H xs rs := by
  refine ⟨?_, by have := h.1; rw [List.length_cons, List.length_cons] at this; omega, fun i s e => h.2 (i + 1) s e⟩
  obtain ⟨u, h1, h2⟩ := h.2 0 r rfl
  cases h1
  exact h2
theorem Rds.at {i : Nat} {v : V} (h : Rds K H xs rs) (hv : xs[i]? = some v) : ∃ r, rs[i]? = some r ∧ Road K H v r.1 r.2.1 r.2.2 := by
  have hl := (List.getElem?_eq_some_iff.mp hv).1
  have e : rs[i]? = some (rs[i]'(by rw [← h.1]; exact hl)) := List.getElem?_eq_getElem _
  obtain ⟨u, h1, h2⟩ := h.2 i _ e
  rw [hv] at h1
  cases h1
  exact ⟨_, e, h2⟩
theorem Rds.set {i : Nat} {v : V} {r : Rd} (h : Rds K H xs rs) (h1 : Road K H v r.1 r.2.1 r.2.2) : Rds K H (xs.set i v) (rs.set i r) := by
  refine ⟨by simp [h.1], fun j s e => ?_⟩
  by_cases hij : i = j
  · subst hij
    by_cases hl : i < rs.length
    · rw [List.getElem?_set_self hl] at e
      cases e
      exact ⟨v, List.getElem?_set_self (by rw [h.1]; exact hl), h1⟩
    · rw [List.getElem?_eq_none (by simp; omega)] at e
      cases e
  · rw [List.getElem?_set_ne hij] at e
    obtain ⟨u, h2, h3⟩ := h.2 j s e
    exact ⟨u, by rw [List.getElem?_set_ne hij]; exact h2, h3⟩
theorem Rds.dp : ∀ {xs : List V} {rs : List Rd}, Rds K H xs rs → DpAll K H xs (rs.map fun r => roadD r.1 r.2.1 r.2.2)
  | [], [], _ => .nil
  | [], _ :: _, h => by cases h.1
  | _ :: _, [], h => by cases h.1
  | x :: xs, r :: rs, h => by
    obtain ⟨h1, h2⟩ := h.uncons
    exact .cons h1.dp (Rds.dp h2)
/-! the two ends of a road -/
theorem road_to2 {v : V} {w r : Int} {bs : List Int} {Q : VK} (h : Road K H v w r bs) (q : ∀ p, H p = none → Q (.ref p) (L2.upd H p (.tup [.int w, .int r]))) : rSlA K v none (some 2) H Q := by
  obtain ⟨a, b, rfl, h1, h2⟩ := h
  exact ⟨a, _, rfl, h1, fun hw => absurd hw.2 (by show HT.sIx 3 3 (some 2) ≠ 3; decide), fun _ p np => q p np⟩
theorem road_from2 {v : V} {w r : Int} {bs : List Int} {Q : VK} (h : Road K H v w r bs) (q : ∀ p b, H p = none → SqT K H b (bs.map V.int) → Q (.ref p) (L2.upd H p (.tup [.ref b]))) : rSlA K v (some 2) none H Q := by
  obtain ⟨a, b, rfl, h1, h2⟩ := h
  exact ⟨a, _, rfl, h1, fun hw => absurd hw.1 (by show HT.sIx 3 0 (some 2) ≠ 0; decide), fun _ p np => q p b np h2⟩
theorem eqv_pair {a b c d : Int} : PyData.eqv (.tuple [.int a, .int b]) (.tuple [.int c, .int d]) = (decide (a = c) && decide (b = d)) := by
  have e1 : (a == c) = decide (a = c) := by by_cases h : a = c <;> simp [h]
  have e2 : (b == d) = decide (b = d) := by by_cases h : b = d <;> simp [h]
  rw [← e1, ← e2]
  simp [PyData.eqv, PyData.eqvAll]
end
/-! a result: plain immutable data, or a new list of a text and a number -/
def Res (K : PySem.W.Frag) (H0 H : Hp) (v : V) (d : PyData) : Prop := Tp K H v d ∨ ∃ (q : Addr) (x : Str) (n : Int), v = .ref q ∧ H0 q = none ∧ H q = some (.lst [.str x, .int n]) ∧ d = .list [.str x, .int n]
theorem Res.ex {K : PySem.W.Frag} {H0 H H' : Hp} {v : V} {d : PyData} (h : Res K H0 H v d) (e : Evl.Ex H H') : Res K H0 H' v d := by
  rcases h with h | ⟨q, x, n, h1, h2, h3, h4⟩
  · exact .inl (h.ex e)
  · exact .inr ⟨q, x, n, h1, h2, e _ _ h3, h4⟩
theorem Res.old {K : PySem.W.Frag} {H0 H1 H : Hp} {v : V} {d : PyData} (h : Res K H1 H v d) (e : Evl.Ex H0 H1) : Res K H0 H v d := by
  rcases h with h | ⟨q, x, n, h1, h2, h3, h4⟩
  · exact .inl h
  · refine .inr ⟨q, x, n, h1, ?_, h3, h4⟩
    cases z : H0 q with
    | none => rfl
    | some o => rw [e _ _ z] at h2; cases h2
theorem Res.dp {K : PySem.W.Frag} {H0 H : Hp} {v : V} {d : PyData} (h : Res K H0 H v d) : Dp K H v d := by
  rcases h with h | ⟨q, x, n, h1, h2, h3, h4⟩
  · exact Tp.dp _ _ h
  · subst h1 h4
    exact .lst (lstOf h3) (.cons (.str x) (.cons (.int n) .nil))
/-- the same of all, the lists none of them at D -/
inductive ResAll (K : PySem.W.Frag) (D : Addr) (H : Hp) : List V → List PyData → Prop
  | nil : ResAll K D H [] []
  | tp {v : V} {d : PyData} {vs : List V} {ds : List PyData} : Tp K H v d → ResAll K D H vs ds → ResAll K D H (v :: vs) (d :: ds)
  | ls {q : Addr} {x : Str} {n : Int} {vs : List V} {ds : List PyData} : q ≠ D → H q = some (.lst [.str x, .int n]) → ResAll K D H vs ds → ResAll K D H (.ref q :: vs) (.list [.str x, .int n] :: ds)
section
variable {K : PySem.W.Frag} {D : Addr} {H H' : Hp}
theorem ResAll.dp : ∀ {vs : List V} {ds : List PyData}, ResAll K D H vs ds → DpAll K H vs ds
  | _, _, .nil => .nil
  | _, _, .tp h r => .cons (Tp.dp _ _ h) r.dp
  | _, _, .ls _ h r => .cons (.lst (lstOf h) (.cons (.str _) (.cons (.int _) .nil))) r.dp
theorem ResAll.ex (e : Evl.Ex H H') : ∀ {vs : List V} {ds : List PyData}, ResAll K D H vs ds → ResAll K D H' vs ds
  | _, _, .nil => .nil
  | _, _, .tp h r => .tp (h.ex e) (r.ex e)
  | _, _, .ls n h r => .ls n (e _ _ h) (r.ex e)
theorem ResAll.upd {ys zs : List V} (hD : H D = some (.lst ys)) : ∀ {vs : List V} {ds : List PyData}, ResAll K D H vs ds → ResAll K D (upd H D (.lst zs)) vs ds
  | _, _, .nil => .nil
  | _, _, .tp h r => .tp (h.upd hD) (r.upd hD)
  | _, _, .ls n h r => .ls n (by rw [upd_ne n]; exact h) (r.upd hD)
theorem ResAll.snoc {H0 : Hp} {v : V} {d : PyData} {o : HO} (hv : Res K H0 H v d) (hD : H0 D = some o) : ∀ {vs : List V} {ds : List PyData}, ResAll K D H vs ds → ResAll K D H (vs ++ [v]) (ds ++ [d])
  | _, _, .nil => by
    rcases hv with h | ⟨q, x, n, h1, h2, h3, h4⟩
    · exact .tp h .nil
    · subst h1 h4
      exact .ls (fun z => by rw [z, hD] at h2; cases h2) h3 .nil
  | _, _, .tp h r => .tp h (r.snoc hv hD)
  | _, _, .ls n h r => .ls n h (r.snoc hv hD)
theorem ResAll.length : ∀ {vs : List V} {ds : List PyData}, ResAll K D H vs ds → vs.length = ds.length
  | _, _, .nil => rfl
  | _, _, .tp _ r => congrArg Nat.succ r.length
  | _, _, .ls _ _ r => congrArg Nat.succ r.length
end
section
variable {K : PySem.W.Frag} {tt : TT} {te : TE} {vs : List Nat} {σ : L2.St} {H1 : Hp} {D a : Addr} {j : Nat} {Qd : Hp → Prop}
theorem lc_resR {n : Nat} (f : Nat → PyData) (nD : H1 D = none) (hw : ∀ x, wipe ((wipe σ vs).set j (some x)) vs = wipe σ vs) (hz : n ≤ 90000)
    (he : ∀ i H3, i < n → Evl.Ex H1 H3 → ∀ Q : VK, (∀ y H4, Evl.Ex H3 H4 → Res K H3 H4 y (f i) → Q y H4) → te ((wipe σ vs).set j (some (.int (i : Int)))) H3 Q)
    (hd : ∀ xs H', Evl.Ex H1 H' → H' D = some (.lst xs) → ResAll K D H' xs ((List.range n).map f) → Qd H') :
    ∃ W : Nat → Nat → Hp → Prop, (∃ m, W 0 m (upd H1 D (.lst []))) ∧ ∀ i m H, W i m H →
      ((Itr 0 n).stop i H ∧ Qd H) ∨ ((Itr 0 n).go i H ∧ ∃ Nx : Hp → Prop, (∀ H', Nx H' → ∃ m', m' < m ∧ W (i + 1) m' H') ∧ ∀ x H', (Itr 0 n).yld i H x H' → (gName j) x (wipe σ vs) H' fun σ2 H2 => wipe σ2 vs = wipe σ vs ∧ tYes σ2 H2 fun b H3 =>
        if b = true then te σ2 H3 fun y H4 => ∃ acc, H4 D = some (.lst acc) ∧ acc.length < sizeLine ∧ Nx (upd H4 D (.lst (acc ++ [y]))) else Nx H3) := by
  refine lc_range (lo := 0) (n := n) (fun i H' => Evl.Ex H1 H' ∧ ∃ xs, H' D = some (.lst xs) ∧ ResAll K D H' xs ((List.range i).map f)) ⟨Evl.Ex.new nD, [], upd_same, .nil⟩ ?_ ?_
  · rintro i H' hi ⟨p1, xs, p2, p3⟩
    refine ⟨hw _, ?_⟩
    show te ((wipe σ vs).set j (some (.int ((0 : Int) + (i : Int))))) H' _
    rw [Int.zero_add]
    refine he i H' hi p1 _ fun y H4 e4 hy => ⟨xs, e4 _ _ p2, ?_, Evl.Ex.mut (p1.trans e4) nD, xs ++ [y], upd_same, ?_⟩
    · have := p3.length
      rw [List.length_map, List.length_range] at this
      exact sz_lt (by omega)
    · rw [List.range_succ, List.map_append]
      exact ((p3.ex e4).snoc hy p2).upd (e4 _ _ p2)
  · rintro H' ⟨p1, xs, p2, p3⟩
    exact hd xs H' p1 p2 p3
/-- [k for k in range(lo, lo + n) if ..] -/
theorem lc_filtR {lo : Int} {n : Nat} (f : Nat → Bool) (nD : H1 D = none) (hw : ∀ x, wipe ((wipe σ vs).set j (some x)) vs = wipe σ vs) (hz : n ≤ 90000)
    (ht : ∀ (i : Nat) H3, i < n → Evl.Ex H1 H3 → ∀ Q : Bool → Hp → Prop, (∀ H4, Evl.Ex H3 H4 → Q (f i) H4) → tt ((wipe σ vs).set j (some (.int (lo + i)))) H3 Q)
    (he : ∀ (i : Nat) H3, i < n → Evl.Ex H1 H3 → ∀ Q : VK, (∀ H4, Evl.Ex H3 H4 → Q (.int (lo + i)) H4) → te ((wipe σ vs).set j (some (.int (lo + i)))) H3 Q) (hd : ∀ H', Evl.Ex H1 H' → H' D = some (.lst (((List.range n).filter f).map fun (i : Nat) => V.int (lo + i))) → Qd H') :
    ∃ W : Nat → Nat → Hp → Prop, (∃ m, W 0 m (upd H1 D (.lst []))) ∧ ∀ i m H, W i m H →
      ((Itr lo n).stop i H ∧ Qd H) ∨ ((Itr lo n).go i H ∧ ∃ Nx : Hp → Prop, (∀ H', Nx H' → ∃ m', m' < m ∧ W (i + 1) m' H') ∧ ∀ x H', (Itr lo n).yld i H x H' → (gName j) x (wipe σ vs) H' fun σ2 H2 => wipe σ2 vs = wipe σ vs ∧ tt σ2 H2 fun b H3 =>
        if b = true then te σ2 H3 fun y H4 => ∃ acc, H4 D = some (.lst acc) ∧ acc.length < sizeLine ∧ Nx (upd H4 D (.lst (acc ++ [y]))) else Nx H3) := by
  refine lc_range (lo := lo) (n := n) (fun i H' => Evl.Ex H1 H' ∧ H' D = some (.lst (((List.range i).filter f).map fun (i : Nat) => V.int (lo + i)))) ⟨Evl.Ex.new nD, upd_same⟩ ?_ (fun H' p => hd H' p.1 p.2)
  rintro i H' hi ⟨p1, p2⟩
  refine ⟨hw _, ?_⟩
  refine ht i H' hi p1 _ fun H3 e3 => ?_
  cases c : f i with
  | true =>
    refine iteT ?_
    refine he i H3 hi (p1.trans e3) _ fun H4 e4 => ⟨_, e4 _ _ (e3 _ _ p2), ?_, Evl.Ex.mut ((p1.trans e3).trans e4) nD, ?_⟩
    · have h1 := List.length_filter_le f (List.range i)
      rw [List.length_range] at h1
      rw [List.length_map]
      exact sz_lt (by omega)
    · rw [upd_same, List.range_succ, List.filter_append, List.map_append]
      simp [c]
  | false =>
    refine iteF ⟨p1.trans e3, ?_⟩
    rw [e3 _ _ p2, List.range_succ, List.filter_append]
    simp [c]
end
end Rb
namespace Rb
open PySem PySem.Spec PyProof.Rows L2
/-! any value: plain data, small dicts from texts to ints among it -/
def dicV (ps : List (Str × Int)) : List (Key × V) := ps.map fun p => (Sum.inr p.1, V.int p.2)
def dicD (ps : List (Str × Int)) : PyData := .dict (ps.map fun p => (.str p.1, .int p.2))
mutual
inductive Ap (K : PySem.W.Frag) (S : List Addr) (H : Hp) : V → PyData → Prop
  | non : Ap K S H .non .none
  | bl (b : Bool) : Ap K S H (.bl b) (.bool b)
  | int (i : Int) : Ap K S H (.int i) (.int i)
  | str (x : Str) : Ap K S H (.str x) (.str x)
  | lst {a : Addr} {xs : List V} {ds : List PyData} : a ∉ S → L2.Rd H a (.lst xs) → ApAll K S H xs ds → Ap K S H (.ref a) (.list ds)
  | tup {a : Addr} {xs : List V} {ds : List PyData} : SqT K H a xs → ApAll K S H xs ds → Ap K S H (.ref a) (.tuple ds)
  | dic {a : Addr} {ps : List (Str × Int)} : H a = some (.dK (dicV ps)) → Ap K S H (.ref a) (dicD ps)
inductive ApAll (K : PySem.W.Frag) (S : List Addr) (H : Hp) : List V → List PyData → Prop
  | nil : ApAll K S H [] []
  | cons {v : V} {vs : List V} {d : PyData} {ds : List PyData} : Ap K S H v d → ApAll K S H vs ds → ApAll K S H (v :: vs) (d :: ds)
end
section
variable {X : Cx} {pins : List (Addr × Obj)} {σ : L2.St} {H : Hp} {s : Shared} {S : List Addr}
theorem dic_reads {h : Heap} : ∀ {ps : List (Str × Int)} {vs : List (Key × Value)} {es : List DictEntry}, KV (dicV ps) vs → Pairs (mixKind X.prog X.w) es vs →
    ReadsAll h (es.map (·.key)) (ps.map fun p => PyData.str p.1) [] ∧ ReadsAll h (es.map (·.val)) (ps.map fun p => PyData.int p.2) []
  | [], _, _, .nil, .nil => ⟨.nil, .nil⟩
  | p :: ps, _, _, .cons hp r, .cons h1 h2 h3 => by
    obtain ⟨q1, q2⟩ := dic_reads r h3
    obtain ⟨e1, t, e2⟩ := hp
    have hk : keyIs (Sum.inr p.1) _ = true := e1 ▸ h1
    rcases keyIs_shape hk with ⟨i, t, z, _⟩ | ⟨x, t2, z, e3⟩
    · cases z
    · cases z
      refine ⟨?_, ?_⟩
      · rw [List.map_cons, List.map_cons, e3]
        exact ReadsAll.cons (as := []) (bs := []) (.str _ _) q1
      · rw [List.map_cons, List.map_cons, h2, e2]
        exact ReadsAll.cons (as := []) (bs := []) (.int _ _) q2
mutual
theorem Ap.reads (hm : sysModules ∈ S) (I : Inv X pins σ H s) : ∀ (d : PyData) (v : V) (u : Value), Ap X.K S H v d → RelV v u → ∃ as, Reads s.heap u d as ∧ sysModules ∉ as
  | .none, _, _, h, r => by
    cases h
    cases r
    exact ⟨_, Reads.none, (fun z => nomatch z)⟩
  | .bool b, _, _, h, r => by
    cases h
    cases r
    exact ⟨_, Reads.bool b, (fun z => nomatch z)⟩
  | .int i, _, _, h, r => by
    cases h
    obtain ⟨t, rfl⟩ := r
    exact ⟨_, Reads.int i t, (fun z => nomatch z)⟩
  | .str x, _, _, h, r => by
    cases h
    obtain ⟨t, rfl⟩ := r
    exact ⟨_, Reads.str x t, (fun z => nomatch z)⟩
  | .list ds, _, _, h, r => by
    cases h with
    | lst ne hs ha =>
      cases r
      obtain ⟨its, rv, ⟨o, n, ho, hc, _, hd⟩, _⟩ := I.list (show SqL X.K H _ _ from .inl hs)
      obtain ⟨as, hr, no⟩ := Ap.readsAll hm I ds _ its ha rv
      refine ⟨_, Reads.list ho hc hd hr, fun z => ?_⟩
      rcases List.mem_cons.mp z with z | z
      · exact ne (z ▸ hm)
      · exact no z
  | .tuple ds, _, _, h, r => by
    cases h with
    | tup hs ha =>
      cases r
      obtain ⟨its, rv, ⟨o, ho, hc, n, hd⟩, _⟩ := I.tuple hs
      obtain ⟨as, hr, no⟩ := Ap.readsAll hm I ds _ its ha rv
      exact ⟨_, Reads.tuple ho hc hd hr, no⟩
  | .dict kvs, _, _, h, r => by
    generalize e : PyData.dict kvs = dd at h
    cases h with
    | non => cases e
    | bl => cases e
    | int => cases e
    | str => cases e
    | lst => cases e
    | tup => cases e
    | @dic a ps hd =>
      cases (PyData.dict.inj e)
      cases r
      obtain ⟨_, ne, vs, rel, o, es, ep, ho, hx, hdat, _, hp, _⟩ := dk_of I.hok hd
      obtain ⟨q1, q2⟩ := dic_reads (X := X) (h := s.heap) rel hp
      have e1 : (ps.map fun p => ((PyData.str p.1, PyData.int p.2) : PyData × PyData)).map (·.1) = ps.map fun p => PyData.str p.1 := by rw [List.map_map]; rfl
      have e2 : (ps.map fun p => ((PyData.str p.1, PyData.int p.2) : PyData × PyData)).map (·.2) = ps.map fun p => PyData.int p.2 := by rw [List.map_map]; rfl
      refine ⟨_, Reads.dict (as := []) (bs := []) ho hx.1 hdat (by rw [e1]; exact q1) (by rw [e2]; exact q2), fun z => ?_⟩
      rcases List.mem_cons.mp z with z | z
      · rw [← z] at ne
        cases ne
      · cases z
theorem Ap.readsAll (hm : sysModules ∈ S) (I : Inv X pins σ H s) : ∀ (ds : List PyData) (vs : List V) (us : List Value), ApAll X.K S H vs ds → Vals vs us → ∃ as, ReadsAll s.heap us ds as ∧ sysModules ∉ as
  | [], _, _, h, r => by
    cases h
    cases r
    exact ⟨_, ReadsAll.nil, (fun z => nomatch z)⟩
  | d :: ds, _, _, h, r => by
    cases h with
    | cons h1 h2 =>
      cases r with
      | cons r1 r2 =>
        obtain ⟨as, q1, n1⟩ := Ap.reads hm I d _ _ h1 r1
        obtain ⟨bs, q2, n2⟩ := Ap.readsAll hm I ds _ _ h2 r2
        refine ⟨_, ReadsAll.cons q1 q2, fun z => ?_⟩
        rcases List.mem_append.mp z with z | z
        · exact n1 z
        · exact n2 z
end
end
/-! what stays -/
section
variable {K : PySem.W.Frag} {H H' : Hp} {S : List Addr}
mutual
theorem Ap.keep (kl : ∀ a xs, a ∉ S → L2.Rd H a (.lst xs) → L2.Rd H' a (.lst xs)) (kt : ∀ a xs, SqT K H a xs → SqT K H' a xs) (kd : ∀ a ps, H a = some (.dK ps) → H' a = some (.dK ps)) : ∀ (d : PyData) (v : V), Ap K S H v d → Ap K S H' v d
  | .none, _, h => by cases h; exact .non
  | .bool b, _, h => by cases h; exact .bl b
  | .int i, _, h => by cases h; exact .int i
  | .str x, _, h => by cases h; exact .str x
  | .list ds, _, h => by
    cases h with
    | lst ne hs ha => exact .lst ne (kl _ _ ne hs) (ApAll.keep kl kt kd ds _ ha)
  | .tuple ds, _, h => by
    cases h with
    | tup hs ha => exact .tup (kt _ _ hs) (ApAll.keep kl kt kd ds _ ha)
  | .dict kvs, _, h => by
    generalize e : PyData.dict kvs = dd at h ⊢
    cases h with
    | non => cases e
    | bl => cases e
    | int => cases e
    | str => cases e
    | lst => cases e
    | tup => cases e
    | dic hd => exact .dic (kd _ _ hd)
theorem ApAll.keep (kl : ∀ a xs, a ∉ S → L2.Rd H a (.lst xs) → L2.Rd H' a (.lst xs)) (kt : ∀ a xs, SqT K H a xs → SqT K H' a xs) (kd : ∀ a ps, H a = some (.dK ps) → H' a = some (.dK ps)) : ∀ (ds : List PyData) (vs : List V), ApAll K S H vs ds → ApAll K S H' vs ds
  | [], _, h => by cases h; exact .nil
  | d :: ds, _, h => by
    cases h with
    | cons h1 h2 => exact .cons (Ap.keep kl kt kd d _ h1) (ApAll.keep kl kt kd ds _ h2)
end
theorem Ap.ex {v : V} {d : PyData} (h : Ap K S H v d) (e : Evl.Ex H H') : Ap K S H' v d := Ap.keep (fun _ _ _ z => Evl.ex_rd e z) (fun _ _ z => Evl.ex_t e z) (fun _ _ z => e _ _ z) d v h
theorem ApAll.ex {vs : List V} {ds : List PyData} (h : ApAll K S H vs ds) (e : Evl.Ex H H') : ApAll K S H' vs ds := ApAll.keep (fun _ _ _ z => Evl.ex_rd e z) (fun _ _ z => Evl.ex_t e z) (fun _ _ z => e _ _ z) ds vs h
theorem ApAll.length : ∀ {vs : List V} {ds : List PyData}, ApAll K S H vs ds → vs.length = ds.length
  | _, _, .nil => rfl
  | _, _, .cons _ r => congrArg Nat.succ r.length
theorem ApAll.at : ∀ {vs : List V} {ds : List PyData} {i : Nat} {v : V}, ApAll K S H vs ds → vs[i]? = some v → ∃ d, ds[i]? = some d ∧ Ap K S H v d
  | _, _, i, _, .nil, h => by simp at h
  | _, _, 0, _, .cons h1 _, h => by
    cases h
    exact ⟨_, rfl, h1⟩
  | _, _, i + 1, _, .cons _ h2, h => ApAll.at (i := i) h2 h
theorem ApAll.append : ∀ {vs ws : List V} {ds es : List PyData}, ApAll K S H vs ds → ApAll K S H ws es → ApAll K S H (vs ++ ws) (ds ++ es)
  | _, _, _, _, .nil, h => h
  | _, _, _, _, .cons h1 h2, h => .cons h1 (h2.append h)
mutual
theorem Tp.ap : ∀ (d : PyData) (v : V), Tp K H v d → Ap K S H v d
  | .none, _, h => by cases h; exact .non
  | .bool b, _, h => by cases h; exact .bl b
  | .int i, _, h => by cases h; exact .int i
  | .str x, _, h => by cases h; exact .str x
  | .list ds, _, h => by cases h
  | .tuple ds, _, h => by
    cases h with
    | tup hs ha => exact .tup hs (TpAll.ap ds _ ha)
  | .dict kvs, _, h => by cases h
theorem TpAll.ap : ∀ (ds : List PyData) (vs : List V), TpAll K H vs ds → ApAll K S H vs ds
  | [], _, h => by cases h; exact .nil
  | d :: ds, _, h => by
    cases h with
    | cons h1 h2 => exact .cons (Tp.ap d _ h1) (TpAll.ap ds _ h2)
end
end
/-! the deck's two lists apart -/
theorem Kp.rd {d c a : Addr} {H H' : Hp} {u : HO} (k : Kp d c H H') (n1 : a ≠ d) (n2 : a ≠ c) (hs : L2.Rd H a u) : L2.Rd H' a u := by
  rcases hs with h | ⟨o, h⟩
  · exact .inl (k _ _ h n1 n2)
  · exact .inr ⟨o, k _ _ h n1 n2⟩
theorem Kp.dic {d c a : Addr} {H H' : Hp} {N : Int} {ps : List (Key × V)} (k : Kp d c H H') (dk : Dk H d c N) (h : H a = some (.dK ps)) : H' a = some (.dK ps) := by
  obtain ⟨cs, n, h1, h2, _⟩ := dk
  refine k _ _ h (fun z => ?_) (fun z => ?_)
  · rw [z, h1] at h
    cases h
  · rw [z, h2] at h
    cases h
/-- addresses that lists of values keep away from: the table of modules, the deck's two lists, and others that stand already -/
structure Sok (H : Hp) (d c : Addr) (S : List Addr) : Prop where
  m : sysModules ∈ S
  d : d ∈ S
  c : c ∈ S
  old : ∀ a ∈ S, a = sysModules ∨ ∃ o, H a = some o
theorem Sok.kp {H H' : Hp} {d c : Addr} {S : List Addr} {N M : Int} (h : Sok H d c S) (k : Kp d c H H') (dk : Dk H' d c M) : Sok H' d c S := by
  refine ⟨h.m, h.d, h.c, fun a ha => ?_⟩
  obtain ⟨cs, n, h1, h2, _⟩ := dk
  by_cases e1 : a = d
  · subst e1
    exact .inr ⟨_, h1⟩
  by_cases e2 : a = c
  · subst e2
    exact .inr ⟨_, h2⟩
  rcases h.old a ha with e | ⟨o, e⟩
  · exact .inl e
  · exact .inr ⟨o, k _ _ e e1 e2⟩
theorem Sok.ex {H H' : Hp} {d c : Addr} {S : List Addr} (h : Sok H d c S) (e : Evl.Ex H H') : Sok H' d c S := ⟨h.m, h.d, h.c, fun a ha => by
  rcases h.old a ha with z | ⟨o, z⟩
  · exact .inl z
  · exact .inr ⟨o, e _ _ z⟩⟩
theorem Sok.new {H : Hp} {d c p : Addr} {S : List Addr} (h : Sok H d c S) (np : H p = none) (ns : p ≠ sysModules) : p ∉ S := fun z => by
  rcases h.old p z with e | ⟨o, e⟩
  · exact ns e
  · rw [np] at e
    cases e
theorem Sok.more {H : Hp} {d c p : Addr} {S : List Addr} {o : HO} (h : Sok H d c S) (hp : H p = some o) : Sok H d c (p :: S) := ⟨.tail _ h.m, .tail _ h.d, .tail _ h.c, fun a ha => by
  rcases List.mem_cons.mp ha with rfl | ha
  · exact .inr ⟨o, hp⟩
  · exact h.old a ha⟩
theorem Ap.kp {K : PySem.W.Frag} {d c : Addr} {S : List Addr} {H H' : Hp} {N : Int} {v : V} {x : PyData} (h : Ap K S H v x) (ok : Sok H d c S) (k : Kp d c H H') (dk : Dk H d c N) : Ap K S H' v x :=
  Ap.keep (fun a _ n z => k.rd (fun e => n (e ▸ ok.d)) (fun e => n (e ▸ ok.c)) z) (fun _ _ z => k.sqT dk z) (fun _ _ z => k.dic dk z) x v h
theorem ApAll.kp {K : PySem.W.Frag} {d c : Addr} {S : List Addr} {H H' : Hp} {N : Int} {vs : List V} {xs : List PyData} (h : ApAll K S H vs xs) (ok : Sok H d c S) (k : Kp d c H H') (dk : Dk H d c N) : ApAll K S H' vs xs :=
  ApAll.keep (fun a _ n z => k.rd (fun e => n (e ▸ ok.d)) (fun e => n (e ▸ ok.c)) z) (fun _ _ z => k.sqT dk z) (fun _ _ z => k.dic dk z) xs vs h
/-! one more address that lists keep away from, because it was free -/
theorem rd_ne {H : Hp} {a D : Addr} {u : HO} (h : L2.Rd H a u) (n : H D = none) : a ≠ D := fun e => by
  subst e
  rcases h with h | ⟨o, h⟩ <;> rw [n] at h <;> cases h
mutual
theorem Ap.more {K : PySem.W.Frag} {S : List Addr} {H : Hp} {D : Addr} (n : H D = none) : ∀ (d : PyData) (v : V), Ap K S H v d → Ap K (D :: S) H v d
  | .none, _, h => by cases h; exact .non
  | .bool b, _, h => by cases h; exact .bl b
  | .int i, _, h => by cases h; exact .int i
  | .str x, _, h => by cases h; exact .str x
  | .list ds, _, h => by
    cases h with
    | lst ne hs ha => exact .lst (fun z => (List.mem_cons.mp z).elim (rd_ne hs n) ne) hs (ApAll.more n ds _ ha)
  | .tuple ds, _, h => by
    cases h with
    | tup hs ha => exact .tup hs (ApAll.more n ds _ ha)
  | .dict kvs, _, h => by
    generalize e : PyData.dict kvs = dd at h ⊢
    cases h with
    | non => cases e
    | bl => cases e
    | int => cases e
    | str => cases e
    | lst => cases e
    | tup => cases e
    | dic hd => exact .dic hd
theorem ApAll.more {K : PySem.W.Frag} {S : List Addr} {H : Hp} {D : Addr} (n : H D = none) : ∀ (ds : List PyData) (vs : List V), ApAll K S H vs ds → ApAll K (D :: S) H vs ds
  | [], _, h => by cases h; exact .nil
  | d :: ds, _, h => by
    cases h with
    | cons h1 h2 => exact .cons (Ap.more n d _ h1) (ApAll.more n ds _ h2)
end
/-! an address of S may be forgotten -/
mutual
theorem Ap.less {K : PySem.W.Frag} {S S' : List Addr} {H : Hp} (n : ∀ a ∈ S', a ∈ S) : ∀ (d : PyData) (v : V), Ap K S H v d → Ap K S' H v d
  | .none, _, h => by cases h; exact .non
  | .bool b, _, h => by cases h; exact .bl b
  | .int i, _, h => by cases h; exact .int i
  | .str x, _, h => by cases h; exact .str x
  | .list ds, _, h => by
    cases h with
    | lst ne hs ha => exact .lst (fun z => ne (n _ z)) hs (ApAll.less n ds _ ha)
  | .tuple ds, _, h => by
    cases h with
    | tup hs ha => exact .tup hs (ApAll.less n ds _ ha)
  | .dict kvs, _, h => by
    generalize e : PyData.dict kvs = dd at h ⊢
    cases h with
    | non => cases e
    | bl => cases e
    | int => cases e
    | str => cases e
    | lst => cases e
    | tup => cases e
    | dic hd => exact .dic hd
theorem ApAll.less {K : PySem.W.Frag} {S S' : List Addr} {H : Hp} (n : ∀ a ∈ S', a ∈ S) : ∀ (ds : List PyData) (vs : List V), ApAll K S H vs ds → ApAll K S' H vs ds
  | [], _, h => by cases h; exact .nil
  | d :: ds, _, h => by
    cases h with
    | cons h1 h2 => exact .cons (Ap.less n d _ h1) (ApAll.less n ds _ h2)
end
/-- the list at D, of S, grows: values that keep away from it stay -/
theorem rd_upd {H : Hp} {a D : Addr} {u o : HO} (n : a ≠ D) (h : L2.Rd H a u) : L2.Rd (upd H D o) a u := by
  rcases h with h | ⟨z, h⟩
  · exact .inl (by rw [upd_ne n]; exact h)
  · exact .inr ⟨z, by rw [upd_ne n]; exact h⟩
theorem Ap.upd {K : PySem.W.Frag} {S : List Addr} {H : Hp} {D : Addr} {ys zs : List V} {v : V} {x : PyData} (h : Ap K S H v x) (hs : D ∈ S) (hD : H D = some (.lst ys)) : Ap K S (upd H D (.lst zs)) v x :=
  Ap.keep (fun a _ n z => rd_upd (fun e => n (e ▸ hs)) z) (fun _ _ z => sqT_upd hD z) (fun a ps z => by rw [upd_ne (fun e => by rw [e, hD] at z; cases z)]; exact z) x v h
/-! repr, ==, != of any such value -/
def rReprA (K : PySem.W.Frag) : List V → Hp → VK → Prop := fun vs H Q =>
  ∃ S v d, sysModules ∈ S ∧ vs = [v] ∧ Ap K S H v d ∧ d.showable = true ∧ d.depth ≤ 20 ∧ d.shown.length ≤ sizeLine ∧ Q (.str d.shown) H
theorem call_reprA {X : Cx} (hg : X.A.guards = some []) (hu : X.A.units + 64 < cLine) : CallR X (.builtin "repr") (rReprA X.K) := by
  intro pins s σ H vs us Q I r h
  obtain ⟨S, v, d, hm, rfl, hd, hs, hdep, hsz, q⟩ := h
  obtain ⟨u, rfl, ru⟩ := vals1 r
  obtain ⟨as, rd, no⟩ := Ap.reads hm I d v u hd ru
  cases v with
  | ref a =>
    cases ru
    refine repr_of_reads' rd hs (fun _ => no) hg (by omega) (fun _ _ e => e) (fun h' t tk hk => ?_) hsz
    exact ⟨.str _, H, I.kept hk, ⟨_, rfl⟩, q⟩
  | int i =>
    obtain ⟨t, rfl⟩ := ru
    cases hd
    simp only [PyData.showable, decide_eq_true_eq] at hs
    simp only [PyData.shown] at q
    exact PySem.P.repr_of_int hs ⟨.str _, H, I.tok _, ⟨_, rfl⟩, q⟩
  | str x =>
    obtain ⟨t, rfl⟩ := ru
    cases hd
    simp only [PyData.shown] at q hsz
    exact PySem.P.repr_of_str ⟨.str _, H, I.tok _, ⟨_, rfl⟩, q⟩ hsz
  | bl b =>
    cases ru
    cases hd
    simp only [PyData.shown] at q
    exact PySem.P.repr_of_bool ⟨.str _, H, I.tok _, ⟨_, rfl⟩, q⟩
  | non =>
    cases ru
    cases hd
    simp only [PyData.shown] at q
    exact PySem.P.repr_of_none ⟨.str _, H, I.tok _, ⟨_, rfl⟩, q⟩
  | byt b => cases hd
  | flt b => cases hd
  | ty n => cases hd
def rEqA (K : PySem.W.Frag) : R2 := fun x y H Q => ∃ S d e, sysModules ∈ S ∧ Ap K S H x d ∧ Ap K S H y e ∧ SeqAt.shaped d = true ∧ SeqAt.shaped e = true ∧ Q (.bl (PyData.eqv d e)) H
def rNeA (K : PySem.W.Frag) : R2 := fun x y H Q => ∃ S d e, sysModules ∈ S ∧ Ap K S H x d ∧ Ap K S H y e ∧ SeqAt.shaped d = true ∧ SeqAt.shaped e = true ∧ Q (.bl (!PyData.eqv d e)) H
theorem op_eqA {X : Cx} (hu : X.A.units + 64 < cLine) : OpR X (compareOp .Eq) (rEqA X.K) := by
  intro pins s σ H x y v u Q I rx ry h
  obtain ⟨S, d, e, hm, hd, he, sd, se, q⟩ := h
  obtain ⟨as, r1, _⟩ := Ap.reads hm I d x v hd rx
  obtain ⟨bs, r2, _⟩ := Ap.reads hm I e y u he ry
  exact SeqAt.compareEq_shaped r1 r2 sd se hu ⟨.bl _, H, I, rfl, q⟩
theorem op_neA {X : Cx} (hu : X.A.units + 64 < cLine) : OpR X (compareOp .NotEq) (rNeA X.K) := by
  intro pins s σ H x y v u Q I rx ry h
  obtain ⟨S, d, e, hm, hd, he, sd, se, q⟩ := h
  obtain ⟨as, r1, _⟩ := Ap.reads hm I d x v hd rx
  obtain ⟨bs, r2, _⟩ := Ap.reads hm I e y u he ry
  exact SeqAt.compareNe_shaped r1 r2 sd se hu ⟨.bl _, H, I, rfl, q⟩
/-! lists that stand apart from the table of modules -/
def tLstN (t : TA) : TE := fun σ H Q => t σ H fun xs H1 => xs.length ≤ sizeLine ∧ ∀ p, H1 p = none → p ≠ sysModules → Q (.ref p) (upd H1 p (.lst xs))
theorem pe_lstN {X : Cx} {es : List Expr} {t : TA} {pos : Pos} (h : PA X es t) : PE X (.List es pos) (tLstN t) := by
  refine ⟨fun pins s σ H Q I hq => ?_⟩
  refine wpAny_List_spliced (thn (h.run pos pins s σ H _ I hq) fun us s1 ⟨xs, H1, I1, r, z, q⟩ => ⟨by rw [← r.length]; exact z, ?_⟩)
  have hf : H1 s1.heap.objs.size = none := I1.hok.fresh (Nat.le_refl _)
  refine ⟨.ref s1.heap.objs.size, upd H1 s1.heap.objs.size (.lst xs), I1.laid (t' := s1.toks) (fun b u e => Heap.get?_push_of_some _ e) (Nat.le_refl _) ?_, rfl, q _ hf (Nat.ne_of_gt I1.big)⟩
  exact ⟨z, us, 0, r, Heap.get?_push_size _ rfl⟩
def rListN (K : PySem.W.Frag) : List V → Hp → VK → Prop := fun xs H Q => ∃ p ys, xs = [.ref p] ∧ (SqL K H p ys ∨ SqT K H p ys) ∧ ∀ l, H l = none → l ≠ sysModules → Q (.ref l) (upd H l (.lst ys))
theorem call_listN {X : Cx} : CallR X (.type "list") (rListN X.K) := by
  intro pins s σ H xs us Q I r h
  obtain ⟨p, ys, rfl, hq, q⟩ := h
  obtain ⟨u, rfl, rx⟩ := vals1 r
  cases rx
  have fin : ∀ (its : List Value), Vals ys its → ys.length ≤ sizeLine → ∀ (h' : Heap) (c' : Nat), (∀ b o', s.heap.get? b = some o' → h'.get? b = some o') →
      h'.get? s.heap.objs.size = some { cls := .type "list", dict := none, data := .seq its.toArray c', slots := #[] } → EP X pins σ Q (.ref s.heap.objs.size) { s with heap := h' } := fun its r' hz h' c' kp e =>
    ⟨.ref s.heap.objs.size, _, I.laid (t' := s.toks) kp (Nat.le_refl _) (show ObjOk X.prog X.w _ h' _ (.lst ys) from ⟨hz, its, c', r', e⟩), rfl, q _ (I.hok.fresh (Nat.le_refl _)) (Nat.ne_of_gt I.big)⟩
  rcases hq with hq | hq
  · obtain ⟨its, r', pl, hz⟩ := I.list hq
    have hlen := r'.length
    obtain ⟨o, ho, hc, n, hd⟩ := pl.isList
    exact call_list_seq p (.inl rfl) ho hc hd (fun h' c' kp e => fin its r' hz h' c' kp e) (by simp only [List.size_toArray] <;> omega)
  · obtain ⟨its, r', pl, hz⟩ := I.tuple hq
    have hlen := r'.length
    obtain ⟨o, ho, hc, n, hd⟩ := pl
    exact call_list_seq p (.inr rfl) ho hc hd (fun h' c' kp e => fin its r' hz h' c' kp e) (by simp only [List.size_toArray] <;> omega)
/-! the type of a value -/
def tyD : PyData → String
  | .none => "NoneType"
  | .bool _ => "bool"
  | .int _ => "int"
  | .str _ => "str"
  | .list _ => "list"
  | .tuple _ => "tuple"
  | .dict _ => "dict"
theorem Ap.ty {K : PySem.W.Frag} {S : List Addr} {H : Hp} {v : V} {d : PyData} (h : Ap K S H v d) : TyX K H v (.type (tyD d)) := by
  cases h with
  | non => exact .base .non
  | bl b => exact .base (.bl b)
  | int i => exact .base (.int i)
  | str x => exact .base (.str x)
  | lst ne hs _ =>
    rcases hs with hs | ⟨o, hs⟩
    · exact .base (.lst hs)
    · exact .base (.frz hs)
  | tup hs _ =>
    rcases hs with (hs | ⟨o, hs⟩) | ⟨o, its, n, h1, h2, _⟩
    · exact .base (.tup hs)
    · exact .fTuple hs
    · exact .kTuple h1 h2
  | dic hd => exact .base (.dK hd)
def isTupD : PyData → Bool
  | .tuple _ => true
  | _ => false
def isIntD : PyData → Bool
  | .int _ => true
  | .bool _ => true
  | _ => false
def isBoolD : PyData → Bool
  | .bool _ => true
  | _ => false
theorem isi_tup {K : PySem.W.Frag} {S : List Addr} {H : Hp} {v : V} {d : PyData} {Q : VK} (h : Ap K S H v d) (q : Q (.bl (isTupD d)) H) : rIsi K [v, .ty "tuple"] H Q :=
  ⟨v, _, _, _, isTupD d, rfl, .ty "tuple", h.ty, kit_ty (by cases d <;> (dsimp only [tyD, isTupD, isIntD, isBoolD]; decide +kernel)), q⟩
theorem isi_int {K : PySem.W.Frag} {S : List Addr} {H : Hp} {v : V} {d : PyData} {Q : VK} (h : Ap K S H v d) (q : Q (.bl (isIntD d)) H) : rIsi K [v, .ty "int"] H Q :=
  ⟨v, _, _, _, isIntD d, rfl, .ty "int", h.ty, kit_ty (by cases d <;> (dsimp only [tyD, isTupD, isIntD, isBoolD]; decide +kernel)), q⟩
theorem isi_bool {K : PySem.W.Frag} {S : List Addr} {H : Hp} {v : V} {d : PyData} {Q : VK} (h : Ap K S H v d) (q : Q (.bl (isBoolD d)) H) : rIsi K [v, .ty "bool"] H Q :=
  ⟨v, _, _, _, isBoolD d, rfl, .ty "bool", h.ty, kit_ty (by cases d <;> (dsimp only [tyD, isTupD, isIntD, isBoolD]; decide +kernel)), q⟩
theorem kb_tup {K : PySem.W.Frag} {d : PyData} : PySem.W.kitOne K (.type (tyD d)) (.type "tuple") = some (isTupD d) := kit_ty (by cases d <;> (dsimp only [tyD, isTupD]; decide +kernel))
theorem kb_int {K : PySem.W.Frag} {d : PyData} : PySem.W.kitOne K (.type (tyD d)) (.type "int") = some (isIntD d) := kit_ty (by cases d <;> (dsimp only [tyD, isIntD]; decide +kernel))
theorem kb_bool {K : PySem.W.Frag} {d : PyData} : PySem.W.kitOne K (.type (tyD d)) (.type "bool") = some (isBoolD d) := kit_ty (by cases d <;> (dsimp only [tyD, isBoolD]; decide +kernel))
end Rb
/-! t[::-1], t a tuple that is not empty -/
namespace Rb
open PySem PySem.Spec PyProof.Rows L2 HT
section
variable {prog : Program} {w : World} {A : Around} {E : Value → Shared → Prop} {s : Shared}
theorem backPlaces (n : Nat) : Builtin.Slice.slicePlaces ((n : Int) - 1) (-1) (-1) = n := by
  unfold Builtin.Slice.slicePlaces
  rw [if_neg (by decide)]
  by_cases h : (n : Int) - 1 > -1
  · rw [if_pos h, show (- -1 : Int) = 1 by decide, Int.ediv_one]
    omega
  · rw [if_neg h]
    omega
theorem backApplied {sl : Addr} {t : Tok} {n : Nat} {Q : Int × Int × Nat → Shared → Prop} (hs : s.heap.IsSliceOf sl .none .none (.int (-1) t)) (h : Q ((n : Int) - 1, -1, n) s) : wpAny (model prog w) A (Builtin.Slice.sliceApplied (.ref sl) (pure (n : Int))) Q E s := by
  obtain ⟨os, hos, hcs, hds⟩ := id hs
  unfold Builtin.Slice.sliceApplied Builtin.Slice.sliceFields
  refine wpAny_bind (wpAny_bind (wpAny_field hos hds (x := .none) rfl (wpAny_bind (wpAny_field hos hds (x := .none) rfl (wpAny_bind (wpAny_field hos hds (x := .int (-1) t) rfl (wpAny_pure ?_)))))))
  refine wpAny_bind (slicePart_ (.int (-1) t) ?_)
  show wpAny _ _ (if ((-1 : Int) == 0) = true then _ else _) _ _ s
  rw [if_neg (by decide)]
  refine wpAny_bind (slicePart_ .none (wpAny_bind (slicePart_ .none (wpAny_bind (wpAny_pure ?_)))))
  show wpAny _ _ (match Builtin.Slice.sliceAdjust none none (-1) (n : Int) with | (lo, hi) => pure (lo, (-1 : Int), Builtin.Slice.slicePlaces lo hi (-1))) _ _ s
  have e : Builtin.Slice.sliceAdjust none none (-1) (n : Int) = ((n : Int) - 1, -1) := rfl
  rw [e]
  show wpAny _ _ (pure ((n : Int) - 1, (-1 : Int), Builtin.Slice.slicePlaces ((n : Int) - 1) (-1) (-1))) _ _ s
  rw [backPlaces]
  exact wpAny_pure h
theorem backPick (xs : Array Value) : ((List.range xs.size).filterMap fun (m : Nat) => xs[((xs.size : Int) - 1 + (m : Int) * -1).toNat]?).toArray = xs.toList.reverse.toArray := by
  have e : (List.range xs.size).filterMap (fun (m : Nat) => xs[((xs.size : Int) - 1 + (m : Int) * -1).toNat]?) = xs.toList.reverse := by
    apply List.ext_getElem?
    intro i
    have hl : ∀ m ∈ List.range xs.size, (fun (m : Nat) => xs[((xs.size : Int) - 1 + (m : Int) * -1).toNat]?) m = some (xs.toList.reverse.getD m .none) := by
      intro m hm
      have hm2 := List.mem_range.mp hm
      have e1 : ((xs.size : Int) - 1 + (m : Int) * -1).toNat = xs.size - 1 - m := by omega
      have hx : xs.size - 1 - m < xs.size := by omega
      show xs[((xs.size : Int) - 1 + (m : Int) * -1).toNat]? = _
      rw [e1, Array.getElem?_eq_getElem hx, List.getD_eq_getElem?_getD, List.getElem?_reverse (by rw [Array.length_toList]; exact hm2), Array.length_toList, List.getElem?_eq_getElem (by rw [Array.length_toList]; exact hx)]
      rfl
    have e2 : (List.range xs.size).filterMap (fun (m : Nat) => xs[((xs.size : Int) - 1 + (m : Int) * -1).toNat]?) = (List.range xs.size).map (fun m => xs.toList.reverse.getD m .none) := by
      have go : ∀ l : List Nat, (∀ m ∈ l, (fun (m : Nat) => xs[((xs.size : Int) - 1 + (m : Int) * -1).toNat]?) m = some (xs.toList.reverse.getD m .none)) → l.filterMap (fun (m : Nat) => xs[((xs.size : Int) - 1 + (m : Int) * -1).toNat]?) = l.map (fun m => xs.toList.reverse.getD m .none) := by
        intro l
        induction l with
        | nil => intro _; rfl
        | cons a r ih =>
          intro h
          rw [List.filterMap_cons_some (f := fun (m : Nat) => xs[((xs.size : Int) - 1 + (m : Int) * -1).toNat]?) (h a List.mem_cons_self), List.map_cons, ih fun m hm => h m (List.mem_cons_of_mem _ hm)]
      exact go _ hl
    rw [e2, List.getElem?_map]
    by_cases hi : i < xs.size
    · rw [List.getElem?_range hi, Option.map_some, List.getD_eq_getElem?_getD]
      have : i < xs.toList.reverse.length := by rw [List.length_reverse, Array.length_toList]; exact hi
      rw [List.getElem?_eq_getElem this]
      rfl
    · rw [List.getElem?_eq_none (by rw [List.length_range]; omega), List.getElem?_eq_none (by rw [List.length_reverse, Array.length_toList]; omega)]
      rfl
  rw [e]
theorem getItem_back {t sl : Addr} {tk : Tok} {items : Array Value} {Q : Value → Shared → Prop} (ht : IsTup s.heap t items) (hs : s.heap.IsSliceOf sl .none .none (.int (-1) tk))
    (h : Q (.ref s.heap.objs.size) { s with heap := s.heap.push { cls := .type "tuple", data := .seq items.toList.reverse.toArray } })
    (hsz : items.size ≤ sizeLine) : wpAny (model prog w) A (getItem (.ref t) (.ref sl)) Q E s := by
  have htake : sizeOk (.seq items.toList.reverse.toArray) := by
    show items.toList.reverse.toArray.size ≤ sizeLine
    rw [List.size_toArray, List.length_reverse, Array.length_toList]
    exact hsz
  obtain ⟨os, hos, hcs, hds⟩ := id hs
  have hTs : s.TypeIs (.ref sl) "slice" := ⟨os, hos, hcs⟩
  unfold getItem
  try with_reducible refine wpAny_holding ?_
  first | refine wpAny_bind (wpAny_pure ?_) | skip
  refine wpAny_bind (wpAny_sequenceKey ht.typeIs (by decide) ?_)
  refine wpAny_bind (wpAny_callSpecial?_slot (name := Str.ofString "__getitem__") ht.typeIs PyProof.Rows.slot_tuple_getitem
    (wpAny_call_entry PyProof.Rows.slot_tuple_getitem ht.typeIs entry_tuple_getitem ?_ (args_tuple_getitem _ _)))
  show wpAny _ _ (Builtin.Tuple.tupleItemsOf (.ref t) >>= _) _ _ s
  refine wpAny_bind (tupleItemsOf_ ht ?_)
  refine wpAny_bind (wpAny_typeOf hTs ?_)
  rw [if_pos (by decide)]
  refine wpAny_bind (backApplied hs ?_)
  have hno : ¬ ((((items.size : Int) - 1) == 0 && (-1 : Int) == 1 && items.size == items.size) = true) := by
    rw [show ((-1 : Int) == 1) = false by decide, Bool.and_false, Bool.false_and]
    exact Bool.false_ne_true
  show wpAny _ _ (if ((((items.size : Int) - 1) == 0 && (-1 : Int) == 1 && items.size == items.size) = true) then _ else _) _ _ s
  rw [if_neg hno, backPick]
  first
    | exact wpAny_bind (m := Builtin.Tuple.tupleExact _) (wpAny_newObj_type (wpAny_pure ⟨_, rfl, wpAny_pure h⟩) htake)
    | exact wpAny_bind (m := Builtin.Tuple.tupleExact _) (wpAny_newObj_type (wpAny_bind (wpAny_pure (wpAny_pure ⟨_, rfl, wpAny_pure h⟩))) htake)
    | exact wpAny_bind (wpAny_bind (m := Builtin.Tuple.tupleExact _) (wpAny_newObj_type (wpAny_pure (wpAny_pure ⟨_, rfl, wpAny_pure h⟩)) htake))
    | exact wpAny_bind (wpAny_bind (m := Builtin.Tuple.tupleExact _) (wpAny_newObj_type (wpAny_pure ⟨_, rfl, wpAny_pure h⟩) htake))
end
section
variable {X : Cx}
def tRevT (K : PySem.W.Frag) (te : TE) : TE := fun σ H Q => te σ H fun x H1 => ∃ a xs, x = .ref a ∧ SqT K H1 a xs ∧ ∀ p, H1 p = none → Q (.ref p) (upd H1 p (.tup xs.reverse))
theorem pe_revT {e : Expr} {te : TE} {k : Nat} {p1 p2 p3 pos : Pos} (he : PE X e te) : PE X (.Subscript e (.Slice none none (some (.UnaryOp .USub (.Constant (.int 1) k p1) p2)) p3) pos) (tRevT X.K te) := by
  refine ⟨fun pins s σ H Q I h => ?_⟩
  refine Subscript_ (thn (he.run pins s σ H _ I h) fun v s1 ⟨x, H1, I1, r1, q1⟩ => ?_)
  obtain ⟨a, xs, ex, hx, q⟩ := q1
  subst ex
  cases r1
  have hst : PO X (some (.UnaryOp .USub (.Constant (.int 1) k p1) p2)) (tPart (tUn (rU fun i => .int (-i)) (tC (.int 1)))) := po_some (pe_un un_neg pe_int)
  refine wpAny_Slice (thn (po_none.run pins s1 σ H1 (fun o H2 => o = none ∧ H2 = H1) I1 ⟨rfl, rfl⟩) fun vl s2 ⟨l, H2, I2, pl, el, e2⟩ => ?_)
  subst el e2
  refine thn (po_none.run pins s2 σ H2 (fun o H3 => o = none ∧ H3 = H2) I2 ⟨rfl, rfl⟩) fun vu s3 ⟨u, H3, I3, pu, eu, e3⟩ => ?_
  subst eu e3
  refine thn (hst.run pins s3 σ H3 (fun o H4 => o = some (-1) ∧ H4 = H3) I3 ⟨1, rfl, -1, rfl, rfl, rfl⟩) fun vs s4 ⟨o, H4, I4, ps, eo, e4⟩ => ?_
  subst eo e4
  obtain rfl : vl = Value.none := by cases pl; rfl
  obtain rfl : vu = Value.none := by cases pu; rfl
  obtain ⟨tk, rfl⟩ : ∃ tk, vs = Value.int (-1) tk := by cases ps; exact ⟨_, rfl⟩
  have I5 : L2.Inv X pins σ H4 { s4 with heap := s4.heap.push { cls := .type "slice", data := .fields #[.none, .none, .int (-1) tk] } } := I4.kept (t' := s4.toks) fun b ob q => Heap.get?_push_of_some _ q
  obtain ⟨its, r, ht, hz⟩ := I5.tuple hx
  have hlen := r.length
  show wpAny (model X.prog X.w) X.A (subscriptTail e (.Slice none none (some (.UnaryOp .USub (.Constant (.int 1) k p1) p2)) p3) (.ref a) (.ref s4.heap.objs.size)) (EP X pins σ Q) X.xe { s4 with heap := s4.heap.push { cls := .type "slice", data := .fields #[.none, .none, .int (-1) tk] } }
  refine tail_any (ops := [.ref a, .ref s4.heap.objs.size]) ht.typeIs (PyProof.Rows.slot_tuple_getitem.lookup) ?_ (by with_unfolding_all rfl)
  refine getItem_back ht (Heap.IsSliceOf.new _ .none .none (.int (-1) tk)) ?_ (by rw [List.size_toArray]; omega)
  refine ⟨.ref _, _, I5.laid (t' := s4.toks) (o := .tup xs.reverse) (fun b ob q => Heap.get?_push_of_some _ q) (Nat.le_refl _) ?_, rfl, q _ (I5.hok.fresh (Nat.le_refl _))⟩
  exact ⟨by rw [List.length_reverse]; exact hz, _, r.reverse, IsTup.new _ _⟩
end
/-! any value of a bounded size -/
def Av (K : PySem.W.Frag) (S : List Addr) (H : Hp) (k n : Nat) (v : V) : Prop := ∃ x, Ap K S H v x ∧ Nice k n x
def Avs (K : PySem.W.Frag) (S : List Addr) (H : Hp) (k n : Nat) (xs : List V) : Prop := ∀ v ∈ xs, Av K S H k n v
section
variable {K : PySem.W.Frag} {S S' : List Addr} {d c D : Addr} {H H' : Hp} {N : Int} {k n k' n' : Nat} {v : V} {xs ys : List V}
theorem Av.ex (h : Av K S H k n v) (e : Evl.Ex H H') : Av K S H' k n v := by
  obtain ⟨x, h1, h2⟩ := h
  exact ⟨x, h1.ex e, h2⟩
theorem Av.kp (h : Av K S H k n v) (ok : Sok H d c S) (e : Kp d c H H') (dk : Dk H d c N) : Av K S H' k n v := by
  obtain ⟨x, h1, h2⟩ := h
  exact ⟨x, h1.kp ok e dk, h2⟩
theorem Av.mono (h : Av K S H k n v) (h1 : k ≤ k') (h2 : n ≤ n') : Av K S H k' n' v := by
  obtain ⟨x, h3, h4⟩ := h
  exact ⟨x, h3, h4.mono h1 h2⟩
theorem Av.more (h : Av K S H k n v) (nD : H D = none) : Av K (D :: S) H k n v := by
  obtain ⟨x, h1, h2⟩ := h
  exact ⟨x, Ap.more nD _ _ h1, h2⟩
theorem Av.less (h : Av K S H k n v) (hs : ∀ a ∈ S', a ∈ S) : Av K S' H k n v := by
  obtain ⟨x, h1, h2⟩ := h
  exact ⟨x, Ap.less hs _ _ h1, h2⟩
theorem Av.upd {ys zs : List V} (h : Av K S H k n v) (hs : D ∈ S) (hD : H D = some (.lst ys)) : Av K S (L2.upd H D (.lst zs)) k n v := by
  obtain ⟨x, h1, h2⟩ := h
  exact ⟨x, h1.upd hs hD, h2⟩
theorem Avs.more (h : Avs K S H k n xs) (nD : H D = none) : Avs K (D :: S) H k n xs := fun v hv => (h v hv).more nD
theorem Avs.less (h : Avs K S H k n xs) (hs : ∀ a ∈ S', a ∈ S) : Avs K S' H k n xs := fun v hv => (h v hv).less hs
theorem Avs.upd {ys zs : List V} (h : Avs K S H k n xs) (hs : D ∈ S) (hD : H D = some (.lst ys)) : Avs K S (L2.upd H D (.lst zs)) k n xs := fun v hv => (h v hv).upd hs hD
theorem Avs.ex (h : Avs K S H k n xs) (e : Evl.Ex H H') : Avs K S H' k n xs := fun v hv => (h v hv).ex e
theorem Avs.kp (h : Avs K S H k n xs) (ok : Sok H d c S) (e : Kp d c H H') (dk : Dk H d c N) : Avs K S H' k n xs := fun v hv => (h v hv).kp ok e dk
theorem Avs.mono (h : Avs K S H k n xs) (h1 : k ≤ k') (h2 : n ≤ n') : Avs K S H k' n' xs := fun v hv => (h v hv).mono h1 h2
theorem Avs.nil : Avs K S H k n [] := fun _ z => nomatch z
theorem Avs.cons (h1 : Av K S H k n v) (h : Avs K S H k n xs) : Avs K S H k n (v :: xs) := fun u hu => by
  rcases List.mem_cons.mp hu with rfl | hu
  · exact h1
  · exact h u hu
theorem Avs.append (h1 : Avs K S H k n xs) (h2 : Avs K S H k n ys) : Avs K S H k n (xs ++ ys) := fun u hu => by
  rcases List.mem_append.mp hu with hu | hu
  · exact h1 u hu
  · exact h2 u hu
theorem Avs.sub (h : Avs K S H k n xs) (hs : ∀ v ∈ ys, v ∈ xs) : Avs K S H k n ys := fun u hu => h u (hs u hu)
theorem Avs.data : ∀ {xs : List V}, Avs K S H k n xs → ∃ ds, ApAll K S H xs ds ∧ ∀ x ∈ ds, Nice k n x
  | [], _ => ⟨[], .nil, fun _ z => nomatch z⟩
  | v :: xs, h => by
    obtain ⟨x, h1, h2⟩ := h v List.mem_cons_self
    obtain ⟨ds, h3, h4⟩ := Avs.data fun u hu => h u (List.mem_cons_of_mem _ hu)
    refine ⟨x :: ds, .cons h1 h3, fun y hy => ?_⟩
    rcases List.mem_cons.mp hy with rfl | hy
    · exact h2
    · exact h4 y hy
theorem Av.tup {a : Addr} {m : Nat} (hs : SqT K H a xs) (h : Avs K S H k n xs) (hm : xs.length * (n + 1) ≤ m) : Av K S H (k + 1) m (.ref a) := by
  obtain ⟨ds, h1, h2⟩ := h.data
  exact ⟨_, .tup hs h1, Nice.tup h2 (by rw [← h1.length]; exact hm)⟩
theorem Av.lst {a : Addr} {m : Nat} (hn : a ∉ S) (hs : L2.Rd H a (.lst xs)) (h : Avs K S H k n xs) (hm : xs.length * (n + 1) ≤ m) : Av K S H (k + 1) m (.ref a) := by
  obtain ⟨ds, h1, h2⟩ := h.data
  exact ⟨_, .lst hn hs h1, Nice.lst h2 (by rw [← h1.length]; exact hm)⟩
theorem Av.int {i : Int} (h : i.natAbs < 10 ^ 99) : Av K S H k n (.int i) := ⟨_, .int i, (Nice.int h).mono (Nat.zero_le _) (Nat.zero_le _)⟩
theorem Av.bl {b : Bool} : Av K S H k n (.bl b) := ⟨_, .bl b, Nice.bool.mono (Nat.zero_le _) (Nat.zero_le _)⟩
theorem Avs.ints {ns : List Int} (h : ∀ i ∈ ns, i.natAbs < 10 ^ 99) : Avs K S H k n (ns.map V.int) := fun v hv => by
  obtain ⟨i, hi, rfl⟩ := List.mem_map.mp hv
  exact Av.int (h i hi)
/-- t + u -/
theorem cat_av {a b : Addr} {Q : VK} (ha : SqT K H a xs) (hb : SqT K H b ys) (hz : xs.length + ys.length ≤ 1000) (q : ∀ p H', Evl.Ex H H' → SqT K H' p (xs ++ ys) → Q (.ref p) H') : rCatA K (.ref a) (.ref b) H Q := by
  refine ⟨a, b, xs, ys, rfl, rfl, ha, hb, sz_le (by omega), fun e => ?_, fun _ e => ?_, fun _ _ p np => q p _ (Evl.Ex.new np) (tupOf upd_same)⟩
  · subst e
    exact q b H (Evl.Ex.refl _) hb
  · subst e
    exact q a H (Evl.Ex.refl _) (by rw [List.append_nil]; exact ha)
/-- t[lo:hi] -/
theorem cut_av {a : Addr} {lo hi : Option Int} {Q : VK} (ha : SqT K H a xs) (q : ∀ p H' zs, Evl.Ex H H' → SqT K H' p zs → (∀ v ∈ zs, v ∈ xs) → zs.length ≤ xs.length → Q (.ref p) H') : rSlA K (.ref a) lo hi H Q := by
  refine ⟨a, xs, rfl, ha, fun _ => q a H xs (Evl.Ex.refl _) ha (fun _ h => h) (Nat.le_refl _), fun _ p np => q p _ _ (Evl.Ex.new np) (tupOf upd_same) (fun v hv => ?_) (cutV_length xs lo hi)⟩
  unfold cutV at hv
  exact List.mem_of_mem_drop (List.mem_of_mem_take hv)
end
/-! comprehensions over such values -/
section
variable {K : PySem.W.Frag} {S : List Addr} {te : TE} {vs : List Nat} {σ : L2.St} {H1 : Hp} {D a : Addr} {j k n : Nat} {Qd : Hp → Prop}
theorem lc_avL {xs : List V} (hS : SqL K H1 a xs) (nD : H1 D = none) (hw : ∀ x, wipe ((wipe σ vs).set j (some x)) vs = wipe σ vs) (hz : xs.length ≤ 90000)
    (he : ∀ (i : Nat) x H3 ys, xs[i]? = some x → Evl.Ex H1 H3 → H3 D = some (.lst ys) → ∀ Q : VK, (∀ y H4, Evl.Ex H3 H4 → Av K (D :: S) H4 k n y → Q y H4) → te ((wipe σ vs).set j (some x)) H3 Q)
    (hd : ∀ ys H', Evl.Ex H1 H' → H' D = some (.lst ys) → ys.length = xs.length → Avs K S H' k n ys → Qd H') :
    ∃ W : Nat → Nat → Hp → Prop, (∃ m, W 0 m (upd H1 D (.lst []))) ∧ ∀ i m H, W i m H →
      ((Itl K a).stop i H ∧ Qd H) ∨ ((Itl K a).go i H ∧ ∃ Nx : Hp → Prop, (∀ H', Nx H' → ∃ m', m' < m ∧ W (i + 1) m' H') ∧ ∀ x H', (Itl K a).yld i H x H' → (gName j) x (wipe σ vs) H' fun σ2 H2 => wipe σ2 vs = wipe σ vs ∧ tYes σ2 H2 fun b H3 =>
        if b = true then te σ2 H3 fun y H4 => ∃ acc, H4 D = some (.lst acc) ∧ acc.length < sizeLine ∧ Nx (upd H4 D (.lst (acc ++ [y]))) else Nx H3) := by
  refine lc_list (xs := xs) (fun i H' => Evl.Ex H1 H' ∧ ∃ ys, H' D = some (.lst ys) ∧ ys.length = min i xs.length ∧ Avs K (D :: S) H' k n ys) ⟨Evl.Ex.new nD, [], upd_same, by simp, Avs.nil⟩ (fun i H' _ p => Evl.ex_l p.1 hS) ?_ ?_
  · rintro i x H' hx ⟨p1, ys, p2, p3, p4⟩
    have il := (List.getElem?_eq_some_iff.mp hx).1
    refine ⟨hw _, ?_⟩
    refine he i x H' ys hx p1 p2 _ fun y H4 e4 hy => ⟨ys, e4 _ _ p2, sz_lt (by omega), Evl.Ex.mut (p1.trans e4) nD, ys ++ [y], upd_same, ?_, ?_⟩
    · rw [List.length_append, p3]
      show min i xs.length + 1 = _
      omega
    · exact Avs.append ((p4.ex e4).upd List.mem_cons_self (e4 _ _ p2)) (Avs.cons (hy.upd List.mem_cons_self (e4 _ _ p2)) Avs.nil)
  · rintro H' ⟨p1, ys, p2, p3, p4⟩
    exact hd ys H' p1 p2 (by rw [p3]; exact Nat.min_self _) (p4.less fun a ha => List.mem_cons_of_mem _ ha)
end
end Rb
namespace Pu
open PySem PySem.Spec PyProof.Rows L2

/-! ## values without addresses (lst: k tells that the list is known to stand apart from the table of modules) -/
inductive D where
  | non | bl (b : Bool) | int (i : Int) | str (x : Str)
  | tup (xs : List D) | lst (k : Bool) (xs : List D) | dic (ps : List (Str × Int))
  | kls (xs : List D) | cell (n : Nat) | glo (x : Str) | ty (n : String)
  | ins (c : Str) (fs : List (Str × D))
  | exc (c : Str) (fs : List (Str × D))
instance : Inhabited D := ⟨.non⟩
/-- what stands in a cell -/
inductive Cl where
  | lst (xs : List D) | ins (c : Str) (fs : List (Str × D))
abbrev Sto := List Cl
abbrev Rho := List (Option D)
/-- the addresses of the cells; addresses that no value mentions -/
structure Mu where
  m : List Addr
  av : List Addr
/-- the row's written part and names -/
structure Ct where
  K : PySem.W.Frag
  mg : Str → Option Value
  hx : Addr → Option (Value × Option Addr)
/-- where no error is held -/
abbrev ct0 (K : PySem.W.Frag) (mg : Str → Option Value) : Ct := ⟨K, mg, fun _ => none⟩

section
variable (c : Ct) (μ : Mu) (H : Hp)
mutual
inductive Rp : V → D → Prop
  | non : Rp .non .non
  | bl (b : Bool) : Rp (.bl b) (.bl b)
  | int (i : Int) : Rp (.int i) (.int i)
  | str (x : Str) : Rp (.str x) (.str x)
  | tup {a : Addr} {vs : List V} {ds : List D} : H a = some (.tup vs) → RpAll vs ds → Rp (.ref a) (.tup ds)
  | lst {a : Addr} {k : Bool} {vs : List V} {ds : List D} : H a = some (.lst vs) → a ∉ μ.m → a ∉ μ.av → (k = true → a ≠ sysModules) → RpAll vs ds → Rp (.ref a) (.lst k ds)
  | kls {a : Addr} {vs : List V} {ds : List D} : L2.Rd H a (.lst vs) → a ∉ μ.m → a ∉ μ.av → RpAll vs ds → Rp (.ref a) (.kls ds)
  | klsK {a : Addr} {vs : List V} {ds : List D} (o : Obj) (its : Array Value) (n : Nat) : c.K.lookup a = some o → o.cls = .type "list" → o.dict = none → o.data = .seq its n → its.size ≤ sizeLine → Vals vs its.toList → RpAll vs ds → Rp (.ref a) (.kls ds)
  | dic {a : Addr} {ps : List (Str × Int)} : H a = some (.dK (Rb.dicV ps)) → a ∉ μ.m → a ∉ μ.av → Rp (.ref a) (.dic ps)
  | cell {n : Nat} {a : Addr} : μ.m[n]? = some a → Rp (.ref a) (.cell n)
  | glo {x : Str} {v : V} {u : Value} : c.mg x = some u → RelV v u → Rp v (.glo x)
  | ty (n : String) : Rp (.ty n) (.ty n)
  | ins {a C dx : Addr} {x : Str} {fv : List (Str × V)} {fs : List (Str × D)} : H a = some (.ins C dx fv) → a ∉ μ.m → a ∉ μ.av → c.mg x = some (.ref C) → RpFs fv fs → Rp (.ref a) (.ins x fs)
  | exc0 {a : Addr} {x : Str} {cls : Value} : c.hx a = some (cls, none) → c.mg x = some cls → Rp (.ref a) (.exc x [])
  | exc1 {a dx : Addr} {x : Str} {cls : Value} {fv : List (Str × V)} {fs : List (Str × D)} : c.hx a = some (cls, some dx) → c.mg x = some cls → H dx = some (.xd fv) → RpFs fv fs → Rp (.ref a) (.exc x fs)
inductive RpAll : List V → List D → Prop
  | nil : RpAll [] []
  | cons {v : V} {vs : List V} {d : D} {ds : List D} : Rp v d → RpAll vs ds → RpAll (v :: vs) (d :: ds)
inductive RpFs : List (Str × V) → List (Str × D) → Prop
  | nil : RpFs [] []
  | cons {f : Str} {v : V} {vs : List (Str × V)} {d : D} {ds : List (Str × D)} : Rp v d → RpFs vs ds → RpFs ((f, v) :: vs) ((f, d) :: ds)
end
end

/-! ## what stays -/
/-- from one state to a later one: cells may have changed, new ones may have come; all else is kept -/
structure Fw (μ : Mu) (H : Hp) (μ' : Mu) (H' : Hp) : Prop where
  pre : ∃ t, μ'.m = μ.m ++ t
  av : μ'.av = μ.av
  keep : ∀ a o, H a = some o → a ∉ μ.m → H' a = some o ∧ a ∉ μ'.m
theorem Fw.refl {μ : Mu} {H : Hp} : Fw μ H μ H := ⟨⟨[], by simp⟩, rfl, fun _ _ e n => ⟨e, n⟩⟩
theorem Fw.trans {μ μ1 μ2 : Mu} {H H1 H2 : Hp} (a : Fw μ H μ1 H1) (b : Fw μ1 H1 μ2 H2) : Fw μ H μ2 H2 := by
  obtain ⟨t, e⟩ := a.pre
  obtain ⟨u, e'⟩ := b.pre
  exact ⟨⟨t ++ u, by rw [e', e, List.append_assoc]⟩, b.av.trans a.av, fun x o e n => let ⟨h1, h2⟩ := a.keep x o e n; b.keep x o h1 h2⟩
theorem Fw.at {μ μ' : Mu} {H H' : Hp} (f : Fw μ H μ' H') {n : Nat} {a : Addr} (h : μ.m[n]? = some a) : μ'.m[n]? = some a := by
  obtain ⟨t, e⟩ := f.pre
  rw [e, List.getElem?_append_left (List.getElem?_eq_some_iff.mp h).1]
  exact h
theorem Fw.new {μ : Mu} {H : Hp} {p : Addr} {o : HO} (hp : H p = none) : Fw μ H μ (upd H p o) :=
  ⟨⟨[], by simp⟩, rfl, fun a u e n => ⟨by rw [upd_ne (ne_of_none e hp)]; exact e, n⟩⟩
/-- a new object that becomes a cell -/
theorem Fw.newC {μ : Mu} {H : Hp} {p : Addr} {o : HO} (hp : H p = none) : Fw μ H ⟨μ.m ++ [p], μ.av⟩ (upd H p o) :=
  ⟨⟨[p], rfl⟩, rfl, fun a u e n => ⟨by rw [upd_ne (ne_of_none e hp)]; exact e, fun z => by
    rcases List.mem_append.mp z with z | z
    · exact n z
    · exact ne_of_none e hp (List.mem_singleton.mp z)⟩⟩
/-- a cell is written -/
theorem Fw.write {μ : Mu} {H : Hp} {p : Addr} {o : HO} (hp : p ∈ μ.m) : Fw μ H μ (upd H p o) :=
  ⟨⟨[], by simp⟩, rfl, fun a u e n => ⟨by rw [upd_ne (fun z => n (by rw [z]; exact hp))]; exact e, n⟩⟩

section
variable {c : Ct} {μ μ' : Mu} {H H' : Hp}
/-- the general form: what a value leans on is kept -/
structure Kp (c : Ct) (μ : Mu) (H : Hp) (μ' : Mu) (H' : Hp) : Prop where
  t : ∀ a xs, H a = some (.tup xs) → H' a = some (.tup xs)
  l : ∀ a xs, L2.Rd H a (.lst xs) → a ∉ μ.m → a ∉ μ.av → L2.Rd H' a (.lst xs) ∧ a ∉ μ'.m ∧ a ∉ μ'.av
  m : ∀ a xs, H a = some (.lst xs) → a ∉ μ.m → a ∉ μ.av → H' a = some (.lst xs) ∧ a ∉ μ'.m ∧ a ∉ μ'.av
  d : ∀ a ps, H a = some (.dK ps) → a ∉ μ.m → a ∉ μ.av → H' a = some (.dK ps) ∧ a ∉ μ'.m ∧ a ∉ μ'.av
  i : ∀ a C dx fs, H a = some (.ins C dx fs) → a ∉ μ.m → a ∉ μ.av → H' a = some (.ins C dx fs) ∧ a ∉ μ'.m ∧ a ∉ μ'.av
  cl : ∀ (n : Nat) (a : Addr), μ.m[n]? = some a → μ'.m[n]? = some a
  x : ∀ a fv, H a = some (.xd fv) → H' a = some (.xd fv)
mutual
theorem Rp.kp (k : Kp c μ H μ' H') : ∀ {v : V} {d : D}, Rp c μ H v d → Rp c μ' H' v d
  | _, _, .non => .non
  | _, _, .bl b => .bl b
  | _, _, .int i => .int i
  | _, _, .str x => .str x
  | _, _, .tup h r => .tup (k.t _ _ h) (RpAll.kp k r)
  | _, _, .lst h n1 n2 n3 r => let ⟨a, b, d⟩ := k.m _ _ h n1 n2; .lst a b d n3 (RpAll.kp k r)
  | _, _, .kls h n1 n2 r => let ⟨a, b, d⟩ := k.l _ _ h n1 n2; .kls a b d (RpAll.kp k r)
  | _, _, .klsK o its n h1 h2 h3 h4 h5 h6 r => .klsK o its n h1 h2 h3 h4 h5 h6 (RpAll.kp k r)
  | _, _, .dic h n n2 => let ⟨a, b, d⟩ := k.d _ _ h n n2; .dic a b d
  | _, _, .cell h => .cell (k.cl _ _ h)
  | _, _, .glo h r => .glo h r
  | _, _, .ty n => .ty n
  | _, _, .ins h n n2 g r => let ⟨a, b, d⟩ := k.i _ _ _ _ h n n2; .ins a b d g (RpFs.kp k r)
  | _, _, .exc0 h g => .exc0 h g
  | _, _, .exc1 h g e r => .exc1 h g (k.x _ _ e) (RpFs.kp k r)
theorem RpAll.kp (k : Kp c μ H μ' H') : ∀ {vs : List V} {ds : List D}, RpAll c μ H vs ds → RpAll c μ' H' vs ds
  | _, _, .nil => .nil
  | _, _, .cons h r => .cons (Rp.kp k h) (RpAll.kp k r)
theorem RpFs.kp (k : Kp c μ H μ' H') : ∀ {vs : List (Str × V)} {ds : List (Str × D)}, RpFs c μ H vs ds → RpFs c μ' H' vs ds
  | _, _, .nil => .nil
  | _, _, .cons h r => .cons (Rp.kp k h) (RpFs.kp k r)
end
end
/-- a cell's object -/
def ClOk (c : Ct) (μ : Mu) (H : Hp) (a : Addr) : Cl → Prop
  | .lst ds => ∃ vs, H a = some (.lst vs) ∧ RpAll c μ H vs ds
  | .ins x fs => ∃ C dx fv, H a = some (.ins C dx fv) ∧ c.mg x = some (.ref C) ∧ RpFs c μ H fv fs
structure Wd (c : Ct) (μ : Mu) (S : Sto) (H : Hp) : Prop where
  nd : μ.m.Nodup
  len : μ.m.length = S.length
  ap : ∀ a ∈ μ.m, a ∉ μ.av
  avs : ∀ a ∈ μ.av, H a ≠ none
  ok : ∀ (i : Nat) (a : Addr) (x : Cl), μ.m[i]? = some a → S[i]? = some x → ClOk c μ H a x
theorem upd_some {H : Hp} {p a : Addr} {o : HO} (h : H a ≠ none) : upd H p o a ≠ none := by
  unfold upd
  split
  · exact fun z => nomatch z
  · exact h
theorem ClOk.there {c : Ct} {μ : Mu} {H : Hp} {a : Addr} : ∀ {x : Cl}, ClOk c μ H a x → ∃ o, H a = some o ∧ (∀ xs, o ≠ .tup xs) ∧ (∀ ob u, o ≠ .frz ob u) ∧ ∀ fv, o ≠ .xd fv
  | .lst _, ⟨_, h, _⟩ => ⟨_, h, (fun _ z => nomatch z), (fun _ _ z => nomatch z), fun _ z => nomatch z⟩
  | .ins _ _, ⟨_, _, _, h, _⟩ => ⟨_, h, (fun _ z => nomatch z), (fun _ _ z => nomatch z), fun _ z => nomatch z⟩
theorem Wd.there {c : Ct} {μ : Mu} {S : Sto} {H : Hp} (w : Wd c μ S H) {a : Addr} (h : a ∈ μ.m) : ∃ o, H a = some o ∧ (∀ xs, o ≠ .tup xs) ∧ (∀ ob u, o ≠ .frz ob u) ∧ ∀ fv, o ≠ .xd fv := by
  obtain ⟨i, hi, e⟩ := List.getElem_of_mem h
  have h1 : μ.m[i]? = some a := List.getElem?_eq_some_iff.mpr ⟨hi, e⟩
  have h2 : i < S.length := by rw [← w.len]; exact hi
  exact (w.ok i a S[i] h1 (List.getElem?_eq_getElem h2)).there
theorem Wd.fresh {c : Ct} {μ : Mu} {S : Sto} {H : Hp} (w : Wd c μ S H) {p : Addr} (hp : H p = none) : p ∉ μ.m := fun z => by
  obtain ⟨o, e, _⟩ := w.there z
  rw [hp] at e
  cases e
theorem Wd.tupK {c : Ct} {μ μ' : Mu} {S : Sto} {H H' : Hp} (w : Wd c μ S H) (f : Fw μ H μ' H') {a : Addr} {xs : List V} (e : H a = some (.tup xs)) : H' a = some (.tup xs) := by
  refine (f.keep a _ e fun z => ?_).1
  obtain ⟨o, e', n, _⟩ := w.there z
  rw [e] at e'
  exact n xs (Option.some.inj e').symm
theorem Wd.xdK {c : Ct} {μ μ' : Mu} {S : Sto} {H H' : Hp} (w : Wd c μ S H) (f : Fw μ H μ' H') {a : Addr} {fv : List (Str × V)} (e : H a = some (.xd fv)) : H' a = some (.xd fv) := by
  refine (f.keep a _ e fun z => ?_).1
  obtain ⟨o, e', _, _, n⟩ := w.there z
  rw [e] at e'
  exact n fv (Option.some.inj e').symm
theorem Wd.kp {c : Ct} {μ μ' : Mu} {S : Sto} {H H' : Hp} (w : Wd c μ S H) (f : Fw μ H μ' H') : Kp c μ H μ' H' where
  t := fun _ _ h => w.tupK f h
  l := fun a xs h n1 n2 => by
    rcases h with e | ⟨o, e⟩
    · exact ⟨.inl (f.keep a _ e n1).1, (f.keep a _ e n1).2, f.av ▸ n2⟩
    · exact ⟨.inr ⟨o, (f.keep a _ e n1).1⟩, (f.keep a _ e n1).2, f.av ▸ n2⟩
  m := fun a xs e n1 n2 => ⟨(f.keep a _ e n1).1, (f.keep a _ e n1).2, f.av ▸ n2⟩
  d := fun a ps e n1 n2 => ⟨(f.keep a _ e n1).1, (f.keep a _ e n1).2, f.av ▸ n2⟩
  i := fun a C dx fs e n1 n2 => ⟨(f.keep a _ e n1).1, (f.keep a _ e n1).2, f.av ▸ n2⟩
  cl := fun n a h => f.at h
  x := fun _ _ h => w.xdK f h
section
variable {c : Ct} {μ μ' : Mu} {S : Sto} {H H' : Hp} {v : V} {d : D} {vs : List V} {ds : List D}
theorem Rp.fw (r : Rp c μ H v d) (w : Wd c μ S H) (f : Fw μ H μ' H') : Rp c μ' H' v d := r.kp (w.kp f)
theorem RpAll.fw (r : RpAll c μ H vs ds) (w : Wd c μ S H) (f : Fw μ H μ' H') : RpAll c μ' H' vs ds := r.kp (w.kp f)
theorem ClOk.kp (k : Kp c μ H μ' H') {a : Addr} (g : ∀ o, H a = some o → H' a = some o) : ∀ {x : Cl}, ClOk c μ H a x → ClOk c μ' H' a x
  | .lst _, ⟨vs, h, r⟩ => ⟨vs, g _ h, r.kp k⟩
  | .ins _ _, ⟨C, dx, fv, h, e, r⟩ => ⟨C, dx, fv, g _ h, e, r.kp k⟩
/-- a new object that is no cell -/
theorem Wd.new (w : Wd c μ S H) {p : Addr} {o : HO} (hp : H p = none) : Wd c μ S (upd H p o) :=
  ⟨w.nd, w.len, w.ap, fun a h => upd_some (w.avs a h), fun i a x h1 h2 => ClOk.kp (w.kp (Fw.new hp)) (fun u e => by rw [upd_ne (ne_of_none e hp)]; exact e) (w.ok i a x h1 h2)⟩
theorem RpAll.length : ∀ {vs : List V} {ds : List D}, RpAll c μ H vs ds → vs.length = ds.length
  | _, _, .nil => rfl
  | _, _, .cons _ r => congrArg Nat.succ r.length
theorem RpAll.at : ∀ {vs : List V} {ds : List D} {i : Nat} {d : D}, RpAll c μ H vs ds → ds[i]? = some d → ∃ v, vs[i]? = some v ∧ Rp c μ H v d
  | _, _, i, _, .nil, h => by simp at h
  | _, _, 0, _, .cons h1 _, h => by cases h; exact ⟨_, rfl, h1⟩
  | _, _, i + 1, _, .cons _ h2, h => RpAll.at (i := i) h2 h
theorem RpAll.atV : ∀ {vs : List V} {ds : List D} {i : Nat} {v : V}, RpAll c μ H vs ds → vs[i]? = some v → ∃ d, ds[i]? = some d ∧ Rp c μ H v d
  | _, _, i, _, .nil, h => by simp at h
  | _, _, 0, _, .cons h1 _, h => by cases h; exact ⟨_, rfl, h1⟩
  | _, _, i + 1, _, .cons _ h2, h => RpAll.atV (i := i) h2 h
theorem RpAll.append : ∀ {vs ws : List V} {ds es : List D}, RpAll c μ H vs ds → RpAll c μ H ws es → RpAll c μ H (vs ++ ws) (ds ++ es)
  | _, _, _, _, .nil, h => h
  | _, _, _, _, .cons h1 h2, h => .cons h1 (h2.append h)
theorem RpAll.take : ∀ {vs : List V} {ds : List D} (n : Nat), RpAll c μ H vs ds → RpAll c μ H (vs.take n) (ds.take n)
  | _, _, 0, _ => .nil
  | _, _, _ + 1, .nil => .nil
  | _, _, n + 1, .cons h r => .cons h (RpAll.take n r)
theorem RpAll.drop : ∀ {vs : List V} {ds : List D} (n : Nat), RpAll c μ H vs ds → RpAll c μ H (vs.drop n) (ds.drop n)
  | _, _, 0, r => r
  | _, _, _ + 1, .nil => .nil
  | _, _, n + 1, .cons _ r => RpAll.drop n r
theorem RpAll.set {v : V} {d : D} (h : Rp c μ H v d) : ∀ {vs : List V} {ds : List D} (n : Nat), RpAll c μ H vs ds → RpAll c μ H (vs.set n v) (ds.set n d)
  | _, _, _, .nil => .nil
  | _, _, 0, .cons _ r => .cons h r
  | _, _, n + 1, .cons q r => .cons q (RpAll.set h n r)
theorem RpAll.rev : ∀ {vs : List V} {ds : List D}, RpAll c μ H vs ds → RpAll c μ H vs.reverse ds.reverse
  | _, _, .nil => .nil
  | _, _, .cons h r => by
    rw [List.reverse_cons, List.reverse_cons]
    exact r.rev.append (.cons h .nil)
theorem RpAll.erase : ∀ {vs : List V} {ds : List D} (n : Nat), RpAll c μ H vs ds → RpAll c μ H (vs.eraseIdx n) (ds.eraseIdx n)
  | _, _, _, .nil => .nil
  | _, _, 0, .cons _ r => r
  | _, _, n + 1, .cons q r => .cons q (RpAll.erase n r)
theorem RpAll.rep : ∀ (n : Nat), RpAll c μ H vs ds → RpAll c μ H (List.replicate n vs).flatten (List.replicate n ds).flatten
  | 0, _ => .nil
  | n + 1, r => by
    rw [List.replicate_succ, List.replicate_succ, List.flatten_cons, List.flatten_cons]
    exact r.append (RpAll.rep n r)
end
theorem ix_uniq {N : List Addr} (hN : N.Nodup) {i j : Nat} {x : Addr} (a : N[i]? = some x) (b : N[j]? = some x) : i = j := by
  obtain ⟨h1, e1⟩ := List.getElem?_eq_some_iff.mp a
  obtain ⟨h2, e2⟩ := List.getElem?_eq_some_iff.mp b
  exact (List.getElem_inj hN).mp (e1.trans e2.symm)
/-- one write to a cell -/
theorem Wd.set {c : Ct} {μ : Mu} {S : Sto} {H : Hp} (w : Wd c μ S H) {n : Nat} {a : Addr} {o : HO} {x : Cl} (h : μ.m[n]? = some a) (hx : ClOk c μ (upd H a o) a x) : Wd c μ (S.set n x) (upd H a o) := by
  have hm : a ∈ μ.m := List.mem_of_getElem? h
  refine ⟨w.nd, by rw [List.length_set]; exact w.len, w.ap, fun a h => upd_some (w.avs a h), fun i b y h1 h2 => ?_⟩
  by_cases hi : n = i
  · subst hi
    rw [h] at h1
    cases h1
    have : n < S.length := by rw [← w.len]; exact (List.getElem?_eq_some_iff.mp h).1
    rw [List.getElem?_set_self this] at h2
    cases h2
    exact hx
  · rw [List.getElem?_set_ne hi] at h2
    have ne : b ≠ a := fun z => by
      subst z
      exact hi (ix_uniq w.nd h h1)
    exact ClOk.kp (w.kp (Fw.write hm)) (fun u e => by rw [upd_ne ne]; exact e) (w.ok i b y h1 h2)
/-- a new cell -/
theorem Wd.newC {c : Ct} {μ : Mu} {S : Sto} {H : Hp} (w : Wd c μ S H) {p : Addr} {o : HO} {x : Cl} (hp : H p = none) (hx : ClOk c ⟨μ.m ++ [p], μ.av⟩ (upd H p o) p x) : Wd c ⟨μ.m ++ [p], μ.av⟩ (S ++ [x]) (upd H p o) := by
  have nm := w.fresh hp
  refine ⟨?_, by simp [w.len], fun a h => ?_, fun a h => upd_some (w.avs a h), fun i a y h1 h2 => ?_⟩
  · rw [List.nodup_append]
    exact ⟨w.nd, by simp, fun a ha b hb e => nm (by rw [List.mem_singleton.mp hb] at e; exact e ▸ ha)⟩
  · rcases List.mem_append.mp h with h | h
    · exact w.ap a h
    · rw [List.mem_singleton.mp h]; exact fun z => w.avs p z hp
  · have hl := w.len
    by_cases hi : i < μ.m.length
    · rw [List.getElem?_append_left hi] at h1
      rw [List.getElem?_append_left (by omega)] at h2
      exact ClOk.kp (w.kp (Fw.newC hp)) (fun u e => by rw [upd_ne (ne_of_none e hp)]; exact e) (w.ok i a y h1 h2)
    · have hi2 : i = μ.m.length := by
        have := (List.getElem?_eq_some_iff.mp h1).1
        simp at this
        omega
      subst hi2
      rw [List.getElem?_append_right (Nat.le_refl _), Nat.sub_self] at h1
      cases h1
      rw [List.getElem?_append_right (by omega), hl, Nat.sub_self] at h2
      cases h2
      exact hx
end Pu
namespace Pu
open PySem PySem.Spec PyProof.Rows L2

/-! ## meanings: what must hold so that a piece of code ends as wanted, over values without addresses -/
abbrev QD := D → Sto → Prop
/-- an error: its class, its fields -/
abbrev Er := Str × List (Str × D)
abbrev ED := Er → Sto → Prop
abbrev FX (α : Type) := Rho → Sto → (α → Sto → Prop) → ED → Prop
abbrev FE := FX D
abbrev FT := FX Bool
abbrev FA := FX (List D)
abbrev FO := FX (Option Int)
structure DEnds where
  nx : Rho → Sto → Prop
  rt : QD
  bk : Rho → Sto → Prop
  ct : Rho → Sto → Prop
abbrev FS := Rho → Sto → DEnds → ED → Prop
abbrev FG := D → Rho → Sto → (Rho → Sto → Prop) → ED → Prop
abbrev FGs := List D → Rho → Sto → (Rho → Sto → Prop) → ED → Prop
/-- a def -/
abbrev FF := List D → Sto → QD → ED → Prop

def hxOf (pn : List (Addr × Obj)) (a : Addr) : Option (Value × Option Addr) := match pn with
  | (b, o) :: _ => if b = a then some (o.cls, o.dict) else none
  | [] => none
def ct (X : Cx) : Ct := ⟨X.K, X.mg, if X.calm = true then fun _ => none else hxOf X.pn⟩
/-- what leaves by an error, whatever the slots -/
abbrev cE (E : XK) : L2.St → XK := fun _ => E
structure EnvR (c : Ct) (μ : Mu) (H : Hp) (σ : L2.St) (ρ : Rho) : Prop where
  len : σ.length = ρ.length
  ok : ∀ (i : Nat) (d : D), ρ[i]? = some (some d) → ∃ v, σ[i]? = some (some v) ∧ Rp c μ H v d
def RpX (c : Ct) (μ : Mu) (H : Hp) (cls : Value) (dx : Option Addr) (e : Er) : Prop :=
  c.mg e.1 = some cls ∧ match e.2 with
    | [] => dx = none
    | f :: fs => ∃ a fv, dx = some a ∧ H a = some (.xd fv) ∧ RpFs c μ H fv (f :: fs)
def PX (c : Ct) (μ : Mu) (H : Hp) (Ed : ED) (E : XK) : Prop := ∀ e S' cls dx H' μ', Ed e S' → Fw μ H μ' H' → Wd c μ' S' H' → RpX c μ' H' cls dx e → E cls dx H'
section
variable {c : Ct} {μ μ' : Mu} {S S' : Sto} {H H' : Hp} {σ : L2.St} {ρ : Rho} {Ed : ED} {E : XK}
theorem EnvR.fw (en : EnvR c μ H σ ρ) (w : Wd c μ S H) (f : Fw μ H μ' H') : EnvR c μ' H' σ ρ := ⟨en.len, fun i d h => let ⟨v, e, r⟩ := en.ok i d h; ⟨v, e, r.fw w f⟩⟩
theorem EnvR.kp (en : EnvR c μ H σ ρ) (k : Kp c μ H μ' H') : EnvR c μ' H' σ ρ := ⟨en.len, fun i d h => let ⟨v, e, r⟩ := en.ok i d h; ⟨v, e, r.kp k⟩⟩
theorem PX.fw (p : PX c μ H Ed E) (f : Fw μ H μ' H') : PX c μ' H' Ed E := fun e S' cls dx H2 μ2 h g w r => p e S' cls dx H2 μ2 h (f.trans g) w r
theorem EnvR.set (en : EnvR c μ H σ ρ) {i : Nat} {v : V} {d : D} (r : Rp c μ H v d) : EnvR c μ H (σ.set i (some v)) (ρ.set i (some d)) := by
  refine ⟨by rw [List.length_set, List.length_set]; exact en.len, fun j x h => ?_⟩
  by_cases e : i = j
  · subst e
    have hl : i < ρ.length := by
      have := (List.getElem?_eq_some_iff.mp h).1
      rwa [List.length_set] at this
    rw [List.getElem?_set_self hl] at h
    cases h
    exact ⟨v, by rw [List.getElem?_set_self (by rw [en.len]; exact hl)], r⟩
  · rw [List.getElem?_set_ne e] at h ⊢
    exact en.ok j x h
end
/-- the reading that a meaning gives -/
def tR {α β : Type} (c : Ct) (R : Mu → Hp → β → α → Prop) (E : L2.St → XK) (f : FX α) : L2.St → Hp → (β → Hp → Prop) → Prop := fun σ H Q =>
  ∃ μ S ρ Qd Ed, Wd c μ S H ∧ EnvR c μ H σ ρ ∧ f ρ S Qd Ed ∧ (∀ d S' v H' μ', Qd d S' → Fw μ H μ' H' → Wd c μ' S' H' → R μ' H' v d → Q v H') ∧ PX c μ H Ed (E σ)
theorem tR_of {α β : Type} {c : Ct} {R : Mu → Hp → β → α → Prop} {E : L2.St → XK} {f : FX α} {σ : L2.St} {H : Hp} {Q : β → Hp → Prop} {μ : Mu} {S : Sto} {ρ : Rho} {Qd : α → Sto → Prop} {Ed : ED}
    (w : Wd c μ S H) (en : EnvR c μ H σ ρ) (h : f ρ S Qd Ed) (px : PX c μ H Ed (E σ))
    (q : ∀ d S' v H' μ', Qd d S' → Fw μ H μ' H' → Wd c μ' S' H' → EnvR c μ' H' σ ρ → PX c μ' H' Ed (E σ) → R μ' H' v d → Q v H') : tR c R E f σ H Q :=
  ⟨μ, S, ρ, Qd, Ed, w, en, h, fun d S' v H' μ' h1 h2 h3 h4 => q d S' v H' μ' h1 h2 h3 (en.fw w h2) (px.fw h2) h4, px⟩
def rEqB {α : Type} : Mu → Hp → α → α → Prop := fun _ _ a b => a = b
abbrev tD (c : Ct) (E : L2.St → XK) (f : FE) : TE := tR c (Rp c) E f
abbrev tT (c : Ct) (E : L2.St → XK) (f : FT) : TT := tR c rEqB E f
abbrev tAr (c : Ct) (E : L2.St → XK) (f : FA) : TA := tR c (RpAll c) E f
abbrev tOp' (c : Ct) (E : L2.St → XK) (f : FO) : TO := tR c rEqB E f
abbrev PEd (X : Cx) (E : L2.St → XK) (e : Expr) (f : FE) : Prop := PE X e (tD (ct X) E f)
abbrev PTd (X : Cx) (E : L2.St → XK) (e : Expr) (f : FT) : Prop := PT X e (tT (ct X) E f)
abbrev PWd (X : Cx) (E : L2.St → XK) (e : Expr) (f : FT) : Prop := PW X e (tT (ct X) E f)
abbrev PAd (X : Cx) (E : L2.St → XK) (es : List Expr) (f : FA) : Prop := PA X es (tAr (ct X) E f)
abbrev POd (X : Cx) (E : L2.St → XK) (e : Option Expr) (f : FO) : Prop := PO X e (tOp' (ct X) E f)
section
variable {X : Cx}
theorem PE.imp {e : Expr} {t t' : TE} (h : PE X e t) (k : ∀ σ H Q, t' σ H Q → t σ H Q) : PE X e t' := ⟨fun pins s σ H Q I q => h.run pins s σ H Q I (k σ H Q q)⟩
theorem PT.imp {e : Expr} {t t' : TT} (h : PT X e t) (k : ∀ σ H Q, t' σ H Q → t σ H Q) : PT X e t' := ⟨fun pins s σ H Q I q => h.run pins s σ H Q I (k σ H Q q)⟩
theorem PW.imp {e : Expr} {t t' : TT} (h : PW X e t) (k : ∀ σ H Q, t' σ H Q → t σ H Q) : PW X e t' := ⟨fun wh pins s σ H Q I q => h.run wh pins s σ H Q I (k σ H Q q)⟩
theorem PA.imp {e : List Expr} {t t' : TA} (h : PA X e t) (k : ∀ σ H Q, t' σ H Q → t σ H Q) : PA X e t' := ⟨fun p pins s σ H Q I q => h.run p pins s σ H Q I (k σ H Q q)⟩
theorem PO.imp {e : Option Expr} {t t' : TO} (h : PO X e t) (k : ∀ σ H Q, t' σ H Q → t σ H Q) : PO X e t' := ⟨fun pins s σ H Q I q => h.run pins s σ H Q I (k σ H Q q)⟩
theorem PS.imp {e : Stmt} {t t' : TS} (h : PS X e t) (k : ∀ D σ H, t' D σ H → t D σ H) : PS X e t' := ⟨fun pins s σ H D I q => h.run pins s σ H D I (k D σ H q)⟩
theorem PSs.imp {e : List Stmt} {t t' : TS} (h : PSs X e t) (k : ∀ D σ H, t' D σ H → t D σ H) : PSs X e t' := ⟨fun pins s σ H D I q => h.run pins s σ H D I (k D σ H q)⟩
theorem PG.imp {e : Expr} {t t' : TG} (h : PG X e t) (k : ∀ v σ H Q, t' v σ H Q → t v σ H Q) : PG X e t' := ⟨fun pins s σ H v u Q I r q => h.run pins s σ H v u Q I r (k v σ H Q q)⟩
end
/-! ### names, constants -/
def getV : Rho → Nat → Option D
  | [], _ => none
  | x :: _, 0 => x
  | _ :: r, n + 1 => getV r n
theorem getV_some : ∀ {ρ : Rho} {i : Nat} {d : D}, getV ρ i = some d → ρ[i]? = some (some d)
  | [], _, _, h => by cases h
  | _ :: _, 0, _, h => by
    rw [List.getElem?_cons_zero]
    exact congrArg some h
  | _ :: r, n + 1, _, h => by
    rw [List.getElem?_cons_succ]
    exact getV_some (ρ := r) h
def onSome {α : Type} (o : Option α) (k : α → Prop) : Prop := match o with | some a => k a | none => False
theorem onSome_of {α : Type} {o : Option α} {k : α → Prop} (h : onSome o k) : ∃ a, o = some a ∧ k a := by
  cases o with
  | none => exact h.elim
  | some a => exact ⟨a, rfl, h⟩
def dVar (i : Nat) : FE := fun ρ S Q _ => onSome (getV ρ i) fun d => Q d S
def dC {α : Type} (d : α) : FX α := fun _ S Q _ => Q d S
section
variable {X : Cx} {E : L2.St → XK} {pos : Pos}
theorem d_var {i : Nat} {e : Expr} (h : PE X e (tVar i)) : PEd X E e (dVar i) := by
  refine PE.imp h fun σ H Q ⟨μ, S, ρ, Qd, Ed, w, en, hf, q, px⟩ => ?_
  obtain ⟨d, e1, hd⟩ := onSome_of hf
  obtain ⟨v, e2, r⟩ := en.ok i d (getV_some e1)
  exact ⟨v, e2, q d S v H μ hd Fw.refl w r⟩
theorem d_const {v : V} {d : D} {e : Expr} (h : PE X e (tC v)) (r : ∀ μ H, Rp (ct X) μ H v d) : PEd X E e (dC d) :=
  PE.imp h fun σ H Q ⟨μ, S, ρ, Qd, Ed, w, en, hf, q, px⟩ => q d S v H μ hf Fw.refl w (r μ H)
theorem d_int {i j} : PEd X E (.Constant (.int i) j pos) (dC (.int i)) := d_const pe_int fun _ _ => .int i
theorem d_bl {b j} : PEd X E (.Constant (.bool b) j pos) (dC (.bl b)) := d_const pe_bl fun _ _ => .bl b
theorem d_non {j} : PEd X E (.Constant .none j pos) (dC .non) := d_const pe_non fun _ _ => .non
theorem d_str {x j} : PEd X E (.Constant (.str x) j pos) (dC (.str x)) := d_const pe_str fun _ _ => .str x
/-- a module's int -/
theorem d_gint {x : Str} {i : Int} {t : Tok} (hg : Gl X x) (hm : X.mg x = some (.int i t)) (hd : (x == ("__debug__" : Str)) = false := by decide) : PEd X E (.Name x pos) (dC (.int i)) :=
  d_const (pe_glob hg hm (show RelV (V.int i) _ from ⟨_, rfl⟩) hd) fun _ _ => .int i
theorem d_gstr {x : Str} {z : Str} {t : Tok} (hg : Gl X x) (hm : X.mg x = some (.str z t)) (hd : (x == ("__debug__" : Str)) = false := by decide) : PEd X E (.Name x pos) (dC (.str z)) :=
  d_const (pe_glob hg hm (show RelV (V.str z) _ from ⟨_, rfl⟩) hd) fun _ _ => .str z
/-- a module's def or class as a value -/
theorem d_glo {x : Str} {a : Addr} (hg : Gl X x) (hm : X.mg x = some (.ref a)) (hd : (x == ("__debug__" : Str)) = false := by decide) : PEd X E (.Name x pos) (dC (.glo x)) :=
  d_const (pe_glob hg hm (show RelV (V.ref a) _ from rfl) hd) fun _ _ => .glo hm rfl
theorem d_ty {x : Str} {n : String} (hg : Gl X x) (hm : X.mg x = none) (hv : bootBuiltins x = some (.type n)) (hn : x ≠ "__name__" := by decide) (hd : (x == ("__debug__" : Str)) = false := by decide) : PEd X E (.Name x pos) (dC (.ty n)) :=
  d_const (pe_bltn hg hm hv (show RelV (V.ty n) _ from rfl) hn hd) fun _ _ => .ty n
end
/-! ### argument lists -/
def dNil : FA := fun _ S Q _ => Q [] S
def dCons (f : FE) (g : FA) : FA := fun ρ S Q Ed => f ρ S (fun x S1 => g ρ S1 (fun xs S2 => Q (x :: xs) S2) Ed) Ed
section
variable {X : Cx} {E : L2.St → XK} {pos : Pos} {a b e : Expr} {es : List Expr} {fa fb : FE} {fs : FA}
theorem d_nil : PAd X E [] dNil := PA.imp pa_nil fun σ H Q ⟨μ, S, ρ, Qd, Ed, w, en, hf, q, px⟩ => q [] S [] H μ hf Fw.refl w .nil
theorem d_cons (ha : PEd X E e fa) (hr : PAd X E es fs) (hs : starEach (e :: es) X.env = (false, eval e X.env) :: starEach es X.env := by rfl) : PAd X E (e :: es) (dCons fa fs) := by
  refine PA.imp (pa_cons ha hr hs) fun σ H Q ⟨μ, S, ρ, Qd, Ed, w, en, hf, q, px⟩ => ?_
  refine tR_of w en hf px fun x S1 v H1 μ1 h1 f1 w1 en1 px1 r1 => ?_
  refine tR_of w1 en1 h1 px1 fun xs S2 vs H2 μ2 h2 f2 w2 en2 px2 r2 => ?_
  exact q _ S2 _ H2 μ2 h2 (f1.trans f2) w2 (.cons (r1.fw w1 f2) r2)
/-! ### operators by values -/
abbrev G2 := D → D → Sto → QD → Prop
def PostV (c : Ct) (μ : Mu) (H : Hp) (Qd : QD) (Q : VK) : Prop := ∀ d S' v H' μ', Qd d S' → Fw μ H μ' H' → Wd c μ' S' H' → Rp c μ' H' v d → Q v H'
def rD2 (c : Ct) (g : G2) : R2 := fun x y H Q => ∃ μ S dx dy Qd, Wd c μ S H ∧ Rp c μ H x dx ∧ Rp c μ H y dy ∧ g dx dy S Qd ∧ PostV c μ H Qd Q
def rD1 (c : Ct) (g : D → Sto → QD → Prop) : V → Hp → VK → Prop := fun x H Q => ∃ μ S dx Qd, Wd c μ S H ∧ Rp c μ H x dx ∧ g dx S Qd ∧ PostV c μ H Qd Q
def rDs (c : Ct) (g : List D → Sto → QD → Prop) : List V → Hp → VK → Prop := fun xs H Q => ∃ μ S ds Qd, Wd c μ S H ∧ RpAll c μ H xs ds ∧ g ds S Qd ∧ PostV c μ H Qd Q
def rDm (c : Ct) (g : D → List D → Sto → QD → Prop) : V → List V → Hp → VK → Prop := fun x xs H Q => ∃ μ S d ds Qd, Wd c μ S H ∧ Rp c μ H x d ∧ RpAll c μ H xs ds ∧ g d ds S Qd ∧ PostV c μ H Qd Q
def dBin (g : G2) (fa fb : FE) : FE := fun ρ S Q Ed => fa ρ S (fun x S1 => fb ρ S1 (fun y S2 => g x y S2 Q) Ed) Ed
def dUn (g : D → Sto → QD → Prop) (fa : FE) : FE := fun ρ S Q Ed => fa ρ S (fun x S1 => g x S1 Q) Ed
def dB (g : List D → Sto → QD → Prop) (fa : FA) : FE := fun ρ S Q Ed => fa ρ S (fun ds S1 => g ds S1 Q) Ed
theorem tBin {g : G2} {σ : L2.St} {H : Hp} {Q : VK} {c : Ct} (h : tD c E (dBin g fa fb) σ H Q) : tOp (rD2 c g) (tD c E fa) (tD c E fb) σ H Q := by
  obtain ⟨μ, S, ρ, Qd, Ed, w, en, hf, q, px⟩ := h
  refine tR_of w en hf px fun x S1 v H1 μ1 h1 f1 w1 en1 px1 r1 => ?_
  refine tR_of w1 en1 h1 px1 fun y S2 u H2 μ2 h2 f2 w2 en2 px2 r2 => ?_
  exact ⟨μ2, S2, x, y, Qd, w2, r1.fw w1 f2, r2, h2, fun d S' v' H' μ' h f w' r => q d S' v' H' μ' h (f1.trans (f2.trans f)) w' r⟩
theorem d_bin {op : Operator} {g : G2} (ho : OpR X (binaryOp op) (rD2 (ct X) g)) (ha : PEd X E a fa) (hb : PEd X E b fb) : PEd X E (.BinOp a op b pos) (dBin g fa fb) :=
  PE.imp (pe_op ho ha hb) fun _ _ _ h => tBin h
theorem d_un {op : UnaryOp} {g : D → Sto → QD → Prop} (ho : UnR X (unaryOp op) (rD1 (ct X) g)) (ha : PEd X E a fa) : PEd X E (.UnaryOp op a pos) (dUn g fa) := by
  refine PE.imp (pe_un ho ha) fun σ H Q ⟨μ, S, ρ, Qd, Ed, w, en, hf, q, px⟩ => ?_
  refine tR_of w en hf px fun x S1 v H1 μ1 h1 f1 w1 en1 px1 r1 => ?_
  exact ⟨μ1, S1, x, Qd, w1, r1, h1, fun d S' v' H' μ' h f w' r => q d S' v' H' μ' h (f1.trans f) w' r⟩
theorem d_cmp {op : CmpOp} {g : G2} (ho : OpR X (compareOp op) (rD2 (ct X) g)) (ha : PEd X E a fa) (hb : PEd X E b fb) (hm : behindInMarks op b = false) : PEd X E (.Compare a [op] [b] pos) (dBin g fa fb) :=
  PE.imp (pe_cmpR ho ha hb hm) fun _ _ _ h => tBin h
/-- a bool's test -/
def onBl (d : D) (k : Bool → Prop) : Prop := match d with | .bl b => k b | _ => False
theorem onBl_of {d : D} {k : Bool → Prop} (h : onBl d k) : ∃ b, d = .bl b ∧ k b := by
  cases d with
  | bl b => exact ⟨b, rfl, h⟩
  | _ => exact h.elim
def dTest (f : FE) : FT := fun ρ S Q Ed => f ρ S (fun d S1 => onBl d fun b => Q b S1) Ed
theorem Rp.bl_inv {c : Ct} {μ : Mu} {H : Hp} {v : V} {b : Bool} (h : Rp c μ H v (.bl b)) : v = .bl b := by cases h; rfl
theorem tTest_of {f : FE} {σ : L2.St} {H : Hp} {Q : Bool → Hp → Prop} {c : Ct} (h : tT c E (dTest f) σ H Q) : tD c E f σ H (fun x H' => ∃ k, x = .bl k ∧ Q k H') := by
  obtain ⟨μ, S, ρ, Qd, Ed, w, en, hf, q, px⟩ := h
  refine tR_of w en hf px fun x S1 v H1 μ1 h1 f1 w1 en1 px1 r1 => ?_
  obtain ⟨b, rfl, hb⟩ := onBl_of h1
  exact ⟨b, r1.bl_inv, q b S1 b H1 μ1 hb f1 w1 rfl⟩
theorem d_tcmp {op : CmpOp} {g : G2} (ho : OpR X (compareOp op) (rD2 (ct X) g)) (ha : PEd X E a fa) (hb : PEd X E b fb) (hm : behindInMarks op b = false) : PTd X E (.Compare a [op] [b] pos) (dTest (dBin g fa fb)) := by
  refine PT.imp (pt_cmpR ho ha hb hm) fun σ H Q h => ?_
  obtain ⟨μ, S, ρ, Qd, Ed, w, en, hf, q, px⟩ := h
  show tOp _ _ _ σ H _
  refine tBin ⟨μ, S, ρ, _, Ed, w, en, hf, fun d S' v H' μ' h1 f1 w1 r1 => ?_, px⟩
  obtain ⟨b, rfl, hb⟩ := onBl_of h1
  exact ⟨b, r1.bl_inv, q b S' b H' μ' hb f1 w1 rfl⟩
/-- an expression that is a bool, as a test -/
theorem d_tval {f : FE} (h : PEd X E e f) (he : ∀ whole, isTrue e X.env whole = (do let v ← whole; standAt e.pos; holding [v] (truthy v)) := by intro _; rfl) : PTd X E e (dTest f) :=
  PT.imp (pt_val h he) fun _ _ _ h => tTest_of h
end
/-! ### and, or, not, if -/
def dAnd (f g : FT) : FT := fun ρ S Q Ed => f ρ S (fun b S1 => if b = true then g ρ S1 Q Ed else Q false S1) Ed
def dOr (f g : FT) : FT := fun ρ S Q Ed => f ρ S (fun b S1 => if b = true then Q true S1 else g ρ S1 Q Ed) Ed
def dNot (f : FT) : FT := fun ρ S Q Ed => f ρ S (fun b S1 => Q (!b) S1) Ed
def dAndV (f g : FE) : FE := fun ρ S Q Ed => f ρ S (fun d S1 => onBl d fun b => if b = true then g ρ S1 Q Ed else Q (.bl false) S1) Ed
def dOrV (f g : FE) : FE := fun ρ S Q Ed => f ρ S (fun d S1 => onBl d fun b => if b = true then Q (.bl true) S1 else g ρ S1 Q Ed) Ed
def dNotV (f : FE) : FE := fun ρ S Q Ed => f ρ S (fun d S1 => onBl d fun b => Q (.bl (!b)) S1) Ed
def dIf {α : Type} (t : FT) (f g : FX α) : FX α := fun ρ S Q Ed => t ρ S (fun b S1 => if b = true then f ρ S1 Q Ed else g ρ S1 Q Ed) Ed
section
variable {X : Cx} {E : L2.St → XK} {pos : Pos} {a b c e : Expr} {rest : List Expr} {f g : FT} {fa fb : FE}
theorem d_and1 (ha : PTd X E a f) : PWd X E (.BoolOp .And [a] pos) f := pw_and1 ha
theorem d_or1 (ha : PTd X E a f) : PWd X E (.BoolOp .Or [a] pos) f := pw_or1 ha
theorem d_and (ha : PTd X E a f) (hb : PWd X E (.BoolOp .And (b :: rest) pos) g) : PWd X E (.BoolOp .And (a :: b :: rest) pos) (dAnd f g) := by
  refine PW.imp (pw_and ha hb) fun σ H Q ⟨μ, S, ρ, Qd, Ed, w, en, hf, q, px⟩ => ?_
  refine tR_of w en hf px fun x S1 v H1 μ1 h1 f1 w1 en1 px1 r1 => ?_
  cases (r1 : v = x)
  split
  · rename_i hv
    rw [if_pos hv] at h1
    exact tR_of w1 en1 h1 px1 fun y S2 u H2 μ2 h2 f2 w2 en2 px2 r2 => q y S2 u H2 μ2 h2 (f1.trans f2) w2 r2
  · rename_i hv
    rw [if_neg hv] at h1
    exact q false S1 false H1 μ1 h1 f1 w1 rfl
theorem d_or (ha : PTd X E a f) (hb : PWd X E (.BoolOp .Or (b :: rest) pos) g) : PWd X E (.BoolOp .Or (a :: b :: rest) pos) (dOr f g) := by
  refine PW.imp (pw_or ha hb) fun σ H Q ⟨μ, S, ρ, Qd, Ed, w, en, hf, q, px⟩ => ?_
  refine tR_of w en hf px fun x S1 v H1 μ1 h1 f1 w1 en1 px1 r1 => ?_
  cases (r1 : v = x)
  split
  · rename_i hv
    rw [if_pos hv] at h1
    exact q true S1 true H1 μ1 h1 f1 w1 rfl
  · rename_i hv
    rw [if_neg hv] at h1
    exact tR_of w1 en1 h1 px1 fun y S2 u H2 μ2 h2 f2 w2 en2 px2 r2 => q y S2 u H2 μ2 h2 (f1.trans f2) w2 r2
theorem d_not (ha : PTd X E a f) : PTd X E (.UnaryOp .Not a pos) (dNot f) := by
  refine PT.imp (pt_not ha) fun σ H Q ⟨μ, S, ρ, Qd, Ed, w, en, hf, q, px⟩ => ?_
  refine tR_of w en hf px fun x S1 v H1 μ1 h1 f1 w1 en1 px1 r1 => ?_
  cases (r1 : v = x)
  exact q _ S1 _ H1 μ1 h1 f1 w1 rfl
theorem d_one {op} (h : PEd X E a fa) : PEd X E (.BoolOp op [a] pos) fa := pe_one h
theorem d_andV (ha : PEd X E a fa) (hb : PEd X E (.BoolOp .And (b :: rest) pos) fb) : PEd X E (.BoolOp .And (a :: b :: rest) pos) (dAndV fa fb) := by
  refine PE.imp (pe_and ha hb) fun σ H Q ⟨μ, S, ρ, Qd, Ed, w, en, hf, q, px⟩ => ?_
  refine tR_of w en hf px fun x S1 v H1 μ1 h1 f1 w1 en1 px1 r1 => ?_
  obtain ⟨k, rfl, hk⟩ := onBl_of h1
  refine ⟨k, r1.bl_inv, ?_⟩
  split
  · rename_i hv
    rw [if_pos hv] at hk
    exact tR_of w1 en1 hk px1 fun y S2 u H2 μ2 h2 f2 w2 en2 px2 r2 => q y S2 u H2 μ2 h2 (f1.trans f2) w2 r2
  · rename_i hv
    rw [if_neg hv] at hk
    exact q _ S1 _ H1 μ1 hk f1 w1 (.bl false)
theorem d_orV (ha : PEd X E a fa) (hb : PEd X E (.BoolOp .Or (b :: rest) pos) fb) : PEd X E (.BoolOp .Or (a :: b :: rest) pos) (dOrV fa fb) := by
  refine PE.imp (pe_or ha hb) fun σ H Q ⟨μ, S, ρ, Qd, Ed, w, en, hf, q, px⟩ => ?_
  refine tR_of w en hf px fun x S1 v H1 μ1 h1 f1 w1 en1 px1 r1 => ?_
  obtain ⟨k, rfl, hk⟩ := onBl_of h1
  refine ⟨k, r1.bl_inv, ?_⟩
  split
  · rename_i hv
    rw [if_pos hv] at hk
    exact q _ S1 _ H1 μ1 hk f1 w1 (.bl true)
  · rename_i hv
    rw [if_neg hv] at hk
    exact tR_of w1 en1 hk px1 fun y S2 u H2 μ2 h2 f2 w2 en2 px2 r2 => q y S2 u H2 μ2 h2 (f1.trans f2) w2 r2
theorem d_notV (ha : PEd X E a fa) : PEd X E (.UnaryOp .Not a pos) (dNotV fa) := by
  refine PE.imp (pe_not ha) fun σ H Q ⟨μ, S, ρ, Qd, Ed, w, en, hf, q, px⟩ => ?_
  refine tR_of w en hf px fun x S1 v H1 μ1 h1 f1 w1 en1 px1 r1 => ?_
  obtain ⟨k, rfl, hk⟩ := onBl_of h1
  exact ⟨k, r1.bl_inv, q _ S1 _ H1 μ1 hk f1 w1 (.bl _)⟩
theorem d_ifE (ht : PTd X E c f) (ha : PEd X E a fa) (hb : PEd X E b fb) : PEd X E (.IfExp c a b pos) (dIf f fa fb) := by
  refine PE.imp (pe_ifExp ht ha hb) fun σ H Q ⟨μ, S, ρ, Qd, Ed, w, en, hf, q, px⟩ => ?_
  refine tR_of w en hf px fun x S1 v H1 μ1 h1 f1 w1 en1 px1 r1 => ?_
  cases (r1 : v = x)
  split
  · rename_i hv
    rw [if_pos hv] at h1
    exact tR_of w1 en1 h1 px1 fun y S2 u H2 μ2 h2 f2 w2 en2 px2 r2 => q y S2 u H2 μ2 h2 (f1.trans f2) w2 r2
  · rename_i hv
    rw [if_neg hv] at h1
    exact tR_of w1 en1 h1 px1 fun y S2 u H2 μ2 h2 f2 w2 en2 px2 r2 => q y S2 u H2 μ2 h2 (f1.trans f2) w2 r2
end
/-! ### two comparisons in a row -/
def dChain (g g' : G2) (fa fb fc : FE) : FE := fun ρ S Q Ed => fa ρ S (fun x S1 => fb ρ S1 (fun y S2 => g x y S2 fun z S3 => onBl z fun k => if k = true then fc ρ S3 (fun u S4 => g' y u S4 Q) Ed else Q (.bl false) S3) Ed) Ed
section
variable {X : Cx} {E : L2.St → XK} {pos : Pos} {a b c : Expr} {fa fb fc : FE} {op op' : CmpOp} {g g' : G2}
theorem tChain_of {σ : L2.St} {H : Hp} {Q : VK} {x : Ct} (h : tD x E (dChain g g' fa fb fc) σ H Q) : tChain (rD2 x g) (rD2 x g') (tD x E fa) (tD x E fb) (tD x E fc) σ H Q := by
  obtain ⟨μ, S, ρ, Qd, Ed, w, en, hf, q, px⟩ := h
  refine tR_of w en hf px fun x S1 v H1 μ1 h1 f1 w1 en1 px1 r1 => ?_
  refine tR_of w1 en1 h1 px1 fun y S2 u H2 μ2 h2 f2 w2 en2 px2 r2 => ?_
  refine ⟨μ2, S2, x, y, _, w2, r1.fw w1 f2, r2, h2, fun d S' v' H3 μ3 h f3 w3 r3 => ?_⟩
  obtain ⟨k, rfl, hk⟩ := onBl_of h
  refine ⟨k, r3.bl_inv, ?_⟩
  split
  · rename_i hv
    rw [if_pos hv] at hk
    refine tR_of w3 (en2.fw w2 f3) hk (px2.fw f3) fun z S4 vz H4 μ4 h4 f4 w4 en4 px4 r4 => ?_
    exact ⟨μ4, S4, y, z, Qd, w4, (r2.fw w2 f3).fw w3 f4, r4, h4, fun d S' v' H' μ' h f w' r => q d S' v' H' μ' h (f1.trans (f2.trans (f3.trans (f4.trans f)))) w' r⟩
  · rename_i hv
    rw [if_neg hv] at hk
    exact q _ _ _ _ _ hk (f1.trans (f2.trans f3)) w3 (.bl false)
theorem d_chain (ho : OpR X (compareOp op) (rD2 (ct X) g)) (ho' : OpR X (compareOp op') (rD2 (ct X) g')) (ha : PEd X E a fa) (hb : PEd X E b fb) (hc : PEd X E c fc)
    (hm : lastMarks [op, op'] [b, c] = false := by with_unfolding_all rfl) : PEd X E (.Compare a [op, op'] [b, c] pos) (dChain g g' fa fb fc) :=
  PE.imp (pe_chain ho ho' ha hb hc hm) fun _ _ _ h => tChain_of h
theorem d_tchain (ho : OpR X (compareOp op) (rD2 (ct X) g)) (ho' : OpR X (compareOp op') (rD2 (ct X) g')) (ha : PEd X E a fa) (hb : PEd X E b fb) (hc : PEd X E c fc)
    (hm : lastMarks [op, op'] [b, c] = false := by with_unfolding_all rfl) : PTd X E (.Compare a [op, op'] [b, c] pos) (dTest (dChain g g' fa fb fc)) := by
  refine PT.imp (pt_chain ho ho' ha hb hc hm) fun σ H Q h => ?_
  obtain ⟨μ, S, ρ, Qd, Ed, w, en, hf, q, px⟩ := h
  refine tChain_of ⟨μ, S, ρ, _, Ed, w, en, hf, fun d S' v H' μ' h1 f1 w1 r1 => ?_, px⟩
  obtain ⟨b, rfl, hb⟩ := onBl_of h1
  exact ⟨b, r1.bl_inv, q b S' b H' μ' hb f1 w1 rfl⟩
end
end Pu
namespace Pu
open PySem PySem.Spec PyProof.Rows L2

/-! ## reading data -/
def lstAt : Option Cl → Option (List D)
  | some (.lst xs) => some xs
  | _ => none
theorem lstAt_inv {o : Option Cl} {xs : List D} (h : lstAt o = some xs) : o = some (.lst xs) := by
  cases o with
  | none => cases h
  | some x =>
    cases x with
    | lst ys => cases h; rfl
    | ins _ _ => cases h
def seqOf (S : Sto) : D → Option (List D)
  | .tup xs => some xs
  | .lst _ xs => some xs
  | .kls xs => some xs
  | .cell n => lstAt S[n]?
  | _ => none
def lstOf (S : Sto) : D → Option (List D)
  | .lst _ xs => some xs
  | .cell n => lstAt S[n]?
  | _ => none
def cellOf (S : Sto) : D → Option (Nat × List D)
  | .cell n => (lstAt S[n]?).map ((n, ·))
  | _ => none
section
variable {c : Ct} {μ μ' : Mu} {S : Sto} {H H' : Hp} {v : V} {d : D} {xs : List D}
theorem Wd.atCell (w : Wd c μ S H) {n : Nat} {x : Cl} (h : S[n]? = some x) : ∃ a, μ.m[n]? = some a ∧ ClOk c μ H a x := by
  have h1 : n < μ.m.length := by rw [w.len]; exact (List.getElem?_eq_some_iff.mp h).1
  exact ⟨μ.m[n], List.getElem?_eq_getElem h1, w.ok n _ x (List.getElem?_eq_getElem h1) h⟩
theorem cellOf_inv {n : Nat} (e : cellOf S d = some (n, xs)) : d = .cell n ∧ S[n]? = some (.lst xs) := by
  cases d with
  | cell k =>
    obtain ⟨ys, h, e2⟩ := Option.map_eq_some_iff.mp (show (lstAt S[k]?).map ((k, ·)) = some (n, xs) from e)
    cases e2
    exact ⟨rfl, lstAt_inv h⟩
  | _ => cases e
theorem Wd.cellL (w : Wd c μ S H) (r : Rp c μ H v d) {n : Nat} (e : cellOf S d = some (n, xs)) : ∃ a vs, v = .ref a ∧ μ.m[n]? = some a ∧ H a = some (.lst vs) ∧ RpAll c μ H vs xs := by
  obtain ⟨rfl, h⟩ := cellOf_inv e
  cases r with
  | cell hm =>
    obtain ⟨vs, h1, h2⟩ := w.ok n _ _ hm h
    exact ⟨_, vs, rfl, hm, h1, h2⟩
theorem Rp.lstT (w : Wd c μ S H) (r : Rp c μ H v d) (e : lstOf S d = some xs) : ∃ a vs, v = .ref a ∧ H a = some (.lst vs) ∧ RpAll c μ H vs xs := by
  cases r with
  | lst h _ _ _ ra => cases e; exact ⟨_, _, rfl, h, ra⟩
  | @cell n a hm =>
    obtain ⟨vs, h1, h2⟩ := w.ok n _ _ hm (lstAt_inv e)
    exact ⟨_, vs, rfl, h1, h2⟩
  | _ => cases e
theorem Rp.seq (w : Wd c μ S H) (r : Rp c μ H v d) (e : seqOf S d = some xs) : ∃ a vs, v = .ref a ∧ (SqL c.K H a vs ∨ SqT c.K H a vs) ∧ RpAll c μ H vs xs := by
  cases r with
  | tup h ra => cases e; exact ⟨_, _, rfl, .inr (SqT.of h), ra⟩
  | lst h _ _ _ ra => cases e; exact ⟨_, _, rfl, .inl (SqL.of h), ra⟩
  | kls h _ _ ra => cases e; exact ⟨_, _, rfl, .inl (.inl h), ra⟩
  | klsK o its n h1 h2 h3 h4 h5 h6 ra => cases e; exact ⟨_, _, rfl, .inl (.inr ⟨o, its, n, h1, h2, h3, h4, h5, h6⟩), ra⟩
  | @cell n a hm =>
    obtain ⟨vs, h1, h2⟩ := w.ok n _ _ hm (lstAt_inv e)
    exact ⟨_, vs, rfl, .inl (SqL.of h1), h2⟩
  | _ => cases e
/-! what a new object is worth -/
theorem PostV.tup {Qd : QD} {Q : VK} (q : PostV c μ H Qd Q) (w : Wd c μ S H) {vs : List V} {ds : List D} (r : RpAll c μ H vs ds) (h : Qd (.tup ds) S) {p : Addr} (hp : H p = none) : Q (.ref p) (upd H p (.tup vs)) :=
  q _ S _ _ μ h (Fw.new hp) (w.new hp) (.tup upd_same (r.fw w (Fw.new hp)))
theorem Wd.newL (w : Wd c μ S H) {vs : List V} {ds : List D} (r : RpAll c μ H vs ds) {p : Addr} (hp : H p = none) {k : Bool} (hk : k = true → p ≠ sysModules) : Rp c μ (upd H p (.lst vs)) (.ref p) (.lst k ds) :=
  .lst upd_same (w.fresh hp) (fun z => w.avs p z hp) hk (r.fw w (Fw.new hp))
theorem PostV.lst {Qd : QD} {Q : VK} (q : PostV c μ H Qd Q) (w : Wd c μ S H) {vs : List V} {ds : List D} (r : RpAll c μ H vs ds) (h : Qd (.lst false ds) S) {p : Addr} (hp : H p = none) : Q (.ref p) (upd H p (.lst vs)) :=
  q _ S _ _ μ h (Fw.new hp) (w.new hp) (w.newL r hp fun z => nomatch z)
theorem PostV.lstN {Qd : QD} {Q : VK} (q : PostV c μ H Qd Q) (w : Wd c μ S H) {vs : List V} {ds : List D} (r : RpAll c μ H vs ds) (h : Qd (.lst true ds) S) {p : Addr} (hp : H p = none) (hs : p ≠ sysModules) : Q (.ref p) (upd H p (.lst vs)) :=
  q _ S _ _ μ h (Fw.new hp) (w.new hp) (w.newL r hp fun _ => hs)
theorem PostV.same {Qd : QD} {Q : VK} (q : PostV c μ H Qd Q) (w : Wd c μ S H) (r : Rp c μ H v d) (h : Qd d S) : Q v H := q _ S _ _ μ h Fw.refl w r
/-- a cell is written, a value given back -/
theorem PostV.cell {Qd : QD} {Q : VK} (q : PostV c μ H Qd Q) (w : Wd c μ S H) {n : Nat} {a : Addr} {vs : List V} {ds : List D} (hm : μ.m[n]? = some a) (r : RpAll c μ H vs ds) (rv : Rp c μ H v d) (h : Qd d (S.set n (.lst ds))) : Q v (upd H a (.lst vs)) := by
  have f : Fw μ H μ (upd H a (.lst vs)) := Fw.write (List.mem_of_getElem? hm)
  exact q _ _ _ _ μ h f (w.set hm ⟨vs, upd_same, r.fw w f⟩) (rv.fw w f)
end
/-! ints -/
def intsOf : List D → Option (List Int)
  | [] => some []
  | .int i :: r => (intsOf r).map (i :: ·)
  | _ :: _ => none
def prsOf : List D → Option (List (Int × Int))
  | [] => some []
  | .tup [.int i, .int j] :: r => (prsOf r).map ((i, j) :: ·)
  | _ :: _ => none
theorem intsOf_map (ns : List Int) : intsOf (ns.map D.int) = some ns := by
  induction ns with
  | nil => rfl
  | cons n ns ih => show (intsOf (ns.map D.int)).map (n :: ·) = _; rw [ih]; rfl
theorem intsOf_inv : ∀ {ds : List D} {ns : List Int}, intsOf ds = some ns → ds = ns.map D.int
  | [], ns, h => by cases h; rfl
  | .int i :: r, ns, h => by
    obtain ⟨ms, e, rfl⟩ := Option.map_eq_some_iff.mp (show (intsOf r).map (i :: ·) = some ns from h)
    rw [intsOf_inv e]
    rfl
  | .non :: _, _, h => by cases h
  | .bl _ :: _, _, h => by cases h
  | .str _ :: _, _, h => by cases h
  | .tup _ :: _, _, h => by cases h
  | .lst _ _ :: _, _, h => by cases h
  | .dic _ :: _, _, h => by cases h
  | .kls _ :: _, _, h => by cases h
  | .cell _ :: _, _, h => by cases h
  | .glo _ :: _, _, h => by cases h
  | .ty _ :: _, _, h => by cases h
  | .ins _ _ :: _, _, h => by cases h
  | .exc _ _ :: _, _, h => by cases h
section
variable {c : Ct} {μ : Mu} {H : Hp}
theorem RpAll.ints : ∀ {vs : List V} {ns : List Int}, RpAll c μ H vs (ns.map D.int) → vs = ns.map V.int
  | _, [], h => by cases h; rfl
  | _, n :: ns, h => by
    cases h with
    | cons h1 h2 =>
      cases h1
      rw [RpAll.ints h2]
      rfl
theorem RpAll.ofInts : ∀ (ns : List Int), RpAll c μ H (ns.map V.int) (ns.map D.int)
  | [] => .nil
  | n :: ns => .cons (.int n) (RpAll.ofInts ns)
end
/-! ## displays -/
def dTup (f : FA) : FE := fun ρ S Q Ed => f ρ S (fun ds S1 => ds.length ≤ sizeLine ∧ Q (.tup ds) S1) Ed
def dLst (f : FA) : FE := fun ρ S Q Ed => f ρ S (fun ds S1 => ds.length ≤ sizeLine ∧ Q (.lst true ds) S1) Ed
/-- a list that will be changed -/
def dLstC (f : FA) : FE := fun ρ S Q Ed => f ρ S (fun ds S1 => ds.length ≤ sizeLine ∧ Q (.cell S1.length) (S1 ++ [.lst ds])) Ed
section
variable {X : Cx} {E : L2.St → XK} {pos : Pos} {es : List Expr} {fa : FA}
theorem d_tup {x1} (h : PAd X E es fa) : PEd X E (.Tuple es x1 pos) (dTup fa) := by
  refine PE.imp (pe_tup h) fun σ H Q ⟨μ, S, ρ, Qd, Ed, w, en, hf, q, px⟩ => ?_
  refine tR_of w en hf px fun ds S1 vs H1 μ1 h1 f1 w1 en1 px1 r1 => ⟨by rw [r1.length]; exact h1.1, fun p hp => ?_⟩
  exact PostV.tup (fun d S' v H' μ' h f w' r => q d S' v H' μ' h (f1.trans f) w' r) w1 r1 h1.2 hp
theorem d_lst (h : PAd X E es fa) : PEd X E (.List es pos) (dLst fa) := by
  refine PE.imp (Rb.pe_lstN h) fun σ H Q ⟨μ, S, ρ, Qd, Ed, w, en, hf, q, px⟩ => ?_
  refine tR_of w en hf px fun ds S1 vs H1 μ1 h1 f1 w1 en1 px1 r1 => ⟨by rw [r1.length]; exact h1.1, fun p hp hs => ?_⟩
  exact PostV.lstN (fun d S' v H' μ' h f w' r => q d S' v H' μ' h (f1.trans f) w' r) w1 r1 h1.2 hp hs
theorem Wd.lay {c : Ct} {μ : Mu} {S : Sto} {H : Hp} (w : Wd c μ S H) {vs : List V} {ds : List D} (r : RpAll c μ H vs ds) {p : Addr} (hp : H p = none) :
    Fw μ H ⟨μ.m ++ [p], μ.av⟩ (upd H p (.lst vs)) ∧ Wd c ⟨μ.m ++ [p], μ.av⟩ (S ++ [.lst ds]) (upd H p (.lst vs)) ∧ Rp c ⟨μ.m ++ [p], μ.av⟩ (upd H p (.lst vs)) (.ref p) (.cell S.length) := by
  have f : Fw μ H ⟨μ.m ++ [p], μ.av⟩ (upd H p (.lst vs)) := Fw.newC hp
  refine ⟨f, w.newC hp ⟨vs, upd_same, r.fw w f⟩, .cell ?_⟩
  show (μ.m ++ [p])[S.length]? = some p
  rw [← w.len, List.getElem?_append_right (Nat.le_refl _), Nat.sub_self]
  rfl
theorem d_lstC (h : PAd X E es fa) : PEd X E (.List es pos) (dLstC fa) := by
  refine PE.imp (pe_lst h) fun σ H Q ⟨μ, S, ρ, Qd, Ed, w, en, hf, q, px⟩ => ?_
  refine tR_of w en hf px fun ds S1 vs H1 μ1 h1 f1 w1 en1 px1 r1 => ⟨by rw [r1.length]; exact h1.1, fun p hp => ?_⟩
  obtain ⟨f2, w2, r2⟩ := w1.lay r1 hp
  exact q _ _ _ _ _ h1.2 (f1.trans f2) w2 r2
end
/-! ## built-ins that make a new list: as a value, as a cell -/
abbrev GL := List D → Sto → (List D → Sto → Prop) → Prop
def rDsL (c : Ct) (g : GL) : List V → Hp → VK → Prop := fun xs H Q => ∃ μ S ds Qd, Wd c μ S H ∧ RpAll c μ H xs ds ∧ g ds S Qd ∧ ∀ es vs p, Qd es S → RpAll c μ H vs es → H p = none → Q (.ref p) (upd H p (.lst vs))
def dBL (g : GL) (fa : FA) : FE := fun ρ S Q Ed => fa ρ S (fun ds S1 => g ds S1 fun es S2 => Q (.lst false es) S2) Ed
def dBC (g : GL) (fa : FA) : FE := fun ρ S Q Ed => fa ρ S (fun ds S1 => g ds S1 fun es S2 => Q (.cell S2.length) (S2 ++ [.lst es])) Ed
section
variable {X : Cx} {E : L2.St → XK} {e : Expr} {es : List Expr} {fa : FA} {id : String} {x : Str} {pos p2 : Pos}
theorem d_callB {g : List D → Sto → QD → Prop} (hc : CallR X (.builtin id) (rDs (ct X) g)) (hg : Gl X x) (hm : X.mg x = none) (hv : bootBuiltins x = some (.builtin id)) (ha : PAd X E (e :: es) fa) (hn : x ≠ "__name__" := by decide) (hdb : (x == ("__debug__" : Str)) = false := by decide)
    (hs : starEach (e :: es) X.env = (false, eval e X.env) :: starEach es X.env := by rfl) (hf2 : (backTo pos (starEach es X.env)).any (·.1) = false := by rfl) : PEd X E (.Call (.Name x p2) (e :: es) [] pos) (dB g fa) := by
  refine PE.imp (pe_callB hc hg hm hv ha hn hdb hs hf2) fun σ H Q ⟨μ, S, ρ, Qd, Ed, w, en, hf, q, px⟩ => ?_
  refine tR_of w en hf px fun ds S1 vs H1 μ1 h1 f1 w1 en1 px1 r1 => ?_
  exact ⟨μ1, S1, ds, Qd, w1, r1, h1, fun d S' v H' μ' h f w' r => q d S' v H' μ' h (f1.trans f) w' r⟩
theorem d_callT {T : String} {g : List D → Sto → QD → Prop} (hc : CallR X (.type T) (rDs (ct X) g)) (hg : Gl X x) (hm : X.mg x = none) (hv : bootBuiltins x = some (.type T)) (ha : PAd X E (e :: es) fa) (hn : x ≠ "__name__" := by decide) (hdb : (x == ("__debug__" : Str)) = false := by decide)
    (hs : starEach (e :: es) X.env = (false, eval e X.env) :: starEach es X.env := by rfl) (hf2 : (backTo pos (starEach es X.env)).any (·.1) = false := by rfl) : PEd X E (.Call (.Name x p2) (e :: es) [] pos) (dB g fa) := by
  refine PE.imp (pe_callTy hc hg hm hv ha hn hdb hs hf2) fun σ H Q ⟨μ, S, ρ, Qd, Ed, w, en, hf, q, px⟩ => ?_
  refine tR_of w en hf px fun ds S1 vs H1 μ1 h1 f1 w1 en1 px1 r1 => ?_
  exact ⟨μ1, S1, ds, Qd, w1, r1, h1, fun d S' v H' μ' h f w' r => q d S' v H' μ' h (f1.trans f) w' r⟩
theorem gL_keep {c : Ct} {g : GL} : ∀ {xs : List V} {H : Hp} {Q : VK} {μ : Mu} {S : Sto} {ds : List D} {Qd : QD}, Wd c μ S H → RpAll c μ H xs ds → g ds S (fun es S2 => S2 = S ∧ Qd (.lst false es) S2) → PostV c μ H Qd Q → rDsL c g xs H Q :=
  fun w r h q => ⟨_, _, _, _, w, r, h, fun es vs p hq ra hp => PostV.lst q w ra hq.2 hp⟩
end
end Pu
namespace Pu
open PySem PySem.Spec PyProof.Rows L2

/-! ## arithmetic -/
def gInt (f : Int → Int → D) (C : Int → Int → Prop) : G2 := fun x y S Q => match x, y with
  | .int i, .int j => C i j ∧ Q (f i j) S
  | _, _ => False
def gInt0 (f : Int → Int → D) : G2 := fun x y S Q => match x, y with
  | .int i, .int j => Q (f i j) S
  | _, _ => False
theorem gInt_inv {f : Int → Int → D} {C : Int → Int → Prop} {x y : D} {S : Sto} {Q : QD} (h : gInt f C x y S Q) : ∃ i j, x = .int i ∧ y = .int j ∧ C i j ∧ Q (f i j) S := by
  unfold gInt at h
  split at h
  · exact ⟨_, _, rfl, rfl, h⟩
  · exact h.elim
theorem gInt0_inv {f : Int → Int → D} {x y : D} {S : Sto} {Q : QD} (h : gInt0 f x y S Q) : ∃ i j, x = .int i ∧ y = .int j ∧ Q (f i j) S := by
  unfold gInt0 at h
  split at h
  · exact ⟨_, _, rfl, rfl, h⟩
  · exact h.elim
section
variable {c : Ct} {μ : Mu} {H : Hp} {v : V}
theorem Rp.int_inv {i : Int} (h : Rp c μ H v (.int i)) : v = .int i := by cases h; rfl
theorem Rp.str_inv {x : Str} (h : Rp c μ H v (.str x)) : v = .str x := by cases h; rfl
theorem Rp.tup_inv {ds : List D} (h : Rp c μ H v (.tup ds)) : ∃ a vs, v = .ref a ∧ H a = some (.tup vs) ∧ RpAll c μ H vs ds := by
  cases h with
  | tup h r => exact ⟨_, _, rfl, h, r⟩
end
section
variable {X : Cx}
theorem opInt {f : Value → Value → Sem Value} {C : Int → Int → Prop} {g : Int → Int → Int} (h : OpR X f (rI C fun i j => .int (g i j))) : OpR X f (rD2 (ct X) (gInt (fun i j => .int (g i j)) C)) := by
  intro pins s σ H x y v u Q I rx ry ⟨μ, S, dx, dy, Qd, w, r1, r2, hg, q⟩
  obtain ⟨i, j, rfl, rfl, hC, hq⟩ := gInt_inv hg
  exact h pins s σ H x y v u Q I rx ry ⟨i, j, r1.int_inv, r2.int_inv, hC, q.same w (.int _) hq⟩
theorem opInt0 {f : Value → Value → Sem Value} {g : Int → Int → Int} (h : OpR X f (rI0 fun i j => .int (g i j))) : OpR X f (rD2 (ct X) (gInt0 (fun i j => .int (g i j)))) := by
  intro pins s σ H x y v u Q I rx ry ⟨μ, S, dx, dy, Qd, w, r1, r2, hg, q⟩
  obtain ⟨i, j, rfl, rfl, hq⟩ := gInt0_inv hg
  exact h pins s σ H x y v u Q I rx ry ⟨i, j, r1.int_inv, r2.int_inv, q.same w (.int _) hq⟩
theorem opBl0 {f : Value → Value → Sem Value} {g : Int → Int → Bool} (h : OpR X f (rI0 fun i j => .bl (g i j))) : OpR X f (rD2 (ct X) (gInt0 (fun i j => .bl (g i j)))) := by
  intro pins s σ H x y v u Q I rx ry ⟨μ, S, dx, dy, Qd, w, r1, r2, hg, q⟩
  obtain ⟨i, j, rfl, rfl, hq⟩ := gInt0_inv hg
  exact h pins s σ H x y v u Q I rx ry ⟨i, j, r1.int_inv, r2.int_inv, q.same w (.bl _) hq⟩
end
abbrev gSub : G2 := gInt0 fun i j => .int (i - j)
abbrev gFdiv : G2 := gInt (fun i j => .int (i / j)) CDivW
abbrev gMod : G2 := gInt (fun i j => .int (i % j)) fun _ j => 0 < j
abbrev gPow : G2 := gInt (fun i j => .int (i ^ j.toNat)) CPow
abbrev gLt : G2 := gInt0 fun i j => .bl (decide (i < j))
abbrev gLe : G2 := gInt0 fun i j => .bl (decide (i ≤ j))
abbrev gGt : G2 := gInt0 fun i j => .bl (decide (j < i))
abbrev gGe : G2 := gInt0 fun i j => .bl (decide (j ≤ i))
section
variable {X : Cx}
theorem o_sub : OpR X (binaryOp .Sub) (rD2 (ct X) gSub) := opInt0 op_sub
theorem o_fdiv : OpR X (binaryOp .FloorDiv) (rD2 (ct X) gFdiv) := opInt op_fdivW
theorem o_mod : OpR X (binaryOp .Mod) (rD2 (ct X) gMod) := opInt op_mod
theorem o_pow : OpR X (binaryOp .Pow) (rD2 (ct X) gPow) := opInt op_pow
theorem o_lt : OpR X (compareOp .Lt) (rD2 (ct X) gLt) := opBl0 op_lt
theorem o_le : OpR X (compareOp .LtE) (rD2 (ct X) gLe) := opBl0 op_le
theorem o_gt : OpR X (compareOp .Gt) (rD2 (ct X) gGt) := opBl0 op_gt
theorem o_ge : OpR X (compareOp .GtE) (rD2 (ct X) gGe) := opBl0 op_ge
end
def gNeg : D → Sto → QD → Prop := fun x S Q => match x with
  | .int i => Q (.int (-i)) S
  | _ => False
def gAdd : G2 := fun x y S Q => match x, y with
  | .int i, .int j => Q (.int (i + j)) S
  | .tup xs, .tup ys => xs.length + ys.length ≤ sizeLine ∧ Q (.tup (xs ++ ys)) S
  | .str a, .str b => a.length + b.length ≤ sizeLine ∧ Q (.str (a ++ b)) S
  | x, y => onSome (lstOf S x) fun xs => onSome (lstOf S y) fun ys => xs.length + ys.length ≤ sizeLine ∧ Q (.lst false (xs ++ ys)) S
def gMul : G2 := fun x y S Q => match x, y with
  | .int i, .int j => (CMul i j ∨ CMulW i j) ∧ Q (.int (i * j)) S
  | .tup xs, .int k => (xs ≠ [] ∧ 1 ≤ k ∧ k ≤ 1000 ∧ xs.length ≤ 1000) ∧ Q (.tup (List.replicate k.toNat xs).flatten) S
  | x, .int k => onSome (lstOf S x) fun xs => (-(2 ^ 63) ≤ k ∧ k < 2 ^ 63 ∧ xs.length * k.toNat ≤ sizeLine) ∧ Q (.lst false (List.replicate k.toNat xs).flatten) S
  | _, _ => False
section
variable {X : Cx}
theorem u_neg : UnR X (unaryOp .USub) (rD1 (ct X) gNeg) := by
  intro pins s σ H x v Q I rx ⟨μ, S, dx, Qd, w, r1, hg, q⟩
  unfold gNeg at hg
  split at hg
  · exact un_neg pins s σ H x v Q I rx ⟨_, r1.int_inv, q.same w (.int _) hg⟩
  · exact hg.elim
theorem o_add : OpR X (binaryOp .Add) (rD2 (ct X) gAdd) := by
  intro pins s σ H x y v u Q I rx ry ⟨μ, S, dx, dy, Qd, w, r1, r2, hg, q⟩
  unfold gAdd at hg
  split at hg
  · exact op_add pins s σ H x y v u Q I rx ry ⟨_, _, r1.int_inv, r2.int_inv, q.same w (.int _) hg⟩
  · rename_i xs ys
    obtain ⟨a, vs, rfl, ha, ra⟩ := r1.tup_inv
    obtain ⟨b, ws, rfl, hb, rb⟩ := r2.tup_inv
    refine op_catA pins s σ H _ _ v u Q I rx ry ⟨a, b, vs, ws, rfl, rfl, SqT.of ha, SqT.of hb, by rw [ra.length, rb.length]; exact hg.1, fun e => ?_, fun _ e => ?_, fun _ _ p hp => ?_⟩
    · subst e
      cases ra
      exact q.same w (.tup hb rb) hg.2
    · subst e
      cases rb
      have h2 := hg.2
      rw [List.append_nil] at h2
      exact q.same w (.tup ha ra) h2
    · exact q.tup w (ra.append rb) hg.2 hp
  · exact op_add_str pins s σ H x y v u Q I rx ry ⟨_, _, r1.str_inv, r2.str_inv, hg.1, q.same w (.str _) hg.2⟩
  · obtain ⟨xs, e1, hg⟩ := onSome_of hg
    obtain ⟨ys, e2, hg⟩ := onSome_of hg
    obtain ⟨a, vs, rfl, ha, ra⟩ := r1.lstT w e1
    obtain ⟨b, ws, rfl, hb, rb⟩ := r2.lstT w e2
    exact op_cat pins s σ H _ _ v u Q I rx ry ⟨a, b, vs, ws, rfl, rfl, ha, hb, by rw [ra.length, rb.length]; exact hg.1, fun p hp => q.lst w (ra.append rb) hg.2 hp⟩
open Rb in
theorem op_rep1 : OpR X (binaryOp .Mult) (fun x y H Q => ∃ (l : Addr) (xs : List V), x = .ref l ∧ y = .int 1 ∧ SqT X.K H l xs ∧ Q (.ref l) H) := by
  intro pins s σ H x y v u Q I rx ry h
  obtain ⟨l, xs, rfl, rfl, hT, q⟩ := h
  cases rx
  obtain ⟨t, rfl⟩ := ry
  obtain ⟨its, r, ⟨⟨cls, dd, data, sl⟩, ho, hc, n, hd⟩, hs⟩ := I.tuple hT
  simp only at hc hd
  subst hc hd
  refine wpAny_binaryOp_repeat_ref (T := "tuple") (U := "int") (by decide) ⟨_, ho, rfl⟩ (fun s' => typeIs_int s' 1 t) noFill_tuple_mul F.fills_int_mul F.slot_int_rmul repeat_tuple F.slot_int_index.lookup
    (call_meets F.slot_int_rmul (typeIs_int s 1 t) F.entry_int_rmul (F.args_int_rmul_2 _ _) (int_rmul_tuple 1 t l its.toArray n dd sl)
      ⟨ho, rfl, ⟨_, ho, rfl⟩, call_meets F.slot_tuple_mul ⟨_, ho, rfl⟩ F.entry_tuple_mul (F.args_tuple_mul_2 _ _) (tupMul1 l its.toArray n dd sl t) ⟨ho, ?_⟩⟩)
  exact ⟨.ref l, H, I, rfl, q⟩
theorem o_mul : OpR X (binaryOp .Mult) (rD2 (ct X) gMul) := by
  intro pins s σ H x y v u Q I rx ry ⟨μ, S, dx, dy, Qd, w, r1, r2, hg, q⟩
  unfold gMul at hg
  split at hg
  · rcases hg.1 with hc | hc
    · exact op_mul pins s σ H x y v u Q I rx ry ⟨_, _, r1.int_inv, r2.int_inv, hc, q.same w (.int _) hg.2⟩
    · exact op_mulW pins s σ H x y v u Q I rx ry ⟨_, _, r1.int_inv, r2.int_inv, hc, q.same w (.int _) hg.2⟩
  · rename_i xs k
    obtain ⟨a, vs, rfl, ha, ra⟩ := r1.tup_inv
    obtain ⟨⟨ne, h1, h2, h3⟩, hq⟩ := hg
    have nv : vs ≠ [] := fun e => by
      subst e
      cases ra
      exact ne rfl
    by_cases hk : k = 1
    · subst hk
      refine op_rep1 pins s σ H _ _ v u Q I rx ry ⟨a, vs, rfl, r2.int_inv, SqT.of ha, ?_⟩
      have e : (List.replicate (1 : Int).toNat xs).flatten = xs := by show (List.replicate 1 xs).flatten = xs; simp
      rw [e] at hq
      exact q.same w (.tup ha ra) hq
    · refine op_repT pins s σ H _ _ v u Q I rx ry ⟨a, k, vs, rfl, r2.int_inv, SqT.of ha, nv, by omega, h2, by rw [ra.length]; exact h3, fun p hp => q.tup w (ra.rep _) hq hp⟩
  · rename_i k _ _
    obtain ⟨xs, e1, hg⟩ := onSome_of hg
    obtain ⟨a, vs, rfl, ha, ra⟩ := r1.lstT w e1
    exact op_rep pins s σ H _ _ v u Q I rx ry ⟨a, k, vs, rfl, r2.int_inv, ha, hg.1.1, hg.1.2.1, by rw [ra.length]; exact hg.1.2.2, fun p hp => q.lst w (ra.rep _) hg.2 hp⟩
  · exact hg.elim
end
end Pu
namespace Pu
open PySem PySem.Spec PyProof.Rows L2

/-! ## plain data -/
mutual
def toPy : D → Option PyData
  | .non => some .none
  | .bl b => some (.bool b)
  | .int i => some (.int i)
  | .str x => some (.str x)
  | .tup xs => (toPyAll xs).map .tuple
  | .lst _ xs => (toPyAll xs).map .list
  | .kls _ => none
  | .dic ps => some (Rb.dicD ps)
  | .cell _ => none
  | .glo _ => none
  | .ty _ => none
  | .ins _ _ => none
  | .exc _ _ => none
def toPyAll : List D → Option (List PyData)
  | [] => some []
  | x :: xs => (toPy x).bind fun p => (toPyAll xs).map (p :: ·)
end
mutual
/-- all lists in it are known to stand apart from the table of modules -/
def known : D → Bool
  | .tup xs => knownAll xs
  | .lst k xs => k && knownAll xs
  | .kls _ => false
  | _ => true
def knownAll : List D → Bool
  | [] => true
  | x :: xs => known x && knownAll xs
end
def pyC (S : Sto) : D → Option PyData
  | .cell n => (lstAt S[n]?).bind fun xs => (toPyAll xs).map .list
  | d => toPy d
section
variable {X : Cx} {pins : List (Addr × Obj)} {σ : L2.St} {H : Hp} {s : Shared} {μ : Mu}
mutual
theorem Rp.reads (I : Inv X pins σ H s) : ∀ (d : D) (v : V) (u : Value) (p : PyData), Rp (ct X) μ H v d → RelV v u → toPy d = some p → ∃ as, Reads s.heap u p as ∧ (known d = true → sysModules ∉ as)
  | .non, _, _, _, h, r, e => by
    cases h; cases r; cases e
    exact ⟨_, Reads.none, fun _ z => nomatch z⟩
  | .bl b, _, _, _, h, r, e => by
    cases h; cases r; cases e
    exact ⟨_, Reads.bool b, fun _ z => nomatch z⟩
  | .int i, _, _, _, h, r, e => by
    cases h; cases e
    obtain ⟨t, rfl⟩ := r
    exact ⟨_, Reads.int i t, fun _ z => nomatch z⟩
  | .str x, _, _, _, h, r, e => by
    cases h; cases e
    obtain ⟨t, rfl⟩ := r
    exact ⟨_, Reads.str x t, fun _ z => nomatch z⟩
  | .tup ds, _, _, _, h, r, e => by
    cases h with
    | tup hs ha =>
      cases r
      obtain ⟨ps, e1, rfl⟩ := Option.map_eq_some_iff.mp (show (toPyAll ds).map PyData.tuple = some _ from e)
      obtain ⟨its, rv, ⟨o, ho, hc, n, hd⟩, _⟩ := I.tuple (SqT.of hs)
      obtain ⟨as, hr, no⟩ := RpAll.reads I ds _ its ps ha rv e1
      exact ⟨_, Reads.tuple ho hc hd hr, fun hk => no hk⟩
  | .lst k ds, _, _, _, h, r, e => by
    cases h with
    | lst hs _ _ ne ha =>
      cases r
      obtain ⟨ps, e1, rfl⟩ := Option.map_eq_some_iff.mp (show (toPyAll ds).map PyData.list = some _ from e)
      obtain ⟨its, rv, ⟨o, n, ho, hc, _, hd⟩, _⟩ := I.list (SqL.of hs)
      obtain ⟨as, hr, no⟩ := RpAll.reads I ds _ its ps ha rv e1
      refine ⟨_, Reads.list ho hc hd hr, fun hk z => ?_⟩
      obtain ⟨h1, h2⟩ := Bool.and_eq_true_iff.mp (show (k && knownAll ds) = true from hk)
      rcases List.mem_cons.mp z with z | z
      · exact ne h1 z.symm
      · exact no h2 z
  | .kls _, _, _, _, _, _, e => by cases e
  | .dic qs, _, _, _, h, r, e => by
    cases h with
    | dic hd _ _ =>
      cases e
      obtain ⟨as, h1, h2⟩ := Rb.Ap.reads (S := [sysModules]) List.mem_cons_self I (Rb.dicD qs) _ _ (.dic hd) r
      exact ⟨as, h1, fun _ => h2⟩
  | .cell _, _, _, _, _, _, e => by cases e
  | .glo _, _, _, _, _, _, e => by cases e
  | .ty _, _, _, _, _, _, e => by cases e
  | .ins _ _, _, _, _, _, _, e => by cases e
  | .exc _ _, _, _, _, _, _, e => by cases e
theorem RpAll.reads (I : Inv X pins σ H s) : ∀ (ds : List D) (vs : List V) (us : List Value) (ps : List PyData), RpAll (ct X) μ H vs ds → Vals vs us → toPyAll ds = some ps → ∃ as, ReadsAll s.heap us ps as ∧ (knownAll ds = true → sysModules ∉ as)
  | [], _, _, _, h, r, e => by
    cases h; cases r; cases e
    exact ⟨_, ReadsAll.nil, fun _ z => nomatch z⟩
  | d :: ds, _, _, _, h, r, e => by
    cases h with
    | cons h1 h2 =>
      cases r with
      | cons r1 r2 =>
        obtain ⟨p, e1, e2⟩ := Option.bind_eq_some_iff.mp (show (toPy d).bind (fun p => (toPyAll ds).map (p :: ·)) = some _ from e)
        obtain ⟨ps, e3, rfl⟩ := Option.map_eq_some_iff.mp e2
        obtain ⟨as, q1, n1⟩ := Rp.reads I d _ _ p h1 r1 e1
        obtain ⟨bs, q2, n2⟩ := RpAll.reads I ds _ _ ps h2 r2 e3
        refine ⟨_, ReadsAll.cons q1 q2, fun hk z => ?_⟩
        obtain ⟨k1, k2⟩ := Bool.and_eq_true_iff.mp (show (known d && knownAll ds) = true from hk)
        rcases List.mem_append.mp z with z | z
        · exact n1 k1 z
        · exact n2 k2 z
end
theorem Wd.reads {S : Sto} (w : Wd (ct X) μ S H) (I : Inv X pins σ H s) {d : D} {v : V} {u : Value} {p : PyData} (h : Rp (ct X) μ H v d) (r : RelV v u) (e : pyC S d = some p) : ∃ as, Reads s.heap u p as := by
  by_cases hc : ∃ n, d = .cell n
  · obtain ⟨n, rfl⟩ := hc
    obtain ⟨xs, e1, e2⟩ := Option.bind_eq_some_iff.mp (show (lstAt S[n]?).bind (fun xs => (toPyAll xs).map .list) = some p from e)
    obtain ⟨ps, e3, rfl⟩ := Option.map_eq_some_iff.mp e2
    obtain ⟨a, vs, rfl, ha, ra⟩ := h.lstT w (show lstOf S (.cell n) = some xs from e1)
    cases r
    obtain ⟨its, rv, ⟨o, k, ho, hc, _, hd⟩, _⟩ := I.list (SqL.of ha)
    obtain ⟨as, hr, no⟩ := RpAll.reads I xs _ its ps ra rv e3
    exact ⟨_, Reads.list ho hc hd hr⟩
  · have e' : toPy d = some p := by
      cases d with
      | cell n => exact absurd ⟨n, rfl⟩ hc
      | _ => exact e
    obtain ⟨as, h1, _⟩ := Rp.reads I d v u p h r e'
    exact ⟨as, h1⟩
end
/-! ## repr -/
def gRepr : List D → Sto → QD → Prop := fun ds S Q => match ds with
  | [d] => onSome (toPy d) fun p => (Rb.Nice 20 100000 p ∧ (p.hasDict = false ∨ known d = true)) ∧ Q (.str p.shown) S
  | _ => False
theorem Rp.glo_py {c : Ct} {μ : Mu} {H : Hp} {v : V} {d : D} {p : PyData} (h : Rp c μ H v d) (e : toPy d = some p) : (∃ a, v = .ref a) ∨ (v = .non ∧ p = .none) ∨ (∃ b, v = .bl b ∧ p = .bool b) ∨ (∃ i, v = .int i ∧ p = .int i) ∨ ∃ x, v = .str x ∧ p = .str x := by
  cases h with
  | non => cases e; exact .inr (.inl ⟨rfl, rfl⟩)
  | bl b => cases e; exact .inr (.inr (.inl ⟨b, rfl, rfl⟩))
  | int i => cases e; exact .inr (.inr (.inr (.inl ⟨i, rfl, rfl⟩)))
  | str x => cases e; exact .inr (.inr (.inr (.inr ⟨x, rfl, rfl⟩)))
  | glo _ _ => cases e
  | ty _ => cases e
  | _ => exact .inl ⟨_, rfl⟩
theorem c_repr {X : Cx} (hg : X.A.guards = some []) (hu : X.A.units + 64 < cLine) : CallR X (.builtin "repr") (rDs (ct X) gRepr) := by
  intro pins s σ H vs us Q I r ⟨μ, S, ds, Qd, w, ra, hr, q⟩
  unfold gRepr at hr
  split at hr
  · rename_i d
    obtain ⟨p, e, ⟨hn, hk⟩, hq⟩ := onSome_of hr
    cases ra with
    | cons rd r0 =>
      cases r0
      obtain ⟨u, rfl, ru⟩ := vals1 r
      have fin := q.same w (.str p.shown) hq
      obtain ⟨as, rr, no⟩ := Rp.reads I d _ u p rd ru e
      have hsz := hn.fits
      have hdep := hn.dep
      have hs := hn.sh
      rcases rd.glo_py e with ⟨a, rfl⟩ | ⟨rfl, rfl⟩ | ⟨b, rfl, rfl⟩ | ⟨i, rfl, rfl⟩ | ⟨x, rfl, rfl⟩
      · cases ru
        refine repr_of_reads' rr hs (fun z => ?_) hg (by omega) (fun _ _ e => e) (fun h' t tk hk => ?_) hsz
        · rcases hk with hk | hk
          · rw [hk] at z; cases z
          · exact no hk
        · exact ⟨.str _, H, I.kept hk, ⟨_, rfl⟩, fin⟩
      · cases ru
        simp only [PyData.shown] at fin
        exact PySem.P.repr_of_none ⟨.str _, H, I.tok _, ⟨_, rfl⟩, fin⟩
      · cases ru
        simp only [PyData.shown] at fin
        exact PySem.P.repr_of_bool ⟨.str _, H, I.tok _, ⟨_, rfl⟩, fin⟩
      · obtain ⟨t, rfl⟩ := ru
        simp only [PyData.showable, decide_eq_true_eq] at hs
        simp only [PyData.shown] at fin
        exact PySem.P.repr_of_int hs ⟨.str _, H, I.tok _, ⟨_, rfl⟩, fin⟩
      · obtain ⟨t, rfl⟩ := ru
        simp only [PyData.shown] at fin hsz
        exact PySem.P.repr_of_str ⟨.str _, H, I.tok _, ⟨_, rfl⟩, fin⟩ hsz
  · exact hr.elim
/-! ## == and != -/
def nb : Bool → Bool → Bool
  | true, b => !b
  | false, b => b
def gEqB (neg : Bool) : G2 := fun x y S Q => match x, y with
  | .int i, .int j => Q (.bl (nb neg (decide (i = j)))) S
  | .str a, .str b => Q (.bl (nb neg (decide (a = b)))) S
  | x, y => onSome (pyC S x) fun p => onSome (pyC S y) fun q => (SeqAt.shaped p = true ∧ SeqAt.shaped q = true) ∧ Q (.bl (nb neg (PyData.eqv p q))) S
abbrev gEq : G2 := gEqB false
abbrev gNe : G2 := gEqB true
section
variable {X : Cx}
theorem dec_i {i j : Int} : decide (V.int i = V.int j) = decide (i = j) := by
  by_cases h : i = j
  · subst h; simp
  · rw [decide_eq_false h, decide_eq_false (fun z => h (V.int.inj z))]
theorem dec_s {i j : Str} : decide (V.str i = V.str j) = decide (i = j) := by
  by_cases h : i = j
  · subst h; simp
  · rw [decide_eq_false h, decide_eq_false (fun z => h (V.str.inj z))]
theorem o_eq (hu : X.A.units + 64 < cLine) : OpR X (compareOp .Eq) (rD2 (ct X) gEq) := by
  intro pins s σ H x y v u Q I rx ry ⟨μ, S, dx, dy, Qd, w, r1, r2, hg, q⟩
  unfold gEq gEqB at hg
  split at hg
  · cases r1.int_inv
    cases r2.int_inv
    refine op_eq pins s σ H _ _ v u Q I rx ry ⟨rfl, ?_⟩
    rw [dec_i]
    exact q.same w (.bl _) hg
  · cases r1.str_inv
    cases r2.str_inv
    refine op_eq pins s σ H _ _ v u Q I rx ry ⟨rfl, ?_⟩
    rw [dec_s]
    exact q.same w (.bl _) hg
  · obtain ⟨p, e1, hg⟩ := onSome_of hg
    obtain ⟨p', e2, ⟨s1, s2⟩, hg⟩ := onSome_of hg
    obtain ⟨as, h1⟩ := w.reads I r1 rx e1
    obtain ⟨bs, h2⟩ := w.reads I r2 ry e2
    exact SeqAt.compareEq_shaped h1 h2 s1 s2 hu ⟨.bl _, H, I, rfl, q.same w (.bl _) hg⟩
theorem o_ne (hu : X.A.units + 64 < cLine) : OpR X (compareOp .NotEq) (rD2 (ct X) gNe) := by
  intro pins s σ H x y v u Q I rx ry ⟨μ, S, dx, dy, Qd, w, r1, r2, hg, q⟩
  unfold gNe gEqB at hg
  split at hg
  · cases r1.int_inv
    cases r2.int_inv
    refine op_ne pins s σ H _ _ v u Q I rx ry ⟨rfl, ?_⟩
    rw [dec_i]
    exact q.same w (.bl _) hg
  · cases r1.str_inv
    cases r2.str_inv
    refine op_ne pins s σ H _ _ v u Q I rx ry ⟨rfl, ?_⟩
    rw [dec_s]
    exact q.same w (.bl _) hg
  · obtain ⟨p, e1, hg⟩ := onSome_of hg
    obtain ⟨p', e2, ⟨s1, s2⟩, hg⟩ := onSome_of hg
    obtain ⟨as, h1⟩ := w.reads I r1 rx e1
    obtain ⟨bs, h2⟩ := w.reads I r2 ry e2
    exact SeqAt.compareNe_shaped h1 h2 s1 s2 hu ⟨.bl _, H, I, rfl, q.same w (.bl _) hg⟩
end
/-! ## is None -/
def isNon : D → Bool
  | .non => true
  | _ => false
theorem Rp.non_iff {c : Ct} {μ : Mu} {H : Hp} {v : V} {d : D} (h : Rp c μ H v d) (hg : ∀ x, d ≠ .glo x) : decide (v = .non) = isNon d := by
  cases h with
  | non => rfl
  | glo _ _ => exact absurd rfl (hg _)
  | _ => rfl
def noGlo : D → Bool
  | .glo _ => false
  | _ => true
def gIs (neg : Bool) : G2 := fun x y S Q => match y with
  | .non => noGlo x = true ∧ Q (.bl (nb neg (isNon x))) S
  | _ => False
section
variable {X : Cx}
theorem o_is : OpR X (compareOp .Is) (rD2 (ct X) (gIs false)) := by
  intro pins s σ H x y v u Q I rx ry ⟨μ, S, dx, dy, Qd, w, r1, r2, hg, q⟩
  unfold gIs at hg
  split at hg
  · cases r2
    refine op_isN pins s σ H _ _ v u Q I rx ry ⟨rfl, ?_⟩
    rw [r1.non_iff (fun z e => by rw [e] at hg; cases hg.1)]
    exact q.same w (.bl _) hg.2
  · exact hg.elim
theorem o_isnot : OpR X (compareOp .IsNot) (rD2 (ct X) (gIs true)) := by
  intro pins s σ H x y v u Q I rx ry ⟨μ, S, dx, dy, Qd, w, r1, r2, hg, q⟩
  unfold gIs at hg
  split at hg
  · cases r2
    refine op_notN pins s σ H _ _ v u Q I rx ry ⟨rfl, ?_⟩
    rw [r1.non_iff (fun z e => by rw [e] at hg; cases hg.1)]
    exact q.same w (.bl _) hg.2
  · exact hg.elim
end
/-! ## isinstance of a built-in type -/
inductive Ty6 where
  | int | bool | tup | lst | str | dic
def Ty6.name : Ty6 → String
  | .int => "int"
  | .bool => "bool"
  | .tup => "tuple"
  | .lst => "list"
  | .str => "str"
  | .dic => "dict"
def isL : Ty6 → Bool
  | .lst => true
  | _ => false
def isA (t : Ty6) (S : Sto) : D → Option Bool
  | .non => some false
  | .bl _ => some (match t with | .int => true | .bool => true | _ => false)
  | .int _ => some (match t with | .int => true | _ => false)
  | .str _ => some (match t with | .str => true | _ => false)
  | .tup _ => some (match t with | .tup => true | _ => false)
  | .lst _ _ => some (match t with | .lst => true | _ => false)
  | .kls _ => none
  | .dic _ => some (match t with | .dic => true | _ => false)
  | .cell n => (lstAt S[n]?).map fun _ => isL t
  | .glo _ => none
  | .ty _ => none
  | .ins _ _ => none
  | .exc _ _ => none
def gIsi (t : Ty6) : D → Sto → QD → Prop := fun d S Q => onSome (isA t S d) fun b => Q (.bl b) S
def tyOf : D → String
  | .non => "NoneType"
  | .bl _ => "bool"
  | .int _ => "int"
  | .str _ => "str"
  | .tup _ => "tuple"
  | .dic _ => "dict"
  | _ => "list"
theorem isA_ty {c : Ct} {μ : Mu} {S : Sto} {H : Hp} {v : V} {d : D} {t : Ty6} {b : Bool} (w : Wd c μ S H) (h : Rp c μ H v d) (e : isA t S d = some b) : TyX c.K H v (.type (tyOf d)) ∧ PySem.W.kitOne c.K (.type (tyOf d)) (.type t.name) = some b := by
  cases h with
  | non => cases e; exact ⟨.base .non, by cases t <;> exact kit_ty (by dsimp only [tyOf]; decide +kernel)⟩
  | bl k => cases e; exact ⟨.base (.bl k), by cases t <;> exact kit_ty (by dsimp only [tyOf]; decide +kernel)⟩
  | int k => cases e; exact ⟨.base (.int k), by cases t <;> exact kit_ty (by dsimp only [tyOf]; decide +kernel)⟩
  | str k => cases e; exact ⟨.base (.str k), by cases t <;> exact kit_ty (by dsimp only [tyOf]; decide +kernel)⟩
  | tup hs _ => cases e; exact ⟨.base (.tup hs), by cases t <;> exact kit_ty (by dsimp only [tyOf]; decide +kernel)⟩
  | lst hs _ _ _ _ => cases e; exact ⟨.base (.lst hs), by cases t <;> exact kit_ty (by dsimp only [tyOf]; decide +kernel)⟩
  | dic hd _ _ => cases e; exact ⟨.base (.dK hd), by cases t <;> exact kit_ty (by dsimp only [tyOf]; decide +kernel)⟩
  | @cell n a hm =>
    obtain ⟨xs, e1, e2⟩ := Option.map_eq_some_iff.mp (show (lstAt S[n]?).map (fun _ => isL t) = some b from e)
    subst e2
    obtain ⟨vs, h1, _⟩ := w.ok n _ _ hm (lstAt_inv e1)
    exact ⟨.base (.lst h1), by cases t <;> exact kit_ty (by dsimp only [tyOf]; decide +kernel)⟩
  | _ => cases e
section
variable {X : Cx} {E : L2.St → XK} {a b : Expr} {fa : FE} {pos p2 : Pos}
theorem d_isi {t : Ty6} (hg : Gl X "isinstance") (hm : X.mg "isinstance" = none) (ha : PEd X E a fa) (hb : PE X b (tC (.ty t.name)))
    (hs1 : starEach [a, b] X.env = (false, eval a X.env) :: starEach [b] X.env := by rfl) (hs2 : starEach [b] X.env = (false, eval b X.env) :: starEach [] X.env := by rfl) (hf2 : (backTo pos (starEach [b] X.env)).any (·.1) = false := by rfl) :
    PEd X E (.Call (.Name "isinstance" p2) [a, b] [] pos) (dUn (gIsi t) fa) := by
  refine PE.imp (pe_callB call_isi hg hm (show bootBuiltins "isinstance" = some (.builtin "isinstance") by decide +kernel) (pa_cons ha (pa_cons hb pa_nil hs2) hs1) (by decide) (by decide) hs1 hf2) fun σ H Q ⟨μ, S, ρ, Qd, Ed, w, en, hf, q, px⟩ => ?_
  refine tR_of w en hf px fun x S1 v H1 μ1 h1 f1 w1 en1 px1 r1 => ?_
  obtain ⟨k, e, hq⟩ := onSome_of h1
  obtain ⟨t1, t2⟩ := isA_ty w1 r1 e
  exact ⟨v, _, _, _, k, rfl, .ty _, t1, t2, q _ S1 _ H1 μ1 hq f1 w1 (.bl k)⟩
end
end Pu
namespace Pu
open PySem PySem.Spec PyProof.Rows L2

section
variable {c : Ct} {μ : Mu} {S : Sto} {H : Hp}
theorem RpAll.one {vs : List V} {d : D} (h : RpAll c μ H vs [d]) : ∃ v, vs = [v] ∧ Rp c μ H v d := by
  cases h with
  | cons h1 h2 => cases h2; exact ⟨_, rfl, h1⟩
theorem RpAll.two {vs : List V} {d e : D} (h : RpAll c μ H vs [d, e]) : ∃ v u, vs = [v, u] ∧ Rp c μ H v d ∧ Rp c μ H u e := by
  cases h with
  | cons h1 h2 =>
    obtain ⟨u, rfl, h3⟩ := h2.one
    exact ⟨_, _, rfl, h1, h3⟩
theorem Rp.seq2 {v : V} {d : D} {xs : List D} (w : Wd c μ S H) (r : Rp c μ H v d) (e : seqOf S d = some xs) : (∃ a vs, d = .tup xs ∧ v = .ref a ∧ H a = some (.tup vs) ∧ RpAll c μ H vs xs) ∨ ∃ a vs, v = .ref a ∧ SqL c.K H a vs ∧ RpAll c μ H vs xs := by
  cases r with
  | tup h ra => cases e; exact .inl ⟨_, _, rfl, rfl, h, ra⟩
  | lst h _ _ _ ra => cases e; exact .inr ⟨_, _, rfl, SqL.of h, ra⟩
  | kls h _ _ ra => cases e; exact .inr ⟨_, _, rfl, .inl h, ra⟩
  | klsK o its n h1 h2 h3 h4 h5 h6 ra => cases e; exact .inr ⟨_, _, rfl, .inr ⟨o, its, n, h1, h2, h3, h4, h5, h6⟩, ra⟩
  | @cell n a hm =>
    obtain ⟨vs, h1, h2⟩ := w.ok n _ _ hm (lstAt_inv e)
    exact .inr ⟨_, vs, rfl, SqL.of h1, h2⟩
  | _ => cases e
end
/-! ## len, abs, int, sum, min, max, tuple, list, str, sorted -/
def gLen : List D → Sto → QD → Prop := fun ds S Q => match ds with
  | [.str x] => x.length ≤ sizeLine ∧ Q (.int x.length) S
  | [.dic ps] => Q (.int ps.length) S
  | [d] => onSome (seqOf S d) fun xs => Q (.int xs.length) S
  | _ => False
def gAbs : List D → Sto → QD → Prop := fun ds S Q => match ds with
  | [.int i] => Q (.int (if i < 0 then -i else i)) S
  | _ => False
def gToInt : List D → Sto → QD → Prop := fun ds S Q => match ds with
  | [.int i] => Q (.int i) S
  | [.bl b] => Q (.int (if b then 1 else 0)) S
  | _ => False
def gStr : List D → Sto → QD → Prop := fun ds S Q => match ds with
  | [.int i] => i.natAbs < 2 ^ 1000 ∧ Q (.str (toString i)) S
  | _ => False
def gSum : List D → Sto → QD → Prop := fun ds S Q => match ds with
  | [d] => onSome (seqOf S d) fun xs => onSome (intsOf xs) fun ns => Q (.int ns.sum) S
  | _ => False
/-- the first greatest, the first least -/
def maxL : List Int → Int
  | [] => 0
  | [x] => x
  | x :: xs => max x (maxL xs)
def minL : List Int → Int
  | [] => 0
  | [x] => x
  | x :: xs => min x (minL xs)
theorem maxL_spec : ∀ {ns : List Int}, ns ≠ [] → maxL ns ∈ ns ∧ ∀ y ∈ ns, y ≤ maxL ns
  | [], h => absurd rfl h
  | [x], _ => ⟨List.mem_cons_self, fun y hy => by rw [List.mem_singleton.mp hy]; exact Int.le_refl _⟩
  | x :: y :: r, _ => by
    obtain ⟨h1, h2⟩ := maxL_spec (ns := y :: r) (fun z => nomatch z)
    have e : maxL (x :: y :: r) = max x (maxL (y :: r)) := rfl
    rw [e]
    refine ⟨?_, fun z hz => ?_⟩
    · rcases Int.le_total x (maxL (y :: r)) with h | h
      · rw [Int.max_eq_right h]; exact List.mem_cons_of_mem _ h1
      · rw [Int.max_eq_left h]; exact List.mem_cons_self
    · rcases List.mem_cons.mp hz with rfl | hz
      · exact Int.le_max_left _ _
      · exact Int.le_trans (h2 z hz) (Int.le_max_right _ _)
theorem minL_spec : ∀ {ns : List Int}, ns ≠ [] → minL ns ∈ ns ∧ ∀ y ∈ ns, minL ns ≤ y
  | [], h => absurd rfl h
  | [x], _ => ⟨List.mem_cons_self, fun y hy => by rw [List.mem_singleton.mp hy]; exact Int.le_refl _⟩
  | x :: y :: r, _ => by
    obtain ⟨h1, h2⟩ := minL_spec (ns := y :: r) (fun z => nomatch z)
    have e : minL (x :: y :: r) = min x (minL (y :: r)) := rfl
    rw [e]
    refine ⟨?_, fun z hz => ?_⟩
    · rcases Int.le_total x (minL (y :: r)) with h | h
      · rw [Int.min_eq_left h]; exact List.mem_cons_self
      · rw [Int.min_eq_right h]; exact List.mem_cons_of_mem _ h1
    · rcases List.mem_cons.mp hz with rfl | hz
      · exact Int.min_le_left _ _
      · exact Int.le_trans (Int.min_le_right _ _) (h2 z hz)
theorem maxL_uniq {ns : List Int} {m : Int} (h : m ∈ ns) (h2 : ∀ y ∈ ns, y ≤ m) : m = maxL ns := by
  obtain ⟨a, b⟩ := maxL_spec (ns := ns) (fun e => by rw [e] at h; cases h)
  have := h2 _ a
  have := b _ h
  omega
theorem minL_uniq {ns : List Int} {m : Int} (h : m ∈ ns) (h2 : ∀ y ∈ ns, m ≤ y) : m = minL ns := by
  obtain ⟨a, b⟩ := minL_spec (ns := ns) (fun e => by rw [e] at h; cases h)
  have := h2 _ a
  have := b _ h
  omega
def gMax : List D → Sto → QD → Prop := fun ds S Q => match ds with
  | [.int i, .int j] => Q (.int (if j > i then j else i)) S
  | [d] => onSome (seqOf S d) fun xs => onSome (intsOf xs) fun ns => ns ≠ [] ∧ Q (.int (maxL ns)) S
  | _ => False
def gMin : List D → Sto → QD → Prop := fun ds S Q => match ds with
  | [.int i, .int j] => Q (.int (if j < i then j else i)) S
  | [d] => onSome (seqOf S d) fun xs => onSome (intsOf xs) fun ns => ns ≠ [] ∧ Q (.int (minL ns)) S
  | _ => False
def gTuple : List D → Sto → QD → Prop := fun ds S Q => match ds with
  | [d] => onSome (seqOf S d) fun xs => Q (.tup xs) S
  | _ => False
def gListN : List D → Sto → QD → Prop := fun ds S Q => match ds with
  | [d] => onSome (seqOf S d) fun xs => Q (.lst true xs) S
  | _ => False
def gListC : List D → Sto → QD → Prop := fun ds S Q => match ds with
  | [d] => onSome (seqOf S d) fun xs => Q (.cell S.length) (S ++ [.lst xs])
  | _ => False
section
variable {X : Cx}
theorem c_len : CallR X (.builtin "len") (rDs (ct X) gLen) := by
  intro pins s σ H vs us Q I r ⟨μ, S, ds, Qd, w, ra, hg, q⟩
  unfold gLen at hg
  split at hg
  · obtain ⟨v, rfl, rv⟩ := ra.one
    cases rv.str_inv
    exact call_len pins s σ H _ us Q I r ⟨_, _, rfl, ⟨hg.1, rfl⟩, q.same w (.int _) hg.2⟩
  · obtain ⟨v, rfl, rv⟩ := ra.one
    cases rv with
    | dic hd _ _ =>
      refine call_lenD pins s σ H _ us Q I r ⟨_, _, rfl, hd, ?_⟩
      rw [show (Rb.dicV _).length = _ from List.length_map ..]
      exact q.same w (.int _) hg
  · obtain ⟨v, rfl, rv⟩ := ra.one
    obtain ⟨xs, e, hg⟩ := onSome_of hg
    obtain ⟨a, ws, rfl, hs, rs⟩ := rv.seq w e
    refine call_len_seq pins s σ H _ us Q I r ⟨a, ws, rfl, hs, ?_⟩
    rw [rs.length]
    exact q.same w (.int _) hg
  · exact hg.elim
theorem c_abs : CallR X (.builtin "abs") (rDs (ct X) gAbs) := by
  intro pins s σ H vs us Q I r ⟨μ, S, ds, Qd, w, ra, hg, q⟩
  unfold gAbs at hg
  split at hg
  · obtain ⟨v, rfl, rv⟩ := ra.one
    cases rv.int_inv
    exact call_abs pins s σ H _ us Q I r ⟨_, rfl, q.same w (.int _) hg⟩
  · exact hg.elim
theorem c_int : CallR X (.type "int") (rDs (ct X) gToInt) := by
  intro pins s σ H vs us Q I r ⟨μ, S, ds, Qd, w, ra, hg, q⟩
  unfold gToInt at hg
  split at hg
  · obtain ⟨v, rfl, rv⟩ := ra.one
    cases rv.int_inv
    exact call_int1 pins s σ H _ us Q I r (.inl ⟨_, rfl, q.same w (.int _) hg⟩)
  · obtain ⟨v, rfl, rv⟩ := ra.one
    cases rv.bl_inv
    exact call_int1 pins s σ H _ us Q I r (.inr ⟨_, rfl, q.same w (.int _) hg⟩)
  · exact hg.elim
theorem c_str : CallR X (.type "str") (rDs (ct X) gStr) := by
  intro pins s σ H vs us Q I r ⟨μ, S, ds, Qd, w, ra, hg, q⟩
  unfold gStr at hg
  split at hg
  · rename_i i
    obtain ⟨v, rfl, rv⟩ := ra.one
    cases rv.int_inv
    refine call_str_int pins s σ H _ us Q I r ⟨_, rfl, ?_, q.same w (.str _) hg.2⟩
    by_cases z : i.natAbs = 0
    · rw [z]; decide
    · exact (Nat.log2_lt z).mpr (Nat.lt_of_lt_of_le hg.1 (Nat.pow_le_pow_right (by decide) (by decide)))
  · exact hg.elim
theorem c_sum (hc : X.calm = true) : CallR X (.builtin "sum") (rDs (ct X) gSum) := by
  intro pins s σ H vs us Q I r ⟨μ, S, ds, Qd, w, ra, hg, q⟩
  unfold gSum at hg
  split at hg
  · obtain ⟨v, rfl, rv⟩ := ra.one
    obtain ⟨xs, e, hg⟩ := onSome_of hg
    obtain ⟨ns, e2, hg⟩ := onSome_of hg
    obtain ⟨a, ws, rfl, hs, rs⟩ := rv.seq w e
    rw [intsOf_inv e2] at rs
    rw [rs.ints] at hs
    have fin := q.same w (.int _) hg
    rcases hs with hs | hs
    · exact cr_sum hc pins s σ H _ us Q I r ⟨a, ns, rfl, hs, fin⟩
    · exact Rb.cr_sumT hc pins s σ H _ us Q I r ⟨a, ns, rfl, hs, fin⟩
  · exact hg.elim
theorem c_max (hc : X.calm = true) (hu : X.A.units + 64 < cLine) : CallR X (.builtin "max") (rDs (ct X) gMax) := by
  intro pins s σ H vs us Q I r ⟨μ, S, ds, Qd, w, ra, hg, q⟩
  unfold gMax at hg
  split at hg
  · obtain ⟨v, u, rfl, rv, ru⟩ := ra.two
    cases rv.int_inv
    cases ru.int_inv
    exact call_max2 hc pins s σ H _ us Q I r ⟨_, _, rfl, q.same w (.int _) hg⟩
  · obtain ⟨v, rfl, rv⟩ := ra.one
    obtain ⟨xs, e, hg⟩ := onSome_of hg
    obtain ⟨ns, e2, ne, hg⟩ := onSome_of hg
    obtain ⟨a, ws, rfl, hs, rs⟩ := rv.seq w e
    rw [intsOf_inv e2] at rs
    rw [rs.ints] at hs
    have fin : ∀ m, m ∈ ns → (∀ y ∈ ns, y ≤ m) → Q (.int m) H := fun m h1 h2 => by
      rw [maxL_uniq h1 h2]
      exact q.same w (.int _) hg
    rcases hs with hs | hs
    · exact cr_max hc pins s σ H _ us Q I r ⟨a, ns, rfl, hs, List.length_pos_iff.mpr ne, fun m h1 h2 => fin m h1 h2⟩
    · exact Rb.cr_maxT hc hu pins s σ H _ us Q I r ⟨a, ns, rfl, hs, ne, fin⟩
  · exact hg.elim
def gMinL : List D → Sto → QD → Prop := fun ds S Q => match ds with
  | [.int i, .int j] => Q (.int (if j < i then j else i)) S
  | [d] => onSome (lstOf S d) fun xs => onSome (intsOf xs) fun ns => ns ≠ [] ∧ Q (.int (minL ns)) S
  | _ => False
theorem c_minL (hc : X.calm = true) : CallR X (.builtin "min") (rDs (ct X) gMinL) := by
  intro pins s σ H vs us Q I r ⟨μ, S, ds, Qd, w, ra, hg, q⟩
  unfold gMinL at hg
  split at hg
  · obtain ⟨v, u, rfl, rv, ru⟩ := ra.two
    cases rv.int_inv
    cases ru.int_inv
    exact call_min2 hc pins s σ H _ us Q I r ⟨_, _, rfl, q.same w (.int _) hg⟩
  · obtain ⟨v, rfl, rv⟩ := ra.one
    obtain ⟨xs, e, hg⟩ := onSome_of hg
    obtain ⟨ns, e2, ne, hg⟩ := onSome_of hg
    obtain ⟨a, ws, rfl, hs, rs⟩ := rv.lstT w e
    rw [intsOf_inv e2] at rs
    rw [rs.ints] at hs
    exact cr_min hc pins s σ H _ us Q I r ⟨a, ns, rfl, SqL.of hs, List.length_pos_iff.mpr ne, fun m h1 h2 => by
      rw [minL_uniq h1 h2]
      exact q.same w (.int _) hg⟩
  · exact hg.elim
theorem c_tuple : CallR X (.type "tuple") (rDs (ct X) gTuple) := by
  intro pins s σ H vs us Q I r ⟨μ, S, ds, Qd, w, ra, hg, q⟩
  unfold gTuple at hg
  split at hg
  · rename_i d
    obtain ⟨v, rfl, rv⟩ := ra.one
    obtain ⟨xs, e, hg⟩ := onSome_of hg
    rcases rv.seq2 w e with ⟨a, ws, rfl, rfl, ha, rs⟩ | ⟨a, ws, rfl, hs, rs⟩
    · exact call_tuple_of pins s σ H _ us Q I r ⟨a, ws, rfl, .inr ⟨SqT.of ha, q.same w (.tup ha rs) hg⟩⟩
    · exact call_tuple_of pins s σ H _ us Q I r ⟨a, ws, rfl, .inl ⟨hs, fun p hp => q.tup w rs hg hp⟩⟩
  · exact hg.elim
theorem c_listN : CallR X (.type "list") (rDs (ct X) gListN) := by
  intro pins s σ H vs us Q I r ⟨μ, S, ds, Qd, w, ra, hg, q⟩
  unfold gListN at hg
  split at hg
  · obtain ⟨v, rfl, rv⟩ := ra.one
    obtain ⟨xs, e, hg⟩ := onSome_of hg
    obtain ⟨a, ws, rfl, hs, rs⟩ := rv.seq w e
    exact Rb.call_listN pins s σ H _ us Q I r ⟨a, ws, rfl, hs, fun p hp hm => q.lstN w rs hg hp hm⟩
  · exact hg.elim
theorem PostV.lay {c : Ct} {μ : Mu} {S : Sto} {H : Hp} {Qd : QD} {Q : VK} (q : PostV c μ H Qd Q) (w : Wd c μ S H) {vs : List V} {ds : List D} (r : RpAll c μ H vs ds) (h : Qd (.cell S.length) (S ++ [.lst ds])) {p : Addr} (hp : H p = none) : Q (.ref p) (upd H p (.lst vs)) := by
  obtain ⟨f2, w2, r2⟩ := w.lay r hp
  exact q _ _ _ _ _ h f2 w2 r2
theorem c_listC : CallR X (.type "list") (rDs (ct X) gListC) := by
  intro pins s σ H vs us Q I r ⟨μ, S, ds, Qd, w, ra, hg, q⟩
  unfold gListC at hg
  split at hg
  · obtain ⟨v, rfl, rv⟩ := ra.one
    obtain ⟨xs, e, hg⟩ := onSome_of hg
    obtain ⟨a, ws, rfl, hs, rs⟩ := rv.seq w e
    exact Rb.call_listN pins s σ H _ us Q I r ⟨a, ws, rfl, hs, fun p hp hm => q.lay w rs hg hp⟩
  · exact hg.elim
end
/-! ## sorted: ints, pairs of ints -/
def gSorted : List D → Sto → QD → Prop := fun ds S Q => match ds with
  | [d] => onSome (lstOf S d) fun xs => (∃ ns, xs = ns.map D.int ∧ Q (.lst false ((Rb.srt ns).map D.int)) S) ∨ ∃ ps : List (Int × Int), xs = ps.map (fun p => D.tup [.int p.1, .int p.2]) ∧ Q (.lst false ((Rb.srtP ps).map fun p => D.tup [.int p.1, .int p.2])) S
  | _ => False
section
variable {X : Cx} {c : Ct} {μ : Mu} {H : Hp}
theorem RpAll.prs : ∀ {vs : List V} {ps : List (Int × Int)}, RpAll c μ H vs (ps.map fun p => D.tup [.int p.1, .int p.2]) → Rb.Prs H vs ps := by
  intro vs ps h
  refine ⟨by have := h.length; rw [List.length_map] at this; exact this, fun i p hp => ?_⟩
  obtain ⟨v, e, r⟩ := h.at (i := i) (d := D.tup [.int p.1, .int p.2]) (by rw [List.getElem?_map, hp]; rfl)
  obtain ⟨a, ws, rfl, ha, ra⟩ := r.tup_inv
  obtain ⟨x, y, rfl, rx, ry⟩ := ra.two
  cases rx.int_inv
  cases ry.int_inv
  exact ⟨a, e, ha⟩
theorem RpAll.ofPrs {vs : List V} : ∀ {ps : List (Int × Int)}, Rb.Prs H vs ps → RpAll c μ H vs (ps.map fun p => D.tup [.int p.1, .int p.2]) := by
  induction vs with
  | nil =>
    intro ps h
    have : ps = [] := List.length_eq_zero_iff.mp (by rw [← h.1]; rfl)
    subst this
    exact .nil
  | cons v vs ih =>
    intro ps h
    match ps, h with
    | [], h => exact absurd h.1 (by simp)
    | p :: ps, h =>
      obtain ⟨t, e1, e2⟩ := h.2 0 p rfl
      cases e1
      refine .cons (.tup e2 (.cons (.int _) (.cons (.int _) .nil))) (ih ⟨Nat.succ.inj h.1, fun i q hq => ?_⟩)
      exact h.2 (i + 1) q hq
theorem c_sorted : CallR X (.builtin "sorted") (rDs (ct X) gSorted) := by
  intro pins s σ H vs us Q I r ⟨μ, S, ds, Qd, w, ra, hg, q⟩
  unfold gSorted at hg
  split at hg
  · obtain ⟨v, rfl, rv⟩ := ra.one
    obtain ⟨xs, e, hg⟩ := onSome_of hg
    obtain ⟨a, ws, rfl, hs, rs⟩ := rv.lstT w e
    rcases hg with ⟨ns, rfl, hg⟩ | ⟨ps, rfl, hg⟩
    · rw [rs.ints] at hs
      refine cr_sortedI pins s σ H _ us Q I r ⟨a, ns, rfl, SqL.of hs, fun ns' p h1 h2 hp => ?_⟩
      rw [Rb.srt_uniq h1 h2]
      exact q.lst w (RpAll.ofInts _) hg hp
    · refine cr_sortedPO pins s σ H _ us Q I r (Rb.sorted_prs (SqL.of hs) rs.prs fun ys p hP hp => ?_)
      exact q.lst w (RpAll.ofPrs hP) hg hp
  · exact hg.elim
end
end Pu
namespace Pu
open PySem PySem.Spec PyProof.Rows L2

/-! ## subscripts, slices, in -/
theorem atI_map {α β : Type} {R : α → β → Prop} {xs : List α} {ys : List β} (hl : xs.length = ys.length) (h : ∀ (i : Nat) y, ys[i]? = some y → ∃ x, xs[i]? = some x ∧ R x y) {i : Int} {y : β} (e : atI ys i = some y) : ∃ x, atI xs i = some x ∧ R x y := by
  unfold atI at e ⊢
  rw [hl]
  obtain ⟨j, e1, e2⟩ := Option.bind_eq_some_iff.mp e
  obtain ⟨x, e3, r⟩ := h j y e2
  exact ⟨x, by rw [e1]; exact e3, r⟩
def gIx : G2 := fun x y S Q => match x, y with
  | .str z, .int i => z.length ≤ sizeLine ∧ onSome (atI z.cps.toList i) fun c => Q (.str ⟨#[c]⟩) S
  | x, .int i => onSome (seqOf S x) fun xs => onSome (atI xs i) fun d => Q d S
  | _, _ => False
/-- the items of xs[lo:hi] -/
def cutD (xs : List D) (lo hi : Option Int) : List D := (xs.drop (HT.sIx xs.length 0 lo)).take (HT.sIx xs.length xs.length hi - HT.sIx xs.length 0 lo)
def gSl : D → Option Int → Option Int → Sto → QD → Prop := fun x lo hi S Q => match x with
  | .tup xs => Q (.tup (cutD xs lo hi)) S
  | .str z => z.length ≤ sizeLine ∧ Q (.str (cutS z lo hi)) S
  | x => onSome (seqOf S x) fun xs => Q (.lst false (cutD xs lo hi)) S
def rDsl (c : Ct) (g : D → Option Int → Option Int → Sto → QD → Prop) : V → Option Int → Option Int → Hp → VK → Prop := fun x lo hi H Q => ∃ μ S d Qd, Wd c μ S H ∧ Rp c μ H x d ∧ g d lo hi S Qd ∧ PostV c μ H Qd Q
def dSl (fe : FE) (fl fh : FO) : FE := fun ρ S Q Ed => fe ρ S (fun x S1 => fl ρ S1 (fun l S2 => fh ρ S2 (fun h S3 => gSl x l h S3 Q) Ed) Ed) Ed
def dPart (f : FE) : FO := fun ρ S Q Ed => f ρ S (fun d S1 => match d with | .int i => Q (some i) S1 | _ => False) Ed
def dNoP : FO := fun _ S Q _ => Q none S
section
variable {c : Ct} {μ : Mu} {S : Sto} {H : Hp}
theorem cutV_eq {vs : List V} {ds : List D} (r : RpAll c μ H vs ds) (lo hi : Option Int) : RpAll c μ H (cutV vs lo hi) (cutD ds lo hi) := by
  unfold cutV cutD
  rw [r.length]
  exact (r.drop _).take _
end
section
variable {X : Cx} {E : L2.St → XK} {a b e : Expr} {fa fb fe : FE} {lo hi : Option Expr} {fl fh : FO} {pos p2 : Pos}
theorem ix_D : IxR X (rD2 (ct X) gIx) := by
  intro value slice pins s σ H x y v u Q I rx ry ⟨μ, S, dx, dy, Qd, w, r1, r2, hg, q⟩ hs
  unfold gIx at hg
  split at hg
  · obtain ⟨hz, hg⟩ := hg
    obtain ⟨c, e, hg⟩ := onSome_of hg
    cases r1.str_inv
    cases r2.int_inv
    exact ix_str value slice pins s σ H _ _ v u Q I rx ry ⟨_, _, c, rfl, rfl, hz, e, q.same w (.str _) hg⟩ hs
  · obtain ⟨xs, e1, hg⟩ := onSome_of hg
    obtain ⟨d, e2, hg⟩ := onSome_of hg
    obtain ⟨a, ws, rfl, hq, rs⟩ := r1.seq w e1
    cases r2.int_inv
    obtain ⟨z, e3, rz⟩ := atI_map rs.length (fun i y h => rs.at h) e2
    have fin := q.same w rz hg
    rcases hq with hq | hq
    · exact ix_list value slice pins s σ H _ _ v u Q I rx ry ⟨a, ws, _, z, rfl, rfl, hq, e3, fin⟩ hs
    · exact ix_tup value slice pins s σ H _ _ v u Q I rx ry ⟨a, ws, _, z, rfl, rfl, hq, e3, fin⟩ hs
  · exact hg.elim
theorem d_ix (ha : PEd X E a fa) (hb : PEd X E b fb) (hs : PlainIx b) : PEd X E (.Subscript a b pos) (dBin gIx fa fb) := PE.imp (pe_ix ix_D ha hb hs) fun _ _ _ h => tBin h
theorem sl_D : SlR X (rDsl (ct X) gSl) := by
  intro pins s σ H x v vl vu lo hi sl Q I rx hs pl pu ⟨μ, S, d, Qd, w, r1, hg, q⟩
  unfold gSl at hg
  split at hg
  · obtain ⟨a, ws, rfl, ha, rs⟩ := r1.tup_inv
    refine sl_tupA pins s σ H _ v vl vu lo hi sl Q I rx hs pl pu ⟨a, ws, rfl, SqT.of ha, fun hw => ?_, fun hw p hp => q.tup w (cutV_eq rs lo hi) hg hp⟩
    refine q.same w (.tup ha ?_) hg
    have : cutV ws lo hi = ws := by
      unfold cutV
      rw [hw.1, hw.2, List.drop_zero, Nat.sub_zero, List.take_length]
    rw [← this]
    exact cutV_eq rs lo hi
  · cases r1.str_inv
    exact sl_str pins s σ H _ v vl vu lo hi sl Q I rx hs pl pu ⟨_, rfl, hg.1, q.same w (.str _) hg.2⟩
  · rename_i hnt0 hnt1
    obtain ⟨xs, e1, hg⟩ := onSome_of hg
    rcases r1.seq2 w e1 with ⟨a, ws, rfl, rfl, ha, rs⟩ | ⟨a, ws, rfl, hq, rs⟩
    · exact absurd rfl (hnt0 _)
    · exact sl_list pins s σ H _ v vl vu lo hi sl Q I rx hs pl pu ⟨a, ws, rfl, hq, fun p hp => q.lst w (cutV_eq rs lo hi) hg hp⟩
theorem d_slice (he : PEd X E e fe) (hl : POd X E lo fl) (hh : POd X E hi fh) : PEd X E (.Subscript e (.Slice lo hi none p2) pos) (dSl fe fl fh) := by
  refine PE.imp (pe_slice sl_D he hl hh) fun σ H Q ⟨μ, S, ρ, Qd, Ed, w, en, hf, q, px⟩ => ?_
  refine tR_of w en hf px fun x S1 v H1 μ1 h1 f1 w1 en1 px1 r1 => ?_
  refine tR_of w1 en1 h1 px1 fun l S2 l' H2 μ2 h2 f2 w2 en2 px2 r2 => ?_
  cases (r2 : l' = l)
  refine tR_of w2 en2 h2 px2 fun h S3 h' H3 μ3 h3 f3 w3 en3 px3 r3 => ?_
  cases (r3 : h' = h)
  exact ⟨μ3, S3, x, Qd, w3, (r1.fw w1 f2).fw w2 f3, h3, fun d S' v' H' μ' h f w' r => q d S' v' H' μ' h (f1.trans (f2.trans (f3.trans f))) w' r⟩
theorem d_noP : POd X E none dNoP := PO.imp po_none fun σ H Q ⟨μ, S, ρ, Qd, Ed, w, en, hf, q, px⟩ => q none S none H μ hf Fw.refl w rfl
theorem d_part (he : PEd X E e fe) : POd X E (some e) (dPart fe) := by
  refine PO.imp (po_some he) fun σ H Q ⟨μ, S, ρ, Qd, Ed, w, en, hf, q, px⟩ => ?_
  refine tR_of w en hf px fun x S1 v H1 μ1 h1 f1 w1 en1 px1 r1 => ?_
  split at h1
  · exact ⟨_, r1.int_inv, q _ S1 _ H1 μ1 h1 f1 w1 rfl⟩
  · exact h1.elim
/-- t[::-1] -/
def gRevT : D → Sto → QD → Prop := fun x S Q => match x with
  | .tup xs => Q (.tup xs.reverse) S
  | _ => False
theorem d_revT {k : Nat} {p1 p3 : Pos} (he : PEd X E e fe) : PEd X E (.Subscript e (.Slice none none (some (.UnaryOp .USub (.Constant (.int 1) k p1) p2)) p3) pos) (dUn gRevT fe) := by
  refine PE.imp (Rb.pe_revT he) fun σ H Q ⟨μ, S, ρ, Qd, Ed, w, en, hf, q, px⟩ => ?_
  refine tR_of w en hf px fun x S1 v H1 μ1 h1 f1 w1 en1 px1 r1 => ?_
  unfold gRevT at h1
  split at h1
  · obtain ⟨a, ws, rfl, ha, rs⟩ := r1.tup_inv
    exact ⟨a, ws, rfl, SqT.of ha, fun p hp => PostV.tup (fun d S' v H' μ' h f w' r => q d S' v H' μ' h (f1.trans f) w' r) w1 rs.rev h1 hp⟩
  · exact h1.elim
end
def gIn (neg : Bool) : G2 := fun x y S Q => match x with
  | .int i => onSome (seqOf S y) fun xs => onSome (intsOf xs) fun ns => Q (.bl (nb neg (decide (i ∈ ns)))) S
  | _ => False
theorem inV_ints {i : Int} : ∀ {ns : List Int}, inV (.int i) (ns.map V.int) = decide (i ∈ ns)
  | [] => by simp [inV]
  | n :: ns => by
    have ih := inV_ints (i := i) (ns := ns)
    unfold inV at *
    simp only [List.map_cons, List.any_cons]
    rw [ih]
    by_cases e : n = i
    · subst e
      simp [eqV]
    · have e2 : ¬ i = n := fun z => e z.symm
      simp [e, e2, eqV]
section
variable {X : Cx}
theorem flat_ints (ns : List Int) : (ns.map V.int).all flatV = true := by
  rw [List.all_map, List.all_eq_true]
  intro x _
  rfl
theorem o_in : OpR X (compareOp .In) (rD2 (ct X) (gIn false)) := by
  intro pins s σ H x y v u Q I rx ry ⟨μ, S, dx, dy, Qd, w, r1, r2, hg, q⟩
  unfold gIn at hg
  split at hg
  · obtain ⟨xs, e1, hg⟩ := onSome_of hg
    obtain ⟨ns, e2, hg⟩ := onSome_of hg
    obtain ⟨a, ws, rfl, hq, rs⟩ := r2.seq w e1
    cases r1.int_inv
    rw [intsOf_inv e2] at rs
    rw [rs.ints] at hq
    refine op_in_seq pins s σ H _ _ v u Q I rx ry ⟨a, _, rfl, hq, rfl, flat_ints ns, ?_⟩
    rw [inV_ints]
    exact q.same w (.bl _) hg
  · exact hg.elim
theorem o_notin : OpR X (compareOp .NotIn) (rD2 (ct X) (gIn true)) := by
  intro pins s σ H x y v u Q I rx ry ⟨μ, S, dx, dy, Qd, w, r1, r2, hg, q⟩
  unfold gIn at hg
  split at hg
  · obtain ⟨xs, e1, hg⟩ := onSome_of hg
    obtain ⟨ns, e2, hg⟩ := onSome_of hg
    obtain ⟨a, ws, rfl, hq, rs⟩ := r2.seq w e1
    cases r1.int_inv
    rw [intsOf_inv e2] at rs
    rw [rs.ints] at hq
    refine op_notIn_seq pins s σ H _ _ v u Q I rx ry ⟨a, _, rfl, hq, rfl, flat_ints ns, ?_⟩
    rw [inV_ints]
    exact q.same w (.bl _) hg
  · exact hg.elim
end
/-! ## methods of lists -/
abbrev GM := D → List D → Sto → QD → Prop
def dML (g : GM) (fo : FE) (fa : FA) : FE := fun ρ S Q Ed => fo ρ S (fun x S1 => onSome (cellOf S1 x) fun _ => fa ρ S1 (fun ds S2 => g x ds S2 Q) Ed) Ed
def gAppend : GM := fun x ds S Q => match ds with
  | [d] => onSome (cellOf S x) fun nx => nx.2.length < sizeLine ∧ Q .non (S.set nx.1 (.lst (nx.2 ++ [d])))
  | _ => False
def gPopAt : GM := fun x ds S Q => match ds with
  | [.int i] => onSome (cellOf S x) fun nx => onSome (ixN nx.2.length i) fun k => onSome nx.2[k]? fun d => Q d (S.set nx.1 (.lst (nx.2.eraseIdx k)))
  | _ => False
section
variable {X : Cx} {E : L2.St → XK} {o e : Expr} {es : List Expr} {fo : FE} {fa : FA} {name : Str} {id : String} {apos cpos : Pos}
theorem d_ml {g : GM} (slot : Slot "list" name id) (hty : typeOf (.builtin id) = pure (.type "method_descriptor")) (hm : MtR X id (rDm (ct X) g)) (ho : PEd X E o fo) (ha : PAd X E (e :: es) fa)
    (hbase : attributeBase o name X.env (eval o X.env) = eval o X.env := by rfl)
    (hfew : ((backTo cpos (starEach (e :: es) X.env)).all (fun x => !x.1) && (backToKw cpos (keywordEach [] X.env)).all (fun x => x.1.isSome)
      && decide ((e :: es).length + ([] : List Keyword).length + (if ([] : List Keyword).isEmpty then 0 else 1) < 30)) = true := by rfl)
    (hline : (apos.endLine == cpos.line) = true := by rfl) (hs : starEach (e :: es) X.env = (false, eval e X.env) :: starEach es X.env := by rfl) (hplain : (backTo cpos (starEach es X.env)).any (·.1) = false := by rfl) :
    PEd X E (.Call (.Attribute o name apos) (e :: es) [] cpos) (dML g fo fa) := by
  refine PE.imp (pe_bm PySem.F.plainAttrs_list slot hty hm ho ha hbase hfew hline hs hplain) fun σ H Q ⟨μ, S, ρ, Qd, Ed, w, en, hf, q, px⟩ => ?_
  refine tR_of w en hf px fun x S1 v H1 μ1 h1 f1 w1 en1 px1 r1 => ?_
  obtain ⟨nx, e1, h1⟩ := onSome_of h1
  obtain ⟨a, vs, rfl, hm', ha', ra⟩ := w1.cellL r1 e1
  refine ⟨.inl ⟨rfl, vs, SqL.of ha'⟩, ?_⟩
  refine tR_of w1 en1 h1 px1 fun ds S2 us H2 μ2 h2 f2 w2 en2 px2 r2 => ?_
  exact ⟨μ2, S2, x, ds, Qd, w2, r1.fw w1 f2, r2, h2, fun d S' v' H' μ' h f w' r => q d S' v' H' μ' h (f1.trans (f2.trans f)) w' r⟩
theorem m_append : MtR X "list.append" (rDm (ct X) gAppend) := by
  intro pins s σ H x xs v us Q I rx rs ⟨μ, S, d, ds, Qd, w, r1, ra, hg, q⟩
  unfold gAppend at hg
  split at hg
  · obtain ⟨y, rfl, ry⟩ := ra.one
    obtain ⟨⟨n, zs⟩, e, hz, hg⟩ := onSome_of hg
    obtain ⟨a, vs, rfl, hm, ha, rz⟩ := w.cellL r1 e
    exact mt_append pins s σ H _ _ v us Q I rx rs ⟨a, vs, y, rfl, rfl, ha, by rw [rz.length]; exact hz, q.cell w hm (rz.append (.cons ry .nil)) .non hg⟩
  · exact hg.elim
theorem m_popAt : MtR X "list.pop" (rDm (ct X) gPopAt) := by
  intro pins s σ H x xs v us Q I rx rs ⟨μ, S, d, ds, Qd, w, r1, ra, hg, q⟩
  unfold gPopAt at hg
  split at hg
  · obtain ⟨y, rfl, ry⟩ := ra.one
    cases ry.int_inv
    obtain ⟨⟨n, zs⟩, e, hg⟩ := onSome_of hg
    obtain ⟨k, e2, hg⟩ := onSome_of hg
    obtain ⟨z, e3, hg⟩ := onSome_of hg
    obtain ⟨a, vs, rfl, hm, ha, rz⟩ := w.cellL r1 e
    obtain ⟨u, e4, ru⟩ := rz.at e3
    obtain ⟨h1, h2, h3, h4⟩ := ixN_seq e2
    obtain ⟨its, nn, rl, ho, hz⟩ := I.lst ha
    have hl := rz.length
    have h63 := line63
    have hl2 : (n, zs).2.length = zs.length := rfl
    refine mt_popAt pins s σ H _ _ v us Q I rx rs ⟨a, vs, _, k, u, rfl, rfl, ha, ?_, ?_, by rw [hl]; exact h1, e4, q.cell w hm (rz.erase k) ru hg⟩
    · omega
    · omega
  · exact hg.elim
end
end Pu
namespace Pu
open PySem PySem.Spec PyProof.Rows L2

/-! ## statements -/
structure EndsOk (c : Ct) (μ : Mu) (H : Hp) (De : DEnds) (D : Ends) : Prop where
  nx : ∀ ρ' S' σ' H' μ', De.nx ρ' S' → Fw μ H μ' H' → Wd c μ' S' H' → EnvR c μ' H' σ' ρ' → D.nx σ' H'
  rt : PostV c μ H De.rt D.rt
  bk : ∀ ρ' S' σ' H' μ', De.bk ρ' S' → Fw μ H μ' H' → Wd c μ' S' H' → EnvR c μ' H' σ' ρ' → D.bk σ' H'
  ct : ∀ ρ' S' σ' H' μ', De.ct ρ' S' → Fw μ H μ' H' → Wd c μ' S' H' → EnvR c μ' H' σ' ρ' → D.ct σ' H'
theorem PostV.fw {c : Ct} {μ μ' : Mu} {H H' : Hp} {Qd : QD} {Q : VK} (q : PostV c μ H Qd Q) (f : Fw μ H μ' H') : PostV c μ' H' Qd Q := fun d S' v H2 μ2 h g w r => q d S' v H2 μ2 h (f.trans g) w r
theorem EndsOk.fw {c : Ct} {μ μ' : Mu} {H H' : Hp} {De : DEnds} {D : Ends} (k : EndsOk c μ H De D) (f : Fw μ H μ' H') : EndsOk c μ' H' De D :=
  ⟨fun ρ S σ H2 μ2 h g w e => k.nx ρ S σ H2 μ2 h (f.trans g) w e, k.rt.fw f, fun ρ S σ H2 μ2 h g w e => k.bk ρ S σ H2 μ2 h (f.trans g) w e, fun ρ S σ H2 μ2 h g w e => k.ct ρ S σ H2 μ2 h (f.trans g) w e⟩
def tS (c : Ct) (E : XK) (f : FS) : TS := fun D σ H => ∃ μ S ρ De Ed, Wd c μ S H ∧ EnvR c μ H σ ρ ∧ f ρ S De Ed ∧ EndsOk c μ H De D ∧ PX c μ H Ed E
abbrev PSd (X : Cx) (E : XK) (st : Stmt) (f : FS) : Prop := PS X st (tS (ct X) E f)
abbrev PBd (X : Cx) (E : XK) (sts : List Stmt) (f : FS) : Prop := PSs X sts (tS (ct X) E f)
def dSkip : FS := fun ρ S De _ => De.nx ρ S
def dSeq (f g : FS) : FS := fun ρ S De Ed => f ρ S { De with nx := fun ρ' S' => g ρ' S' De Ed } Ed
/-- a word between the two -/
def dCut (f g : FS) : FS := fun ρ S De Ed => ∃ Mid : Rho → Sto → Prop, f ρ S { De with nx := Mid } Ed ∧ ∀ ρ' S', Mid ρ' S' → g ρ' S' De Ed
def dDrop (f : FE) : FS := fun ρ S De Ed => f ρ S (fun _ S1 => De.nx ρ S1) Ed
def dRet (f : FE) : FS := fun ρ S De Ed => f ρ S De.rt Ed
def dRetN : FS := fun _ S De _ => De.rt .non S
def dIfS (t : FT) (f g : FS) : FS := fun ρ S De Ed => t ρ S (fun b S1 => if b = true then f ρ S1 De Ed else g ρ S1 De Ed) Ed
def dBrk : FS := fun ρ S De _ => De.bk ρ S
def dCnt : FS := fun ρ S De _ => De.ct ρ S
def dAsg (f : FE) (g : FG) : FS := fun ρ S De Ed => f ρ S (fun d S1 => g d ρ S1 De.nx Ed) Ed
section
variable {X : Cx} {E : XK} {st : Stmt} {rest : List Stmt} {f g : FS} {e : Expr} {fe : FE} {pos : Pos}
theorem d_end : PBd X E [] dSkip := PSs.imp pss_nil fun D σ H ⟨μ, S, ρ, De, Ed, w, en, hf, k, px⟩ => k.nx ρ S σ H μ hf Fw.refl w en
theorem d_pass : PSd X E (.Pass pos) dSkip := PS.imp ps_pass fun D σ H ⟨μ, S, ρ, De, Ed, w, en, hf, k, px⟩ => k.nx ρ S σ H μ hf Fw.refl w en
theorem d_brk : PSd X E (.Break pos) dBrk := PS.imp ps_break fun D σ H ⟨μ, S, ρ, De, Ed, w, en, hf, k, px⟩ => k.bk ρ S σ H μ hf Fw.refl w en
theorem d_cnt : PSd X E (.Continue pos) dCnt := PS.imp ps_continue fun D σ H ⟨μ, S, ρ, De, Ed, w, en, hf, k, px⟩ => k.ct ρ S σ H μ hf Fw.refl w en
theorem d_seq (h1 : PSd X E st f) (h2 : PBd X E rest g) : PBd X E (st :: rest) (dSeq f g) := by
  refine PSs.imp (pss_cons h1 h2) fun D σ H ⟨μ, S, ρ, De, Ed, w, en, hf, k, px⟩ => ?_
  exact ⟨μ, S, ρ, _, Ed, w, en, hf, ⟨fun ρ' S' σ' H' μ' h fw w' en' => ⟨μ', S', ρ', De, Ed, w', en', h, k.fw fw, px.fw fw⟩, k.rt, k.bk, k.ct⟩, px⟩
theorem d_cut (h1 : PSd X E st f) (h2 : PBd X E rest g) : PBd X E (st :: rest) (dCut f g) := by
  refine PSs.imp (pss_cons h1 h2) fun D σ H ⟨μ, S, ρ, De, Ed, w, en, ⟨Mid, hf, hm⟩, k, px⟩ => ?_
  exact ⟨μ, S, ρ, _, Ed, w, en, hf, ⟨fun ρ' S' σ' H' μ' h fw w' en' => ⟨μ', S', ρ', De, Ed, w', en', hm ρ' S' h, k.fw fw, px.fw fw⟩, k.rt, k.bk, k.ct⟩, px⟩
theorem d_last (h1 : PSd X E st f) : PBd X E [st] f := pss_one h1
theorem d_expr (he : PEd X (cE E) e fe) (hs : swapsWith e none pos.line X.env = pure false := by rfl) : PSd X E (.Expr e pos) (dDrop fe) := by
  refine PS.imp (ps_expr he hs) fun D σ H ⟨μ, S, ρ, De, Ed, w, en, hf, k, px⟩ => ?_
  exact tR_of w en hf px fun x S1 v H1 μ1 h1 f1 w1 en1 px1 r1 => k.nx ρ S1 σ H1 μ1 h1 f1 w1 en1
theorem d_ret (he : PEd X (cE E) e fe) : PSd X E (.Return (some e) pos) (dRet fe) := by
  refine PS.imp (ps_ret he) fun D σ H ⟨μ, S, ρ, De, Ed, w, en, hf, k, px⟩ => ?_
  exact tR_of w en hf px fun x S1 v H1 μ1 h1 f1 w1 en1 px1 r1 => k.rt x S1 v H1 μ1 h1 f1 w1 r1
theorem d_retN : PSd X E (.Return none pos) dRetN := PS.imp ps_retN fun D σ H ⟨μ, S, ρ, De, Ed, w, en, hf, k, px⟩ => k.rt .non S .non H μ hf Fw.refl w .non
theorem d_if {c : Expr} {a b : List Stmt} {t : FT} (hc : PTd X (cE E) c t) (ha : PBd X E a f) (hb : PBd X E b g) : PSd X E (.If c a b pos) (dIfS t f g) := by
  refine PS.imp (ps_if hc ha hb) fun D σ H ⟨μ, S, ρ, De, Ed, w, en, hf, k, px⟩ => ?_
  refine tR_of w en hf px fun x S1 v H1 μ1 h1 f1 w1 en1 px1 r1 => ?_
  cases (r1 : v = x)
  split
  · rename_i hv
    rw [if_pos hv] at h1
    exact ⟨μ1, S1, ρ, De, Ed, w1, en1, h1, k.fw f1, px1⟩
  · rename_i hv
    rw [if_neg hv] at h1
    exact ⟨μ1, S1, ρ, De, Ed, w1, en1, h1, k.fw f1, px1⟩
end
/-! ## targets -/
def tG (c : Ct) (E : XK) (g : FG) : TG := fun v σ H Q => ∃ μ S ρ d Qd Ed, Wd c μ S H ∧ EnvR c μ H σ ρ ∧ Rp c μ H v d ∧ g d ρ S Qd Ed ∧ (∀ ρ' S' σ' H' μ', Qd ρ' S' → Fw μ H μ' H' → Wd c μ' S' H' → EnvR c μ' H' σ' ρ' → Q σ' H') ∧ PX c μ H Ed E
def tGs (c : Ct) (E : XK) (g : FGs) : TGs := fun vs σ H Q => ∃ μ S ρ ds Qd Ed, Wd c μ S H ∧ EnvR c μ H σ ρ ∧ RpAll c μ H vs ds ∧ g ds ρ S Qd Ed ∧ (∀ ρ' S' σ' H' μ', Qd ρ' S' → Fw μ H μ' H' → Wd c μ' S' H' → EnvR c μ' H' σ' ρ' → Q σ' H') ∧ PX c μ H Ed E
abbrev PGd (X : Cx) (E : XK) (tg : Expr) (g : FG) : Prop := PG X tg (tG (ct X) E g)
abbrev PGsd (X : Cx) (E : XK) (tgs : List Expr) (g : FGs) : Prop := PGs X tgs (tGs (ct X) E g)
/-- the slot i is filled, the list of slots written out -/
def setK : Rho → Nat → D → (Rho → Prop) → Prop
  | [], _, _, k => k []
  | _ :: r, 0, d, k => k (some d :: r)
  | x :: r, n + 1, d, k => setK r n d fun r' => k (x :: r')
theorem setK_eq : ∀ {ρ : Rho} {i : Nat} {d : D} {k : Rho → Prop}, setK ρ i d k → k (ρ.set i (some d))
  | [], _, _, _, h => h
  | _ :: r, 0, d, k, h => h
  | x :: r, n + 1, d, k, h => setK_eq (ρ := r) (i := n) (d := d) (k := fun r' => k (x :: r')) h
def gN (i : Nat) : FG := fun d ρ S Q _ => setK ρ i d fun ρ' => Q ρ' S
def gsNil : FGs := fun ds ρ S Q _ => match ds with
  | [] => Q ρ S
  | _ => False
def gsCons (g : FG) (gs : FGs) : FGs := fun ds ρ S Q Ed => match ds with
  | d :: r => g d ρ S (fun ρ1 S1 => gs r ρ1 S1 Q Ed) Ed
  | [] => False
def gsLen (gs : FGs) (n : Nat) : Prop := ∀ {ds ρ S Q Ed}, gs ds ρ S Q Ed → ∀ k, ds.length = k → k = n
def gTp (n : Nat) (gs : FGs) : FG := fun d ρ S Q Ed => match d with
  | .tup ds => ds.length = n ∧ gs ds ρ S Q Ed
  | _ => False
def gUn (n : Nat) (gs : FGs) : FG := fun d ρ S Q Ed => onSome (lstOf S d) fun ds => ds.length = n ∧ gs ds ρ S Q Ed
/-- o[i] = .. -/
def gSetI (fo fi : FE) : FG := fun d ρ S Q Ed => fo ρ S (fun x S1 => fi ρ S1 (fun y S2 => match y with
  | .int k => onSome (cellOf S2 x) fun nx => onSome (ixN nx.2.length k) fun j => Q ρ (S2.set nx.1 (.lst (nx.2.set j d)))
  | _ => False) Ed) Ed
section
variable {X : Cx} {E : XK} {pos : Pos} {tg e o ie : Expr} {es : List Expr} {g : FG} {gs : FGs} {fe fo fi : FE}
theorem PGs.imp {t t' : TGs} (h : PGs X es t) (k : ∀ v σ H Q, t' v σ H Q → t v σ H Q) : PGs X es t' := ⟨fun pins s σ H v u Q I r q => h.run pins s σ H v u Q I r (k v σ H Q q)⟩
theorem d_gn {i : Nat} (h : PG X tg (gName i)) : PGd X E tg (gN i) :=
  PG.imp h fun v σ H Q ⟨μ, S, ρ, d, Qd, Ed, w, en, r, hg, q, px⟩ => q _ S _ H μ (setK_eq (k := fun ρ' => Qd ρ' S) hg) Fw.refl w (en.set r)
theorem d_gnil : PGsd X E [] gsNil := by
  refine PGs.imp pgs_nil fun vs σ H Q ⟨μ, S, ρ, ds, Qd, Ed, w, en, r, hg, q, px⟩ => ?_
  unfold gsNil at hg
  split at hg
  · cases r
    exact ⟨rfl, q ρ S σ H μ hg Fw.refl w en⟩
  · exact hg.elim
theorem d_gcons (h1 : PGd X E e g) (h2 : PGsd X E es gs) (hs : (assignEach (e :: es) X.env).map (·.2) = assign e X.env :: (assignEach es X.env).map (·.2) := by rfl) : PGsd X E (e :: es) (gsCons g gs) := by
  refine PGs.imp (pgs_cons h1 h2 hs) fun vs σ H Q ⟨μ, S, ρ, ds, Qd, Ed, w, en, r, hg, q, px⟩ => ?_
  unfold gsCons at hg
  split at hg
  · cases r with
    | cons r1 r2 =>
      refine ⟨_, _, rfl, μ, S, ρ, _, _, Ed, w, en, r1, hg, fun ρ1 S1 σ1 H1 μ1 h1 f1 w1 en1 => ?_, px⟩
      exact ⟨μ1, S1, ρ1, _, Qd, Ed, w1, en1, r2.fw w f1, h1, fun ρ2 S2 σ2 H2 μ2 h2 f2 w2 en2 => q ρ2 S2 σ2 H2 μ2 h2 (f1.trans f2) w2 en2, px.fw f1⟩
  · exact hg.elim
theorem d_gtup {k n : Nat} (hc : X.calm = true) (h : PGsd X E es gs) (hn : (assignEach es X.env).length = n := by rfl) (hst : (assignEach es X.env).findIdx? (·.1) = none := by rfl) : PGd X E (.Tuple es k pos) (gTp n gs) := by
  refine PG.imp (pg_tup hc h hn hst) fun v σ H Q ⟨μ, S, ρ, d, Qd, Ed, w, en, r, hg, q, px⟩ => ?_
  unfold gTp at hg
  split at hg
  · obtain ⟨a, ws, rfl, ha, rs⟩ := r.tup_inv
    exact ⟨a, ws, rfl, SqT.of ha, by rw [rs.length]; exact hg.1, μ, S, ρ, _, Qd, Ed, w, en, rs, hg.2, q, px⟩
  · exact hg.elim
theorem d_gunl {k n : Nat} (hc : X.calm = true) (h : PGsd X E es gs) (hn : (assignEach es X.env).length = n := by rfl) (hst : (assignEach es X.env).findIdx? (·.1) = none := by rfl) : PGd X E (.Tuple es k pos) (gUn n gs) := by
  refine PG.imp (pg_unl hc h hn hst) fun v σ H Q ⟨μ, S, ρ, d, Qd, Ed, w, en, r, hg, q, px⟩ => ?_
  obtain ⟨ds, e, hl, hg⟩ := onSome_of hg
  obtain ⟨a, ws, rfl, ha, rs⟩ := r.lstT w e
  exact ⟨a, ws, rfl, SqL.of ha, by rw [rs.length]; exact hl, μ, S, ρ, _, Qd, Ed, w, en, rs, hg, q, px⟩
theorem d_gsub (ho : PEd X (cE E) o fo) (hi : PEd X (cE E) ie fi)
    (ha : ∀ v, assign (.Subscript o ie pos) X.env v = (do
      let ov ← holding [v] (eval o X.env)
      let iv ← holding [v, ov] (eval ie X.env)
      standAt pos
      holding [v, ov, iv] (setItem ov iv v)
      release [v, ov, iv] []) := by intro _; rfl) : PGd X E (.Subscript o ie pos) (gSetI fo fi) := by
  refine PG.imp (pg_sub ho hi set_list ha) fun v σ H Q ⟨μ, S, ρ, d, Qd, Ed, w, en, r, hg, q, px⟩ => ?_
  refine tR_of w en hg px fun x S1 vx H1 μ1 h1 f1 w1 en1 px1 r1 => ?_
  refine tR_of w1 en1 h1 px1 fun y S2 vy H2 μ2 h2 f2 w2 en2 px2 r2 => ?_
  split at h2
  · obtain ⟨⟨n, zs⟩, e, h2⟩ := onSome_of h2
    obtain ⟨j, e2, h2⟩ := onSome_of h2
    obtain ⟨a, vs, rfl, hm, hl, rz⟩ := w2.cellL (r1.fw w1 f2) e
    have fw : Fw μ2 H2 μ2 (upd H2 a (.lst (vs.set j v))) := Fw.write (List.mem_of_getElem? hm)
    have rd := ((r.fw w f1).fw w1 f2)
    refine ⟨a, vs, _, j, rfl, r2.int_inv, hl, by rw [rz.length]; exact e2, ?_⟩
    exact q ρ _ σ _ μ2 h2 (f1.trans (f2.trans fw)) (w2.set hm ⟨_, upd_same, (rz.set rd j).fw w2 fw⟩) (en2.fw w2 fw)
  · exact h2.elim
theorem d_asg (he : PEd X (cE E) e fe) (hg : PGd X E tg g) (hs : swapsWithSole [tg] e pos.line X.env = pure false := by rfl) (hw : swappedStores [tg] e X.env = pure none := by rfl)
    (h1 : (assignEach [tg] X.env).map (·.2) = [assign tg X.env] := by rfl) : PSd X E (.Assign [tg] e pos) (dAsg fe g) := by
  refine PS.imp (ps_asg he hg hs hw h1) fun D σ H ⟨μ, S, ρ, De, Ed, w, en, hf, k, px⟩ => ?_
  refine tR_of w en hf px fun x S1 v H1 μ1 h1 f1 w1 en1 px1 r1 => ?_
  exact ⟨μ1, S1, ρ, x, _, Ed, w1, en1, r1, h1, fun ρ2 S2 σ2 H2 μ2 h2 f2 w2 en2 => k.nx ρ2 S2 σ2 H2 μ2 h2 (f1.trans f2) w2 en2, px1⟩
theorem d_set {i : Nat} {x : Str} {pos' : Pos} (hN : X.N.Nodup) (hi : X.N[i]? = some x) (hx : Loc X.env.scope x) (he : PEd X (cE E) e fe) (hs : swapsWith e (some (.Name x pos')) pos.line X.env = pure false := by rfl)
    (hf : X.fn x = true ∨ X.env.scope.names.lookup x = some .local := by first | exact .inl rfl | exact .inr rfl | assumption) : PSd X E (.Assign [.Name x pos'] e pos) (dAsg fe (gN i)) := by
  refine PS.imp (ps_set hN hi hx he hs hf) fun D σ H ⟨μ, S, ρ, De, Ed, w, en, hf, k, px⟩ => ?_
  refine tR_of w en hf px fun x S1 v H1 μ1 h1 f1 w1 en1 px1 r1 => ?_
  exact k.nx _ S1 _ H1 μ1 (setK_eq (k := fun ρ' => De.nx ρ' S1) h1) f1 w1 (en1.set r1)
end
/-- a, b = x, y -/
def dPar (i j : Nat) (fa : FA) : FS := fun ρ S De Ed => fa ρ S (fun ds S1 => match ds with
  | [d, e] => setK ρ i d fun ρ1 => setK ρ1 j e fun ρ2 => De.nx ρ2 S1
  | _ => False) Ed
def dPar3 (i j l : Nat) (fa : FA) : FS := fun ρ S De Ed => fa ρ S (fun ds S1 => match ds with
  | [d, e, f] => setK ρ i d fun ρ1 => setK ρ1 j e fun ρ2 => setK ρ2 l f fun ρ3 => De.nx ρ3 S1
  | _ => False) Ed
section
variable {X : Cx} {E : XK} {pos : Pos} {a b c : Expr} {fa : FA}
theorem d_par {i j : Nat} {x y : Str} {px py pt : Pos} {kt k2 pt2} (hc : X.calm = true) (hN : X.N.Nodup) (hi : X.N[i]? = some x) (hj : X.N[j]? = some y) (hij : i ≠ j)
    (hx : X.env.scope.names.lookup x = some .local) (hy : X.env.scope.names.lookup y = some .local) (ha : PAd X (cE E) [a, b] fa)
    (hw : swappedStores [.Tuple [.Name x px, .Name y py] kt pt] (.Tuple [a, b] k2 pt2) X.env = pure (some [x, y]))
    (hs : swapsWithSole [.Tuple [.Name x px, .Name y py] kt pt] (.Tuple [a, b] k2 pt2) pos.line X.env = pure false := by rfl) :
    PSd X E (.Assign [.Tuple [.Name x px, .Name y py] kt pt] (.Tuple [a, b] k2 pt2) pos) (dPar i j fa) := by
  refine PS.imp (ps_par hc hN hi hj hij hx hy ha hw hs) fun D σ H ⟨μ, S, ρ, De, Ed, w, en, hf, k, px⟩ => ?_
  refine tR_of w en hf px fun ds S1 vs H1 μ1 h1 f1 w1 en1 px1 r1 => ?_
  split at h1
  · obtain ⟨u, v, rfl, ru, rv⟩ := r1.two
    exact ⟨u, v, rfl, k.nx _ S1 _ H1 μ1 (setK_eq (k := fun ρ2 => De.nx ρ2 S1) (setK_eq (k := fun ρ1 => setK ρ1 _ _ fun ρ2 => De.nx ρ2 S1) h1)) f1 w1 ((en1.set ru).set rv)⟩
  · exact h1.elim
theorem d_par3 {i j l : Nat} {x y z : Str} {px py pz pt : Pos} {kt k2 pt2} (hc : X.calm = true) (hN : X.N.Nodup) (hi : X.N[i]? = some x) (hj : X.N[j]? = some y) (hl : X.N[l]? = some z) (hij : i ≠ j) (hil : i ≠ l) (hjl : j ≠ l)
    (hx : X.env.scope.names.lookup x = some .local) (hy : X.env.scope.names.lookup y = some .local) (hz : X.env.scope.names.lookup z = some .local) (ha : PAd X (cE E) [a, b, c] fa)
    (hw : swappedStores [.Tuple [.Name x px, .Name y py, .Name z pz] kt pt] (.Tuple [a, b, c] k2 pt2) X.env = pure (some [x, y, z]))
    (hs : swapsWithSole [.Tuple [.Name x px, .Name y py, .Name z pz] kt pt] (.Tuple [a, b, c] k2 pt2) pos.line X.env = pure false := by rfl) :
    PSd X E (.Assign [.Tuple [.Name x px, .Name y py, .Name z pz] kt pt] (.Tuple [a, b, c] k2 pt2) pos) (dPar3 i j l fa) := by
  refine PS.imp (ps_par3 hc hN hi hj hl hij hil hjl hx hy hz ha hw hs) fun D σ H ⟨μ, S, ρ, De, Ed, w, en, hf, k, px⟩ => ?_
  refine tR_of w en hf px fun ds S1 vs H1 μ1 h1 f1 w1 en1 px1 r1 => ?_
  split at h1
  · cases r1 with
    | cons r0 r1 =>
      obtain ⟨u, v, rfl, ru, rv⟩ := r1.two
      exact ⟨_, u, v, rfl, k.nx _ S1 _ H1 μ1 (setK_eq (k := fun ρ3 => De.nx ρ3 S1) (setK_eq (k := fun ρ2 => setK ρ2 _ _ fun ρ3 => De.nx ρ3 S1) (setK_eq (k := fun ρ1 => setK ρ1 _ _ fun ρ2 => setK ρ2 _ _ fun ρ3 => De.nx ρ3 S1) h1))) f1 w1 (((en1.set r0).set ru).set rv)⟩
  · exact h1.elim
end
end Pu
namespace Pu
open PySem PySem.Spec PyProof.Rows L2

/-! ## what a loop walks: its items, the cells that must stay as they are -/
abbrev Src := List (Nat × List D)
def srcOk : Src → Sto → Prop → Prop
  | [], _, P => P
  | (n, xs) :: r, S, P => S[n]? = some (.lst xs) ∧ srcOk r S P
theorem srcOk_iff {src : Src} {S : Sto} {P : Prop} : srcOk src S P ↔ (∀ p ∈ src, S[p.1]? = some (.lst p.2)) ∧ P := by
  induction src with
  | nil => exact ⟨fun h => ⟨(fun _ z => nomatch z), h⟩, fun h => h.2⟩
  | cons p r ih =>
    obtain ⟨n, xs⟩ := p
    constructor
    · rintro ⟨h1, h2⟩
      obtain ⟨h3, h4⟩ := ih.mp h2
      refine ⟨fun q hq => ?_, h4⟩
      rcases List.mem_cons.mp hq with rfl | hq
      · exact h1
      · exact h3 q hq
    · rintro ⟨h1, h2⟩
      exact ⟨h1 _ List.mem_cons_self, ih.mpr ⟨fun q hq => h1 q (List.mem_cons_of_mem _ hq), h2⟩⟩
def src1 (n : Nat) : Option (List D) → Src
  | some xs => [(n, xs)]
  | none => []
def srcOf (S : Sto) : D → Src
  | .cell n => src1 n (lstAt S[n]?)
  | _ => []
theorem srcOf_seq {S S' : Sto} {d : D} {xs : List D} (e : seqOf S d = some xs) (h : ∀ p ∈ srcOf S d, S'[p.1]? = some (.lst p.2)) : seqOf S' d = some xs := by
  cases d with
  | cell n =>
    have e' : lstAt S[n]? = some xs := e
    have h1 : srcOf S (.cell n) = [(n, xs)] := by show src1 n (lstAt S[n]?) = _; rw [e']; rfl
    rw [h1] at h
    have := h (n, xs) List.mem_cons_self
    show lstAt S'[n]? = some xs
    rw [this]
    rfl
  | _ => exact e
structure ItOk (c : Ct) (J : It) (items : List D) (src : Src) (Anc : Mu → Hp → Prop) : Prop where
  keep : ∀ {μ H μ' H'}, Anc μ H → Kp c μ H μ' H' → Anc μ' H'
  go : ∀ {μ S H}, Anc μ H → Wd c μ S H → (∀ p ∈ src, S[p.1]? = some (.lst p.2)) → ∀ (i : Nat) (d : D), items[i]? = some d → J.go i H ∧ ∀ x H', J.yld i H x H' → Fw μ H μ H' ∧ Wd c μ S H' ∧ Rp c μ H' x d
  stop : ∀ {μ S H}, Anc μ H → Wd c μ S H → (∀ p ∈ src, S[p.1]? = some (.lst p.2)) → J.stop items.length H
abbrev FI := FX (List D × Src)
def tI (c : Ct) (E : L2.St → XK) (fi : FI) : TI := fun σ H R => ∃ μ S ρ Qi Ed, Wd c μ S H ∧ EnvR c μ H σ ρ ∧ fi ρ S Qi Ed ∧
  (∀ is S' H' μ' J Anc, Qi is S' → Fw μ H μ' H' → Wd c μ' S' H' → ItOk c J is.1 is.2 Anc → Anc μ' H' → (∀ p ∈ is.2, S'[p.1]? = some (.lst p.2)) → R J H') ∧ PX c μ H Ed (E σ)
abbrev PId (X : Cx) (E : L2.St → XK) (tg e : Expr) (fi : FI) : Prop := PI X tg e (tI (ct X) E fi)
theorem PI.imp {X : Cx} {tg e : Expr} {t t' : TI} (h : PI X tg e t) (k : ∀ σ H R, t' σ H R → t σ H R) : PI X tg e t' := ⟨fun pins s σ H R I q => h.run pins s σ H R I (k σ H R q)⟩
theorem srcOf_ok {S : Sto} {d : D} {xs : List D} (e : seqOf S d = some xs) : ∀ p ∈ srcOf S d, S[p.1]? = some (.lst p.2) := by
  intro p hp
  cases d with
  | cell n =>
    have e' : lstAt S[n]? = some xs := e
    have h1 : srcOf S (.cell n) = [(n, xs)] := by show src1 n (lstAt S[n]?) = _; rw [e']; rfl
    rw [h1] at hp
    cases List.mem_singleton.mp hp
    exact lstAt_inv e'
  | _ => cases hp
/-! ### a list or a tuple -/
def iSeq (K : PySem.W.Frag) (tl : TE) : TI := fun σ H R => tl σ H fun x H1 => ∃ a, x = .ref a ∧ (((∃ xs, SqL K H1 a xs) ∧ R (Itl K a) H1) ∨ ((∃ xs, SqT K H1 a xs) ∧ R (Itt K a) H1))
section
variable {X : Cx} {E : L2.St → XK} {tg e : Expr} {fe : FE} {fa : FA}
theorem pi_seq {tl : TE} (hl : PE X e tl) : PI X tg e (iSeq X.K tl) := by
  constructor
  intro pins s σ H R I h
  refine thn (hl.run pins s σ H _ I h) fun v s1 hv => ?_
  obtain ⟨x, H1, I1, r1, a, rfl, q⟩ := hv
  cases r1
  have own : ∀ b, b ∈ [s1.heap.objs.size] → FpOk X pins H1 b := fun b hb => by
    rw [List.mem_singleton.mp hb]
    exact I1.fpOk (Nat.le_refl _) (I1.hok.fresh (Nat.le_refl _))
  rcases q with ⟨⟨xs, hq⟩, q⟩ | ⟨⟨xs, hq⟩, q⟩
  · obtain ⟨its, rv, pl, _⟩ := I1.list hq
    exact wpAny_pyIter_list pl.isList
      ⟨_, _, _, _, H1, rfl, I1.kept (t' := s1.toks) (fun b o eb => Heap.get?_push_of_some _ eb), turn_list a _, ⟨_, Heap.get?_push_size _ rfl, rfl, rfl⟩, own, q⟩
  · obtain ⟨its, rv, pl, _⟩ := I1.tuple hq
    exact wpAny_pyIter_tuple (Rb.isTup_isTuple pl)
      ⟨_, _, _, _, H1, rfl, I1.kept (t' := s1.toks) (fun b o eb => Heap.get?_push_of_some _ eb), turn_tuple a _, ⟨_, Heap.get?_push_size _ rfl, rfl, rfl⟩, own, q⟩
def dItS (fe : FE) : FI := fun ρ S Q Ed => fe ρ S (fun d S1 => onSome (seqOf S1 d) fun xs => Q (xs, srcOf S1 d) S1) Ed
theorem seq_get {c : Ct} {μ : Mu} {S S' : Sto} {H : Hp} {v : V} {d : D} {xs : List D} (w : Wd c μ S H) (r : Rp c μ H v d) (e : seqOf S' d = some xs) (h : ∀ p ∈ srcOf S' d, S[p.1]? = some (.lst p.2)) : seqOf S d = some xs := srcOf_seq e h
theorem itl_ok {c : Ct} {S0 : Sto} {a : Addr} {d : D} {xs : List D} (hn : ∀ ys, d ≠ .tup ys) (e : seqOf S0 d = some xs) : ItOk c (Itl c.K a) xs (srcOf S0 d) (fun μ H => Rp c μ H (.ref a) d) where
  keep := fun r k => r.kp k
  go := fun {μ S H} r w hs i x hx => by
    rcases r.seq2 w (srcOf_seq e hs) with ⟨_, _, rfl, _⟩ | ⟨b, vs, eb, hq, rs⟩
    · exact absurd rfl (hn _)
    cases eb
    obtain ⟨v, ev, rv⟩ := rs.at hx
    refine ⟨⟨vs, v, hq, ev⟩, fun y H' hy => ?_⟩
    obtain ⟨rfl, hy⟩ := hy
    have := hy vs hq
    rw [ev] at this
    cases this
    exact ⟨Fw.refl, w, rv⟩
  stop := fun {μ S H} r w hs => by
    rcases r.seq2 w (srcOf_seq e hs) with ⟨_, _, rfl, _⟩ | ⟨b, vs, eb, hq, rs⟩
    · exact absurd rfl (hn _)
    cases eb
    exact ⟨vs, hq, by rw [rs.length]; exact Nat.le_refl _⟩
theorem itt_ok {c : Ct} {a : Addr} {xs : List D} : ItOk c (Itt c.K a) xs [] (fun μ H => Rp c μ H (.ref a) (.tup xs)) where
  keep := fun r k => r.kp k
  go := fun {μ S H} r w hs i x hx => by
    obtain ⟨b, vs, eb, ha, rs⟩ := r.tup_inv
    cases eb
    obtain ⟨v, ev, rv⟩ := rs.at hx
    refine ⟨⟨vs, v, SqT.of ha, ev⟩, fun y H' hy => ?_⟩
    obtain ⟨rfl, hy⟩ := hy
    have := hy vs (SqT.of ha)
    rw [ev] at this
    cases this
    exact ⟨Fw.refl, w, rv⟩
  stop := fun {μ S H} r w hs => by
    obtain ⟨b, vs, eb, ha, rs⟩ := r.tup_inv
    cases eb
    exact ⟨vs, SqT.of ha, by rw [rs.length]; exact Nat.le_refl _⟩
theorem d_iseq (he : PEd X E e fe) : PId X E tg e (dItS fe) := by
  refine PI.imp (pi_seq he) fun σ H R ⟨μ, S, ρ, Qi, Ed, w, en, hf, q, px⟩ => ?_
  refine tR_of w en hf px fun d S1 v H1 μ1 h1 f1 w1 en1 px1 r1 => ?_
  obtain ⟨xs, e1, hq⟩ := onSome_of h1
  rcases r1.seq2 w1 e1 with ⟨a, vs, rfl, rfl, ha, rs⟩ | ⟨a, vs, rfl, hs, rs⟩
  · exact ⟨a, rfl, .inr ⟨⟨vs, SqT.of ha⟩, q _ S1 H1 μ1 _ _ hq f1 w1 itt_ok r1 (fun _ z => nomatch z)⟩⟩
  · by_cases ht : ∃ ys, d = .tup ys
    · obtain ⟨ys, rfl⟩ := ht
      cases e1
      obtain ⟨b, ws, eb, hb, rs'⟩ := r1.tup_inv
      cases eb
      exact ⟨a, rfl, .inr ⟨⟨ws, SqT.of hb⟩, q _ S1 H1 μ1 _ _ hq f1 w1 itt_ok r1 (fun _ z => nomatch z)⟩⟩
    · exact ⟨a, rfl, .inl ⟨⟨vs, hs⟩, q _ S1 H1 μ1 _ _ hq f1 w1 (itl_ok (fun ys z => ht ⟨ys, z⟩) e1) r1 (srcOf_ok e1)⟩⟩
/-! ### range -/
def rangeD (lo : Int) (n : Nat) : List D := (List.range n).map fun i : Nat => D.int (lo + (i : Int))
theorem rangeD_get {lo : Int} {n i : Nat} {d : D} (h : (rangeD lo n)[i]? = some d) : i < n ∧ d = .int (lo + (i : Int)) := by
  unfold rangeD at h
  rw [List.getElem?_map] at h
  obtain ⟨j, e1, rfl⟩ := Option.map_eq_some_iff.mp h
  obtain ⟨h1, h2⟩ := List.getElem?_eq_some_iff.mp e1
  rw [List.getElem_range] at h2
  rw [List.length_range] at h1
  subst h2
  exact ⟨h1, rfl⟩
theorem itr_ok {c : Ct} {lo : Int} {n : Nat} : ItOk c (Itr lo n) (rangeD lo n) [] (fun _ _ => True) where
  keep := fun _ _ => trivial
  go := fun {μ S H} _ w _ i d hd => by
    obtain ⟨h1, rfl⟩ := rangeD_get hd
    refine ⟨h1, fun x H' hy => ?_⟩
    obtain ⟨rfl, rfl⟩ := hy
    exact ⟨Fw.refl, w, .int _⟩
  stop := fun {μ S H} _ _ _ => by
    show n ≤ (rangeD lo n).length
    unfold rangeD
    rw [List.length_map, List.length_range]
    exact Nat.le_refl _
def dRng1 (fa : FA) : FI := fun ρ S Q Ed => fa ρ S (fun ds S1 => match ds with
  | [.int j] => (-(2 ^ 62) ≤ j ∧ j < 2 ^ 62) ∧ Q (rangeD 0 j.toNat, []) S1
  | _ => False) Ed
def dRng2 (fa : FA) : FI := fun ρ S Q Ed => fa ρ S (fun ds S1 => match ds with
  | [.int i, .int j] => (-(2 ^ 62) ≤ i ∧ i < 2 ^ 62 ∧ -(2 ^ 62) ≤ j ∧ j < 2 ^ 62) ∧ Q (rangeD i (j - i).toNat, []) S1
  | _ => False) Ed
theorem d_rng1 {a : Expr} {p pos : Pos} (hg : Gl X "range") (hm : X.mg "range" = none) (ha : PAd X E [a] fa) (hs : starEach [a] X.env = [(false, eval a X.env)] := by rfl) : PId X E tg (.Call (.Name "range" p) [a] [] pos) (dRng1 fa) := by
  refine PI.imp (pi_range1 hg hm ha hs) fun σ H R ⟨μ, S, ρ, Qi, Ed, w, en, hf, q, px⟩ => ?_
  refine tR_of w en hf px fun ds S1 vs H1 μ1 h1 f1 w1 en1 px1 r1 => ?_
  split at h1
  · obtain ⟨v, rfl, rv⟩ := r1.one
    cases rv.int_inv
    exact ⟨_, rfl, h1.1.1, h1.1.2, q _ S1 H1 μ1 _ _ h1.2 f1 w1 itr_ok trivial (fun _ z => nomatch z)⟩
  · exact h1.elim
theorem d_rng2 {a b : Expr} {p pos : Pos} (hg : Gl X "range") (hm : X.mg "range" = none) (ha : PAd X E [a, b] fa) (hs : starEach [a, b] X.env = [(false, eval a X.env), (false, eval b X.env)] := by rfl) (hs2 : starEach [b] X.env = [(false, eval b X.env)] := by rfl) : PId X E tg (.Call (.Name "range" p) [a, b] [] pos) (dRng2 fa) := by
  refine PI.imp (pi_range2 hg hm ha hs hs2) fun σ H R ⟨μ, S, ρ, Qi, Ed, w, en, hf, q, px⟩ => ?_
  refine tR_of w en hf px fun ds S1 vs H1 μ1 h1 f1 w1 en1 px1 r1 => ?_
  split at h1
  · obtain ⟨v, u, rfl, rv, ru⟩ := r1.two
    cases rv.int_inv
    cases ru.int_inv
    exact ⟨_, _, rfl, h1.1, q _ S1 H1 μ1 _ _ h1.2 f1 w1 itr_ok trivial (fun _ z => nomatch z)⟩
  · exact h1.elim
/-! ### enumerate -/
def enumD (xs : List D) : List D := xs.mapIdx fun i x => D.tup [.int (i : Int), x]
theorem enumD_get {xs : List D} {i : Nat} {d : D} (h : (enumD xs)[i]? = some d) : ∃ x, xs[i]? = some x ∧ d = .tup [.int (i : Int), x] := by
  unfold enumD at h
  rw [List.getElem?_mapIdx] at h
  obtain ⟨x, e1, rfl⟩ := Option.map_eq_some_iff.mp h
  exact ⟨x, e1, rfl⟩
theorem Wd.pair {c : Ct} {μ : Mu} {S : Sto} {H : Hp} (w : Wd c μ S H) {x y : V} {d e : D} (rx : Rp c μ H x d) (ry : Rp c μ H y e) {T : Addr} (hT : H T = none) : Fw μ H μ (upd H T (.tup [x, y])) ∧ Wd c μ S (upd H T (.tup [x, y])) ∧ Rp c μ (upd H T (.tup [x, y])) (.ref T) (.tup [d, e]) :=
  ⟨Fw.new hT, w.new hT, .tup upd_same (.cons (rx.fw w (Fw.new hT)) (.cons (ry.fw w (Fw.new hT)) .nil))⟩
theorem ite_ok {c : Ct} {S0 : Sto} {a : Addr} {d : D} {xs : List D} (hn : ∀ ys, d ≠ .tup ys) (e : seqOf S0 d = some xs) : ItOk c (Ite c.K a) (enumD xs) (srcOf S0 d) (fun μ H => Rp c μ H (.ref a) d) where
  keep := fun r k => r.kp k
  go := fun {μ S H} r w hs i x hx => by
    rcases r.seq2 w (srcOf_seq e hs) with ⟨_, _, rfl, _⟩ | ⟨b, vs, eb, hq, rs⟩
    · exact absurd rfl (hn _)
    cases eb
    obtain ⟨z, ez, rfl⟩ := enumD_get hx
    obtain ⟨v, ev, rv⟩ := rs.at ez
    refine ⟨⟨vs, v, hq, ev⟩, fun y H' hy => ?_⟩
    obtain ⟨T, u, rfl, hT, rfl, hy⟩ := hy
    have := hy vs hq
    rw [ev] at this
    cases this
    exact w.pair (.int _) rv hT
  stop := fun {μ S H} r w hs => by
    rcases r.seq2 w (srcOf_seq e hs) with ⟨_, _, rfl, _⟩ | ⟨b, vs, eb, hq, rs⟩
    · exact absurd rfl (hn _)
    cases eb
    refine ⟨vs, hq, ?_⟩
    unfold enumD
    rw [List.length_mapIdx, rs.length]
    exact Nat.le_refl _
theorem itE_ok {c : Ct} {a : Addr} {xs : List D} : ItOk c (Rb.ItE c.K a) (enumD xs) [] (fun μ H => Rp c μ H (.ref a) (.tup xs)) where
  keep := fun r k => r.kp k
  go := fun {μ S H} r w hs i x hx => by
    obtain ⟨b, vs, eb, ha, rs⟩ := r.tup_inv
    cases eb
    obtain ⟨z, ez, rfl⟩ := enumD_get hx
    obtain ⟨v, ev, rv⟩ := rs.at ez
    refine ⟨⟨vs, v, SqT.of ha, ev⟩, fun y H' hy => ?_⟩
    obtain ⟨T, u, rfl, hT, rfl, hy⟩ := hy
    have := hy vs (SqT.of ha)
    rw [ev] at this
    cases this
    exact w.pair (.int _) rv hT
  stop := fun {μ S H} r w hs => by
    obtain ⟨b, vs, eb, ha, rs⟩ := r.tup_inv
    cases eb
    refine ⟨vs, SqT.of ha, ?_⟩
    unfold enumD
    rw [List.length_mapIdx, rs.length]
def dEnT (fa : FA) : FI := fun ρ S Q Ed => fa ρ S (fun ds S1 => match ds with
  | [.tup xs] => Q (enumD xs, []) S1
  | _ => False) Ed
def dEnL (fa : FA) : FI := fun ρ S Q Ed => fa ρ S (fun ds S1 => match ds with
  | [d] => onSome (lstOf S1 d) fun xs => Q (enumD xs, srcOf S1 d) S1
  | _ => False) Ed
theorem lst_seq {S : Sto} {d : D} {xs : List D} (e : lstOf S d = some xs) : seqOf S d = some xs ∧ ∀ ys, d ≠ .tup ys := by
  cases d with
  | lst k ys => exact ⟨e, fun _ z => nomatch z⟩
  | cell n => exact ⟨e, fun _ z => nomatch z⟩
  | _ => cases e
theorem d_enT {elts : List Expr} {kk : Nat} {p pos tp : Pos} (hg : Gl X "enumerate") (hm : X.mg "enumerate" = none) (ha : PAd X E [e] fa) (hs : starEach [e] X.env = [(false, eval e X.env)] := by rfl) : PId X E (.Tuple elts kk tp) (.Call (.Name "enumerate" p) [e] [] pos) (dEnT fa) := by
  refine PI.imp (Rb.pi_enumT hg hm ha hs) fun σ H R ⟨μ, S, ρ, Qi, Ed, w, en, hf, q, px⟩ => ?_
  refine tR_of w en hf px fun ds S1 vs H1 μ1 h1 f1 w1 en1 px1 r1 => ?_
  split at h1
  · obtain ⟨v, rfl, rv⟩ := r1.one
    obtain ⟨a, ws, rfl, ha', rs⟩ := id rv.tup_inv
    exact ⟨a, ws, rfl, SqT.of ha', q _ S1 H1 μ1 _ _ h1 f1 w1 itE_ok rv (fun _ z => nomatch z)⟩
  · exact h1.elim
theorem d_enL {elts : List Expr} {kk : Nat} {p pos tp : Pos} (hg : Gl X "enumerate") (hm : X.mg "enumerate" = none) (ha : PAd X E [e] fa) (hs : starEach [e] X.env = [(false, eval e X.env)] := by rfl) : PId X E (.Tuple elts kk tp) (.Call (.Name "enumerate" p) [e] [] pos) (dEnL fa) := by
  refine PI.imp (pi_enum hg hm ha hs) fun σ H R ⟨μ, S, ρ, Qi, Ed, w, en, hf, q, px⟩ => ?_
  refine tR_of w en hf px fun ds S1 vs H1 μ1 h1 f1 w1 en1 px1 r1 => ?_
  split at h1
  · obtain ⟨v, rfl, rv⟩ := r1.one
    obtain ⟨xs, e1, hq⟩ := onSome_of h1
    obtain ⟨a, ws, rfl, hs, rs⟩ := rv.lstT w1 e1
    obtain ⟨e2, hn⟩ := lst_seq e1
    exact ⟨a, ws, rfl, SqL.of hs, q _ S1 H1 μ1 _ _ hq f1 w1 (ite_ok hn e2) rv (srcOf_ok e2)⟩
  · exact h1.elim
/-! ### zip -/
def zipD : List D → List D → List D
  | x :: xs, y :: ys => D.tup [x, y] :: zipD xs ys
  | _, _ => []
theorem zipD_get : ∀ {xs ys : List D} {i : Nat} {d : D}, (zipD xs ys)[i]? = some d → ∃ x y, xs[i]? = some x ∧ ys[i]? = some y ∧ d = .tup [x, y]
  | x :: xs, y :: ys, 0, d, h => by cases h; exact ⟨x, y, rfl, rfl, rfl⟩
  | x :: xs, y :: ys, i + 1, d, h => zipD_get (xs := xs) (ys := ys) (i := i) h
  | [], _, _, _, h => by cases h
  | _ :: _, [], _, _, h => by cases h
theorem zipD_len : ∀ {xs ys : List D}, xs.length ≤ (zipD xs ys).length ∨ ys.length ≤ (zipD xs ys).length
  | x :: xs, y :: ys => by
    rcases zipD_len (xs := xs) (ys := ys) with h | h
    · exact .inl (Nat.succ_le_succ h)
    · exact .inr (Nat.succ_le_succ h)
  | [], _ => .inl (Nat.zero_le _)
  | _ :: _, [] => .inr (Nat.zero_le _)
theorem itzT_ok {c : Ct} {a b : Addr} {xs ys : List D} : ItOk c (RZ.ItzT c.K a b) (zipD xs ys) [] (fun μ H => Rp c μ H (.ref a) (.tup xs) ∧ Rp c μ H (.ref b) (.tup ys)) where
  keep := fun r k => ⟨r.1.kp k, r.2.kp k⟩
  go := fun {μ S H} r w hs i x hx => by
    obtain ⟨a', vs, ea, ha, ra⟩ := r.1.tup_inv
    obtain ⟨b', us, eb, hb, rb⟩ := r.2.tup_inv
    cases ea
    cases eb
    obtain ⟨p, q, ep, eq, rfl⟩ := zipD_get hx
    obtain ⟨v, ev, rv⟩ := ra.at ep
    obtain ⟨u, eu, ru⟩ := rb.at eq
    refine ⟨⟨vs, us, v, u, SqT.of ha, SqT.of hb, ev, eu⟩, fun y H' hy => ?_⟩
    obtain ⟨T, v2, u2, rfl, hT, rfl, h1, h2⟩ := hy
    have := h1 vs (SqT.of ha)
    rw [ev] at this
    cases this
    have := h2 us (SqT.of hb)
    rw [eu] at this
    cases this
    exact w.pair rv ru hT
  stop := fun {μ S H} r w hs => by
    obtain ⟨a', vs, ea, ha, ra⟩ := r.1.tup_inv
    obtain ⟨b', us, eb, hb, rb⟩ := r.2.tup_inv
    cases ea
    cases eb
    exact ⟨vs, us, SqT.of ha, SqT.of hb, by rw [ra.length, rb.length]; exact zipD_len⟩
theorem itz_ok {c : Ct} {S0 : Sto} {a b : Addr} {d e : D} {xs ys : List D} (nd : ∀ zs, d ≠ .tup zs) (ne : ∀ zs, e ≠ .tup zs) (ed : seqOf S0 d = some xs) (ee : seqOf S0 e = some ys) :
    ItOk c (Itz c.K a b) (zipD xs ys) (srcOf S0 d ++ srcOf S0 e) (fun μ H => Rp c μ H (.ref a) d ∧ Rp c μ H (.ref b) e) where
  keep := fun r k => ⟨r.1.kp k, r.2.kp k⟩
  go := fun {μ S H} r w hs i x hx => by
    rcases r.1.seq2 w (srcOf_seq ed fun p hp => hs p (List.mem_append_left _ hp)) with ⟨_, _, rfl, _⟩ | ⟨a', vs, ea, ha, ra⟩
    · exact absurd rfl (nd _)
    rcases r.2.seq2 w (srcOf_seq ee fun p hp => hs p (List.mem_append_right _ hp)) with ⟨_, _, rfl, _⟩ | ⟨b', us, eb, hb, rb⟩
    · exact absurd rfl (ne _)
    cases ea
    cases eb
    obtain ⟨p, q, ep, eq, rfl⟩ := zipD_get hx
    obtain ⟨v, ev, rv⟩ := ra.at ep
    obtain ⟨u, eu, ru⟩ := rb.at eq
    refine ⟨⟨vs, us, v, u, ha, hb, ev, eu⟩, fun y H' hy => ?_⟩
    obtain ⟨T, v2, u2, rfl, hT, rfl, h1, h2⟩ := hy
    have := h1 vs ha
    rw [ev] at this
    cases this
    have := h2 us hb
    rw [eu] at this
    cases this
    exact w.pair rv ru hT
  stop := fun {μ S H} r w hs => by
    rcases r.1.seq2 w (srcOf_seq ed fun p hp => hs p (List.mem_append_left _ hp)) with ⟨_, _, rfl, _⟩ | ⟨a', vs, ea, ha, ra⟩
    · exact absurd rfl (nd _)
    rcases r.2.seq2 w (srcOf_seq ee fun p hp => hs p (List.mem_append_right _ hp)) with ⟨_, _, rfl, _⟩ | ⟨b', us, eb, hb, rb⟩
    · exact absurd rfl (ne _)
    cases ea
    cases eb
    exact ⟨vs, us, ha, hb, by rw [ra.length, rb.length]; exact zipD_len⟩
def dZip (fa : FA) : FI := fun ρ S Q Ed => fa ρ S (fun ds S1 => match ds with
  | [.tup xs, .tup ys] => Q (zipD xs ys, []) S1
  | [d, e] => onSome (lstOf S1 d) fun xs => onSome (lstOf S1 e) fun ys => Q (zipD xs ys, srcOf S1 d ++ srcOf S1 e) S1
  | _ => False) Ed
theorem d_zip {e2 : Expr} {elts : List Expr} {kk : Nat} {p pos tp : Pos} (hg : Gl X "zip") (hm : X.mg "zip" = none) (ha : PAd X E [e, e2] fa)
    (hs : starEach [e, e2] X.env = (false, eval e X.env) :: starEach [e2] X.env := by rfl) (hpl : (backTo pos (starEach [e2] X.env)).any (·.1) = false := by rfl) : PId X E (.Tuple elts kk tp) (.Call (.Name "zip" p) [e, e2] [] pos) (dZip fa) := by
  refine PI.imp (RZ.pi_zipA hg hm ha hs hpl) fun σ H R ⟨μ, S, ρ, Qi, Ed, w, en, hf, q, px⟩ => ?_
  refine tR_of w en hf px fun ds S1 vs H1 μ1 h1 f1 w1 en1 px1 r1 => ?_
  split at h1
  · obtain ⟨v, u, rfl, rv, ru⟩ := r1.two
    obtain ⟨a, ws, rfl, ha', rs⟩ := id rv.tup_inv
    obtain ⟨b, us, rfl, hb', rt⟩ := id ru.tup_inv
    exact ⟨a, b, ws, us, rfl, .inr ⟨SqT.of ha', SqT.of hb', q _ S1 H1 μ1 _ _ h1 f1 w1 itzT_ok ⟨rv, ru⟩ (fun _ z => nomatch z)⟩⟩
  · obtain ⟨v, u, rfl, rv, ru⟩ := r1.two
    obtain ⟨xs, e1, h1⟩ := onSome_of h1
    obtain ⟨ys, e2, hq⟩ := onSome_of h1
    obtain ⟨a, ws, rfl, hs1, rs⟩ := rv.lstT w1 e1
    obtain ⟨b, us, rfl, hs2, rt⟩ := ru.lstT w1 e2
    obtain ⟨e3, n3⟩ := lst_seq e1
    obtain ⟨e4, n4⟩ := lst_seq e2
    refine ⟨a, b, ws, us, rfl, .inl ⟨SqL.of hs1, SqL.of hs2, q _ S1 H1 μ1 _ _ hq f1 w1 (itz_ok n3 n4 e3 e4) ⟨rv, ru⟩ fun p hp => ?_⟩⟩
    rcases List.mem_append.mp hp with hp | hp
    · exact srcOf_ok e3 p hp
    · exact srcOf_ok e4 p hp
  · exact h1.elim
end
/-! ## for -/
def dLoop (g : FG) (fb : FS) (src : Src) : List D → FS
  | [], ρ, S, De, _ => De.nx ρ S
  | x :: xs, ρ, S, De, Ed => g x ρ S (fun ρ1 S1 => fb ρ1 S1 { nx := fun ρ2 S2 => srcOk src S2 (dLoop g fb src xs ρ2 S2 De Ed), ct := fun ρ2 S2 => srcOk src S2 (dLoop g fb src xs ρ2 S2 De Ed), bk := De.nx, rt := De.rt } Ed) Ed
def dFor (fi : FI) (g : FG) (fb : FS) : FS := fun ρ S De Ed => fi ρ S (fun is S1 => dLoop g fb is.2 is.1 ρ S1 De Ed) Ed
section
variable {X : Cx} {E : XK} {tg iter : Expr} {body : List Stmt} {fi : FI} {g : FG} {fb : FS} {pos : Pos}
theorem drop_cons {α : Type} {xs : List α} {i : Nat} {x : α} (h : xs[i]? = some x) : xs.drop i = x :: xs.drop (i + 1) := by
  obtain ⟨h1, h2⟩ := List.getElem?_eq_some_iff.mp h
  rw [List.drop_eq_getElem_cons h1, h2]
theorem d_for (hp : PassesOwn (model X.prog X.w) X.A X.env X.xe) (hc : X.calm = true) (hi : PId X (cE E) tg iter fi) (hg : PGd X E tg g) (hb : PBd X E body fb) (hs : ∀ x, foldedSetIterable iter X.env x = pure x := by intro _; rfl) : PSd X E (.For tg iter body [] pos) (dFor fi g fb) := by
  refine PS.imp (ps_for hp hc hi hg hb hs) fun D σ H ⟨μ, S, ρ, De, Ed, w, en, hf, k, px⟩ => ?_
  refine ⟨μ, S, ρ, _, Ed, w, en, hf, fun is S1 H1 μ1 J Anc h1 f1 w1 ok anc hsrc => ?_, px⟩
  obtain ⟨items, src⟩ := is
  refine ⟨fun i m σ' H' => m = items.length - i ∧ i ≤ items.length ∧ ∃ μ' S' ρ', Fw μ1 H1 μ' H' ∧ Wd (ct X) μ' S' H' ∧ EnvR (ct X) μ' H' σ' ρ' ∧ Anc μ' H' ∧ (∀ p ∈ src, S'[p.1]? = some (.lst p.2)) ∧ dLoop g fb src (items.drop i) ρ' S' De Ed,
    ⟨_, rfl, Nat.zero_le _, μ1, S1, ρ, Fw.refl, w1, en.fw w f1, anc, hsrc, h1⟩, ?_⟩
  rintro i m σ' H' ⟨rfl, hi, μ', S', ρ', f', w', en', anc', hs', h'⟩
  by_cases hlt : i < items.length
  · have hx := List.getElem?_eq_getElem hlt
    obtain ⟨go, yl⟩ := ok.go anc' w' hs' i _ hx
    rw [drop_cons hx] at h'
    refine .inr ⟨go, fun σ2 H2 => i + 1 ≤ items.length ∧ ∃ μ2 S2 ρ2, Fw μ1 H1 μ2 H2 ∧ Wd (ct X) μ2 S2 H2 ∧ EnvR (ct X) μ2 H2 σ2 ρ2 ∧ Anc μ2 H2 ∧ (∀ p ∈ src, S2[p.1]? = some (.lst p.2)) ∧ dLoop g fb src (items.drop (i + 1)) ρ2 S2 De Ed,
      fun σ2 H2 hN => ⟨_, by omega, rfl, hN.1, hN.2⟩, fun x H2 hy => ?_⟩
    obtain ⟨fy, wy, ry⟩ := yl x H2 hy
    refine ⟨μ', S', ρ', _, _, Ed, wy, en'.fw w' fy, ry, h', fun ρ3 S3 σ3 H3 μ3 h3 f3 w3 en3 => ?_, (px.fw f1).fw (f'.trans fy)⟩
    have ff := f1.trans (f'.trans (fy.trans f3))
    refine ⟨μ3, S3, ρ3, _, Ed, w3, en3, h3, ⟨fun ρ4 S4 σ4 H4 μ4 h4 f4 w4 en4 => ?_, k.rt.fw ff, fun ρ4 S4 σ4 H4 μ4 h4 f4 w4 en4 => k.nx ρ4 S4 σ4 H4 μ4 h4 (ff.trans f4) w4 en4, fun ρ4 S4 σ4 H4 μ4 h4 f4 w4 en4 => ?_⟩, px.fw ff⟩
    · obtain ⟨q1, q2⟩ := srcOk_iff.mp h4
      exact ⟨hlt, μ4, S4, ρ4, f'.trans (fy.trans (f3.trans f4)), w4, en4, ok.keep (ok.keep (ok.keep anc' (w'.kp fy)) (wy.kp f3)) (w3.kp f4), q1, q2⟩
    · obtain ⟨q1, q2⟩ := srcOk_iff.mp h4
      exact ⟨hlt, μ4, S4, ρ4, f'.trans (fy.trans (f3.trans f4)), w4, en4, ok.keep (ok.keep (ok.keep anc' (w'.kp fy)) (wy.kp f3)) (w3.kp f4), q1, q2⟩
  · have e : i = items.length := by omega
    subst e
    rw [List.drop_length] at h'
    exact .inl ⟨ok.stop anc' w' hs', k.nx ρ' S' σ' H' μ' h' (f1.trans f') w' en'⟩
end
end Pu
namespace Pu
open PySem PySem.Spec PyProof.Rows L2

/-! ## comprehensions -/
def noE : ED := fun _ _ => False
def dYes : FT := fun _ S Q _ => Q true S
def dCompL (st : D → Rho → Option Rho) (t : FT) (f : FE) (src : Src) : List D → List D → Rho → Sto → (List D → Sto → Prop) → Prop
  | [], acc, _, S, k => k acc S
  | x :: xs, acc, ρ, S, k => onSome (st x ρ) fun ρ1 => t ρ1 S (fun b S1 => if b = true then f ρ1 S1 (fun y S2 => srcOk src S2 (dCompL st t f src xs (acc ++ [y]) ρ S2 k)) noE else srcOk src S1 (dCompL st t f src xs acc ρ S1 k)) noE
def dLc (st : D → Rho → Option Rho) (t : FT) (f : FE) (fi : FI) : FE := fun ρ S Q Ed => fi ρ S (fun is S1 => is.1.length ≤ sizeLine ∧ dCompL st t f is.2 is.1 [] ρ S1 fun acc S2 => Q (.lst false acc) S2) Ed
/-- a list that will be changed -/
def dLcC (st : D → Rho → Option Rho) (t : FT) (f : FE) (fi : FI) : FE := fun ρ S Q Ed => fi ρ S (fun is S1 => is.1.length ≤ sizeLine ∧ dCompL st t f is.2 is.1 [] ρ S1 fun acc S2 => Q (.cell S2.length) (S2 ++ [.lst acc])) Ed
def st1 (j : Nat) : D → Rho → Option Rho := fun x ρ => some (ρ.set j (some x))
def st2 (i j : Nat) : D → Rho → Option Rho := fun x ρ => match x with
  | .tup [a, b] => some ((ρ.set i (some a)).set j (some b))
  | _ => none
/-- what the target does -/
def LcT (c : Ct) (g : TG) (st : D → Rho → Option Rho) (vs : List Nat) : Prop :=
  ∀ {μ : Mu} {S : Sto} {H : Hp} {σ : L2.St} {ρ ρ1 : Rho} {x : V} {d : D} {k : L2.St → Hp → Prop}, Wd c μ S H → EnvR c μ H σ ρ → Rp c μ H x d → st d ρ = some ρ1 → (∀ σ2, EnvR c μ H σ2 ρ1 → wipe σ2 vs = wipe σ vs → k σ2 H) → g x (wipe σ vs) H k
theorem lct1 {c : Ct} {j : Nat} : LcT c (gName j) (st1 j) [j] := by
  intro μ S H σ ρ ρ1 x d k w en r e h
  cases e
  show k ((σ.set j none).set j (some x)) H
  rw [List.set_set]
  exact h _ (en.set r) (by show ((σ.set j (some x)).set j none) = σ.set j none; rw [List.set_set])
theorem lct2 {c : Ct} {i j : Nat} (ne : i ≠ j) : LcT c (gTup c.K 2 (gCons (gName i) (gCons (gName j) gNil))) (st2 i j) [i, j] := by
  intro μ S H σ ρ ρ1 x d k w en r e h
  unfold st2 at e
  split at e
  · cases e
    obtain ⟨a, vs, rfl, ha, ra⟩ := r.tup_inv
    obtain ⟨u, v, rfl, ru, rv⟩ := ra.two
    refine ⟨a, [u, v], rfl, SqT.of ha, rfl, u, [v], rfl, v, [], rfl, rfl, ?_⟩
    show k ((((σ.set j none).set i none).set i (some u)).set j (some v)) H
    rw [List.set_set, List.set_comm none (some u) (Ne.symm ne), List.set_set]
    refine h _ ((en.set ru).set rv) ?_
    show ((((σ.set i (some u)).set j (some v)).set j none).set i none) = ((σ.set j none).set i none)
    rw [List.set_set, List.set_comm none none (Ne.symm ne), List.set_set, List.set_comm none none ne]
  · cases e
section
variable {c : Ct} {m av : List Addr} {D1 : Addr} {H : Hp} {S : Sto} {vs : List V}
theorem kpD {ws : List V} (hD : H D1 = some (.lst vs)) : Kp c ⟨m, D1 :: av⟩ H ⟨m, D1 :: av⟩ (upd H D1 (.lst ws)) where
  t := fun a xs e => by rw [upd_ne (fun z => by rw [z, hD] at e; cases e)]; exact e
  l := fun a xs e n1 n2 => by
    have ne : a ≠ D1 := fun z => n2 (by rw [z]; exact List.mem_cons_self)
    rcases e with e | ⟨o, e⟩
    · exact ⟨.inl (by rw [upd_ne ne]; exact e), n1, n2⟩
    · exact ⟨.inr ⟨o, by rw [upd_ne ne]; exact e⟩, n1, n2⟩
  m := fun a xs e n1 n2 => ⟨by rw [upd_ne (fun z => n2 (by rw [z]; exact List.mem_cons_self))]; exact e, n1, n2⟩
  d := fun a ps e n n2 => ⟨by rw [upd_ne (fun z => by rw [z, hD] at e; cases e)]; exact e, n, n2⟩
  i := fun a C dx fs e n n2 => ⟨by rw [upd_ne (fun z => by rw [z, hD] at e; cases e)]; exact e, n, n2⟩
  cl := fun _ _ h => h
  x := fun a fv e => by rw [upd_ne (fun z => by rw [z, hD] at e; cases e)]; exact e
theorem wdD {ws : List V} (w : Wd c ⟨m, D1 :: av⟩ S H) (hD : H D1 = some (.lst vs)) : Wd c ⟨m, D1 :: av⟩ S (upd H D1 (.lst ws)) :=
  ⟨w.nd, w.len, w.ap, fun a h => upd_some (w.avs a h), fun i a x h1 h2 => ClOk.kp (kpD hD) (fun o e => by
    rw [upd_ne (fun z => w.ap a (List.mem_of_getElem? h1) (by rw [z]; exact List.mem_cons_self))]
    exact e) (w.ok i a x h1 h2)⟩
theorem kpStart {μ : Mu} (hD : H D1 = none) : Kp c μ H ⟨μ.m, D1 :: μ.av⟩ (upd H D1 (.lst [])) := by
  have av2 : ∀ {a : Addr} {o : HO}, H a = some o → a ∉ μ.av → a ∉ D1 :: μ.av := fun e n z => by
    rcases List.mem_cons.mp z with z | z
    · exact ne_of_none e hD z
    · exact n z
  refine ⟨fun a xs e => ?_, fun a xs e n1 n2 => ?_, fun a xs e n1 n2 => ⟨?_, n1, av2 e n2⟩, fun a ps e n n2 => ⟨?_, n, av2 e n2⟩, fun a C dx fs e n n2 => ⟨?_, n, av2 e n2⟩, (fun _ _ h => h), fun a fv e => ?_⟩
  · rw [upd_ne (ne_of_none e hD)]; exact e
  · rcases e with e | ⟨o, e⟩
    · exact ⟨.inl (by rw [upd_ne (ne_of_none e hD)]; exact e), n1, av2 e n2⟩
    · exact ⟨.inr ⟨o, by rw [upd_ne (ne_of_none e hD)]; exact e⟩, n1, av2 e n2⟩
  · rw [upd_ne (ne_of_none e hD)]; exact e
  · rw [upd_ne (ne_of_none e hD)]; exact e
  · rw [upd_ne (ne_of_none e hD)]; exact e
  · rw [upd_ne (ne_of_none e hD)]; exact e
theorem wdStart {μ : Mu} (w : Wd c μ S H) (hD : H D1 = none) : Wd c ⟨μ.m, D1 :: μ.av⟩ S (upd H D1 (.lst [])) :=
  ⟨w.nd, w.len, fun a h z => by
    rcases List.mem_cons.mp z with z | z
    · exact w.fresh hD (z ▸ h)
    · exact w.ap a h z, fun a h => by
    rcases List.mem_cons.mp h with h | h
    · rw [h, upd_same]; exact fun z => nomatch z
    · exact upd_some (w.avs a h), fun i a x h1 h2 => ClOk.kp (kpStart hD) (fun o e => by rw [upd_ne (ne_of_none e hD)]; exact e) (w.ok i a x h1 h2)⟩
theorem kpEnd : Kp c ⟨m, D1 :: av⟩ H ⟨m, av⟩ H :=
  ⟨fun _ _ e => e, fun _ _ e n1 n2 => ⟨e, n1, fun z => n2 (List.mem_cons_of_mem _ z)⟩, fun _ _ e n1 n2 => ⟨e, n1, fun z => n2 (List.mem_cons_of_mem _ z)⟩, fun _ _ e n1 n2 => ⟨e, n1, fun z => n2 (List.mem_cons_of_mem _ z)⟩, fun _ _ _ _ e n1 n2 => ⟨e, n1, fun z => n2 (List.mem_cons_of_mem _ z)⟩, (fun _ _ h => h), fun _ _ e => e⟩
theorem kpEndC (hD : H D1 = some (.lst vs)) : Kp c ⟨m, D1 :: av⟩ H ⟨m ++ [D1], av⟩ H := by
  have nm : ∀ {a : Addr}, a ∉ m → a ≠ D1 → a ∉ m ++ [D1] := fun n1 n2 z => by
    rcases List.mem_append.mp z with z | z
    · exact n1 z
    · exact n2 (List.mem_singleton.mp z)
  have ne : ∀ {a : Addr}, a ∉ D1 :: av → a ≠ D1 := fun n z => n (by rw [z]; exact List.mem_cons_self)
  refine ⟨fun _ _ e => e, fun _ _ e n1 n2 => ⟨e, nm n1 (ne n2), fun z => n2 (List.mem_cons_of_mem _ z)⟩, fun _ _ e n1 n2 => ⟨e, nm n1 (ne n2), fun z => n2 (List.mem_cons_of_mem _ z)⟩, fun a _ e n1 n2 => ⟨e, nm n1 (ne n2), fun z => n2 (List.mem_cons_of_mem _ z)⟩,
    fun a _ _ _ e n1 n2 => ⟨e, nm n1 (ne n2), fun z => n2 (List.mem_cons_of_mem _ z)⟩, fun n a h => ?_, fun _ _ e => e⟩
  show (m ++ [D1])[n]? = some a
  rw [List.getElem?_append_left (List.getElem?_eq_some_iff.mp (show m[n]? = some a from h)).1]
  exact h
end
/-- the state of a comprehension: D1 the list that is made -/
def LcI (c : Ct) (μ1 : Mu) (H1 : Hp) (D1 : Addr) (σ : L2.St) (ρ : Rho) (Anc : Mu → Hp → Prop) (src : Src) (i : Nat) (go : List D → Sto → Prop) (H : Hp) : Prop :=
  ∃ m' S' acc vs, acc.length ≤ i ∧ Wd c ⟨m', D1 :: μ1.av⟩ S' H ∧ (∃ t, m' = μ1.m ++ t) ∧ (∀ a o, H1 a = some o → a ∉ μ1.m → H a = some o ∧ a ∉ m') ∧ H D1 = some (.lst vs) ∧ RpAll c ⟨m', D1 :: μ1.av⟩ H vs acc ∧
    EnvR c ⟨m', D1 :: μ1.av⟩ H σ ρ ∧ Anc ⟨m', D1 :: μ1.av⟩ H ∧ (∀ p ∈ src, S'[p.1]? = some (.lst p.2)) ∧ go acc S'
theorem pxNo {c : Ct} {μ : Mu} {H : Hp} {E : XK} : PX c μ H noE E := fun _ _ _ _ _ _ h => h.elim
theorem lc_W {c : Ct} {g : TG} {st : D → Rho → Option Rho} {t : FT} {f : FE} {vs : List Nat} {μ1 : Mu} {S1 : Sto} {H1 : Hp} {σ : L2.St} {ρ : Rho} {J : It} {items : List D} {src : Src} {Anc : Mu → Hp → Prop} {k : List D → Sto → Prop} {D1 : Addr} {Qd : Hp → Prop} {E : L2.St → XK}
    (hT : LcT c g st vs) (w1 : Wd c μ1 S1 H1) (en1 : EnvR c μ1 H1 σ ρ) (ok : ItOk c J items src Anc) (anc : Anc μ1 H1) (hsrc : ∀ p ∈ src, S1[p.1]? = some (.lst p.2)) (hz : items.length ≤ sizeLine)
    (h : dCompL st t f src items [] ρ S1 k) (nD : H1 D1 = none) (fin : ∀ H, LcI c μ1 H1 D1 σ ρ Anc src items.length k H → Qd H) :
    ∃ W : Nat → Nat → Hp → Prop, (∃ m, W 0 m (upd H1 D1 (.lst []))) ∧ ∀ i m H, W i m H →
      (J.stop i H ∧ Qd H) ∨ (J.go i H ∧ ∃ Nx : Hp → Prop, (∀ H', Nx H' → ∃ m', m' < m ∧ W (i + 1) m' H') ∧ ∀ x H', J.yld i H x H' → g x (wipe σ vs) H' fun σ2 H2 => wipe σ2 vs = wipe σ vs ∧ tT c E t σ2 H2 fun b H3 =>
        if b = true then tD c E f σ2 H3 fun y H4 => ∃ acc, H4 D1 = some (.lst acc) ∧ acc.length < sizeLine ∧ Nx (upd H4 D1 (.lst (acc ++ [y]))) else Nx H3) := by
  refine ⟨fun i m H => m = items.length - i ∧ i ≤ items.length ∧ LcI c μ1 H1 D1 σ ρ Anc src i (fun acc S => dCompL st t f src (items.drop i) acc ρ S k) H, ⟨_, rfl, Nat.zero_le _, ?_⟩, ?_⟩
  · refine ⟨μ1.m, S1, [], [], Nat.le_refl _, wdStart w1 nD, ⟨[], by simp⟩, fun a o e n => ⟨?_, n⟩, upd_same, .nil, en1.kp (kpStart nD), ok.keep anc (kpStart nD), hsrc, h⟩
    rw [upd_ne (ne_of_none e nD)]
    exact e
  · rintro i m H ⟨rfl, hi, m', S', acc, ws, hl, w, ⟨tt, em⟩, keep, hD, ra, en, anc', hs', h'⟩
    by_cases hlt : i < items.length
    · have hx := List.getElem?_eq_getElem hlt
      obtain ⟨go, yl⟩ := ok.go anc' w hs' i _ hx
      rw [drop_cons hx] at h'
      refine .inr ⟨go, fun H' => i + 1 ≤ items.length ∧ LcI c μ1 H1 D1 σ ρ Anc src (i + 1) (fun acc S => dCompL st t f src (items.drop (i + 1)) acc ρ S k) H', fun H' hN => ⟨_, by omega, rfl, hN.1, hN.2⟩, fun x H2 hy => ?_⟩
      obtain ⟨fy, wy, ry⟩ := yl x H2 hy
      obtain ⟨ρ1, e1, h1⟩ := onSome_of h'
      refine hT wy (en.fw w fy) ry e1 fun σ2 en2 hw => ⟨hw, ?_⟩
      refine tR_of wy en2 h1 pxNo fun b S3 b' H3 μ3 h3 f3 w3 en3 px3 r3 => ?_
      cases (r3 : b' = b)
      have nDm : ∀ {μ : Mu} {S : Sto} {HH : Hp}, Wd c μ S HH → μ.av = D1 :: μ1.av → D1 ∉ μ.m := fun wx ex z => wx.ap D1 z (by rw [ex]; exact List.mem_cons_self)
      have all3 : ∀ {μ4 : Mu} {H4 : Hp} {S4 : Sto}, Wd c μ4 S4 H4 → Fw ⟨m', D1 :: μ1.av⟩ H μ4 H4 → μ4 = ⟨μ4.m, D1 :: μ1.av⟩ ∧ (∃ t, μ4.m = μ1.m ++ t) ∧ (∀ a o, H1 a = some o → a ∉ μ1.m → H4 a = some o ∧ a ∉ μ4.m) ∧ H4 D1 = some (.lst ws) ∧ RpAll c μ4 H4 ws acc ∧ EnvR c μ4 H4 σ ρ ∧ Anc μ4 H4 := fun {μ4 H4 S4} w4 ff => by
        have eav : μ4.av = D1 :: μ1.av := ff.av
        refine ⟨by rw [← eav], ?_, fun a o e n => ?_, (ff.keep D1 _ hD (nDm w rfl)).1, ra.fw w ff, en.fw w ff, ok.keep anc' (w.kp ff)⟩
        · obtain ⟨t2, e2⟩ := ff.pre
          exact ⟨tt ++ t2, by rw [e2]; show m' ++ t2 = _; rw [em, List.append_assoc]⟩
        · obtain ⟨q1, q2⟩ := keep a o e n
          exact ff.keep a o q1 q2
      split
      · rename_i hb
        rw [if_pos hb] at h3
        refine tR_of w3 en3 h3 pxNo fun y S4 vy H4 μ4 h4 f4 w4 en4 px4 r4 => ?_
        obtain ⟨e4, t4, k4, D4, ra4, en4', anc4⟩ := all3 w4 (fy.trans (f3.trans f4))
        rw [e4] at w4 ra4 en4' anc4 r4
        obtain ⟨q1, q2⟩ := srcOk_iff.mp h4
        refine ⟨ws, D4, by rw [ra4.length]; omega, hlt, ?_⟩
        refine ⟨μ4.m, S4, acc ++ [y], ws ++ [vy], by rw [List.length_append]; show acc.length + 1 ≤ i + 1; omega, wdD w4 D4, t4, fun a o e n => ?_, upd_same, (ra4.append (.cons r4 .nil)).kp (kpD D4), en4'.kp (kpD D4), ok.keep anc4 (kpD D4), q1, q2⟩
        obtain ⟨z1, z2⟩ := k4 a o e n
        refine ⟨?_, z2⟩
        rw [upd_ne (ne_of_none e nD)]
        exact z1
      · rename_i hb
        rw [if_neg hb] at h3
        obtain ⟨e4, t4, k4, D4, ra4, en4', anc4⟩ := all3 w3 (fy.trans f3)
        rw [e4] at w3 ra4 en4' anc4
        obtain ⟨q1, q2⟩ := srcOk_iff.mp h3
        exact ⟨hlt, μ3.m, S3, acc, ws, by omega, w3, t4, k4, D4, ra4, en4', anc4, q1, q2⟩
    · have e : i = items.length := by omega
      subst e
      rw [List.drop_length] at h'
      exact .inl ⟨ok.stop anc' w hs', fin H ⟨m', S', acc, ws, hl, w, ⟨tt, em⟩, keep, hD, ra, en, anc', hs', h'⟩⟩
section
variable {X : Cx} {E : L2.St → XK} {elt tg iter : Expr} {ifs : List Expr} {scope : Scope} {own : List (Str × Nat)} {pos : Pos} {fi : FI} {g : TG} {st : D → Rho → Option Rho} {t : FT} {f : FE}
theorem d_tnil : PTs X [] (tT (ct X) E dYes) := ⟨fun pins s σ H Q I ⟨μ, S, ρ, Qd, Ed, w, en, hf, q, px⟩ => pts_nil.run pins s σ H Q I (q true S true H μ hf Fw.refl w rfl)⟩
theorem d_tone {c : Expr} (h : PTd X E c t) : PTs X [c] (tT (ct X) E t) := pts_one h
theorem lc_end {c : Ct} {μ μ1 : Mu} {S S1 : Sto} {H H1 : Hp} {σ : L2.St} {ρ : Rho} {Anc : Mu → Hp → Prop} {src : Src} {n : Nat} {Qd : QD} {Q : VK} {D1 : Addr} (q : ∀ d S' v H' μ', Qd d S' → Fw μ H μ' H' → Wd c μ' S' H' → Rp c μ' H' v d → Q v H') (f1 : Fw μ H μ1 H1) (w1 : Wd c μ1 S1 H1) (nD : H1 D1 = none)
    {H' : Hp} (h : LcI c μ1 H1 D1 σ ρ Anc src n (fun acc S2 => Qd (.lst false acc) S2) H') : Q (.ref D1) H' := by
  obtain ⟨m', S', acc, ws, hl, w, ⟨tt, em⟩, keep, hD, ra, en, anc', hs', h'⟩ := h
  have f2 : Fw μ1 H1 ⟨m', μ1.av⟩ H' := ⟨⟨tt, em⟩, rfl, keep⟩
  have nm : D1 ∉ m' := fun z => w.ap D1 z List.mem_cons_self
  refine q _ S' _ H' ⟨m', μ1.av⟩ h' (f1.trans f2) ⟨w.nd, w.len, fun a h z => w.ap a h (List.mem_cons_of_mem _ z), fun a h => w.avs a (List.mem_cons_of_mem _ h), fun i a x h1 h2 => ClOk.kp kpEnd (fun _ e => e) (w.ok i a x h1 h2)⟩ ?_
  exact .lst hD nm (fun z => w1.avs D1 z nD) (fun z => nomatch z) (ra.kp kpEnd)
theorem lc_endC {c : Ct} {μ μ1 : Mu} {S S1 : Sto} {H H1 : Hp} {σ : L2.St} {ρ : Rho} {Anc : Mu → Hp → Prop} {src : Src} {n : Nat} {Qd : QD} {Q : VK} {D1 : Addr} (q : ∀ d S' v H' μ', Qd d S' → Fw μ H μ' H' → Wd c μ' S' H' → Rp c μ' H' v d → Q v H') (f1 : Fw μ H μ1 H1) (w1 : Wd c μ1 S1 H1) (nD : H1 D1 = none)
    {H' : Hp} (h : LcI c μ1 H1 D1 σ ρ Anc src n (fun acc S2 => Qd (.cell S2.length) (S2 ++ [.lst acc])) H') : Q (.ref D1) H' := by
  obtain ⟨m', S', acc, ws, hl, w, ⟨tt, em⟩, keep, hD, ra, en, anc', hs', h'⟩ := h
  have nm : D1 ∉ m' := fun z => w.ap D1 z List.mem_cons_self
  have f2 : Fw μ1 H1 ⟨m' ++ [D1], μ1.av⟩ H' := ⟨⟨tt ++ [D1], by show m' ++ [D1] = _; rw [em, List.append_assoc]⟩, rfl, fun a o e n => ⟨(keep a o e n).1, fun z => by
    rcases List.mem_append.mp z with z | z
    · exact (keep a o e n).2 z
    · exact ne_of_none e nD (List.mem_singleton.mp z)⟩⟩
  have hlen : m'.length = S'.length := w.len
  refine q _ _ _ H' ⟨m' ++ [D1], μ1.av⟩ h' (f1.trans f2) ⟨?_, ?_, fun a h z => ?_, fun a h => w.avs a (List.mem_cons_of_mem _ h), fun i a x h1 h2 => ?_⟩ (.cell ?_)
  · show (m' ++ [D1]).Nodup
    rw [List.nodup_append]
    exact ⟨w.nd, by simp, fun a ha b hb e => nm (by rw [List.mem_singleton.mp hb] at e; exact e ▸ ha)⟩
  · show (m' ++ [D1]).length = (S' ++ [Cl.lst acc]).length
    rw [List.length_append, List.length_append, hlen]
    rfl
  · rcases List.mem_append.mp h with h | h
    · exact w.ap a h (List.mem_cons_of_mem _ z)
    · rw [List.mem_singleton.mp h] at z
      exact w1.avs D1 z nD
  · by_cases hi : i < m'.length
    · have h1' : m'[i]? = some a := by rw [← List.getElem?_append_left hi]; exact h1
      rw [List.getElem?_append_left (by omega)] at h2
      exact ClOk.kp (kpEndC hD) (fun _ e => e) (w.ok i a x h1' h2)
    · have h1' : (m' ++ [D1])[i]? = some a := h1
      have hi2 : i = m'.length := by
        have := (List.getElem?_eq_some_iff.mp h1').1
        simp at this
        omega
      subst hi2
      rw [List.getElem?_append_right (Nat.le_refl _), Nat.sub_self] at h1'
      cases h1'
      rw [List.getElem?_append_right (by omega), hlen, Nat.sub_self] at h2
      cases h2
      exact ⟨ws, hD, ra.kp (kpEndC hD)⟩
  · show (m' ++ [D1])[S'.length]? = some D1
    rw [← hlen, List.getElem?_append_right (Nat.le_refl _), Nat.sub_self]
    rfl
theorem d_lc (hT : LcT (ct X) g st (own.map (·.2))) (hc : X.calm = true) (hN : X.N.Nodup) (hi : PId X E tg iter fi) (ok : BlkOk X.N X.env.scope scope own)
    (hg : ∀ (s : Shared) (H : Hp) (C : Addr) (cl : List (Str × Addr)) (fp : List Addr), PG (X.blk s H scope (compEnvC scope cl C X.env) fp) tg g)
    (ht : ∀ (s : Shared) (H : Hp) (C : Addr) (cl : List (Str × Addr)) (fp : List Addr), PTs (X.blk s H scope (compEnvC scope cl C X.env) fp) ifs (tT (ct X) (cE E0) t))
    (he : ∀ (s : Shared) (H : Hp) (C : Addr) (cl : List (Str × Addr)) (fp : List Addr), PE (X.blk s H scope (compEnvC scope cl C X.env) fp) elt (tD (ct X) (cE E0) f)) (hs : ∀ x, foldedSetIterable iter X.env x = pure x := by intro _; rfl) :
    PEd X E (.ListComp elt [⟨tg, iter, ifs, 0⟩] scope pos) (dLc st t f fi) := by
  refine PE.imp (pe_lc hc hN hi ok hg ht he hs) fun σ H Q ⟨μ, S, ρ, Qd, Ed, w, en, hf, q, px⟩ => ?_
  refine ⟨μ, S, ρ, _, Ed, w, en, hf, fun is S1 H1 μ1 J Anc h1 f1 w1 ok' anc hsrc D1 nD => ?_, px⟩
  exact lc_W hT w1 (en.fw w f1) ok' anc hsrc h1.1 h1.2 nD fun H' h => lc_end (S := S) q f1 w1 nD h
theorem d_lcC (hT : LcT (ct X) g st (own.map (·.2))) (hc : X.calm = true) (hN : X.N.Nodup) (hi : PId X E tg iter fi) (ok : BlkOk X.N X.env.scope scope own)
    (hg : ∀ (s : Shared) (H : Hp) (C : Addr) (cl : List (Str × Addr)) (fp : List Addr), PG (X.blk s H scope (compEnvC scope cl C X.env) fp) tg g)
    (ht : ∀ (s : Shared) (H : Hp) (C : Addr) (cl : List (Str × Addr)) (fp : List Addr), PTs (X.blk s H scope (compEnvC scope cl C X.env) fp) ifs (tT (ct X) (cE E0) t))
    (he : ∀ (s : Shared) (H : Hp) (C : Addr) (cl : List (Str × Addr)) (fp : List Addr), PE (X.blk s H scope (compEnvC scope cl C X.env) fp) elt (tD (ct X) (cE E0) f)) (hs : ∀ x, foldedSetIterable iter X.env x = pure x := by intro _; rfl) :
    PEd X E (.ListComp elt [⟨tg, iter, ifs, 0⟩] scope pos) (dLcC st t f fi) := by
  refine PE.imp (pe_lc hc hN hi ok hg ht he hs) fun σ H Q ⟨μ, S, ρ, Qd, Ed, w, en, hf, q, px⟩ => ?_
  refine ⟨μ, S, ρ, _, Ed, w, en, hf, fun is S1 H1 μ1 J Anc h1 f1 w1 ok' anc hsrc D1 nD => ?_, px⟩
  exact lc_W hT w1 (en.fw w f1) ok' anc hsrc h1.1 h1.2 nD fun H' h => lc_endC (S := S) q f1 w1 nD h
/-- name = [..] on one row -/
theorem d_setLc {E2 : XK} {i : Nat} {y : Str} {py spos : Pos} (hT : LcT (ct X) g st (own.map (·.2))) (hc : X.calm = true) (hN : X.N.Nodup) (hy : X.N[i]? = some y) (hyl : X.env.scope.names.lookup y = some .local)
    (hsw : swapsWith (.ListComp elt [⟨tg, iter, ifs, 0⟩] scope pos) (some (.Name y py)) spos.line X.env = pure true) (hi : PId X (cE E2) tg iter fi) (ok : BlkOk X.N X.env.scope scope own)
    (hg : ∀ (s : Shared) (H : Hp) (C : Addr) (cl : List (Str × Addr)) (fp : List Addr), PG (X.blk s H scope (compEnvC scope cl C X.env) fp) tg g)
    (ht : ∀ (s : Shared) (H : Hp) (C : Addr) (cl : List (Str × Addr)) (fp : List Addr), PTs (X.blk s H scope (compEnvC scope cl C X.env) fp) ifs (tT (ct X) (cE E0) t))
    (he : ∀ (s : Shared) (H : Hp) (C : Addr) (cl : List (Str × Addr)) (fp : List Addr), PE (X.blk s H scope (compEnvC scope cl C X.env) fp) elt (tD (ct X) (cE E0) f)) (hs : ∀ x, foldedSetIterable iter X.env x = pure x := by intro _; rfl) :
    PSd X E2 (.Assign [.Name y py] (.ListComp elt [⟨tg, iter, ifs, 0⟩] scope pos) spos) (dAsg (dLc st t f fi) (gN i)) := by
  refine PS.imp (ps_setLc hc hN hy hyl hsw hi ok hg ht he hs) fun D σ H ⟨μ, S, ρ, De, Ed, w, en, hf, k, px⟩ => ?_
  refine ⟨μ, S, ρ, _, Ed, w, en, hf, fun is S1 H1 μ1 J Anc h1 f1 w1 ok' anc hsrc D1 nD => ?_, px⟩
  refine lc_W (Qd := fun H' => D.nx (σ.set i (some (.ref D1))) H') hT w1 (en.fw w f1) ok' anc hsrc h1.1 h1.2 nD fun H' h => ?_
  exact lc_end (S := S) (Q := fun v H' => D.nx (σ.set i (some v)) H') (fun d S' v H' μ' hq ff w' r => k.nx _ S' _ H' μ' (setK_eq (k := fun ρ' => De.nx ρ' S') hq) ff w' ((en.fw w ff).set r)) f1 w1 nD h
theorem d_setLcC {E2 : XK} {i : Nat} {y : Str} {py spos : Pos} (hT : LcT (ct X) g st (own.map (·.2))) (hc : X.calm = true) (hN : X.N.Nodup) (hy : X.N[i]? = some y) (hyl : X.env.scope.names.lookup y = some .local)
    (hsw : swapsWith (.ListComp elt [⟨tg, iter, ifs, 0⟩] scope pos) (some (.Name y py)) spos.line X.env = pure true) (hi : PId X (cE E2) tg iter fi) (ok : BlkOk X.N X.env.scope scope own)
    (hg : ∀ (s : Shared) (H : Hp) (C : Addr) (cl : List (Str × Addr)) (fp : List Addr), PG (X.blk s H scope (compEnvC scope cl C X.env) fp) tg g)
    (ht : ∀ (s : Shared) (H : Hp) (C : Addr) (cl : List (Str × Addr)) (fp : List Addr), PTs (X.blk s H scope (compEnvC scope cl C X.env) fp) ifs (tT (ct X) (cE E0) t))
    (he : ∀ (s : Shared) (H : Hp) (C : Addr) (cl : List (Str × Addr)) (fp : List Addr), PE (X.blk s H scope (compEnvC scope cl C X.env) fp) elt (tD (ct X) (cE E0) f)) (hs : ∀ x, foldedSetIterable iter X.env x = pure x := by intro _; rfl) :
    PSd X E2 (.Assign [.Name y py] (.ListComp elt [⟨tg, iter, ifs, 0⟩] scope pos) spos) (dAsg (dLcC st t f fi) (gN i)) := by
  refine PS.imp (ps_setLc hc hN hy hyl hsw hi ok hg ht he hs) fun D σ H ⟨μ, S, ρ, De, Ed, w, en, hf, k, px⟩ => ?_
  refine ⟨μ, S, ρ, _, Ed, w, en, hf, fun is S1 H1 μ1 J Anc h1 f1 w1 ok' anc hsrc D1 nD => ?_, px⟩
  refine lc_W (Qd := fun H' => D.nx (σ.set i (some (.ref D1))) H') hT w1 (en.fw w f1) ok' anc hsrc h1.1 h1.2 nD fun H' h => ?_
  exact lc_endC (S := S) (Q := fun v H' => D.nx (σ.set i (some v)) H') (fun d S' v H' μ' hq ff w' r => k.nx _ S' _ H' μ' (setK_eq (k := fun ρ' => De.nx ρ' S') hq) ff w' ((en.fw w ff).set r)) f1 w1 nD h
end
end Pu
namespace Pu
open PySem PySem.Spec PyProof.Rows L2

/-! ## defs and their calls -/
def spF (c : Ct) (F : FF) : Sp := fun vs H Q E => ∃ μ S ds Qd Ed, Wd c μ S H ∧ RpAll c μ H vs ds ∧ F ds S Qd Ed ∧ PostV c μ H Qd Q ∧ PX c μ H Ed E
/-- a call in which the callee sees all cells -/
def dCallW (F : FF) (fa : FA) : FE := fun ρ S Q Ed => fa ρ S (fun ds S1 => F ds S1 Q Ed) Ed
mutual
/-- it mentions no cell but the first k -/
def below (k : Nat) : D → Bool
  | .cell n => decide (n < k)
  | .tup xs => belowAll k xs
  | .lst _ xs => belowAll k xs
  | .kls xs => belowAll k xs
  | .ins _ fs => belowFs k fs
  | .exc _ fs => belowFs k fs
  | _ => true
def belowAll (k : Nat) : List D → Bool
  | [] => true
  | x :: xs => below k x && belowAll k xs
def belowFs (k : Nat) : List (Str × D) → Bool
  | [] => true
  | (_, x) :: xs => below k x && belowFs k xs
end
def Cl.below (k : Nat) : Cl → Bool
  | .lst xs => belowAll k xs
  | .ins _ fs => belowFs k fs
/-- a call in which the callee sees the first k cells -/
def dCall (k : Nat) (F : FF) (fa : FA) : FE := fun ρ S Q Ed => fa ρ S (fun ds S1 => (belowAll k ds = true ∧ (S1.take k).all (Cl.below k) = true) ∧
  F ds (S1.take k) (fun d S2 => S2.length = (S1.take k).length ∧ Q d (S2 ++ S1.drop k)) fun e S2 => S2.length = (S1.take k).length ∧ Ed e (S2 ++ S1.drop k)) Ed
section
variable {c : Ct} {μ : Mu} {H : Hp} {k : Nat}
def sub (μ : Mu) (k : Nat) : Mu := ⟨μ.m.take k, μ.m.drop k ++ μ.av⟩
theorem not_sub {a : Addr} (h1 : a ∉ μ.m) (h2 : a ∉ μ.av) : a ∉ (sub μ k).m ∧ a ∉ (sub μ k).av :=
  ⟨fun z => h1 (List.mem_of_mem_take z), fun z => by
    rcases List.mem_append.mp z with z | z
    · exact h1 (List.mem_of_mem_drop z)
    · exact h2 z⟩
theorem of_sub {a : Addr} (h1 : a ∉ (sub μ k).m) (h2 : a ∉ (sub μ k).av) : a ∉ μ.m ∧ a ∉ μ.av :=
  ⟨fun z => by
    rw [← List.take_append_drop k μ.m] at z
    rcases List.mem_append.mp z with z | z
    · exact h1 z
    · exact h2 (List.mem_append_left _ z), fun z => h2 (List.mem_append_right _ z)⟩
mutual
theorem Rp.sub : ∀ {v : V} {d : D}, Rp c μ H v d → below k d = true → Rp c (Pu.sub μ k) H v d
  | _, _, .non, _ => .non
  | _, _, .bl b, _ => .bl b
  | _, _, .int i, _ => .int i
  | _, _, .str x, _ => .str x
  | _, _, .tup h r, b => .tup h (RpAll.sub r b)
  | _, _, .lst h n1 n2 n3 r, b => .lst h (not_sub n1 n2).1 (not_sub n1 n2).2 n3 (RpAll.sub r b)
  | _, _, .kls h n1 n2 r, b => .kls h (not_sub n1 n2).1 (not_sub n1 n2).2 (RpAll.sub r b)
  | _, _, .klsK o its n h1 h2 h3 h4 h5 h6 r, b => .klsK o its n h1 h2 h3 h4 h5 h6 (RpAll.sub r b)
  | _, _, .dic h n n2, _ => .dic h (not_sub n n2).1 (not_sub n n2).2
  | _, _, .cell h, b => .cell (by
    show (μ.m.take k)[_]? = _
    rw [List.getElem?_take_of_lt (of_decide_eq_true b)]
    exact h)
  | _, _, .glo h r, _ => .glo h r
  | _, _, .ty n, _ => .ty n
  | _, _, .ins h n n2 g r, b => .ins h (not_sub n n2).1 (not_sub n n2).2 g (RpFs.sub r b)
  | _, _, .exc0 h g, _ => .exc0 h g
  | _, _, .exc1 h g e r, b => .exc1 h g e (RpFs.sub r b)
theorem RpAll.sub : ∀ {vs : List V} {ds : List D}, RpAll c μ H vs ds → belowAll k ds = true → RpAll c (Pu.sub μ k) H vs ds
  | _, _, .nil, _ => .nil
  | _, _, .cons h r, b => .cons (Rp.sub h (Bool.and_eq_true_iff.mp b).1) (RpAll.sub r (Bool.and_eq_true_iff.mp b).2)
theorem RpFs.sub : ∀ {vs : List (Str × V)} {ds : List (Str × D)}, RpFs c μ H vs ds → belowFs k ds = true → RpFs c (Pu.sub μ k) H vs ds
  | _, _, .nil, _ => .nil
  | _, _, .cons h r, b => .cons (Rp.sub h (Bool.and_eq_true_iff.mp b).1) (RpFs.sub r (Bool.and_eq_true_iff.mp b).2)
end
theorem Wd.disj {S : Sto} (w : Wd c μ S H) {a : Addr} (h1 : a ∈ μ.m.take k) (h2 : a ∈ μ.m.drop k) : False := by
  have nd := w.nd
  rw [← List.take_append_drop k μ.m, List.nodup_append] at nd
  exact nd.2.2 a h1 a h2 rfl
theorem Wd.sub {S : Sto} (w : Wd c μ S H) (hb : (S.take k).all (Cl.below k) = true) : Wd c (Pu.sub μ k) (S.take k) H := by
  refine ⟨?_, ?_, fun a h z => ?_, fun a h => ?_, fun i a x h1 h2 => ?_⟩
  · show (μ.m.take k).Nodup
    have nd := w.nd
    rw [← List.take_append_drop k μ.m, List.nodup_append] at nd
    exact nd.1
  · show (μ.m.take k).length = (S.take k).length
    rw [List.length_take, List.length_take, w.len]
  · rcases List.mem_append.mp z with z | z
    · exact w.disj h z
    · exact w.ap a (List.mem_of_mem_take h) z
  · rcases List.mem_append.mp h with h | h
    · obtain ⟨o, e, _⟩ := w.there (List.mem_of_mem_drop h)
      rw [e]
      exact fun z => nomatch z
    · exact w.avs a h
  · have hi : i < k := by
      have := (List.getElem?_eq_some_iff.mp (show (μ.m.take k)[i]? = some a from h1)).1
      rw [List.length_take] at this
      omega
    have e1 : μ.m[i]? = some a := by
      rw [← List.getElem?_take_of_lt hi]
      exact h1
    have e2 : S[i]? = some x := by
      rw [← List.getElem?_take_of_lt hi]
      exact h2
    have bx : Cl.below k x = true := List.all_eq_true.mp hb x (List.mem_of_getElem? h2)
    have o := w.ok i a x e1 e2
    cases x with
    | lst ds =>
      obtain ⟨vs, h3, h4⟩ := o
      exact ⟨vs, h3, h4.sub bx⟩
    | ins cn fs =>
      obtain ⟨C, dx, fv, h3, h4, h5⟩ := o
      exact ⟨C, dx, fv, h3, h4, h5.sub bx⟩
theorem kp_unsub : Kp c (Pu.sub μ k) H μ H := by
  have cl : ∀ (n : Nat) (a : Addr), (μ.m.take k)[n]? = some a → μ.m[n]? = some a := fun n a h => by
    have hi : n < k := by
      have := (List.getElem?_eq_some_iff.mp h).1
      rw [List.length_take] at this
      omega
    rw [← List.getElem?_take_of_lt hi]
    exact h
  exact ⟨fun _ _ e => e, fun _ _ e n1 n2 => ⟨e, (of_sub n1 n2).1, (of_sub n1 n2).2⟩, fun _ _ e n1 n2 => ⟨e, (of_sub n1 n2).1, (of_sub n1 n2).2⟩, fun _ _ e n1 n2 => ⟨e, (of_sub n1 n2).1, (of_sub n1 n2).2⟩, fun _ _ _ _ e n1 n2 => ⟨e, (of_sub n1 n2).1, (of_sub n1 n2).2⟩, cl, fun _ _ e => e⟩
/-- back from a callee that saw the first k cells -/
theorem Wd.back {S S2 : Sto} {H' : Hp} {μ' : Mu} (w : Wd c μ S H) (f : Fw (Pu.sub μ k) H μ' H') (w' : Wd c μ' S2 H') (hl : S2.length = (S.take k).length) :
    Fw μ H μ H' ∧ Wd c μ (S2 ++ S.drop k) H' ∧ μ' = Pu.sub μ k := by
  obtain ⟨t, e⟩ := f.pre
  have hmt : (μ.m.take k).length = (S.take k).length := by rw [List.length_take, List.length_take, w.len]
  have ht : t = [] := by
    have h1 := w'.len
    rw [e, List.length_append] at h1
    have h2 : (Pu.sub μ k).m.length = (S.take k).length := hmt
    have : t.length = 0 := by omega
    exact List.length_eq_zero_iff.mp this
  subst ht
  rw [List.append_nil] at e
  have em : μ' = Pu.sub μ k := by
    cases μ'
    cases e
    cases (show _ = (Pu.sub μ k).av from f.av)
    rfl
  subst em
  have fw : Fw μ H μ H' := ⟨⟨[], by simp⟩, rfl, fun a o ea na => ⟨(f.keep a o ea fun z => na (List.mem_of_mem_take z)).1, na⟩⟩
  refine ⟨fw, ⟨w.nd, ?_, w.ap, fun a h => ?_, fun i a x h1 h2 => ?_⟩, rfl⟩
  · rw [List.length_append, hl, List.length_take, List.length_drop, w.len]
    omega
  · exact w'.avs a (List.mem_append_right _ h)
  · by_cases hi : i < S2.length
    · rw [List.getElem?_append_left hi] at h2
      have hk : i < k := by rw [hl, List.length_take] at hi; omega
      have e1 : (Pu.sub μ k).m[i]? = some a := by
        show (μ.m.take k)[i]? = some a
        rw [List.getElem?_take_of_lt hk]
        exact h1
      exact ClOk.kp kp_unsub (fun _ z => z) (w'.ok i a x e1 h2)
    · have hge : S2.length ≤ i := by omega
      rw [List.getElem?_append_right hge, List.getElem?_drop] at h2
      have hlt : k + (i - S2.length) < S.length := (List.getElem?_eq_some_iff.mp h2).1
      have hl2 : S2.length = k := by rw [hl, List.length_take]; omega
      have ei : k + (i - S2.length) = i := by omega
      rw [ei] at h2
      have nt : a ∉ (Pu.sub μ k).m := fun z => by
        obtain ⟨j, hj, ej⟩ := List.getElem_of_mem (show a ∈ μ.m.take k from z)
        have hj2 : (μ.m.take k)[j]? = some a := List.getElem?_eq_some_iff.mpr ⟨hj, ej⟩
        have hjk : j < k := by rw [List.length_take] at hj; omega
        rw [List.getElem?_take_of_lt hjk] at hj2
        have := ix_uniq w.nd hj2 h1
        omega
      exact ClOk.kp (w.kp fw) (fun o eo => (f.keep a o eo nt).1) (w.ok i a x h1 h2)
end
section
variable {X : Cx} {cx : CXT} {lv : Nat} {fn : Addr} {dat : FuncData} {pars : List Str} {sp : Sp} {E : L2.St → XK} {nm : Str} {p1 p2 : Pos} {a0 : Expr} {as : List Expr} {ta : TA}
theorem passG : ∀ σ, PassesAt CX0 X σ (E σ) := fun _ _ _ _ _ _ _ z => z.elim
theorem runGS {pins : List (Addr × Obj)} {σ : L2.St} {H : Hp} {s : Shared} {Q : VK} {us : List Value} {xs : List V} {E1 : XK} (F : Rb.FnG X.prog X.w X.K X.mg X.base cx lv fn dat pars sp) (gd : X.A.guards = some []) (rm : Room lv X.A)
    (bi : Binds X.K dat pars []) (ps : PassesAt cx X σ E1) (I : Inv X pins σ H s) (vx : Vals xs us) (pro : sp xs H Q E1) :
    wpAny (model X.prog X.w) X.A (call (.ref fn) us) (EP X pins σ Q) X.xe s := by
  have l2 : (us ++ []).length = pars.length := by rw [List.append_nil]; exact vx.length ▸ F.many _ _ _ _ pro
  have b := bi s us I.kIn l2
  rw [List.append_nil] at b
  refine wpAny_call (codeAny_mono (F.goes X.A X.stack s H ⟨us, []⟩ us xs Q E1 rm gd I.env0 b vx pro) ?_)
  intro res s2 fin
  match res, fin with
  | .error e, fin => exact ps pins H s e s2 I fin
  | .ok (.ret u), fin => exact I.after fin
  | .ok .next, fin => exact (fin : False).elim
  | .ok .brk, fin => exact (fin : False).elim
  | .ok .cont, fin => exact (fin : False).elim
theorem pe_callGS (F : Rb.FnG X.prog X.w X.K X.mg X.base cx lv fn dat pars sp) (gd : X.A.guards = some []) (rm : Room lv X.A) (gl : Gl X nm) (at_ : X.mg nm = some (.ref fn)) (kp : PySem.W.keepIn X.K (.ref fn) = true)
    (bi : Binds X.K dat pars []) (ps : ∀ σ, PassesAt cx X σ (E σ)) (pa : PA X (a0 :: as) ta) (ndb : (nm == ("__debug__" : Str)) = false := by decide)
    (st1 : starEach (a0 :: as) X.env = (false, eval a0 X.env) :: starEach as X.env := by rfl) (st2 : (backTo p2 (starEach as X.env)).any (·.1) = false := by rfl) :
    PE X (.Call (.Name nm p1) (a0 :: as) [] p2) (tCallS sp E ta) := by
  constructor
  intro pins s σ H Q I pre
  refine wpAny_Call_Name_kw (ld_glob I gl at_ ?_ ndb)
  exact PySem.W.callWith_K (h₀ := X.base) I.ok.mod.kin kp (thn (pa.run p2 pins s σ H _ I pre) fun us s1 ⟨xs, H1, I1, rx, q1⟩ => ⟨I1.kIn, runGS F gd rm bi (ps σ) I1 rx q1⟩) st1 st2
end
section
variable {X : Cx} {E : L2.St → XK} {cx : CXT} {lv : Nat} {fn : Addr} {dat : FuncData} {pars : List Str} {nm : Str} {p1 p2 : Pos} {a0 : Expr} {as : List Expr} {FN : FF} {fa : FA}
theorem d_callW (F : Rb.FnG X.prog X.w X.K X.mg X.base cx lv fn dat pars (spF (ct X) FN)) (gd : X.A.guards = some []) (rm : Room lv X.A) (gl : Gl X nm) (at_ : X.mg nm = some (.ref fn)) (kp : PySem.W.keepIn X.K (.ref fn) = true)
    (bi : Binds X.K dat pars []) (ps : ∀ σ, PassesAt cx X σ (E σ)) (pa : PAd X E (a0 :: as) fa) (ndb : (nm == ("__debug__" : Str)) = false := by decide)
    (s1 : starEach (a0 :: as) X.env = (false, eval a0 X.env) :: starEach as X.env := by rfl) (s2 : (backTo p2 (starEach as X.env)).any (·.1) = false := by rfl) : PEd X E (.Call (.Name nm p1) (a0 :: as) [] p2) (dCallW FN fa) := by
  refine PE.imp (pe_callGS F gd rm gl at_ kp bi ps pa ndb s1 s2) fun σ H Q ⟨μ, S, ρ, Qd, Ed, w, en, hf, q, px⟩ => ?_
  refine tR_of w en hf px fun ds S1 vs H1 μ1 h1 f1 w1 en1 px1 r1 => ?_
  exact ⟨μ1, S1, ds, Qd, Ed, w1, r1, h1, PostV.fw q f1, px1⟩
theorem d_call (k : Nat) (F : Rb.FnG X.prog X.w X.K X.mg X.base cx lv fn dat pars (spF (ct X) FN)) (gd : X.A.guards = some []) (rm : Room lv X.A) (gl : Gl X nm) (at_ : X.mg nm = some (.ref fn)) (kp : PySem.W.keepIn X.K (.ref fn) = true)
    (bi : Binds X.K dat pars []) (ps : ∀ σ, PassesAt cx X σ (E σ)) (pa : PAd X E (a0 :: as) fa) (ndb : (nm == ("__debug__" : Str)) = false := by decide)
    (s1 : starEach (a0 :: as) X.env = (false, eval a0 X.env) :: starEach as X.env := by rfl) (s2 : (backTo p2 (starEach as X.env)).any (·.1) = false := by rfl) : PEd X E (.Call (.Name nm p1) (a0 :: as) [] p2) (dCall k FN fa) := by
  refine PE.imp (pe_callGS F gd rm gl at_ kp bi ps pa ndb s1 s2) fun σ H Q ⟨μ, S, ρ, Qd, Ed, w, en, hf, q, px⟩ => ?_
  refine tR_of w en hf px fun ds S1 vs H1 μ1 h1 f1 w1 en1 px1 r1 => ?_
  obtain ⟨⟨b1, b2⟩, h1⟩ := h1
  refine ⟨sub μ1 k, S1.take k, ds, _, _, w1.sub b2, r1.sub b1, h1, fun d S2 v H2 μ2 h2 f2 w2 r2 => ?_, fun e S2 cls dx H2 μ2 h2 f2 w2 r2 => ?_⟩
  · obtain ⟨f3, w3, rfl⟩ := w1.back f2 w2 h2.1
    exact q d _ v H2 μ1 h2.2 (f1.trans f3) w3 (r2.kp kp_unsub)
  · obtain ⟨f3, w3, rfl⟩ := w1.back f2 w2 h2.1
    refine px1 e _ cls dx H2 μ1 h2.2 f3 w3 ⟨r2.1, ?_⟩
    have r3 := r2.2
    split at r3
    · exact r3
    · obtain ⟨a, fv, z1, z2, z3⟩ := r3
      exact ⟨a, fv, z1, z2, z3.kp kp_unsub⟩
end
/-! ### what a def does -/
def startD (n : Nat) (ds : List D) : Rho := ds.map some ++ List.replicate (n - ds.length) none
theorem startD_env {c : Ct} {μ : Mu} {H : Hp} {N : List Str} {vs : List V} {ds : List D} (r : RpAll c μ H vs ds) : EnvR c μ H (L2.start N vs) (startD N.length ds) := by
  refine ⟨?_, fun i d h => ?_⟩
  · unfold L2.start startD
    rw [List.length_append, List.length_append, List.length_map, List.length_map, List.length_replicate, List.length_replicate, r.length]
  · unfold L2.start
    unfold startD at h
    have hl := r.length
    by_cases hi : i < ds.length
    · rw [List.getElem?_append_left (by rw [List.length_map]; exact hi), List.getElem?_map] at h
      obtain ⟨d', e1, e2⟩ := Option.map_eq_some_iff.mp h
      cases e2
      obtain ⟨v, e3, rv⟩ := r.at e1
      refine ⟨v, ?_, rv⟩
      rw [List.getElem?_append_left (by rw [List.length_map]; omega), List.getElem?_map, e3]
      rfl
    · rw [List.getElem?_append_right (by rw [List.length_map]; omega)] at h
      have := List.mem_of_getElem? h
      cases (List.mem_replicate.mp this).2
/-- a def without cells of its own, or one whose new cells stay -/
def dDef (np n : Nat) (fb : FS) : FF := fun ds S Q Ed => ds.length = np ∧ fb (startD n ds) S { nx := fun _ S' => Q .non S', rt := Q, bk := fun _ _ => False, ct := fun _ _ => False } noE
/-- .. that may raise -/
def dDefX (np n : Nat) (fb : FS) : FF := fun ds S Q Ed => ds.length = np ∧ fb (startD n ds) S { nx := fun _ S' => Q .non S', rt := Q, bk := fun _ _ => False, ct := fun _ _ => False } Ed
/-- a value that leaves a def whose cells, from n on, are gone -/
def frz (S : Sto) (n : Nat) : D → Option D
  | .cell k => if k < n then some (.cell k) else match S[k]? with
    | some (.lst xs) => if belowAll n xs = true then some (.lst false xs) else none
    | some (.ins x fs) => if belowFs n fs = true then some (.ins x fs) else none
    | none => none
  | d => if below n d = true then some d else none
/-- a def with cells of its own -/
def dDefC (np n : Nat) (fb : FS) : FF := fun ds S Q Ed => ds.length = np ∧ fb (startD n ds) S
  { nx := fun _ S' => ((S'.take S.length).length = S.length ∧ (S'.take S.length).all (Cl.below S.length) = true) ∧ Q .non (S'.take S.length),
    rt := fun d S' => ((S'.take S.length).length = S.length ∧ (S'.take S.length).all (Cl.below S.length) = true) ∧ onSome (frz S' S.length d) fun d' => Q d' (S'.take S.length), bk := fun _ _ => False, ct := fun _ _ => False } noE
section
variable {pr : Program} {wo : World} {K : PySem.W.Frag} {mg : Str → Option Value} {b0 : Heap} {lv : Nat} {x qn : Str} {st : Stmt} {fn : Addr} {dat : FuncData} {NN pars : List Str} {fb : FS}
theorem d_fn (F : Fun K x qn st fn dat) (S : FnScope NN pars (defScope st))
    (body : ∀ (cdv : Value) (A : Around) (out : List Env) (s : Shared) (H : Hp) (E : XK), A.guards = some [] → Room lv (A.deeper (envOfC qn (defScope st) s.heap.objs.size fn cdv)) → PBd (cxOf CX0 pr wo K mg b0 NN qn (defScope st) fn cdv A out s H E).nox E0 (defBody st) fb) :
    Rb.FnG pr wo K mg b0 CX0 (lv + 1) fn dat pars (spF (ct0 K mg) (dDef pars.length NN.length fb)) := by
  refine Rb.okG F S (fun xs H Q E pro => ?_) fun cdv A out s H xs Q E gd rm pro => ⟨_, body cdv A out s H E gd rm, ?_⟩
  · obtain ⟨μ, S, ds, Qd, Ed, w, r, ⟨hl, _⟩, _⟩ := pro
    rw [r.length]
    exact hl
  · obtain ⟨μ, S, ds, Qd, Ed, w, r, ⟨hl, h⟩, q, px⟩ := pro
    exact ⟨μ, S, _, _, noE, w, startD_env r, h, ⟨fun ρ' S' σ' H' μ' hq f w' en => q .non S' .non H' μ' hq f w' .non, q, fun _ _ _ _ _ z => z.elim, fun _ _ _ _ _ z => z.elim⟩, pxNo⟩
theorem Wd.drop {c : Ct} {μ μ' : Mu} {S S' : Sto} {H H' : Hp} (w : Wd c μ S H) (f : Fw μ H μ' H') (w' : Wd c μ' S' H') (hb : (S'.take S.length).all (Cl.below S.length) = true) :
    Fw μ H μ H' ∧ Wd c μ (S'.take S.length) H' ∧ (Kp c (Pu.sub μ' S.length) H' μ H') := by
  obtain ⟨t, e⟩ := f.pre
  have em : (Pu.sub μ' S.length).m = μ.m := by
    show μ'.m.take S.length = μ.m
    rw [e, ← w.len, List.take_append_of_le_length (Nat.le_refl _), List.take_length]
  have ws := w'.sub hb
  have av2 : ∀ {a : Addr}, a ∉ (Pu.sub μ' S.length).av → a ∉ μ.av := fun n z => n (List.mem_append_right _ (by rw [f.av]; exact z))
  have kp : Kp c (Pu.sub μ' S.length) H' μ H' := ⟨fun _ _ e => e, fun _ _ e n1 n2 => ⟨e, em ▸ n1, av2 n2⟩, fun _ _ e n1 n2 => ⟨e, em ▸ n1, av2 n2⟩, fun _ _ e n1 n2 => ⟨e, em ▸ n1, av2 n2⟩, fun _ _ _ _ e n1 n2 => ⟨e, em ▸ n1, av2 n2⟩, (fun n a h => by rw [← em]; exact h), fun _ _ e => e⟩
  refine ⟨⟨⟨[], by simp⟩, rfl, fun a o ea na => ⟨(f.keep a o ea na).1, na⟩⟩, ⟨w.nd, ?_, w.ap, fun a h => ?_, fun i a x h1 h2 => ClOk.kp kp (fun _ z => z) (ws.ok i a x (by rw [em]; exact h1) h2)⟩, kp⟩
  · rw [← em]; exact ws.len
  · exact ws.avs a (List.mem_append_right _ (by rw [f.av]; exact h))
theorem d_fnC (F : Fun K x qn st fn dat) (S : FnScope NN pars (defScope st))
    (body : ∀ (cdv : Value) (A : Around) (out : List Env) (s : Shared) (H : Hp) (E : XK), A.guards = some [] → Room lv (A.deeper (envOfC qn (defScope st) s.heap.objs.size fn cdv)) → PBd (cxOf CX0 pr wo K mg b0 NN qn (defScope st) fn cdv A out s H E).nox E0 (defBody st) fb) :
    Rb.FnG pr wo K mg b0 CX0 (lv + 1) fn dat pars (spF (ct0 K mg) (dDefC pars.length NN.length fb)) := by
  refine Rb.okG F S (fun xs H Q E pro => ?_) fun cdv A out s H xs Q E gd rm pro => ⟨_, body cdv A out s H E gd rm, ?_⟩
  · obtain ⟨μ, S, ds, Qd, Ed, w, r, ⟨hl, _⟩, _⟩ := pro
    rw [r.length]
    exact hl
  · obtain ⟨μ, S, ds, Qd, Ed, w, r, ⟨hl, h⟩, q, px⟩ := pro
    refine ⟨μ, S, _, _, noE, w, startD_env r, h, ⟨fun ρ' S' σ' H' μ' hq f w' en => ?_, fun d S' v H' μ' hq f w' rv => ?_, fun _ _ _ _ _ z => z.elim, fun _ _ _ _ _ z => z.elim⟩, pxNo⟩
    · obtain ⟨f2, w2, _⟩ := w.drop f w' hq.1.2
      exact q .non _ .non H' μ hq.2 f2 w2 .non
    · obtain ⟨⟨_, hb⟩, hq⟩ := hq
      obtain ⟨f2, w2, kp⟩ := w.drop f w' hb
      obtain ⟨d', e, hq⟩ := onSome_of hq
      refine q d' _ v H' μ hq f2 w2 ?_
      unfold frz at e
      split at e
      · rename_i k
        split at e
        · rename_i hk
          cases e
          exact (rv.sub (k := S.length) (decide_eq_true hk)).kp kp
        · rename_i hk
          cases rv with
          | @cell k2 a hm =>
          have hmem := List.mem_of_getElem? hm
          have nm : a ∉ μ.m := fun z => by
            obtain ⟨t, et⟩ := f.pre
            obtain ⟨j, hj, ej⟩ := List.getElem_of_mem z
            have hj2 : μ'.m[j]? = some (μ.m[j]) := by rw [et, List.getElem?_append_left hj]; exact List.getElem?_eq_getElem hj
            rw [ej] at hj2
            have := ix_uniq w'.nd hj2 hm
            have := w.len
            omega
          split at e
          · rename_i ys e1
            split at e
            · rename_i hb2
              cases e
              obtain ⟨vs, h1, h2⟩ := w'.ok k _ _ hm e1
              exact .lst h1 nm (fun z => w'.ap _ hmem (by rw [f.av]; exact z)) (fun z => nomatch z) ((h2.sub hb2).kp kp)
            · cases e
          · rename_i y gs e1
            split at e
            · rename_i hb2
              cases e
              obtain ⟨C, dx, fv, h1, h2, h3⟩ := w'.ok k _ _ hm e1
              exact .ins h1 nm (fun z => w'.ap _ hmem (by rw [f.av]; exact z)) h2 ((h3.sub hb2).kp kp)
            · cases e
          · cases e
      · split at e
        · rename_i hb2
          cases e
          exact (rv.sub hb2).kp kp
        · cases e
end
/-- from what the law's own meaning gives to the row's claim -/
theorem endP {l : PySem.W.OpenLaw} {n lv : Nat} {q : Program} {loose : List Str} {XP : (Str → Option Value) → Heap → Prop} {YP : World → Heap → Prop} {d : DefRec} {KK : Params → PySem.W.Frag} {FL : FF} {x : Str}
    (most : l.most = some n) (few : n ≤ sizeLine) (nodef : d.params.defaults = []) (rm : Room lv callerA) (inY : ∀ (w : World) (h : Heap), YP w h → (KK w.params).In h)
    (F : ∀ (w : World) (mg : Str → Option Value) (fn : Addr) (h : Heap), (KK w.params).In h → h.Ns mainGlobals mg → mg d.name = some (.ref fn) →
      ∃ dat : FuncData, (∀ (s : Shared) (u : Value), BindsTo s dat ⟨[u], []⟩ [(x, u)]) ∧ ∀ b0 : Heap, (KK w.params).In b0 → b0.Ns mainGlobals mg → Rb.FnG l.prog w (KK w.params) mg b0 CX0 lv fn dat [x] (spF (ct0 (KK w.params) mg) FL))
    (law : ∀ ns : List Int, ns.length ≤ n → FL [.kls (ns.map D.int)] [] (fun d _ => d = .bl true) noE) :
    PySem.W.WalkO q loose XP YP l.row.toRowW d [] (fun f vs => PySem.call f vs) := by
  refine Att.attach_call most nodef ?_
  intro w s0 s1 mg mb fn o pm cd dc a us ns G Y at_ dd cdd gm ob ia ln ge
  obtain ⟨dat, bi, ok⟩ := F w mg fn _ (inY w _ Y) G.T.g gm
  refine Rb.lawG (inY w _ Y) G.T.g G.T.b G.T.builtins G.T.nolimit ge ob ia (Nat.le_trans ln few) rm ok bi fun H sq => ?_
  refine ⟨⟨[], []⟩, [], _, _, noE, ⟨List.nodup_nil, rfl, (fun _ z => nomatch z), (fun _ z => nomatch z), fun _ _ _ z => nomatch z⟩, .cons ?_ .nil, law ns ln, fun d S' v H' μ' hq _ _ r => ?_, pxNo⟩
  · rcases sq with sq | ⟨o, its, k, h1, h2, h3, h4, h5, h6⟩
    · exact .kls sq (fun z => nomatch z) (fun z => nomatch z) (RpAll.ofInts ns)
    · exact .klsK o its k h1 h2 h3 h4 h5 h6 (RpAll.ofInts ns)
  · cases (hq : d = .bl true)
    exact r.bl_inv
end Pu
namespace Pu
open PySem PySem.Spec PyProof.Rows L2

/-! ## small dicts, list(range(n)), tuple(range(n)) -/
section
variable {X : Cx} {E : L2.St → XK} {pos : Pos} {a : Expr} {fe : FE}
theorem PostV.dic {c : Ct} {μ : Mu} {S : Sto} {H : Hp} {Qd : QD} {Q : VK} (q : PostV c μ H Qd Q) (w : Wd c μ S H) {ps : List (Str × Int)} (h : Qd (.dic ps) S) {p : Addr} (hp : H p = none) : Q (.ref p) (upd H p (.dK (Rb.dicV ps))) :=
  q _ S _ _ μ h (Fw.new hp) (w.new hp) (.dic upd_same (w.fresh hp) fun z => w.avs p z hp)
theorem d_dic0 : PEd X E (.Dict [] [] pos) (dC (.dic [])) :=
  PE.imp pe_dnewK fun σ H Q ⟨μ, S, ρ, Qd, Ed, w, en, hf, q, px⟩ p hp => PostV.dic (ps := []) q w hf hp
theorem d_dic1 {x : Str} {i : Int} {j k : Nat} {p1 p2 : Pos} : PEd X E (.Dict [some (.Constant (.str x) j p1)] [.Constant (.int i) k p2] pos) (dC (.dic [(x, i)])) := by
  refine PE.imp (pe_disp (pps_cons pe_str pe_int pps_nil) rfl rfl (by simp) (by show 1 ≤ 15; decide)) fun σ H Q ⟨μ, S, ρ, Qd, Ed, w, en, hf, q, px⟩ p hp => ?_
  refine ⟨upd_same, [(Sum.inr x, .int i)], rfl, by show 1 ≤ 15; decide, ?_⟩
  rw [upd_upd]
  exact PostV.dic (ps := [(x, i)]) q w hf hp
def rngOk (n : Int) : Prop := 0 ≤ n ∧ n ≤ 16777216
def dListR (fe : FE) : FE := fun ρ S Q Ed => fe ρ S (fun d S1 => match d with
  | .int n => rngOk n ∧ Q (.lst false (rangeD 0 n.toNat)) S1
  | _ => False) Ed
def dListRC (fe : FE) : FE := fun ρ S Q Ed => fe ρ S (fun d S1 => match d with
  | .int n => rngOk n ∧ Q (.cell S1.length) (S1 ++ [.lst (rangeD 0 n.toNat)])
  | _ => False) Ed
def dTupR (fe : FE) : FE := fun ρ S Q Ed => fe ρ S (fun d S1 => match d with
  | .int n => rngOk n ∧ Q (.tup (rangeD 0 n.toNat)) S1
  | _ => False) Ed
theorem rgV_rp {c : Ct} {μ : Mu} {H : Hp} (n : Int) : RpAll c μ H (rgV 0 n) (rangeD 0 n.toNat) := by
  unfold rgV rangeD
  rw [Int.sub_zero]
  have go : ∀ l : List Nat, RpAll c μ H (l.map fun i : Nat => V.int (0 + (i : Int))) (l.map fun i : Nat => D.int (0 + (i : Int))) := fun l => by
    induction l with
    | nil => exact .nil
    | cons x l ih => exact .cons (.int _) ih
  exact go _
theorem rngOk.of {n : Int} (h : rngOk n) : RgOk 0 n := RgOk.of_le (Int.le_refl _) h.2 (by decide) h.1
variable {p p2 p3 : Pos}
theorem d_listR (hc : X.calm = true) (hg : Gl X "list") (hm : X.mg "list" = none) (hg2 : Gl X "range") (hm2 : X.mg "range" = none) (ha : PEd X E a fe) (na : starEach [a] X.env = (false, eval a X.env) :: starEach [] X.env := by rfl)
    (ne : starEach [.Call (.Name "range" p2) [a] [] p3] X.env = (false, eval (.Call (.Name "range" p2) [a] [] p3) X.env) :: starEach [] X.env := by rfl) : PEd X E (.Call (.Name "list" p) [.Call (.Name "range" p2) [a] [] p3] [] pos) (dListR fe) := by
  refine PE.imp (pe_listRg hc hg hm (prg_1 hg2 hm2 ha na) ne) fun σ H Q ⟨μ, S, ρ, Qd, Ed, w, en, hf, q, px⟩ => ?_
  refine tR_of w en hf px fun d S1 v H1 μ1 h1 f1 w1 en1 px1 r1 => ?_
  split at h1
  · exact ⟨_, r1.int_inv, h1.1.of, fun z nz => PostV.lst (PostV.fw q f1) w1 (rgV_rp _) h1.2 nz⟩
  · exact h1.elim
theorem d_listRC (hc : X.calm = true) (hg : Gl X "list") (hm : X.mg "list" = none) (hg2 : Gl X "range") (hm2 : X.mg "range" = none) (ha : PEd X E a fe) (na : starEach [a] X.env = (false, eval a X.env) :: starEach [] X.env := by rfl)
    (ne : starEach [.Call (.Name "range" p2) [a] [] p3] X.env = (false, eval (.Call (.Name "range" p2) [a] [] p3) X.env) :: starEach [] X.env := by rfl) : PEd X E (.Call (.Name "list" p) [.Call (.Name "range" p2) [a] [] p3] [] pos) (dListRC fe) := by
  refine PE.imp (pe_listRg hc hg hm (prg_1 hg2 hm2 ha na) ne) fun σ H Q ⟨μ, S, ρ, Qd, Ed, w, en, hf, q, px⟩ => ?_
  refine tR_of w en hf px fun d S1 v H1 μ1 h1 f1 w1 en1 px1 r1 => ?_
  split at h1
  · exact ⟨_, r1.int_inv, h1.1.of, fun z nz => PostV.lay (PostV.fw q f1) w1 (rgV_rp _) h1.2 nz⟩
  · exact h1.elim
theorem d_tupR (hc : X.calm = true) (hg : Gl X "tuple") (hm : X.mg "tuple" = none) (hg2 : Gl X "range") (hm2 : X.mg "range" = none) (ha : PEd X E a fe) (na : starEach [a] X.env = (false, eval a X.env) :: starEach [] X.env := by rfl)
    (ne : starEach [.Call (.Name "range" p2) [a] [] p3] X.env = (false, eval (.Call (.Name "range" p2) [a] [] p3) X.env) :: starEach [] X.env := by rfl) : PEd X E (.Call (.Name "tuple" p) [.Call (.Name "range" p2) [a] [] p3] [] pos) (dTupR fe) := by
  refine PE.imp (pe_tupRg hc hg hm (prg_1 hg2 hm2 ha na) ne) fun σ H Q ⟨μ, S, ρ, Qd, Ed, w, en, hf, q, px⟩ => ?_
  refine tR_of w en hf px fun d S1 v H1 μ1 h1 f1 w1 en1 px1 r1 => ?_
  split at h1
  · exact ⟨_, r1.int_inv, h1.1.of, fun z nz => PostV.tup (PostV.fw q f1) w1 (rgV_rp _) h1.2 nz⟩
  · exact h1.elim
end
end Pu
namespace Pu
open PySem PySem.Spec PyProof.Rows L2

/-! ## code that is never come to -/
def dNever : FS := fun _ _ _ _ => False
section
variable {X : Cx} {E : XK} {st : Stmt}
theorem d_never : PSd X E st dNever := PS.imp ps_never fun D σ H ⟨μ, S, ρ, De, Ed, w, en, hf, k, px⟩ => hf
end
/-! ## sorted(set(t)), t a tuple of ints -/
/-- the members in ascending order -/
def uniq : List Int → List Int
  | [] => []
  | [x] => [x]
  | x :: y :: r => if x = y then uniq (y :: r) else x :: uniq (y :: r)
def srtU (ns : List Int) : List Int := uniq (Rb.srt ns)
theorem uniq_mem {z : Int} : ∀ {l : List Int}, z ∈ uniq l ↔ z ∈ l
  | [] => Iff.rfl
  | [x] => Iff.rfl
  | x :: y :: r => by
    have ih := uniq_mem (z := z) (l := y :: r)
    show z ∈ (if x = y then uniq (y :: r) else x :: uniq (y :: r)) ↔ _
    split
    · rename_i e
      rw [ih, e]
      simp
    · rw [List.mem_cons, ih, List.mem_cons (a := z) (b := x)]
theorem uniq_asc : ∀ {l : List Int}, l.Pairwise (· ≤ ·) → (uniq l).Pairwise (· < ·)
  | [], _ => .nil
  | [x], _ => by simp [uniq]
  | x :: y :: r, h => by
    have ih := uniq_asc (l := y :: r) (List.pairwise_cons.mp h).2
    show (if x = y then uniq (y :: r) else x :: uniq (y :: r)).Pairwise (· < ·)
    split
    · exact ih
    · rename_i ne
      refine List.pairwise_cons.mpr ⟨fun z hz => ?_, ih⟩
      have hz' := uniq_mem.mp hz
      have h1 := (List.pairwise_cons.mp h).1
      have hy := h1 y List.mem_cons_self
      have h2 := (List.pairwise_cons.mp (List.pairwise_cons.mp h).2).1
      rcases List.mem_cons.mp hz' with rfl | hz'
      · omega
      · have := h2 z hz'
        omega
theorem srtU_mem {ns : List Int} {z : Int} : z ∈ srtU ns ↔ z ∈ ns := by
  unfold srtU
  rw [uniq_mem]
  exact (Rb.srt_perm ns).mem_iff
theorem srtU_asc {ns : List Int} : (srtU ns).Pairwise (· < ·) := uniq_asc (Rb.srt_sorted ns)
theorem asc_ext : ∀ {l m : List Int}, l.Pairwise (· < ·) → m.Pairwise (· < ·) → (∀ z, z ∈ l ↔ z ∈ m) → l = m
  | [], [], _, _, _ => rfl
  | [], y :: m, _, _, h => by have := (h y).mpr List.mem_cons_self; cases this
  | x :: l, [], _, _, h => by have := (h x).mp List.mem_cons_self; cases this
  | x :: l, y :: m, hl, hm, h => by
    obtain ⟨l1, l2⟩ := List.pairwise_cons.mp hl
    obtain ⟨m1, m2⟩ := List.pairwise_cons.mp hm
    have exy : x = y := by
      have a := (h x).mp List.mem_cons_self
      have b := (h y).mpr List.mem_cons_self
      rcases List.mem_cons.mp a with a | a
      · exact a
      · rcases List.mem_cons.mp b with b | b
        · exact b.symm
        · have := m1 x a
          have := l1 y b
          omega
    subst exy
    rw [asc_ext l2 m2 fun z => ?_]
    constructor
    · intro hz
      have := l1 z hz
      rcases List.mem_cons.mp ((h z).mp (List.mem_cons_of_mem _ hz)) with e | e
      · omega
      · exact e
    · intro hz
      have := m1 z hz
      rcases List.mem_cons.mp ((h z).mpr (List.mem_cons_of_mem _ hz)) with e | e
      · omega
      · exact e
def rSetT (K : PySem.W.Frag) (w : World) : List V → Hp → VK → Prop := fun vs H Q => ∃ (a : Addr) (ns : List Int), vs = [V.ref a] ∧ SqT K H a (ns.map V.int) ∧ ns.length ≤ 60 ∧ ∀ (p : Addr) (c : Nat), c ≤ ns.length → H p = none → Q (.ref p) (upd H p (SetO w p (fun j => decide (j ∈ ns)) c))
theorem c_setT {X : Cx} (hc : X.calm = true) : CallR X (.type "set") (rSetT X.K X.w) := by
  intro pins s σ H vs us Q I r h
  obtain ⟨a, ns, rfl, hs, hz, q⟩ := h
  obtain ⟨its, rv, hl, _⟩ := I.tuple hs
  rw [Vals.ref1 r]
  refine call_set_tupI ns (I.ok.hd hc) (Rb.isTup_isTuple hl) (by simpa using rv.ints) (by unfold scanBound; omega) fun h' tk c R hcn k => ?_
  exact ⟨.ref s.heap.objs.size, _, I.laid (t' := tk) k (Nat.le_refl _) (setO_new R), rfl, q _ c hcn (I.hok.fresh (Nat.le_refl _))⟩
def dSrtSet (f : FE) : FE := fun ρ S Q Ed => f ρ S (fun d S1 => match d with
  | .tup xs => onSome (intsOf xs) fun ns => ns.length ≤ 60 ∧ Q (.lst false ((srtU ns).map D.int)) S1
  | _ => False) Ed
section
variable {X : Cx} {E : L2.St → XK} {a : Expr} {fe : FE} {p p2 p3 pos : Pos}
theorem d_srtSet (hc : X.calm = true) (hg : Gl X "sorted") (hm : X.mg "sorted" = none) (hg2 : Gl X "set") (hm2 : X.mg "set" = none) (ha : PEd X E a fe)
    (na : starEach [a] X.env = (false, eval a X.env) :: starEach [] X.env := by rfl) (ne : starEach [.Call (.Name "set" p2) [a] [] p3] X.env = (false, eval (.Call (.Name "set" p2) [a] [] p3) X.env) :: starEach [] X.env := by rfl)
    (nb1 : (backTo p3 (starEach [] X.env)).any (·.1) = false := by rfl) (nb2 : (backTo pos (starEach [] X.env)).any (·.1) = false := by rfl) : PEd X E (.Call (.Name "sorted" p) [.Call (.Name "set" p2) [a] [] p3] [] pos) (dSrtSet fe) := by
  refine PE.imp (pe_callB (cr_sortedSet hc) hg hm (show bootBuiltins "sorted" = some (.builtin "sorted") by decide +kernel) (pa_cons (pe_callTy (c_setT hc) hg2 hm2 (show bootBuiltins "set" = some (.type "set") by decide +kernel) (pa_cons ha pa_nil na) (by decide) (by decide) na nb1) pa_nil ne) (by decide) (by decide) ne nb2) fun σ H Q ⟨μ, S, ρ, Qd, Ed, w, en, hf, q, px⟩ => ?_
  refine tR_of w en hf px fun d S1 v H1 μ1 h1 f1 w1 en1 px1 r1 => ?_
  split at h1
  · obtain ⟨ns, e, hl, hq⟩ := onSome_of h1
    obtain ⟨b, vs, rfl, hb, rb⟩ := r1.tup_inv
    rw [intsOf_inv e] at rb
    rw [rb.ints] at hb
    refine ⟨b, ns, rfl, SqT.of hb, hl, fun p c hcn hp => ?_⟩
    refine ⟨p, _, c, rfl, upd_same, by omega, fun ms z h2 h3 h4 hz => ?_⟩
    have em : ms = srtU ns := asc_ext h2 srtU_asc fun k => by rw [h3 k, srtU_mem, decide_eq_true_eq]
    rw [em]
    exact PostV.lst (PostV.fw (PostV.fw q f1) (Fw.new hp)) (w1.new hp) (RpAll.ofInts _) hq hz
  · exact h1.elim
end
/-! ## defs with *rest -/
/-- all arguments; the callee gets the first n and a tuple of the others -/
def spR (c : Ct) (n : Nat) (F : FF) : Sp := fun vs H Q E => ∃ μ S ds Qd Ed, Wd c μ S H ∧ RpAll c μ H vs ds ∧ (n ≤ ds.length ∧ ds.length ≤ sizeLine) ∧ F (ds.take n ++ [.tup (ds.drop n)]) S Qd Ed ∧ PostV c μ H Qd Q ∧ PX c μ H Ed E
def dCallR (n : Nat) (F : FF) (fa : FA) : FE := fun ρ S Q Ed => fa ρ S (fun ds S1 => (n ≤ ds.length ∧ ds.length ≤ sizeLine) ∧ F (ds.take n ++ [.tup (ds.drop n)]) S1 Q Ed) Ed
section
variable {X : Cx} {E : L2.St → XK} {cx : CXT} {lv n : Nat} {fn : Addr} {nm : Str} {p1 p2 : Pos} {a0 : Expr} {as : List Expr} {FN : FF} {fa : FA}
theorem d_callR (F : FnR X.prog X.w X.K X.mg X.base cx lv fn (spR (ct X) n FN)) (rm : Room lv X.A) (gl : Gl X nm) (at_ : X.mg nm = some (.ref fn)) (kp : PySem.W.keepIn X.K (.ref fn) = true) (ps : ∀ σ, PassesAt cx X σ (E σ)) (pa : PAd X E (a0 :: as) fa)
    (ndb : (nm == ("__debug__" : Str)) = false := by decide) (s1 : starEach (a0 :: as) X.env = (false, eval a0 X.env) :: starEach as X.env := by rfl) (s2 : (backTo p2 (starEach as X.env)).any (·.1) = false := by rfl) : PEd X E (.Call (.Name nm p1) (a0 :: as) [] p2) (dCallR n FN fa) := by
  refine PE.imp (Rb.pe_callR (E := E) F rm gl at_ kp ps pa ndb s1 s2) fun σ H Q ⟨μ, S, ρ, Qd, Ed, w, en, hf, q, px⟩ => ?_
  refine tR_of w en hf px fun ds S1 vs H1 μ1 h1 f1 w1 en1 px1 r1 => ?_
  exact ⟨μ1, S1, ds, Qd, Ed, w1, r1, h1.1, h1.2, PostV.fw q f1, px1⟩
end
section
variable {pr : Program} {wo : World} {K : PySem.W.Frag} {mg : Str → Option Value} {b0 : Heap} {lv : Nat} {x qn pv : Str} {st : Stmt} {fn : Addr} {dat : FuncData} {NN pars : List Str} {fb : FS}
theorem d_fnR (F : Fun K x qn st fn dat) (S : FnScope NN (pars ++ [pv]) (defScope st)) (hb : ∀ us rest : List Value, us.length = pars.length → bindArgs dat ⟨us ++ rest, []⟩ = (newTuple rest >>= fun t => pure (pars.zip us ++ [(pv, t)])))
    (body : ∀ (cdv : Value) (A : Around) (out : List Env) (s : Shared) (H : Hp) (E : XK), Room lv (A.deeper (envOfC qn (defScope st) s.heap.objs.size fn cdv)) → PBd (cxOf CX0 pr wo K mg b0 NN qn (defScope st) fn cdv A out s H E).nox E0 (defBody st) fb) :
    FnR pr wo K mg b0 CX0 (lv + 1) fn (spR (ct0 K mg) pars.length (dDef (pars.length + 1) NN.length fb)) := by
  obtain ⟨oc, od, kV, dc, pm, an, cdv, ct, osl, rfl, at_, code⟩ := F.ex
  have go := StX.fn_star (P := pr) (w := wo) (mg := mg) (base := b0) (k := lv) (CX := CX0) (sp := spF (ct0 K mg) (dDef (pars.length + 1) NN.length fb)) at_ code S StX.cxUp_none hb fun A out s H vs Q E rm pro => ?_
  · refine go.imp fun vs H Q E pro => ?_
    obtain ⟨μ, S, ds, Qd, Ed, w, r, ⟨h1, h2⟩, h, q, px⟩ := pro
    have hl := r.length
    refine ⟨vs.take pars.length, vs.drop pars.length, (List.take_append_drop ..).symm, by rw [List.length_take]; omega, by rw [List.length_drop]; omega, fun p hp => ?_⟩
    have rt := (r.take pars.length).fw w (Fw.new (o := .tup (vs.drop pars.length)) hp)
    exact ⟨μ, S, _, Qd, Ed, w.new hp, rt.append (.cons (.tup upd_same ((r.drop pars.length).fw w (Fw.new hp))) .nil), h, q.fw (Fw.new hp), px.fw (Fw.new hp)⟩
  · refine ⟨_, (body cdv A out s H E rm).nox, ?_⟩
    obtain ⟨μ, S, ds, Qd, Ed, w, r, ⟨hl, h⟩, q, px⟩ := pro
    exact ⟨μ, S, _, _, noE, w, startD_env r, h, ⟨fun ρ' S' σ' H' μ' hq f w' en => q .non S' .non H' μ' hq f w' .non, q, fun _ _ _ _ _ z => z.elim, fun _ _ _ _ _ z => z.elim⟩, pxNo⟩
end
end Pu
namespace Pu
open PySem PySem.Spec PyProof.Rows L2
/-! ## a list != [], whatever its items are -/
def gNeE : G2 := fun x y S Q => onSome (lstOf S x) fun xs => lstOf S y = some [] ∧ Q (.bl (!xs.isEmpty)) S
theorem o_neE {X : Cx} (hu : X.A.units + 64 < cLine) : OpR X (compareOp .NotEq) (rD2 (ct X) gNeE) := by
  intro pins s σ H x y v u Q I rx ry ⟨μ, S, dx, dy, Qd, w, r1, r2, hg, q⟩
  obtain ⟨xs, e1, e2, hg⟩ := onSome_of hg
  obtain ⟨a, vs, rfl, ha, ra⟩ := r1.lstT w e1
  obtain ⟨b, us, rfl, hb, rb⟩ := r2.lstT w e2
  cases rb
  cases rx
  cases ry
  obtain ⟨its, rv, ⟨o, k, ho, hc, hd, _⟩, _⟩ := I.list (SqL.of ha)
  obtain ⟨its2, rv2, ⟨o2, k2, ho2, hc2, hd2, _⟩, _⟩ := I.list (SqL.of hb)
  have n1 : its.length = xs.length := by rw [← rv.length, ra.length]
  have n2 : its2.length = 0 := by rw [← rv2.length]; rfl
  have z2 : its2 = [] := List.length_eq_zero_iff.mp n2
  subst z2
  have hu' : X.A.units < cLine := by omega
  have go : SeqAt.RcNeAt X.A s (.ref a) (.ref b) (!xs.isEmpty) := by
    cases xs with
    | nil =>
      have z1 : its = [] := List.length_eq_zero_iff.mp n1
      subst z1
      exact SeqAt.RcNeAt.lists (e := fun _ => true) ⟨o, ho, hc, k, by assumption⟩ ⟨o2, ho2, hc2, k2, by assumption⟩ rfl hu' fun j h1 _ => absurd h1 (Nat.not_lt_zero _)
    | cons d ds =>
      exact SeqAt.RcNeAt.lists_lengths ⟨o, ho, hc, k, by assumption⟩ ⟨o2, ho2, hc2, k2, by assumption⟩ (by simp; intro z; rw [z] at n1; simp at n1) hu'
  exact go X.prog X.w _ _ ⟨.bl _, H, I, rfl, q.same w (.bl _) hg⟩
end Pu
namespace Pu
open PySem PySem.Spec PyProof.Rows L2
/-! ## min of a tuple or a list -/
theorem minOf_leastI : ∀ (ns : List Int) (n : Int), (PySem.W.minOf n ns ∈ n :: ns) ∧ ∀ q ∈ n :: ns, PySem.W.minOf n ns ≤ q
  | [], n => ⟨List.mem_cons_self, fun q hq => by
    rw [List.mem_singleton.mp hq]
    exact Int.le_refl _⟩
  | y :: ys, n => by
    have e : PySem.W.minOf n (y :: ys) = PySem.W.minOf (if PySem.W.DatumOrd.lt y n = true then y else n) ys := rfl
    rw [e]
    have l1 : (PySem.W.DatumOrd.lt y n = true) ↔ y < n := by
      show decide (y < n) = true ↔ _
      exact decide_eq_true_iff
    by_cases c : PySem.W.DatumOrd.lt y n = true
    · rw [if_pos c]
      obtain ⟨h1, h2⟩ := minOf_leastI ys y
      refine ⟨List.mem_cons_of_mem _ h1, fun q hq => ?_⟩
      rcases List.mem_cons.mp hq with rfl | hq
      · have a := h2 y List.mem_cons_self
        have b := l1.mp c
        omega
      · exact h2 q hq
    · rw [if_neg c]
      obtain ⟨h1, h2⟩ := minOf_leastI ys n
      refine ⟨?_, fun q hq => ?_⟩
      · rcases List.mem_cons.mp h1 with h | h
        · rw [h]; exact List.mem_cons_self
        · exact List.mem_cons_of_mem _ (List.mem_cons_of_mem _ h)
      · rcases List.mem_cons.mp hq with rfl | hq
        · exact h2 q List.mem_cons_self
        · rcases List.mem_cons.mp hq with rfl | hq
          · have a := h2 n List.mem_cons_self
            have b : ¬ q < n := fun z => c (l1.mpr z)
            omega
          · exact h2 q (List.mem_cons_of_mem _ hq)
def rMinT (K : PySem.W.Frag) : List V → Hp → VK → Prop := fun vs H Q => ∃ (a : Addr) (ns : List Int), vs = [V.ref a] ∧ SqT K H a (ns.map V.int) ∧ ns ≠ [] ∧ ∀ m, m ∈ ns → (∀ y ∈ ns, m ≤ y) → Q (.int m) H
theorem cr_minT {X : Cx} (hc : X.calm = true) (hu : X.A.units + 64 < cLine) : CallR X (.builtin "min") (rMinT X.K) := by
  intro pins s σ H vs us Q I r h
  obtain ⟨a, ns, rfl, hs, hne, q⟩ := h
  obtain ⟨its, rv, hl, _⟩ := I.tuple hs
  rw [Vals.ref1 r]
  cases ns with
  | nil => exact absurd rfl hne
  | cons n ns =>
    obtain ⟨as, ra⟩ := Dp.readsAll I _ _ its (Rb.DpAll.ints (K := X.K) (n :: ns)) rv
    refine PySem.W.min_tuple_datum (α := Int) (x := n) (xs := ns) (I.ok.hd hc) (Rb.isTup_isTuple hl) ⟨as, ra⟩ (by show X.A.units + 1 + 0 < _; omega) fun i v h' tk hi hv hk => ?_
    obtain ⟨hm, hle⟩ := minOf_leastI ns n
    obtain ⟨cs, rm⟩ := hv
    have rm' : Reads h' v (.int (PySem.W.minOf n ns)) cs := rm
    cases rm' with
    | int _ t => exact ⟨.int _, H, I.kept hk, ⟨t, rfl⟩, q _ hm hle⟩
section
variable {X : Cx}
theorem c_min (hc : X.calm = true) (hu : X.A.units + 64 < cLine) : CallR X (.builtin "min") (rDs (ct X) gMin) := by
  intro pins s σ H vs us Q I r ⟨μ, S, ds, Qd, w, ra, hg, q⟩
  unfold gMin at hg
  split at hg
  · obtain ⟨v, u, rfl, rv, ru⟩ := ra.two
    cases rv.int_inv
    cases ru.int_inv
    exact call_min2 hc pins s σ H _ us Q I r ⟨_, _, rfl, q.same w (.int _) hg⟩
  · obtain ⟨v, rfl, rv⟩ := ra.one
    obtain ⟨xs, e, hg⟩ := onSome_of hg
    obtain ⟨ns, e2, ne, hg⟩ := onSome_of hg
    obtain ⟨a, ws, rfl, hs, rs⟩ := rv.seq w e
    rw [intsOf_inv e2] at rs
    rw [rs.ints] at hs
    have fin : ∀ m, m ∈ ns → (∀ y ∈ ns, m ≤ y) → Q (.int m) H := fun m h1 h2 => by
      rw [minL_uniq h1 h2]
      exact q.same w (.int _) hg
    rcases hs with hs | hs
    · exact cr_min hc pins s σ H _ us Q I r ⟨a, ns, rfl, hs, List.length_pos_iff.mpr ne, fun m h1 h2 => fin m h1 h2⟩
    · exact cr_minT hc hu pins s σ H _ us Q I r ⟨a, ns, rfl, hs, ne, fin⟩
  · exact hg.elim
end
/-! ## while -/
def dWhile (t : FT) (fb : FS) : FS := fun ρ S De Ed => ∃ W : Nat → Rho → Sto → Prop, (∃ m, W m ρ S) ∧ ∀ m ρ S, W m ρ S →
  t ρ S (fun b S1 => if b = true then fb ρ S1 { nx := fun ρ' S' => ∃ m', m' < m ∧ W m' ρ' S', ct := fun ρ' S' => ∃ m', m' < m ∧ W m' ρ' S', bk := De.nx, rt := De.rt } Ed else De.nx ρ S1) Ed
theorem d_while {X : Cx} {E : XK} {c : Expr} {body : List Stmt} {pos : Pos} {t : FT} {fb : FS} (hp : PassesOwn (model X.prog X.w) X.A X.env X.xe) (hc : PTd X (cE E) c t) (hb : PBd X E body fb) : PSd X E (.While c body [] pos) (dWhile t fb) := by
  refine PS.imp (ps_while hp hc hb) fun D σ H ⟨μ, S, ρ, De, Ed, w, en, ⟨W, ⟨m0, hm0⟩, turn⟩, k, px⟩ => ?_
  refine ⟨fun m σ' H' => ∃ μ' S' ρ', Fw μ H μ' H' ∧ Wd (ct X) μ' S' H' ∧ EnvR (ct X) μ' H' σ' ρ' ∧ W m ρ' S', ⟨m0, μ, S, ρ, Fw.refl, w, en, hm0⟩, ?_⟩
  rintro m σ' H' ⟨μ', S', ρ', f', w', en', hw⟩
  refine tR_of w' en' (turn m ρ' S' hw) (px.fw f') fun b S1 v H1 μ1 h1 f1 w1 en1 px1 r1 => ?_
  cases (r1 : v = b)
  have ff := f'.trans f1
  split
  · rename_i hv
    rw [if_pos hv] at h1
    refine ⟨fun σ2 H2 => ∃ m', m' < m ∧ ∃ μ2 S2 ρ2, Fw μ H μ2 H2 ∧ Wd (ct X) μ2 S2 H2 ∧ EnvR (ct X) μ2 H2 σ2 ρ2 ∧ W m' ρ2 S2, fun σ2 H2 h => h, ?_⟩
    refine ⟨μ1, S1, ρ', _, Ed, w1, en1, h1, ⟨fun ρ4 S4 σ4 H4 μ4 h4 f4 w4 en4 => ?_, k.rt.fw ff, fun ρ4 S4 σ4 H4 μ4 h4 f4 w4 en4 => k.nx ρ4 S4 σ4 H4 μ4 h4 (ff.trans f4) w4 en4, fun ρ4 S4 σ4 H4 μ4 h4 f4 w4 en4 => ?_⟩, px1⟩
    · obtain ⟨m', hm', hw'⟩ := h4
      exact ⟨m', hm', μ4, S4, ρ4, ff.trans f4, w4, en4, hw'⟩
    · obtain ⟨m', hm', hw'⟩ := h4
      exact ⟨m', hm', μ4, S4, ρ4, ff.trans f4, w4, en4, hw'⟩
  · rename_i hv
    rw [if_neg hv] at h1
    exact k.nx ρ' S1 σ' H1 μ1 h1 ff w1 en1
/-! ## remove, extend, pop() on a list that is a cell -/
def gRemove : GM := fun x ds S Q => match ds with
  | [.int i] => onSome (cellOf S x) fun nx => onSome (intsOf nx.2) fun ns => onSome (ns.findIdx? fun y => decide (y = i)) fun j => Q .non (S.set nx.1 (.lst ((ns.eraseIdx j).map D.int)))
  | _ => False
def gExtend : GM := fun x ds S Q => match ds with
  | [d] => onSome (cellOf S x) fun nx => onSome (lstOf S d) fun zs => nx.2.length + zs.length ≤ sizeLine ∧ Q .non (S.set nx.1 (.lst (nx.2 ++ zs)))
  | _ => False
theorem erase_mapD : ∀ (l : List Int) (j : Nat), (l.map D.int).eraseIdx j = (l.eraseIdx j).map D.int
  | [], j => by simp
  | a :: r, 0 => by simp
  | a :: r, j + 1 => congrArg (D.int a :: ·) (erase_mapD r j)
section
variable {X : Cx}
theorem m_remove : MtR X "list.remove" (rDm (ct X) gRemove) := by
  intro pins s σ H x xs v us Q I rx rs ⟨μ, S, d, ds, Qd, w, r1, ra, hg, q⟩
  unfold gRemove at hg
  split at hg
  · rename_i i
    obtain ⟨y, rfl, ry⟩ := ra.one
    cases ry.int_inv
    obtain ⟨⟨n, zs⟩, e, hg⟩ := onSome_of hg
    obtain ⟨ns, e2, hg⟩ := onSome_of hg
    obtain ⟨j, e3, hg⟩ := onSome_of hg
    obtain ⟨a, vs, rfl, hm, ha, rz⟩ := w.cellL r1 e
    obtain ⟨jl, j1, j2⟩ := List.findIdx?_eq_some_iff_getElem.mp e3
    have ez : zs = ns.map D.int := intsOf_inv e2
    subst ez
    have ev := rz.ints
    subst ev
    have re := rz.erase j
    have eq1 : (ns.map V.int).eraseIdx j = (ns.eraseIdx j).map V.int := erase_mapI ns j
    have eq2 : (ns.map D.int).eraseIdx j = (ns.eraseIdx j).map D.int := erase_mapD ns j
    rw [eq1, eq2] at re
    refine mt_remove pins s σ H _ _ v us Q I rx rs ⟨a, ns, i, j, rfl, rfl, ha, ?_, fun m hm2 z => ?_, q.cell w hm re .non hg⟩
    · rw [List.getElem?_eq_getElem jl]
      exact congrArg some (of_decide_eq_true j1)
    · have ml : m < ns.length := by omega
      rw [List.getElem?_eq_getElem ml] at z
      exact j2 m hm2 (decide_eq_true (Option.some.inj z))
  · exact hg.elim
theorem m_extend : MtR X "list.extend" (rDm (ct X) gExtend) := by
  intro pins s σ H x xs v us Q I rx rs ⟨μ, S, d, ds, Qd, w, r1, ra, hg, q⟩
  unfold gExtend at hg
  split at hg
  · obtain ⟨y, rfl, ry⟩ := ra.one
    obtain ⟨⟨n, zs⟩, e, hg⟩ := onSome_of hg
    obtain ⟨ys, e2, hz, hg⟩ := onSome_of hg
    obtain ⟨a, vs, rfl, hm, ha, rz⟩ := w.cellL r1 e
    obtain ⟨b, ws, rfl, hb, rb⟩ := ry.lstT w e2
    exact mt_extend pins s σ H _ _ v us Q I rx rs ⟨a, b, vs, ws, rfl, rfl, ha, hb, by rw [rz.length, rb.length]; exact hz, q.cell w hm (rz.append rb) .non hg⟩
  · exact hg.elim
end
/-! ## repr and == that are not looked into -/
@[irreducible] def iRepr : List D → Sto → QD → Prop := gRepr
@[irreducible] def iEqB (neg : Bool) : G2 := gEqB neg
abbrev iEq : G2 := iEqB false
abbrev iNe : G2 := iEqB true
theorem iRepr_of {ds : List D} {S : Sto} {Q : QD} (h : gRepr ds S Q) : iRepr ds S Q := by
  unfold iRepr
  exact h
theorem iEqB_of {neg : Bool} {x y : D} {S : Sto} {Q : QD} (h : gEqB neg x y S Q) : iEqB neg x y S Q := by
  unfold iEqB
  exact h
theorem eq_str {neg : Bool} {a b : Str} {S : Sto} {Q : QD} (q : Q (.bl (nb neg (decide (a = b)))) S) : iEqB neg (.str a) (.str b) S Q := iEqB_of q
theorem eq_int {neg : Bool} {a b : Int} {S : Sto} {Q : QD} (q : Q (.bl (nb neg (decide (a = b)))) S) : iEqB neg (.int a) (.int b) S Q := iEqB_of q
theorem ne_str {neg : Bool} {a b : Str} {S : Sto} {Q : QD} (e : a = b) (q : Q (.bl (nb neg true)) S) : iEqB neg (.str a) (.str b) S Q := eq_str (by rw [decide_eq_true e]; exact q)
theorem ne_int {neg : Bool} {a b : Int} {S : Sto} {Q : QD} (e : a = b) (q : Q (.bl (nb neg true)) S) : iEqB neg (.int a) (.int b) S Q := eq_int (by rw [decide_eq_true e]; exact q)
section
variable {X : Cx}
theorem c_irepr (hg : X.A.guards = some []) (hu : X.A.units + 64 < cLine) : CallR X (.builtin "repr") (rDs (ct X) iRepr) := by
  unfold iRepr
  exact c_repr hg hu
theorem o_ieq (hu : X.A.units + 64 < cLine) : OpR X (compareOp .Eq) (rD2 (ct X) iEq) := by
  unfold iEq iEqB
  exact o_eq hu
theorem o_ine (hu : X.A.units + 64 < cLine) : OpR X (compareOp .NotEq) (rD2 (ct X) iNe) := by
  unfold iNe iEqB
  exact o_ne hu
end
/-! ## enumerate of a tuple or of a list -/
theorem PI.or {X : Cx} {tg e : Expr} {t t' : TI} (h : PI X tg e t) (h' : PI X tg e t') : PI X tg e (fun σ H R => t σ H R ∨ t' σ H R) :=
  ⟨fun pins s σ H R I q => q.elim (h.run pins s σ H R I) (h'.run pins s σ H R I)⟩
def dEn (fa : FA) : FI := fun ρ S Q Ed => dEnT fa ρ S Q Ed ∨ dEnL fa ρ S Q Ed
theorem d_en {X : Cx} {E : L2.St → XK} {fa : FA} {e : Expr} {elts : List Expr} {kk : Nat} {p pos tp : Pos} (hg : Gl X "enumerate") (hm : X.mg "enumerate" = none) (ha : PAd X E [e] fa) (hs : starEach [e] X.env = [(false, eval e X.env)] := by rfl) : PId X E (.Tuple elts kk tp) (.Call (.Name "enumerate" p) [e] [] pos) (dEn fa) := by
  refine PI.imp (PI.or (d_enT hg hm ha hs) (d_enL hg hm ha hs)) fun σ H R ⟨μ, S, ρ, Qi, Ed, w, en, hf, q, px⟩ => ?_
  rcases hf with hf | hf
  · exact .inl ⟨μ, S, ρ, Qi, Ed, w, en, hf, q, px⟩
  · exact .inr ⟨μ, S, ρ, Qi, Ed, w, en, hf, q, px⟩
end Pu
namespace Pu
open PySem PySem.Spec PyProof.Rows L2
/-! ## is True, is False -/
def gIsB (neg : Bool) : G2 := fun x y S Q => match x, y with
  | .bl a, .bl b => Q (.bl (nb neg (decide (a = b)))) S
  | _, _ => False
section
variable {X : Cx}
theorem o_isB : OpR X (compareOp .Is) (rD2 (ct X) (gIsB false)) := by
  intro pins s σ H x y v u Q I rx ry ⟨μ, S, dx, dy, Qd, w, r1, r2, hg, q⟩
  unfold gIsB at hg
  split at hg
  · exact op_is_bl pins s σ H _ _ v u Q I rx ry ⟨_, _, r1.bl_inv, r2.bl_inv, q.same w (.bl _) hg⟩
  · exact hg.elim
theorem o_isnotB : OpR X (compareOp .IsNot) (rD2 (ct X) (gIsB true)) := by
  intro pins s σ H x y v u Q I rx ry ⟨μ, S, dx, dy, Qd, w, r1, r2, hg, q⟩
  unfold gIsB at hg
  split at hg
  · exact op_isnot_bl pins s σ H _ _ v u Q I rx ry ⟨_, _, r1.bl_inv, r2.bl_inv, q.same w (.bl _) hg⟩
  · exact hg.elim
/-! ## xs[::-1] of a list -/
def gRevL : D → Sto → QD → Prop := fun x S Q => onSome (lstOf S x) fun xs => Q (.lst false xs.reverse) S
theorem d_revL {E : L2.St → XK} {e : Expr} {fe : FE} {k : Nat} {p1 p2 p3 pos : Pos} (he : PEd X E e fe) : PEd X E (.Subscript e (.Slice none none (some (.UnaryOp .USub (.Constant (.int 1) k p1) p2)) p3) pos) (dUn gRevL fe) := by
  refine PE.imp (pe_revL he) fun σ H Q ⟨μ, S, ρ, Qd, Ed, w, en, hf, q, px⟩ => ?_
  refine tR_of w en hf px fun x S1 v H1 μ1 h1 f1 w1 en1 px1 r1 => ?_
  obtain ⟨xs, e1, hq⟩ := onSome_of h1
  obtain ⟨a, ws, rfl, ha, rs⟩ := r1.lstT w1 e1
  exact ⟨a, ws, rfl, SqL.of ha, fun p hp => PostV.lst (fun d S' v H' μ' h f w' r => q d S' v H' μ' h (f1.trans f) w' r) w1 rs.rev hq hp⟩
end
end Pu
namespace Pu
open PySem PySem.Spec PyProof.Rows L2

/-! ## instances: fields, methods, properties, new ones -/
def insAt : Option Cl → Option (Str × List (Str × D))
  | some (.ins x fs) => some (x, fs)
  | _ => none
theorem insAt_inv {o : Option Cl} {x : Str} {fs : List (Str × D)} (h : insAt o = some (x, fs)) : o = some (.ins x fs) := by
  cases o with
  | none => cases h
  | some y =>
    cases y with
    | lst _ => cases h
    | ins _ _ => cases h; rfl
def insOf (S : Sto) : D → Option (Str × List (Str × D))
  | .cell n => insAt S[n]?
  | .ins x fs => some (x, fs)
  | _ => none
def cellIns (S : Sto) : D → Option (Nat × Str × List (Str × D))
  | .cell n => (insAt S[n]?).map fun p => (n, p.1, p.2)
  | _ => none
/-- the field by its name -/
def lookF (f : Str) : List (Str × D) → Option D
  | [] => none
  | (g, d) :: r => if g = f then some d else lookF f r
def putD (f : Str) (v : D) : List (Str × D) → List (Str × D)
  | [] => [(f, v)]
  | (g, x) :: r => if g = f then (g, v) :: r else (g, x) :: putD f v r
section
variable {c : Ct} {μ : Mu} {S : Sto} {H : Hp} {v : V} {d : D} {f : Str}
theorem Rp.insT (w : Wd c μ S H) (r : Rp c μ H v d) {x : Str} {fs : List (Str × D)} (e : insOf S d = some (x, fs)) : ∃ a C dx fv, v = .ref a ∧ H a = some (.ins C dx fv) ∧ c.mg x = some (.ref C) ∧ RpFs c μ H fv fs := by
  cases r with
  | ins h _ _ g rf => cases e; exact ⟨_, _, _, _, rfl, h, g, rf⟩
  | @cell n a hm =>
    obtain ⟨C, dx, fv, h1, h2, h3⟩ := w.ok n _ _ hm (insAt_inv e)
    exact ⟨_, C, dx, fv, rfl, h1, h2, h3⟩
  | _ => cases e
theorem Wd.cellI (w : Wd c μ S H) (r : Rp c μ H v d) {n : Nat} {x : Str} {fs : List (Str × D)} (e : cellIns S d = some (n, x, fs)) : ∃ a C dx fv, v = .ref a ∧ μ.m[n]? = some a ∧ H a = some (.ins C dx fv) ∧ c.mg x = some (.ref C) ∧ RpFs c μ H fv fs := by
  cases r with
  | @cell k a hm =>
    obtain ⟨p, h, e2⟩ := Option.map_eq_some_iff.mp (show (insAt S[k]?).map (fun p => (k, p.1, p.2)) = some (n, x, fs) from e)
    obtain ⟨y, gs⟩ := p
    cases e2
    obtain ⟨C, dx, fv, h1, h2, h3⟩ := w.ok _ _ _ hm (insAt_inv h)
    exact ⟨_, C, dx, fv, rfl, hm, h1, h2, h3⟩
  | _ => cases e
theorem RpFs.look : ∀ {fv : List (Str × V)} {fs : List (Str × D)} {d : D}, RpFs c μ H fv fs → lookF f fs = some d → ∃ v, fv.lookup f = some v ∧ Rp c μ H v d
  | _, _, _, .nil, e => by cases e
  | _, _, _, .cons (f := g) h r, e => by
    unfold lookF at e
    by_cases z : g = f
    · rw [if_pos z] at e
      cases e
      refine ⟨_, ?_, h⟩
      rw [List.lookup_cons, show (f == g) = true by rw [z]; exact beq_self_eq_true f]
    · rw [if_neg z] at e
      obtain ⟨v, e1, e2⟩ := RpFs.look r e
      refine ⟨v, ?_, e2⟩
      rw [List.lookup_cons, show (f == g) = false by exact beq_eq_false_iff_ne.mpr fun q => z q.symm]
      exact e1
theorem RpFs.none : ∀ {fv : List (Str × V)} {fs : List (Str × D)}, RpFs c μ H fv fs → lookF f fs = none → fv.lookup f = none
  | _, _, .nil, _ => rfl
  | _, _, .cons (f := g) h r, e => by
    unfold lookF at e
    by_cases z : g = f
    · rw [if_pos z] at e
      cases e
    · rw [if_neg z] at e
      rw [List.lookup_cons, show (f == g) = false by exact beq_eq_false_iff_ne.mpr fun q => z q.symm]
      exact RpFs.none r e
theorem RpFs.length : ∀ {fv : List (Str × V)} {fs : List (Str × D)}, RpFs c μ H fv fs → fv.length = fs.length
  | _, _, .nil => rfl
  | _, _, .cons _ r => congrArg Nat.succ (RpFs.length r)
theorem RpFs.put {y : V} {e : D} (ry : Rp c μ H y e) : ∀ {fv : List (Str × V)} {fs : List (Str × D)}, RpFs c μ H fv fs → RpFs c μ H (putF f y fv) (putD f e fs)
  | _, _, .nil => .cons ry .nil
  | _, _, .cons (f := g) h r => by
    unfold putF putD
    by_cases z : g = f
    · rw [if_pos z, if_pos z]
      exact .cons ry r
    · rw [if_neg z, if_neg z]
      exact .cons h (RpFs.put ry r)
theorem RpFs.fw {μ' : Mu} {H' : Hp} {fv : List (Str × V)} {fs : List (Str × D)} (r : RpFs c μ H fv fs) (w : Wd c μ S H) (g : Fw μ H μ' H') : RpFs c μ' H' fv fs := r.kp (w.kp g)
end
/-! ### fields -/
/-- of a class of the row: its instances are plain, the name is no attribute of it -/
def ClF (K : PySem.W.Frag) (mg : Str → Option Value) (f x : Str) : Prop := ∀ C, mg x = some (.ref C) → Cls K C ∧ NoAttr K C f
def dFld (xs : List Str) (f : Str) (fo : FE) : FE := fun ρ S Q Ed => fo ρ S (fun d S1 => onSome (insOf S1 d) fun cf => xs.contains cf.1 = true ∧ onSome (lookF f cf.2) fun v => Q v S1) Ed
def dStF (xs : List Str) (f : Str) (fo fe : FE) : FS := fun ρ S De Ed => fe ρ S (fun v S1 => fo ρ S1 (fun d S2 => onSome (cellIns S2 d) fun q => (xs.contains q.2.1 = true ∧ q.2.2.length ≤ 500) ∧ De.nx ρ (S2.set q.1 (.ins q.2.1 (putD f v q.2.2)))) Ed) Ed
section
variable {X : Cx} {E : L2.St → XK} {E1 : XK} {e o value : Expr} {fo fe : FE} {f : Str} {xs : List Str} {pos pos' : Pos}
theorem mem_of_contains {x : Str} (h : xs.contains x = true) : x ∈ xs := List.contains_iff_mem.mp h
theorem d_fld (hx : ∀ x ∈ xs, ClF X.K X.mg f x) (he : PEd X E e fo) (hab : attributeBase e f X.env (eval e X.env) = eval e X.env := by rfl) : PEd X E (.Attribute e f pos) (dFld xs f fo) := by
  refine PE.imp (pe_fld he hab) fun σ H Q ⟨μ, S, ρ, Qd, Ed, w, en, hf, q, px⟩ => ?_
  refine tR_of w en hf px fun d S1 v H1 μ1 h1 f1 w1 en1 px1 r1 => ?_
  obtain ⟨⟨x, fs⟩, e1, hc, h1⟩ := onSome_of h1
  obtain ⟨u, e2, hq⟩ := onSome_of h1
  obtain ⟨a, C, dx, fv, rfl, ha, hm, rf⟩ := r1.insT w1 e1
  obtain ⟨y, e3, ry⟩ := rf.look e2
  obtain ⟨c1, c2⟩ := hx x (mem_of_contains hc) C hm
  exact ⟨a, C, dx, fv, y, rfl, ha, c1, c2, e3, q u S1 y H1 μ1 hq f1 w1 ry⟩
theorem d_stF (hx : ∀ x ∈ xs, ClF X.K X.mg f x) (ho : PEd X (cE E1) o fo) (hv : PEd X (cE E1) value fe) (hs : swapsWith value (some (.Attribute o f pos')) pos.line X.env = pure false := by rfl) : PSd X E1 (.Assign [.Attribute o f pos'] value pos) (dStF xs f fo fe) := by
  refine PS.imp (ps_fld ho hv hs) fun D σ H ⟨μ, S, ρ, De, Ed, w, en, hf, k, px⟩ => ?_
  refine tR_of w en hf px fun y S1 vy H1 μ1 h1 f1 w1 en1 px1 r1 => ?_
  refine tR_of w1 en1 h1 px1 fun d S2 v H2 μ2 h2 f2 w2 en2 px2 r2 => ?_
  obtain ⟨⟨n, x, fs⟩, e1, ⟨hc, hl⟩, hq⟩ := onSome_of h2
  obtain ⟨a, C, dx, fv, rfl, hm, ha, hg, rf⟩ := w2.cellI r2 e1
  obtain ⟨c1, c2⟩ := hx x (mem_of_contains hc) C hg
  have hl' : fs.length ≤ 500 := hl
  refine ⟨a, C, dx, fv, rfl, ha, c1, c2, by rw [rf.length]; omega, ?_⟩
  have fw : Fw μ2 H2 μ2 (upd H2 a (.ins C dx (putF f vy fv))) := Fw.write (List.mem_of_getElem? hm)
  exact k.nx ρ _ σ _ μ2 hq (f1.trans (f2.trans fw)) (w2.set hm ⟨C, dx, _, upd_same, hg, (RpFs.put (r1.fw w1 f2) rf).fw w2 fw⟩) (en2.fw w2 fw)
end
/-! ### a constant of the class -/
def dCon (xs : List Str) (f : Str) (v : D) (fo : FE) : FE := fun ρ S Q Ed => fo ρ S (fun d S1 => onSome (insOf S1 d) fun cf => (xs.contains cf.1 = true ∧ lookF f cf.2 = none) ∧ Q v S1) Ed
def ConI (K : PySem.W.Frag) (mg : Str → Option Value) (f : Str) (i : Int) (x : Str) : Prop := ∀ C, mg x = some (.ref C) → Cls K C ∧ ∃ u, Con K C f (.int i) u
section
variable {X : Cx} {E : L2.St → XK} {e : Expr} {fo : FE} {f : Str} {xs : List Str} {i : Int} {pos : Pos}
theorem d_con (hx : ∀ x ∈ xs, ConI X.K X.mg f i x) (he : PEd X E e fo) (hab : attributeBase e f X.env (eval e X.env) = eval e X.env := by rfl) : PEd X E (.Attribute e f pos) (dCon xs f (.int i) fo) := by
  refine PE.imp (pe_con he hab) fun σ H Q ⟨μ, S, ρ, Qd, Ed, w, en, hf, q, px⟩ => ?_
  refine tR_of w en hf px fun d S1 v H1 μ1 h1 f1 w1 en1 px1 r1 => ?_
  obtain ⟨⟨x, fs⟩, e1, ⟨hc, hn⟩, hq⟩ := onSome_of h1
  obtain ⟨a, C, dx, fv, rfl, ha, hm, rf⟩ := r1.insT w1 e1
  obtain ⟨c1, u, c2⟩ := hx x (mem_of_contains hc) C hm
  exact ⟨a, C, dx, fv, .int i, u, rfl, ha, c1, c2, rf.none hn, q _ S1 _ H1 μ1 hq f1 w1 (.int i)⟩
end
/-! ### methods: the def by the object's class -/
/-- of a class of the row: the method m is the def that means F -/
def MF (P : Program) (wo : World) (K : PySem.W.Frag) (mg : Str → Option Value) (b0 : Heap) (cx : CXT) (lv : Nat) (m : Str) (x : Str) (F : FF) : Prop :=
  ∀ C, mg x = some (.ref C) → ∃ fn dat pars, Cls K C ∧ Meth K C m fn ∧ Rb.FnG P wo K mg b0 cx lv fn dat pars (spF (ct0 K mg) F) ∧ Binds K dat pars []
def tabF : List (Str × FF) → Str → Option FF
  | [], _ => none
  | (y, F) :: r, x => if y = x then some F else tabF r x
theorem tabF_mem : ∀ {tab : List (Str × FF)} {x : Str} {F : FF}, tabF tab x = some F → (x, F) ∈ tab
  | [], _, _, h => by cases h
  | (y, G) :: r, x, F, h => by
    unfold tabF at h
    by_cases z : y = x
    · rw [if_pos z] at h
      cases h
      rw [z]
      exact List.mem_cons_self
    · rw [if_neg z] at h
      exact List.mem_cons_of_mem _ (tabF_mem h)
def dMeth (tab : List (Str × FF)) (m : Str) (fo : FE) (fa : FA) : FE := fun ρ S Q Ed => fo ρ S (fun d S1 => onSome (insOf S1 d) fun cf => lookF m cf.2 = none ∧ onSome (tabF tab cf.1) fun F => fa ρ S1 (fun ds S2 => F (d :: ds) S2 Q Ed) Ed) Ed
section
variable {X : Cx} {cx : CXT} {lv : Nat} {E : L2.St → XK} {ob a0 : Expr} {as : List Expr} {fo : FE} {fa : FA} {mn : Str} {tab : List (Str × FF)} {p1 p2 : Pos}
theorem d_meth {plan0 : Sem Bool} (hct : ct X = ct0 X.K X.mg) (hx : ∀ p ∈ tab, MF X.prog X.w X.K X.mg X.base cx lv mn p.1 p.2) (gd : X.A.guards = some []) (rm : Room lv X.A) (ps : ∀ σ, PassesAt cx X σ (E σ)) (he : PEd X E ob fo) (ha : PAd X E (a0 :: as) fa)
    (st1 : starEach (a0 :: as) X.env = (false, eval a0 X.env) :: starEach as X.env := by rfl) (st2 : (backTo p2 (starEach as X.env)).any (·.1) = false := by rfl)
    (evq : eval (.Call (.Attribute ob mn p1) (a0 :: as) [] p2) X.env = (do
      let recv ← eval ob X.env
      standAt p1.atName
      let (callee, fst0) ← holding [recv] (getMethod recv mn plan0)
      callWith p2 callee fst0 (backTo p2 (starEach (a0 :: as) X.env)) (backToKw p2 (keywordEach [] X.env))) := by rfl) :
    PEd X E (.Call (.Attribute ob mn p1) (a0 :: as) [] p2) (dMeth tab mn fo fa) := by
  refine ⟨fun pins s σ H Q I ⟨μ, S, ρ, Qd, Ed, w, en, hf, q, px⟩ => ?_⟩
  refine PySem.W.methodCall_KW (pl := plan0) (thn (he.run pins s σ H (fun v H1 => ∃ a C dx fv fn dat pars F d μ1 S1, v = .ref a ∧ H1 a = some (.ins C dx fv) ∧ fv.lookup mn = none ∧ Cls X.K C ∧ Meth X.K C mn fn ∧ Rb.FnG X.prog X.w X.K X.mg X.base cx lv fn dat pars (spF (ct X) F) ∧ Binds X.K dat pars [] ∧
      Wd (ct X) μ1 S1 H1 ∧ EnvR (ct X) μ1 H1 σ ρ ∧ Rp (ct X) μ1 H1 v d ∧ fa ρ S1 (fun ds S2 => F (d :: ds) S2 Qd Ed) Ed ∧ PostV (ct X) μ1 H1 Qd Q ∧ PX (ct X) μ1 H1 Ed (E σ)) I ?_) fun u s1 hu => ?_) evq
  · refine tR_of w en hf px fun d S1 v H1 μ1 h1 f1 w1 en1 px1 r1 => ?_
    obtain ⟨⟨x, fs⟩, e1, hn, h1⟩ := onSome_of h1
    obtain ⟨F, e2, h1⟩ := onSome_of h1
    obtain ⟨a, C, dx, fv, rfl, ha', hm, rf⟩ := id (r1.insT w1 e1)
    obtain ⟨fn, dat, pars, c1, c2, c3, c4⟩ := hx _ (tabF_mem e2) C hm
    rw [← hct] at c3
    exact ⟨a, C, dx, fv, fn, dat, pars, F, d, μ1, S1, rfl, ha', rf.none hn, c1, c2, c3, c4, w1, en1, r1, h1, PostV.fw q f1, px1⟩
  · obtain ⟨x, H1, I1, rel, a, C, dx, fv, fn, dat, pars, F, d, μ1, S1, rfl, ea, ln, c1, c2, c3, c4, w1, en1, r1, h1, q1, px1⟩ := hu
    obtain rfl : u = Value.ref a := rel
    refine getmeth_ok I1 ea c1 c2 ln ?_
    refine PySem.W.callWith_K (first := [.ref a]) (h₀ := X.base) I.ok.mod.kin c2.kp (thn (ha.run p2 pins s1 σ H1 (fun vs H2 => ∃ ds μ2 S2, Wd (ct X) μ2 S2 H2 ∧ RpAll (ct X) μ2 H2 (.ref a :: vs) (d :: ds) ∧ F (d :: ds) S2 Qd Ed ∧ PostV (ct X) μ2 H2 Qd Q ∧ PX (ct X) μ2 H2 Ed (E σ)) I1 ?_) fun us s2 hu => ?_) st1 st2
    · exact tR_of w1 en1 h1 px1 fun ds S2 vs H2 μ2 h2 f2 w2 en2 px2 r2 => ⟨ds, μ2, S2, w2, .cons (r1.fw w1 f2) r2, h2, PostV.fw q1 f2, px2⟩
    · obtain ⟨vs, H2, I2, rv, ds, μ2, S2, w2, r2, h2, q2, px2⟩ := hu
      exact ⟨I2.kIn, runGS (us := .ref a :: us) (xs := .ref a :: vs) c3 gd rm c4 (ps σ) I2 (.cons rfl rv) ⟨μ2, S2, d :: ds, Qd, Ed, w2, r2, h2, q2, px2⟩⟩
theorem d_meth0 {plan0 : Sem Bool} (hct : ct X = ct0 X.K X.mg) (hx : ∀ p ∈ tab, MF X.prog X.w X.K X.mg X.base cx lv mn p.1 p.2) (gd : X.A.guards = some []) (rm : Room lv X.A) (ps : ∀ σ, PassesAt cx X σ (E σ)) (he : PEd X E ob fo)
    (evq : eval (.Call (.Attribute ob mn p1) [] [] p2) X.env = (do
      let recv ← eval ob X.env
      standAt p1.atName
      let (callee, fst0) ← holding [recv] (getMethod recv mn plan0)
      callWith p2 callee fst0 (backTo p2 (starEach [] X.env)) (backToKw p2 (keywordEach [] X.env))) := by rfl) :
    PEd X E (.Call (.Attribute ob mn p1) [] [] p2) (dMeth tab mn fo dNil) := by
  refine ⟨fun pins s σ H Q I ⟨μ, S, ρ, Qd, Ed, w, en, hf, q, px⟩ => ?_⟩
  refine PySem.W.methodCall_KW (pl := plan0) (thn (he.run pins s σ H (fun v H1 => ∃ a C dx fv fn dat pars F d μ1 S1, v = .ref a ∧ H1 a = some (.ins C dx fv) ∧ fv.lookup mn = none ∧ Cls X.K C ∧ Meth X.K C mn fn ∧ Rb.FnG X.prog X.w X.K X.mg X.base cx lv fn dat pars (spF (ct X) F) ∧ Binds X.K dat pars [] ∧
      Wd (ct X) μ1 S1 H1 ∧ Rp (ct X) μ1 H1 v d ∧ F [d] S1 Qd Ed ∧ PostV (ct X) μ1 H1 Qd Q ∧ PX (ct X) μ1 H1 Ed (E σ)) I ?_) fun u s1 hu => ?_) evq
  · refine tR_of w en hf px fun d S1 v H1 μ1 h1 f1 w1 en1 px1 r1 => ?_
    obtain ⟨⟨x, fs⟩, e1, hn, h1⟩ := onSome_of h1
    obtain ⟨F, e2, h1⟩ := onSome_of h1
    obtain ⟨a, C, dx, fv, rfl, ha', hm, rf⟩ := id (r1.insT w1 e1)
    obtain ⟨fn, dat, pars, c1, c2, c3, c4⟩ := hx _ (tabF_mem e2) C hm
    rw [← hct] at c3
    exact ⟨a, C, dx, fv, fn, dat, pars, F, d, μ1, S1, rfl, ha', rf.none hn, c1, c2, c3, c4, w1, r1, h1, PostV.fw q f1, px1⟩
  · obtain ⟨x, H1, I1, rel, a, C, dx, fv, fn, dat, pars, F, d, μ1, S1, rfl, ea, ln, c1, c2, c3, c4, w1, r1, h1, q1, px1⟩ := hu
    obtain rfl : u = Value.ref a := rel
    refine getmeth_ok I1 ea c1 c2 ln ?_
    exact PySem.W.callWith_K0 (first := [.ref a]) I1.kIn c2.kp (runGS (us := [.ref a]) (xs := [.ref a]) c3 gd rm c4 (ps σ) I1 (.cons rfl .nil) ⟨μ1, S1, [d], Qd, Ed, w1, .cons r1 .nil, h1, q1, px1⟩)
end
end Pu
namespace Pu
open PySem PySem.Spec PyProof.Rows L2

/-! ## properties, new instances -/
section
variable {X : Cx} {k : Nat} {C p g a dx : Addr} {fs : List (Str × V)} {f : Str} {fd : FuncData} {ps : List Str} {sp : Sp} {E : XK}
theorem getpropG {pins : List (Addr × Obj)} {σ : L2.St} {H : Hp} {s : Shared} {Q : VK} {b : Bool} {E' : Value → Shared → Prop} (I : Inv X pins σ H s) (ea : H a = some (.ins C dx fs)) (c : Cls X.K C) (hp : PropOf X.K C f p g)
    (F : Rb.FnG X.prog X.w X.K X.mg X.base CX0 k g fd ps sp) (gd : X.A.guards = some []) (hr : Room (k + 1) X.A) (hb : Binds X.K fd ps []) (h : sp [.ref a] H Q E) : wpAny (model X.prog X.w) X.A (getAttr (.ref a) f b) (EP X pins σ Q) E' s := by
  obtain ⟨mm, ob, _, _, _, _⟩ := ins_get I.hok ea
  obtain ⟨od, J, _⟩ := ob.look
  obtain ⟨more, hrc⟩ := hp.rec_
  have J1 := I.tok (s.toks + 1)
  have hl : ([Value.ref a] ++ []).length = ps.length := by
    rw [← F.many _ _ _ _ h]
    rfl
  have hcl : (PySem.W.clsIn X.K C).isSome = true := by
    obtain ⟨cda, hcl, _⟩ := PySem.W.any_some c.hd
    rw [hcl]
    rfl
  refine PySem.W.get_bind I.kIn J (PySem.W.plainGet_of (c.get f)).1 (PySem.W.findObj_data hcl hp.at_ hp.get hp.tak) (PySem.W.plainGet_of (c.get f)).2 (wpAny_call (PySem.W.prop_get (s := { s with toks := s.toks + 1 }) I.kIn hrc ?_))
  refine codeAny_mono (F.goes X.A.in1 X.stack { s with toks := s.toks + 1 } H ⟨[.ref a], []⟩ [.ref a] [.ref a] Q E hr.in1 gd J1.env0.in1 (by have := hb _ [.ref a] J1.kIn hl; rw [List.append_nil] at this; exact this) (.cons rfl .nil) h) fun r s' hqq => ?_
  cases r with
  | error er => exact False.elim hqq
  | ok fl =>
    cases fl with
    | ret u =>
      obtain ⟨v, H', J3, rvv, qq3⟩ := J1.after hqq
      show wpAny _ X.A (handedOut u) _ _ _
      rw [PySem.W.handedOut_of (handed_of rvv)]
      exact wpAny_pure ⟨v, H', J3, rvv, qq3⟩
    | next => exact False.elim hqq
    | brk => exact False.elim hqq
    | cont => exact False.elim hqq
end
/-- of a class of the row: the name is a property whose getter means F -/
def PF (P : Program) (wo : World) (K : PySem.W.Frag) (mg : Str → Option Value) (b0 : Heap) (lv : Nat) (f : Str) (x : Str) (F : FF) : Prop :=
  ∀ C, mg x = some (.ref C) → ∃ p fn dat pars, Cls K C ∧ PropOf K C f p fn ∧ Rb.FnG P wo K mg b0 CX0 lv fn dat pars (spF (ct0 K mg) F) ∧ Binds K dat pars []
def dProp (tab : List (Str × FF)) (fo : FE) : FE := fun ρ S Q Ed => fo ρ S (fun d S1 => onSome (insOf S1 d) fun cf => onSome (tabF tab cf.1) fun F => F [d] S1 Q Ed) Ed
section
variable {X : Cx} {lv : Nat} {E : L2.St → XK} {e : Expr} {fo : FE} {f : Str} {tab : List (Str × FF)} {pos : Pos}
theorem d_prop (hct : ct X = ct0 X.K X.mg) (hx : ∀ p ∈ tab, PF X.prog X.w X.K X.mg X.base lv f p.1 p.2) (gd : X.A.guards = some []) (rm : Room (lv + 1) X.A) (he : PEd X E e fo)
    (hab : attributeBase e f X.env (eval e X.env) = eval e X.env := by rfl) : PEd X E (.Attribute e f pos) (dProp tab fo) := by
  refine ⟨fun pins s σ H Q I ⟨μ, S, ρ, Qd, Ed, w, en, hf, q, px⟩ => ?_⟩
  refine attr_of hab (thn (he.run pins s σ H (fun v H1 => ∃ a C dx fv p fn dat pars F d μ1 S1, v = .ref a ∧ H1 a = some (.ins C dx fv) ∧ Cls X.K C ∧ PropOf X.K C f p fn ∧ Rb.FnG X.prog X.w X.K X.mg X.base CX0 lv fn dat pars (spF (ct X) F) ∧ Binds X.K dat pars [] ∧
      Wd (ct X) μ1 S1 H1 ∧ Rp (ct X) μ1 H1 v d ∧ F [d] S1 Qd Ed ∧ PostV (ct X) μ1 H1 Qd Q ∧ PX (ct X) μ1 H1 Ed (E σ)) I ?_) fun u s1 hu => ?_)
  · refine tR_of w en hf px fun d S1 v H1 μ1 h1 f1 w1 en1 px1 r1 => ?_
    obtain ⟨⟨x, fs⟩, e1, h1⟩ := onSome_of h1
    obtain ⟨F, e2, h1⟩ := onSome_of h1
    obtain ⟨a, C, dx, fv, rfl, ha', hm, rf⟩ := id (r1.insT w1 e1)
    obtain ⟨p, fn, dat, pars, c1, c2, c3, c4⟩ := hx _ (tabF_mem e2) C hm
    rw [← hct] at c3
    exact ⟨a, C, dx, fv, p, fn, dat, pars, F, d, μ1, S1, rfl, ha', c1, c2, c3, c4, w1, r1, h1, PostV.fw q f1, px1⟩
  · obtain ⟨x, H1, J1, rel, a, C, dx, fv, p, fn, dat, pars, F, d, μ1, S1, rfl, ea, c1, c2, c3, c4, w1, r1, h1, q1, px1⟩ := hu
    obtain rfl : u = Value.ref a := rel
    exact getpropG J1 ea c1 c2 c3 gd rm c4 ⟨μ1, S1, [d], Qd, Ed, w1, .cons r1 .nil, h1, q1, px1⟩
end
/-! ### C(..) -/
section
variable {X : Cx} {cx : CXT} {k : Nat} {C f : Addr} {fd : FuncData} {ps : List Str} {sp : Sp} {E : XK}
theorem run_makeG {pins : List (Addr × Obj)} {σ : L2.St} {H : Hp} {s : Shared} {Q : VK} {us : List Value} {vs : List V} (M : Mk X.K C f) (F : Rb.FnG X.prog X.w X.K X.mg X.base cx k f fd ps sp) (gd : X.A.guards = some []) (hr : Room (k + 1) X.A) (hb : Binds X.K fd ps [])
    (hx : PassesAt cx X σ E) (I : Inv X pins σ H s) (r : Vals vs us)
    (h : ∀ x dx, H x = none → H dx = none → dx ≠ x → sp (.ref x :: vs) (upd (upd H dx (.own x)) x (.ins C dx [])) (fun v H2 => v = .non ∧ Q (.ref x) H2) E) : wpAny (model X.prog X.w) X.A (call (.ref C) us) (EP X pins σ Q) X.xe s := by
  have hqq := h (s.heap.objs.size + 1) s.heap.objs.size (I.hok.fresh (Nat.le_succ _)) (I.hok.fresh (Nat.le_refl _)) (Nat.ne_of_lt (Nat.lt_succ_self _))
  have J2 := Inv.made (C := C) I
  have rr2 : Vals (V.ref (s.heap.objs.size + 1) :: vs) (Value.ref (s.heap.objs.size + 1) :: us) := .cons rfl r
  have hl : (Value.ref (s.heap.objs.size + 1) :: us ++ []).length = ps.length := by
    rw [List.append_nil]
    have e := rr2.length
    rw [F.many _ _ _ _ hqq] at e
    exact e.symm
  have b := hb { s with heap := _ } (Value.ref (s.heap.objs.size + 1) :: us) J2.kIn hl
  rw [List.append_nil] at b
  refine wpAny_call (make_map (f := f) I.kIn M.makes M.init (beq_iff_eq.mp M.fn) (codeAny_mono (F.goes _ X.stack _ _ ⟨Value.ref (s.heap.objs.size + 1) :: us, []⟩ (Value.ref (s.heap.objs.size + 1) :: us) _ _ E (hr.make C us []) ?_
    (J2.env0.make C us []) b rr2 hqq) fun r s' hqz => ?_))
  · have e : (X.A.under (.builtin "type.__call__" ⟨Value.ref C :: us, []⟩)).guards = X.A.guards := by
      have z : (Code.builtin "type.__call__" ⟨Value.ref C :: us, []⟩).guards = [] := by
        unfold Code.guards
        rw [show (Code.builtin "type.__call__" ⟨Value.ref C :: us, []⟩).isGuard = false by with_unfolding_all rfl]
        rfl
      unfold Around.under
      simp only [z]
      cases X.A.guards <;> rfl
    rw [e]
    exact gd
  cases r with
  | error e => exact hx pins _ _ e s' J2 hqz
  | ok fl =>
    cases fl with
    | ret u =>
      obtain ⟨v, H', J3, rvv, ev, qq3⟩ := J2.after hqz
      subst ev
      exact ⟨rvv, ⟨V.ref (s.heap.objs.size + 1), H', J3, rfl, qq3⟩⟩
    | next => exact False.elim hqz
    | brk => exact False.elim hqz
    | cont => exact False.elim hqz
end
/-- of a class of the row: its __init__ means F -/
def MkF (P : Program) (wo : World) (K : PySem.W.Frag) (mg : Str → Option Value) (b0 : Heap) (cx : CXT) (lv : Nat) (C : Addr) (F : FF) : Prop :=
  ∃ fn dat pars, Mk K C fn ∧ Rb.FnG P wo K mg b0 cx lv fn dat pars (spF (ct0 K mg) F) ∧ Binds K dat pars []
def dMake (x : Str) (F : FF) (fa : FA) : FE := fun ρ S Q Ed => fa ρ S (fun ds S1 => F (.cell S1.length :: ds) (S1 ++ [.ins x []]) (fun d S2 => d = .non ∧ Q (.cell S1.length) S2) Ed) Ed
section
variable {X : Cx} {cx : CXT} {lv : Nat} {E : L2.St → XK} {C : Addr} {F : FF} {x : Str} {e : Expr} {es : List Expr} {fa : FA} {p pos : Pos}
theorem d_make (hct : ct X = ct0 X.K X.mg) (hC : MkF X.prog X.w X.K X.mg X.base cx lv C F) (gd : X.A.guards = some []) (rm : Room (lv + 1) X.A) (hg : Gl X x) (hm : X.mg x = some (.ref C)) (ps : ∀ σ, PassesAt cx X σ (E σ)) (ha : PAd X E (e :: es) fa)
    (ndb : (x == ("__debug__" : Str)) = false := by decide) (he : starEach (e :: es) X.env = (false, eval e X.env) :: starEach es X.env := by rfl) (hpl : (backTo pos (starEach es X.env)).any (·.1) = false := by rfl) :
    PEd X E (.Call (.Name x p) (e :: es) [] pos) (dMake x F fa) := by
  obtain ⟨fn, dat, pars, M, G, B⟩ := hC
  rw [← hct] at G
  refine ⟨fun pins s σ H Q I ⟨μ, S, ρ, Qd, Ed, w, en, hf, q, px⟩ => ?_⟩
  refine wpAny_Call_Name_kw (ld_glob I hg hm ?_ ndb)
  refine PySem.W.callWith_K (h₀ := X.base) I.ok.mod.kin M.kp (thn (ha.run pos pins s σ H (fun vs H1 => ∀ a dx, H1 a = none → H1 dx = none → dx ≠ a → spF (ct X) F (.ref a :: vs) (upd (upd H1 dx (.own a)) a (.ins C dx [])) (fun v H2 => v = .non ∧ Q (.ref a) H2) (E σ)) I ?_) fun us s1 ⟨vs, H1, J1, r, q1⟩ => ⟨J1.kIn, run_makeG M G gd rm B (ps σ) J1 r q1⟩) he hpl
  refine tR_of w en hf px fun ds S1 vs H1 μ1 h1 f1 w1 en1 px1 r1 a dx na nd ne => ?_
  have fA : Fw μ1 H1 μ1 (upd H1 dx (.own a)) := Fw.new nd
  have wA := w1.new (o := .own a) nd
  have na2 : upd H1 dx (HO.own a) a = none := by rw [upd_ne (Ne.symm ne)]; exact na
  have fB : Fw μ1 (upd H1 dx (.own a)) ⟨μ1.m ++ [a], μ1.av⟩ (upd (upd H1 dx (.own a)) a (.ins C dx [])) := Fw.newC na2
  have wB : Wd (ct X) ⟨μ1.m ++ [a], μ1.av⟩ (S1 ++ [.ins x []]) (upd (upd H1 dx (.own a)) a (.ins C dx [])) := wA.newC na2 ⟨C, dx, [], upd_same, hm, .nil⟩
  have rc : Rp (ct X) ⟨μ1.m ++ [a], μ1.av⟩ (upd (upd H1 dx (.own a)) a (.ins C dx [])) (.ref a) (.cell S1.length) := .cell (by
    show (μ1.m ++ [a])[S1.length]? = some a
    rw [← w1.len, List.getElem?_append_right (Nat.le_refl _), Nat.sub_self]
    rfl)
  refine ⟨⟨μ1.m ++ [a], μ1.av⟩, _, _, _, Ed, wB, .cons rc ((r1.fw w1 fA).fw wA fB), h1, fun d S' v H' μ' hqq fw w' r' => ?_, (px1.fw fA).fw fB⟩
  obtain ⟨rfl, hqq⟩ := hqq
  cases r'
  exact ⟨rfl, q _ S' _ H' μ' hqq (f1.trans (fA.trans (fB.trans fw))) w' (rc.fw wB fw)⟩
end
end Pu
namespace Pu
open PySem PySem.Spec PyProof.Rows L2

/-! ## values without a held error -/
mutual
def noX : D → Bool
  | .exc _ _ => false
  | .tup xs => noXs xs
  | .lst _ xs => noXs xs
  | .kls xs => noXs xs
  | .ins _ fs => noXf fs
  | _ => true
def noXs : List D → Bool
  | [] => true
  | x :: xs => noX x && noXs xs
def noXf : List (Str × D) → Bool
  | [] => true
  | (_, x) :: xs => noX x && noXf xs
end
def Cl.noX : Cl → Bool
  | .lst xs => noXs xs
  | .ins _ fs => noXf fs
/-- the same row, more errors held -/
structure CtLe (c c' : Ct) : Prop where
  K : c.K = c'.K
  mg : c.mg = c'.mg
  hx : ∀ a z, c.hx a = some z → c'.hx a = some z
section
variable {c c' : Ct} {μ : Mu} {H : Hp}
mutual
theorem Rp.ct (k : CtLe c c') : ∀ {v : V} {d : D}, Rp c μ H v d → Rp c' μ H v d
  | _, _, .non => .non
  | _, _, .bl b => .bl b
  | _, _, .int i => .int i
  | _, _, .str x => .str x
  | _, _, .tup h r => .tup h (RpAll.ct k r)
  | _, _, .lst h n1 n2 n3 r => .lst h n1 n2 n3 (RpAll.ct k r)
  | _, _, .kls h n1 n2 r => .kls h n1 n2 (RpAll.ct k r)
  | _, _, .klsK o its n h1 h2 h3 h4 h5 h6 r => .klsK o its n (k.K ▸ h1) h2 h3 h4 h5 h6 (RpAll.ct k r)
  | _, _, .dic h n n2 => .dic h n n2
  | _, _, .cell h => .cell h
  | _, _, .glo h r => .glo (k.mg ▸ h) r
  | _, _, .ty n => .ty n
  | _, _, .ins h n n2 g r => .ins h n n2 (k.mg ▸ g) (RpFs.ct k r)
  | _, _, .exc0 h g => .exc0 (k.hx _ _ h) (k.mg ▸ g)
  | _, _, .exc1 h g e r => .exc1 (k.hx _ _ h) (k.mg ▸ g) e (RpFs.ct k r)
theorem RpAll.ct (k : CtLe c c') : ∀ {vs : List V} {ds : List D}, RpAll c μ H vs ds → RpAll c' μ H vs ds
  | _, _, .nil => .nil
  | _, _, .cons h r => .cons (Rp.ct k h) (RpAll.ct k r)
theorem RpFs.ct (k : CtLe c c') : ∀ {vs : List (Str × V)} {ds : List (Str × D)}, RpFs c μ H vs ds → RpFs c' μ H vs ds
  | _, _, .nil => .nil
  | _, _, .cons h r => .cons (Rp.ct k h) (RpFs.ct k r)
end
/-! back, where no held error is mentioned -/
mutual
theorem Rp.un (eK : c'.K = c.K) (eg : c'.mg = c.mg) : ∀ {v : V} {d : D}, Rp c' μ H v d → noX d = true → Rp c μ H v d
  | _, _, .non, _ => .non
  | _, _, .bl b, _ => .bl b
  | _, _, .int i, _ => .int i
  | _, _, .str x, _ => .str x
  | _, _, .tup h r, n => .tup h (RpAll.un eK eg r n)
  | _, _, .lst h n1 n2 n3 r, n => .lst h n1 n2 n3 (RpAll.un eK eg r n)
  | _, _, .kls h n1 n2 r, n => .kls h n1 n2 (RpAll.un eK eg r n)
  | _, _, .klsK o its k h1 h2 h3 h4 h5 h6 r, n => .klsK o its k (eK ▸ h1) h2 h3 h4 h5 h6 (RpAll.un eK eg r n)
  | _, _, .dic h n n2, _ => .dic h n n2
  | _, _, .cell h, _ => .cell h
  | _, _, .glo h r, _ => .glo (eg ▸ h) r
  | _, _, .ty n, _ => .ty n
  | _, _, .ins h n1 n2 g r, n => .ins h n1 n2 (eg ▸ g) (RpFs.un eK eg r n)
  | _, _, .exc0 _ _, n => nomatch n
  | _, _, .exc1 _ _ _ _, n => nomatch n
theorem RpAll.un (eK : c'.K = c.K) (eg : c'.mg = c.mg) : ∀ {vs : List V} {ds : List D}, RpAll c' μ H vs ds → noXs ds = true → RpAll c μ H vs ds
  | _, _, .nil, _ => .nil
  | _, _, .cons h r, n => have n' := Bool.and_eq_true_iff.mp n; .cons (Rp.un eK eg h n'.1) (RpAll.un eK eg r n'.2)
theorem RpFs.un (eK : c'.K = c.K) (eg : c'.mg = c.mg) : ∀ {vs : List (Str × V)} {ds : List (Str × D)}, RpFs c' μ H vs ds → noXf ds = true → RpFs c μ H vs ds
  | _, _, .nil, _ => .nil
  | _, _, .cons h r, n => have n' := Bool.and_eq_true_iff.mp n; .cons (Rp.un eK eg h n'.1) (RpFs.un eK eg r n'.2)
end
/-! where none is held, none is mentioned -/
mutual
theorem Rp.free (no : ∀ a, c.hx a = none) : ∀ {v : V} {d : D}, Rp c μ H v d → noX d = true
  | _, _, .non => rfl
  | _, _, .bl b => rfl
  | _, _, .int i => rfl
  | _, _, .str x => rfl
  | _, _, .tup h r => RpAll.free no r
  | _, _, .lst h n1 n2 n3 r => RpAll.free no r
  | _, _, .kls h n1 n2 r => RpAll.free no r
  | _, _, .klsK o its k h1 h2 h3 h4 h5 h6 r => RpAll.free no r
  | _, _, .dic h n n2 => rfl
  | _, _, .cell h => rfl
  | _, _, .glo h r => rfl
  | _, _, .ty n => rfl
  | _, _, .ins h n1 n2 g r => RpFs.free no r
  | _, _, .exc0 h _ => by rw [no] at h; cases h
  | _, _, .exc1 h _ _ _ => by rw [no] at h; cases h
theorem RpAll.free (no : ∀ a, c.hx a = none) : ∀ {vs : List V} {ds : List D}, RpAll c μ H vs ds → noXs ds = true
  | _, _, .nil => rfl
  | _, _, .cons h r => Bool.and_eq_true_iff.mpr ⟨Rp.free no h, RpAll.free no r⟩
theorem RpFs.free (no : ∀ a, c.hx a = none) : ∀ {vs : List (Str × V)} {ds : List (Str × D)}, RpFs c μ H vs ds → noXf ds = true
  | _, _, .nil => rfl
  | _, _, .cons h r => Bool.and_eq_true_iff.mpr ⟨Rp.free no h, RpFs.free no r⟩
end
end
section
variable {c c' : Ct} {μ μ' : Mu} {S : Sto} {H H' : Hp} {σ : L2.St} {ρ : Rho}
theorem Wd.ct (k : CtLe c c') (w : Wd c μ S H) : Wd c' μ S H := ⟨w.nd, w.len, w.ap, w.avs, fun i a x h1 h2 => by
  have := w.ok i a x h1 h2
  cases x with
  | lst ds =>
    obtain ⟨vs, e, r⟩ := this
    exact ⟨vs, e, r.ct k⟩
  | ins y fs =>
    obtain ⟨C, dx, fv, e, g, r⟩ := this
    exact ⟨C, dx, fv, e, k.mg ▸ g, r.ct k⟩⟩
theorem EnvR.ct (k : CtLe c c') (en : EnvR c μ H σ ρ) : EnvR c' μ H σ ρ := ⟨en.len, fun i d h => let ⟨v, e, r⟩ := en.ok i d h; ⟨v, e, r.ct k⟩⟩
/-- the cells as they were before -/
theorem Wd.un (eK : c'.K = c.K) (eg : c'.mg = c.mg) (no : ∀ a, c.hx a = none) (w0 : Wd c μ S H) (w : Wd c' μ' S H') : Wd c μ' S H' := ⟨w.nd, w.len, w.ap, w.avs, fun i a x h1 h2 => by
  obtain ⟨a0, e0, o0⟩ := w0.atCell h2
  have := w.ok i a x h1 h2
  cases x with
  | lst ds =>
    obtain ⟨vs0, _, r0⟩ := o0
    obtain ⟨vs, e, r⟩ := this
    exact ⟨vs, e, r.un eK eg (r0.free no)⟩
  | ins y fs =>
    obtain ⟨_, _, fv0, _, _, r0⟩ := o0
    obtain ⟨C, dx, fv, e, g, r⟩ := this
    exact ⟨C, dx, fv, e, eg ▸ g, r.un eK eg (r0.free no)⟩⟩
/-- the slots as they were before, or without a held error -/
def sameX : Rho → Rho → Prop
  | [], [] => True
  | x :: r, y :: s => (x = y ∨ y = none ∨ ∃ d, y = some d ∧ noX d = true) ∧ sameX r s
  | _, _ => False
theorem sameX_at : ∀ {ρ ρ' : Rho} {i : Nat} {d : D}, sameX ρ ρ' → ρ'[i]? = some (some d) → ρ[i]? = some (some d) ∨ noX d = true
  | [], [], i, d, _, h => by simp at h
  | x :: r, y :: s, 0, d, h, e => by
    have e' : y = some d := by simpa using e
    rcases h.1 with z | z | ⟨d', z, n⟩
    · exact .inl (by rw [z, e']; rfl)
    · rw [z] at e'; cases e'
    · rw [z] at e'; cases e'; exact .inr n
  | x :: r, y :: s, i + 1, d, h, e => by
    rw [List.getElem?_cons_succ] at e ⊢
    exact sameX_at h.2 e
  | [], _ :: _, _, _, h, _ => h.elim
  | _ :: _, [], _, _, h, _ => h.elim
theorem EnvR.un {ρ0 : Rho} {σ0 : L2.St} {μ0 : Mu} {H0 : Hp} (eK : c'.K = c.K) (eg : c'.mg = c.mg) (no : ∀ a, c.hx a = none) (en0 : EnvR c μ0 H0 σ0 ρ0) (s : sameX ρ0 ρ) (en : EnvR c' μ H σ ρ) : EnvR c μ H σ ρ := ⟨en.len, fun i d h => by
  obtain ⟨v, e, r⟩ := en.ok i d h
  refine ⟨v, e, r.un eK eg ?_⟩
  rcases sameX_at s h with z | z
  · obtain ⟨_, _, r0⟩ := en0.ok i d z
    exact r0.free no
  · exact z⟩
theorem EnvR.unset {i : Nat} (en : EnvR c μ H σ ρ) : EnvR c μ H (σ.set i none) (ρ.set i none) := by
  refine ⟨by rw [List.length_set, List.length_set]; exact en.len, fun j x h => ?_⟩
  by_cases e : i = j
  · subst e
    have hl : i < ρ.length := by
      have := (List.getElem?_eq_some_iff.mp h).1
      rwa [List.length_set] at this
    rw [List.getElem?_set_self hl] at h
    cases h
  · rw [List.getElem?_set_ne e] at h ⊢
    exact en.ok j x h
end
/-! ## raise -/
def dRaise (x f : Str) (fe : FE) : FS := fun ρ S De Ed => fe ρ S (fun d S1 => Ed (x, [(f, d)]) S1) Ed
section
variable {X : Cx} {E : XK} {C fI : Addr} {fd : FuncData} {lv : Nat} {x f : Str} {sps : List Str} {e : Expr} {fe : FE} {p p2 pos : Pos}
theorem d_raise (hc : X.calm = true) (tk : Takes X (fun cls d _ H => E cls d H)) (T : OexC X.K C) (iC : PySem.W.findIn X.K (.ref C) "__init__" = some (some (.ref fI))) (tI : PySem.W.typeIn X.K (.ref fI) = some (.type "function"))
    (F1 : FnOk X.prog X.w X.K X.mg X.base CX0 lv fI fd sps (Rb.spIni X.K C f)) (hr : Room (lv + 1) X.A) (hb : Binds X.K fd sps []) (hg : Gl X x) (hm : X.mg x = some (.ref C)) (ha : PEd X (cE E) e fe)
    (ndb : (x == ("__debug__" : Str)) = false := by decide) (s1 : starEach [e] X.env = (false, eval e X.env) :: starEach [] X.env := by rfl) (s2 : (backTo p2 (starEach [] X.env)).any (·.1) = false := by rfl) :
    PSd X E (.Raise (some (.Call (.Name x p) [e] [] p2)) none pos) (dRaise x f fe) := by
  refine PS.imp (ps_raise hc tk (pmk_oex T iC tI F1 hr hb .nil (fun _ _ _ _ _ _ _ z => z.elim) hg hm (pa_cons ha pa_nil s1) ndb s1 s2)) fun D σ H ⟨μ, S, ρ, De, Ed, w, en, hf, k, px⟩ => ?_
  refine tR_of w en hf px fun d S1 v H1 μ1 h1 f1 w1 en1 px1 r1 => ?_
  refine Rb.mkO_of (f := f) fun dx nd => ?_
  exact px1 (x, [(f, d)]) S1 (.ref C) (some dx) _ μ1 h1 (Fw.new nd) (w1.new nd) ⟨hm, dx, [(f, v)], rfl, upd_same, .cons (r1.fw w1 (Fw.new nd)) .nil⟩
end
/-! ## statements in a try: what leaves by an error leans on the slots at their beginning -/
def tSx (c : Ct) (E : L2.St → XK) (f : FS) : TS := fun D σ H => ∃ μ S ρ De Ed, Wd c μ S H ∧ EnvR c μ H σ ρ ∧ f ρ S De Ed ∧ EndsOk c μ H De D ∧ PX c μ H Ed (E σ)
abbrev PSx (X : Cx) (E : L2.St → XK) (st : Stmt) (f : FS) : Prop := PS X st (tSx (ct X) E f)
abbrev PBx (X : Cx) (E : L2.St → XK) (sts : List Stmt) (f : FS) : Prop := PSs X sts (tSx (ct X) E f)
def dSeqN (f g : FS) : FS := fun ρ S De Ed => f ρ S { De with nx := fun ρ' S' => g ρ' S' De noE } Ed
/-- if t: return .. , then the rest -/
def dIfR (t : FT) (f g : FS) : FS := fun ρ S De Ed => t ρ S (fun b S1 => if b = true then f ρ S1 { De with nx := fun _ _ => False } Ed else g ρ S1 De Ed) Ed
section
variable {X : Cx} {E : L2.St → XK} {st : Stmt} {rest a b : List Stmt} {f g : FS} {e c : Expr} {fe : FE} {t : FT} {pos : Pos}
theorem x_last (h1 : PSx X E st f) : PBx X E [st] f := pss_one h1
theorem x_end : PBx X E [] dSkip := PSs.imp pss_nil fun D σ H ⟨μ, S, ρ, De, Ed, w, en, hf, k, px⟩ => k.nx ρ S σ H μ hf Fw.refl w en
theorem x_ret (he : PEd X E e fe) : PSx X E (.Return (some e) pos) (dRet fe) := by
  refine PS.imp (ps_ret he) fun D σ H ⟨μ, S, ρ, De, Ed, w, en, hf, k, px⟩ => ?_
  exact tR_of w en hf px fun x S1 v H1 μ1 h1 f1 w1 en1 px1 r1 => k.rt x S1 v H1 μ1 h1 f1 w1 r1
theorem x_expr (he : PEd X E e fe) (hs : swapsWith e none pos.line X.env = pure false := by rfl) : PSx X E (.Expr e pos) (dDrop fe) := by
  refine PS.imp (ps_expr he hs) fun D σ H ⟨μ, S, ρ, De, Ed, w, en, hf, k, px⟩ => ?_
  exact tR_of w en hf px fun x S1 v H1 μ1 h1 f1 w1 en1 px1 r1 => k.nx ρ S1 σ H1 μ1 h1 f1 w1 en1
theorem x_seqN (h1 : PSx X E st f) (h2 : PBx X E rest g) : PBx X E (st :: rest) (dSeqN f g) := by
  refine PSs.imp (pss_cons h1 h2) fun D σ H ⟨μ, S, ρ, De, Ed, w, en, hf, k, px⟩ => ?_
  exact ⟨μ, S, ρ, _, Ed, w, en, hf, ⟨fun ρ' S' σ' H' μ' h fw w' en' => ⟨μ', S', ρ', De, noE, w', en', h, k.fw fw, pxNo⟩, k.rt, k.bk, k.ct⟩, px⟩
theorem x_if (hc : PTd X E c t) (ha : PBx X E a f) (hb : PBx X E b g) : PSx X E (.If c a b pos) (dIfS t f g) := by
  refine PS.imp (ps_if hc ha hb) fun D σ H ⟨μ, S, ρ, De, Ed, w, en, hf, k, px⟩ => ?_
  refine tR_of w en hf px fun x S1 v H1 μ1 h1 f1 w1 en1 px1 r1 => ?_
  cases (r1 : v = x)
  split
  · rename_i hv
    rw [if_pos hv] at h1
    exact ⟨μ1, S1, ρ, De, Ed, w1, en1, h1, k.fw f1, px1⟩
  · rename_i hv
    rw [if_neg hv] at h1
    exact ⟨μ1, S1, ρ, De, Ed, w1, en1, h1, k.fw f1, px1⟩
theorem x_ifR (hc : PTd X E c t) (ha : PBx X E a f) (hr : PBx X E rest g) : PBx X E (.If c a [] pos :: rest) (dIfR t f g) := by
  refine PSs.imp (pss_cons (ps_if hc ha pss_nil) hr) fun D σ H ⟨μ, S, ρ, De, Ed, w, en, hf, k, px⟩ => ?_
  refine tR_of w en hf px fun x S1 v H1 μ1 h1 f1 w1 en1 px1 r1 => ?_
  cases (r1 : v = x)
  split
  · rename_i hv
    rw [if_pos hv] at h1
    exact ⟨μ1, S1, ρ, _, Ed, w1, en1, h1, ⟨fun _ _ _ _ _ z => z.elim, (k.fw f1).rt, (k.fw f1).bk, (k.fw f1).ct⟩, px1⟩
  · rename_i hv
    rw [if_neg hv] at h1
    exact ⟨μ1, S1, ρ, De, Ed, w1, en1, h1, k.fw f1, px1⟩
end
section
variable {X : Cx} {E : L2.St → XK} {e : Expr} {fe : FE} {pos : Pos}
theorem x_set {i : Nat} {x : Str} {pos' : Pos} (hN : X.N.Nodup) (hi : X.N[i]? = some x) (hx : Loc X.env.scope x) (he : PEd X E e fe) (hs : swapsWith e (some (.Name x pos')) pos.line X.env = pure false := by rfl)
    (hf : X.fn x = true ∨ X.env.scope.names.lookup x = some .local := by first | exact .inl rfl | exact .inr rfl | assumption) : PSx X E (.Assign [.Name x pos'] e pos) (dAsg fe (gN i)) := by
  refine PS.imp (ps_set hN hi hx he hs hf) fun D σ H ⟨μ, S, ρ, De, Ed, w, en, hf, k, px⟩ => ?_
  refine tR_of w en hf px fun x S1 v H1 μ1 h1 f1 w1 en1 px1 r1 => ?_
  exact k.nx _ S1 _ H1 μ1 (setK_eq (k := fun ρ' => De.nx ρ' S1) h1) f1 w1 (en1.set r1)
end
/-! ## try: .. except C as n: .. -/
def lookB : List (Str × Bool) → Str → Option Bool
  | [], _ => none
  | (y, b) :: r, x => if y = x then some b else lookB r x
def dTry (i : Nat) (tab : List (Str × Bool)) (fb fh : FS) : FS := fun ρ S De Ed => fb ρ S De fun er S1 => onSome (lookB tab er.1) fun b =>
  if b = true then fh (ρ.set i (some (.exc er.1 er.2))) S1 { nx := fun ρ' S2 => (S2 = S1 ∧ sameX ρ (ρ'.set i none)) ∧ De.nx (ρ'.set i none) S2, rt := fun d S2 => (S2 = S1 ∧ noX d = true) ∧ De.rt d S2, bk := fun _ _ => False, ct := fun _ _ => False } noE
  else Ed er S1
def cH (K : PySem.W.Frag) (mg : Str → Option Value) (a : Addr) (cls : Value) (d : Option Addr) : Ct := ⟨K, mg, fun b => if a = b then some (cls, d) else none⟩
theorem ct_suite {X : Cx} {a : Addr} {oe : Obj} {pn : List (Addr × Obj)} : ct (X.suite a ((a, oe) :: pn)) = cH X.K X.mg a oe.cls oe.dict := by
  unfold ct cH
  congr 1
theorem ct_calm {X : Cx} (h : X.calm = true) : ct X = ct0 X.K X.mg := by
  unfold ct
  rw [if_pos h]
section
variable {X : Cx} {E : XK} {x n : Str} {cv : Value} {i : Nat} {tab : List (Str × Bool)} {body suite : List Stmt} {b0 : Stmt} {np pos p2 : Pos} {fb fh : FS}
theorem d_try (hcal : X.calm = true) (hs : X.stack = X.env :: X.outer) (hf : X.env.frame = some X.env.locals) (hN : X.N.Nodup) (hi : X.N[i]? = some n) (hln : X.env.kindOf n = some .local) (hc : Names X x cv) (tk : Takes X (fun cls d _ H => E cls d H))
    (ht : ∀ y b, lookB tab y = some b → ∀ cls, X.mg y = some cls → PySem.W.exmOne X.K cls cv = some b)
    (hb : ∀ (W : WX) (pn : List (Addr × Obj)) (xe : Value → Shared → Prop), Takes (X.tr pn xe) W → PassesOwn (model X.prog X.w) X.A X.env xe → PBx (X.tr pn xe) (WE W) body fb)
    (hsu : ∀ (a : Addr) (oe : Obj) (pn : List (Addr × Obj)), (∃ vs, oe.data = .fields vs) → PBd (X.suite a ((a, oe) :: pn)) E0 (b0 :: suite) fh) :
    PSd X E (.Try body [.ExceptHandler (some (.Name x np)) (some n) (b0 :: suite) p2] [] [] pos) (dTry i tab fb fh) := by
  have ec := ct_calm hcal
  have e1 : ∀ (pn : List (Addr × Obj)) (xe : Value → Shared → Prop), ct (X.tr pn xe) = ct X := fun pn xe => by
    rw [ec]
    exact ct_calm (X := X.tr pn xe) hcal
  have no : ∀ a, (ct X).hx a = none := fun a => by rw [ec]
  refine PS.imp (ps_try_as (i := i) (tb := fun W => tSx (ct X) (WE W) fb) (ts := fun a cls d => tS (cH X.K X.mg a cls d) E0 fh) (Wout := fun cls d _ H => E cls d H) hs hf hN hi hln hc tk (fun W pn xe tk po => ?_) (fun a oe cls d pn hz hf => ?_)) fun D σ H ⟨μ, S, ρ, De, Ed, w, en, hff, k, px⟩ => ?_
  · have this : PSs (X.tr pn xe) body (tSx (ct (X.tr pn xe)) (WE W) fb) := hb W pn xe tk po
    have e := e1 pn xe
    generalize ct (X.tr pn xe) = c1 at this e
    subst e
    exact this
  · have this : PSs (X.suite a ((a, oe) :: pn)) (b0 :: suite) (tS (ct (X.suite a ((a, oe) :: pn))) E0 fh) := hsu a oe pn hf
    have e : ct (X.suite a ((a, oe) :: pn)) = cH X.K X.mg a cls d := by rw [ct_suite, hz.1, hz.2]
    generalize ct (X.suite a ((a, oe) :: pn)) = c1 at this e
    subst e
    exact this
  refine ⟨μ, S, ρ, De, _, w, en, hff, k, fun er S1 cls dx H1 μ1 hE f1 w1 rx => ?_⟩
  obtain ⟨b, eb, hE⟩ := onSome_of hE
  refine ⟨b, ht _ b eb cls rx.1, fun hb1 a na => ?_, fun hb0 => ?_⟩
  · rw [if_pos hb1] at hE
    have le : CtLe (ct X) (cH X.K X.mg a cls dx) := ⟨rfl, rfl, fun b z h => by rw [no] at h; cases h⟩
    have en1 := en.fw w f1
    have rexc : Rp (cH X.K X.mg a cls dx) μ1 H1 (.ref a) (.exc er.1 er.2) := by
      obtain ⟨xn, fs⟩ := er
      obtain ⟨g, r⟩ := rx
      have hh : (cH X.K X.mg a cls dx).hx a = some (cls, dx) := if_pos rfl
      cases fs with
      | nil =>
        have r' : dx = none := r
        rw [r'] at hh ⊢
        exact .exc0 hh g
      | cons f fs =>
        obtain ⟨d1, fv, r1, r2, r3⟩ := r
        rw [r1] at hh ⊢
        exact .exc1 hh g r2 (r3.ct (r1 ▸ le))
    refine ⟨μ1, S1, _, _, noE, w1.ct le, (en1.ct le).set rexc, hE, ⟨fun ρ' S' σ' H' μ' hq fw w' en' => ?_, fun d S' v H' μ' hq fw w' r => ?_, fun _ _ _ _ _ z => z.elim, fun _ _ _ _ _ z => z.elim⟩, pxNo⟩
    · obtain ⟨⟨rfl, sx⟩, hn⟩ := hq
      exact k.nx _ S' _ H' μ' hn (f1.trans fw) (Wd.un (c' := cH X.K X.mg a cls dx) rfl rfl no w1 w') (EnvR.un (c' := cH X.K X.mg a cls dx) rfl rfl no en1 sx en'.unset)
    · obtain ⟨⟨rfl, nx⟩, hn⟩ := hq
      exact k.rt d S' v H' μ' hn (f1.trans fw) (Wd.un (c' := cH X.K X.mg a cls dx) rfl rfl no w1 w') (Rp.un (c := ct X) (c' := cH X.K X.mg a cls dx) rfl rfl r nx)
  · rw [if_neg (by rw [hb0]; exact Bool.false_ne_true)] at hE
    exact px er S1 cls dx H1 μ1 hE f1 w1 rx
end
end Pu
namespace Pu
open PySem PySem.Spec PyProof.Rows L2

/-! ## what a handler asks of its error -/
def onExc (o : Option D) (k : Str → List (Str × D) → Prop) : Prop := match o with | some (.exc x fs) => k x fs | _ => False
theorem onExc_of {o : Option D} {k : Str → List (Str × D) → Prop} (h : onExc o k) : ∃ x fs, o = some (.exc x fs) ∧ k x fs := by
  match o, h with
  | some (.exc x fs), h => exact ⟨x, fs, rfl, h⟩
/-- e.f -/
def dXf (xs : List Str) (i : Nat) (f : Str) : FE := fun ρ S Q _ => onExc (getV ρ i) fun x fs => xs.contains x = true ∧ onSome (lookF f fs) fun v => Q v S
theorem rp_exc_inv {X : Cx} {a : Addr} {oe : Obj} {pn : List (Addr × Obj)} {μ : Mu} {H : Hp} {v : V} {x : Str} {fs : List (Str × D)} (r : Rp (ct (X.suite a ((a, oe) :: pn))) μ H v (.exc x fs)) :
    v = .ref a ∧ X.mg x = some oe.cls ∧ ((oe.dict = none ∧ fs = []) ∨ ∃ dx fv, oe.dict = some dx ∧ H dx = some (.xd fv) ∧ RpFs (ct (X.suite a ((a, oe) :: pn))) μ H fv fs) := by
  cases r with
  | @exc0 b _ cls hh g =>
    rw [ct_suite] at hh
    unfold cH at hh
    dsimp only at hh
    by_cases e : a = b
    · rw [if_pos e] at hh
      have hh' := Prod.mk.inj (Option.some.inj hh)
      exact ⟨by rw [e], by rw [hh'.1]; exact g, .inl ⟨hh'.2, rfl⟩⟩
    · rw [if_neg e] at hh
      cases hh
  | @exc1 b dx _ cls fv _ hh g hd rf =>
    rw [ct_suite] at hh
    unfold cH at hh
    dsimp only at hh
    by_cases e : a = b
    · rw [if_pos e] at hh
      have hh' := Prod.mk.inj (Option.some.inj hh)
      exact ⟨by rw [e], by rw [hh'.1]; exact g, .inr ⟨dx, fv, hh'.2, hd, rf⟩⟩
    · rw [if_neg e] at hh
      cases hh
section
variable {X : Cx} {E : L2.St → XK} {a : Addr} {oe : Obj} {pn : List (Addr × Obj)} {i : Nat} {f : Str} {xs : List Str} {e : Expr} {pos : Pos}
theorem d_xf (hfd : ∃ vs, oe.data = .fields vs) (hT : ∀ y ∈ xs, ∃ C, X.mg y = some (.ref C) ∧ XfC X.K C ∧ PySem.W.findIn X.K (.ref C) f = some none) (he : PE (X.suite a ((a, oe) :: pn)) e (tVar i))
    (hab : attributeBase e f X.env (eval e X.env) = eval e X.env := by rfl) : PEd (X.suite a ((a, oe) :: pn)) E (.Attribute e f pos) (dXf xs i f) := by
  refine ⟨fun pins s σ H Q I ⟨μ, S, ρ, Qd, Ed, w, en, hf, q, px⟩ => ?_⟩
  obtain ⟨x, fs, e1, hc, h1⟩ := onExc_of hf
  obtain ⟨d, e2, hq⟩ := onSome_of h1
  obtain ⟨v, ev, rv⟩ := en.ok i _ (getV_some e1)
  obtain ⟨rfl, g, alt⟩ := rp_exc_inv rv
  obtain ⟨C, gC, T, hno⟩ := hT x (mem_of_contains hc)
  have ec : oe.cls = .ref C := by rw [g] at gC; exact Option.some.inj gC
  rcases alt with ⟨_, rfl⟩ | ⟨dx, fv, ed, hd, rf⟩
  · cases e2
  · obtain ⟨y, ey, ry⟩ := rf.look e2
    refine (pe_xf (cls := oe.cls) (d := oe.dict) T hno ⟨rfl, rfl⟩ hfd he hab).run pins s σ H Q I ?_
    exact ⟨.ref a, ev, rfl, ec, dx, fv, y, ed, hd, ey, q d S y H μ hq Fw.refl w ry⟩
end
/-! ### isinstance -/
/-- of a class of errors x and a class named y (of the row or built in): whether y is above x -/
def lookX : List (Str × Str × Bool) → Str → Str → Option Bool
  | [], _, _ => none
  | (x, y, b) :: r, u, v => if x = u ∧ y = v then some b else lookX r u v
theorem lookX_mem : ∀ {tab : List (Str × Str × Bool)} {u v : Str} {b : Bool}, lookX tab u v = some b → (u, v, b) ∈ tab
  | [], _, _, _, h => by cases h
  | (x, y, c) :: r, u, v, b, h => by
    unfold lookX at h
    by_cases z : x = u ∧ y = v
    · rw [if_pos z] at h
      cases h
      obtain ⟨rfl, rfl⟩ := z
      exact List.mem_cons_self
    · rw [if_neg z] at h
      exact List.mem_cons_of_mem _ (lookX_mem h)
def clsV (mg : Str → Option Value) (y : Str) (u : Value) : Prop := mg y = some u ∨ (mg y = none ∧ bootBuiltins y = some u)
def XI (K : PySem.W.Frag) (mg : Str → Option Value) (x y : Str) (b : Bool) : Prop := ∃ C, mg x = some (.ref C) ∧ Rb.OwnE K C ∧ ∀ u, clsV mg y u → PySem.W.kitOne K (.ref C) u = some b
/-- isinstance(e, C) -/
def dIsX (tab : List (Str × Str × Bool)) (i : Nat) (y : Str) : FE := fun ρ S Q _ => onExc (getV ρ i) fun x _ => onSome (lookX tab x y) fun b => Q (.bl b) S
def anyX (tab : List (Str × Str × Bool)) (x : Str) : List Str → Option Bool
  | [] => some false
  | y :: r => match lookX tab x y with | some true => some true | some false => anyX tab x r | none => none
/-- isinstance(e, (C, ..)) -/
def dIsXT (tab : List (Str × Str × Bool)) (i : Nat) (ys : List Str) : FE := fun ρ S Q _ => onExc (getV ρ i) fun x _ => onSome (anyX tab x ys) fun b => Q (.bl b) S
def rIsY (K : PySem.W.Frag) (a : Addr) (oe : Obj) : List V → Hp → VK → Prop := fun xs H Q => ∃ (C : Addr) (cv : V) (b : Bool), oe.cls = .ref C ∧ Rb.OwnE K C ∧ (oe.dict = none ∨ ∃ dx fv, oe.dict = some dx ∧ H dx = some (.xd fv)) ∧ xs = [.ref a, cv] ∧
  ((∃ u, ClsV cv u ∧ PySem.W.kitOne K (.ref C) u = some b) ∨ ∃ tp cs us, cv = .ref tp ∧ H tp = some (.tup cs) ∧ Paired ClsV cs us ∧ PySem.W.kitAny K (.ref C) us = some b) ∧ Q (.bl b) H
theorem call_isY {X : Cx} {a : Addr} {oe : Obj} {pn : List (Addr × Obj)} (hfd : ∃ vs, oe.data = .fields vs) : CallR (X.suite a ((a, oe) :: pn)) (.builtin "isinstance") (rIsY X.K a oe) := by
  intro pins s σ H xs us Q I r h
  obtain ⟨C, cv, b, ecl, W, hdict, rfl, alt, q⟩ := h
  cases r with
  | cons ra rr =>
    cases rr with
    | cons rt rr =>
      cases rr
      cases ra
      obtain ⟨hget, _⟩ := I.pin (a, oe) (List.mem_append.mpr (.inl List.mem_cons_self))
      obtain ⟨vs, hv⟩ := hfd
      have noc : PySem.W.notCls oe = true := by unfold PySem.W.notCls; rw [hv] <;> rfl
      have J : ∃ od, PySem.W.InstAt s.heap a oe C od := by
        rcases hdict with ed | ⟨dx, fv, ed, hx⟩
        · exact ⟨none, hget, ecl, noc, by rw [ed]; trivial⟩
        · have ho : ObjOk X.prog X.w H s.heap dx (.xd fv) := I.hok dx _ hx
          obtain ⟨mm, hns, _⟩ := ho
          obtain ⟨od, ho, _⟩ := lookIn_ns hns
          exact ⟨some od, hget, ecl, noc, by rw [ed]; exact ho⟩
      obtain ⟨od, J⟩ := J
      have Z := PySem.W.kitx_exc (x := a) (ox := oe) (od := od) W.is W.xf.ga W.xf.gg W.xf.exC W.cl W.cg W.ct W.co
      rcases alt with ⟨u, cu, e⟩ | ⟨tp, cs, uu, rfl, ht, pr, e⟩
      · rw [cu.eq rt]
        exact PySem.W.kia_one Z I.kIn J e (fun z => nomatch z) fun tk => ⟨.bl b, H, I.kept (t' := tk) fun _ _ z => z, rfl, q⟩
      · cases rt
        have hto : ObjOk X.prog X.w H s.heap tp (.tup cs) := I.hok tp _ ht
        obtain ⟨_, ws, rv, ⟨o, hoc, hcl, n, hdat⟩⟩ := hto
        have eu := ClsV.all pr rv
        subst eu
        obtain ⟨oc, odd, oda, osl⟩ := o
        dsimp only at hcl hdat
        subst hcl hdat
        exact PySem.W.kia_tup Z I.kIn J hoc e (fun z => nomatch z) fun tk => ⟨.bl b, H, I.kept (t' := tk) fun _ _ z => z, rfl, q⟩
/-- a class by its name, in an expression -/
structure ClE (X : Cx) (e : Expr) (y : Str) (u : Value) : Prop where
  ex : ∃ v, PE X e (tC v) ∧ ClsV v u
  at_ : clsV X.mg y u
theorem cl_own {X : Cx} {y : Str} {C : Addr} {pos : Pos} (hg : Gl X y) (hm : X.mg y = some (.ref C)) (hd : (y == ("__debug__" : Str)) = false := by decide) : ClE X (.Name y pos) y (.ref C) :=
  ⟨⟨.ref C, pe_glob hg hm (show RelV (V.ref C) _ from rfl) hd, .own C⟩, .inl hm⟩
theorem cl_ty {X : Cx} {y : Str} {n : String} {pos : Pos} (hg : Gl X y) (hm : X.mg y = none) (hv : bootBuiltins y = some (.type n)) (hn : y ≠ "__name__" := by decide) (hd : (y == ("__debug__" : Str)) = false := by decide) : ClE X (.Name y pos) y (.type n) :=
  ⟨⟨.ty n, pe_bltn hg hm hv (show RelV (V.ty n) _ from rfl) hn hd, .ty n⟩, .inr ⟨hm, hv⟩⟩
/-- classes by their names -/
inductive ClEs (X : Cx) : List Expr → List Str → List Value → Prop where
  | nil : ClEs X [] [] []
  | cons {e : Expr} {es : List Expr} {y : Str} {ys : List Str} {u : Value} {us : List Value} (h : ClE X e y u) (r : ClEs X es ys us) (hs : starEach (e :: es) X.env = (false, eval e X.env) :: starEach es X.env := by rfl) : ClEs X (e :: es) (y :: ys) (u :: us)
theorem ClEs.pa {X : Cx} : ∀ {es : List Expr} {ys : List Str} {us : List Value}, ClEs X es ys us → ∃ vs, PA X es (fun _ H Q => Q vs H) ∧ Paired ClsV vs us
  | _, _, _, .nil => ⟨[], pa_nil, .nil⟩
  | _, _, _, .cons h r hs => by
    obtain ⟨v, h1, h2⟩ := h.ex
    obtain ⟨vs, h3, h4⟩ := ClEs.pa r
    exact ⟨v :: vs, PA.imp (pa_cons h1 h3 hs) fun σ H Q q => q, .cons h2 h4⟩
section
variable {X : Cx} {E : L2.St → XK} {a : Addr} {oe : Obj} {pn : List (Addr × Obj)} {i : Nat} {tab : List (Str × Str × Bool)} {e ce : Expr} {ces : List Expr} {y : Str} {ys : List Str} {u : Value} {us : List Value} {p pos tpos : Pos} {kt : Nat}
theorem exc_dict {μ : Mu} {H : Hp} {v : V} {x : Str} {fs : List (Str × D)} (r : Rp (ct (X.suite a ((a, oe) :: pn))) μ H v (.exc x fs)) : v = .ref a ∧ X.mg x = some oe.cls ∧ (oe.dict = none ∨ ∃ dx fv, oe.dict = some dx ∧ H dx = some (.xd fv)) := by
  obtain ⟨h1, h2, h3⟩ := rp_exc_inv r
  refine ⟨h1, h2, ?_⟩
  rcases h3 with ⟨h3, _⟩ | ⟨dx, fv, h3, h4, _⟩
  · exact .inl h3
  · exact .inr ⟨dx, fv, h3, h4⟩
theorem d_isX (hfd : ∃ vs, oe.data = .fields vs) (ht : ∀ z ∈ tab, XI X.K X.mg z.1 z.2.1 z.2.2) (hg : Gl X "isinstance") (hm : X.mg "isinstance" = none) (he : PE (X.suite a ((a, oe) :: pn)) e (tVar i)) (hc : ClE (X.suite a ((a, oe) :: pn)) ce y u)
    (s1 : starEach [e, ce] X.env = (false, eval e X.env) :: starEach [ce] X.env := by rfl) (s2 : starEach [ce] X.env = (false, eval ce X.env) :: starEach [] X.env := by rfl) (s3 : (backTo pos (starEach [ce] X.env)).any (·.1) = false := by rfl) :
    PEd (X.suite a ((a, oe) :: pn)) E (.Call (.Name "isinstance" p) [e, ce] [] pos) (dIsX tab i y) := by
  obtain ⟨vc, hvc, cv⟩ := hc.ex
  refine PE.imp (pe_callB (call_isY hfd) hg hm (show bootBuiltins "isinstance" = some (.builtin "isinstance") by decide +kernel) (pa_cons he (pa_cons hvc pa_nil s2) s1) (by decide) (by decide) s1 s3) fun σ H Q ⟨μ, S, ρ, Qd, Ed, w, en, hf, q, px⟩ => ?_
  obtain ⟨x, fs, e1, h1⟩ := onExc_of hf
  obtain ⟨b, e2, hq⟩ := onSome_of h1
  obtain ⟨v, ev, rv⟩ := en.ok i _ (getV_some e1)
  obtain ⟨rfl, g, alt⟩ := exc_dict rv
  obtain ⟨C, gC, W, hk⟩ := ht _ (lookX_mem e2)
  have ec : oe.cls = .ref C := by rw [g] at gC; exact Option.some.inj gC
  exact ⟨.ref a, ev, C, vc, b, ec, W, alt, rfl, .inl ⟨u, cv, hk u hc.at_⟩, q _ S _ H μ hq Fw.refl w (.bl b)⟩
theorem ClEs.any {K : PySem.W.Frag} {x : Str} {C : Addr} {X' : Cx} (hx : X'.mg x = some (.ref C)) (ht : ∀ z ∈ tab, XI K X'.mg z.1 z.2.1 z.2.2) : ∀ {es : List Expr} {ys : List Str} {us : List Value} {b : Bool}, ClEs X' es ys us → anyX tab x ys = some b → PySem.W.kitAny K (.ref C) us = some b
  | _, _, _, b, .nil, e => by cases e; rfl
  | _, _, _, b, .cons (y := y) h r _, e => by
    unfold anyX at e
    unfold PySem.W.kitAny
    cases e1 : lookX tab x y with
    | none => rw [e1] at e; cases e
    | some k =>
      rw [e1] at e
      obtain ⟨C', gC, _, hk⟩ := ht _ (lookX_mem e1)
      have : C' = C := by
        have z : X'.mg x = some (.ref C') := gC
        rw [hx] at z
        cases z
        rfl
      subst this
      rw [hk _ h.at_]
      cases k with
      | true => cases e; rfl
      | false => exact ClEs.any hx ht r e
theorem d_isXT (hfd : ∃ vs, oe.data = .fields vs) (ht : ∀ z ∈ tab, XI X.K X.mg z.1 z.2.1 z.2.2) (hg : Gl X "isinstance") (hm : X.mg "isinstance" = none) (he : PE (X.suite a ((a, oe) :: pn)) e (tVar i)) (hc : ClEs (X.suite a ((a, oe) :: pn)) ces (y :: ys) us) (hl : us.length ≤ 100)
    (s1 : starEach [e, .Tuple ces kt tpos] X.env = (false, eval e X.env) :: starEach [.Tuple ces kt tpos] X.env := by rfl) (s2 : starEach [.Tuple ces kt tpos] X.env = (false, eval (.Tuple ces kt tpos) X.env) :: starEach [] X.env := by rfl) (s3 : (backTo pos (starEach [.Tuple ces kt tpos] X.env)).any (·.1) = false := by rfl) :
    PEd (X.suite a ((a, oe) :: pn)) E (.Call (.Name "isinstance" p) [e, .Tuple ces kt tpos] [] pos) (dIsXT tab i (y :: ys)) := by
  obtain ⟨vs, hvs, pr⟩ := hc.pa
  refine PE.imp (pe_callB (call_isY hfd) hg hm (show bootBuiltins "isinstance" = some (.builtin "isinstance") by decide +kernel) (pa_cons he (pa_cons (pe_tup hvs) pa_nil s2) s1) (by decide) (by decide) s1 s3) fun σ H Q ⟨μ, S, ρ, Qd, Ed, w, en, hf, q, px⟩ => ?_
  obtain ⟨x, fs, e1, h1⟩ := onExc_of hf
  obtain ⟨b, e2, hq⟩ := onSome_of h1
  obtain ⟨v, ev, rv⟩ := en.ok i _ (getV_some e1)
  obtain ⟨rfl, g, alt⟩ := exc_dict rv
  have pl : vs.length = us.length := by
    clear hvs hc hl
    induction pr with
    | nil => rfl
    | cons _ _ ih => exact congrArg Nat.succ ih
  refine ⟨.ref a, ev, by rw [pl]; exact Nat.le_trans hl (by rw [sizeLine_eq]; omega), fun tp ntp => ?_⟩
  obtain ⟨C, gC, W⟩ : ∃ C, X.mg x = some (.ref C) ∧ Rb.OwnE X.K C := by
    have e3 := e2
    unfold anyX at e3
    cases e4 : lookX tab x y with
    | none => rw [e4] at e3; cases e3
    | some k =>
      obtain ⟨C, gC, W, _⟩ := ht _ (lookX_mem e4)
      exact ⟨C, gC, W⟩
  have ec : oe.cls = .ref C := by rw [g] at gC; exact Option.some.inj gC
  have ka := ClEs.any (K := X.K) (X' := X.suite a ((a, oe) :: pn)) gC ht hc e2
  have fN : Fw μ H μ (upd H tp (.tup vs)) := Fw.new ntp
  refine ⟨C, .ref tp, b, ec, W, ?_, rfl, .inr ⟨tp, vs, us, rfl, upd_same, pr, ka⟩, q _ S _ _ μ hq fN (w.new ntp) (.bl b)⟩
  rcases alt with z | ⟨dx, fv, z1, z2⟩
  · exact .inl z
  · exact .inr ⟨dx, fv, z1, w.xdK fN z2⟩
end
end Pu
namespace Pu
open PySem PySem.Spec PyProof.Rows L2

/-! ## defs that may raise -/
theorem FnG_mono {pr : Program} {wo : World} {K : PySem.W.Frag} {mg : Str → Option Value} {b0 : Heap} {cx : CXT} {lv l2 : Nat} {fn : Addr} {dat : FuncData} {pars : List Str} {sp : Sp} (F : Rb.FnG pr wo K mg b0 cx lv fn dat pars sp) (h : lv ≤ l2) : Rb.FnG pr wo K mg b0 cx l2 fn dat pars sp :=
  ⟨F.many, fun A out s H ar us xs Q E r g e b v p => F.goes A out s H ar us xs Q E (r.mono h) g e b v p⟩
theorem passLG {X : Cx} : ∀ σ, PassesAt (L2.CX X.prog X.w) X σ (cE E0 σ) := fun σ pins H s e s' I z => (passL (X := X) pins σ H s e s' I z)
theorem passX {X : Cx} {E : XK} (tk : Takes X (fun cls d _ H => E cls d H)) : ∀ σ, PassesAt (L2.CX X.prog X.w) X σ (cE E σ) := fun σ => passAt tk σ
theorem passW {X : Cx} {W : WX} (tk : Takes X W) : ∀ σ, PassesAt (L2.CX X.prog X.w) X σ (WE W σ) := fun σ => passAt tk σ
/-- a def that never raises is one that may -/
theorem passEv {X : Cx} {E : L2.St → XK} : ∀ σ, PassesAt CX0 X σ (E σ) := passG
section
variable {pr : Program} {wo : World} {K : PySem.W.Frag} {mg : Str → Option Value} {b0 : Heap} {lv : Nat} {x qn : Str} {st : Stmt} {fn : Addr} {dat : FuncData} {NN pars : List Str} {fb : FS}
theorem d_fnX (F : Fun K x qn st fn dat) (S : FnScope NN pars (defScope st))
    (body : ∀ (cdv : Value) (A : Around) (out : List Env) (s : Shared) (H : Hp) (E : XK), A.guards = some [] → Room lv (A.deeper (envOfC qn (defScope st) s.heap.objs.size fn cdv)) → PBd (cxOf (L2.CX pr wo) pr wo K mg b0 NN qn (defScope st) fn cdv A out s H E) E (defBody st) fb) :
    Rb.FnG pr wo K mg b0 (L2.CX pr wo) (lv + 1) fn dat pars (spF (ct0 K mg) (dDefX pars.length NN.length fb)) := by
  obtain ⟨oc, od, kV, dc, pv, an, cdv, ct, osl, rfl, at_, code⟩ := F.ex
  refine Rb.fnG_of at_ code S (fun xs H Q E pro => ?_) fun A out s H xs Q E gd rm pro => ⟨_, body cdv A out s H E gd rm, ?_⟩
  · obtain ⟨μ, S, ds, Qd, Ed, w, r, ⟨hl, _⟩, _⟩ := pro
    rw [r.length]
    exact hl
  · obtain ⟨μ, S, ds, Qd, Ed, w, r, ⟨hl, h⟩, q, px⟩ := pro
    exact ⟨μ, S, _, _, Ed, w, startD_env r, h, ⟨fun ρ' S' σ' H' μ' hq f w' en => q .non S' .non H' μ' hq f w' .non, q, fun _ _ _ _ _ z => z.elim, fun _ _ _ _ _ z => z.elim⟩, px⟩
end
/-! ## list.count of bools -/
def blsOf : List D → Option (List Bool)
  | [] => some []
  | .bl b :: r => (blsOf r).map (b :: ·)
  | _ :: _ => none
theorem blsOf_vals {c : Ct} {μ : Mu} {H : Hp} : ∀ {vs : List V} {ds : List D} {bs : List Bool}, RpAll c μ H vs ds → blsOf ds = some bs → vs = bs.map V.bl
  | _, [], _, .nil, e => by cases e; rfl
  | _, d :: ds, bs, .cons h r, e => by
    cases d with
    | bl b =>
      obtain ⟨cs, e1, rfl⟩ := Option.map_eq_some_iff.mp (show (blsOf ds).map (b :: ·) = some bs from e)
      rw [h.bl_inv, blsOf_vals r e1]
      rfl
    | _ => cases e
def gCountB : GM := fun x ds S Q => match ds with
  | [.bl b] => onSome (lstOf S x) fun xs => onSome (blsOf xs) fun bs => Q (.int (bs.count b : Nat)) S
  | _ => False
def eqb (k : Bool) (v : Value) : Bool := match v with
  | .bool n => n == k
  | _ => false
theorem vals_bls : ∀ {bs : List Bool} {us : List Value}, Vals (bs.map V.bl) us → us = bs.map Value.bool
  | [], _, .nil => rfl
  | b :: r, _, .cons h t => by
    rw [vals_bls t, List.map_cons]
    exact congrArg (· :: _) h
theorem m_countB {X : Cx} : MtR X "list.count" (rDm (ct X) gCountB) := by
  intro pins s σ H x xs v us Q I rx rxs ⟨μ, S, d, ds, Qd, w, r1, ra, hg, q⟩
  unfold gCountB at hg
  split at hg
  · rename_i b
    obtain ⟨y, rfl, ry⟩ := ra.one
    cases ry.bl_inv
    obtain ⟨zs, e1, hg⟩ := onSome_of hg
    obtain ⟨bs, e2, hg⟩ := onSome_of hg
    obtain ⟨l, vs, rfl, hl, rl⟩ := r1.lstT w e1
    rw [blsOf_vals rl e2] at hl
    cases rx
    obtain ⟨u, rfl, ru⟩ := rxs.one
    cases ru
    obtain ⟨its, rv, ⟨⟨cls, dd, data, sl⟩, n, ho, hc, hdn, hd⟩, hlen⟩ := I.list (SqL.of hl)
    simp only at hc hd
    subst hc hd
    have ei := vals_bls rv
    subst ei
    refine call_meets PySem.F.slot_list_count ⟨_, ho, rfl⟩ PySem.F.entry_list_count (PySem.F.args_list_count_2 _ _) (SeqAt.list_countAt l _ n dd sl (.bool b) (eqb b)) ⟨ho, fun y hy => ?_, ?_⟩
    · have hy' : y ∈ bs.map Value.bool := List.mem_toArray.mp hy
      obtain ⟨k, _, rfl⟩ := List.mem_map.mp hy'
      exact SeqAt.EqAt.bool_bool k b
    · have ec : ((bs.map Value.bool).toArray.toList.countP (eqb b)) = bs.count b := by
        rw [List.countP_map]
        rfl
      refine ⟨.int (bs.count b : Nat), H, I.tok _, ⟨s.toks, ?_⟩, q.same w (.int _) hg⟩
      rw [ec]
  · exact hg.elim
/-- a method of a list that stays as it is -/
def dMLv (g : GM) (fo : FE) (fa : FA) : FE := fun ρ S Q Ed => fo ρ S (fun x S1 => onSome (lstOf S1 x) fun _ => fa ρ S1 (fun ds S2 => g x ds S2 Q) Ed) Ed
section
variable {X : Cx} {E : L2.St → XK} {o e : Expr} {es : List Expr} {fo : FE} {fa : FA} {name : Str} {id : String} {apos cpos : Pos}
theorem d_mlv {g : GM} (slot : Slot "list" name id) (hty : typeOf (.builtin id) = pure (.type "method_descriptor")) (hm : MtR X id (rDm (ct X) g)) (ho : PEd X E o fo) (ha : PAd X E (e :: es) fa)
    (hbase : attributeBase o name X.env (eval o X.env) = eval o X.env := by rfl)
    (hfew : ((backTo cpos (starEach (e :: es) X.env)).all (fun x => !x.1) && (backToKw cpos (keywordEach [] X.env)).all (fun x => x.1.isSome) && decide ((e :: es).length + ([] : List Keyword).length + (if ([] : List Keyword).isEmpty then 0 else 1) < 30)) = true := by rfl)
    (hline : (apos.endLine == cpos.line) = true := by rfl) (hs : starEach (e :: es) X.env = (false, eval e X.env) :: starEach es X.env := by rfl) (hplain : (backTo cpos (starEach es X.env)).any (·.1) = false := by rfl) :
    PEd X E (.Call (.Attribute o name apos) (e :: es) [] cpos) (dMLv g fo fa) := by
  refine PE.imp (pe_bm PySem.F.plainAttrs_list slot hty hm ho ha hbase hfew hline hs hplain) fun σ H Q ⟨μ, S, ρ, Qd, Ed, w, en, hf, q, px⟩ => ?_
  refine tR_of w en hf px fun x S1 v H1 μ1 h1 f1 w1 en1 px1 r1 => ?_
  obtain ⟨xs, e1, h1⟩ := onSome_of h1
  obtain ⟨a, vs, rfl, ha', ra⟩ := r1.lstT w1 e1
  refine ⟨.inl ⟨rfl, vs, SqL.of ha'⟩, ?_⟩
  refine tR_of w1 en1 h1 px1 fun ds S2 us H2 μ2 h2 f2 w2 en2 px2 r2 => ?_
  exact ⟨μ2, S2, x, ds, Qd, w2, r1.fw w1 f2, r2, h2, fun d S' v' H' μ' h f w' r => q d S' v' H' μ' h (f1.trans (f2.trans f)) w' r⟩
end
/-! ## isinstance of values, instances among them -/
/-- of a class of the row: what isinstance asks of its instances -/
structure InsT (K : PySem.W.Frag) (C : Addr) : Prop where
  cl : Cls K C
  ha : PySem.W.findIn K (.ref C) "__class__" = some (some (.builtin "object.__class__"))
  hn : PySem.W.specialIn K (.builtin "object.__class__") "__get__" = some (some (.builtin "getset_descriptor.__get__"))
  tk : PySem.W.takesIn K (.builtin "object.__class__") = some true
  hm : PySem.W.mroIn K C (.type "object") = some true
def gIsiO (xs : List Str) (t : Ty6) : D → Sto → QD → Prop := fun d S Q => match insOf S d with
  | some cf => xs.contains cf.1 = true ∧ Q (.bl false) S
  | none => gIsi t d S Q
section
variable {X : Cx} {E : L2.St → XK} {a b : Expr} {fa : FE} {xs : List Str} {pos p2 : Pos}
theorem d_isiO {t : Ty6} (hx : ∀ x ∈ xs, ∀ C, X.mg x = some (.ref C) → InsT X.K C ∧ PySem.W.kitOne X.K (.ref C) (.type t.name) = some false) (hg : Gl X "isinstance") (hm : X.mg "isinstance" = none) (ha : PEd X E a fa) (hb : PE X b (tC (.ty t.name)))
    (hs1 : starEach [a, b] X.env = (false, eval a X.env) :: starEach [b] X.env := by rfl) (hs2 : starEach [b] X.env = (false, eval b X.env) :: starEach [] X.env := by rfl) (hf2 : (backTo pos (starEach [b] X.env)).any (·.1) = false := by rfl) :
    PEd X E (.Call (.Name "isinstance" p2) [a, b] [] pos) (dUn (gIsiO xs t) fa) := by
  refine PE.imp (pe_callB call_isi hg hm (show bootBuiltins "isinstance" = some (.builtin "isinstance") by decide +kernel) (pa_cons ha (pa_cons hb pa_nil hs2) hs1) (by decide) (by decide) hs1 hf2) fun σ H Q ⟨μ, S, ρ, Qd, Ed, w, en, hf, q, px⟩ => ?_
  refine tR_of w en hf px fun x S1 v H1 μ1 h1 f1 w1 en1 px1 r1 => ?_
  unfold gIsiO at h1
  split at h1
  · rename_i cf e1
    obtain ⟨hc, hq⟩ := h1
    obtain ⟨n, fs⟩ := cf
    obtain ⟨p, C, dx, fv, rfl, hp, hg', _⟩ := r1.insT w1 e1
    obtain ⟨T, hk⟩ := hx n (mem_of_contains hc) C hg'
    exact ⟨_, _, _, _, false, rfl, .ty _, .base (.ins hp T.cl T.ha T.hn T.tk T.hm), hk, q _ S1 _ H1 μ1 hq f1 w1 (.bl false)⟩
  · obtain ⟨k, e, hq⟩ := onSome_of h1
    obtain ⟨t1, t2⟩ := isA_ty w1 r1 e
    exact ⟨v, _, _, _, k, rfl, .ty _, t1, t2, q _ S1 _ H1 μ1 hq f1 w1 (.bl k)⟩
end
end Pu
namespace Pu
open PySem L2
def den_is_number_from : FS := (dSeq (dIfS (dOr (dTest (dUn (gIsi .bool) (dVar 0))) (dNot (dTest (dUn (gIsi .int) (dVar 0)))))
 (dRet (dC (.bl false)))
 dSkip)
 (dRet (dChain gLe gLe (dVar 1) (dVar 0) (dVar 2))))
@[irreducible] def F_is_number_from : FF := dDef 3 3 den_is_number_from
def den_law_deck : FS := (dRet (dLstC (dCons (dLcC (st1 1) dYes (dB gAbs (dCons (dVar 1) dNil)) (dItS (dSl (dVar 0) dNoP (dPart (dC (.int 63)))))) (dCons (dC (.int 0)) dNil))))
@[irreducible] def F_law_deck : FF := dDef 1 2 den_law_deck
def den_law_draw : FS := (dSeq (dAsg (dBin gAdd (dBin gIx (dVar 0) (dC (.int 1))) (dC (.int 1))) (gSetI (dVar 0) (dC (.int 1))))
 (dSeq (dAsg (dTup (dCons (dC (.int 0)) (dCons (dUn gNeg (dC (.int 1))) dNil))) (gTp 2 (gsCons (gN 2) (gsCons (gN 3) gsNil))))
 (dCut (dIfS (dTest (dBin gGt (dB gLen (dCons (dBin gIx (dVar 0) (dC (.int 0))) dNil)) (dC (.int 0))))
 (dSeq (dAsg (dBin gMod (dBin gIx (dVar 0) (dC (.int 1))) (dB gLen (dCons (dBin gIx (dVar 0) (dC (.int 0))) dNil))) (gN 3))
 (dAsg (dBin gIx (dBin gIx (dVar 0) (dC (.int 0))) (dVar 3)) (gN 2)))
 dSkip)
 (dSeq (dIfS (dTest (dBin gGe (dVar 2) (dBin gPow (dC (.int 10)) (dC (.int 18)))))
 (dSeq (dAsg (dBin gFdiv (dVar 2) (dVar 1)) (gSetI (dBin gIx (dVar 0) (dC (.int 0))) (dVar 3)))
 (dRet (dBin gMod (dVar 2) (dVar 1))))
 dSkip)
 (dRet (dBin gMod (dBin gFdiv (dBin gMod (dBin gPow (dBin gAdd (dBin gAdd (dBin gMod (dVar 2) (dC (.int 2147483587))) (dBin gMul (dC (.int 7919)) (dBin gIx (dVar 0) (dC (.int 1))))) (dC (.int 1))) (dC (.int 5))) (dC (.int 2147483647))) (dC (.int 7))) (dVar 1)))))))
@[irreducible] def F_law_draw : FF := dDef 2 4 den_law_draw
def den_law_same : FS := (dRet (dBin gEq (dB gRepr (dCons (dVar 0) dNil)) (dB gRepr (dCons (dVar 1) dNil))))
@[irreducible] def F_law_same : FF := dDef 2 2 den_law_same
def den_law_is_number : FS := (dRet (dAndV (dUn (gIsi .int) (dVar 0)) (dAndV (dNotV (dUn (gIsi .bool) (dVar 0))) (dChain gLe gLe (dVar 1) (dVar 0) (dVar 2)))))
@[irreducible] def F_law_is_number : FF := dDef 3 3 den_law_is_number
def den_road_error : FS := (dSeq (dIfS (dOr (dNot (dTest (dUn (gIsi .tup) (dVar 0)))) (dTest (dBin gNe (dB gLen (dCons (dVar 0) dNil)) (dC (.int 3)))))
 (dRet (dTup (dCons (dC .non) (dCons (dC (.str "road")) dNil))))
 dSkip)
 (dSeq (dAsg (dVar 0) (gTp 3 (gsCons (gN 1) (gsCons (gN 2) (gsCons (gN 3) gsNil)))))
 (dSeq (dIfS (dOr (dNot (dTest (dCallW F_is_number_from (dCons (dVar 1) (dCons (dC (.int 1)) (dCons (dC (.int 1000)) dNil)))))) (dNot (dTest (dCallW F_is_number_from (dCons (dVar 2) (dCons (dC (.int 1)) (dCons (dBin gSub (dVar 1) (dC (.int 1))) dNil)))))))
 (dRet (dTup (dCons (dC .non) (dCons (dC (.str "ticks")) dNil))))
 dSkip)
 (dSeq (dIfS (dOr (dNot (dTest (dUn (gIsi .tup) (dVar 3)))) (dNot (dTest (dChain gLe gLe (dC (.int 1)) (dB gLen (dCons (dVar 3) dNil)) (dC (.int 12))))))
 (dRet (dTup (dCons (dC .non) (dCons (dC (.str "bikes")) dNil))))
 dSkip)
 (dSeq (dFor (dEnT (dCons (dVar 3) dNil)) (gTp 2 (gsCons (gN 4) (gsCons (gN 5) gsNil)))
 (dIfS (dNot (dTest (dCallW F_is_number_from (dCons (dVar 5) (dCons (dC (.int 0)) (dCons (dC (.int 12)) dNil))))))
 (dRet (dTup (dCons (dVar 4) (dCons (dC (.str "bikes")) dNil))))
 dSkip))
 (dRet (dC .non)))))))
@[irreducible] def F_road_error : FF := dDef 1 6 den_road_error
def den_law_road : FS := (dSeq (dAsg (dBin gAdd (dC (.int 2)) (dCallW F_law_draw (dCons (dVar 0) (dCons (dBin gIx (dLst (dCons (dC (.int 4)) (dCons (dC (.int 20)) (dCons (dC (.int 999)) dNil)))) (dCallW F_law_draw (dCons (dVar 0) (dCons (dC (.int 3)) dNil)))) dNil)))) (gN 3))
 (dSeq (dAsg (dBin gIx (dLst (dCons (dC (.int 1)) (dCons (dBin gAdd (dC (.int 1)) (dCallW F_law_draw (dCons (dVar 0) (dCons (dBin gSub (dVar 3) (dC (.int 1))) dNil)))) dNil))) (dCallW F_law_draw (dCons (dVar 0) (dCons (dC (.int 2)) dNil)))) (gN 4))
 (dSeq (dPar 5 6 (dCons (dBin gIx (dLst (dCons (dBin gAdd (dC (.int 1)) (dCallW F_law_draw (dCons (dVar 0) (dCons (dVar 1) dNil)))) (dCons (dVar 1) dNil))) (dCallW F_law_draw (dCons (dVar 0) (dCons (dC (.int 2)) dNil)))) (dCons (dTup dNil) dNil)))
 (dSeq (dFor (dRng1 (dCons (dVar 5) dNil)) (gN 7)
 (dAsg (dBin gAdd (dVar 6) (dTup (dCons (dBin gMul (dCallW F_law_draw (dCons (dVar 0) (dCons (dBin gAdd (dVar 2) (dC (.int 1))) dNil))) (dBin gIx (dLst (dCons (dC (.int 1)) (dCons (dB gToInt (dCons (dBin gEq (dVar 7) (dC (.int 0))) dNil)) (dCons (dC (.int 0)) dNil)))) (dCallW F_law_draw (dCons (dVar 0) (dCons (dC (.int 3)) dNil))))) dNil))) (gN 6)))
 (dRet (dTup (dCons (dVar 3) (dCons (dVar 4) (dCons (dVar 6) dNil)))))))))
@[irreducible] def F_law_road : FF := dDef 3 8 den_law_road
def den_law_odd : FS := (dSeq (dAsg (dLst (dCons (dC .non) (dCons (dC (.bl true)) (dCons (dC (.bl false)) (dCons (dUn gNeg (dC (.int 1))) (dCons (dC (.int 0)) (dCons (dC (.int 1)) (dCons (dC (.int 12)) (dCons (dC (.int 13)) (dCons (dC (.int 1000)) (dCons (dBin gPow (dC (.int 10)) (dC (.int 39))) (dCons (dC (.str "")) (dCons (dC (.str "0")) (dCons (dTup dNil) (dCons (dLst dNil) (dCons (dC (.dic [])) (dCons (dTup (dCons (dC (.int 0)) dNil)) (dCons (dLst (dCons (dC (.int 0)) dNil)) (dCons (dTup (dCons (dC (.bl true)) dNil)) (dCons (dTup (dCons (dC (.int 1)) (dCons (dC (.int 0)) dNil))) dNil)))))))))))))))))))) (gN 1))
 (dRet (dBin gIx (dBin gAdd (dVar 1) (dLst (dCons (dTup (dCons (dTup (dCons (dC (.int 0)) dNil)) dNil)) (dCons (dTup (dCons (dC (.int 10)) (dCons (dC (.int 4)) (dCons (dTup (dCons (dC (.int 1)) (dCons (dC (.int 0)) dNil))) dNil)))) (dCons (dTup (dCons (dC (.int 0)) (dCons (dC (.int 0)) dNil))) (dCons (dTup (dCons (dTup dNil) (dCons (dTup dNil) dNil))) (dCons (dC (.dic [("a", 0)])) dNil))))))) (dCallW F_law_draw (dCons (dVar 0) (dCons (dC (.int 24)) dNil))))))
@[irreducible] def F_law_odd : FF := dDef 1 2 den_law_odd
def den_law_error : FS := (dSeq (dIfS (dOr (dNot (dTest (dUn (gIsi .tup) (dVar 0)))) (dTest (dBin gNe (dB gLen (dCons (dVar 0) dNil)) (dC (.int 3)))))
 (dRet (dTup (dCons (dC .non) (dCons (dC (.str "road")) dNil))))
 dSkip)
 (dSeq (dAsg (dVar 0) (gTp 3 (gsCons (gN 1) (gsCons (gN 2) (gsCons (gN 3) gsNil)))))
 (dSeq (dIfS (dOr (dNot (dTest (dCallW F_law_is_number (dCons (dVar 1) (dCons (dC (.int 1)) (dCons (dC (.int 1000)) dNil)))))) (dOr (dNot (dTest (dCallW F_law_is_number (dCons (dVar 2) (dCons (dC (.int 1)) (dCons (dC (.int 1000)) dNil)))))) (dTest (dBin gGe (dVar 2) (dVar 1)))))
 (dRet (dTup (dCons (dC .non) (dCons (dC (.str "ticks")) dNil))))
 dSkip)
 (dSeq (dIfS (dOr (dNot (dTest (dUn (gIsi .tup) (dVar 3)))) (dOr (dTest (dBin gLt (dB gLen (dCons (dVar 3) dNil)) (dC (.int 1)))) (dTest (dBin gGt (dB gLen (dCons (dVar 3) dNil)) (dC (.int 12))))))
 (dRet (dTup (dCons (dC .non) (dCons (dC (.str "bikes")) dNil))))
 dSkip)
 (dSeq (dAsg (dLc (st1 5) (dNot (dTest (dCallW F_law_is_number (dCons (dBin gIx (dVar 3) (dVar 5)) (dCons (dC (.int 0)) (dCons (dC (.int 12)) dNil)))))) (dVar 5) (dRng1 (dCons (dB gLen (dCons (dVar 3) dNil)) dNil))) (gN 4))
 (dRet (dIf (dTest (dBin gEq (dVar 4) (dLst dNil))) (dC .non) (dTup (dCons (dBin gIx (dVar 4) (dC (.int 0))) (dCons (dC (.str "bikes")) dNil))))))))))
@[irreducible] def F_law_error : FF := dDef 1 6 den_law_error
def den_is_road : FS := (dRet (dBin (gIs false) (dCallW F_road_error (dCons (dVar 0) dNil)) (dC .non)))
@[irreducible] def F_is_road : FF := dDef 1 1 den_is_road
def den_law_changed : FS := (dSeq (dAsg (dVar 1) (gTp 3 (gsCons (gN 2) (gsCons (gN 3) (gsCons (gN 4) gsNil)))))
 (dSeq (dPar 5 6 (dCons (dCallW F_law_draw (dCons (dVar 0) (dCons (dB gLen (dCons (dVar 4) dNil)) dNil))) (dCons (dCallW F_law_odd (dCons (dVar 0) dNil)) dNil)))
 (dSeq (dAsg (dBin gIx (dLst (dCons (dVar 6) (dCons (dC (.int 13)) (dCons (dC (.int 12)) (dCons (dUn gNeg (dC (.int 1))) (dCons (dLst (dCons (dC (.int 0)) dNil)) (dCons (dC (.bl true)) dNil))))))) (dCallW F_law_draw (dCons (dVar 0) (dCons (dC (.int 6)) dNil)))) (gN 7))
 (dSeq (dPar 8 9 (dCons (dSl (dVar 4) dNoP (dPart (dVar 5))) (dCons (dSl (dVar 4) (dPart (dBin gAdd (dVar 5) (dC (.int 1)))) dNoP) dNil)))
 (dSeq (dAsg (dLst (dCons (dBin gAdd (dBin gAdd (dVar 8) (dTup (dCons (dVar 7) dNil))) (dVar 9)) (dCons (dBin gAdd (dBin gAdd (dVar 8) (dTup (dCons (dVar 7) dNil))) (dSl (dVar 4) (dPart (dVar 5)) dNoP)) (dCons (dBin gAdd (dVar 8) (dVar 9)) (dCons (dB gListN (dCons (dVar 4) dNil)) (dCons (dVar 6) (dCons (dBin gAdd (dVar 4) (dSl (dVar 4) dNoP (dPart (dC (.int 1))))) dNil))))))) (gN 10))
 (dSeq (dAsg (dBin gAdd (dVar 10) (dLst (dCons (dSl (dBin gMul (dVar 4) (dC (.int 13))) dNoP (dPart (dC (.int 12)))) (dCons (dSl (dBin gMul (dVar 4) (dC (.int 13))) dNoP (dPart (dC (.int 13)))) (dCons (dBin gAdd (dBin gAdd (dVar 8) (dTup (dCons (dVar 7) (dCons (dVar 7) dNil)))) (dVar 9)) dNil))))) (gN 10))
 (dSeq (dAsg (dLc (st1 13) dYes (dTup (dCons (dVar 2) (dCons (dVar 3) (dCons (dVar 13) dNil)))) (dItS (dBin gAdd (dBin gMul (dSl (dVar 10) dNoP (dPart (dC (.int 1)))) (dC (.int 3))) (dVar 10)))) (gN 11))
 (dSeq (dAsg (dLst (dCons (dTup (dCons (dVar 2) (dCons (dVar 2) dNil))) (dCons (dTup (dCons (dVar 3) (dCons (dVar 2) dNil))) (dCons (dTup (dCons (dC (.int 1000)) (dCons (dC (.int 999)) dNil))) (dCons (dTup (dCons (dC (.int 1001)) (dCons (dC (.int 999)) dNil))) (dCons (dTup (dCons (dC (.int 2)) (dCons (dC (.int 1)) dNil))) (dCons (dTup (dCons (dC (.int 1)) (dCons (dC (.int 1)) dNil))) (dCons (dTup (dCons (dC (.int 1)) (dCons (dC (.int 0)) dNil))) (dCons (dTup (dCons (dVar 2) (dCons (dC (.int 0)) dNil))) (dCons (dTup (dCons (dVar 2) (dCons (dVar 6) dNil))) dNil)))))))))) (gN 12))
 (dSeq (dAsg (dBin gAdd (dVar 12) (dLst (dCons (dTup (dCons (dVar 6) (dCons (dVar 3) dNil))) (dCons (dTup (dCons (dVar 2) (dCons (dUn gNeg (dC (.int 1))) dNil))) (dCons (dTup (dCons (dC (.int 2)) (dCons (dC (.bl true)) dNil))) (dCons (dTup (dCons (dC (.bl true)) (dCons (dC (.int 1)) dNil))) dNil)))))) (gN 12))
 (dSeq (dAsg (dBin gAdd (dBin gAdd (dVar 11) (dLc (st1 14) dYes (dBin gAdd (dVar 14) (dTup (dCons (dVar 4) dNil))) (dItS (dVar 12)))) (dLst (dCons (dSl (dVar 1) dNoP (dPart (dC (.int 2)))) (dCons (dBin gAdd (dVar 1) (dTup (dCons (dC (.int 0)) dNil))) (dCons (dB gListN (dCons (dVar 1) dNil)) (dCons (dUn gRevT (dVar 1)) (dCons (dVar 6) dNil))))))) (gN 11))
 (dRet (dBin gIx (dVar 11) (dCallW F_law_draw (dCons (dVar 0) (dCons (dC (.int 30)) dNil)))))))))))))))
@[irreducible] def F_law_changed : FF := dDef 2 15 den_law_changed
def den_law_k00 : FS := (dSeq (dAsg (dCallW F_law_deck (dCons (dVar 0) dNil)) (gN 1))
 (dSeq (dFor (dRng1 (dCons (dC (.int 8)) dNil)) (gN 2)
 (dSeq (dAsg (dCallW F_law_road (dCons (dVar 1) (dCons (dBin gIx (dLst (dCons (dC (.int 12)) (dCons (dC (.int 3)) (dCons (dC (.int 6)) dNil)))) (dBin gMod (dVar 2) (dC (.int 3)))) (dCons (dBin gIx (dLst (dCons (dC (.int 12)) (dCons (dC (.int 1)) (dCons (dC (.int 3)) dNil)))) (dBin gMod (dVar 2) (dC (.int 3)))) dNil)))) (gN 3))
 (dSeq (dAsg (dB gTuple (dCons (dLc (st1 10) dYes (dBin gIx (dLst (dCons (dVar 10) (dCons (dBin gEq (dVar 10) (dC (.int 1))) dNil))) (dB gToInt (dCons (dBin gLt (dVar 10) (dC (.int 2))) dNil))) (dItS (dBin gIx (dVar 3) (dC (.int 2))))) dNil)) (gN 4))
 (dSeq (dAsg (dBin gAdd (dSl (dVar 3) dNoP (dPart (dC (.int 2)))) (dTup (dCons (dVar 4) dNil))) (gN 5))
 (dSeq (dAsg (dLst (dCons (dVar 3) (dCons (dVar 5) (dCons (dVar 3) (dCons (dTup (dCons (dC (.int 2)) (dCons (dC (.int 1)) (dCons (dTup (dCons (dC (.int 0)) dNil)) dNil)))) (dCons (dTup (dCons (dC (.int 2)) (dCons (dC (.bl true)) (dCons (dTup (dCons (dC (.int 0)) dNil)) dNil)))) (dCons (dTup (dCons (dC (.int 2)) (dCons (dC (.int 1)) (dCons (dTup (dCons (dC (.bl false)) dNil)) dNil)))) (dCons (dTup (dCons (dC (.int 2)) (dCons (dC (.int 1)) (dCons (dTup (dCons (dC (.int 0)) dNil)) dNil)))) (dCons (dCallW F_law_odd (dCons (dVar 1) dNil)) dNil))))))))) (gN 6))
 (dFor (dItS (dBin gAdd (dVar 6) (dLc (st1 11) dYes (dCallW F_law_changed (dCons (dVar 1) (dCons (dVar 3) dNil))) (dRng1 (dCons (dC (.int 14)) dNil))))) (gN 7)
 (dSeq (dPar 8 9 (dCons (dB gRepr (dCons (dVar 7) dNil)) (dCons (dCallW F_law_error (dCons (dVar 7) dNil)) dNil)))
 (dSeq (dIfS (dNot (dTest (dCallW F_law_same (dCons (dLc (st1 12) dYes (dCallW F_road_error (dCons (dVar 7) dNil)) (dRng1 (dCons (dC (.int 2)) dNil))) (dCons (dLst (dCons (dVar 9) (dCons (dVar 9) dNil))) dNil)))))
 (dRet (dC (.bl false)))
 dSkip)
 (dIfS (dOr (dTest (dBin gNe (dB gRepr (dCons (dCallW F_is_road (dCons (dVar 7) dNil)) dNil)) (dB gRepr (dCons (dBin (gIs false) (dVar 9) (dC .non)) dNil)))) (dTest (dBin gNe (dB gRepr (dCons (dVar 7) dNil)) (dVar 8))))
 (dRet (dC (.bl false)))
 dSkip)))))))))
 (dRet (dC (.bl true)))))
@[irreducible] def F_law_k00 : FF := dDef 1 13 den_law_k00
end Pu
namespace Pu
open PySem L2
def den_needs_of : FS := (dSeq (dAsg (dVar 0) (gTp 3 (gsCons (gN 3) (gsCons (gN 4) (gsCons (gN 5) gsNil)))))
 (dSeq (dAsg (dBin gMul (dVar 3) (dB gLen (dCons (dVar 5) dNil))) (gN 6))
 (dRet (dB gTuple (dCons (dLc (st1 7) dYes (dB gMax (dCons (dC (.int 0)) (dCons (dUn gNeg (dBin gFdiv (dBin gSub (dBin gSub (dVar 2) (dVar 7)) (dVar 6)) (dBin gSub (dVar 3) (dVar 4)))) dNil))) (dItS (dVar 1))) dNil)))))
@[irreducible] def F_needs_of : FF := dDef 3 8 den_needs_of
def den_law_draw_2 : FS := (dSeq (dAsg (dBin gAdd (dBin gIx (dVar 0) (dC (.int 1))) (dC (.int 1))) (gSetI (dVar 0) (dC (.int 1))))
 (dSeq (dAsg (dC (.int 0)) (gN 2))
 (dSeq (dAsg (dUn gNeg (dC (.int 1))) (gN 3))
 (dCut (dIfS (dTest (dBin gGt (dB gLen (dCons (dBin gIx (dVar 0) (dC (.int 0))) dNil)) (dC (.int 0))))
 (dSeq (dAsg (dBin gMod (dBin gIx (dVar 0) (dC (.int 1))) (dB gLen (dCons (dBin gIx (dVar 0) (dC (.int 0))) dNil))) (gN 3))
 (dAsg (dBin gIx (dBin gIx (dVar 0) (dC (.int 0))) (dVar 3)) (gN 2)))
 dSkip)
 (dSeq (dIfS (dTest (dBin gGe (dVar 2) (dBin gPow (dC (.int 10)) (dC (.int 18)))))
 (dSeq (dAsg (dBin gFdiv (dVar 2) (dVar 1)) (gSetI (dBin gIx (dVar 0) (dC (.int 0))) (dVar 3)))
 (dRet (dBin gMod (dVar 2) (dVar 1))))
 dSkip)
 (dRet (dBin gMod (dBin gMod (dBin gPow (dBin gAdd (dBin gAdd (dBin gMod (dVar 2) (dC (.int 2147483587))) (dBin gMul (dC (.int 7919)) (dBin gIx (dVar 0) (dC (.int 1))))) (dC (.int 1))) (dC (.int 5))) (dC (.int 2147483647))) (dVar 1))))))))
@[irreducible] def F_law_draw_2 : FF := dDef 2 4 den_law_draw_2
def den_law_need : FS := (dSeq (dAsg (dBin gSub (dBin gIx (dVar 0) (dC (.int 0))) (dBin gIx (dVar 0) (dC (.int 1)))) (gN 3))
 (dSeq (dAsg (dBin gAdd (dVar 1) (dBin gMul (dBin gIx (dVar 0) (dC (.int 0))) (dB gLen (dCons (dBin gIx (dVar 0) (dC (.int 2))) dNil)))) (gN 4))
 (dSeq (dAsg (dB gMax (dCons (dC (.int 0)) (dCons (dBin gSub (dBin gFdiv (dBin gSub (dVar 4) (dVar 2)) (dVar 3)) (dC (.int 2))) dNil))) (gN 5))
 (dSeq (dWhile (dTest (dBin gGt (dBin gSub (dVar 4) (dBin gMul (dVar 3) (dVar 5))) (dVar 2)))
 (dAsg (dBin gAdd (dVar 5) (dC (.int 1))) (gN 5)))
 (dRet (dVar 5))))))
@[irreducible] def F_law_need : FF := dDef 3 6 den_law_need
def den_law_road_2 : FS := (dSeq (dAsg (dBin gAdd (dC (.int 2)) (dCallW F_law_draw_2 (dCons (dVar 0) (dCons (dBin gIx (dLst (dCons (dC (.int 4)) (dCons (dC (.int 20)) (dCons (dC (.int 999)) dNil)))) (dCallW F_law_draw_2 (dCons (dVar 0) (dCons (dC (.int 3)) dNil)))) dNil)))) (gN 3))
 (dSeq (dPar3 4 5 6 (dCons (dBin gAdd (dC (.int 1)) (dCallW F_law_draw_2 (dCons (dVar 0) (dCons (dBin gSub (dVar 3) (dC (.int 1))) dNil)))) (dCons (dCallW F_law_draw_2 (dCons (dVar 0) (dCons (dC (.int 3)) dNil))) (dCons (dLstC dNil) dNil))))
 (dSeq (dFor (dRng1 (dCons (dBin gAdd (dC (.int 1)) (dCallW F_law_draw_2 (dCons (dVar 0) (dCons (dVar 1) dNil)))) dNil)) (gN 7)
 (dSeq (dAsg (dLst (dCons (dBin gMul (dCallW F_law_draw_2 (dCons (dVar 0) (dCons (dC (.int 3)) dNil))) (dB gToInt (dCons (dBin iEq (dCallW F_law_draw_2 (dCons (dVar 0) (dCons (dC (.int 4)) dNil))) (dC (.int 0))) dNil))) (dCons (dCallW F_law_draw_2 (dCons (dVar 0) (dCons (dC (.int 2)) dNil))) (dCons (dCallW F_law_draw_2 (dCons (dVar 0) (dCons (dBin gAdd (dVar 2) (dC (.int 1))) dNil))) dNil)))) (gN 8))
 (dDrop (dML gAppend (dVar 6) (dCons (dBin gIx (dVar 8) (dVar 5)) dNil)))))
 (dRet (dTup (dCons (dVar 3) (dCons (dVar 4) (dCons (dB gTuple (dCons (dVar 6) dNil)) dNil))))))))
@[irreducible] def F_law_road_2 : FF := dDefC 3 9 den_law_road_2
def den_law_starts_2 : FS := (dSeq (dAsg (dBin gIx (dLst (dCons (dC (.int 1)) (dCons (dBin gIx (dVar 1) (dC (.int 0))) (dCons (dBin gMul (dC (.int 3)) (dBin gIx (dVar 1) (dC (.int 0)))) (dCons (dBin gAdd (dBin gPow (dC (.int 10)) (dC (.int 6))) (dC (.int 1))) dNil))))) (dCallW F_law_draw_2 (dCons (dVar 0) (dCons (dC (.int 4)) dNil)))) (gN 3))
 (dRet (dB gTuple (dCons (dLc (st1 4) dYes (dCallW F_law_draw_2 (dCons (dVar 0) (dCons (dVar 3) dNil))) (dRng1 (dCons (dBin gAdd (dC (.int 1)) (dCallW F_law_draw_2 (dCons (dVar 0) (dCons (dVar 2) dNil)))) dNil))) dNil))))
@[irreducible] def F_law_starts_2 : FF := dDef 3 5 den_law_starts_2
def den_law_k11 : FS := (dSeq (dAsg (dCallW F_law_deck (dCons (dVar 0) dNil)) (gN 1))
 (dSeq (dFor (dRng1 (dCons (dC (.int 12)) dNil)) (gN 2)
 (dSeq (dAsg (dCall 2 F_law_road_2 (dCons (dVar 1) (dCons (dC (.int 12)) (dCons (dC (.int 12)) dNil)))) (gN 3))
 (dSeq (dAsg (dCallW F_law_starts_2 (dCons (dVar 1) (dCons (dVar 3) (dCons (dC (.int 10)) dNil)))) (gN 4))
 (dSeq (dPar 5 6 (dCons (dB gLen (dCons (dBin gIx (dVar 3) (dC (.int 2))) dNil)) (dCons (dBin gSub (dBin gIx (dVar 3) (dC (.int 0))) (dBin gIx (dVar 3) (dC (.int 1)))) dNil)))
 (dSeq (dAsg (dBin gSub (dBin gAdd (dBin gIx (dVar 4) (dC (.int 0))) (dBin gMul (dBin gIx (dVar 3) (dC (.int 0))) (dVar 5))) (dBin gMul (dVar 6) (dCallW F_law_draw_2 (dCons (dVar 1) (dCons (dBin gAdd (dVar 5) (dC (.int 1))) dNil))))) (gN 7))
 (dFor (dItS (dLst (dCons (dC (.int 0)) (dCons (dBin gPow (dC (.int 10)) (dC (.int 7))) (dCons (dVar 7) (dCons (dBin gAdd (dVar 7) (dC (.int 1))) (dCons (dB gMax (dCons (dC (.int 0)) (dCons (dBin gSub (dVar 7) (dC (.int 1))) dNil))) (dCons (dCallW F_law_draw_2 (dCons (dVar 1) (dCons (dBin gPow (dC (.int 10)) (dC (.int 6))) dNil))) dNil)))))))) (gN 8)
 (dSeq (dAsg (dB iRepr (dCons (dLst (dCons (dVar 3) (dCons (dVar 4) dNil))) dNil)) (gN 9))
 (dSeq (dAsg (dB gTuple (dCons (dLc (st1 12) dYes (dCallW F_law_need (dCons (dVar 3) (dCons (dVar 12) (dCons (dVar 8) dNil)))) (dItS (dVar 4))) dNil)) (gN 10))
 (dSeq (dAsg (dLst (dCons (dCallW F_needs_of (dCons (dVar 3) (dCons (dVar 4) (dCons (dVar 8) dNil)))) (dCons (dCallW F_needs_of (dCons (dVar 3) (dCons (dVar 4) (dCons (dVar 8) dNil)))) dNil))) (gN 11))
 (dIfS (dOr (dTest (dBin iNe (dB iRepr (dCons (dVar 11) dNil)) (dB iRepr (dCons (dLst (dCons (dVar 10) (dCons (dVar 10) dNil))) dNil)))) (dTest (dBin iNe (dB iRepr (dCons (dLst (dCons (dVar 3) (dCons (dVar 4) dNil))) dNil)) (dVar 9))))
 (dRet (dC (.bl false)))
 dSkip))))))))))
 (dSeq (dIfS (dTest (dBin iNe (dCallW F_needs_of (dCons (dTup (dCons (dC (.int 2)) (dCons (dC (.int 1)) (dCons (dTup (dCons (dC (.int 0)) dNil)) dNil)))) (dCons (dTup (dCons (dBin gPow (dC (.int 10)) (dC (.int 6))) dNil)) (dCons (dC (.int 0)) dNil)))) (dTup (dCons (dC (.int 1000002)) dNil))))
 (dRet (dC (.bl false)))
 dSkip)
 (dRet (dBin iEq (dLst (dCons (dCallW F_needs_of (dCons (dTup (dCons (dC (.int 10)) (dCons (dC (.int 4)) (dCons (dTup (dCons (dC (.int 1)) (dCons (dC (.int 0)) (dCons (dC (.int 0)) dNil)))) dNil)))) (dCons (dTup (dCons (dC (.int 0)) (dCons (dC (.int 0)) dNil))) (dCons (dC (.int 23)) dNil)))) (dCons (dCallW F_needs_of (dCons (dTup (dCons (dC (.int 10)) (dCons (dC (.int 4)) (dCons (dTup (dCons (dC (.int 1)) (dCons (dC (.int 0)) dNil))) dNil)))) (dCons (dTup (dCons (dC (.int 0)) (dCons (dC (.int 9)) dNil))) (dCons (dC (.int 0)) dNil)))) dNil))) (dLst (dCons (dTup (dCons (dC (.int 2)) (dCons (dC (.int 2)) dNil))) (dCons (dTup (dCons (dC (.int 4)) (dCons (dC (.int 5)) dNil))) dNil))))))))
@[irreducible] def F_law_k11 : FF := dDef 1 13 den_law_k11
end Pu
namespace Pu
open PySem L2
def den_law_is_within : FS := (dRet (dAndV (dUn (gIsi .int) (dVar 0)) (dAndV (dNotV (dUn (gIsi .bool) (dVar 0))) (dChain gLe gLe (dVar 1) (dVar 0) (dVar 2)))))
@[irreducible] def F_law_is_within : FF := dDef 3 3 den_law_is_within
def den_Promise_latest : FS := (dRet (dFld ["Promise"] "promised" (dVar 0)))
@[irreducible] def F_Promise_latest : FF := dDef 1 1 den_Promise_latest
def den_is_end : FS := (dRet (dCallW F_is_number_from (dCons (dVar 0) (dCons (dC (.int 0)) (dCons (dC (.int 10000000)) dNil)))))
@[irreducible] def F_is_end : FF := dDef 1 1 den_is_end
def den_Promise_init : FS := (dSeq (dIfS (dNot (dTest (dCallW F_is_end (dCons (dVar 1) dNil))))
 (dRaise "BadEnd" "value" (dVar 1))
 dSkip)
 (dStF ["Promise"] "promised" (dVar 0) (dVar 1)))
@[irreducible] def F_Promise_init : FF := dDefX 2 2 den_Promise_init
def den_Promise_left : FS := (dSeq (dIfS (dNot (dTest (dCallW F_is_end (dCons (dVar 1) dNil))))
 (dRaise "BadEnd" "value" (dVar 1))
 dSkip)
 (dSeq (dIfS (dTest (dBin gGt (dVar 1) (dFld ["Promise"] "promised" (dVar 0))))
 (dRaise "TooLate" "tick" (dVar 1))
 dSkip)
 (dRet (dBin gSub (dFld ["Promise"] "promised" (dVar 0)) (dVar 1)))))
@[irreducible] def F_Promise_left : FF := dDefX 2 2 den_Promise_left
def den_law_left : FS := (dSeq (dTry 2 [("BadEnd", true), ("TooLate", true)] (dRet (dMeth [("Promise", F_Promise_left)] "left" (dVar 0) (dCons (dVar 1) dNil)))
 (dSeq (dAsg (dLst (dCons (dIsX [("BadEnd", "BadEnd", true), ("TooLate", "BadEnd", false)] 2 "BadEnd") (dCons (dIsX [("BadEnd", "TooLate", false), ("TooLate", "TooLate", true)] 2 "TooLate") dNil))) (gN 3))
 (dIfS (dAnd (dTest (dBin iEq (dMLv gCountB (dVar 3) (dCons (dC (.bl true)) dNil)) (dC (.int 1)))) (dAnd (dTest (dIsX [("BadEnd", "ValueError", true), ("TooLate", "ValueError", true)] 2 "ValueError")) (dNot (dTest (dIsXT [("BadEnd", "BadStart", false), ("BadEnd", "BadTicks", false), ("TooLate", "BadStart", false), ("TooLate", "BadTicks", false)] 2 ["BadStart", "BadTicks"])))))
 (dRet (dIf (dTest (dBin gIx (dVar 3) (dC (.int 0)))) (dLst (dCons (dC (.str "end")) (dCons (dB iRepr (dCons (dXf ["BadEnd"] 2 "value") dNil)) dNil))) (dLst (dCons (dC (.str "late")) (dCons (dB iRepr (dCons (dXf ["TooLate"] 2 "tick") dNil)) dNil)))))
 dSkip)))
 (dRet (dLst (dCons (dC (.str "other")) dNil))))
@[irreducible] def F_law_left : FF := dDef 2 4 den_law_left
def den_law_made : FS := (dSeq (dTry 1 [("BadEnd", true), ("TooLate", true)] (dRet (dMake "Promise" F_Promise_init (dCons (dVar 0) dNil)))
 (dIfS (dAnd (dTest (dIsX [("BadEnd", "BadEnd", true), ("TooLate", "BadEnd", false)] 1 "BadEnd")) (dAnd (dTest (dIsX [("BadEnd", "ValueError", true), ("TooLate", "ValueError", true)] 1 "ValueError")) (dNot (dTest (dIsXT [("BadEnd", "BadStart", false), ("BadEnd", "BadTicks", false), ("BadEnd", "TooLate", false), ("TooLate", "BadStart", false), ("TooLate", "BadTicks", false), ("TooLate", "TooLate", true)] 1 ["BadStart", "BadTicks", "TooLate"])))))
 (dRet (dLst (dCons (dC (.str "end")) (dCons (dB iRepr (dCons (dXf ["BadEnd"] 1 "value") dNil)) dNil))))
 dSkip))
 (dRet (dLst (dCons (dC (.str "other")) dNil))))
@[irreducible] def F_law_made : FF := dDefC 1 2 den_law_made
def den_law_k46 : FS := (dSeq (dAsg (dCallW F_law_deck (dCons (dVar 0) dNil)) (gN 1))
 (dSeq (dAsg (dLst (dCons (dC .non) (dCons (dC (.bl true)) (dCons (dC (.bl false)) (dCons (dUn gNeg (dC (.int 1))) (dCons (dBin gAdd (dBin gPow (dC (.int 10)) (dC (.int 7))) (dC (.int 1))) (dCons (dBin gPow (dC (.int 10)) (dC (.int 39))) (dCons (dC (.str "5")) (dCons (dC (.str "")) (dCons (dTup dNil) (dCons (dLst dNil) (dCons (dC (.dic [])) (dCons (dTup (dCons (dC (.int 3)) dNil)) dNil))))))))))))) (gN 2))
 (dSeq (dFor (dRng1 (dCons (dC (.int 6)) dNil)) (gN 3)
 (dSeq (dAsg (dBin gIx (dLst (dCons (dC (.int 0)) (dCons (dBin gPow (dC (.int 10)) (dC (.int 7))) (dCons (dCallW F_law_draw_2 (dCons (dVar 1) (dCons (dBin gAdd (dBin gPow (dC (.int 10)) (dC (.int 7))) (dC (.int 1))) dNil))) (dCons (dBin gIx (dVar 2) (dCallW F_law_draw_2 (dCons (dVar 1) (dCons (dC (.int 12)) dNil)))) dNil))))) (dCallW F_law_draw_2 (dCons (dVar 1) (dCons (dC (.int 4)) dNil)))) (gN 4))
 (dSeq (dAsg (dCall 0 F_law_made (dCons (dVar 4) dNil)) (gN 5))
 (dIfS (dNot (dTest (dCallW F_law_is_within (dCons (dVar 4) (dCons (dC (.int 0)) (dCons (dBin gPow (dC (.int 10)) (dC (.int 7))) dNil))))))
 (dIfS (dOr (dNot (dTest (dUn (gIsiO ["Promise"] .lst) (dVar 5)))) (dTest (dBin iNe (dVar 5) (dLst (dCons (dC (.str "end")) (dCons (dB iRepr (dCons (dVar 4) dNil)) dNil))))))
 (dRet (dC (.bl false)))
 dSkip)
 (dIfS (dTest (dUn (gIsiO ["Promise"] .lst) (dVar 5)))
 (dRet (dC (.bl false)))
 (dSeq (dAsg (dLst (dCons (dC (.int 0)) (dCons (dC (.bl false)) (dCons (dC (.int 1)) (dCons (dC (.bl true)) (dCons (dVar 4) (dCons (dB gMax (dCons (dC (.int 0)) (dCons (dBin gSub (dVar 4) (dC (.int 1))) dNil))) (dCons (dBin gAdd (dVar 4) (dC (.int 1))) (dCons (dCallW F_law_draw_2 (dCons (dVar 1) (dCons (dBin gAdd (dBin gPow (dC (.int 10)) (dC (.int 7))) (dC (.int 1))) dNil))) (dCons (dBin gPow (dC (.int 10)) (dC (.int 7))) dNil)))))))))) (gN 6))
 (dFor (dItS (dBin gAdd (dVar 6) (dLst (dCons (dBin gIx (dVar 2) (dCallW F_law_draw_2 (dCons (dVar 1) (dCons (dC (.int 12)) dNil)))) (dCons (dBin gIx (dVar 2) (dCallW F_law_draw_2 (dCons (dVar 1) (dCons (dC (.int 12)) dNil)))) dNil))))) (gN 7)
 (dSeq (dAsg (dLst (dCons (dC (.str "end")) (dCons (dB iRepr (dCons (dVar 7) dNil)) dNil))) (gN 8))
 (dCut (dIfS (dTest (dCallW F_law_is_within (dCons (dVar 7) (dCons (dC (.int 0)) (dCons (dBin gPow (dC (.int 10)) (dC (.int 7))) dNil)))))
 (dAsg (dIf (dTest (dBin gLe (dVar 7) (dVar 4))) (dBin gSub (dVar 4) (dVar 7)) (dLst (dCons (dC (.str "late")) (dCons (dB iRepr (dCons (dVar 7) dNil)) dNil)))) (gN 8))
 dSkip)
 (dIfS (dOr (dTest (dBin iNe (dB iRepr (dCons (dCallW F_law_left (dCons (dVar 5) (dCons (dVar 7) dNil))) dNil)) (dB iRepr (dCons (dVar 8) dNil)))) (dTest (dBin iNe (dB iRepr (dCons (dProp [("Promise", F_Promise_latest)] (dVar 5)) dNil)) (dB iRepr (dCons (dVar 4) dNil)))))
 (dRet (dC (.bl false)))
 dSkip))))))))))
 (dRet (dC (.bl true))))))
@[irreducible] def F_law_k46 : FF := dDef 1 9 den_law_k46
end Pu
namespace Pu
open PySem PySem.Spec PyProof.Rows L2
/-! ## small words for the printed terms -/
theorem all0 {α : Type} {P : α → Prop} : ∀ x ∈ ([] : List α), P x := fun _ z => nomatch z
theorem allS {α : Type} {P : α → Prop} {a : α} {l : List α} (h : P a) (r : ∀ x ∈ l, P x) : ∀ x ∈ a :: l, P x := fun x hx => by
  rcases List.mem_cons.mp hx with rfl | hx
  · exact h
  · exact r x hx
section
variable {K : PySem.W.Frag} {mg : Str → Option Value} {x f y : Str} {C : Addr}
theorem clf (c : Cls K C) (g : mg x = some (.ref C)) (n : NoAttr K C f) : ClF K mg f x := fun C' h => by
  rw [g] at h
  cases h
  exact ⟨c, n⟩
theorem con_of {i : Int} {u : Value} (g : mg x = some (.ref C)) (c : Cls K C) (k : Con K C f (.int i) u) : ConI K mg f i x := fun C' h => by
  rw [g] at h
  cases h
  exact ⟨c, u, k⟩
theorem mf_of {P : Program} {w : World} {b0 : Heap} {cx : CXT} {lv : Nat} {m : Str} {F : FF} {fn : Addr} {dat : FuncData} {pars : List Str} (g : mg x = some (.ref C)) (c : Cls K C) (h : Meth K C m fn) (G : Rb.FnG P w K mg b0 cx lv fn dat pars (spF (ct0 K mg) F)) (b : Binds K dat pars []) : MF P w K mg b0 cx lv m x F := fun C' z => by
  rw [g] at z
  cases z
  exact ⟨_, _, _, c, h, G, b⟩
theorem pf_of {P : Program} {w : World} {b0 : Heap} {lv : Nat} {F : FF} {fn p : Addr} {dat : FuncData} {pars : List Str} (g : mg x = some (.ref C)) (c : Cls K C) (h : PropOf K C f p fn) (G : Rb.FnG P w K mg b0 CX0 lv fn dat pars (spF (ct0 K mg) F)) (b : Binds K dat pars []) : PF P w K mg b0 lv f x F := fun C' z => by
  rw [g] at z
  cases z
  exact ⟨_, _, _, _, c, h, G, b⟩
theorem isi_of {n : String} (g : mg x = some (.ref C)) (t : InsT K C) (k : PySem.W.kitOne K (.ref C) (.type n) = some false) : ∀ C', mg x = some (.ref C') → InsT K C' ∧ PySem.W.kitOne K (.ref C') (.type n) = some false := fun C' h => by
  rw [g] at h
  cases h
  exact ⟨t, k⟩
theorem xi_own {D : Addr} {b : Bool} (g : mg x = some (.ref C)) (e : Rb.OwnE K C) (gy : mg y = some (.ref D)) (k : PySem.W.kitOne K (.ref C) (.ref D) = some b) : XI K mg x y b := ⟨C, g, e, fun u hu => by
  rcases hu with h | ⟨h, _⟩
  · rw [gy] at h
    cases h
    exact k
  · rw [gy] at h
    cases h⟩
theorem xi_ty {n : String} {b : Bool} (g : mg x = some (.ref C)) (e : Rb.OwnE K C) (gy : mg y = none) (bo : bootBuiltins y = some (.type n)) (k : PySem.W.kitOne K (.ref C) (.type n) = some b) : XI K mg x y b := ⟨C, g, e, fun u hu => by
  rcases hu with h | ⟨_, h⟩
  · rw [gy] at h
    cases h
  · rw [bo] at h
    cases h
    exact k⟩
/-- which errors an except clause takes -/
theorem xt_of {cv : Value} {b : Bool} (g : mg x = some (.ref C)) (k : PySem.W.exmOne K (.ref C) cv = some b) : ∀ cls, mg x = some cls → PySem.W.exmOne K cls cv = some b := fun cls h => by
  rw [g] at h
  cases h
  exact k
theorem tab_of {cv : Value} : ∀ {tab : List (Str × Bool)}, (∀ z ∈ tab, ∀ cls, mg z.1 = some cls → PySem.W.exmOne K cls cv = some z.2) → ∀ y b, lookB tab y = some b → ∀ cls, mg y = some cls → PySem.W.exmOne K cls cv = some b
  | [], _, _, _, h => by cases h
  | (z, k) :: r, ht, y, b, h => by
    unfold lookB at h
    by_cases e : z = y
    · rw [if_pos e] at h
      cases h
      subst e
      exact ht _ List.mem_cons_self
    · rw [if_neg e] at h
      exact tab_of (fun u hu => ht u (List.mem_cons_of_mem _ hu)) y b h
end
theorem takes0E {X : Cx} : Takes X (fun cls d _ H => E0 cls d H) := fun _ _ z => by
  obtain ⟨_, _, _, _, _, _, _, _, _, _, _, _, _, _, _, _, z⟩ := z
  exact z.elim
/-- __init__(self, f): self.f = f, of a class of errors -/
theorem ini_ok {P : Program} {w : World} {K : PySem.W.Frag} {mg : Str → Option Value} {base : Heap} {C fI : Addr} {fd : FuncData} {x qn f : Str} {st : Stmt} {s0 : Str} (F : Fun K x qn st fI fd) (S : FnScope [s0, f] [s0, f] (defScope st)) (T : OexC K C) (no : PySem.W.findIn K (.ref C) f = some none)
    (b : ∀ (cdv : Value) (A : Around) (out : List Env) (s : Shared) (H : Hp) (E : XK), PSs (cxOf CX0 P w K mg base [s0, f] qn (defScope st) fI cdv A out s H E).nox (defBody st) (tOst K f (tVar 0) (tVar 1))) : FnOk P w K mg base CX0 1 fI fd [s0, f] (Rb.spIni K C f) := by
  refine F.ok S (fun vs H Q E h => ?_) (fun cdv A outer s H vs Q E hr h => ?_)
  · obtain ⟨a, y, rfl, _⟩ := h
    rfl
  obtain ⟨a, y, rfl, e, q⟩ := h
  exact ⟨_, b cdv A outer s H E, _, rfl, _, rfl, a, C, rfl, T, no, .inl ⟨e, fun dx h ne => q dx h ne⟩⟩
end Pu
namespace Pu
open PySem PySem.Spec PyProof.Rows L2
def topS (i : Nat) : Stmt := PySem.Challenge.pw_roadbikes_k46_promises.main.body.getD i (.Pass ⟨0, 0, 0, 0⟩)
abbrev s_is_number_from : Stmt := topS 2
abbrev N_is_number_from : List Str := ["value", "least", "most"]
theorem sc_is_number_from : FnScope N_is_number_from ["value", "least", "most"] (defScope s_is_number_from) := ⟨rfl, rfl, rfl, by decide +kernel, rfl, by decide +kernel, by decide +kernel⟩
abbrev s_is_end : Stmt := topS 3
abbrev N_is_end : List Str := ["value"]
theorem sc_is_end : FnScope N_is_end ["value"] (defScope s_is_end) := ⟨rfl, rfl, rfl, by decide +kernel, rfl, by decide +kernel, by decide +kernel⟩
abbrev s__law_deck : Stmt := topS 13
abbrev N__law_deck : List Str := ["_law_script", "_law_cell"]
theorem sc__law_deck : FnScope N__law_deck ["_law_script"] (defScope s__law_deck) := ⟨rfl, rfl, rfl, by decide +kernel, rfl, by decide +kernel, by decide +kernel⟩
abbrev s__law_draw : Stmt := topS 14
abbrev N__law_draw : List Str := ["_law_deck_here", "_law_many", "_law_cell", "_law_place"]
theorem sc__law_draw : FnScope N__law_draw ["_law_deck_here", "_law_many"] (defScope s__law_draw) := ⟨rfl, rfl, rfl, by decide +kernel, rfl, by decide +kernel, by decide +kernel⟩
abbrev s__law_is_within : Stmt := topS 15
abbrev N__law_is_within : List Str := ["_law_value", "_law_low", "_law_high"]
theorem sc__law_is_within : FnScope N__law_is_within ["_law_value", "_law_low", "_law_high"] (defScope s__law_is_within) := ⟨rfl, rfl, rfl, by decide +kernel, rfl, by decide +kernel, by decide +kernel⟩
abbrev s__law_made : Stmt := topS 16
abbrev N__law_made : List Str := ["_law_latest", "e"]
theorem sc__law_made : FnScope N__law_made ["_law_latest"] (defScope s__law_made) := ⟨rfl, rfl, rfl, by decide +kernel, rfl, by decide +kernel, by decide +kernel⟩
abbrev s__law_left : Stmt := topS 17
abbrev N__law_left : List Str := ["_law_promise", "_law_tick", "e", "_law_flags"]
theorem sc__law_left : FnScope N__law_left ["_law_promise", "_law_tick"] (defScope s__law_left) := ⟨rfl, rfl, rfl, by decide +kernel, rfl, by decide +kernel, by decide +kernel⟩
abbrev s_Promise___init__ : Stmt := inClass (topS 11) 0
abbrev N_Promise___init__ : List Str := ["self", "latest"]
theorem sc_Promise___init__ : FnScope N_Promise___init__ ["self", "latest"] (defScope s_Promise___init__) := ⟨rfl, rfl, rfl, by decide +kernel, rfl, by decide +kernel, by decide +kernel⟩
abbrev s_Promise_latest : Stmt := inClass (topS 11) 1
abbrev N_Promise_latest : List Str := ["self"]
theorem sc_Promise_latest : FnScope N_Promise_latest ["self"] (defScope s_Promise_latest) := ⟨rfl, rfl, rfl, by decide +kernel, rfl, by decide +kernel, by decide +kernel⟩
abbrev s_Promise_left : Stmt := inClass (topS 11) 2
abbrev N_Promise_left : List Str := ["self", "tick"]
theorem sc_Promise_left : FnScope N_Promise_left ["self", "tick"] (defScope s_Promise_left) := ⟨rfl, rfl, rfl, by decide +kernel, rfl, by decide +kernel, by decide +kernel⟩
abbrev s_law : Stmt := topS 18
abbrev N_law : List Str := ["_law_script", "_law_deck_here", "_law_odd", "_law_turn", "_law_latest", "_law_promise", "_law_some", "_law_tick", "_law_due"]
theorem sc_law : FnScope N_law ["_law_script"] (defScope s_law) := ⟨rfl, rfl, rfl, by decide +kernel, rfl, by decide +kernel, by decide +kernel⟩
abbrev si_BadEnd : Stmt := inClass (topS 9) 0
theorem sci_BadEnd : FnScope ["self", "value"] ["self", "value"] (defScope si_BadEnd) := ⟨rfl, rfl, rfl, by decide +kernel, rfl, by decide +kernel, by decide +kernel⟩
abbrev si_TooLate : Stmt := inClass (topS 7) 0
theorem sci_TooLate : FnScope ["self", "tick"] ["self", "tick"] (defScope si_TooLate) := ⟨rfl, rfl, rfl, by decide +kernel, rfl, by decide +kernel, by decide +kernel⟩
structure Tx (K : PySem.W.Frag) (mg : Str → Option Value) where
  f_is_number_from : Addr
  fd_is_number_from : FuncData
  F_is_number_from : Fun K "is_number_from" "is_number_from" s_is_number_from f_is_number_from fd_is_number_from
  g_is_number_from : mg "is_number_from" = some (.ref f_is_number_from)
  b_is_number_from : Binds K fd_is_number_from ["value", "least", "most"] []
  f_is_end : Addr
  fd_is_end : FuncData
  F_is_end : Fun K "is_end" "is_end" s_is_end f_is_end fd_is_end
  g_is_end : mg "is_end" = some (.ref f_is_end)
  b_is_end : Binds K fd_is_end ["value"] []
  f__law_deck : Addr
  fd__law_deck : FuncData
  F__law_deck : Fun K "_law_deck" "_law_deck" s__law_deck f__law_deck fd__law_deck
  g__law_deck : mg "_law_deck" = some (.ref f__law_deck)
  b__law_deck : Binds K fd__law_deck ["_law_script"] []
  f__law_draw : Addr
  fd__law_draw : FuncData
  F__law_draw : Fun K "_law_draw" "_law_draw" s__law_draw f__law_draw fd__law_draw
  g__law_draw : mg "_law_draw" = some (.ref f__law_draw)
  b__law_draw : Binds K fd__law_draw ["_law_deck_here", "_law_many"] []
  f__law_is_within : Addr
  fd__law_is_within : FuncData
  F__law_is_within : Fun K "_law_is_within" "_law_is_within" s__law_is_within f__law_is_within fd__law_is_within
  g__law_is_within : mg "_law_is_within" = some (.ref f__law_is_within)
  b__law_is_within : Binds K fd__law_is_within ["_law_value", "_law_low", "_law_high"] []
  f__law_made : Addr
  fd__law_made : FuncData
  F__law_made : Fun K "_law_made" "_law_made" s__law_made f__law_made fd__law_made
  g__law_made : mg "_law_made" = some (.ref f__law_made)
  b__law_made : Binds K fd__law_made ["_law_latest"] []
  f__law_left : Addr
  fd__law_left : FuncData
  F__law_left : Fun K "_law_left" "_law_left" s__law_left f__law_left fd__law_left
  g__law_left : mg "_law_left" = some (.ref f__law_left)
  b__law_left : Binds K fd__law_left ["_law_promise", "_law_tick"] []
  f_Promise___init__ : Addr
  fd_Promise___init__ : FuncData
  F_Promise___init__ : Fun K "__init__" "Promise.__init__" s_Promise___init__ f_Promise___init__ fd_Promise___init__
  b_Promise___init__ : Binds K fd_Promise___init__ ["self", "latest"] []
  f_Promise_latest : Addr
  fd_Promise_latest : FuncData
  F_Promise_latest : Fun K "latest" "Promise.latest" s_Promise_latest f_Promise_latest fd_Promise_latest
  b_Promise_latest : Binds K fd_Promise_latest ["self"] []
  f_Promise_left : Addr
  fd_Promise_left : FuncData
  F_Promise_left : Fun K "left" "Promise.left" s_Promise_left f_Promise_left fd_Promise_left
  b_Promise_left : Binds K fd_Promise_left ["self", "tick"] []
  f_law : Addr
  fd_law : FuncData
  F_law : Fun K "law" "law" s_law f_law fd_law
  g_law : mg "law" = some (.ref f_law)
  b_law : Binds K fd_law ["_law_script"] []
  C_TripError : Addr
  gC_TripError : mg "TripError" = some (.ref C_TripError)
  C_BadTicks : Addr
  gC_BadTicks : mg "BadTicks" = some (.ref C_BadTicks)
  C_TooLate : Addr
  gC_TooLate : mg "TooLate" = some (.ref C_TooLate)
  C_BadStart : Addr
  gC_BadStart : mg "BadStart" = some (.ref C_BadStart)
  C_BadEnd : Addr
  gC_BadEnd : mg "BadEnd" = some (.ref C_BadEnd)
  C_Promise : Addr
  gC_Promise : mg "Promise" = some (.ref C_Promise)
  cl_Promise : Cls K C_Promise
  na_Promise_promised : NoAttr K C_Promise "promised"
  mk_Promise : Mk K C_Promise f_Promise___init__
  me_Promise_left : Meth K C_Promise "left" f_Promise_left
  pa_Promise_latest : Addr
  pr_Promise_latest : PropOf K C_Promise "latest" pa_Promise_latest f_Promise_latest
  it_Promise : InsT K C_Promise
  kt_Promise_list : PySem.W.kitOne K (.ref C_Promise) (.type "list") = some false
  E_BadEnd : Rb.OwnE K C_BadEnd
  no_BadEnd : PySem.W.findIn K (.ref C_BadEnd) "value" = some none
  fI_BadEnd : Addr
  fdI_BadEnd : FuncData
  iC_BadEnd : PySem.W.findIn K (.ref C_BadEnd) "__init__" = some (some (.ref fI_BadEnd))
  tI_BadEnd : PySem.W.typeIn K (.ref fI_BadEnd) = some (.type "function")
  FI_BadEnd : Fun K "__init__" "BadEnd.__init__" si_BadEnd fI_BadEnd fdI_BadEnd
  bI_BadEnd : Binds K fdI_BadEnd ["self", "value"] []
  E_TooLate : Rb.OwnE K C_TooLate
  no_TooLate : PySem.W.findIn K (.ref C_TooLate) "tick" = some none
  fI_TooLate : Addr
  fdI_TooLate : FuncData
  iC_TooLate : PySem.W.findIn K (.ref C_TooLate) "__init__" = some (some (.ref fI_TooLate))
  tI_TooLate : PySem.W.typeIn K (.ref fI_TooLate) = some (.type "function")
  FI_TooLate : Fun K "__init__" "TooLate.__init__" si_TooLate fI_TooLate fdI_TooLate
  bI_TooLate : Binds K fdI_TooLate ["self", "tick"] []
  xi_BadEnd_BadEnd : XI K mg "BadEnd" "BadEnd" true
  xi_BadEnd_BadStart : XI K mg "BadEnd" "BadStart" false
  xi_BadEnd_BadTicks : XI K mg "BadEnd" "BadTicks" false
  xi_BadEnd_TooLate : XI K mg "BadEnd" "TooLate" false
  xi_BadEnd_ValueError : XI K mg "BadEnd" "ValueError" true
  xi_TooLate_BadEnd : XI K mg "TooLate" "BadEnd" false
  xi_TooLate_BadStart : XI K mg "TooLate" "BadStart" false
  xi_TooLate_BadTicks : XI K mg "TooLate" "BadTicks" false
  xi_TooLate_TooLate : XI K mg "TooLate" "TooLate" true
  xi_TooLate_ValueError : XI K mg "TooLate" "ValueError" true
  x_BadEnd_TripError : PySem.W.exmOne K (.ref C_BadEnd) (.ref C_TripError) = some true
  x_TooLate_TripError : PySem.W.exmOne K (.ref C_TooLate) (.ref C_TripError) = some true
  t_LIMIT : Tok
  c_LIMIT : mg "LIMIT" = some (.int 10000000 t_LIMIT)
  z_ValueError : mg "ValueError" = none
  z_abs : mg "abs" = none
  z_bool : mg "bool" = none
  z_int : mg "int" = none
  z_isinstance : mg "isinstance" = none
  z_len : mg "len" = none
  z_list : mg "list" = none
  z_max : mg "max" = none
  z_range : mg "range" = none
  z_repr : mg "repr" = none
section
variable {P : Program} {w : World} {K : PySem.W.Frag} {mg : Str → Option Value} {base : Heap}
theorem Gi_BadEnd (T : Tx K mg) : FnOk P w K mg base CX0 1 T.fI_BadEnd T.fdI_BadEnd ["self", "value"] (Rb.spIni K T.C_BadEnd "value") :=
  ini_ok T.FI_BadEnd sci_BadEnd T.E_BadEnd.oex T.no_BadEnd (fun _ _ _ _ _ _ => pss_one (ps_ost (pv 0) (pv 1)))
theorem Gi_TooLate (T : Tx K mg) : FnOk P w K mg base CX0 1 T.fI_TooLate T.fdI_TooLate ["self", "tick"] (Rb.spIni K T.C_TooLate "tick") :=
  ini_ok T.FI_TooLate sci_TooLate T.E_TooLate.oex T.no_TooLate (fun _ _ _ _ _ _ => pss_one (ps_ost (pv 0) (pv 1)))
theorem G_is_number_from (T : Tx K mg) : Rb.FnG P w K mg base CX0 1 T.f_is_number_from T.fd_is_number_from ["value", "least", "most"] (spF (ct0 K mg) F_is_number_from) := by
  unfold F_is_number_from
  exact
   d_fn T.F_is_number_from sc_is_number_from fun cdv A out s H E hg hr => (d_seq (d_if (PW.pt (d_or (d_tval (d_isi (t := .bool) (by rfl) T.z_isinstance (d_var (pv 0)) (pe_bltn (by rfl) T.z_bool (show bootBuiltins "bool" = some (.type "bool") by decide +kernel) (show RelV (V.ty "bool") _ from rfl)))) (d_or1 (d_not (d_tval (d_isi (t := .int) (by rfl) T.z_isinstance (d_var (pv 0)) (pe_bltn (by rfl) T.z_int (show bootBuiltins "int" = some (.type "int") by decide +kernel) (show RelV (V.ty "int") _ from rfl))))))))
 (d_last (d_ret d_bl))
 d_end)
 (d_last (d_ret (d_chain o_le o_le (d_var (pv 1)) (d_var (pv 0)) (d_var (pv 2))))))
theorem G_law_deck (T : Tx K mg) : Rb.FnG P w K mg base CX0 1 T.f__law_deck T.fd__law_deck ["_law_script"] (spF (ct0 K mg) F_law_deck) := by
  unfold F_law_deck
  exact
   d_fn T.F__law_deck sc__law_deck fun cdv A out s H E hg hr => (d_last (d_ret (d_lstC (d_cons (d_lcC (own := [("_law_cell", 1)]) (g := (gName 1)) (st := (st1 1)) lct1 (by rfl) sc__law_deck.nd (d_iseq (d_slice (d_var (pv 0)) d_noP (d_part d_int))) (blkOk_by (own := [("_law_cell", 1)]) (N := N__law_deck) (sc := defScope s__law_deck) (by decide +kernel)) (fun _ _ _ _ _ => (pg_name (i := 1) sc__law_deck.nd rfl (.inl rfl))) (fun _ _ _ _ _ => d_tnil) (fun _ _ _ _ _ => (d_callB c_abs (by rfl) T.z_abs (by decide +kernel) (d_cons (d_var (pv 1)) d_nil)))) (d_cons d_int d_nil)))))
theorem G_law_draw (T : Tx K mg) : Rb.FnG P w K mg base CX0 1 T.f__law_draw T.fd__law_draw ["_law_deck_here", "_law_many"] (spF (ct0 K mg) F_law_draw_2) := by
  unfold F_law_draw_2
  exact
   d_fn T.F__law_draw sc__law_draw fun cdv A out s H E hg hr => (d_seq (d_asg (d_bin o_add (d_ix (d_var (pv 0)) d_int (fun _ _ => rfl)) d_int) (d_gsub (d_var (pv 0)) d_int))
 (d_seq (d_set (i := 2) sc__law_draw.nd rfl (.inl rfl) d_int)
 (d_seq (d_set (i := 3) sc__law_draw.nd rfl (.inl rfl) (d_un u_neg d_int))
 (d_cut (d_if (d_tcmp o_gt (d_callB c_len (by rfl) T.z_len (by decide +kernel) (d_cons (d_ix (d_var (pv 0)) d_int (fun _ _ => rfl)) d_nil)) d_int (nomark _))
 (d_seq (d_set (i := 3) sc__law_draw.nd rfl (.inl rfl) (d_bin o_mod (d_ix (d_var (pv 0)) d_int (fun _ _ => rfl)) (d_callB c_len (by rfl) T.z_len (by decide +kernel) (d_cons (d_ix (d_var (pv 0)) d_int (fun _ _ => rfl)) d_nil))))
 (d_last (d_set (i := 2) sc__law_draw.nd rfl (.inl rfl) (d_ix (d_ix (d_var (pv 0)) d_int (fun _ _ => rfl)) (d_var (pv 3)) (fun _ _ => rfl)))))
 d_end)
 (d_seq (d_if (d_tcmp o_ge (d_var (pv 2)) (d_bin o_pow d_int d_int) (nomark _))
 (d_seq (d_asg (d_bin o_fdiv (d_var (pv 2)) (d_var (pv 1))) (d_gsub (d_ix (d_var (pv 0)) d_int (fun _ _ => rfl)) (d_var (pv 3))))
 (d_last (d_ret (d_bin o_mod (d_var (pv 2)) (d_var (pv 1))))))
 d_end)
 (d_last (d_ret (d_bin o_mod (d_bin o_mod (d_bin o_pow (d_bin o_add (d_bin o_add (d_bin o_mod (d_var (pv 2)) d_int) (d_bin o_mul d_int (d_ix (d_var (pv 0)) d_int (fun _ _ => rfl)))) d_int) d_int) d_int) (d_var (pv 1))))))))))
theorem G_law_is_within (T : Tx K mg) : Rb.FnG P w K mg base CX0 1 T.f__law_is_within T.fd__law_is_within ["_law_value", "_law_low", "_law_high"] (spF (ct0 K mg) F_law_is_within) := by
  unfold F_law_is_within
  exact
   d_fn T.F__law_is_within sc__law_is_within fun cdv A out s H E hg hr => (d_last (d_ret (d_andV (d_isi (t := .int) (by rfl) T.z_isinstance (d_var (pv 0)) (pe_bltn (by rfl) T.z_int (show bootBuiltins "int" = some (.type "int") by decide +kernel) (show RelV (V.ty "int") _ from rfl))) (d_andV (d_notV (d_isi (t := .bool) (by rfl) T.z_isinstance (d_var (pv 0)) (pe_bltn (by rfl) T.z_bool (show bootBuiltins "bool" = some (.type "bool") by decide +kernel) (show RelV (V.ty "bool") _ from rfl)))) (d_one (d_chain o_le o_le (d_var (pv 1)) (d_var (pv 0)) (d_var (pv 2))))))))
theorem G_Promise_latest (T : Tx K mg) : Rb.FnG P w K mg base CX0 1 T.f_Promise_latest T.fd_Promise_latest ["self"] (spF (ct0 K mg) F_Promise_latest) := by
  unfold F_Promise_latest
  exact
   d_fn T.F_Promise_latest sc_Promise_latest fun cdv A out s H E hg hr => (d_last (d_ret (d_fld (allS (clf T.cl_Promise T.gC_Promise T.na_Promise_promised) all0) (d_var (pv 0)))))
theorem PF_Promise_latest (T : Tx K mg) {lv : Nat} (h : 1 ≤ lv) : PF P w K mg base lv "latest" "Promise" F_Promise_latest := pf_of T.gC_Promise T.cl_Promise T.pr_Promise_latest (FnG_mono (G_Promise_latest T) h) T.b_Promise_latest
theorem G_is_end (T : Tx K mg) : Rb.FnG P w K mg base CX0 2 T.f_is_end T.fd_is_end ["value"] (spF (ct0 K mg) F_is_end) := by
  unfold F_is_end
  exact
   d_fn T.F_is_end sc_is_end fun cdv A out s H E hg hr => (d_last (d_ret (d_callW (G_is_number_from T) hg hr (by rfl) T.g_is_number_from T.F_is_number_from.kp T.b_is_number_from passG (d_cons (d_var (pv 0)) (d_cons d_int (d_cons (d_gint (by rfl) T.c_LIMIT) d_nil))))))
theorem G_Promise_init (T : Tx K mg) : Rb.FnG P w K mg base (L2.CX P w) 3 T.f_Promise___init__ T.fd_Promise___init__ ["self", "latest"] (spF (ct0 K mg) F_Promise_init) := by
  unfold F_Promise_init
  exact
   d_fnX T.F_Promise___init__ sc_Promise___init__ fun cdv A out s H E hg hr => (d_seq (d_if (d_not (d_tval (d_callW (G_is_end T) hg hr (by rfl) T.g_is_end T.F_is_end.kp T.b_is_end passG (d_cons (d_var (pv 1)) d_nil))))
 (d_last (d_raise rfl (takes_of rfl rfl rfl rfl) T.E_BadEnd.oex T.iC_BadEnd T.tI_BadEnd (Gi_BadEnd T) hr T.bI_BadEnd (by rfl) T.gC_BadEnd (d_var (pv 1))))
 d_end)
 (d_last (d_stF (allS (clf T.cl_Promise T.gC_Promise T.na_Promise_promised) all0) (d_var (pv 0)) (d_var (pv 1)))))
theorem MkF_Promise (T : Tx K mg) : MkF P w K mg base (L2.CX P w) 3 T.C_Promise F_Promise_init := ⟨_, _, _, T.mk_Promise, G_Promise_init T, T.b_Promise___init__⟩
theorem G_Promise_left (T : Tx K mg) : Rb.FnG P w K mg base (L2.CX P w) 3 T.f_Promise_left T.fd_Promise_left ["self", "tick"] (spF (ct0 K mg) F_Promise_left) := by
  unfold F_Promise_left
  exact
   d_fnX T.F_Promise_left sc_Promise_left fun cdv A out s H E hg hr => (d_seq (d_if (d_not (d_tval (d_callW (G_is_end T) hg hr (by rfl) T.g_is_end T.F_is_end.kp T.b_is_end passG (d_cons (d_var (pv 1)) d_nil))))
 (d_last (d_raise rfl (takes_of rfl rfl rfl rfl) T.E_BadEnd.oex T.iC_BadEnd T.tI_BadEnd (Gi_BadEnd T) hr T.bI_BadEnd (by rfl) T.gC_BadEnd (d_var (pv 1))))
 d_end)
 (d_seq (d_if (d_tcmp o_gt (d_var (pv 1)) (d_fld (allS (clf T.cl_Promise T.gC_Promise T.na_Promise_promised) all0) (d_var (pv 0))) (nomark _))
 (d_last (d_raise rfl (takes_of rfl rfl rfl rfl) T.E_TooLate.oex T.iC_TooLate T.tI_TooLate (Gi_TooLate T) hr T.bI_TooLate (by rfl) T.gC_TooLate (d_var (pv 1))))
 d_end)
 (d_last (d_ret (d_bin o_sub (d_fld (allS (clf T.cl_Promise T.gC_Promise T.na_Promise_promised) all0) (d_var (pv 0))) (d_var (pv 1)))))))
theorem MF_Promise_left (T : Tx K mg) {lv : Nat} (h : 3 ≤ lv) : MF P w K mg base (L2.CX P w) lv "left" "Promise" F_Promise_left := mf_of T.gC_Promise T.cl_Promise T.me_Promise_left (FnG_mono (G_Promise_left T) h) T.b_Promise_left
theorem G_law_left (T : Tx K mg) : Rb.FnG P w K mg base CX0 4 T.f__law_left T.fd__law_left ["_law_promise", "_law_tick"] (spF (ct0 K mg) F_law_left) := by
  unfold F_law_left
  exact
   d_fn T.F__law_left sc__law_left fun cdv A out s H E hg hr => (d_seq (d_try (i := 2) rfl rfl rfl sc__law_left.nd rfl rfl ⟨by rfl, by decide, Or.inl T.gC_TripError⟩ takes0E (tab_of (allS (xt_of T.gC_BadEnd T.x_BadEnd_TripError) (allS (xt_of T.gC_TooLate T.x_TooLate_TripError) all0)))
 (fun W pn xe tk _ => (x_last (x_ret (d_meth (lv := 3) (cx := L2.CX P w) (ct_calm rfl) (allS (MF_Promise_left T (by decide)) all0) hg hr (passW tk) (d_var (pv 0)) (d_cons (d_var (pv 1)) d_nil)))))
 (fun a oe pn hfd => (d_seq (d_set (i := 3) sc__law_left.nd rfl (.inl rfl) (d_lst (d_cons (d_isX hfd (allS T.xi_BadEnd_BadEnd (allS T.xi_TooLate_BadEnd all0)) (by rfl) T.z_isinstance (pv 2) (cl_own (by rfl) T.gC_BadEnd)) (d_cons (d_isX hfd (allS T.xi_BadEnd_TooLate (allS T.xi_TooLate_TooLate all0)) (by rfl) T.z_isinstance (pv 2) (cl_own (by rfl) T.gC_TooLate)) d_nil))))
 (d_last (d_if (PW.pt (d_and (d_tcmp (o_ieq hr.units) (d_mlv PySem.F.slot_list_count PySem.F.type_list_count m_countB (d_var (pv 3)) (d_cons d_bl d_nil)) d_int (nomark _)) (d_and (d_tval (d_isX hfd (allS T.xi_BadEnd_ValueError (allS T.xi_TooLate_ValueError all0)) (by rfl) T.z_isinstance (pv 2) (cl_ty (n := "ValueError") (by rfl) T.z_ValueError (by decide +kernel)))) (d_and1 (d_not (d_tval (d_isXT hfd (allS T.xi_BadEnd_BadStart (allS T.xi_BadEnd_BadTicks (allS T.xi_TooLate_BadStart (allS T.xi_TooLate_BadTicks all0)))) (by rfl) T.z_isinstance (pv 2) (ClEs.cons (cl_own (by rfl) T.gC_BadStart) (ClEs.cons (cl_own (by rfl) T.gC_BadTicks) ClEs.nil)) (Nat.le_of_ble_eq_true rfl))))))))
 (d_last (d_ret (d_ifE (d_tval (d_ix (d_var (pv 3)) d_int (fun _ _ => rfl))) (d_lst (d_cons d_str (d_cons (d_callB (c_irepr hg hr.units) (by rfl) T.z_repr (by decide +kernel) (d_cons (d_xf hfd (allS ⟨_, T.gC_BadEnd, T.E_BadEnd.xf, T.no_BadEnd⟩ all0) (pv 2)) d_nil)) d_nil))) (d_lst (d_cons d_str (d_cons (d_callB (c_irepr hg hr.units) (by rfl) T.z_repr (by decide +kernel) (d_cons (d_xf hfd (allS ⟨_, T.gC_TooLate, T.E_TooLate.xf, T.no_TooLate⟩ all0) (pv 2)) d_nil)) d_nil))))))
 d_end)))))
 (d_last (d_ret (d_lst (d_cons d_str d_nil)))))
theorem G_law_made (T : Tx K mg) : Rb.FnG P w K mg base CX0 5 T.f__law_made T.fd__law_made ["_law_latest"] (spF (ct0 K mg) F_law_made) := by
  unfold F_law_made
  exact
   d_fnC T.F__law_made sc__law_made fun cdv A out s H E hg hr => (d_seq (d_try (i := 1) rfl rfl rfl sc__law_made.nd rfl rfl ⟨by rfl, by decide, Or.inl T.gC_TripError⟩ takes0E (tab_of (allS (xt_of T.gC_BadEnd T.x_BadEnd_TripError) (allS (xt_of T.gC_TooLate T.x_TooLate_TripError) all0)))
 (fun W pn xe tk _ => (x_last (x_ret (d_make (lv := 3) (ct_calm rfl) (MkF_Promise T) hg hr (by rfl) T.gC_Promise (passW tk) (d_cons (d_var (pv 0)) d_nil)))))
 (fun a oe pn hfd => (d_last (d_if (PW.pt (d_and (d_tval (d_isX hfd (allS T.xi_BadEnd_BadEnd (allS T.xi_TooLate_BadEnd all0)) (by rfl) T.z_isinstance (pv 1) (cl_own (by rfl) T.gC_BadEnd))) (d_and (d_tval (d_isX hfd (allS T.xi_BadEnd_ValueError (allS T.xi_TooLate_ValueError all0)) (by rfl) T.z_isinstance (pv 1) (cl_ty (n := "ValueError") (by rfl) T.z_ValueError (by decide +kernel)))) (d_and1 (d_not (d_tval (d_isXT hfd (allS T.xi_BadEnd_BadStart (allS T.xi_BadEnd_BadTicks (allS T.xi_BadEnd_TooLate (allS T.xi_TooLate_BadStart (allS T.xi_TooLate_BadTicks (allS T.xi_TooLate_TooLate all0)))))) (by rfl) T.z_isinstance (pv 1) (ClEs.cons (cl_own (by rfl) T.gC_BadStart) (ClEs.cons (cl_own (by rfl) T.gC_BadTicks) (ClEs.cons (cl_own (by rfl) T.gC_TooLate) ClEs.nil))) (Nat.le_of_ble_eq_true rfl))))))))
 (d_last (d_ret (d_lst (d_cons d_str (d_cons (d_callB (c_irepr hg hr.units) (by rfl) T.z_repr (by decide +kernel) (d_cons (d_xf hfd (allS ⟨_, T.gC_BadEnd, T.E_BadEnd.xf, T.no_BadEnd⟩ all0) (pv 1)) d_nil)) d_nil)))))
 d_end))))
 (d_last (d_ret (d_lst (d_cons d_str d_nil)))))
theorem G_law (T : Tx K mg) : Rb.FnG P w K mg base CX0 6 T.f_law T.fd_law ["_law_script"] (spF (ct0 K mg) F_law_k46) := by
  unfold F_law_k46
  exact
   d_fn T.F_law sc_law fun cdv A out s H E hg hr => (d_seq (d_set (i := 1) sc_law.nd rfl (.inl rfl) (d_callW (G_law_deck T) hg (hr.mono (by decide)) (by rfl) T.g__law_deck T.F__law_deck.kp T.b__law_deck passG (d_cons (d_var (pv 0)) d_nil)))
 (d_seq (d_set (i := 2) sc_law.nd rfl (.inl rfl) (d_lst (d_cons d_non (d_cons d_bl (d_cons d_bl (d_cons (d_un u_neg d_int) (d_cons (d_bin o_add (d_bin o_pow d_int d_int) d_int) (d_cons (d_bin o_pow d_int d_int) (d_cons d_str (d_cons d_str (d_cons (d_tup d_nil) (d_cons (d_lst d_nil) (d_cons d_dic0 (d_cons (d_tup (d_cons d_int d_nil)) d_nil))))))))))))))
 (d_seq (d_for PassesOwn.never rfl (d_rng1 (by rfl) T.z_range (d_cons d_int d_nil)) (d_gn (pg_name (i := 3) sc_law.nd rfl (.inl rfl)))
 (d_seq (d_set (i := 4) sc_law.nd rfl (.inl rfl) (d_ix (d_lst (d_cons d_int (d_cons (d_bin o_pow d_int d_int) (d_cons (d_callW (G_law_draw T) hg (hr.mono (by decide)) (by rfl) T.g__law_draw T.F__law_draw.kp T.b__law_draw passG (d_cons (d_var (pv 1)) (d_cons (d_bin o_add (d_bin o_pow d_int d_int) d_int) d_nil))) (d_cons (d_ix (d_var (pv 2)) (d_callW (G_law_draw T) hg (hr.mono (by decide)) (by rfl) T.g__law_draw T.F__law_draw.kp T.b__law_draw passG (d_cons (d_var (pv 1)) (d_cons d_int d_nil))) (fun _ _ => rfl)) d_nil))))) (d_callW (G_law_draw T) hg (hr.mono (by decide)) (by rfl) T.g__law_draw T.F__law_draw.kp T.b__law_draw passG (d_cons (d_var (pv 1)) (d_cons d_int d_nil))) (fun _ _ => rfl)))
 (d_seq (d_set (i := 5) sc_law.nd rfl (.inl rfl) (d_call 0 (G_law_made T) hg hr (by rfl) T.g__law_made T.F__law_made.kp T.b__law_made passG (d_cons (d_var (pv 4)) d_nil)))
 (d_last (d_if (d_not (d_tval (d_callW (G_law_is_within T) hg (hr.mono (by decide)) (by rfl) T.g__law_is_within T.F__law_is_within.kp T.b__law_is_within passG (d_cons (d_var (pv 4)) (d_cons d_int (d_cons (d_bin o_pow d_int d_int) d_nil))))))
 (d_last (d_if (PW.pt (d_or (d_not (d_tval (d_isiO (t := .lst) (allS (isi_of T.gC_Promise T.it_Promise T.kt_Promise_list) all0) (by rfl) T.z_isinstance (d_var (pv 5)) (pe_bltn (by rfl) T.z_list (show bootBuiltins "list" = some (.type "list") by decide +kernel) (show RelV (V.ty "list") _ from rfl))))) (d_or1 (d_tcmp (o_ine hr.units) (d_var (pv 5)) (d_lst (d_cons d_str (d_cons (d_callB (c_irepr hg hr.units) (by rfl) T.z_repr (by decide +kernel) (d_cons (d_var (pv 4)) d_nil)) d_nil))) (nomark _)))))
 (d_last (d_ret d_bl))
 d_end))
 (d_last (d_if (d_tval (d_isiO (t := .lst) (allS (isi_of T.gC_Promise T.it_Promise T.kt_Promise_list) all0) (by rfl) T.z_isinstance (d_var (pv 5)) (pe_bltn (by rfl) T.z_list (show bootBuiltins "list" = some (.type "list") by decide +kernel) (show RelV (V.ty "list") _ from rfl))))
 (d_last (d_ret d_bl))
 (d_seq (d_set (i := 6) sc_law.nd rfl (.inl rfl) (d_lst (d_cons d_int (d_cons d_bl (d_cons d_int (d_cons d_bl (d_cons (d_var (pv 4)) (d_cons (d_callB (c_max rfl hr.units) (by rfl) T.z_max (by decide +kernel) (d_cons d_int (d_cons (d_bin o_sub (d_var (pv 4)) d_int) d_nil))) (d_cons (d_bin o_add (d_var (pv 4)) d_int) (d_cons (d_callW (G_law_draw T) hg (hr.mono (by decide)) (by rfl) T.g__law_draw T.F__law_draw.kp T.b__law_draw passG (d_cons (d_var (pv 1)) (d_cons (d_bin o_add (d_bin o_pow d_int d_int) d_int) d_nil))) (d_cons (d_bin o_pow d_int d_int) d_nil)))))))))))
 (d_last (d_for PassesOwn.never rfl (d_iseq (d_bin o_add (d_var (pv 6)) (d_lst (d_cons (d_ix (d_var (pv 2)) (d_callW (G_law_draw T) hg (hr.mono (by decide)) (by rfl) T.g__law_draw T.F__law_draw.kp T.b__law_draw passG (d_cons (d_var (pv 1)) (d_cons d_int d_nil))) (fun _ _ => rfl)) (d_cons (d_ix (d_var (pv 2)) (d_callW (G_law_draw T) hg (hr.mono (by decide)) (by rfl) T.g__law_draw T.F__law_draw.kp T.b__law_draw passG (d_cons (d_var (pv 1)) (d_cons d_int d_nil))) (fun _ _ => rfl)) d_nil))))) (d_gn (pg_name (i := 7) sc_law.nd rfl (.inl rfl)))
 (d_seq (d_set (i := 8) sc_law.nd rfl (.inl rfl) (d_lst (d_cons d_str (d_cons (d_callB (c_irepr hg hr.units) (by rfl) T.z_repr (by decide +kernel) (d_cons (d_var (pv 7)) d_nil)) d_nil))))
 (d_cut (d_if (d_tval (d_callW (G_law_is_within T) hg (hr.mono (by decide)) (by rfl) T.g__law_is_within T.F__law_is_within.kp T.b__law_is_within passG (d_cons (d_var (pv 7)) (d_cons d_int (d_cons (d_bin o_pow d_int d_int) d_nil)))))
 (d_last (d_set (i := 8) sc_law.nd rfl (.inl rfl) (d_ifE (d_tcmp o_le (d_var (pv 7)) (d_var (pv 4)) (nomark _)) (d_bin o_sub (d_var (pv 4)) (d_var (pv 7))) (d_lst (d_cons d_str (d_cons (d_callB (c_irepr hg hr.units) (by rfl) T.z_repr (by decide +kernel) (d_cons (d_var (pv 7)) d_nil)) d_nil))))))
 d_end)
 (d_last (d_if (PW.pt (d_or (d_tcmp (o_ine hr.units) (d_callB (c_irepr hg hr.units) (by rfl) T.z_repr (by decide +kernel) (d_cons (d_callW (G_law_left T) hg (hr.mono (by decide)) (by rfl) T.g__law_left T.F__law_left.kp T.b__law_left passG (d_cons (d_var (pv 5)) (d_cons (d_var (pv 7)) d_nil))) d_nil)) (d_callB (c_irepr hg hr.units) (by rfl) T.z_repr (by decide +kernel) (d_cons (d_var (pv 8)) d_nil)) (nomark _)) (d_or1 (d_tcmp (o_ine hr.units) (d_callB (c_irepr hg hr.units) (by rfl) T.z_repr (by decide +kernel) (d_cons (d_prop (lv := 1) (ct_calm rfl) (allS (PF_Promise_latest T (by decide)) all0) hg (hr.mono (by decide)) (d_var (pv 5))) d_nil)) (d_callB (c_irepr hg hr.units) (by rfl) T.z_repr (by decide +kernel) (d_cons (d_var (pv 4)) d_nil)) (nomark _)))))
 (d_last (d_ret d_bl))
 d_end))))))))))))))
 (d_last (d_ret d_bl)))))
end
end Pu
namespace Pu
open PySem L2
theorem ifT {b : Bool} {P Q : Prop} (h : b = true) (p : P) : if b = true then P else Q := by rw [if_pos h]; exact p
theorem ifF {b : Bool} {P Q : Prop} (h : b = false) (p : Q) : if b = true then P else Q := by rw [h, if_neg Bool.false_ne_true]; exact p
theorem ifB {b : Bool} {P Q : Prop} (h1 : b = true → P) (h2 : b = false → Q) : if b = true then P else Q := by
  cases b with
  | true => exact ifT rfl (h1 rfl)
  | false => exact ifF rfl (h2 rfl)
theorem onS {α : Type} {o : Option α} {a : α} {k : α → Prop} (h : o = some a) (p : k a) : onSome o k := by rw [h]; exact p
/-! ## numbers in a range, any value -/
def isNum (lo hi : Int) : D → Bool
  | .int i => decide (lo ≤ i) && decide (i ≤ hi)
  | _ => false
theorem number_ok {v : D} {lo hi : Int} {S : Sto} {Q : QD} {E : ED} (hv : (toPy v).isSome = true) (q : Q (.bl (isNum lo hi v)) S) : F_is_number_from [v, .int lo, .int hi] S Q E := by
  unfold F_is_number_from
  refine ⟨rfl, ?_⟩
  cases v with
  | int i =>
    show (onBl (.bl (decide (lo ≤ i))) fun k => if k = true then Q (.bl (decide (i ≤ hi))) S else Q (.bl false) S)
    by_cases h : lo ≤ i <;> simpa [isNum, h, onBl] using q
  | cell _ => cases hv
  | glo _ => cases hv
  | ty _ => cases hv
  | ins _ _ => cases hv
  | exc _ _ => cases hv
  | kls _ => cases hv
  | _ => exact q
theorem isnumber_ok {v : D} {lo hi : Int} {S : Sto} {Q : QD} {E : ED} (hv : (toPy v).isSome = true) (q : Q (.bl (isNum lo hi v)) S) : F_law_is_number [v, .int lo, .int hi] S Q E := by
  unfold F_law_is_number
  refine ⟨rfl, ?_⟩
  cases v with
  | int i =>
    show (onBl (.bl (decide (lo ≤ i))) fun k => if k = true then Q (.bl (decide (i ≤ hi))) S else Q (.bl false) S)
    by_cases h : lo ≤ i <;> simpa [isNum, h, onBl] using q
  | cell _ => cases hv
  | glo _ => cases hv
  | ty _ => cases hv
  | ins _ _ => cases hv
  | exc _ _ => cases hv
  | kls _ => cases hv
  | _ => exact q
/-! ## the deck -/
def deckS (cs : List Int) (n : Int) : Sto := [.lst (cs.map D.int), .lst [.cell 0, .int n]]
def Dk (S : Sto) (N : Int) (T : Sto) : Prop := ∃ cs n, S = deckS cs n ++ T ∧ cs.length ≤ 63 ∧ (∀ x ∈ cs, 0 ≤ x) ∧ 0 ≤ n ∧ n ≤ N
theorem Dk.le {S : Sto} {N M : Int} {T : Sto} (h : Dk S N T) (e : N ≤ M) : Dk S M T := by
  obtain ⟨cs, n, h1, h2, h3, h4, h5⟩ := h
  exact ⟨cs, n, h1, h2, h3, h4, by omega⟩
/-- a comprehension whose element changes nothing -/
theorem comp_map {st : D → Rho → Option Rho} {f : FE} {src : Src} {k : List D → Sto → Prop} {S : Sto} {ρ : Rho} {g : D → D} (hsrc : ∀ P : Prop, P → srcOk src S P) : ∀ (xs acc : List D), (∀ x ∈ xs, ∃ ρ1, st x ρ = some ρ1 ∧ ∀ Q : QD, Q (g x) S → f ρ1 S Q noE) → k (acc ++ xs.map g) S → dCompL st dYes f src xs acc ρ S k
  | [], acc, _, h => by rw [List.map_nil, List.append_nil] at h; exact h
  | x :: xs, acc, hx, h => by
    obtain ⟨ρ1, e, hf⟩ := hx x List.mem_cons_self
    refine onS e ?_
    refine ifT (b := true) (Q := srcOk src S (dCompL st dYes f src xs acc ρ S k)) rfl ?_
    refine hf _ (hsrc _ (comp_map hsrc xs _ (fun y hy => hx y (List.mem_cons_of_mem _ hy)) ?_))
    rw [List.append_assoc]
    exact h
def absI (i : Int) : Int := if i < 0 then -i else i
theorem absI_nn (i : Int) : 0 ≤ absI i := by unfold absI; split <;> omega
theorem deck_ok {ns : List Int} {Q : QD} {E : ED} (q : ∀ S, Dk S 0 [] → Q (.cell 1) S) : F_law_deck [.kls (ns.map D.int)] [] Q E := by
  unfold F_law_deck
  refine ⟨rfl, ?_⟩
  have e : cutD (ns.map D.int) none (some 63) = (ns.take 63).map D.int := by
    unfold cutD
    have h1 : HT.sIx (ns.map D.int).length 0 none = 0 := HT.sIx_none ..
    have h2 : HT.sIx (ns.map D.int).length (ns.map D.int).length (some 63) = min 63 (ns.map D.int).length := HT.sIx_nat (k := 63) ..
    rw [h1, h2, List.drop_zero, Nat.sub_zero, List.length_map, List.map_take]
    rcases Nat.le_total 63 ns.length with h | h
    · rw [Nat.min_eq_left h]
    · rw [Nat.min_eq_right h, List.take_of_length_le (by rw [List.length_map]; exact Nat.le_refl _), List.take_of_length_le (by rw [List.length_map]; exact h)]
  show (cutD (ns.map D.int) none (some 63)).length ≤ sizeLine ∧ dCompL (st1 1) dYes (dB gAbs (dCons (dVar 1) dNil)) [] (cutD (ns.map D.int) none (some 63)) [] [some (.kls (ns.map D.int)), none] [] _
  rw [e]
  refine ⟨by rw [List.length_map, List.length_take]; exact Rb.sz_le (by omega), ?_⟩
  refine comp_map (src := []) (g := fun d => match d with | .int i => .int (absI i) | d => d) (fun _ p => p) _ [] ?_ ?_
  · intro x hx
    obtain ⟨i, _, rfl⟩ := List.mem_map.mp hx
    exact ⟨_, rfl, fun Q q => q⟩
  · rw [List.nil_append, List.map_map]
    refine ⟨by show 2 ≤ sizeLine; decide, ?_⟩
    refine q _ ⟨(ns.take 63).map absI, 0, ?_, ?_, ?_, by decide, by decide⟩
    · show [Cl.lst _, Cl.lst _] = [Cl.lst _, Cl.lst _]
      rw [List.map_map]
      rfl
    · rw [List.length_map, List.length_take]; omega
    · intro x hx
      obtain ⟨i, _, rfl⟩ := List.mem_map.mp hx
      exact absI_nn i
theorem draw_ok {S T : Sto} {N lim : Int} {Q : QD} {E : ED} (h : Dk S N T) (hN : N ≤ 1000000) (h1 : 1 ≤ lim) (h2 : lim ≤ 1000000000) (q : ∀ r S', 0 ≤ r → r < lim → Dk S' (N + 1) T → Q (.int r) S') : F_law_draw [.cell 1, .int lim] S Q E := by
  obtain ⟨cs, n, rfl, hl, h0, hn, hn2⟩ := h
  have fin : ∀ r cs', 0 ≤ r → r < lim → cs'.length ≤ 63 → (∀ x ∈ cs', 0 ≤ x) → Q (.int r) (deckS cs' (n + 1) ++ T) := fun r cs' a b c d => q r _ a b ⟨cs', n + 1, rfl, c, d, by omega, by omega⟩
  unfold F_law_draw
  refine ⟨rfl, by show 2 ≤ sizeLine; decide, rfl, ?_⟩
  refine ⟨fun ρ S' => ∃ (x y : Int), S' = deckS cs (n + 1) ++ T ∧ ρ = [some (.cell 1), some (.int lim), some (.int x), some (.int y)] ∧ 0 ≤ x ∧ (cs ≠ [] → 0 ≤ y ∧ y < cs.length) ∧ (cs = [] → x = 0), ?_, ?_⟩
  · refine ifB (fun hb => ?_) (fun hb => ?_)
    · have hne : 0 < ((cs.map D.int).length : Int) := of_decide_eq_true hb
      have hpos : 0 < (cs.length : Int) := by rw [List.length_map] at hne; exact hne
      refine ⟨hne, ?_⟩
      have hy1 : 0 ≤ (n + 1) % ((cs.map D.int).length : Int) := Int.emod_nonneg _ (by omega)
      have hy2 : (n + 1) % ((cs.map D.int).length : Int) < cs.length := by rw [List.length_map]; exact Int.emod_lt_of_pos _ hpos
      obtain ⟨j, hj⟩ : ∃ j : Nat, (n + 1) % ((cs.map D.int).length : Int) = (j : Int) := ⟨_, (Int.toNat_of_nonneg hy1).symm⟩
      have hj2 : j < cs.length := by omega
      have e : atI (cs.map D.int) ((n + 1) % ((cs.map D.int).length : Int)) = some (.int cs[j]) := by
        rw [hj]
        refine atI_nat (j := j) ?_
        rw [List.getElem?_map, List.getElem?_eq_getElem hj2]
        rfl
      refine onS e ?_
      exact ⟨cs[j], _, rfl, rfl, h0 _ (List.getElem_mem hj2), fun _ => ⟨hy1, hy2⟩, fun z => by rw [z] at hj2; cases hj2⟩
    · have hz : ¬ 0 < ((cs.map D.int).length : Int) := of_decide_eq_false hb
      have : cs = [] := by
        cases cs with
        | nil => rfl
        | cons c cs => exact absurd (by rw [List.length_map, List.length_cons]; omega) hz
      subst this
      exact ⟨0, -1, rfl, rfl, by decide, fun z => absurd rfl z, fun _ => rfl⟩
  · rintro ρ' S' ⟨x, y, rfl, rfl, hx, hy, hx0⟩
    refine ⟨⟨by decide, by decide, by decide⟩, ifB (fun hb => ?_) fun hb => ?_⟩
    · have hbig : (10 : Int) ^ 18 ≤ x := of_decide_eq_true hb
      have hcs : cs ≠ [] := fun z => by rw [hx0 z] at hbig; exact absurd hbig (by decide)
      obtain ⟨y0, y1⟩ := hy hcs
      have wd : CDivW x lim := wide_div (b := 30) (by omega) (by omega) (by decide) (by decide)
      refine ⟨wd, onS (a := y.toNat) ?_ ?_⟩
      · show ixN (cs.map D.int).length y = some y.toNat
        unfold ixN
        rw [if_pos y0, if_pos (by rw [List.length_map]; exact y1)]
      · refine ⟨by omega, ?_⟩
        have e : (cs.map D.int).set y.toNat (D.int (x / lim)) = (cs.set y.toNat (x / lim)).map D.int := List.map_set.symm
        show Q (.int (x % lim)) (Cl.lst ((cs.map D.int).set y.toNat (D.int (x / lim))) :: Cl.lst [.cell 0, .int (n + 1)] :: T)
        rw [e]
        refine fin _ (cs.set y.toNat (x / lim)) (Int.emod_nonneg _ (by omega)) (Int.emod_lt_of_pos _ (by omega)) (by rw [List.length_set]; exact hl) fun z hz => ?_
        rcases List.mem_or_eq_of_mem_set hz with hz | rfl
        · exact h0 z hz
        · exact Int.ediv_nonneg hx (by omega)
    · have hm := Int.emod_nonneg x (show (2147483587 : Int) ≠ 0 by decide)
      have hm2 := Int.emod_lt_of_pos x (show (0 : Int) < 2147483587 by decide)
      refine ⟨by show (0 : Int) < _; decide, .inl (.inl ⟨by decide, by decide⟩), ⟨by decide, by decide, ?_⟩, by show (0 : Int) < _; decide, wide_div (b := 30) (by decide) (by decide) (by decide) (by decide), by omega, ?_⟩
      · show (x % 2147483587 + 7919 * (n + 1) + 1).natAbs < 2 ^ 64
        omega
      · exact fin _ cs (Int.emod_nonneg _ (by omega)) (Int.emod_lt_of_pos _ (by omega)) hl h0
end Pu
namespace Pu
open PySem L2
/-- a loop by an invariant -/
theorem for_inv {g : FG} {fb : FS} {src : Src} {De : DEnds} {Ed : ED} {ρ : Rho} {S : Sto} (xs : List D) (I : Nat → Rho → Sto → Prop) (h0 : I 0 ρ S)
    (hs : ∀ (i : Nat) (x : D) (ρ : Rho) (S : Sto) (K : Rho → Sto → Prop), xs[i]? = some x → (∀ ρ' S', I (i + 1) ρ' S' → K ρ' S') → I i ρ S → g x ρ S (fun ρ1 S1 => fb ρ1 S1 ⟨K, De.rt, De.nx, K⟩ Ed) Ed)
    (hd : ∀ ρ S, I xs.length ρ S → De.nx ρ S) (hsrc : ∀ i ρ S, I i ρ S → ∀ P : Prop, P → srcOk src S P := by intro _ _ _ _ _ p; exact p) : dLoop g fb src xs ρ S De Ed := by
  have go : ∀ (m n : Nat) (ρ : Rho) (S : Sto), n + m = xs.length → I n ρ S → dLoop g fb src (xs.drop n) ρ S De Ed := by
    intro m
    induction m with
    | zero =>
      intro n ρ S e h
      have : n = xs.length := by omega
      subst this
      rw [List.drop_length]
      exact hd ρ S h
    | succ m ih =>
      intro n ρ S e h
      have hlt : n < xs.length := by omega
      have hx := List.getElem?_eq_getElem hlt
      rw [drop_cons hx]
      exact hs n _ ρ S _ hx (fun ρ' S' h' => hsrc _ _ _ h' _ (ih (n + 1) ρ' S' (by omega) h')) h
  exact go xs.length 0 ρ S (by omega) h0
theorem rangeD_len {lo : Int} {n : Nat} : (rangeD lo n).length = n := by unfold rangeD; rw [List.length_map, List.length_range]
theorem for_rng {g : FG} {fb : FS} {De : DEnds} {Ed : ED} {ρ : Rho} {S : Sto} (lo : Int) (n : Nat) (I : Nat → Rho → Sto → Prop) (h0 : I 0 ρ S)
    (hs : ∀ (i : Nat) (ρ : Rho) (S : Sto) (K : Rho → Sto → Prop), i < n → (∀ ρ' S', I (i + 1) ρ' S' → K ρ' S') → I i ρ S → g (.int (lo + (i : Int))) ρ S (fun ρ1 S1 => fb ρ1 S1 ⟨K, De.rt, De.nx, K⟩ Ed) Ed)
    (hd : ∀ ρ S, I n ρ S → De.nx ρ S) : dLoop g fb [] (rangeD lo n) ρ S De Ed := by
  refine for_inv (rangeD lo n) I h0 (fun i x ρ S K hx hK hI => ?_) (fun ρ S h => hd ρ S (by rw [rangeD_len] at h; exact h))
  obtain ⟨h1, rfl⟩ := rangeD_get hx
  exact hs i ρ S K h1 hK hI
theorem pick2 {α : Type} {x y : α} {r : Int} (h0 : 0 ≤ r) (h1 : r < 2) : ∃ v, atI [x, y] r = some v ∧ (v = x ∨ v = y) := by
  rcases (by omega : r = 0 ∨ r = 1) with rfl | rfl
  · exact ⟨x, rfl, .inl rfl⟩
  · exact ⟨y, rfl, .inr rfl⟩
theorem pick3 {α : Type} {x y z : α} {r : Int} (h0 : 0 ≤ r) (h1 : r < 3) : ∃ v, atI [x, y, z] r = some v ∧ (v = x ∨ v = y ∨ v = z) := by
  rcases (by omega : r = 0 ∨ r = 1 ∨ r = 2) with rfl | rfl | rfl
  · exact ⟨x, rfl, .inl rfl⟩
  · exact ⟨y, rfl, .inr (.inl rfl)⟩
  · exact ⟨z, rfl, .inr (.inr rfl)⟩
theorem pick2i {x y r : Int} (h0 : 0 ≤ r) (h1 : r < 2) : ∃ v : Int, atI [D.int x, D.int y] r = some (.int v) ∧ (v = x ∨ v = y) := by
  obtain ⟨v, e, rfl | rfl⟩ := pick2 (x := D.int x) (y := D.int y) h0 h1
  · exact ⟨x, e, .inl rfl⟩
  · exact ⟨y, e, .inr rfl⟩
theorem pick3i {x y z r : Int} (h0 : 0 ≤ r) (h1 : r < 3) : ∃ v : Int, atI [D.int x, D.int y, D.int z] r = some (.int v) ∧ (v = x ∨ v = y ∨ v = z) := by
  obtain ⟨v, e, rfl | rfl | rfl⟩ := pick3 (x := D.int x) (y := D.int y) (z := D.int z) h0 h1
  · exact ⟨x, e, .inl rfl⟩
  · exact ⟨y, e, .inr (.inl rfl)⟩
  · exact ⟨z, e, .inr (.inr rfl)⟩
theorem szd {n : Nat} (h : n ≤ 100000) : n ≤ sizeLine := Rb.sz_le h
def roadV (wk rd : Int) (bs : List Int) : D := .tup [.int wk, .int rd, .tup (bs.map .int)]
theorem road_ok {S T : Sto} {N st mo : Int} {Q : QD} {E : ED} (h : Dk S N T) (hN : N ≤ 900000) (s1 : 1 ≤ st) (s2 : st ≤ 12) (m1 : 0 ≤ mo) (m2 : mo ≤ 12)
    (q : ∀ wk rd (bs : List Int) S', 2 ≤ wk → wk ≤ 1000 → 1 ≤ rd → rd < wk → 1 ≤ bs.length → (bs.length : Int) ≤ st → (∀ b ∈ bs, 0 ≤ b ∧ b ≤ mo) → Dk S' (N + 30) T → Q (roadV wk rd bs) S') : F_law_road [.cell 1, .int st, .int mo] S Q E := by
  unfold F_law_road
  refine ⟨rfl, ?_⟩
  refine ⟨by show 3 ≤ sizeLine; decide, ?_⟩
  refine draw_ok h (by omega) (by decide) (by decide) fun r S1 r0 r1 d1 => ?_
  obtain ⟨l1, e1, c1⟩ := pick3i (x := 4) (y := 20) (z := 999) r0 r1
  refine onS e1 ?_
  refine draw_ok d1 (by omega) (by omega) (by omega) fun r2 S2 r20 r21 d2 => ?_
  refine draw_ok d2 (by omega) (by omega) (by omega) fun r3 S3 r30 r31 d3 => ?_
  refine ⟨by show 2 ≤ sizeLine; decide, ?_⟩
  refine draw_ok d3 (by omega) (by decide) (by decide) fun r4 S4 r40 r41 d4 => ?_
  obtain ⟨rd, e4, c4⟩ := pick2i (x := 1) (y := 1 + r3) r40 r41
  refine onS e4 ?_
  refine draw_ok d4 (by omega) (by omega) (by omega) fun r5 S5 r50 r51 d5 => ?_
  refine ⟨by show 2 ≤ sizeLine; decide, ?_⟩
  refine draw_ok d5 (by omega) (by decide) (by decide) fun r6 S6 r60 r61 d6 => ?_
  obtain ⟨cn, e6, c6⟩ := pick2i (x := 1 + r5) (y := st) r60 r61
  refine onS e6 ⟨by show 0 ≤ sizeLine; decide, ⟨by omega, by omega⟩, ?_⟩
  refine for_rng 0 cn.toNat (fun i ρ S' => ∃ (bs : List Int) (y : Option D), ρ = [some (.cell 1), some (.int st), some (.int mo), some (.int (2 + r2)), some (.int rd), some (.int cn), some (.tup (bs.map .int)), y] ∧ bs.length = i ∧ (∀ b ∈ bs, 0 ≤ b ∧ b ≤ mo) ∧ Dk S' (N + 6 + 2 * i) T) ?_ ?_ ?_
  · exact ⟨[], none, rfl, rfl, (fun _ z => nomatch z), d6.le (by omega)⟩
  · rintro i ρ S' K hi hK ⟨bs, y, rfl, hl, hb, d⟩
    refine draw_ok d (by omega) (by omega) (by omega) fun r7 S7 r70 r71 d7 => ?_
    have fin : ∀ (k : Int) S8, (k = 1 ∨ k = 0) → Dk S8 (N + 6 + 2 * i + 1 + 1) T → (CMul r7 k ∨ CMulW r7 k) ∧ [D.int (r7 * k)].length ≤ sizeLine ∧ (bs.map D.int).length + 1 ≤ sizeLine ∧ K ((([some (.cell 1), some (.int st), some (.int mo), some (.int (2 + r2)), some (.int rd), some (.int cn), some (.tup (bs.map D.int ++ [.int (r7 * k)])), some (.int (0 + (i : Int)))] : Rho))) S8 := fun k S8 hk d8 => by
      refine ⟨.inl (.inl ⟨by omega, by omega⟩), by show 1 ≤ sizeLine; decide, szd (by rw [List.length_map]; omega), hK _ _ ⟨bs ++ [r7 * k], some (.int (0 + (i : Int))), by rw [List.map_append]; rfl, by rw [List.length_append, hl]; rfl, fun b hm => ?_, d8.le (by omega)⟩⟩
      rcases List.mem_append.mp hm with hm | hm
      · exact hb b hm
      · rw [List.mem_singleton.mp hm]
        rcases hk with rfl | rfl <;> omega
    refine ⟨by show 3 ≤ sizeLine; decide, ?_⟩
    refine draw_ok d7 (by omega) (by decide) (by decide) fun r8 S8 r80 r81 d8 => ?_
    obtain ⟨k, e8, c8⟩ := pick3i (x := 1) (y := if decide (0 + (i : Int) = 0) then 1 else 0) (z := 0) r80 r81
    refine onS e8 ?_
    refine fin k S8 ?_ d8
    rcases c8 with rfl | rfl | rfl
    · exact .inl rfl
    · split
      · exact .inl rfl
      · exact .inr rfl
    · exact .inr rfl
  · rintro ρ S' ⟨bs, y, rfl, hl, hb, d⟩
    refine ⟨by show 3 ≤ sizeLine; decide, ?_⟩
    exact q (2 + r2) rd bs S' (by omega) (by omega) (by omega) (by omega) (by omega) (by omega) hb (d.le (by omega))
end Pu
namespace Pu
open PySem L2
/-! ## the error of a road -/
def badIx (xs : List D) : Option Nat := xs.findIdx? fun x => !isNum 0 12 x
def bikesE (b : D) : D := match b with
  | .tup xs => if 1 ≤ xs.length ∧ xs.length ≤ 12 then (match badIx xs with | none => .non | some i => .tup [.int (i : Int), .str "bikes"]) else .tup [.non, .str "bikes"]
  | _ => .tup [.non, .str "bikes"]
def ticksOk (w r : D) : Bool := match w with
  | .int i => isNum 1 1000 w && isNum 1 (i - 1) r
  | _ => false
def errD : D → D
  | .tup [w, r, b] => if ticksOk w r = true then bikesE b else .tup [.non, .str "ticks"]
  | _ => .tup [.non, .str "road"]
theorem len3 {xs : List D} (h : xs.length = 3) : ∃ a b c, xs = [a, b, c] := by
  match xs, h with
  | [a, b, c], _ => exact ⟨a, b, c, rfl⟩
theorem errD_no3 {xs : List D} (h : xs.length ≠ 3) : errD (.tup xs) = .tup [.non, .str "road"] := by
  match xs, h with
  | [], _ => rfl
  | [_], _ => rfl
  | [_, _], _ => rfl
  | [_, _, _], h => exact absurd rfl h
  | _ :: _ :: _ :: _ :: _, _ => rfl
theorem py_cons {d : D} {ds : List D} (h : (toPyAll (d :: ds)).isSome = true) : (toPy d).isSome = true ∧ (toPyAll ds).isSome = true := by
  have e : toPyAll (d :: ds) = (toPy d).bind fun p => (toPyAll ds).map (p :: ·) := rfl
  rw [e] at h
  cases h1 : toPy d with
  | none => rw [h1] at h; cases h
  | some p =>
    cases h2 : toPyAll ds with
    | none => rw [h1, h2] at h; cases h
    | some ps => exact ⟨rfl, rfl⟩
theorem py_all {ds : List D} : (toPyAll ds).isSome = true → ∀ d ∈ ds, (toPy d).isSome = true := by
  induction ds with
  | nil => intro _ d hd; cases hd
  | cons x xs ih =>
    intro h d hd
    obtain ⟨h1, h2⟩ := py_cons h
    rcases List.mem_cons.mp hd with rfl | hd
    · exact h1
    · exact ih h2 d hd
theorem py_tup {ds : List D} (h : (toPy (.tup ds)).isSome = true) : (toPyAll ds).isSome = true := by
  have e : toPy (.tup ds) = (toPyAll ds).map PyData.tuple := rfl
  rw [e, Option.isSome_map] at h
  exact h
theorem isNum_int {lo hi : Int} {v : D} (h : isNum lo hi v = true) : ∃ i, v = .int i ∧ lo ≤ i ∧ i ≤ hi := by
  cases v with
  | int i =>
    have h' : (decide (lo ≤ i) && decide (i ≤ hi)) = true := h
    obtain ⟨a, b⟩ := Bool.and_eq_true_iff.mp h'
    exact ⟨i, rfl, of_decide_eq_true a, of_decide_eq_true b⟩
  | _ => cases h
theorem enumD_len {xs : List D} : (enumD xs).length = xs.length := by unfold enumD; rw [List.length_mapIdx]
theorem bikesE_no {b : D} (h : ∀ xs, b ≠ .tup xs) : bikesE b = .tup [.non, .str "bikes"] := by
  cases b with
  | tup xs => exact absurd rfl (h xs)
  | _ => rfl
theorem isA_tup {S : Sto} {b : D} (hb : (toPy b).isSome = true) (h : ∀ xs, b ≠ .tup xs) : isA .tup S b = some false := by
  cases b with
  | tup xs => exact absurd rfl (h xs)
  | cell _ => cases hb
  | glo _ => cases hb
  | ty _ => cases hb
  | ins _ _ => cases hb
  | exc _ _ => cases hb
  | kls _ => cases hb
  | _ => rfl
theorem rerr_ok {v : D} {S : Sto} {Q : QD} {E : ED} (hv : (toPy v).isSome = true) (q : Q (errD v) S) : F_road_error [v] S Q E := by
  unfold F_road_error
  refine ⟨rfl, ?_⟩
  have two : (2 : Nat) ≤ sizeLine := by decide
  by_cases ht : ∃ xs, v = .tup xs
  · obtain ⟨xs, rfl⟩ := ht
    by_cases h3 : xs.length = 3
    · obtain ⟨w, r, b, rfl⟩ := len3 h3
      obtain ⟨hw, hv⟩ := py_cons (py_tup hv)
      obtain ⟨hr, hv⟩ := py_cons hv
      obtain ⟨hb, _⟩ := py_cons hv
      refine ⟨rfl, ?_⟩
      have q' : Q (if ticksOk w r = true then bikesE b else .tup [.non, .str "ticks"]) S := q
      refine number_ok hw ?_
      cases h1 : isNum 1 1000 w with
      | false =>
        have : ticksOk w r = false := by
          cases w with
          | int i => show (isNum 1 1000 (.int i) && _) = false; rw [h1]; rfl
          | _ => rfl
        rw [this] at q'
        exact ⟨two, q'⟩
      | true =>
        obtain ⟨i, rfl, hi1, hi2⟩ := isNum_int h1
        refine number_ok hr ?_
        have e2 : ticksOk (.int i) r = isNum 1 (i - 1) r := by show (isNum 1 1000 (.int i) && _) = _; rw [h1]; rfl
        rw [e2] at q'
        cases h2 : isNum 1 (i - 1) r with
        | false =>
          rw [h2] at q'
          exact ⟨two, q'⟩
        | true =>
          rw [h2, if_pos rfl] at q'
          by_cases hbt : ∃ ys, b = .tup ys
          · obtain ⟨ys, rfl⟩ := hbt
            have hys := py_all (py_tup hb)
            have no : ¬ (1 ≤ ys.length ∧ ys.length ≤ 12) → Q (.tup [.non, .str "bikes"]) S := fun z => by
              have : bikesE (.tup ys) = .tup [.non, .str "bikes"] := if_neg z
              rw [this] at q'
              exact q'
            refine ifB (fun c1 => ?_) fun c1 => ⟨two, no fun z => by have := of_decide_eq_false c1; omega⟩
            refine ifB (fun c2 => ?_) fun c2 => ?_
            · refine ⟨two, no fun z => ?_⟩
              have : (!decide ((ys.length : Int) ≤ 12)) = true := c2
              rw [decide_eq_true (by omega)] at this
              cases this
            have c3 : 1 ≤ ys.length ∧ ys.length ≤ 12 := by
              have h1 := of_decide_eq_true c1
              have h2 : (!decide ((ys.length : Int) ≤ 12)) = false := c2
              rw [Bool.not_eq_false', decide_eq_true_eq] at h2
              omega
            have e4 : bikesE (.tup ys) = match badIx ys with | none => .non | some i => .tup [.int (i : Int), .str "bikes"] := if_pos c3
            rw [e4] at q'
            refine for_inv (enumD ys) (fun k ρ S' => S' = S ∧ (∃ y4 y5, ρ = [some (.tup [.int i, r, .tup ys]), some (.int i), some r, some (.tup ys), y4, y5]) ∧ ∀ j, j < k → ∀ x, ys[j]? = some x → isNum 0 12 x = true) ⟨rfl, ⟨none, none, rfl⟩, fun j hj => absurd hj (Nat.not_lt_zero _)⟩ ?_ ?_
            · rintro k x ρ S' K hx hK ⟨rfl, ⟨y4, y5, rfl⟩, hall⟩
              obtain ⟨z, hz, rfl⟩ := enumD_get hx
              refine ⟨rfl, number_ok (hys z (List.mem_of_getElem? hz)) ?_⟩
              cases h5 : isNum 0 12 z with
              | false =>
                refine ⟨two, ?_⟩
                have : badIx ys = some k := by
                  unfold badIx
                  rw [List.findIdx?_eq_some_iff_getElem]
                  obtain ⟨kl, ek⟩ := List.getElem?_eq_some_iff.mp hz
                  refine ⟨kl, by rw [ek, h5]; rfl, fun j hj => ?_⟩
                  rw [hall j hj _ (List.getElem?_eq_getElem (by omega))]
                  decide
                rw [this] at q'
                exact q'
              | true =>
                refine hK _ _ ⟨rfl, ⟨_, _, rfl⟩, fun j hj y hy => ?_⟩
                by_cases e : j = k
                · subst e
                  rw [hz] at hy
                  cases hy
                  exact h5
                · exact hall j (by omega) y hy
            · rintro ρ S' ⟨rfl, ⟨y4, y5, rfl⟩, hall⟩
              have : badIx ys = none := by
                unfold badIx
                rw [List.findIdx?_eq_none_iff]
                intro y hy
                obtain ⟨j, hj, ej⟩ := List.getElem_of_mem hy
                rw [hall j (by rw [enumD_len]; exact hj) y (List.getElem?_eq_some_iff.mpr ⟨hj, ej⟩)]
                rfl
              rw [this] at q'
              exact q'
          · have hn : ∀ ys, b ≠ .tup ys := fun ys z => hbt ⟨ys, z⟩
            rw [bikesE_no hn] at q'
            exact onS (isA_tup hb hn) ⟨two, q'⟩
    · rw [errD_no3 h3] at q
      refine ifT (b := nb true (decide ((xs.length : Int) = 3))) ?_ ⟨two, q⟩
      show (!decide ((xs.length : Int) = 3)) = true
      rw [decide_eq_false (by omega)]
      rfl
  · have hn : ∀ xs, v ≠ .tup xs := fun xs z => ht ⟨xs, z⟩
    have e : errD v = .tup [.non, .str "road"] := by
      cases v with
      | tup xs => exact absurd rfl (hn xs)
      | _ => rfl
    rw [e] at q
    exact onS (isA_tup hv hn) ⟨two, q⟩
end Pu
namespace Pu
open PySem L2
/-- a comprehension with a test, whose element changes nothing -/
theorem comp_flt {st : D → Rho → Option Rho} {t : FT} {f : FE} {src : Src} {k : List D → Sto → Prop} {S : Sto} {ρ : Rho} (p : D → Bool) (g : D → D) (hsrc : ∀ P : Prop, P → srcOk src S P) : ∀ (xs acc : List D),
    (∀ x ∈ xs, ∃ ρ1, st x ρ = some ρ1 ∧ (∀ Q : Bool → Sto → Prop, Q (p x) S → t ρ1 S Q noE) ∧ (p x = true → ∀ Q : QD, Q (g x) S → f ρ1 S Q noE)) → k (acc ++ (xs.filter p).map g) S → dCompL st t f src xs acc ρ S k
  | [], acc, _, h => by rw [List.filter_nil, List.map_nil, List.append_nil] at h; exact h
  | x :: xs, acc, hx, h => by
    obtain ⟨ρ1, e, ht, hf⟩ := hx x List.mem_cons_self
    have ih := fun acc' h' => comp_flt (st := st) (t := t) (f := f) (src := src) (k := k) (S := S) (ρ := ρ) p g hsrc xs acc' (fun y hy => hx y (List.mem_cons_of_mem _ hy)) h'
    refine onS e (ht _ ?_)
    cases hp : p x with
    | true =>
      rw [List.filter_cons_of_pos hp, List.map_cons] at h
      refine ifT (b := true) (Q := srcOk src S (dCompL st t f src xs acc ρ S k)) rfl (hf hp _ (hsrc _ (ih _ ?_)))
      rw [List.append_assoc]
      exact h
    | false =>
      rw [List.filter_cons_of_neg (by rw [hp]; decide)] at h
      exact ifF (b := false) (P := f ρ1 S (fun y S2 => srcOk src S2 (dCompL st t f src xs (acc ++ [y]) ρ S2 k)) noE) rfl (hsrc _ (ih _ h))
/-- a comprehension over a range whose element changes cells -/
theorem comp_rng {f : FE} {k : List D → Sto → Prop} {ρ : Rho} {S : Sto} {n j : Nat} (I : Nat → List D → Sto → Prop) (h0 : I 0 [] S)
    (hs : ∀ (i : Nat) (acc : List D) (S : Sto) (K : QD), i < n → (∀ y S', I (i + 1) (acc ++ [y]) S' → K y S') → I i acc S → f (ρ.set j (some (.int (0 + (i : Int))))) S K noE) (hd : ∀ acc S, I n acc S → k acc S) : dCompL (st1 j) dYes f [] (rangeD 0 n) [] ρ S k := by
  have go : ∀ (m p : Nat) (acc : List D) (S : Sto), p + m = n → I p acc S → dCompL (st1 j) dYes f [] ((rangeD 0 n).drop p) acc ρ S k := by
    intro m
    induction m with
    | zero =>
      intro p acc S e h
      have : p = (rangeD 0 n).length := by rw [rangeD_len]; omega
      rw [this, List.drop_length]
      exact hd acc S (by have : p = n := by omega
                         exact this ▸ h)
    | succ m ih =>
      intro p acc S e h
      have hlt : p < (rangeD 0 n).length := by rw [rangeD_len]; omega
      have hx := List.getElem?_eq_getElem hlt
      obtain ⟨_, ex⟩ := rangeD_get hx
      rw [drop_cons hx, ex]
      refine ifT (b := true) (Q := dCompL (st1 j) dYes f [] ((rangeD 0 n).drop (p + 1)) acc ρ S k) rfl ?_
      exact hs p acc S _ (by omega) (fun y S' h' => ih (p + 1) _ S' (by omega) h') h
  exact go n 0 [] S (by omega) h0
theorem py_ints (ns : List Int) : toPyAll (ns.map D.int) = some (ns.map .int) := by
  induction ns with
  | nil => rfl
  | cons n ns ih =>
    show (toPy (.int n)).bind (fun p => (toPyAll (ns.map D.int)).map (p :: ·)) = _
    rw [ih]
    rfl
theorem shp_ints (ns : List Int) : SeqAt.shaped (.list (ns.map .int)) = true := by
  have h1 : PyData.canLayAll0 (ns.map .int) = true := by
    induction ns with
    | nil => rfl
    | cons n ns ih => show (PyData.canLay0 (.int n) && PyData.canLayAll0 (ns.map .int)) = true; rw [ih]; rfl
  have h2 : PyData.depthAll (ns.map PyData.int) ≤ 0 := by
    induction ns with
    | nil => exact Nat.le_refl _
    | cons n ns ih =>
      show PyData.depthAll (.int n :: ns.map PyData.int) ≤ 0
      simp only [PyData.depthAll]
      exact Nat.max_le.mpr ⟨Nat.le_refl _, ih h1⟩
  unfold SeqAt.shaped
  rw [Bool.and_eq_true_iff]
  refine ⟨h1, decide_eq_true ?_⟩
  simp only [PyData.depth]
  omega
theorem ints_map {f : Nat → Int} {l : List Nat} : l.map (fun i => D.int (f i)) = (l.map f).map D.int := by rw [List.map_map]; rfl
theorem lerr_ok {v : D} {S : Sto} {Q : QD} {E : ED} (hv : (toPy v).isSome = true) (q : Q (errD v) S) : F_law_error [v] S Q E := by
  unfold F_law_error
  refine ⟨rfl, ?_⟩
  have two : (2 : Nat) ≤ sizeLine := by decide
  by_cases ht : ∃ xs, v = .tup xs
  · obtain ⟨xs, rfl⟩ := ht
    by_cases h3 : xs.length = 3
    · obtain ⟨w, r, b, rfl⟩ := len3 h3
      obtain ⟨hw, hv⟩ := py_cons (py_tup hv)
      obtain ⟨hr, hv⟩ := py_cons hv
      obtain ⟨hb, _⟩ := py_cons hv
      refine ⟨rfl, ?_⟩
      have q' : Q (if ticksOk w r = true then bikesE b else .tup [.non, .str "ticks"]) S := q
      refine isnumber_ok hw ?_
      cases h1 : isNum 1 1000 w with
      | false =>
        have : ticksOk w r = false := by
          cases w with
          | int i => show (isNum 1 1000 (.int i) && _) = false; rw [h1]; rfl
          | _ => rfl
        rw [this] at q'
        exact ⟨two, q'⟩
      | true =>
        obtain ⟨i, rfl, hi1, hi2⟩ := isNum_int h1
        refine isnumber_ok hr ?_
        have e2 : ticksOk (.int i) r = isNum 1 (i - 1) r := by show (isNum 1 1000 (.int i) && _) = _; rw [h1]; rfl
        rw [e2] at q'
        cases h2 : isNum 1 1000 r with
        | false =>
          have : isNum 1 (i - 1) r = false := by
            cases h : isNum 1 (i - 1) r with
            | false => rfl
            | true =>
              obtain ⟨j, rfl, a, b⟩ := isNum_int h
              have : isNum 1 1000 (.int j) = true := by show (decide _ && decide _) = true; rw [decide_eq_true (by omega), decide_eq_true (by omega)]; rfl
              rw [this] at h2
              cases h2
          rw [this] at q'
          exact ⟨two, q'⟩
        | true =>
          obtain ⟨j, rfl, hj1, hj2⟩ := isNum_int h2
          refine ifB (fun c0 => ?_) fun c0 => ?_
          · have : isNum 1 (i - 1) (.int j) = false := by
              have := of_decide_eq_true c0
              show (decide _ && decide _) = false
              rw [decide_eq_false (p := j ≤ i - 1) (by omega), Bool.and_false]
            rw [this] at q'
            exact ⟨two, q'⟩
          have : isNum 1 (i - 1) (.int j) = true := by
            have := of_decide_eq_false c0
            show (decide _ && decide _) = true
            rw [decide_eq_true (p := j ≤ i - 1) (by omega), decide_eq_true (p := 1 ≤ j) hj1]
            rfl
          rw [this, if_pos rfl] at q'
          by_cases hbt : ∃ ys, b = .tup ys
          · obtain ⟨ys, rfl⟩ := hbt
            have hys := py_all (py_tup hb)
            have no : ¬ (1 ≤ ys.length ∧ ys.length ≤ 12) → Q (.tup [.non, .str "bikes"]) S := fun z => by
              have : bikesE (.tup ys) = .tup [.non, .str "bikes"] := if_neg z
              rw [this] at q'
              exact q'
            refine ifB (fun c1 => ⟨two, no fun z => by have := of_decide_eq_true c1; omega⟩) fun c1 => ?_
            refine ifB (fun c2 => ⟨two, no fun z => by have := of_decide_eq_true c2; omega⟩) fun c2 => ?_
            have c3 : 1 ≤ ys.length ∧ ys.length ≤ 12 := by
              have h1 := of_decide_eq_false c1
              have h2 := of_decide_eq_false c2
              omega
            have e4 : bikesE (.tup ys) = match badIx ys with | none => .non | some i => .tup [.int (i : Int), .str "bikes"] := if_pos c3
            rw [e4] at q'
            refine ⟨⟨by omega, by omega⟩, by rw [rangeD_len]; exact szd (by omega), ?_⟩
            have hlen : ((ys.length : Int)).toNat = ys.length := Int.toNat_natCast _
            rw [hlen]
            let p : D → Bool := fun d => match d with | .int k => !isNum 0 12 (ys.getD k.toNat .non) | _ => false
            refine comp_flt (src := []) p id (fun _ z => z) _ [] (fun x hx => ?_) ?_
            · obtain ⟨k, hk, ek⟩ := List.getElem_of_mem hx
              obtain ⟨hk2, rfl⟩ := rangeD_get (List.getElem?_eq_some_iff.mpr ⟨hk, ek⟩)
              have hz : ys[k]? = some ys[k] := List.getElem?_eq_getElem hk2
              refine ⟨_, rfl, fun Q' q2 => ?_, fun _ Q' q2 => q2⟩
              refine onS (a := ys[k]) (by rw [Int.zero_add]; exact atI_nat hz) (isnumber_ok (hys _ (List.getElem_mem hk2)) ?_)
              have : p (.int (0 + (k : Int))) = !isNum 0 12 ys[k] := by
                show (!isNum 0 12 (ys.getD (0 + (k : Int)).toNat .non)) = _
                rw [Int.zero_add, Int.toNat_natCast, List.getD_eq_getElem?_getD, hz]
                rfl
              rw [this] at q2
              exact q2
            · rw [List.nil_append, List.map_id]
              have pk : ∀ k (h : k < ys.length), p (.int (0 + (k : Int))) = !isNum 0 12 ys[k] := fun k h => by
                show (!isNum 0 12 (ys.getD (0 + (k : Int)).toNat .non)) = _
                rw [Int.zero_add, Int.toNat_natCast, List.getD_eq_getElem?_getD, List.getElem?_eq_getElem h]
                rfl
              cases hbad : badIx ys with
              | none =>
                rw [hbad] at q'
                have : (rangeD 0 ys.length).filter p = [] := by
                  rw [List.filter_eq_nil_iff]
                  intro x hx
                  obtain ⟨k, hk, ek⟩ := List.getElem_of_mem hx
                  obtain ⟨hk2, rfl⟩ := rangeD_get (List.getElem?_eq_some_iff.mpr ⟨hk, ek⟩)
                  rw [pk k hk2]
                  unfold badIx at hbad
                  exact Bool.eq_false_iff.mp (List.findIdx?_eq_none_iff.mp hbad _ (List.getElem_mem hk2))
                rw [this]
                exact ⟨by show 0 ≤ sizeLine; decide, ⟨rfl, rfl⟩, q'⟩
              | some m =>
                rw [hbad] at q'
                unfold badIx at hbad
                obtain ⟨hm, pm, bef⟩ := List.findIdx?_eq_some_iff_getElem.mp hbad
                have hL : (rangeD 0 ys.length)[m]? = some (.int (m : Int)) := by
                  unfold rangeD
                  rw [List.getElem?_map, List.getElem?_range hm]
                  show some (D.int (0 + (m : Int))) = _
                  rw [Int.zero_add]
                obtain ⟨rest, hrest⟩ : ∃ rest : List Int, (rangeD 0 ys.length).filter p = .int (m : Int) :: rest.map D.int := by
                  refine ⟨(((List.range ys.length).drop (m + 1)).filter fun k : Nat => p (.int (0 + (k : Int)))).map fun k : Nat => 0 + (k : Int), ?_⟩
                  have e1 : rangeD 0 ys.length = (rangeD 0 ys.length).take m ++ (.int (m : Int) :: (rangeD 0 ys.length).drop (m + 1)) := by
                    rw [← drop_cons hL, List.take_append_drop]
                  have e0 : ((rangeD 0 ys.length).take m).filter p = [] := by
                    rw [List.filter_eq_nil_iff]
                    intro x hx
                    obtain ⟨k, hk, ek⟩ := List.getElem_of_mem hx
                    rw [List.length_take] at hk
                    have : (rangeD 0 ys.length)[k]? = some x := by
                      rw [← List.getElem?_take_of_lt (show k < m by omega)]
                      exact List.getElem?_eq_some_iff.mpr ⟨by rw [List.length_take]; exact hk, ek⟩
                    obtain ⟨hk2, rfl⟩ := rangeD_get this
                    rw [pk k hk2]
                    exact bef k (by omega)
                  have e2 : p (.int (m : Int)) = true := by
                    have := pk m hm
                    rw [Int.zero_add] at this
                    rw [this]
                    exact pm
                  rw [e1, List.filter_append, e0, List.nil_append, List.filter_cons_of_pos e2]
                  unfold rangeD
                  rw [← List.map_drop, List.filter_map, List.map_map]
                  rfl
                rw [hrest]
                have e5 : toPyAll (D.int (m : Int) :: rest.map D.int) = some (((m : Int) :: rest).map .int) := py_ints ((m : Int) :: rest)
                refine ⟨by show 0 ≤ sizeLine; decide, onS (o := pyC S (.lst false (.int (m : Int) :: rest.map D.int))) (a := .list (((m : Int) :: rest).map .int)) ?_ ?_⟩
                · show (toPyAll (D.int (m : Int) :: rest.map D.int)).map PyData.list = _
                  rw [e5]
                  rfl
                · exact ⟨⟨shp_ints _, rfl⟩, onS (a := .int (m : Int)) (atI_nat (j := 0) rfl) ⟨two, q'⟩⟩
          · have hn : ∀ ys, b ≠ .tup ys := fun ys z => hbt ⟨ys, z⟩
            rw [bikesE_no hn] at q'
            exact onS (isA_tup hb hn) ⟨two, q'⟩
    · rw [errD_no3 h3] at q
      refine ifT (b := nb true (decide ((xs.length : Int) = 3))) ?_ ⟨two, q⟩
      show (!decide ((xs.length : Int) = 3)) = true
      rw [decide_eq_false (by omega)]
      rfl
  · have hn : ∀ xs, v ≠ .tup xs := fun xs z => ht ⟨xs, z⟩
    have e : errD v = .tup [.non, .str "road"] := by
      cases v with
      | tup xs => exact absurd rfl (hn xs)
      | _ => rfl
    rw [e] at q
    exact onS (isA_tup hv hn) ⟨two, q⟩
theorem isroad_ok {v : D} {S : Sto} {Q : QD} {E : ED} (hv : (toPy v).isSome = true) (q : Q (.bl (isNon (errD v))) S) : F_is_road [v] S Q E := by
  unfold F_is_road
  refine ⟨rfl, ?_⟩
  refine rerr_ok hv ⟨?_, q⟩
  unfold errD bikesE
  split
  · split
    · split
      · split
        · split <;> rfl
        · rfl
      · rfl
    · rfl
  · rfl
end Pu
namespace Pu
open PySem L2
theorem szr {n : Nat} (h : Nat.ble n 100000 = true) : n ≤ sizeLine := szd (Nat.le_of_ble_eq_true h)
/-! ## any value, of a bounded size -/
structure Av (k n : Nat) (d : D) : Prop where
  py : ∃ p, toPy d = some p ∧ Rb.Nice k n p
  kn : known d = true
abbrev Avs (k n : Nat) (ds : List D) : Prop := ∀ d ∈ ds, Av k n d
theorem Av.some {k n : Nat} {d : D} (h : Av k n d) : (toPy d).isSome = true := by
  obtain ⟨p, e, _⟩ := h.py
  rw [e]
  rfl
theorem Av.mono {k n k' n' : Nat} {d : D} (h : Av k n d) (h1 : k ≤ k') (h2 : n ≤ n') : Av k' n' d := by
  obtain ⟨p, e, hn⟩ := h.py
  exact ⟨⟨p, e, hn.mono h1 h2⟩, h.kn⟩
theorem Av.int {i : Int} (h : i.natAbs < 10 ^ 99) : Av 0 0 (.int i) := ⟨⟨_, rfl, Rb.Nice.int h⟩, rfl⟩
theorem Av.non : Av 0 0 .non := ⟨⟨_, rfl, Rb.Nice.none⟩, rfl⟩
theorem Av.bl {b : Bool} : Av 0 0 (.bl b) := ⟨⟨_, rfl, Rb.Nice.bool⟩, rfl⟩
theorem avs_py {k n : Nat} : ∀ {ds : List D}, Avs k n ds → (∃ ps, toPyAll ds = some ps ∧ ps.length = ds.length ∧ ∀ p ∈ ps, Rb.Nice k n p) ∧ knownAll ds = true
  | [], _ => ⟨⟨[], rfl, rfl, fun _ z => nomatch z⟩, rfl⟩
  | d :: ds, h => by
    obtain ⟨⟨ps, e, hl, hn⟩, hk⟩ := avs_py (ds := ds) fun x hx => h x (List.mem_cons_of_mem _ hx)
    obtain ⟨⟨p, e1, h1⟩, k1⟩ := h d List.mem_cons_self
    refine ⟨⟨p :: ps, ?_, by rw [List.length_cons, List.length_cons, hl], fun q hq => ?_⟩, ?_⟩
    · show (toPy d).bind (fun p => (toPyAll ds).map (p :: ·)) = _
      rw [e1, e]
      rfl
    · rcases List.mem_cons.mp hq with rfl | hq
      · exact h1
      · exact hn q hq
    · show (known d && knownAll ds) = true
      rw [k1, hk]
      rfl
theorem Av.tup {k n m : Nat} {ds : List D} (h : Avs k n ds) (hm : ds.length * (n + 1) ≤ m) : Av (k + 1) m (.tup ds) := by
  obtain ⟨⟨ps, e, hl, hn⟩, hk⟩ := avs_py h
  refine ⟨⟨.tuple ps, ?_, Rb.Nice.tup hn (by rw [hl]; exact hm)⟩, hk⟩
  show (toPyAll ds).map PyData.tuple = _
  rw [e]
  rfl
theorem Av.lst {k n m : Nat} {ds : List D} (h : Avs k n ds) (hm : ds.length * (n + 1) ≤ m) : Av (k + 1) m (.lst true ds) := by
  obtain ⟨⟨ps, e, hl, hn⟩, hk⟩ := avs_py h
  refine ⟨⟨.list ps, ?_, Rb.Nice.lst hn (by rw [hl]; exact hm)⟩, hk⟩
  show (toPyAll ds).map PyData.list = _
  rw [e]
  rfl
theorem Avs.nil {k n : Nat} : Avs k n [] := fun _ z => nomatch z
theorem Avs.cons {k n : Nat} {d : D} {ds : List D} (h : Av k n d) (t : Avs k n ds) : Avs k n (d :: ds) := fun x hx => by
  rcases List.mem_cons.mp hx with rfl | hx
  · exact h
  · exact t x hx
theorem Avs.app {k n : Nat} {ds es : List D} (h : Avs k n ds) (t : Avs k n es) : Avs k n (ds ++ es) := fun x hx => by
  rcases List.mem_append.mp hx with hx | hx
  · exact h x hx
  · exact t x hx
theorem Avs.ints {ns : List Int} (h : ∀ i ∈ ns, i.natAbs < 10 ^ 99) : Avs 0 0 (ns.map D.int) := fun x hx => by
  obtain ⟨i, hi, rfl⟩ := List.mem_map.mp hx
  exact Av.int (h i hi)
theorem Avs.mono {k n k' n' : Nat} {ds : List D} (h : Avs k n ds) (h1 : k ≤ k') (h2 : n ≤ n') : Avs k' n' ds := fun x hx => (h x hx).mono h1 h2
theorem Avs.cut {k n : Nat} {ds : List D} (h : Avs k n ds) {lo hi : Option Int} : Avs k n (cutD ds lo hi) := fun x hx => h x (List.mem_of_mem_drop (List.mem_of_mem_take hx))
theorem cutD_le {ds : List D} {lo hi : Option Int} : (cutD ds lo hi).length ≤ ds.length := by
  unfold cutD
  rw [List.length_take, List.length_drop]
  omega
theorem Avs.rep {k n m : Nat} {ds : List D} (h : Avs k n ds) : Avs k n (List.replicate m ds).flatten := fun x hx => by
  obtain ⟨l, hl, hx⟩ := List.mem_flatten.mp hx
  rw [(List.mem_replicate.mp hl).2] at hx
  exact h x hx
theorem atI_mem {α : Type} {xs : List α} {r : Int} (h0 : 0 ≤ r) (h1 : r < xs.length) : ∃ d, atI xs r = some d ∧ d ∈ xs := by
  obtain ⟨j, rfl⟩ : ∃ j : Nat, r = (j : Int) := ⟨r.toNat, (Int.toNat_of_nonneg h0).symm⟩
  have hj : j < xs.length := by omega
  exact ⟨xs[j], atI_nat (List.getElem?_eq_getElem hj), List.getElem_mem hj⟩
theorem rep_len {α : Type} {m : Nat} {xs : List α} : (List.replicate m xs).flatten.length = m * xs.length := by
  rw [List.length_flatten, List.map_replicate, List.sum_replicate_nat]
/-! ## odd values -/
def oddL : List D := [.non, .bl true, .bl false, .int (-1), .int 0, .int 1, .int 12, .int 13, .int 1000, .int (10 ^ 39), .str "", .str "0", .tup [], .lst true [], .dic [], .tup [.int 0], .lst true [.int 0], .tup [.bl true], .tup [.int 1, .int 0],
  .tup [.tup [.int 0]], .tup [.int 10, .int 4, .tup [.int 1, .int 0]], .tup [.int 0, .int 0], .tup [.tup [], .tup []], .dic [("a", 0)]]
theorem nice_dec {p : PyData} (h1 : p.showable = true) (h2 : p.leavesShort 100 = true) (h3 : p.depth ≤ 2) (h4 : p.bulk ≤ 20) : Rb.Nice 2 20 p := ⟨h1, h2, h3, h4⟩
theorem oddL_ok : Avs 2 20 oddL := by
  have i : ∀ {i : Int}, i.natAbs < 10 ^ 99 → Av 2 20 (.int i) := fun h => (Av.int h).mono (by decide) (by decide)
  have t : ∀ {ds : List D}, Avs 1 4 ds → ds.length ≤ 4 → Av 2 20 (.tup ds) := fun h hl => Av.tup h (by omega)
  have j : ∀ {i : Int}, i.natAbs < 10 ^ 99 → Av 1 4 (.int i) := fun h => (Av.int h).mono (by decide) (by decide)
  have s : ∀ {x : Str}, x.cps.size ≤ 20 → (∀ c ∈ x.cps.toList, c < 16 ^ 8) → Av 2 20 (.str x) := fun h1 h2 => ⟨⟨_, rfl, (Rb.Nice.str h1 h2).mono (by decide) (by decide)⟩, rfl⟩
  refine .cons (Av.non.mono (by decide) (by decide)) (.cons (Av.bl.mono (by decide) (by decide)) (.cons (Av.bl.mono (by decide) (by decide)) (.cons (i (by decide)) (.cons (i (by decide)) (.cons (i (by decide)) (.cons (i (by decide)) (.cons (i (by decide)) (.cons (i (by decide)) (.cons (i (by decide)) (.cons (s (by decide) (by decide)) (.cons (s (by decide) (by decide)) ?_)))))))))))
  refine .cons (t .nil (by decide)) (.cons (Av.lst (k := 1) (n := 4) .nil (by decide)) (.cons ⟨⟨_, rfl, nice_dec (by decide) (by decide) (by decide) (by decide)⟩, rfl⟩ ?_))
  refine .cons (t (.cons (j (by decide)) .nil) (by decide)) (.cons (Av.lst (k := 1) (n := 4) (.cons (j (by decide)) .nil) (by decide)) (.cons (t (.cons (Av.bl.mono (by decide) (by decide)) .nil) (by decide)) (.cons (t (.cons (j (by decide)) (.cons (j (by decide)) .nil)) (by decide)) ?_)))
  have u : ∀ {ds : List D}, Avs 0 0 ds → ds.length ≤ 4 → Av 1 4 (.tup ds) := fun h hl => Av.tup h (by omega)
  refine .cons (t (.cons (u (.cons (Av.int (by decide)) .nil) (by decide)) .nil) (by decide)) (.cons (t (.cons (j (by decide)) (.cons (j (by decide)) (.cons (u (.cons (Av.int (by decide)) (.cons (Av.int (by decide)) .nil)) (by decide)) .nil))) (by decide)) ?_)
  exact .cons (t (.cons (j (by decide)) (.cons (j (by decide)) .nil)) (by decide)) (.cons (t (.cons (u .nil (by decide)) (.cons (u .nil (by decide)) .nil)) (by decide)) (.cons ⟨⟨_, rfl, nice_dec (by decide) (by decide) (by decide) (by decide)⟩, rfl⟩ .nil))
theorem odd_ok {S T : Sto} {N : Int} {Q : QD} {E : ED} (h : Dk S N T) (hN : N ≤ 900000) (q : ∀ d S', Av 2 20 d → Dk S' (N + 1) T → Q d S') : F_law_odd [.cell 1] S Q E := by
  unfold F_law_odd
  refine ⟨rfl, ⟨by decide, by decide, by decide⟩, szr rfl, szr rfl, szr rfl, szr rfl, szr rfl, szr rfl, szr rfl, ?_⟩
  refine ⟨szr rfl, szr rfl, szr rfl, szr rfl, szr rfl, szr rfl, szr rfl, szr rfl, szr rfl, szr rfl, ?_⟩
  refine draw_ok h (by omega) (by decide) (by decide) fun r S1 r0 r1 d1 => ?_
  obtain ⟨d, e, hd⟩ := atI_mem (xs := oddL) r0 r1
  exact onS (a := d) e (q d S1 (oddL_ok d hd) d1)
end Pu
namespace Pu
open PySem L2
def den_is_riders : FS := (dSeq (dIfS (dNot (dTest (dUn (gIsi .tup) (dVar 0))))
 (dRet (dC (.bl false)))
 dSkip)
 (dSeq (dAsg (dC (.int 0)) (gN 2))
 (dSeq (dFor (dItS (dVar 0)) (gN 3)
 (dSeq (dIfS (dNot (dTest (dCallW F_is_number_from (dCons (dVar 3) (dCons (dVar 2) (dCons (dBin gSub (dVar 1) (dC (.int 1))) dNil))))))
 (dRet (dC (.bl false)))
 dSkip)
 (dAsg (dBin gAdd (dVar 3) (dC (.int 1))) (gN 2))))
 (dRet (dC (.bl true))))))
@[irreducible] def F_is_riders : FF := dDef 2 4 den_is_riders
def den_law_plan : FS := (dSeq (dAsg (dTup (dCons (dTup dNil) (dCons (dC (.int 0)) dNil))) (gTp 2 (gsCons (gN 3) (gsCons (gN 4) gsNil))))
 (dSeq (dFor (dItS (dBin gIx (dVar 1) (dC (.int 2)))) (gN 5)
 (dSeq (dAsg (dTup (dCons (dListRC (dVar 2)) (dCons (dB gMinL (dCons (dVar 2) (dCons (dBin gAdd (dVar 4) (dVar 5)) dNil))) dNil))) (gTp 2 (gsCons (gN 6) (gsCons (gN 4) gsNil))))
 (dSeq (dAsg (dBin gIx (dLst (dCons (dVar 4) (dCons (dCallW F_law_draw (dCons (dVar 0) (dCons (dBin gAdd (dVar 4) (dC (.int 1))) dNil))) dNil))) (dCallW F_law_draw (dCons (dVar 0) (dCons (dC (.int 2)) dNil)))) (gN 7))
 (dSeq (dAsg (dB gSorted (dCons (dLc (st1 9) dYes (dML gPopAt (dVar 6) (dCons (dCallW F_law_draw (dCons (dVar 0) (dCons (dB gLen (dCons (dVar 6) dNil)) dNil))) dNil)) (dRng1 (dCons (dVar 7) dNil))) dNil)) (gN 8))
 (dPar 3 4 (dCons (dBin gAdd (dVar 3) (dTup (dCons (dB gTuple (dCons (dVar 8) dNil)) dNil))) (dCons (dVar 7) dNil)))))))
 (dRet (dVar 3))))
@[irreducible] def F_law_plan : FF := dDefC 3 10 den_law_plan
def den_law_is_right : FS := (dSeq (dIfS (dOr (dNot (dTest (dUn (gIsi .tup) (dVar 2)))) (dTest (dBin gNe (dB gLen (dCons (dVar 2) dNil)) (dB gLen (dCons (dBin gIx (dVar 0) (dC (.int 2))) dNil)))))
 (dRet (dC (.bl false)))
 dSkip)
 (dSeq (dFor (dRng1 (dCons (dB gLen (dCons (dVar 2) dNil)) dNil)) (gN 3)
 (dSeq (dIfS (dNot (dTest (dUn (gIsi .tup) (dBin gIx (dVar 2) (dVar 3)))))
 (dRet (dC (.bl false)))
 dSkip)
 (dSeq (dIfS (dTest (dBin gNeE (dLc (st1 4) (dNot (dTest (dCallW F_law_is_number (dCons (dVar 4) (dCons (dC (.int 0)) (dCons (dBin gSub (dVar 1) (dC (.int 1))) dNil)))))) (dVar 4) (dItS (dBin gIx (dVar 2) (dVar 3)))) (dLst dNil)))
 (dRet (dC (.bl false)))
 dSkip)
 (dSeq (dIfS (dTest (dBin gNe (dB gListN (dCons (dBin gIx (dVar 2) (dVar 3)) dNil)) (dSrtSet (dBin gIx (dVar 2) (dVar 3)))))
 (dRet (dC (.bl false)))
 dSkip)
 (dIfS (dTest (dBin gGt (dB gLen (dCons (dBin gIx (dVar 2) (dVar 3)) dNil)) (dBin gAdd (dBin gIx (dBin gIx (dVar 0) (dC (.int 2))) (dVar 3)) (dIf (dTest (dBin gGt (dVar 3) (dC (.int 0)))) (dB gLen (dCons (dBin gIx (dVar 2) (dBin gSub (dVar 3) (dC (.int 1)))) dNil)) (dC (.int 0))))))
 (dRet (dC (.bl false)))
 dSkip)))))
 (dRet (dC (.bl true)))))
@[irreducible] def F_law_is_right : FF := dDef 3 5 den_law_is_right
def den_is_plan : FS := (dSeq (dAsg (dBin gIx (dVar 0) (dC (.int 2))) (gN 3))
 (dSeq (dIfS (dOr (dNot (dTest (dUn (gIsi .tup) (dVar 2)))) (dTest (dBin gNe (dB gLen (dCons (dVar 2) dNil)) (dB gLen (dCons (dVar 3) dNil)))))
 (dRet (dC (.bl false)))
 dSkip)
 (dSeq (dAsg (dC (.int 0)) (gN 4))
 (dSeq (dFor (dZip (dCons (dVar 2) (dCons (dVar 3) dNil))) (gTp 2 (gsCons (gN 5) (gsCons (gN 6) gsNil)))
 (dSeq (dIfS (dOr (dNot (dTest (dCallW F_is_riders (dCons (dVar 5) (dCons (dVar 1) dNil))))) (dTest (dBin gGt (dB gLen (dCons (dVar 5) dNil)) (dBin gAdd (dVar 4) (dVar 6)))))
 (dRet (dC (.bl false)))
 dSkip)
 (dAsg (dB gLen (dCons (dVar 5) dNil)) (gN 4))))
 (dRet (dC (.bl true)))))))
@[irreducible] def F_is_plan : FF := dDef 3 7 den_is_plan
def den_law_changed_2 : FS := (dSeq (dPar3 3 4 5 (dCons (dCallW F_law_draw (dCons (dVar 0) (dCons (dB gLen (dCons (dVar 2) dNil)) dNil))) (dCons (dCallW F_law_odd (dCons (dVar 0) dNil)) (dCons (dCallW F_law_draw (dCons (dVar 0) (dCons (dBin gAdd (dVar 1) (dC (.int 1))) dNil))) dNil))))
 (dSeq (dAsg (dBin gIx (dVar 2) (dVar 3)) (gN 6))
 (dSeq (dAsg (dB gTuple (dCons (dSrtSet (dBin gAdd (dVar 6) (dTup (dCons (dVar 5) dNil)))) dNil)) (gN 7))
 (dSeq (dAsg (dLst (dCons (dVar 4) (dCons (dVar 7) (dCons (dSl (dVar 6) (dPart (dC (.int 1))) dNoP) (dCons (dUn gRevT (dVar 6)) (dCons (dBin gAdd (dVar 6) (dSl (dVar 6) dNoP (dPart (dC (.int 1))))) (dCons (dB gListN (dCons (dVar 6) dNil)) (dCons (dBin gAdd (dVar 6) (dTup (dCons (dVar 1) dNil))) dNil)))))))) (gN 8))
 (dSeq (dAsg (dBin gAdd (dVar 8) (dLst (dCons (dBin gAdd (dTup (dCons (dUn gNeg (dC (.int 1))) dNil)) (dVar 6)) (dCons (dVar 7) (dCons (dTupR (dVar 1)) (dCons (dTup dNil) (dCons (dB gTuple (dCons (dLc (st1 12) dYes (dB gStr (dCons (dVar 12) dNil)) (dItS (dVar 6))) dNil)) (dCons (dTup (dCons (dC .non) dNil)) dNil)))))))) (gN 8))
 (dSeq (dAsg (dBin gIx (dBin gAdd (dVar 8) (dLst (dCons (dBin gAdd (dVar 6) (dTup (dCons (dC .non) dNil))) (dCons (dBin gAdd (dVar 6) (dTup (dCons (dVar 4) dNil))) dNil)))) (dCallW F_law_draw (dCons (dVar 0) (dCons (dC (.int 15)) dNil)))) (gN 8))
 (dSeq (dPar 9 10 (dCons (dSl (dVar 2) dNoP (dPart (dVar 3))) (dCons (dSl (dVar 2) (dPart (dBin gAdd (dVar 3) (dC (.int 1)))) dNoP) dNil)))
 (dSeq (dAsg (dLst (dCons (dBin gAdd (dBin gAdd (dVar 9) (dTup (dCons (dVar 8) dNil))) (dVar 10)) (dCons (dBin gAdd (dVar 2) (dTup (dCons (dTup dNil) dNil))) (dCons (dSl (dVar 2) (dPart (dC (.int 1))) dNoP) (dCons (dB gListN (dCons (dVar 2) dNil)) (dCons (dUn gRevT (dVar 2)) (dCons (dBin gAdd (dBin gAdd (dVar 9) (dTup (dCons (dTup dNil) dNil))) (dVar 10)) (dCons (dVar 4) dNil)))))))) (gN 11))
 (dRet (dBin gIx (dBin gAdd (dBin gMul (dSl (dVar 11) dNoP (dPart (dC (.int 1)))) (dC (.int 5))) (dVar 11)) (dCallW F_law_draw (dCons (dVar 0) (dCons (dC (.int 12)) dNil)))))))))))))
@[irreducible] def F_law_changed_2 : FF := dDef 3 13 den_law_changed_2
def den_law_k04 : FS := (dSeq (dAsg (dCallW F_law_deck (dCons (dVar 0) dNil)) (gN 1))
 (dSeq (dFor (dRng1 (dCons (dC (.int 9)) dNil)) (gN 2)
 (dSeq (dAsg (dCallW F_law_road (dCons (dVar 1) (dCons (dBin gIx (dLst (dCons (dC (.int 12)) (dCons (dC (.int 3)) (dCons (dC (.int 6)) dNil)))) (dBin gMod (dVar 2) (dC (.int 3)))) (dCons (dBin gIx (dLst (dCons (dC (.int 12)) (dCons (dC (.int 1)) (dCons (dC (.int 3)) dNil)))) (dBin gFdiv (dVar 2) (dC (.int 3)))) dNil)))) (gN 3))
 (dSeq (dAsg (dBin gIx (dLst (dCons (dC (.int 10)) (dCons (dC (.int 2)) (dCons (dBin gAdd (dC (.int 1)) (dCallW F_law_draw (dCons (dVar 1) (dCons (dC (.int 10)) dNil)))) dNil)))) (dCallW F_law_draw (dCons (dVar 1) (dCons (dC (.int 3)) dNil)))) (gN 4))
 (dSeq (dAsg (dTup (dCons (dCall 2 F_law_plan (dCons (dVar 1) (dCons (dVar 3) (dCons (dVar 4) dNil)))) (dCons (dB gLen (dCons (dBin gIx (dVar 3) (dC (.int 2))) dNil)) dNil))) (gTp 2 (gsCons (gN 5) (gsCons (gN 6) gsNil))))
 (dSeq (dAsg (dB gTuple (dCons (dLc (st1 14) dYes (dB gTuple (dCons (dLc (st1 15) dYes (dBin gIx (dLst (dCons (dVar 15) (dCons (dBin gEq (dVar 15) (dC (.int 1))) dNil))) (dB gToInt (dCons (dBin gLt (dVar 15) (dC (.int 2))) dNil))) (dItS (dVar 14))) dNil)) (dItS (dVar 5))) dNil)) (gN 7))
 (dSeq (dAsg (dLst (dCons (dVar 5) (dCons (dVar 7) (dCons (dVar 5) (dCons (dBin gMul (dTup (dCons (dTup dNil) dNil)) (dVar 6)) (dCons (dBin gMul (dTup (dCons (dTupR (dVar 4)) dNil)) (dVar 6)) (dCons (dBin gMul (dTup (dCons (dTup dNil) dNil)) (dBin gAdd (dVar 6) (dC (.int 1)))) (dCons (dTup dNil) dNil)))))))) (gN 8))
 (dFor (dItS (dBin gAdd (dBin gAdd (dVar 8) (dLc (st1 16) dYes (dCallW F_law_changed_2 (dCons (dVar 1) (dCons (dVar 4) (dCons (dVar 5) dNil)))) (dRng1 (dCons (dC (.int 12)) dNil)))) (dLst (dCons (dCallW F_law_odd (dCons (dVar 1) dNil)) dNil)))) (gN 9)
 (dFor (dItS (dLst (dCons (dVar 4) (dCons (dBin gAdd (dC (.int 1)) (dCallW F_law_draw (dCons (dVar 1) (dCons (dC (.int 10)) dNil)))) dNil)))) (gN 10)
 (dSeq (dPar 11 12 (dCons (dB gRepr (dCons (dLst (dCons (dVar 3) (dCons (dVar 9) dNil))) dNil)) (dCons (dB gRepr (dCons (dCallW F_law_is_right (dCons (dVar 3) (dCons (dVar 10) (dCons (dVar 9) dNil)))) dNil)) dNil)))
 (dSeq (dIfS (dTest (dBin gNe (dLc (st1 17) dYes (dB gRepr (dCons (dCallW F_is_plan (dCons (dVar 3) (dCons (dVar 10) (dCons (dVar 9) dNil)))) dNil)) (dRng1 (dCons (dC (.int 2)) dNil))) (dLst (dCons (dVar 12) (dCons (dVar 12) dNil)))))
 (dRet (dC (.bl false)))
 dSkip)
 (dIfS (dTest (dBin gNe (dB gRepr (dCons (dLst (dCons (dVar 3) (dCons (dVar 9) dNil))) dNil)) (dVar 11)))
 (dRet (dC (.bl false)))
 dSkip)))))))))))
 (dSeq (dAsg (dTup (dCons (dC (.int 2)) (dCons (dC (.int 1)) (dCons (dTup (dCons (dC (.int 2)) (dCons (dC (.int 0)) dNil))) dNil)))) (gN 3))
 (dSeq (dAsg (dLst (dCons (dTup (dCons (dTup (dCons (dC (.int 0)) (dCons (dC (.int 1)) dNil))) (dCons (dTup (dCons (dC (.int 0)) (dCons (dC (.int 1)) dNil))) dNil))) (dCons (dTup (dCons (dTup (dCons (dC (.bl false)) (dCons (dC (.bl true)) dNil))) (dCons (dTup (dCons (dC (.int 0)) (dCons (dC (.int 1)) dNil))) dNil))) (dCons (dTup (dCons (dTup (dCons (dC (.int 0)) (dCons (dC (.int 1)) dNil))) (dCons (dTup (dCons (dC (.int 0)) (dCons (dC (.int 1)) dNil))) dNil))) (dCons (dTup (dCons (dTup (dCons (dC (.int 0)) dNil)) (dCons (dTup (dCons (dC (.int 0)) (dCons (dC (.int 1)) dNil))) dNil))) (dCons (dTup (dCons (dTup (dCons (dC (.int 0)) (dCons (dC (.int 1)) dNil))) (dCons (dTup (dCons (dC (.int 1)) dNil)) dNil))) dNil)))))) (gN 13))
 (dRet (dBin gEq (dLc (st1 9) dYes (dCallW F_is_plan (dCons (dVar 3) (dCons (dC (.int 2)) (dCons (dVar 9) dNil)))) (dItS (dVar 13))) (dLst (dCons (dC (.bl true)) (dCons (dC (.bl false)) (dCons (dC (.bl true)) (dCons (dC (.bl false)) (dCons (dC (.bl true)) dNil))))))))))))
@[irreducible] def F_law_k04 : FF := dDef 1 18 den_law_k04
end Pu
namespace Pu
open PySem L2 Rb
/-! ## people, plans -/
def natsV (r : List Nat) : List D := r.map fun p : Nat => D.int (p : Int)
def ridersV (r : List Nat) : D := .tup (natsV r)
def planV (plan : List (List Nat)) : D := .tup (plan.map ridersV)
def nI (r : List Nat) : List Int := r.map fun p : Nat => (p : Int)
theorem natsV_eq (r : List Nat) : natsV r = (nI r).map D.int := by unfold natsV nI; rw [List.map_map]; rfl
theorem nI_len (r : List Nat) : (nI r).length = r.length := by unfold nI; rw [List.length_map]
theorem natsV_len (r : List Nat) : (natsV r).length = r.length := by unfold natsV; rw [List.length_map]
theorem nI_toNat (r : List Nat) : (nI r).map Int.toNat = r := by
  unfold nI
  rw [List.map_map]
  have : (Int.toNat ∘ fun p : Nat => (p : Int)) = id := funext fun p => Int.toNat_natCast p
  rw [this, List.map_id]
theorem nI_perm {ns : List Int} {acc : List Nat} (h : ns.Perm (nI acc)) : ∃ r : List Nat, ns = nI r ∧ r.Perm acc := by
  refine ⟨ns.map Int.toNat, ?_, ?_⟩
  · unfold nI
    rw [List.map_map]
    have : ∀ x ∈ ns, ((fun p : Nat => (p : Int)) ∘ Int.toNat) x = x := fun x hx => by
      obtain ⟨p, _, rfl⟩ := List.mem_map.mp (h.mem_iff.mp hx)
      simp
    rw [List.map_congr_left this, List.map_id']
  · have := h.map Int.toNat
    rw [nI_toNat] at this
    exact this
theorem nI_asc {r : List Nat} (h : (nI r).Pairwise (· ≤ ·)) (nd : r.Nodup) : r.Pairwise (· < ·) := by
  unfold nI at h
  have h1 := List.pairwise_map.mp h
  have h2 := List.nodup_iff_pairwise_ne.mp nd
  exact (h1.and h2).imp fun ⟨a, b⟩ => by omega
theorem natsV_erase : ∀ (r : List Nat) (j : Nat), (natsV r).eraseIdx j = natsV (r.eraseIdx j)
  | [], _ => rfl
  | x :: r, 0 => rfl
  | x :: r, j + 1 => by
    show _ :: (natsV r).eraseIdx j = _ :: natsV (r.eraseIdx j)
    rw [natsV_erase r j]
theorem nat_erase : ∀ (l : List Nat) (j y : Nat), l[j]? = some y → (y :: l.eraseIdx j).Perm l
  | [], _, _, h => by simp at h
  | x :: l, 0, y, h => by cases h; exact .refl _
  | x :: l, j + 1, y, h => (List.Perm.swap x y _).trans ((nat_erase l j y h).cons x)
theorem erase2 {lf acc : List Nat} {j y : Nat} (hj : lf[j]? = some y) : ((acc ++ [y]) ++ lf.eraseIdx j).Perm (acc ++ lf) := by
  rw [List.append_assoc]
  exact List.Perm.append_left acc (nat_erase lf j y hj)
structure PlanPre (bikes : List Int) (n : Nat) (plan : List (List Nat)) : Prop where
  asc : ∀ r ∈ plan, r.Pairwise (· < ·)
  lt : ∀ r ∈ plan, ∀ p ∈ r, p < n
  few : ∀ i, i < plan.length → (plan.getD i []).length ≤ (bikes.getD i 0).toNat + (brM plan i).length
theorem getD_app {α : Type} {l m : List α} {i : Nat} {d : α} (h : i < l.length) : (l ++ m).getD i d = l.getD i d := by
  rw [List.getD_eq_getElem?_getD, List.getD_eq_getElem?_getD, List.getElem?_append_left h]
theorem PlanPre.snoc {bikes : List Int} {n : Nat} {plan : List (List Nat)} {r : List Nat} (h : PlanPre bikes n plan) (h1 : r.Pairwise (· < ·)) (h2 : ∀ p ∈ r, p < n) (h3 : r.length ≤ (bikes.getD plan.length 0).toNat + (brM plan plan.length).length) : PlanPre bikes n (plan ++ [r]) := by
  refine ⟨fun s hs => ?_, fun s hs => ?_, fun i hi => ?_⟩
  · rcases List.mem_append.mp hs with g | g
    · exact h.asc s g
    · rw [List.mem_singleton.mp g]; exact h1
  · rcases List.mem_append.mp hs with g | g
    · exact h.lt s g
    · rw [List.mem_singleton.mp g]; exact h2
  · have hi : i < plan.length + 1 := by rw [List.length_append] at hi; exact hi
    have eb : brM (plan ++ [r]) i = brM plan i := by
      unfold brM
      split
      · rfl
      · exact getD_app (by omega)
    rw [eb]
    by_cases e : i < plan.length
    · rw [getD_app e]
      exact h.few i e
    · have e : i = plan.length := by omega
      subst e
      have : (plan ++ [r]).getD plan.length [] = r := by
        rw [List.getD_eq_getElem?_getD, List.getElem?_append_right (Nat.le_refl _), Nat.sub_self]
        rfl
      rw [this]
      exact h3
theorem PlanPre.ok {bikes : List Int} {n : Nat} {plan : List (List Nat)} (h : PlanPre bikes n plan) (hl : plan.length = bikes.length) (hn : ∀ b ∈ bikes, 0 ≤ b) : PlanOk bikes n plan := by
  refine ⟨hl, hn, h.asc, h.lt, fun i => ?_⟩
  by_cases hi : i < plan.length
  · have := h.few i hi
    have e : (brM plan i).length = if i = 0 then 0 else (plan.getD (i - 1) []).length := by
      unfold brM
      split <;> rfl
    rw [← e]
    exact this
  · rw [List.getD_eq_getElem?_getD, List.getElem?_eq_none (by omega)]
    exact Nat.zero_le _
/-! what is below -/
theorem below_ints {k : Nat} : ∀ (ns : List Int), belowAll k (ns.map D.int) = true
  | [] => rfl
  | n :: ns => below_ints ns
theorem below_nats {k : Nat} (r : List Nat) : belowAll k (natsV r) = true := by rw [natsV_eq]; exact below_ints _
theorem below_plan {k : Nat} : ∀ (plan : List (List Nat)), belowAll k (plan.map ridersV) = true
  | [] => rfl
  | r :: plan => by
    show (belowAll k (natsV r) && belowAll k (plan.map ridersV)) = true
    rw [below_nats, below_plan plan]
    rfl
theorem cell_last {A : Sto} {xs : List D} : cellOf (A ++ [.lst xs]) (.cell A.length) = some (A.length, xs) := by
  show (lstAt (A ++ [Cl.lst xs])[A.length]?).map _ = _
  rw [List.getElem?_append_right (Nat.le_refl _), Nat.sub_self]
  rfl
theorem seq_last {A : Sto} {xs : List D} : seqOf (A ++ [.lst xs]) (.cell A.length) = some xs := by
  show lstAt (A ++ [Cl.lst xs])[A.length]? = _
  rw [List.getElem?_append_right (Nat.le_refl _), Nat.sub_self]
  rfl
theorem set_last {A : Sto} {c d : Cl} : (A ++ [c]).set A.length d = A ++ [d] := by
  rw [List.set_append_right _ _ (Nat.le_refl _), Nat.sub_self]
  rfl
theorem Dk.cut {S : Sto} {N : Int} {T : Sto} {c : Cl} (h : Dk S N (T ++ [c])) : ∃ A, S = A ++ [c] ∧ A.length = 2 + T.length ∧ Dk A N T ∧ ∀ d, Dk (A ++ [d]) N (T ++ [d]) := by
  obtain ⟨cs, n, rfl, h⟩ := h
  exact ⟨deckS cs n ++ T, by rw [List.append_assoc], by rw [List.length_append]; rfl, ⟨cs, n, rfl, h⟩, fun d => ⟨cs, n, by rw [List.append_assoc], h⟩⟩
theorem Dk.len {S : Sto} {N : Int} {T : Sto} (h : Dk S N T) : S.length = 2 + T.length := by
  obtain ⟨cs, n, rfl, _⟩ := h
  rw [List.length_append]
  rfl
theorem Dk.snoc {S : Sto} {N : Int} {T : Sto} (h : Dk S N T) (c : Cl) : Dk (S ++ [c]) N (T ++ [c]) := by
  obtain ⟨cs, n, rfl, h⟩ := h
  exact ⟨cs, n, by rw [List.append_assoc], h⟩
theorem Dk.take2 {S : Sto} {N : Int} {T : Sto} (h : Dk S N T) : Dk (S.take 2) N [] ∧ S.drop 2 = T ∧ (S.take 2).all (Cl.below 2) = true ∧ (S.take 2).length = 2 := by
  obtain ⟨cs, n, rfl, h⟩ := h
  refine ⟨⟨cs, n, rfl, h⟩, rfl, ?_, rfl⟩
  show (belowAll 2 (cs.map D.int) && ((true && (true && true)) && true)) = true
  rw [below_ints]
  rfl
theorem rangeD_nats (n : Nat) : rangeD 0 n = natsV (List.range n) := by
  unfold rangeD natsV
  refine List.map_congr_left fun i _ => ?_
  rw [Int.zero_add]
theorem plan_ok {S : Sto} {N wk rd : Int} {bs : List Int} {n : Nat} {Q : QD} {E : ED} (h : Dk S N []) (hN : N ≤ 800000) (n1 : 1 ≤ n) (n2 : n ≤ 10) (l2 : bs.length ≤ 12) (hb : ∀ b ∈ bs, 0 ≤ b ∧ b ≤ 12)
    (q : ∀ plan S', PlanOk bs n plan → Dk S' (N + 200) [] → S'.length = 2 → Q (planV plan) S') : F_law_plan [.cell 1, roadV wk rd bs, .int (n : Int)] S Q E := by
  unfold F_law_plan
  have hS := h.len
  refine ⟨rfl, szr rfl, szr rfl, rfl, ?_⟩
  have nx : ∀ (plan : List (List Nat)) (S' T : Sto), Dk S' (N + 200) T → PlanOk bs n plan → ((S'.take S.length).length = S.length ∧ (S'.take S.length).all (Cl.below S.length) = true) ∧ onSome (frz S' S.length (planV plan)) fun d' => Q d' (S'.take S.length) := fun plan S' T d ok => by
    have e2 : S.length = 2 := hS
    rw [e2]
    obtain ⟨d1, d2, d3, d4⟩ := d.take2
    refine ⟨⟨d4, d3⟩, ?_⟩
    have hp : below 2 (planV plan) = true := below_plan plan
    refine onS (a := planV plan) ?_ (q plan _ ok d1 d4)
    show (if below 2 (planV plan) = true then some (planV plan) else none) = _
    rw [hp]
    rfl
  refine for_inv (bs.map D.int) (fun i ρ S' => ∃ (plan : List (List Nat)) (T : Sto) (y5 y6 y7 y8 y9 : Option D), ρ = [some (.cell 1), some (roadV wk rd bs), some (.int (n : Int)), some (planV plan), some (.int ((brM plan plan.length).length : Int)), y5, y6, y7, y8, y9] ∧ plan.length = i ∧ PlanPre bs n plan ∧ T.length = i ∧ Dk S' (N + 13 * i) T) ?_ ?_ ?_
  · exact ⟨[], [], none, none, none, none, none, rfl, rfl, ⟨(fun _ z => nomatch z), (fun _ z => nomatch z), (fun i hi => absurd hi (Nat.not_lt_zero _))⟩, rfl, h.le (by omega)⟩
  · rintro i x ρ S' K hx hK ⟨plan, T, y5, y6, y7, y8, y9, rfl, pl, pp, tl, dk⟩
    rw [List.getElem?_map] at hx
    obtain ⟨b, hbi, rfl⟩ := Option.map_eq_some_iff.mp hx
    have hbb := hb b (List.mem_of_getElem? hbi)
    have ilt : i < bs.length := (List.getElem?_eq_some_iff.mp hbi).1
    have hB : (brM plan plan.length).length ≤ 10 := by
      unfold brM
      split
      · exact Nat.zero_le _
      · by_cases e : plan.length - 1 < plan.length
        · have hm : plan.getD (plan.length - 1) [] ∈ plan := by
            rw [List.getD_eq_getElem?_getD, List.getElem?_eq_getElem e]
            exact List.getElem_mem e
          exact Nat.le_trans (nodup_le ((pp.asc _ hm).imp fun h => Nat.ne_of_lt h) (pp.lt _ hm)) n2
        · rw [List.getD_eq_getElem?_getD, List.getElem?_eq_none (by omega)]
          exact Nat.zero_le _
    generalize hmo : (if (((brM plan plan.length).length : Int) + b) < (n : Int) then ((brM plan plan.length).length : Int) + b else (n : Int)) = mo
    have mo0 : 0 ≤ mo ∧ mo ≤ (n : Int) ∧ mo ≤ ((brM plan plan.length).length : Int) + b := by
      rw [← hmo]
      split <;> omega
    refine ⟨⟨by omega, by omega⟩, szr rfl, rfl, ?_⟩
    rw [hmo, Int.toNat_natCast, rangeD_nats]
    refine draw_ok (dk.snoc _) (by omega) (by omega) (by omega) fun r1 S1 r10 r11 d1 => ⟨szr rfl, ?_⟩
    refine draw_ok d1 (by omega) (by decide) (by decide) fun r2 S2 r20 r21 d2 => ?_
    obtain ⟨mn, e2, c2⟩ := pick2i (x := mo) (y := r1) r20 r21
    refine onS e2 ⟨⟨by omega, by omega⟩, szd (by rw [rangeD_len]; omega), ?_⟩
    have len0 : S'.length = 2 + T.length := dk.len
    refine comp_rng (fun j acc S3 => ∃ (ac lf : List Nat), acc = natsV ac ∧ ac.length = j ∧ (ac ++ lf).Perm (List.range n) ∧ Dk S3 (N + 13 * i + 2 + j) (T ++ [.lst (natsV lf)])) ?_ ?_ ?_
    · exact ⟨[], List.range n, rfl, rfl, .refl _, d2.le (by omega)⟩
    · rintro j acc S3 K3 hj hK3 ⟨ac, lf, rfl, al, perm, d3⟩
      obtain ⟨A, rfl, Al, dA, dset⟩ := d3.cut
      have eid : S'.length = A.length := by omega
      rw [eid]
      have hlf : lf.length = n - j := by
        have := perm.length_eq
        rw [List.length_append, List.length_range] at this
        omega
      refine onS cell_last ?_
      refine onS (a := natsV lf) seq_last ?_
      refine draw_ok d3 (by omega) (by rw [natsV_len]; omega) (by rw [natsV_len]; omega) fun r4 S4 r40 r41 d4 => ?_
      obtain ⟨A4, rfl, Al4, dA4, dset4⟩ := d4.cut
      have eid4 : A.length = A4.length := by omega
      rw [eid4]
      refine onS cell_last ?_
      obtain ⟨m, rfl⟩ : ∃ m : Nat, r4 = (m : Int) := ⟨r4.toNat, (Int.toNat_of_nonneg r40).symm⟩
      have hm : m < lf.length := by rw [natsV_len] at r41; omega
      refine onS (a := m) ?_ (onS (a := .int (lf[m] : Int)) ?_ ?_)
      · show ixN (natsV lf).length (m : Int) = some m
        unfold ixN
        rw [if_pos (by omega), if_pos (by rw [natsV_len]; omega), Int.toNat_natCast]
      · unfold natsV
        rw [List.getElem?_map, List.getElem?_eq_getElem hm]
        rfl
      · refine hK3 _ _ ⟨ac ++ [lf[m]], lf.eraseIdx m, ?_, by rw [List.length_append, al]; rfl, (erase2 (List.getElem?_eq_getElem hm)).trans perm, ?_⟩
        · unfold natsV
          rw [List.map_append]
          rfl
        · rw [set_last]
          rw [show ((A4.length, natsV lf) : Nat × List D).2 = natsV lf from rfl, natsV_erase]
          exact (dset4 _).le (by omega)
    · rintro acc S3 ⟨ac, lf, rfl, al, perm, d3⟩
      have nd : (ac ++ lf).Nodup := perm.nodup_iff.mpr List.nodup_range
      have nda : ac.Nodup := (List.nodup_append.mp nd).1
      have hac : ∀ p ∈ ac, p < n := fun p hp => List.mem_range.mp (perm.mem_iff.mp (List.mem_append_left _ hp))
      refine .inl ⟨nI ac, natsV_eq ac, ?_⟩
      obtain ⟨r, er, pr⟩ := nI_perm (srt_perm (nI ac))
      rw [er, ← natsV_eq]
      have asc : r.Pairwise (· < ·) := nI_asc (by rw [← er]; exact srt_sorted _) (pr.nodup_iff.mpr nda)
      have rl : r.length = ac.length := pr.length_eq
      refine ⟨szr rfl, szd (by show (plan.map ridersV).length + 1 ≤ 100000; rw [List.length_map]; omega), hK _ _ ⟨plan ++ [r], T ++ [.lst (natsV lf)], some (.int b), some (.cell S'.length), some (.int mn), some (.lst false (natsV r)), y9, ?_, by rw [List.length_append, pl]; rfl, pp.snoc asc (fun p hp => hac p (pr.mem_iff.mp hp)) ?_, by rw [List.length_append, tl]; rfl, d3.le (by omega)⟩⟩
      · have e1 : planV (plan ++ [r]) = .tup (plan.map ridersV ++ [ridersV r]) := by unfold planV; rw [List.map_append]; rfl
        have e2 : ((brM (plan ++ [r]) (plan ++ [r]).length).length : Int) = mn := by
          have : brM (plan ++ [r]) (plan ++ [r]).length = r := by
            unfold brM
            rw [List.length_append, if_neg (by show ¬ (plan.length + 1 = 0); omega)]
            show (plan ++ [r]).getD (plan.length + 1 - 1) [] = r
            rw [Nat.add_sub_cancel, List.getD_eq_getElem?_getD, List.getElem?_append_right (Nat.le_refl _), Nat.sub_self]
            rfl
          rw [this, rl, al]
          omega
        rw [e1, e2]
        rfl
      · have : bs.getD plan.length 0 = b := by rw [pl, List.getD_eq_getElem?_getD, hbi]; rfl
        rw [this, rl, al]
        omega
  · rintro ρ S' ⟨plan, T, y5, y6, y7, y8, y9, rfl, pl, pp, tl, dk⟩
    exact nx plan S' T (dk.le (by rw [List.length_map]; omega)) (pp.ok (by rw [pl, List.length_map]) fun b hm => (hb b hm).1)
end Pu
namespace Pu
open PySem L2 Rb
/-! ## what is a plan -/
def ridAsc (n : Int) : Int → List D → Bool
  | _, [] => true
  | lo, x :: xs => isNum lo (n - 1) x && (match x with | .int i => ridAsc n (i + 1) xs | _ => false)
def isRid (n : Int) : D → Bool
  | .tup xs => ridAsc n 0 xs
  | _ => false
def lenT : D → Int
  | .tup xs => xs.length
  | _ => 0
def planB (n : Int) : Int → List D → List Int → Bool
  | br, v :: vs, b :: bs => isRid n v && decide (lenT v ≤ br + b) && planB n (lenT v) vs bs
  | _, _, _ => true
def isPlanD (bs : List Int) (n : Int) : D → Bool
  | .tup vs => decide (vs.length = bs.length) && planB n 0 vs bs
  | _ => false
theorem isA_tupT {S : Sto} {xs : List D} : isA .tup S (.tup xs) = some true := rfl
theorem riders_ok {v : D} {n : Int} {S : Sto} {Q : QD} {E : ED} (hv : (toPy v).isSome = true) (q : Q (.bl (isRid n v)) S) : F_is_riders [v, .int n] S Q E := by
  unfold F_is_riders
  refine ⟨rfl, ?_⟩
  by_cases ht : ∃ xs, v = .tup xs
  · obtain ⟨xs, rfl⟩ := ht
    have hx := py_all (py_tup hv)
    refine for_inv xs (fun i ρ S' => S' = S ∧ ∃ (lo : Int) (y3 : Option D), ρ = [some (.tup xs), some (.int n), some (.int lo), y3] ∧ ridAsc n 0 xs = ridAsc n lo (xs.drop i)) ⟨rfl, 0, none, rfl, rfl⟩ ?_ ?_
    · rintro i x ρ S' K hxi hK ⟨rfl, lo, y3, rfl, e⟩
      rw [drop_cons hxi] at e
      refine number_ok (hx x (List.mem_of_getElem? hxi)) ?_
      cases h : isNum lo (n - 1) x with
      | false =>
        have e2 : ridAsc n lo (x :: xs.drop (i + 1)) = false := by show (isNum lo (n - 1) x && _) = false; rw [h]; rfl
        have : isRid n (.tup xs) = false := e.trans e2
        rw [this] at q
        exact q
      | true =>
        obtain ⟨j, rfl, _, _⟩ := isNum_int h
        have e2 : ridAsc n lo (.int j :: xs.drop (i + 1)) = ridAsc n (j + 1) (xs.drop (i + 1)) := by show (isNum lo (n - 1) (.int j) && _) = _; rw [h]; rfl
        exact hK _ _ ⟨rfl, j + 1, _, rfl, e.trans e2⟩
    · rintro ρ S' ⟨rfl, lo, y3, rfl, e⟩
      rw [List.drop_length] at e
      have : isRid n (.tup xs) = true := e
      rw [this] at q
      exact q
  · have hn : ∀ xs, v ≠ .tup xs := fun xs z => ht ⟨xs, z⟩
    have e : isRid n v = false := by
      cases v with
      | tup xs => exact absurd rfl (hn xs)
      | _ => rfl
    rw [e] at q
    exact onS (isA_tup hv hn) q
theorem isRid_tup {n : Int} {v : D} (h : isRid n v = true) : ∃ xs, v = .tup xs := by
  cases v with
  | tup xs => exact ⟨xs, rfl⟩
  | _ => cases h
theorem zipD_lenEq {xs ys : List D} : xs.length = ys.length → (zipD xs ys).length = xs.length := by
  induction xs generalizing ys with
  | nil => intro _; cases ys <;> rfl
  | cons x xs ih =>
    intro h
    match ys, h with
    | y :: ys, h => exact congrArg (· + 1) (ih (ys := ys) (Nat.succ.inj h))
theorem isplan_ok {v : D} {wk rd n : Int} {bs : List Int} {S : Sto} {Q : QD} {E : ED} (hv : (toPy v).isSome = true) (q : Q (.bl (isPlanD bs n v)) S) : F_is_plan [roadV wk rd bs, .int n, v] S Q E := by
  unfold F_is_plan
  refine ⟨rfl, ?_⟩
  by_cases ht : ∃ vs, v = .tup vs
  · obtain ⟨vs, rfl⟩ := ht
    have hx := py_all (py_tup hv)
    have hlm : (bs.map D.int).length = bs.length := List.length_map ..
    refine ifB (fun c => ?_) fun c => ?_
    · have c' : (!decide ((vs.length : Int) = ((bs.map D.int).length : Int))) = true := c
      rw [Bool.not_eq_true', decide_eq_false_iff_not] at c'
      have : isPlanD bs n (.tup vs) = false := by
        show (decide _ && _) = false
        rw [decide_eq_false (by omega)]
        rfl
      rw [this] at q
      exact q
    have c' : (!decide ((vs.length : Int) = ((bs.map D.int).length : Int))) = false := c
    rw [Bool.not_eq_false', decide_eq_true_eq] at c'
    have hl : vs.length = bs.length := by omega
    have e0 : isPlanD bs n (.tup vs) = planB n 0 vs bs := by
      show (decide _ && _) = _
      rw [decide_eq_true hl]
      rfl
    rw [e0] at q
    refine for_inv (zipD vs (bs.map D.int)) (fun i ρ S' => S' = S ∧ ∃ (br : Int) (y5 y6 : Option D), ρ = [some (roadV wk rd bs), some (.int n), some (.tup vs), some (.tup (bs.map D.int)), some (.int br), y5, y6] ∧ planB n 0 vs bs = planB n br (vs.drop i) (bs.drop i)) ⟨rfl, 0, none, none, rfl, rfl⟩ ?_ ?_
    · rintro i x ρ S' K hxi hK ⟨rfl, br, y5, y6, rfl, e⟩
      obtain ⟨u, y, hu, hy, rfl⟩ := zipD_get hxi
      rw [List.getElem?_map] at hy
      obtain ⟨b, hbi, rfl⟩ := Option.map_eq_some_iff.mp hy
      rw [drop_cons hu, drop_cons hbi] at e
      have e1 : planB n br (u :: vs.drop (i + 1)) (b :: bs.drop (i + 1)) = (isRid n u && decide (lenT u ≤ br + b) && planB n (lenT u) (vs.drop (i + 1)) (bs.drop (i + 1))) := rfl
      rw [e1] at e
      refine ⟨rfl, riders_ok (hx u (List.mem_of_getElem? hu)) ?_⟩
      cases h : isRid n u with
      | false =>
        rw [h] at e
        rw [e] at q
        exact q
      | true =>
        rw [h] at e
        obtain ⟨ys, rfl⟩ := isRid_tup h
        refine ifB (fun c => ?_) fun c => ?_
        · have := of_decide_eq_true c
          rw [decide_eq_false (by show ¬ ((ys.length : Int) ≤ br + b); omega)] at e
          rw [e] at q
          exact q
        · have := of_decide_eq_false c
          rw [decide_eq_true (by show (ys.length : Int) ≤ br + b; omega)] at e
          exact hK _ _ ⟨rfl, _, _, _, rfl, e⟩
    · rintro ρ S' ⟨rfl, br, y5, y6, rfl, e⟩
      rw [zipD_lenEq (by omega), List.drop_length] at e
      rw [e] at q
      exact q
  · have hn : ∀ xs, v ≠ .tup xs := fun xs z => ht ⟨xs, z⟩
    have e : isPlanD bs n v = false := by
      cases v with
      | tup xs => exact absurd rfl (hn xs)
      | _ => rfl
    rw [e] at q
    exact onS (isA_tup hv hn) q
/-! the law's own look -/
theorem ridAsc_iff {n : Int} : ∀ {ns : List Int} {lo : Int}, ridAsc n lo (ns.map D.int) = true ↔ ns.Pairwise (· < ·) ∧ ∀ i ∈ ns, lo ≤ i ∧ i ≤ n - 1
  | [], lo => ⟨fun _ => ⟨.nil, fun _ z => nomatch z⟩, fun _ => rfl⟩
  | x :: xs, lo => by
    have e : ridAsc n lo ((x :: xs).map D.int) = (isNum lo (n - 1) (.int x) && ridAsc n (x + 1) (xs.map D.int)) := rfl
    have en : isNum lo (n - 1) (.int x) = (decide (lo ≤ x) && decide (x ≤ n - 1)) := rfl
    rw [e, en, Bool.and_eq_true_iff, Bool.and_eq_true_iff, decide_eq_true_eq, decide_eq_true_eq, ridAsc_iff, List.pairwise_cons]
    constructor
    · rintro ⟨⟨h1, h2⟩, h3, h4⟩
      refine ⟨⟨fun y hy => by have := h4 y hy; omega, h3⟩, fun i hi => ?_⟩
      rcases List.mem_cons.mp hi with rfl | hi
      · exact ⟨h1, h2⟩
      · have := h4 i hi
        omega
    · rintro ⟨⟨h1, h3⟩, h4⟩
      have h0 := h4 x List.mem_cons_self
      exact ⟨h0, h3, fun i hi => by have := h1 i hi; have := h4 i (List.mem_cons_of_mem _ hi); omega⟩
theorem ridAsc_cons {n lo : Int} {x : D} {xs : List D} : ridAsc n lo (x :: xs) = (isNum lo (n - 1) x && (match x with | .int i => ridAsc n (i + 1) xs | _ => false)) := rfl
theorem ridAsc_nums {n : Int} : ∀ {xs : List D} {lo : Int}, ridAsc n lo xs = true → 0 ≤ lo → ∀ x ∈ xs, isNum 0 (n - 1) x = true
  | [], _, _, _, x, hx => by cases hx
  | x :: xs, lo, h, hlo, y, hy => by
    rw [ridAsc_cons, Bool.and_eq_true_iff] at h
    obtain ⟨i, rfl, h1, h2⟩ := isNum_int h.1
    have h3 : ridAsc n (i + 1) xs = true := h.2
    rcases List.mem_cons.mp hy with rfl | hy
    · show (decide _ && decide _) = true
      rw [decide_eq_true (by omega), decide_eq_true h2]
      rfl
    · exact ridAsc_nums h3 (by omega) y hy
theorem nums_ints {n : Int} : ∀ {xs : List D}, (∀ x ∈ xs, isNum 0 (n - 1) x = true) → ∃ ns : List Int, xs = ns.map D.int ∧ ∀ i ∈ ns, 0 ≤ i ∧ i ≤ n - 1
  | [], _ => ⟨[], rfl, fun _ z => nomatch z⟩
  | x :: xs, h => by
    obtain ⟨ns, rfl, hn⟩ := nums_ints (xs := xs) fun y hy => h y (List.mem_cons_of_mem _ hy)
    obtain ⟨i, rfl, h1, h2⟩ := isNum_int (h x List.mem_cons_self)
    refine ⟨i :: ns, rfl, fun j hj => ?_⟩
    rcases List.mem_cons.mp hj with rfl | hj
    · exact ⟨h1, h2⟩
    · exact hn j hj
theorem eqv_ints : ∀ (ns ms : List Int), PyData.eqvAll (ns.map .int) (ms.map .int) = decide (ns = ms)
  | [], [] => rfl
  | [], _ :: _ => rfl
  | _ :: _, [] => rfl
  | n :: ns, m :: ms => by
    show ((n == m) && PyData.eqvAll (ns.map .int) (ms.map .int)) = _
    rw [eqv_ints ns ms]
    by_cases h : n = m
    · subst h
      by_cases h2 : ns = ms
      · subst h2; simp
      · simp [h2]
    · simp [h]
theorem srtU_self {ns : List Int} : ns = srtU ns ↔ ns.Pairwise (· < ·) := by
  constructor
  · intro h
    rw [h]
    exact srtU_asc
  · intro h
    exact asc_ext h srtU_asc fun z => srtU_mem.symm
theorem planB_step {n br : Int} {v : D} {vs : List D} {b : Int} {bs : List Int} : planB n br (v :: vs) (b :: bs) = (isRid n v && decide (lenT v ≤ br + b) && planB n (lenT v) vs bs) := rfl
end Pu
namespace Pu
open PySem L2 Rb
def prevL (vs : List D) (i : Nat) : Int := if i = 0 then 0 else lenT (vs.getD (i - 1) .non)
theorem prevL_succ {vs : List D} {i : Nat} {u : D} (h : vs[i]? = some u) : prevL vs (i + 1) = lenT u := by
  unfold prevL
  rw [if_neg (Nat.succ_ne_zero i), Nat.add_sub_cancel, List.getD_eq_getElem?_getD, h]
  rfl
theorem isRid_iff {n : Int} {ns : List Int} (hn : ∀ i ∈ ns, 0 ≤ i ∧ i ≤ n - 1) : isRid n (.tup (ns.map D.int)) = decide (ns = srtU ns) := by
  have e : isRid n (.tup (ns.map D.int)) = ridAsc n 0 (ns.map D.int) := rfl
  rw [e]
  by_cases h : ns = srtU ns
  · rw [decide_eq_true h]
    exact ridAsc_iff.mpr ⟨srtU_self.mp h, hn⟩
  · rw [decide_eq_false h]
    cases z : ridAsc n 0 (ns.map D.int) with
    | false => rfl
    | true => exact absurd (srtU_self.mpr (ridAsc_iff.mp z).1) h
theorem right_ok {v : D} {wk rd n : Int} {bs : List Int} {S : Sto} {Q : QD} {E : ED} (hv : (toPy v).isSome = true) (hz : ∀ vs, v = .tup vs → ∀ xs, D.tup xs ∈ vs → xs.length ≤ 60) (hb12 : bs.length ≤ 12) (q : Q (.bl (isPlanD bs n v)) S) : F_law_is_right [roadV wk rd bs, .int n, v] S Q E := by
  unfold F_law_is_right
  refine ⟨rfl, ?_⟩
  by_cases ht : ∃ vs, v = .tup vs
  · obtain ⟨vs, rfl⟩ := ht
    have hx := py_all (py_tup hv)
    have hz := hz vs rfl
    have hlm : (bs.map D.int).length = bs.length := List.length_map ..
    refine ifB (fun c => ?_) fun c => ?_
    · have c' : (!decide ((vs.length : Int) = ((bs.map D.int).length : Int))) = true := c
      rw [Bool.not_eq_true', decide_eq_false_iff_not] at c'
      have : isPlanD bs n (.tup vs) = false := by
        show (decide _ && _) = false
        rw [decide_eq_false (by omega)]
        rfl
      rw [this] at q
      exact q
    have c' : (!decide ((vs.length : Int) = ((bs.map D.int).length : Int))) = false := c
    rw [Bool.not_eq_false', decide_eq_true_eq] at c'
    have hl : vs.length = bs.length := by omega
    have e0 : isPlanD bs n (.tup vs) = planB n 0 vs bs := by
      show (decide _ && _) = _
      rw [decide_eq_true hl]
      rfl
    rw [e0] at q
    refine ⟨⟨by omega, by omega⟩, ?_⟩
    rw [Int.toNat_natCast]
    refine for_rng 0 vs.length (fun i ρ S' => S' = S ∧ ∃ (y3 y4 : Option D), ρ = [some (roadV wk rd bs), some (.int n), some (.tup vs), y3, y4] ∧ planB n 0 vs bs = planB n (prevL vs i) (vs.drop i) (bs.drop i) ∧ (i = 0 ∨ ∃ xs, vs[i - 1]? = some (D.tup xs))) ⟨rfl, none, none, rfl, rfl, .inl rfl⟩ ?_ ?_
    · rintro i ρ S' K hi hK ⟨rfl, y3, y4, rfl, e, pv⟩
      have hu : vs[i]? = some vs[i] := List.getElem?_eq_getElem hi
      have hbi : bs[i]? = some (bs[i]'(by omega)) := List.getElem?_eq_getElem (by omega)
      rw [drop_cons hu, drop_cons hbi, planB_step] at e
      generalize vs[i] = u at hu e
      generalize bs[i]'(by omega) = b at hbi e
      have ea : atI vs (0 + (i : Int)) = some u := by rw [Int.zero_add]; exact atI_nat hu
      have eb : atI (bs.map D.int) (0 + (i : Int)) = some (.int b) := by rw [Int.zero_add]; exact atI_nat (by rw [List.getElem?_map, hbi]; rfl)
      have hum := List.mem_of_getElem? hu
      refine onS ea ?_
      by_cases htu : ∃ xs, u = .tup xs
      · obtain ⟨xs, rfl⟩ := htu
        have h60 := hz xs hum
        have hxx := py_all (py_tup (hx _ hum))
        refine onS isA_tupT (onS ea ⟨szd (by show xs.length ≤ 100000; omega), comp_flt (src := []) (fun x => !isNum 0 (n - 1) x) id (fun _ z => z) xs [] (fun x hxm => ⟨_, rfl, fun Q' q' => isnumber_ok (hxx x hxm) q', fun _ Q' q' => q'⟩) ?_⟩)
        rw [List.nil_append, List.map_id]
        refine ⟨szr rfl, rfl, ifB (fun c => ?_) fun c => ?_⟩
        · have nr : isRid n (.tup xs) = false := by
            cases z : isRid n (.tup xs) with
            | false => rfl
            | true =>
              have al := ridAsc_nums (show ridAsc n 0 xs = true from z) (Int.le_refl 0)
              have : xs.filter (fun x => !isNum 0 (n - 1) x) = [] := List.filter_eq_nil_iff.mpr fun x hxm => by rw [al x hxm]; decide
              rw [this] at c
              cases c
          rw [nr] at e
          rw [e] at q
          exact q
        have all : ∀ x ∈ xs, isNum 0 (n - 1) x = true := fun x hxm => by
          have c2 : (xs.filter (fun x => !isNum 0 (n - 1) x)) = [] := by
            cases z : xs.filter (fun x => !isNum 0 (n - 1) x) with
            | nil => rfl
            | cons a l => rw [z] at c; cases c
          have := List.filter_eq_nil_iff.mp c2 x hxm
          cases z : isNum 0 (n - 1) x with
          | true => rfl
          | false => rw [z] at this; exact absurd rfl this
        obtain ⟨ns, rfl, hns⟩ := nums_ints all
        have lns : (ns.map D.int).length = ns.length := List.length_map ..
        rw [isRid_iff hns] at e
        refine onS ea (onS ea (onS (intsOf_map ns) ⟨by omega, ?_⟩))
        have p1 : ∀ k (ms : List Int), pyC S' (.lst k (ms.map D.int)) = some (.list (ms.map .int)) := fun k ms => by
          show (toPyAll (ms.map D.int)).map PyData.list = _
          rw [py_ints]
          rfl
        refine onS (p1 _ _) (onS (p1 _ _) ⟨⟨shp_ints _, shp_ints _⟩, ?_⟩)
        have ee : PyData.eqv (.list (ns.map .int)) (.list ((srtU ns).map .int)) = decide (ns = srtU ns) := eqv_ints ns (srtU ns)
        rw [ee]
        refine ifB (fun c => ?_) fun c => ?_
        · have c' : (!decide (ns = srtU ns)) = true := c
          rw [Bool.not_eq_true'] at c'
          rw [c'] at e
          rw [e] at q
          exact q
        have c' : (!decide (ns = srtU ns)) = false := c
        rw [Bool.not_eq_false'] at c'
        rw [c', Bool.true_and] at e
        refine onS ea (onS eb ?_)
        have fin : ∀ br : Int, br = prevL vs i → (if decide (((ns.map D.int).length : Int) > b + br) = true then Q (.bl false) S' else K [some (roadV wk rd bs), some (.int n), some (.tup vs), some (.int (0 + (i : Int))), y4] S') := fun br hbr => by
          refine ifB (fun c => ?_) fun c => ?_
          · have := of_decide_eq_true c
            rw [decide_eq_false (p := lenT (.tup (ns.map D.int)) ≤ prevL vs i + b) (by show ¬ (((ns.map D.int).length : Int) ≤ prevL vs i + b); omega)] at e
            rw [e] at q
            exact q
          · have := of_decide_eq_false c
            rw [decide_eq_true (p := lenT (.tup (ns.map D.int)) ≤ prevL vs i + b) (by show (((ns.map D.int).length : Int) ≤ prevL vs i + b); omega), Bool.true_and] at e
            exact hK _ _ ⟨rfl, _, _, rfl, by rw [prevL_succ hu]; exact e, .inr ⟨_, hu⟩⟩
        refine ifB (fun c => ?_) fun c => ?_
        · have := of_decide_eq_true c
          rcases pv with rfl | ⟨ys, hy⟩
          · exact absurd this (by decide)
          have ey : atI vs (0 + (i : Int) - 1) = some (.tup ys) := by
            have : (0 + (i : Int) - 1) = ((i - 1 : Nat) : Int) := by omega
            rw [this]
            exact atI_nat hy
          refine onS ey (fin ys.length ?_)
          unfold prevL
          rw [if_neg (by omega), List.getD_eq_getElem?_getD, hy]
          rfl
        · have := of_decide_eq_false c
          exact fin 0 (by unfold prevL; rw [if_pos (by omega)])
      · have hn : ∀ xs, u ≠ .tup xs := fun xs z => htu ⟨xs, z⟩
        have nr : isRid n u = false := by
          cases u with
          | tup xs => exact absurd rfl (hn xs)
          | _ => rfl
        rw [nr] at e
        rw [e] at q
        exact onS (isA_tup (hx _ hum) hn) q
    · rintro ρ S' ⟨rfl, y3, y4, rfl, e, _⟩
      rw [List.drop_length] at e
      rw [e] at q
      exact q
  · have hn : ∀ xs, v ≠ .tup xs := fun xs z => ht ⟨xs, z⟩
    have e : isPlanD bs n v = false := by
      cases v with
      | tup xs => exact absurd rfl (hn xs)
      | _ => rfl
    rw [e] at q
    exact onS (isA_tup hv hn) q
end Pu
namespace Pu
open PySem L2 Rb
theorem odd_mem {S T : Sto} {N : Int} {Q : QD} {E : ED} (h : Dk S N T) (hN : N ≤ 900000) (q : ∀ d S', d ∈ oddL → Dk S' (N + 1) T → Q d S') : F_law_odd [.cell 1] S Q E := by
  unfold F_law_odd
  refine ⟨rfl, ⟨by decide, by decide, by decide⟩, szr rfl, szr rfl, szr rfl, szr rfl, szr rfl, szr rfl, szr rfl, ?_⟩
  refine ⟨szr rfl, szr rfl, szr rfl, szr rfl, szr rfl, szr rfl, szr rfl, szr rfl, szr rfl, szr rfl, ?_⟩
  refine draw_ok h (by omega) (by decide) (by decide) fun r S1 r0 r1 d1 => ?_
  obtain ⟨d, e, hd⟩ := atI_mem (xs := oddL) r0 r1
  exact onS (a := d) e (q d S1 hd d1)
def tupLe (k : Nat) : D → Bool
  | .tup xs => Nat.ble xs.length k
  | _ => true
def smallD (k : Nat) : D → Bool
  | .tup vs => vs.all (tupLe k)
  | _ => true
theorem tupLe_of {k : Nat} {xs : List D} (h : tupLe k (.tup xs) = true) : xs.length ≤ k := Nat.le_of_ble_eq_true h
theorem tupLe_tup {k : Nat} {xs : List D} (h : xs.length ≤ k) : tupLe k (.tup xs) = true := Nat.ble_eq_true_of_le h
theorem smallD_of {k : Nat} {d : D} (h : smallD k d = true) : ∀ vs, d = .tup vs → ∀ xs, D.tup xs ∈ vs → xs.length ≤ k := fun vs e xs hx => by
  subst e
  exact tupLe_of (List.all_eq_true.mp h _ hx)
theorem oddL_small : oddL.all (smallD 60) = true := by rfl
theorem oddL_le : oddL.all (tupLe 60) = true := by rfl
theorem uniq_len : ∀ l : List Int, (uniq l).length ≤ l.length
  | [] => Nat.le_refl _
  | [x] => Nat.le_refl _
  | x :: y :: r => by
    have ih := uniq_len (y :: r)
    show (if x = y then uniq (y :: r) else x :: uniq (y :: r)).length ≤ _
    split
    · exact Nat.le_succ_of_le ih
    · exact Nat.succ_le_succ ih
theorem srtU_len (ns : List Int) : (srtU ns).length ≤ ns.length := by
  unfold srtU
  have := uniq_len (Rb.srt ns)
  rw [(Rb.srt_perm ns).length_eq] at this
  exact this
/-- an item of a plan -/
structure Ri (d : D) : Prop where
  av : Av 3 1000 d
  le : tupLe 60 d = true
structure Ok2 (d : D) : Prop where
  av : Av 5 40000 d
  sm : smallD 60 d = true
theorem Ri.tup {ds : List D} (h : Avs 2 20 ds) (hl : ds.length ≤ 40) : Ri (.tup ds) := ⟨Av.tup h (by omega), tupLe_tup (by omega)⟩
theorem Ri.lst {ds : List D} (h : Avs 2 20 ds) (hl : ds.length ≤ 40) : Ri (.lst true ds) := ⟨Av.lst h (by omega), rfl⟩
theorem Ok2.tup {ds : List D} (h : ∀ d ∈ ds, Ri d) (hl : ds.length ≤ 30) : Ok2 (.tup ds) := ⟨(Av.tup (k := 3) (n := 1000) (m := 40000) (fun d hd => (h d hd).av) (by omega)).mono (by decide) (by decide), List.all_eq_true.mpr fun d hd => (h d hd).le⟩
theorem Ok2.lst {ds : List D} (h : ∀ d ∈ ds, Ri d) (hl : ds.length ≤ 30) : Ok2 (.lst true ds) := ⟨(Av.lst (k := 3) (n := 1000) (m := 40000) (fun d hd => (h d hd).av) (by omega)).mono (by decide) (by decide), rfl⟩
theorem digits : ∀ p : Nat, p < 11 → ((toString (p : Int) : String) : Str).cps.size ≤ 5 ∧ ∀ c ∈ ((toString (p : Int) : String) : Str).cps.toList, c < 16 ^ 8 := by decide +kernel
def strD : D → D
  | .int i => .str (toString i)
  | d => d
theorem nats_av {n : Nat} {r : List Nat} (n2 : n ≤ 10) (h : ∀ p ∈ r, p < n) : Avs 0 0 (natsV r) := fun x hx => by
  obtain ⟨p, hp, rfl⟩ := List.mem_map.mp hx
  have := h p hp
  exact Av.int (Nat.lt_of_lt_of_le (show (p : Int).natAbs < 10 by omega) (by decide))
theorem changed2_ok {S T : Sto} {N : Int} {bs : List Int} {n : Nat} {plan : List (List Nat)} {Q : QD} {E : ED} (h : Dk S N T) (hN : N ≤ 800000) (n1 : 1 ≤ n) (n2 : n ≤ 10) (l1 : 1 ≤ bs.length) (l2 : bs.length ≤ 12) (ok : PlanOk bs n plan)
    (q : ∀ d S', Ok2 d → Dk S' (N + 10) T → Q d S') : F_law_changed_2 [.cell 1, .int (n : Int), planV plan] S Q E := by
  unfold F_law_changed_2
  have pl : (plan.map ridersV).length = plan.length := List.length_map ..
  have plb : plan.length = bs.length := ok.len
  refine ⟨rfl, ?_⟩
  refine draw_ok h (by omega) (by omega) (by omega) fun at1 S1 a0 a1 d1 => ?_
  refine odd_mem d1 (by omega) fun st S2 hst d2 => ?_
  refine draw_ok d2 (by omega) (by omega) (by omega) fun ex S3 x0 x1 d3 => ?_
  obtain ⟨j, rfl⟩ : ∃ j : Nat, at1 = (j : Int) := ⟨at1.toNat, (Int.toNat_of_nonneg a0).symm⟩
  have hj : j < plan.length := by omega
  have hrj : plan[j]? = some plan[j] := List.getElem?_eq_getElem hj
  have hrm : plan[j] ∈ plan := List.getElem_mem hj
  generalize plan[j] = r at hrj hrm
  have rl : r.length ≤ 10 := Nat.le_trans (nodup_le ((ok.asc _ hrm).imp fun h => Nat.ne_of_lt h) (ok.lt _ hrm)) n2
  refine onS (a := .tup (natsV r)) (atI_nat (by rw [List.getElem?_map, hrj]; rfl)) ?_
  have hA : Avs 0 0 (natsV r) := nats_av n2 (ok.lt r hrm)
  have lA : (natsV r).length ≤ 10 := by rw [natsV_len]; exact rl
  have eA : natsV r = (nI r).map D.int := natsV_eq r
  have z40 : ∀ {a b : List D}, a.length ≤ 40 → b.length ≤ 40 → a.length + b.length ≤ sizeLine := fun h1 h2 => szd (by omega)
  have one : ∀ {a : D}, [a].length ≤ 40 := fun {a} => Nat.le_of_ble_eq_true rfl
  have lA40 : (natsV r).length ≤ 40 := by omega
  refine ⟨szr rfl, z40 lA40 one, ?_⟩
  have e1 : natsV r ++ [D.int ex] = (nI r ++ [ex]).map D.int := by rw [eA, List.map_append]; rfl
  have l11 : (nI r ++ [ex]).length ≤ 11 := by rw [List.length_append, nI_len]; simp; omega
  refine onS (a := nI r ++ [ex]) (by rw [e1]; exact intsOf_map _) ⟨by omega, ?_⟩
  generalize hU : (srtU (nI r ++ [ex])).map D.int = us
  have ul : us.length ≤ 11 := by rw [← hU, List.length_map]; exact Nat.le_trans (srtU_len _) l11
  have ua : Avs 0 0 us := by
    rw [← hU]
    refine Avs.ints fun i hi => ?_
    rcases List.mem_append.mp (srtU_mem.mp hi) with z | z
    · obtain ⟨p, hp, rfl⟩ := List.mem_map.mp z
      have := ok.lt r hrm p hp
      exact Nat.lt_of_lt_of_le (show (p : Int).natAbs < 100 by omega) (by decide)
    · rw [List.mem_singleton.mp z]
      exact Nat.lt_of_lt_of_le (show ex.natAbs < 100 by omega) (by decide)
  clear hU e1
  generalize hW : natsV r = W at hA lA lA40
  have hstr : ∀ x ∈ W, ∃ p : Nat, p < 11 ∧ x = .int (p : Int) := fun x hx => by
    rw [← hW] at hx
    obtain ⟨p, hp, rfl⟩ := List.mem_map.mp hx
    exact ⟨p, by have := ok.lt r hrm p hp; omega, rfl⟩
  have cl : ∀ {lo hi : Option Int}, (cutD W lo hi).length ≤ 40 := Nat.le_trans cutD_le lA40
  refine ⟨z40 lA40 cl, szr rfl, z40 lA40 one, szr rfl, ?_⟩
  refine ⟨szr rfl, z40 one lA40, ⟨by omega, by omega⟩, szr rfl, szd (by show W.length ≤ 100000; omega), comp_map (src := []) (g := strD) (fun _ p => p) W [] (fun x hx => ?_) ?_⟩
  · obtain ⟨p, hp, rfl⟩ := hstr x hx
    exact ⟨_, rfl, fun Q' q' => ⟨Nat.lt_of_lt_of_le (show (p : Int).natAbs < 100 by omega) (by decide), q'⟩⟩
  rw [List.nil_append]
  generalize hX : W.map strD = xs
  have xl : xs.length ≤ 40 := by rw [← hX, List.length_map]; exact lA40
  have xa : Avs 2 20 xs := fun x hx => by
    rw [← hX] at hx
    obtain ⟨y, hy, rfl⟩ := List.mem_map.mp hx
    obtain ⟨p, hp, rfl⟩ := hstr y hy
    exact ⟨⟨_, rfl, (Rb.Nice.str (digits p hp).1 (digits p hp).2).mono (by decide) (by decide)⟩, rfl⟩
  clear hX
  refine ⟨szr rfl, szr rfl, szr rfl, szr rfl, z40 lA40 one, szr rfl, z40 lA40 one, szr rfl, szr rfl, ?_⟩
  refine draw_ok d3 (by omega) (by decide) (by decide) fun r4 S4 r40 r41 d4 => ?_
  have sa : Av 2 20 st := oddL_ok st hst
  have WA : Avs 2 20 W := hA.mono (by decide) (by decide)
  have na : Av 2 20 (.int (n : Int)) := (Av.int (Nat.lt_of_lt_of_le (show (n : Int).natAbs < 100 by omega) (by decide))).mono (by decide) (by decide)
  have ma : Av 2 20 (.int (-1)) := (Av.int (by decide)).mono (by decide) (by decide)
  have oa : Av 2 20 .non := Av.non.mono (by decide) (by decide)
  have rga : Avs 2 20 (rangeD 0 ((n : Int)).toNat) := fun x hx => by
    rw [Int.toNat_natCast, rangeD_nats] at hx
    exact ((nats_av (n := n) n2 (fun p hp => List.mem_range.mp hp)).mono (by decide) (by decide)) x hx
  have rgl : (rangeD 0 ((n : Int)).toNat).length ≤ 40 := by rw [rangeD_len]; omega
  have two : ∀ {a b : List D}, a.length ≤ 11 → b.length ≤ 11 → (a ++ b).length ≤ 40 := fun h1 h2 => by rw [List.length_append]; omega
  have l10 : W.length ≤ 11 := by omega
  have o10 : ∀ {a : D}, [a].length ≤ 11 := fun {a} => Nat.le_of_ble_eq_true rfl
  have cl10 : ∀ {lo hi : Option Int}, (cutD W lo hi).length ≤ 11 := Nat.le_trans cutD_le l10
  have sr : Ri st := ⟨sa.mono (by decide) (by decide), List.all_eq_true.mp oddL_le st hst⟩
  have rows : ∀ d ∈ ([st, .tup us, .tup (cutD W (some 1) none), .tup W.reverse, .tup (W ++ cutD W none (some 1)), .lst true W, .tup (W ++ [.int (n : Int)])] ++ [.tup ([.int (-1)] ++ W), .tup us, .tup (rangeD 0 ((n : Int)).toNat), .tup [], .tup xs, .tup [.non]] ++ [.tup (W ++ [.non]), .tup (W ++ [st])] : List D), Ri d := by
    have u : Ri (.tup us) := Ri.tup (ua.mono (by decide) (by decide)) (by omega)
    intro d hd
    simp only [List.cons_append, List.nil_append, List.mem_cons, List.not_mem_nil, or_false] at hd
    rcases hd with rfl | rfl | rfl | rfl | rfl | rfl | rfl | rfl | rfl | rfl | rfl | rfl | rfl | rfl | rfl
    · exact sr
    · exact u
    · exact Ri.tup WA.cut cl
    · exact Ri.tup (fun x hx => WA x (List.mem_reverse.mp hx)) (by rw [List.length_reverse]; exact lA40)
    · exact Ri.tup (WA.app WA.cut) (two l10 cl10)
    · exact Ri.lst WA lA40
    · exact Ri.tup (WA.app (.cons na .nil)) (two l10 o10)
    · exact Ri.tup (.cons ma WA) (by rw [List.length_cons]; omega)
    · exact u
    · exact Ri.tup rga rgl
    · exact Ri.tup .nil (Nat.zero_le _)
    · exact Ri.tup xa xl
    · exact Ri.tup (.cons oa .nil) one
    · exact Ri.tup (WA.app (.cons oa .nil)) (two l10 o10)
    · exact Ri.tup (WA.app (.cons sa .nil)) (two l10 o10)
  obtain ⟨d, e, hd⟩ := atI_mem (xs := [st, .tup us, .tup (cutD W (some 1) none), .tup W.reverse, .tup (W ++ cutD W none (some 1)), .lst true W, .tup (W ++ [.int (n : Int)])] ++ [.tup ([.int (-1)] ++ W), .tup us, .tup (rangeD 0 ((n : Int)).toNat), .tup [], .tup xs, .tup [.non]] ++ [.tup (W ++ [.non]), .tup (W ++ [st])]) r40 (by exact r41)
  refine onS e ?_
  have hd := rows d hd
  clear rows e
  have ep : planV plan = .tup (plan.map ridersV) := rfl
  have PA : ∀ x ∈ plan.map ridersV, Ri x := fun x hx => by
    obtain ⟨t, ht, rfl⟩ := List.mem_map.mp hx
    refine Ri.tup ((nats_av n2 (ok.lt t ht)).mono (by decide) (by decide)) ?_
    rw [natsV_len]
    exact Nat.le_trans (Nat.le_trans (nodup_le ((ok.asc _ ht).imp fun h => Nat.ne_of_lt h) (ok.lt _ ht)) n2) (by decide)
  have PL : (plan.map ridersV).length ≤ 12 := by omega
  rw [ep]
  generalize plan.map ridersV = P at PA PL
  have ca : ∀ {lo hi : Option Int}, ∀ x ∈ cutD P lo hi, Ri x := fun {lo hi} x hx => PA x (List.mem_of_mem_drop (List.mem_of_mem_take hx))
  have c12 : ∀ {lo hi : Option Int}, (cutD P lo hi).length ≤ 12 := Nat.le_trans cutD_le PL
  have app : ∀ {a b : List D}, (∀ x ∈ a, Ri x) → (∀ x ∈ b, Ri x) → ∀ x ∈ a ++ b, Ri x := fun h1 h2 x hx => by
    rcases List.mem_append.mp hx with z | z
    · exact h1 x z
    · exact h2 x z
  have sgl : ∀ {a : D}, Ri a → ∀ x ∈ [a], Ri x := fun h x hx => by rw [List.mem_singleton.mp hx]; exact h
  have em : Ri (.tup []) := Ri.tup .nil (Nat.zero_le _)
  have z1 : ∀ {a b : List D}, a.length ≤ 12 → b.length ≤ 12 → a.length + b.length ≤ sizeLine := fun h1 h2 => szd (by omega)
  have o12 : ∀ {a : D}, [a].length ≤ 12 := fun {a} => Nat.le_of_ble_eq_true rfl
  have z2 : ∀ {a b c : List D}, a.length ≤ 12 → b.length ≤ 12 → c.length ≤ 12 → (a ++ b).length + c.length ≤ sizeLine := fun h1 h2 h3 => szd (by rw [List.length_append]; omega)
  have l3 : ∀ {a b : List D} {c : D}, a.length ≤ 12 → b.length ≤ 12 → (a ++ [c] ++ b).length ≤ 30 := fun h1 h2 => by rw [List.length_append, List.length_append]; simp; omega
  refine ⟨szr rfl, z1 c12 o12, z2 c12 o12 c12, szr rfl, szr rfl, z1 PL o12, szr rfl, szr rfl, z1 c12 o12, z2 c12 o12 c12, szr rfl, ?_⟩
  generalize hV : ([D.tup (cutD P none (some (j : Int)) ++ [d] ++ cutD P (some ((j : Int) + 1)) none), _, _, _, _, _, _] : List D) = V
  have vl : V.length = 7 := by rw [← hV]; rfl
  have va : ∀ x ∈ V, Ok2 x := by
    rw [← hV]
    intro x hx
    simp only [List.mem_cons, List.not_mem_nil, or_false] at hx
    rcases hx with rfl | rfl | rfl | rfl | rfl | rfl | rfl
    · exact Ok2.tup (app (app ca (sgl hd)) ca) (l3 c12 c12)
    · exact Ok2.tup (app PA (sgl em)) (by rw [List.length_append]; simp; omega)
    · exact Ok2.tup ca (Nat.le_trans c12 (by decide))
    · exact Ok2.lst PA (by omega)
    · exact Ok2.tup (fun x hx => PA x (List.mem_reverse.mp hx)) (by rw [List.length_reverse]; omega)
    · exact Ok2.tup (app (app ca (sgl em)) ca) (l3 c12 c12)
    · exact ⟨sa.mono (by decide) (by decide), List.all_eq_true.mp oddL_small _ hst⟩
  clear hV
  have v1l : (cutD V none (some 1)).length = 1 := by
    match V, vl with
    | x :: r, _ => rfl
  refine ⟨⟨by decide, by decide, by rw [v1l]; decide⟩, szd (by rw [rep_len, v1l, vl]; decide), ?_⟩
  refine draw_ok d4 (by omega) (by decide) (by decide) fun r5 S5 r50 r51 d5 => ?_
  obtain ⟨w, e, hw⟩ := atI_mem (xs := (List.replicate (Int.toNat 5) (cutD V none (some 1))).flatten ++ V) r50 (by rw [List.length_append, rep_len, v1l, vl]; exact r51)
  refine onS e (q w S5 ?_ (d5.le (by omega)))
  rcases List.mem_append.mp hw with z | z
  · obtain ⟨l, hl, hx⟩ := List.mem_flatten.mp z
    rw [(List.mem_replicate.mp hl).2] at hx
    exact va w (List.mem_of_mem_drop (List.mem_of_mem_take hx))
  · exact va w z
end Pu
namespace Pu
open PySem L2
def den_bike_ticks : FS := (dRet (dB gSorted (dCons (dBin gAdd (dBin gMul (dLst (dCons (dC (.int 0)) dNil)) (dVar 2)) (dLc (st1 3) dYes (dBin gIx (dVar 0) (dVar 3)) (dItS (dVar 1)))) dNil)))
@[irreducible] def F_bike_ticks : FF := dDef 3 4 den_bike_ticks
def den_leaving_ticks : FS := (dSeq (dAsg (dB gListC (dCons (dVar 0) dNil)) (gN 3))
 (dSeq (dAsg (dB gSorted (dCons (dLc (st1 6) dYes (dTup (dCons (dBin gIx (dVar 0) (dVar 6)) (dCons (dVar 6) dNil))) (dItS (dVar 1))) dNil)) (gN 4))
 (dSeq (dFor (dZip (dCons (dVar 4) (dCons (dVar 2) dNil))) (gTp 2 (gsCons (gTp 2 (gsCons (gN 5) (gsCons (gN 6) gsNil))) (gsCons (gN 7) gsNil)))
 (dAsg (dB gMax (dCons (dVar 5) (dCons (dVar 7) dNil))) (gSetI (dVar 3) (dVar 6))))
 (dRet (dVar 3)))))
@[irreducible] def F_leaving_ticks : FF := dDefC 3 8 den_leaving_ticks
def den_moving_ticks : FS := (dSeq (dAsg (dVar 0) (gTp 3 (gsCons (gN 3) (gsCons (gN 4) (gsCons (gN 5) gsNil)))))
 (dSeq (dAsg (dB gLen (dCons (dLc (st1 7) (dTest (dBin (gIn false) (dVar 2) (dVar 7))) (dVar 7) (dItS (dVar 1))) dNil)) (gN 6))
 (dRet (dBin gAdd (dBin gMul (dVar 4) (dVar 6)) (dBin gMul (dVar 3) (dBin gSub (dB gLen (dCons (dVar 5) dNil)) (dVar 6)))))))
@[irreducible] def F_moving_ticks : FF := dDef 3 8 den_moving_ticks
def den_counts_of : FS := (dSeq (dAsg (dBin gIx (dVar 0) (dC (.int 2))) (gN 1))
 (dRet (dB gTuple (dCons (dLc (st1 2) dYes (dB gSum (dCons (dSl (dVar 1) dNoP (dPart (dBin gAdd (dVar 2) (dC (.int 1))))) dNil)) (dRng1 (dCons (dB gLen (dCons (dVar 1) dNil)) dNil))) dNil))))
@[irreducible] def F_counts_of : FF := dDef 1 3 den_counts_of
def den_ticks_of : FS := (dSeq (dAsg (dVar 0) (gTp 3 (gsCons (gN 3) (gsCons (gN 4) (gsCons (gN 5) gsNil)))))
 (dSeq (dAsg (dLstC (dCons (dVar 1) dNil)) (gN 6))
 (dSeq (dAsg (dTup dNil) (gN 7))
 (dSeq (dFor (dZip (dCons (dVar 2) (dCons (dVar 5) dNil))) (gTp 2 (gsCons (gN 8) (gsCons (gN 9) gsNil)))
 (dSeq (dAsg (dBin gIx (dVar 6) (dUn gNeg (dC (.int 1)))) (gN 10))
 (dSeq (dAsg (dCall 0 F_leaving_ticks (dCons (dVar 10) (dCons (dVar 8) (dCons (dCallW F_bike_ticks (dCons (dVar 10) (dCons (dVar 7) (dCons (dVar 9) dNil)))) dNil)))) (gN 11))
 (dSeq (dDrop (dML gAppend (dVar 6) (dCons (dB gTuple (dCons (dLc (st2 12 13) dYes (dBin gAdd (dVar 13) (dIf (dTest (dBin (gIn false) (dVar 12) (dVar 8))) (dVar 4) (dVar 3))) (dEnL (dCons (dVar 11) dNil))) dNil)) dNil)))
 (dAsg (dVar 8) (gN 7))))))
 (dRet (dB gTuple (dCons (dVar 6) dNil)))))))
@[irreducible] def F_ticks_of : FF := dDefC 3 14 den_ticks_of
def den_room_of : FS := (dRet (dB gSum (dCons (dLc (st1 2) dYes (dB gMinL (dCons (dVar 2) (dCons (dVar 1) dNil))) (dItS (dCallW F_counts_of (dCons (dVar 0) dNil)))) dNil)))
@[irreducible] def F_room_of : FF := dDef 2 3 den_room_of
def den_law_starts : FS := (dSeq (dAsg (dBin gIx (dLst (dCons (dBin gAdd (dC (.int 1)) (dCallW F_law_draw (dCons (dVar 0) (dCons (dVar 1) dNil)))) (dCons (dVar 1) dNil))) (dCallW F_law_draw (dCons (dVar 0) (dCons (dC (.int 2)) dNil)))) (gN 3))
 (dSeq (dAsg (dBin gIx (dLst (dCons (dC (.int 1)) (dCons (dC (.int 9)) (dCons (dBin gAdd (dVar 2) (dC (.int 1))) dNil)))) (dCallW F_law_draw (dCons (dVar 0) (dCons (dC (.int 3)) dNil)))) (gN 4))
 (dRet (dB gTuple (dCons (dLc (st1 5) dYes (dCallW F_law_draw (dCons (dVar 0) (dCons (dVar 4) dNil))) (dRng1 (dCons (dVar 3) dNil))) dNil)))))
@[irreducible] def F_law_starts : FF := dDef 3 6 den_law_starts
def den_finish_of : FS := (dRet (dB gMax (dCons (dBin gIx (dCall 0 F_ticks_of (dCons (dVar 0) (dCons (dVar 1) (dCons (dVar 2) dNil)))) (dUn gNeg (dC (.int 1)))) dNil)))
@[irreducible] def F_finish_of : FF := dDef 3 3 den_finish_of
def den_waits_of : FS := (dSeq (dAsg (dBin gIx (dCall 0 F_ticks_of (dCons (dVar 0) (dCons (dVar 1) (dCons (dVar 2) dNil)))) (dUn gNeg (dC (.int 1)))) (gN 3))
 (dRet (dB gTuple (dCons (dLc (st2 4 5) dYes (dBin gSub (dBin gSub (dBin gIx (dVar 3) (dVar 4)) (dVar 5)) (dCallW F_moving_ticks (dCons (dVar 0) (dCons (dVar 2) (dCons (dVar 4) dNil))))) (dEnT (dCons (dVar 1) dNil))) dNil))))
@[irreducible] def F_waits_of : FF := dDef 3 6 den_waits_of
def den_joined : FS := (dSeq (dFor (dEnT (dCons (dVar 1) dNil)) (gTp 2 (gsCons (gN 2) (gsCons (gN 3) gsNil)))
 (dIfS (dTest (dBin gNe (dSl (dVar 3) dNoP (dPart (dC (.int 2)))) (dSl (dVar 0) dNoP (dPart (dC (.int 2))))))
 dNever
 dSkip))
 (dSeq (dAsg (dVar 0) (gTp 3 (gsCons (gN 4) (gsCons (gN 5) (gsCons (gN 6) gsNil)))))
 (dSeq (dFor (dItS (dVar 1)) (gN 3)
 (dAsg (dBin gAdd (dVar 6) (dBin gIx (dVar 3) (dC (.int 2)))) (gN 6)))
 (dSeq (dIfS (dTest (dBin gGt (dB gLen (dCons (dVar 6) dNil)) (dC (.int 12))))
 dNever
 dSkip)
 (dRet (dTup (dCons (dVar 4) (dCons (dVar 5) (dCons (dVar 6) dNil)))))))))
@[irreducible] def F_joined : FF := dDef 2 7 den_joined
def den_law_sums_right : FS := (dSeq (dAsg (dVar 0) (gTp 3 (gsCons (gN 3) (gsCons (gN 4) (gsCons (gN 5) gsNil)))))
 (dSeq (dPar3 6 7 8 (dCons (dCall 0 F_ticks_of (dCons (dVar 0) (dCons (dVar 1) (dCons (dVar 2) dNil)))) (dCons (dCallW F_waits_of (dCons (dVar 0) (dCons (dVar 1) (dCons (dVar 2) dNil)))) (dCons (dC (.int 0)) dNil))))
 (dSeq (dFor (dRng1 (dCons (dB gLen (dCons (dVar 1) dNil)) dNil)) (gN 9)
 (dSeq (dAsg (dB gLen (dCons (dLc (st1 12) (dTest (dBin (gIn false) (dVar 9) (dVar 12))) (dC (.int 1)) (dItS (dVar 2))) dNil)) (gN 10))
 (dSeq (dAsg (dBin gSub (dBin gAdd (dBin gIx (dVar 1) (dVar 9)) (dBin gMul (dVar 3) (dB gLen (dCons (dVar 5) dNil)))) (dBin gMul (dBin gSub (dVar 3) (dVar 4)) (dVar 10))) (gN 11))
 (dSeq (dIfS (dTest (dBin gNe (dBin gIx (dBin gIx (dVar 6) (dUn gNeg (dC (.int 1)))) (dVar 9)) (dBin gAdd (dVar 11) (dBin gIx (dVar 7) (dVar 9)))))
 (dRet (dC (.bl false)))
 dSkip)
 (dAsg (dBin gAdd (dVar 8) (dVar 10)) (gN 8))))))
 (dSeq (dIfS (dOr (dTest (dBin gGt (dVar 8) (dCallW F_room_of (dCons (dVar 0) (dCons (dB gLen (dCons (dVar 1) dNil)) dNil))))) (dOr (dTest (dBin gLt (dB gMin (dCons (dVar 7) dNil)) (dC (.int 0)))) (dTest (dBin gNe (dCallW F_finish_of (dCons (dVar 0) (dCons (dVar 1) (dCons (dVar 2) dNil)))) (dB gMax (dCons (dBin gIx (dVar 6) (dUn gNeg (dC (.int 1)))) dNil))))))
 (dRet (dC (.bl false)))
 dSkip)
 (dRet (dBin gEq (dLc (st2 12 13) (dTest (dBin gGt (dB gLen (dCons (dVar 12) dNil)) (dVar 13))) (dC (.int 1)) (dZip (dCons (dVar 2) (dCons (dCallW F_counts_of (dCons (dVar 0) dNil)) dNil)))) (dLst dNil)))))))
@[irreducible] def F_law_sums_right : FF := dDef 3 14 den_law_sums_right
def den_law_parts_right : FS := (dSeq (dAsg (dVar 0) (gTp 3 (gsCons (gN 3) (gsCons (gN 4) (gsCons (gN 5) gsNil)))))
 (dSeq (dAsg (dCall 0 F_ticks_of (dCons (dVar 0) (dCons (dVar 1) (dCons (dVar 2) dNil)))) (gN 6))
 (dSeq (dFor (dRng2 (dCons (dC (.int 1)) (dCons (dBin gAdd (dB gLen (dCons (dVar 5) dNil)) (dC (.int 1))) dNil))) (gN 7)
 (dSeq (dAsg (dTup (dCons (dVar 3) (dCons (dVar 4) (dCons (dSl (dVar 5) dNoP (dPart (dVar 7))) dNil)))) (gN 8))
 (dSeq (dIfS (dOr (dNot (dTest (dCallW F_is_road (dCons (dVar 8) dNil)))) (dNot (dTest (dCallW F_is_plan (dCons (dVar 8) (dCons (dB gLen (dCons (dVar 1) dNil)) (dCons (dSl (dVar 2) dNoP (dPart (dVar 7))) dNil)))))))
 (dRet (dC (.bl false)))
 dSkip)
 (dIfS (dTest (dBin gNe (dCall 0 F_ticks_of (dCons (dVar 8) (dCons (dVar 1) (dCons (dSl (dVar 2) dNoP (dPart (dVar 7))) dNil)))) (dSl (dVar 6) dNoP (dPart (dBin gAdd (dVar 7) (dC (.int 1)))))))
 (dRet (dC (.bl false)))
 dSkip))))
 (dRet (dC (.bl true))))))
@[irreducible] def F_law_parts_right : FF := dDef 3 9 den_law_parts_right
def den_law_later_right : FS := (dSeq (dPar 5 6 (dCons (dCall 0 F_ticks_of (dCons (dVar 0) (dCons (dVar 1) (dCons (dVar 2) dNil)))) (dCons (dCallW F_waits_of (dCons (dVar 0) (dCons (dVar 1) (dCons (dVar 2) dNil)))) dNil)))
 (dSeq (dAsg (dCall 0 F_ticks_of (dCons (dVar 0) (dCons (dB gTuple (dCons (dLc (st1 10) dYes (dBin gAdd (dVar 10) (dVar 3)) (dItS (dVar 1))) dNil)) (dCons (dVar 2) dNil)))) (gN 7))
 (dSeq (dIfS (dTest (dBin gNe (dVar 7) (dB gTuple (dCons (dLc (st1 11) dYes (dB gTuple (dCons (dLc (st1 12) dYes (dBin gAdd (dVar 12) (dVar 3)) (dItS (dVar 11))) dNil)) (dItS (dVar 5))) dNil))))
 (dRet (dC (.bl false)))
 dSkip)
 (dSeq (dAsg (dTup (dCons (dBin gMul (dBin gIx (dVar 0) (dC (.int 0))) (dVar 4)) (dCons (dBin gMul (dBin gIx (dVar 0) (dC (.int 1))) (dVar 4)) (dCons (dBin gIx (dVar 0) (dC (.int 2))) dNil)))) (gN 8))
 (dSeq (dIfS (dNot (dTest (dCallW F_is_road (dCons (dVar 8) dNil))))
 (dRet (dBin gGt (dBin gIx (dVar 8) (dC (.int 0))) (dC (.int 1000))))
 dSkip)
 (dSeq (dAsg (dB gTuple (dCons (dLc (st1 10) dYes (dBin gMul (dVar 10) (dVar 4)) (dItS (dVar 1))) dNil)) (gN 9))
 (dSeq (dIfS (dTest (dBin gNe (dCallW F_waits_of (dCons (dVar 8) (dCons (dVar 9) (dCons (dVar 2) dNil)))) (dB gTuple (dCons (dLc (st1 13) dYes (dBin gMul (dVar 13) (dVar 4)) (dItS (dVar 6))) dNil))))
 (dRet (dC (.bl false)))
 dSkip)
 (dRet (dBin gEq (dCallW F_finish_of (dCons (dVar 8) (dCons (dVar 9) (dCons (dVar 2) dNil)))) (dBin gMul (dCallW F_finish_of (dCons (dVar 0) (dCons (dVar 1) (dCons (dVar 2) dNil)))) (dVar 4)))))))))))
@[irreducible] def F_law_later_right : FF := dDef 5 14 den_law_later_right
def den_law_k08 : FS := (dSeq (dAsg (dCallW F_law_deck (dCons (dVar 0) dNil)) (gN 1))
 (dSeq (dFor (dRng1 (dCons (dC (.int 8)) dNil)) (gN 2)
 (dSeq (dPar 3 4 (dCons (dCallW F_law_road (dCons (dVar 1) (dCons (dC (.int 6)) (dCons (dBin gIx (dLst (dCons (dC (.int 12)) (dCons (dC (.int 1)) (dCons (dC (.int 3)) dNil)))) (dBin gMod (dVar 2) (dC (.int 3)))) dNil)))) (dCons (dCallW F_law_starts (dCons (dVar 1) (dCons (dBin gIx (dLst (dCons (dC (.int 10)) (dCons (dC (.int 3)) dNil))) (dBin gMod (dVar 2) (dC (.int 2)))) (dCons (dC (.int 40)) dNil)))) dNil)))
 (dSeq (dAsg (dB gLen (dCons (dVar 4) dNil)) (gN 5))
 (dSeq (dPar 6 7 (dCons (dCall 2 F_law_plan (dCons (dVar 1) (dCons (dVar 3) (dCons (dVar 5) dNil)))) (dCons (dCallW F_law_draw (dCons (dVar 1) (dCons (dBin gPow (dC (.int 10)) (dC (.int 5))) dNil))) dNil)))
 (dSeq (dIfS (dOr (dNot (dTest (dCallW F_law_sums_right (dCons (dVar 3) (dCons (dVar 4) (dCons (dVar 6) dNil)))))) (dNot (dTest (dCallW F_law_parts_right (dCons (dVar 3) (dCons (dVar 4) (dCons (dVar 6) dNil)))))))
 (dRet (dC (.bl false)))
 dSkip)
 (dSeq (dIfS (dNot (dTest (dCallW F_law_later_right (dCons (dVar 3) (dCons (dVar 4) (dCons (dVar 6) (dCons (dVar 7) (dCons (dBin gAdd (dC (.int 2)) (dCallW F_law_draw (dCons (dVar 1) (dCons (dC (.int 4)) dNil)))) dNil))))))))
 (dRet (dC (.bl false)))
 dSkip)
 (dSeq (dAsg (dBin gAdd (dSl (dVar 3) dNoP (dPart (dC (.int 2)))) (dSl (dCallW F_law_road (dCons (dVar 1) (dCons (dC (.int 6)) (dCons (dC (.int 3)) dNil)))) (dPart (dC (.int 2))) dNoP)) (gN 8))
 (dSeq (dPar 9 10 (dCons (dCall 2 F_law_plan (dCons (dVar 1) (dCons (dVar 8) (dCons (dVar 5) dNil)))) (dCons (dCall 0 F_ticks_of (dCons (dVar 3) (dCons (dVar 4) (dCons (dVar 6) dNil)))) dNil)))
 (dSeq (dAsg (dCallR 1 F_joined (dCons (dVar 3) (dCons (dVar 8) dNil))) (gN 11))
 (dSeq (dIfS (dOr (dNot (dTest (dCallW F_is_plan (dCons (dVar 11) (dCons (dVar 5) (dCons (dBin gAdd (dVar 6) (dVar 9)) dNil)))))) (dTest (dBin gNe (dCallW F_waits_of (dCons (dVar 3) (dCons (dVar 4) (dCons (dBin gMul (dTup (dCons (dTup dNil) dNil)) (dB gLen (dCons (dVar 6) dNil))) dNil)))) (dBin gMul (dTup (dCons (dC (.int 0)) dNil)) (dVar 5)))))
 (dRet (dC (.bl false)))
 dSkip)
 (dIfS (dTest (dBin gNe (dCall 0 F_ticks_of (dCons (dVar 11) (dCons (dVar 4) (dCons (dBin gAdd (dVar 6) (dVar 9)) dNil)))) (dBin gAdd (dVar 10) (dSl (dCall 0 F_ticks_of (dCons (dVar 8) (dCons (dBin gIx (dVar 10) (dUn gNeg (dC (.int 1)))) (dCons (dVar 9) dNil)))) (dPart (dC (.int 1))) dNoP))))
 (dRet (dC (.bl false)))
 dSkip)))))))))))
 (dRet (dC (.bl true)))))
@[irreducible] def F_law_k08 : FF := dDef 1 12 den_law_k08
end Pu
namespace Pu
open PySem L2 Rb
def tkD (ticks : List Int) : D := .tup (ticks.map D.int)
theorem atI_tick {ticks : List Int} {p : Nat} (h : p < ticks.length) : atI (ticks.map D.int) (p : Int) = some (.int (tickAt ticks p)) := by
  refine atI_nat ?_
  rw [List.getElem?_map, List.getElem?_eq_getElem h]
  unfold tickAt
  rw [List.getD_eq_getElem?_getD, List.getElem?_eq_getElem h]
  rfl
def tickD (ticks : List Int) : D → D
  | .int p => .int (tickAt ticks p.toNat)
  | d => d
theorem tickD_map (ticks : List Int) (r : List Nat) : (natsV r).map (tickD ticks) = (r.map fun p => tickAt ticks p).map D.int := by
  unfold natsV
  rw [List.map_map, List.map_map]
  rfl
theorem bike_ticks_okW {ticks : List Int} {brought : List Nat} {st : Int} {S : Sto} {Q : QD} {E : ED} (h0 : 0 ≤ st) (h1 : st ≤ 50) (hb : ∀ p ∈ brought, p < ticks.length) (hl : brought.length ≤ 20)
    (q : Q (.lst false ((bikesM ticks brought st.toNat).map D.int)) S) : F_bike_ticks [tkD ticks, ridersV brought, .int st] S Q E := by
  unfold F_bike_ticks
  have nl : (natsV brought).length ≤ 20 := by rw [natsV_len]; exact hl
  refine ⟨rfl, szr rfl, ⟨by omega, by omega, szd (by show 1 * st.toNat ≤ 100000; omega)⟩, szd (by show (natsV brought).length ≤ 100000; omega), comp_map (src := []) (g := tickD ticks) (fun _ p => p) (natsV brought) [] (fun x hx => ?_) ?_⟩
  · obtain ⟨p, hp, rfl⟩ := List.mem_map.mp hx
    exact ⟨_, rfl, fun Q' q' => onS (atI_tick (hb p hp)) q'⟩
  rw [List.nil_append, tickD_map]
  have e1 : (List.replicate st.toNat [D.int 0]).flatten = (List.replicate st.toNat (0 : Int)).map D.int := by
    generalize st.toNat = m
    induction m with
    | zero => rfl
    | succ m ih => rw [List.replicate_succ, List.replicate_succ, List.flatten_cons, ih]; rfl
  rw [e1]
  refine ⟨szd (by rw [List.length_map, List.length_replicate, List.length_map, List.length_map]; omega), .inl ⟨List.replicate st.toNat 0 ++ brought.map (fun p => tickAt ticks p), by rw [List.map_append], q⟩⟩
theorem bike_ticks_ok {ticks : List Int} {brought : List Nat} {st : Int} {S : Sto} {Q : QD} {E : ED} (h0 : 0 ≤ st) (h1 : st ≤ 12) (hb : ∀ p ∈ brought, p < ticks.length) (hl : brought.length ≤ 10)
    (q : Q (.lst false ((bikesM ticks brought st.toNat).map D.int)) S) : F_bike_ticks [tkD ticks, ridersV brought, .int st] S Q E := bike_ticks_okW h0 (by omega) hb (by omega) q
def prD (p : Int × Int) : D := .tup [.int p.1, .int p.2]
def pairD (ticks : List Int) : D → D
  | .int p => .tup [.int (tickAt ticks p.toNat), .int p]
  | d => d
theorem pairD_map (ticks : List Int) (r : List Nat) : (natsV r).map (pairD ticks) = (r.map fun p => (tickAt ticks p, (p : Int))).map prD := by
  unfold natsV
  rw [List.map_map, List.map_map]
  rfl
def zpD (z : (Int × Int) × Int) : D := .tup [prD z.1, .int z.2]
theorem zipD_map : ∀ (q : List (Int × Int)) (b : List Int), zipD (q.map fun p => D.tup [.int p.1, .int p.2]) (b.map D.int) = (q.zip b).map zpD
  | [], _ => rfl
  | _ :: _, [] => rfl
  | x :: q, y :: b => by
    show _ :: zipD (q.map fun p => D.tup [.int p.1, .int p.2]) (b.map D.int) = _ :: (q.zip b).map zpD
    rw [zipD_map q b]
    rfl
theorem ixN_nat {n m : Nat} (h : m < n) : ixN n (m : Int) = some m := by
  unfold ixN
  rw [if_pos (by omega), if_pos (by omega), Int.toNat_natCast]
theorem leaving_okW {ticks : List Int} {riders brought : List Nat} {st : Nat} {S : Sto} {Q : QD} {E : ED} (hs : S = []) (hr : ∀ p ∈ riders, p < ticks.length) (hl : riders.length ≤ 20) (ht : ticks.length ≤ 20) (h2 : riders.length ≤ st + brought.length) (h12 : st ≤ 50) (hb10 : brought.length ≤ 20)
    (q : Q (.lst false ((leaveM ticks riders brought st).map D.int)) []) : F_leaving_ticks [tkD ticks, ridersV riders, .lst false ((bikesM ticks brought st).map D.int)] S Q E := by
  subst hs
  unfold F_leaving_ticks
  have nl : (natsV riders).length ≤ 20 := by rw [natsV_len]; exact hl
  refine ⟨rfl, szd (by show (natsV riders).length ≤ 100000; omega), comp_map (src := []) (g := pairD ticks) (fun _ p => p) (natsV riders) [] (fun x hx => ?_) ?_⟩
  · obtain ⟨p, hp, rfl⟩ := List.mem_map.mp hx
    exact ⟨_, rfl, fun Q' q' => onS (atI_tick (hr p hp)) ⟨szr rfl, q'⟩⟩
  rw [List.nil_append, pairD_map]
  refine .inr ⟨riders.map fun p => (tickAt ticks p, (p : Int)), rfl, ?_⟩
  have e1 : srtP (riders.map fun p => (tickAt ticks p, (p : Int))) = queueM ticks riders := rfl
  rw [e1]
  have ez : zipD ((queueM ticks riders).map fun p => D.tup [.int p.1, .int p.2]) ((bikesM ticks brought st).map D.int) = (pairsM ticks riders brought st).map zpD := zipD_map _ _
  have hS : (ticks.map D.int).length = ticks.length := List.length_map ..
  show dLoop _ _ [] (zipD ((queueM ticks riders).map fun p => D.tup [.int p.1, .int p.2]) ((bikesM ticks brought st).map D.int)) _ _ _ _
  rw [ez]
  refine for_inv (src := []) _ (fun i ρ S' => S' = [.lst ((setF ticks (((pairsM ticks riders brought st).take i).map fun z => (z.1.2.toNat, mx z.1.1 z.2))).map D.int)] ∧ ∃ y4 y5 y6 y7, ρ = [some (tkD ticks), some (ridersV riders), some (.lst false ((bikesM ticks brought st).map D.int)), some (.cell 0), y4, y5, y6, y7]) ⟨rfl, _, _, _, _, rfl⟩ ?_ ?_
  · rintro i x ρ S' K hx hK ⟨rfl, y4, y5, y6, y7, rfl⟩
    rw [List.getElem?_map] at hx
    obtain ⟨z, hz, rfl⟩ := Option.map_eq_some_iff.mp hx
    obtain ⟨p, hp, ep⟩ := pairs_mem (List.mem_of_getElem? hz)
    have hpl := hr p hp
    have e2 : z.1.2 = (p : Int) := by rw [ep]
    refine ⟨rfl, rfl, ?_⟩
    have hsn := setF_snoc ticks (((pairsM ticks riders brought st).take i).map fun z => (z.1.2.toNat, mx z.1.1 z.2)) (z.1.2.toNat, mx z.1.1 z.2)
    have hll : (setF ticks (((pairsM ticks riders brought st).take i).map fun z => (z.1.2.toNat, mx z.1.1 z.2))).length = ticks.length := setF_len _ _
    have hK2 : ∀ ρ', (∃ y4 y5 y6 y7, ρ' = [some (tkD ticks), some (ridersV riders), some (.lst false ((bikesM ticks brought st).map D.int)), some (.cell 0), y4, y5, y6, y7]) → K ρ' [.lst (((setF ticks (((pairsM ticks riders brought st).take i).map fun z => (z.1.2.toNat, mx z.1.1 z.2))).map D.int).set p (.int (mx z.1.1 z.2)))] := fun ρ' he => hK ρ' _ ⟨by
      rw [take_snoc hz, List.map_append]
      rw [show ([z].map fun z : (Int × Int) × Int => (z.1.2.toNat, mx z.1.1 z.2)) = [(z.1.2.toNat, mx z.1.1 z.2)] from rfl, hsn, List.map_set, e2, Int.toNat_natCast], he⟩
    generalize setF ticks (((pairsM ticks riders brought st).take i).map fun z => (z.1.2.toNat, mx z.1.1 z.2)) = L at hK2 hll
    refine onS (o := ixN (L.map D.int).length z.1.2) (a := p) ?_ ?_
    · rw [e2]
      refine ixN_nat ?_
      rw [List.length_map, hll]
      exact hpl
    · exact hK2 _ ⟨_, _, _, _, rfl⟩
  · rintro ρ S' ⟨rfl, y4, y5, y6, y7, rfl⟩
    rw [List.length_map, List.take_length]
    refine ⟨⟨rfl, rfl⟩, onS (a := .lst false ((leaveM ticks riders brought st).map D.int)) ?_ q⟩
    show (if belowAll 0 _ = true then some (D.lst false _) else none) = _
    rw [below_ints]
    rfl
theorem leaving_ok {ticks : List Int} {riders brought : List Nat} {st : Nat} {S : Sto} {Q : QD} {E : ED} (hs : S = []) (hr : ∀ p ∈ riders, p < ticks.length) (hl : riders.length ≤ 10) (ht : ticks.length ≤ 10) (h2 : riders.length ≤ st + brought.length) (h12 : st ≤ 12) (hb10 : brought.length ≤ 10)
    (q : Q (.lst false ((leaveM ticks riders brought st).map D.int)) []) : F_leaving_ticks [tkD ticks, ridersV riders, .lst false ((bikesM ticks brought st).map D.int)] S Q E := leaving_okW hs hr (by omega) (by omega) h2 (by omega) (by omega) q
end Pu
namespace Pu
open PySem L2 Rb
def rowsV (rows : List (List Int)) : List D := rows.map tkD
def stepD (wk rd : Int) (r : List Nat) : D → D
  | .tup [.int p, .int t] => .int (t + if p ∈ nI r then rd else wk)
  | d => d
theorem nI_mem {r : List Nat} {p : Nat} : (p : Int) ∈ nI r ↔ p ∈ r := by
  unfold nI
  constructor
  · intro h
    obtain ⟨q, hq, e⟩ := List.mem_map.mp h
    have : q = p := by omega
    exact this ▸ hq
  · intro h
    exact List.mem_map.mpr ⟨p, h, rfl⟩
theorem step_map {wk rd : Int} {r : List Nat} {l : List Int} : (enumD (l.map D.int)).map (stepD wk rd r) = (l.mapIdx fun p t => t + if p ∈ r then rd else wk).map D.int := by
  unfold enumD
  apply List.ext_getElem?
  intro i
  rw [List.getElem?_map, List.getElem?_mapIdx, List.getElem?_map, List.getElem?_map, List.getElem?_mapIdx]
  cases l[i]? with
  | none => rfl
  | some t =>
    show some (D.int (t + if (i : Int) ∈ nI r then rd else wk)) = some (D.int (t + if i ∈ r then rd else wk))
    by_cases h : i ∈ r
    · rw [if_pos h, if_pos (nI_mem.mpr h)]
    · rw [if_neg h, if_neg (fun z => h (nI_mem.mp z))]
theorem rowsM_succ {wk rd : Int} {bs starts : List Int} {plan : List (List Nat)} {i : Nat} : rowsM wk rd bs starts plan (i + 1) = rowsM wk rd bs starts plan i ++ [tkM wk rd bs starts plan (i + 1)] := by
  unfold rowsM
  rw [List.range_succ, List.map_append]
  rfl
theorem rowsM_last {wk rd : Int} {bs starts : List Int} {plan : List (List Nat)} {i : Nat} : atI (rowsV (rowsM wk rd bs starts plan i)) (-1) = some (tkD (tkM wk rd bs starts plan i)) := by
  have e : rowsV (rowsM wk rd bs starts plan i) = rowsV ((List.range i).map (tkM wk rd bs starts plan)) ++ [tkD (tkM wk rd bs starts plan i)] := by
    unfold rowsM rowsV
    rw [List.range_succ, List.map_append, List.map_append]
    rfl
  rw [e]
  exact atI_last _ _
theorem below_rows {k : Nat} : ∀ rows : List (List Int), belowAll k (rowsV rows) = true
  | [] => rfl
  | r :: rows => by
    show (belowAll k (r.map D.int) && belowAll k (rowsV rows)) = true
    rw [below_ints, below_rows rows]
    rfl
theorem ticks_okW {wk rd : Int} {bs starts : List Int} {n : Nat} {plan : List (List Nat)} {S : Sto} {Q : QD} {E : ED} (hs : S = []) (ok : PlanOk bs n plan) (hn : starts.length = n) (n2 : n ≤ 20) (l2 : bs.length ≤ 12) (hb : ∀ b ∈ bs, 0 ≤ b ∧ b ≤ 50)
    (q : Q (.tup (rowsV (rowsM wk rd bs starts plan bs.length))) []) : F_ticks_of [roadV wk rd bs, tkD starts, planV plan] S Q E := by
  subst hs
  unfold F_ticks_of
  have hl := ok.len
  refine ⟨rfl, rfl, szr rfl, szr rfl, ?_⟩
  show dLoop _ _ [] (zipD (plan.map ridersV) (bs.map D.int)) _ _ _ _
  refine for_inv (src := []) _ (fun i ρ S' => S' = [.lst (rowsV (rowsM wk rd bs starts plan i))] ∧ ∃ y8 y9 y10 y11 y12 y13, ρ = [some (roadV wk rd bs), some (tkD starts), some (planV plan), some (.int wk), some (.int rd), some (.tup (bs.map D.int)), some (.cell 0), some (ridersV (brM plan i)), y8, y9, y10, y11, y12, y13]) ⟨rfl, _, _, _, _, _, _, rfl⟩ ?_ ?_
  · rintro i x ρ S' K hx hK ⟨rfl, y8, y9, y10, y11, y12, y13, rfl⟩
    obtain ⟨u, y, hu, hy, rfl⟩ := zipD_get hx
    rw [List.getElem?_map] at hu hy
    obtain ⟨r, hri, rfl⟩ := Option.map_eq_some_iff.mp hu
    obtain ⟨b, hbi, rfl⟩ := Option.map_eq_some_iff.mp hy
    have ib : i < bs.length := (List.getElem?_eq_some_iff.mp hbi).1
    have hbb := hb b (List.mem_of_getElem? hbi)
    have hrm := List.mem_of_getElem? hri
    have er : plan.getD i [] = r := by rw [List.getD_eq_getElem?_getD, hri]; rfl
    have eb : bs.getD i 0 = b := by rw [List.getD_eq_getElem?_getD, hbi]; rfl
    have brm : ∀ p ∈ brM plan i, p < n := fun p hp => by
      unfold brM at hp
      split at hp
      · cases hp
      · by_cases e : i - 1 < plan.length
        · rw [List.getD_eq_getElem?_getD, List.getElem?_eq_getElem e] at hp
          exact ok.lt _ (List.getElem_mem e) p hp
        · rw [List.getD_eq_getElem?_getD, List.getElem?_eq_none (by omega)] at hp
          cases hp
    have brl : (brM plan i).length ≤ 20 := by
      unfold brM
      split
      · exact Nat.zero_le _
      · by_cases e : i - 1 < plan.length
        · rw [List.getD_eq_getElem?_getD, List.getElem?_eq_getElem e]
          exact Nat.le_trans (nodup_le ((ok.asc _ (List.getElem_mem e)).imp fun h => Nat.ne_of_lt h) (ok.lt _ (List.getElem_mem e))) n2
        · rw [List.getD_eq_getElem?_getD, List.getElem?_eq_none (by omega)]
          exact Nat.zero_le _
    have rl : r.length ≤ 20 := Nat.le_trans (nodup_le ((ok.asc _ hrm).imp fun h => Nat.ne_of_lt h) (ok.lt _ hrm)) n2
    have tl : (tkM wk rd bs starts plan i).length = n := by rw [tkM_len, hn]
    have few : r.length ≤ b.toNat + (brM plan i).length := by
      have := ok.few i
      rw [er, eb] at this
      have e : (brM plan i).length = if i = 0 then 0 else (plan.getD (i - 1) []).length := by
        unfold brM
        split <;> rfl
      rw [e]
      exact this
    have hK2 : ∀ ρ', (∃ y8 y9 y10 y11 y12 y13, ρ' = [some (roadV wk rd bs), some (tkD starts), some (planV plan), some (.int wk), some (.int rd), some (.tup (bs.map D.int)), some (.cell 0), some (ridersV r), y8, y9, y10, y11, y12, y13]) → K ρ' [.lst (rowsV (rowsM wk rd bs starts plan i) ++ [.tup ((rowM (tkM wk rd bs starts plan i) r (brM plan i) b.toNat wk rd).map D.int)])] := fun ρ' he => hK ρ' _ ⟨by
      rw [rowsM_succ]
      have : tkM wk rd bs starts plan (i + 1) = rowM (tkM wk rd bs starts plan i) r (brM plan i) b.toNat wk rd := by
        show rowM _ (plan.getD i []) _ (bs.getD i 0).toNat _ _ = _
        rw [er, eb]
      rw [this]
      unfold rowsV
      rw [List.map_append]
      rfl, by
      have : brM plan (i + 1) = r := by
        unfold brM
        rw [if_neg (Nat.succ_ne_zero i), Nat.add_sub_cancel, er]
      rw [this]
      exact he⟩
    have rll : (rowsV (rowsM wk rd bs starts plan i)).length = i + 1 := by unfold rowsV rowsM; rw [List.length_map, List.length_map, List.length_range]
    have lst := rowsM_last (wk := wk) (rd := rd) (bs := bs) (starts := starts) (plan := plan) (i := i)
    generalize rowsV (rowsM wk rd bs starts plan i) = RR at hK2 rll lst
    generalize tkM wk rd bs starts plan i = tk at hK2 tl lst
    generalize brM plan i = br at hK2 brm brl few
    refine ⟨rfl, onS lst ?_⟩
    refine bike_ticks_okW (by omega) (by omega) (fun p hp => by rw [tl]; exact brm p hp) brl ?_
    have bl : belowAll 0 [tkD tk, ridersV r, .lst false ((bikesM tk br b.toNat).map D.int)] = true := by
      show (belowAll 0 (tk.map D.int) && (belowAll 0 (natsV r) && (belowAll 0 ((bikesM tk br b.toNat).map D.int) && true))) = true
      rw [below_ints, below_nats, below_ints]
      rfl
    refine ⟨⟨bl, rfl⟩, leaving_okW rfl (fun p hp => by rw [tl]; exact ok.lt r hrm p hp) rl (by omega) few (by omega) brl ⟨rfl, ?_⟩⟩
    have ll : ((leaveM tk r br b.toNat).map D.int).length = n := by rw [List.length_map, leaveM_len, tl]
    have el : (enumD ((leaveM tk r br b.toNat).map D.int)).length = n := by unfold enumD; rw [List.length_mapIdx, ll]
    refine ⟨szd (by show (enumD ((leaveM tk r br b.toNat).map D.int)).length ≤ 100000; omega), comp_map (src := []) (g := stepD wk rd r) (fun _ p => p) (enumD ((leaveM tk r br b.toNat).map D.int)) [] (fun x hx => ?_) ?_⟩
    · obtain ⟨j, hj, ej⟩ := List.getElem_of_mem hx
      obtain ⟨y, hy, rfl⟩ := enumD_get (List.getElem?_eq_some_iff.mpr ⟨hj, ej⟩)
      rw [List.getElem?_map] at hy
      obtain ⟨t, ht, rfl⟩ := Option.map_eq_some_iff.mp hy
      refine ⟨_, rfl, fun Q' q' => onS (a := nI r) (by show intsOf (natsV r) = _; rw [natsV_eq]; exact intsOf_map _) ?_⟩
      have q2 : Q' (.int (t + if (j : Int) ∈ nI r then rd else wk)) _ := q'
      refine ifB (fun c => ?_) fun c => ?_
      · have c' : (j : Int) ∈ nI r := of_decide_eq_true c
        rw [if_pos c'] at q2
        exact q2
      · have c' : ¬ (j : Int) ∈ nI r := of_decide_eq_false c
        rw [if_neg c'] at q2
        exact q2
    rw [List.nil_append, step_map]
    have e9 : ((leaveM tk r br b.toNat).mapIdx fun p t => t + if p ∈ r then rd else wk) = rowM tk r br b.toNat wk rd := rfl
    rw [e9]
    refine ⟨Nat.lt_of_le_of_lt (Nat.le_of_eq rll) (Nat.lt_of_lt_of_le (show i + 1 < 100 by omega) (by decide)), ?_⟩
    exact hK2 _ ⟨_, _, _, _, _, _, rfl⟩
  · rintro ρ S' ⟨rfl, y8, y9, y10, y11, y12, y13, rfl⟩
    have zl : (zipD (plan.map ridersV) (bs.map D.int)).length = bs.length := by
      rw [zipD_lenEq (by rw [List.length_map, List.length_map, hl]), List.length_map, hl]
    rw [zl]
    refine ⟨⟨rfl, rfl⟩, onS (a := .tup (rowsV (rowsM wk rd bs starts plan bs.length))) ?_ q⟩
    show (if belowAll 0 _ = true then some (D.tup _) else none) = _
    rw [below_rows]
    rfl
theorem ticks_ok {wk rd : Int} {bs starts : List Int} {n : Nat} {plan : List (List Nat)} {S : Sto} {Q : QD} {E : ED} (hs : S = []) (ok : PlanOk bs n plan) (hn : starts.length = n) (n2 : n ≤ 10) (l2 : bs.length ≤ 12) (hb : ∀ b ∈ bs, 0 ≤ b ∧ b ≤ 12)
    (q : Q (.tup (rowsV (rowsM wk rd bs starts plan bs.length))) []) : F_ticks_of [roadV wk rd bs, tkD starts, planV plan] S Q E := ticks_okW hs ok hn (by omega) l2 (fun b h => ⟨(hb b h).1, by have := (hb b h).2; omega⟩) q
end Pu
namespace Pu
open PySem L2 Rb
def ridesM (plan : List (List Nat)) (p : Nat) : Nat := (plan.filter fun r => decide (p ∈ r)).length
def inR (p : Int) : D → Bool
  | .tup xs => xs.any fun d => match d with | .int i => decide (i = p) | _ => false
  | _ => false
theorem inR_nats {p : Nat} (r : List Nat) : inR (p : Int) (ridersV r) = decide (p ∈ r) := by
  show (natsV r).any _ = _
  unfold natsV
  rw [List.any_map]
  by_cases h : p ∈ r
  · rw [decide_eq_true h]
    exact List.any_eq_true.mpr ⟨p, h, decide_eq_true rfl⟩
  · rw [decide_eq_false h]
    refine List.any_eq_false.mpr fun x hx z => h ?_
    have : (x : Int) = (p : Int) := of_decide_eq_true z
    have : x = p := by omega
    exact this ▸ hx
theorem inR_filter {p : Nat} (plan : List (List Nat)) : ((plan.map ridersV).filter (inR (p : Int))).length = ridesM plan p := by
  unfold ridesM
  rw [List.filter_map, List.length_map]
  congr 2
  funext r
  exact inR_nats r
theorem moving_ok {wk rd : Int} {bs : List Int} {plan : List (List Nat)} {p : Nat} {S : Sto} {Q : QD} {E : ED} (w : 0 ≤ wk ∧ wk ≤ 1000) (rr : 0 ≤ rd ∧ rd ≤ 1000) (l2 : bs.length ≤ 12) (pl : plan.length ≤ 12)
    (q : Q (.int (rd * ridesM plan p + wk * (bs.length - ridesM plan p))) S) : F_moving_ticks [roadV wk rd bs, planV plan, .int (p : Int)] S Q E := by
  unfold F_moving_ticks
  have ml : (plan.map ridersV).length = plan.length := List.length_map ..
  refine ⟨rfl, rfl, szd (by show (plan.map ridersV).length ≤ 100000; omega), comp_flt (src := []) (inR (p : Int)) id (fun _ z => z) (plan.map ridersV) [] (fun x hx => ?_) ?_⟩
  · obtain ⟨r, hr, rfl⟩ := List.mem_map.mp hx
    refine ⟨_, rfl, fun Q' q' => onS (a := nI r) (by show intsOf (natsV r) = _; rw [natsV_eq]; exact intsOf_map _) ?_, fun _ Q' q' => q'⟩
    rw [inR_nats] at q'
    have e : decide ((p : Int) ∈ nI r) = decide (p ∈ r) := by
      by_cases h : p ∈ r
      · rw [decide_eq_true h, decide_eq_true (nI_mem.mpr h)]
      · rw [decide_eq_false h, decide_eq_false (fun z => h (nI_mem.mp z))]
    show Q' (decide ((p : Int) ∈ nI r)) S
    rw [e]
    exact q'
  rw [List.nil_append, List.map_id]
  have hk : ridesM plan p ≤ plan.length := List.length_filter_le ..
  have hbl : (bs.map D.int).length = bs.length := List.length_map ..
  refine ⟨.inl (.inl ⟨by omega, by omega⟩), .inl (.inl ⟨by omega, by omega⟩), ?_⟩
  rw [inR_filter, hbl]
  exact q
theorem below_args {k : Nat} {wk rd : Int} {bs starts : List Int} {plan : List (List Nat)} : belowAll k [roadV wk rd bs, tkD starts, planV plan] = true := by
  show ((true && (true && (belowAll k (bs.map D.int) && true))) && (belowAll k (starts.map D.int) && (belowAll k (plan.map ridersV) && true))) = true
  rw [below_ints, below_ints, below_plan]
  rfl
theorem finish_okW {wk rd : Int} {bs starts : List Int} {plan : List (List Nat)} {S : Sto} {Q : QD} {E : ED} (ok : PlanOk bs starts.length plan) (n1 : 1 ≤ starts.length) (n2 : starts.length ≤ 20) (l2 : bs.length ≤ 12) (hb : ∀ b ∈ bs, 0 ≤ b ∧ b ≤ 50)
    (q : Q (.int (maxL (tkM wk rd bs starts plan bs.length))) S) : F_finish_of [roadV wk rd bs, tkD starts, planV plan] S Q E := by
  unfold F_finish_of
  refine ⟨rfl, ⟨below_args, rfl⟩, ticks_okW rfl ok rfl n2 l2 hb ⟨rfl, ?_⟩⟩
  refine onS (a := tkD (tkM wk rd bs starts plan bs.length)) rowsM_last (onS (intsOf_map _) ⟨fun z => ?_, q⟩)
  have := tkM_len (walk := wk) (ride := rd) (bikes := bs) (starts := starts) (plan := plan) bs.length
  rw [z] at this
  simp at this
  omega
theorem finish_ok {wk rd : Int} {bs starts : List Int} {plan : List (List Nat)} {S : Sto} {Q : QD} {E : ED} (ok : PlanOk bs starts.length plan) (n1 : 1 ≤ starts.length) (n2 : starts.length ≤ 10) (l2 : bs.length ≤ 12) (hb : ∀ b ∈ bs, 0 ≤ b ∧ b ≤ 12)
    (q : Q (.int (maxL (tkM wk rd bs starts plan bs.length))) S) : F_finish_of [roadV wk rd bs, tkD starts, planV plan] S Q E := finish_okW ok n1 (by omega) l2 (fun b h => ⟨(hb b h).1, by have := (hb b h).2; omega⟩) q
def waitD (last : List Int) (mv : Nat → Int) : D → D
  | .tup [.int p, .int s] => .int (tickAt last p.toNat - s - mv p.toNat)
  | d => d
theorem waits_ok {wk rd : Int} {bs starts : List Int} {plan : List (List Nat)} {S : Sto} {Q : QD} {E : ED} (ok : PlanOk bs starts.length plan) (n2 : starts.length ≤ 10) (l2 : bs.length ≤ 12) (hb : ∀ b ∈ bs, 0 ≤ b ∧ b ≤ 12) (w : 0 ≤ wk ∧ wk ≤ 1000) (rr : 0 ≤ rd ∧ rd ≤ 1000)
    (q : Q (.tup ((wtM wk rd bs starts plan bs.length).map D.int)) S) : F_waits_of [roadV wk rd bs, tkD starts, planV plan] S Q E := by
  unfold F_waits_of
  have hl := ok.len
  refine ⟨rfl, ⟨below_args, rfl⟩, ticks_ok rfl ok rfl n2 l2 hb ⟨rfl, ?_⟩⟩
  refine onS (a := tkD (tkM wk rd bs starts plan bs.length)) rowsM_last ?_
  have tl := tkM_len (walk := wk) (ride := rd) (bikes := bs) (starts := starts) (plan := plan) bs.length
  have el : (enumD (starts.map D.int)).length = starts.length := by unfold enumD; rw [List.length_mapIdx, List.length_map]
  refine ⟨szd (by show (enumD (starts.map D.int)).length ≤ 100000; omega), comp_map (src := []) (g := waitD (tkM wk rd bs starts plan bs.length) fun p => rd * ridesM plan p + wk * (bs.length - ridesM plan p)) (fun _ p => p) (enumD (starts.map D.int)) [] (fun x hx => ?_) ?_⟩
  · obtain ⟨j, hj, ej⟩ := List.getElem_of_mem hx
    obtain ⟨y, hy, rfl⟩ := enumD_get (List.getElem?_eq_some_iff.mpr ⟨hj, ej⟩)
    rw [List.getElem?_map] at hy
    obtain ⟨t, ht, rfl⟩ := Option.map_eq_some_iff.mp hy
    exact ⟨_, rfl, fun Q' q' => onS (atI_tick (p := j) (by omega)) (moving_ok w rr l2 (by omega) q')⟩
  rw [List.nil_append]
  have e : (enumD (starts.map D.int)).map (waitD (tkM wk rd bs starts plan bs.length) fun p => rd * ridesM plan p + wk * (bs.length - ridesM plan p)) = (wtM wk rd bs starts plan bs.length).map D.int := by
    apply List.ext_getElem?
    intro i
    by_cases hi : i < starts.length
    · obtain ⟨t, w, s, h1, h2, h3, h4⟩ := ticks_waits (walk := wk) (ride := rd) ok hi bs.length (by omega)
      unfold enumD
      rw [List.getElem?_map, List.getElem?_mapIdx, List.getElem?_map, List.getElem?_map, h3, h2]
      show some (D.int (tickAt (tkM wk rd bs starts plan bs.length) i - s - _)) = some (D.int w)
      have mv := mv_rides (walk := wk) (ride := rd) (plan := plan) (p := i) bs.length (by omega)
      rw [List.take_of_length_le (by omega)] at mv
      unfold tickAt
      rw [List.getD_eq_getElem?_getD, h1]
      congr 2
      rw [← h4, mv]
      rfl
    · rw [List.getElem?_eq_none (by rw [List.length_map, el]; omega), List.getElem?_eq_none (by rw [List.length_map, wtM_len]; omega)]
  rw [e]
  exact q
end Pu
namespace Pu
open PySem L2 Rb
theorem cut_to {xs : List D} {m : Nat} : cutD xs none (some (m : Int)) = xs.take m := by
  unfold cutD
  have h1 : HT.sIx xs.length 0 none = 0 := HT.sIx_none ..
  have h2 : HT.sIx xs.length xs.length (some (m : Int)) = min m xs.length := HT.sIx_nat ..
  rw [h1, h2, List.drop_zero, Nat.sub_zero]
  by_cases h : m ≤ xs.length
  · rw [Nat.min_eq_left h]
  · rw [Nat.min_eq_right (by omega), List.take_length, List.take_of_length_le (by omega)]
def countsM (bs : List Int) : List Int := (List.range bs.length).map fun k => (bs.take (k + 1)).sum
def cntD (bs : List Int) : D → D
  | .int k => .int (bs.take (k + 1).toNat).sum
  | d => d
theorem counts_ok {wk rd : Int} {bs : List Int} {S : Sto} {Q : QD} {E : ED} (l2 : bs.length ≤ 12) (q : Q (.tup ((countsM bs).map D.int)) S) : F_counts_of [roadV wk rd bs] S Q E := by
  unfold F_counts_of
  have hl : (bs.map D.int).length = bs.length := List.length_map ..
  refine ⟨rfl, ⟨by omega, by omega⟩, szd (by rw [rangeD_len]; omega), comp_map (src := []) (g := cntD bs) (fun _ p => p) (rangeD 0 ((bs.map D.int).length : Int).toNat) [] (fun x hx => ?_) ?_⟩
  · obtain ⟨k, hk, ek⟩ := List.getElem_of_mem hx
    obtain ⟨hk2, rfl⟩ := rangeD_get (List.getElem?_eq_some_iff.mpr ⟨hk, ek⟩)
    refine ⟨_, rfl, fun Q' q' => ?_⟩
    have e1 : (0 + (k : Int)) + 1 = ((k + 1 : Nat) : Int) := by omega
    have e2 : cutD (bs.map D.int) none (some (0 + (k : Int) + 1)) = (bs.take (k + 1)).map D.int := by rw [e1, cut_to, List.map_take]
    have q2 : Q' (.int (bs.take (0 + (k : Int) + 1).toNat).sum) S := q'
    rw [e1, Int.toNat_natCast] at q2
    refine onS (a := bs.take (k + 1)) ?_ q2
    show intsOf (cutD (bs.map D.int) none (some (0 + (k : Int) + 1))) = _
    rw [e2]
    exact intsOf_map _
  rw [List.nil_append]
  have e : (rangeD 0 ((bs.map D.int).length : Int).toNat).map (cntD bs) = (countsM bs).map D.int := by
    rw [Int.toNat_natCast, hl]
    unfold rangeD countsM
    rw [List.map_map, List.map_map]
    refine List.map_congr_left fun k _ => ?_
    show D.int (bs.take (0 + (k : Int) + 1).toNat).sum = D.int (bs.take (k + 1)).sum
    have e1 : (0 + (k : Int)) + 1 = ((k + 1 : Nat) : Int) := by omega
    rw [e1, Int.toNat_natCast]
  rw [e]
  exact q
def minD (n : Int) : D → D
  | .int k => .int (if n < k then n else k)
  | d => d
def roomM (bs : List Int) (n : Int) : Int := ((countsM bs).map fun k => if n < k then n else k).sum
theorem room_ok {wk rd n : Int} {bs : List Int} {S : Sto} {Q : QD} {E : ED} (l2 : bs.length ≤ 12) (q : Q (.int (roomM bs n)) S) : F_room_of [roadV wk rd bs, .int n] S Q E := by
  unfold F_room_of
  have hl : ((countsM bs).map D.int).length = bs.length := by unfold countsM; rw [List.length_map, List.length_map, List.length_range]
  refine ⟨rfl, counts_ok l2 ⟨szd (by show ((countsM bs).map D.int).length ≤ 100000; omega), comp_map (src := []) (g := minD n) (fun _ p => p) ((countsM bs).map D.int) [] (fun x hx => ?_) ?_⟩⟩
  · obtain ⟨k, hk, rfl⟩ := List.mem_map.mp hx
    exact ⟨_, rfl, fun Q' q' => q'⟩
  rw [List.nil_append]
  have e : ((countsM bs).map D.int).map (minD n) = ((countsM bs).map fun k => if n < k then n else k).map D.int := by
    rw [List.map_map, List.map_map]
    rfl
  rw [e]
  exact onS (intsOf_map _) q
theorem starts_ok {S T : Sto} {N m h : Int} {Q : QD} {E : ED} (dk : Dk S N T) (hN : N ≤ 800000) (m1 : 1 ≤ m) (m2 : m ≤ 10) (h1 : 0 ≤ h) (h2 : h ≤ 1000)
    (q : ∀ starts S', 1 ≤ starts.length → starts.length ≤ m → (∀ s ∈ starts, 0 ≤ s ∧ s ≤ max 8 h) → Dk S' (N + 20) T → Q (tkD starts) S') : F_law_starts [.cell 1, .int m, .int h] S Q E := by
  unfold F_law_starts
  refine ⟨rfl, draw_ok dk (by omega) (by omega) (by omega) fun r1 S1 r10 r11 d1 => ⟨szr rfl, ?_⟩⟩
  refine draw_ok d1 (by omega) (by decide) (by decide) fun r2 S2 r20 r21 d2 => ?_
  obtain ⟨n, e2, c2⟩ := pick2i (x := 1 + r1) (y := m) r20 r21
  refine onS e2 ⟨szr rfl, ?_⟩
  refine draw_ok d2 (by omega) (by decide) (by decide) fun r3 S3 r30 r31 d3 => ?_
  obtain ⟨w, e3, c3⟩ := pick3i (x := 1) (y := 9) (z := h + 1) r30 r31
  refine onS e3 ⟨⟨by omega, by omega⟩, szd (by rw [rangeD_len]; omega), ?_⟩
  refine comp_rng (fun j acc S' => ∃ ns : List Int, acc = ns.map D.int ∧ ns.length = j ∧ (∀ s ∈ ns, 0 ≤ s ∧ s ≤ max 8 h) ∧ Dk S' (N + 3 + j) T) ⟨[], rfl, rfl, (fun _ z => nomatch z), d3.le (by omega)⟩ ?_ ?_
  · rintro j acc S4 K4 hj hK4 ⟨ns, rfl, nl, nb, d4⟩
    refine draw_ok d4 (by omega) (by omega) (by omega) fun r5 S5 r50 r51 d5 => hK4 _ _ ⟨ns ++ [r5], by rw [List.map_append]; rfl, by rw [List.length_append, nl]; rfl, fun s hs => ?_, d5.le (by omega)⟩
    rcases List.mem_append.mp hs with z | z
    · exact nb s z
    · rw [List.mem_singleton.mp z]
      omega
  · rintro acc S4 ⟨ns, rfl, nl, nb, d4⟩
    exact q ns S4 (by omega) (by omega) nb (d4.le (by omega))
end Pu
namespace Pu
open PySem L2 Rb
/-! ## parts of a road -/
theorem getD_take {α : Type} {l : List α} {i k : Nat} {d : α} (h : i < k) : (l.take k).getD i d = l.getD i d := by
  rw [List.getD_eq_getElem?_getD, List.getD_eq_getElem?_getD, List.getElem?_take_of_lt h]
theorem brM_take {plan : List (List Nat)} {i k : Nat} (h : i ≤ k) : brM (plan.take k) i = brM plan i := by
  unfold brM
  split
  · rfl
  · exact getD_take (by omega)
theorem tkM_take {wk rd : Int} {bs starts : List Int} {plan : List (List Nat)} {k : Nat} : ∀ i, i ≤ k → tkM wk rd (bs.take k) starts (plan.take k) i = tkM wk rd bs starts plan i
  | 0, _ => rfl
  | i + 1, h => by
    show rowM _ _ _ _ _ _ = rowM _ _ _ _ _ _
    rw [tkM_take i (by omega), getD_take (by omega), getD_take (by omega), brM_take (by omega)]
theorem rowsM_take {wk rd : Int} {bs starts : List Int} {plan : List (List Nat)} {k : Nat} (hk : k ≤ bs.length) : rowsM wk rd (bs.take k) starts (plan.take k) (bs.take k).length = (rowsM wk rd bs starts plan bs.length).take (k + 1) := by
  unfold rowsM
  rw [← List.map_take, List.take_range, List.length_take, Nat.min_eq_left hk, Nat.min_eq_left (by omega)]
  refine List.map_congr_left fun i hi => ?_
  exact tkM_take i (by have := List.mem_range.mp hi; omega)
theorem PlanOk.take {bs : List Int} {n k : Nat} {plan : List (List Nat)} (ok : PlanOk bs n plan) (hk : k ≤ bs.length) : PlanOk (bs.take k) n (plan.take k) := by
  refine ⟨by rw [List.length_take, List.length_take, ok.len], fun b h => ok.nn b (List.mem_of_mem_take h), fun r h => ok.asc r (List.mem_of_mem_take h), fun r h => ok.lt r (List.mem_of_mem_take h), fun i => ?_⟩
  by_cases h : i < k
  · rw [getD_take h, getD_take h]
    have := ok.few i
    by_cases z : i = 0
    · rw [if_pos z] at this ⊢
      exact this
    · rw [if_neg z] at this ⊢
      rw [getD_take (by omega)]
      exact this
  · have : (plan.take k).getD i [] = [] := by
      rw [List.getD_eq_getElem?_getD, List.getElem?_eq_none (by rw [List.length_take]; omega)]
      rfl
    rw [this]
    exact Nat.zero_le _
/-! ## no tick is below 0: the bicycles that stand there come first -/
theorem bikes_split {ticks : List Int} {br : List Nat} {st : Nat} (h : ∀ t ∈ ticks, 0 ≤ t) : bikesM ticks br st = List.replicate st 0 ++ srt (br.map fun p => tickAt ticks p) := by
  symm
  unfold bikesM
  refine srt_uniq (List.Perm.append_left _ (srt_perm _)) ?_
  refine List.pairwise_append.mpr ⟨?_, srt_sorted _, fun a ha b hb => ?_⟩
  · exact List.pairwise_replicate.mpr (.inr (Int.le_refl 0))
  · rw [(List.mem_replicate.mp ha).2]
    obtain ⟨p, hp, rfl⟩ := List.mem_map.mp ((srt_perm _).mem_iff.mp hb)
    unfold tickAt
    rw [List.getD_eq_getElem?_getD]
    cases e : ticks[p]? with
    | none => exact Int.le_refl 0
    | some t => exact h t (List.mem_of_getElem? e)
end Pu
namespace Pu
open PySem L2 Rb
/-! ## all ticks moved by one growing map: shifts and multiples -/
structure Grow (f : Int → Int) : Prop where
  lt : ∀ a b, a < b → f a < f b
  nn : ∀ t, 0 ≤ t → 0 ≤ f t
section
variable {f : Int → Int} (G : Grow f)
include G
theorem Grow.le {a b : Int} (h : a ≤ b) : f a ≤ f b := by
  rcases Int.lt_or_eq_of_le h with h | h
  · exact Int.le_of_lt (G.lt a b h)
  · rw [h]; exact Int.le_refl _
theorem Grow.mx {a b : Int} : Rb.mx (f a) (f b) = f (Rb.mx a b) := by
  unfold Rb.mx
  by_cases h : b > a
  · rw [if_pos h, if_pos (G.lt a b h)]
  · rw [if_neg h, if_neg (by have := G.le (a := b) (b := a) (by omega); omega)]
theorem Grow.mx0 {a : Int} (h : 0 ≤ a) : Rb.mx (f a) 0 = f (Rb.mx a 0) := by
  have := G.nn a h
  unfold Rb.mx
  rw [if_neg (by omega), if_neg (by omega)]
end
def upQ (f : Int → Int) (q : Int × Int) : Int × Int := (f q.1, q.2)
def kz (z : (Int × Int) × Int) : Nat × Int := (z.1.2.toNat, mx z.1.1 z.2)
def upZ (f : Int → Int) (y : Nat × Int) : Nat × Int := (y.1, f y.2)
theorem setF_up {f : Int → Int} : ∀ (zs : List (Nat × Int)) (l : List Int), setF (l.map f) (zs.map (upZ f)) = (setF l zs).map f
  | [], l => rfl
  | z :: zs, l => by
    have ih := setF_up (f := f) zs (l.set z.1 z.2)
    rw [List.map_set] at ih
    exact ih
theorem zip_up {f : Int → Int} (G : Grow f) : ∀ (st : Nat) (Q : List (Int × Int)) (s : List Int), (∀ q ∈ Q, 0 ≤ q.1) →
    ((Q.map (upQ f)).zip (List.replicate st 0 ++ s.map f)).map kz = ((Q.zip (List.replicate st 0 ++ s)).map kz).map (upZ f)
  | st, [], s, _ => rfl
  | 0, q :: Q, [], _ => rfl
  | 0, q :: Q, b :: s, h => by
    have ih := zip_up G 0 Q s fun x hx => h x (List.mem_cons_of_mem _ hx)
    show kz (upQ f q, f b) :: ((Q.map (upQ f)).zip (List.replicate 0 0 ++ s.map f)).map kz = upZ f (kz (q, b)) :: ((Q.zip (List.replicate 0 0 ++ s)).map kz).map (upZ f)
    rw [ih]
    congr 1
    show (q.2.toNat, mx (f q.1) (f b)) = (q.2.toNat, f (mx q.1 b))
    rw [G.mx]
  | st + 1, q :: Q, s, h => by
    have ih := zip_up G st Q s fun x hx => h x (List.mem_cons_of_mem _ hx)
    show kz (upQ f q, 0) :: ((Q.map (upQ f)).zip (List.replicate st 0 ++ s.map f)).map kz = upZ f (kz (q, 0)) :: ((Q.zip (List.replicate st 0 ++ s)).map kz).map (upZ f)
    rw [ih]
    congr 1
    show (q.2.toNat, mx (f q.1) 0) = (q.2.toNat, f (mx q.1 0))
    rw [G.mx0 (h q List.mem_cons_self)]
theorem tick_up {f : Int → Int} {ticks : List Int} {p : Nat} (h : p < ticks.length) : tickAt (ticks.map f) p = f (tickAt ticks p) := by
  unfold tickAt
  rw [List.getD_eq_getElem?_getD, List.getD_eq_getElem?_getD, List.getElem?_map, List.getElem?_eq_getElem h]
  rfl
theorem queue_up {f : Int → Int} (G : Grow f) {ticks : List Int} {r : List Nat} (h : ∀ p ∈ r, p < ticks.length) : queueM (ticks.map f) r = (queueM ticks r).map (upQ f) := by
  symm
  refine srtP_uniq ?_ ?_
  · have e : (r.map fun p => (tickAt (ticks.map f) p, (p : Int))) = (r.map fun p => (tickAt ticks p, (p : Int))).map (upQ f) := by
      rw [List.map_map]
      refine List.map_congr_left fun p hp => ?_
      show (tickAt (ticks.map f) p, (p : Int)) = (f (tickAt ticks p), (p : Int))
      rw [tick_up (h p hp)]
    rw [e]
    exact (srtP_perm _).map _
  · refine List.pairwise_map.mpr ((srtP_sorted _).imp fun {a b} hab => ?_)
    rcases hab with z | ⟨z1, z2⟩
    · exact .inl (G.lt _ _ z)
    · exact .inr ⟨by show f a.1 = f b.1; rw [z1], z2⟩
theorem srt_up {f : Int → Int} (G : Grow f) {ticks : List Int} {br : List Nat} (h : ∀ p ∈ br, p < ticks.length) : srt (br.map fun p => tickAt (ticks.map f) p) = (srt (br.map fun p => tickAt ticks p)).map f := by
  symm
  refine srt_uniq ?_ ?_
  · have e : (br.map fun p => tickAt (ticks.map f) p) = (br.map fun p => tickAt ticks p).map f := by
      rw [List.map_map]
      exact List.map_congr_left fun p hp => tick_up (h p hp)
    rw [e]
    exact (srt_perm _).map _
  · exact List.pairwise_map.mpr ((srt_sorted _).imp fun {a b} hab => G.le hab)
theorem leave_up {f : Int → Int} (G : Grow f) {ticks : List Int} {r br : List Nat} {st : Nat} (hr : ∀ p ∈ r, p < ticks.length) (hb : ∀ p ∈ br, p < ticks.length) (h0 : ∀ t ∈ ticks, 0 ≤ t) : leaveM (ticks.map f) r br st = (leaveM ticks r br st).map f := by
  have e1 : leaveM (ticks.map f) r br st = setF (ticks.map f) ((pairsM (ticks.map f) r br st).map kz) := rfl
  have e2 : leaveM ticks r br st = setF ticks ((pairsM ticks r br st).map kz) := rfl
  have h0' : ∀ t ∈ ticks.map f, 0 ≤ t := fun t ht => by
    obtain ⟨s, hs, rfl⟩ := List.mem_map.mp ht
    exact G.nn s (h0 s hs)
  have e3 : (pairsM (ticks.map f) r br st).map kz = ((pairsM ticks r br st).map kz).map (upZ f) := by
    unfold pairsM
    rw [bikes_split h0', bikes_split h0, queue_up G hr, srt_up G hb]
    refine zip_up G st _ _ fun q hq => ?_
    obtain ⟨p, hp, rfl⟩ := List.mem_map.mp ((srtP_perm _).mem_iff.mp hq)
    have hl := hr p hp
    show 0 ≤ tickAt ticks p
    unfold tickAt
    rw [List.getD_eq_getElem?_getD, List.getElem?_eq_getElem hl]
    exact h0 _ (List.getElem_mem hl)
  rw [e1, e2, e3, setF_up]
theorem row_up {f : Int → Int} (G : Grow f) {ticks : List Int} {r br : List Nat} {st : Nat} {w w' d d' : Int} (hw : ∀ t, f t + w' = f (t + w)) (hd : ∀ t, f t + d' = f (t + d)) (hr : ∀ p ∈ r, p < ticks.length) (hb : ∀ p ∈ br, p < ticks.length) (h0 : ∀ t ∈ ticks, 0 ≤ t) :
    rowM (ticks.map f) r br st w' d' = (rowM ticks r br st w d).map f := by
  unfold rowM
  rw [leave_up G hr hb h0]
  apply List.ext_getElem?
  intro p
  rw [List.getElem?_mapIdx, List.getElem?_map, List.getElem?_map, List.getElem?_mapIdx]
  cases (leaveM ticks r br st)[p]? with
  | none => rfl
  | some t =>
    show some (f t + if p ∈ r then d' else w') = some (f (t + if p ∈ r then d else w))
    split
    · rw [hd]
    · rw [hw]
theorem br_lt {bs : List Int} {n : Nat} {plan : List (List Nat)} (ok : PlanOk bs n plan) (i : Nat) : (∀ p ∈ plan.getD i [], p < n) ∧ ∀ p ∈ brM plan i, p < n := by
  have go : ∀ i, ∀ p ∈ plan.getD i [], p < n := fun i p hp => by
    by_cases e : i < plan.length
    · rw [List.getD_eq_getElem?_getD, List.getElem?_eq_getElem e] at hp
      exact ok.lt _ (List.getElem_mem e) p hp
    · rw [List.getD_eq_getElem?_getD, List.getElem?_eq_none (by omega)] at hp
      cases hp
  refine ⟨go i, fun p hp => ?_⟩
  unfold brM at hp
  split at hp
  · cases hp
  · exact go _ p hp
theorem tk_up {f : Int → Int} (G : Grow f) {bs starts : List Int} {plan : List (List Nat)} {w w' d d' : Int} (hw : ∀ t, f t + w' = f (t + w)) (hd : ∀ t, f t + d' = f (t + d)) (ok : PlanOk bs starts.length plan) (h0 : ∀ i, ∀ t ∈ tkM w d bs starts plan i, 0 ≤ t) :
    ∀ i, tkM w' d' bs (starts.map f) plan i = (tkM w d bs starts plan i).map f
  | 0 => rfl
  | i + 1 => by
    show rowM _ _ _ _ _ _ = (rowM _ _ _ _ _ _).map f
    rw [tk_up G hw hd ok h0 i]
    obtain ⟨h1, h2⟩ := br_lt ok i
    have tl := tkM_len (walk := w) (ride := d) (bikes := bs) (starts := starts) (plan := plan) i
    exact row_up G hw hd (fun p hp => by rw [tl]; exact h1 p hp) (fun p hp => by rw [tl]; exact h2 p hp) (h0 i)
theorem grow_add {k : Int} (h : 0 ≤ k) : Grow (fun t => t + k) := ⟨fun a b h => by show a + k < b + k; omega, fun t ht => by show 0 ≤ t + k; omega⟩
theorem grow_mul {k : Int} (h : 1 ≤ k) : Grow (fun t => t * k) := ⟨fun a b hab => Int.mul_lt_mul_of_pos_right hab (by omega), fun t ht => Int.mul_nonneg ht (by omega)⟩
end Pu
namespace Pu
open PySem L2 Rb
/-! ## one road behind the other -/
theorem zip_few {α β : Type} : ∀ (q : List α) (b s s' : List β), q.length ≤ b.length → q.zip (b ++ s) = q.zip (b ++ s')
  | [], _, _, _, _ => rfl
  | x :: q, [], _, _, h => by simp at h
  | x :: q, y :: b, s, s', h => by
    show (x, y) :: q.zip (b ++ s) = (x, y) :: q.zip (b ++ s')
    rw [zip_few q b s s' (by simpa using h)]
theorem row_few {ticks : List Int} {r br br' : List Nat} {st : Nat} {w d : Int} (h0 : ∀ t ∈ ticks, 0 ≤ t) (h : r.length ≤ st) : rowM ticks r br st w d = rowM ticks r br' st w d := by
  have e : pairsM ticks r br st = pairsM ticks r br' st := by
    unfold pairsM
    rw [bikes_split h0, bikes_split h0]
    exact zip_few _ _ _ _ (by rw [queueM_len, List.length_replicate]; exact h)
  unfold rowM leaveM
  rw [e]
theorem getD_right {α : Type} {l m : List α} {i : Nat} {d : α} : (l ++ m).getD (l.length + i) d = m.getD i d := by
  rw [List.getD_eq_getElem?_getD, List.getD_eq_getElem?_getD, List.getElem?_append_right (by omega), Nat.add_sub_cancel_left]
section
variable {wk rd : Int} {bs bs2 starts : List Int} {plan plan2 : List (List Nat)}
theorem tk_left (hl : plan.length = bs.length) {i : Nat} (hi : i ≤ bs.length) : tkM wk rd (bs ++ bs2) starts (plan ++ plan2) i = tkM wk rd bs starts plan i := by
  have := tkM_take (wk := wk) (rd := rd) (bs := bs ++ bs2) (starts := starts) (plan := plan ++ plan2) (k := bs.length) i hi
  rw [List.take_left' rfl, List.take_left' hl] at this
  exact this.symm
theorem tk_right (hl : plan.length = bs.length) (h0 : ∀ t ∈ tkM wk rd bs starts plan bs.length, 0 ≤ t) {n : Nat} (ok2 : PlanOk bs2 n plan2) : ∀ j, tkM wk rd (bs ++ bs2) starts (plan ++ plan2) (bs.length + j) = tkM wk rd bs2 (tkM wk rd bs starts plan bs.length) plan2 j
  | 0 => tk_left hl (Nat.le_refl _)
  | j + 1 => by
    have ih := tk_right hl h0 ok2 j
    show rowM (tkM wk rd (bs ++ bs2) starts (plan ++ plan2) (bs.length + j)) ((plan ++ plan2).getD (bs.length + j) []) (brM (plan ++ plan2) (bs.length + j)) ((bs ++ bs2).getD (bs.length + j) 0).toNat wk rd = rowM (tkM wk rd bs2 (tkM wk rd bs starts plan bs.length) plan2 j) (plan2.getD j []) (brM plan2 j) (bs2.getD j 0).toNat wk rd
    rw [ih, getD_right]
    have e : (plan ++ plan2).getD (bs.length + j) [] = plan2.getD j [] := by rw [← hl]; exact getD_right
    rw [e]
    cases j with
    | zero =>
      refine row_few h0 ?_
      have := ok2.few 0
      rw [if_pos rfl] at this
      exact this
    | succ j =>
      have eb : brM (plan ++ plan2) (bs.length + (j + 1)) = brM plan2 (j + 1) := by
        unfold brM
        rw [if_neg (by omega), if_neg (Nat.succ_ne_zero j)]
        have : bs.length + (j + 1) - 1 = plan.length + j := by omega
        rw [this, getD_right]
        rfl
      rw [eb]
theorem rows_join (hl : plan.length = bs.length) (h0 : ∀ t ∈ tkM wk rd bs starts plan bs.length, 0 ≤ t) {n : Nat} (ok2 : PlanOk bs2 n plan2) :
    rowsM wk rd (bs ++ bs2) starts (plan ++ plan2) (bs ++ bs2).length = rowsM wk rd bs starts plan bs.length ++ (rowsM wk rd bs2 (tkM wk rd bs starts plan bs.length) plan2 bs2.length).drop 1 := by
  unfold rowsM
  have e1 : (bs ++ bs2).length + 1 = (bs.length + 1) + bs2.length := by rw [List.length_append]; omega
  rw [e1, List.range_add, List.map_append]
  congr 1
  · exact List.map_congr_left fun i hi => tk_left hl (by have := List.mem_range.mp hi; omega)
  · rw [List.range_succ_eq_map, List.map_cons, List.drop_succ_cons, List.drop_zero, List.map_map, List.map_map]
    refine List.map_congr_left fun j _ => ?_
    show tkM _ _ _ _ _ (bs.length + 1 + j) = tkM _ _ _ _ _ (j + 1)
    rw [Nat.add_assoc, Nat.add_comm 1 j]
    exact tk_right hl h0 ok2 (j + 1)
theorem PlanOk.join {n : Nat} (ok : PlanOk bs n plan) (ok2 : PlanOk bs2 n plan2) : PlanOk (bs ++ bs2) n (plan ++ plan2) := by
  have hl := ok.len
  refine ⟨by rw [List.length_append, List.length_append, ok.len, ok2.len], fun b h => ?_, fun r h => ?_, fun r h => ?_, fun i => ?_⟩
  · rcases List.mem_append.mp h with h | h
    · exact ok.nn b h
    · exact ok2.nn b h
  · rcases List.mem_append.mp h with h | h
    · exact ok.asc r h
    · exact ok2.asc r h
  · rcases List.mem_append.mp h with h | h
    · exact ok.lt r h
    · exact ok2.lt r h
  · by_cases h : i < bs.length
    · rw [getD_app (by omega), getD_app h]
      have := ok.few i
      by_cases z : i = 0
      · rw [if_pos z] at this ⊢
        exact this
      · rw [if_neg z] at this ⊢
        rw [getD_app (by omega)]
        exact this
    · obtain ⟨j, rfl⟩ : ∃ j, i = bs.length + j := ⟨i - bs.length, by omega⟩
      have e : (plan ++ plan2).getD (bs.length + j) [] = plan2.getD j [] := by rw [← hl]; exact getD_right
      rw [e, getD_right]
      have := ok2.few j
      by_cases z : j = 0
      · rw [if_pos z] at this
        omega
      · rw [if_neg z] at this
        rw [if_neg (by omega)]
        have e2 : bs.length + j - 1 = plan.length + (j - 1) := by omega
        rw [e2, getD_right]
        exact this
end
end Pu
namespace Pu
open PySem L2 Rb
theorem isRid_nats {n : Nat} {r : List Nat} (h1 : r.Pairwise (· < ·)) (h2 : ∀ p ∈ r, p < n) : isRid (n : Int) (ridersV r) = true := by
  show ridAsc (n : Int) 0 (natsV r) = true
  rw [natsV_eq]
  refine ridAsc_iff.mpr ⟨?_, fun i hi => ?_⟩
  · unfold nI
    exact List.pairwise_map.mpr (h1.imp fun h => by omega)
  · obtain ⟨p, hp, rfl⟩ := List.mem_map.mp hi
    have := h2 p hp
    omega
theorem isPlan_ok {bs : List Int} {n : Nat} {plan : List (List Nat)} (ok : PlanOk bs n plan) : isPlanD bs (n : Int) (planV plan) = true := by
  have hl := ok.len
  have go : ∀ (m i : Nat), i + m = plan.length → planB (n : Int) ((brM plan i).length : Int) ((plan.drop i).map ridersV) (bs.drop i) = true := by
    intro m
    induction m with
    | zero =>
      intro i e
      rw [List.drop_eq_nil_of_le (by omega)]
      rfl
    | succ m ih =>
      intro i e
      have hi : i < plan.length := by omega
      have h1 : plan[i]? = some plan[i] := List.getElem?_eq_getElem hi
      have h2 : bs[i]? = some (bs[i]'(by omega)) := List.getElem?_eq_getElem (by omega)
      rw [drop_cons h1, drop_cons h2, List.map_cons, planB_step]
      have hm := List.getElem_mem hi
      have few := ok.few i
      have nn := ok.nn _ (List.getElem_mem (show i < bs.length by omega))
      rw [List.getD_eq_getElem?_getD, List.getD_eq_getElem?_getD (l := bs), h1, h2] at few
      have eb : (brM plan i).length = if i = 0 then 0 else (plan.getD (i - 1) []).length := by
        unfold brM
        split <;> rfl
      rw [← eb] at few
      have few' : plan[i].length ≤ (bs[i]'(by omega)).toNat + (brM plan i).length := few
      have el : lenT (ridersV plan[i]) = (plan[i].length : Int) := by
        show ((natsV plan[i]).length : Int) = _
        rw [natsV_len]
      have ih := ih (i + 1) (by omega)
      have e2 : brM plan (i + 1) = plan[i] := by
        unfold brM
        rw [if_neg (Nat.succ_ne_zero i), Nat.add_sub_cancel, List.getD_eq_getElem?_getD, h1]
        rfl
      rw [e2] at ih
      rw [isRid_nats (ok.asc _ hm) (ok.lt _ hm), el, ih, decide_eq_true (by omega)]
      rfl
  show (decide _ && planB (n : Int) 0 (plan.map ridersV) bs) = true
  have := go plan.length 0 (by omega)
  rw [decide_eq_true (by rw [List.length_map, hl])]
  exact this
end Pu
namespace Pu
open PySem L2 Rb
structure RoadOk (wk rd : Int) (bs : List Int) : Prop where
  rd1 : 1 ≤ rd
  lt : rd < wk
  w2 : wk ≤ 1000
  l1 : 1 ≤ bs.length
  l2 : bs.length ≤ 12
  hb : ∀ b ∈ bs, 0 ≤ b ∧ b ≤ 12
theorem road_good {wk rd : Int} {bs : List Int} (h : RoadOk wk rd bs) : isNon (errD (roadV wk rd bs)) = true := by
  have t : ticksOk (.int wk) (.int rd) = true := by
    show ((decide (1 ≤ wk) && decide (wk ≤ 1000)) && (decide (1 ≤ rd) && decide (rd ≤ wk - 1))) = true
    have := h.rd1
    have := h.lt
    have := h.w2
    rw [decide_eq_true (by omega), decide_eq_true (by omega), decide_eq_true (by omega), decide_eq_true (by omega)]
    rfl
  have b : badIx (bs.map D.int) = none := by
    unfold badIx
    refine List.findIdx?_eq_none_iff.mpr fun x hx => ?_
    obtain ⟨i, hi, rfl⟩ := List.mem_map.mp hx
    have := h.hb i hi
    show (!(decide (0 ≤ i) && decide (i ≤ 12))) = false
    rw [decide_eq_true this.1, decide_eq_true this.2]
    rfl
  have e : bikesE (.tup (bs.map D.int)) = .non := by
    unfold bikesE
    simp only [List.length_map]
    rw [if_pos ⟨h.l1, h.l2⟩, b]
  have e2 : errD (roadV wk rd bs) = if ticksOk (.int wk) (.int rd) = true then bikesE (.tup (bs.map D.int)) else .tup [.non, .str "ticks"] := rfl
  rw [e2, if_pos t, e]
  rfl
theorem py_rows : ∀ rows : List (List Int), toPyAll (rowsV rows) = some (rows.map fun r => .tuple (r.map .int))
  | [] => rfl
  | r :: rows => by
    show ((toPyAll (r.map D.int)).map PyData.tuple).bind (fun p => (toPyAll (rowsV rows)).map (p :: ·)) = _
    rw [py_ints, py_rows rows]
    rfl
theorem lay_ints : ∀ ns : List Int, PyData.canLayAll0 (ns.map .int) = true
  | [] => rfl
  | n :: ns => by
    show (PyData.canLay0 (.int n) && PyData.canLayAll0 (ns.map .int)) = true
    rw [lay_ints ns]
    rfl
theorem lay_rows : ∀ rows : List (List Int), PyData.canLayAll0 (rows.map fun r => .tuple (r.map .int)) = true
  | [] => rfl
  | r :: rows => by
    show (PyData.canLayAll0 (r.map .int) && PyData.canLayAll0 (rows.map fun r => PyData.tuple (r.map .int))) = true
    rw [lay_ints, lay_rows rows]
    rfl
theorem dep_ints : ∀ ns : List Int, PyData.depthAll (ns.map .int) ≤ 0
  | [] => Nat.le_refl _
  | n :: ns => by
    show PyData.depthAll (.int n :: ns.map PyData.int) ≤ 0
    simp only [PyData.depthAll]
    exact Nat.max_le.mpr ⟨Nat.le_refl _, dep_ints ns⟩
theorem dep_rows : ∀ rows : List (List Int), PyData.depthAll (rows.map fun r => .tuple (r.map .int)) ≤ 1
  | [] => Nat.zero_le _
  | r :: rows => by
    show PyData.depthAll (.tuple (r.map .int) :: rows.map fun r => PyData.tuple (r.map .int)) ≤ 1
    simp only [PyData.depthAll, PyData.depth]
    have := dep_ints r
    exact Nat.max_le.mpr ⟨by omega, dep_rows rows⟩
theorem shp_rows (rows : List (List Int)) : SeqAt.shaped (.tuple (rows.map fun r => .tuple (r.map .int))) = true := by
  unfold SeqAt.shaped
  rw [Bool.and_eq_true_iff]
  refine ⟨lay_rows rows, decide_eq_true ?_⟩
  simp only [PyData.depth]
  have := dep_rows rows
  omega
theorem ne_rows {rows rows' : List (List Int)} (e : rows = rows') {S : Sto} {Q : QD} (q : Q (.bl false) S) : gNe (.tup (rowsV rows)) (.tup (rowsV rows')) S Q := by
  subst e
  have h : pyC S (.tup (rowsV rows)) = some (.tuple (rows.map fun r => .tuple (r.map .int))) := by
    show (toPyAll (rowsV rows)).map PyData.tuple = _
    rw [py_rows]
    rfl
  refine onS h (onS h ⟨⟨shp_rows _, shp_rows _⟩, ?_⟩)
  have r : PyData.eqv (.tuple (rows.map fun r => .tuple (r.map .int))) (.tuple (rows.map fun r => .tuple (r.map .int))) = true := SeqAt.eqv_refl _ (lay_rows rows)
  rw [r]
  exact q
end Pu
namespace Pu
open PySem L2 Rb
theorem road_some {wk rd : Int} {bs : List Int} : (toPy (roadV wk rd bs)).isSome = true := by
  have h : toPyAll [D.int wk, .int rd, .tup (bs.map D.int)] = some [.int wk, .int rd, .tuple (bs.map .int)] := by
    show Option.map _ (Option.map _ (Option.bind (Option.map PyData.tuple (toPyAll (bs.map D.int))) _)) = _
    rw [py_ints]
    rfl
  show ((toPyAll [D.int wk, .int rd, .tup (bs.map D.int)]).map PyData.tuple).isSome = true
  rw [h]
  rfl
theorem py_natsV (r : List Nat) : toPyAll (natsV r) = some ((nI r).map .int) := by rw [natsV_eq]; exact py_ints _
theorem plan_all : ∀ plan : List (List Nat), (toPyAll (plan.map ridersV)).isSome = true
  | [] => rfl
  | r :: plan => by
    have ih := plan_all plan
    show (((toPyAll (natsV r)).map PyData.tuple).bind fun p => (toPyAll (plan.map ridersV)).map (p :: ·)).isSome = true
    rw [py_natsV]
    cases h : toPyAll (plan.map ridersV) with
    | none => rw [h] at ih; cases ih
    | some ps => rfl
theorem plan_some (plan : List (List Nat)) : (toPy (planV plan)).isSome = true := by
  have h := plan_all plan
  show ((toPyAll (plan.map ridersV)).map PyData.tuple).isSome = true
  cases e : toPyAll (plan.map ridersV) with
  | none => rw [e] at h; cases h
  | some ps => rfl
theorem RoadOk.take {wk rd : Int} {bs : List Int} (h : RoadOk wk rd bs) {k : Nat} (h1 : 1 ≤ k) : RoadOk wk rd (bs.take k) :=
  ⟨h.rd1, h.lt, h.w2, by rw [List.length_take]; have := h.l1; omega, by rw [List.length_take]; have := h.l2; omega, fun b hb => h.hb b (List.mem_of_mem_take hb)⟩
theorem py_rowsT {S : Sto} (rows : List (List Int)) : pyC S (.tup (rowsV rows)) = some (.tuple (rows.map fun r => .tuple (r.map .int))) := by
  show (toPyAll (rowsV rows)).map PyData.tuple = _
  rw [py_rows]
  rfl
theorem parts_ok {wk rd : Int} {bs starts : List Int} {plan : List (List Nat)} {S : Sto} {Q : QD} {E : ED} (R : RoadOk wk rd bs) (ok : PlanOk bs starts.length plan) (n2 : starts.length ≤ 10) (q : Q (.bl true) S) : F_law_parts_right [roadV wk rd bs, tkD starts, planV plan] S Q E := by
  unfold F_law_parts_right
  have hl := ok.len
  have l2 := R.l2
  have hbl : (bs.map D.int).length = bs.length := List.length_map ..
  refine ⟨rfl, rfl, ⟨below_args, rfl⟩, ticks_ok rfl ok rfl n2 l2 R.hb ⟨rfl, ?_⟩⟩
  refine ⟨⟨by omega, by omega⟩, ?_⟩
  have en : (((bs.map D.int).length : Int) + 1 - 1).toNat = bs.length := by omega
  rw [en]
  refine for_rng 1 bs.length (fun i ρ S' => S' = S ∧ ∃ y7 y8, ρ = [some (roadV wk rd bs), some (tkD starts), some (planV plan), some (.int wk), some (.int rd), some (.tup (bs.map D.int)), some (.tup (rowsV (rowsM wk rd bs starts plan bs.length))), y7, y8]) ⟨rfl, _, _, rfl⟩ ?_ ?_
  · rintro i ρ S' K hi hK ⟨rfl, y7, y8, rfl⟩
    have ei : (1 + (i : Int)) = ((i + 1 : Nat) : Int) := by omega
    rw [ei]
    have c1 : cutD (bs.map D.int) none (some ((i + 1 : Nat) : Int)) = (bs.take (i + 1)).map D.int := by rw [cut_to, List.map_take]
    have c2 : cutD (plan.map ridersV) none (some ((i + 1 : Nat) : Int)) = (plan.take (i + 1)).map ridersV := by rw [cut_to, List.map_take]
    have c3 : cutD (rowsV (rowsM wk rd bs starts plan bs.length)) none (some (((i + 1 : Nat) : Int) + 1)) = rowsV ((rowsM wk rd bs starts plan bs.length).take (i + 2)) := by
      have : ((i + 1 : Nat) : Int) + 1 = ((i + 2 : Nat) : Int) := by omega
      rw [this, cut_to]
      unfold rowsV
      rw [List.map_take]
    have okt := PlanOk.take (k := i + 1) ok (by omega)
    have Rt := R.take (k := i + 1) (by omega)
    have tk : ∀ (Q' : QD) (E' : ED), Q' (.tup (rowsV (rowsM wk rd (bs.take (i + 1)) starts (plan.take (i + 1)) (bs.take (i + 1)).length))) [] → F_ticks_of [roadV wk rd (bs.take (i + 1)), tkD starts, .tup (cutD (plan.map ridersV) none (some ((i + 1 : Nat) : Int)))] [] Q' E' := fun Q' E' q' => by
      rw [c2]
      exact ticks_ok rfl okt rfl n2 Rt.l2 Rt.hb q'
    have bl : belowAll 0 [roadV wk rd (bs.take (i + 1)), tkD starts, .tup (cutD (plan.map ridersV) none (some ((i + 1 : Nat) : Int)))] = true := by
      rw [c2]
      exact below_args
    have pv : (toPy (.tup (cutD (plan.map ridersV) none (some ((i + 1 : Nat) : Int))))).isSome = true := by rw [c2]; exact plan_some _
    have ip : isPlanD (bs.take (i + 1)) ((starts.map D.int).length : Int) (.tup (cutD (plan.map ridersV) none (some ((i + 1 : Nat) : Int)))) = true := by
      rw [c2, List.length_map]
      exact isPlan_ok okt
    refine ⟨szr rfl, ?_⟩
    rw [c1]
    refine isroad_ok (v := roadV wk rd (bs.take (i + 1))) road_some ?_
    rw [road_good Rt]
    refine isplan_ok (bs := bs.take (i + 1)) pv ?_
    rw [ip]
    refine ⟨⟨bl, rfl⟩, tk _ _ ⟨rfl, ?_⟩⟩
    have p1 : pyC S' (.tup (rowsV (rowsM wk rd (bs.take (i + 1)) starts (plan.take (i + 1)) (bs.take (i + 1)).length))) = some (.tuple (((rowsM wk rd bs starts plan bs.length).take (i + 2)).map fun r => .tuple (r.map .int))) := by
      rw [rowsM_take (by omega)]
      exact py_rowsT _
    have p2 : pyC S' (.tup (cutD (rowsV (rowsM wk rd bs starts plan bs.length)) none (some (((i + 1 : Nat) : Int) + 1)))) = some (.tuple (((rowsM wk rd bs starts plan bs.length).take (i + 2)).map fun r => .tuple (r.map .int))) := by
      rw [c3]
      exact py_rowsT _
    refine onS p1 (onS p2 ⟨⟨shp_rows _, shp_rows _⟩, ?_⟩)
    rw [SeqAt.eqv_refl _ (show PyData.canLay0 (.tuple (((rowsM wk rd bs starts plan bs.length).take (i + 2)).map fun r => .tuple (r.map .int))) = true from lay_rows _)]
    exact hK _ _ ⟨rfl, _, _, rfl⟩
  · rintro ρ S' ⟨rfl, y7, y8, rfl⟩
    exact q
end Pu
namespace Pu
open PySem L2 Rb
/-! ## nobody rides, so nobody waits -/
theorem waits_nil {w0 ticks : List Int} {br : List Nat} {st k : Nat} : waitsI w0 ticks [] br st k = w0 := by
  have e : pairsM ticks [] br st = [] := rfl
  unfold waitsI
  rw [e, List.take_nil]
  rfl
theorem wt_none {wk rd : Int} {bs starts : List Int} {m : Nat} : ∀ i, wtM wk rd bs starts (List.replicate m []) i = List.replicate starts.length 0
  | 0 => rfl
  | i + 1 => by
    have e : (List.replicate m ([] : List Nat)).getD i [] = [] := by
      rw [List.getD_eq_getElem?_getD, List.getElem?_replicate]
      split <;> rfl
    show waitsI (wtM wk rd bs starts (List.replicate m []) i) _ ((List.replicate m ([] : List Nat)).getD i []) _ _ _ = _
    rw [e, waits_nil]
    exact wt_none i
theorem plan_none {bs : List Int} {n : Nat} (h : ∀ b ∈ bs, 0 ≤ b) : PlanOk bs n (List.replicate bs.length []) := by
  refine ⟨List.length_replicate, h, fun r hr => ?_, fun r hr p hp => ?_, fun i => ?_⟩
  · rw [(List.mem_replicate.mp hr).2]
    exact .nil
  · rw [(List.mem_replicate.mp hr).2] at hp
    cases hp
  · have e : (List.replicate bs.length ([] : List Nat)).getD i [] = [] := by
      rw [List.getD_eq_getElem?_getD, List.getElem?_replicate]
      split <;> rfl
    rw [e]
    exact Nat.zero_le _
end Pu
namespace Pu
open PySem L2 Rb
/-! ## two roads joined -/
theorem joined_ok {wk rd : Int} {bs bs2 : List Int} {S : Sto} {Q : QD} {E : ED} (hl : bs.length + bs2.length ≤ 12) (q : Q (roadV wk rd (bs ++ bs2)) S) : F_joined [roadV wk rd bs, .tup [roadV wk rd bs2]] S Q E := by
  unfold F_joined
  have sh : SeqAt.shaped (.tuple [.int wk, .int rd]) = true := by
    unfold SeqAt.shaped
    simp [PyData.canLay0, PyData.canLayAll0, PyData.depth, PyData.depthAll]
  have ev : PyData.eqv (.tuple [.int wk, .int rd]) (.tuple [.int wk, .int rd]) = true := SeqAt.eqv_refl _ rfl
  refine ⟨rfl, rfl, ⟨sh, sh⟩, ?_⟩
  have h1 : (bs.map D.int).length = bs.length := List.length_map ..
  have h2 : (bs2.map D.int).length = bs2.length := List.length_map ..
  refine ifF (b := nb true (PyData.eqv (.tuple [.int wk, .int rd]) (.tuple [.int wk, .int rd]))) (by rw [ev]; rfl) ?_
  refine ⟨rfl, szd (by omega), ?_⟩
  refine ifF (b := decide (((bs.map D.int ++ bs2.map D.int).length : Int) > 12)) (decide_eq_false (by rw [List.length_append]; omega)) ⟨szr rfl, ?_⟩
  have e : roadV wk rd (bs ++ bs2) = .tup [.int wk, .int rd, .tup (bs.map D.int ++ bs2.map D.int)] := by rw [← List.map_append]; rfl
  rw [e] at q
  exact q
end Pu
namespace Pu
open PySem L2 Rb
/-! ## the draws, roads and starts of the laws of the rule -/
theorem draw2_ok {S T : Sto} {N lim : Int} {Q : QD} {E : ED} (h : Dk S N T) (hN : N ≤ 1000000) (h1 : 1 ≤ lim) (h2 : lim ≤ 1000000000) (q : ∀ r S', 0 ≤ r → r < lim → Dk S' (N + 1) T → Q (.int r) S') : F_law_draw_2 [.cell 1, .int lim] S Q E := by
  obtain ⟨cs, n, rfl, hl, h0, hn, hn2⟩ := h
  have fin : ∀ r cs', 0 ≤ r → r < lim → cs'.length ≤ 63 → (∀ x ∈ cs', 0 ≤ x) → Q (.int r) (deckS cs' (n + 1) ++ T) := fun r cs' a b c d => q r _ a b ⟨cs', n + 1, rfl, c, d, by omega, by omega⟩
  unfold F_law_draw_2
  refine ⟨rfl, ?_⟩
  refine ⟨fun ρ S' => ∃ (x y : Int), S' = deckS cs (n + 1) ++ T ∧ ρ = [some (.cell 1), some (.int lim), some (.int x), some (.int y)] ∧ 0 ≤ x ∧ (cs ≠ [] → 0 ≤ y ∧ y < cs.length) ∧ (cs = [] → x = 0), ?_, ?_⟩
  · refine ifB (fun hb => ?_) (fun hb => ?_)
    · have hne : 0 < ((cs.map D.int).length : Int) := of_decide_eq_true hb
      have hpos : 0 < (cs.length : Int) := by rw [List.length_map] at hne; exact hne
      refine ⟨hne, ?_⟩
      have hy1 : 0 ≤ (n + 1) % ((cs.map D.int).length : Int) := Int.emod_nonneg _ (by omega)
      have hy2 : (n + 1) % ((cs.map D.int).length : Int) < cs.length := by rw [List.length_map]; exact Int.emod_lt_of_pos _ hpos
      obtain ⟨j, hj⟩ : ∃ j : Nat, (n + 1) % ((cs.map D.int).length : Int) = (j : Int) := ⟨_, (Int.toNat_of_nonneg hy1).symm⟩
      have hj2 : j < cs.length := by omega
      have e : atI (cs.map D.int) ((n + 1) % ((cs.map D.int).length : Int)) = some (.int cs[j]) := by
        rw [hj]
        refine atI_nat (j := j) ?_
        rw [List.getElem?_map, List.getElem?_eq_getElem hj2]
        rfl
      refine onS e ?_
      exact ⟨cs[j], _, rfl, rfl, h0 _ (List.getElem_mem hj2), fun _ => ⟨hy1, hy2⟩, fun z => by rw [z] at hj2; cases hj2⟩
    · have hz : ¬ 0 < ((cs.map D.int).length : Int) := of_decide_eq_false hb
      have : cs = [] := by
        cases cs with
        | nil => rfl
        | cons c cs => exact absurd (by rw [List.length_map, List.length_cons]; omega) hz
      subst this
      exact ⟨0, -1, rfl, rfl, by decide, fun z => absurd rfl z, fun _ => rfl⟩
  · rintro ρ' S' ⟨x, y, rfl, rfl, hx, hy, hx0⟩
    refine ⟨⟨by decide, by decide, by decide⟩, ifB (fun hb => ?_) fun hb => ?_⟩
    · have hbig : (10 : Int) ^ 18 ≤ x := of_decide_eq_true hb
      have hcs : cs ≠ [] := fun z => by rw [hx0 z] at hbig; exact absurd hbig (by decide)
      obtain ⟨y0, y1⟩ := hy hcs
      have wd : CDivW x lim := wide_div (b := 30) (by omega) (by omega) (by decide) (by decide)
      refine ⟨wd, onS (a := y.toNat) ?_ ?_⟩
      · show ixN (cs.map D.int).length y = some y.toNat
        unfold ixN
        rw [if_pos y0, if_pos (by rw [List.length_map]; exact y1)]
      · refine ⟨by omega, ?_⟩
        have e : (cs.map D.int).set y.toNat (D.int (x / lim)) = (cs.set y.toNat (x / lim)).map D.int := List.map_set.symm
        show Q (.int (x % lim)) (Cl.lst ((cs.map D.int).set y.toNat (D.int (x / lim))) :: Cl.lst [.cell 0, .int (n + 1)] :: T)
        rw [e]
        refine fin _ (cs.set y.toNat (x / lim)) (Int.emod_nonneg _ (by omega)) (Int.emod_lt_of_pos _ (by omega)) (by rw [List.length_set]; exact hl) fun z hz => ?_
        rcases List.mem_or_eq_of_mem_set hz with hz | rfl
        · exact h0 z hz
        · exact Int.ediv_nonneg hx (by omega)
    · have hm := Int.emod_nonneg x (show (2147483587 : Int) ≠ 0 by decide)
      have hm2 := Int.emod_lt_of_pos x (show (0 : Int) < 2147483587 by decide)
      refine ⟨by show (0 : Int) < _; decide, .inl (.inl ⟨by decide, by decide⟩), ⟨by decide, by decide, ?_⟩, by show (0 : Int) < _; decide, by omega, ?_⟩
      · show (x % 2147483587 + 7919 * (n + 1) + 1).natAbs < 2 ^ 64
        omega
      · exact fin _ cs (Int.emod_nonneg _ (by omega)) (Int.emod_lt_of_pos _ (by omega)) hl h0

end Pu
namespace Pu
open PySem L2 Rb
theorem cell_at2 {A : Sto} {xs : List D} (h : A.length = 2) : cellOf (A ++ [.lst xs]) (.cell 2) = some (2, xs) := by
  have := cell_last (A := A) (xs := xs)
  rw [h] at this
  exact this
theorem seq_at2 {A : Sto} {xs : List D} (h : A.length = 2) : seqOf (A ++ [.lst xs]) (.cell 2) = some xs := by
  have := seq_last (A := A) (xs := xs)
  rw [h] at this
  exact this
theorem set_at2 {A : Sto} {c d : Cl} (h : A.length = 2) : (A ++ [c]).set 2 d = A ++ [d] := by
  have := set_last (A := A) (c := c) (d := d)
  rw [h] at this
  exact this
/-- the end of a def that has its own cells behind the deck -/
theorem ret2 {S S' T : Sto} {N : Int} {d : D} {Q : QD} (hS : S.length = 2) (dk : Dk S' N T) (hb : ∃ d', frz S' 2 d = some d' ∧ ∀ S2, Dk S2 N [] → S2.length = 2 → Q d' S2) :
    ((S'.take S.length).length = S.length ∧ (S'.take S.length).all (Cl.below S.length) = true) ∧ onSome (frz S' S.length d) fun d' => Q d' (S'.take S.length) := by
  rw [hS]
  obtain ⟨d1, d2, d3, d4⟩ := dk.take2
  obtain ⟨d', e, q⟩ := hb
  exact ⟨⟨d4, d3⟩, onS e (q _ d1 d4)⟩
theorem frz_below {S : Sto} {n : Nat} {d : D} (hc : ∀ k, d ≠ .cell k) (h : below n d = true) : frz S n d = some d := by
  cases d with
  | cell k => exact absurd rfl (hc k)
  | _ => simp only [frz, h, if_true]
theorem below_roadV {k : Nat} {wk rd : Int} {bs : List Int} : below k (roadV wk rd bs) = true := by
  show (true && (true && (belowAll k (bs.map D.int) && true))) = true
  rw [below_ints]
  rfl
theorem road2_ok {S : Sto} {N st mo : Int} {Q : QD} {E : ED} (h : Dk S N []) (hN : N ≤ 800000) (s1 : 1 ≤ st) (s2 : st ≤ 12) (m1 : 0 ≤ mo) (m2 : mo ≤ 12)
    (q : ∀ wk rd (bs : List Int) S', RoadOk wk rd bs → (bs.length : Int) ≤ st → (∀ b ∈ bs, b ≤ max 2 mo) → Dk S' (N + 60) [] → S'.length = 2 → Q (roadV wk rd bs) S') : F_law_road_2 [.cell 1, .int st, .int mo] S Q E := by
  unfold F_law_road_2
  have hS : S.length = 2 := h.len
  refine ⟨rfl, szr rfl, draw2_ok h (by omega) (by decide) (by decide) fun r S1 r0 r1 d1 => ?_⟩
  obtain ⟨l1, e1, c1⟩ := pick3i (x := 4) (y := 20) (z := 999) r0 r1
  refine onS e1 (draw2_ok d1 (by omega) (by omega) (by omega) fun r2 S2 r20 r21 d2 => ?_)
  refine draw2_ok d2 (by omega) (by omega) (by omega) fun r3 S3 r30 r31 d3 => ?_
  refine draw2_ok d3 (by omega) (by decide) (by decide) fun way S4 w0 w1 d4 => ⟨szr rfl, ?_⟩
  rw [show S4.length = 2 from d4.len]
  refine draw2_ok (d4.snoc (.lst [])) (by omega) (by omega) (by omega) fun r5 S5 r50 r51 d5 => ⟨⟨by omega, by omega⟩, ?_⟩
  refine for_rng 0 (1 + r5).toNat (fun i ρ S' => ∃ (bs : List Int) (y7 y8 : Option D), ρ = [some (.cell 1), some (.int st), some (.int mo), some (.int (2 + r2)), some (.int (1 + r3)), some (.int way), some (.cell 2), y7, y8] ∧ bs.length = i ∧ (∀ b ∈ bs, 0 ≤ b ∧ b ≤ 12 ∧ b ≤ max 2 mo) ∧ Dk S' (N + 5 + 4 * i) [.lst (bs.map D.int)]) ?_ ?_ ?_
  · exact ⟨[], none, none, rfl, rfl, (fun _ z => nomatch z), d5.le (by omega)⟩
  · rintro i ρ S' K hi hK ⟨bs, y7, y8, rfl, bl, hb, dk⟩
    refine draw2_ok dk (by omega) (by decide) (by decide) fun a1 S6 a10 a11 d6 => ?_
    refine draw2_ok d6 (by omega) (by decide) (by decide) fun a2 S7 a20 a21 d7 => eq_int ⟨.inl (.inl ⟨by omega, by omega⟩), ?_⟩
    refine draw2_ok d7 (by omega) (by decide) (by decide) fun a3 S8 a30 a31 d8 => ?_
    refine draw2_ok d8 (by omega) (by omega) (by omega) fun a4 S9 a40 a41 d9 => ⟨szr rfl, ?_⟩
    obtain ⟨A, rfl, Al, dA, dset⟩ := d9.cut (T := [])
    have Al : A.length = 2 := Al
    refine onS (cell_at2 Al) ?_
    generalize hf : (if nb false (decide (a2 = 0)) = true then (1 : Int) else 0) = f
    have f01 : f = 0 ∨ f = 1 := by
      rw [← hf]
      split <;> simp
    obtain ⟨v, e5, c5⟩ := pick3i (x := a1 * f) (y := a3) (z := a4) w0 w1
    refine onS e5 (onS (cell_at2 Al) ⟨szd (by show (bs.map D.int).length < 100000; rw [List.length_map]; omega), ?_⟩)
    refine hK _ _ ⟨bs ++ [v], _, _, rfl, by rw [List.length_append, bl]; rfl, fun b hm => ?_, ?_⟩
    · rcases List.mem_append.mp hm with z | z
      · exact hb b z
      · rw [List.mem_singleton.mp z]
        rcases f01 with rfl | rfl <;> omega
    · show Dk ((A ++ [Cl.lst (bs.map D.int)]).set 2 (Cl.lst (bs.map D.int ++ [.int v]))) _ _
      rw [set_at2 Al, List.map_append]
      exact (dset _).le (by omega)
  · rintro ρ S' ⟨bs, y7, y8, rfl, bl, hb, dk⟩
    obtain ⟨A, rfl, Al, dA, dset⟩ := dk.cut (T := [])
    have Al : A.length = 2 := Al
    refine onS (seq_at2 Al) ⟨szr rfl, ?_⟩
    refine ret2 hS dk ⟨_, frz_below (d := roadV (2 + r2) (1 + r3) bs) (fun k z => nomatch z) below_roadV, fun S2 d2 l2 => ?_⟩
    exact q (2 + r2) (1 + r3) bs S2 ⟨by omega, by omega, by omega, by omega, by omega, fun b hm => by have := hb b hm; omega⟩ (by omega) (fun b hm => (hb b hm).2.2) (d2.le (by omega)) l2
/-- a call that sees the deck only -/
theorem Dk.bel {S T : Sto} {N : Int} (h : Dk S N T) : (S.take 2).all (Cl.below 2) = true := h.take2.2.2.1
theorem Dk.app {S T : Sto} {N : Int} (h : Dk S N []) : Dk (S ++ T) N T := by
  obtain ⟨cs, n, rfl, h⟩ := h
  exact ⟨cs, n, by rw [List.append_nil], h⟩
theorem Dk.l2 {S T S1 : Sto} {N : Int} (h : Dk S N T) (l : S1.length = 2) : S1.length = (S.take 2).length := l.trans h.take2.2.2.2.symm
theorem Dk.back {S T S1 : Sto} {N M : Int} (h : Dk S N T) (d : Dk S1 M []) : Dk (S1 ++ S.drop 2) M T := by
  rw [h.take2.2.1]
  exact d.app
theorem starts2_ok {S T : Sto} {N m wk rd : Int} {bs : List Int} {Q : QD} {E : ED} (dk : Dk S N T) (hN : N ≤ 800000) (m1 : 1 ≤ m) (m2 : m ≤ 10) (w1 : 1 ≤ wk) (w2 : wk ≤ 1000)
    (q : ∀ starts S', 1 ≤ starts.length → starts.length ≤ m → Bnd 1000000 starts → Dk S' (N + 20) T → Q (tkD starts) S') : F_law_starts_2 [.cell 1, roadV wk rd bs, .int m] S Q E := by
  unfold F_law_starts_2
  refine ⟨rfl, .inl (.inl ⟨by decide, by decide⟩), ⟨by decide, by decide, by decide⟩, szr rfl, ?_⟩
  refine draw2_ok dk (by omega) (by decide) (by decide) fun r S1 r0 r1 d1 => ?_
  have pk : ∃ gap : Int, atI [D.int 1, .int wk, .int (3 * wk), .int (10 ^ 6 + 1)] r = some (.int gap) ∧ 1 ≤ gap ∧ gap ≤ 1000001 := by
    rcases (by omega : r = 0 ∨ r = 1 ∨ r = 2 ∨ r = 3) with rfl | rfl | rfl | rfl
    · exact ⟨1, rfl, by decide, by decide⟩
    · exact ⟨wk, rfl, by omega, by omega⟩
    · exact ⟨3 * wk, rfl, by omega, by omega⟩
    · exact ⟨10 ^ 6 + 1, rfl, by decide, by decide⟩
  obtain ⟨gap, e1, g1, g2⟩ := pk
  refine onS e1 (draw2_ok d1 (by omega) (by omega) (by omega) fun r2 S2 r20 r21 d2 => ⟨⟨by omega, by omega⟩, szd (by rw [rangeD_len]; omega), ?_⟩)
  refine comp_rng (fun j acc S' => ∃ ns : List Int, acc = ns.map D.int ∧ ns.length = j ∧ (∀ s ∈ ns, 0 ≤ s ∧ s ≤ 1000000) ∧ Dk S' (N + 3 + j) T) ⟨[], rfl, rfl, (fun _ z => nomatch z), d2.le (by omega)⟩ ?_ ?_
  · rintro j acc S4 K4 hj hK4 ⟨ns, rfl, nl, nb, d4⟩
    refine draw2_ok d4 (by omega) (by omega) (by omega) fun r5 S5 r50 r51 d5 => hK4 _ _ ⟨ns ++ [r5], by rw [List.map_append]; rfl, by rw [List.length_append, nl]; rfl, fun s hs => ?_, d5.le (by omega)⟩
    rcases List.mem_append.mp hs with z | z
    · exact nb s z
    · rw [List.mem_singleton.mp z]
      omega
  · rintro acc S4 ⟨ns, rfl, nl, nb, d4⟩
    exact q ns S4 (by omega) (by omega) nb (d4.le (by omega))
end Pu
namespace Pu
open PySem L2 Rb
/-! ## texts of small signs -/
def Fine (x : Str) : Prop := ∀ c ∈ x.cps.toList, c < 1114112
theorem app_cps (a b : Str) : (a ++ b).cps.toList = a.cps.toList ++ b.cps.toList := by
  show (a.cps ++ b.cps).toList = _
  exact Array.toList_append
theorem Fine.app {a b : Str} (ha : Fine a) (hb : Fine b) : Fine (a ++ b) := fun c hc => by
  rw [app_cps] at hc
  rcases List.mem_append.mp hc with h | h
  · exact ha c h
  · exact hb c h
theorem fine_of {x : Str} (h : x.cps.toList.all (fun c => decide (c < 1114112)) = true) : Fine x := fun c hc => of_decide_eq_true (List.all_eq_true.mp h c hc)
theorem fine_join {sep : Str} (hs : Fine sep) : ∀ {ts : List Str}, (∀ t ∈ ts, Fine t) → Fine (Str.join sep ts)
  | [], _ => fine_of rfl
  | [x], h => h x List.mem_cons_self
  | x :: y :: r, h => by
    show Fine (x ++ sep ++ Str.join sep (y :: r))
    exact ((h x List.mem_cons_self).app hs).app (fine_join hs fun t ht => h t (List.mem_cons_of_mem _ ht))
theorem fine_from : ∀ (ts : List Str) (k : Nat) (acc : Str), Fine acc → (∀ t ∈ ts, Fine t) → Fine (textFrom k acc ts)
  | [], _, acc, ha, _ => ha
  | t :: ts, k, acc, ha, h => by
    show Fine (textFrom (k + 1) (acc ++ (if k > 0 then ", " else "" : String) ++ t) ts)
    refine fine_from ts (k + 1) _ ((ha.app ?_).app (h t List.mem_cons_self)) fun x hx => h x (List.mem_cons_of_mem _ hx)
    split
    · exact fine_of (by decide)
    · exact fine_of (by decide)
theorem fine_int (i : Int) : Fine (PyData.int i).shown := fun c hc => by
  by_cases h : c < 1114112
  · exact h
  · exact absurd hc (PyProof.Rows.shown_int_free' ⟨by omega, by omega⟩ i)
theorem fine_list {ts : List Str} (h : ∀ t ∈ ts, Fine t) : Fine (listText ts) := (fine_from ts 0 _ (fine_of (by decide)) h).app (fine_of (by decide))
theorem fine_tuple {ts : List Str} (h : ∀ t ∈ ts, Fine t) : Fine (tupleText ts) := by
  unfold tupleText
  refine ((fine_of (by decide)).app (fine_join (fine_of (by decide)) h)).app ?_
  split
  · exact fine_of (by decide)
  · exact fine_of (by decide)
/-! ## repr and == of values without dicts -/
structure RepP (k n : Nat) (p : PyData) : Prop where
  nice : Rb.Nice k n p
  nod : p.hasDict = false
  lay : PyData.canLay0 p = true
  fine : Fine p.shown
structure Rep (k n : Nat) (d : D) : Prop where
  py : ∃ p, toPy d = some p ∧ RepP k n p
theorem RepP.mono {k n k' n' : Nat} {p : PyData} (h : RepP k n p) (h1 : k ≤ k') (h2 : n ≤ n') : RepP k' n' p := ⟨h.nice.mono h1 h2, h.nod, h.lay, h.fine⟩
theorem Rep.mono {k n k' n' : Nat} {d : D} (h : Rep k n d) (h1 : k ≤ k') (h2 : n ≤ n') : Rep k' n' d := by
  obtain ⟨p, e, hp⟩ := h.py
  exact ⟨p, e, hp.mono h1 h2⟩
theorem Rep.int {i : Int} (h1 : -1000000000000 ≤ i) (h2 : i ≤ 1000000000000) : Rep 0 0 (.int i) := ⟨_, rfl, Rb.Nice.int (Nat.lt_of_lt_of_le (show i.natAbs < 10000000000000 by omega) (by decide)), rfl, rfl, fine_int i⟩
theorem Rep.non : Rep 0 0 .non := ⟨_, rfl, Rb.Nice.none, rfl, rfl, fine_of (by decide)⟩
theorem Rep.bl {b : Bool} : Rep 0 0 (.bl b) := ⟨_, rfl, Rb.Nice.bool, rfl, rfl, by cases b <;> exact fine_of (by decide)⟩
theorem Rep.str {x : Str} {n : Nat} (h : x.cps.size ≤ n) (hx : ∀ c ∈ x.cps.toList, c < 16 ^ 8) (ho : PyData.canLay0 (.str x) = true) (hf : Fine (PyData.str x).shown) : Rep 0 n (.str x) := ⟨_, rfl, Rb.Nice.str h hx, rfl, ho, hf⟩
theorem reps_py {k n : Nat} : ∀ {ds : List D}, (∀ d ∈ ds, Rep k n d) → ∃ ps, toPyAll ds = some ps ∧ ps.length = ds.length ∧ (∀ p ∈ ps, Rb.Nice k n p) ∧ PyData.hasDictAll ps = false ∧ PyData.canLayAll0 ps = true ∧ ∀ t ∈ PyData.shownAll ps, Fine t
  | [], _ => ⟨[], rfl, rfl, (fun _ z => nomatch z), rfl, rfl, fun _ z => nomatch z⟩
  | d :: ds, h => by
    obtain ⟨p, e, hn, hd, hc, hf⟩ := (h d List.mem_cons_self).py
    obtain ⟨ps, e2, hl, hn2, hd2, hc2, hf2⟩ := reps_py (ds := ds) fun x hx => h x (List.mem_cons_of_mem _ hx)
    refine ⟨p :: ps, ?_, congrArg Nat.succ hl, fun q hq => ?_, ?_, ?_, fun t ht => ?_⟩
    · show (toPy d).bind _ = _
      rw [e, e2]
      rfl
    · rcases List.mem_cons.mp hq with rfl | hq
      · exact hn
      · exact hn2 q hq
    · simp only [PyData.hasDictAll, hd, hd2, Bool.or_self]
    · simp only [PyData.canLayAll0, hc, hc2, Bool.and_self]
    · rcases List.mem_cons.mp (show t ∈ p.shown :: PyData.shownAll ps from ht) with rfl | ht
      · exact hf
      · exact hf2 t ht
theorem Rep.tup {k n m : Nat} {ds : List D} (h : ∀ d ∈ ds, Rep k n d) (hm : ds.length * (n + 1) ≤ m) : Rep (k + 1) m (.tup ds) := by
  obtain ⟨ps, e, hl, hn, hd, hc, hf⟩ := reps_py h
  refine ⟨.tuple ps, ?_, Rb.Nice.tup hn (by rw [hl]; exact hm), ?_, ?_, ?_⟩
  · show (toPyAll ds).map PyData.tuple = _
    rw [e]
    rfl
  · simp only [PyData.hasDict, hd]
  · simp only [PyData.canLay0, hc]
  · simp only [PyData.shown]
    exact fine_tuple hf
theorem Rep.lst {k n m : Nat} {b : Bool} {ds : List D} (h : ∀ d ∈ ds, Rep k n d) (hm : ds.length * (n + 1) ≤ m) : Rep (k + 1) m (.lst b ds) := by
  obtain ⟨ps, e, hl, hn, hd, hc, hf⟩ := reps_py h
  refine ⟨.list ps, ?_, Rb.Nice.lst hn (by rw [hl]; exact hm), ?_, ?_, ?_⟩
  · show (toPyAll ds).map PyData.list = _
    rw [e]
    rfl
  · simp only [PyData.hasDict, hd]
  · simp only [PyData.canLay0, hc]
  · simp only [PyData.shown]
    exact fine_list hf
theorem Rep.ints {ns : List Int} {m : Nat} (h : ∀ i ∈ ns, -1000000000000 ≤ i ∧ i ≤ 1000000000000) (hm : ns.length ≤ m) : Rep 1 m (.tup (ns.map D.int)) :=
  Rep.tup (k := 0) (n := 0) (fun d hd => by
    obtain ⟨i, hi, rfl⟩ := List.mem_map.mp hd
    exact Rep.int (h i hi).1 (h i hi).2) (by rw [List.length_map]; omega)
theorem Rep.road {wk rd : Int} {bs : List Int} (R : RoadOk wk rd bs) : Rep 2 39 (roadV wk rd bs) := by
  have h1 := R.rd1
  have h2 := R.lt
  have h3 := R.w2
  refine Rep.tup (k := 1) (n := 12) (fun d hd => ?_) (Nat.le_of_ble_eq_true rfl)
  simp only [List.mem_cons, List.not_mem_nil, or_false] at hd
  rcases hd with rfl | rfl | rfl
  · exact (Rep.int (by omega) (by omega)).mono (by decide) (by decide)
  · exact (Rep.int (by omega) (by omega)).mono (by decide) (by decide)
  · exact Rep.ints (fun i hi => by have := R.hb i hi; omega) R.l2
theorem Rep.starts {starts : List Int} (n2 : starts.length ≤ 10) (hb : Bnd 1000000 starts) : Rep 1 10 (tkD starts) := Rep.ints (fun i hi => by have := hb i hi; omega) n2
theorem Rep.two {a b : D} {k n m : Nat} {f : Bool} (ha : Rep k n a) (hb : Rep k n b) (hm : 2 * (n + 1) ≤ m) : Rep (k + 1) m (.lst f [a, b]) :=
  Rep.lst (fun d hd => by
    simp only [List.mem_cons, List.not_mem_nil, or_false] at hd
    rcases hd with rfl | rfl
    · exact ha
    · exact hb) hm
theorem Rep.plan {plan : List (List Nat)} {n : Nat} (hl : plan.length ≤ 12) (hr : ∀ r ∈ plan, r.length ≤ 10 ∧ ∀ p ∈ r, p < n) (hn : n ≤ 1000) : Rep 2 132 (planV plan) :=
  Rep.tup (k := 1) (n := 10) (fun d hd => by
    obtain ⟨r, hr2, rfl⟩ := List.mem_map.mp hd
    obtain ⟨h1, h2⟩ := hr r hr2
    show Rep 1 10 (.tup (natsV r))
    rw [natsV_eq]
    exact Rep.ints (fun i hi => by
      obtain ⟨p, hp, rfl⟩ := List.mem_map.mp hi
      have := h2 p hp
      omega) (by rw [nI_len]; exact h1)) (by
    rw [List.length_map]
    exact Nat.le_trans (Nat.mul_le_mul_right _ hl) (Nat.le_refl _))
def shw (d : D) : Str := match toPy d with
  | some p => p.shown
  | none => ""
theorem repr_ok {d : D} {S : Sto} {Q : QD} {k n : Nat} (h : Rep k n d) (q : Q (.str (shw d)) S) (hk : k ≤ 20 := by decide) (hn : n ≤ 100000 := by decide) : iRepr [d] S Q := by
  refine iRepr_of ?_
  obtain ⟨p, e, hp⟩ := (h.mono hk hn).py
  refine onS e ⟨⟨hp.nice, .inl hp.nod⟩, ?_⟩
  unfold shw at q
  rw [e] at q
  exact q
theorem eqB_ok {neg : Bool} {x y : D} {S : Sto} {Q : QD} {p q : PyData} (h1 : pyC S x = some p) (h2 : pyC S y = some q) (s1 : SeqAt.shaped p = true) (s2 : SeqAt.shaped q = true) (r : Q (.bl (nb neg (PyData.eqv p q))) S) : iEqB neg x y S Q := by
  refine iEqB_of ?_
  unfold gEqB
  split
  · cases h1
    cases h2
    rename_i i j
    have e : PyData.eqv (.int i) (.int j) = decide (i = j) := by simp only [PyData.eqv]; by_cases h : i = j <;> simp [h]
    rw [e] at r
    exact r
  · cases h1
    cases h2
    rename_i i j
    have e : PyData.eqv (.str i) (.str j) = decide (i = j) := by simp only [PyData.eqv]; by_cases h : i = j <;> simp [h]
    rw [e] at r
    exact r
  · exact onS h1 (onS h2 ⟨⟨s1, s2⟩, r⟩)
theorem pyC_of {S : Sto} {d : D} {p : PyData} (h : toPy d = some p) : pyC S d = some p := by
  cases d with
  | cell n => cases h
  | _ => exact h
/-- what == can be asked of -/
structure Shp (k : Nat) (d : D) : Prop where
  py : ∃ p, toPy d = some p ∧ PyData.canLay0 p = true ∧ p.depth ≤ k
theorem Rep.shp {k n : Nat} {d : D} (h : Rep k n d) : Shp k d := by
  obtain ⟨p, e, hp⟩ := h.py
  exact ⟨p, e, hp.lay, hp.nice.dep⟩
theorem Shp.mono {k k' : Nat} {d : D} (h : Shp k d) (h1 : k ≤ k') : Shp k' d := by
  obtain ⟨p, e, h2, h3⟩ := h.py
  exact ⟨p, e, h2, Nat.le_trans h3 h1⟩
theorem Shp.str {x : Str} (h : Fine x) : Shp 0 (.str x) := by
  refine ⟨_, rfl, ?_, Nat.le_refl _⟩
  show PyData.strOk x = true
  unfold PyData.strOk
  rw [← Array.all_toList, List.all_eq_true]
  intro c hc
  exact decide_eq_true (h c hc)
theorem Rep.shw_fine {k n : Nat} {d : D} (h : Rep k n d) : Fine (shw d) := by
  obtain ⟨p, e, hp⟩ := h.py
  unfold shw
  rw [e]
  exact hp.fine
theorem shps_py {k : Nat} : ∀ {ds : List D}, (∀ d ∈ ds, Shp k d) → ∃ ps, toPyAll ds = some ps ∧ PyData.canLayAll0 ps = true ∧ PyData.depthAll ps ≤ k
  | [], _ => ⟨[], rfl, rfl, Nat.zero_le _⟩
  | d :: ds, h => by
    obtain ⟨p, e, hc, hd⟩ := (h d List.mem_cons_self).py
    obtain ⟨ps, e2, hc2, hd2⟩ := shps_py (ds := ds) fun x hx => h x (List.mem_cons_of_mem _ hx)
    refine ⟨p :: ps, ?_, ?_, ?_⟩
    · show (toPy d).bind _ = _
      rw [e, e2]
      rfl
    · simp only [PyData.canLayAll0, hc, hc2, Bool.and_self]
    · simp only [PyData.depthAll]
      exact Nat.max_le.mpr ⟨hd, hd2⟩
theorem Shp.lst {k : Nat} {b : Bool} {ds : List D} (h : ∀ d ∈ ds, Shp k d) : Shp (k + 1) (.lst b ds) := by
  obtain ⟨ps, e, hc, hd⟩ := shps_py h
  refine ⟨.list ps, ?_, ?_, ?_⟩
  · show (toPyAll ds).map PyData.list = _
    rw [e]
    rfl
  · simp only [PyData.canLay0, hc]
  · simp only [PyData.depth]
    omega
theorem Shp.tup {k : Nat} {ds : List D} (h : ∀ d ∈ ds, Shp k d) : Shp (k + 1) (.tup ds) := by
  obtain ⟨ps, e, hc, hd⟩ := shps_py h
  refine ⟨.tuple ps, ?_, ?_, ?_⟩
  · show (toPyAll ds).map PyData.tuple = _
    rw [e]
    rfl
  · simp only [PyData.canLay0, hc]
  · simp only [PyData.depth]
    omega
theorem Shp.int {i : Int} : Shp 0 (.int i) := ⟨_, rfl, rfl, Nat.le_refl _⟩
theorem Shp.sh {k : Nat} {d : D} (h : Shp k d) (hk : k ≤ 64) : ∃ p, toPy d = some p ∧ SeqAt.shaped p = true ∧ PyData.canLay0 p = true := by
  obtain ⟨p, e, hc, hd⟩ := h.py
  refine ⟨p, e, ?_, hc⟩
  unfold SeqAt.shaped
  rw [hc, decide_eq_true (Nat.le_trans hd hk)]
  rfl
/-- the same value twice -/
theorem eq_same {neg : Bool} {d d' : D} {S : Sto} {Q : QD} {k : Nat} (h : Shp k d) (e : toPy d = toPy d') (q : Q (.bl (nb neg true)) S) (hk : k ≤ 64 := by decide) : iEqB neg d d' S Q := by
  obtain ⟨p, e1, hs, hc⟩ := h.sh hk
  refine eqB_ok (pyC_of e1) (pyC_of (e ▸ e1)) hs hs ?_
  rw [SeqAt.eqv_refl _ hc]
  exact q
end Pu
namespace Pu
open PySem L2 Rb
/-! ## values that repr shows -/
structure Vv (d : D) (p : PyData) : Prop where
  py : toPy d = some p
  nice : Rb.Nice 3 8 p
  kn : p.hasDict = false ∨ known d = true
  fine : Fine p.shown
theorem Vv.isS {d : D} {p : PyData} (h : Vv d p) : (toPy d).isSome = true := by rw [h.py]; rfl
theorem Vv.rep {d : D} {p : PyData} {S : Sto} {Q : QD} (h : Vv d p) (q : Q (.str p.shown) S) : iRepr [d] S Q := by
  refine iRepr_of (onS h.py ⟨⟨h.nice.mono (by decide) (by decide), h.kn⟩, q⟩)
theorem Vv.size {d : D} {p : PyData} (h : Vv d p) : p.shown.cps.size ≤ 3000 := by
  have e := PyData.shown_le_bulk 100 (by decide) p h.nice.lv
  have := h.nice.blk
  have : p.shown.length = p.shown.cps.size := rfl
  omega
theorem Vv.two {d : D} {p : PyData} {S : Sto} {Q : QD} {f : Bool} {w : Str} (h : Vv d p) (hw : w.cps.size ≤ 3000) (hf : Fine w) (q : Q (.str (PyData.list [.str w, .str p.shown]).shown) S) : iRepr [.lst f [.str w, .str p.shown]] S Q := by
  refine iRepr_of ?_
  unfold gRepr
  dsimp only
  refine onS (show toPy (.lst f [.str w, .str p.shown]) = some (PyData.list [.str w, .str p.shown]) from rfl) ⟨⟨?_, .inl rfl⟩, q⟩
  refine (Rb.Nice.lst (k := 0) (n := 3000) (m := 6002) (fun x hx => ?_) (by show 2 * 3001 ≤ 6002; decide)).mono (by decide) (by decide)
  simp only [List.mem_cons, List.not_mem_nil, or_false] at hx
  rcases hx with rfl | rfl
  · exact Rb.Nice.str hw fun c hc => Nat.lt_trans (hf c hc) (by decide)
  · exact Rb.Nice.str h.size fun c hc => Nat.lt_trans (h.fine c hc) (by decide)
theorem Vv.int {i : Int} (h : i.natAbs < 10 ^ 99) : Vv (.int i) (.int i) := ⟨rfl, (Rb.Nice.int h).mono (by decide) (by decide), .inl rfl, fine_int i⟩
theorem within_ok {v : D} {lo hi : Int} {S : Sto} {Q : QD} {E : ED} (hv : (toPy v).isSome = true) (q : Q (.bl (isNum lo hi v)) S) : F_law_is_within [v, .int lo, .int hi] S Q E := by
  unfold F_law_is_within
  refine ⟨rfl, ?_⟩
  cases v with
  | int i =>
    show (onBl (.bl (decide (lo ≤ i))) fun k => if k = true then Q (.bl (decide (i ≤ hi))) S else Q (.bl false) S)
    by_cases h : lo ≤ i <;> simpa [isNum, h, onBl] using q
  | cell _ => cases hv
  | glo _ => cases hv
  | ty _ => cases hv
  | ins _ _ => cases hv
  | exc _ _ => cases hv
  | kls _ => cases hv
  | _ => exact q
theorem isend_ok {v : D} {S : Sto} {Q : QD} {E : ED} (hv : (toPy v).isSome = true) (q : Q (.bl (isNum 0 10000000 v)) S) : F_is_end [v] S Q E := by
  unfold F_is_end
  exact ⟨rfl, number_ok hv q⟩
/-! ## a promise -/
def proV (d : D) : D := .ins "Promise" [("promised", d)]
theorem pinit_ok {v : D} {S : Sto} {k : Nat} {Q : QD} {E : ED} (hv : (toPy v).isSome = true) (hk : S[k]? = some (.ins "Promise" [])) (q1 : isNum 0 10000000 v = true → Q .non (S.set k (.ins "Promise" [("promised", v)]))) (q2 : isNum 0 10000000 v = false → E ("BadEnd", [("value", v)]) S) : F_Promise_init [.cell k, v] S Q E := by
  unfold F_Promise_init
  refine ⟨rfl, isend_ok hv ?_⟩
  cases h : isNum 0 10000000 v with
  | false => exact q2 h
  | true =>
    have ci : cellIns S (.cell k) = some (k, ("Promise" : Str), ([] : List (Str × D))) := by
      show (insAt S[k]?).map _ = _
      rw [hk]
      rfl
    exact onS ci ⟨⟨rfl, by show 0 ≤ 500; decide⟩, q1 h⟩
theorem pleft_ok {v : D} {L : Int} {S : Sto} {Q : QD} {E : ED} (hv : (toPy v).isSome = true) (q1 : isNum 0 10000000 v = false → E ("BadEnd", [("value", v)]) S) (q2 : ∀ i, v = .int i → isNum 0 10000000 v = true → (L < i → E ("TooLate", [("tick", v)]) S) ∧ (i ≤ L → Q (.int (L - i)) S)) : F_Promise_left [proV (.int L), v] S Q E := by
  unfold F_Promise_left
  refine ⟨rfl, isend_ok hv ?_⟩
  cases h : isNum 0 10000000 v with
  | false => exact q1 h
  | true =>
    cases v with
    | int i =>
      obtain ⟨a, b⟩ := q2 i rfl h
      by_cases c : L < i
      · refine ⟨rfl, ?_⟩
        show (if decide (L < i) = true then _ else _)
        rw [if_pos (decide_eq_true c)]
        exact a c
      · refine ⟨rfl, ?_⟩
        show (if decide (L < i) = true then _ else _)
        rw [if_neg (by rw [decide_eq_false c]; decide)]
        exact ⟨rfl, b (by omega)⟩
    | _ => cases h
theorem isX_of {tab : List (Str × Str × Bool)} {i : Nat} {x y : Str} {fs : List (Str × D)} {b : Bool} {ρ : Rho} {S : Sto} {Q : QD} {E : ED} (h : getV ρ i = some (.exc x fs)) (e : lookX tab x y = some b) (q : Q (.bl b) S) : dIsX tab i y ρ S Q E := by
  unfold dIsX
  rw [h]
  exact onS e q
theorem isXT_of {tab : List (Str × Str × Bool)} {i : Nat} {x : Str} {ys : List Str} {fs : List (Str × D)} {b : Bool} {ρ : Rho} {S : Sto} {Q : QD} {E : ED} (h : getV ρ i = some (.exc x fs)) (e : anyX tab x ys = some b) (q : Q (.bl b) S) : dIsXT tab i ys ρ S Q E := by
  unfold dIsXT
  rw [h]
  exact onS e q
theorem xf_of {xs : List Str} {i : Nat} {f x : Str} {fs : List (Str × D)} {v : D} {ρ : Rho} {S : Sto} {Q : QD} {E : ED} (h : getV ρ i = some (.exc x fs)) (hx : xs.contains x = true) (e : lookF f fs = some v) (q : Q v S) : dXf xs i f ρ S Q E := by
  unfold dXf
  rw [h]
  exact ⟨hx, onS e q⟩
theorem made_ok {v : D} {p : PyData} {Q : QD} {E : ED} (hv : Vv v p) (hb : below 0 v = true) (q1 : isNum 0 10000000 v = true → Q (proV v) []) (q2 : isNum 0 10000000 v = false → ∀ f, Q (.lst f [.str "end", .str p.shown]) []) : F_law_made [v] [] Q E := by
  unfold F_law_made
  refine ⟨rfl, pinit_ok (S := [.ins "Promise" []]) (k := 0) hv.isS rfl (fun h => ⟨rfl, ?_⟩) fun h => ?_⟩
  · refine ⟨⟨rfl, rfl⟩, onS (a := proV v) ?_ (q1 h)⟩
    show (if belowFs 0 [("promised", v)] = true then some (D.ins "Promise" [("promised", v)]) else none) = _
    rw [show belowFs 0 [("promised", v)] = true by show (below 0 v && true) = true; rw [hb]; rfl]
    rfl
  · refine onS (a := true) rfl ?_
    rw [if_pos rfl]
    dsimp only [dIfS, dAnd, dTest, dNot]
    refine isX_of (b := true) (x := "BadEnd") (fs := [("value", v)]) rfl (by decide) ?_
    simp only [onBl, if_true]
    refine isX_of (b := true) (x := "BadEnd") (fs := [("value", v)]) rfl (by decide) ?_
    simp only [onBl, if_true]
    refine isXT_of (b := false) (x := "BadEnd") (fs := [("value", v)]) rfl (by decide) ?_
    simp only [onBl, Bool.not_false, if_true]
    dsimp only [dRet, dLst, dCons, dC, dB, dNil]
    refine xf_of (v := v) (x := "BadEnd") (fs := [("value", v)]) rfl (by decide) rfl (hv.rep ?_)
    exact ⟨szr rfl, ⟨rfl, rfl⟩, ⟨rfl, rfl⟩, q2 h _⟩
end Pu
namespace Pu
open PySem L2 Rb
def hLeft : FS := (dSeq (dAsg (dLst (dCons (dIsX [("BadEnd", "BadEnd", true), ("TooLate", "BadEnd", false)] 2 "BadEnd") (dCons (dIsX [("BadEnd", "TooLate", false), ("TooLate", "TooLate", true)] 2 "TooLate") dNil))) (gN 3))
 (dIfS (dAnd (dTest (dBin iEq (dMLv gCountB (dVar 3) (dCons (dC (.bl true)) dNil)) (dC (.int 1)))) (dAnd (dTest (dIsX [("BadEnd", "ValueError", true), ("TooLate", "ValueError", true)] 2 "ValueError")) (dNot (dTest (dIsXT [("BadEnd", "BadStart", false), ("BadEnd", "BadTicks", false), ("TooLate", "BadStart", false), ("TooLate", "BadTicks", false)] 2 ["BadStart", "BadTicks"])))))
 (dRet (dIf (dTest (dBin gIx (dVar 3) (dC (.int 0)))) (dLst (dCons (dC (.str "end")) (dCons (dB iRepr (dCons (dXf ["BadEnd"] 2 "value") dNil)) dNil))) (dLst (dCons (dC (.str "late")) (dCons (dB iRepr (dCons (dXf ["TooLate"] 2 "tick") dNil)) dNil)))))
 dSkip))
theorem ix_lst {b : Bool} {xs : List D} {i : Int} {d : D} {S : Sto} {Q : QD} (e : atI xs i = some d) (q : Q d S) : gIx (.lst b xs) (.int i) S Q := by
  show onSome (atI xs i) fun d => Q d S
  exact onS e q
theorem hleft_end {v a0 : D} {p : PyData} {S : Sto} {De : DEnds} (hv : Vv v p) (q : De.rt (.lst true [.str "end", .str p.shown]) S) : hLeft [some a0, some v, some (.exc "BadEnd" [("value", v)]), none] S De noE := by
  unfold hLeft
  dsimp only [dSeq, dAsg, dLst, dCons, dNil]
  refine isX_of (b := true) (x := "BadEnd") (fs := [("value", v)]) rfl (by decide) ?_
  refine isX_of (b := false) (x := "BadEnd") (fs := [("value", v)]) rfl (by decide) ?_
  refine ⟨szr rfl, ?_⟩
  dsimp only [gN, setK]
  dsimp only [dIfS, dAnd, dTest, dNot, dBin]
  refine eq_int ?_
  simp only [onBl]
  rw [show nb false (decide ((([true, false] : List Bool).count true : Nat) = (1 : Int))) = true by decide, if_pos rfl]
  refine isX_of (b := true) (x := "BadEnd") (fs := [("value", v)]) rfl (by decide) ?_
  simp only [onBl, if_true]
  refine isXT_of (b := false) (x := "BadEnd") (fs := [("value", v)]) rfl (by decide) ?_
  simp only [onBl, Bool.not_false, if_true]
  dsimp only [dRet, dIf, dTest, dBin]
  have a1 : atI [D.bl true, D.bl false] 0 = some (.bl true) := atI_nat (j := 0) rfl
  refine onS (a := .lst true [D.bl true, D.bl false]) rfl ?_
  dsimp only [dC]
  refine ix_lst a1 ?_
  simp only [onBl, if_true]
  dsimp only [dLst, dCons, dC, dB, dNil]
  refine xf_of (v := v) (x := "BadEnd") (fs := [("value", v)]) rfl (by decide) rfl (hv.rep ⟨szr rfl, q⟩)
theorem hleft_late {v a0 : D} {p : PyData} {S : Sto} {De : DEnds} (hv : Vv v p) (q : De.rt (.lst true [.str "late", .str p.shown]) S) : hLeft [some a0, some v, some (.exc "TooLate" [("tick", v)]), none] S De noE := by
  unfold hLeft
  dsimp only [dSeq, dAsg, dLst, dCons, dNil]
  refine isX_of (b := false) (x := "TooLate") (fs := [("tick", v)]) rfl (by decide) ?_
  refine isX_of (b := true) (x := "TooLate") (fs := [("tick", v)]) rfl (by decide) ?_
  refine ⟨szr rfl, ?_⟩
  dsimp only [gN, setK]
  dsimp only [dIfS, dAnd, dTest, dNot, dBin]
  refine eq_int ?_
  simp only [onBl]
  rw [show nb false (decide ((([false, true] : List Bool).count true : Nat) = (1 : Int))) = true by decide, if_pos rfl]
  refine isX_of (b := true) (x := "TooLate") (fs := [("tick", v)]) rfl (by decide) ?_
  simp only [onBl, if_true]
  refine isXT_of (b := false) (x := "TooLate") (fs := [("tick", v)]) rfl (by decide) ?_
  simp only [onBl, Bool.not_false, if_true]
  dsimp only [dRet, dIf, dTest, dBin]
  have a1 : atI [D.bl false, D.bl true] 0 = some (.bl false) := atI_nat (j := 0) rfl
  refine onS (a := .lst true [D.bl false, D.bl true]) rfl ?_
  dsimp only [dC]
  refine ix_lst a1 ?_
  simp only [onBl, Bool.false_eq_true, if_false]
  dsimp only [dLst, dCons, dC, dB, dNil]
  refine xf_of (v := v) (x := "TooLate") (fs := [("tick", v)]) rfl (by decide) rfl (hv.rep ⟨szr rfl, q⟩)
theorem lleft_ok {v : D} {p : PyData} {L : Int} {S : Sto} {Q : QD} {E : ED} (hv : Vv v p) (q1 : isNum 0 10000000 v = false → Q (.lst true [.str "end", .str p.shown]) S)
    (q2 : ∀ i, v = .int i → isNum 0 10000000 v = true → (L < i → Q (.lst true [.str "late", .str p.shown]) S) ∧ (i ≤ L → Q (.int (L - i)) S)) : F_law_left [proV (.int L), v] S Q E := by
  unfold F_law_left
  refine ⟨rfl, ?_⟩
  refine ⟨rfl, pleft_ok hv.isS (fun h => ?_) fun i hi h => ⟨fun hl => ?_, fun hl => ?_⟩⟩
  · refine onS (a := true) rfl ?_
    rw [if_pos rfl]
    exact hleft_end hv ⟨⟨rfl, rfl⟩, q1 h⟩
  · refine onS (a := true) rfl ?_
    rw [if_pos rfl]
    exact hleft_late hv ⟨⟨rfl, rfl⟩, (q2 i hi h).1 hl⟩
  · exact (q2 i hi h).2 hl
theorem platest_ok {L : D} {S : Sto} {Q : QD} {E : ED} (q : Q L S) : F_Promise_latest [proV L] S Q E := by
  unfold F_Promise_latest
  exact ⟨rfl, rfl, q⟩
end Pu
namespace Pu
open PySem L2 Rb
def oddP : List D := [.non, .bl true, .bl false, .int (-1), .int (10 ^ (7 : Int).toNat + 1), .int (10 ^ (39 : Int).toNat), .str "5", .str "", .tup [], .lst true [], .dic [], .tup [.int 3]]
def Good (d : D) : Prop := ∃ p, Vv d p ∧ below 0 d = true
theorem vv_bl {b : Bool} : Vv (.bl b) (.bool b) := ⟨rfl, Rb.Nice.bool.mono (by decide) (by decide), .inl rfl, by cases b <;> exact fine_of (by decide)⟩
theorem good_int {i : Int} (h : i.natAbs < 10 ^ 99) : Good (.int i) := ⟨_, Vv.int h, rfl⟩
theorem odd_good : ∀ d ∈ oddP, Good d := by
  intro d hd
  unfold oddP at hd
  simp only [List.mem_cons, List.not_mem_nil, or_false] at hd
  rcases hd with rfl | rfl | rfl | rfl | rfl | rfl | rfl | rfl | rfl | rfl | rfl | rfl
  · exact ⟨.none, ⟨rfl, Rb.Nice.none.mono (by decide) (by decide), .inl rfl, fine_of (by decide)⟩, rfl⟩
  · exact ⟨_, vv_bl, rfl⟩
  · exact ⟨_, vv_bl, rfl⟩
  · exact good_int (by decide)
  · exact good_int (by decide +kernel)
  · exact good_int (by decide +kernel)
  · exact ⟨.str "5", ⟨rfl, (Rb.Nice.str (n := 8) (by decide) (by decide)).mono (by decide) (by decide), .inl rfl, fine_of (by decide +kernel)⟩, rfl⟩
  · exact ⟨.str "", ⟨rfl, (Rb.Nice.str (n := 8) (by decide) (by decide)).mono (by decide) (by decide), .inl rfl, fine_of (by decide +kernel)⟩, rfl⟩
  · exact ⟨.tuple [], ⟨rfl, (Rb.Nice.tup (k := 0) (n := 0) (m := 0) (fun x hx => absurd hx List.not_mem_nil) (by decide)).mono (by decide) (by decide), .inl rfl, fine_of (by decide +kernel)⟩, rfl⟩
  · exact ⟨.list [], ⟨rfl, (Rb.Nice.lst (k := 0) (n := 0) (m := 0) (fun x hx => absurd hx List.not_mem_nil) (by decide)).mono (by decide) (by decide), .inl rfl, fine_of (by decide +kernel)⟩, rfl⟩
  · exact ⟨_, ⟨rfl, ⟨by decide +kernel, by decide +kernel, by decide +kernel, by decide +kernel⟩, .inr rfl, fine_of (by decide +kernel)⟩, rfl⟩
  · exact ⟨_, ⟨rfl, ⟨by decide +kernel, by decide +kernel, by decide +kernel, by decide +kernel⟩, .inl rfl, fine_of (by decide +kernel)⟩, rfl⟩
theorem shp_two {f : Bool} {a b : Str} (ha : Fine a) (hb : Fine b) : Shp 1 (.lst f [.str a, .str b]) := Shp.lst fun d hd => by
  simp only [List.mem_cons, List.not_mem_nil, or_false] at hd
  rcases hd with rfl | rfl
  · exact Shp.str ha
  · exact Shp.str hb
def Due (L : Int) (v : D) (p : PyData) (u : D) : Prop := (isNum 0 10000000 v = false ∧ u = .lst true [.str "end", .str p.shown]) ∨ ∃ i, v = .int i ∧ isNum 0 10000000 v = true ∧ ((L < i ∧ u = .lst true [.str "late", .str p.shown]) ∨ (i ≤ L ∧ u = .int (L - i)))
theorem law_ok : ∀ ns : List Int, ns.length ≤ 63 → F_law_k46 [.kls (ns.map D.int)] [] (fun d _ => d = .bl true) noE := by
  intro ns _
  have e7 : (10 : Int) ^ (7 : Int).toNat = 10000000 := by decide
  unfold F_law_k46
  refine ⟨rfl, deck_ok fun S dk => ?_⟩
  refine ⟨⟨by decide, by decide, by decide⟩, ⟨by decide, by decide, by decide⟩, szr rfl, szr rfl, szr rfl, szr rfl, ⟨by decide, by decide⟩, ?_⟩
  show dLoop _ _ [] (rangeD 0 6) [some (.kls (ns.map D.int)), some (.cell 1), some (.lst true oddP), none, none, none, none, none, none] S _ _
  have hO := odd_good
  have oL : (oddP.length : Int) = 12 := rfl
  have oL2 : oddP.length = 12 := rfl
  generalize oddP = O at hO oL oL2 ⊢
  refine for_rng 0 6 (fun i ρ S' => (∃ y3 y4 y5 y6 y7 y8, ρ = [some (.kls (ns.map D.int)), some (.cell 1), some (.lst true O), y3, y4, y5, y6, y7, y8]) ∧ Dk S' (10000 * i) []) ⟨⟨_, _, _, _, _, _, rfl⟩, dk.le (by omega)⟩ ?_ ?_
  · rintro i ρ S' K hi hK ⟨⟨y3, y4, y5, y6, y7, y8, rfl⟩, dk⟩
    refine ⟨⟨by decide, by decide, by decide⟩, ⟨by decide, by decide, by decide⟩, ?_⟩
    refine draw2_ok (lim := 10 ^ (7 : Int).toNat + 1) dk (by omega) (by decide) (by decide) fun r1 S1 r10 r11 d1 => ?_
    refine draw2_ok d1 (by omega) (by decide) (by decide) fun r2 S2 r20 r21 d2 => ?_
    obtain ⟨o1, e1, ho1⟩ := atI_mem (xs := O) r20 (by omega)
    refine onS e1 ⟨szr rfl, ?_⟩
    refine draw2_ok d2 (by omega) (by decide) (by decide) fun r3 S3 r30 r31 d3 => ?_
    have hA : ∀ d ∈ [D.int 0, .int (10 ^ (7 : Int).toNat), .int r1, o1], Good d := fun d hd => by
      simp only [List.mem_cons, List.not_mem_nil, or_false] at hd
      rcases hd with rfl | rfl | rfl | rfl
      · exact good_int (by decide)
      · exact good_int (by decide +kernel)
      · rw [e7] at r11
        exact good_int (Nat.lt_of_lt_of_le (show r1.natAbs < 100000000 by omega) (by decide))
      · exact hO _ ho1
    have aL : ([D.int 0, .int (10 ^ (7 : Int).toNat), .int r1, o1].length : Int) = 4 := rfl
    generalize [D.int 0, .int (10 ^ (7 : Int).toNat), .int r1, o1] = A at hA aL ⊢
    obtain ⟨v, ev, hv⟩ := atI_mem (xs := A) r30 (by omega)
    obtain ⟨p, vp, vb⟩ := hA v hv
    refine onS ev ⟨⟨by show (below 0 v && true) = true; rw [vb]; rfl, rfl⟩, ?_⟩
    refine made_ok vp vb (fun h => ⟨rfl, ?_⟩) fun h f => ⟨rfl, ?_⟩
    · refine ⟨⟨by decide, by decide, by decide⟩, within_ok vp.isS ?_⟩
      rw [e7, h]
      obtain ⟨L, rfl, L0, L1⟩ : ∃ L, v = .int L ∧ 0 ≤ L ∧ L ≤ 10000000 := by
        cases v with
        | int L =>
          have h : (decide (0 ≤ L) && decide (L ≤ 10000000)) = true := h
          rw [Bool.and_eq_true] at h
          exact ⟨L, rfl, of_decide_eq_true h.1, of_decide_eq_true h.2⟩
        | _ => cases h
      refine ⟨rfl, ?_⟩
      refine ⟨⟨by decide, by decide, by decide⟩, draw2_ok (lim := 10 ^ (7 : Int).toNat + 1) d3 (by omega) (by decide) (by decide) fun r4 S4 r40 r41 d4 => ?_⟩
      refine ⟨⟨by decide, by decide, by decide⟩, szr rfl, ?_⟩
      refine draw2_ok d4 (by omega) (by decide) (by decide) fun r5 S5 r50 r51 d5 => ?_
      obtain ⟨o2, e2, ho2⟩ := atI_mem (xs := O) r50 (by omega)
      refine onS e2 (draw2_ok d5 (by omega) (by decide) (by decide) fun r6 S6 r60 r61 d6 => ?_)
      obtain ⟨o3, e3, ho3⟩ := atI_mem (xs := O) r60 (by omega)
      refine onS e3 ⟨szr rfl, szr rfl, ?_⟩
      have hB : ∀ d ∈ [D.int 0, .bl false, .int 1, .bl true, .int L, .int (if L - 1 > 0 then L - 1 else 0), .int (L + 1), .int r4, .int (10 ^ (7 : Int).toNat)] ++ [o2, o3], Good d := fun d hd => by
        simp only [List.mem_cons, List.not_mem_nil, or_false, List.cons_append, List.nil_append] at hd
        rcases hd with rfl | rfl | rfl | rfl | rfl | rfl | rfl | rfl | rfl | rfl | rfl
        · exact good_int (by decide)
        · exact ⟨_, vv_bl, rfl⟩
        · exact good_int (by decide)
        · exact ⟨_, vv_bl, rfl⟩
        · exact good_int (Nat.lt_of_lt_of_le (show L.natAbs < 100000000 by omega) (by decide))
        · exact good_int (Nat.lt_of_lt_of_le (show (if L - 1 > 0 then L - 1 else 0).natAbs < 100000000 by split <;> omega) (by decide))
        · exact good_int (Nat.lt_of_lt_of_le (show (L + 1).natAbs < 100000000 by omega) (by decide))
        · rw [e7] at r41
          exact good_int (Nat.lt_of_lt_of_le (show r4.natAbs < 100000000 by omega) (by decide))
        · exact good_int (by decide +kernel)
        · exact hO _ ho2
        · exact hO _ ho3
      refine onS (a := [D.int 0, .bl false, .int 1, .bl true, .int L, .int (if L - 1 > 0 then L - 1 else 0), .int (L + 1), .int r4, .int (10 ^ (7 : Int).toNat)] ++ [o2, o3]) rfl ?_
      generalize [D.int 0, .bl false, .int 1, .bl true, .int L, .int (if L - 1 > 0 then L - 1 else 0), .int (L + 1), .int r4, .int (10 ^ (7 : Int).toNat)] ++ [o2, o3] = B at hB ⊢
      have vL : Vv (.int L) (.int L) := Vv.int (Nat.lt_of_lt_of_le (show L.natAbs < 100000000 by omega) (by decide))
      refine for_inv (src := []) B (fun m ρ S' => S' = S6 ∧ ∃ y6 y7 y8, ρ = [some (.kls (ns.map D.int)), some (.cell 1), some (.lst true O), some (.int (0 + (i : Int))), some (.int L), some (proV (.int L)), y6, y7, y8]) ⟨rfl, _, _, _, rfl⟩ ?_ ?_
      · rintro m t ρ S7 K7 hx hK7 ⟨rfl, z6, z7, z8, rfl⟩
        obtain ⟨tp, vt, tb⟩ := hB t (List.mem_of_getElem? hx)
        refine vt.rep ⟨szr rfl, ?_⟩
        refine ⟨fun ρ' S' => S' = S7 ∧ ∃ u, ρ' = [some (.kls (ns.map D.int)), some (.cell 1), some (.lst true O), some (.int (0 + (i : Int))), some (.int L), some (proV (.int L)), z6, some t, some u] ∧ Due L t tp u, ?_, ?_⟩
        · refine ⟨⟨by decide, by decide, by decide⟩, within_ok vt.isS ?_⟩
          rw [e7]
          cases hn : isNum 0 10000000 t with
          | false => exact ⟨rfl, _, rfl, .inl ⟨hn, rfl⟩⟩
          | true =>
            cases t with
            | int j =>
              by_cases c : j ≤ L
              · exact ifT (b := decide (j ≤ L)) (decide_eq_true c) ⟨rfl, _, rfl, .inr ⟨j, rfl, hn, .inr ⟨c, rfl⟩⟩⟩
              · exact ifF (b := decide (j ≤ L)) (decide_eq_false c) (vt.rep ⟨szr rfl, rfl, _, rfl, .inr ⟨j, rfl, hn, .inl ⟨by omega, rfl⟩⟩⟩)
            | _ => cases hn
        · rintro ρ' S' ⟨rfl, u, rfl, hu⟩
          rcases hu with ⟨hn, rfl⟩ | ⟨j, rfl, hn, ⟨hl, rfl⟩ | ⟨hl, rfl⟩⟩
          · refine lleft_ok vt (fun _ => ?_) fun j hj h => absurd (h.symm.trans hn) (by decide)
            exact vt.two (by decide) (fine_of (by decide)) (vt.two (by decide) (fine_of (by decide)) (ne_str rfl (platest_ok (vL.rep (vL.rep (ne_str rfl (hK7 _ _ ⟨rfl, _, _, _, rfl⟩)))))))
          · refine lleft_ok vt (fun h => absurd (h.symm.trans hn) (by decide)) fun j' hj h => ⟨fun _ => ?_, fun h2 => ?_⟩
            · exact vt.two (by decide) (fine_of (by decide)) (vt.two (by decide) (fine_of (by decide)) (ne_str rfl (platest_ok (vL.rep (vL.rep (ne_str rfl (hK7 _ _ ⟨rfl, _, _, _, rfl⟩)))))))
            · cases hj
              omega
          · have hn' : (decide (0 ≤ j) && decide (j ≤ 10000000)) = true := hn
            rw [Bool.and_eq_true] at hn'
            have j0 := of_decide_eq_true hn'.1
            refine lleft_ok vt (fun h => absurd (h.symm.trans hn) (by decide)) fun j' hj h => ⟨fun h2 => ?_, fun h2 => ?_⟩
            · cases hj
              omega
            · cases hj
              have vd : Vv (.int (L - j)) (.int (L - j)) := Vv.int (Nat.lt_of_lt_of_le (show (L - j).natAbs < 100000000 by omega) (by decide))
              exact vd.rep (vd.rep (ne_str rfl (platest_ok (vL.rep (vL.rep (ne_str rfl (hK7 _ _ ⟨rfl, _, _, _, rfl⟩)))))))
      · rintro ρ S7 ⟨rfl, z6, z7, z8, rfl⟩
        exact hK _ _ ⟨⟨_, _, _, _, _, _, rfl⟩, d6.le (by omega)⟩
    · refine ⟨⟨by decide, by decide, by decide⟩, within_ok vp.isS ?_⟩
      rw [e7, h]
      exact vp.rep ⟨szr rfl, eq_same (k := 1) (shp_two (fine_of (by decide)) vp.fine) rfl (hK _ _ ⟨⟨_, _, _, _, _, _, rfl⟩, d3.le (by omega)⟩)⟩
  · rintro ρ S' ⟨⟨y3, y4, y5, y6, y7, y8, rfl⟩, dk⟩
    rfl
end Pu
namespace Pu
open PySem PySem.Spec PyProof.Rows L2
theorem all_mk {l : PySem.W.OpenLaw} {w : World} {K : PySem.W.Frag} {h : Heap} {mg : Str → Option Value} {fa : Addr} (X : K.In h) (G : h.Ns mainGlobals mg) (hfa : mg "law" = some (.ref fa))
    {C_TripError : Addr}
    (aC_TripError : PySem.W.nsIn K mainGlobals "TripError" = some (some (.ref C_TripError)))
    {C_BadTicks : Addr}
    (aC_BadTicks : PySem.W.nsIn K mainGlobals "BadTicks" = some (some (.ref C_BadTicks)))
    {C_TooLate : Addr}
    (aC_TooLate : PySem.W.nsIn K mainGlobals "TooLate" = some (some (.ref C_TooLate)))
    {C_BadStart : Addr}
    (aC_BadStart : PySem.W.nsIn K mainGlobals "BadStart" = some (some (.ref C_BadStart)))
    {C_BadEnd : Addr}
    (aC_BadEnd : PySem.W.nsIn K mainGlobals "BadEnd" = some (some (.ref C_BadEnd)))
    {C_Promise : Addr}
    (aC_Promise : PySem.W.nsIn K mainGlobals "Promise" = some (some (.ref C_Promise)))
    {f_is_number_from : Addr} {od_is_number_from an_is_number_from : Option Addr} {sl_is_number_from : Array (Option Value)} {oc_is_number_from kV_is_number_from dc_is_number_from pm_is_number_from cd_is_number_from ct_is_number_from : Value}
    (a_is_number_from : PySem.W.nsIn K mainGlobals "is_number_from" = some (some (.ref f_is_number_from)))
    (l_is_number_from : K.lookup f_is_number_from = some ⟨oc_is_number_from, od_is_number_from, .func (PySem.W.fnOf "is_number_from" "is_number_from" (defArgs s_is_number_from) (defBody s_is_number_from) (defScope s_is_number_from) .none kV_is_number_from dc_is_number_from pm_is_number_from an_is_number_from cd_is_number_from ct_is_number_from), sl_is_number_from⟩)
    (c_is_number_from : PySem.W.codeIn K cd_is_number_from "is_number_from" = true)
    (k_is_number_from : PySem.W.keepIn K (.ref f_is_number_from) = true)
    {f_is_end : Addr} {od_is_end an_is_end : Option Addr} {sl_is_end : Array (Option Value)} {oc_is_end kV_is_end dc_is_end pm_is_end cd_is_end ct_is_end : Value}
    (a_is_end : PySem.W.nsIn K mainGlobals "is_end" = some (some (.ref f_is_end)))
    (l_is_end : K.lookup f_is_end = some ⟨oc_is_end, od_is_end, .func (PySem.W.fnOf "is_end" "is_end" (defArgs s_is_end) (defBody s_is_end) (defScope s_is_end) .none kV_is_end dc_is_end pm_is_end an_is_end cd_is_end ct_is_end), sl_is_end⟩)
    (c_is_end : PySem.W.codeIn K cd_is_end "is_end" = true)
    (k_is_end : PySem.W.keepIn K (.ref f_is_end) = true)
    {f__law_deck : Addr} {od__law_deck an__law_deck : Option Addr} {sl__law_deck : Array (Option Value)} {oc__law_deck kV__law_deck dc__law_deck pm__law_deck cd__law_deck ct__law_deck : Value}
    (a__law_deck : PySem.W.nsIn K mainGlobals "_law_deck" = some (some (.ref f__law_deck)))
    (l__law_deck : K.lookup f__law_deck = some ⟨oc__law_deck, od__law_deck, .func (PySem.W.fnOf "_law_deck" "_law_deck" (defArgs s__law_deck) (defBody s__law_deck) (defScope s__law_deck) .none kV__law_deck dc__law_deck pm__law_deck an__law_deck cd__law_deck ct__law_deck), sl__law_deck⟩)
    (c__law_deck : PySem.W.codeIn K cd__law_deck "_law_deck" = true)
    (k__law_deck : PySem.W.keepIn K (.ref f__law_deck) = true)
    {f__law_draw : Addr} {od__law_draw an__law_draw : Option Addr} {sl__law_draw : Array (Option Value)} {oc__law_draw kV__law_draw dc__law_draw pm__law_draw cd__law_draw ct__law_draw : Value}
    (a__law_draw : PySem.W.nsIn K mainGlobals "_law_draw" = some (some (.ref f__law_draw)))
    (l__law_draw : K.lookup f__law_draw = some ⟨oc__law_draw, od__law_draw, .func (PySem.W.fnOf "_law_draw" "_law_draw" (defArgs s__law_draw) (defBody s__law_draw) (defScope s__law_draw) .none kV__law_draw dc__law_draw pm__law_draw an__law_draw cd__law_draw ct__law_draw), sl__law_draw⟩)
    (c__law_draw : PySem.W.codeIn K cd__law_draw "_law_draw" = true)
    (k__law_draw : PySem.W.keepIn K (.ref f__law_draw) = true)
    {f__law_is_within : Addr} {od__law_is_within an__law_is_within : Option Addr} {sl__law_is_within : Array (Option Value)} {oc__law_is_within kV__law_is_within dc__law_is_within pm__law_is_within cd__law_is_within ct__law_is_within : Value}
    (a__law_is_within : PySem.W.nsIn K mainGlobals "_law_is_within" = some (some (.ref f__law_is_within)))
    (l__law_is_within : K.lookup f__law_is_within = some ⟨oc__law_is_within, od__law_is_within, .func (PySem.W.fnOf "_law_is_within" "_law_is_within" (defArgs s__law_is_within) (defBody s__law_is_within) (defScope s__law_is_within) .none kV__law_is_within dc__law_is_within pm__law_is_within an__law_is_within cd__law_is_within ct__law_is_within), sl__law_is_within⟩)
    (c__law_is_within : PySem.W.codeIn K cd__law_is_within "_law_is_within" = true)
    (k__law_is_within : PySem.W.keepIn K (.ref f__law_is_within) = true)
    {f__law_made : Addr} {od__law_made an__law_made : Option Addr} {sl__law_made : Array (Option Value)} {oc__law_made kV__law_made dc__law_made pm__law_made cd__law_made ct__law_made : Value}
    (a__law_made : PySem.W.nsIn K mainGlobals "_law_made" = some (some (.ref f__law_made)))
    (l__law_made : K.lookup f__law_made = some ⟨oc__law_made, od__law_made, .func (PySem.W.fnOf "_law_made" "_law_made" (defArgs s__law_made) (defBody s__law_made) (defScope s__law_made) .none kV__law_made dc__law_made pm__law_made an__law_made cd__law_made ct__law_made), sl__law_made⟩)
    (c__law_made : PySem.W.codeIn K cd__law_made "_law_made" = true)
    (k__law_made : PySem.W.keepIn K (.ref f__law_made) = true)
    {f__law_left : Addr} {od__law_left an__law_left : Option Addr} {sl__law_left : Array (Option Value)} {oc__law_left kV__law_left dc__law_left pm__law_left cd__law_left ct__law_left : Value}
    (a__law_left : PySem.W.nsIn K mainGlobals "_law_left" = some (some (.ref f__law_left)))
    (l__law_left : K.lookup f__law_left = some ⟨oc__law_left, od__law_left, .func (PySem.W.fnOf "_law_left" "_law_left" (defArgs s__law_left) (defBody s__law_left) (defScope s__law_left) .none kV__law_left dc__law_left pm__law_left an__law_left cd__law_left ct__law_left), sl__law_left⟩)
    (c__law_left : PySem.W.codeIn K cd__law_left "_law_left" = true)
    (k__law_left : PySem.W.keepIn K (.ref f__law_left) = true)
    {f_Promise___init__ : Addr} {od_Promise___init__ an_Promise___init__ : Option Addr} {sl_Promise___init__ : Array (Option Value)} {oc_Promise___init__ kV_Promise___init__ dc_Promise___init__ pm_Promise___init__ cd_Promise___init__ ct_Promise___init__ : Value}
    (w_Promise___init__ : PySem.W.findIn K (.ref C_Promise) "__init__" = some (some (.ref f_Promise___init__)))
    (l_Promise___init__ : K.lookup f_Promise___init__ = some ⟨oc_Promise___init__, od_Promise___init__, .func (PySem.W.fnOf "__init__" "Promise.__init__" (defArgs s_Promise___init__) (defBody s_Promise___init__) (defScope s_Promise___init__) .none kV_Promise___init__ dc_Promise___init__ pm_Promise___init__ an_Promise___init__ cd_Promise___init__ ct_Promise___init__), sl_Promise___init__⟩)
    (c_Promise___init__ : PySem.W.codeIn K cd_Promise___init__ "Promise.__init__" = true)
    (k_Promise___init__ : PySem.W.keepIn K (.ref f_Promise___init__) = true)
    {f_Promise_latest : Addr} {od_Promise_latest an_Promise_latest : Option Addr} {sl_Promise_latest : Array (Option Value)} {oc_Promise_latest kV_Promise_latest dc_Promise_latest pm_Promise_latest cd_Promise_latest ct_Promise_latest : Value}
    {p_Promise_latest : Addr} {r_Promise_latest : List Value}
    (w_Promise_latest : PySem.W.findIn K (.ref C_Promise) "latest" = some (some (.ref p_Promise_latest)))
    (rc_Promise_latest : PySem.W.recIn K p_Promise_latest "property" = some (.ref f_Promise_latest :: r_Promise_latest))
    (l_Promise_latest : K.lookup f_Promise_latest = some ⟨oc_Promise_latest, od_Promise_latest, .func (PySem.W.fnOf "latest" "Promise.latest" (defArgs s_Promise_latest) (defBody s_Promise_latest) (defScope s_Promise_latest) .none kV_Promise_latest dc_Promise_latest pm_Promise_latest an_Promise_latest cd_Promise_latest ct_Promise_latest), sl_Promise_latest⟩)
    (c_Promise_latest : PySem.W.codeIn K cd_Promise_latest "Promise.latest" = true)
    (k_Promise_latest : PySem.W.keepIn K (.ref f_Promise_latest) = true)
    {f_Promise_left : Addr} {od_Promise_left an_Promise_left : Option Addr} {sl_Promise_left : Array (Option Value)} {oc_Promise_left kV_Promise_left dc_Promise_left pm_Promise_left cd_Promise_left ct_Promise_left : Value}
    (w_Promise_left : PySem.W.findIn K (.ref C_Promise) "left" = some (some (.ref f_Promise_left)))
    (l_Promise_left : K.lookup f_Promise_left = some ⟨oc_Promise_left, od_Promise_left, .func (PySem.W.fnOf "left" "Promise.left" (defArgs s_Promise_left) (defBody s_Promise_left) (defScope s_Promise_left) .none kV_Promise_left dc_Promise_left pm_Promise_left an_Promise_left cd_Promise_left ct_Promise_left), sl_Promise_left⟩)
    (c_Promise_left : PySem.W.codeIn K cd_Promise_left "Promise.left" = true)
    (k_Promise_left : PySem.W.keepIn K (.ref f_Promise_left) = true)
    {f_law : Addr} {od_law an_law : Option Addr} {sl_law : Array (Option Value)} {oc_law kV_law dc_law pm_law cd_law ct_law : Value}
    (a_law : PySem.W.nsIn K mainGlobals "law" = some (some (.ref f_law)))
    (l_law : K.lookup f_law = some ⟨oc_law, od_law, .func (PySem.W.fnOf "law" "law" (defArgs s_law) (defBody s_law) (defScope s_law) .none kV_law dc_law pm_law an_law cd_law ct_law), sl_law⟩)
    (c_law : PySem.W.codeIn K cd_law "law" = true)
    (k_law : PySem.W.keepIn K (.ref f_law) = true)
    (pg_Promise : PySem.W.plainGet K C_Promise Str.empty = true)
    (hd_Promise : PySem.W.hasDictIn K C_Promise = true)
    (po_Promise : PySem.W.plainOver K C_Promise = true)
    (sa_Promise : PySem.W.findIn K (.ref C_Promise) "__setattr__" = some (some (.builtin "object.__setattr__")))
    (na_Promise_promised : PySem.W.findIn K (.ref C_Promise) "promised" = some none)
    (mm_Promise : PySem.W.makesIn K C_Promise = true)
    (mi_Promise : PySem.W.findIn K (.ref C_Promise) "__init__" = some (some (.ref f_Promise___init__)))
    (mf_Promise : PySem.W.isFn K (.ref f_Promise___init__) = true)
    (mk_Promise : PySem.W.keepIn K (.ref C_Promise) = true)
    (ma_Promise_left : PySem.W.findIn K (.ref C_Promise) "left" = some (some (.ref f_Promise_left)))
    (mn_Promise_left : PySem.W.isFn K (.ref f_Promise_left) = true)
    (pa_Promise_latest : PySem.W.findIn K (.ref C_Promise) "latest" = some (some (.ref p_Promise_latest)))
    (pg2_Promise_latest : PySem.W.specialIn K (.ref p_Promise_latest) "__get__" = some (some (.builtin "property.__get__")))
    (pt_Promise_latest : PySem.W.takesIn K (.ref p_Promise_latest) = some true)
    (cgE : PySem.W.specialIn K (.builtin "object.__class__") "__get__" = some (some (.builtin "getset_descriptor.__get__")))
    (ctE : PySem.W.takesIn K (.builtin "object.__class__") = some true)
    (ic_Promise : PySem.W.findIn K (.ref C_Promise) "__class__" = some (some (.builtin "object.__class__")))
    (io_Promise : PySem.W.mroIn K C_Promise (.type "object") = some true)
    (kt_Promise_list : PySem.W.kitOne K (.ref C_Promise) (.type "list") = some false)
    {nm_BadEnd q_BadEnd : Str} {N_BadEnd : Addr} {bs_BadEnd : List Value} {sn_BadEnd : List Str} {sub_BadEnd : List Value} {ab_BadEnd : Bool} {col_BadEnd : Option Bool} {dd_BadEnd : Option Addr} {m0_BadEnd m1_BadEnd m2_BadEnd m3_BadEnd m5_BadEnd : Option Value} {B0_BadEnd : Addr}
    (xL_BadEnd : K.lookup C_BadEnd = some (excClassObj nm_BadEnd q_BadEnd C_BadEnd N_BadEnd bs_BadEnd [.ref B0_BadEnd, .type "ValueError", .type "Exception", .type "BaseException", .type "object"] true sn_BadEnd sub_BadEnd ab_BadEnd col_BadEnd dd_BadEnd m0_BadEnd m1_BadEnd m2_BadEnd m3_BadEnd m5_BadEnd "ValueError.__new__"))
    (xsa_BadEnd : PySem.W.findIn K (.ref C_BadEnd) "__setattr__" = some (some (.builtin "object.__setattr__")))
    (xga_BadEnd : PySem.W.findIn K (.ref C_BadEnd) "__getattribute__" = some (some (.builtin "BaseException.__getattribute__")))
    (xgg_BadEnd : PySem.W.findIn K (.ref C_BadEnd) "__getattr__" = some none)
    (xnb_BadEnd : PySem.W.findIn K (.ref C_BadEnd) "value" = some none)
    (xcl_BadEnd : PySem.W.findIn K (.ref C_BadEnd) "__class__" = some (some (.builtin "object.__class__")))
    (xco_BadEnd : PySem.W.mroIn K C_BadEnd (.type "object") = some true)
    (xkC_BadEnd : PySem.W.keepIn K (.ref C_BadEnd) = true)
    (xhd_BadEnd : PySem.W.hasDictIn K C_BadEnd = true)
    (xiC_BadEnd : PySem.W.isClsIn K C_BadEnd = true)
    (xtC_BadEnd : PySem.W.typeIn K (.ref C_BadEnd) = some (.type "type"))
    (xeC_BadEnd : PySem.W.subIn K (.ref C_BadEnd) (.type "BaseException") = some true)
    {f_iBadEnd : Addr} {od_iBadEnd an_iBadEnd : Option Addr} {sl_iBadEnd : Array (Option Value)} {oc_iBadEnd kV_iBadEnd dc_iBadEnd pm_iBadEnd cd_iBadEnd ct_iBadEnd : Value}
    (ini_BadEnd : PySem.W.findIn K (.ref C_BadEnd) "__init__" = some (some (.ref f_iBadEnd)))
    (tI_BadEnd : PySem.W.typeIn K (.ref f_iBadEnd) = some (.type "function"))
    (lI_BadEnd : K.lookup f_iBadEnd = some ⟨oc_iBadEnd, od_iBadEnd, .func (PySem.W.fnOf "__init__" "BadEnd.__init__" (defArgs si_BadEnd) (defBody si_BadEnd) (defScope si_BadEnd) .none kV_iBadEnd dc_iBadEnd pm_iBadEnd an_iBadEnd cd_iBadEnd ct_iBadEnd), sl_iBadEnd⟩)
    (cI_BadEnd : PySem.W.codeIn K cd_iBadEnd "BadEnd.__init__" = true)
    (kI_BadEnd : PySem.W.keepIn K (.ref f_iBadEnd) = true)
    {nm_TooLate q_TooLate : Str} {N_TooLate : Addr} {bs_TooLate : List Value} {sn_TooLate : List Str} {sub_TooLate : List Value} {ab_TooLate : Bool} {col_TooLate : Option Bool} {dd_TooLate : Option Addr} {m0_TooLate m1_TooLate m2_TooLate m3_TooLate m5_TooLate : Option Value} {B0_TooLate : Addr}
    (xL_TooLate : K.lookup C_TooLate = some (excClassObj nm_TooLate q_TooLate C_TooLate N_TooLate bs_TooLate [.ref B0_TooLate, .type "ValueError", .type "Exception", .type "BaseException", .type "object"] true sn_TooLate sub_TooLate ab_TooLate col_TooLate dd_TooLate m0_TooLate m1_TooLate m2_TooLate m3_TooLate m5_TooLate "ValueError.__new__"))
    (xsa_TooLate : PySem.W.findIn K (.ref C_TooLate) "__setattr__" = some (some (.builtin "object.__setattr__")))
    (xga_TooLate : PySem.W.findIn K (.ref C_TooLate) "__getattribute__" = some (some (.builtin "BaseException.__getattribute__")))
    (xgg_TooLate : PySem.W.findIn K (.ref C_TooLate) "__getattr__" = some none)
    (xnb_TooLate : PySem.W.findIn K (.ref C_TooLate) "tick" = some none)
    (xcl_TooLate : PySem.W.findIn K (.ref C_TooLate) "__class__" = some (some (.builtin "object.__class__")))
    (xco_TooLate : PySem.W.mroIn K C_TooLate (.type "object") = some true)
    (xkC_TooLate : PySem.W.keepIn K (.ref C_TooLate) = true)
    (xhd_TooLate : PySem.W.hasDictIn K C_TooLate = true)
    (xiC_TooLate : PySem.W.isClsIn K C_TooLate = true)
    (xtC_TooLate : PySem.W.typeIn K (.ref C_TooLate) = some (.type "type"))
    (xeC_TooLate : PySem.W.subIn K (.ref C_TooLate) (.type "BaseException") = some true)
    {f_iTooLate : Addr} {od_iTooLate an_iTooLate : Option Addr} {sl_iTooLate : Array (Option Value)} {oc_iTooLate kV_iTooLate dc_iTooLate pm_iTooLate cd_iTooLate ct_iTooLate : Value}
    (ini_TooLate : PySem.W.findIn K (.ref C_TooLate) "__init__" = some (some (.ref f_iTooLate)))
    (tI_TooLate : PySem.W.typeIn K (.ref f_iTooLate) = some (.type "function"))
    (lI_TooLate : K.lookup f_iTooLate = some ⟨oc_iTooLate, od_iTooLate, .func (PySem.W.fnOf "__init__" "TooLate.__init__" (defArgs si_TooLate) (defBody si_TooLate) (defScope si_TooLate) .none kV_iTooLate dc_iTooLate pm_iTooLate an_iTooLate cd_iTooLate ct_iTooLate), sl_iTooLate⟩)
    (cI_TooLate : PySem.W.codeIn K cd_iTooLate "TooLate.__init__" = true)
    (kI_TooLate : PySem.W.keepIn K (.ref f_iTooLate) = true)
    (kx_BadEnd_BadEnd : PySem.W.kitOne K (.ref C_BadEnd) (.ref C_BadEnd) = some true)
    (kx_BadEnd_BadStart : PySem.W.kitOne K (.ref C_BadEnd) (.ref C_BadStart) = some false)
    (kx_BadEnd_BadTicks : PySem.W.kitOne K (.ref C_BadEnd) (.ref C_BadTicks) = some false)
    (kx_BadEnd_TooLate : PySem.W.kitOne K (.ref C_BadEnd) (.ref C_TooLate) = some false)
    (kx_BadEnd_ValueError : PySem.W.kitOne K (.ref C_BadEnd) (.type "ValueError") = some true)
    (kx_TooLate_BadEnd : PySem.W.kitOne K (.ref C_TooLate) (.ref C_BadEnd) = some false)
    (kx_TooLate_BadStart : PySem.W.kitOne K (.ref C_TooLate) (.ref C_BadStart) = some false)
    (kx_TooLate_BadTicks : PySem.W.kitOne K (.ref C_TooLate) (.ref C_BadTicks) = some false)
    (kx_TooLate_TooLate : PySem.W.kitOne K (.ref C_TooLate) (.ref C_TooLate) = some true)
    (kx_TooLate_ValueError : PySem.W.kitOne K (.ref C_TooLate) (.type "ValueError") = some true)
    (ex_BadEnd_TripError : PySem.W.exmOne K (.ref C_BadEnd) (.ref C_TripError) = some true)
    (ex_TooLate_TripError : PySem.W.exmOne K (.ref C_TooLate) (.ref C_TripError) = some true)
    {t_LIMIT : Tok}
    (v_LIMIT : PySem.W.nsIn K mainGlobals "LIMIT" = some (some (.int 10000000 t_LIMIT)))
    (z_ValueError : PySem.W.nsIn K mainGlobals "ValueError" = some none)
    (z_abs : PySem.W.nsIn K mainGlobals "abs" = some none)
    (z_bool : PySem.W.nsIn K mainGlobals "bool" = some none)
    (z_int : PySem.W.nsIn K mainGlobals "int" = some none)
    (z_isinstance : PySem.W.nsIn K mainGlobals "isinstance" = some none)
    (z_len : PySem.W.nsIn K mainGlobals "len" = some none)
    (z_list : PySem.W.nsIn K mainGlobals "list" = some none)
    (z_max : PySem.W.nsIn K mainGlobals "max" = some none)
    (z_range : PySem.W.nsIn K mainGlobals "range" = some none)
    (z_repr : PySem.W.nsIn K mainGlobals "repr" = some none)
    : ∃ fd : FuncData, (∀ (s : Shared) (v : Value), BindsTo s fd ⟨[v], []⟩ [("_law_script", v)]) ∧ ∀ base : Heap, K.In base → base.Ns mainGlobals mg → Rb.FnG l.prog w K mg base CX0 6 fa fd ["_law_script"] (spF (Pu.ct0 K mg) F_law_k46) := by
  cases hfa.symm.trans (PySem.W.mg_of X G a_law)
  have F_is_number_from := fun_mk (st := s_is_number_from) l_is_number_from c_is_number_from k_is_number_from
  have b_is_number_from := F_is_number_from.binds (ps := ["value", "least", "most"]) fun _ _ _ _ _ _ us hl => match us, hl with | [_, _, _], _ => rfl
  have F_is_end := fun_mk (st := s_is_end) l_is_end c_is_end k_is_end
  have b_is_end := F_is_end.binds (ps := ["value"]) fun _ _ _ _ _ _ us hl => match us, hl with | [_], _ => rfl
  have F__law_deck := fun_mk (st := s__law_deck) l__law_deck c__law_deck k__law_deck
  have b__law_deck := F__law_deck.binds (ps := ["_law_script"]) fun _ _ _ _ _ _ us hl => match us, hl with | [_], _ => rfl
  have F__law_draw := fun_mk (st := s__law_draw) l__law_draw c__law_draw k__law_draw
  have b__law_draw := F__law_draw.binds (ps := ["_law_deck_here", "_law_many"]) fun _ _ _ _ _ _ us hl => match us, hl with | [_, _], _ => rfl
  have F__law_is_within := fun_mk (st := s__law_is_within) l__law_is_within c__law_is_within k__law_is_within
  have b__law_is_within := F__law_is_within.binds (ps := ["_law_value", "_law_low", "_law_high"]) fun _ _ _ _ _ _ us hl => match us, hl with | [_, _, _], _ => rfl
  have F__law_made := fun_mk (st := s__law_made) l__law_made c__law_made k__law_made
  have b__law_made := F__law_made.binds (ps := ["_law_latest"]) fun _ _ _ _ _ _ us hl => match us, hl with | [_], _ => rfl
  have F__law_left := fun_mk (st := s__law_left) l__law_left c__law_left k__law_left
  have b__law_left := F__law_left.binds (ps := ["_law_promise", "_law_tick"]) fun _ _ _ _ _ _ us hl => match us, hl with | [_, _], _ => rfl
  have F_Promise___init__ := fun_mk (st := s_Promise___init__) l_Promise___init__ c_Promise___init__ k_Promise___init__
  have b_Promise___init__ := F_Promise___init__.binds (ps := ["self", "latest"]) fun _ _ _ _ _ _ us hl => match us, hl with | [_, _], _ => rfl
  have F_Promise_latest := fun_mk (st := s_Promise_latest) l_Promise_latest c_Promise_latest k_Promise_latest
  have b_Promise_latest := F_Promise_latest.binds (ps := ["self"]) fun _ _ _ _ _ _ us hl => match us, hl with | [_], _ => rfl
  have F_Promise_left := fun_mk (st := s_Promise_left) l_Promise_left c_Promise_left k_Promise_left
  have b_Promise_left := F_Promise_left.binds (ps := ["self", "tick"]) fun _ _ _ _ _ _ us hl => match us, hl with | [_, _], _ => rfl
  have F_law := fun_mk (st := s_law) l_law c_law k_law
  have b_law := F_law.binds (ps := ["_law_script"]) fun _ _ _ _ _ _ us hl => match us, hl with | [_], _ => rfl
  have cl_Promise : Cls K C_Promise := ⟨pg_Promise, hd_Promise, po_Promise, sa_Promise⟩
  have E_BadEnd : Rb.OwnE K C_BadEnd := ⟨⟨⟨_, _, _, _, _, _, _, _, _, _, _, _, _, _, _, xL_BadEnd, rfl⟩, xsa_BadEnd, xeC_BadEnd, xtC_BadEnd, xkC_BadEnd⟩, ⟨xga_BadEnd, xgg_BadEnd, xeC_BadEnd, xhd_BadEnd⟩, xiC_BadEnd, xcl_BadEnd, cgE, ctE, xco_BadEnd⟩
  have FI_BadEnd := fun_mk (st := si_BadEnd) lI_BadEnd cI_BadEnd kI_BadEnd
  have bI_BadEnd := FI_BadEnd.binds (ps := ["self", "value"]) fun _ _ _ _ _ _ us hl => match us, hl with | [_, _], _ => rfl
  have E_TooLate : Rb.OwnE K C_TooLate := ⟨⟨⟨_, _, _, _, _, _, _, _, _, _, _, _, _, _, _, xL_TooLate, rfl⟩, xsa_TooLate, xeC_TooLate, xtC_TooLate, xkC_TooLate⟩, ⟨xga_TooLate, xgg_TooLate, xeC_TooLate, xhd_TooLate⟩, xiC_TooLate, xcl_TooLate, cgE, ctE, xco_TooLate⟩
  have FI_TooLate := fun_mk (st := si_TooLate) lI_TooLate cI_TooLate kI_TooLate
  have bI_TooLate := FI_TooLate.binds (ps := ["self", "tick"]) fun _ _ _ _ _ _ us hl => match us, hl with | [_, _], _ => rfl
  exact ⟨_, fun s v => .of_eq rfl, fun base _ _ => G_law (⟨_, _, F_is_number_from, PySem.W.mg_of X G a_is_number_from, b_is_number_from, _, _, F_is_end, PySem.W.mg_of X G a_is_end, b_is_end, _, _, F__law_deck, PySem.W.mg_of X G a__law_deck, b__law_deck, _, _, F__law_draw, PySem.W.mg_of X G a__law_draw, b__law_draw, _, _, F__law_is_within, PySem.W.mg_of X G a__law_is_within, b__law_is_within, _, _, F__law_made, PySem.W.mg_of X G a__law_made, b__law_made, _, _, F__law_left, PySem.W.mg_of X G a__law_left, b__law_left, _, _, F_Promise___init__, b_Promise___init__, _, _, F_Promise_latest, b_Promise_latest, _, _, F_Promise_left, b_Promise_left, _, _, F_law, PySem.W.mg_of X G a_law, b_law, _, PySem.W.mg_of X G aC_TripError, _, PySem.W.mg_of X G aC_BadTicks, _, PySem.W.mg_of X G aC_TooLate, _, PySem.W.mg_of X G aC_BadStart, _, PySem.W.mg_of X G aC_BadEnd, _, PySem.W.mg_of X G aC_Promise, cl_Promise, na_Promise_promised, ⟨mm_Promise, mi_Promise, mf_Promise, mk_Promise⟩, ⟨ma_Promise_left, mn_Promise_left, k_Promise_left⟩, _, ⟨pa_Promise_latest, pg2_Promise_latest, pt_Promise_latest, _, rc_Promise_latest⟩, ⟨cl_Promise, ic_Promise, cgE, ctE, io_Promise⟩, kt_Promise_list, E_BadEnd, xnb_BadEnd, _, _, ini_BadEnd, tI_BadEnd, FI_BadEnd, bI_BadEnd, E_TooLate, xnb_TooLate, _, _, ini_TooLate, tI_TooLate, FI_TooLate, bI_TooLate, xi_own (PySem.W.mg_of X G aC_BadEnd) E_BadEnd (PySem.W.mg_of X G aC_BadEnd) kx_BadEnd_BadEnd, xi_own (PySem.W.mg_of X G aC_BadEnd) E_BadEnd (PySem.W.mg_of X G aC_BadStart) kx_BadEnd_BadStart, xi_own (PySem.W.mg_of X G aC_BadEnd) E_BadEnd (PySem.W.mg_of X G aC_BadTicks) kx_BadEnd_BadTicks, xi_own (PySem.W.mg_of X G aC_BadEnd) E_BadEnd (PySem.W.mg_of X G aC_TooLate) kx_BadEnd_TooLate, xi_ty (PySem.W.mg_of X G aC_BadEnd) E_BadEnd (PySem.W.mg_none_of X G z_ValueError) (by decide +kernel) kx_BadEnd_ValueError, xi_own (PySem.W.mg_of X G aC_TooLate) E_TooLate (PySem.W.mg_of X G aC_BadEnd) kx_TooLate_BadEnd, xi_own (PySem.W.mg_of X G aC_TooLate) E_TooLate (PySem.W.mg_of X G aC_BadStart) kx_TooLate_BadStart, xi_own (PySem.W.mg_of X G aC_TooLate) E_TooLate (PySem.W.mg_of X G aC_BadTicks) kx_TooLate_BadTicks, xi_own (PySem.W.mg_of X G aC_TooLate) E_TooLate (PySem.W.mg_of X G aC_TooLate) kx_TooLate_TooLate, xi_ty (PySem.W.mg_of X G aC_TooLate) E_TooLate (PySem.W.mg_none_of X G z_ValueError) (by decide +kernel) kx_TooLate_ValueError, ex_BadEnd_TripError, ex_TooLate_TripError, _, PySem.W.mg_of X G v_LIMIT, PySem.W.mg_none_of X G z_ValueError, PySem.W.mg_none_of X G z_abs, PySem.W.mg_none_of X G z_bool, PySem.W.mg_none_of X G z_int, PySem.W.mg_none_of X G z_isinstance, PySem.W.mg_none_of X G z_len, PySem.W.mg_none_of X G z_list, PySem.W.mg_none_of X G z_max, PySem.W.mg_none_of X G z_range, PySem.W.mg_none_of X G z_repr⟩ : Tx K mg)⟩
end Pu
open PySem PySem.W PyProof.Rows
set_option maxHeartbeats 0 in
theorem PySem.Challenge.cw_roadbikes_k46_promises_holds : PySem.Challenge.rw_roadbikes_k46_promises.Holds := by
  w_on; o_law; k_head; (case hw => w_witness2)
  k_fill
  refine Pu.endP (l := PySem.Challenge.rw_roadbikes_k46_promises) (n := 63) (lv := 6) (x := "_law_script") (FL := Pu.F_law_k46) rfl (by decide) rfl ⟨rfl, by decide, by decide⟩ (fun w h Y => PySem.W.kIn_of Y) ?F Pu.law_ok
  case F =>
    intro w mg fa h KX G hmg
    refine' Pu.all_mk KX G hmg ?aC_TripError ?aC_BadTicks ?aC_TooLate ?aC_BadStart ?aC_BadEnd ?aC_Promise ?a_is_number_from ?l_is_number_from ?c_is_number_from ?k_is_number_from ?a_is_end ?l_is_end ?c_is_end ?k_is_end ?a__law_deck ?l__law_deck ?c__law_deck ?k__law_deck ?a__law_draw ?l__law_draw ?c__law_draw ?k__law_draw ?a__law_is_within ?l__law_is_within ?c__law_is_within ?k__law_is_within ?a__law_made ?l__law_made ?c__law_made ?k__law_made ?a__law_left ?l__law_left ?c__law_left ?k__law_left ?w_Promise___init__ ?l_Promise___init__ ?c_Promise___init__ ?k_Promise___init__ ?w_Promise_latest ?rc_Promise_latest ?l_Promise_latest ?c_Promise_latest ?k_Promise_latest ?w_Promise_left ?l_Promise_left ?c_Promise_left ?k_Promise_left ?a_law ?l_law ?c_law ?k_law ?pg_Promise ?hd_Promise ?po_Promise ?sa_Promise ?na_Promise_promised ?mm_Promise ?mi_Promise ?mf_Promise ?mk_Promise ?ma_Promise_left ?mn_Promise_left ?pa_Promise_latest ?pg2_Promise_latest ?pt_Promise_latest ?cgE ?ctE ?ic_Promise ?io_Promise ?kt_Promise_list ?xL_BadEnd ?xsa_BadEnd ?xga_BadEnd ?xgg_BadEnd ?xnb_BadEnd ?xcl_BadEnd ?xco_BadEnd ?xkC_BadEnd ?xhd_BadEnd ?xiC_BadEnd ?xtC_BadEnd ?xeC_BadEnd ?ini_BadEnd ?tI_BadEnd ?lI_BadEnd ?cI_BadEnd ?kI_BadEnd ?xL_TooLate ?xsa_TooLate ?xga_TooLate ?xgg_TooLate ?xnb_TooLate ?xcl_TooLate ?xco_TooLate ?xkC_TooLate ?xhd_TooLate ?xiC_TooLate ?xtC_TooLate ?xeC_TooLate ?ini_TooLate ?tI_TooLate ?lI_TooLate ?cI_TooLate ?kI_TooLate ?kx_BadEnd_BadEnd ?kx_BadEnd_BadStart ?kx_BadEnd_BadTicks ?kx_BadEnd_TooLate ?kx_BadEnd_ValueError ?kx_TooLate_BadEnd ?kx_TooLate_BadStart ?kx_TooLate_BadTicks ?kx_TooLate_TooLate ?kx_TooLate_ValueError ?ex_BadEnd_TripError ?ex_TooLate_TripError ?v_LIMIT ?z_ValueError ?z_abs ?z_bool ?z_int ?z_isinstance ?z_len ?z_list ?z_max ?z_range ?z_repr
    (case aC_TripError => k_is); (case aC_BadTicks => k_is); (case aC_TooLate => k_is); (case aC_BadStart => k_is); (case aC_BadEnd => k_is); (case aC_Promise => k_is); (case a_is_number_from => k_is); (case l_is_number_from => k_is); (case c_is_number_from => k_is); (case k_is_number_from => k_is); (case a_is_end => k_is); (case l_is_end => k_is); (case c_is_end => k_is); (case k_is_end => k_is); (case a__law_deck => k_is); (case l__law_deck => k_is); (case c__law_deck => k_is); (case k__law_deck => k_is); (case a__law_draw => k_is); (case l__law_draw => k_is); (case c__law_draw => k_is); (case k__law_draw => k_is); (case a__law_is_within => k_is); (case l__law_is_within => k_is); (case c__law_is_within => k_is); (case k__law_is_within => k_is); (case a__law_made => k_is); (case l__law_made => k_is); (case c__law_made => k_is); (case k__law_made => k_is); (case a__law_left => k_is); (case l__law_left => k_is); (case c__law_left => k_is); (case k__law_left => k_is); (case w_Promise___init__ => k_is); (case l_Promise___init__ => k_is); (case c_Promise___init__ => k_is); (case k_Promise___init__ => k_is); (case w_Promise_latest => k_is); (case rc_Promise_latest => k_is); (case l_Promise_latest => k_is); (case c_Promise_latest => k_is); (case k_Promise_latest => k_is); (case w_Promise_left => k_is); (case l_Promise_left => k_is); (case c_Promise_left => k_is); (case k_Promise_left => k_is); (case a_law => k_is); (case l_law => k_is); (case c_law => k_is); (case k_law => k_is); (case pg_Promise => k_is); (case hd_Promise => k_is); (case po_Promise => k_is); (case sa_Promise => k_is); (case na_Promise_promised => k_is); (case mm_Promise => k_is); (case mi_Promise => k_is); (case mf_Promise => k_is); (case mk_Promise => k_is); (case ma_Promise_left => k_is); (case mn_Promise_left => k_is); (case pa_Promise_latest => k_is); (case pg2_Promise_latest => k_is); (case pt_Promise_latest => k_is); (case cgE => k_is); (case ctE => k_is); (case ic_Promise => k_is); (case io_Promise => k_is); (case kt_Promise_list => kit_is); (case xL_BadEnd => k_is); (case xsa_BadEnd => k_is); (case xga_BadEnd => k_is); (case xgg_BadEnd => k_is); (case xnb_BadEnd => k_is); (case xcl_BadEnd => k_is); (case xco_BadEnd => k_is); (case xkC_BadEnd => k_is); (case xhd_BadEnd => k_is); (case xiC_BadEnd => k_is); (case xtC_BadEnd => k_is); (case xeC_BadEnd => k_is); (case ini_BadEnd => k_is); (case tI_BadEnd => k_is); (case lI_BadEnd => k_is); (case cI_BadEnd => k_is); (case kI_BadEnd => k_is); (case xL_TooLate => k_is); (case xsa_TooLate => k_is); (case xga_TooLate => k_is); (case xgg_TooLate => k_is); (case xnb_TooLate => k_is); (case xcl_TooLate => k_is); (case xco_TooLate => k_is); (case xkC_TooLate => k_is); (case xhd_TooLate => k_is); (case xiC_TooLate => k_is); (case xtC_TooLate => k_is); (case xeC_TooLate => k_is); (case ini_TooLate => k_is); (case tI_TooLate => k_is); (case lI_TooLate => k_is); (case cI_TooLate => k_is); (case kI_TooLate => k_is); (case kx_BadEnd_BadEnd => kit_is); (case kx_BadEnd_BadStart => kit_is); (case kx_BadEnd_BadTicks => kit_is); (case kx_BadEnd_TooLate => kit_is); (case kx_BadEnd_ValueError => kit_is); (case kx_TooLate_BadEnd => kit_is); (case kx_TooLate_BadStart => kit_is); (case kx_TooLate_BadTicks => kit_is); (case kx_TooLate_TooLate => kit_is); (case kx_TooLate_ValueError => kit_is); (case ex_BadEnd_TripError => kts_exm); (case ex_TooLate_TripError => kts_exm); (case v_LIMIT => k_is); (case z_ValueError => k_is); (case z_abs => k_is); (case z_bool => k_is); (case z_int => k_is); (case z_isinstance => k_is); (case z_len => k_is); (case z_list => k_is); (case z_max => k_is); (case z_range => k_is); (case z_repr => k_is)
