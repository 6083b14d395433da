import PyProof.Rows.All
import Wide.All
import OpenK.AllK
import Wide.FinOn
import HandS.ForMost
import HandS.Wide
import HandS.TupAny
import HandS.TupMul
import HandS.Style
import HandS.Conv
import HandS.Zip
import PyProof.ReprRoads
import PyProof.SumWalkG
import PyProof.WalksMore
import KE.DataMinMax
import HandS.Evl
import PyProof.ReprBulk
import PyProof.FitsInt
import PySem.Challenge.RW_roadbikes_k02_rooms
set_option Elab.async false
set_option linter.all false
set_option maxRecDepth 100000
set_option maxHeartbeats 4000000
namespace Rb
open PySem PySem.Spec PyProof.Rows L2

/-! repr of data -/
def rRepr (K : PySem.W.Frag) : List V → Hp → VK → Prop := fun vs H Q =>
  ∃ v d, vs = [v] ∧ Dp K H v d ∧ d.showable = true ∧ d.depth ≤ 20 ∧ d.shown.length ≤ sizeLine ∧ Q (.str d.shown) H
theorem Dp.noDict {K : PySem.W.Frag} {H : Hp} : ∀ (d : PyData) (v : V), Dp K H v d → d.hasDict = false
  | .none, _, _ => by simp only [PyData.hasDict]
  | .bool _, _, _ => by simp only [PyData.hasDict]
  | .int _, _, _ => by simp only [PyData.hasDict]
  | .str _, _, _ => by simp only [PyData.hasDict]
  | .list ds, _, h => by
    cases h with
    | lst _ ha => simp only [PyData.hasDict]; exact all ds _ ha
  | .tuple ds, _, h => by
    cases h with
    | tup _ ha => simp only [PyData.hasDict]; exact all ds _ ha
  | .dict _, _, h => by cases h
where all {K : PySem.W.Frag} {H : Hp} : ∀ (ds : List PyData) (vs : List V), DpAll K H vs ds → PyData.hasDictAll ds = false
  | [], _, _ => by simp only [PyData.hasDictAll]
  | d :: ds, _, h => by
    cases h with
    | cons h1 h2 => simp only [PyData.hasDictAll, Dp.noDict d _ h1, all ds _ h2, Bool.or_false]
theorem call_reprD {X : Cx} (hg : X.A.guards = some []) (hu : X.A.units + 64 < cLine) : CallR X (.builtin "repr") (rRepr X.K) := by
  intro pins s σ H vs us Q I r h
  obtain ⟨v, d, rfl, hd, hs, hdep, hsz, q⟩ := h
  obtain ⟨u, rfl, ru⟩ := vals1 r
  obtain ⟨as, rd⟩ := Dp.reads I d v u hd ru
  cases v with
  | ref a =>
    cases ru
    refine repr_of_reads' rd hs (fun e => by rw [Dp.noDict d _ hd] at e; cases e) hg (by omega) (fun _ _ e => e) (fun h' t tk hk => ?_) hsz
    exact ⟨.str _, H, I.kept hk, ⟨_, rfl⟩, q⟩
  | int i =>
    obtain ⟨t, rfl⟩ := ru
    cases hd
    simp only [PyData.showable, decide_eq_true_eq] at hs
    simp only [PyData.shown] at q
    exact PySem.P.repr_of_int hs ⟨.str _, H, I.tok _, ⟨_, rfl⟩, q⟩
  | str x =>
    obtain ⟨t, rfl⟩ := ru
    cases hd
    simp only [PyData.shown] at q hsz
    exact PySem.P.repr_of_str ⟨.str _, H, I.tok _, ⟨_, rfl⟩, q⟩ hsz
  | bl b =>
    cases ru
    cases hd
    simp only [PyData.shown] at q
    exact PySem.P.repr_of_bool ⟨.str _, H, I.tok _, ⟨_, rfl⟩, q⟩
  | non =>
    cases ru
    cases hd
    simp only [PyData.shown] at q
    exact PySem.P.repr_of_none ⟨.str _, H, I.tok _, ⟨_, rfl⟩, q⟩
  | byt b => cases hd
  | flt b => cases hd
  | ty n => cases hd

/-! sum of a tuple of ints -/
def rSumT (K : PySem.W.Frag) : List V → Hp → VK → Prop := fun vs H Q => ∃ (a : Addr) (ns : List Int), vs = [V.ref a] ∧ SqT K H a (ns.map V.int) ∧ Q (.int ns.sum) H
theorem isTup_isTuple {h : Heap} {a : Addr} {items : Array Value} (x : IsTup h a items) : h.IsTuple a items := by
  obtain ⟨o, e, c, n, d⟩ := x
  exact ⟨o, e, c, n, d⟩
theorem cr_sumT {X : Cx} (hc : X.calm = true) : CallR X (.builtin "sum") (rSumT X.K) := by
  intro pins s σ H vs us Q I r h
  obtain ⟨a, ns, rfl, hs, q⟩ := h
  obtain ⟨its, rv, hl, _⟩ := I.tuple hs
  rw [Vals.ref1 r]
  have hi := rv.ints
  obtain ⟨xs, e⟩ := hi.allInts.items
  have hn : numsOf (intItems xs).toList = ns := by rw [← e]; exact hi.numsOf
  rw [nums_intItems] at hn
  rw [e] at hl
  have hl2 := isTup_isTuple hl
  have hh := I.ok.hd hc
  have hlt : a < s.heap.objs.size := by obtain ⟨_, e, _⟩ := hl2; exact Heap.lt_size e
  refine call_sum_walkG (wpAny_pyIter_tuple hl2 ?_)
  refine ⟨s.heap.objs.size, _, _, _, _, _, numAt xs, rfl, Walks.tuple (A := X.A.in1) hh _ a (Nat.ne_of_lt hlt) (intItems xs), ⟨⟨_, Heap.get?_push_size _ rfl, rfl, rfl⟩, hl2.push _⟩, ?_, fun _ _ => intItems_at, fun h' tk t' hk => ?_⟩
  · intro b hb
    show b < (s.heap.push _).objs.size
    rw [Heap.size_push]
    rcases List.mem_cons.mp hb with rfl | hb
    · exact Nat.lt_succ_self _
    · rcases List.mem_cons.mp hb with rfl | hb
      · exact Nat.lt_succ_of_lt hlt
      · cases hb
  · have hk2 : ∀ b o, s.heap.get? b = some o → h'.get? b = some o := fun b o eb => hk b o (fun hm => by
      simp only [List.mem_cons, List.not_mem_nil, or_false] at hm
      exact absurd (hm ▸ Heap.lt_size eb) (Nat.lt_irrefl _)) (Heap.get?_push_of_some _ eb)
    have z : preSum (numAt xs) (intItems xs).size = ns.sum := by
      rw [preSum_eq, List.take_of_length_le (by simp [intItems]), hn]
    rw [z]
    exact ⟨.int _, H, I.kept hk2, ⟨_, rfl⟩, q⟩
/-- tuple(x), x a list or a tuple -/
def rTupS (K : PySem.W.Frag) : List V → Hp → VK → Prop := fun xs H Q => ∃ p ys, xs = [.ref p] ∧ ((SqL K H p ys ∧ ∀ l, H l = none → Q (.ref l) (upd H l (.tup ys))) ∨ (SqT K H p ys ∧ Q (.ref p) H))
/-! defs that are run where no repr is under way -/
structure FnG (pr : Program) (wo : World) (K : PySem.W.Frag) (mg : Str → Option Value) (b0 : Heap) (cx : CXT) (lv : Nat) (fn : Addr) (dat : FuncData) (pars : List Str) (sp : Sp) : Prop where
  many : ∀ xs H Q E, sp xs H Q E → xs.length = pars.length
  goes : ∀ (A : Around) (out : List Env) (s : Shared) (H : Hp) (ar : Args) (us : List Value) (xs : List V) (Q : VK) (E : XK),
    Room lv A → A.guards = some [] → Env0 pr wo K mg b0 A out s H → BindsTo s dat ar (pars.zip us) → Vals xs us → sp xs H Q E →
    codeAny (model pr wo) A (.call (.ref fn) ar) (CR cx out pr wo H s Q E) s
section
variable {pr : Program} {wo : World} {K : PySem.W.Frag} {mg : Str → Option Value} {b0 : Heap} {cx : CXT} {lv : Nat} {fn : Addr} {dat : FuncData} {pars : List Str} {sp : Sp}
theorem FnG.of (F : FnOk pr wo K mg b0 cx lv fn dat pars sp) : FnG pr wo K mg b0 cx lv fn dat pars sp :=
  ⟨F.len, fun A out s H ar us xs Q E h1 _ h2 h3 h4 h5 => F.run A out s H ar us xs Q E h1 h2 h3 h4 h5⟩
end
section
variable {X : Cx} {cx : CXT} {lv : Nat} {fn : Addr} {dat : FuncData} {pars : List Str} {sp : Sp} {dv : List V} {dw : List Value} {E : XK} {nm : Str} {p1 p2 : Pos} {a0 : Expr} {as : List Expr} {ta : TA}
theorem runG {pins : List (Addr × Obj)} {σ : L2.St} {H : Hp} {s : Shared} {Q : VK} {us : List Value} {xs : List V} (F : FnG X.prog X.w X.K X.mg X.base cx lv fn dat pars sp) (gd : X.A.guards = some []) (rm : Room lv X.A)
    (bi : Binds X.K dat pars dw) (vd : Vals dv dw) (ps : Passes cx X E) (I : Inv X pins σ H s) (vx : Vals xs us) (pro : sp (xs ++ dv) H Q E) :
    wpAny (model X.prog X.w) X.A (call (.ref fn) us) (EP X pins σ Q) X.xe s := by
  have v2 : Vals (xs ++ dv) (us ++ dw) := vx.append vd
  have l2 : (us ++ dw).length = pars.length := v2.length ▸ F.many _ _ _ _ pro
  have go := F.goes X.A X.stack s H ⟨us, []⟩ (us ++ dw) (xs ++ dv) Q E rm gd I.env0 (bi s us I.kIn l2) v2 pro
  refine wpAny_call (codeAny_mono go ?_)
  intro res s2 fin
  match res, fin with
  | .error e, fin => exact ps pins σ H s e s2 I fin
  | .ok (.ret u), fin => exact I.after fin
  | .ok .next, fin => exact (fin : False).elim
  | .ok .brk, fin => exact (fin : False).elim
  | .ok .cont, fin => exact (fin : False).elim
theorem pe_callG (F : FnG X.prog X.w X.K X.mg X.base cx lv fn dat pars sp) (gd : X.A.guards = some []) (rm : Room lv X.A) (gl : Gl X nm) (at_ : X.mg nm = some (.ref fn)) (kp : PySem.W.keepIn X.K (.ref fn) = true)
    (bi : Binds X.K dat pars dw) (vd : Vals dv dw) (ps : Passes cx X E) (pa : PA X (a0 :: as) ta) (ndb : (nm == ("__debug__" : Str)) = false := by decide)
    (st1 : starEach (a0 :: as) X.env = (false, eval a0 X.env) :: starEach as X.env := by rfl) (st2 : (backTo p2 (starEach as X.env)).any (·.1) = false := by rfl) :
    PE X (.Call (.Name nm p1) (a0 :: as) [] p2) (tCall sp dv E ta) := by
  constructor
  intro pins s σ H Q I pre
  refine wpAny_Call_Name_kw (ld_glob I gl at_ ?_ ndb)
  exact PySem.W.callWith_K (h₀ := X.base) I.ok.mod.kin kp (thn (pa.run p2 pins s σ H _ I pre) fun us s1 ⟨xs, H1, I1, rx, q1⟩ => ⟨I1.kIn, runG F gd rm bi vd ps I1 rx q1⟩) st1 st2
end
section
variable {pr : Program} {wo : World} {K : PySem.W.Frag} {mg : Str → Option Value} {b0 : Heap} {lv : Nat} {sp : Sp}
theorem fnG_of {cx : CXT} {fn : Addr} {nm qn : Str} {pm : Arguments} {bd : List Stmt} {sco : Scope} {dV kV dc pv cdv ct oc : Value} {an od : Option Addr} {osl : Array (Option Value)} {NN pars : List Str}
    (at_ : K.lookup fn = some ⟨oc, od, .func (PySem.W.fnOf nm qn pm bd sco dV kV dc pv an cdv ct), osl⟩) (code : PySem.W.codeIn K cdv qn = true) (S : FnScope NN pars sco)
    (many : ∀ xs H Q E, sp xs H Q E → xs.length = pars.length)
    (body : ∀ (A : Around) (out : List Env) (s : Shared) (H : Hp) (xs : List V) (Q : VK) (E : XK), A.guards = some [] → Room lv (A.deeper (envOfC qn sco s.heap.objs.size fn cdv)) → sp xs H Q E →
      ∃ t, PSs (cxOf cx pr wo K mg b0 NN qn sco fn cdv A out s H E) bd t ∧ t { nx := fun _ H' => Q .non H', rt := Q } (start NN xs) H) :
    FnG pr wo K mg b0 cx (lv + 1) fn (PySem.W.fnOf nm qn pm bd sco dV kV dc pv an cdv ct) pars sp := by
  constructor
  · exact many
  intro A out s H ar us xs Q E rm gd e0 bi vx pro
  have old : ∀ b o, b0.get? b = some o → s.heap.get? b = some o := fun b o e => (e0.bs b o e).1
  have kin : K.In s.heap := e0.mod.kin.keeps old
  refine codeAny_call_function rm.depth (kin _ _ at_) rfl S.co S.gen rfl (PySem.W.codeRec_of kin code) (bi _ _ _ _ ?_)
  refine wpAny_newFunctionEnv_cells S.kind ?_ ?_
  · rintro ⟨n, v⟩ hy
    cases S.par n (List.of_mem_zip hy).1 with
    | inl q => exact Or.inl q
    | inr q => exact Or.inr ⟨q, PySem.W.cellsFrom_some _ _ _ (Or.inl q)⟩
  intro env he s1 ic
  subst he
  refine ⟨(e0.mod.nolimit.keeps old).keeps ic.toInCall.keep, codeAny_func ?_⟩
  obtain ⟨t, ht, rd⟩ := body A out s H xs Q E gd (rm.deeper _) pro
  have I : Inv (cxOf cx pr wo K mg b0 NN qn sco fn cdv A out s H E) [] (start NN xs) H s1 := inv_start S rm.hd e0 (many _ _ _ _ pro) vx ic
  refine wpAny_mono (ht.run [] s1 (start NN xs) H _ I rd) ?_ (fun _ _ z => z)
  intro fl s2 hs
  match fl, hs with
  | .ret u, ⟨v, σ2, H2, J, rv, q⟩ => exact ⟨v, H2, J.os, J.bare, J.base, J.hok, rv, q⟩
  | .next, ⟨σ2, H2, J, q⟩ => exact ⟨V.non, H2, J.os, J.bare, J.base, J.hok, rfl, q⟩
  | .brk, ⟨_, _, _, q⟩ => exact (q : False).elim
  | .cont, ⟨_, _, _, q⟩ => exact (q : False).elim
/-- a def of the text that is run where no repr is under way -/
theorem okG {x qn : Str} {st : Stmt} {fn : Addr} {dat : FuncData} {NN pars : List Str} (F : Fun K x qn st fn dat) (S : FnScope NN pars (defScope st)) (many : ∀ xs H Q E, sp xs H Q E → xs.length = pars.length)
    (body : ∀ (cdv : Value) (A : Around) (out : List Env) (s : Shared) (H : Hp) (xs : List V) (Q : VK) (E : XK), A.guards = some [] → Room lv (A.deeper (envOfC qn (defScope st) s.heap.objs.size fn cdv)) → sp xs H Q E →
      ∃ t, PSs (cxOf CX0 pr wo K mg b0 NN qn (defScope st) fn cdv A out s H E).nox (defBody st) t ∧ t { nx := fun _ H' => Q .non H', rt := Q } (start NN xs) H) :
    FnG pr wo K mg b0 CX0 (lv + 1) fn dat pars sp := by
  obtain ⟨oc, od, kV, dc, pv, an, cdv, ct, osl, rfl, at_, code⟩ := F.ex
  refine fnG_of at_ code S many fun A out s H xs Q E gd rm pro => ?_
  obtain ⟨t, h, q⟩ := body cdv A out s H xs Q E gd rm pro
  exact ⟨t, h.nox, q⟩
end
/-- the law's own call: the script is all that is known of the heap -/
theorem lawG {pr : Program} {wo : World} {K : PySem.W.Frag} {mg mb : Str → Option Value} {lv : Nat} {fn sc : Addr} {dat : FuncData} {x : Str} {sp : Sp} {s : Shared} {us : List Value} {ns : List Int}
    (kin : K.In s.heap) (gns : s.heap.Ns mainGlobals mg) (bns : s.heap.Ns builtinsNs mb) (boot : ∀ y : Str, y ≠ "__name__" → mb y = bootBuiltins y) (nol : s.heap.NoLimit) (ge : s.gens = #[])
    (at_ : s.heap.get? sc = some { cls := .type "list", data := .seq us.toArray }) (ia : IntsAre us ns) (few : ns.length ≤ sizeLine) (rm : Room lv callerA)
    (F : ∀ b0 : Heap, K.In b0 → b0.Ns mainGlobals mg → FnG pr wo K mg b0 CX0 lv fn dat [x] sp) (bi : ∀ (z : Shared) (u : Value), BindsTo z dat ⟨[u], []⟩ [(x, u)])
    (pro : ∀ H : Hp, SqL K H sc (ns.map V.int) → sp [.ref sc] H (fun v _ => v = .bl true) fun _ _ _ => False) :
    codeAny (model pr wo) callerA (.call (.ref fn) ⟨[.ref sc], []⟩) (fun r z => r = .ok (.ret (.bool true)) ∧ OldK s.heap z.heap ∧ z.os = s.os ∧ AllBare z.gens) s := by
  have go : ∀ H : Hp, (∀ b o, H b = some o → b = sc ∧ ∃ ob xs, o = .frz ob (.lst xs)) → SqL K H sc (ns.map V.int) → HOk pr wo H s.heap → (H sc ≠ none → K.lookup sc = none) →
      codeAny (model pr wo) callerA (.call (.ref fn) ⟨[.ref sc], []⟩) (fun r z => r = .ok (.ret (.bool true)) ∧ OldK s.heap z.heap ∧ z.os = s.os ∧ AllBare z.gens) s := by
    intro H one sq hok notK
    have dicts : ∀ {b : Addr} {o : Obj} {es : Array DictEntry} {ep : Nat}, s.heap.get? b = some o → o.data = .dict es ep → H b = none := by
      intro b o es ep e d
      match q : H b with
      | none => rfl
      | some u =>
        obtain ⟨rfl, _⟩ := one b u q
        rw [at_] at e
        cases e
        cases (show Data.seq us.toArray _ = Data.dict es ep from d)
    have names : ∀ {b : Addr} {m : Str → Option Value}, s.heap.Ns b m → (hidT s.heap H).Ns b m := by
      rintro b m ⟨o, es, ep, e, d, r⟩
      exact ⟨o, es, ep, hidT_get e (dicts e d), d, r⟩
    have kin2 : K.In (hidT s.heap H) := by
      intro b o e
      refine hidT_get (kin b o e) ?_
      match q : H b with
      | none => rfl
      | some u =>
        obtain ⟨rfl, _⟩ := one b u q
        rw [notK (by rw [q]; exact Option.some_ne_none u)] at e
        cases e
    have md : Mod K mg (hidT s.heap H) := by
      obtain ⟨mc, n1, n2⟩ := nol
      exact ⟨kin2, names gns, ⟨mb, names bns, boot⟩, ⟨mc, names n1, n2⟩⟩
    have env : Env0 pr wo K mg (hidT s.heap H) callerA [] s H :=
      { frames := rfl, mod := md, bs := fun _ _ e => of_hidT e, bsz := Nat.le_of_eq (hidT_size _ _), funs := trivial, frf := (fun _ z => nomatch z), hok := hok, bare := .of_eq ge }
    refine codeAny_mono ((F _ kin2 (names gns)).goes callerA [] s H ⟨[.ref sc], []⟩ [.ref sc] [.ref sc] _ _ rm rfl env (bi s (.ref sc)) (.cons rfl .nil) (pro H sq)) ?_
    intro res z fin
    match res, fin with
    | .error e, fin => exact (fin : False).elim
    | .ok .next, fin => exact (fin : False).elim
    | .ok .brk, fin => exact (fin : False).elim
    | .ok .cont, fin => exact (fin : False).elim
    | .ok (.ret u), ⟨v, H2, os, bare, un, hok2, rv, q⟩ =>
      cases (q : v = .bl true)
      cases (rv : u = Value.bool true)
      refine ⟨rfl, OldK.of_keep ?_, os, bare⟩
      intro b o e
      match w : H b with
      | none => exact un.keep b o e w (fun z => nomatch z) (fun z => nomatch z)
      | some uo =>
        obtain ⟨rfl, ob, xs, rfl⟩ := one b uo w
        have e1 := (hok b _ w).1
        have e2 := (hok2 b _ (un.frzs b ob _ w)).1
        exact e2.trans (e1.symm.trans e)
  have vx := vals_ints ia
  have ln := ia.length
  match kk : K.lookup sc with
  | some o =>
    have e := kin sc o kk
    rw [at_] at e
    cases e
    exact go (fun _ => none) (fun _ _ z => nomatch z) (.inr ⟨_, us.toArray, _, kk, rfl, rfl, rfl, by rw [List.size_toArray, ln]; exact few, by simpa using vx⟩) (fun _ _ z => nomatch z) (fun z => absurd rfl z)
  | none =>
    let one : HO := .frz { cls := .type "list", data := .seq us.toArray } (.lst (ns.map V.int))
    refine go (upd (fun _ => none) sc one) ?_ (.inl (.inr ⟨_, upd_same⟩)) ?_ (fun _ => kk)
    · intro b o z
      by_cases hb : b = sc
      · subst hb
        rw [upd_same] at z
        cases z
        exact ⟨rfl, _, _, rfl⟩
      · rw [upd_ne hb] at z
        cases z
    · intro b o z
      by_cases hb : b = sc
      · subst hb
        rw [upd_same] at z
        cases z
        exact ⟨at_, by rw [List.length_map]; exact few, us, _, vx, at_⟩
      · rw [upd_ne hb] at z
        cases z
/-- from the law's promise to the row's claim -/
theorem endG {l : PySem.W.OpenLaw} {n lv : Nat} {q : Program} {loose : List Str} {XP : (Str → Option Value) → Heap → Prop} {YP : World → Heap → Prop} {d : DefRec} {KK : Params → PySem.W.Frag} {sp : World → Sp} {x : Str}
    (most : l.most = some n) (few : n ≤ sizeLine) (nodef : d.params.defaults = []) (rm : Room lv callerA) (inY : ∀ (w : World) (h : Heap), YP w h → (KK w.params).In h)
    (F : ∀ (w : World) (mg : Str → Option Value) (fn : Addr) (h : Heap), (KK w.params).In h → h.Ns mainGlobals mg → mg d.name = some (.ref fn) →
      ∃ dat : FuncData, (∀ (s : Shared) (u : Value), BindsTo s dat ⟨[u], []⟩ [(x, u)]) ∧ ∀ b0 : Heap, (KK w.params).In b0 → b0.Ns mainGlobals mg → FnG l.prog w (KK w.params) mg b0 CX0 lv fn dat [x] (sp w))
    (pro : ∀ (w : World) (H : Hp) (a : Addr) (ns : List Int), ns.length ≤ n → SqL (KK w.params) H a (ns.map V.int) → sp w [.ref a] H (fun v _ => v = .bl true) fun _ _ _ => False) :
    PySem.W.WalkO q loose XP YP l.row.toRowW d [] (fun f vs => PySem.call f vs) := by
  refine Att.attach_call most nodef ?_
  intro w s0 s1 mg mb fn o pm cd dc a us ns G Y at_ dd cdd gm ob ia ln ge
  obtain ⟨dat, bi, ok⟩ := F w mg fn _ (inY w _ Y) G.T.g gm
  exact lawG (inY w _ Y) G.T.g G.T.b G.T.builtins G.T.nolimit ge ob ia (Nat.le_trans ln few) rm ok bi (fun H sq => pro w H a ns ln sq)

/-! the deck: a list of the cells and the count of draws -/
def Dk (H : Hp) (d c : Addr) (N : Int) : Prop := ∃ (cs : List Int) (n : Int), H d = some (.lst [.ref c, .int n]) ∧ H c = some (.lst (cs.map V.int)) ∧ cs.length ≤ 63 ∧ (∀ x ∈ cs, 0 ≤ x) ∧ 0 ≤ n ∧ n ≤ N
/-- all but the deck is kept -/
def Kp (d c : Addr) (H H' : Hp) : Prop := ∀ b o, H b = some o → b ≠ d → b ≠ c → H' b = some o
theorem Kp.refl {d c : Addr} {H : Hp} : Kp d c H H := fun _ _ e _ _ => e
theorem Kp.trans {d c : Addr} {H H1 H2 : Hp} (a : Kp d c H H1) (b : Kp d c H1 H2) : Kp d c H H2 := fun x o e n1 n2 => b x o (a x o e n1 n2) n1 n2
theorem Kp.ex {d c : Addr} {H H1 : Hp} (a : Evl.Ex H H1) : Kp d c H H1 := fun x o e _ _ => a x o e
theorem Kp.new {d c : Addr} {H : Hp} {p : Addr} {o : HO} (h : H p = none) : Kp d c H (upd H p o) := Kp.ex (Evl.Ex.new h)
theorem Dk.ex {H H' : Hp} {d c : Addr} {N : Int} (h : Dk H d c N) (e : Evl.Ex H H') : Dk H' d c N := by
  obtain ⟨cs, n, h1, h2, r⟩ := h
  exact ⟨cs, n, e _ _ h1, e _ _ h2, r⟩
theorem Dk.new {H : Hp} {d c p : Addr} {N : Int} {o : HO} (h : Dk H d c N) (hp : H p = none) : Dk (upd H p o) d c N := h.ex (Evl.Ex.new hp)
theorem Dk.le {H : Hp} {d c : Addr} {N M : Int} (h : Dk H d c N) (e : N ≤ M) : Dk H d c M := by
  obtain ⟨cs, n, h1, h2, h3, h4, h5, h6⟩ := h
  exact ⟨cs, n, h1, h2, h3, h4, h5, by omega⟩
theorem Dk.ne1 {H : Hp} {d c p : Addr} {N : Int} (h : Dk H d c N) (hp : H p = none) : p ≠ d := by
  obtain ⟨cs, n, h1, _⟩ := h
  rintro rfl
  rw [h1] at hp
  cases hp
theorem Dk.ne2 {H : Hp} {d c p : Addr} {N : Int} (h : Dk H d c N) (hp : H p = none) : p ≠ c := by
  obtain ⟨cs, n, _, h1, _⟩ := h
  rintro rfl
  rw [h1] at hp
  cases hp
/-- fresh behind is fresh before -/
theorem Kp.fresh {d c p : Addr} {H H' : Hp} {N : Int} (k : Kp d c H H') (h : Dk H' d c N) (hp : H' p = none) : H p = none := by
  cases e : H p with
  | none => rfl
  | some o =>
    rw [k p o e (h.ne1 hp) (h.ne2 hp)] at hp
    cases hp
/-- a new object changes: all else is kept -/
theorem Kp.mut {d c p : Addr} {H H' : Hp} {o : HO} (k : Kp d c H H') (hp : H p = none) : Kp d c H (upd H' p o) := fun b u e n1 n2 => by
  rw [upd_ne (ne_of_none e hp)]
  exact k b u e n1 n2
theorem Kp.sqT {K : PySem.W.Frag} {d c a : Addr} {H H' : Hp} {N : Int} {xs : List V} (k : Kp d c H H') (h : Dk H d c N) (hs : SqT K H a xs) : SqT K H' a xs := by
  obtain ⟨cs, n, h1, h2, _⟩ := h
  have go : ∀ u : HO, (∀ ys, u ≠ .lst ys) → H a = some u → H' a = some u := fun u nu e => k a u e
    (by rintro rfl; rw [h1] at e; exact nu _ (Option.some.inj e).symm) (by rintro rfl; rw [h2] at e; exact nu _ (Option.some.inj e).symm)
  rcases hs with (e | ⟨o, e⟩) | e
  · exact .inl (.inl (go _ (fun _ z => nomatch z) e))
  · exact .inl (.inr ⟨o, go _ (fun _ z => nomatch z) e⟩)
  · exact .inr e
theorem tupOf {K : PySem.W.Frag} {H : Hp} {a : Addr} {xs : List V} (h : H a = some (.tup xs)) : SqT K H a xs := .inl (.inl h)
theorem lstOf {K : PySem.W.Frag} {H : Hp} {a : Addr} {xs : List V} (h : H a = some (.lst xs)) : SqL K H a xs := .inl (.inl h)
theorem tupNew {K : PySem.W.Frag} {H : Hp} {a p : Addr} {xs : List V} {o : HO} (h : SqT K H a xs) (hp : H p = none) : SqT K (upd H p o) a xs := Evl.ex_t (Evl.Ex.new hp) h
/-! picks from short lists -/
theorem pick2 {x y : V} {r : Int} (h0 : 0 ≤ r) (h1 : r < 2) : ∃ v, atI [x, y] r = some v ∧ (v = x ∨ v = y) := by
  rcases (by omega : r = 0 ∨ r = 1) with rfl | rfl
  · exact ⟨x, rfl, .inl rfl⟩
  · exact ⟨y, rfl, .inr rfl⟩
theorem pick3 {x y z : V} {r : Int} (h0 : 0 ≤ r) (h1 : r < 3) : ∃ v, atI [x, y, z] r = some v ∧ (v = x ∨ v = y ∨ v = z) := by
  rcases (by omega : r = 0 ∨ r = 1 ∨ r = 2) with rfl | rfl | rfl
  · exact ⟨x, rfl, .inl rfl⟩
  · exact ⟨y, rfl, .inr (.inl rfl)⟩
  · exact ⟨z, rfl, .inr (.inr rfl)⟩
theorem pick2i {x y r : Int} (h0 : 0 ≤ r) (h1 : r < 2) : ∃ v : Int, atI [V.int x, V.int y] r = some (V.int v) ∧ (v = x ∨ v = y) := by
  rcases (by omega : r = 0 ∨ r = 1) with rfl | rfl
  · exact ⟨x, rfl, .inl rfl⟩
  · exact ⟨y, rfl, .inr rfl⟩
theorem pick3i {x y z r : Int} (h0 : 0 ≤ r) (h1 : r < 3) : ∃ v : Int, atI [V.int x, V.int y, V.int z] r = some (V.int v) ∧ (v = x ∨ v = y ∨ v = z) := by
  rcases (by omega : r = 0 ∨ r = 1 ∨ r = 2) with rfl | rfl | rfl
  · exact ⟨x, rfl, .inl rfl⟩
  · exact ⟨y, rfl, .inr (.inl rfl)⟩
  · exact ⟨z, rfl, .inr (.inr rfl)⟩
/-- an item of a list of ints by its place -/
theorem at_ints {ns : List Int} {j : Nat} (h : j < ns.length) : atI (ns.map V.int) (j : Int) = some (.int ns[j]) := by
  refine atI_nat (j := j) ?_
  rw [List.getElem?_map, List.getElem?_eq_getElem h]
  rfl
theorem sz_le {n : Nat} (h : n ≤ 100000) : n ≤ sizeLine := Evl.sz_of h
theorem sz_lt {n : Nat} (h : n < 100000) : n < sizeLine := Evl.sz_lt h
/-- slices from the beginning -/
theorem cut_to {xs : List V} {k : Nat} : cutV xs none (some (k : Int)) = xs.take k := by
  unfold cutV
  rw [HT.sIx_none, HT.sIx_nat]
  show List.take (min k xs.length - 0) (xs.drop 0) = _
  rw [List.drop_zero, Nat.sub_zero]
  rcases Nat.le_total k xs.length with h | h
  · rw [Nat.min_eq_left h]
  · rw [Nat.min_eq_right h, List.take_length, List.take_of_length_le h]
/-! a road -/
def Road (K : PySem.W.Frag) (H : Hp) (v : V) (w r : Int) (bs : List Int) : Prop := ∃ a b, v = .ref a ∧ SqT K H a [.int w, .int r, .ref b] ∧ SqT K H b (bs.map V.int)
theorem Road.kp {K : PySem.W.Frag} {d c : Addr} {H H' : Hp} {N : Int} {v : V} {w r : Int} {bs : List Int} (x : Road K H v w r bs) (k : Kp d c H H') (h : Dk H d c N) : Road K H' v w r bs := by
  obtain ⟨a, b, e, h1, h2⟩ := x
  exact ⟨a, b, e, k.sqT h h1, k.sqT h h2⟩
theorem Road.ex {K : PySem.W.Frag} {H H' : Hp} {v : V} {w r : Int} {bs : List Int} (x : Road K H v w r bs) (k : Evl.Ex H H') : Road K H' v w r bs := by
  obtain ⟨a, b, e, h1, h2⟩ := x
  exact ⟨a, b, e, Evl.ex_t k h1, Evl.ex_t k h2⟩
/-! data of ints: what repr shows -/
theorem DpAll.ints {K : PySem.W.Frag} {H : Hp} : ∀ ns : List Int, DpAll K H (ns.map V.int) (ns.map PyData.int)
  | [] => .nil
  | n :: ns => .cons (.int n) (DpAll.ints ns)
theorem Dp.tupI {K : PySem.W.Frag} {H : Hp} {a : Addr} {ns : List Int} (h : SqT K H a (ns.map V.int)) : Dp K H (.ref a) (.tuple (ns.map .int)) := .tup h (DpAll.ints ns)
def roadD (w r : Int) (bs : List Int) : PyData := .tuple [.int w, .int r, .tuple (bs.map .int)]
theorem Road.dp {K : PySem.W.Frag} {H : Hp} {v : V} {w r : Int} {bs : List Int} (x : Road K H v w r bs) : Dp K H v (roadD w r bs) := by
  obtain ⟨a, b, rfl, h1, h2⟩ := x
  exact .tup h1 (.cons (.int w) (.cons (.int r) (.cons (Dp.tupI h2) .nil)))
/-! data that repr shows: what it asks, by parts -/
structure Nice (k n : Nat) (d : PyData) : Prop where
  sh : d.showable = true
  lv : d.leavesShort 100 = true
  dep : d.depth ≤ k
  blk : d.bulk ≤ n
theorem Nice.mono {k n k' n' : Nat} {d : PyData} (h : Nice k n d) (h1 : k ≤ k') (h2 : n ≤ n') : Nice k' n' d := ⟨h.sh, h.lv, Nat.le_trans h.dep h1, Nat.le_trans h.blk h2⟩
theorem Nice.int {i : Int} (h : i.natAbs < 10 ^ 99) : Nice 0 0 (.int i) := by
  refine ⟨?_, ?_, Nat.le_refl _, Nat.le_refl _⟩
  · simp only [PyData.showable, decide_eq_true_eq]
    by_cases z : i.natAbs = 0
    · rw [z]; decide
    · refine (Nat.log2_lt z).mpr (Nat.lt_of_lt_of_le h ?_)
      decide +kernel
  · simp only [PyData.leavesShort, decide_eq_true_eq, PyData.shown]
    refine decide_eq_true ?_
    rw [PySem.ofString_length]
    exact int_text_length_le10 (k := 99) (by decide) h
theorem Nice.none : Nice 0 0 .none := ⟨rfl, rfl, Nat.le_refl _, Nat.le_refl _⟩
theorem Nice.bool {b : Bool} : Nice 0 0 (.bool b) := ⟨rfl, rfl, Nat.le_refl _, Nat.le_refl _⟩
theorem Nice.str {x : Str} {n : Nat} (h : x.cps.size ≤ n) (hx : ∀ c ∈ x.cps.toList, c < 16 ^ 8) : Nice 0 n (.str x) := by
  refine ⟨rfl, ?_, Nat.le_refl _, h⟩
  simpa only [PyData.leavesShort, List.all_eq_true, decide_eq_true_eq] using hx
theorem nice_all {k n : Nat} : ∀ {xs : List PyData}, (∀ x ∈ xs, Nice k n x) → PyData.showableAll xs = true ∧ PyData.leavesShortAll 100 xs = true ∧ PyData.depthAll xs ≤ k ∧ PyData.bulkAll xs ≤ xs.length * (n + 1)
  | [], _ => ⟨rfl, rfl, Nat.zero_le _, Nat.zero_le _⟩
  | x :: xs, h => by
    obtain ⟨a, b, c, d⟩ := nice_all (xs := xs) fun y hy => h y (List.mem_cons_of_mem _ hy)
    have hx := h x List.mem_cons_self
    refine ⟨?_, ?_, ?_, ?_⟩
    · simp only [PyData.showableAll, hx.sh, a, Bool.and_true]
    · simp only [PyData.leavesShortAll, hx.lv, b, Bool.and_true]
    · simp only [PyData.depthAll]
      exact Nat.max_le.mpr ⟨hx.dep, c⟩
    · simp only [PyData.bulkAll, List.length_cons]
      have := hx.blk
      rw [Nat.add_mul]
      omega
theorem Nice.tup {k n m : Nat} {xs : List PyData} (h : ∀ x ∈ xs, Nice k n x) (hm : xs.length * (n + 1) ≤ m) : Nice (k + 1) m (.tuple xs) := by
  obtain ⟨a, b, c, d⟩ := nice_all h
  exact ⟨by simpa only [PyData.showable] using a, by simpa only [PyData.leavesShort] using b, by simp only [PyData.depth]; omega, by simp only [PyData.bulk]; omega⟩
theorem Nice.lst {k n m : Nat} {xs : List PyData} (h : ∀ x ∈ xs, Nice k n x) (hm : xs.length * (n + 1) ≤ m) : Nice (k + 1) m (.list xs) := by
  obtain ⟨a, b, c, d⟩ := nice_all h
  exact ⟨by simpa only [PyData.showable] using a, by simpa only [PyData.leavesShort] using b, by simp only [PyData.depth]; omega, by simp only [PyData.bulk]; omega⟩
theorem Nice.ints {ns : List Int} {m : Nat} (h : ∀ i ∈ ns, i.natAbs < 10 ^ 99) (hm : ns.length ≤ m) : Nice 1 m (.tuple (ns.map .int)) := by
  refine Nice.tup (k := 0) (n := 0) (fun x hx => ?_) (by rw [List.length_map]; omega)
  obtain ⟨i, hi, rfl⟩ := List.mem_map.mp hx
  exact Nice.int (h i hi)
theorem Nice.fits {k : Nat} {d : PyData} (n : Nice k 100000 d) : d.shown.length ≤ sizeLine := by
  have e := PyData.shown_le_bulk 100 (by decide) d n.lv
  have := n.blk
  have : (16777216 : Nat) ≤ sizeLine := by decide
  omega
/-! comprehensions whose element changes nothing -/
section
variable {K : PySem.W.Frag} {te : TE} {vs : List Nat} {σ : L2.St} {H1 : Hp} {D a : Addr} {j : Nat} {Qd : Hp → Prop}
theorem lc_mapL {xs : List V} (f : V → V) (hS : SqL K H1 a xs) (nD : H1 D = none) (hw : ∀ x, wipe ((wipe σ vs).set j (some x)) vs = wipe σ vs) (hz : xs.length ≤ 90000)
    (he : ∀ (i : Nat) x H3, xs[i]? = some x → Evl.Ex H1 H3 → ∀ Q : VK, (∀ H4, Evl.Ex H3 H4 → Q (f x) H4) → te ((wipe σ vs).set j (some x)) H3 Q) (hd : ∀ H', Evl.Ex H1 H' → H' D = some (.lst (xs.map f)) → Qd H') :
    ∃ W : Nat → Nat → Hp → Prop, (∃ m, W 0 m (upd H1 D (.lst []))) ∧ ∀ i m H, W i m H →
      ((Itl K a).stop i H ∧ Qd H) ∨ ((Itl K a).go i H ∧ ∃ Nx : Hp → Prop, (∀ H', Nx H' → ∃ m', m' < m ∧ W (i + 1) m' H') ∧ ∀ x H', (Itl K a).yld i H x H' → (gName j) x (wipe σ vs) H' fun σ2 H2 => wipe σ2 vs = wipe σ vs ∧ tYes σ2 H2 fun b H3 =>
        if b = true then te σ2 H3 fun y H4 => ∃ acc, H4 D = some (.lst acc) ∧ acc.length < sizeLine ∧ Nx (upd H4 D (.lst (acc ++ [y]))) else Nx H3) := by
  refine lc_list (xs := xs) (fun i H' => Evl.Ex H1 H' ∧ H' D = some (.lst ((xs.take i).map f))) ⟨Evl.Ex.new nD, upd_same⟩ (fun i H' _ p => Evl.ex_l p.1 hS) ?_ (fun H' p => hd H' p.1 (by rw [p.2, List.take_length]))
  rintro i x H' hx ⟨p1, p2⟩
  refine ⟨hw x, ?_⟩
  show te ((wipe σ vs).set j (some x)) H' _
  refine he i x H' hx p1 _ fun H4 e4 => ⟨_, e4 _ _ p2, ?_, Evl.Ex.mut (p1.trans e4) nD, ?_⟩
  · rw [List.length_map, List.length_take]
    exact sz_lt (by omega)
  · rw [upd_same, List.take_add_one, hx, List.map_append]
    rfl
theorem lc_mapT {xs : List V} (f : V → V) (hS : SqT K H1 a xs) (nD : H1 D = none) (hw : ∀ x, wipe ((wipe σ vs).set j (some x)) vs = wipe σ vs) (hz : xs.length ≤ 90000)
    (he : ∀ (i : Nat) x H3, xs[i]? = some x → Evl.Ex H1 H3 → ∀ Q : VK, (∀ H4, Evl.Ex H3 H4 → Q (f x) H4) → te ((wipe σ vs).set j (some x)) H3 Q) (hd : ∀ H', Evl.Ex H1 H' → H' D = some (.lst (xs.map f)) → Qd H') :
    ∃ W : Nat → Nat → Hp → Prop, (∃ m, W 0 m (upd H1 D (.lst []))) ∧ ∀ i m H, W i m H →
      ((Itt K a).stop i H ∧ Qd H) ∨ ((Itt K a).go i H ∧ ∃ Nx : Hp → Prop, (∀ H', Nx H' → ∃ m', m' < m ∧ W (i + 1) m' H') ∧ ∀ x H', (Itt K a).yld i H x H' → (gName j) x (wipe σ vs) H' fun σ2 H2 => wipe σ2 vs = wipe σ vs ∧ tYes σ2 H2 fun b H3 =>
        if b = true then te σ2 H3 fun y H4 => ∃ acc, H4 D = some (.lst acc) ∧ acc.length < sizeLine ∧ Nx (upd H4 D (.lst (acc ++ [y]))) else Nx H3) := by
  refine lc_tup (xs := xs) (fun i H' => Evl.Ex H1 H' ∧ H' D = some (.lst ((xs.take i).map f))) ⟨Evl.Ex.new nD, upd_same⟩ (fun i H' _ p => Evl.ex_t p.1 hS) ?_ (fun H' p => hd H' p.1 (by rw [p.2, List.take_length]))
  rintro i x H' hx ⟨p1, p2⟩
  refine ⟨hw x, ?_⟩
  show te ((wipe σ vs).set j (some x)) H' _
  refine he i x H' hx p1 _ fun H4 e4 => ⟨_, e4 _ _ p2, ?_, Evl.Ex.mut (p1.trans e4) nD, ?_⟩
  · rw [List.length_map, List.length_take]
    exact sz_lt (by omega)
  · rw [upd_same, List.take_add_one, hx, List.map_append]
    rfl
theorem lc_mapR {n : Nat} (f : Nat → V) (nD : H1 D = none) (hw : ∀ x, wipe ((wipe σ vs).set j (some x)) vs = wipe σ vs) (hz : n ≤ 90000)
    (he : ∀ i H3, i < n → Evl.Ex H1 H3 → ∀ Q : VK, (∀ H4, Evl.Ex H3 H4 → Q (f i) H4) → te ((wipe σ vs).set j (some (.int (i : Int)))) H3 Q) (hd : ∀ H', Evl.Ex H1 H' → H' D = some (.lst ((List.range n).map f)) → Qd H') :
    ∃ W : Nat → Nat → Hp → Prop, (∃ m, W 0 m (upd H1 D (.lst []))) ∧ ∀ i m H, W i m H →
      ((Itr 0 n).stop i H ∧ Qd H) ∨ ((Itr 0 n).go i H ∧ ∃ Nx : Hp → Prop, (∀ H', Nx H' → ∃ m', m' < m ∧ W (i + 1) m' H') ∧ ∀ x H', (Itr 0 n).yld i H x H' → (gName j) x (wipe σ vs) H' fun σ2 H2 => wipe σ2 vs = wipe σ vs ∧ tYes σ2 H2 fun b H3 =>
        if b = true then te σ2 H3 fun y H4 => ∃ acc, H4 D = some (.lst acc) ∧ acc.length < sizeLine ∧ Nx (upd H4 D (.lst (acc ++ [y]))) else Nx H3) := by
  refine lc_range (lo := 0) (n := n) (fun i H' => Evl.Ex H1 H' ∧ H' D = some (.lst ((List.range i).map f))) ⟨Evl.Ex.new nD, upd_same⟩ ?_ (fun H' p => hd H' p.1 p.2)
  rintro i H' hi ⟨p1, p2⟩
  refine ⟨hw _, ?_⟩
  show te ((wipe σ vs).set j (some (.int ((0 : Int) + (i : Int))))) H' _
  rw [Int.zero_add]
  refine he i H' hi p1 _ fun H4 e4 => ⟨_, e4 _ _ p2, ?_, Evl.Ex.mut (p1.trans e4) nD, ?_⟩
  · rw [List.length_map, List.length_range]
    exact sz_lt (by omega)
  · rw [upd_same, List.range_succ, List.map_append]
    rfl
end
/-! data without lists: it never changes -/
mutual
inductive Tp (K : PySem.W.Frag) (H : Hp) : V → PyData → Prop
  | non : Tp K H .non .none
  | bl (b : Bool) : Tp K H (.bl b) (.bool b)
  | int (i : Int) : Tp K H (.int i) (.int i)
  | str (x : Str) : Tp K H (.str x) (.str x)
  | tup {a : Addr} {xs : List V} {ds : List PyData} : SqT K H a xs → TpAll K H xs ds → Tp K H (.ref a) (.tuple ds)
inductive TpAll (K : PySem.W.Frag) (H : Hp) : List V → List PyData → Prop
  | nil : TpAll K H [] []
  | cons {v : V} {vs : List V} {d : PyData} {ds : List PyData} : Tp K H v d → TpAll K H vs ds → TpAll K H (v :: vs) (d :: ds)
end
section
variable {K : PySem.W.Frag} {H H' : Hp}
mutual
theorem Tp.dp : ∀ (d : PyData) (v : V), Tp K H v d → Dp K H v d
  | .none, _, h => by cases h; exact .non
  | .bool b, _, h => by cases h; exact .bl b
  | .int i, _, h => by cases h; exact .int i
  | .str x, _, h => by cases h; exact .str x
  | .list _, _, h => by cases h
  | .dict _, _, h => by cases h
  | .tuple ds, _, h => by
    cases h with
    | tup hs ha => exact .tup hs (TpAll.dp ds _ ha)
theorem TpAll.dp : ∀ (ds : List PyData) (vs : List V), TpAll K H vs ds → DpAll K H vs ds
  | [], _, h => by cases h; exact .nil
  | d :: ds, _, h => by
    cases h with
    | cons h1 h2 => exact .cons (Tp.dp d _ h1) (TpAll.dp ds _ h2)
end
mutual
theorem Tp.keep (k : ∀ a xs, SqT K H a xs → SqT K H' a xs) : ∀ (d : PyData) (v : V), Tp K H v d → Tp K H' v d
  | .none, _, h => by cases h; exact .non
  | .bool b, _, h => by cases h; exact .bl b
  | .int i, _, h => by cases h; exact .int i
  | .str x, _, h => by cases h; exact .str x
  | .list _, _, h => by cases h
  | .dict _, _, h => by cases h
  | .tuple ds, _, h => by
    cases h with
    | tup hs ha => exact .tup (k _ _ hs) (TpAll.keep k ds _ ha)
theorem TpAll.keep (k : ∀ a xs, SqT K H a xs → SqT K H' a xs) : ∀ (ds : List PyData) (vs : List V), TpAll K H vs ds → TpAll K H' vs ds
  | [], _, h => by cases h; exact .nil
  | d :: ds, _, h => by
    cases h with
    | cons h1 h2 => exact .cons (Tp.keep k d _ h1) (TpAll.keep k ds _ h2)
end
theorem Tp.ex {v : V} {d : PyData} (h : Tp K H v d) (e : Evl.Ex H H') : Tp K H' v d := Tp.keep (fun _ _ z => Evl.ex_t e z) d v h
theorem TpAll.ex {vs : List V} {ds : List PyData} (h : TpAll K H vs ds) (e : Evl.Ex H H') : TpAll K H' vs ds := TpAll.keep (fun _ _ z => Evl.ex_t e z) ds vs h
theorem Tp.kp {d c : Addr} {N : Int} {v : V} {x : PyData} (h : Tp K H v x) (k : Kp d c H H') (dk : Dk H d c N) : Tp K H' v x := Tp.keep (fun _ _ z => k.sqT dk z) x v h
theorem TpAll.kp {d c : Addr} {N : Int} {vs : List V} {ds : List PyData} (h : TpAll K H vs ds) (k : Kp d c H H') (dk : Dk H d c N) : TpAll K H' vs ds := TpAll.keep (fun _ _ z => k.sqT dk z) ds vs h
theorem sqT_upd {D a : Addr} {ys zs xs : List V} (hD : H D = some (.lst ys)) (h : SqT K H a xs) : SqT K (upd H D (.lst zs)) a xs := by
  have go : ∀ u : HO, (∀ ys, u ≠ .lst ys) → H a = some u → upd H D (.lst zs) a = some u := fun u nu e => by
    rw [upd_ne (by rintro rfl; rw [hD] at e; exact nu _ (Option.some.inj e).symm)]
    exact e
  rcases h with (e | ⟨o, e⟩) | e
  · exact .inl (.inl (go _ (fun _ z => nomatch z) e))
  · exact .inl (.inr ⟨o, go _ (fun _ z => nomatch z) e⟩)
  · exact .inr e
theorem Tp.upd {D : Addr} {ys zs : List V} {v : V} {d : PyData} (h : Tp K H v d) (hD : H D = some (.lst ys)) : Tp K (upd H D (.lst zs)) v d := Tp.keep (fun _ _ z => sqT_upd hD z) d v h
theorem TpAll.upd {D : Addr} {ys zs : List V} {vs : List V} {ds : List PyData} (h : TpAll K H vs ds) (hD : H D = some (.lst ys)) : TpAll K (upd H D (.lst zs)) vs ds := TpAll.keep (fun _ _ z => sqT_upd hD z) ds vs h
theorem TpAll.snoc {v : V} {d : PyData} : ∀ {vs : List V} {ds : List PyData}, TpAll K H vs ds → Tp K H v d → TpAll K H (vs ++ [v]) (ds ++ [d])
  | _, _, .nil, h => .cons h .nil
  | _, _, .cons h1 h2, h => .cons h1 (TpAll.snoc h2 h)
theorem TpAll.length : ∀ {vs : List V} {ds : List PyData}, TpAll K H vs ds → vs.length = ds.length
  | _, _, .nil => rfl
  | _, _, .cons _ h => congrArg (· + 1) (TpAll.length h)
theorem TpAll.ints : ∀ ns : List Int, TpAll K H (ns.map V.int) (ns.map PyData.int)
  | [] => .nil
  | n :: ns => .cons (.int n) (TpAll.ints ns)
theorem Tp.tupI {a : Addr} {ns : List Int} (h : SqT K H a (ns.map V.int)) : Tp K H (.ref a) (.tuple (ns.map .int)) := .tup h (TpAll.ints ns)
theorem Road.tp {v : V} {w r : Int} {bs : List Int} (x : Road K H v w r bs) : Tp K H v (roadD w r bs) := by
  obtain ⟨a, b, rfl, h1, h2⟩ := x
  exact .tup h1 (.cons (.int w) (.cons (.int r) (.cons (Tp.tupI h2) .nil)))
end
/-! a comprehension over a range whose elements are such data -/
section
variable {K : PySem.W.Frag} {te : TE} {vs : List Nat} {σ : L2.St} {H1 : Hp} {D a : Addr} {j : Nat} {Qd : Hp → Prop}
theorem lc_tpR {n : Nat} (f : Nat → PyData) (nD : H1 D = none) (hw : ∀ x, wipe ((wipe σ vs).set j (some x)) vs = wipe σ vs) (hz : n ≤ 90000)
    (he : ∀ i H3, i < n → Evl.Ex H1 H3 → ∀ Q : VK, (∀ y H4, Evl.Ex H3 H4 → Tp K H4 y (f i) → Q y H4) → te ((wipe σ vs).set j (some (.int (i : Int)))) H3 Q)
    (hd : ∀ xs H', Evl.Ex H1 H' → H' D = some (.lst xs) → TpAll K H' xs ((List.range n).map f) → Qd H') :
    ∃ W : Nat → Nat → Hp → Prop, (∃ m, W 0 m (upd H1 D (.lst []))) ∧ ∀ i m H, W i m H →
      ((Itr 0 n).stop i H ∧ Qd H) ∨ ((Itr 0 n).go i H ∧ ∃ Nx : Hp → Prop, (∀ H', Nx H' → ∃ m', m' < m ∧ W (i + 1) m' H') ∧ ∀ x H', (Itr 0 n).yld i H x H' → (gName j) x (wipe σ vs) H' fun σ2 H2 => wipe σ2 vs = wipe σ vs ∧ tYes σ2 H2 fun b H3 =>
        if b = true then te σ2 H3 fun y H4 => ∃ acc, H4 D = some (.lst acc) ∧ acc.length < sizeLine ∧ Nx (upd H4 D (.lst (acc ++ [y]))) else Nx H3) := by
  refine lc_range (lo := 0) (n := n) (fun i H' => Evl.Ex H1 H' ∧ ∃ xs, H' D = some (.lst xs) ∧ TpAll K H' xs ((List.range i).map f)) ⟨Evl.Ex.new nD, [], upd_same, .nil⟩ ?_ ?_
  · rintro i H' hi ⟨p1, xs, p2, p3⟩
    refine ⟨hw _, ?_⟩
    show te ((wipe σ vs).set j (some (.int ((0 : Int) + (i : Int))))) H' _
    rw [Int.zero_add]
    refine he i H' hi p1 _ fun y H4 e4 hy => ⟨xs, e4 _ _ p2, ?_, Evl.Ex.mut (p1.trans e4) nD, xs ++ [y], upd_same, ?_⟩
    · have := p3.length
      rw [List.length_map, List.length_range] at this
      exact sz_lt (by omega)
    · rw [List.range_succ, List.map_append]
      exact TpAll.snoc ((p3.ex e4).upd (e4 _ _ p2)) (hy.upd (e4 _ _ p2))
  · rintro H' ⟨p1, xs, p2, p3⟩
    exact hd xs H' p1 p2 p3
end
def topS (i : Nat) : Stmt := PySem.Challenge.pw_roadbikes_k02_rooms.main.body.getD i (.Pass ⟨0, 0, 0, 0⟩)
abbrev s_counts_of : Stmt := topS 1
abbrev N_counts_of : List Str := ["road", "bikes", "stage"]
theorem sc_counts_of : FnScope N_counts_of ["road"] (defScope s_counts_of) := ⟨rfl, rfl, rfl, by decide +kernel, rfl, by decide +kernel, by decide +kernel⟩
abbrev s_room_of : Stmt := topS 2
abbrev N_room_of : List Str := ["road", "many", "count"]
theorem sc_room_of : FnScope N_room_of ["road", "many"] (defScope s_room_of) := ⟨rfl, rfl, rfl, by decide +kernel, rfl, by decide +kernel, by decide +kernel⟩
abbrev s__law_deck : Stmt := topS 4
abbrev N__law_deck : List Str := ["_law_script", "_law_cell"]
theorem sc__law_deck : FnScope N__law_deck ["_law_script"] (defScope s__law_deck) := ⟨rfl, rfl, rfl, by decide +kernel, rfl, by decide +kernel, by decide +kernel⟩
abbrev s__law_draw : Stmt := topS 5
abbrev N__law_draw : List Str := ["_law_deck_here", "_law_limit", "_law_cell", "_law_index"]
theorem sc__law_draw : FnScope N__law_draw ["_law_deck_here", "_law_limit"] (defScope s__law_draw) := ⟨rfl, rfl, rfl, by decide +kernel, rfl, by decide +kernel, by decide +kernel⟩
abbrev s__law_same : Stmt := topS 6
abbrev N__law_same : List Str := ["_law_value", "_law_due"]
theorem sc__law_same : FnScope N__law_same ["_law_value", "_law_due"] (defScope s__law_same) := ⟨rfl, rfl, rfl, by decide +kernel, rfl, by decide +kernel, by decide +kernel⟩
abbrev s__law_road : Stmt := topS 7
abbrev N__law_road : List Str := ["_law_deck_here", "_law_stages", "_law_most", "_law_walk", "_law_ride", "_law_count", "_law_bikes", "_law_k"]
theorem sc__law_road : FnScope N__law_road ["_law_deck_here", "_law_stages", "_law_most"] (defScope s__law_road) := ⟨rfl, rfl, rfl, by decide +kernel, rfl, by decide +kernel, by decide +kernel⟩
abbrev s_law : Stmt := topS 8
abbrev N_law : List Str := ["_law_script", "_law_deck_here", "_law_turn", "_law_road_here", "_law_before", "_law_many", "_law_due", "_law_count", "_law_number", "_law_again"]
theorem sc_law : FnScope N_law ["_law_script"] (defScope s_law) := ⟨rfl, rfl, rfl, by decide +kernel, rfl, by decide +kernel, by decide +kernel⟩
structure Tx (K : PySem.W.Frag) (mg : Str → Option Value) where
  f_counts_of : Addr
  fd_counts_of : FuncData
  F_counts_of : Fun K "counts_of" "counts_of" s_counts_of f_counts_of fd_counts_of
  g_counts_of : mg "counts_of" = some (.ref f_counts_of)
  b_counts_of : Binds K fd_counts_of ["road"] []
  f_room_of : Addr
  fd_room_of : FuncData
  F_room_of : Fun K "room_of" "room_of" s_room_of f_room_of fd_room_of
  g_room_of : mg "room_of" = some (.ref f_room_of)
  b_room_of : Binds K fd_room_of ["road", "many"] []
  f__law_deck : Addr
  fd__law_deck : FuncData
  F__law_deck : Fun K "_law_deck" "_law_deck" s__law_deck f__law_deck fd__law_deck
  g__law_deck : mg "_law_deck" = some (.ref f__law_deck)
  b__law_deck : Binds K fd__law_deck ["_law_script"] []
  f__law_draw : Addr
  fd__law_draw : FuncData
  F__law_draw : Fun K "_law_draw" "_law_draw" s__law_draw f__law_draw fd__law_draw
  g__law_draw : mg "_law_draw" = some (.ref f__law_draw)
  b__law_draw : Binds K fd__law_draw ["_law_deck_here", "_law_limit"] []
  f__law_same : Addr
  fd__law_same : FuncData
  F__law_same : Fun K "_law_same" "_law_same" s__law_same f__law_same fd__law_same
  g__law_same : mg "_law_same" = some (.ref f__law_same)
  b__law_same : Binds K fd__law_same ["_law_value", "_law_due"] []
  f__law_road : Addr
  fd__law_road : FuncData
  F__law_road : Fun K "_law_road" "_law_road" s__law_road f__law_road fd__law_road
  g__law_road : mg "_law_road" = some (.ref f__law_road)
  b__law_road : Binds K fd__law_road ["_law_deck_here", "_law_stages", "_law_most"] []
  f_law : Addr
  fd_law : FuncData
  F_law : Fun K "law" "law" s_law f_law fd_law
  g_law : mg "law" = some (.ref f_law)
  b_law : Binds K fd_law ["_law_script"] []
  z_abs : mg "abs" = none
  z_int : mg "int" = none
  z_len : mg "len" = none
  z_min : mg "min" = none
  z_range : mg "range" = none
  z_repr : mg "repr" = none
  z_sum : mg "sum" = none
  z_tuple : mg "tuple" = none

/-! ### the deck -/
section
variable {P : Program} {w : World} {K : PySem.W.Frag} {mg : Str → Option Value} {base : Heap}
def spDeck (K : PySem.W.Frag) : Sp := fun vs H Q _ => ∃ (a : Addr) (ns : List Int), vs = [.ref a] ∧ SqL K H a (ns.map V.int) ∧ ∀ d c H', Dk H' d c 0 → Evl.Ex H H' → Q (.ref d) H'
theorem ok__law_deck (T : Tx K mg) : FnOk P w K mg base CX0 1 T.f__law_deck T.fd__law_deck ["_law_script"] (spDeck K) := by
  refine T.F__law_deck.ok sc__law_deck (fun vs H Q E h => ?_) (fun cdv A outer s H vs Q E hr h => ?_)
  · obtain ⟨a, ns, rfl, _⟩ := h
    rfl
  obtain ⟨a, ns, rfl, hS, q⟩ := h
  refine ⟨_, (pss_one (ps_ret (pe_lst (pa_cons (pe_lc (own := [("_law_cell", 1)]) (g := gName 1) (tt := tYes) (by rfl) sc__law_deck.nd (pi_list (pe_slice (show SlR _ (rSlL K) from sl_list) (pv 0) po_none (po_some pe_int))) (blkOk_by (own := [("_law_cell", 1)]) (N := N__law_deck) (sc := defScope s__law_deck) (by decide +kernel)) (fun _ _ _ _ _ => (pg_name (i := 1) sc__law_deck.nd rfl (.inl rfl))) (fun _ _ _ _ _ => pts_nil) (fun _ _ _ _ _ => (pe_callB call_abs (by rfl) T.z_abs (by decide +kernel) (pa_cons (pv 1) pa_nil)))) (pa_cons pe_int pa_nil))))), ?_⟩
  refine ⟨.ref a, rfl, 63, rfl, a, ns.map V.int, rfl, hS, fun p np => ?_⟩
  have hc : cutV (ns.map V.int) none (some 63) = ((ns.take 63).map V.int) := by
    rw [show (63 : Int) = ((63 : Nat) : Int) from rfl, cut_to, List.map_take]
  rw [hc]
  refine ⟨p, rfl, ⟨_, lstOf upd_same⟩, fun D nD => ?_⟩
  refine lc_mapL (f := fun v => match v with | .int i => .int (if i < 0 then -i else i) | v => v) (lstOf upd_same) nD (fun _ => rfl) ?_ ?_ ?_
  · rw [List.length_map, List.length_take]
    omega
  · intro i x H3 hx e3 Q2 hQ
    rw [List.getElem?_map] at hx
    obtain ⟨n, _, rfl⟩ := Option.map_eq_some_iff.mp hx
    exact ⟨.int n, rfl, n, rfl, hQ H3 (Evl.Ex.refl _)⟩
  · intro H' e' hD
    refine ⟨by show 2 ≤ sizeLine; decide, fun l nl => ?_⟩
    refine q l D _ ⟨(ns.take 63).map (fun i => if i < 0 then -i else i), 0, upd_same, ?_, ?_, ?_, Int.le_refl _, Int.le_refl _⟩ ?_
    · rw [upd_ne (ne_of_none hD nl), hD, List.map_map, List.map_map]
      rfl
    · rw [List.length_map, List.length_take]
      omega
    · intro x hx
      obtain ⟨i, _, rfl⟩ := List.mem_map.mp hx
      split <;> omega
    · exact (Evl.Ex.new np).trans (e'.trans (Evl.Ex.new nl))
end

section
variable {P : Program} {w : World} {K : PySem.W.Frag} {mg : Str → Option Value} {base : Heap}
def spDraw : Sp := fun vs H Q _ => ∃ (d c : Addr) (N m : Int), vs = [.ref d, .int m] ∧ Dk H d c N ∧ N ≤ 1000000000 ∧ 0 < m ∧ m ≤ 1000000000 ∧
  ∀ r H', 0 ≤ r → r < m → Dk H' d c (N + 1) → Kp d c H H' → Q (.int r) H'
theorem ok__law_draw (T : Tx K mg) : FnOk P w K mg base CX0 1 T.f__law_draw T.fd__law_draw ["_law_deck_here", "_law_limit"] spDraw := by
  refine T.F__law_draw.ok sc__law_draw (fun vs H Q E h => ?_) (fun cdv A outer s H vs Q E hr h => ?_)
  · obtain ⟨d, c, N, m, rfl, _⟩ := h
    rfl
  obtain ⟨d, c, N, m, rfl, ⟨cs, n, hd, hc, hl, hcs, n0, nN⟩, hN, m0, m1, q⟩ := h
  refine ⟨_, (pss_cons (ps_asg (pe_op op_add (pe_ix (show IxR _ (rIxL K) from ix_list) (pv 0) pe_int (fun _ _ => rfl)) pe_int) (pg_sub (pv 0) pe_int set_list))
 (pss_cons (ps_asg (pe_tup (pa_cons pe_int (pa_cons (pe_un un_neg pe_int) pa_nil))) (pg_tup rfl (pgs_cons (pg_name (i := 2) sc__law_draw.nd rfl (.inl rfl)) (pgs_cons (pg_name (i := 3) sc__law_draw.nd rfl (.inl rfl)) pgs_nil))))
 (Evl.pss_cut (ps_if (pt_cmpR op_gt (pe_callB (show CallR _ (.builtin "len") (Evl.rLenS K) from call_len_seq) (by rfl) T.z_len PySem.boot_len (pa_cons (pe_ix (show IxR _ (rIxL K) from ix_list) (pv 0) pe_int (fun _ _ => rfl)) pa_nil)) pe_int (nomark _))
 (pss_cons (ps_set (i := 3) sc__law_draw.nd rfl (.inl rfl) (pe_op op_mod (pe_ix (show IxR _ (rIxL K) from ix_list) (pv 0) pe_int (fun _ _ => rfl)) (pe_callB (show CallR _ (.builtin "len") (Evl.rLenS K) from call_len_seq) (by rfl) T.z_len PySem.boot_len (pa_cons (pe_ix (show IxR _ (rIxL K) from ix_list) (pv 0) pe_int (fun _ _ => rfl)) pa_nil))))
 (pss_one (ps_set (i := 2) sc__law_draw.nd rfl (.inl rfl) (pe_ix (show IxR _ (rIxL K) from ix_list) (pe_ix (show IxR _ (rIxL K) from ix_list) (pv 0) pe_int (fun _ _ => rfl)) (pv 3) (fun _ _ => rfl)))))
 pss_nil)
 (pss_cons (ps_if (pt_cmpR op_ge (pv 2) (pe_op op_pow pe_int pe_int) (nomark _))
 (pss_cons (ps_asg (pe_op op_fdivW (pv 2) (pv 1)) (pg_sub (pe_ix (show IxR _ (rIxL K) from ix_list) (pv 0) pe_int (fun _ _ => rfl)) (pv 3) set_list))
 (pss_one (ps_ret (pe_op op_mod (pv 2) (pv 1)))))
 pss_nil)
 (pss_one (ps_ret (pe_op op_mod (pe_op op_fdivW (pe_op op_mod (pe_op op_pow (pe_op op_add (pe_op op_add (pe_op op_mod (pv 2) pe_int) (pe_op op_mul pe_int (pe_ix (show IxR _ (rIxL K) from ix_list) (pv 0) pe_int (fun _ _ => rfl)))) pe_int) pe_int) pe_int) pe_int) (pv 1)))))))), ?_⟩
  have ndc : d ≠ c := ne_of hd hc (by
    cases cs with
    | nil => intro z; cases z
    | cons x r => intro z; cases z)
  -- deck[1] = deck[1] + 1
  refine ⟨.ref d, rfl, d, _, 1, .int n, rfl, rfl, lstOf hd, rfl, n, 1, rfl, rfl, ?_⟩
  refine ⟨.ref d, rfl, d, _, 1, 1, rfl, rfl, hd, rfl, ?_⟩
  have hd1 : (upd H d (.lst ([V.ref c, V.int n].set 1 (.int (n + 1))))) d = some (.lst [.ref c, .int (n + 1)]) := upd_same
  have hc1 : (upd H d (.lst ([V.ref c, V.int n].set 1 (.int (n + 1))))) c = some (.lst (cs.map V.int)) := by
    rw [upd_ne ndc.symm]
    exact hc
  have kk1 : Kp d c H (upd H d (.lst ([V.ref c, V.int n].set 1 (.int (n + 1))))) := fun b o e h1 h2 => by
    rw [upd_ne h1]
    exact e
  -- cell, index = 0, -1
  refine ⟨1, rfl, by show 2 ≤ sizeLine; decide, fun t nt => ?_⟩
  refine ⟨t, [.int 0, .int (-1)], rfl, tupOf upd_same, rfl, .int 0, [.int (-1)], rfl, .int (-1), [], rfl, rfl, ?_⟩
  have hd2 := Evl.Ex.new (o := .tup [.int 0, .int (-1)]) nt _ _ hd1
  have hc2 := Evl.Ex.new (o := .tup [.int 0, .int (-1)]) nt _ _ hc1
  have kk2 := kk1.trans (Kp.new (o := .tup [.int 0, .int (-1)]) nt)
  -- if len(deck[0]) > 0
  refine ⟨fun σ' H' => ∃ cell ix : Int, σ' = [some (.ref d), some (.int m), some (.int cell), some (.int ix)] ∧ 0 ≤ cell ∧ (cell < 10 ^ 18 ∨ ∃ j : Nat, ix = (j : Int) ∧ j < cs.length) ∧
    H' d = some (.lst [.ref c, .int (n + 1)]) ∧ H' c = some (.lst (cs.map V.int)) ∧ Kp d c H H', ?_, ?_⟩
  · refine ⟨.ref d, rfl, d, _, 0, .ref c, rfl, rfl, lstOf hd2, rfl, c, _, rfl, .inl (lstOf hc2), _, 0, rfl, rfl, _, rfl, ite2 (fun e => ?_) (fun e => ?_)⟩
    · have e1 : (0 : Int) < ((cs.map V.int).length : Int) := of_decide_eq_true e
      rw [List.length_map] at e1
      refine ⟨.ref d, rfl, d, _, 1, .int (n + 1), rfl, rfl, lstOf hd2, rfl, .ref d, rfl, d, _, 0, .ref c, rfl, rfl, lstOf hd2, rfl, c, _, rfl, .inl (lstOf hc2), n + 1, _, rfl, rfl, by rw [List.length_map]; exact e1, ?_⟩
      rw [List.length_map]
      have i0 : 0 ≤ (n + 1) % (cs.length : Int) := Int.emod_nonneg _ (by omega)
      have i1 : (n + 1) % (cs.length : Int) < (cs.length : Int) := Int.emod_lt_of_pos _ e1
      obtain ⟨j, hj⟩ : ∃ j : Nat, (n + 1) % (cs.length : Int) = (j : Int) := ⟨((n + 1) % (cs.length : Int)).toNat, by omega⟩
      rw [hj] at i1
      have jl : j < cs.length := by omega
      refine ⟨.ref d, rfl, d, _, 0, .ref c, rfl, rfl, lstOf hd2, rfl, _, rfl, c, _, _, .int cs[j], rfl, rfl, lstOf hc2, (congrArg (atI (cs.map V.int)) hj).trans (at_ints jl), ?_⟩
      exact ⟨cs[j], _, rfl, hcs _ (List.getElem_mem jl), .inr ⟨j, hj, jl⟩, hd2, hc2, kk2⟩
    · exact ⟨0, -1, rfl, by decide, .inl (by decide), hd2, hc2, kk2⟩
  rintro σ' H' ⟨cell, ix, rfl, c0, cx, hd3, hc3, kk3⟩
  have dk3 : Dk H' d c (N + 1) := ⟨cs, n + 1, hd3, hc3, hl, hcs, by omega, by omega⟩
  refine ⟨.int cell, rfl, 10, 18, rfl, rfl, ⟨by decide, by decide, by decide⟩, cell, _, rfl, rfl, _, rfl, ite2 (fun e => ?_) (fun e => ?_)⟩
  · -- a great cell
    have e1 : (10 : Int) ^ 18 ≤ cell := of_decide_eq_true e
    obtain ⟨j, rfl, hj⟩ := cx.resolve_left (by omega)
    refine ⟨.int cell, rfl, .int m, rfl, cell, m, rfl, rfl, wide_div (b := 40) m0 (by omega) (by decide) (by decide), ?_⟩
    refine ⟨.ref d, rfl, d, _, 0, .ref c, rfl, rfl, lstOf hd3, rfl, .int (j : Int), rfl, c, _, (j : Int), j, rfl, rfl, hc3, Evl.ixN_nat (by rw [List.length_map]; exact hj), ?_⟩
    refine ⟨.int cell, rfl, .int m, rfl, cell, m, rfl, rfl, m0, ?_⟩
    refine q _ _ (Int.emod_nonneg _ (by omega)) (Int.emod_lt_of_pos _ m0) ⟨cs.set j (cell / m), n + 1, ?_, ?_, ?_, ?_, by omega, by omega⟩ ?_
    · rw [upd_ne ndc]
      exact hd3
    · rw [upd_same, List.map_set]
    · rw [List.length_set]
      exact hl
    · intro x hx
      rcases List.mem_or_eq_of_mem_set hx with h | rfl
      · exact hcs x h
      · exact Int.ediv_nonneg c0 (by omega)
    · intro b o eb h1 h2
      rw [upd_ne h2]
      exact kk3 b o eb h1 h2
  · -- a mixed number
    have b1 : 0 ≤ cell % 2147483587 := Int.emod_nonneg _ (by decide)
    have b2 : cell % 2147483587 < 2147483587 := Int.emod_lt_of_pos _ (by decide)
    refine ⟨.int cell, rfl, cell, 2147483587, rfl, rfl, (by show (0 : Int) < 2147483587; decide), .ref d, rfl, d, _, 1, .int (n + 1), rfl, rfl, lstOf hd3, rfl, 7919, n + 1, rfl, rfl, .inl ⟨by decide, by decide⟩, _, _, rfl, rfl, _, 1, rfl, rfl, ?_⟩
    refine ⟨_, 5, rfl, rfl, ⟨by decide, by decide, by omega⟩, _, 2147483647, rfl, rfl, (by show (0 : Int) < 2147483647; decide), _, 7, rfl, rfl, wide_div (b := 4) (by decide) (by decide) (by decide) (by decide), .int m, rfl, _, m, rfl, rfl, m0, ?_⟩
    exact q _ _ (Int.emod_nonneg _ (by omega)) (Int.emod_lt_of_pos _ m0) dk3 kk3
end

section
variable {P : Program} {w : World} {K : PySem.W.Frag} {mg : Str → Option Value} {base : Heap}
def spRoad (K : PySem.W.Frag) : Sp := fun vs H Q _ => ∃ (d c : Addr) (N st mo : Int), vs = [.ref d, .int st, .int mo] ∧ Dk H d c N ∧ N ≤ 900000000 ∧ 1 ≤ st ∧ st ≤ 12 ∧ 0 ≤ mo ∧ mo ≤ 12 ∧
  ∀ v wk rd bs H', Road K H' v wk rd bs → 2 ≤ wk → wk ≤ 1000 → 1 ≤ rd → rd < wk → 1 ≤ bs.length → (bs.length : Int) ≤ st → (∀ b ∈ bs, 0 ≤ b ∧ b ≤ mo) → Dk H' d c (N + 40) → Kp d c H H' → Q v H'
theorem ok__law_road (T : Tx K mg) : FnOk P w K mg base CX0 2 T.f__law_road T.fd__law_road ["_law_deck_here", "_law_stages", "_law_most"] (spRoad K) := by
  have G__law_draw := ok__law_draw (P := P) (w := w) (base := base) T
  refine T.F__law_road.ok sc__law_road (fun vs H Q E h => ?_) (fun cdv A outer s H vs Q E hr h => ?_)
  · obtain ⟨d, c, N, st, mo, rfl, _⟩ := h
    rfl
  obtain ⟨d, c, N, st, mo, rfl, dk, hN, st1, st2, mo1, mo2, q⟩ := h
  refine ⟨_, (pss_cons (ps_set (i := 3) sc__law_road.nd rfl (.inl rfl) (pe_op op_add pe_int (pe_call G__law_draw hr (by rfl) T.g__law_draw T.F__law_draw.kp T.b__law_draw .nil pass0 (pa_cons (pv 0) (pa_cons (pe_ix (show IxR _ (rIxL K) from ix_list) (pe_lst (pa_cons pe_int (pa_cons pe_int (pa_cons pe_int pa_nil)))) (pe_call G__law_draw hr (by rfl) T.g__law_draw T.F__law_draw.kp T.b__law_draw .nil pass0 (pa_cons (pv 0) (pa_cons pe_int pa_nil))) (fun _ _ => rfl)) pa_nil)))))
 (pss_cons (ps_set (i := 4) sc__law_road.nd rfl (.inl rfl) (pe_ix (show IxR _ (rIxL K) from ix_list) (pe_lst (pa_cons pe_int (pa_cons (pe_op op_add pe_int (pe_call G__law_draw hr (by rfl) T.g__law_draw T.F__law_draw.kp T.b__law_draw .nil pass0 (pa_cons (pv 0) (pa_cons (pe_op op_sub (pv 3) pe_int) pa_nil)))) pa_nil))) (pe_call G__law_draw hr (by rfl) T.g__law_draw T.F__law_draw.kp T.b__law_draw .nil pass0 (pa_cons (pv 0) (pa_cons pe_int pa_nil))) (fun _ _ => rfl)))
 (pss_cons (ps_par (i := 5) (j := 6) (by rfl) sc__law_road.nd rfl rfl (by decide) rfl rfl (pa_cons (pe_ix (show IxR _ (rIxL K) from ix_list) (pe_lst (pa_cons (pe_op op_add pe_int (pe_call G__law_draw hr (by rfl) T.g__law_draw T.F__law_draw.kp T.b__law_draw .nil pass0 (pa_cons (pv 0) (pa_cons (pv 1) pa_nil)))) (pa_cons (pv 1) pa_nil))) (pe_call G__law_draw hr (by rfl) T.g__law_draw T.F__law_draw.kp T.b__law_draw .nil pass0 (pa_cons (pv 0) (pa_cons pe_int pa_nil))) (fun _ _ => rfl)) (pa_cons (pe_tup pa_nil) pa_nil)) (by rfl))
 (pss_cons (ps_for PassesOwn.never rfl (pi_range1 (by rfl) T.z_range (pa_cons (pv 5) pa_nil)) (pg_name (i := 7) sc__law_road.nd rfl (.inl rfl))
 (pss_one (ps_set (i := 6) sc__law_road.nd rfl (.inl rfl) (pe_op (show OpR _ (binaryOp .Add) (rCatA K) from op_catA) (pv 6) (pe_tup (pa_cons (pe_op op_mul (pe_call G__law_draw hr (by rfl) T.g__law_draw T.F__law_draw.kp T.b__law_draw .nil pass0 (pa_cons (pv 0) (pa_cons (pe_op op_add (pv 2) pe_int) pa_nil))) (pe_ix (show IxR _ (rIxL K) from ix_list) (pe_lst (pa_cons pe_int (pa_cons (pe_callTy call_int1 (by rfl) T.z_int (by decide +kernel) (pa_cons (pe_cmpR op_eq (pv 7) pe_int (nomark _)) pa_nil)) (pa_cons pe_int pa_nil)))) (pe_call G__law_draw hr (by rfl) T.g__law_draw T.F__law_draw.kp T.b__law_draw .nil pass0 (pa_cons (pv 0) (pa_cons pe_int pa_nil))) (fun _ _ => rfl))) pa_nil))))))
 (pss_one (ps_ret (pe_tup (pa_cons (pv 3) (pa_cons (pv 4) (pa_cons (pv 6) pa_nil)))))))))), ?_⟩
  -- walk
  refine ⟨.ref d, rfl, by show 3 ≤ sizeLine; decide, fun p np => ?_⟩
  refine ⟨.ref d, rfl, d, c, N, 3, rfl, dk.new np, by omega, by decide, by decide, fun r1 H1 r1a r1b dk1 k1 => ?_⟩
  have hp1 := k1 p _ upd_same (dk.ne1 np) (dk.ne2 np)
  obtain ⟨m1, at1, m1c⟩ := pick3i (x := 4) (y := 20) (z := 999) r1a r1b
  refine ⟨p, _, r1, _, rfl, rfl, lstOf hp1, at1, d, c, N + 1, m1, rfl, dk1, by omega, by omega, by omega, fun r2 H2 r2a r2b dk2 k2 => ?_⟩
  refine ⟨2, r2, rfl, rfl, ?_⟩
  have K2 : Kp d c H H2 := (Kp.new np).trans (k1.trans k2)
  -- ride
  refine ⟨.ref d, rfl, _, rfl, 2 + r2, 1, rfl, rfl, d, c, N + 1 + 1, 2 + r2 - 1, rfl, dk2, by omega, by omega, by omega, fun r3 H3 r3a r3b dk3 k3 => ?_⟩
  refine ⟨1, r3, rfl, rfl, by show 2 ≤ sizeLine; decide, fun p2 np2 => ?_⟩
  refine ⟨.ref d, rfl, d, c, _, 2, rfl, dk3.new np2, by omega, by decide, by decide, fun r4 H4 r4a r4b dk4 k4 => ?_⟩
  obtain ⟨rd, at4, rdc⟩ := pick2i (x := 1) (y := 1 + r3) r4a r4b
  refine ⟨p2, _, r4, _, rfl, rfl, lstOf (k4 p2 _ upd_same (dk3.ne1 np2) (dk3.ne2 np2)), at4, ?_⟩
  have K4 : Kp d c H H4 := K2.trans (k3.trans ((Kp.new np2).trans k4))
  -- count, bikes
  refine ⟨.ref d, rfl, .int st, rfl, d, c, _, st, rfl, dk4, by omega, by omega, by omega, fun r5 H5 r5a r5b dk5 k5 => ?_⟩
  refine ⟨1, r5, rfl, rfl, .int st, rfl, by show 2 ≤ sizeLine; decide, fun p3 np3 => ?_⟩
  refine ⟨.ref d, rfl, d, c, _, 2, rfl, dk5.new np3, by omega, by decide, by decide, fun r6 H6 r6a r6b dk6 k6 => ?_⟩
  obtain ⟨cnt, at6, cntc⟩ := pick2i (x := 1 + r5) (y := st) r6a r6b
  refine ⟨p3, _, r6, _, rfl, rfl, lstOf (k6 p3 _ upd_same (dk5.ne1 np3) (dk5.ne2 np3)), at6, ?_⟩
  refine ⟨by show 0 ≤ sizeLine; decide, fun t0 nt0 => ⟨_, _, rfl, ?_⟩⟩
  have K6 : Kp d c H (upd H6 t0 (.tup [])) := K4.trans (k5.trans ((Kp.new np3).trans (k6.trans (Kp.new nt0))))
  have dk7 : Dk (upd H6 t0 (.tup [])) d c (N + 6) := (dk6.new nt0).le (by omega)
  have cnt1 : 1 ≤ cnt ∧ cnt ≤ st := by omega
  -- the loop
  refine ⟨.int cnt, rfl, cnt, rfl, by omega, by omega, ?_⟩
  refine for_range (lo := 0) (n := cnt.toNat) (fun i σ' H' => ∃ (t : Addr) (y7 : Option V) (bs : List Int), σ' = [some (.ref d), some (.int st), some (.int mo), some (.int (2 + r2)), some (.int rd), some (.int cnt), some (.ref t), y7] ∧ SqT K H' t (bs.map V.int) ∧ bs.length = i ∧ (∀ b ∈ bs, 0 ≤ b ∧ b ≤ mo) ∧
    Dk H' d c (N + 6 + 2 * i) ∧ Kp d c H H') ?_ ?_ ?_
  · exact ⟨t0, none, [], rfl, tupOf upd_same, rfl, (fun _ z => nomatch z), dk7.le (by omega), K6⟩
  · rintro i σ' H' hi ⟨t, y7, bs, rfl, hT, hl, hb, dki, ki⟩
    refine ⟨.ref t, rfl, .ref d, rfl, .int mo, rfl, mo, 1, rfl, rfl, d, c, _, mo + 1, rfl, dki, by omega, by omega, by omega, fun a1 H7 a1a a1b dk8 k8 => ?_⟩
    refine ⟨_, rfl, rfl, .inr ⟨_, rfl, ?_⟩⟩
    refine ⟨by show 3 ≤ sizeLine; decide, fun p4 np4 => ?_⟩
    refine ⟨.ref d, rfl, d, c, _, 3, rfl, dk8.new np4, by omega, by decide, by decide, fun a2 H8 a2a a2b dk9 k9 => ?_⟩
    obtain ⟨f, at8, fc⟩ := pick3i (x := 1) (y := if decide (V.int (0 + (i : Int)) = V.int 0) then 1 else 0) (z := 0) a2a a2b
    have fb : f = 0 ∨ f = 1 := by
      rcases fc with h | h | h
      · exact .inr h
      · rw [h]
        split
        · exact .inr rfl
        · exact .inl rfl
      · exact .inl h
    refine ⟨p4, _, a2, _, rfl, rfl, lstOf (k9 p4 _ upd_same (dk8.ne1 np4) (dk8.ne2 np4)), at8, a1, f, rfl, rfl, .inl ⟨by omega, by omega⟩, ?_⟩
    refine ⟨by show 1 ≤ sizeLine; decide, fun t2 nt2 => ?_⟩
    have kT : Kp d c H' (upd H8 t2 (.tup [.int (a1 * f)])) := k8.trans ((Kp.new np4).trans (k9.trans (Kp.new nt2)))
    have dkT : Dk (upd H8 t2 (.tup [.int (a1 * f)])) d c (N + 6 + 2 * ((i + 1 : Nat) : Int)) := (dk9.new nt2).le (by omega)
    have hT2 : SqT K (upd H8 t2 (.tup [.int (a1 * f)])) t (bs.map V.int) := kT.sqT dki hT
    have hv : 0 ≤ a1 * f ∧ a1 * f ≤ mo := by
      rcases fb with rfl | rfl
      · rw [Int.mul_zero]
        omega
      · rw [Int.mul_one]
        omega
    have hb2 : ∀ b ∈ bs ++ [a1 * f], 0 ≤ b ∧ b ≤ mo := fun b hm => by
      rcases List.mem_append.mp hm with h | h
      · exact hb b h
      · cases List.mem_singleton.mp h
        exact hv
    refine ⟨t, t2, bs.map V.int, [.int (a1 * f)], rfl, rfl, hT2, tupOf upd_same, sz_le (by rw [List.length_map]; show bs.length + 1 ≤ _; omega), fun e => ?_, (fun e z => nomatch z), fun e _ p5 np5 => ?_⟩
    · have e2 : bs = [] := List.map_eq_nil_iff.mp e
      subst e2
      exact ⟨t2, _, [a1 * f], rfl, tupOf upd_same, by rw [← hl]; rfl, hb2, dkT, ki.trans kT⟩
    · exact ⟨p5, _, bs ++ [a1 * f], rfl, by rw [List.map_append]; exact tupOf upd_same, by rw [List.length_append, hl]; rfl, hb2, dkT.new np5, ki.trans (kT.trans (Kp.new np5))⟩
  · rintro σ' H' ⟨t, y7, bs, rfl, hT, hl, hb, dki, ki⟩
    refine ⟨_, rfl, _, rfl, .ref t, rfl, by show 3 ≤ sizeLine; decide, fun rp nrp => ?_⟩
    exact q (.ref rp) (2 + r2) rd bs _ ⟨rp, t, rfl, tupOf upd_same, tupNew hT nrp⟩ (by omega) (by omega) (by omega) (by omega) (by omega) (by omega) hb ((dki.new nrp).le (by omega)) (ki.trans (Kp.new nrp))
end

section
variable {P : Program} {w : World} {K : PySem.W.Frag} {mg : Str → Option Value} {base : Heap}
def spSame (K : PySem.W.Frag) : Sp := fun vs H Q _ => ∃ (v1 v2 : V) (d : PyData), vs = [v1, v2] ∧ Dp K H v1 d ∧ Dp K H v2 d ∧ Nice 20 100000 d ∧ Q (.bl true) H
theorem ok__law_same (T : Tx K mg) : FnG P w K mg base CX0 1 T.f__law_same T.fd__law_same ["_law_value", "_law_due"] (spSame K) := by
  refine okG T.F__law_same sc__law_same (fun vs H Q E h => ?_) (fun cdv A outer s H vs Q E hg hr h => ?_)
  · obtain ⟨v1, v2, d, rfl, _⟩ := h
    rfl
  obtain ⟨v1, v2, d, rfl, h1, h2, hn, q⟩ := h
  refine ⟨_, (pss_one (ps_ret (pe_cmpR op_eq (pe_callB (show CallR _ (.builtin "repr") (rRepr K) from (call_reprD hg hr.units)) (by rfl) T.z_repr (by decide +kernel) (pa_cons (pv 0) pa_nil)) (pe_callB (show CallR _ (.builtin "repr") (rRepr K) from (call_reprD hg hr.units)) (by rfl) T.z_repr (by decide +kernel) (pa_cons (pv 1) pa_nil)) (nomark _)))), ?_⟩
  refine ⟨v1, rfl, v1, d, rfl, h1, hn.sh, hn.dep, hn.fits, v2, rfl, v2, d, rfl, h2, hn.sh, hn.dep, hn.fits, rfl, ?_⟩
  rw [decide_eq_true rfl]
  exact q
end

section
variable {P : Program} {w : World} {K : PySem.W.Frag} {mg : Str → Option Value} {base : Heap}
def countsM (bs : List Int) : List Int := (List.range bs.length).map fun k => (bs.take (k + 1)).sum
theorem sIx_to {n k : Nat} : HT.sIx n n (some (k : Int)) = min k n := HT.sIx_nat n n k
/-- sum(t[:i + 1]), t a tuple of ints -/
theorem sum_cut {b : Addr} {bs : List Int} {i : Nat} {H3 : Hp} {Q : VK} (hB : SqT K H3 b (bs.map V.int)) (hQ : ∀ H4, Evl.Ex H3 H4 → Q (.int (bs.take (i + 1)).sum) H4) :
    rSlA K (.ref b) none (some ((i : Int) + 1)) H3 fun x H4 => rSumT K [x] H4 Q := by
  have e : ((i : Int) + 1) = ((i + 1 : Nat) : Int) := by omega
  rw [e]
  refine ⟨b, bs.map V.int, rfl, hB, fun hw => ?_, fun hw p np => ?_⟩
  · have h2 := hw.2
    rw [sIx_to, List.length_map] at h2
    refine ⟨b, bs, rfl, hB, ?_⟩
    have := hQ H3 (Evl.Ex.refl _)
    rw [List.take_of_length_le (by omega)] at this
    exact this
  · rw [cut_to, ← List.map_take]
    exact ⟨p, bs.take (i + 1), rfl, tupOf upd_same, hQ _ (Evl.Ex.new np)⟩
theorem counts_le {bs : List Int} (m : Nat) (h : ∀ b ∈ bs, 0 ≤ b ∧ b ≤ (m : Int)) : ∀ c ∈ countsM bs, c.natAbs ≤ m * bs.length := by
  intro c hc
  obtain ⟨k, hk, rfl⟩ := List.mem_map.mp hc
  have go : ∀ xs : List Int, (∀ b ∈ xs, 0 ≤ b ∧ b ≤ (m : Int)) → 0 ≤ xs.sum ∧ xs.sum ≤ (m : Int) * xs.length := by
    intro xs
    induction xs with
    | nil => intro _; exact ⟨by decide, by simp⟩
    | cons x r ih =>
      intro hx
      have h1 := hx x List.mem_cons_self
      have h2 := ih fun b hb => hx b (List.mem_cons_of_mem _ hb)
      rw [List.sum_cons, List.length_cons, Int.natCast_add, Int.mul_add]
      omega
  have h1 := go (bs.take (k + 1)) fun b hb => h b (List.mem_of_mem_take hb)
  have h2 : (m : Int) * ((bs.take (k + 1)).length : Int) ≤ (m : Int) * (bs.length : Int) := by
    apply Int.mul_le_mul_of_nonneg_left
    · rw [List.length_take]
      omega
    · omega
  have h3 : ((m * bs.length : Nat) : Int) = (m : Int) * (bs.length : Int) := Int.natCast_mul _ _
  omega
def spCounts (K : PySem.W.Frag) : Sp := fun vs H Q _ => ∃ (v : V) (wk rd : Int) (bs : List Int), vs = [v] ∧ Road K H v wk rd bs ∧ bs.length ≤ 100 ∧ ∀ p H', Evl.Ex H H' → SqT K H' p ((countsM bs).map V.int) → Q (.ref p) H'
theorem ok_counts_of (T : Tx K mg) : FnOk P w K mg base CX0 1 T.f_counts_of T.fd_counts_of ["road"] (spCounts K) := by
  refine T.F_counts_of.ok sc_counts_of (fun vs H Q E h => ?_) (fun cdv A outer s H vs Q E hr h => ?_)
  · obtain ⟨v, wk, rd, bs, rfl, _⟩ := h
    rfl
  obtain ⟨v, wk, rd, bs, rfl, ⟨a, b, rfl, hA, hB⟩, hl, q⟩ := h
  refine ⟨_, (pss_cons (ps_set (i := 1) sc_counts_of.nd rfl (.inr rfl) (pe_ix (show IxR _ (rIxT K) from ix_tup) (pv 0) pe_int (fun _ _ => rfl)))
 (pss_one (ps_ret (pe_callTy (show CallR _ (.type "tuple") (rTupS K) from call_tuple_of) (by rfl) T.z_tuple (by decide +kernel) (pa_cons (pe_lc (own := [("stage", 2)]) (g := gName 2) (tt := tYes) (by rfl) sc_counts_of.nd (pi_range1 (by rfl) T.z_range (pa_cons (pe_callB (show CallR _ (.builtin "len") (Evl.rLenS K) from call_len_seq) (by rfl) T.z_len PySem.boot_len (pa_cons (pv 1) pa_nil)) pa_nil)) (blkOk_by (own := [("stage", 2)]) (N := N_counts_of) (sc := defScope s_counts_of) (by decide +kernel)) (fun _ _ _ _ _ => (pg_name (i := 2) sc_counts_of.nd rfl (.inl rfl))) (fun _ _ _ _ _ => pts_nil) (fun _ _ _ _ _ => (pe_callB (show CallR _ (.builtin "sum") (rSumT K) from (cr_sumT rfl)) (by rfl) T.z_sum (by decide +kernel) (pa_cons (pe_slice (show SlR _ (rSlA K) from sl_tupA) (pv 1) po_none (po_some (pe_op op_add (pv 2) pe_int))) pa_nil)))) pa_nil))))), ?_⟩
  refine ⟨.ref a, rfl, a, _, 2, .ref b, rfl, rfl, hA, rfl, ?_⟩
  refine ⟨.ref b, rfl, b, _, rfl, .inr hB, _, rfl, by rw [List.length_map]; omega, by rw [List.length_map]; omega, fun D nD => ?_⟩
  rw [List.length_map, Int.toNat_natCast]
  refine lc_mapR (fun k => .int (bs.take (k + 1)).sum) nD (fun _ => rfl) (by omega) (fun i H3 hi e3 Q2 hQ => ?_) (fun H' e' hD => ?_)
  · exact ⟨.ref b, rfl, .int (i : Int), rfl, (i : Int), 1, rfl, rfl, _, rfl, sum_cut (Evl.ex_t e3 hB) hQ⟩
  · refine ⟨D, _, rfl, .inl ⟨lstOf hD, fun l nl => ?_⟩⟩
    exact q l _ (e'.trans (Evl.Ex.new nl)) (tupOf (by rw [upd_same, countsM, List.map_map]; rfl))
end

section
variable {P : Program} {w : World} {K : PySem.W.Frag} {mg : Str → Option Value} {base : Heap}
def mnI (m c : Int) : Int := if m < c then m else c
def dueM (bs : List Int) (m : Int) (i : Nat) : Int := ((List.range i).map fun k => mnI m (bs.take (k + 1)).sum).sum
def roomM (bs : List Int) (m : Int) : Int := dueM bs m bs.length
theorem dueM_succ {bs : List Int} {m : Int} {i : Nat} : dueM bs m (i + 1) = dueM bs m i + mnI m (bs.take (i + 1)).sum := by
  unfold dueM
  rw [List.range_succ, List.map_append, List.sum_append]
  simp
theorem sums_nn {bs : List Int} (h : ∀ b ∈ bs, 0 ≤ b) : 0 ≤ bs.sum := by
  induction bs with
  | nil => decide
  | cons x r ih =>
    rw [List.sum_cons]
    have h1 := h x List.mem_cons_self
    have h2 := ih fun b hb => h b (List.mem_cons_of_mem _ hb)
    omega
theorem dueM_le {bs : List Int} {m : Int} (hm : 0 ≤ m) (h : ∀ b ∈ bs, 0 ≤ b) : ∀ i : Nat, 0 ≤ dueM bs m i ∧ dueM bs m i ≤ m * i
  | 0 => ⟨by simp [dueM], by simp [dueM]⟩
  | i + 1 => by
    rw [dueM_succ]
    have h1 := dueM_le hm h i
    have h2 : 0 ≤ (bs.take (i + 1)).sum := sums_nn fun b hb => h b (List.mem_of_mem_take hb)
    have h3 : 0 ≤ mnI m (bs.take (i + 1)).sum ∧ mnI m (bs.take (i + 1)).sum ≤ m := by
      unfold mnI
      split <;> omega
    rw [Int.natCast_add, Int.mul_add]
    omega
def spRoom (K : PySem.W.Frag) : Sp := fun vs H Q _ => ∃ (v : V) (wk rd m : Int) (bs : List Int), vs = [v, .int m] ∧ Road K H v wk rd bs ∧ bs.length ≤ 100 ∧ ∀ H', Evl.Ex H H' → Q (.int (roomM bs m)) H'
theorem ok_room_of (T : Tx K mg) : FnOk P w K mg base CX0 2 T.f_room_of T.fd_room_of ["road", "many"] (spRoom K) := by
  have G_counts_of := ok_counts_of (P := P) (w := w) (base := base) T
  refine T.F_room_of.ok sc_room_of (fun vs H Q E h => ?_) (fun cdv A outer s H vs Q E hr h => ?_)
  · obtain ⟨v, wk, rd, m, bs, rfl, _⟩ := h
    rfl
  obtain ⟨v, wk, rd, m, bs, rfl, hR, hl, q⟩ := h
  refine ⟨_, (pss_one (ps_ret (pe_callB (show CallR _ (.builtin "sum") (rSum K) from (cr_sum rfl)) (by rfl) T.z_sum (by decide +kernel) (pa_cons (pe_lc (own := [("count", 2)]) (g := gName 2) (tt := tYes) (by rfl) sc_room_of.nd (pi_tup (pe_call G_counts_of hr (by rfl) T.g_counts_of T.F_counts_of.kp T.b_counts_of .nil pass0 (pa_cons (pv 0) pa_nil))) (blkOk_by (own := [("count", 2)]) (N := N_room_of) (sc := defScope s_room_of) (by decide +kernel)) (fun _ _ _ _ _ => (pg_name (i := 2) sc_room_of.nd rfl (.inl rfl))) (fun _ _ _ _ _ => pts_nil) (fun _ _ _ _ _ => (pe_callB (call_min2 rfl) (by rfl) T.z_min (by decide +kernel) (pa_cons (pv 2) (pa_cons (pv 1) pa_nil))))) pa_nil)))), ?_⟩
  refine ⟨v, rfl, v, wk, rd, bs, rfl, hR, hl, fun p H1 e1 hT => ?_⟩
  refine ⟨p, rfl, ⟨_, hT⟩, fun D nD => ?_⟩
  refine lc_mapT (f := fun v => match v with | .int c => .int (mnI m c) | v => v) hT nD (fun _ => rfl) ?_ ?_ ?_
  · simp only [countsM, List.length_map, List.length_range]
    omega
  · intro i x H3 hx e3 Q2 hQ
    rw [List.getElem?_map] at hx
    obtain ⟨n, _, rfl⟩ := Option.map_eq_some_iff.mp hx
    exact ⟨.int n, rfl, .int m, rfl, n, m, rfl, hQ H3 (Evl.Ex.refl _)⟩
  · intro H' e' hD
    refine ⟨D, (countsM bs).map (mnI m), rfl, lstOf (by rw [hD, List.map_map, List.map_map]; rfl), ?_⟩
    have e : ((countsM bs).map (mnI m)).sum = roomM bs m := by
      unfold roomM dueM countsM
      rw [List.map_map]
      rfl
    rw [e]
    exact q _ (e1.trans e')
end

section
variable {P : Program} {w : World} {K : PySem.W.Frag} {mg : Str → Option Value} {base : Heap}
def spLaw (K : PySem.W.Frag) : Sp := fun vs H Q _ => ∃ (a : Addr) (ns : List Int), vs = [.ref a] ∧ SqL K H a (ns.map V.int) ∧ ∀ H', Q (.bl true) H'
theorem ok_law (T : Tx K mg) : FnG P w K mg base CX0 3 T.f_law T.fd_law ["_law_script"] (spLaw K) := by
  have G__law_deck := ok__law_deck (P := P) (w := w) (base := base) T
  have G__law_road := ok__law_road (P := P) (w := w) (base := base) T
  have G__law_same := ok__law_same (P := P) (w := w) (base := base) T
  have G_room_of := ok_room_of (P := P) (w := w) (base := base) T
  refine okG T.F_law sc_law (fun vs H Q E h => ?_) (fun cdv A outer s H vs Q E hg hr h => ?_)
  · obtain ⟨a, ns, rfl, _⟩ := h
    rfl
  obtain ⟨a, ns, rfl, hS, q⟩ := h
  refine ⟨_, (pss_cons (ps_set (i := 1) sc_law.nd rfl (.inl rfl) (pe_call G__law_deck (hr.mono (by decide)) (by rfl) T.g__law_deck T.F__law_deck.kp T.b__law_deck .nil pass0 (pa_cons (pv 0) pa_nil)))
 (pss_cons (ps_for PassesOwn.never rfl (pi_range1 (by rfl) T.z_range (pa_cons pe_int pa_nil)) (pg_name (i := 2) sc_law.nd rfl (.inl rfl))
 (pss_cons (ps_set (i := 3) sc_law.nd rfl (.inr rfl) (pe_call G__law_road hr (by rfl) T.g__law_road T.F__law_road.kp T.b__law_road .nil pass0 (pa_cons (pv 1) (pa_cons (pe_ix (show IxR _ (rIxL K) from ix_list) (pe_lst (pa_cons pe_int (pa_cons pe_int (pa_cons pe_int pa_nil)))) (pe_op op_mod (pv 2) pe_int) (fun _ _ => rfl)) (pa_cons (pe_ix (show IxR _ (rIxL K) from ix_list) (pe_lst (pa_cons pe_int (pa_cons pe_int (pa_cons pe_int pa_nil)))) (pe_op op_fdivW (pv 2) pe_int) (fun _ _ => rfl)) pa_nil)))))
 (pss_cons (ps_set (i := 4) sc_law.nd rfl (.inl rfl) (pe_callB (show CallR _ (.builtin "repr") (rRepr K) from (call_reprD hg hr.units)) (by rfl) T.z_repr (by decide +kernel) (pa_cons (pv 3) pa_nil)))
 (pss_one (ps_for PassesOwn.never rfl (pi_range1 (by rfl) T.z_range (pa_cons pe_int pa_nil)) (pg_name (i := 5) sc_law.nd rfl (.inr rfl))
 (pss_cons (ps_asg (pe_tup (pa_cons pe_int (pa_cons pe_int pa_nil))) (pg_tup rfl (pgs_cons (pg_name (i := 6) sc_law.nd rfl (.inl rfl)) (pgs_cons (pg_name (i := 7) sc_law.nd rfl (.inl rfl)) pgs_nil))))
 (pss_cons (ps_for PassesOwn.never rfl (pi_tup (pe_ix (show IxR _ (rIxT K) from ix_tup) (pv 3) pe_int (fun _ _ => rfl))) (pg_name (i := 8) sc_law.nd rfl (.inl rfl))
 (pss_cons (ps_set (i := 7) sc_law.nd rfl (.inl rfl) (pe_op op_add (pv 7) (pv 8)))
 (pss_one (ps_set (i := 6) sc_law.nd rfl (.inl rfl) (pe_op op_add (pv 6) (pe_callB (call_min2 rfl) (by rfl) T.z_min (by decide +kernel) (pa_cons (pv 5) (pa_cons (pv 7) pa_nil))))))))
 (pss_one (ps_if (PW.pt (pw_or (pt_not (pt_val (pe_callG G__law_same hg (hr.mono (by decide)) (by rfl) T.g__law_same T.F__law_same.kp T.b__law_same .nil pass0 (pa_cons (pe_lc (own := [("_law_again", 9)]) (g := gName 9) (tt := tYes) (by rfl) sc_law.nd (pi_range1 (by rfl) T.z_range (pa_cons pe_int pa_nil)) (blkOk_by (own := [("_law_again", 9)]) (N := N_law) (sc := defScope s_law) (by decide +kernel)) (fun _ _ _ _ _ => (pg_name (i := 9) sc_law.nd rfl (.inl rfl))) (fun _ _ _ _ _ => pts_nil) (fun _ _ _ _ _ => (pe_call G_room_of hr (by rfl) T.g_room_of T.F_room_of.kp T.b_room_of .nil pass0 (pa_cons (pv 3) (pa_cons (pv 5) pa_nil))))) (pa_cons (pe_lst (pa_cons (pv 6) (pa_cons (pv 6) pa_nil))) pa_nil))))) (pw_or1 (pt_cmpR op_ne (pe_callB (show CallR _ (.builtin "repr") (rRepr K) from (call_reprD hg hr.units)) (by rfl) T.z_repr (by decide +kernel) (pa_cons (pv 3) pa_nil)) (pv 4) (nomark _)))))
 (pss_one (ps_ret pe_bl))
 pss_nil)))))))))
 (pss_one (ps_ret (pe_cmpR op_eq (pe_call G_room_of hr (by rfl) T.g_room_of T.F_room_of.kp T.b_room_of .nil pass0 (pa_cons (pe_tup (pa_cons pe_int (pa_cons pe_int (pa_cons (pe_op (show OpR _ (binaryOp .Mult) (rRepT K) from op_repT) (pe_tup (pa_cons pe_int pa_nil)) pe_int) pa_nil)))) (pa_cons pe_int pa_nil))) pe_int (nomark _)))))), ?_⟩
  refine ⟨.ref a, rfl, a, ns, rfl, hS, fun d c H1 dk e1 => ?_⟩
  refine ⟨9, rfl, by decide, by decide, ?_⟩
  refine for_range (lo := 0) (n := 9) (fun i σ' H' => ∃ (y2 y3 y4 y5 y6 y7 y8 y9 : Option V), σ' = [some (.ref a), some (.ref d), y2, y3, y4, y5, y6, y7, y8, y9] ∧ Dk H' d c (40 * i)) ?_ ?_ ?_
  · exact ⟨none, none, none, none, none, none, none, none, rfl, dk⟩
  · rintro i σ' H' hi ⟨y2, y3, y4, y5, y6, y7, y8, y9, rfl, dki⟩
    -- road
    refine ⟨.ref d, rfl, by show 3 ≤ sizeLine; decide, fun p1 np1 => ?_⟩
    obtain ⟨st, at1, stc⟩ := pick3i (x := 12) (y := 3) (z := 6) (r := (0 + (i : Int)) % 3) (Int.emod_nonneg _ (by decide)) (Int.emod_lt_of_pos _ (by decide))
    refine ⟨_, rfl, 0 + (i : Int), 3, rfl, rfl, by show (0 : Int) < 3; decide, p1, _, _, _, rfl, rfl, lstOf upd_same, at1, ?_⟩
    refine ⟨by show 3 ≤ sizeLine; decide, fun p2 np2 => ?_⟩
    obtain ⟨mo, at2, moc⟩ := pick3i (x := 12) (y := 1) (z := 3) (r := (0 + (i : Int)) / 3) (by omega) (by omega)
    refine ⟨_, rfl, 0 + (i : Int), 3, rfl, rfl, wide_div (b := 4) (by decide) (by decide) (by decide) (by decide), p2, _, _, _, rfl, rfl, lstOf upd_same, at2, ?_⟩
    refine ⟨d, c, _, st, mo, rfl, (dki.new np1).new np2, by omega, by omega, by omega, by omega, by omega, fun v wk rd bs H2 hR w1 w2 r1 r2 l1 l2 hb dk2 k2 => ?_⟩
    have nR : Nice 20 100000 (roadD wk rd bs) := by
      refine Nice.mono (Nice.tup (k := 1) (n := 12) (m := 100) (fun x hx => ?_) (by show 3 * (12 + 1) ≤ 100; decide)) (by decide) (by decide)
      simp only [List.mem_cons, List.not_mem_nil, or_false] at hx
      rcases hx with rfl | rfl | rfl
      · exact (Nice.int (by omega)).mono (by decide) (by decide)
      · exact (Nice.int (by omega)).mono (by decide) (by decide)
      · exact Nice.ints (fun b hm => by have := hb b hm; omega) (by omega)
    -- before
    refine ⟨v, rfl, v, _, rfl, hR.dp, nR.sh, nR.dep, nR.fits, ?_⟩
    obtain ⟨ra, rb, rfl, hA, hB⟩ := id hR
    -- for many
    refine ⟨11, rfl, by decide, by decide, ?_⟩
    refine for_range (lo := 0) (n := 11) (fun j σ' H' => ∃ (y2 y5 y6 y7 y8 y9 : Option V), σ' = [some (.ref a), some (.ref d), y2, some (.ref ra), some (.str (roadD wk rd bs).shown), y5, y6, y7, y8, y9] ∧ Evl.Ex H2 H') ?_ ?_ ?_
    · exact ⟨_, _, _, _, _, _, rfl, Evl.Ex.refl _⟩
    · rintro j σ' H3 hj ⟨y2, y5, y6, y7, y8, y9, rfl, e3⟩
      -- due, count = 0, 0
      refine ⟨by show 2 ≤ sizeLine; decide, fun t nt => ?_⟩
      refine ⟨t, [.int 0, .int 0], rfl, tupOf upd_same, rfl, .int 0, [.int 0], rfl, .int 0, [], rfl, rfl, ?_⟩
      have e4 := e3.trans (Evl.Ex.new (o := .tup [.int 0, .int 0]) nt)
      -- for number in road[2]
      refine ⟨.ref ra, rfl, ra, _, 2, .ref rb, rfl, rfl, Evl.ex_t e4 hA, rfl, rb, rfl, ⟨_, Evl.ex_t e4 hB⟩, ?_⟩
      refine for_tup (xs := bs.map V.int) (fun k σ' H' => ∃ (y2 y8 y9 : Option V), σ' = [some (.ref a), some (.ref d), y2, some (.ref ra), some (.str (roadD wk rd bs).shown), some (.int (0 + (j : Int))), some (.int (dueM bs (0 + (j : Int)) k)), some (.int (bs.take k).sum), y8, y9] ∧ Evl.Ex H2 H') ?_ ?_ ?_ ?_
      · exact ⟨_, _, _, rfl, e4⟩
      · rintro k σ' H' hk ⟨_, _, _, _, e5⟩
        exact Evl.ex_t e5 hB
      · rintro k x σ' H5 hx ⟨y2, y8, y9, rfl, e5⟩
        rw [List.getElem?_map] at hx
        obtain ⟨b, hb1, rfl⟩ := Option.map_eq_some_iff.mp hx
        have es : (bs.take (k + 1)).sum = (bs.take k).sum + b := by
          rw [List.take_add_one, hb1, List.sum_append]
          simp
        refine ⟨_, rfl, .int b, rfl, (bs.take k).sum, b, rfl, rfl, ?_⟩
        refine ⟨_, rfl, .int (0 + (j : Int)), rfl, _, rfl, 0 + (j : Int), _, rfl, _, _, rfl, rfl, ?_⟩
        refine ⟨y2, some (.int b), y9, ?_, e5⟩
        rw [dueM_succ, es]
        have em : mnI (0 + (j : Int)) ((bs.take k).sum + b) = if (bs.take k).sum + b < 0 + (j : Int) then (bs.take k).sum + b else 0 + (j : Int) := by
          unfold mnI
          split <;> split <;> omega
        rw [em]
        rfl
      · rintro σ' H5 ⟨y2, y8, y9, rfl, e5⟩
        rw [List.length_map]
        have bd := dueM_le (m := 0 + (j : Int)) (by omega) (fun b hm => (hb b hm).1) bs.length
        have bd2 : (0 + (j : Int)) * (bs.length : Int) ≤ 11 * 12 := Int.mul_le_mul (by omega) (by omega) (by omega) (by decide)
        -- the test
        refine ⟨2, rfl, by decide, by decide, fun D2 nD2 => ?_⟩
        refine lc_tpR (K := K) (n := 2) (fun _ => .int (roomM bs (0 + (j : Int)))) nD2 (fun _ => rfl) (by decide) (fun i H6 hi e6 Q2 hQ => ?_) (fun xs H6 e6 hD2 hX => ?_)
        · exact ⟨.ref ra, rfl, .int (0 + (j : Int)), rfl, .ref ra, wk, rd, 0 + (j : Int), bs, rfl, hR.ex (e5.trans e6), by omega, fun H7 e7 => hQ _ _ e7 (.int _)⟩
        refine ⟨_, rfl, _, rfl, by show 2 ≤ sizeLine; decide, fun p3 np3 => ?_⟩
        have e7 := Evl.Ex.new (o := .lst [.int (dueM bs (0 + (j : Int)) bs.length), .int (dueM bs (0 + (j : Int)) bs.length)]) np3
        have nS : Nice 20 100000 (.list [.int (roomM bs (0 + (j : Int))), .int (roomM bs (0 + (j : Int)))]) := by
          refine Nice.mono (Nice.lst (k := 0) (n := 0) (m := 1000) (fun x hx => ?_) (by show 2 * (0 + 1) ≤ 1000; decide)) (by decide) (by decide)
          simp only [List.mem_cons, List.not_mem_nil, or_false, or_self] at hx
          cases hx
          refine Nice.int ?_
          unfold roomM
          omega
        refine ⟨.ref D2, .ref p3, _, rfl, .lst (lstOf (e7 _ _ hD2)) (TpAll.dp _ _ (hX.ex e7)), .lst (lstOf upd_same) (.cons (.int _) (.cons (.int _) .nil)), nS, true, rfl, iteF ?_⟩
        have hR6 := hR.ex (e5.trans (e6.trans e7))
        refine ⟨.ref ra, rfl, .ref ra, _, rfl, hR6.dp, nR.sh, nR.dep, nR.fits, _, rfl, rfl, _, rfl, ?_⟩
        rw [decide_eq_true rfl]
        refine iteF ?_
        exact ⟨_, _, _, _, _, _, rfl, e5.trans (e6.trans e7)⟩
    · rintro σ' H3 ⟨y2, y5, y6, y7, y8, y9, rfl, e3⟩
      exact ⟨_, _, _, _, _, _, _, _, rfl, (dk2.ex e3).le (by omega)⟩
  · rintro σ' H' ⟨y2, y3, y4, y5, y6, y7, y8, y9, rfl, dki⟩
    refine ⟨by show 1 ≤ sizeLine; decide, fun t1 nt1 => ?_⟩
    refine ⟨t1, 12, [.int 12], rfl, rfl, tupOf upd_same, by simp, by decide, by decide, by decide, fun p np => ?_⟩
    refine ⟨by show 3 ≤ sizeLine; decide, fun t2 nt2 => ?_⟩
    refine ⟨.ref t2, 2, 1, 10, List.replicate 12 12, rfl, ⟨t2, p, rfl, tupOf upd_same, tupOf (Evl.Ex.new nt2 _ _ upd_same)⟩, by decide, fun H5 e5 => ?_⟩
    refine ⟨rfl, ?_⟩
    rw [show decide (V.int (roomM (List.replicate 12 12) 10) = V.int 120) = true by decide]
    exact q _
end

theorem all_mk {l : PySem.W.OpenLaw} {w : World} {K : PySem.W.Frag} {h : Heap} {mg : Str → Option Value} {fa : Addr} (X : K.In h) (G : h.Ns mainGlobals mg) (hfa : mg "law" = some (.ref fa))
    {f0 : Addr} {od0 an0 : Option Addr} {sl0 : Array (Option Value)} {oc0 kV0 dc0 pm0 cd0 ct0 : Value}
    (a0 : PySem.W.nsIn K mainGlobals "counts_of" = some (some (.ref f0)))
    (l0 : K.lookup f0 = some ⟨oc0, od0, .func (PySem.W.fnOf "counts_of" "counts_of" (defArgs s_counts_of) (defBody s_counts_of) (defScope s_counts_of) .none kV0 dc0 pm0 an0 cd0 ct0), sl0⟩)
    (c0 : PySem.W.codeIn K cd0 "counts_of" = true) (k0 : PySem.W.keepIn K (.ref f0) = true)
    {f1 : Addr} {od1 an1 : Option Addr} {sl1 : Array (Option Value)} {oc1 kV1 dc1 pm1 cd1 ct1 : Value}
    (a1 : PySem.W.nsIn K mainGlobals "room_of" = some (some (.ref f1)))
    (l1 : K.lookup f1 = some ⟨oc1, od1, .func (PySem.W.fnOf "room_of" "room_of" (defArgs s_room_of) (defBody s_room_of) (defScope s_room_of) .none kV1 dc1 pm1 an1 cd1 ct1), sl1⟩)
    (c1 : PySem.W.codeIn K cd1 "room_of" = true) (k1 : PySem.W.keepIn K (.ref f1) = true)
    {f2 : Addr} {od2 an2 : Option Addr} {sl2 : Array (Option Value)} {oc2 kV2 dc2 pm2 cd2 ct2 : Value}
    (a2 : PySem.W.nsIn K mainGlobals "_law_deck" = some (some (.ref f2)))
    (l2 : K.lookup f2 = some ⟨oc2, od2, .func (PySem.W.fnOf "_law_deck" "_law_deck" (defArgs s__law_deck) (defBody s__law_deck) (defScope s__law_deck) .none kV2 dc2 pm2 an2 cd2 ct2), sl2⟩)
    (c2 : PySem.W.codeIn K cd2 "_law_deck" = true) (k2 : PySem.W.keepIn K (.ref f2) = true)
    {f3 : Addr} {od3 an3 : Option Addr} {sl3 : Array (Option Value)} {oc3 kV3 dc3 pm3 cd3 ct3 : Value}
    (a3 : PySem.W.nsIn K mainGlobals "_law_draw" = some (some (.ref f3)))
    (l3 : K.lookup f3 = some ⟨oc3, od3, .func (PySem.W.fnOf "_law_draw" "_law_draw" (defArgs s__law_draw) (defBody s__law_draw) (defScope s__law_draw) .none kV3 dc3 pm3 an3 cd3 ct3), sl3⟩)
    (c3 : PySem.W.codeIn K cd3 "_law_draw" = true) (k3 : PySem.W.keepIn K (.ref f3) = true)
    {f4 : Addr} {od4 an4 : Option Addr} {sl4 : Array (Option Value)} {oc4 kV4 dc4 pm4 cd4 ct4 : Value}
    (a4 : PySem.W.nsIn K mainGlobals "_law_same" = some (some (.ref f4)))
    (l4 : K.lookup f4 = some ⟨oc4, od4, .func (PySem.W.fnOf "_law_same" "_law_same" (defArgs s__law_same) (defBody s__law_same) (defScope s__law_same) .none kV4 dc4 pm4 an4 cd4 ct4), sl4⟩)
    (c4 : PySem.W.codeIn K cd4 "_law_same" = true) (k4 : PySem.W.keepIn K (.ref f4) = true)
    {f5 : Addr} {od5 an5 : Option Addr} {sl5 : Array (Option Value)} {oc5 kV5 dc5 pm5 cd5 ct5 : Value}
    (a5 : PySem.W.nsIn K mainGlobals "_law_road" = some (some (.ref f5)))
    (l5 : K.lookup f5 = some ⟨oc5, od5, .func (PySem.W.fnOf "_law_road" "_law_road" (defArgs s__law_road) (defBody s__law_road) (defScope s__law_road) .none kV5 dc5 pm5 an5 cd5 ct5), sl5⟩)
    (c5 : PySem.W.codeIn K cd5 "_law_road" = true) (k5 : PySem.W.keepIn K (.ref f5) = true)
    {f6 : Addr} {od6 an6 : Option Addr} {sl6 : Array (Option Value)} {oc6 kV6 dc6 pm6 cd6 ct6 : Value}
    (a6 : PySem.W.nsIn K mainGlobals "law" = some (some (.ref f6)))
    (l6 : K.lookup f6 = some ⟨oc6, od6, .func (PySem.W.fnOf "law" "law" (defArgs s_law) (defBody s_law) (defScope s_law) .none kV6 dc6 pm6 an6 cd6 ct6), sl6⟩)
    (c6 : PySem.W.codeIn K cd6 "law" = true) (k6 : PySem.W.keepIn K (.ref f6) = true)
    (z0 : PySem.W.nsIn K mainGlobals "abs" = some none)
    (z1 : PySem.W.nsIn K mainGlobals "int" = some none)
    (z2 : PySem.W.nsIn K mainGlobals "len" = some none)
    (z3 : PySem.W.nsIn K mainGlobals "min" = some none)
    (z4 : PySem.W.nsIn K mainGlobals "range" = some none)
    (z5 : PySem.W.nsIn K mainGlobals "repr" = some none)
    (z6 : PySem.W.nsIn K mainGlobals "sum" = some none)
    (z7 : PySem.W.nsIn K mainGlobals "tuple" = some none)
    : ∃ fd : FuncData, (∀ (s : Shared) (v : Value), BindsTo s fd ⟨[v], []⟩ [("_law_script", v)]) ∧ ∀ base : Heap, K.In base → base.Ns mainGlobals mg → FnG l.prog w K mg base CX0 3 fa fd ["_law_script"] (spLaw K) := by
  cases hfa.symm.trans (PySem.W.mg_of X G a6)
  have F0 := fun_mk (st := s_counts_of) l0 c0 k0
  have b0 := F0.binds (ps := ["road"]) fun _ _ _ _ _ _ us hl => match us, hl with | [_], _ => rfl
  have F1 := fun_mk (st := s_room_of) l1 c1 k1
  have b1 := F1.binds (ps := ["road", "many"]) fun _ _ _ _ _ _ us hl => match us, hl with | [_, _], _ => rfl
  have F2 := fun_mk (st := s__law_deck) l2 c2 k2
  have b2 := F2.binds (ps := ["_law_script"]) fun _ _ _ _ _ _ us hl => match us, hl with | [_], _ => rfl
  have F3 := fun_mk (st := s__law_draw) l3 c3 k3
  have b3 := F3.binds (ps := ["_law_deck_here", "_law_limit"]) fun _ _ _ _ _ _ us hl => match us, hl with | [_, _], _ => rfl
  have F4 := fun_mk (st := s__law_same) l4 c4 k4
  have b4 := F4.binds (ps := ["_law_value", "_law_due"]) fun _ _ _ _ _ _ us hl => match us, hl with | [_, _], _ => rfl
  have F5 := fun_mk (st := s__law_road) l5 c5 k5
  have b5 := F5.binds (ps := ["_law_deck_here", "_law_stages", "_law_most"]) fun _ _ _ _ _ _ us hl => match us, hl with | [_, _, _], _ => rfl
  have F6 := fun_mk (st := s_law) l6 c6 k6
  have b6 := F6.binds (ps := ["_law_script"]) fun _ _ _ _ _ _ us hl => match us, hl with | [_], _ => rfl
  exact ⟨_, fun s v => .of_eq rfl, fun base _ _ => ok_law (⟨_, _, F0, PySem.W.mg_of X G a0, b0, _, _, F1, PySem.W.mg_of X G a1, b1, _, _, F2, PySem.W.mg_of X G a2, b2, _, _, F3, PySem.W.mg_of X G a3, b3, _, _, F4, PySem.W.mg_of X G a4, b4, _, _, F5, PySem.W.mg_of X G a5, b5, _, _, F6, PySem.W.mg_of X G a6, b6, PySem.W.mg_none_of X G z0, PySem.W.mg_none_of X G z1, PySem.W.mg_none_of X G z2, PySem.W.mg_none_of X G z3, PySem.W.mg_none_of X G z4, PySem.W.mg_none_of X G z5, PySem.W.mg_none_of X G z6, PySem.W.mg_none_of X G z7⟩ : Tx K mg)⟩
end Rb
open PySem PySem.W PyProof.Rows
set_option maxHeartbeats 0 in
theorem PySem.Challenge.cw_roadbikes_k02_rooms_holds : PySem.Challenge.rw_roadbikes_k02_rooms.Holds := by
  w_on; o_law; k_head; (case hw => w_witness2)
  k_fill
  refine Rb.endG (l := PySem.Challenge.rw_roadbikes_k02_rooms) (n := 63) (lv := 3) (x := "_law_script") (sp := fun w => Rb.spLaw _) rfl (by decide) rfl ⟨rfl, by decide, by decide⟩ (fun w h Y => PySem.W.kIn_of Y) ?F (fun _ _ a ns hl hS => ⟨a, ns, rfl, hS, fun _ => rfl⟩)
  case F =>
    intro w mg fa h KX G hmg
    refine' Rb.all_mk KX G hmg ?a0 ?l0 ?c0 ?k0 ?a1 ?l1 ?c1 ?k1 ?a2 ?l2 ?c2 ?k2 ?a3 ?l3 ?c3 ?k3 ?a4 ?l4 ?c4 ?k4 ?a5 ?l5 ?c5 ?k5 ?a6 ?l6 ?c6 ?k6 ?z0 ?z1 ?z2 ?z3 ?z4 ?z5 ?z6 ?z7
    (case a0 => k_is); (case l0 => k_is); (case c0 => k_is); (case k0 => k_is); (case a1 => k_is); (case l1 => k_is); (case c1 => k_is); (case k1 => k_is); (case a2 => k_is); (case l2 => k_is); (case c2 => k_is); (case k2 => k_is); (case a3 => k_is); (case l3 => k_is); (case c3 => k_is); (case k3 => k_is); (case a4 => k_is); (case l4 => k_is); (case c4 => k_is); (case k4 => k_is); (case a5 => k_is); (case l5 => k_is); (case c5 => k_is); (case k5 => k_is); (case a6 => k_is); (case l6 => k_is); (case c6 => k_is); (case k6 => k_is); (case z0 => k_is); (case z1 => k_is); (case z2 => k_is); (case z3 => k_is); (case z4 => k_is); (case z5 => k_is); (case z6 => k_is); (case z7 => k_is)
