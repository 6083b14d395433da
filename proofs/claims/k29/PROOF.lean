import PyProof.Rows.All
import Wide.All
import OpenK.AllK
import Wide.FinOn
import HandS.ForMost
import HandS.Wide
import HandS.TupAny
import HandS.TupMul
import HandS.Style
import HandS.Conv
import HandS.Zip
import PyProof.ReprRoads
import PyProof.SumWalkG
import PyProof.WalksMore
import KE.DataMinMax
import HandS.Evl
import PyProof.ReprBulk
import PyProof.FitsInt
import KE.GoesMore
import PyProof.Draws
import HandS.SortRule
import HandS.Walk
import KE.DatumOrd
import KE.DataFind
import HandS.SetFor
import PyProof.Rows.RowBridgeK
import KE.KExcIs
import HandS.Star
import HandS.ExcInit
import HandS.ExcField
import HandS.ExcOwn
import HandS.WordsExc
import HandS.NoneIn
import HandS.IsInst
import HandS.SortInts
import HandS.Strs
import HandS.TupLe
import HandS.Property
import KE.KExcInit
import KE.KOpsOwn
import PyProof.InstNe
import HandS.Flt
import HandS.FStr
import HandS.Text
import KE.KCallOwn
import HandS.Defaults
import HandS.ClsMeth
import HandS.GenList
import HandS.Iter
import HandS.StrMore
import HandS.TryMany
import KE.KTryMore
import HandS.NamedTupSort
import PyProof.EqKinds
import PyProof.FactsAll.dict_1
import KE.DataEq
import PyProof.StrBlock2
import HandS.HotCalls
import HandS.RaiseMore
import HandS.ReplaceLit
import KE.KxField
import PyProof.Rows.ReprOcc
import PyProof.StrLawsChain
import KE.KExcLine
import KE.OsRunLaw
import PySem.Challenge.RW_roadbikes_k29_parties_in_equal_and_text
set_option Elab.async false
set_option linter.all false
set_option maxRecDepth 100000
set_option maxHeartbeats 4000000
namespace Rb
open PySem PySem.Spec PyProof.Rows L2
/-! repr of data -/
/-! sum of a tuple of ints -/
theorem isTup_isTuple {h : Heap} {a : Addr} {items : Array Value} (x : IsTup h a items) : h.IsTuple a items := by
  obtain ⟨o, e, c, n, d⟩ := x
  exact ⟨o, e, c, n, d⟩
end Rb
namespace Rb
open PySem PySem.Spec PyProof.Rows L2
/-! defs that are run where no repr is under way -/
structure FnG (pr : Program) (wo : World) (K : PySem.W.Frag) (mg : Str → Option Value) (b0 : Heap) (cx : CXT) (lv : Nat) (fn : Addr) (dat : FuncData) (pars : List Str) (sp : Sp) : Prop where
  many : ∀ xs H Q E, sp xs H Q E → xs.length = pars.length
  goes : ∀ (A : Around) (out : List Env) (s : Shared) (H : Hp) (ar : Args) (us : List Value) (xs : List V) (Q : VK) (E : XK),
    Room lv A → A.guards = some [] → Env0 pr wo K mg b0 A out s H → BindsTo s dat ar (pars.zip us) → Vals xs us → sp xs H Q E →
    codeAny (model pr wo) A (.call (.ref fn) ar) (CR cx out pr wo H s Q E) s
section
variable {pr : Program} {wo : World} {K : PySem.W.Frag} {mg : Str → Option Value} {b0 : Heap} {cx : CXT} {lv : Nat} {fn : Addr} {dat : FuncData} {pars : List Str} {sp : Sp}
theorem FnG.of (F : FnOk pr wo K mg b0 cx lv fn dat pars sp) : FnG pr wo K mg b0 cx lv fn dat pars sp :=
  ⟨F.len, fun A out s H ar us xs Q E h1 _ h2 h3 h4 h5 => F.run A out s H ar us xs Q E h1 h2 h3 h4 h5⟩
end
section
variable {pr : Program} {wo : World} {K : PySem.W.Frag} {mg : Str → Option Value} {b0 : Heap} {lv : Nat} {sp : Sp}
theorem fnG_of {cx : CXT} {fn : Addr} {nm qn : Str} {pm : Arguments} {bd : List Stmt} {sco : Scope} {dV kV dc pv cdv ct oc : Value} {an od : Option Addr} {osl : Array (Option Value)} {NN pars : List Str}
    (at_ : K.lookup fn = some ⟨oc, od, .func (PySem.W.fnOf nm qn pm bd sco dV kV dc pv an cdv ct), osl⟩) (code : PySem.W.codeIn K cdv qn = true) (S : FnScope NN pars sco)
    (many : ∀ xs H Q E, sp xs H Q E → xs.length = pars.length)
    (body : ∀ (A : Around) (out : List Env) (s : Shared) (H : Hp) (xs : List V) (Q : VK) (E : XK), A.guards = some [] → Room lv (A.deeper (envOfC qn sco s.heap.objs.size fn cdv)) → sp xs H Q E →
      ∃ t, PSs (cxOf cx pr wo K mg b0 NN qn sco fn cdv A out s H E) bd t ∧ t { nx := fun _ H' => Q .non H', rt := Q } (start NN xs) H) :
    FnG pr wo K mg b0 cx (lv + 1) fn (PySem.W.fnOf nm qn pm bd sco dV kV dc pv an cdv ct) pars sp := by
  constructor
  · exact many
  intro A out s H ar us xs Q E rm gd e0 bi vx pro
  have old : ∀ b o, b0.get? b = some o → s.heap.get? b = some o := fun b o e => (e0.bs b o e).1
  have kin : K.In s.heap := e0.mod.kin.keeps old
  refine codeAny_call_function rm.depth (kin _ _ at_) rfl S.co S.gen rfl (PySem.W.codeRec_of kin code) (bi _ _ _ _ ?_)
  refine wpAny_newFunctionEnv_cells S.kind ?_ ?_
  · rintro ⟨n, v⟩ hy
    cases S.par n (List.of_mem_zip hy).1 with
    | inl q => exact Or.inl q
    | inr q => exact Or.inr ⟨q, PySem.W.cellsFrom_some _ _ _ (Or.inl q)⟩
  intro env he s1 ic
  subst he
  refine ⟨(e0.mod.nolimit.keeps old).keeps ic.toInCall.keep, codeAny_func ?_⟩
  obtain ⟨t, ht, rd⟩ := body A out s H xs Q E gd (rm.deeper _) pro
  have I : Inv (cxOf cx pr wo K mg b0 NN qn sco fn cdv A out s H E) [] (start NN xs) H s1 := inv_start S rm.hd e0 (many _ _ _ _ pro) vx ic
  refine wpAny_mono (ht.run [] s1 (start NN xs) H _ I rd) ?_ (fun _ _ z => z)
  intro fl s2 hs
  match fl, hs with
  | .ret u, ⟨v, σ2, H2, J, rv, q⟩ => exact ⟨v, H2, J.os, J.bare, J.base, J.hok, rv, q⟩
  | .next, ⟨σ2, H2, J, q⟩ => exact ⟨V.non, H2, J.os, J.bare, J.base, J.hok, rfl, q⟩
  | .brk, ⟨_, _, _, q⟩ => exact (q : False).elim
  | .cont, ⟨_, _, _, q⟩ => exact (q : False).elim
/-- a def of the text that is run where no repr is under way -/
theorem okG {x qn : Str} {st : Stmt} {fn : Addr} {dat : FuncData} {NN pars : List Str} (F : Fun K x qn st fn dat) (S : FnScope NN pars (defScope st)) (many : ∀ xs H Q E, sp xs H Q E → xs.length = pars.length)
    (body : ∀ (cdv : Value) (A : Around) (out : List Env) (s : Shared) (H : Hp) (xs : List V) (Q : VK) (E : XK), A.guards = some [] → Room lv (A.deeper (envOfC qn (defScope st) s.heap.objs.size fn cdv)) → sp xs H Q E →
      ∃ t, PSs (cxOf CX0 pr wo K mg b0 NN qn (defScope st) fn cdv A out s H E).nox (defBody st) t ∧ t { nx := fun _ H' => Q .non H', rt := Q } (start NN xs) H) :
    FnG pr wo K mg b0 CX0 (lv + 1) fn dat pars sp := by
  obtain ⟨oc, od, kV, dc, pv, an, cdv, ct, osl, rfl, at_, code⟩ := F.ex
  refine fnG_of at_ code S many fun A out s H xs Q E gd rm pro => ?_
  obtain ⟨t, h, q⟩ := body cdv A out s H xs Q E gd rm pro
  exact ⟨t, h.nox, q⟩
end
/-- the law's own call: the script is all that is known of the heap -/
theorem lawG {pr : Program} {wo : World} {K : PySem.W.Frag} {mg mb : Str → Option Value} {lv : Nat} {fn sc : Addr} {dat : FuncData} {x : Str} {sp : Sp} {s : Shared} {us : List Value} {ns : List Int}
    (kin : K.In s.heap) (gns : s.heap.Ns mainGlobals mg) (bns : s.heap.Ns builtinsNs mb) (boot : ∀ y : Str, y ≠ "__name__" → mb y = bootBuiltins y) (nol : s.heap.NoLimit) (ge : s.gens = #[])
    (at_ : s.heap.get? sc = some { cls := .type "list", data := .seq us.toArray }) (ia : IntsAre us ns) (few : ns.length ≤ sizeLine) (rm : Room lv callerA)
    (F : ∀ b0 : Heap, K.In b0 → b0.Ns mainGlobals mg → FnG pr wo K mg b0 CX0 lv fn dat [x] sp) (bi : ∀ (z : Shared) (u : Value), BindsTo z dat ⟨[u], []⟩ [(x, u)])
    (pro : ∀ H : Hp, SqL K H sc (ns.map V.int) → sp [.ref sc] H (fun v _ => v = .bl true) fun _ _ _ => False) :
    codeAny (model pr wo) callerA (.call (.ref fn) ⟨[.ref sc], []⟩) (fun r z => r = .ok (.ret (.bool true)) ∧ OldK s.heap z.heap ∧ z.os = s.os ∧ AllBare z.gens) s := by
  have go : ∀ H : Hp, (∀ b o, H b = some o → b = sc ∧ ∃ ob xs, o = .frz ob (.lst xs)) → SqL K H sc (ns.map V.int) → HOk pr wo H s.heap → (H sc ≠ none → K.lookup sc = none) →
      codeAny (model pr wo) callerA (.call (.ref fn) ⟨[.ref sc], []⟩) (fun r z => r = .ok (.ret (.bool true)) ∧ OldK s.heap z.heap ∧ z.os = s.os ∧ AllBare z.gens) s := by
    intro H one sq hok notK
    have dicts : ∀ {b : Addr} {o : Obj} {es : Array DictEntry} {ep : Nat}, s.heap.get? b = some o → o.data = .dict es ep → H b = none := by
      intro b o es ep e d
      match q : H b with
      | none => rfl
      | some u =>
        obtain ⟨rfl, _⟩ := one b u q
        rw [at_] at e
        cases e
        cases (show Data.seq us.toArray _ = Data.dict es ep from d)
    have names : ∀ {b : Addr} {m : Str → Option Value}, s.heap.Ns b m → (hidT s.heap H).Ns b m := by
      rintro b m ⟨o, es, ep, e, d, r⟩
      exact ⟨o, es, ep, hidT_get e (dicts e d), d, r⟩
    have kin2 : K.In (hidT s.heap H) := by
      intro b o e
      refine hidT_get (kin b o e) ?_
      match q : H b with
      | none => rfl
      | some u =>
        obtain ⟨rfl, _⟩ := one b u q
        rw [notK (by rw [q]; exact Option.some_ne_none u)] at e
        cases e
    have md : Mod K mg (hidT s.heap H) := by
      obtain ⟨mc, n1, n2⟩ := nol
      exact ⟨kin2, names gns, ⟨mb, names bns, boot⟩, ⟨mc, names n1, n2⟩⟩
    have env : Env0 pr wo K mg (hidT s.heap H) callerA [] s H :=
      { frames := rfl, mod := md, bs := fun _ _ e => of_hidT e, bsz := Nat.le_of_eq (hidT_size _ _), funs := trivial, frf := (fun _ z => nomatch z), hok := hok, bare := .of_eq ge }
    refine codeAny_mono ((F _ kin2 (names gns)).goes callerA [] s H ⟨[.ref sc], []⟩ [.ref sc] [.ref sc] _ _ rm rfl env (bi s (.ref sc)) (.cons rfl .nil) (pro H sq)) ?_
    intro res z fin
    match res, fin with
    | .error e, fin => exact (fin : False).elim
    | .ok .next, fin => exact (fin : False).elim
    | .ok .brk, fin => exact (fin : False).elim
    | .ok .cont, fin => exact (fin : False).elim
    | .ok (.ret u), ⟨v, H2, os, bare, un, hok2, rv, q⟩ =>
      cases (q : v = .bl true)
      cases (rv : u = Value.bool true)
      refine ⟨rfl, OldK.of_keep ?_, os, bare⟩
      intro b o e
      match w : H b with
      | none => exact un.keep b o e w (fun z => nomatch z) (fun z => nomatch z)
      | some uo =>
        obtain ⟨rfl, ob, xs, rfl⟩ := one b uo w
        have e1 := (hok b _ w).1
        have e2 := (hok2 b _ (un.frzs b ob _ w)).1
        exact e2.trans (e1.symm.trans e)
  have vx := vals_ints ia
  have ln := ia.length
  match kk : K.lookup sc with
  | some o =>
    have e := kin sc o kk
    rw [at_] at e
    cases e
    exact go (fun _ => none) (fun _ _ z => nomatch z) (.inr ⟨_, us.toArray, _, kk, rfl, rfl, rfl, by rw [List.size_toArray, ln]; exact few, by simpa using vx⟩) (fun _ _ z => nomatch z) (fun z => absurd rfl z)
  | none =>
    let one : HO := .frz { cls := .type "list", data := .seq us.toArray } (.lst (ns.map V.int))
    refine go (upd (fun _ => none) sc one) ?_ (.inl (.inr ⟨_, upd_same⟩)) ?_ (fun _ => kk)
    · intro b o z
      by_cases hb : b = sc
      · subst hb
        rw [upd_same] at z
        cases z
        exact ⟨rfl, _, _, rfl⟩
      · rw [upd_ne hb] at z
        cases z
    · intro b o z
      by_cases hb : b = sc
      · subst hb
        rw [upd_same] at z
        cases z
        exact ⟨at_, by rw [List.length_map]; exact few, us, _, vx, at_⟩
      · rw [upd_ne hb] at z
        cases z
end Rb
namespace Rb
open PySem PySem.Spec PyProof.Rows L2
/-! the deck: a list of the cells and the count of draws -/
def Dk (H : Hp) (d c : Addr) (N : Int) : Prop := ∃ (cs : List Int) (n : Int), H d = some (.lst [.ref c, .int n]) ∧ H c = some (.lst (cs.map V.int)) ∧ cs.length ≤ 63 ∧ (∀ x ∈ cs, 0 ≤ x) ∧ 0 ≤ n ∧ n ≤ N
/-- all but the deck is kept -/
def Kp (d c : Addr) (H H' : Hp) : Prop := ∀ b o, H b = some o → b ≠ d → b ≠ c → H' b = some o
theorem Kp.refl {d c : Addr} {H : Hp} : Kp d c H H := fun _ _ e _ _ => e
theorem Kp.trans {d c : Addr} {H H1 H2 : Hp} (a : Kp d c H H1) (b : Kp d c H1 H2) : Kp d c H H2 := fun x o e n1 n2 => b x o (a x o e n1 n2) n1 n2
theorem Kp.ex {d c : Addr} {H H1 : Hp} (a : Evl.Ex H H1) : Kp d c H H1 := fun x o e _ _ => a x o e
theorem Kp.new {d c : Addr} {H : Hp} {p : Addr} {o : HO} (h : H p = none) : Kp d c H (upd H p o) := Kp.ex (Evl.Ex.new h)
theorem Dk.ex {H H' : Hp} {d c : Addr} {N : Int} (h : Dk H d c N) (e : Evl.Ex H H') : Dk H' d c N := by
  obtain ⟨cs, n, h1, h2, r⟩ := h
  exact ⟨cs, n, e _ _ h1, e _ _ h2, r⟩
theorem Dk.new {H : Hp} {d c p : Addr} {N : Int} {o : HO} (h : Dk H d c N) (hp : H p = none) : Dk (upd H p o) d c N := h.ex (Evl.Ex.new hp)
theorem Dk.le {H : Hp} {d c : Addr} {N M : Int} (h : Dk H d c N) (e : N ≤ M) : Dk H d c M := by
  obtain ⟨cs, n, h1, h2, h3, h4, h5, h6⟩ := h
  exact ⟨cs, n, h1, h2, h3, h4, h5, by omega⟩
theorem Dk.ne1 {H : Hp} {d c p : Addr} {N : Int} (h : Dk H d c N) (hp : H p = none) : p ≠ d := by
  obtain ⟨cs, n, h1, _⟩ := h
  rintro rfl
  rw [h1] at hp
  cases hp
theorem Dk.ne2 {H : Hp} {d c p : Addr} {N : Int} (h : Dk H d c N) (hp : H p = none) : p ≠ c := by
  obtain ⟨cs, n, _, h1, _⟩ := h
  rintro rfl
  rw [h1] at hp
  cases hp
/-- fresh behind is fresh before -/
theorem Kp.fresh {d c p : Addr} {H H' : Hp} {N : Int} (k : Kp d c H H') (h : Dk H' d c N) (hp : H' p = none) : H p = none := by
  cases e : H p with
  | none => rfl
  | some o =>
    rw [k p o e (h.ne1 hp) (h.ne2 hp)] at hp
    cases hp
theorem Kp.sqT {K : PySem.W.Frag} {d c a : Addr} {H H' : Hp} {N : Int} {xs : List V} (k : Kp d c H H') (h : Dk H d c N) (hs : SqT K H a xs) : SqT K H' a xs := by
  obtain ⟨cs, n, h1, h2, _⟩ := h
  have go : ∀ u : HO, (∀ ys, u ≠ .lst ys) → H a = some u → H' a = some u := fun u nu e => k a u e
    (by rintro rfl; rw [h1] at e; exact nu _ (Option.some.inj e).symm) (by rintro rfl; rw [h2] at e; exact nu _ (Option.some.inj e).symm)
  rcases hs with (e | ⟨o, e⟩) | e
  · exact .inl (.inl (go _ (fun _ z => nomatch z) e))
  · exact .inl (.inr ⟨o, go _ (fun _ z => nomatch z) e⟩)
  · exact .inr e
theorem tupOf {K : PySem.W.Frag} {H : Hp} {a : Addr} {xs : List V} (h : H a = some (.tup xs)) : SqT K H a xs := .inl (.inl h)
theorem lstOf {K : PySem.W.Frag} {H : Hp} {a : Addr} {xs : List V} (h : H a = some (.lst xs)) : SqL K H a xs := .inl (.inl h)
/-! picks from short lists -/
theorem pick3 {x y z : V} {r : Int} (h0 : 0 ≤ r) (h1 : r < 3) : ∃ v, atI [x, y, z] r = some v ∧ (v = x ∨ v = y ∨ v = z) := by
  rcases (by omega : r = 0 ∨ r = 1 ∨ r = 2) with rfl | rfl | rfl
  · exact ⟨x, rfl, .inl rfl⟩
  · exact ⟨y, rfl, .inr (.inl rfl)⟩
  · exact ⟨z, rfl, .inr (.inr rfl)⟩
theorem pick3i {x y z r : Int} (h0 : 0 ≤ r) (h1 : r < 3) : ∃ v : Int, atI [V.int x, V.int y, V.int z] r = some (V.int v) ∧ (v = x ∨ v = y ∨ v = z) := by
  rcases (by omega : r = 0 ∨ r = 1 ∨ r = 2) with rfl | rfl | rfl
  · exact ⟨x, rfl, .inl rfl⟩
  · exact ⟨y, rfl, .inr (.inl rfl)⟩
  · exact ⟨z, rfl, .inr (.inr rfl)⟩
theorem sz_le {n : Nat} (h : n ≤ 100000) : n ≤ sizeLine := Evl.sz_of h
/-- slices from the beginning -/
theorem cut_to {xs : List V} {k : Nat} : cutV xs none (some (k : Int)) = xs.take k := by
  unfold cutV
  rw [HT.sIx_none, HT.sIx_nat]
  show List.take (min k xs.length - 0) (xs.drop 0) = _
  rw [List.drop_zero, Nat.sub_zero]
  rcases Nat.le_total k xs.length with h | h
  · rw [Nat.min_eq_left h]
  · rw [Nat.min_eq_right h, List.take_length, List.take_of_length_le h]
/-! a road -/
def Road (K : PySem.W.Frag) (H : Hp) (v : V) (w r : Int) (bs : List Int) : Prop := ∃ a b, v = .ref a ∧ SqT K H a [.int w, .int r, .ref b] ∧ SqT K H b (bs.map V.int)
theorem Road.kp {K : PySem.W.Frag} {d c : Addr} {H H' : Hp} {N : Int} {v : V} {w r : Int} {bs : List Int} (x : Road K H v w r bs) (k : Kp d c H H') (h : Dk H d c N) : Road K H' v w r bs := by
  obtain ⟨a, b, e, h1, h2⟩ := x
  exact ⟨a, b, e, k.sqT h h1, k.sqT h h2⟩
theorem Road.ex {K : PySem.W.Frag} {H H' : Hp} {v : V} {w r : Int} {bs : List Int} (x : Road K H v w r bs) (k : Evl.Ex H H') : Road K H' v w r bs := by
  obtain ⟨a, b, e, h1, h2⟩ := x
  exact ⟨a, b, e, Evl.ex_t k h1, Evl.ex_t k h2⟩
/-! data of ints: what repr shows -/
theorem DpAll.ints {K : PySem.W.Frag} {H : Hp} : ∀ ns : List Int, DpAll K H (ns.map V.int) (ns.map PyData.int)
  | [] => .nil
  | n :: ns => .cons (.int n) (DpAll.ints ns)
theorem Dp.tupI {K : PySem.W.Frag} {H : Hp} {a : Addr} {ns : List Int} (h : SqT K H a (ns.map V.int)) : Dp K H (.ref a) (.tuple (ns.map .int)) := .tup h (DpAll.ints ns)
def roadD (w r : Int) (bs : List Int) : PyData := .tuple [.int w, .int r, .tuple (bs.map .int)]
theorem Road.dp {K : PySem.W.Frag} {H : Hp} {v : V} {w r : Int} {bs : List Int} (x : Road K H v w r bs) : Dp K H v (roadD w r bs) := by
  obtain ⟨a, b, rfl, h1, h2⟩ := x
  exact .tup h1 (.cons (.int w) (.cons (.int r) (.cons (Dp.tupI h2) .nil)))
/-! data that repr shows: what it asks, by parts -/
structure Nice (k n : Nat) (d : PyData) : Prop where
  sh : d.showable = true
  lv : d.leavesShort 100 = true
  dep : d.depth ≤ k
  blk : d.bulk ≤ n
theorem Nice.mono {k n k' n' : Nat} {d : PyData} (h : Nice k n d) (h1 : k ≤ k') (h2 : n ≤ n') : Nice k' n' d := ⟨h.sh, h.lv, Nat.le_trans h.dep h1, Nat.le_trans h.blk h2⟩
theorem Nice.int {i : Int} (h : i.natAbs < 10 ^ 99) : Nice 0 0 (.int i) := by
  refine ⟨?_, ?_, Nat.le_refl _, Nat.le_refl _⟩
  · simp only [PyData.showable, decide_eq_true_eq]
    by_cases z : i.natAbs = 0
    · rw [z]; decide
    · refine (Nat.log2_lt z).mpr (Nat.lt_of_lt_of_le h ?_)
      decide +kernel
  · simp only [PyData.leavesShort, decide_eq_true_eq, PyData.shown]
    refine decide_eq_true ?_
    rw [PySem.ofString_length]
    exact int_text_length_le10 (k := 99) (by decide) h
theorem Nice.none : Nice 0 0 .none := ⟨rfl, rfl, Nat.le_refl _, Nat.le_refl _⟩
theorem Nice.bool {b : Bool} : Nice 0 0 (.bool b) := ⟨rfl, rfl, Nat.le_refl _, Nat.le_refl _⟩
theorem Nice.str {x : Str} {n : Nat} (h : x.cps.size ≤ n) (hx : ∀ c ∈ x.cps.toList, c < 16 ^ 8) : Nice 0 n (.str x) := by
  refine ⟨rfl, ?_, Nat.le_refl _, h⟩
  simpa only [PyData.leavesShort, List.all_eq_true, decide_eq_true_eq] using hx
theorem nice_all {k n : Nat} : ∀ {xs : List PyData}, (∀ x ∈ xs, Nice k n x) → PyData.showableAll xs = true ∧ PyData.leavesShortAll 100 xs = true ∧ PyData.depthAll xs ≤ k ∧ PyData.bulkAll xs ≤ xs.length * (n + 1)
  | [], _ => ⟨rfl, rfl, Nat.zero_le _, Nat.zero_le _⟩
  | x :: xs, h => by
    obtain ⟨a, b, c, d⟩ := nice_all (xs := xs) fun y hy => h y (List.mem_cons_of_mem _ hy)
    have hx := h x List.mem_cons_self
    refine ⟨?_, ?_, ?_, ?_⟩
    · simp only [PyData.showableAll, hx.sh, a, Bool.and_true]
    · simp only [PyData.leavesShortAll, hx.lv, b, Bool.and_true]
    · simp only [PyData.depthAll]
      exact Nat.max_le.mpr ⟨hx.dep, c⟩
    · simp only [PyData.bulkAll, List.length_cons]
      have := hx.blk
      rw [Nat.add_mul]
      omega
theorem Nice.tup {k n m : Nat} {xs : List PyData} (h : ∀ x ∈ xs, Nice k n x) (hm : xs.length * (n + 1) ≤ m) : Nice (k + 1) m (.tuple xs) := by
  obtain ⟨a, b, c, d⟩ := nice_all h
  exact ⟨by simpa only [PyData.showable] using a, by simpa only [PyData.leavesShort] using b, by simp only [PyData.depth]; omega, by simp only [PyData.bulk]; omega⟩
theorem Nice.lst {k n m : Nat} {xs : List PyData} (h : ∀ x ∈ xs, Nice k n x) (hm : xs.length * (n + 1) ≤ m) : Nice (k + 1) m (.list xs) := by
  obtain ⟨a, b, c, d⟩ := nice_all h
  exact ⟨by simpa only [PyData.showable] using a, by simpa only [PyData.leavesShort] using b, by simp only [PyData.depth]; omega, by simp only [PyData.bulk]; omega⟩
theorem Nice.ints {ns : List Int} {m : Nat} (h : ∀ i ∈ ns, i.natAbs < 10 ^ 99) (hm : ns.length ≤ m) : Nice 1 m (.tuple (ns.map .int)) := by
  refine Nice.tup (k := 0) (n := 0) (fun x hx => ?_) (by rw [List.length_map]; omega)
  obtain ⟨i, hi, rfl⟩ := List.mem_map.mp hx
  exact Nice.int (h i hi)
theorem Nice.fits {k : Nat} {d : PyData} (n : Nice k 100000 d) : d.shown.length ≤ sizeLine := by
  have e := PyData.shown_le_bulk 100 (by decide) d n.lv
  have := n.blk
  have : (16777216 : Nat) ≤ sizeLine := by decide
  omega
/-! comprehensions whose element changes nothing -/
end Rb
namespace Rb
open PySem PySem.Spec PyProof.Rows L2
/-! data without lists: it never changes -/
mutual
inductive Tp (K : PySem.W.Frag) (H : Hp) : V → PyData → Prop
  | non : Tp K H .non .none
  | bl (b : Bool) : Tp K H (.bl b) (.bool b)
  | int (i : Int) : Tp K H (.int i) (.int i)
  | str (x : Str) : Tp K H (.str x) (.str x)
  | tup {a : Addr} {xs : List V} {ds : List PyData} : SqT K H a xs → TpAll K H xs ds → Tp K H (.ref a) (.tuple ds)
inductive TpAll (K : PySem.W.Frag) (H : Hp) : List V → List PyData → Prop
  | nil : TpAll K H [] []
  | cons {v : V} {vs : List V} {d : PyData} {ds : List PyData} : Tp K H v d → TpAll K H vs ds → TpAll K H (v :: vs) (d :: ds)
end
section
variable {K : PySem.W.Frag} {H H' : Hp}
mutual
theorem Tp.dp : ∀ (d : PyData) (v : V), Tp K H v d → Dp K H v d
  | .none, _, h => by cases h; exact .non
  | .bool b, _, h => by cases h; exact .bl b
  | .int i, _, h => by cases h; exact .int i
  | .str x, _, h => by cases h; exact .str x
  | .list _, _, h => by cases h
  | .dict _, _, h => by cases h
  | .tuple ds, _, h => by
    cases h with
    | tup hs ha => exact .tup hs (TpAll.dp ds _ ha)
theorem TpAll.dp : ∀ (ds : List PyData) (vs : List V), TpAll K H vs ds → DpAll K H vs ds
  | [], _, h => by cases h; exact .nil
  | d :: ds, _, h => by
    cases h with
    | cons h1 h2 => exact .cons (Tp.dp d _ h1) (TpAll.dp ds _ h2)
end
mutual
theorem Tp.keep (k : ∀ a xs, SqT K H a xs → SqT K H' a xs) : ∀ (d : PyData) (v : V), Tp K H v d → Tp K H' v d
  | .none, _, h => by cases h; exact .non
  | .bool b, _, h => by cases h; exact .bl b
  | .int i, _, h => by cases h; exact .int i
  | .str x, _, h => by cases h; exact .str x
  | .list _, _, h => by cases h
  | .dict _, _, h => by cases h
  | .tuple ds, _, h => by
    cases h with
    | tup hs ha => exact .tup (k _ _ hs) (TpAll.keep k ds _ ha)
theorem TpAll.keep (k : ∀ a xs, SqT K H a xs → SqT K H' a xs) : ∀ (ds : List PyData) (vs : List V), TpAll K H vs ds → TpAll K H' vs ds
  | [], _, h => by cases h; exact .nil
  | d :: ds, _, h => by
    cases h with
    | cons h1 h2 => exact .cons (Tp.keep k d _ h1) (TpAll.keep k ds _ h2)
end
theorem Tp.ex {v : V} {d : PyData} (h : Tp K H v d) (e : Evl.Ex H H') : Tp K H' v d := Tp.keep (fun _ _ z => Evl.ex_t e z) d v h
theorem TpAll.ex {vs : List V} {ds : List PyData} (h : TpAll K H vs ds) (e : Evl.Ex H H') : TpAll K H' vs ds := TpAll.keep (fun _ _ z => Evl.ex_t e z) ds vs h
theorem Tp.kp {d c : Addr} {N : Int} {v : V} {x : PyData} (h : Tp K H v x) (k : Kp d c H H') (dk : Dk H d c N) : Tp K H' v x := Tp.keep (fun _ _ z => k.sqT dk z) x v h
theorem TpAll.kp {d c : Addr} {N : Int} {vs : List V} {ds : List PyData} (h : TpAll K H vs ds) (k : Kp d c H H') (dk : Dk H d c N) : TpAll K H' vs ds := TpAll.keep (fun _ _ z => k.sqT dk z) ds vs h
theorem TpAll.snoc {v : V} {d : PyData} : ∀ {vs : List V} {ds : List PyData}, TpAll K H vs ds → Tp K H v d → TpAll K H (vs ++ [v]) (ds ++ [d])
  | _, _, .nil, h => .cons h .nil
  | _, _, .cons h1 h2, h => .cons h1 (TpAll.snoc h2 h)
theorem TpAll.length : ∀ {vs : List V} {ds : List PyData}, TpAll K H vs ds → vs.length = ds.length
  | _, _, .nil => rfl
  | _, _, .cons _ h => congrArg (· + 1) (TpAll.length h)
theorem TpAll.ints : ∀ ns : List Int, TpAll K H (ns.map V.int) (ns.map PyData.int)
  | [] => .nil
  | n :: ns => .cons (.int n) (TpAll.ints ns)
theorem Tp.tupI {a : Addr} {ns : List Int} (h : SqT K H a (ns.map V.int)) : Tp K H (.ref a) (.tuple (ns.map .int)) := .tup h (TpAll.ints ns)
theorem Road.tp {v : V} {w r : Int} {bs : List Int} (x : Road K H v w r bs) : Tp K H v (roadD w r bs) := by
  obtain ⟨a, b, rfl, h1, h2⟩ := x
  exact .tup h1 (.cons (.int w) (.cons (.int r) (.cons (Tp.tupI h2) .nil)))
end
/-! a comprehension over a range whose elements are such data -/
end Rb
namespace Rb
open PySem PySem.Spec PyProof.Rows L2
/-! enumerate of a tuple -/
/-! loops over pairs: the pair is a new tuple -/
end Rb
namespace Rb
/-! ### plans and ticks: the mathematics -/
def leP (p q : Int × Int) : Prop := p.1 < q.1 ∨ (p.1 = q.1 ∧ p.2 ≤ q.2)
instance (p q : Int × Int) : Decidable (leP p q) := inferInstanceAs (Decidable (p.1 < q.1 ∨ (p.1 = q.1 ∧ p.2 ≤ q.2)))
def insB {α : Type} (le : α → α → Bool) (x : α) : List α → List α
  | [] => [x]
  | y :: ys => if le x y = true then x :: y :: ys else y :: insB le x ys
def sortB {α : Type} (le : α → α → Bool) : List α → List α
  | [] => []
  | x :: xs => insB le x (sortB le xs)
theorem insB_perm {α : Type} (le : α → α → Bool) (x : α) : ∀ l : List α, (insB le x l).Perm (x :: l)
  | [] => List.Perm.refl _
  | y :: ys => by
    unfold insB
    split
    · exact List.Perm.refl _
    · exact ((insB_perm le x ys).cons y).trans (List.Perm.swap x y ys)
theorem sortB_perm {α : Type} (le : α → α → Bool) : ∀ l : List α, (sortB le l).Perm l
  | [] => List.Perm.refl _
  | x :: xs => (insB_perm le x _).trans ((sortB_perm le xs).cons x)
theorem insB_sorted {α : Type} {le : α → α → Bool} (tr : ∀ a b c, le a b = true → le b c = true → le a c = true) (tot : ∀ a b, le a b = true ∨ le b a = true) (x : α) : ∀ l : List α, l.Pairwise (fun a b => le a b = true) → (insB le x l).Pairwise (fun a b => le a b = true)
  | [], _ => List.pairwise_singleton _ _
  | y :: ys, h => by
    have hy := List.pairwise_cons.mp h
    unfold insB
    split
    · rename_i c
      refine List.pairwise_cons.mpr ⟨fun z hz => ?_, h⟩
      rcases List.mem_cons.mp hz with rfl | hz
      · exact c
      · exact tr _ _ _ c (hy.1 z hz)
    · rename_i c
      refine List.pairwise_cons.mpr ⟨fun z hz => ?_, insB_sorted tr tot x ys hy.2⟩
      rcases List.mem_cons.mp ((insB_perm le x ys).mem_iff.mp hz) with rfl | hz
      · exact (tot z y).resolve_left c
      · exact hy.1 z hz
theorem sortB_sorted {α : Type} {le : α → α → Bool} (tr : ∀ a b c, le a b = true → le b c = true → le a c = true) (tot : ∀ a b, le a b = true ∨ le b a = true) : ∀ l : List α, (sortB le l).Pairwise (fun a b => le a b = true)
  | [] => List.Pairwise.nil
  | x :: xs => insB_sorted tr tot x _ (sortB_sorted tr tot xs)
def srt (l : List Int) : List Int := sortB (fun a b => decide (a ≤ b)) l
def srtP (l : List (Int × Int)) : List (Int × Int) := sortB (fun a b => decide (leP a b)) l
theorem srt_perm (l : List Int) : (srt l).Perm l := sortB_perm _ l
theorem srtP_perm (l : List (Int × Int)) : (srtP l).Perm l := sortB_perm _ l
theorem srt_sorted (l : List Int) : (srt l).Pairwise (· ≤ ·) := by
  have h := sortB_sorted (le := fun a b : Int => decide (a ≤ b)) (fun a b c h1 h2 => by simp only [decide_eq_true_eq] at *; omega) (fun a b => by simp only [decide_eq_true_eq]; omega) l
  exact h.imp fun h => of_decide_eq_true h
theorem leP_trans {a b c : Int × Int} (h1 : leP a b) (h2 : leP b c) : leP a c := by
  unfold leP at *
  omega
theorem leP_total (a b : Int × Int) : leP a b ∨ leP b a := by
  unfold leP
  omega
theorem srtP_sorted (l : List (Int × Int)) : (srtP l).Pairwise leP := by
  have h := sortB_sorted (le := fun a b : Int × Int => decide (leP a b)) (fun a b c h1 h2 => decide_eq_true (leP_trans (of_decide_eq_true h1) (of_decide_eq_true h2))) (fun a b => by rcases leP_total a b with h | h <;> simp [h]) l
  exact h.imp fun h => of_decide_eq_true h
theorem leP_anti {a b : Int × Int} (h1 : leP a b) (h2 : leP b a) : a = b := by
  obtain ⟨a1, a2⟩ := a
  obtain ⟨b1, b2⟩ := b
  simp only [leP] at h1 h2
  have : a1 = b1 := by omega
  have : a2 = b2 := by omega
  simp [*]
theorem srt_uniq {l m : List Int} (hp : m.Perm l) (hs : m.Pairwise (· ≤ ·)) : m = srt l :=
  List.Perm.eq_of_pairwise (fun a b _ _ h1 h2 => Int.le_antisymm h1 h2) hs (srt_sorted l) (hp.trans (srt_perm l).symm)
theorem srtP_uniq {l m : List (Int × Int)} (hp : m.Perm l) (hs : m.Pairwise leP) : m = srtP l :=
  List.Perm.eq_of_pairwise (fun a b _ _ h1 h2 => leP_anti h1 h2) hs (srtP_sorted l) (hp.trans (srtP_perm l).symm)
theorem srtP_len (l : List (Int × Int)) : (srtP l).length = l.length := (srtP_perm l).length_eq
/-! one stage -/
section
variable (ticks : List Int) (riders brought : List Nat) (st : Nat) (walk ride : Int)
def tickAt (p : Nat) : Int := ticks.getD p 0
end
/-! a whole plan: the ticks at each station -/
structure PlanOk (bikes : List Int) (n : Nat) (plan : List (List Nat)) : Prop where
  len : plan.length = bikes.length
  nn : ∀ b ∈ bikes, 0 ≤ b
  asc : ∀ r ∈ plan, r.Pairwise (· < ·)
  lt : ∀ r ∈ plan, ∀ p ∈ r, p < n
  few : ∀ i, (plan.getD i []).length ≤ (bikes.getD i 0).toNat + (if i = 0 then 0 else (plan.getD (i - 1) []).length)
def brM (plan : List (List Nat)) (i : Nat) : List Nat := if i = 0 then [] else plan.getD (i - 1) []
/-! waits -/
/-- a least item of what is left is the next in order -/
theorem least_next {S l : List (Int × Int)} {k : Nat} {m : Int × Int} (hs : S.Pairwise leP) (hp : l.Perm (S.drop k)) (hm : m ∈ l) (hle : ∀ q ∈ l, leP m q) : S[k]? = some m ∧ S.drop k = m :: S.drop (k + 1) := by
  have hm2 := hp.mem_iff.mp hm
  have kl : k < S.length := by
    rcases Nat.lt_or_ge k S.length with c | c
    · exact c
    · rw [List.drop_of_length_le c] at hm2
      cases hm2
  have ed : S.drop k = S[k] :: S.drop (k + 1) := List.drop_eq_getElem_cons kl
  have h1 : leP m S[k] := hle _ (hp.mem_iff.mpr (by rw [ed]; exact List.mem_cons_self))
  have h2 : leP S[k] m := by
    have hs2 : (S.drop k).Pairwise leP := hs.sublist (List.drop_sublist _ _)
    rw [ed] at hs2 hm2
    rcases List.mem_cons.mp hm2 with e | e
    · rw [e]
      exact .inr ⟨rfl, Int.le_refl _⟩
    · exact (List.pairwise_cons.mp hs2).1 m e
  have e := leP_anti h1 h2
  exact ⟨by rw [List.getElem?_eq_getElem kl, e], by rw [e]; exact ed⟩
theorem erase_next {α : Type} {l r : List α} {m : α} {j : Nat} (hj : l[j]? = some m) (hp : l.Perm (m :: r)) : (l.eraseIdx j).Perm r := by
  have h : (m :: l.eraseIdx j).Perm l := by
    clear hp
    induction l generalizing j with
    | nil => simp at hj
    | cons x l ih =>
      cases j with
      | zero =>
        cases hj
        exact List.Perm.refl _
      | succ j => exact (List.Perm.swap x m _).trans ((ih hj).cons x)
  exact (h.trans hp).cons_inv
/-! bounds -/
def Bnd (M : Int) (l : List Int) : Prop := ∀ x ∈ l, 0 ≤ x ∧ x ≤ M
end Rb
namespace Rb
open PySem PySem.Spec PyProof.Rows L2
/-! pairs of ints in a list: min, remove, sorted -/
def pairD (p : Int × Int) : PyData := .tuple [.int p.1, .int p.2]
/-- the list's items are pairs, as told -/
def Prs (H : Hp) (xs : List V) (ps : List (Int × Int)) : Prop := xs.length = ps.length ∧ ∀ (i : Nat) (p : Int × Int), ps[i]? = some p → ∃ t, xs[i]? = some (.ref t) ∧ H t = some (.tup [.int p.1, .int p.2])
theorem Prs.nil {H : Hp} : Prs H [] [] := ⟨rfl, fun i p h => by simp at h⟩
theorem Prs.keep {H H' : Hp} {xs : List V} {ps : List (Int × Int)} (h : Prs H xs ps) (k : ∀ a ys, H a = some (.tup ys) → H' a = some (.tup ys)) : Prs H' xs ps :=
  ⟨h.1, fun i p hp => by
    obtain ⟨t, h1, h2⟩ := h.2 i p hp
    exact ⟨t, h1, k _ _ h2⟩⟩
theorem Prs.snoc {H : Hp} {xs : List V} {ps : List (Int × Int)} {t : Addr} {p : Int × Int} (h : Prs H xs ps) (ht : H t = some (.tup [.int p.1, .int p.2])) : Prs H (xs ++ [.ref t]) (ps ++ [p]) := by
  refine ⟨by rw [List.length_append, List.length_append, h.1]; rfl, fun i q hq => ?_⟩
  rw [List.getElem?_append] at hq
  split at hq
  · rename_i hi
    obtain ⟨t2, h1, h2⟩ := h.2 i q hq
    exact ⟨t2, by rw [List.getElem?_append_left (by rw [h.1]; exact hi)]; exact h1, h2⟩
  · rename_i hi
    have e : i - ps.length = 0 := by
      rcases Nat.eq_zero_or_pos (i - ps.length) with e | e
      · exact e
      · rw [List.getElem?_eq_none (by show 1 ≤ i - ps.length; exact e)] at hq
        cases hq
    rw [e] at hq
    cases hq
    refine ⟨t, ?_, ht⟩
    rw [List.getElem?_append_right (by rw [h.1]; omega), h.1, e]
    rfl
theorem Prs.dp {K : PySem.W.Frag} {H : Hp} : ∀ {xs : List V} {ps : List (Int × Int)}, Prs H xs ps → DpAll K H xs (ps.map pairD)
  | [], [], _ => .nil
  | [], _ :: _, h => by cases h.1
  | _ :: _, [], h => by cases h.1
  | x :: xs, p :: ps, h => by
    obtain ⟨t, h1, h2⟩ := h.2 0 p rfl
    cases (Option.some.inj h1)
    refine .cons (.tup (tupOf h2) (.cons (.int _) (.cons (.int _) .nil))) (Prs.dp ⟨Nat.succ.inj h.1, fun i q hq => ?_⟩)
    exact h.2 (i + 1) q hq
end Rb
namespace Rb
open PySem PySem.Spec PyProof.Rows L2
/-- rows: refs of tuples of ints -/
def Rws (K : PySem.W.Frag) (H : Hp) (xs : List V) (rows : List (List Int)) : Prop := xs.length = rows.length ∧ ∀ (i : Nat) (r : List Int), rows[i]? = some r → ∃ t, xs[i]? = some (.ref t) ∧ SqT K H t (r.map V.int)
section
variable {K : PySem.W.Frag} {H H' : Hp} {xs : List V} {rows : List (List Int)}
theorem Rws.nil : Rws K H [] [] := ⟨rfl, fun i p h => by simp at h⟩
theorem Rws.keep (h : Rws K H xs rows) (k : ∀ a ys, SqT K H a ys → SqT K H' a ys) : Rws K H' xs rows :=
  ⟨h.1, fun i p hp => by
    obtain ⟨t, h1, h2⟩ := h.2 i p hp
    exact ⟨t, h1, k _ _ h2⟩⟩
theorem Rws.ex (h : Rws K H xs rows) (e : Evl.Ex H H') : Rws K H' xs rows := h.keep fun _ _ z => Evl.ex_t e z
theorem Rws.kp {d c : Addr} {N : Int} (h : Rws K H xs rows) (k : Kp d c H H') (dk : Dk H d c N) : Rws K H' xs rows := h.keep fun _ _ z => k.sqT dk z
theorem Rws.snoc {t : Addr} {r : List Int} (h : Rws K H xs rows) (ht : SqT K H t (r.map V.int)) : Rws K H (xs ++ [.ref t]) (rows ++ [r]) := by
  refine ⟨by rw [List.length_append, List.length_append, h.1]; rfl, fun i q hq => ?_⟩
  rw [List.getElem?_append] at hq
  split at hq
  · rename_i hi
    obtain ⟨t2, h1, h2⟩ := h.2 i q hq
    exact ⟨t2, by rw [List.getElem?_append_left (by rw [h.1]; exact hi)]; exact h1, h2⟩
  · rename_i hi
    have e : i - rows.length = 0 := by
      rcases Nat.eq_zero_or_pos (i - rows.length) with e | e
      · exact e
      · rw [List.getElem?_eq_none (by show 1 ≤ i - rows.length; exact e)] at hq
        cases hq
    rw [e] at hq
    cases hq
    refine ⟨t, ?_, ht⟩
    rw [List.getElem?_append_right (by rw [h.1]; omega), h.1, e]
    rfl
theorem Rws.tp : ∀ {xs : List V} {rows : List (List Int)}, Rws K H xs rows → TpAll K H xs (rows.map fun r => .tuple (r.map .int))
  | [], [], _ => .nil
  | [], _ :: _, h => by cases h.1
  | _ :: _, [], h => by cases h.1
  | x :: xs, p :: ps, h => by
    obtain ⟨t, h1, h2⟩ := h.2 0 p rfl
    cases (Option.some.inj h1)
    exact .cons (Tp.tupI h2) (Rws.tp ⟨Nat.succ.inj h.1, fun i q hq => h.2 (i + 1) q hq⟩)
end
/-! comprehensions over enumerate(list), and whose elements are new pairs -/
/-! sorted pairs -/
def keyOf (H : Hp) (x : V) : Int × Int :=
  match x with
  | .ref t => match H t with
    | some (.tup [.int i, .int j]) => (i, j)
    | _ => (0, 0)
  | _ => (0, 0)
theorem keyOf_eq {H : Hp} {t : Addr} {p : Int × Int} (h : H t = some (.tup [.int p.1, .int p.2])) : keyOf H (.ref t) = p := by
  unfold keyOf
  simp only [h]
theorem Prs.keys {H : Hp} {xs : List V} {ps : List (Int × Int)} (h : Prs H xs ps) : xs.map (keyOf H) = ps := by
  apply List.ext_getElem?
  intro i
  rw [List.getElem?_map]
  cases e : ps[i]? with
  | none => rw [List.getElem?_eq_none (by rw [h.1]; exact List.getElem?_eq_none_iff.mp e)]; rfl
  | some p =>
    obtain ⟨t, h1, h2⟩ := h.2 i p e
    rw [h1]
    exact congrArg some (keyOf_eq h2)
theorem sorted_prs {K : PySem.W.Frag} {H : Hp} {a : Addr} {xs : List V} {ps : List (Int × Int)} {Q : VK} (hS : SqL K H a xs) (hP : Prs H xs ps) (q : ∀ ys p, Prs H ys (srtP ps) → H p = none → Q (.ref p) (upd H p (.lst ys))) : rSortedPO K [.ref a] H Q := by
  refine ⟨a, xs, keyOf H, rfl, hS, fun x hx => ?_, fun ys p h1 h2 np => q ys p ?_ np⟩
  · obtain ⟨i, hi, e⟩ := List.getElem_of_mem hx
    have il : i < ps.length := by rw [← hP.1]; exact hi
    obtain ⟨t, g1, g2⟩ := hP.2 i ps[i] (List.getElem?_eq_getElem il)
    rw [List.getElem?_eq_getElem hi, e] at g1
    cases Option.some.inj g1
    refine ⟨t, rfl, ?_⟩
    rw [keyOf_eq g2]
    exact g2
  · have e : ys.map (keyOf H) = srtP ps := by
      rw [← hP.keys]
      refine srtP_uniq (h2.perm.map _) ?_
      refine List.pairwise_map.mpr (List.Pairwise.imp (fun {x y} h => ?_) h1)
      have := SrtO.lexB_no.mp (show SrtO.lexB (keyOf H y) (keyOf H x) = false from h)
      unfold leP
      omega
    rw [← e]
    refine ⟨(List.length_map _).symm, fun i p hp => ?_⟩
    rw [List.getElem?_map] at hp
    obtain ⟨y, hy, rfl⟩ := Option.map_eq_some_iff.mp hp
    have ym : y ∈ xs := h2.perm.mem_iff.mp (List.mem_of_getElem? hy)
    obtain ⟨k, hk, ek⟩ := List.getElem_of_mem ym
    have kl : k < ps.length := by rw [← hP.1]; exact hk
    obtain ⟨t, g1, g2⟩ := hP.2 k ps[k] (List.getElem?_eq_getElem kl)
    rw [List.getElem?_eq_getElem hk, ek] at g1
    cases Option.some.inj g1
    refine ⟨t, hy, ?_⟩
    rw [keyOf_eq g2]
    exact g2
end Rb
namespace Rb
open PySem PySem.Spec PyProof.Rows L2
/-! a tuple times a number: once is the tuple itself -/
open AutoSeq1 (wpAny_loadPart') in
theorem tupMul1 (t : Addr) (its : Array Value) (n : Nat) (dc : Option Addr) (sl : Array (Option Value)) (u : Tok) :
    Meets (Builtin.«tuple.__mul__» ⟨[.ref t, .int 1 u], []⟩) (fun _ R s => s.heap.get? t = some { cls := .type "tuple", dict := dc, data := .seq its n, slots := sl } ∧ R (.ok (.ret (Value.ref t))) s) := by
  refine .of_wp fun pr wo A R s h => ?_
  obtain ⟨hp, g, d, tk, os⟩ := s
  obtain ⟨ht, h⟩ := h
  have f1 := AutoSeq1.idx_int
  wp_walk using wpAny_loadPart' ht
  repeat (first
    | (refine wpAny_ite_false (by decide) ?_; wp_walk using wpAny_loadPart' ht)
    | (refine wpAny_ite_true (decide_eq_true (by cases its.isEmpty <;> rfl)) ?_; wp_walk using wpAny_loadPart' ht))
  exact ⟨_, rfl, h⟩
/-! max of a tuple of ints -/
def rMaxT (K : PySem.W.Frag) : List V → Hp → VK → Prop := fun vs H Q => ∃ (a : Addr) (ns : List Int), vs = [V.ref a] ∧ SqT K H a (ns.map V.int) ∧ ns ≠ [] ∧ ∀ m, m ∈ ns → (∀ y ∈ ns, y ≤ m) → Q (.int m) H
theorem maxOf_most : ∀ (ns : List Int) (n : Int), (PySem.W.maxOf n ns ∈ n :: ns) ∧ ∀ q ∈ n :: ns, q ≤ PySem.W.maxOf n ns
  | [], n => ⟨List.mem_cons_self, fun q hq => by
    rw [List.mem_singleton.mp hq]
    exact Int.le_refl _⟩
  | y :: ys, n => by
    have e : PySem.W.maxOf n (y :: ys) = PySem.W.maxOf (if PySem.W.DatumOrd.lt n y = true then y else n) ys := rfl
    rw [e]
    have l1 : (PySem.W.DatumOrd.lt n y = true) ↔ n < y := by
      show decide (n < y) = true ↔ _
      exact decide_eq_true_iff
    by_cases c : PySem.W.DatumOrd.lt n y = true
    · rw [if_pos c]
      obtain ⟨h1, h2⟩ := maxOf_most ys y
      refine ⟨List.mem_cons_of_mem _ h1, fun q hq => ?_⟩
      rcases List.mem_cons.mp hq with rfl | hq
      · have a := h2 y List.mem_cons_self
        have b := l1.mp c
        omega
      · exact h2 q hq
    · rw [if_neg c]
      obtain ⟨h1, h2⟩ := maxOf_most ys n
      refine ⟨?_, fun q hq => ?_⟩
      · rcases List.mem_cons.mp h1 with h | h
        · rw [h]; exact List.mem_cons_self
        · exact List.mem_cons_of_mem _ (List.mem_cons_of_mem _ h)
      · rcases List.mem_cons.mp hq with rfl | hq
        · exact h2 q List.mem_cons_self
        · rcases List.mem_cons.mp hq with rfl | hq
          · have a := h2 n List.mem_cons_self
            have b : ¬ n < q := fun z => c (l1.mpr z)
            omega
          · exact h2 q (List.mem_cons_of_mem _ hq)
theorem cr_maxT {X : Cx} (hc : X.calm = true) (hu : X.A.units + 64 < cLine) : CallR X (.builtin "max") (rMaxT X.K) := by
  intro pins s σ H vs us Q I r h
  obtain ⟨a, ns, rfl, hs, hne, q⟩ := h
  obtain ⟨its, rv, hl, _⟩ := I.tuple hs
  rw [Vals.ref1 r]
  cases ns with
  | nil => exact absurd rfl hne
  | cons n ns =>
    obtain ⟨as, ra⟩ := Dp.readsAll I _ _ its (DpAll.ints (K := X.K) (n :: ns)) rv
    refine PySem.W.max_tuple_datum (α := Int) (x := n) (xs := ns) (I.ok.hd hc) (isTup_isTuple hl) ⟨as, ra⟩ (by show X.A.units + 1 + 0 < _; omega) fun i v h' tk hi hv hk => ?_
    obtain ⟨hm, hle⟩ := maxOf_most ns n
    obtain ⟨cs, rm⟩ := hv
    have rm' : Reads h' v (.int (PySem.W.maxOf n ns)) cs := rm
    cases rm' with
    | int _ t => exact ⟨.int _, H, I.kept hk, ⟨t, rfl⟩, q _ hm hle⟩
end Rb
namespace Rb
/-! waits by the ticks alone -/
end Rb
namespace Rb
open PySem PySem.Spec PyProof.Rows L2
end Rb
namespace Rb
open PySem PySem.Spec PyProof.Rows L2
/-! own errors with one field: made, raised, caught, asked for their class -/
/-- __init__(self, f): self.f = f -/
def spIni (K : PySem.W.Frag) (C : Addr) (f : Str) : Sp := fun vs H Q _ => ∃ (a : Addr) (y : V), vs = [.ref a, y] ∧ H a = some (exo a C none) ∧ ∀ dx, H dx = none → dx ≠ a → Q .non (upd (upd H dx (exd dx [(f, y)])) a (exo a C (some dx)))
theorem made_eq {H : Hp} {a d C : Addr} {f : Str} {y : V} (ha : H a = none) (hd : d ≠ a) :
    upd (del (upd (upd (upd H a (exo a C none)) d (exd d [(f, y)])) a (exo a C (some d))) a) d (.xd [(f, y)]) = upd H d (.xd [(f, y)]) := by
  funext b
  by_cases h1 : b = d
  · subst h1
    rw [upd_same, upd_same]
  · rw [upd_ne h1, upd_ne h1]
    by_cases h2 : b = a
    · subst h2
      rw [del_same, ha]
    · rw [del_ne h2, upd_ne h2, upd_ne h1, upd_ne h2]
/-- what remains to show of raise C(e) -/
theorem mkO_of {K : PySem.W.Frag} {C : Addr} {f : Str} {H1 : Hp} {y : V} {W : XK} (q : ∀ d, H1 d = none → W (.ref C) (some d) (upd H1 d (.xd [(f, y)]))) :
    [y].length ≤ 1000 ∧ ∀ a, H1 a = none → spIni K C f (.ref a :: ([y] ++ [])) (upd H1 a (exo a C none))
      (fun v H2 => v = .non ∧ ∃ (d : Addr) (fs : List (Str × V)), H2 a = some (exo a C (some d)) ∧ H2 d = some (exd d fs) ∧ H1 d = none ∧ W (.ref C) (some d) (upd (del H2 a) d (.xd fs))) (fun _ _ _ => False) := by
  refine ⟨by show 1 ≤ 1000; decide, fun a ha => ⟨a, y, rfl, upd_same, fun d hd ne => ⟨rfl, d, [(f, y)], upd_same, ?_, ?_, ?_⟩⟩⟩
  · rw [upd_ne ne, upd_same]
  · rw [upd_ne ne] at hd
    exact hd
  · rw [made_eq ha ne]
    rw [upd_ne ne] at hd
    exact q d hd
/-! ### isinstance of the error that a suite holds -/
end Rb
namespace Rb
open PySem PySem.Spec PyProof.Rows L2
/-! roads one behind the other -/
abbrev Rd := Int × Int × List Int
/-- roads in a sequence -/
def Rds (K : PySem.W.Frag) (H : Hp) (xs : List V) (rs : List Rd) : Prop := xs.length = rs.length ∧ ∀ (i : Nat) (r : Rd), rs[i]? = some r → ∃ v, xs[i]? = some v ∧ Road K H v r.1 r.2.1 r.2.2
section
variable {K : PySem.W.Frag} {H H' : Hp} {xs : List V} {rs : List Rd}
theorem Rds.nil : Rds K H [] [] := ⟨rfl, fun i r h => by simp at h⟩
theorem Road.keep {v : V} {w r : Int} {bs : List Int} (x : Road K H v w r bs) (k : ∀ a ys, SqT K H a ys → SqT K H' a ys) : Road K H' v w r bs := by
  obtain ⟨a, b, rfl, h1, h2⟩ := x
  exact ⟨a, b, rfl, k _ _ h1, k _ _ h2⟩
theorem Rds.keep (h : Rds K H xs rs) (k : ∀ a ys, SqT K H a ys → SqT K H' a ys) : Rds K H' xs rs :=
  ⟨h.1, fun i r e => by
    obtain ⟨v, h1, h2⟩ := h.2 i r e
    exact ⟨v, h1, h2.keep k⟩⟩
theorem Rds.ex (h : Rds K H xs rs) (e : Evl.Ex H H') : Rds K H' xs rs := h.keep fun _ _ z => Evl.ex_t e z
theorem Rds.kp {d c : Addr} {N : Int} (h : Rds K H xs rs) (k : Kp d c H H') (dk : Dk H d c N) : Rds K H' xs rs := h.keep fun _ _ z => k.sqT dk z
theorem Rds.cons {v : V} {r : Rd} (h1 : Road K H v r.1 r.2.1 r.2.2) (h : Rds K H xs rs) : Rds K H (v :: xs) (r :: rs) := by
  refine ⟨by rw [List.length_cons, List.length_cons, h.1], fun i s e => ?_⟩
  cases i with
  | zero =>
    cases e
    exact ⟨v, rfl, h1⟩
  | succ i => exact h.2 i s e
theorem Rds.snoc {v : V} {r : Rd} (h : Rds K H xs rs) (h1 : Road K H v r.1 r.2.1 r.2.2) : Rds K H (xs ++ [v]) (rs ++ [r]) := by
  refine ⟨by simp [h.1], fun i s e => ?_⟩
  by_cases hi : i < rs.length
  · rw [List.getElem?_append_left hi] at e
    obtain ⟨u, h2, h3⟩ := h.2 i s e
    exact ⟨u, by rw [List.getElem?_append_left (by rw [h.1]; exact hi)]; exact h2, h3⟩
  · have hl := (List.getElem?_eq_some_iff.mp e).1
    rw [List.length_append] at hl
    have hi2 : i = rs.length := by simp at hl; omega
    subst hi2
    rw [List.getElem?_concat_length] at e
    cases e
    exact ⟨v, by rw [← h.1]; exact List.getElem?_concat_length, h1⟩
theorem Rds.uncons {v : V} {r : Rd} (h : Rds K H (v :: xs) (r :: rs)) : Road K H v r.1 r.2.1 r.2.2 ∧ Rds K H xs rs := by
  refine ⟨?_, by have := h.1; rw [List.length_cons, List.length_cons] at this; omega, fun i s e => h.2 (i + 1) s e⟩
  obtain ⟨u, h1, h2⟩ := h.2 0 r rfl
  cases h1
  exact h2
theorem Rds.at {i : Nat} {v : V} (h : Rds K H xs rs) (hv : xs[i]? = some v) : ∃ r, rs[i]? = some r ∧ Road K H v r.1 r.2.1 r.2.2 := by
  have hl := (List.getElem?_eq_some_iff.mp hv).1
  have e : rs[i]? = some (rs[i]'(by rw [← h.1]; exact hl)) := List.getElem?_eq_getElem _
  obtain ⟨u, h1, h2⟩ := h.2 i _ e
  rw [hv] at h1
  cases h1
  exact ⟨_, e, h2⟩
theorem Rds.set {i : Nat} {v : V} {r : Rd} (h : Rds K H xs rs) (h1 : Road K H v r.1 r.2.1 r.2.2) : Rds K H (xs.set i v) (rs.set i r) := by
  refine ⟨by simp [h.1], fun j s e => ?_⟩
  by_cases hij : i = j
  · subst hij
    by_cases hl : i < rs.length
    · rw [List.getElem?_set_self hl] at e
      cases e
      exact ⟨v, List.getElem?_set_self (by rw [h.1]; exact hl), h1⟩
    · rw [List.getElem?_eq_none (by simp; omega)] at e
      cases e
  · rw [List.getElem?_set_ne hij] at e
    obtain ⟨u, h2, h3⟩ := h.2 j s e
    exact ⟨u, by rw [List.getElem?_set_ne hij]; exact h2, h3⟩
theorem Rds.dp : ∀ {xs : List V} {rs : List Rd}, Rds K H xs rs → DpAll K H xs (rs.map fun r => roadD r.1 r.2.1 r.2.2)
  | [], [], _ => .nil
  | [], _ :: _, h => by cases h.1
  | _ :: _, [], h => by cases h.1
  | x :: xs, r :: rs, h => by
    obtain ⟨h1, h2⟩ := h.uncons
    exact .cons h1.dp (Rds.dp h2)
/-! the two ends of a road -/
end
/-! a result: plain immutable data, or a new list of a text and a number -/
def Res (K : PySem.W.Frag) (H0 H : Hp) (v : V) (d : PyData) : Prop := Tp K H v d ∨ ∃ (q : Addr) (x : Str) (n : Int), v = .ref q ∧ H0 q = none ∧ H q = some (.lst [.str x, .int n]) ∧ d = .list [.str x, .int n]
theorem Res.ex {K : PySem.W.Frag} {H0 H H' : Hp} {v : V} {d : PyData} (h : Res K H0 H v d) (e : Evl.Ex H H') : Res K H0 H' v d := by
  rcases h with h | ⟨q, x, n, h1, h2, h3, h4⟩
  · exact .inl (h.ex e)
  · exact .inr ⟨q, x, n, h1, h2, e _ _ h3, h4⟩
theorem Res.old {K : PySem.W.Frag} {H0 H1 H : Hp} {v : V} {d : PyData} (h : Res K H1 H v d) (e : Evl.Ex H0 H1) : Res K H0 H v d := by
  rcases h with h | ⟨q, x, n, h1, h2, h3, h4⟩
  · exact .inl h
  · refine .inr ⟨q, x, n, h1, ?_, h3, h4⟩
    cases z : H0 q with
    | none => rfl
    | some o => rw [e _ _ z] at h2; cases h2
theorem Res.dp {K : PySem.W.Frag} {H0 H : Hp} {v : V} {d : PyData} (h : Res K H0 H v d) : Dp K H v d := by
  rcases h with h | ⟨q, x, n, h1, h2, h3, h4⟩
  · exact Tp.dp _ _ h
  · subst h1 h4
    exact .lst (lstOf h3) (.cons (.str x) (.cons (.int n) .nil))
/-- the same of all, the lists none of them at D -/
inductive ResAll (K : PySem.W.Frag) (D : Addr) (H : Hp) : List V → List PyData → Prop
  | nil : ResAll K D H [] []
  | tp {v : V} {d : PyData} {vs : List V} {ds : List PyData} : Tp K H v d → ResAll K D H vs ds → ResAll K D H (v :: vs) (d :: ds)
  | ls {q : Addr} {x : Str} {n : Int} {vs : List V} {ds : List PyData} : q ≠ D → H q = some (.lst [.str x, .int n]) → ResAll K D H vs ds → ResAll K D H (.ref q :: vs) (.list [.str x, .int n] :: ds)
section
variable {K : PySem.W.Frag} {D : Addr} {H H' : Hp}
theorem ResAll.dp : ∀ {vs : List V} {ds : List PyData}, ResAll K D H vs ds → DpAll K H vs ds
  | _, _, .nil => .nil
  | _, _, .tp h r => .cons (Tp.dp _ _ h) r.dp
  | _, _, .ls _ h r => .cons (.lst (lstOf h) (.cons (.str _) (.cons (.int _) .nil))) r.dp
theorem ResAll.ex (e : Evl.Ex H H') : ∀ {vs : List V} {ds : List PyData}, ResAll K D H vs ds → ResAll K D H' vs ds
  | _, _, .nil => .nil
  | _, _, .tp h r => .tp (h.ex e) (r.ex e)
  | _, _, .ls n h r => .ls n (e _ _ h) (r.ex e)
theorem ResAll.snoc {H0 : Hp} {v : V} {d : PyData} {o : HO} (hv : Res K H0 H v d) (hD : H0 D = some o) : ∀ {vs : List V} {ds : List PyData}, ResAll K D H vs ds → ResAll K D H (vs ++ [v]) (ds ++ [d])
  | _, _, .nil => by
    rcases hv with h | ⟨q, x, n, h1, h2, h3, h4⟩
    · exact .tp h .nil
    · subst h1 h4
      exact .ls (fun z => by rw [z, hD] at h2; cases h2) h3 .nil
  | _, _, .tp h r => .tp h (r.snoc hv hD)
  | _, _, .ls n h r => .ls n h (r.snoc hv hD)
theorem ResAll.length : ∀ {vs : List V} {ds : List PyData}, ResAll K D H vs ds → vs.length = ds.length
  | _, _, .nil => rfl
  | _, _, .tp _ r => congrArg Nat.succ r.length
  | _, _, .ls _ _ r => congrArg Nat.succ r.length
end
end Rb
namespace Rb
open PySem PySem.Spec PyProof.Rows L2
/-! any value: plain data, small dicts from texts to ints among it -/
def dicV (ps : List (Str × Int)) : List (Key × V) := ps.map fun p => (Sum.inr p.1, V.int p.2)
def dicD (ps : List (Str × Int)) : PyData := .dict (ps.map fun p => (.str p.1, .int p.2))
mutual
inductive Ap (K : PySem.W.Frag) (S : List Addr) (H : Hp) : V → PyData → Prop
  | non : Ap K S H .non .none
  | bl (b : Bool) : Ap K S H (.bl b) (.bool b)
  | int (i : Int) : Ap K S H (.int i) (.int i)
  | str (x : Str) : Ap K S H (.str x) (.str x)
  | lst {a : Addr} {xs : List V} {ds : List PyData} : a ∉ S → L2.Rd H a (.lst xs) → ApAll K S H xs ds → Ap K S H (.ref a) (.list ds)
  | tup {a : Addr} {xs : List V} {ds : List PyData} : SqT K H a xs → ApAll K S H xs ds → Ap K S H (.ref a) (.tuple ds)
  | dic {a : Addr} {ps : List (Str × Int)} : H a = some (.dK (dicV ps)) → Ap K S H (.ref a) (dicD ps)
inductive ApAll (K : PySem.W.Frag) (S : List Addr) (H : Hp) : List V → List PyData → Prop
  | nil : ApAll K S H [] []
  | cons {v : V} {vs : List V} {d : PyData} {ds : List PyData} : Ap K S H v d → ApAll K S H vs ds → ApAll K S H (v :: vs) (d :: ds)
end
section
variable {X : Cx} {pins : List (Addr × Obj)} {σ : L2.St} {H : Hp} {s : Shared} {S : List Addr}
theorem dic_reads {h : Heap} : ∀ {ps : List (Str × Int)} {vs : List (Key × Value)} {es : List DictEntry}, KV (dicV ps) vs → Pairs (mixKind X.prog X.w) es vs →
    ReadsAll h (es.map (·.key)) (ps.map fun p => PyData.str p.1) [] ∧ ReadsAll h (es.map (·.val)) (ps.map fun p => PyData.int p.2) []
  | [], _, _, .nil, .nil => ⟨.nil, .nil⟩
  | p :: ps, _, _, .cons hp r, .cons h1 h2 h3 => by
    obtain ⟨q1, q2⟩ := dic_reads r h3
    obtain ⟨e1, t, e2⟩ := hp
    have hk : keyIs (Sum.inr p.1) _ = true := e1 ▸ h1
    rcases keyIs_shape hk with ⟨i, t, z, _⟩ | ⟨x, t2, z, e3⟩
    · cases z
    · cases z
      refine ⟨?_, ?_⟩
      · rw [List.map_cons, List.map_cons, e3]
        exact ReadsAll.cons (as := []) (bs := []) (.str _ _) q1
      · rw [List.map_cons, List.map_cons, h2, e2]
        exact ReadsAll.cons (as := []) (bs := []) (.int _ _) q2
mutual
theorem Ap.reads (hm : sysModules ∈ S) (I : Inv X pins σ H s) : ∀ (d : PyData) (v : V) (u : Value), Ap X.K S H v d → RelV v u → ∃ as, Reads s.heap u d as ∧ sysModules ∉ as
  | .none, _, _, h, r => by
    cases h
    cases r
    exact ⟨_, Reads.none, (fun z => nomatch z)⟩
  | .bool b, _, _, h, r => by
    cases h
    cases r
    exact ⟨_, Reads.bool b, (fun z => nomatch z)⟩
  | .int i, _, _, h, r => by
    cases h
    obtain ⟨t, rfl⟩ := r
    exact ⟨_, Reads.int i t, (fun z => nomatch z)⟩
  | .str x, _, _, h, r => by
    cases h
    obtain ⟨t, rfl⟩ := r
    exact ⟨_, Reads.str x t, (fun z => nomatch z)⟩
  | .list ds, _, _, h, r => by
    cases h with
    | lst ne hs ha =>
      cases r
      obtain ⟨its, rv, ⟨o, n, ho, hc, _, hd⟩, _⟩ := I.list (show SqL X.K H _ _ from .inl hs)
      obtain ⟨as, hr, no⟩ := Ap.readsAll hm I ds _ its ha rv
      refine ⟨_, Reads.list ho hc hd hr, fun z => ?_⟩
      rcases List.mem_cons.mp z with z | z
      · exact ne (z ▸ hm)
      · exact no z
  | .tuple ds, _, _, h, r => by
    cases h with
    | tup hs ha =>
      cases r
      obtain ⟨its, rv, ⟨o, ho, hc, n, hd⟩, _⟩ := I.tuple hs
      obtain ⟨as, hr, no⟩ := Ap.readsAll hm I ds _ its ha rv
      exact ⟨_, Reads.tuple ho hc hd hr, no⟩
  | .dict kvs, _, _, h, r => by
    generalize e : PyData.dict kvs = dd at h
    cases h with
    | non => cases e
    | bl => cases e
    | int => cases e
    | str => cases e
    | lst => cases e
    | tup => cases e
    | @dic a ps hd =>
      cases (PyData.dict.inj e)
      cases r
      obtain ⟨_, ne, vs, rel, o, es, ep, ho, hx, hdat, _, hp, _⟩ := dk_of I.hok hd
      obtain ⟨q1, q2⟩ := dic_reads (X := X) (h := s.heap) rel hp
      have e1 : (ps.map fun p => ((PyData.str p.1, PyData.int p.2) : PyData × PyData)).map (·.1) = ps.map fun p => PyData.str p.1 := by rw [List.map_map]; rfl
      have e2 : (ps.map fun p => ((PyData.str p.1, PyData.int p.2) : PyData × PyData)).map (·.2) = ps.map fun p => PyData.int p.2 := by rw [List.map_map]; rfl
      refine ⟨_, Reads.dict (as := []) (bs := []) ho hx.1 hdat (by rw [e1]; exact q1) (by rw [e2]; exact q2), fun z => ?_⟩
      rcases List.mem_cons.mp z with z | z
      · rw [← z] at ne
        cases ne
      · cases z
theorem Ap.readsAll (hm : sysModules ∈ S) (I : Inv X pins σ H s) : ∀ (ds : List PyData) (vs : List V) (us : List Value), ApAll X.K S H vs ds → Vals vs us → ∃ as, ReadsAll s.heap us ds as ∧ sysModules ∉ as
  | [], _, _, h, r => by
    cases h
    cases r
    exact ⟨_, ReadsAll.nil, (fun z => nomatch z)⟩
  | d :: ds, _, _, h, r => by
    cases h with
    | cons h1 h2 =>
      cases r with
      | cons r1 r2 =>
        obtain ⟨as, q1, n1⟩ := Ap.reads hm I d _ _ h1 r1
        obtain ⟨bs, q2, n2⟩ := Ap.readsAll hm I ds _ _ h2 r2
        refine ⟨_, ReadsAll.cons q1 q2, fun z => ?_⟩
        rcases List.mem_append.mp z with z | z
        · exact n1 z
        · exact n2 z
end
end
/-! what stays -/
section
variable {K : PySem.W.Frag} {H H' : Hp} {S : List Addr}
mutual
theorem Ap.keep (kl : ∀ a xs, a ∉ S → L2.Rd H a (.lst xs) → L2.Rd H' a (.lst xs)) (kt : ∀ a xs, SqT K H a xs → SqT K H' a xs) (kd : ∀ a ps, H a = some (.dK ps) → H' a = some (.dK ps)) : ∀ (d : PyData) (v : V), Ap K S H v d → Ap K S H' v d
  | .none, _, h => by cases h; exact .non
  | .bool b, _, h => by cases h; exact .bl b
  | .int i, _, h => by cases h; exact .int i
  | .str x, _, h => by cases h; exact .str x
  | .list ds, _, h => by
    cases h with
    | lst ne hs ha => exact .lst ne (kl _ _ ne hs) (ApAll.keep kl kt kd ds _ ha)
  | .tuple ds, _, h => by
    cases h with
    | tup hs ha => exact .tup (kt _ _ hs) (ApAll.keep kl kt kd ds _ ha)
  | .dict kvs, _, h => by
    generalize e : PyData.dict kvs = dd at h ⊢
    cases h with
    | non => cases e
    | bl => cases e
    | int => cases e
    | str => cases e
    | lst => cases e
    | tup => cases e
    | dic hd => exact .dic (kd _ _ hd)
theorem ApAll.keep (kl : ∀ a xs, a ∉ S → L2.Rd H a (.lst xs) → L2.Rd H' a (.lst xs)) (kt : ∀ a xs, SqT K H a xs → SqT K H' a xs) (kd : ∀ a ps, H a = some (.dK ps) → H' a = some (.dK ps)) : ∀ (ds : List PyData) (vs : List V), ApAll K S H vs ds → ApAll K S H' vs ds
  | [], _, h => by cases h; exact .nil
  | d :: ds, _, h => by
    cases h with
    | cons h1 h2 => exact .cons (Ap.keep kl kt kd d _ h1) (ApAll.keep kl kt kd ds _ h2)
end
theorem Ap.ex {v : V} {d : PyData} (h : Ap K S H v d) (e : Evl.Ex H H') : Ap K S H' v d := Ap.keep (fun _ _ _ z => Evl.ex_rd e z) (fun _ _ z => Evl.ex_t e z) (fun _ _ z => e _ _ z) d v h
theorem ApAll.ex {vs : List V} {ds : List PyData} (h : ApAll K S H vs ds) (e : Evl.Ex H H') : ApAll K S H' vs ds := ApAll.keep (fun _ _ _ z => Evl.ex_rd e z) (fun _ _ z => Evl.ex_t e z) (fun _ _ z => e _ _ z) ds vs h
theorem ApAll.length : ∀ {vs : List V} {ds : List PyData}, ApAll K S H vs ds → vs.length = ds.length
  | _, _, .nil => rfl
  | _, _, .cons _ r => congrArg Nat.succ r.length
theorem ApAll.at : ∀ {vs : List V} {ds : List PyData} {i : Nat} {v : V}, ApAll K S H vs ds → vs[i]? = some v → ∃ d, ds[i]? = some d ∧ Ap K S H v d
  | _, _, i, _, .nil, h => by simp at h
  | _, _, 0, _, .cons h1 _, h => by
    cases h
    exact ⟨_, rfl, h1⟩
  | _, _, i + 1, _, .cons _ h2, h => ApAll.at (i := i) h2 h
theorem ApAll.append : ∀ {vs ws : List V} {ds es : List PyData}, ApAll K S H vs ds → ApAll K S H ws es → ApAll K S H (vs ++ ws) (ds ++ es)
  | _, _, _, _, .nil, h => h
  | _, _, _, _, .cons h1 h2, h => .cons h1 (h2.append h)
mutual
theorem Tp.ap : ∀ (d : PyData) (v : V), Tp K H v d → Ap K S H v d
  | .none, _, h => by cases h; exact .non
  | .bool b, _, h => by cases h; exact .bl b
  | .int i, _, h => by cases h; exact .int i
  | .str x, _, h => by cases h; exact .str x
  | .list ds, _, h => by cases h
  | .tuple ds, _, h => by
    cases h with
    | tup hs ha => exact .tup hs (TpAll.ap ds _ ha)
  | .dict kvs, _, h => by cases h
theorem TpAll.ap : ∀ (ds : List PyData) (vs : List V), TpAll K H vs ds → ApAll K S H vs ds
  | [], _, h => by cases h; exact .nil
  | d :: ds, _, h => by
    cases h with
    | cons h1 h2 => exact .cons (Tp.ap d _ h1) (TpAll.ap ds _ h2)
end
end
/-! the deck's two lists apart -/
theorem Kp.rd {d c a : Addr} {H H' : Hp} {u : HO} (k : Kp d c H H') (n1 : a ≠ d) (n2 : a ≠ c) (hs : L2.Rd H a u) : L2.Rd H' a u := by
  rcases hs with h | ⟨o, h⟩
  · exact .inl (k _ _ h n1 n2)
  · exact .inr ⟨o, k _ _ h n1 n2⟩
theorem Kp.dic {d c a : Addr} {H H' : Hp} {N : Int} {ps : List (Key × V)} (k : Kp d c H H') (dk : Dk H d c N) (h : H a = some (.dK ps)) : H' a = some (.dK ps) := by
  obtain ⟨cs, n, h1, h2, _⟩ := dk
  refine k _ _ h (fun z => ?_) (fun z => ?_)
  · rw [z, h1] at h
    cases h
  · rw [z, h2] at h
    cases h
/-- addresses that lists of values keep away from: the table of modules, the deck's two lists, and others that stand already -/
structure Sok (H : Hp) (d c : Addr) (S : List Addr) : Prop where
  m : sysModules ∈ S
  d : d ∈ S
  c : c ∈ S
  old : ∀ a ∈ S, a = sysModules ∨ ∃ o, H a = some o
theorem Sok.kp {H H' : Hp} {d c : Addr} {S : List Addr} {N M : Int} (h : Sok H d c S) (k : Kp d c H H') (dk : Dk H' d c M) : Sok H' d c S := by
  refine ⟨h.m, h.d, h.c, fun a ha => ?_⟩
  obtain ⟨cs, n, h1, h2, _⟩ := dk
  by_cases e1 : a = d
  · subst e1
    exact .inr ⟨_, h1⟩
  by_cases e2 : a = c
  · subst e2
    exact .inr ⟨_, h2⟩
  rcases h.old a ha with e | ⟨o, e⟩
  · exact .inl e
  · exact .inr ⟨o, k _ _ e e1 e2⟩
theorem Sok.ex {H H' : Hp} {d c : Addr} {S : List Addr} (h : Sok H d c S) (e : Evl.Ex H H') : Sok H' d c S := ⟨h.m, h.d, h.c, fun a ha => by
  rcases h.old a ha with z | ⟨o, z⟩
  · exact .inl z
  · exact .inr ⟨o, e _ _ z⟩⟩
theorem Sok.new {H : Hp} {d c p : Addr} {S : List Addr} (h : Sok H d c S) (np : H p = none) (ns : p ≠ sysModules) : p ∉ S := fun z => by
  rcases h.old p z with e | ⟨o, e⟩
  · exact ns e
  · rw [np] at e
    cases e
theorem Ap.kp {K : PySem.W.Frag} {d c : Addr} {S : List Addr} {H H' : Hp} {N : Int} {v : V} {x : PyData} (h : Ap K S H v x) (ok : Sok H d c S) (k : Kp d c H H') (dk : Dk H d c N) : Ap K S H' v x :=
  Ap.keep (fun a _ n z => k.rd (fun e => n (e ▸ ok.d)) (fun e => n (e ▸ ok.c)) z) (fun _ _ z => k.sqT dk z) (fun _ _ z => k.dic dk z) x v h
theorem ApAll.kp {K : PySem.W.Frag} {d c : Addr} {S : List Addr} {H H' : Hp} {N : Int} {vs : List V} {xs : List PyData} (h : ApAll K S H vs xs) (ok : Sok H d c S) (k : Kp d c H H') (dk : Dk H d c N) : ApAll K S H' vs xs :=
  ApAll.keep (fun a _ n z => k.rd (fun e => n (e ▸ ok.d)) (fun e => n (e ▸ ok.c)) z) (fun _ _ z => k.sqT dk z) (fun _ _ z => k.dic dk z) xs vs h
/-! one more address that lists keep away from, because it was free -/
/-! an address of S may be forgotten -/
/-! repr, ==, != of any such value -/
/-! lists that stand apart from the table of modules -/
def tLstN (t : TA) : TE := fun σ H Q => t σ H fun xs H1 => xs.length ≤ sizeLine ∧ ∀ p, H1 p = none → p ≠ sysModules → Q (.ref p) (upd H1 p (.lst xs))
theorem pe_lstN {X : Cx} {es : List Expr} {t : TA} {pos : Pos} (h : PA X es t) : PE X (.List es pos) (tLstN t) := by
  refine ⟨fun pins s σ H Q I hq => ?_⟩
  refine wpAny_List_spliced (thn (h.run pos pins s σ H _ I hq) fun us s1 ⟨xs, H1, I1, r, z, q⟩ => ⟨by rw [← r.length]; exact z, ?_⟩)
  have hf : H1 s1.heap.objs.size = none := I1.hok.fresh (Nat.le_refl _)
  refine ⟨.ref s1.heap.objs.size, upd H1 s1.heap.objs.size (.lst xs), I1.laid (t' := s1.toks) (fun b u e => Heap.get?_push_of_some _ e) (Nat.le_refl _) ?_, rfl, q _ hf (Nat.ne_of_gt I1.big)⟩
  exact ⟨z, us, 0, r, Heap.get?_push_size _ rfl⟩
def rListN (K : PySem.W.Frag) : List V → Hp → VK → Prop := fun xs H Q => ∃ p ys, xs = [.ref p] ∧ (SqL K H p ys ∨ SqT K H p ys) ∧ ∀ l, H l = none → l ≠ sysModules → Q (.ref l) (upd H l (.lst ys))
theorem call_listN {X : Cx} : CallR X (.type "list") (rListN X.K) := by
  intro pins s σ H xs us Q I r h
  obtain ⟨p, ys, rfl, hq, q⟩ := h
  obtain ⟨u, rfl, rx⟩ := vals1 r
  cases rx
  have fin : ∀ (its : List Value), Vals ys its → ys.length ≤ sizeLine → ∀ (h' : Heap) (c' : Nat), (∀ b o', s.heap.get? b = some o' → h'.get? b = some o') →
      h'.get? s.heap.objs.size = some { cls := .type "list", dict := none, data := .seq its.toArray c', slots := #[] } → EP X pins σ Q (.ref s.heap.objs.size) { s with heap := h' } := fun its r' hz h' c' kp e =>
    ⟨.ref s.heap.objs.size, _, I.laid (t' := s.toks) kp (Nat.le_refl _) (show ObjOk X.prog X.w _ h' _ (.lst ys) from ⟨hz, its, c', r', e⟩), rfl, q _ (I.hok.fresh (Nat.le_refl _)) (Nat.ne_of_gt I.big)⟩
  rcases hq with hq | hq
  · obtain ⟨its, r', pl, hz⟩ := I.list hq
    have hlen := r'.length
    obtain ⟨o, ho, hc, n, hd⟩ := pl.isList
    exact call_list_seq p (.inl rfl) ho hc hd (fun h' c' kp e => fin its r' hz h' c' kp e) (by simp only [List.size_toArray] <;> omega)
  · obtain ⟨its, r', pl, hz⟩ := I.tuple hq
    have hlen := r'.length
    obtain ⟨o, ho, hc, n, hd⟩ := pl
    exact call_list_seq p (.inr rfl) ho hc hd (fun h' c' kp e => fin its r' hz h' c' kp e) (by simp only [List.size_toArray] <;> omega)
/-! the type of a value -/
def tyD : PyData → String
  | .none => "NoneType"
  | .bool _ => "bool"
  | .int _ => "int"
  | .str _ => "str"
  | .list _ => "list"
  | .tuple _ => "tuple"
  | .dict _ => "dict"
theorem Ap.ty {K : PySem.W.Frag} {S : List Addr} {H : Hp} {v : V} {d : PyData} (h : Ap K S H v d) : TyX K H v (.type (tyD d)) := by
  cases h with
  | non => exact .base .non
  | bl b => exact .base (.bl b)
  | int i => exact .base (.int i)
  | str x => exact .base (.str x)
  | lst ne hs _ =>
    rcases hs with hs | ⟨o, hs⟩
    · exact .base (.lst hs)
    · exact .base (.frz hs)
  | tup hs _ =>
    rcases hs with (hs | ⟨o, hs⟩) | ⟨o, its, n, h1, h2, _⟩
    · exact .base (.tup hs)
    · exact .fTuple hs
    · exact .kTuple h1 h2
  | dic hd => exact .base (.dK hd)
end Rb
/-! t[::-1], t a tuple that is not empty -/
namespace Rb
open PySem PySem.Spec PyProof.Rows L2 HT
section
variable {prog : Program} {w : World} {A : Around} {E : Value → Shared → Prop} {s : Shared}
theorem backPlaces (n : Nat) : Builtin.Slice.slicePlaces ((n : Int) - 1) (-1) (-1) = n := by
  unfold Builtin.Slice.slicePlaces
  rw [if_neg (by decide)]
  by_cases h : (n : Int) - 1 > -1
  · rw [if_pos h, show (- -1 : Int) = 1 by decide, Int.ediv_one]
    omega
  · rw [if_neg h]
    omega
theorem backApplied {sl : Addr} {t : Tok} {n : Nat} {Q : Int × Int × Nat → Shared → Prop} (hs : s.heap.IsSliceOf sl .none .none (.int (-1) t)) (h : Q ((n : Int) - 1, -1, n) s) : wpAny (model prog w) A (Builtin.Slice.sliceApplied (.ref sl) (pure (n : Int))) Q E s := by
  obtain ⟨os, hos, hcs, hds⟩ := id hs
  unfold Builtin.Slice.sliceApplied Builtin.Slice.sliceFields
  refine wpAny_bind (wpAny_bind (wpAny_field hos hds (x := .none) rfl (wpAny_bind (wpAny_field hos hds (x := .none) rfl (wpAny_bind (wpAny_field hos hds (x := .int (-1) t) rfl (wpAny_pure ?_)))))))
  refine wpAny_bind (slicePart_ (.int (-1) t) ?_)
  show wpAny _ _ (if ((-1 : Int) == 0) = true then _ else _) _ _ s
  rw [if_neg (by decide)]
  refine wpAny_bind (slicePart_ .none (wpAny_bind (slicePart_ .none (wpAny_bind (wpAny_pure ?_)))))
  show wpAny _ _ (match Builtin.Slice.sliceAdjust none none (-1) (n : Int) with | (lo, hi) => pure (lo, (-1 : Int), Builtin.Slice.slicePlaces lo hi (-1))) _ _ s
  have e : Builtin.Slice.sliceAdjust none none (-1) (n : Int) = ((n : Int) - 1, -1) := rfl
  rw [e]
  show wpAny _ _ (pure ((n : Int) - 1, (-1 : Int), Builtin.Slice.slicePlaces ((n : Int) - 1) (-1) (-1))) _ _ s
  rw [backPlaces]
  exact wpAny_pure h
theorem backPick (xs : Array Value) : ((List.range xs.size).filterMap fun (m : Nat) => xs[((xs.size : Int) - 1 + (m : Int) * -1).toNat]?).toArray = xs.toList.reverse.toArray := by
  have e : (List.range xs.size).filterMap (fun (m : Nat) => xs[((xs.size : Int) - 1 + (m : Int) * -1).toNat]?) = xs.toList.reverse := by
    apply List.ext_getElem?
    intro i
    have hl : ∀ m ∈ List.range xs.size, (fun (m : Nat) => xs[((xs.size : Int) - 1 + (m : Int) * -1).toNat]?) m = some (xs.toList.reverse.getD m .none) := by
      intro m hm
      have hm2 := List.mem_range.mp hm
      have e1 : ((xs.size : Int) - 1 + (m : Int) * -1).toNat = xs.size - 1 - m := by omega
      have hx : xs.size - 1 - m < xs.size := by omega
      show xs[((xs.size : Int) - 1 + (m : Int) * -1).toNat]? = _
      rw [e1, Array.getElem?_eq_getElem hx, List.getD_eq_getElem?_getD, List.getElem?_reverse (by rw [Array.length_toList]; exact hm2), Array.length_toList, List.getElem?_eq_getElem (by rw [Array.length_toList]; exact hx)]
      rfl
    have e2 : (List.range xs.size).filterMap (fun (m : Nat) => xs[((xs.size : Int) - 1 + (m : Int) * -1).toNat]?) = (List.range xs.size).map (fun m => xs.toList.reverse.getD m .none) := by
      have go : ∀ l : List Nat, (∀ m ∈ l, (fun (m : Nat) => xs[((xs.size : Int) - 1 + (m : Int) * -1).toNat]?) m = some (xs.toList.reverse.getD m .none)) → l.filterMap (fun (m : Nat) => xs[((xs.size : Int) - 1 + (m : Int) * -1).toNat]?) = l.map (fun m => xs.toList.reverse.getD m .none) := by
        intro l
        induction l with
        | nil => intro _; rfl
        | cons a r ih =>
          intro h
          rw [List.filterMap_cons_some (f := fun (m : Nat) => xs[((xs.size : Int) - 1 + (m : Int) * -1).toNat]?) (h a List.mem_cons_self), List.map_cons, ih fun m hm => h m (List.mem_cons_of_mem _ hm)]
      exact go _ hl
    rw [e2, List.getElem?_map]
    by_cases hi : i < xs.size
    · rw [List.getElem?_range hi, Option.map_some, List.getD_eq_getElem?_getD]
      have : i < xs.toList.reverse.length := by rw [List.length_reverse, Array.length_toList]; exact hi
      rw [List.getElem?_eq_getElem this]
      rfl
    · rw [List.getElem?_eq_none (by rw [List.length_range]; omega), List.getElem?_eq_none (by rw [List.length_reverse, Array.length_toList]; omega)]
      rfl
  rw [e]
theorem getItem_back {t sl : Addr} {tk : Tok} {items : Array Value} {Q : Value → Shared → Prop} (ht : IsTup s.heap t items) (hs : s.heap.IsSliceOf sl .none .none (.int (-1) tk))
    (h : Q (.ref s.heap.objs.size) { s with heap := s.heap.push { cls := .type "tuple", data := .seq items.toList.reverse.toArray } })
    (hsz : items.size ≤ sizeLine) : wpAny (model prog w) A (getItem (.ref t) (.ref sl)) Q E s := by
  have htake : sizeOk (.seq items.toList.reverse.toArray) := by
    show items.toList.reverse.toArray.size ≤ sizeLine
    rw [List.size_toArray, List.length_reverse, Array.length_toList]
    exact hsz
  obtain ⟨os, hos, hcs, hds⟩ := id hs
  have hTs : s.TypeIs (.ref sl) "slice" := ⟨os, hos, hcs⟩
  unfold getItem
  try with_reducible refine wpAny_holding ?_
  first | refine wpAny_bind (wpAny_pure ?_) | skip
  refine wpAny_bind (wpAny_sequenceKey ht.typeIs (by decide) ?_)
  refine wpAny_bind (wpAny_callSpecial?_slot (name := Str.ofString "__getitem__") ht.typeIs PyProof.Rows.slot_tuple_getitem
    (wpAny_call_entry PyProof.Rows.slot_tuple_getitem ht.typeIs entry_tuple_getitem ?_ (args_tuple_getitem _ _)))
  show wpAny _ _ (Builtin.Tuple.tupleItemsOf (.ref t) >>= _) _ _ s
  refine wpAny_bind (tupleItemsOf_ ht ?_)
  refine wpAny_bind (wpAny_typeOf hTs ?_)
  rw [if_pos (by decide)]
  refine wpAny_bind (backApplied hs ?_)
  have hno : ¬ ((((items.size : Int) - 1) == 0 && (-1 : Int) == 1 && items.size == items.size) = true) := by
    rw [show ((-1 : Int) == 1) = false by decide, Bool.and_false, Bool.false_and]
    exact Bool.false_ne_true
  show wpAny _ _ (if ((((items.size : Int) - 1) == 0 && (-1 : Int) == 1 && items.size == items.size) = true) then _ else _) _ _ s
  rw [if_neg hno, backPick]
  first
    | exact wpAny_bind (m := Builtin.Tuple.tupleExact _) (wpAny_newObj_type (wpAny_pure ⟨_, rfl, wpAny_pure h⟩) htake)
    | exact wpAny_bind (m := Builtin.Tuple.tupleExact _) (wpAny_newObj_type (wpAny_bind (wpAny_pure (wpAny_pure ⟨_, rfl, wpAny_pure h⟩))) htake)
    | exact wpAny_bind (wpAny_bind (m := Builtin.Tuple.tupleExact _) (wpAny_newObj_type (wpAny_pure (wpAny_pure ⟨_, rfl, wpAny_pure h⟩)) htake))
    | exact wpAny_bind (wpAny_bind (m := Builtin.Tuple.tupleExact _) (wpAny_newObj_type (wpAny_pure ⟨_, rfl, wpAny_pure h⟩) htake))
end
section
variable {X : Cx}
def tRevT (K : PySem.W.Frag) (te : TE) : TE := fun σ H Q => te σ H fun x H1 => ∃ a xs, x = .ref a ∧ SqT K H1 a xs ∧ ∀ p, H1 p = none → Q (.ref p) (upd H1 p (.tup xs.reverse))
theorem pe_revT {e : Expr} {te : TE} {k : Nat} {p1 p2 p3 pos : Pos} (he : PE X e te) : PE X (.Subscript e (.Slice none none (some (.UnaryOp .USub (.Constant (.int 1) k p1) p2)) p3) pos) (tRevT X.K te) := by
  refine ⟨fun pins s σ H Q I h => ?_⟩
  refine Subscript_ (thn (he.run pins s σ H _ I h) fun v s1 ⟨x, H1, I1, r1, q1⟩ => ?_)
  obtain ⟨a, xs, ex, hx, q⟩ := q1
  subst ex
  cases r1
  have hst : PO X (some (.UnaryOp .USub (.Constant (.int 1) k p1) p2)) (tPart (tUn (rU fun i => .int (-i)) (tC (.int 1)))) := po_some (pe_un un_neg pe_int)
  refine wpAny_Slice (thn (po_none.run pins s1 σ H1 (fun o H2 => o = none ∧ H2 = H1) I1 ⟨rfl, rfl⟩) fun vl s2 ⟨l, H2, I2, pl, el, e2⟩ => ?_)
  subst el e2
  refine thn (po_none.run pins s2 σ H2 (fun o H3 => o = none ∧ H3 = H2) I2 ⟨rfl, rfl⟩) fun vu s3 ⟨u, H3, I3, pu, eu, e3⟩ => ?_
  subst eu e3
  refine thn (hst.run pins s3 σ H3 (fun o H4 => o = some (-1) ∧ H4 = H3) I3 ⟨1, rfl, -1, rfl, rfl, rfl⟩) fun vs s4 ⟨o, H4, I4, ps, eo, e4⟩ => ?_
  subst eo e4
  obtain rfl : vl = Value.none := by cases pl; rfl
  obtain rfl : vu = Value.none := by cases pu; rfl
  obtain ⟨tk, rfl⟩ : ∃ tk, vs = Value.int (-1) tk := by cases ps; exact ⟨_, rfl⟩
  have I5 : L2.Inv X pins σ H4 { s4 with heap := s4.heap.push { cls := .type "slice", data := .fields #[.none, .none, .int (-1) tk] } } := I4.kept (t' := s4.toks) fun b ob q => Heap.get?_push_of_some _ q
  obtain ⟨its, r, ht, hz⟩ := I5.tuple hx
  have hlen := r.length
  show wpAny (model X.prog X.w) X.A (subscriptTail e (.Slice none none (some (.UnaryOp .USub (.Constant (.int 1) k p1) p2)) p3) (.ref a) (.ref s4.heap.objs.size)) (EP X pins σ Q) X.xe { s4 with heap := s4.heap.push { cls := .type "slice", data := .fields #[.none, .none, .int (-1) tk] } }
  refine tail_any (ops := [.ref a, .ref s4.heap.objs.size]) ht.typeIs (PyProof.Rows.slot_tuple_getitem.lookup) ?_ (by with_unfolding_all rfl)
  refine getItem_back ht (Heap.IsSliceOf.new _ .none .none (.int (-1) tk)) ?_ (by rw [List.size_toArray]; omega)
  refine ⟨.ref _, _, I5.laid (t' := s4.toks) (o := .tup xs.reverse) (fun b ob q => Heap.get?_push_of_some _ q) (Nat.le_refl _) ?_, rfl, q _ (I5.hok.fresh (Nat.le_refl _))⟩
  exact ⟨by rw [List.length_reverse]; exact hz, _, r.reverse, IsTup.new _ _⟩
end
/-! any value of a bounded size -/
def Av (K : PySem.W.Frag) (S : List Addr) (H : Hp) (k n : Nat) (v : V) : Prop := ∃ x, Ap K S H v x ∧ Nice k n x
def Avs (K : PySem.W.Frag) (S : List Addr) (H : Hp) (k n : Nat) (xs : List V) : Prop := ∀ v ∈ xs, Av K S H k n v
section
variable {K : PySem.W.Frag} {S S' : List Addr} {d c D : Addr} {H H' : Hp} {N : Int} {k n k' n' : Nat} {v : V} {xs ys : List V}
theorem Av.ex (h : Av K S H k n v) (e : Evl.Ex H H') : Av K S H' k n v := by
  obtain ⟨x, h1, h2⟩ := h
  exact ⟨x, h1.ex e, h2⟩
theorem Av.kp (h : Av K S H k n v) (ok : Sok H d c S) (e : Kp d c H H') (dk : Dk H d c N) : Av K S H' k n v := by
  obtain ⟨x, h1, h2⟩ := h
  exact ⟨x, h1.kp ok e dk, h2⟩
theorem Av.mono (h : Av K S H k n v) (h1 : k ≤ k') (h2 : n ≤ n') : Av K S H k' n' v := by
  obtain ⟨x, h3, h4⟩ := h
  exact ⟨x, h3, h4.mono h1 h2⟩
theorem Avs.ex (h : Avs K S H k n xs) (e : Evl.Ex H H') : Avs K S H' k n xs := fun v hv => (h v hv).ex e
theorem Avs.kp (h : Avs K S H k n xs) (ok : Sok H d c S) (e : Kp d c H H') (dk : Dk H d c N) : Avs K S H' k n xs := fun v hv => (h v hv).kp ok e dk
theorem Avs.mono (h : Avs K S H k n xs) (h1 : k ≤ k') (h2 : n ≤ n') : Avs K S H k' n' xs := fun v hv => (h v hv).mono h1 h2
theorem Avs.nil : Avs K S H k n [] := fun _ z => nomatch z
theorem Avs.cons (h1 : Av K S H k n v) (h : Avs K S H k n xs) : Avs K S H k n (v :: xs) := fun u hu => by
  rcases List.mem_cons.mp hu with rfl | hu
  · exact h1
  · exact h u hu
theorem Avs.append (h1 : Avs K S H k n xs) (h2 : Avs K S H k n ys) : Avs K S H k n (xs ++ ys) := fun u hu => by
  rcases List.mem_append.mp hu with hu | hu
  · exact h1 u hu
  · exact h2 u hu
theorem Avs.sub (h : Avs K S H k n xs) (hs : ∀ v ∈ ys, v ∈ xs) : Avs K S H k n ys := fun u hu => h u (hs u hu)
theorem Avs.data : ∀ {xs : List V}, Avs K S H k n xs → ∃ ds, ApAll K S H xs ds ∧ ∀ x ∈ ds, Nice k n x
  | [], _ => ⟨[], .nil, fun _ z => nomatch z⟩
  | v :: xs, h => by
    obtain ⟨x, h1, h2⟩ := h v List.mem_cons_self
    obtain ⟨ds, h3, h4⟩ := Avs.data fun u hu => h u (List.mem_cons_of_mem _ hu)
    refine ⟨x :: ds, .cons h1 h3, fun y hy => ?_⟩
    rcases List.mem_cons.mp hy with rfl | hy
    · exact h2
    · exact h4 y hy
theorem Av.tup {a : Addr} {m : Nat} (hs : SqT K H a xs) (h : Avs K S H k n xs) (hm : xs.length * (n + 1) ≤ m) : Av K S H (k + 1) m (.ref a) := by
  obtain ⟨ds, h1, h2⟩ := h.data
  exact ⟨_, .tup hs h1, Nice.tup h2 (by rw [← h1.length]; exact hm)⟩
theorem Av.lst {a : Addr} {m : Nat} (hn : a ∉ S) (hs : L2.Rd H a (.lst xs)) (h : Avs K S H k n xs) (hm : xs.length * (n + 1) ≤ m) : Av K S H (k + 1) m (.ref a) := by
  obtain ⟨ds, h1, h2⟩ := h.data
  exact ⟨_, .lst hn hs h1, Nice.lst h2 (by rw [← h1.length]; exact hm)⟩
theorem Av.int {i : Int} (h : i.natAbs < 10 ^ 99) : Av K S H k n (.int i) := ⟨_, .int i, (Nice.int h).mono (Nat.zero_le _) (Nat.zero_le _)⟩
theorem Av.bl {b : Bool} : Av K S H k n (.bl b) := ⟨_, .bl b, Nice.bool.mono (Nat.zero_le _) (Nat.zero_le _)⟩
theorem Avs.ints {ns : List Int} (h : ∀ i ∈ ns, i.natAbs < 10 ^ 99) : Avs K S H k n (ns.map V.int) := fun v hv => by
  obtain ⟨i, hi, rfl⟩ := List.mem_map.mp hv
  exact Av.int (h i hi)
end
/-! comprehensions over such values -/
end Rb
namespace Pu
open PySem PySem.Spec PyProof.Rows L2
/-! ## values without addresses (lst: k tells that the list is known to stand apart from the table of modules) -/
inductive D where
  | non | bl (b : Bool) | int (i : Int) | str (x : Str)
  | tup (xs : List D) | lst (k : Bool) (xs : List D) | dic (ps : List (Str × Int))
  | kls (xs : List D) | cell (n : Nat) | glo (x : Str) | ty (n : String)
  | ins (c : Str) (fs : List (Str × D))
  | exc (c : Str) (fs : List (Str × D))
instance : Inhabited D := ⟨.non⟩
/-- what stands in a cell -/
inductive Cl where
  | lst (xs : List D) | ins (c : Str) (fs : List (Str × D))
abbrev Sto := List Cl
abbrev Rho := List (Option D)
/-- the addresses of the cells; addresses that no value mentions -/
structure Mu where
  m : List Addr
  av : List Addr
/-- the row's written part and names -/
structure Ct where
  K : PySem.W.Frag
  mg : Str → Option Value
  hx : Addr → Option (Value × Option Addr)
/-- where no error is held -/
abbrev ct0 (K : PySem.W.Frag) (mg : Str → Option Value) : Ct := ⟨K, mg, fun _ => none⟩
section
variable (c : Ct) (μ : Mu) (H : Hp)
mutual
inductive Rp : V → D → Prop
  | non : Rp .non .non
  | bl (b : Bool) : Rp (.bl b) (.bl b)
  | int (i : Int) : Rp (.int i) (.int i)
  | str (x : Str) : Rp (.str x) (.str x)
  | tup {a : Addr} {vs : List V} {ds : List D} : H a = some (.tup vs) → RpAll vs ds → Rp (.ref a) (.tup ds)
  | lst {a : Addr} {k : Bool} {vs : List V} {ds : List D} : H a = some (.lst vs) → a ∉ μ.m → a ∉ μ.av → (k = true → a ≠ sysModules) → RpAll vs ds → Rp (.ref a) (.lst k ds)
  | kls {a : Addr} {vs : List V} {ds : List D} : L2.Rd H a (.lst vs) → a ∉ μ.m → a ∉ μ.av → RpAll vs ds → Rp (.ref a) (.kls ds)
  | klsK {a : Addr} {vs : List V} {ds : List D} (o : Obj) (its : Array Value) (n : Nat) : c.K.lookup a = some o → o.cls = .type "list" → o.dict = none → o.data = .seq its n → its.size ≤ sizeLine → Vals vs its.toList → RpAll vs ds → Rp (.ref a) (.kls ds)
  | dic {a : Addr} {ps : List (Str × Int)} : H a = some (.dK (Rb.dicV ps)) → a ∉ μ.m → a ∉ μ.av → Rp (.ref a) (.dic ps)
  | cell {n : Nat} {a : Addr} : μ.m[n]? = some a → Rp (.ref a) (.cell n)
  | glo {x : Str} {v : V} {u : Value} : c.mg x = some u → RelV v u → Rp v (.glo x)
  | ty (n : String) : Rp (.ty n) (.ty n)
  | ins {a C dx : Addr} {x : Str} {fv : List (Str × V)} {fs : List (Str × D)} : H a = some (.ins C dx fv) → a ∉ μ.m → a ∉ μ.av → c.mg x = some (.ref C) → RpFs fv fs → Rp (.ref a) (.ins x fs)
  | exc0 {a : Addr} {x : Str} {cls : Value} : c.hx a = some (cls, none) → c.mg x = some cls → Rp (.ref a) (.exc x [])
  | exc1 {a dx : Addr} {x : Str} {cls : Value} {fv : List (Str × V)} {fs : List (Str × D)} : c.hx a = some (cls, some dx) → c.mg x = some cls → H dx = some (.xd fv) → RpFs fv fs → Rp (.ref a) (.exc x fs)
inductive RpAll : List V → List D → Prop
  | nil : RpAll [] []
  | cons {v : V} {vs : List V} {d : D} {ds : List D} : Rp v d → RpAll vs ds → RpAll (v :: vs) (d :: ds)
inductive RpFs : List (Str × V) → List (Str × D) → Prop
  | nil : RpFs [] []
  | cons {f : Str} {v : V} {vs : List (Str × V)} {d : D} {ds : List (Str × D)} : Rp v d → RpFs vs ds → RpFs ((f, v) :: vs) ((f, d) :: ds)
end
end
/-! ## what stays -/
/-- from one state to a later one: cells may have changed, new ones may have come; all else is kept -/
structure Fw (μ : Mu) (H : Hp) (μ' : Mu) (H' : Hp) : Prop where
  pre : ∃ t, μ'.m = μ.m ++ t
  av : μ'.av = μ.av
  keep : ∀ a o, H a = some o → a ∉ μ.m → H' a = some o ∧ a ∉ μ'.m
theorem Fw.refl {μ : Mu} {H : Hp} : Fw μ H μ H := ⟨⟨[], by simp⟩, rfl, fun _ _ e n => ⟨e, n⟩⟩
theorem Fw.trans {μ μ1 μ2 : Mu} {H H1 H2 : Hp} (a : Fw μ H μ1 H1) (b : Fw μ1 H1 μ2 H2) : Fw μ H μ2 H2 := by
  obtain ⟨t, e⟩ := a.pre
  obtain ⟨u, e'⟩ := b.pre
  exact ⟨⟨t ++ u, by rw [e', e, List.append_assoc]⟩, b.av.trans a.av, fun x o e n => let ⟨h1, h2⟩ := a.keep x o e n; b.keep x o h1 h2⟩
theorem Fw.at {μ μ' : Mu} {H H' : Hp} (f : Fw μ H μ' H') {n : Nat} {a : Addr} (h : μ.m[n]? = some a) : μ'.m[n]? = some a := by
  obtain ⟨t, e⟩ := f.pre
  rw [e, List.getElem?_append_left (List.getElem?_eq_some_iff.mp h).1]
  exact h
theorem Fw.new {μ : Mu} {H : Hp} {p : Addr} {o : HO} (hp : H p = none) : Fw μ H μ (upd H p o) :=
  ⟨⟨[], by simp⟩, rfl, fun a u e n => ⟨by rw [upd_ne (ne_of_none e hp)]; exact e, n⟩⟩
/-- a new object that becomes a cell -/
theorem Fw.newC {μ : Mu} {H : Hp} {p : Addr} {o : HO} (hp : H p = none) : Fw μ H ⟨μ.m ++ [p], μ.av⟩ (upd H p o) :=
  ⟨⟨[p], rfl⟩, rfl, fun a u e n => ⟨by rw [upd_ne (ne_of_none e hp)]; exact e, fun z => by
    rcases List.mem_append.mp z with z | z
    · exact n z
    · exact ne_of_none e hp (List.mem_singleton.mp z)⟩⟩
/-- a cell is written -/
theorem Fw.write {μ : Mu} {H : Hp} {p : Addr} {o : HO} (hp : p ∈ μ.m) : Fw μ H μ (upd H p o) :=
  ⟨⟨[], by simp⟩, rfl, fun a u e n => ⟨by rw [upd_ne (fun z => n (by rw [z]; exact hp))]; exact e, n⟩⟩
section
variable {c : Ct} {μ μ' : Mu} {H H' : Hp}
/-- the general form: what a value leans on is kept -/
structure Kp (c : Ct) (μ : Mu) (H : Hp) (μ' : Mu) (H' : Hp) : Prop where
  t : ∀ a xs, H a = some (.tup xs) → H' a = some (.tup xs)
  l : ∀ a xs, L2.Rd H a (.lst xs) → a ∉ μ.m → a ∉ μ.av → L2.Rd H' a (.lst xs) ∧ a ∉ μ'.m ∧ a ∉ μ'.av
  m : ∀ a xs, H a = some (.lst xs) → a ∉ μ.m → a ∉ μ.av → H' a = some (.lst xs) ∧ a ∉ μ'.m ∧ a ∉ μ'.av
  d : ∀ a ps, H a = some (.dK ps) → a ∉ μ.m → a ∉ μ.av → H' a = some (.dK ps) ∧ a ∉ μ'.m ∧ a ∉ μ'.av
  i : ∀ a C dx fs, H a = some (.ins C dx fs) → a ∉ μ.m → a ∉ μ.av → H' a = some (.ins C dx fs) ∧ a ∉ μ'.m ∧ a ∉ μ'.av
  cl : ∀ (n : Nat) (a : Addr), μ.m[n]? = some a → μ'.m[n]? = some a
  x : ∀ a fv, H a = some (.xd fv) → H' a = some (.xd fv)
mutual
theorem Rp.kp (k : Kp c μ H μ' H') : ∀ {v : V} {d : D}, Rp c μ H v d → Rp c μ' H' v d
  | _, _, .non => .non
  | _, _, .bl b => .bl b
  | _, _, .int i => .int i
  | _, _, .str x => .str x
  | _, _, .tup h r => .tup (k.t _ _ h) (RpAll.kp k r)
  | _, _, .lst h n1 n2 n3 r => let ⟨a, b, d⟩ := k.m _ _ h n1 n2; .lst a b d n3 (RpAll.kp k r)
  | _, _, .kls h n1 n2 r => let ⟨a, b, d⟩ := k.l _ _ h n1 n2; .kls a b d (RpAll.kp k r)
  | _, _, .klsK o its n h1 h2 h3 h4 h5 h6 r => .klsK o its n h1 h2 h3 h4 h5 h6 (RpAll.kp k r)
  | _, _, .dic h n n2 => let ⟨a, b, d⟩ := k.d _ _ h n n2; .dic a b d
  | _, _, .cell h => .cell (k.cl _ _ h)
  | _, _, .glo h r => .glo h r
  | _, _, .ty n => .ty n
  | _, _, .ins h n n2 g r => let ⟨a, b, d⟩ := k.i _ _ _ _ h n n2; .ins a b d g (RpFs.kp k r)
  | _, _, .exc0 h g => .exc0 h g
  | _, _, .exc1 h g e r => .exc1 h g (k.x _ _ e) (RpFs.kp k r)
theorem RpAll.kp (k : Kp c μ H μ' H') : ∀ {vs : List V} {ds : List D}, RpAll c μ H vs ds → RpAll c μ' H' vs ds
  | _, _, .nil => .nil
  | _, _, .cons h r => .cons (Rp.kp k h) (RpAll.kp k r)
theorem RpFs.kp (k : Kp c μ H μ' H') : ∀ {vs : List (Str × V)} {ds : List (Str × D)}, RpFs c μ H vs ds → RpFs c μ' H' vs ds
  | _, _, .nil => .nil
  | _, _, .cons h r => .cons (Rp.kp k h) (RpFs.kp k r)
end
end
/-- a cell's object -/
def ClOk (c : Ct) (μ : Mu) (H : Hp) (a : Addr) : Cl → Prop
  | .lst ds => ∃ vs, H a = some (.lst vs) ∧ RpAll c μ H vs ds
  | .ins x fs => ∃ C dx fv, H a = some (.ins C dx fv) ∧ c.mg x = some (.ref C) ∧ RpFs c μ H fv fs
structure Wd (c : Ct) (μ : Mu) (S : Sto) (H : Hp) : Prop where
  nd : μ.m.Nodup
  len : μ.m.length = S.length
  ap : ∀ a ∈ μ.m, a ∉ μ.av
  avs : ∀ a ∈ μ.av, H a ≠ none
  ok : ∀ (i : Nat) (a : Addr) (x : Cl), μ.m[i]? = some a → S[i]? = some x → ClOk c μ H a x
theorem upd_some {H : Hp} {p a : Addr} {o : HO} (h : H a ≠ none) : upd H p o a ≠ none := by
  unfold upd
  split
  · exact fun z => nomatch z
  · exact h
theorem ClOk.there {c : Ct} {μ : Mu} {H : Hp} {a : Addr} : ∀ {x : Cl}, ClOk c μ H a x → ∃ o, H a = some o ∧ (∀ xs, o ≠ .tup xs) ∧ (∀ ob u, o ≠ .frz ob u) ∧ ∀ fv, o ≠ .xd fv
  | .lst _, ⟨_, h, _⟩ => ⟨_, h, (fun _ z => nomatch z), (fun _ _ z => nomatch z), fun _ z => nomatch z⟩
  | .ins _ _, ⟨_, _, _, h, _⟩ => ⟨_, h, (fun _ z => nomatch z), (fun _ _ z => nomatch z), fun _ z => nomatch z⟩
theorem Wd.there {c : Ct} {μ : Mu} {S : Sto} {H : Hp} (w : Wd c μ S H) {a : Addr} (h : a ∈ μ.m) : ∃ o, H a = some o ∧ (∀ xs, o ≠ .tup xs) ∧ (∀ ob u, o ≠ .frz ob u) ∧ ∀ fv, o ≠ .xd fv := by
  obtain ⟨i, hi, e⟩ := List.getElem_of_mem h
  have h1 : μ.m[i]? = some a := List.getElem?_eq_some_iff.mpr ⟨hi, e⟩
  have h2 : i < S.length := by rw [← w.len]; exact hi
  exact (w.ok i a S[i] h1 (List.getElem?_eq_getElem h2)).there
theorem Wd.fresh {c : Ct} {μ : Mu} {S : Sto} {H : Hp} (w : Wd c μ S H) {p : Addr} (hp : H p = none) : p ∉ μ.m := fun z => by
  obtain ⟨o, e, _⟩ := w.there z
  rw [hp] at e
  cases e
theorem Wd.tupK {c : Ct} {μ μ' : Mu} {S : Sto} {H H' : Hp} (w : Wd c μ S H) (f : Fw μ H μ' H') {a : Addr} {xs : List V} (e : H a = some (.tup xs)) : H' a = some (.tup xs) := by
  refine (f.keep a _ e fun z => ?_).1
  obtain ⟨o, e', n, _⟩ := w.there z
  rw [e] at e'
  exact n xs (Option.some.inj e').symm
theorem Wd.xdK {c : Ct} {μ μ' : Mu} {S : Sto} {H H' : Hp} (w : Wd c μ S H) (f : Fw μ H μ' H') {a : Addr} {fv : List (Str × V)} (e : H a = some (.xd fv)) : H' a = some (.xd fv) := by
  refine (f.keep a _ e fun z => ?_).1
  obtain ⟨o, e', _, _, n⟩ := w.there z
  rw [e] at e'
  exact n fv (Option.some.inj e').symm
theorem Wd.kp {c : Ct} {μ μ' : Mu} {S : Sto} {H H' : Hp} (w : Wd c μ S H) (f : Fw μ H μ' H') : Kp c μ H μ' H' where
  t := fun _ _ h => w.tupK f h
  l := fun a xs h n1 n2 => by
    rcases h with e | ⟨o, e⟩
    · exact ⟨.inl (f.keep a _ e n1).1, (f.keep a _ e n1).2, f.av ▸ n2⟩
    · exact ⟨.inr ⟨o, (f.keep a _ e n1).1⟩, (f.keep a _ e n1).2, f.av ▸ n2⟩
  m := fun a xs e n1 n2 => ⟨(f.keep a _ e n1).1, (f.keep a _ e n1).2, f.av ▸ n2⟩
  d := fun a ps e n1 n2 => ⟨(f.keep a _ e n1).1, (f.keep a _ e n1).2, f.av ▸ n2⟩
  i := fun a C dx fs e n1 n2 => ⟨(f.keep a _ e n1).1, (f.keep a _ e n1).2, f.av ▸ n2⟩
  cl := fun n a h => f.at h
  x := fun _ _ h => w.xdK f h
section
variable {c : Ct} {μ μ' : Mu} {S : Sto} {H H' : Hp} {v : V} {d : D} {vs : List V} {ds : List D}
theorem Rp.fw (r : Rp c μ H v d) (w : Wd c μ S H) (f : Fw μ H μ' H') : Rp c μ' H' v d := r.kp (w.kp f)
theorem RpAll.fw (r : RpAll c μ H vs ds) (w : Wd c μ S H) (f : Fw μ H μ' H') : RpAll c μ' H' vs ds := r.kp (w.kp f)
theorem ClOk.kp (k : Kp c μ H μ' H') {a : Addr} (g : ∀ o, H a = some o → H' a = some o) : ∀ {x : Cl}, ClOk c μ H a x → ClOk c μ' H' a x
  | .lst _, ⟨vs, h, r⟩ => ⟨vs, g _ h, r.kp k⟩
  | .ins _ _, ⟨C, dx, fv, h, e, r⟩ => ⟨C, dx, fv, g _ h, e, r.kp k⟩
/-- a new object that is no cell -/
theorem Wd.new (w : Wd c μ S H) {p : Addr} {o : HO} (hp : H p = none) : Wd c μ S (upd H p o) :=
  ⟨w.nd, w.len, w.ap, fun a h => upd_some (w.avs a h), fun i a x h1 h2 => ClOk.kp (w.kp (Fw.new hp)) (fun u e => by rw [upd_ne (ne_of_none e hp)]; exact e) (w.ok i a x h1 h2)⟩
theorem RpAll.length : ∀ {vs : List V} {ds : List D}, RpAll c μ H vs ds → vs.length = ds.length
  | _, _, .nil => rfl
  | _, _, .cons _ r => congrArg Nat.succ r.length
theorem RpAll.at : ∀ {vs : List V} {ds : List D} {i : Nat} {d : D}, RpAll c μ H vs ds → ds[i]? = some d → ∃ v, vs[i]? = some v ∧ Rp c μ H v d
  | _, _, i, _, .nil, h => by simp at h
  | _, _, 0, _, .cons h1 _, h => by cases h; exact ⟨_, rfl, h1⟩
  | _, _, i + 1, _, .cons _ h2, h => RpAll.at (i := i) h2 h
theorem RpAll.append : ∀ {vs ws : List V} {ds es : List D}, RpAll c μ H vs ds → RpAll c μ H ws es → RpAll c μ H (vs ++ ws) (ds ++ es)
  | _, _, _, _, .nil, h => h
  | _, _, _, _, .cons h1 h2, h => .cons h1 (h2.append h)
theorem RpAll.take : ∀ {vs : List V} {ds : List D} (n : Nat), RpAll c μ H vs ds → RpAll c μ H (vs.take n) (ds.take n)
  | _, _, 0, _ => .nil
  | _, _, _ + 1, .nil => .nil
  | _, _, n + 1, .cons h r => .cons h (RpAll.take n r)
theorem RpAll.drop : ∀ {vs : List V} {ds : List D} (n : Nat), RpAll c μ H vs ds → RpAll c μ H (vs.drop n) (ds.drop n)
  | _, _, 0, r => r
  | _, _, _ + 1, .nil => .nil
  | _, _, n + 1, .cons _ r => RpAll.drop n r
theorem RpAll.set {v : V} {d : D} (h : Rp c μ H v d) : ∀ {vs : List V} {ds : List D} (n : Nat), RpAll c μ H vs ds → RpAll c μ H (vs.set n v) (ds.set n d)
  | _, _, _, .nil => .nil
  | _, _, 0, .cons _ r => .cons h r
  | _, _, n + 1, .cons q r => .cons q (RpAll.set h n r)
theorem RpAll.rev : ∀ {vs : List V} {ds : List D}, RpAll c μ H vs ds → RpAll c μ H vs.reverse ds.reverse
  | _, _, .nil => .nil
  | _, _, .cons h r => by
    rw [List.reverse_cons, List.reverse_cons]
    exact r.rev.append (.cons h .nil)
theorem RpAll.rep : ∀ (n : Nat), RpAll c μ H vs ds → RpAll c μ H (List.replicate n vs).flatten (List.replicate n ds).flatten
  | 0, _ => .nil
  | n + 1, r => by
    rw [List.replicate_succ, List.replicate_succ, List.flatten_cons, List.flatten_cons]
    exact r.append (RpAll.rep n r)
end
theorem ix_uniq {N : List Addr} (hN : N.Nodup) {i j : Nat} {x : Addr} (a : N[i]? = some x) (b : N[j]? = some x) : i = j := by
  obtain ⟨h1, e1⟩ := List.getElem?_eq_some_iff.mp a
  obtain ⟨h2, e2⟩ := List.getElem?_eq_some_iff.mp b
  exact (List.getElem_inj hN).mp (e1.trans e2.symm)
/-- one write to a cell -/
theorem Wd.set {c : Ct} {μ : Mu} {S : Sto} {H : Hp} (w : Wd c μ S H) {n : Nat} {a : Addr} {o : HO} {x : Cl} (h : μ.m[n]? = some a) (hx : ClOk c μ (upd H a o) a x) : Wd c μ (S.set n x) (upd H a o) := by
  have hm : a ∈ μ.m := List.mem_of_getElem? h
  refine ⟨w.nd, by rw [List.length_set]; exact w.len, w.ap, fun a h => upd_some (w.avs a h), fun i b y h1 h2 => ?_⟩
  by_cases hi : n = i
  · subst hi
    rw [h] at h1
    cases h1
    have : n < S.length := by rw [← w.len]; exact (List.getElem?_eq_some_iff.mp h).1
    rw [List.getElem?_set_self this] at h2
    cases h2
    exact hx
  · rw [List.getElem?_set_ne hi] at h2
    have ne : b ≠ a := fun z => by
      subst z
      exact hi (ix_uniq w.nd h h1)
    exact ClOk.kp (w.kp (Fw.write hm)) (fun u e => by rw [upd_ne ne]; exact e) (w.ok i b y h1 h2)
/-- a new cell -/
theorem Wd.newC {c : Ct} {μ : Mu} {S : Sto} {H : Hp} (w : Wd c μ S H) {p : Addr} {o : HO} {x : Cl} (hp : H p = none) (hx : ClOk c ⟨μ.m ++ [p], μ.av⟩ (upd H p o) p x) : Wd c ⟨μ.m ++ [p], μ.av⟩ (S ++ [x]) (upd H p o) := by
  have nm := w.fresh hp
  refine ⟨?_, by simp [w.len], fun a h => ?_, fun a h => upd_some (w.avs a h), fun i a y h1 h2 => ?_⟩
  · rw [List.nodup_append]
    exact ⟨w.nd, by simp, fun a ha b hb e => nm (by rw [List.mem_singleton.mp hb] at e; exact e ▸ ha)⟩
  · rcases List.mem_append.mp h with h | h
    · exact w.ap a h
    · rw [List.mem_singleton.mp h]; exact fun z => w.avs p z hp
  · have hl := w.len
    by_cases hi : i < μ.m.length
    · rw [List.getElem?_append_left hi] at h1
      rw [List.getElem?_append_left (by omega)] at h2
      exact ClOk.kp (w.kp (Fw.newC hp)) (fun u e => by rw [upd_ne (ne_of_none e hp)]; exact e) (w.ok i a y h1 h2)
    · have hi2 : i = μ.m.length := by
        have := (List.getElem?_eq_some_iff.mp h1).1
        simp at this
        omega
      subst hi2
      rw [List.getElem?_append_right (Nat.le_refl _), Nat.sub_self] at h1
      cases h1
      rw [List.getElem?_append_right (by omega), hl, Nat.sub_self] at h2
      cases h2
      exact hx
end Pu
namespace Pu
open PySem PySem.Spec PyProof.Rows L2
/-! ## meanings: what must hold so that a piece of code ends as wanted, over values without addresses -/
abbrev QD := D → Sto → Prop
/-- an error: its class, its fields -/
abbrev Er := Str × List (Str × D)
abbrev ED := Er → Sto → Prop
abbrev FX (α : Type) := Rho → Sto → (α → Sto → Prop) → ED → Prop
abbrev FE := FX D
abbrev FT := FX Bool
abbrev FA := FX (List D)
abbrev FO := FX (Option Int)
structure DEnds where
  nx : Rho → Sto → Prop
  rt : QD
  bk : Rho → Sto → Prop
  ct : Rho → Sto → Prop
abbrev FS := Rho → Sto → DEnds → ED → Prop
abbrev FG := D → Rho → Sto → (Rho → Sto → Prop) → ED → Prop
abbrev FGs := List D → Rho → Sto → (Rho → Sto → Prop) → ED → Prop
/-- a def -/
abbrev FF := List D → Sto → QD → ED → Prop
def hxOf (pn : List (Addr × Obj)) (a : Addr) : Option (Value × Option Addr) := match pn with
  | (b, o) :: _ => if b = a then some (o.cls, o.dict) else none
  | [] => none
def ct (X : Cx) : Ct := ⟨X.K, X.mg, if X.calm = true then fun _ => none else hxOf X.pn⟩
/-- what leaves by an error, whatever the slots -/
abbrev cE (E : XK) : L2.St → XK := fun _ => E
structure EnvR (c : Ct) (μ : Mu) (H : Hp) (σ : L2.St) (ρ : Rho) : Prop where
  len : σ.length = ρ.length
  ok : ∀ (i : Nat) (d : D), ρ[i]? = some (some d) → ∃ v, σ[i]? = some (some v) ∧ Rp c μ H v d
def RpX (c : Ct) (μ : Mu) (H : Hp) (cls : Value) (dx : Option Addr) (e : Er) : Prop :=
  c.mg e.1 = some cls ∧ match e.2 with
    | [] => dx = none
    | f :: fs => ∃ a fv, dx = some a ∧ H a = some (.xd fv) ∧ RpFs c μ H fv (f :: fs)
def PX (c : Ct) (μ : Mu) (H : Hp) (Ed : ED) (E : XK) : Prop := ∀ e S' cls dx H' μ', Ed e S' → Fw μ H μ' H' → Wd c μ' S' H' → RpX c μ' H' cls dx e → E cls dx H'
section
variable {c : Ct} {μ μ' : Mu} {S S' : Sto} {H H' : Hp} {σ : L2.St} {ρ : Rho} {Ed : ED} {E : XK}
theorem EnvR.fw (en : EnvR c μ H σ ρ) (w : Wd c μ S H) (f : Fw μ H μ' H') : EnvR c μ' H' σ ρ := ⟨en.len, fun i d h => let ⟨v, e, r⟩ := en.ok i d h; ⟨v, e, r.fw w f⟩⟩
theorem EnvR.kp (en : EnvR c μ H σ ρ) (k : Kp c μ H μ' H') : EnvR c μ' H' σ ρ := ⟨en.len, fun i d h => let ⟨v, e, r⟩ := en.ok i d h; ⟨v, e, r.kp k⟩⟩
theorem PX.fw (p : PX c μ H Ed E) (f : Fw μ H μ' H') : PX c μ' H' Ed E := fun e S' cls dx H2 μ2 h g w r => p e S' cls dx H2 μ2 h (f.trans g) w r
theorem EnvR.set (en : EnvR c μ H σ ρ) {i : Nat} {v : V} {d : D} (r : Rp c μ H v d) : EnvR c μ H (σ.set i (some v)) (ρ.set i (some d)) := by
  refine ⟨by rw [List.length_set, List.length_set]; exact en.len, fun j x h => ?_⟩
  by_cases e : i = j
  · subst e
    have hl : i < ρ.length := by
      have := (List.getElem?_eq_some_iff.mp h).1
      rwa [List.length_set] at this
    rw [List.getElem?_set_self hl] at h
    cases h
    exact ⟨v, by rw [List.getElem?_set_self (by rw [en.len]; exact hl)], r⟩
  · rw [List.getElem?_set_ne e] at h ⊢
    exact en.ok j x h
end
/-- the reading that a meaning gives -/
def tR {α β : Type} (c : Ct) (R : Mu → Hp → β → α → Prop) (E : L2.St → XK) (f : FX α) : L2.St → Hp → (β → Hp → Prop) → Prop := fun σ H Q =>
  ∃ μ S ρ Qd Ed, Wd c μ S H ∧ EnvR c μ H σ ρ ∧ f ρ S Qd Ed ∧ (∀ d S' v H' μ', Qd d S' → Fw μ H μ' H' → Wd c μ' S' H' → R μ' H' v d → Q v H') ∧ PX c μ H Ed (E σ)
theorem tR_of {α β : Type} {c : Ct} {R : Mu → Hp → β → α → Prop} {E : L2.St → XK} {f : FX α} {σ : L2.St} {H : Hp} {Q : β → Hp → Prop} {μ : Mu} {S : Sto} {ρ : Rho} {Qd : α → Sto → Prop} {Ed : ED}
    (w : Wd c μ S H) (en : EnvR c μ H σ ρ) (h : f ρ S Qd Ed) (px : PX c μ H Ed (E σ))
    (q : ∀ d S' v H' μ', Qd d S' → Fw μ H μ' H' → Wd c μ' S' H' → EnvR c μ' H' σ ρ → PX c μ' H' Ed (E σ) → R μ' H' v d → Q v H') : tR c R E f σ H Q :=
  ⟨μ, S, ρ, Qd, Ed, w, en, h, fun d S' v H' μ' h1 h2 h3 h4 => q d S' v H' μ' h1 h2 h3 (en.fw w h2) (px.fw h2) h4, px⟩
def rEqB {α : Type} : Mu → Hp → α → α → Prop := fun _ _ a b => a = b
abbrev tD (c : Ct) (E : L2.St → XK) (f : FE) : TE := tR c (Rp c) E f
abbrev tT (c : Ct) (E : L2.St → XK) (f : FT) : TT := tR c rEqB E f
abbrev tAr (c : Ct) (E : L2.St → XK) (f : FA) : TA := tR c (RpAll c) E f
abbrev tOp' (c : Ct) (E : L2.St → XK) (f : FO) : TO := tR c rEqB E f
abbrev PEd (X : Cx) (E : L2.St → XK) (e : Expr) (f : FE) : Prop := PE X e (tD (ct X) E f)
abbrev PTd (X : Cx) (E : L2.St → XK) (e : Expr) (f : FT) : Prop := PT X e (tT (ct X) E f)
abbrev PWd (X : Cx) (E : L2.St → XK) (e : Expr) (f : FT) : Prop := PW X e (tT (ct X) E f)
abbrev PAd (X : Cx) (E : L2.St → XK) (es : List Expr) (f : FA) : Prop := PA X es (tAr (ct X) E f)
abbrev POd (X : Cx) (E : L2.St → XK) (e : Option Expr) (f : FO) : Prop := PO X e (tOp' (ct X) E f)
section
variable {X : Cx}
theorem PE.imp {e : Expr} {t t' : TE} (h : PE X e t) (k : ∀ σ H Q, t' σ H Q → t σ H Q) : PE X e t' := ⟨fun pins s σ H Q I q => h.run pins s σ H Q I (k σ H Q q)⟩
theorem PT.imp {e : Expr} {t t' : TT} (h : PT X e t) (k : ∀ σ H Q, t' σ H Q → t σ H Q) : PT X e t' := ⟨fun pins s σ H Q I q => h.run pins s σ H Q I (k σ H Q q)⟩
theorem PW.imp {e : Expr} {t t' : TT} (h : PW X e t) (k : ∀ σ H Q, t' σ H Q → t σ H Q) : PW X e t' := ⟨fun wh pins s σ H Q I q => h.run wh pins s σ H Q I (k σ H Q q)⟩
theorem PA.imp {e : List Expr} {t t' : TA} (h : PA X e t) (k : ∀ σ H Q, t' σ H Q → t σ H Q) : PA X e t' := ⟨fun p pins s σ H Q I q => h.run p pins s σ H Q I (k σ H Q q)⟩
theorem PO.imp {e : Option Expr} {t t' : TO} (h : PO X e t) (k : ∀ σ H Q, t' σ H Q → t σ H Q) : PO X e t' := ⟨fun pins s σ H Q I q => h.run pins s σ H Q I (k σ H Q q)⟩
theorem PS.imp {e : Stmt} {t t' : TS} (h : PS X e t) (k : ∀ D σ H, t' D σ H → t D σ H) : PS X e t' := ⟨fun pins s σ H D I q => h.run pins s σ H D I (k D σ H q)⟩
theorem PSs.imp {e : List Stmt} {t t' : TS} (h : PSs X e t) (k : ∀ D σ H, t' D σ H → t D σ H) : PSs X e t' := ⟨fun pins s σ H D I q => h.run pins s σ H D I (k D σ H q)⟩
theorem PG.imp {e : Expr} {t t' : TG} (h : PG X e t) (k : ∀ v σ H Q, t' v σ H Q → t v σ H Q) : PG X e t' := ⟨fun pins s σ H v u Q I r q => h.run pins s σ H v u Q I r (k v σ H Q q)⟩
end
/-! ### names, constants -/
def getV : Rho → Nat → Option D
  | [], _ => none
  | x :: _, 0 => x
  | _ :: r, n + 1 => getV r n
theorem getV_some : ∀ {ρ : Rho} {i : Nat} {d : D}, getV ρ i = some d → ρ[i]? = some (some d)
  | [], _, _, h => by cases h
  | _ :: _, 0, _, h => by
    rw [List.getElem?_cons_zero]
    exact congrArg some h
  | _ :: r, n + 1, _, h => by
    rw [List.getElem?_cons_succ]
    exact getV_some (ρ := r) h
def onSome {α : Type} (o : Option α) (k : α → Prop) : Prop := match o with | some a => k a | none => False
theorem onSome_of {α : Type} {o : Option α} {k : α → Prop} (h : onSome o k) : ∃ a, o = some a ∧ k a := by
  cases o with
  | none => exact h.elim
  | some a => exact ⟨a, rfl, h⟩
def dVar (i : Nat) : FE := fun ρ S Q _ => onSome (getV ρ i) fun d => Q d S
def dC {α : Type} (d : α) : FX α := fun _ S Q _ => Q d S
section
variable {X : Cx} {E : L2.St → XK} {pos : Pos}
theorem d_var {i : Nat} {e : Expr} (h : PE X e (tVar i)) : PEd X E e (dVar i) := by
  refine PE.imp h fun σ H Q ⟨μ, S, ρ, Qd, Ed, w, en, hf, q, px⟩ => ?_
  obtain ⟨d, e1, hd⟩ := onSome_of hf
  obtain ⟨v, e2, r⟩ := en.ok i d (getV_some e1)
  exact ⟨v, e2, q d S v H μ hd Fw.refl w r⟩
theorem d_const {v : V} {d : D} {e : Expr} (h : PE X e (tC v)) (r : ∀ μ H, Rp (ct X) μ H v d) : PEd X E e (dC d) :=
  PE.imp h fun σ H Q ⟨μ, S, ρ, Qd, Ed, w, en, hf, q, px⟩ => q d S v H μ hf Fw.refl w (r μ H)
theorem d_int {i j} : PEd X E (.Constant (.int i) j pos) (dC (.int i)) := d_const pe_int fun _ _ => .int i
theorem d_bl {b j} : PEd X E (.Constant (.bool b) j pos) (dC (.bl b)) := d_const pe_bl fun _ _ => .bl b
theorem d_non {j} : PEd X E (.Constant .none j pos) (dC .non) := d_const pe_non fun _ _ => .non
theorem d_str {x j} : PEd X E (.Constant (.str x) j pos) (dC (.str x)) := d_const pe_str fun _ _ => .str x
/-- a module's int -/
theorem d_gint {x : Str} {i : Int} {t : Tok} (hg : Gl X x) (hm : X.mg x = some (.int i t)) (hd : (x == ("__debug__" : Str)) = false := by decide) : PEd X E (.Name x pos) (dC (.int i)) :=
  d_const (pe_glob hg hm (show RelV (V.int i) _ from ⟨_, rfl⟩) hd) fun _ _ => .int i
end
/-! ### argument lists -/
def dNil : FA := fun _ S Q _ => Q [] S
def dCons (f : FE) (g : FA) : FA := fun ρ S Q Ed => f ρ S (fun x S1 => g ρ S1 (fun xs S2 => Q (x :: xs) S2) Ed) Ed
section
variable {X : Cx} {E : L2.St → XK} {pos : Pos} {a b e : Expr} {es : List Expr} {fa fb : FE} {fs : FA}
theorem d_nil : PAd X E [] dNil := PA.imp pa_nil fun σ H Q ⟨μ, S, ρ, Qd, Ed, w, en, hf, q, px⟩ => q [] S [] H μ hf Fw.refl w .nil
theorem d_cons (ha : PEd X E e fa) (hr : PAd X E es fs) (hs : starEach (e :: es) X.env = (false, eval e X.env) :: starEach es X.env := by rfl) : PAd X E (e :: es) (dCons fa fs) := by
  refine PA.imp (pa_cons ha hr hs) fun σ H Q ⟨μ, S, ρ, Qd, Ed, w, en, hf, q, px⟩ => ?_
  refine tR_of w en hf px fun x S1 v H1 μ1 h1 f1 w1 en1 px1 r1 => ?_
  refine tR_of w1 en1 h1 px1 fun xs S2 vs H2 μ2 h2 f2 w2 en2 px2 r2 => ?_
  exact q _ S2 _ H2 μ2 h2 (f1.trans f2) w2 (.cons (r1.fw w1 f2) r2)
/-! ### operators by values -/
abbrev G2 := D → D → Sto → QD → Prop
def PostV (c : Ct) (μ : Mu) (H : Hp) (Qd : QD) (Q : VK) : Prop := ∀ d S' v H' μ', Qd d S' → Fw μ H μ' H' → Wd c μ' S' H' → Rp c μ' H' v d → Q v H'
def rD2 (c : Ct) (g : G2) : R2 := fun x y H Q => ∃ μ S dx dy Qd, Wd c μ S H ∧ Rp c μ H x dx ∧ Rp c μ H y dy ∧ g dx dy S Qd ∧ PostV c μ H Qd Q
def rD1 (c : Ct) (g : D → Sto → QD → Prop) : V → Hp → VK → Prop := fun x H Q => ∃ μ S dx Qd, Wd c μ S H ∧ Rp c μ H x dx ∧ g dx S Qd ∧ PostV c μ H Qd Q
def rDs (c : Ct) (g : List D → Sto → QD → Prop) : List V → Hp → VK → Prop := fun xs H Q => ∃ μ S ds Qd, Wd c μ S H ∧ RpAll c μ H xs ds ∧ g ds S Qd ∧ PostV c μ H Qd Q
def rDm (c : Ct) (g : D → List D → Sto → QD → Prop) : V → List V → Hp → VK → Prop := fun x xs H Q => ∃ μ S d ds Qd, Wd c μ S H ∧ Rp c μ H x d ∧ RpAll c μ H xs ds ∧ g d ds S Qd ∧ PostV c μ H Qd Q
def dBin (g : G2) (fa fb : FE) : FE := fun ρ S Q Ed => fa ρ S (fun x S1 => fb ρ S1 (fun y S2 => g x y S2 Q) Ed) Ed
def dUn (g : D → Sto → QD → Prop) (fa : FE) : FE := fun ρ S Q Ed => fa ρ S (fun x S1 => g x S1 Q) Ed
def dB (g : List D → Sto → QD → Prop) (fa : FA) : FE := fun ρ S Q Ed => fa ρ S (fun ds S1 => g ds S1 Q) Ed
theorem tBin {g : G2} {σ : L2.St} {H : Hp} {Q : VK} {c : Ct} (h : tD c E (dBin g fa fb) σ H Q) : tOp (rD2 c g) (tD c E fa) (tD c E fb) σ H Q := by
  obtain ⟨μ, S, ρ, Qd, Ed, w, en, hf, q, px⟩ := h
  refine tR_of w en hf px fun x S1 v H1 μ1 h1 f1 w1 en1 px1 r1 => ?_
  refine tR_of w1 en1 h1 px1 fun y S2 u H2 μ2 h2 f2 w2 en2 px2 r2 => ?_
  exact ⟨μ2, S2, x, y, Qd, w2, r1.fw w1 f2, r2, h2, fun d S' v' H' μ' h f w' r => q d S' v' H' μ' h (f1.trans (f2.trans f)) w' r⟩
theorem d_bin {op : Operator} {g : G2} (ho : OpR X (binaryOp op) (rD2 (ct X) g)) (ha : PEd X E a fa) (hb : PEd X E b fb) : PEd X E (.BinOp a op b pos) (dBin g fa fb) :=
  PE.imp (pe_op ho ha hb) fun _ _ _ h => tBin h
theorem d_un {op : UnaryOp} {g : D → Sto → QD → Prop} (ho : UnR X (unaryOp op) (rD1 (ct X) g)) (ha : PEd X E a fa) : PEd X E (.UnaryOp op a pos) (dUn g fa) := by
  refine PE.imp (pe_un ho ha) fun σ H Q ⟨μ, S, ρ, Qd, Ed, w, en, hf, q, px⟩ => ?_
  refine tR_of w en hf px fun x S1 v H1 μ1 h1 f1 w1 en1 px1 r1 => ?_
  exact ⟨μ1, S1, x, Qd, w1, r1, h1, fun d S' v' H' μ' h f w' r => q d S' v' H' μ' h (f1.trans f) w' r⟩
theorem d_cmp {op : CmpOp} {g : G2} (ho : OpR X (compareOp op) (rD2 (ct X) g)) (ha : PEd X E a fa) (hb : PEd X E b fb) (hm : behindInMarks op b = false) : PEd X E (.Compare a [op] [b] pos) (dBin g fa fb) :=
  PE.imp (pe_cmpR ho ha hb hm) fun _ _ _ h => tBin h
/-- a bool's test -/
def onBl (d : D) (k : Bool → Prop) : Prop := match d with | .bl b => k b | _ => False
theorem onBl_of {d : D} {k : Bool → Prop} (h : onBl d k) : ∃ b, d = .bl b ∧ k b := by
  cases d with
  | bl b => exact ⟨b, rfl, h⟩
  | _ => exact h.elim
def dTest (f : FE) : FT := fun ρ S Q Ed => f ρ S (fun d S1 => onBl d fun b => Q b S1) Ed
theorem Rp.bl_inv {c : Ct} {μ : Mu} {H : Hp} {v : V} {b : Bool} (h : Rp c μ H v (.bl b)) : v = .bl b := by cases h; rfl
theorem tTest_of {f : FE} {σ : L2.St} {H : Hp} {Q : Bool → Hp → Prop} {c : Ct} (h : tT c E (dTest f) σ H Q) : tD c E f σ H (fun x H' => ∃ k, x = .bl k ∧ Q k H') := by
  obtain ⟨μ, S, ρ, Qd, Ed, w, en, hf, q, px⟩ := h
  refine tR_of w en hf px fun x S1 v H1 μ1 h1 f1 w1 en1 px1 r1 => ?_
  obtain ⟨b, rfl, hb⟩ := onBl_of h1
  exact ⟨b, r1.bl_inv, q b S1 b H1 μ1 hb f1 w1 rfl⟩
theorem d_tcmp {op : CmpOp} {g : G2} (ho : OpR X (compareOp op) (rD2 (ct X) g)) (ha : PEd X E a fa) (hb : PEd X E b fb) (hm : behindInMarks op b = false) : PTd X E (.Compare a [op] [b] pos) (dTest (dBin g fa fb)) := by
  refine PT.imp (pt_cmpR ho ha hb hm) fun σ H Q h => ?_
  obtain ⟨μ, S, ρ, Qd, Ed, w, en, hf, q, px⟩ := h
  show tOp _ _ _ σ H _
  refine tBin ⟨μ, S, ρ, _, Ed, w, en, hf, fun d S' v H' μ' h1 f1 w1 r1 => ?_, px⟩
  obtain ⟨b, rfl, hb⟩ := onBl_of h1
  exact ⟨b, r1.bl_inv, q b S' b H' μ' hb f1 w1 rfl⟩
/-- an expression that is a bool, as a test -/
theorem d_tval {f : FE} (h : PEd X E e f) (he : ∀ whole, isTrue e X.env whole = (do let v ← whole; standAt e.pos; holding [v] (truthy v)) := by intro _; rfl) : PTd X E e (dTest f) :=
  PT.imp (pt_val h he) fun _ _ _ h => tTest_of h
end
/-! ### and, or, not, if -/
def dOr (f g : FT) : FT := fun ρ S Q Ed => f ρ S (fun b S1 => if b = true then Q true S1 else g ρ S1 Q Ed) Ed
def dNot (f : FT) : FT := fun ρ S Q Ed => f ρ S (fun b S1 => Q (!b) S1) Ed
def dAndV (f g : FE) : FE := fun ρ S Q Ed => f ρ S (fun d S1 => onBl d fun b => if b = true then g ρ S1 Q Ed else Q (.bl false) S1) Ed
def dNotV (f : FE) : FE := fun ρ S Q Ed => f ρ S (fun d S1 => onBl d fun b => Q (.bl (!b)) S1) Ed
section
variable {X : Cx} {E : L2.St → XK} {pos : Pos} {a b c e : Expr} {rest : List Expr} {f g : FT} {fa fb : FE}
theorem d_or1 (ha : PTd X E a f) : PWd X E (.BoolOp .Or [a] pos) f := pw_or1 ha
theorem d_or (ha : PTd X E a f) (hb : PWd X E (.BoolOp .Or (b :: rest) pos) g) : PWd X E (.BoolOp .Or (a :: b :: rest) pos) (dOr f g) := by
  refine PW.imp (pw_or ha hb) fun σ H Q ⟨μ, S, ρ, Qd, Ed, w, en, hf, q, px⟩ => ?_
  refine tR_of w en hf px fun x S1 v H1 μ1 h1 f1 w1 en1 px1 r1 => ?_
  cases (r1 : v = x)
  split
  · rename_i hv
    rw [if_pos hv] at h1
    exact q true S1 true H1 μ1 h1 f1 w1 rfl
  · rename_i hv
    rw [if_neg hv] at h1
    exact tR_of w1 en1 h1 px1 fun y S2 u H2 μ2 h2 f2 w2 en2 px2 r2 => q y S2 u H2 μ2 h2 (f1.trans f2) w2 r2
theorem d_not (ha : PTd X E a f) : PTd X E (.UnaryOp .Not a pos) (dNot f) := by
  refine PT.imp (pt_not ha) fun σ H Q ⟨μ, S, ρ, Qd, Ed, w, en, hf, q, px⟩ => ?_
  refine tR_of w en hf px fun x S1 v H1 μ1 h1 f1 w1 en1 px1 r1 => ?_
  cases (r1 : v = x)
  exact q _ S1 _ H1 μ1 h1 f1 w1 rfl
theorem d_one {op} (h : PEd X E a fa) : PEd X E (.BoolOp op [a] pos) fa := pe_one h
theorem d_andV (ha : PEd X E a fa) (hb : PEd X E (.BoolOp .And (b :: rest) pos) fb) : PEd X E (.BoolOp .And (a :: b :: rest) pos) (dAndV fa fb) := by
  refine PE.imp (pe_and ha hb) fun σ H Q ⟨μ, S, ρ, Qd, Ed, w, en, hf, q, px⟩ => ?_
  refine tR_of w en hf px fun x S1 v H1 μ1 h1 f1 w1 en1 px1 r1 => ?_
  obtain ⟨k, rfl, hk⟩ := onBl_of h1
  refine ⟨k, r1.bl_inv, ?_⟩
  split
  · rename_i hv
    rw [if_pos hv] at hk
    exact tR_of w1 en1 hk px1 fun y S2 u H2 μ2 h2 f2 w2 en2 px2 r2 => q y S2 u H2 μ2 h2 (f1.trans f2) w2 r2
  · rename_i hv
    rw [if_neg hv] at hk
    exact q _ S1 _ H1 μ1 hk f1 w1 (.bl false)
theorem d_notV (ha : PEd X E a fa) : PEd X E (.UnaryOp .Not a pos) (dNotV fa) := by
  refine PE.imp (pe_not ha) fun σ H Q ⟨μ, S, ρ, Qd, Ed, w, en, hf, q, px⟩ => ?_
  refine tR_of w en hf px fun x S1 v H1 μ1 h1 f1 w1 en1 px1 r1 => ?_
  obtain ⟨k, rfl, hk⟩ := onBl_of h1
  exact ⟨k, r1.bl_inv, q _ S1 _ H1 μ1 hk f1 w1 (.bl _)⟩
end
/-! ### two comparisons in a row -/
def dChain (g g' : G2) (fa fb fc : FE) : FE := fun ρ S Q Ed => fa ρ S (fun x S1 => fb ρ S1 (fun y S2 => g x y S2 fun z S3 => onBl z fun k => if k = true then fc ρ S3 (fun u S4 => g' y u S4 Q) Ed else Q (.bl false) S3) Ed) Ed
section
variable {X : Cx} {E : L2.St → XK} {pos : Pos} {a b c : Expr} {fa fb fc : FE} {op op' : CmpOp} {g g' : G2}
theorem tChain_of {σ : L2.St} {H : Hp} {Q : VK} {x : Ct} (h : tD x E (dChain g g' fa fb fc) σ H Q) : tChain (rD2 x g) (rD2 x g') (tD x E fa) (tD x E fb) (tD x E fc) σ H Q := by
  obtain ⟨μ, S, ρ, Qd, Ed, w, en, hf, q, px⟩ := h
  refine tR_of w en hf px fun x S1 v H1 μ1 h1 f1 w1 en1 px1 r1 => ?_
  refine tR_of w1 en1 h1 px1 fun y S2 u H2 μ2 h2 f2 w2 en2 px2 r2 => ?_
  refine ⟨μ2, S2, x, y, _, w2, r1.fw w1 f2, r2, h2, fun d S' v' H3 μ3 h f3 w3 r3 => ?_⟩
  obtain ⟨k, rfl, hk⟩ := onBl_of h
  refine ⟨k, r3.bl_inv, ?_⟩
  split
  · rename_i hv
    rw [if_pos hv] at hk
    refine tR_of w3 (en2.fw w2 f3) hk (px2.fw f3) fun z S4 vz H4 μ4 h4 f4 w4 en4 px4 r4 => ?_
    exact ⟨μ4, S4, y, z, Qd, w4, (r2.fw w2 f3).fw w3 f4, r4, h4, fun d S' v' H' μ' h f w' r => q d S' v' H' μ' h (f1.trans (f2.trans (f3.trans (f4.trans f)))) w' r⟩
  · rename_i hv
    rw [if_neg hv] at hk
    exact q _ _ _ _ _ hk (f1.trans (f2.trans f3)) w3 (.bl false)
theorem d_chain (ho : OpR X (compareOp op) (rD2 (ct X) g)) (ho' : OpR X (compareOp op') (rD2 (ct X) g')) (ha : PEd X E a fa) (hb : PEd X E b fb) (hc : PEd X E c fc)
    (hm : lastMarks [op, op'] [b, c] = false := by with_unfolding_all rfl) : PEd X E (.Compare a [op, op'] [b, c] pos) (dChain g g' fa fb fc) :=
  PE.imp (pe_chain ho ho' ha hb hc hm) fun _ _ _ h => tChain_of h
theorem d_tchain (ho : OpR X (compareOp op) (rD2 (ct X) g)) (ho' : OpR X (compareOp op') (rD2 (ct X) g')) (ha : PEd X E a fa) (hb : PEd X E b fb) (hc : PEd X E c fc)
    (hm : lastMarks [op, op'] [b, c] = false := by with_unfolding_all rfl) : PTd X E (.Compare a [op, op'] [b, c] pos) (dTest (dChain g g' fa fb fc)) := by
  refine PT.imp (pt_chain ho ho' ha hb hc hm) fun σ H Q h => ?_
  obtain ⟨μ, S, ρ, Qd, Ed, w, en, hf, q, px⟩ := h
  refine tChain_of ⟨μ, S, ρ, _, Ed, w, en, hf, fun d S' v H' μ' h1 f1 w1 r1 => ?_, px⟩
  obtain ⟨b, rfl, hb⟩ := onBl_of h1
  exact ⟨b, r1.bl_inv, q b S' b H' μ' hb f1 w1 rfl⟩
end
end Pu
namespace Pu
open PySem PySem.Spec PyProof.Rows L2
/-! ## reading data -/
def lstAt : Option Cl → Option (List D)
  | some (.lst xs) => some xs
  | _ => none
theorem lstAt_inv {o : Option Cl} {xs : List D} (h : lstAt o = some xs) : o = some (.lst xs) := by
  cases o with
  | none => cases h
  | some x =>
    cases x with
    | lst ys => cases h; rfl
    | ins _ _ => cases h
def seqOf (S : Sto) : D → Option (List D)
  | .tup xs => some xs
  | .lst _ xs => some xs
  | .kls xs => some xs
  | .cell n => lstAt S[n]?
  | _ => none
def lstOf (S : Sto) : D → Option (List D)
  | .lst _ xs => some xs
  | .cell n => lstAt S[n]?
  | _ => none
def cellOf (S : Sto) : D → Option (Nat × List D)
  | .cell n => (lstAt S[n]?).map ((n, ·))
  | _ => none
section
variable {c : Ct} {μ μ' : Mu} {S : Sto} {H H' : Hp} {v : V} {d : D} {xs : List D}
theorem Wd.atCell (w : Wd c μ S H) {n : Nat} {x : Cl} (h : S[n]? = some x) : ∃ a, μ.m[n]? = some a ∧ ClOk c μ H a x := by
  have h1 : n < μ.m.length := by rw [w.len]; exact (List.getElem?_eq_some_iff.mp h).1
  exact ⟨μ.m[n], List.getElem?_eq_getElem h1, w.ok n _ x (List.getElem?_eq_getElem h1) h⟩
theorem cellOf_inv {n : Nat} (e : cellOf S d = some (n, xs)) : d = .cell n ∧ S[n]? = some (.lst xs) := by
  cases d with
  | cell k =>
    obtain ⟨ys, h, e2⟩ := Option.map_eq_some_iff.mp (show (lstAt S[k]?).map ((k, ·)) = some (n, xs) from e)
    cases e2
    exact ⟨rfl, lstAt_inv h⟩
  | _ => cases e
theorem Wd.cellL (w : Wd c μ S H) (r : Rp c μ H v d) {n : Nat} (e : cellOf S d = some (n, xs)) : ∃ a vs, v = .ref a ∧ μ.m[n]? = some a ∧ H a = some (.lst vs) ∧ RpAll c μ H vs xs := by
  obtain ⟨rfl, h⟩ := cellOf_inv e
  cases r with
  | cell hm =>
    obtain ⟨vs, h1, h2⟩ := w.ok n _ _ hm h
    exact ⟨_, vs, rfl, hm, h1, h2⟩
theorem Rp.lstT (w : Wd c μ S H) (r : Rp c μ H v d) (e : lstOf S d = some xs) : ∃ a vs, v = .ref a ∧ H a = some (.lst vs) ∧ RpAll c μ H vs xs := by
  cases r with
  | lst h _ _ _ ra => cases e; exact ⟨_, _, rfl, h, ra⟩
  | @cell n a hm =>
    obtain ⟨vs, h1, h2⟩ := w.ok n _ _ hm (lstAt_inv e)
    exact ⟨_, vs, rfl, h1, h2⟩
  | _ => cases e
theorem Rp.seq (w : Wd c μ S H) (r : Rp c μ H v d) (e : seqOf S d = some xs) : ∃ a vs, v = .ref a ∧ (SqL c.K H a vs ∨ SqT c.K H a vs) ∧ RpAll c μ H vs xs := by
  cases r with
  | tup h ra => cases e; exact ⟨_, _, rfl, .inr (SqT.of h), ra⟩
  | lst h _ _ _ ra => cases e; exact ⟨_, _, rfl, .inl (SqL.of h), ra⟩
  | kls h _ _ ra => cases e; exact ⟨_, _, rfl, .inl (.inl h), ra⟩
  | klsK o its n h1 h2 h3 h4 h5 h6 ra => cases e; exact ⟨_, _, rfl, .inl (.inr ⟨o, its, n, h1, h2, h3, h4, h5, h6⟩), ra⟩
  | @cell n a hm =>
    obtain ⟨vs, h1, h2⟩ := w.ok n _ _ hm (lstAt_inv e)
    exact ⟨_, vs, rfl, .inl (SqL.of h1), h2⟩
  | _ => cases e
/-! what a new object is worth -/
theorem PostV.tup {Qd : QD} {Q : VK} (q : PostV c μ H Qd Q) (w : Wd c μ S H) {vs : List V} {ds : List D} (r : RpAll c μ H vs ds) (h : Qd (.tup ds) S) {p : Addr} (hp : H p = none) : Q (.ref p) (upd H p (.tup vs)) :=
  q _ S _ _ μ h (Fw.new hp) (w.new hp) (.tup upd_same (r.fw w (Fw.new hp)))
theorem Wd.newL (w : Wd c μ S H) {vs : List V} {ds : List D} (r : RpAll c μ H vs ds) {p : Addr} (hp : H p = none) {k : Bool} (hk : k = true → p ≠ sysModules) : Rp c μ (upd H p (.lst vs)) (.ref p) (.lst k ds) :=
  .lst upd_same (w.fresh hp) (fun z => w.avs p z hp) hk (r.fw w (Fw.new hp))
theorem PostV.lst {Qd : QD} {Q : VK} (q : PostV c μ H Qd Q) (w : Wd c μ S H) {vs : List V} {ds : List D} (r : RpAll c μ H vs ds) (h : Qd (.lst false ds) S) {p : Addr} (hp : H p = none) : Q (.ref p) (upd H p (.lst vs)) :=
  q _ S _ _ μ h (Fw.new hp) (w.new hp) (w.newL r hp fun z => nomatch z)
theorem PostV.lstN {Qd : QD} {Q : VK} (q : PostV c μ H Qd Q) (w : Wd c μ S H) {vs : List V} {ds : List D} (r : RpAll c μ H vs ds) (h : Qd (.lst true ds) S) {p : Addr} (hp : H p = none) (hs : p ≠ sysModules) : Q (.ref p) (upd H p (.lst vs)) :=
  q _ S _ _ μ h (Fw.new hp) (w.new hp) (w.newL r hp fun _ => hs)
theorem PostV.same {Qd : QD} {Q : VK} (q : PostV c μ H Qd Q) (w : Wd c μ S H) (r : Rp c μ H v d) (h : Qd d S) : Q v H := q _ S _ _ μ h Fw.refl w r
/-- a cell is written, a value given back -/
theorem PostV.cell {Qd : QD} {Q : VK} (q : PostV c μ H Qd Q) (w : Wd c μ S H) {n : Nat} {a : Addr} {vs : List V} {ds : List D} (hm : μ.m[n]? = some a) (r : RpAll c μ H vs ds) (rv : Rp c μ H v d) (h : Qd d (S.set n (.lst ds))) : Q v (upd H a (.lst vs)) := by
  have f : Fw μ H μ (upd H a (.lst vs)) := Fw.write (List.mem_of_getElem? hm)
  exact q _ _ _ _ μ h f (w.set hm ⟨vs, upd_same, r.fw w f⟩) (rv.fw w f)
end
/-! ints -/
def intsOf : List D → Option (List Int)
  | [] => some []
  | .int i :: r => (intsOf r).map (i :: ·)
  | _ :: _ => none
theorem intsOf_map (ns : List Int) : intsOf (ns.map D.int) = some ns := by
  induction ns with
  | nil => rfl
  | cons n ns ih => show (intsOf (ns.map D.int)).map (n :: ·) = _; rw [ih]; rfl
theorem intsOf_inv : ∀ {ds : List D} {ns : List Int}, intsOf ds = some ns → ds = ns.map D.int
  | [], ns, h => by cases h; rfl
  | .int i :: r, ns, h => by
    obtain ⟨ms, e, rfl⟩ := Option.map_eq_some_iff.mp (show (intsOf r).map (i :: ·) = some ns from h)
    rw [intsOf_inv e]
    rfl
  | .non :: _, _, h => by cases h
  | .bl _ :: _, _, h => by cases h
  | .str _ :: _, _, h => by cases h
  | .tup _ :: _, _, h => by cases h
  | .lst _ _ :: _, _, h => by cases h
  | .dic _ :: _, _, h => by cases h
  | .kls _ :: _, _, h => by cases h
  | .cell _ :: _, _, h => by cases h
  | .glo _ :: _, _, h => by cases h
  | .ty _ :: _, _, h => by cases h
  | .ins _ _ :: _, _, h => by cases h
  | .exc _ _ :: _, _, h => by cases h
section
variable {c : Ct} {μ : Mu} {H : Hp}
theorem RpAll.ints : ∀ {vs : List V} {ns : List Int}, RpAll c μ H vs (ns.map D.int) → vs = ns.map V.int
  | _, [], h => by cases h; rfl
  | _, n :: ns, h => by
    cases h with
    | cons h1 h2 =>
      cases h1
      rw [RpAll.ints h2]
      rfl
theorem RpAll.ofInts : ∀ (ns : List Int), RpAll c μ H (ns.map V.int) (ns.map D.int)
  | [] => .nil
  | n :: ns => .cons (.int n) (RpAll.ofInts ns)
end
/-! ## displays -/
def dTup (f : FA) : FE := fun ρ S Q Ed => f ρ S (fun ds S1 => ds.length ≤ sizeLine ∧ Q (.tup ds) S1) Ed
def dLst (f : FA) : FE := fun ρ S Q Ed => f ρ S (fun ds S1 => ds.length ≤ sizeLine ∧ Q (.lst true ds) S1) Ed
/-- a list that will be changed -/
def dLstC (f : FA) : FE := fun ρ S Q Ed => f ρ S (fun ds S1 => ds.length ≤ sizeLine ∧ Q (.cell S1.length) (S1 ++ [.lst ds])) Ed
section
variable {X : Cx} {E : L2.St → XK} {pos : Pos} {es : List Expr} {fa : FA}
theorem d_tup {x1} (h : PAd X E es fa) : PEd X E (.Tuple es x1 pos) (dTup fa) := by
  refine PE.imp (pe_tup h) fun σ H Q ⟨μ, S, ρ, Qd, Ed, w, en, hf, q, px⟩ => ?_
  refine tR_of w en hf px fun ds S1 vs H1 μ1 h1 f1 w1 en1 px1 r1 => ⟨by rw [r1.length]; exact h1.1, fun p hp => ?_⟩
  exact PostV.tup (fun d S' v H' μ' h f w' r => q d S' v H' μ' h (f1.trans f) w' r) w1 r1 h1.2 hp
theorem d_lst (h : PAd X E es fa) : PEd X E (.List es pos) (dLst fa) := by
  refine PE.imp (Rb.pe_lstN h) fun σ H Q ⟨μ, S, ρ, Qd, Ed, w, en, hf, q, px⟩ => ?_
  refine tR_of w en hf px fun ds S1 vs H1 μ1 h1 f1 w1 en1 px1 r1 => ⟨by rw [r1.length]; exact h1.1, fun p hp hs => ?_⟩
  exact PostV.lstN (fun d S' v H' μ' h f w' r => q d S' v H' μ' h (f1.trans f) w' r) w1 r1 h1.2 hp hs
theorem Wd.lay {c : Ct} {μ : Mu} {S : Sto} {H : Hp} (w : Wd c μ S H) {vs : List V} {ds : List D} (r : RpAll c μ H vs ds) {p : Addr} (hp : H p = none) :
    Fw μ H ⟨μ.m ++ [p], μ.av⟩ (upd H p (.lst vs)) ∧ Wd c ⟨μ.m ++ [p], μ.av⟩ (S ++ [.lst ds]) (upd H p (.lst vs)) ∧ Rp c ⟨μ.m ++ [p], μ.av⟩ (upd H p (.lst vs)) (.ref p) (.cell S.length) := by
  have f : Fw μ H ⟨μ.m ++ [p], μ.av⟩ (upd H p (.lst vs)) := Fw.newC hp
  refine ⟨f, w.newC hp ⟨vs, upd_same, r.fw w f⟩, .cell ?_⟩
  show (μ.m ++ [p])[S.length]? = some p
  rw [← w.len, List.getElem?_append_right (Nat.le_refl _), Nat.sub_self]
  rfl
theorem d_lstC (h : PAd X E es fa) : PEd X E (.List es pos) (dLstC fa) := by
  refine PE.imp (pe_lst h) fun σ H Q ⟨μ, S, ρ, Qd, Ed, w, en, hf, q, px⟩ => ?_
  refine tR_of w en hf px fun ds S1 vs H1 μ1 h1 f1 w1 en1 px1 r1 => ⟨by rw [r1.length]; exact h1.1, fun p hp => ?_⟩
  obtain ⟨f2, w2, r2⟩ := w1.lay r1 hp
  exact q _ _ _ _ _ h1.2 (f1.trans f2) w2 r2
end
/-! ## built-ins that make a new list: as a value, as a cell -/
section
variable {X : Cx} {E : L2.St → XK} {e : Expr} {es : List Expr} {fa : FA} {id : String} {x : Str} {pos p2 : Pos}
theorem d_callB {g : List D → Sto → QD → Prop} (hc : CallR X (.builtin id) (rDs (ct X) g)) (hg : Gl X x) (hm : X.mg x = none) (hv : bootBuiltins x = some (.builtin id)) (ha : PAd X E (e :: es) fa) (hn : x ≠ "__name__" := by decide) (hdb : (x == ("__debug__" : Str)) = false := by decide)
    (hs : starEach (e :: es) X.env = (false, eval e X.env) :: starEach es X.env := by rfl) (hf2 : (backTo pos (starEach es X.env)).any (·.1) = false := by rfl) : PEd X E (.Call (.Name x p2) (e :: es) [] pos) (dB g fa) := by
  refine PE.imp (pe_callB hc hg hm hv ha hn hdb hs hf2) fun σ H Q ⟨μ, S, ρ, Qd, Ed, w, en, hf, q, px⟩ => ?_
  refine tR_of w en hf px fun ds S1 vs H1 μ1 h1 f1 w1 en1 px1 r1 => ?_
  exact ⟨μ1, S1, ds, Qd, w1, r1, h1, fun d S' v H' μ' h f w' r => q d S' v H' μ' h (f1.trans f) w' r⟩
theorem d_callT {T : String} {g : List D → Sto → QD → Prop} (hc : CallR X (.type T) (rDs (ct X) g)) (hg : Gl X x) (hm : X.mg x = none) (hv : bootBuiltins x = some (.type T)) (ha : PAd X E (e :: es) fa) (hn : x ≠ "__name__" := by decide) (hdb : (x == ("__debug__" : Str)) = false := by decide)
    (hs : starEach (e :: es) X.env = (false, eval e X.env) :: starEach es X.env := by rfl) (hf2 : (backTo pos (starEach es X.env)).any (·.1) = false := by rfl) : PEd X E (.Call (.Name x p2) (e :: es) [] pos) (dB g fa) := by
  refine PE.imp (pe_callTy hc hg hm hv ha hn hdb hs hf2) fun σ H Q ⟨μ, S, ρ, Qd, Ed, w, en, hf, q, px⟩ => ?_
  refine tR_of w en hf px fun ds S1 vs H1 μ1 h1 f1 w1 en1 px1 r1 => ?_
  exact ⟨μ1, S1, ds, Qd, w1, r1, h1, fun d S' v H' μ' h f w' r => q d S' v H' μ' h (f1.trans f) w' r⟩
end
end Pu
namespace Pu
open PySem PySem.Spec PyProof.Rows L2
/-! ## arithmetic -/
def gInt (f : Int → Int → D) (C : Int → Int → Prop) : G2 := fun x y S Q => match x, y with
  | .int i, .int j => C i j ∧ Q (f i j) S
  | _, _ => False
def gInt0 (f : Int → Int → D) : G2 := fun x y S Q => match x, y with
  | .int i, .int j => Q (f i j) S
  | _, _ => False
theorem gInt_inv {f : Int → Int → D} {C : Int → Int → Prop} {x y : D} {S : Sto} {Q : QD} (h : gInt f C x y S Q) : ∃ i j, x = .int i ∧ y = .int j ∧ C i j ∧ Q (f i j) S := by
  unfold gInt at h
  split at h
  · exact ⟨_, _, rfl, rfl, h⟩
  · exact h.elim
theorem gInt0_inv {f : Int → Int → D} {x y : D} {S : Sto} {Q : QD} (h : gInt0 f x y S Q) : ∃ i j, x = .int i ∧ y = .int j ∧ Q (f i j) S := by
  unfold gInt0 at h
  split at h
  · exact ⟨_, _, rfl, rfl, h⟩
  · exact h.elim
section
variable {c : Ct} {μ : Mu} {H : Hp} {v : V}
theorem Rp.int_inv {i : Int} (h : Rp c μ H v (.int i)) : v = .int i := by cases h; rfl
theorem Rp.str_inv {x : Str} (h : Rp c μ H v (.str x)) : v = .str x := by cases h; rfl
theorem Rp.tup_inv {ds : List D} (h : Rp c μ H v (.tup ds)) : ∃ a vs, v = .ref a ∧ H a = some (.tup vs) ∧ RpAll c μ H vs ds := by
  cases h with
  | tup h r => exact ⟨_, _, rfl, h, r⟩
end
section
variable {X : Cx}
theorem opInt {f : Value → Value → Sem Value} {C : Int → Int → Prop} {g : Int → Int → Int} (h : OpR X f (rI C fun i j => .int (g i j))) : OpR X f (rD2 (ct X) (gInt (fun i j => .int (g i j)) C)) := by
  intro pins s σ H x y v u Q I rx ry ⟨μ, S, dx, dy, Qd, w, r1, r2, hg, q⟩
  obtain ⟨i, j, rfl, rfl, hC, hq⟩ := gInt_inv hg
  exact h pins s σ H x y v u Q I rx ry ⟨i, j, r1.int_inv, r2.int_inv, hC, q.same w (.int _) hq⟩
theorem opInt0 {f : Value → Value → Sem Value} {g : Int → Int → Int} (h : OpR X f (rI0 fun i j => .int (g i j))) : OpR X f (rD2 (ct X) (gInt0 (fun i j => .int (g i j)))) := by
  intro pins s σ H x y v u Q I rx ry ⟨μ, S, dx, dy, Qd, w, r1, r2, hg, q⟩
  obtain ⟨i, j, rfl, rfl, hq⟩ := gInt0_inv hg
  exact h pins s σ H x y v u Q I rx ry ⟨i, j, r1.int_inv, r2.int_inv, q.same w (.int _) hq⟩
theorem opBl0 {f : Value → Value → Sem Value} {g : Int → Int → Bool} (h : OpR X f (rI0 fun i j => .bl (g i j))) : OpR X f (rD2 (ct X) (gInt0 (fun i j => .bl (g i j)))) := by
  intro pins s σ H x y v u Q I rx ry ⟨μ, S, dx, dy, Qd, w, r1, r2, hg, q⟩
  obtain ⟨i, j, rfl, rfl, hq⟩ := gInt0_inv hg
  exact h pins s σ H x y v u Q I rx ry ⟨i, j, r1.int_inv, r2.int_inv, q.same w (.bl _) hq⟩
end
abbrev gSub : G2 := gInt0 fun i j => .int (i - j)
abbrev gFdiv : G2 := gInt (fun i j => .int (i / j)) CDivW
abbrev gMod : G2 := gInt (fun i j => .int (i % j)) fun _ j => 0 < j
abbrev gPow : G2 := gInt (fun i j => .int (i ^ j.toNat)) CPow
abbrev gLe : G2 := gInt0 fun i j => .bl (decide (i ≤ j))
abbrev gGt : G2 := gInt0 fun i j => .bl (decide (j < i))
abbrev gGe : G2 := gInt0 fun i j => .bl (decide (j ≤ i))
section
variable {X : Cx}
theorem o_sub : OpR X (binaryOp .Sub) (rD2 (ct X) gSub) := opInt0 op_sub
theorem o_fdiv : OpR X (binaryOp .FloorDiv) (rD2 (ct X) gFdiv) := opInt op_fdivW
theorem o_mod : OpR X (binaryOp .Mod) (rD2 (ct X) gMod) := opInt op_mod
theorem o_pow : OpR X (binaryOp .Pow) (rD2 (ct X) gPow) := opInt op_pow
theorem o_le : OpR X (compareOp .LtE) (rD2 (ct X) gLe) := opBl0 op_le
theorem o_gt : OpR X (compareOp .Gt) (rD2 (ct X) gGt) := opBl0 op_gt
theorem o_ge : OpR X (compareOp .GtE) (rD2 (ct X) gGe) := opBl0 op_ge
end
def gNeg : D → Sto → QD → Prop := fun x S Q => match x with
  | .int i => Q (.int (-i)) S
  | _ => False
def gAdd : G2 := fun x y S Q => match x, y with
  | .int i, .int j => Q (.int (i + j)) S
  | .tup xs, .tup ys => xs.length + ys.length ≤ sizeLine ∧ Q (.tup (xs ++ ys)) S
  | .str a, .str b => a.length + b.length ≤ sizeLine ∧ Q (.str (a ++ b)) S
  | x, y => onSome (lstOf S x) fun xs => onSome (lstOf S y) fun ys => xs.length + ys.length ≤ sizeLine ∧ Q (.lst false (xs ++ ys)) S
def gMul : G2 := fun x y S Q => match x, y with
  | .int i, .int j => (CMul i j ∨ CMulW i j) ∧ Q (.int (i * j)) S
  | .tup xs, .int k => (xs ≠ [] ∧ 1 ≤ k ∧ k ≤ 1000 ∧ xs.length ≤ 1000) ∧ Q (.tup (List.replicate k.toNat xs).flatten) S
  | x, .int k => onSome (lstOf S x) fun xs => (-(2 ^ 63) ≤ k ∧ k < 2 ^ 63 ∧ xs.length * k.toNat ≤ sizeLine) ∧ Q (.lst false (List.replicate k.toNat xs).flatten) S
  | _, _ => False
section
variable {X : Cx}
theorem u_neg : UnR X (unaryOp .USub) (rD1 (ct X) gNeg) := by
  intro pins s σ H x v Q I rx ⟨μ, S, dx, Qd, w, r1, hg, q⟩
  unfold gNeg at hg
  split at hg
  · exact un_neg pins s σ H x v Q I rx ⟨_, r1.int_inv, q.same w (.int _) hg⟩
  · exact hg.elim
theorem o_add : OpR X (binaryOp .Add) (rD2 (ct X) gAdd) := by
  intro pins s σ H x y v u Q I rx ry ⟨μ, S, dx, dy, Qd, w, r1, r2, hg, q⟩
  unfold gAdd at hg
  split at hg
  · exact op_add pins s σ H x y v u Q I rx ry ⟨_, _, r1.int_inv, r2.int_inv, q.same w (.int _) hg⟩
  · rename_i xs ys
    obtain ⟨a, vs, rfl, ha, ra⟩ := r1.tup_inv
    obtain ⟨b, ws, rfl, hb, rb⟩ := r2.tup_inv
    refine op_catA pins s σ H _ _ v u Q I rx ry ⟨a, b, vs, ws, rfl, rfl, SqT.of ha, SqT.of hb, by rw [ra.length, rb.length]; exact hg.1, fun e => ?_, fun _ e => ?_, fun _ _ p hp => ?_⟩
    · subst e
      cases ra
      exact q.same w (.tup hb rb) hg.2
    · subst e
      cases rb
      have h2 := hg.2
      rw [List.append_nil] at h2
      exact q.same w (.tup ha ra) h2
    · exact q.tup w (ra.append rb) hg.2 hp
  · exact op_add_str pins s σ H x y v u Q I rx ry ⟨_, _, r1.str_inv, r2.str_inv, hg.1, q.same w (.str _) hg.2⟩
  · obtain ⟨xs, e1, hg⟩ := onSome_of hg
    obtain ⟨ys, e2, hg⟩ := onSome_of hg
    obtain ⟨a, vs, rfl, ha, ra⟩ := r1.lstT w e1
    obtain ⟨b, ws, rfl, hb, rb⟩ := r2.lstT w e2
    exact op_cat pins s σ H _ _ v u Q I rx ry ⟨a, b, vs, ws, rfl, rfl, ha, hb, by rw [ra.length, rb.length]; exact hg.1, fun p hp => q.lst w (ra.append rb) hg.2 hp⟩
open Rb in
theorem op_rep1 : OpR X (binaryOp .Mult) (fun x y H Q => ∃ (l : Addr) (xs : List V), x = .ref l ∧ y = .int 1 ∧ SqT X.K H l xs ∧ Q (.ref l) H) := by
  intro pins s σ H x y v u Q I rx ry h
  obtain ⟨l, xs, rfl, rfl, hT, q⟩ := h
  cases rx
  obtain ⟨t, rfl⟩ := ry
  obtain ⟨its, r, ⟨⟨cls, dd, data, sl⟩, ho, hc, n, hd⟩, hs⟩ := I.tuple hT
  simp only at hc hd
  subst hc hd
  refine wpAny_binaryOp_repeat_ref (T := "tuple") (U := "int") (by decide) ⟨_, ho, rfl⟩ (fun s' => typeIs_int s' 1 t) noFill_tuple_mul F.fills_int_mul F.slot_int_rmul repeat_tuple F.slot_int_index.lookup
    (call_meets F.slot_int_rmul (typeIs_int s 1 t) F.entry_int_rmul (F.args_int_rmul_2 _ _) (int_rmul_tuple 1 t l its.toArray n dd sl)
      ⟨ho, rfl, ⟨_, ho, rfl⟩, call_meets F.slot_tuple_mul ⟨_, ho, rfl⟩ F.entry_tuple_mul (F.args_tuple_mul_2 _ _) (tupMul1 l its.toArray n dd sl t) ⟨ho, ?_⟩⟩)
  exact ⟨.ref l, H, I, rfl, q⟩
theorem o_mul : OpR X (binaryOp .Mult) (rD2 (ct X) gMul) := by
  intro pins s σ H x y v u Q I rx ry ⟨μ, S, dx, dy, Qd, w, r1, r2, hg, q⟩
  unfold gMul at hg
  split at hg
  · rcases hg.1 with hc | hc
    · exact op_mul pins s σ H x y v u Q I rx ry ⟨_, _, r1.int_inv, r2.int_inv, hc, q.same w (.int _) hg.2⟩
    · exact op_mulW pins s σ H x y v u Q I rx ry ⟨_, _, r1.int_inv, r2.int_inv, hc, q.same w (.int _) hg.2⟩
  · rename_i xs k
    obtain ⟨a, vs, rfl, ha, ra⟩ := r1.tup_inv
    obtain ⟨⟨ne, h1, h2, h3⟩, hq⟩ := hg
    have nv : vs ≠ [] := fun e => by
      subst e
      cases ra
      exact ne rfl
    by_cases hk : k = 1
    · subst hk
      refine op_rep1 pins s σ H _ _ v u Q I rx ry ⟨a, vs, rfl, r2.int_inv, SqT.of ha, ?_⟩
      have e : (List.replicate (1 : Int).toNat xs).flatten = xs := by show (List.replicate 1 xs).flatten = xs; simp
      rw [e] at hq
      exact q.same w (.tup ha ra) hq
    · refine op_repT pins s σ H _ _ v u Q I rx ry ⟨a, k, vs, rfl, r2.int_inv, SqT.of ha, nv, by omega, h2, by rw [ra.length]; exact h3, fun p hp => q.tup w (ra.rep _) hq hp⟩
  · rename_i k _ _
    obtain ⟨xs, e1, hg⟩ := onSome_of hg
    obtain ⟨a, vs, rfl, ha, ra⟩ := r1.lstT w e1
    exact op_rep pins s σ H _ _ v u Q I rx ry ⟨a, k, vs, rfl, r2.int_inv, ha, hg.1.1, hg.1.2.1, by rw [ra.length]; exact hg.1.2.2, fun p hp => q.lst w (ra.rep _) hg.2 hp⟩
  · exact hg.elim
end
end Pu
namespace Pu
open PySem PySem.Spec PyProof.Rows L2
/-! ## plain data -/
mutual
def toPy : D → Option PyData
  | .non => some .none
  | .bl b => some (.bool b)
  | .int i => some (.int i)
  | .str x => some (.str x)
  | .tup xs => (toPyAll xs).map .tuple
  | .lst _ xs => (toPyAll xs).map .list
  | .kls _ => none
  | .dic ps => some (Rb.dicD ps)
  | .cell _ => none
  | .glo _ => none
  | .ty _ => none
  | .ins _ _ => none
  | .exc _ _ => none
def toPyAll : List D → Option (List PyData)
  | [] => some []
  | x :: xs => (toPy x).bind fun p => (toPyAll xs).map (p :: ·)
end
mutual
/-- all lists in it are known to stand apart from the table of modules -/
def known : D → Bool
  | .tup xs => knownAll xs
  | .lst k xs => k && knownAll xs
  | .kls _ => false
  | _ => true
def knownAll : List D → Bool
  | [] => true
  | x :: xs => known x && knownAll xs
end
def pyC (S : Sto) : D → Option PyData
  | .cell n => (lstAt S[n]?).bind fun xs => (toPyAll xs).map .list
  | d => toPy d
section
variable {X : Cx} {pins : List (Addr × Obj)} {σ : L2.St} {H : Hp} {s : Shared} {μ : Mu}
mutual
theorem Rp.reads (I : Inv X pins σ H s) : ∀ (d : D) (v : V) (u : Value) (p : PyData), Rp (ct X) μ H v d → RelV v u → toPy d = some p → ∃ as, Reads s.heap u p as ∧ (known d = true → sysModules ∉ as)
  | .non, _, _, _, h, r, e => by
    cases h; cases r; cases e
    exact ⟨_, Reads.none, fun _ z => nomatch z⟩
  | .bl b, _, _, _, h, r, e => by
    cases h; cases r; cases e
    exact ⟨_, Reads.bool b, fun _ z => nomatch z⟩
  | .int i, _, _, _, h, r, e => by
    cases h; cases e
    obtain ⟨t, rfl⟩ := r
    exact ⟨_, Reads.int i t, fun _ z => nomatch z⟩
  | .str x, _, _, _, h, r, e => by
    cases h; cases e
    obtain ⟨t, rfl⟩ := r
    exact ⟨_, Reads.str x t, fun _ z => nomatch z⟩
  | .tup ds, _, _, _, h, r, e => by
    cases h with
    | tup hs ha =>
      cases r
      obtain ⟨ps, e1, rfl⟩ := Option.map_eq_some_iff.mp (show (toPyAll ds).map PyData.tuple = some _ from e)
      obtain ⟨its, rv, ⟨o, ho, hc, n, hd⟩, _⟩ := I.tuple (SqT.of hs)
      obtain ⟨as, hr, no⟩ := RpAll.reads I ds _ its ps ha rv e1
      exact ⟨_, Reads.tuple ho hc hd hr, fun hk => no hk⟩
  | .lst k ds, _, _, _, h, r, e => by
    cases h with
    | lst hs _ _ ne ha =>
      cases r
      obtain ⟨ps, e1, rfl⟩ := Option.map_eq_some_iff.mp (show (toPyAll ds).map PyData.list = some _ from e)
      obtain ⟨its, rv, ⟨o, n, ho, hc, _, hd⟩, _⟩ := I.list (SqL.of hs)
      obtain ⟨as, hr, no⟩ := RpAll.reads I ds _ its ps ha rv e1
      refine ⟨_, Reads.list ho hc hd hr, fun hk z => ?_⟩
      obtain ⟨h1, h2⟩ := Bool.and_eq_true_iff.mp (show (k && knownAll ds) = true from hk)
      rcases List.mem_cons.mp z with z | z
      · exact ne h1 z.symm
      · exact no h2 z
  | .kls _, _, _, _, _, _, e => by cases e
  | .dic qs, _, _, _, h, r, e => by
    cases h with
    | dic hd _ _ =>
      cases e
      obtain ⟨as, h1, h2⟩ := Rb.Ap.reads (S := [sysModules]) List.mem_cons_self I (Rb.dicD qs) _ _ (.dic hd) r
      exact ⟨as, h1, fun _ => h2⟩
  | .cell _, _, _, _, _, _, e => by cases e
  | .glo _, _, _, _, _, _, e => by cases e
  | .ty _, _, _, _, _, _, e => by cases e
  | .ins _ _, _, _, _, _, _, e => by cases e
  | .exc _ _, _, _, _, _, _, e => by cases e
theorem RpAll.reads (I : Inv X pins σ H s) : ∀ (ds : List D) (vs : List V) (us : List Value) (ps : List PyData), RpAll (ct X) μ H vs ds → Vals vs us → toPyAll ds = some ps → ∃ as, ReadsAll s.heap us ps as ∧ (knownAll ds = true → sysModules ∉ as)
  | [], _, _, _, h, r, e => by
    cases h; cases r; cases e
    exact ⟨_, ReadsAll.nil, fun _ z => nomatch z⟩
  | d :: ds, _, _, _, h, r, e => by
    cases h with
    | cons h1 h2 =>
      cases r with
      | cons r1 r2 =>
        obtain ⟨p, e1, e2⟩ := Option.bind_eq_some_iff.mp (show (toPy d).bind (fun p => (toPyAll ds).map (p :: ·)) = some _ from e)
        obtain ⟨ps, e3, rfl⟩ := Option.map_eq_some_iff.mp e2
        obtain ⟨as, q1, n1⟩ := Rp.reads I d _ _ p h1 r1 e1
        obtain ⟨bs, q2, n2⟩ := RpAll.reads I ds _ _ ps h2 r2 e3
        refine ⟨_, ReadsAll.cons q1 q2, fun hk z => ?_⟩
        obtain ⟨k1, k2⟩ := Bool.and_eq_true_iff.mp (show (known d && knownAll ds) = true from hk)
        rcases List.mem_append.mp z with z | z
        · exact n1 k1 z
        · exact n2 k2 z
end
theorem Wd.reads {S : Sto} (w : Wd (ct X) μ S H) (I : Inv X pins σ H s) {d : D} {v : V} {u : Value} {p : PyData} (h : Rp (ct X) μ H v d) (r : RelV v u) (e : pyC S d = some p) : ∃ as, Reads s.heap u p as := by
  by_cases hc : ∃ n, d = .cell n
  · obtain ⟨n, rfl⟩ := hc
    obtain ⟨xs, e1, e2⟩ := Option.bind_eq_some_iff.mp (show (lstAt S[n]?).bind (fun xs => (toPyAll xs).map .list) = some p from e)
    obtain ⟨ps, e3, rfl⟩ := Option.map_eq_some_iff.mp e2
    obtain ⟨a, vs, rfl, ha, ra⟩ := h.lstT w (show lstOf S (.cell n) = some xs from e1)
    cases r
    obtain ⟨its, rv, ⟨o, k, ho, hc, _, hd⟩, _⟩ := I.list (SqL.of ha)
    obtain ⟨as, hr, no⟩ := RpAll.reads I xs _ its ps ra rv e3
    exact ⟨_, Reads.list ho hc hd hr⟩
  · have e' : toPy d = some p := by
      cases d with
      | cell n => exact absurd ⟨n, rfl⟩ hc
      | _ => exact e
    obtain ⟨as, h1, _⟩ := Rp.reads I d v u p h r e'
    exact ⟨as, h1⟩
end
/-! ## repr -/
def gRepr : List D → Sto → QD → Prop := fun ds S Q => match ds with
  | [d] => onSome (toPy d) fun p => (Rb.Nice 20 100000 p ∧ (p.hasDict = false ∨ known d = true)) ∧ Q (.str p.shown) S
  | _ => False
theorem Rp.glo_py {c : Ct} {μ : Mu} {H : Hp} {v : V} {d : D} {p : PyData} (h : Rp c μ H v d) (e : toPy d = some p) : (∃ a, v = .ref a) ∨ (v = .non ∧ p = .none) ∨ (∃ b, v = .bl b ∧ p = .bool b) ∨ (∃ i, v = .int i ∧ p = .int i) ∨ ∃ x, v = .str x ∧ p = .str x := by
  cases h with
  | non => cases e; exact .inr (.inl ⟨rfl, rfl⟩)
  | bl b => cases e; exact .inr (.inr (.inl ⟨b, rfl, rfl⟩))
  | int i => cases e; exact .inr (.inr (.inr (.inl ⟨i, rfl, rfl⟩)))
  | str x => cases e; exact .inr (.inr (.inr (.inr ⟨x, rfl, rfl⟩)))
  | glo _ _ => cases e
  | ty _ => cases e
  | _ => exact .inl ⟨_, rfl⟩
theorem c_repr {X : Cx} (hg : X.A.guards = some []) (hu : X.A.units + 64 < cLine) : CallR X (.builtin "repr") (rDs (ct X) gRepr) := by
  intro pins s σ H vs us Q I r ⟨μ, S, ds, Qd, w, ra, hr, q⟩
  unfold gRepr at hr
  split at hr
  · rename_i d
    obtain ⟨p, e, ⟨hn, hk⟩, hq⟩ := onSome_of hr
    cases ra with
    | cons rd r0 =>
      cases r0
      obtain ⟨u, rfl, ru⟩ := vals1 r
      have fin := q.same w (.str p.shown) hq
      obtain ⟨as, rr, no⟩ := Rp.reads I d _ u p rd ru e
      have hsz := hn.fits
      have hdep := hn.dep
      have hs := hn.sh
      rcases rd.glo_py e with ⟨a, rfl⟩ | ⟨rfl, rfl⟩ | ⟨b, rfl, rfl⟩ | ⟨i, rfl, rfl⟩ | ⟨x, rfl, rfl⟩
      · cases ru
        refine repr_of_reads' rr hs (fun z => ?_) hg (by omega) (fun _ _ e => e) (fun h' t tk hk => ?_) hsz
        · rcases hk with hk | hk
          · rw [hk] at z; cases z
          · exact no hk
        · exact ⟨.str _, H, I.kept hk, ⟨_, rfl⟩, fin⟩
      · cases ru
        simp only [PyData.shown] at fin
        exact PySem.P.repr_of_none ⟨.str _, H, I.tok _, ⟨_, rfl⟩, fin⟩
      · cases ru
        simp only [PyData.shown] at fin
        exact PySem.P.repr_of_bool ⟨.str _, H, I.tok _, ⟨_, rfl⟩, fin⟩
      · obtain ⟨t, rfl⟩ := ru
        simp only [PyData.showable, decide_eq_true_eq] at hs
        simp only [PyData.shown] at fin
        exact PySem.P.repr_of_int hs ⟨.str _, H, I.tok _, ⟨_, rfl⟩, fin⟩
      · obtain ⟨t, rfl⟩ := ru
        simp only [PyData.shown] at fin hsz
        exact PySem.P.repr_of_str ⟨.str _, H, I.tok _, ⟨_, rfl⟩, fin⟩ hsz
  · exact hr.elim
/-! ## == and != -/
def nb : Bool → Bool → Bool
  | true, b => !b
  | false, b => b
def gEqB (neg : Bool) : G2 := fun x y S Q => match x, y with
  | .int i, .int j => Q (.bl (nb neg (decide (i = j)))) S
  | .str a, .str b => Q (.bl (nb neg (decide (a = b)))) S
  | x, y => onSome (pyC S x) fun p => onSome (pyC S y) fun q => (SeqAt.shaped p = true ∧ SeqAt.shaped q = true) ∧ Q (.bl (nb neg (PyData.eqv p q))) S
abbrev gEq : G2 := gEqB false
abbrev gNe : G2 := gEqB true
section
variable {X : Cx}
theorem dec_i {i j : Int} : decide (V.int i = V.int j) = decide (i = j) := by
  by_cases h : i = j
  · subst h; simp
  · rw [decide_eq_false h, decide_eq_false (fun z => h (V.int.inj z))]
theorem dec_s {i j : Str} : decide (V.str i = V.str j) = decide (i = j) := by
  by_cases h : i = j
  · subst h; simp
  · rw [decide_eq_false h, decide_eq_false (fun z => h (V.str.inj z))]
theorem o_eq (hu : X.A.units + 64 < cLine) : OpR X (compareOp .Eq) (rD2 (ct X) gEq) := by
  intro pins s σ H x y v u Q I rx ry ⟨μ, S, dx, dy, Qd, w, r1, r2, hg, q⟩
  unfold gEq gEqB at hg
  split at hg
  · cases r1.int_inv
    cases r2.int_inv
    refine op_eq pins s σ H _ _ v u Q I rx ry ⟨rfl, ?_⟩
    rw [dec_i]
    exact q.same w (.bl _) hg
  · cases r1.str_inv
    cases r2.str_inv
    refine op_eq pins s σ H _ _ v u Q I rx ry ⟨rfl, ?_⟩
    rw [dec_s]
    exact q.same w (.bl _) hg
  · obtain ⟨p, e1, hg⟩ := onSome_of hg
    obtain ⟨p', e2, ⟨s1, s2⟩, hg⟩ := onSome_of hg
    obtain ⟨as, h1⟩ := w.reads I r1 rx e1
    obtain ⟨bs, h2⟩ := w.reads I r2 ry e2
    exact SeqAt.compareEq_shaped h1 h2 s1 s2 hu ⟨.bl _, H, I, rfl, q.same w (.bl _) hg⟩
theorem o_ne (hu : X.A.units + 64 < cLine) : OpR X (compareOp .NotEq) (rD2 (ct X) gNe) := by
  intro pins s σ H x y v u Q I rx ry ⟨μ, S, dx, dy, Qd, w, r1, r2, hg, q⟩
  unfold gNe gEqB at hg
  split at hg
  · cases r1.int_inv
    cases r2.int_inv
    refine op_ne pins s σ H _ _ v u Q I rx ry ⟨rfl, ?_⟩
    rw [dec_i]
    exact q.same w (.bl _) hg
  · cases r1.str_inv
    cases r2.str_inv
    refine op_ne pins s σ H _ _ v u Q I rx ry ⟨rfl, ?_⟩
    rw [dec_s]
    exact q.same w (.bl _) hg
  · obtain ⟨p, e1, hg⟩ := onSome_of hg
    obtain ⟨p', e2, ⟨s1, s2⟩, hg⟩ := onSome_of hg
    obtain ⟨as, h1⟩ := w.reads I r1 rx e1
    obtain ⟨bs, h2⟩ := w.reads I r2 ry e2
    exact SeqAt.compareNe_shaped h1 h2 s1 s2 hu ⟨.bl _, H, I, rfl, q.same w (.bl _) hg⟩
end
/-! ## is None -/
def isNon : D → Bool
  | .non => true
  | _ => false
def noGlo : D → Bool
  | .glo _ => false
  | _ => true
/-! ## isinstance of a built-in type -/
inductive Ty6 where
  | int | bool | tup | lst | str | dic
def Ty6.name : Ty6 → String
  | .int => "int"
  | .bool => "bool"
  | .tup => "tuple"
  | .lst => "list"
  | .str => "str"
  | .dic => "dict"
def isL : Ty6 → Bool
  | .lst => true
  | _ => false
def isA (t : Ty6) (S : Sto) : D → Option Bool
  | .non => some false
  | .bl _ => some (match t with | .int => true | .bool => true | _ => false)
  | .int _ => some (match t with | .int => true | _ => false)
  | .str _ => some (match t with | .str => true | _ => false)
  | .tup _ => some (match t with | .tup => true | _ => false)
  | .lst _ _ => some (match t with | .lst => true | _ => false)
  | .kls _ => none
  | .dic _ => some (match t with | .dic => true | _ => false)
  | .cell n => (lstAt S[n]?).map fun _ => isL t
  | .glo _ => none
  | .ty _ => none
  | .ins _ _ => none
  | .exc _ _ => none
def gIsi (t : Ty6) : D → Sto → QD → Prop := fun d S Q => onSome (isA t S d) fun b => Q (.bl b) S
def tyOf : D → String
  | .non => "NoneType"
  | .bl _ => "bool"
  | .int _ => "int"
  | .str _ => "str"
  | .tup _ => "tuple"
  | .dic _ => "dict"
  | _ => "list"
theorem isA_ty {c : Ct} {μ : Mu} {S : Sto} {H : Hp} {v : V} {d : D} {t : Ty6} {b : Bool} (w : Wd c μ S H) (h : Rp c μ H v d) (e : isA t S d = some b) : TyX c.K H v (.type (tyOf d)) ∧ PySem.W.kitOne c.K (.type (tyOf d)) (.type t.name) = some b := by
  cases h with
  | non => cases e; exact ⟨.base .non, by cases t <;> exact kit_ty (by dsimp only [tyOf]; decide +kernel)⟩
  | bl k => cases e; exact ⟨.base (.bl k), by cases t <;> exact kit_ty (by dsimp only [tyOf]; decide +kernel)⟩
  | int k => cases e; exact ⟨.base (.int k), by cases t <;> exact kit_ty (by dsimp only [tyOf]; decide +kernel)⟩
  | str k => cases e; exact ⟨.base (.str k), by cases t <;> exact kit_ty (by dsimp only [tyOf]; decide +kernel)⟩
  | tup hs _ => cases e; exact ⟨.base (.tup hs), by cases t <;> exact kit_ty (by dsimp only [tyOf]; decide +kernel)⟩
  | lst hs _ _ _ _ => cases e; exact ⟨.base (.lst hs), by cases t <;> exact kit_ty (by dsimp only [tyOf]; decide +kernel)⟩
  | dic hd _ _ => cases e; exact ⟨.base (.dK hd), by cases t <;> exact kit_ty (by dsimp only [tyOf]; decide +kernel)⟩
  | @cell n a hm =>
    obtain ⟨xs, e1, e2⟩ := Option.map_eq_some_iff.mp (show (lstAt S[n]?).map (fun _ => isL t) = some b from e)
    subst e2
    obtain ⟨vs, h1, _⟩ := w.ok n _ _ hm (lstAt_inv e1)
    exact ⟨.base (.lst h1), by cases t <;> exact kit_ty (by dsimp only [tyOf]; decide +kernel)⟩
  | _ => cases e
section
variable {X : Cx} {E : L2.St → XK} {a b : Expr} {fa : FE} {pos p2 : Pos}
theorem d_isi {t : Ty6} (hg : Gl X "isinstance") (hm : X.mg "isinstance" = none) (ha : PEd X E a fa) (hb : PE X b (tC (.ty t.name)))
    (hs1 : starEach [a, b] X.env = (false, eval a X.env) :: starEach [b] X.env := by rfl) (hs2 : starEach [b] X.env = (false, eval b X.env) :: starEach [] X.env := by rfl) (hf2 : (backTo pos (starEach [b] X.env)).any (·.1) = false := by rfl) :
    PEd X E (.Call (.Name "isinstance" p2) [a, b] [] pos) (dUn (gIsi t) fa) := by
  refine PE.imp (pe_callB call_isi hg hm (show bootBuiltins "isinstance" = some (.builtin "isinstance") by decide +kernel) (pa_cons ha (pa_cons hb pa_nil hs2) hs1) (by decide) (by decide) hs1 hf2) fun σ H Q ⟨μ, S, ρ, Qd, Ed, w, en, hf, q, px⟩ => ?_
  refine tR_of w en hf px fun x S1 v H1 μ1 h1 f1 w1 en1 px1 r1 => ?_
  obtain ⟨k, e, hq⟩ := onSome_of h1
  obtain ⟨t1, t2⟩ := isA_ty w1 r1 e
  exact ⟨v, _, _, _, k, rfl, .ty _, t1, t2, q _ S1 _ H1 μ1 hq f1 w1 (.bl k)⟩
end
end Pu
namespace Pu
open PySem PySem.Spec PyProof.Rows L2
section
variable {c : Ct} {μ : Mu} {S : Sto} {H : Hp}
theorem RpAll.one {vs : List V} {d : D} (h : RpAll c μ H vs [d]) : ∃ v, vs = [v] ∧ Rp c μ H v d := by
  cases h with
  | cons h1 h2 => cases h2; exact ⟨_, rfl, h1⟩
theorem RpAll.two {vs : List V} {d e : D} (h : RpAll c μ H vs [d, e]) : ∃ v u, vs = [v, u] ∧ Rp c μ H v d ∧ Rp c μ H u e := by
  cases h with
  | cons h1 h2 =>
    obtain ⟨u, rfl, h3⟩ := h2.one
    exact ⟨_, _, rfl, h1, h3⟩
theorem Rp.seq2 {v : V} {d : D} {xs : List D} (w : Wd c μ S H) (r : Rp c μ H v d) (e : seqOf S d = some xs) : (∃ a vs, d = .tup xs ∧ v = .ref a ∧ H a = some (.tup vs) ∧ RpAll c μ H vs xs) ∨ ∃ a vs, v = .ref a ∧ SqL c.K H a vs ∧ RpAll c μ H vs xs := by
  cases r with
  | tup h ra => cases e; exact .inl ⟨_, _, rfl, rfl, h, ra⟩
  | lst h _ _ _ ra => cases e; exact .inr ⟨_, _, rfl, SqL.of h, ra⟩
  | kls h _ _ ra => cases e; exact .inr ⟨_, _, rfl, .inl h, ra⟩
  | klsK o its n h1 h2 h3 h4 h5 h6 ra => cases e; exact .inr ⟨_, _, rfl, .inr ⟨o, its, n, h1, h2, h3, h4, h5, h6⟩, ra⟩
  | @cell n a hm =>
    obtain ⟨vs, h1, h2⟩ := w.ok n _ _ hm (lstAt_inv e)
    exact .inr ⟨_, vs, rfl, SqL.of h1, h2⟩
  | _ => cases e
end
/-! ## len, abs, int, sum, min, max, tuple, list, str, sorted -/
def gLen : List D → Sto → QD → Prop := fun ds S Q => match ds with
  | [.str x] => x.length ≤ sizeLine ∧ Q (.int x.length) S
  | [.dic ps] => Q (.int ps.length) S
  | [d] => onSome (seqOf S d) fun xs => Q (.int xs.length) S
  | _ => False
def gAbs : List D → Sto → QD → Prop := fun ds S Q => match ds with
  | [.int i] => Q (.int (if i < 0 then -i else i)) S
  | _ => False
def gToInt : List D → Sto → QD → Prop := fun ds S Q => match ds with
  | [.int i] => Q (.int i) S
  | [.bl b] => Q (.int (if b then 1 else 0)) S
  | _ => False
def gStr : List D → Sto → QD → Prop := fun ds S Q => match ds with
  | [.int i] => i.natAbs < 2 ^ 1000 ∧ Q (.str (toString i)) S
  | _ => False
/-- the first greatest, the first least -/
def maxL : List Int → Int
  | [] => 0
  | [x] => x
  | x :: xs => max x (maxL xs)
def minL : List Int → Int
  | [] => 0
  | [x] => x
  | x :: xs => min x (minL xs)
theorem maxL_spec : ∀ {ns : List Int}, ns ≠ [] → maxL ns ∈ ns ∧ ∀ y ∈ ns, y ≤ maxL ns
  | [], h => absurd rfl h
  | [x], _ => ⟨List.mem_cons_self, fun y hy => by rw [List.mem_singleton.mp hy]; exact Int.le_refl _⟩
  | x :: y :: r, _ => by
    obtain ⟨h1, h2⟩ := maxL_spec (ns := y :: r) (fun z => nomatch z)
    have e : maxL (x :: y :: r) = max x (maxL (y :: r)) := rfl
    rw [e]
    refine ⟨?_, fun z hz => ?_⟩
    · rcases Int.le_total x (maxL (y :: r)) with h | h
      · rw [Int.max_eq_right h]; exact List.mem_cons_of_mem _ h1
      · rw [Int.max_eq_left h]; exact List.mem_cons_self
    · rcases List.mem_cons.mp hz with rfl | hz
      · exact Int.le_max_left _ _
      · exact Int.le_trans (h2 z hz) (Int.le_max_right _ _)
theorem minL_spec : ∀ {ns : List Int}, ns ≠ [] → minL ns ∈ ns ∧ ∀ y ∈ ns, minL ns ≤ y
  | [], h => absurd rfl h
  | [x], _ => ⟨List.mem_cons_self, fun y hy => by rw [List.mem_singleton.mp hy]; exact Int.le_refl _⟩
  | x :: y :: r, _ => by
    obtain ⟨h1, h2⟩ := minL_spec (ns := y :: r) (fun z => nomatch z)
    have e : minL (x :: y :: r) = min x (minL (y :: r)) := rfl
    rw [e]
    refine ⟨?_, fun z hz => ?_⟩
    · rcases Int.le_total x (minL (y :: r)) with h | h
      · rw [Int.min_eq_left h]; exact List.mem_cons_self
      · rw [Int.min_eq_right h]; exact List.mem_cons_of_mem _ h1
    · rcases List.mem_cons.mp hz with rfl | hz
      · exact Int.min_le_left _ _
      · exact Int.le_trans (Int.min_le_right _ _) (h2 z hz)
theorem maxL_uniq {ns : List Int} {m : Int} (h : m ∈ ns) (h2 : ∀ y ∈ ns, y ≤ m) : m = maxL ns := by
  obtain ⟨a, b⟩ := maxL_spec (ns := ns) (fun e => by rw [e] at h; cases h)
  have := h2 _ a
  have := b _ h
  omega
theorem minL_uniq {ns : List Int} {m : Int} (h : m ∈ ns) (h2 : ∀ y ∈ ns, m ≤ y) : m = minL ns := by
  obtain ⟨a, b⟩ := minL_spec (ns := ns) (fun e => by rw [e] at h; cases h)
  have := h2 _ a
  have := b _ h
  omega
def gMax : List D → Sto → QD → Prop := fun ds S Q => match ds with
  | [.int i, .int j] => Q (.int (if j > i then j else i)) S
  | [d] => onSome (seqOf S d) fun xs => onSome (intsOf xs) fun ns => ns ≠ [] ∧ Q (.int (maxL ns)) S
  | _ => False
def gTuple : List D → Sto → QD → Prop := fun ds S Q => match ds with
  | [d] => onSome (seqOf S d) fun xs => Q (.tup xs) S
  | _ => False
def gListN : List D → Sto → QD → Prop := fun ds S Q => match ds with
  | [d] => onSome (seqOf S d) fun xs => Q (.lst true xs) S
  | _ => False
section
variable {X : Cx}
theorem c_len : CallR X (.builtin "len") (rDs (ct X) gLen) := by
  intro pins s σ H vs us Q I r ⟨μ, S, ds, Qd, w, ra, hg, q⟩
  unfold gLen at hg
  split at hg
  · obtain ⟨v, rfl, rv⟩ := ra.one
    cases rv.str_inv
    exact call_len pins s σ H _ us Q I r ⟨_, _, rfl, ⟨hg.1, rfl⟩, q.same w (.int _) hg.2⟩
  · obtain ⟨v, rfl, rv⟩ := ra.one
    cases rv with
    | dic hd _ _ =>
      refine call_lenD pins s σ H _ us Q I r ⟨_, _, rfl, hd, ?_⟩
      rw [show (Rb.dicV _).length = _ from List.length_map ..]
      exact q.same w (.int _) hg
  · obtain ⟨v, rfl, rv⟩ := ra.one
    obtain ⟨xs, e, hg⟩ := onSome_of hg
    obtain ⟨a, ws, rfl, hs, rs⟩ := rv.seq w e
    refine call_len_seq pins s σ H _ us Q I r ⟨a, ws, rfl, hs, ?_⟩
    rw [rs.length]
    exact q.same w (.int _) hg
  · exact hg.elim
theorem c_abs : CallR X (.builtin "abs") (rDs (ct X) gAbs) := by
  intro pins s σ H vs us Q I r ⟨μ, S, ds, Qd, w, ra, hg, q⟩
  unfold gAbs at hg
  split at hg
  · obtain ⟨v, rfl, rv⟩ := ra.one
    cases rv.int_inv
    exact call_abs pins s σ H _ us Q I r ⟨_, rfl, q.same w (.int _) hg⟩
  · exact hg.elim
theorem c_int : CallR X (.type "int") (rDs (ct X) gToInt) := by
  intro pins s σ H vs us Q I r ⟨μ, S, ds, Qd, w, ra, hg, q⟩
  unfold gToInt at hg
  split at hg
  · obtain ⟨v, rfl, rv⟩ := ra.one
    cases rv.int_inv
    exact call_int1 pins s σ H _ us Q I r (.inl ⟨_, rfl, q.same w (.int _) hg⟩)
  · obtain ⟨v, rfl, rv⟩ := ra.one
    cases rv.bl_inv
    exact call_int1 pins s σ H _ us Q I r (.inr ⟨_, rfl, q.same w (.int _) hg⟩)
  · exact hg.elim
theorem c_str : CallR X (.type "str") (rDs (ct X) gStr) := by
  intro pins s σ H vs us Q I r ⟨μ, S, ds, Qd, w, ra, hg, q⟩
  unfold gStr at hg
  split at hg
  · rename_i i
    obtain ⟨v, rfl, rv⟩ := ra.one
    cases rv.int_inv
    refine call_str_int pins s σ H _ us Q I r ⟨_, rfl, ?_, q.same w (.str _) hg.2⟩
    by_cases z : i.natAbs = 0
    · rw [z]; decide
    · exact (Nat.log2_lt z).mpr (Nat.lt_of_lt_of_le hg.1 (Nat.pow_le_pow_right (by decide) (by decide)))
  · exact hg.elim
theorem c_max (hc : X.calm = true) (hu : X.A.units + 64 < cLine) : CallR X (.builtin "max") (rDs (ct X) gMax) := by
  intro pins s σ H vs us Q I r ⟨μ, S, ds, Qd, w, ra, hg, q⟩
  unfold gMax at hg
  split at hg
  · obtain ⟨v, u, rfl, rv, ru⟩ := ra.two
    cases rv.int_inv
    cases ru.int_inv
    exact call_max2 hc pins s σ H _ us Q I r ⟨_, _, rfl, q.same w (.int _) hg⟩
  · obtain ⟨v, rfl, rv⟩ := ra.one
    obtain ⟨xs, e, hg⟩ := onSome_of hg
    obtain ⟨ns, e2, ne, hg⟩ := onSome_of hg
    obtain ⟨a, ws, rfl, hs, rs⟩ := rv.seq w e
    rw [intsOf_inv e2] at rs
    rw [rs.ints] at hs
    have fin : ∀ m, m ∈ ns → (∀ y ∈ ns, y ≤ m) → Q (.int m) H := fun m h1 h2 => by
      rw [maxL_uniq h1 h2]
      exact q.same w (.int _) hg
    rcases hs with hs | hs
    · exact cr_max hc pins s σ H _ us Q I r ⟨a, ns, rfl, hs, List.length_pos_iff.mpr ne, fun m h1 h2 => fin m h1 h2⟩
    · exact Rb.cr_maxT hc hu pins s σ H _ us Q I r ⟨a, ns, rfl, hs, ne, fin⟩
  · exact hg.elim
def gMinL : List D → Sto → QD → Prop := fun ds S Q => match ds with
  | [.int i, .int j] => Q (.int (if j < i then j else i)) S
  | [d] => onSome (lstOf S d) fun xs => onSome (intsOf xs) fun ns => ns ≠ [] ∧ Q (.int (minL ns)) S
  | _ => False
theorem c_minL (hc : X.calm = true) : CallR X (.builtin "min") (rDs (ct X) gMinL) := by
  intro pins s σ H vs us Q I r ⟨μ, S, ds, Qd, w, ra, hg, q⟩
  unfold gMinL at hg
  split at hg
  · obtain ⟨v, u, rfl, rv, ru⟩ := ra.two
    cases rv.int_inv
    cases ru.int_inv
    exact call_min2 hc pins s σ H _ us Q I r ⟨_, _, rfl, q.same w (.int _) hg⟩
  · obtain ⟨v, rfl, rv⟩ := ra.one
    obtain ⟨xs, e, hg⟩ := onSome_of hg
    obtain ⟨ns, e2, ne, hg⟩ := onSome_of hg
    obtain ⟨a, ws, rfl, hs, rs⟩ := rv.lstT w e
    rw [intsOf_inv e2] at rs
    rw [rs.ints] at hs
    exact cr_min hc pins s σ H _ us Q I r ⟨a, ns, rfl, SqL.of hs, List.length_pos_iff.mpr ne, fun m h1 h2 => by
      rw [minL_uniq h1 h2]
      exact q.same w (.int _) hg⟩
  · exact hg.elim
theorem c_tuple : CallR X (.type "tuple") (rDs (ct X) gTuple) := by
  intro pins s σ H vs us Q I r ⟨μ, S, ds, Qd, w, ra, hg, q⟩
  unfold gTuple at hg
  split at hg
  · rename_i d
    obtain ⟨v, rfl, rv⟩ := ra.one
    obtain ⟨xs, e, hg⟩ := onSome_of hg
    rcases rv.seq2 w e with ⟨a, ws, rfl, rfl, ha, rs⟩ | ⟨a, ws, rfl, hs, rs⟩
    · exact call_tuple_of pins s σ H _ us Q I r ⟨a, ws, rfl, .inr ⟨SqT.of ha, q.same w (.tup ha rs) hg⟩⟩
    · exact call_tuple_of pins s σ H _ us Q I r ⟨a, ws, rfl, .inl ⟨hs, fun p hp => q.tup w rs hg hp⟩⟩
  · exact hg.elim
theorem c_listN : CallR X (.type "list") (rDs (ct X) gListN) := by
  intro pins s σ H vs us Q I r ⟨μ, S, ds, Qd, w, ra, hg, q⟩
  unfold gListN at hg
  split at hg
  · obtain ⟨v, rfl, rv⟩ := ra.one
    obtain ⟨xs, e, hg⟩ := onSome_of hg
    obtain ⟨a, ws, rfl, hs, rs⟩ := rv.seq w e
    exact Rb.call_listN pins s σ H _ us Q I r ⟨a, ws, rfl, hs, fun p hp hm => q.lstN w rs hg hp hm⟩
  · exact hg.elim
theorem PostV.lay {c : Ct} {μ : Mu} {S : Sto} {H : Hp} {Qd : QD} {Q : VK} (q : PostV c μ H Qd Q) (w : Wd c μ S H) {vs : List V} {ds : List D} (r : RpAll c μ H vs ds) (h : Qd (.cell S.length) (S ++ [.lst ds])) {p : Addr} (hp : H p = none) : Q (.ref p) (upd H p (.lst vs)) := by
  obtain ⟨f2, w2, r2⟩ := w.lay r hp
  exact q _ _ _ _ _ h f2 w2 r2
end
/-! ## sorted: ints, pairs of ints -/
def gSorted : List D → Sto → QD → Prop := fun ds S Q => match ds with
  | [d] => onSome (lstOf S d) fun xs => (∃ ns, xs = ns.map D.int ∧ Q (.lst false ((Rb.srt ns).map D.int)) S) ∨ ∃ ps : List (Int × Int), xs = ps.map (fun p => D.tup [.int p.1, .int p.2]) ∧ Q (.lst false ((Rb.srtP ps).map fun p => D.tup [.int p.1, .int p.2])) S
  | _ => False
section
variable {X : Cx} {c : Ct} {μ : Mu} {H : Hp}
theorem RpAll.prs : ∀ {vs : List V} {ps : List (Int × Int)}, RpAll c μ H vs (ps.map fun p => D.tup [.int p.1, .int p.2]) → Rb.Prs H vs ps := by
  intro vs ps h
  refine ⟨by have := h.length; rw [List.length_map] at this; exact this, fun i p hp => ?_⟩
  obtain ⟨v, e, r⟩ := h.at (i := i) (d := D.tup [.int p.1, .int p.2]) (by rw [List.getElem?_map, hp]; rfl)
  obtain ⟨a, ws, rfl, ha, ra⟩ := r.tup_inv
  obtain ⟨x, y, rfl, rx, ry⟩ := ra.two
  cases rx.int_inv
  cases ry.int_inv
  exact ⟨a, e, ha⟩
theorem RpAll.ofPrs {vs : List V} : ∀ {ps : List (Int × Int)}, Rb.Prs H vs ps → RpAll c μ H vs (ps.map fun p => D.tup [.int p.1, .int p.2]) := by
  induction vs with
  | nil =>
    intro ps h
    have : ps = [] := List.length_eq_zero_iff.mp (by rw [← h.1]; rfl)
    subst this
    exact .nil
  | cons v vs ih =>
    intro ps h
    match ps, h with
    | [], h => exact absurd h.1 (by simp)
    | p :: ps, h =>
      obtain ⟨t, e1, e2⟩ := h.2 0 p rfl
      cases e1
      refine .cons (.tup e2 (.cons (.int _) (.cons (.int _) .nil))) (ih ⟨Nat.succ.inj h.1, fun i q hq => ?_⟩)
      exact h.2 (i + 1) q hq
theorem c_sorted : CallR X (.builtin "sorted") (rDs (ct X) gSorted) := by
  intro pins s σ H vs us Q I r ⟨μ, S, ds, Qd, w, ra, hg, q⟩
  unfold gSorted at hg
  split at hg
  · obtain ⟨v, rfl, rv⟩ := ra.one
    obtain ⟨xs, e, hg⟩ := onSome_of hg
    obtain ⟨a, ws, rfl, hs, rs⟩ := rv.lstT w e
    rcases hg with ⟨ns, rfl, hg⟩ | ⟨ps, rfl, hg⟩
    · rw [rs.ints] at hs
      refine cr_sortedI pins s σ H _ us Q I r ⟨a, ns, rfl, SqL.of hs, fun ns' p h1 h2 hp => ?_⟩
      rw [Rb.srt_uniq h1 h2]
      exact q.lst w (RpAll.ofInts _) hg hp
    · refine cr_sortedPO pins s σ H _ us Q I r (Rb.sorted_prs (SqL.of hs) rs.prs fun ys p hP hp => ?_)
      exact q.lst w (RpAll.ofPrs hP) hg hp
  · exact hg.elim
end
end Pu
namespace Pu
open PySem PySem.Spec PyProof.Rows L2
/-! ## subscripts, slices, in -/
theorem atI_map {α β : Type} {R : α → β → Prop} {xs : List α} {ys : List β} (hl : xs.length = ys.length) (h : ∀ (i : Nat) y, ys[i]? = some y → ∃ x, xs[i]? = some x ∧ R x y) {i : Int} {y : β} (e : atI ys i = some y) : ∃ x, atI xs i = some x ∧ R x y := by
  unfold atI at e ⊢
  rw [hl]
  obtain ⟨j, e1, e2⟩ := Option.bind_eq_some_iff.mp e
  obtain ⟨x, e3, r⟩ := h j y e2
  exact ⟨x, by rw [e1]; exact e3, r⟩
def gIx : G2 := fun x y S Q => match x, y with
  | .str z, .int i => z.length ≤ sizeLine ∧ onSome (atI z.cps.toList i) fun c => Q (.str ⟨#[c]⟩) S
  | x, .int i => onSome (seqOf S x) fun xs => onSome (atI xs i) fun d => Q d S
  | _, _ => False
/-- the items of xs[lo:hi] -/
def cutD (xs : List D) (lo hi : Option Int) : List D := (xs.drop (HT.sIx xs.length 0 lo)).take (HT.sIx xs.length xs.length hi - HT.sIx xs.length 0 lo)
def gSl : D → Option Int → Option Int → Sto → QD → Prop := fun x lo hi S Q => match x with
  | .tup xs => Q (.tup (cutD xs lo hi)) S
  | .str z => z.length ≤ sizeLine ∧ Q (.str (cutS z lo hi)) S
  | x => onSome (seqOf S x) fun xs => Q (.lst false (cutD xs lo hi)) S
def rDsl (c : Ct) (g : D → Option Int → Option Int → Sto → QD → Prop) : V → Option Int → Option Int → Hp → VK → Prop := fun x lo hi H Q => ∃ μ S d Qd, Wd c μ S H ∧ Rp c μ H x d ∧ g d lo hi S Qd ∧ PostV c μ H Qd Q
def dSl (fe : FE) (fl fh : FO) : FE := fun ρ S Q Ed => fe ρ S (fun x S1 => fl ρ S1 (fun l S2 => fh ρ S2 (fun h S3 => gSl x l h S3 Q) Ed) Ed) Ed
def dPart (f : FE) : FO := fun ρ S Q Ed => f ρ S (fun d S1 => match d with | .int i => Q (some i) S1 | _ => False) Ed
def dNoP : FO := fun _ S Q _ => Q none S
section
variable {c : Ct} {μ : Mu} {S : Sto} {H : Hp}
theorem cutV_eq {vs : List V} {ds : List D} (r : RpAll c μ H vs ds) (lo hi : Option Int) : RpAll c μ H (cutV vs lo hi) (cutD ds lo hi) := by
  unfold cutV cutD
  rw [r.length]
  exact (r.drop _).take _
end
section
variable {X : Cx} {E : L2.St → XK} {a b e : Expr} {fa fb fe : FE} {lo hi : Option Expr} {fl fh : FO} {pos p2 : Pos}
theorem ix_D : IxR X (rD2 (ct X) gIx) := by
  intro value slice pins s σ H x y v u Q I rx ry ⟨μ, S, dx, dy, Qd, w, r1, r2, hg, q⟩ hs
  unfold gIx at hg
  split at hg
  · obtain ⟨hz, hg⟩ := hg
    obtain ⟨c, e, hg⟩ := onSome_of hg
    cases r1.str_inv
    cases r2.int_inv
    exact ix_str value slice pins s σ H _ _ v u Q I rx ry ⟨_, _, c, rfl, rfl, hz, e, q.same w (.str _) hg⟩ hs
  · obtain ⟨xs, e1, hg⟩ := onSome_of hg
    obtain ⟨d, e2, hg⟩ := onSome_of hg
    obtain ⟨a, ws, rfl, hq, rs⟩ := r1.seq w e1
    cases r2.int_inv
    obtain ⟨z, e3, rz⟩ := atI_map rs.length (fun i y h => rs.at h) e2
    have fin := q.same w rz hg
    rcases hq with hq | hq
    · exact ix_list value slice pins s σ H _ _ v u Q I rx ry ⟨a, ws, _, z, rfl, rfl, hq, e3, fin⟩ hs
    · exact ix_tup value slice pins s σ H _ _ v u Q I rx ry ⟨a, ws, _, z, rfl, rfl, hq, e3, fin⟩ hs
  · exact hg.elim
theorem d_ix (ha : PEd X E a fa) (hb : PEd X E b fb) (hs : PlainIx b) : PEd X E (.Subscript a b pos) (dBin gIx fa fb) := PE.imp (pe_ix ix_D ha hb hs) fun _ _ _ h => tBin h
theorem sl_D : SlR X (rDsl (ct X) gSl) := by
  intro pins s σ H x v vl vu lo hi sl Q I rx hs pl pu ⟨μ, S, d, Qd, w, r1, hg, q⟩
  unfold gSl at hg
  split at hg
  · obtain ⟨a, ws, rfl, ha, rs⟩ := r1.tup_inv
    refine sl_tupA pins s σ H _ v vl vu lo hi sl Q I rx hs pl pu ⟨a, ws, rfl, SqT.of ha, fun hw => ?_, fun hw p hp => q.tup w (cutV_eq rs lo hi) hg hp⟩
    refine q.same w (.tup ha ?_) hg
    have : cutV ws lo hi = ws := by
      unfold cutV
      rw [hw.1, hw.2, List.drop_zero, Nat.sub_zero, List.take_length]
    rw [← this]
    exact cutV_eq rs lo hi
  · cases r1.str_inv
    exact sl_str pins s σ H _ v vl vu lo hi sl Q I rx hs pl pu ⟨_, rfl, hg.1, q.same w (.str _) hg.2⟩
  · rename_i hnt0 hnt1
    obtain ⟨xs, e1, hg⟩ := onSome_of hg
    rcases r1.seq2 w e1 with ⟨a, ws, rfl, rfl, ha, rs⟩ | ⟨a, ws, rfl, hq, rs⟩
    · exact absurd rfl (hnt0 _)
    · exact sl_list pins s σ H _ v vl vu lo hi sl Q I rx hs pl pu ⟨a, ws, rfl, hq, fun p hp => q.lst w (cutV_eq rs lo hi) hg hp⟩
theorem d_slice (he : PEd X E e fe) (hl : POd X E lo fl) (hh : POd X E hi fh) : PEd X E (.Subscript e (.Slice lo hi none p2) pos) (dSl fe fl fh) := by
  refine PE.imp (pe_slice sl_D he hl hh) fun σ H Q ⟨μ, S, ρ, Qd, Ed, w, en, hf, q, px⟩ => ?_
  refine tR_of w en hf px fun x S1 v H1 μ1 h1 f1 w1 en1 px1 r1 => ?_
  refine tR_of w1 en1 h1 px1 fun l S2 l' H2 μ2 h2 f2 w2 en2 px2 r2 => ?_
  cases (r2 : l' = l)
  refine tR_of w2 en2 h2 px2 fun h S3 h' H3 μ3 h3 f3 w3 en3 px3 r3 => ?_
  cases (r3 : h' = h)
  exact ⟨μ3, S3, x, Qd, w3, (r1.fw w1 f2).fw w2 f3, h3, fun d S' v' H' μ' h f w' r => q d S' v' H' μ' h (f1.trans (f2.trans (f3.trans f))) w' r⟩
theorem d_noP : POd X E none dNoP := PO.imp po_none fun σ H Q ⟨μ, S, ρ, Qd, Ed, w, en, hf, q, px⟩ => q none S none H μ hf Fw.refl w rfl
theorem d_part (he : PEd X E e fe) : POd X E (some e) (dPart fe) := by
  refine PO.imp (po_some he) fun σ H Q ⟨μ, S, ρ, Qd, Ed, w, en, hf, q, px⟩ => ?_
  refine tR_of w en hf px fun x S1 v H1 μ1 h1 f1 w1 en1 px1 r1 => ?_
  split at h1
  · exact ⟨_, r1.int_inv, q _ S1 _ H1 μ1 h1 f1 w1 rfl⟩
  · exact h1.elim
/-- t[::-1] -/
def gRevT : D → Sto → QD → Prop := fun x S Q => match x with
  | .tup xs => Q (.tup xs.reverse) S
  | _ => False
theorem d_revT {k : Nat} {p1 p3 : Pos} (he : PEd X E e fe) : PEd X E (.Subscript e (.Slice none none (some (.UnaryOp .USub (.Constant (.int 1) k p1) p2)) p3) pos) (dUn gRevT fe) := by
  refine PE.imp (Rb.pe_revT he) fun σ H Q ⟨μ, S, ρ, Qd, Ed, w, en, hf, q, px⟩ => ?_
  refine tR_of w en hf px fun x S1 v H1 μ1 h1 f1 w1 en1 px1 r1 => ?_
  unfold gRevT at h1
  split at h1
  · obtain ⟨a, ws, rfl, ha, rs⟩ := r1.tup_inv
    exact ⟨a, ws, rfl, SqT.of ha, fun p hp => PostV.tup (fun d S' v H' μ' h f w' r => q d S' v H' μ' h (f1.trans f) w' r) w1 rs.rev h1 hp⟩
  · exact h1.elim
end
def gIn (neg : Bool) : G2 := fun x y S Q => match x with
  | .int i => onSome (seqOf S y) fun xs => onSome (intsOf xs) fun ns => Q (.bl (nb neg (decide (i ∈ ns)))) S
  | _ => False
theorem inV_ints {i : Int} : ∀ {ns : List Int}, inV (.int i) (ns.map V.int) = decide (i ∈ ns)
  | [] => by simp [inV]
  | n :: ns => by
    have ih := inV_ints (i := i) (ns := ns)
    unfold inV at *
    simp only [List.map_cons, List.any_cons]
    rw [ih]
    by_cases e : n = i
    · subst e
      simp [eqV]
    · have e2 : ¬ i = n := fun z => e z.symm
      simp [e, e2, eqV]
section
variable {X : Cx}
theorem flat_ints (ns : List Int) : (ns.map V.int).all flatV = true := by
  rw [List.all_map, List.all_eq_true]
  intro x _
  rfl
theorem o_in : OpR X (compareOp .In) (rD2 (ct X) (gIn false)) := by
  intro pins s σ H x y v u Q I rx ry ⟨μ, S, dx, dy, Qd, w, r1, r2, hg, q⟩
  unfold gIn at hg
  split at hg
  · obtain ⟨xs, e1, hg⟩ := onSome_of hg
    obtain ⟨ns, e2, hg⟩ := onSome_of hg
    obtain ⟨a, ws, rfl, hq, rs⟩ := r2.seq w e1
    cases r1.int_inv
    rw [intsOf_inv e2] at rs
    rw [rs.ints] at hq
    refine op_in_seq pins s σ H _ _ v u Q I rx ry ⟨a, _, rfl, hq, rfl, flat_ints ns, ?_⟩
    rw [inV_ints]
    exact q.same w (.bl _) hg
  · exact hg.elim
end
/-! ## methods of lists -/
abbrev GM := D → List D → Sto → QD → Prop
def dML (g : GM) (fo : FE) (fa : FA) : FE := fun ρ S Q Ed => fo ρ S (fun x S1 => onSome (cellOf S1 x) fun _ => fa ρ S1 (fun ds S2 => g x ds S2 Q) Ed) Ed
def gAppend : GM := fun x ds S Q => match ds with
  | [d] => onSome (cellOf S x) fun nx => nx.2.length < sizeLine ∧ Q .non (S.set nx.1 (.lst (nx.2 ++ [d])))
  | _ => False
section
variable {X : Cx} {E : L2.St → XK} {o e : Expr} {es : List Expr} {fo : FE} {fa : FA} {name : Str} {id : String} {apos cpos : Pos}
theorem d_ml {g : GM} (slot : Slot "list" name id) (hty : typeOf (.builtin id) = pure (.type "method_descriptor")) (hm : MtR X id (rDm (ct X) g)) (ho : PEd X E o fo) (ha : PAd X E (e :: es) fa)
    (hbase : attributeBase o name X.env (eval o X.env) = eval o X.env := by rfl)
    (hfew : ((backTo cpos (starEach (e :: es) X.env)).all (fun x => !x.1) && (backToKw cpos (keywordEach [] X.env)).all (fun x => x.1.isSome)
      && decide ((e :: es).length + ([] : List Keyword).length + (if ([] : List Keyword).isEmpty then 0 else 1) < 30)) = true := by rfl)
    (hline : (apos.endLine == cpos.line) = true := by rfl) (hs : starEach (e :: es) X.env = (false, eval e X.env) :: starEach es X.env := by rfl) (hplain : (backTo cpos (starEach es X.env)).any (·.1) = false := by rfl) :
    PEd X E (.Call (.Attribute o name apos) (e :: es) [] cpos) (dML g fo fa) := by
  refine PE.imp (pe_bm PySem.F.plainAttrs_list slot hty hm ho ha hbase hfew hline hs hplain) fun σ H Q ⟨μ, S, ρ, Qd, Ed, w, en, hf, q, px⟩ => ?_
  refine tR_of w en hf px fun x S1 v H1 μ1 h1 f1 w1 en1 px1 r1 => ?_
  obtain ⟨nx, e1, h1⟩ := onSome_of h1
  obtain ⟨a, vs, rfl, hm', ha', ra⟩ := w1.cellL r1 e1
  refine ⟨.inl ⟨rfl, vs, SqL.of ha'⟩, ?_⟩
  refine tR_of w1 en1 h1 px1 fun ds S2 us H2 μ2 h2 f2 w2 en2 px2 r2 => ?_
  exact ⟨μ2, S2, x, ds, Qd, w2, r1.fw w1 f2, r2, h2, fun d S' v' H' μ' h f w' r => q d S' v' H' μ' h (f1.trans (f2.trans f)) w' r⟩
theorem m_append : MtR X "list.append" (rDm (ct X) gAppend) := by
  intro pins s σ H x xs v us Q I rx rs ⟨μ, S, d, ds, Qd, w, r1, ra, hg, q⟩
  unfold gAppend at hg
  split at hg
  · obtain ⟨y, rfl, ry⟩ := ra.one
    obtain ⟨⟨n, zs⟩, e, hz, hg⟩ := onSome_of hg
    obtain ⟨a, vs, rfl, hm, ha, rz⟩ := w.cellL r1 e
    exact mt_append pins s σ H _ _ v us Q I rx rs ⟨a, vs, y, rfl, rfl, ha, by rw [rz.length]; exact hz, q.cell w hm (rz.append (.cons ry .nil)) .non hg⟩
  · exact hg.elim
end
end Pu
namespace Pu
open PySem PySem.Spec PyProof.Rows L2
/-! ## statements -/
structure EndsOk (c : Ct) (μ : Mu) (H : Hp) (De : DEnds) (D : Ends) : Prop where
  nx : ∀ ρ' S' σ' H' μ', De.nx ρ' S' → Fw μ H μ' H' → Wd c μ' S' H' → EnvR c μ' H' σ' ρ' → D.nx σ' H'
  rt : PostV c μ H De.rt D.rt
  bk : ∀ ρ' S' σ' H' μ', De.bk ρ' S' → Fw μ H μ' H' → Wd c μ' S' H' → EnvR c μ' H' σ' ρ' → D.bk σ' H'
  ct : ∀ ρ' S' σ' H' μ', De.ct ρ' S' → Fw μ H μ' H' → Wd c μ' S' H' → EnvR c μ' H' σ' ρ' → D.ct σ' H'
theorem PostV.fw {c : Ct} {μ μ' : Mu} {H H' : Hp} {Qd : QD} {Q : VK} (q : PostV c μ H Qd Q) (f : Fw μ H μ' H') : PostV c μ' H' Qd Q := fun d S' v H2 μ2 h g w r => q d S' v H2 μ2 h (f.trans g) w r
theorem EndsOk.fw {c : Ct} {μ μ' : Mu} {H H' : Hp} {De : DEnds} {D : Ends} (k : EndsOk c μ H De D) (f : Fw μ H μ' H') : EndsOk c μ' H' De D :=
  ⟨fun ρ S σ H2 μ2 h g w e => k.nx ρ S σ H2 μ2 h (f.trans g) w e, k.rt.fw f, fun ρ S σ H2 μ2 h g w e => k.bk ρ S σ H2 μ2 h (f.trans g) w e, fun ρ S σ H2 μ2 h g w e => k.ct ρ S σ H2 μ2 h (f.trans g) w e⟩
def tS (c : Ct) (E : XK) (f : FS) : TS := fun D σ H => ∃ μ S ρ De Ed, Wd c μ S H ∧ EnvR c μ H σ ρ ∧ f ρ S De Ed ∧ EndsOk c μ H De D ∧ PX c μ H Ed E
abbrev PSd (X : Cx) (E : XK) (st : Stmt) (f : FS) : Prop := PS X st (tS (ct X) E f)
abbrev PBd (X : Cx) (E : XK) (sts : List Stmt) (f : FS) : Prop := PSs X sts (tS (ct X) E f)
def dSkip : FS := fun ρ S De _ => De.nx ρ S
def dSeq (f g : FS) : FS := fun ρ S De Ed => f ρ S { De with nx := fun ρ' S' => g ρ' S' De Ed } Ed
def dDrop (f : FE) : FS := fun ρ S De Ed => f ρ S (fun _ S1 => De.nx ρ S1) Ed
def dRet (f : FE) : FS := fun ρ S De Ed => f ρ S De.rt Ed
def dIfS (t : FT) (f g : FS) : FS := fun ρ S De Ed => t ρ S (fun b S1 => if b = true then f ρ S1 De Ed else g ρ S1 De Ed) Ed
def dAsg (f : FE) (g : FG) : FS := fun ρ S De Ed => f ρ S (fun d S1 => g d ρ S1 De.nx Ed) Ed
section
variable {X : Cx} {E : XK} {st : Stmt} {rest : List Stmt} {f g : FS} {e : Expr} {fe : FE} {pos : Pos}
theorem d_end : PBd X E [] dSkip := PSs.imp pss_nil fun D σ H ⟨μ, S, ρ, De, Ed, w, en, hf, k, px⟩ => k.nx ρ S σ H μ hf Fw.refl w en
theorem d_seq (h1 : PSd X E st f) (h2 : PBd X E rest g) : PBd X E (st :: rest) (dSeq f g) := by
  refine PSs.imp (pss_cons h1 h2) fun D σ H ⟨μ, S, ρ, De, Ed, w, en, hf, k, px⟩ => ?_
  exact ⟨μ, S, ρ, _, Ed, w, en, hf, ⟨fun ρ' S' σ' H' μ' h fw w' en' => ⟨μ', S', ρ', De, Ed, w', en', h, k.fw fw, px.fw fw⟩, k.rt, k.bk, k.ct⟩, px⟩
theorem d_last (h1 : PSd X E st f) : PBd X E [st] f := pss_one h1
theorem d_expr (he : PEd X (cE E) e fe) (hs : swapsWith e none pos.line X.env = pure false := by rfl) : PSd X E (.Expr e pos) (dDrop fe) := by
  refine PS.imp (ps_expr he hs) fun D σ H ⟨μ, S, ρ, De, Ed, w, en, hf, k, px⟩ => ?_
  exact tR_of w en hf px fun x S1 v H1 μ1 h1 f1 w1 en1 px1 r1 => k.nx ρ S1 σ H1 μ1 h1 f1 w1 en1
theorem d_ret (he : PEd X (cE E) e fe) : PSd X E (.Return (some e) pos) (dRet fe) := by
  refine PS.imp (ps_ret he) fun D σ H ⟨μ, S, ρ, De, Ed, w, en, hf, k, px⟩ => ?_
  exact tR_of w en hf px fun x S1 v H1 μ1 h1 f1 w1 en1 px1 r1 => k.rt x S1 v H1 μ1 h1 f1 w1 r1
theorem d_if {c : Expr} {a b : List Stmt} {t : FT} (hc : PTd X (cE E) c t) (ha : PBd X E a f) (hb : PBd X E b g) : PSd X E (.If c a b pos) (dIfS t f g) := by
  refine PS.imp (ps_if hc ha hb) fun D σ H ⟨μ, S, ρ, De, Ed, w, en, hf, k, px⟩ => ?_
  refine tR_of w en hf px fun x S1 v H1 μ1 h1 f1 w1 en1 px1 r1 => ?_
  cases (r1 : v = x)
  split
  · rename_i hv
    rw [if_pos hv] at h1
    exact ⟨μ1, S1, ρ, De, Ed, w1, en1, h1, k.fw f1, px1⟩
  · rename_i hv
    rw [if_neg hv] at h1
    exact ⟨μ1, S1, ρ, De, Ed, w1, en1, h1, k.fw f1, px1⟩
end
/-! ## targets -/
def tG (c : Ct) (E : XK) (g : FG) : TG := fun v σ H Q => ∃ μ S ρ d Qd Ed, Wd c μ S H ∧ EnvR c μ H σ ρ ∧ Rp c μ H v d ∧ g d ρ S Qd Ed ∧ (∀ ρ' S' σ' H' μ', Qd ρ' S' → Fw μ H μ' H' → Wd c μ' S' H' → EnvR c μ' H' σ' ρ' → Q σ' H') ∧ PX c μ H Ed E
def tGs (c : Ct) (E : XK) (g : FGs) : TGs := fun vs σ H Q => ∃ μ S ρ ds Qd Ed, Wd c μ S H ∧ EnvR c μ H σ ρ ∧ RpAll c μ H vs ds ∧ g ds ρ S Qd Ed ∧ (∀ ρ' S' σ' H' μ', Qd ρ' S' → Fw μ H μ' H' → Wd c μ' S' H' → EnvR c μ' H' σ' ρ' → Q σ' H') ∧ PX c μ H Ed E
abbrev PGd (X : Cx) (E : XK) (tg : Expr) (g : FG) : Prop := PG X tg (tG (ct X) E g)
abbrev PGsd (X : Cx) (E : XK) (tgs : List Expr) (g : FGs) : Prop := PGs X tgs (tGs (ct X) E g)
/-- the slot i is filled, the list of slots written out -/
def setK : Rho → Nat → D → (Rho → Prop) → Prop
  | [], _, _, k => k []
  | _ :: r, 0, d, k => k (some d :: r)
  | x :: r, n + 1, d, k => setK r n d fun r' => k (x :: r')
theorem setK_eq : ∀ {ρ : Rho} {i : Nat} {d : D} {k : Rho → Prop}, setK ρ i d k → k (ρ.set i (some d))
  | [], _, _, _, h => h
  | _ :: r, 0, d, k, h => h
  | x :: r, n + 1, d, k, h => setK_eq (ρ := r) (i := n) (d := d) (k := fun r' => k (x :: r')) h
def gN (i : Nat) : FG := fun d ρ S Q _ => setK ρ i d fun ρ' => Q ρ' S
def gsNil : FGs := fun ds ρ S Q _ => match ds with
  | [] => Q ρ S
  | _ => False
def gsCons (g : FG) (gs : FGs) : FGs := fun ds ρ S Q Ed => match ds with
  | d :: r => g d ρ S (fun ρ1 S1 => gs r ρ1 S1 Q Ed) Ed
  | [] => False
def gUn (n : Nat) (gs : FGs) : FG := fun d ρ S Q Ed => onSome (lstOf S d) fun ds => ds.length = n ∧ gs ds ρ S Q Ed
/-- o[i] = .. -/
def gSetI (fo fi : FE) : FG := fun d ρ S Q Ed => fo ρ S (fun x S1 => fi ρ S1 (fun y S2 => match y with
  | .int k => onSome (cellOf S2 x) fun nx => onSome (ixN nx.2.length k) fun j => Q ρ (S2.set nx.1 (.lst (nx.2.set j d)))
  | _ => False) Ed) Ed
section
variable {X : Cx} {E : XK} {pos : Pos} {tg e o ie : Expr} {es : List Expr} {g : FG} {gs : FGs} {fe fo fi : FE}
theorem PGs.imp {t t' : TGs} (h : PGs X es t) (k : ∀ v σ H Q, t' v σ H Q → t v σ H Q) : PGs X es t' := ⟨fun pins s σ H v u Q I r q => h.run pins s σ H v u Q I r (k v σ H Q q)⟩
theorem d_gn {i : Nat} (h : PG X tg (gName i)) : PGd X E tg (gN i) :=
  PG.imp h fun v σ H Q ⟨μ, S, ρ, d, Qd, Ed, w, en, r, hg, q, px⟩ => q _ S _ H μ (setK_eq (k := fun ρ' => Qd ρ' S) hg) Fw.refl w (en.set r)
theorem d_gnil : PGsd X E [] gsNil := by
  refine PGs.imp pgs_nil fun vs σ H Q ⟨μ, S, ρ, ds, Qd, Ed, w, en, r, hg, q, px⟩ => ?_
  unfold gsNil at hg
  split at hg
  · cases r
    exact ⟨rfl, q ρ S σ H μ hg Fw.refl w en⟩
  · exact hg.elim
theorem d_gcons (h1 : PGd X E e g) (h2 : PGsd X E es gs) (hs : (assignEach (e :: es) X.env).map (·.2) = assign e X.env :: (assignEach es X.env).map (·.2) := by rfl) : PGsd X E (e :: es) (gsCons g gs) := by
  refine PGs.imp (pgs_cons h1 h2 hs) fun vs σ H Q ⟨μ, S, ρ, ds, Qd, Ed, w, en, r, hg, q, px⟩ => ?_
  unfold gsCons at hg
  split at hg
  · cases r with
    | cons r1 r2 =>
      refine ⟨_, _, rfl, μ, S, ρ, _, _, Ed, w, en, r1, hg, fun ρ1 S1 σ1 H1 μ1 h1 f1 w1 en1 => ?_, px⟩
      exact ⟨μ1, S1, ρ1, _, Qd, Ed, w1, en1, r2.fw w f1, h1, fun ρ2 S2 σ2 H2 μ2 h2 f2 w2 en2 => q ρ2 S2 σ2 H2 μ2 h2 (f1.trans f2) w2 en2, px.fw f1⟩
  · exact hg.elim
theorem d_gunl {k n : Nat} (hc : X.calm = true) (h : PGsd X E es gs) (hn : (assignEach es X.env).length = n := by rfl) (hst : (assignEach es X.env).findIdx? (·.1) = none := by rfl) : PGd X E (.Tuple es k pos) (gUn n gs) := by
  refine PG.imp (pg_unl hc h hn hst) fun v σ H Q ⟨μ, S, ρ, d, Qd, Ed, w, en, r, hg, q, px⟩ => ?_
  obtain ⟨ds, e, hl, hg⟩ := onSome_of hg
  obtain ⟨a, ws, rfl, ha, rs⟩ := r.lstT w e
  exact ⟨a, ws, rfl, SqL.of ha, by rw [rs.length]; exact hl, μ, S, ρ, _, Qd, Ed, w, en, rs, hg, q, px⟩
theorem d_gsub (ho : PEd X (cE E) o fo) (hi : PEd X (cE E) ie fi)
    (ha : ∀ v, assign (.Subscript o ie pos) X.env v = (do
      let ov ← holding [v] (eval o X.env)
      let iv ← holding [v, ov] (eval ie X.env)
      standAt pos
      holding [v, ov, iv] (setItem ov iv v)
      release [v, ov, iv] []) := by intro _; rfl) : PGd X E (.Subscript o ie pos) (gSetI fo fi) := by
  refine PG.imp (pg_sub ho hi set_list ha) fun v σ H Q ⟨μ, S, ρ, d, Qd, Ed, w, en, r, hg, q, px⟩ => ?_
  refine tR_of w en hg px fun x S1 vx H1 μ1 h1 f1 w1 en1 px1 r1 => ?_
  refine tR_of w1 en1 h1 px1 fun y S2 vy H2 μ2 h2 f2 w2 en2 px2 r2 => ?_
  split at h2
  · obtain ⟨⟨n, zs⟩, e, h2⟩ := onSome_of h2
    obtain ⟨j, e2, h2⟩ := onSome_of h2
    obtain ⟨a, vs, rfl, hm, hl, rz⟩ := w2.cellL (r1.fw w1 f2) e
    have fw : Fw μ2 H2 μ2 (upd H2 a (.lst (vs.set j v))) := Fw.write (List.mem_of_getElem? hm)
    have rd := ((r.fw w f1).fw w1 f2)
    refine ⟨a, vs, _, j, rfl, r2.int_inv, hl, by rw [rz.length]; exact e2, ?_⟩
    exact q ρ _ σ _ μ2 h2 (f1.trans (f2.trans fw)) (w2.set hm ⟨_, upd_same, (rz.set rd j).fw w2 fw⟩) (en2.fw w2 fw)
  · exact h2.elim
theorem d_asg (he : PEd X (cE E) e fe) (hg : PGd X E tg g) (hs : swapsWithSole [tg] e pos.line X.env = pure false := by rfl) (hw : swappedStores [tg] e X.env = pure none := by rfl)
    (h1 : (assignEach [tg] X.env).map (·.2) = [assign tg X.env] := by rfl) : PSd X E (.Assign [tg] e pos) (dAsg fe g) := by
  refine PS.imp (ps_asg he hg hs hw h1) fun D σ H ⟨μ, S, ρ, De, Ed, w, en, hf, k, px⟩ => ?_
  refine tR_of w en hf px fun x S1 v H1 μ1 h1 f1 w1 en1 px1 r1 => ?_
  exact ⟨μ1, S1, ρ, x, _, Ed, w1, en1, r1, h1, fun ρ2 S2 σ2 H2 μ2 h2 f2 w2 en2 => k.nx ρ2 S2 σ2 H2 μ2 h2 (f1.trans f2) w2 en2, px1⟩
theorem d_set {i : Nat} {x : Str} {pos' : Pos} (hN : X.N.Nodup) (hi : X.N[i]? = some x) (hx : Loc X.env.scope x) (he : PEd X (cE E) e fe) (hs : swapsWith e (some (.Name x pos')) pos.line X.env = pure false := by rfl)
    (hf : X.fn x = true ∨ X.env.scope.names.lookup x = some .local := by first | exact .inl rfl | exact .inr rfl | assumption) : PSd X E (.Assign [.Name x pos'] e pos) (dAsg fe (gN i)) := by
  refine PS.imp (ps_set hN hi hx he hs hf) fun D σ H ⟨μ, S, ρ, De, Ed, w, en, hf, k, px⟩ => ?_
  refine tR_of w en hf px fun x S1 v H1 μ1 h1 f1 w1 en1 px1 r1 => ?_
  exact k.nx _ S1 _ H1 μ1 (setK_eq (k := fun ρ' => De.nx ρ' S1) h1) f1 w1 (en1.set r1)
end
/-- a, b = x, y -/
def dPar (i j : Nat) (fa : FA) : FS := fun ρ S De Ed => fa ρ S (fun ds S1 => match ds with
  | [d, e] => setK ρ i d fun ρ1 => setK ρ1 j e fun ρ2 => De.nx ρ2 S1
  | _ => False) Ed
section
variable {X : Cx} {E : XK} {pos : Pos} {a b c : Expr} {fa : FA}
theorem d_par {i j : Nat} {x y : Str} {px py pt : Pos} {kt k2 pt2} (hc : X.calm = true) (hN : X.N.Nodup) (hi : X.N[i]? = some x) (hj : X.N[j]? = some y) (hij : i ≠ j)
    (hx : X.env.scope.names.lookup x = some .local) (hy : X.env.scope.names.lookup y = some .local) (ha : PAd X (cE E) [a, b] fa)
    (hw : swappedStores [.Tuple [.Name x px, .Name y py] kt pt] (.Tuple [a, b] k2 pt2) X.env = pure (some [x, y]))
    (hs : swapsWithSole [.Tuple [.Name x px, .Name y py] kt pt] (.Tuple [a, b] k2 pt2) pos.line X.env = pure false := by rfl) :
    PSd X E (.Assign [.Tuple [.Name x px, .Name y py] kt pt] (.Tuple [a, b] k2 pt2) pos) (dPar i j fa) := by
  refine PS.imp (ps_par hc hN hi hj hij hx hy ha hw hs) fun D σ H ⟨μ, S, ρ, De, Ed, w, en, hf, k, px⟩ => ?_
  refine tR_of w en hf px fun ds S1 vs H1 μ1 h1 f1 w1 en1 px1 r1 => ?_
  split at h1
  · obtain ⟨u, v, rfl, ru, rv⟩ := r1.two
    exact ⟨u, v, rfl, k.nx _ S1 _ H1 μ1 (setK_eq (k := fun ρ2 => De.nx ρ2 S1) (setK_eq (k := fun ρ1 => setK ρ1 _ _ fun ρ2 => De.nx ρ2 S1) h1)) f1 w1 ((en1.set ru).set rv)⟩
  · exact h1.elim
end
end Pu
namespace Pu
open PySem PySem.Spec PyProof.Rows L2
/-! ## what a loop walks: its items, the cells that must stay as they are -/
abbrev Src := List (Nat × List D)
def srcOk : Src → Sto → Prop → Prop
  | [], _, P => P
  | (n, xs) :: r, S, P => S[n]? = some (.lst xs) ∧ srcOk r S P
theorem srcOk_iff {src : Src} {S : Sto} {P : Prop} : srcOk src S P ↔ (∀ p ∈ src, S[p.1]? = some (.lst p.2)) ∧ P := by
  induction src with
  | nil => exact ⟨fun h => ⟨(fun _ z => nomatch z), h⟩, fun h => h.2⟩
  | cons p r ih =>
    obtain ⟨n, xs⟩ := p
    constructor
    · rintro ⟨h1, h2⟩
      obtain ⟨h3, h4⟩ := ih.mp h2
      refine ⟨fun q hq => ?_, h4⟩
      rcases List.mem_cons.mp hq with rfl | hq
      · exact h1
      · exact h3 q hq
    · rintro ⟨h1, h2⟩
      exact ⟨h1 _ List.mem_cons_self, ih.mpr ⟨fun q hq => h1 q (List.mem_cons_of_mem _ hq), h2⟩⟩
def src1 (n : Nat) : Option (List D) → Src
  | some xs => [(n, xs)]
  | none => []
def srcOf (S : Sto) : D → Src
  | .cell n => src1 n (lstAt S[n]?)
  | _ => []
theorem srcOf_seq {S S' : Sto} {d : D} {xs : List D} (e : seqOf S d = some xs) (h : ∀ p ∈ srcOf S d, S'[p.1]? = some (.lst p.2)) : seqOf S' d = some xs := by
  cases d with
  | cell n =>
    have e' : lstAt S[n]? = some xs := e
    have h1 : srcOf S (.cell n) = [(n, xs)] := by show src1 n (lstAt S[n]?) = _; rw [e']; rfl
    rw [h1] at h
    have := h (n, xs) List.mem_cons_self
    show lstAt S'[n]? = some xs
    rw [this]
    rfl
  | _ => exact e
structure ItOk (c : Ct) (J : It) (items : List D) (src : Src) (Anc : Mu → Hp → Prop) : Prop where
  keep : ∀ {μ H μ' H'}, Anc μ H → Kp c μ H μ' H' → Anc μ' H'
  go : ∀ {μ S H}, Anc μ H → Wd c μ S H → (∀ p ∈ src, S[p.1]? = some (.lst p.2)) → ∀ (i : Nat) (d : D), items[i]? = some d → J.go i H ∧ ∀ x H', J.yld i H x H' → Fw μ H μ H' ∧ Wd c μ S H' ∧ Rp c μ H' x d
  stop : ∀ {μ S H}, Anc μ H → Wd c μ S H → (∀ p ∈ src, S[p.1]? = some (.lst p.2)) → J.stop items.length H
abbrev FI := FX (List D × Src)
def tI (c : Ct) (E : L2.St → XK) (fi : FI) : TI := fun σ H R => ∃ μ S ρ Qi Ed, Wd c μ S H ∧ EnvR c μ H σ ρ ∧ fi ρ S Qi Ed ∧
  (∀ is S' H' μ' J Anc, Qi is S' → Fw μ H μ' H' → Wd c μ' S' H' → ItOk c J is.1 is.2 Anc → Anc μ' H' → (∀ p ∈ is.2, S'[p.1]? = some (.lst p.2)) → R J H') ∧ PX c μ H Ed (E σ)
abbrev PId (X : Cx) (E : L2.St → XK) (tg e : Expr) (fi : FI) : Prop := PI X tg e (tI (ct X) E fi)
theorem PI.imp {X : Cx} {tg e : Expr} {t t' : TI} (h : PI X tg e t) (k : ∀ σ H R, t' σ H R → t σ H R) : PI X tg e t' := ⟨fun pins s σ H R I q => h.run pins s σ H R I (k σ H R q)⟩
theorem srcOf_ok {S : Sto} {d : D} {xs : List D} (e : seqOf S d = some xs) : ∀ p ∈ srcOf S d, S[p.1]? = some (.lst p.2) := by
  intro p hp
  cases d with
  | cell n =>
    have e' : lstAt S[n]? = some xs := e
    have h1 : srcOf S (.cell n) = [(n, xs)] := by show src1 n (lstAt S[n]?) = _; rw [e']; rfl
    rw [h1] at hp
    cases List.mem_singleton.mp hp
    exact lstAt_inv e'
  | _ => cases hp
/-! ### a list or a tuple -/
def iSeq (K : PySem.W.Frag) (tl : TE) : TI := fun σ H R => tl σ H fun x H1 => ∃ a, x = .ref a ∧ (((∃ xs, SqL K H1 a xs) ∧ R (Itl K a) H1) ∨ ((∃ xs, SqT K H1 a xs) ∧ R (Itt K a) H1))
section
variable {X : Cx} {E : L2.St → XK} {tg e : Expr} {fe : FE} {fa : FA}
theorem pi_seq {tl : TE} (hl : PE X e tl) : PI X tg e (iSeq X.K tl) := by
  constructor
  intro pins s σ H R I h
  refine thn (hl.run pins s σ H _ I h) fun v s1 hv => ?_
  obtain ⟨x, H1, I1, r1, a, rfl, q⟩ := hv
  cases r1
  have own : ∀ b, b ∈ [s1.heap.objs.size] → FpOk X pins H1 b := fun b hb => by
    rw [List.mem_singleton.mp hb]
    exact I1.fpOk (Nat.le_refl _) (I1.hok.fresh (Nat.le_refl _))
  rcases q with ⟨⟨xs, hq⟩, q⟩ | ⟨⟨xs, hq⟩, q⟩
  · obtain ⟨its, rv, pl, _⟩ := I1.list hq
    exact wpAny_pyIter_list pl.isList
      ⟨_, _, _, _, H1, rfl, I1.kept (t' := s1.toks) (fun b o eb => Heap.get?_push_of_some _ eb), turn_list a _, ⟨_, Heap.get?_push_size _ rfl, rfl, rfl⟩, own, q⟩
  · obtain ⟨its, rv, pl, _⟩ := I1.tuple hq
    exact wpAny_pyIter_tuple (Rb.isTup_isTuple pl)
      ⟨_, _, _, _, H1, rfl, I1.kept (t' := s1.toks) (fun b o eb => Heap.get?_push_of_some _ eb), turn_tuple a _, ⟨_, Heap.get?_push_size _ rfl, rfl, rfl⟩, own, q⟩
def dItS (fe : FE) : FI := fun ρ S Q Ed => fe ρ S (fun d S1 => onSome (seqOf S1 d) fun xs => Q (xs, srcOf S1 d) S1) Ed
theorem itl_ok {c : Ct} {S0 : Sto} {a : Addr} {d : D} {xs : List D} (hn : ∀ ys, d ≠ .tup ys) (e : seqOf S0 d = some xs) : ItOk c (Itl c.K a) xs (srcOf S0 d) (fun μ H => Rp c μ H (.ref a) d) where
  keep := fun r k => r.kp k
  go := fun {μ S H} r w hs i x hx => by
    rcases r.seq2 w (srcOf_seq e hs) with ⟨_, _, rfl, _⟩ | ⟨b, vs, eb, hq, rs⟩
    · exact absurd rfl (hn _)
    cases eb
    obtain ⟨v, ev, rv⟩ := rs.at hx
    refine ⟨⟨vs, v, hq, ev⟩, fun y H' hy => ?_⟩
    obtain ⟨rfl, hy⟩ := hy
    have := hy vs hq
    rw [ev] at this
    cases this
    exact ⟨Fw.refl, w, rv⟩
  stop := fun {μ S H} r w hs => by
    rcases r.seq2 w (srcOf_seq e hs) with ⟨_, _, rfl, _⟩ | ⟨b, vs, eb, hq, rs⟩
    · exact absurd rfl (hn _)
    cases eb
    exact ⟨vs, hq, by rw [rs.length]; exact Nat.le_refl _⟩
theorem itt_ok {c : Ct} {a : Addr} {xs : List D} : ItOk c (Itt c.K a) xs [] (fun μ H => Rp c μ H (.ref a) (.tup xs)) where
  keep := fun r k => r.kp k
  go := fun {μ S H} r w hs i x hx => by
    obtain ⟨b, vs, eb, ha, rs⟩ := r.tup_inv
    cases eb
    obtain ⟨v, ev, rv⟩ := rs.at hx
    refine ⟨⟨vs, v, SqT.of ha, ev⟩, fun y H' hy => ?_⟩
    obtain ⟨rfl, hy⟩ := hy
    have := hy vs (SqT.of ha)
    rw [ev] at this
    cases this
    exact ⟨Fw.refl, w, rv⟩
  stop := fun {μ S H} r w hs => by
    obtain ⟨b, vs, eb, ha, rs⟩ := r.tup_inv
    cases eb
    exact ⟨vs, SqT.of ha, by rw [rs.length]; exact Nat.le_refl _⟩
theorem d_iseq (he : PEd X E e fe) : PId X E tg e (dItS fe) := by
  refine PI.imp (pi_seq he) fun σ H R ⟨μ, S, ρ, Qi, Ed, w, en, hf, q, px⟩ => ?_
  refine tR_of w en hf px fun d S1 v H1 μ1 h1 f1 w1 en1 px1 r1 => ?_
  obtain ⟨xs, e1, hq⟩ := onSome_of h1
  rcases r1.seq2 w1 e1 with ⟨a, vs, rfl, rfl, ha, rs⟩ | ⟨a, vs, rfl, hs, rs⟩
  · exact ⟨a, rfl, .inr ⟨⟨vs, SqT.of ha⟩, q _ S1 H1 μ1 _ _ hq f1 w1 itt_ok r1 (fun _ z => nomatch z)⟩⟩
  · by_cases ht : ∃ ys, d = .tup ys
    · obtain ⟨ys, rfl⟩ := ht
      cases e1
      obtain ⟨b, ws, eb, hb, rs'⟩ := r1.tup_inv
      cases eb
      exact ⟨a, rfl, .inr ⟨⟨ws, SqT.of hb⟩, q _ S1 H1 μ1 _ _ hq f1 w1 itt_ok r1 (fun _ z => nomatch z)⟩⟩
    · exact ⟨a, rfl, .inl ⟨⟨vs, hs⟩, q _ S1 H1 μ1 _ _ hq f1 w1 (itl_ok (fun ys z => ht ⟨ys, z⟩) e1) r1 (srcOf_ok e1)⟩⟩
/-! ### range -/
def rangeD (lo : Int) (n : Nat) : List D := (List.range n).map fun i : Nat => D.int (lo + (i : Int))
theorem rangeD_get {lo : Int} {n i : Nat} {d : D} (h : (rangeD lo n)[i]? = some d) : i < n ∧ d = .int (lo + (i : Int)) := by
  unfold rangeD at h
  rw [List.getElem?_map] at h
  obtain ⟨j, e1, rfl⟩ := Option.map_eq_some_iff.mp h
  obtain ⟨h1, h2⟩ := List.getElem?_eq_some_iff.mp e1
  rw [List.getElem_range] at h2
  rw [List.length_range] at h1
  subst h2
  exact ⟨h1, rfl⟩
theorem itr_ok {c : Ct} {lo : Int} {n : Nat} : ItOk c (Itr lo n) (rangeD lo n) [] (fun _ _ => True) where
  keep := fun _ _ => trivial
  go := fun {μ S H} _ w _ i d hd => by
    obtain ⟨h1, rfl⟩ := rangeD_get hd
    refine ⟨h1, fun x H' hy => ?_⟩
    obtain ⟨rfl, rfl⟩ := hy
    exact ⟨Fw.refl, w, .int _⟩
  stop := fun {μ S H} _ _ _ => by
    show n ≤ (rangeD lo n).length
    unfold rangeD
    rw [List.length_map, List.length_range]
    exact Nat.le_refl _
def dRng1 (fa : FA) : FI := fun ρ S Q Ed => fa ρ S (fun ds S1 => match ds with
  | [.int j] => (-(2 ^ 62) ≤ j ∧ j < 2 ^ 62) ∧ Q (rangeD 0 j.toNat, []) S1
  | _ => False) Ed
theorem d_rng1 {a : Expr} {p pos : Pos} (hg : Gl X "range") (hm : X.mg "range" = none) (ha : PAd X E [a] fa) (hs : starEach [a] X.env = [(false, eval a X.env)] := by rfl) : PId X E tg (.Call (.Name "range" p) [a] [] pos) (dRng1 fa) := by
  refine PI.imp (pi_range1 hg hm ha hs) fun σ H R ⟨μ, S, ρ, Qi, Ed, w, en, hf, q, px⟩ => ?_
  refine tR_of w en hf px fun ds S1 vs H1 μ1 h1 f1 w1 en1 px1 r1 => ?_
  split at h1
  · obtain ⟨v, rfl, rv⟩ := r1.one
    cases rv.int_inv
    exact ⟨_, rfl, h1.1.1, h1.1.2, q _ S1 H1 μ1 _ _ h1.2 f1 w1 itr_ok trivial (fun _ z => nomatch z)⟩
  · exact h1.elim
/-! ### enumerate -/
/-! ### zip -/
end
/-! ## for -/
def dLoop (g : FG) (fb : FS) (src : Src) : List D → FS
  | [], ρ, S, De, _ => De.nx ρ S
  | x :: xs, ρ, S, De, Ed => g x ρ S (fun ρ1 S1 => fb ρ1 S1 { nx := fun ρ2 S2 => srcOk src S2 (dLoop g fb src xs ρ2 S2 De Ed), ct := fun ρ2 S2 => srcOk src S2 (dLoop g fb src xs ρ2 S2 De Ed), bk := De.nx, rt := De.rt } Ed) Ed
def dFor (fi : FI) (g : FG) (fb : FS) : FS := fun ρ S De Ed => fi ρ S (fun is S1 => dLoop g fb is.2 is.1 ρ S1 De Ed) Ed
section
variable {X : Cx} {E : XK} {tg iter : Expr} {body : List Stmt} {fi : FI} {g : FG} {fb : FS} {pos : Pos}
theorem drop_cons {α : Type} {xs : List α} {i : Nat} {x : α} (h : xs[i]? = some x) : xs.drop i = x :: xs.drop (i + 1) := by
  obtain ⟨h1, h2⟩ := List.getElem?_eq_some_iff.mp h
  rw [List.drop_eq_getElem_cons h1, h2]
theorem d_for (hp : PassesOwn (model X.prog X.w) X.A X.env X.xe) (hc : X.calm = true) (hi : PId X (cE E) tg iter fi) (hg : PGd X E tg g) (hb : PBd X E body fb) (hs : ∀ x, foldedSetIterable iter X.env x = pure x := by intro _; rfl) : PSd X E (.For tg iter body [] pos) (dFor fi g fb) := by
  refine PS.imp (ps_for hp hc hi hg hb hs) fun D σ H ⟨μ, S, ρ, De, Ed, w, en, hf, k, px⟩ => ?_
  refine ⟨μ, S, ρ, _, Ed, w, en, hf, fun is S1 H1 μ1 J Anc h1 f1 w1 ok anc hsrc => ?_, px⟩
  obtain ⟨items, src⟩ := is
  refine ⟨fun i m σ' H' => m = items.length - i ∧ i ≤ items.length ∧ ∃ μ' S' ρ', Fw μ1 H1 μ' H' ∧ Wd (ct X) μ' S' H' ∧ EnvR (ct X) μ' H' σ' ρ' ∧ Anc μ' H' ∧ (∀ p ∈ src, S'[p.1]? = some (.lst p.2)) ∧ dLoop g fb src (items.drop i) ρ' S' De Ed,
    ⟨_, rfl, Nat.zero_le _, μ1, S1, ρ, Fw.refl, w1, en.fw w f1, anc, hsrc, h1⟩, ?_⟩
  rintro i m σ' H' ⟨rfl, hi, μ', S', ρ', f', w', en', anc', hs', h'⟩
  by_cases hlt : i < items.length
  · have hx := List.getElem?_eq_getElem hlt
    obtain ⟨go, yl⟩ := ok.go anc' w' hs' i _ hx
    rw [drop_cons hx] at h'
    refine .inr ⟨go, fun σ2 H2 => i + 1 ≤ items.length ∧ ∃ μ2 S2 ρ2, Fw μ1 H1 μ2 H2 ∧ Wd (ct X) μ2 S2 H2 ∧ EnvR (ct X) μ2 H2 σ2 ρ2 ∧ Anc μ2 H2 ∧ (∀ p ∈ src, S2[p.1]? = some (.lst p.2)) ∧ dLoop g fb src (items.drop (i + 1)) ρ2 S2 De Ed,
      fun σ2 H2 hN => ⟨_, by omega, rfl, hN.1, hN.2⟩, fun x H2 hy => ?_⟩
    obtain ⟨fy, wy, ry⟩ := yl x H2 hy
    refine ⟨μ', S', ρ', _, _, Ed, wy, en'.fw w' fy, ry, h', fun ρ3 S3 σ3 H3 μ3 h3 f3 w3 en3 => ?_, (px.fw f1).fw (f'.trans fy)⟩
    have ff := f1.trans (f'.trans (fy.trans f3))
    refine ⟨μ3, S3, ρ3, _, Ed, w3, en3, h3, ⟨fun ρ4 S4 σ4 H4 μ4 h4 f4 w4 en4 => ?_, k.rt.fw ff, fun ρ4 S4 σ4 H4 μ4 h4 f4 w4 en4 => k.nx ρ4 S4 σ4 H4 μ4 h4 (ff.trans f4) w4 en4, fun ρ4 S4 σ4 H4 μ4 h4 f4 w4 en4 => ?_⟩, px.fw ff⟩
    · obtain ⟨q1, q2⟩ := srcOk_iff.mp h4
      exact ⟨hlt, μ4, S4, ρ4, f'.trans (fy.trans (f3.trans f4)), w4, en4, ok.keep (ok.keep (ok.keep anc' (w'.kp fy)) (wy.kp f3)) (w3.kp f4), q1, q2⟩
    · obtain ⟨q1, q2⟩ := srcOk_iff.mp h4
      exact ⟨hlt, μ4, S4, ρ4, f'.trans (fy.trans (f3.trans f4)), w4, en4, ok.keep (ok.keep (ok.keep anc' (w'.kp fy)) (wy.kp f3)) (w3.kp f4), q1, q2⟩
  · have e : i = items.length := by omega
    subst e
    rw [List.drop_length] at h'
    exact .inl ⟨ok.stop anc' w' hs', k.nx ρ' S' σ' H' μ' h' (f1.trans f') w' en'⟩
end
end Pu
namespace Pu
open PySem PySem.Spec PyProof.Rows L2
/-! ## comprehensions -/
def noE : ED := fun _ _ => False
def dYes : FT := fun _ S Q _ => Q true S
def dCompL (st : D → Rho → Option Rho) (t : FT) (f : FE) (src : Src) : List D → List D → Rho → Sto → (List D → Sto → Prop) → Prop
  | [], acc, _, S, k => k acc S
  | x :: xs, acc, ρ, S, k => onSome (st x ρ) fun ρ1 => t ρ1 S (fun b S1 => if b = true then f ρ1 S1 (fun y S2 => srcOk src S2 (dCompL st t f src xs (acc ++ [y]) ρ S2 k)) noE else srcOk src S1 (dCompL st t f src xs acc ρ S1 k)) noE
def dLc (st : D → Rho → Option Rho) (t : FT) (f : FE) (fi : FI) : FE := fun ρ S Q Ed => fi ρ S (fun is S1 => is.1.length ≤ sizeLine ∧ dCompL st t f is.2 is.1 [] ρ S1 fun acc S2 => Q (.lst false acc) S2) Ed
/-- a list that will be changed -/
def dLcC (st : D → Rho → Option Rho) (t : FT) (f : FE) (fi : FI) : FE := fun ρ S Q Ed => fi ρ S (fun is S1 => is.1.length ≤ sizeLine ∧ dCompL st t f is.2 is.1 [] ρ S1 fun acc S2 => Q (.cell S2.length) (S2 ++ [.lst acc])) Ed
def st1 (j : Nat) : D → Rho → Option Rho := fun x ρ => some (ρ.set j (some x))
def st2 (i j : Nat) : D → Rho → Option Rho := fun x ρ => match x with
  | .tup [a, b] => some ((ρ.set i (some a)).set j (some b))
  | _ => none
/-- what the target does -/
def LcT (c : Ct) (g : TG) (st : D → Rho → Option Rho) (vs : List Nat) : Prop :=
  ∀ {μ : Mu} {S : Sto} {H : Hp} {σ : L2.St} {ρ ρ1 : Rho} {x : V} {d : D} {k : L2.St → Hp → Prop}, Wd c μ S H → EnvR c μ H σ ρ → Rp c μ H x d → st d ρ = some ρ1 → (∀ σ2, EnvR c μ H σ2 ρ1 → wipe σ2 vs = wipe σ vs → k σ2 H) → g x (wipe σ vs) H k
theorem lct1 {c : Ct} {j : Nat} : LcT c (gName j) (st1 j) [j] := by
  intro μ S H σ ρ ρ1 x d k w en r e h
  cases e
  show k ((σ.set j none).set j (some x)) H
  rw [List.set_set]
  exact h _ (en.set r) (by show ((σ.set j (some x)).set j none) = σ.set j none; rw [List.set_set])
section
variable {c : Ct} {m av : List Addr} {D1 : Addr} {H : Hp} {S : Sto} {vs : List V}
theorem kpD {ws : List V} (hD : H D1 = some (.lst vs)) : Kp c ⟨m, D1 :: av⟩ H ⟨m, D1 :: av⟩ (upd H D1 (.lst ws)) where
  t := fun a xs e => by rw [upd_ne (fun z => by rw [z, hD] at e; cases e)]; exact e
  l := fun a xs e n1 n2 => by
    have ne : a ≠ D1 := fun z => n2 (by rw [z]; exact List.mem_cons_self)
    rcases e with e | ⟨o, e⟩
    · exact ⟨.inl (by rw [upd_ne ne]; exact e), n1, n2⟩
    · exact ⟨.inr ⟨o, by rw [upd_ne ne]; exact e⟩, n1, n2⟩
  m := fun a xs e n1 n2 => ⟨by rw [upd_ne (fun z => n2 (by rw [z]; exact List.mem_cons_self))]; exact e, n1, n2⟩
  d := fun a ps e n n2 => ⟨by rw [upd_ne (fun z => by rw [z, hD] at e; cases e)]; exact e, n, n2⟩
  i := fun a C dx fs e n n2 => ⟨by rw [upd_ne (fun z => by rw [z, hD] at e; cases e)]; exact e, n, n2⟩
  cl := fun _ _ h => h
  x := fun a fv e => by rw [upd_ne (fun z => by rw [z, hD] at e; cases e)]; exact e
theorem wdD {ws : List V} (w : Wd c ⟨m, D1 :: av⟩ S H) (hD : H D1 = some (.lst vs)) : Wd c ⟨m, D1 :: av⟩ S (upd H D1 (.lst ws)) :=
  ⟨w.nd, w.len, w.ap, fun a h => upd_some (w.avs a h), fun i a x h1 h2 => ClOk.kp (kpD hD) (fun o e => by
    rw [upd_ne (fun z => w.ap a (List.mem_of_getElem? h1) (by rw [z]; exact List.mem_cons_self))]
    exact e) (w.ok i a x h1 h2)⟩
theorem kpStart {μ : Mu} (hD : H D1 = none) : Kp c μ H ⟨μ.m, D1 :: μ.av⟩ (upd H D1 (.lst [])) := by
  have av2 : ∀ {a : Addr} {o : HO}, H a = some o → a ∉ μ.av → a ∉ D1 :: μ.av := fun e n z => by
    rcases List.mem_cons.mp z with z | z
    · exact ne_of_none e hD z
    · exact n z
  refine ⟨fun a xs e => ?_, fun a xs e n1 n2 => ?_, fun a xs e n1 n2 => ⟨?_, n1, av2 e n2⟩, fun a ps e n n2 => ⟨?_, n, av2 e n2⟩, fun a C dx fs e n n2 => ⟨?_, n, av2 e n2⟩, (fun _ _ h => h), fun a fv e => ?_⟩
  · rw [upd_ne (ne_of_none e hD)]; exact e
  · rcases e with e | ⟨o, e⟩
    · exact ⟨.inl (by rw [upd_ne (ne_of_none e hD)]; exact e), n1, av2 e n2⟩
    · exact ⟨.inr ⟨o, by rw [upd_ne (ne_of_none e hD)]; exact e⟩, n1, av2 e n2⟩
  · rw [upd_ne (ne_of_none e hD)]; exact e
  · rw [upd_ne (ne_of_none e hD)]; exact e
  · rw [upd_ne (ne_of_none e hD)]; exact e
  · rw [upd_ne (ne_of_none e hD)]; exact e
theorem wdStart {μ : Mu} (w : Wd c μ S H) (hD : H D1 = none) : Wd c ⟨μ.m, D1 :: μ.av⟩ S (upd H D1 (.lst [])) :=
  ⟨w.nd, w.len, fun a h z => by
    rcases List.mem_cons.mp z with z | z
    · exact w.fresh hD (z ▸ h)
    · exact w.ap a h z, fun a h => by
    rcases List.mem_cons.mp h with h | h
    · rw [h, upd_same]; exact fun z => nomatch z
    · exact upd_some (w.avs a h), fun i a x h1 h2 => ClOk.kp (kpStart hD) (fun o e => by rw [upd_ne (ne_of_none e hD)]; exact e) (w.ok i a x h1 h2)⟩
theorem kpEnd : Kp c ⟨m, D1 :: av⟩ H ⟨m, av⟩ H :=
  ⟨fun _ _ e => e, fun _ _ e n1 n2 => ⟨e, n1, fun z => n2 (List.mem_cons_of_mem _ z)⟩, fun _ _ e n1 n2 => ⟨e, n1, fun z => n2 (List.mem_cons_of_mem _ z)⟩, fun _ _ e n1 n2 => ⟨e, n1, fun z => n2 (List.mem_cons_of_mem _ z)⟩, fun _ _ _ _ e n1 n2 => ⟨e, n1, fun z => n2 (List.mem_cons_of_mem _ z)⟩, (fun _ _ h => h), fun _ _ e => e⟩
theorem kpEndC (hD : H D1 = some (.lst vs)) : Kp c ⟨m, D1 :: av⟩ H ⟨m ++ [D1], av⟩ H := by
  have nm : ∀ {a : Addr}, a ∉ m → a ≠ D1 → a ∉ m ++ [D1] := fun n1 n2 z => by
    rcases List.mem_append.mp z with z | z
    · exact n1 z
    · exact n2 (List.mem_singleton.mp z)
  have ne : ∀ {a : Addr}, a ∉ D1 :: av → a ≠ D1 := fun n z => n (by rw [z]; exact List.mem_cons_self)
  refine ⟨fun _ _ e => e, fun _ _ e n1 n2 => ⟨e, nm n1 (ne n2), fun z => n2 (List.mem_cons_of_mem _ z)⟩, fun _ _ e n1 n2 => ⟨e, nm n1 (ne n2), fun z => n2 (List.mem_cons_of_mem _ z)⟩, fun a _ e n1 n2 => ⟨e, nm n1 (ne n2), fun z => n2 (List.mem_cons_of_mem _ z)⟩,
    fun a _ _ _ e n1 n2 => ⟨e, nm n1 (ne n2), fun z => n2 (List.mem_cons_of_mem _ z)⟩, fun n a h => ?_, fun _ _ e => e⟩
  show (m ++ [D1])[n]? = some a
  rw [List.getElem?_append_left (List.getElem?_eq_some_iff.mp (show m[n]? = some a from h)).1]
  exact h
end
/-- the state of a comprehension: D1 the list that is made -/
def LcI (c : Ct) (μ1 : Mu) (H1 : Hp) (D1 : Addr) (σ : L2.St) (ρ : Rho) (Anc : Mu → Hp → Prop) (src : Src) (i : Nat) (go : List D → Sto → Prop) (H : Hp) : Prop :=
  ∃ m' S' acc vs, acc.length ≤ i ∧ Wd c ⟨m', D1 :: μ1.av⟩ S' H ∧ (∃ t, m' = μ1.m ++ t) ∧ (∀ a o, H1 a = some o → a ∉ μ1.m → H a = some o ∧ a ∉ m') ∧ H D1 = some (.lst vs) ∧ RpAll c ⟨m', D1 :: μ1.av⟩ H vs acc ∧
    EnvR c ⟨m', D1 :: μ1.av⟩ H σ ρ ∧ Anc ⟨m', D1 :: μ1.av⟩ H ∧ (∀ p ∈ src, S'[p.1]? = some (.lst p.2)) ∧ go acc S'
theorem pxNo {c : Ct} {μ : Mu} {H : Hp} {E : XK} : PX c μ H noE E := fun _ _ _ _ _ _ h => h.elim
theorem lc_W {c : Ct} {g : TG} {st : D → Rho → Option Rho} {t : FT} {f : FE} {vs : List Nat} {μ1 : Mu} {S1 : Sto} {H1 : Hp} {σ : L2.St} {ρ : Rho} {J : It} {items : List D} {src : Src} {Anc : Mu → Hp → Prop} {k : List D → Sto → Prop} {D1 : Addr} {Qd : Hp → Prop} {E : L2.St → XK}
    (hT : LcT c g st vs) (w1 : Wd c μ1 S1 H1) (en1 : EnvR c μ1 H1 σ ρ) (ok : ItOk c J items src Anc) (anc : Anc μ1 H1) (hsrc : ∀ p ∈ src, S1[p.1]? = some (.lst p.2)) (hz : items.length ≤ sizeLine)
    (h : dCompL st t f src items [] ρ S1 k) (nD : H1 D1 = none) (fin : ∀ H, LcI c μ1 H1 D1 σ ρ Anc src items.length k H → Qd H) :
    ∃ W : Nat → Nat → Hp → Prop, (∃ m, W 0 m (upd H1 D1 (.lst []))) ∧ ∀ i m H, W i m H →
      (J.stop i H ∧ Qd H) ∨ (J.go i H ∧ ∃ Nx : Hp → Prop, (∀ H', Nx H' → ∃ m', m' < m ∧ W (i + 1) m' H') ∧ ∀ x H', J.yld i H x H' → g x (wipe σ vs) H' fun σ2 H2 => wipe σ2 vs = wipe σ vs ∧ tT c E t σ2 H2 fun b H3 =>
        if b = true then tD c E f σ2 H3 fun y H4 => ∃ acc, H4 D1 = some (.lst acc) ∧ acc.length < sizeLine ∧ Nx (upd H4 D1 (.lst (acc ++ [y]))) else Nx H3) := by
  refine ⟨fun i m H => m = items.length - i ∧ i ≤ items.length ∧ LcI c μ1 H1 D1 σ ρ Anc src i (fun acc S => dCompL st t f src (items.drop i) acc ρ S k) H, ⟨_, rfl, Nat.zero_le _, ?_⟩, ?_⟩
  · refine ⟨μ1.m, S1, [], [], Nat.le_refl _, wdStart w1 nD, ⟨[], by simp⟩, fun a o e n => ⟨?_, n⟩, upd_same, .nil, en1.kp (kpStart nD), ok.keep anc (kpStart nD), hsrc, h⟩
    rw [upd_ne (ne_of_none e nD)]
    exact e
  · rintro i m H ⟨rfl, hi, m', S', acc, ws, hl, w, ⟨tt, em⟩, keep, hD, ra, en, anc', hs', h'⟩
    by_cases hlt : i < items.length
    · have hx := List.getElem?_eq_getElem hlt
      obtain ⟨go, yl⟩ := ok.go anc' w hs' i _ hx
      rw [drop_cons hx] at h'
      refine .inr ⟨go, fun H' => i + 1 ≤ items.length ∧ LcI c μ1 H1 D1 σ ρ Anc src (i + 1) (fun acc S => dCompL st t f src (items.drop (i + 1)) acc ρ S k) H', fun H' hN => ⟨_, by omega, rfl, hN.1, hN.2⟩, fun x H2 hy => ?_⟩
      obtain ⟨fy, wy, ry⟩ := yl x H2 hy
      obtain ⟨ρ1, e1, h1⟩ := onSome_of h'
      refine hT wy (en.fw w fy) ry e1 fun σ2 en2 hw => ⟨hw, ?_⟩
      refine tR_of wy en2 h1 pxNo fun b S3 b' H3 μ3 h3 f3 w3 en3 px3 r3 => ?_
      cases (r3 : b' = b)
      have nDm : ∀ {μ : Mu} {S : Sto} {HH : Hp}, Wd c μ S HH → μ.av = D1 :: μ1.av → D1 ∉ μ.m := fun wx ex z => wx.ap D1 z (by rw [ex]; exact List.mem_cons_self)
      have all3 : ∀ {μ4 : Mu} {H4 : Hp} {S4 : Sto}, Wd c μ4 S4 H4 → Fw ⟨m', D1 :: μ1.av⟩ H μ4 H4 → μ4 = ⟨μ4.m, D1 :: μ1.av⟩ ∧ (∃ t, μ4.m = μ1.m ++ t) ∧ (∀ a o, H1 a = some o → a ∉ μ1.m → H4 a = some o ∧ a ∉ μ4.m) ∧ H4 D1 = some (.lst ws) ∧ RpAll c μ4 H4 ws acc ∧ EnvR c μ4 H4 σ ρ ∧ Anc μ4 H4 := fun {μ4 H4 S4} w4 ff => by
        have eav : μ4.av = D1 :: μ1.av := ff.av
        refine ⟨by rw [← eav], ?_, fun a o e n => ?_, (ff.keep D1 _ hD (nDm w rfl)).1, ra.fw w ff, en.fw w ff, ok.keep anc' (w.kp ff)⟩
        · obtain ⟨t2, e2⟩ := ff.pre
          exact ⟨tt ++ t2, by rw [e2]; show m' ++ t2 = _; rw [em, List.append_assoc]⟩
        · obtain ⟨q1, q2⟩ := keep a o e n
          exact ff.keep a o q1 q2
      split
      · rename_i hb
        rw [if_pos hb] at h3
        refine tR_of w3 en3 h3 pxNo fun y S4 vy H4 μ4 h4 f4 w4 en4 px4 r4 => ?_
        obtain ⟨e4, t4, k4, D4, ra4, en4', anc4⟩ := all3 w4 (fy.trans (f3.trans f4))
        rw [e4] at w4 ra4 en4' anc4 r4
        obtain ⟨q1, q2⟩ := srcOk_iff.mp h4
        refine ⟨ws, D4, by rw [ra4.length]; omega, hlt, ?_⟩
        refine ⟨μ4.m, S4, acc ++ [y], ws ++ [vy], by rw [List.length_append]; show acc.length + 1 ≤ i + 1; omega, wdD w4 D4, t4, fun a o e n => ?_, upd_same, (ra4.append (.cons r4 .nil)).kp (kpD D4), en4'.kp (kpD D4), ok.keep anc4 (kpD D4), q1, q2⟩
        obtain ⟨z1, z2⟩ := k4 a o e n
        refine ⟨?_, z2⟩
        rw [upd_ne (ne_of_none e nD)]
        exact z1
      · rename_i hb
        rw [if_neg hb] at h3
        obtain ⟨e4, t4, k4, D4, ra4, en4', anc4⟩ := all3 w3 (fy.trans f3)
        rw [e4] at w3 ra4 en4' anc4
        obtain ⟨q1, q2⟩ := srcOk_iff.mp h3
        exact ⟨hlt, μ3.m, S3, acc, ws, by omega, w3, t4, k4, D4, ra4, en4', anc4, q1, q2⟩
    · have e : i = items.length := by omega
      subst e
      rw [List.drop_length] at h'
      exact .inl ⟨ok.stop anc' w hs', fin H ⟨m', S', acc, ws, hl, w, ⟨tt, em⟩, keep, hD, ra, en, anc', hs', h'⟩⟩
section
variable {X : Cx} {E : L2.St → XK} {elt tg iter : Expr} {ifs : List Expr} {scope : Scope} {own : List (Str × Nat)} {pos : Pos} {fi : FI} {g : TG} {st : D → Rho → Option Rho} {t : FT} {f : FE}
theorem d_tnil : PTs X [] (tT (ct X) E dYes) := ⟨fun pins s σ H Q I ⟨μ, S, ρ, Qd, Ed, w, en, hf, q, px⟩ => pts_nil.run pins s σ H Q I (q true S true H μ hf Fw.refl w rfl)⟩
theorem lc_end {c : Ct} {μ μ1 : Mu} {S S1 : Sto} {H H1 : Hp} {σ : L2.St} {ρ : Rho} {Anc : Mu → Hp → Prop} {src : Src} {n : Nat} {Qd : QD} {Q : VK} {D1 : Addr} (q : ∀ d S' v H' μ', Qd d S' → Fw μ H μ' H' → Wd c μ' S' H' → Rp c μ' H' v d → Q v H') (f1 : Fw μ H μ1 H1) (w1 : Wd c μ1 S1 H1) (nD : H1 D1 = none)
    {H' : Hp} (h : LcI c μ1 H1 D1 σ ρ Anc src n (fun acc S2 => Qd (.lst false acc) S2) H') : Q (.ref D1) H' := by
  obtain ⟨m', S', acc, ws, hl, w, ⟨tt, em⟩, keep, hD, ra, en, anc', hs', h'⟩ := h
  have f2 : Fw μ1 H1 ⟨m', μ1.av⟩ H' := ⟨⟨tt, em⟩, rfl, keep⟩
  have nm : D1 ∉ m' := fun z => w.ap D1 z List.mem_cons_self
  refine q _ S' _ H' ⟨m', μ1.av⟩ h' (f1.trans f2) ⟨w.nd, w.len, fun a h z => w.ap a h (List.mem_cons_of_mem _ z), fun a h => w.avs a (List.mem_cons_of_mem _ h), fun i a x h1 h2 => ClOk.kp kpEnd (fun _ e => e) (w.ok i a x h1 h2)⟩ ?_
  exact .lst hD nm (fun z => w1.avs D1 z nD) (fun z => nomatch z) (ra.kp kpEnd)
theorem lc_endC {c : Ct} {μ μ1 : Mu} {S S1 : Sto} {H H1 : Hp} {σ : L2.St} {ρ : Rho} {Anc : Mu → Hp → Prop} {src : Src} {n : Nat} {Qd : QD} {Q : VK} {D1 : Addr} (q : ∀ d S' v H' μ', Qd d S' → Fw μ H μ' H' → Wd c μ' S' H' → Rp c μ' H' v d → Q v H') (f1 : Fw μ H μ1 H1) (w1 : Wd c μ1 S1 H1) (nD : H1 D1 = none)
    {H' : Hp} (h : LcI c μ1 H1 D1 σ ρ Anc src n (fun acc S2 => Qd (.cell S2.length) (S2 ++ [.lst acc])) H') : Q (.ref D1) H' := by
  obtain ⟨m', S', acc, ws, hl, w, ⟨tt, em⟩, keep, hD, ra, en, anc', hs', h'⟩ := h
  have nm : D1 ∉ m' := fun z => w.ap D1 z List.mem_cons_self
  have f2 : Fw μ1 H1 ⟨m' ++ [D1], μ1.av⟩ H' := ⟨⟨tt ++ [D1], by show m' ++ [D1] = _; rw [em, List.append_assoc]⟩, rfl, fun a o e n => ⟨(keep a o e n).1, fun z => by
    rcases List.mem_append.mp z with z | z
    · exact (keep a o e n).2 z
    · exact ne_of_none e nD (List.mem_singleton.mp z)⟩⟩
  have hlen : m'.length = S'.length := w.len
  refine q _ _ _ H' ⟨m' ++ [D1], μ1.av⟩ h' (f1.trans f2) ⟨?_, ?_, fun a h z => ?_, fun a h => w.avs a (List.mem_cons_of_mem _ h), fun i a x h1 h2 => ?_⟩ (.cell ?_)
  · show (m' ++ [D1]).Nodup
    rw [List.nodup_append]
    exact ⟨w.nd, by simp, fun a ha b hb e => nm (by rw [List.mem_singleton.mp hb] at e; exact e ▸ ha)⟩
  · show (m' ++ [D1]).length = (S' ++ [Cl.lst acc]).length
    rw [List.length_append, List.length_append, hlen]
    rfl
  · rcases List.mem_append.mp h with h | h
    · exact w.ap a h (List.mem_cons_of_mem _ z)
    · rw [List.mem_singleton.mp h] at z
      exact w1.avs D1 z nD
  · by_cases hi : i < m'.length
    · have h1' : m'[i]? = some a := by rw [← List.getElem?_append_left hi]; exact h1
      rw [List.getElem?_append_left (by omega)] at h2
      exact ClOk.kp (kpEndC hD) (fun _ e => e) (w.ok i a x h1' h2)
    · have h1' : (m' ++ [D1])[i]? = some a := h1
      have hi2 : i = m'.length := by
        have := (List.getElem?_eq_some_iff.mp h1').1
        simp at this
        omega
      subst hi2
      rw [List.getElem?_append_right (Nat.le_refl _), Nat.sub_self] at h1'
      cases h1'
      rw [List.getElem?_append_right (by omega), hlen, Nat.sub_self] at h2
      cases h2
      exact ⟨ws, hD, ra.kp (kpEndC hD)⟩
  · show (m' ++ [D1])[S'.length]? = some D1
    rw [← hlen, List.getElem?_append_right (Nat.le_refl _), Nat.sub_self]
    rfl
theorem d_lc (hT : LcT (ct X) g st (own.map (·.2))) (hc : X.calm = true) (hN : X.N.Nodup) (hi : PId X E tg iter fi) (ok : BlkOk X.N X.env.scope scope own)
    (hg : ∀ (s : Shared) (H : Hp) (C : Addr) (cl : List (Str × Addr)) (fp : List Addr), PG (X.blk s H scope (compEnvC scope cl C X.env) fp) tg g)
    (ht : ∀ (s : Shared) (H : Hp) (C : Addr) (cl : List (Str × Addr)) (fp : List Addr), PTs (X.blk s H scope (compEnvC scope cl C X.env) fp) ifs (tT (ct X) (cE E0) t))
    (he : ∀ (s : Shared) (H : Hp) (C : Addr) (cl : List (Str × Addr)) (fp : List Addr), PE (X.blk s H scope (compEnvC scope cl C X.env) fp) elt (tD (ct X) (cE E0) f)) (hs : ∀ x, foldedSetIterable iter X.env x = pure x := by intro _; rfl) :
    PEd X E (.ListComp elt [⟨tg, iter, ifs, 0⟩] scope pos) (dLc st t f fi) := by
  refine PE.imp (pe_lc hc hN hi ok hg ht he hs) fun σ H Q ⟨μ, S, ρ, Qd, Ed, w, en, hf, q, px⟩ => ?_
  refine ⟨μ, S, ρ, _, Ed, w, en, hf, fun is S1 H1 μ1 J Anc h1 f1 w1 ok' anc hsrc D1 nD => ?_, px⟩
  exact lc_W hT w1 (en.fw w f1) ok' anc hsrc h1.1 h1.2 nD fun H' h => lc_end (S := S) q f1 w1 nD h
theorem d_lcC (hT : LcT (ct X) g st (own.map (·.2))) (hc : X.calm = true) (hN : X.N.Nodup) (hi : PId X E tg iter fi) (ok : BlkOk X.N X.env.scope scope own)
    (hg : ∀ (s : Shared) (H : Hp) (C : Addr) (cl : List (Str × Addr)) (fp : List Addr), PG (X.blk s H scope (compEnvC scope cl C X.env) fp) tg g)
    (ht : ∀ (s : Shared) (H : Hp) (C : Addr) (cl : List (Str × Addr)) (fp : List Addr), PTs (X.blk s H scope (compEnvC scope cl C X.env) fp) ifs (tT (ct X) (cE E0) t))
    (he : ∀ (s : Shared) (H : Hp) (C : Addr) (cl : List (Str × Addr)) (fp : List Addr), PE (X.blk s H scope (compEnvC scope cl C X.env) fp) elt (tD (ct X) (cE E0) f)) (hs : ∀ x, foldedSetIterable iter X.env x = pure x := by intro _; rfl) :
    PEd X E (.ListComp elt [⟨tg, iter, ifs, 0⟩] scope pos) (dLcC st t f fi) := by
  refine PE.imp (pe_lc hc hN hi ok hg ht he hs) fun σ H Q ⟨μ, S, ρ, Qd, Ed, w, en, hf, q, px⟩ => ?_
  refine ⟨μ, S, ρ, _, Ed, w, en, hf, fun is S1 H1 μ1 J Anc h1 f1 w1 ok' anc hsrc D1 nD => ?_, px⟩
  exact lc_W hT w1 (en.fw w f1) ok' anc hsrc h1.1 h1.2 nD fun H' h => lc_endC (S := S) q f1 w1 nD h
end
end Pu
namespace Pu
open PySem PySem.Spec PyProof.Rows L2
/-! ## defs and their calls -/
def spF (c : Ct) (F : FF) : Sp := fun vs H Q E => ∃ μ S ds Qd Ed, Wd c μ S H ∧ RpAll c μ H vs ds ∧ F ds S Qd Ed ∧ PostV c μ H Qd Q ∧ PX c μ H Ed E
/-- a call in which the callee sees all cells -/
def dCallW (F : FF) (fa : FA) : FE := fun ρ S Q Ed => fa ρ S (fun ds S1 => F ds S1 Q Ed) Ed
mutual
/-- it mentions no cell but the first k -/
def below (k : Nat) : D → Bool
  | .cell n => decide (n < k)
  | .tup xs => belowAll k xs
  | .lst _ xs => belowAll k xs
  | .kls xs => belowAll k xs
  | .ins _ fs => belowFs k fs
  | .exc _ fs => belowFs k fs
  | _ => true
def belowAll (k : Nat) : List D → Bool
  | [] => true
  | x :: xs => below k x && belowAll k xs
def belowFs (k : Nat) : List (Str × D) → Bool
  | [] => true
  | (_, x) :: xs => below k x && belowFs k xs
end
def Cl.below (k : Nat) : Cl → Bool
  | .lst xs => belowAll k xs
  | .ins _ fs => belowFs k fs
/-- a call in which the callee sees the first k cells -/
def dCall (k : Nat) (F : FF) (fa : FA) : FE := fun ρ S Q Ed => fa ρ S (fun ds S1 => (belowAll k ds = true ∧ (S1.take k).all (Cl.below k) = true) ∧
  F ds (S1.take k) (fun d S2 => S2.length = (S1.take k).length ∧ Q d (S2 ++ S1.drop k)) fun e S2 => S2.length = (S1.take k).length ∧ Ed e (S2 ++ S1.drop k)) Ed
section
variable {c : Ct} {μ : Mu} {H : Hp} {k : Nat}
def sub (μ : Mu) (k : Nat) : Mu := ⟨μ.m.take k, μ.m.drop k ++ μ.av⟩
theorem not_sub {a : Addr} (h1 : a ∉ μ.m) (h2 : a ∉ μ.av) : a ∉ (sub μ k).m ∧ a ∉ (sub μ k).av :=
  ⟨fun z => h1 (List.mem_of_mem_take z), fun z => by
    rcases List.mem_append.mp z with z | z
    · exact h1 (List.mem_of_mem_drop z)
    · exact h2 z⟩
theorem of_sub {a : Addr} (h1 : a ∉ (sub μ k).m) (h2 : a ∉ (sub μ k).av) : a ∉ μ.m ∧ a ∉ μ.av :=
  ⟨fun z => by
    rw [← List.take_append_drop k μ.m] at z
    rcases List.mem_append.mp z with z | z
    · exact h1 z
    · exact h2 (List.mem_append_left _ z), fun z => h2 (List.mem_append_right _ z)⟩
mutual
theorem Rp.sub : ∀ {v : V} {d : D}, Rp c μ H v d → below k d = true → Rp c (Pu.sub μ k) H v d
  | _, _, .non, _ => .non
  | _, _, .bl b, _ => .bl b
  | _, _, .int i, _ => .int i
  | _, _, .str x, _ => .str x
  | _, _, .tup h r, b => .tup h (RpAll.sub r b)
  | _, _, .lst h n1 n2 n3 r, b => .lst h (not_sub n1 n2).1 (not_sub n1 n2).2 n3 (RpAll.sub r b)
  | _, _, .kls h n1 n2 r, b => .kls h (not_sub n1 n2).1 (not_sub n1 n2).2 (RpAll.sub r b)
  | _, _, .klsK o its n h1 h2 h3 h4 h5 h6 r, b => .klsK o its n h1 h2 h3 h4 h5 h6 (RpAll.sub r b)
  | _, _, .dic h n n2, _ => .dic h (not_sub n n2).1 (not_sub n n2).2
  | _, _, .cell h, b => .cell (by
    show (μ.m.take k)[_]? = _
    rw [List.getElem?_take_of_lt (of_decide_eq_true b)]
    exact h)
  | _, _, .glo h r, _ => .glo h r
  | _, _, .ty n, _ => .ty n
  | _, _, .ins h n n2 g r, b => .ins h (not_sub n n2).1 (not_sub n n2).2 g (RpFs.sub r b)
  | _, _, .exc0 h g, _ => .exc0 h g
  | _, _, .exc1 h g e r, b => .exc1 h g e (RpFs.sub r b)
theorem RpAll.sub : ∀ {vs : List V} {ds : List D}, RpAll c μ H vs ds → belowAll k ds = true → RpAll c (Pu.sub μ k) H vs ds
  | _, _, .nil, _ => .nil
  | _, _, .cons h r, b => .cons (Rp.sub h (Bool.and_eq_true_iff.mp b).1) (RpAll.sub r (Bool.and_eq_true_iff.mp b).2)
theorem RpFs.sub : ∀ {vs : List (Str × V)} {ds : List (Str × D)}, RpFs c μ H vs ds → belowFs k ds = true → RpFs c (Pu.sub μ k) H vs ds
  | _, _, .nil, _ => .nil
  | _, _, .cons h r, b => .cons (Rp.sub h (Bool.and_eq_true_iff.mp b).1) (RpFs.sub r (Bool.and_eq_true_iff.mp b).2)
end
theorem Wd.disj {S : Sto} (w : Wd c μ S H) {a : Addr} (h1 : a ∈ μ.m.take k) (h2 : a ∈ μ.m.drop k) : False := by
  have nd := w.nd
  rw [← List.take_append_drop k μ.m, List.nodup_append] at nd
  exact nd.2.2 a h1 a h2 rfl
theorem Wd.sub {S : Sto} (w : Wd c μ S H) (hb : (S.take k).all (Cl.below k) = true) : Wd c (Pu.sub μ k) (S.take k) H := by
  refine ⟨?_, ?_, fun a h z => ?_, fun a h => ?_, fun i a x h1 h2 => ?_⟩
  · show (μ.m.take k).Nodup
    have nd := w.nd
    rw [← List.take_append_drop k μ.m, List.nodup_append] at nd
    exact nd.1
  · show (μ.m.take k).length = (S.take k).length
    rw [List.length_take, List.length_take, w.len]
  · rcases List.mem_append.mp z with z | z
    · exact w.disj h z
    · exact w.ap a (List.mem_of_mem_take h) z
  · rcases List.mem_append.mp h with h | h
    · obtain ⟨o, e, _⟩ := w.there (List.mem_of_mem_drop h)
      rw [e]
      exact fun z => nomatch z
    · exact w.avs a h
  · have hi : i < k := by
      have := (List.getElem?_eq_some_iff.mp (show (μ.m.take k)[i]? = some a from h1)).1
      rw [List.length_take] at this
      omega
    have e1 : μ.m[i]? = some a := by
      rw [← List.getElem?_take_of_lt hi]
      exact h1
    have e2 : S[i]? = some x := by
      rw [← List.getElem?_take_of_lt hi]
      exact h2
    have bx : Cl.below k x = true := List.all_eq_true.mp hb x (List.mem_of_getElem? h2)
    have o := w.ok i a x e1 e2
    cases x with
    | lst ds =>
      obtain ⟨vs, h3, h4⟩ := o
      exact ⟨vs, h3, h4.sub bx⟩
    | ins cn fs =>
      obtain ⟨C, dx, fv, h3, h4, h5⟩ := o
      exact ⟨C, dx, fv, h3, h4, h5.sub bx⟩
theorem kp_unsub : Kp c (Pu.sub μ k) H μ H := by
  have cl : ∀ (n : Nat) (a : Addr), (μ.m.take k)[n]? = some a → μ.m[n]? = some a := fun n a h => by
    have hi : n < k := by
      have := (List.getElem?_eq_some_iff.mp h).1
      rw [List.length_take] at this
      omega
    rw [← List.getElem?_take_of_lt hi]
    exact h
  exact ⟨fun _ _ e => e, fun _ _ e n1 n2 => ⟨e, (of_sub n1 n2).1, (of_sub n1 n2).2⟩, fun _ _ e n1 n2 => ⟨e, (of_sub n1 n2).1, (of_sub n1 n2).2⟩, fun _ _ e n1 n2 => ⟨e, (of_sub n1 n2).1, (of_sub n1 n2).2⟩, fun _ _ _ _ e n1 n2 => ⟨e, (of_sub n1 n2).1, (of_sub n1 n2).2⟩, cl, fun _ _ e => e⟩
/-- back from a callee that saw the first k cells -/
theorem Wd.back {S S2 : Sto} {H' : Hp} {μ' : Mu} (w : Wd c μ S H) (f : Fw (Pu.sub μ k) H μ' H') (w' : Wd c μ' S2 H') (hl : S2.length = (S.take k).length) :
    Fw μ H μ H' ∧ Wd c μ (S2 ++ S.drop k) H' ∧ μ' = Pu.sub μ k := by
  obtain ⟨t, e⟩ := f.pre
  have hmt : (μ.m.take k).length = (S.take k).length := by rw [List.length_take, List.length_take, w.len]
  have ht : t = [] := by
    have h1 := w'.len
    rw [e, List.length_append] at h1
    have h2 : (Pu.sub μ k).m.length = (S.take k).length := hmt
    have : t.length = 0 := by omega
    exact List.length_eq_zero_iff.mp this
  subst ht
  rw [List.append_nil] at e
  have em : μ' = Pu.sub μ k := by
    cases μ'
    cases e
    cases (show _ = (Pu.sub μ k).av from f.av)
    rfl
  subst em
  have fw : Fw μ H μ H' := ⟨⟨[], by simp⟩, rfl, fun a o ea na => ⟨(f.keep a o ea fun z => na (List.mem_of_mem_take z)).1, na⟩⟩
  refine ⟨fw, ⟨w.nd, ?_, w.ap, fun a h => ?_, fun i a x h1 h2 => ?_⟩, rfl⟩
  · rw [List.length_append, hl, List.length_take, List.length_drop, w.len]
    omega
  · exact w'.avs a (List.mem_append_right _ h)
  · by_cases hi : i < S2.length
    · rw [List.getElem?_append_left hi] at h2
      have hk : i < k := by rw [hl, List.length_take] at hi; omega
      have e1 : (Pu.sub μ k).m[i]? = some a := by
        show (μ.m.take k)[i]? = some a
        rw [List.getElem?_take_of_lt hk]
        exact h1
      exact ClOk.kp kp_unsub (fun _ z => z) (w'.ok i a x e1 h2)
    · have hge : S2.length ≤ i := by omega
      rw [List.getElem?_append_right hge, List.getElem?_drop] at h2
      have hlt : k + (i - S2.length) < S.length := (List.getElem?_eq_some_iff.mp h2).1
      have hl2 : S2.length = k := by rw [hl, List.length_take]; omega
      have ei : k + (i - S2.length) = i := by omega
      rw [ei] at h2
      have nt : a ∉ (Pu.sub μ k).m := fun z => by
        obtain ⟨j, hj, ej⟩ := List.getElem_of_mem (show a ∈ μ.m.take k from z)
        have hj2 : (μ.m.take k)[j]? = some a := List.getElem?_eq_some_iff.mpr ⟨hj, ej⟩
        have hjk : j < k := by rw [List.length_take] at hj; omega
        rw [List.getElem?_take_of_lt hjk] at hj2
        have := ix_uniq w.nd hj2 h1
        omega
      exact ClOk.kp (w.kp fw) (fun o eo => (f.keep a o eo nt).1) (w.ok i a x h1 h2)
end
section
variable {X : Cx} {cx : CXT} {lv : Nat} {fn : Addr} {dat : FuncData} {pars : List Str} {sp : Sp} {E : L2.St → XK} {nm : Str} {p1 p2 : Pos} {a0 : Expr} {as : List Expr} {ta : TA}
theorem passG : ∀ σ, PassesAt CX0 X σ (E σ) := fun _ _ _ _ _ _ _ z => z.elim
theorem runGS {pins : List (Addr × Obj)} {σ : L2.St} {H : Hp} {s : Shared} {Q : VK} {us : List Value} {xs : List V} {E1 : XK} (F : Rb.FnG X.prog X.w X.K X.mg X.base cx lv fn dat pars sp) (gd : X.A.guards = some []) (rm : Room lv X.A)
    (bi : Binds X.K dat pars []) (ps : PassesAt cx X σ E1) (I : Inv X pins σ H s) (vx : Vals xs us) (pro : sp xs H Q E1) :
    wpAny (model X.prog X.w) X.A (call (.ref fn) us) (EP X pins σ Q) X.xe s := by
  have l2 : (us ++ []).length = pars.length := by rw [List.append_nil]; exact vx.length ▸ F.many _ _ _ _ pro
  have b := bi s us I.kIn l2
  rw [List.append_nil] at b
  refine wpAny_call (codeAny_mono (F.goes X.A X.stack s H ⟨us, []⟩ us xs Q E1 rm gd I.env0 b vx pro) ?_)
  intro res s2 fin
  match res, fin with
  | .error e, fin => exact ps pins H s e s2 I fin
  | .ok (.ret u), fin => exact I.after fin
  | .ok .next, fin => exact (fin : False).elim
  | .ok .brk, fin => exact (fin : False).elim
  | .ok .cont, fin => exact (fin : False).elim
theorem pe_callGS (F : Rb.FnG X.prog X.w X.K X.mg X.base cx lv fn dat pars sp) (gd : X.A.guards = some []) (rm : Room lv X.A) (gl : Gl X nm) (at_ : X.mg nm = some (.ref fn)) (kp : PySem.W.keepIn X.K (.ref fn) = true)
    (bi : Binds X.K dat pars []) (ps : ∀ σ, PassesAt cx X σ (E σ)) (pa : PA X (a0 :: as) ta) (ndb : (nm == ("__debug__" : Str)) = false := by decide)
    (st1 : starEach (a0 :: as) X.env = (false, eval a0 X.env) :: starEach as X.env := by rfl) (st2 : (backTo p2 (starEach as X.env)).any (·.1) = false := by rfl) :
    PE X (.Call (.Name nm p1) (a0 :: as) [] p2) (tCallS sp E ta) := by
  constructor
  intro pins s σ H Q I pre
  refine wpAny_Call_Name_kw (ld_glob I gl at_ ?_ ndb)
  exact PySem.W.callWith_K (h₀ := X.base) I.ok.mod.kin kp (thn (pa.run p2 pins s σ H _ I pre) fun us s1 ⟨xs, H1, I1, rx, q1⟩ => ⟨I1.kIn, runGS F gd rm bi (ps σ) I1 rx q1⟩) st1 st2
end
section
variable {X : Cx} {E : L2.St → XK} {cx : CXT} {lv : Nat} {fn : Addr} {dat : FuncData} {pars : List Str} {nm : Str} {p1 p2 : Pos} {a0 : Expr} {as : List Expr} {FN : FF} {fa : FA}
theorem d_callW (F : Rb.FnG X.prog X.w X.K X.mg X.base cx lv fn dat pars (spF (ct X) FN)) (gd : X.A.guards = some []) (rm : Room lv X.A) (gl : Gl X nm) (at_ : X.mg nm = some (.ref fn)) (kp : PySem.W.keepIn X.K (.ref fn) = true)
    (bi : Binds X.K dat pars []) (ps : ∀ σ, PassesAt cx X σ (E σ)) (pa : PAd X E (a0 :: as) fa) (ndb : (nm == ("__debug__" : Str)) = false := by decide)
    (s1 : starEach (a0 :: as) X.env = (false, eval a0 X.env) :: starEach as X.env := by rfl) (s2 : (backTo p2 (starEach as X.env)).any (·.1) = false := by rfl) : PEd X E (.Call (.Name nm p1) (a0 :: as) [] p2) (dCallW FN fa) := by
  refine PE.imp (pe_callGS F gd rm gl at_ kp bi ps pa ndb s1 s2) fun σ H Q ⟨μ, S, ρ, Qd, Ed, w, en, hf, q, px⟩ => ?_
  refine tR_of w en hf px fun ds S1 vs H1 μ1 h1 f1 w1 en1 px1 r1 => ?_
  exact ⟨μ1, S1, ds, Qd, Ed, w1, r1, h1, PostV.fw q f1, px1⟩
theorem d_call (k : Nat) (F : Rb.FnG X.prog X.w X.K X.mg X.base cx lv fn dat pars (spF (ct X) FN)) (gd : X.A.guards = some []) (rm : Room lv X.A) (gl : Gl X nm) (at_ : X.mg nm = some (.ref fn)) (kp : PySem.W.keepIn X.K (.ref fn) = true)
    (bi : Binds X.K dat pars []) (ps : ∀ σ, PassesAt cx X σ (E σ)) (pa : PAd X E (a0 :: as) fa) (ndb : (nm == ("__debug__" : Str)) = false := by decide)
    (s1 : starEach (a0 :: as) X.env = (false, eval a0 X.env) :: starEach as X.env := by rfl) (s2 : (backTo p2 (starEach as X.env)).any (·.1) = false := by rfl) : PEd X E (.Call (.Name nm p1) (a0 :: as) [] p2) (dCall k FN fa) := by
  refine PE.imp (pe_callGS F gd rm gl at_ kp bi ps pa ndb s1 s2) fun σ H Q ⟨μ, S, ρ, Qd, Ed, w, en, hf, q, px⟩ => ?_
  refine tR_of w en hf px fun ds S1 vs H1 μ1 h1 f1 w1 en1 px1 r1 => ?_
  obtain ⟨⟨b1, b2⟩, h1⟩ := h1
  refine ⟨sub μ1 k, S1.take k, ds, _, _, w1.sub b2, r1.sub b1, h1, fun d S2 v H2 μ2 h2 f2 w2 r2 => ?_, fun e S2 cls dx H2 μ2 h2 f2 w2 r2 => ?_⟩
  · obtain ⟨f3, w3, rfl⟩ := w1.back f2 w2 h2.1
    exact q d _ v H2 μ1 h2.2 (f1.trans f3) w3 (r2.kp kp_unsub)
  · obtain ⟨f3, w3, rfl⟩ := w1.back f2 w2 h2.1
    refine px1 e _ cls dx H2 μ1 h2.2 f3 w3 ⟨r2.1, ?_⟩
    have r3 := r2.2
    split at r3
    · exact r3
    · obtain ⟨a, fv, z1, z2, z3⟩ := r3
      exact ⟨a, fv, z1, z2, z3.kp kp_unsub⟩
end
/-! ### what a def does -/
def startD (n : Nat) (ds : List D) : Rho := ds.map some ++ List.replicate (n - ds.length) none
theorem startD_env {c : Ct} {μ : Mu} {H : Hp} {N : List Str} {vs : List V} {ds : List D} (r : RpAll c μ H vs ds) : EnvR c μ H (L2.start N vs) (startD N.length ds) := by
  refine ⟨?_, fun i d h => ?_⟩
  · unfold L2.start startD
    rw [List.length_append, List.length_append, List.length_map, List.length_map, List.length_replicate, List.length_replicate, r.length]
  · unfold L2.start
    unfold startD at h
    have hl := r.length
    by_cases hi : i < ds.length
    · rw [List.getElem?_append_left (by rw [List.length_map]; exact hi), List.getElem?_map] at h
      obtain ⟨d', e1, e2⟩ := Option.map_eq_some_iff.mp h
      cases e2
      obtain ⟨v, e3, rv⟩ := r.at e1
      refine ⟨v, ?_, rv⟩
      rw [List.getElem?_append_left (by rw [List.length_map]; omega), List.getElem?_map, e3]
      rfl
    · rw [List.getElem?_append_right (by rw [List.length_map]; omega)] at h
      have := List.mem_of_getElem? h
      cases (List.mem_replicate.mp this).2
/-- a def without cells of its own, or one whose new cells stay -/
def dDef (np n : Nat) (fb : FS) : FF := fun ds S Q Ed => ds.length = np ∧ fb (startD n ds) S { nx := fun _ S' => Q .non S', rt := Q, bk := fun _ _ => False, ct := fun _ _ => False } noE
/-- .. that may raise -/
def dDefX (np n : Nat) (fb : FS) : FF := fun ds S Q Ed => ds.length = np ∧ fb (startD n ds) S { nx := fun _ S' => Q .non S', rt := Q, bk := fun _ _ => False, ct := fun _ _ => False } Ed
/-- a value that leaves a def whose cells, from n on, are gone -/
def frz (S : Sto) (n : Nat) : D → Option D
  | .cell k => if k < n then some (.cell k) else match S[k]? with
    | some (.lst xs) => if belowAll n xs = true then some (.lst false xs) else none
    | some (.ins x fs) => if belowFs n fs = true then some (.ins x fs) else none
    | none => none
  | d => if below n d = true then some d else none
/-- a def with cells of its own -/
def dDefC (np n : Nat) (fb : FS) : FF := fun ds S Q Ed => ds.length = np ∧ fb (startD n ds) S
  { nx := fun _ S' => ((S'.take S.length).length = S.length ∧ (S'.take S.length).all (Cl.below S.length) = true) ∧ Q .non (S'.take S.length),
    rt := fun d S' => ((S'.take S.length).length = S.length ∧ (S'.take S.length).all (Cl.below S.length) = true) ∧ onSome (frz S' S.length d) fun d' => Q d' (S'.take S.length), bk := fun _ _ => False, ct := fun _ _ => False } noE
section
variable {pr : Program} {wo : World} {K : PySem.W.Frag} {mg : Str → Option Value} {b0 : Heap} {lv : Nat} {x qn : Str} {st : Stmt} {fn : Addr} {dat : FuncData} {NN pars : List Str} {fb : FS}
theorem d_fn (F : Fun K x qn st fn dat) (S : FnScope NN pars (defScope st))
    (body : ∀ (cdv : Value) (A : Around) (out : List Env) (s : Shared) (H : Hp) (E : XK), A.guards = some [] → Room lv (A.deeper (envOfC qn (defScope st) s.heap.objs.size fn cdv)) → PBd (cxOf CX0 pr wo K mg b0 NN qn (defScope st) fn cdv A out s H E).nox E0 (defBody st) fb) :
    Rb.FnG pr wo K mg b0 CX0 (lv + 1) fn dat pars (spF (ct0 K mg) (dDef pars.length NN.length fb)) := by
  refine Rb.okG F S (fun xs H Q E pro => ?_) fun cdv A out s H xs Q E gd rm pro => ⟨_, body cdv A out s H E gd rm, ?_⟩
  · obtain ⟨μ, S, ds, Qd, Ed, w, r, ⟨hl, _⟩, _⟩ := pro
    rw [r.length]
    exact hl
  · obtain ⟨μ, S, ds, Qd, Ed, w, r, ⟨hl, h⟩, q, px⟩ := pro
    exact ⟨μ, S, _, _, noE, w, startD_env r, h, ⟨fun ρ' S' σ' H' μ' hq f w' en => q .non S' .non H' μ' hq f w' .non, q, fun _ _ _ _ _ z => z.elim, fun _ _ _ _ _ z => z.elim⟩, pxNo⟩
theorem Wd.drop {c : Ct} {μ μ' : Mu} {S S' : Sto} {H H' : Hp} (w : Wd c μ S H) (f : Fw μ H μ' H') (w' : Wd c μ' S' H') (hb : (S'.take S.length).all (Cl.below S.length) = true) :
    Fw μ H μ H' ∧ Wd c μ (S'.take S.length) H' ∧ (Kp c (Pu.sub μ' S.length) H' μ H') := by
  obtain ⟨t, e⟩ := f.pre
  have em : (Pu.sub μ' S.length).m = μ.m := by
    show μ'.m.take S.length = μ.m
    rw [e, ← w.len, List.take_append_of_le_length (Nat.le_refl _), List.take_length]
  have ws := w'.sub hb
  have av2 : ∀ {a : Addr}, a ∉ (Pu.sub μ' S.length).av → a ∉ μ.av := fun n z => n (List.mem_append_right _ (by rw [f.av]; exact z))
  have kp : Kp c (Pu.sub μ' S.length) H' μ H' := ⟨fun _ _ e => e, fun _ _ e n1 n2 => ⟨e, em ▸ n1, av2 n2⟩, fun _ _ e n1 n2 => ⟨e, em ▸ n1, av2 n2⟩, fun _ _ e n1 n2 => ⟨e, em ▸ n1, av2 n2⟩, fun _ _ _ _ e n1 n2 => ⟨e, em ▸ n1, av2 n2⟩, (fun n a h => by rw [← em]; exact h), fun _ _ e => e⟩
  refine ⟨⟨⟨[], by simp⟩, rfl, fun a o ea na => ⟨(f.keep a o ea na).1, na⟩⟩, ⟨w.nd, ?_, w.ap, fun a h => ?_, fun i a x h1 h2 => ClOk.kp kp (fun _ z => z) (ws.ok i a x (by rw [em]; exact h1) h2)⟩, kp⟩
  · rw [← em]; exact ws.len
  · exact ws.avs a (List.mem_append_right _ (by rw [f.av]; exact h))
theorem d_fnC (F : Fun K x qn st fn dat) (S : FnScope NN pars (defScope st))
    (body : ∀ (cdv : Value) (A : Around) (out : List Env) (s : Shared) (H : Hp) (E : XK), A.guards = some [] → Room lv (A.deeper (envOfC qn (defScope st) s.heap.objs.size fn cdv)) → PBd (cxOf CX0 pr wo K mg b0 NN qn (defScope st) fn cdv A out s H E).nox E0 (defBody st) fb) :
    Rb.FnG pr wo K mg b0 CX0 (lv + 1) fn dat pars (spF (ct0 K mg) (dDefC pars.length NN.length fb)) := by
  refine Rb.okG F S (fun xs H Q E pro => ?_) fun cdv A out s H xs Q E gd rm pro => ⟨_, body cdv A out s H E gd rm, ?_⟩
  · obtain ⟨μ, S, ds, Qd, Ed, w, r, ⟨hl, _⟩, _⟩ := pro
    rw [r.length]
    exact hl
  · obtain ⟨μ, S, ds, Qd, Ed, w, r, ⟨hl, h⟩, q, px⟩ := pro
    refine ⟨μ, S, _, _, noE, w, startD_env r, h, ⟨fun ρ' S' σ' H' μ' hq f w' en => ?_, fun d S' v H' μ' hq f w' rv => ?_, fun _ _ _ _ _ z => z.elim, fun _ _ _ _ _ z => z.elim⟩, pxNo⟩
    · obtain ⟨f2, w2, _⟩ := w.drop f w' hq.1.2
      exact q .non _ .non H' μ hq.2 f2 w2 .non
    · obtain ⟨⟨_, hb⟩, hq⟩ := hq
      obtain ⟨f2, w2, kp⟩ := w.drop f w' hb
      obtain ⟨d', e, hq⟩ := onSome_of hq
      refine q d' _ v H' μ hq f2 w2 ?_
      unfold frz at e
      split at e
      · rename_i k
        split at e
        · rename_i hk
          cases e
          exact (rv.sub (k := S.length) (decide_eq_true hk)).kp kp
        · rename_i hk
          cases rv with
          | @cell k2 a hm =>
          have hmem := List.mem_of_getElem? hm
          have nm : a ∉ μ.m := fun z => by
            obtain ⟨t, et⟩ := f.pre
            obtain ⟨j, hj, ej⟩ := List.getElem_of_mem z
            have hj2 : μ'.m[j]? = some (μ.m[j]) := by rw [et, List.getElem?_append_left hj]; exact List.getElem?_eq_getElem hj
            rw [ej] at hj2
            have := ix_uniq w'.nd hj2 hm
            have := w.len
            omega
          split at e
          · rename_i ys e1
            split at e
            · rename_i hb2
              cases e
              obtain ⟨vs, h1, h2⟩ := w'.ok k _ _ hm e1
              exact .lst h1 nm (fun z => w'.ap _ hmem (by rw [f.av]; exact z)) (fun z => nomatch z) ((h2.sub hb2).kp kp)
            · cases e
          · rename_i y gs e1
            split at e
            · rename_i hb2
              cases e
              obtain ⟨C, dx, fv, h1, h2, h3⟩ := w'.ok k _ _ hm e1
              exact .ins h1 nm (fun z => w'.ap _ hmem (by rw [f.av]; exact z)) h2 ((h3.sub hb2).kp kp)
            · cases e
          · cases e
      · split at e
        · rename_i hb2
          cases e
          exact (rv.sub hb2).kp kp
        · cases e
end
/-- from what the law's own meaning gives to the row's claim -/
theorem endP {l : PySem.W.OpenLaw} {n lv : Nat} {q : Program} {loose : List Str} {XP : (Str → Option Value) → Heap → Prop} {YP : World → Heap → Prop} {d : DefRec} {KK : Params → PySem.W.Frag} {FL : FF} {x : Str}
    (most : l.most = some n) (few : n ≤ sizeLine) (nodef : d.params.defaults = []) (rm : Room lv callerA) (inY : ∀ (w : World) (h : Heap), YP w h → (KK w.params).In h)
    (F : ∀ (w : World) (mg : Str → Option Value) (fn : Addr) (h : Heap), (KK w.params).In h → h.Ns mainGlobals mg → mg d.name = some (.ref fn) →
      ∃ dat : FuncData, (∀ (s : Shared) (u : Value), BindsTo s dat ⟨[u], []⟩ [(x, u)]) ∧ ∀ b0 : Heap, (KK w.params).In b0 → b0.Ns mainGlobals mg → Rb.FnG l.prog w (KK w.params) mg b0 CX0 lv fn dat [x] (spF (ct0 (KK w.params) mg) FL))
    (law : ∀ ns : List Int, ns.length ≤ n → FL [.kls (ns.map D.int)] [] (fun d _ => d = .bl true) noE) :
    PySem.W.WalkO q loose XP YP l.row.toRowW d [] (fun f vs => PySem.call f vs) := by
  refine Att.attach_call most nodef ?_
  intro w s0 s1 mg mb fn o pm cd dc a us ns G Y at_ dd cdd gm ob ia ln ge
  obtain ⟨dat, bi, ok⟩ := F w mg fn _ (inY w _ Y) G.T.g gm
  refine Rb.lawG (inY w _ Y) G.T.g G.T.b G.T.builtins G.T.nolimit ge ob ia (Nat.le_trans ln few) rm ok bi fun H sq => ?_
  refine ⟨⟨[], []⟩, [], _, _, noE, ⟨List.nodup_nil, rfl, (fun _ z => nomatch z), (fun _ z => nomatch z), fun _ _ _ z => nomatch z⟩, .cons ?_ .nil, law ns ln, fun d S' v H' μ' hq _ _ r => ?_, pxNo⟩
  · rcases sq with sq | ⟨o, its, k, h1, h2, h3, h4, h5, h6⟩
    · exact .kls sq (fun z => nomatch z) (fun z => nomatch z) (RpAll.ofInts ns)
    · exact .klsK o its k h1 h2 h3 h4 h5 h6 (RpAll.ofInts ns)
  · cases (hq : d = .bl true)
    exact r.bl_inv
end Pu
namespace Pu
open PySem PySem.Spec PyProof.Rows L2
/-! ## small dicts, list(range(n)), tuple(range(n)) -/
section
variable {X : Cx} {E : L2.St → XK} {pos : Pos} {a : Expr} {fe : FE}
theorem PostV.dic {c : Ct} {μ : Mu} {S : Sto} {H : Hp} {Qd : QD} {Q : VK} (q : PostV c μ H Qd Q) (w : Wd c μ S H) {ps : List (Str × Int)} (h : Qd (.dic ps) S) {p : Addr} (hp : H p = none) : Q (.ref p) (upd H p (.dK (Rb.dicV ps))) :=
  q _ S _ _ μ h (Fw.new hp) (w.new hp) (.dic upd_same (w.fresh hp) fun z => w.avs p z hp)
theorem d_dic0 : PEd X E (.Dict [] [] pos) (dC (.dic [])) :=
  PE.imp pe_dnewK fun σ H Q ⟨μ, S, ρ, Qd, Ed, w, en, hf, q, px⟩ p hp => PostV.dic (ps := []) q w hf hp
def rngOk (n : Int) : Prop := 0 ≤ n ∧ n ≤ 16777216
theorem rngOk.of {n : Int} (h : rngOk n) : RgOk 0 n := RgOk.of_le (Int.le_refl _) h.2 (by decide) h.1
variable {p p2 p3 : Pos}
end
end Pu
namespace Pu
open PySem PySem.Spec PyProof.Rows L2
/-! ## min of a tuple or a list -/
/-! ## while -/
def dWhile (t : FT) (fb : FS) : FS := fun ρ S De Ed => ∃ W : Nat → Rho → Sto → Prop, (∃ m, W m ρ S) ∧ ∀ m ρ S, W m ρ S →
  t ρ S (fun b S1 => if b = true then fb ρ S1 { nx := fun ρ' S' => ∃ m', m' < m ∧ W m' ρ' S', ct := fun ρ' S' => ∃ m', m' < m ∧ W m' ρ' S', bk := De.nx, rt := De.rt } Ed else De.nx ρ S1) Ed
theorem d_while {X : Cx} {E : XK} {c : Expr} {body : List Stmt} {pos : Pos} {t : FT} {fb : FS} (hp : PassesOwn (model X.prog X.w) X.A X.env X.xe) (hc : PTd X (cE E) c t) (hb : PBd X E body fb) : PSd X E (.While c body [] pos) (dWhile t fb) := by
  refine PS.imp (ps_while hp hc hb) fun D σ H ⟨μ, S, ρ, De, Ed, w, en, ⟨W, ⟨m0, hm0⟩, turn⟩, k, px⟩ => ?_
  refine ⟨fun m σ' H' => ∃ μ' S' ρ', Fw μ H μ' H' ∧ Wd (ct X) μ' S' H' ∧ EnvR (ct X) μ' H' σ' ρ' ∧ W m ρ' S', ⟨m0, μ, S, ρ, Fw.refl, w, en, hm0⟩, ?_⟩
  rintro m σ' H' ⟨μ', S', ρ', f', w', en', hw⟩
  refine tR_of w' en' (turn m ρ' S' hw) (px.fw f') fun b S1 v H1 μ1 h1 f1 w1 en1 px1 r1 => ?_
  cases (r1 : v = b)
  have ff := f'.trans f1
  split
  · rename_i hv
    rw [if_pos hv] at h1
    refine ⟨fun σ2 H2 => ∃ m', m' < m ∧ ∃ μ2 S2 ρ2, Fw μ H μ2 H2 ∧ Wd (ct X) μ2 S2 H2 ∧ EnvR (ct X) μ2 H2 σ2 ρ2 ∧ W m' ρ2 S2, fun σ2 H2 h => h, ?_⟩
    refine ⟨μ1, S1, ρ', _, Ed, w1, en1, h1, ⟨fun ρ4 S4 σ4 H4 μ4 h4 f4 w4 en4 => ?_, k.rt.fw ff, fun ρ4 S4 σ4 H4 μ4 h4 f4 w4 en4 => k.nx ρ4 S4 σ4 H4 μ4 h4 (ff.trans f4) w4 en4, fun ρ4 S4 σ4 H4 μ4 h4 f4 w4 en4 => ?_⟩, px1⟩
    · obtain ⟨m', hm', hw'⟩ := h4
      exact ⟨m', hm', μ4, S4, ρ4, ff.trans f4, w4, en4, hw'⟩
    · obtain ⟨m', hm', hw'⟩ := h4
      exact ⟨m', hm', μ4, S4, ρ4, ff.trans f4, w4, en4, hw'⟩
  · rename_i hv
    rw [if_neg hv] at h1
    exact k.nx ρ' S1 σ' H1 μ1 h1 ff w1 en1
/-! ## remove, extend, pop() on a list that is a cell -/
/-! ## repr and == that are not looked into -/
@[irreducible] def iRepr : List D → Sto → QD → Prop := gRepr
@[irreducible] def iEqB (neg : Bool) : G2 := gEqB neg
abbrev iEq : G2 := iEqB false
abbrev iNe : G2 := iEqB true
theorem iRepr_of {ds : List D} {S : Sto} {Q : QD} (h : gRepr ds S Q) : iRepr ds S Q := by
  unfold iRepr
  exact h
theorem iEqB_of {neg : Bool} {x y : D} {S : Sto} {Q : QD} (h : gEqB neg x y S Q) : iEqB neg x y S Q := by
  unfold iEqB
  exact h
theorem eq_str {neg : Bool} {a b : Str} {S : Sto} {Q : QD} (q : Q (.bl (nb neg (decide (a = b)))) S) : iEqB neg (.str a) (.str b) S Q := iEqB_of q
theorem eq_int {neg : Bool} {a b : Int} {S : Sto} {Q : QD} (q : Q (.bl (nb neg (decide (a = b)))) S) : iEqB neg (.int a) (.int b) S Q := iEqB_of q
theorem ne_str {neg : Bool} {a b : Str} {S : Sto} {Q : QD} (e : a = b) (q : Q (.bl (nb neg true)) S) : iEqB neg (.str a) (.str b) S Q := eq_str (by rw [decide_eq_true e]; exact q)
section
variable {X : Cx}
theorem c_irepr (hg : X.A.guards = some []) (hu : X.A.units + 64 < cLine) : CallR X (.builtin "repr") (rDs (ct X) iRepr) := by
  unfold iRepr
  exact c_repr hg hu
theorem o_ieq (hu : X.A.units + 64 < cLine) : OpR X (compareOp .Eq) (rD2 (ct X) iEq) := by
  unfold iEq iEqB
  exact o_eq hu
theorem o_ine (hu : X.A.units + 64 < cLine) : OpR X (compareOp .NotEq) (rD2 (ct X) iNe) := by
  unfold iNe iEqB
  exact o_ne hu
end
/-! ## enumerate of a tuple or of a list -/
end Pu
namespace Pu
open PySem PySem.Spec PyProof.Rows L2
/-! ## instances: fields, methods, properties, new ones -/
def insAt : Option Cl → Option (Str × List (Str × D))
  | some (.ins x fs) => some (x, fs)
  | _ => none
theorem insAt_inv {o : Option Cl} {x : Str} {fs : List (Str × D)} (h : insAt o = some (x, fs)) : o = some (.ins x fs) := by
  cases o with
  | none => cases h
  | some y =>
    cases y with
    | lst _ => cases h
    | ins _ _ => cases h; rfl
def insOf (S : Sto) : D → Option (Str × List (Str × D))
  | .cell n => insAt S[n]?
  | .ins x fs => some (x, fs)
  | _ => none
def cellIns (S : Sto) : D → Option (Nat × Str × List (Str × D))
  | .cell n => (insAt S[n]?).map fun p => (n, p.1, p.2)
  | _ => none
/-- the field by its name -/
def lookF (f : Str) : List (Str × D) → Option D
  | [] => none
  | (g, d) :: r => if g = f then some d else lookF f r
def putD (f : Str) (v : D) : List (Str × D) → List (Str × D)
  | [] => [(f, v)]
  | (g, x) :: r => if g = f then (g, v) :: r else (g, x) :: putD f v r
section
variable {c : Ct} {μ : Mu} {S : Sto} {H : Hp} {v : V} {d : D} {f : Str}
theorem Rp.insT (w : Wd c μ S H) (r : Rp c μ H v d) {x : Str} {fs : List (Str × D)} (e : insOf S d = some (x, fs)) : ∃ a C dx fv, v = .ref a ∧ H a = some (.ins C dx fv) ∧ c.mg x = some (.ref C) ∧ RpFs c μ H fv fs := by
  cases r with
  | ins h _ _ g rf => cases e; exact ⟨_, _, _, _, rfl, h, g, rf⟩
  | @cell n a hm =>
    obtain ⟨C, dx, fv, h1, h2, h3⟩ := w.ok n _ _ hm (insAt_inv e)
    exact ⟨_, C, dx, fv, rfl, h1, h2, h3⟩
  | _ => cases e
theorem Wd.cellI (w : Wd c μ S H) (r : Rp c μ H v d) {n : Nat} {x : Str} {fs : List (Str × D)} (e : cellIns S d = some (n, x, fs)) : ∃ a C dx fv, v = .ref a ∧ μ.m[n]? = some a ∧ H a = some (.ins C dx fv) ∧ c.mg x = some (.ref C) ∧ RpFs c μ H fv fs := by
  cases r with
  | @cell k a hm =>
    obtain ⟨p, h, e2⟩ := Option.map_eq_some_iff.mp (show (insAt S[k]?).map (fun p => (k, p.1, p.2)) = some (n, x, fs) from e)
    obtain ⟨y, gs⟩ := p
    cases e2
    obtain ⟨C, dx, fv, h1, h2, h3⟩ := w.ok _ _ _ hm (insAt_inv h)
    exact ⟨_, C, dx, fv, rfl, hm, h1, h2, h3⟩
  | _ => cases e
theorem RpFs.look : ∀ {fv : List (Str × V)} {fs : List (Str × D)} {d : D}, RpFs c μ H fv fs → lookF f fs = some d → ∃ v, fv.lookup f = some v ∧ Rp c μ H v d
  | _, _, _, .nil, e => by cases e
  | _, _, _, .cons (f := g) h r, e => by
    unfold lookF at e
    by_cases z : g = f
    · rw [if_pos z] at e
      cases e
      refine ⟨_, ?_, h⟩
      rw [List.lookup_cons, show (f == g) = true by rw [z]; exact beq_self_eq_true f]
    · rw [if_neg z] at e
      obtain ⟨v, e1, e2⟩ := RpFs.look r e
      refine ⟨v, ?_, e2⟩
      rw [List.lookup_cons, show (f == g) = false by exact beq_eq_false_iff_ne.mpr fun q => z q.symm]
      exact e1
theorem RpFs.none : ∀ {fv : List (Str × V)} {fs : List (Str × D)}, RpFs c μ H fv fs → lookF f fs = none → fv.lookup f = none
  | _, _, .nil, _ => rfl
  | _, _, .cons (f := g) h r, e => by
    unfold lookF at e
    by_cases z : g = f
    · rw [if_pos z] at e
      cases e
    · rw [if_neg z] at e
      rw [List.lookup_cons, show (f == g) = false by exact beq_eq_false_iff_ne.mpr fun q => z q.symm]
      exact RpFs.none r e
theorem RpFs.length : ∀ {fv : List (Str × V)} {fs : List (Str × D)}, RpFs c μ H fv fs → fv.length = fs.length
  | _, _, .nil => rfl
  | _, _, .cons _ r => congrArg Nat.succ (RpFs.length r)
theorem RpFs.put {y : V} {e : D} (ry : Rp c μ H y e) : ∀ {fv : List (Str × V)} {fs : List (Str × D)}, RpFs c μ H fv fs → RpFs c μ H (putF f y fv) (putD f e fs)
  | _, _, .nil => .cons ry .nil
  | _, _, .cons (f := g) h r => by
    unfold putF putD
    by_cases z : g = f
    · rw [if_pos z, if_pos z]
      exact .cons ry r
    · rw [if_neg z, if_neg z]
      exact .cons h (RpFs.put ry r)
theorem RpFs.fw {μ' : Mu} {H' : Hp} {fv : List (Str × V)} {fs : List (Str × D)} (r : RpFs c μ H fv fs) (w : Wd c μ S H) (g : Fw μ H μ' H') : RpFs c μ' H' fv fs := r.kp (w.kp g)
end
/-! ### fields -/
/-- of a class of the row: its instances are plain, the name is no attribute of it -/
def ClF (K : PySem.W.Frag) (mg : Str → Option Value) (f x : Str) : Prop := ∀ C, mg x = some (.ref C) → Cls K C ∧ NoAttr K C f
def dFld (xs : List Str) (f : Str) (fo : FE) : FE := fun ρ S Q Ed => fo ρ S (fun d S1 => onSome (insOf S1 d) fun cf => xs.contains cf.1 = true ∧ onSome (lookF f cf.2) fun v => Q v S1) Ed
def dStF (xs : List Str) (f : Str) (fo fe : FE) : FS := fun ρ S De Ed => fe ρ S (fun v S1 => fo ρ S1 (fun d S2 => onSome (cellIns S2 d) fun q => (xs.contains q.2.1 = true ∧ q.2.2.length ≤ 500) ∧ De.nx ρ (S2.set q.1 (.ins q.2.1 (putD f v q.2.2)))) Ed) Ed
section
variable {X : Cx} {E : L2.St → XK} {E1 : XK} {e o value : Expr} {fo fe : FE} {f : Str} {xs : List Str} {pos pos' : Pos}
theorem mem_of_contains {x : Str} (h : xs.contains x = true) : x ∈ xs := List.contains_iff_mem.mp h
theorem d_fld (hx : ∀ x ∈ xs, ClF X.K X.mg f x) (he : PEd X E e fo) (hab : attributeBase e f X.env (eval e X.env) = eval e X.env := by rfl) : PEd X E (.Attribute e f pos) (dFld xs f fo) := by
  refine PE.imp (pe_fld he hab) fun σ H Q ⟨μ, S, ρ, Qd, Ed, w, en, hf, q, px⟩ => ?_
  refine tR_of w en hf px fun d S1 v H1 μ1 h1 f1 w1 en1 px1 r1 => ?_
  obtain ⟨⟨x, fs⟩, e1, hc, h1⟩ := onSome_of h1
  obtain ⟨u, e2, hq⟩ := onSome_of h1
  obtain ⟨a, C, dx, fv, rfl, ha, hm, rf⟩ := r1.insT w1 e1
  obtain ⟨y, e3, ry⟩ := rf.look e2
  obtain ⟨c1, c2⟩ := hx x (mem_of_contains hc) C hm
  exact ⟨a, C, dx, fv, y, rfl, ha, c1, c2, e3, q u S1 y H1 μ1 hq f1 w1 ry⟩
theorem d_stF (hx : ∀ x ∈ xs, ClF X.K X.mg f x) (ho : PEd X (cE E1) o fo) (hv : PEd X (cE E1) value fe) (hs : swapsWith value (some (.Attribute o f pos')) pos.line X.env = pure false := by rfl) : PSd X E1 (.Assign [.Attribute o f pos'] value pos) (dStF xs f fo fe) := by
  refine PS.imp (ps_fld ho hv hs) fun D σ H ⟨μ, S, ρ, De, Ed, w, en, hf, k, px⟩ => ?_
  refine tR_of w en hf px fun y S1 vy H1 μ1 h1 f1 w1 en1 px1 r1 => ?_
  refine tR_of w1 en1 h1 px1 fun d S2 v H2 μ2 h2 f2 w2 en2 px2 r2 => ?_
  obtain ⟨⟨n, x, fs⟩, e1, ⟨hc, hl⟩, hq⟩ := onSome_of h2
  obtain ⟨a, C, dx, fv, rfl, hm, ha, hg, rf⟩ := w2.cellI r2 e1
  obtain ⟨c1, c2⟩ := hx x (mem_of_contains hc) C hg
  have hl' : fs.length ≤ 500 := hl
  refine ⟨a, C, dx, fv, rfl, ha, c1, c2, by rw [rf.length]; omega, ?_⟩
  have fw : Fw μ2 H2 μ2 (upd H2 a (.ins C dx (putF f vy fv))) := Fw.write (List.mem_of_getElem? hm)
  exact k.nx ρ _ σ _ μ2 hq (f1.trans (f2.trans fw)) (w2.set hm ⟨C, dx, _, upd_same, hg, (RpFs.put (r1.fw w1 f2) rf).fw w2 fw⟩) (en2.fw w2 fw)
end
/-! ### a constant of the class -/
/-! ### methods: the def by the object's class -/
def tabF : List (Str × FF) → Str → Option FF
  | [], _ => none
  | (y, F) :: r, x => if y = x then some F else tabF r x
theorem tabF_mem : ∀ {tab : List (Str × FF)} {x : Str} {F : FF}, tabF tab x = some F → (x, F) ∈ tab
  | [], _, _, h => by cases h
  | (y, G) :: r, x, F, h => by
    unfold tabF at h
    by_cases z : y = x
    · rw [if_pos z] at h
      cases h
      rw [z]
      exact List.mem_cons_self
    · rw [if_neg z] at h
      exact List.mem_cons_of_mem _ (tabF_mem h)
end Pu
namespace Pu
open PySem PySem.Spec PyProof.Rows L2
/-! ## properties, new instances -/
section
variable {X : Cx} {k : Nat} {C p g a dx : Addr} {fs : List (Str × V)} {f : Str} {fd : FuncData} {ps : List Str} {sp : Sp} {E : XK}
theorem getpropG {pins : List (Addr × Obj)} {σ : L2.St} {H : Hp} {s : Shared} {Q : VK} {b : Bool} {E' : Value → Shared → Prop} (I : Inv X pins σ H s) (ea : H a = some (.ins C dx fs)) (c : Cls X.K C) (hp : PropOf X.K C f p g)
    (F : Rb.FnG X.prog X.w X.K X.mg X.base CX0 k g fd ps sp) (gd : X.A.guards = some []) (hr : Room (k + 1) X.A) (hb : Binds X.K fd ps []) (h : sp [.ref a] H Q E) : wpAny (model X.prog X.w) X.A (getAttr (.ref a) f b) (EP X pins σ Q) E' s := by
  obtain ⟨mm, ob, _, _, _, _⟩ := ins_get I.hok ea
  obtain ⟨od, J, _⟩ := ob.look
  obtain ⟨more, hrc⟩ := hp.rec_
  have J1 := I.tok (s.toks + 1)
  have hl : ([Value.ref a] ++ []).length = ps.length := by
    rw [← F.many _ _ _ _ h]
    rfl
  have hcl : (PySem.W.clsIn X.K C).isSome = true := by
    obtain ⟨cda, hcl, _⟩ := PySem.W.any_some c.hd
    rw [hcl]
    rfl
  refine PySem.W.get_bind I.kIn J (PySem.W.plainGet_of (c.get f)).1 (PySem.W.findObj_data hcl hp.at_ hp.get hp.tak) (PySem.W.plainGet_of (c.get f)).2 (wpAny_call (PySem.W.prop_get (s := { s with toks := s.toks + 1 }) I.kIn hrc ?_))
  refine codeAny_mono (F.goes X.A.in1 X.stack { s with toks := s.toks + 1 } H ⟨[.ref a], []⟩ [.ref a] [.ref a] Q E hr.in1 gd J1.env0.in1 (by have := hb _ [.ref a] J1.kIn hl; rw [List.append_nil] at this; exact this) (.cons rfl .nil) h) fun r s' hqq => ?_
  cases r with
  | error er => exact False.elim hqq
  | ok fl =>
    cases fl with
    | ret u =>
      obtain ⟨v, H', J3, rvv, qq3⟩ := J1.after hqq
      show wpAny _ X.A (handedOut u) _ _ _
      rw [PySem.W.handedOut_of (handed_of rvv)]
      exact wpAny_pure ⟨v, H', J3, rvv, qq3⟩
    | next => exact False.elim hqq
    | brk => exact False.elim hqq
    | cont => exact False.elim hqq
end
/-- of a class of the row: the name is a property whose getter means F -/
def PF (P : Program) (wo : World) (K : PySem.W.Frag) (mg : Str → Option Value) (b0 : Heap) (lv : Nat) (f : Str) (x : Str) (F : FF) : Prop :=
  ∀ C, mg x = some (.ref C) → ∃ p fn dat pars, Cls K C ∧ PropOf K C f p fn ∧ Rb.FnG P wo K mg b0 CX0 lv fn dat pars (spF (ct0 K mg) F) ∧ Binds K dat pars []
def dProp (tab : List (Str × FF)) (fo : FE) : FE := fun ρ S Q Ed => fo ρ S (fun d S1 => onSome (insOf S1 d) fun cf => onSome (tabF tab cf.1) fun F => F [d] S1 Q Ed) Ed
section
variable {X : Cx} {lv : Nat} {E : L2.St → XK} {e : Expr} {fo : FE} {f : Str} {tab : List (Str × FF)} {pos : Pos}
theorem d_prop (hct : ct X = ct0 X.K X.mg) (hx : ∀ p ∈ tab, PF X.prog X.w X.K X.mg X.base lv f p.1 p.2) (gd : X.A.guards = some []) (rm : Room (lv + 1) X.A) (he : PEd X E e fo)
    (hab : attributeBase e f X.env (eval e X.env) = eval e X.env := by rfl) : PEd X E (.Attribute e f pos) (dProp tab fo) := by
  refine ⟨fun pins s σ H Q I ⟨μ, S, ρ, Qd, Ed, w, en, hf, q, px⟩ => ?_⟩
  refine attr_of hab (thn (he.run pins s σ H (fun v H1 => ∃ a C dx fv p fn dat pars F d μ1 S1, v = .ref a ∧ H1 a = some (.ins C dx fv) ∧ Cls X.K C ∧ PropOf X.K C f p fn ∧ Rb.FnG X.prog X.w X.K X.mg X.base CX0 lv fn dat pars (spF (ct X) F) ∧ Binds X.K dat pars [] ∧
      Wd (ct X) μ1 S1 H1 ∧ Rp (ct X) μ1 H1 v d ∧ F [d] S1 Qd Ed ∧ PostV (ct X) μ1 H1 Qd Q ∧ PX (ct X) μ1 H1 Ed (E σ)) I ?_) fun u s1 hu => ?_)
  · refine tR_of w en hf px fun d S1 v H1 μ1 h1 f1 w1 en1 px1 r1 => ?_
    obtain ⟨⟨x, fs⟩, e1, h1⟩ := onSome_of h1
    obtain ⟨F, e2, h1⟩ := onSome_of h1
    obtain ⟨a, C, dx, fv, rfl, ha', hm, rf⟩ := id (r1.insT w1 e1)
    obtain ⟨p, fn, dat, pars, c1, c2, c3, c4⟩ := hx _ (tabF_mem e2) C hm
    rw [← hct] at c3
    exact ⟨a, C, dx, fv, p, fn, dat, pars, F, d, μ1, S1, rfl, ha', c1, c2, c3, c4, w1, r1, h1, PostV.fw q f1, px1⟩
  · obtain ⟨x, H1, J1, rel, a, C, dx, fv, p, fn, dat, pars, F, d, μ1, S1, rfl, ea, c1, c2, c3, c4, w1, r1, h1, q1, px1⟩ := hu
    obtain rfl : u = Value.ref a := rel
    exact getpropG J1 ea c1 c2 c3 gd rm c4 ⟨μ1, S1, [d], Qd, Ed, w1, .cons r1 .nil, h1, q1, px1⟩
end
/-! ### C(..) -/
section
variable {X : Cx} {cx : CXT} {k : Nat} {C f : Addr} {fd : FuncData} {ps : List Str} {sp : Sp} {E : XK}
theorem run_makeG {pins : List (Addr × Obj)} {σ : L2.St} {H : Hp} {s : Shared} {Q : VK} {us : List Value} {vs : List V} (M : Mk X.K C f) (F : Rb.FnG X.prog X.w X.K X.mg X.base cx k f fd ps sp) (gd : X.A.guards = some []) (hr : Room (k + 1) X.A) (hb : Binds X.K fd ps [])
    (hx : PassesAt cx X σ E) (I : Inv X pins σ H s) (r : Vals vs us)
    (h : ∀ x dx, H x = none → H dx = none → dx ≠ x → sp (.ref x :: vs) (upd (upd H dx (.own x)) x (.ins C dx [])) (fun v H2 => v = .non ∧ Q (.ref x) H2) E) : wpAny (model X.prog X.w) X.A (call (.ref C) us) (EP X pins σ Q) X.xe s := by
  have hqq := h (s.heap.objs.size + 1) s.heap.objs.size (I.hok.fresh (Nat.le_succ _)) (I.hok.fresh (Nat.le_refl _)) (Nat.ne_of_lt (Nat.lt_succ_self _))
  have J2 := Inv.made (C := C) I
  have rr2 : Vals (V.ref (s.heap.objs.size + 1) :: vs) (Value.ref (s.heap.objs.size + 1) :: us) := .cons rfl r
  have hl : (Value.ref (s.heap.objs.size + 1) :: us ++ []).length = ps.length := by
    rw [List.append_nil]
    have e := rr2.length
    rw [F.many _ _ _ _ hqq] at e
    exact e.symm
  have b := hb { s with heap := _ } (Value.ref (s.heap.objs.size + 1) :: us) J2.kIn hl
  rw [List.append_nil] at b
  refine wpAny_call (make_map (f := f) I.kIn M.makes M.init (beq_iff_eq.mp M.fn) (codeAny_mono (F.goes _ X.stack _ _ ⟨Value.ref (s.heap.objs.size + 1) :: us, []⟩ (Value.ref (s.heap.objs.size + 1) :: us) _ _ E (hr.make C us []) ?_
    (J2.env0.make C us []) b rr2 hqq) fun r s' hqz => ?_))
  · have e : (X.A.under (.builtin "type.__call__" ⟨Value.ref C :: us, []⟩)).guards = X.A.guards := by
      have z : (Code.builtin "type.__call__" ⟨Value.ref C :: us, []⟩).guards = [] := by
        unfold Code.guards
        rw [show (Code.builtin "type.__call__" ⟨Value.ref C :: us, []⟩).isGuard = false by with_unfolding_all rfl]
        rfl
      unfold Around.under
      simp only [z]
      cases X.A.guards <;> rfl
    rw [e]
    exact gd
  cases r with
  | error e => exact hx pins _ _ e s' J2 hqz
  | ok fl =>
    cases fl with
    | ret u =>
      obtain ⟨v, H', J3, rvv, ev, qq3⟩ := J2.after hqz
      subst ev
      exact ⟨rvv, ⟨V.ref (s.heap.objs.size + 1), H', J3, rfl, qq3⟩⟩
    | next => exact False.elim hqz
    | brk => exact False.elim hqz
    | cont => exact False.elim hqz
end
/-- of a class of the row: its __init__ means F -/
def MkF (P : Program) (wo : World) (K : PySem.W.Frag) (mg : Str → Option Value) (b0 : Heap) (cx : CXT) (lv : Nat) (C : Addr) (F : FF) : Prop :=
  ∃ fn dat pars, Mk K C fn ∧ Rb.FnG P wo K mg b0 cx lv fn dat pars (spF (ct0 K mg) F) ∧ Binds K dat pars []
def dMake (x : Str) (F : FF) (fa : FA) : FE := fun ρ S Q Ed => fa ρ S (fun ds S1 => F (.cell S1.length :: ds) (S1 ++ [.ins x []]) (fun d S2 => d = .non ∧ Q (.cell S1.length) S2) Ed) Ed
section
variable {X : Cx} {cx : CXT} {lv : Nat} {E : L2.St → XK} {C : Addr} {F : FF} {x : Str} {e : Expr} {es : List Expr} {fa : FA} {p pos : Pos}
theorem d_make (hct : ct X = ct0 X.K X.mg) (hC : MkF X.prog X.w X.K X.mg X.base cx lv C F) (gd : X.A.guards = some []) (rm : Room (lv + 1) X.A) (hg : Gl X x) (hm : X.mg x = some (.ref C)) (ps : ∀ σ, PassesAt cx X σ (E σ)) (ha : PAd X E (e :: es) fa)
    (ndb : (x == ("__debug__" : Str)) = false := by decide) (he : starEach (e :: es) X.env = (false, eval e X.env) :: starEach es X.env := by rfl) (hpl : (backTo pos (starEach es X.env)).any (·.1) = false := by rfl) :
    PEd X E (.Call (.Name x p) (e :: es) [] pos) (dMake x F fa) := by
  obtain ⟨fn, dat, pars, M, G, B⟩ := hC
  rw [← hct] at G
  refine ⟨fun pins s σ H Q I ⟨μ, S, ρ, Qd, Ed, w, en, hf, q, px⟩ => ?_⟩
  refine wpAny_Call_Name_kw (ld_glob I hg hm ?_ ndb)
  refine PySem.W.callWith_K (h₀ := X.base) I.ok.mod.kin M.kp (thn (ha.run pos pins s σ H (fun vs H1 => ∀ a dx, H1 a = none → H1 dx = none → dx ≠ a → spF (ct X) F (.ref a :: vs) (upd (upd H1 dx (.own a)) a (.ins C dx [])) (fun v H2 => v = .non ∧ Q (.ref a) H2) (E σ)) I ?_) fun us s1 ⟨vs, H1, J1, r, q1⟩ => ⟨J1.kIn, run_makeG M G gd rm B (ps σ) J1 r q1⟩) he hpl
  refine tR_of w en hf px fun ds S1 vs H1 μ1 h1 f1 w1 en1 px1 r1 a dx na nd ne => ?_
  have fA : Fw μ1 H1 μ1 (upd H1 dx (.own a)) := Fw.new nd
  have wA := w1.new (o := .own a) nd
  have na2 : upd H1 dx (HO.own a) a = none := by rw [upd_ne (Ne.symm ne)]; exact na
  have fB : Fw μ1 (upd H1 dx (.own a)) ⟨μ1.m ++ [a], μ1.av⟩ (upd (upd H1 dx (.own a)) a (.ins C dx [])) := Fw.newC na2
  have wB : Wd (ct X) ⟨μ1.m ++ [a], μ1.av⟩ (S1 ++ [.ins x []]) (upd (upd H1 dx (.own a)) a (.ins C dx [])) := wA.newC na2 ⟨C, dx, [], upd_same, hm, .nil⟩
  have rc : Rp (ct X) ⟨μ1.m ++ [a], μ1.av⟩ (upd (upd H1 dx (.own a)) a (.ins C dx [])) (.ref a) (.cell S1.length) := .cell (by
    show (μ1.m ++ [a])[S1.length]? = some a
    rw [← w1.len, List.getElem?_append_right (Nat.le_refl _), Nat.sub_self]
    rfl)
  refine ⟨⟨μ1.m ++ [a], μ1.av⟩, _, _, _, Ed, wB, .cons rc ((r1.fw w1 fA).fw wA fB), h1, fun d S' v H' μ' hqq fw w' r' => ?_, (px1.fw fA).fw fB⟩
  obtain ⟨rfl, hqq⟩ := hqq
  cases r'
  exact ⟨rfl, q _ S' _ H' μ' hqq (f1.trans (fA.trans (fB.trans fw))) w' (rc.fw wB fw)⟩
end
end Pu
namespace Pu
open PySem PySem.Spec PyProof.Rows L2
/-! ## values without a held error -/
mutual
def noX : D → Bool
  | .exc _ _ => false
  | .tup xs => noXs xs
  | .lst _ xs => noXs xs
  | .kls xs => noXs xs
  | .ins _ fs => noXf fs
  | _ => true
def noXs : List D → Bool
  | [] => true
  | x :: xs => noX x && noXs xs
def noXf : List (Str × D) → Bool
  | [] => true
  | (_, x) :: xs => noX x && noXf xs
end
/-- the same row, more errors held -/
structure CtLe (c c' : Ct) : Prop where
  K : c.K = c'.K
  mg : c.mg = c'.mg
  hx : ∀ a z, c.hx a = some z → c'.hx a = some z
section
variable {c c' : Ct} {μ : Mu} {H : Hp}
mutual
theorem Rp.ct (k : CtLe c c') : ∀ {v : V} {d : D}, Rp c μ H v d → Rp c' μ H v d
  | _, _, .non => .non
  | _, _, .bl b => .bl b
  | _, _, .int i => .int i
  | _, _, .str x => .str x
  | _, _, .tup h r => .tup h (RpAll.ct k r)
  | _, _, .lst h n1 n2 n3 r => .lst h n1 n2 n3 (RpAll.ct k r)
  | _, _, .kls h n1 n2 r => .kls h n1 n2 (RpAll.ct k r)
  | _, _, .klsK o its n h1 h2 h3 h4 h5 h6 r => .klsK o its n (k.K ▸ h1) h2 h3 h4 h5 h6 (RpAll.ct k r)
  | _, _, .dic h n n2 => .dic h n n2
  | _, _, .cell h => .cell h
  | _, _, .glo h r => .glo (k.mg ▸ h) r
  | _, _, .ty n => .ty n
  | _, _, .ins h n n2 g r => .ins h n n2 (k.mg ▸ g) (RpFs.ct k r)
  | _, _, .exc0 h g => .exc0 (k.hx _ _ h) (k.mg ▸ g)
  | _, _, .exc1 h g e r => .exc1 (k.hx _ _ h) (k.mg ▸ g) e (RpFs.ct k r)
theorem RpAll.ct (k : CtLe c c') : ∀ {vs : List V} {ds : List D}, RpAll c μ H vs ds → RpAll c' μ H vs ds
  | _, _, .nil => .nil
  | _, _, .cons h r => .cons (Rp.ct k h) (RpAll.ct k r)
theorem RpFs.ct (k : CtLe c c') : ∀ {vs : List (Str × V)} {ds : List (Str × D)}, RpFs c μ H vs ds → RpFs c' μ H vs ds
  | _, _, .nil => .nil
  | _, _, .cons h r => .cons (Rp.ct k h) (RpFs.ct k r)
end
/-! back, where no held error is mentioned -/
mutual
theorem Rp.un (eK : c'.K = c.K) (eg : c'.mg = c.mg) : ∀ {v : V} {d : D}, Rp c' μ H v d → noX d = true → Rp c μ H v d
  | _, _, .non, _ => .non
  | _, _, .bl b, _ => .bl b
  | _, _, .int i, _ => .int i
  | _, _, .str x, _ => .str x
  | _, _, .tup h r, n => .tup h (RpAll.un eK eg r n)
  | _, _, .lst h n1 n2 n3 r, n => .lst h n1 n2 n3 (RpAll.un eK eg r n)
  | _, _, .kls h n1 n2 r, n => .kls h n1 n2 (RpAll.un eK eg r n)
  | _, _, .klsK o its k h1 h2 h3 h4 h5 h6 r, n => .klsK o its k (eK ▸ h1) h2 h3 h4 h5 h6 (RpAll.un eK eg r n)
  | _, _, .dic h n n2, _ => .dic h n n2
  | _, _, .cell h, _ => .cell h
  | _, _, .glo h r, _ => .glo (eg ▸ h) r
  | _, _, .ty n, _ => .ty n
  | _, _, .ins h n1 n2 g r, n => .ins h n1 n2 (eg ▸ g) (RpFs.un eK eg r n)
  | _, _, .exc0 _ _, n => nomatch n
  | _, _, .exc1 _ _ _ _, n => nomatch n
theorem RpAll.un (eK : c'.K = c.K) (eg : c'.mg = c.mg) : ∀ {vs : List V} {ds : List D}, RpAll c' μ H vs ds → noXs ds = true → RpAll c μ H vs ds
  | _, _, .nil, _ => .nil
  | _, _, .cons h r, n => have n' := Bool.and_eq_true_iff.mp n; .cons (Rp.un eK eg h n'.1) (RpAll.un eK eg r n'.2)
theorem RpFs.un (eK : c'.K = c.K) (eg : c'.mg = c.mg) : ∀ {vs : List (Str × V)} {ds : List (Str × D)}, RpFs c' μ H vs ds → noXf ds = true → RpFs c μ H vs ds
  | _, _, .nil, _ => .nil
  | _, _, .cons h r, n => have n' := Bool.and_eq_true_iff.mp n; .cons (Rp.un eK eg h n'.1) (RpFs.un eK eg r n'.2)
end
/-! where none is held, none is mentioned -/
mutual
theorem Rp.free (no : ∀ a, c.hx a = none) : ∀ {v : V} {d : D}, Rp c μ H v d → noX d = true
  | _, _, .non => rfl
  | _, _, .bl b => rfl
  | _, _, .int i => rfl
  | _, _, .str x => rfl
  | _, _, .tup h r => RpAll.free no r
  | _, _, .lst h n1 n2 n3 r => RpAll.free no r
  | _, _, .kls h n1 n2 r => RpAll.free no r
  | _, _, .klsK o its k h1 h2 h3 h4 h5 h6 r => RpAll.free no r
  | _, _, .dic h n n2 => rfl
  | _, _, .cell h => rfl
  | _, _, .glo h r => rfl
  | _, _, .ty n => rfl
  | _, _, .ins h n1 n2 g r => RpFs.free no r
  | _, _, .exc0 h _ => by rw [no] at h; cases h
  | _, _, .exc1 h _ _ _ => by rw [no] at h; cases h
theorem RpAll.free (no : ∀ a, c.hx a = none) : ∀ {vs : List V} {ds : List D}, RpAll c μ H vs ds → noXs ds = true
  | _, _, .nil => rfl
  | _, _, .cons h r => Bool.and_eq_true_iff.mpr ⟨Rp.free no h, RpAll.free no r⟩
theorem RpFs.free (no : ∀ a, c.hx a = none) : ∀ {vs : List (Str × V)} {ds : List (Str × D)}, RpFs c μ H vs ds → noXf ds = true
  | _, _, .nil => rfl
  | _, _, .cons h r => Bool.and_eq_true_iff.mpr ⟨Rp.free no h, RpFs.free no r⟩
end
end
section
variable {c c' : Ct} {μ μ' : Mu} {S : Sto} {H H' : Hp} {σ : L2.St} {ρ : Rho}
theorem Wd.ct (k : CtLe c c') (w : Wd c μ S H) : Wd c' μ S H := ⟨w.nd, w.len, w.ap, w.avs, fun i a x h1 h2 => by
  have := w.ok i a x h1 h2
  cases x with
  | lst ds =>
    obtain ⟨vs, e, r⟩ := this
    exact ⟨vs, e, r.ct k⟩
  | ins y fs =>
    obtain ⟨C, dx, fv, e, g, r⟩ := this
    exact ⟨C, dx, fv, e, k.mg ▸ g, r.ct k⟩⟩
theorem EnvR.ct (k : CtLe c c') (en : EnvR c μ H σ ρ) : EnvR c' μ H σ ρ := ⟨en.len, fun i d h => let ⟨v, e, r⟩ := en.ok i d h; ⟨v, e, r.ct k⟩⟩
/-- the cells as they were before -/
theorem Wd.un (eK : c'.K = c.K) (eg : c'.mg = c.mg) (no : ∀ a, c.hx a = none) (w0 : Wd c μ S H) (w : Wd c' μ' S H') : Wd c μ' S H' := ⟨w.nd, w.len, w.ap, w.avs, fun i a x h1 h2 => by
  obtain ⟨a0, e0, o0⟩ := w0.atCell h2
  have := w.ok i a x h1 h2
  cases x with
  | lst ds =>
    obtain ⟨vs0, _, r0⟩ := o0
    obtain ⟨vs, e, r⟩ := this
    exact ⟨vs, e, r.un eK eg (r0.free no)⟩
  | ins y fs =>
    obtain ⟨_, _, fv0, _, _, r0⟩ := o0
    obtain ⟨C, dx, fv, e, g, r⟩ := this
    exact ⟨C, dx, fv, e, eg ▸ g, r.un eK eg (r0.free no)⟩⟩
/-- the slots as they were before, or without a held error -/
def sameX : Rho → Rho → Prop
  | [], [] => True
  | x :: r, y :: s => (x = y ∨ y = none ∨ ∃ d, y = some d ∧ noX d = true) ∧ sameX r s
  | _, _ => False
theorem sameX_at : ∀ {ρ ρ' : Rho} {i : Nat} {d : D}, sameX ρ ρ' → ρ'[i]? = some (some d) → ρ[i]? = some (some d) ∨ noX d = true
  | [], [], i, d, _, h => by simp at h
  | x :: r, y :: s, 0, d, h, e => by
    have e' : y = some d := by simpa using e
    rcases h.1 with z | z | ⟨d', z, n⟩
    · exact .inl (by rw [z, e']; rfl)
    · rw [z] at e'; cases e'
    · rw [z] at e'; cases e'; exact .inr n
  | x :: r, y :: s, i + 1, d, h, e => by
    rw [List.getElem?_cons_succ] at e ⊢
    exact sameX_at h.2 e
  | [], _ :: _, _, _, h, _ => h.elim
  | _ :: _, [], _, _, h, _ => h.elim
theorem EnvR.un {ρ0 : Rho} {σ0 : L2.St} {μ0 : Mu} {H0 : Hp} (eK : c'.K = c.K) (eg : c'.mg = c.mg) (no : ∀ a, c.hx a = none) (en0 : EnvR c μ0 H0 σ0 ρ0) (s : sameX ρ0 ρ) (en : EnvR c' μ H σ ρ) : EnvR c μ H σ ρ := ⟨en.len, fun i d h => by
  obtain ⟨v, e, r⟩ := en.ok i d h
  refine ⟨v, e, r.un eK eg ?_⟩
  rcases sameX_at s h with z | z
  · obtain ⟨_, _, r0⟩ := en0.ok i d z
    exact r0.free no
  · exact z⟩
end
/-! ## raise -/
def dRaise (x f : Str) (fe : FE) : FS := fun ρ S De Ed => fe ρ S (fun d S1 => Ed (x, [(f, d)]) S1) Ed
/-! ## statements in a try: what leaves by an error leans on the slots at their beginning -/
/-! ## try: .. except C as n: .. -/
theorem ct_calm {X : Cx} (h : X.calm = true) : ct X = ct0 X.K X.mg := by
  unfold ct
  rw [if_pos h]
end Pu
namespace Pu
open PySem PySem.Spec PyProof.Rows L2
/-! ## what a handler asks of its error -/
/-! ### isinstance -/
/-- of a class of errors x and a class named y (of the row or built in): whether y is above x -/
def lookX : List (Str × Str × Bool) → Str → Str → Option Bool
  | [], _, _ => none
  | (x, y, b) :: r, u, v => if x = u ∧ y = v then some b else lookX r u v
theorem lookX_mem : ∀ {tab : List (Str × Str × Bool)} {u v : Str} {b : Bool}, lookX tab u v = some b → (u, v, b) ∈ tab
  | [], _, _, _, h => by cases h
  | (x, y, c) :: r, u, v, b, h => by
    unfold lookX at h
    by_cases z : x = u ∧ y = v
    · rw [if_pos z] at h
      cases h
      obtain ⟨rfl, rfl⟩ := z
      exact List.mem_cons_self
    · rw [if_neg z] at h
      exact List.mem_cons_of_mem _ (lookX_mem h)
/-- what isinstance asks of a class of errors -/
structure OwnI (K : PySem.W.Frag) (C : Addr) : Prop where
  xf : XfC K C
  is : PySem.W.isClsIn K C = true
  cl : PySem.W.findIn K (.ref C) "__class__" = some (some (.builtin "object.__class__"))
  cg : PySem.W.specialIn K (.builtin "object.__class__") "__get__" = some (some (.builtin "getset_descriptor.__get__"))
  ct : PySem.W.takesIn K (.builtin "object.__class__") = some true
  co : PySem.W.mroIn K C (.type "object") = some true
def clsV (mg : Str → Option Value) (y : Str) (u : Value) : Prop := mg y = some u ∨ (mg y = none ∧ bootBuiltins y = some u)
def XI (K : PySem.W.Frag) (mg : Str → Option Value) (x y : Str) (b : Bool) : Prop := ∃ C, mg x = some (.ref C) ∧ OwnI K C ∧ ∀ u, clsV mg y u → PySem.W.kitOne K (.ref C) u = some b
def anyX (tab : List (Str × Str × Bool)) (x : Str) : List Str → Option Bool
  | [] => some false
  | y :: r => match lookX tab x y with | some true => some true | some false => anyX tab x r | none => none
/-- a class by its name, in an expression -/
structure ClE (X : Cx) (e : Expr) (y : Str) (u : Value) : Prop where
  ex : ∃ v, PE X e (tC v) ∧ ClsV v u
  at_ : clsV X.mg y u
/-- classes by their names -/
inductive ClEs (X : Cx) : List Expr → List Str → List Value → Prop where
  | nil : ClEs X [] [] []
  | cons {e : Expr} {es : List Expr} {y : Str} {ys : List Str} {u : Value} {us : List Value} (h : ClE X e y u) (r : ClEs X es ys us) (hs : starEach (e :: es) X.env = (false, eval e X.env) :: starEach es X.env := by rfl) : ClEs X (e :: es) (y :: ys) (u :: us)
section
variable {X : Cx} {E : L2.St → XK} {a : Addr} {oe : Obj} {pn : List (Addr × Obj)} {i : Nat} {tab : List (Str × Str × Bool)} {e ce : Expr} {ces : List Expr} {y : Str} {ys : List Str} {u : Value} {us : List Value} {p pos tpos : Pos} {kt : Nat}
theorem ClEs.any {K : PySem.W.Frag} {x : Str} {C : Addr} {X' : Cx} (hx : X'.mg x = some (.ref C)) (ht : ∀ z ∈ tab, XI K X'.mg z.1 z.2.1 z.2.2) : ∀ {es : List Expr} {ys : List Str} {us : List Value} {b : Bool}, ClEs X' es ys us → anyX tab x ys = some b → PySem.W.kitAny K (.ref C) us = some b
  | _, _, _, b, .nil, e => by cases e; rfl
  | _, _, _, b, .cons (y := y) h r _, e => by
    unfold anyX at e
    unfold PySem.W.kitAny
    cases e1 : lookX tab x y with
    | none => rw [e1] at e; cases e
    | some k =>
      rw [e1] at e
      obtain ⟨C', gC, _, hk⟩ := ht _ (lookX_mem e1)
      have : C' = C := by
        have z : X'.mg x = some (.ref C') := gC
        rw [hx] at z
        cases z
        rfl
      subst this
      rw [hk _ h.at_]
      cases k with
      | true => cases e; rfl
      | false => exact ClEs.any hx ht r e
end
end Pu
namespace Pu
open PySem PySem.Spec PyProof.Rows L2
/-! ## defs that may raise -/
theorem FnG_mono {pr : Program} {wo : World} {K : PySem.W.Frag} {mg : Str → Option Value} {b0 : Heap} {cx : CXT} {lv l2 : Nat} {fn : Addr} {dat : FuncData} {pars : List Str} {sp : Sp} (F : Rb.FnG pr wo K mg b0 cx lv fn dat pars sp) (h : lv ≤ l2) : Rb.FnG pr wo K mg b0 cx l2 fn dat pars sp :=
  ⟨F.many, fun A out s H ar us xs Q E r g e b v p => F.goes A out s H ar us xs Q E (r.mono h) g e b v p⟩
theorem passLG {X : Cx} : ∀ σ, PassesAt (L2.CX X.prog X.w) X σ (cE E0 σ) := fun σ pins H s e s' I z => (passL (X := X) pins σ H s e s' I z)
section
variable {pr : Program} {wo : World} {K : PySem.W.Frag} {mg : Str → Option Value} {b0 : Heap} {lv : Nat} {x qn : Str} {st : Stmt} {fn : Addr} {dat : FuncData} {NN pars : List Str} {fb : FS}
theorem d_fnX (F : Fun K x qn st fn dat) (S : FnScope NN pars (defScope st))
    (body : ∀ (cdv : Value) (A : Around) (out : List Env) (s : Shared) (H : Hp) (E : XK), A.guards = some [] → Room lv (A.deeper (envOfC qn (defScope st) s.heap.objs.size fn cdv)) → PBd (cxOf (L2.CX pr wo) pr wo K mg b0 NN qn (defScope st) fn cdv A out s H E) E (defBody st) fb) :
    Rb.FnG pr wo K mg b0 (L2.CX pr wo) (lv + 1) fn dat pars (spF (ct0 K mg) (dDefX pars.length NN.length fb)) := by
  obtain ⟨oc, od, kV, dc, pv, an, cdv, ct, osl, rfl, at_, code⟩ := F.ex
  refine Rb.fnG_of at_ code S (fun xs H Q E pro => ?_) fun A out s H xs Q E gd rm pro => ⟨_, body cdv A out s H E gd rm, ?_⟩
  · obtain ⟨μ, S, ds, Qd, Ed, w, r, ⟨hl, _⟩, _⟩ := pro
    rw [r.length]
    exact hl
  · obtain ⟨μ, S, ds, Qd, Ed, w, r, ⟨hl, h⟩, q, px⟩ := pro
    exact ⟨μ, S, _, _, Ed, w, startD_env r, h, ⟨fun ρ' S' σ' H' μ' hq f w' en => q .non S' .non H' μ' hq f w' .non, q, fun _ _ _ _ _ z => z.elim, fun _ _ _ _ _ z => z.elim⟩, px⟩
end
/-! ## list.count of bools -/
/-! ## isinstance of values, instances among them -/
/-- of a class of the row: what isinstance asks of its instances -/
structure InsT (K : PySem.W.Frag) (C : Addr) : Prop where
  cl : Cls K C
  ha : PySem.W.findIn K (.ref C) "__class__" = some (some (.builtin "object.__class__"))
  hn : PySem.W.specialIn K (.builtin "object.__class__") "__get__" = some (some (.builtin "getset_descriptor.__get__"))
  tk : PySem.W.takesIn K (.builtin "object.__class__") = some true
  hm : PySem.W.mroIn K C (.type "object") = some true
end Pu
namespace Pu
open PySem PySem.Spec PyProof.Rows L2
/-! ## small words for the printed terms -/
theorem all0 {α : Type} {P : α → Prop} : ∀ x ∈ ([] : List α), P x := fun _ z => nomatch z
theorem allS {α : Type} {P : α → Prop} {a : α} {l : List α} (h : P a) (r : ∀ x ∈ l, P x) : ∀ x ∈ a :: l, P x := fun x hx => by
  rcases List.mem_cons.mp hx with rfl | hx
  · exact h
  · exact r x hx
section
variable {K : PySem.W.Frag} {mg : Str → Option Value} {x f y : Str} {C : Addr}
theorem clf (c : Cls K C) (g : mg x = some (.ref C)) (n : NoAttr K C f) : ClF K mg f x := fun C' h => by
  rw [g] at h
  cases h
  exact ⟨c, n⟩
theorem pf_of {P : Program} {w : World} {b0 : Heap} {lv : Nat} {F : FF} {fn p : Addr} {dat : FuncData} {pars : List Str} (g : mg x = some (.ref C)) (c : Cls K C) (h : PropOf K C f p fn) (G : Rb.FnG P w K mg b0 CX0 lv fn dat pars (spF (ct0 K mg) F)) (b : Binds K dat pars []) : PF P w K mg b0 lv f x F := fun C' z => by
  rw [g] at z
  cases z
  exact ⟨_, _, _, _, c, h, G, b⟩
end
end Pu
namespace Pu
open PySem PySem.Spec PyProof.Rows L2
/-! ## len(o), o[i]: a class's own methods -/
section
variable {X : Cx} {cx : CXT} {lv : Nat} {fn : Addr} {dat : FuncData} {pars : List Str} {sp : Sp}
theorem runGS1 {pins : List (Addr × Obj)} {σ : L2.St} {H : Hp} {s : Shared} {Q : VK} {us : List Value} {xs : List V} {E1 : XK} (F : Rb.FnG X.prog X.w X.K X.mg X.base cx lv fn dat pars sp) (gd : X.A.guards = some []) (rm : Room (lv + 1) X.A)
    (bi : Binds X.K dat pars []) (ps : PassesAt cx X σ E1) (I : Inv X pins σ H s) (vx : Vals xs us) (pro : sp xs H Q E1) :
    wpAny (model X.prog X.w) X.A.in1 (call (.ref fn) us) (EP X pins σ Q) X.xe s := by
  have l2 : (us ++ []).length = pars.length := by rw [List.append_nil]; exact vx.length ▸ F.many _ _ _ _ pro
  have b := bi s us I.kIn l2
  rw [List.append_nil] at b
  refine wpAny_call (codeAny_mono (F.goes X.A.in1 X.stack s H ⟨us, []⟩ us xs Q E1 rm.in1 gd I.env0.in1 b vx pro) ?_)
  intro res s2 fin
  match res, fin with
  | .error e, fin => exact ps pins H s e s2 I fin
  | .ok (.ret u), fin => exact I.after fin
  | .ok .next, fin => exact (fin : False).elim
  | .ok .brk, fin => exact (fin : False).elim
  | .ok .cont, fin => exact (fin : False).elim
end
end Pu
namespace Pu
open PySem PySem.Spec PyProof.Rows L2
/-- sorted of a tuple of whole numbers -/
def gSortTI : List D → Sto → QD → Prop := fun ds S Q => match ds with
  | [.tup xs] => onSome (intsOf xs) fun ns => Q (.lst false ((Rb.srt ns).map D.int)) S
  | _ => False
theorem c_sortTI {X : Cx} : CallR X (.builtin "sorted") (rDs (ct X) gSortTI) := by
  intro pins s σ H vs us Q I r ⟨μ, S, ds, Qd, w, ra, hg, q⟩
  unfold gSortTI at hg
  split at hg
  · obtain ⟨v, rfl, rv⟩ := ra.one
    obtain ⟨ns, e, hg⟩ := onSome_of hg
    obtain ⟨a, ws, rfl, ha, rs⟩ := rv.tup_inv
    rw [intsOf_inv e] at rs
    rw [rs.ints] at ha
    obtain ⟨u, rfl, ru⟩ := vals1 r
    obtain rfl : u = Value.ref a := ru
    obtain ⟨its, rt, ⟨o, ho, hc, n, hd⟩, hz⟩ := I.tuple (SqT.of ha)
    have are : IntsAre its ns := rt.ints
    have len : its.length ≤ sizeLine := by rw [← rt.length]; exact hz
    refine Calls.call_function_entry kind_sorted plain_sorted entry_sorted (args_sorted1 _) ?_
    unfold Builtin.«sorted»
    refine wpAny_bind (m := checkCount "sorted" 1 1 _) (wpAny_pure (wpAny_bind (wpAny_collect_seq a (.inr rfl) ho hc hd (fun h' hk => ?_) (by rw [List.size_toArray]; exact len))))
    rw [show its.toArray.toList = its from rfl]
    have I1 := I.kept (t' := s.toks) hk
    refine wpAny_bind (wpAny_newList ?_ len)
    have at1 : (h'.push (seqObj "list" its.toArray 0)).get? h'.objs.size = some (seqObj "list" its.toArray 0) := Heap.get?_push_size _ rfl
    refine wpAny_bind (wpAny_holding (wpAny_call_entry PyProof.Rows.slot_list_sort ⟨_, at1, rfl⟩ PyProof.Rows.entry_list_sort (SrtO.list_sort_ord SrtO.swo_int at1 len (fun h2 => SrtO.ints_sortable are h2) fun out c1 c2 => ⟨_, rfl, ?_⟩) (PyProof.Rows.args_list_sort _)))
    obtain ⟨a1, a2, a3⟩ := SrtO.ints_out are c1 c2
    obtain ⟨c, hc2⟩ := PyProof.Rows.sortedHeap_at (vs := its) (out := out.toArray) at1
    have fin := q.lst (μ := μ) w (RpAll.ofInts _) hg (I1.hok.fresh (Nat.le_refl _))
    rw [← Rb.srt_uniq a2 a3] at fin
    refine wpAny_pure ⟨_, rfl, .ref h'.objs.size, upd H h'.objs.size (.lst ((out.map SrtO.iv).map V.int)), I1.laid (t' := s.toks) (fun b x e => ?_) (Nat.le_refl _) ⟨?_, out, c, vals_of_ints a1, hc2⟩, rfl, fin⟩
    · have bl := Heap.lt_size e
      show (PyProof.Rows.sortedHeap (h'.push (seqObj "list" its.toArray 0)) h'.objs.size its out.toArray).get? b = some x
      rw [PyProof.Rows.sortedHeap_old (Nat.ne_of_lt bl) (by rw [Heap.size_push]; exact Nat.lt_succ_of_lt bl)]
      exact Heap.get?_push_of_some _ e
    · rw [List.length_map, a2.length_eq, ← are.length]
      exact len
  · exact hg.elim
end Pu
namespace Pu
open PySem PySem.Spec PyProof.Rows L2
/-! ## own errors over any built-in class: with one field, or with none -/
/-- of a class of errors: over the built-in class whose order of classes is bs, whose objects nw makes -/
structure ErrC (kit : PySem.W.Frag) (at_ : Addr) (bs : List Value) (nw : String) : Prop where
  mkd : PySem.W.excInitIn kit at_ bs nw = true
  ov : PySem.W.excOver kit at_ bs = true
  hd : PySem.W.hasDictIn kit at_ = true
  sa : PySem.W.findIn kit (.ref at_) "__setattr__" = some (some (.builtin "object.__setattr__"))
  ex : PySem.W.subIn kit (.ref at_) (.type "BaseException") = some true
  ty : PySem.W.typeIn kit (.ref at_) = some (.type "type")
  kp : PySem.W.keepIn kit (.ref at_) = true
section
variable {X : Cx} {pins : List (Addr × Obj)} {σ : L2.St} {H : Hp} {s : Shared} {a C : Addr} {f : Str} {y : V} {u : Value} {bs : List Value} {nw B : String}
theorem upd_twice {a b : Addr} {o p q : HO} (n : a ≠ b) : upd (upd (upd H b o) a p) b q = upd (upd H b q) a p := by
  funext z
  by_cases h1 : z = b
  · subst h1
    rw [upd_same, upd_ne (Ne.symm n), upd_same]
  · rw [upd_ne h1]
    by_cases h2 : z = a
    · subst h2
      rw [upd_same, upd_same]
    · rw [upd_ne h2, upd_ne h2, upd_ne h1, upd_ne h1]
/-- the first field of an error that is being made: in three steps, the empty dict, the error that has it, the field in it -/
theorem put_first (T : ErrC X.K C bs nw) (SF : StoreFacts B bs "object.__setattr__" "object") (I : Inv X pins σ H s) (at_ : H a = some (exo a C none)) (no : PySem.W.findIn X.K (.ref C) f = some none) (ry : RelV y u) {A : Around} {Q : Unit → Shared → Prop} {E : Value → Shared → Prop}
    (k : ∀ n s', H n = none → n ≠ a → Inv X pins σ (upd (upd H n (exd n [(f, y)])) a (exo a C (some n))) s' → Q () s') : wpAny (model X.prog X.w) A (setAttr (.ref a) f u) Q E s := by
  obtain ⟨t1, here⟩ := exo_at I.hok at_
  obtain ⟨cd, hc, hasd⟩ := PySem.W.any_some T.hd
  obtain ⟨hp, gs, dr, tk, os⟩ := s
  have lt : a < hp.objs.size := Heap.lt_size here
  have tkr : PySem.W.takerIn X.K C f = some none := by unfold PySem.W.takerIn; rw [no]; rfl
  refine PySem.W.set_plain I.kIn (od := none) ⟨here, rfl, rfl, trivial⟩ T.sa (PySem.W.osa_openX (od := none) SF I.kIn ⟨here, rfl, rfl, trivial⟩ T.ov tkr fun b => ?_)
  refine wpAny_bind (wpAny_pure (wpAny_bind (PySem.W.instanceDict_exc here (PySem.W.looks_clsIn I.kIn hc) hasd ?_)))
  have newd : (hp.push (PySem.W.dictOf [] 0)).get? hp.objs.size = some (PySem.W.dictOf [] 0) := Heap.get?_push_at rfl rfl
  have empty : (hp.push (PySem.W.dictOf [] 0)).Ns hp.objs.size (fun _ => none) := ⟨_, #[], _, newd, rfl, fun e he => absurd he (by simp), fun _ => rfl⟩
  have stay : ∀ b o, b ≠ a → (hp.push (PySem.W.dictOf [] 0)).get? b = some o → ((hp.push (PySem.W.dictOf [] 0)).update a fun o => { o with dict := some hp.objs.size }).get? b = some o := fun b o n q => (Heap.get?_update_ne _ _ _ _ n).trans q
  have has : ((hp.push (PySem.W.dictOf [] 0)).update a fun o => { o with dict := some hp.objs.size }).get? a = some ({ cls := .ref C, dict := some hp.objs.size, data := .fields #[.ref t1, .none, .none, .none, .bool false, .none] } : Obj) := Heap.get?_update_self _ (Heap.get?_push_of_some _ here) rfl
  have I1 := I.laid (a := hp.objs.size) (o := exd hp.objs.size []) (h' := hp.push (PySem.W.dictOf [] 0)) (t' := tk) (fun b o q => Heap.get?_push_of_some _ q) (Nat.le_refl _) (exd_ok (Heap.Ns1.of_empty empty) fun _ => True.intro)
  have I2 := I1.write (x := a) (e := a) (o := exo a C (some hp.objs.size)) (t' := tk) (by rw [upd_ne (Nat.ne_of_lt lt), at_]; exact True.intro) (.inl rfl) stay ⟨_, has⟩ (exo_ok has)
  show wpAny _ _ (Builtin.ObjectAttr.storeInDict hp.objs.size (.str f _) f u) _ _ _
  refine PySem.HandSPX.store_in_new ⟨_, #[], _, stay _ _ (Nat.ne_of_gt lt) newd, rfl, fun e he => absurd he (by simp), fun _ => rfl⟩ fun h' t' named same => ?_
  have I3 := I2.write (x := hp.objs.size) (e := hp.objs.size) (o := exd hp.objs.size [(f, y)]) (t' := t') (h' := h') (by rw [upd_ne (Nat.ne_of_gt lt), upd_same]; exact True.intro) (.inl rfl) (fun b o n q => (same.2 b n).trans q)
    (by obtain ⟨o, _, _, e', _⟩ := named; exact ⟨o, e'⟩) (exd_ok named (relO_put (fs := []) ry fun _ => True.intro))
  rw [upd_twice (Nat.ne_of_lt lt)] at I3
  exact k _ _ (I.hok.fresh (Nat.le_refl _)) (Nat.ne_of_gt lt) I3
/-- self.f = e in the __init__ of such a class -/
def tPutE (K : PySem.W.Frag) (bs : List Value) (nw : String) (f : Str) (to te : TE) : TS := fun D σ H => te σ H fun y H1 => to σ H1 fun x H2 => ∃ a C : Addr, (x = .ref a ∧ H2 a = some (exo a C none)) ∧ ErrC K C bs nw ∧ PySem.W.findIn K (.ref C) f = some none ∧
  ∀ n, H2 n = none → n ≠ a → D.nx σ (upd (upd H2 n (exd n [(f, y)])) a (exo a C (some n)))
theorem ps_putE (SF : StoreFacts B bs "object.__setattr__" "object") {o e : Expr} {to te : TE} {p' pos : Pos} (ho : PE X o to) (he : PE X e te) (sw : swapsWith e (some (.Attribute o f p')) pos.line X.env = pure false := by rfl) :
    PS X (.Assign [.Attribute o f p'] e pos) (tPutE X.K bs nw f to te) := by
  refine ⟨fun pins s σ H D I pre => plainObj_wpAny_Assign_Attribute (thn (he.run pins s σ H _ I pre) fun _ s1 ⟨y, H1, I1, ry, q1⟩ => thn (ho.run pins s1 σ H1 _ I1 q1) fun _ s2 ⟨x, H2, I2, rx, a, C, ⟨ex, at_⟩, T, no, go⟩ => ?_) sw⟩
  subst ex
  cases rx
  exact put_first T SF I2 at_ no ry fun n s' fresh ne J => ⟨σ, _, J, go n fresh ne⟩
/-- __init__(self, f): self.f = f -/
theorem iniE {P : Program} {w : World} {K : PySem.W.Frag} {mg : Str → Option Value} {base : Heap} {fI : Addr} {fd : FuncData} {x qn : Str} {st : Stmt} {s0 : Str} (F : Fun K x qn st fI fd) (S : FnScope [s0, f] [s0, f] (defScope st)) (T : ErrC K C bs nw) (no : PySem.W.findIn K (.ref C) f = some none)
    (b : ∀ (cdv : Value) (A : Around) (out : List Env) (s : Shared) (H : Hp) (E : XK), PSs (cxOf CX0 P w K mg base [s0, f] qn (defScope st) fI cdv A out s H E).nox (defBody st) (tPutE K bs nw f (tVar 0) (tVar 1))) : FnOk P w K mg base CX0 1 fI fd [s0, f] (Rb.spIni K C f) := by
  refine F.ok S (fun vs H Q E ⟨a, y, e, _⟩ => by rw [e]; rfl) fun cdv A outer s H vs Q E rm ⟨a, y, e, at_, go⟩ => ?_
  subst e
  exact ⟨_, b cdv A outer s H E, _, rfl, _, rfl, a, C, ⟨rfl, at_⟩, T, no, go⟩
/-- C(e): the error is made, its one field is the value -/
theorem pmkE {ini : String} {x : Str} {e : Expr} {te : TE} {fI : Addr} {lv : Nat} {fd : FuncData} {sps : List Str} {p pos : Pos} (FB : ExcBaseFacts B nw ini bs) (T : ErrC X.K C bs nw) (iC : PySem.W.findIn X.K (.ref C) "__init__" = some (some (.ref fI)))
    (tI : PySem.W.typeIn X.K (.ref fI) = some (.type "function")) (G : FnOk X.prog X.w X.K X.mg X.base CX0 lv fI fd sps (Rb.spIni X.K C f)) (rm : Room (lv + 1) X.A) (hb : Binds X.K fd sps []) (gl : Gl X x) (at_ : X.mg x = some (.ref C)) (he : PE X e te)
    (ndb : (x == ("__debug__" : Str)) = false := by decide) (s1 : starEach [e] X.env = (false, eval e X.env) :: starEach [] X.env := by rfl) (s2 : (backTo pos (starEach [] X.env)).any (·.1) = false := by rfl) :
    PMk X (.Call (.Name x p) [e] [] pos) (fun σ H Q => te σ H fun y H1 => ∀ n, H1 n = none → Q (.ref C) (some n) (upd H1 n (.xd [(f, y)]))) := by
  intro pins s σ H Q I pre
  have pa : PA X [e] (tCons te tNil) := pa_cons he pa_nil s1
  refine wpAny_Call_Name_kw (ld_glob I gl at_ ?_ ndb)
  refine PySem.W.callWith_K (h₀ := X.base) I.ok.mod.kin T.kp (thn (pa.run pos pins s σ H (fun vs H1 => match vs with | [y] => ∀ n, H1 n = none → Q (.ref C) (some n) (upd H1 n (.xd [(f, y)])) | _ => False) I pre) fun us s1 ⟨vs, H1, I1, rs, q1⟩ => ⟨I1.kIn, ?_⟩) s1 s2
  match vs, q1 with
  | [y], q1 =>
    obtain ⟨u, rfl, ru⟩ := rs.one
    obtain ⟨nm, N, qn, bs', bm, hdct, sn, sub, ab, col, dd, k0, k1, k2, k3, k5, isC, tail⟩ := PySem.W.excInit_of I1.kIn T.mkd
    obtain ⟨hp, gs, dr, tk, os⟩ := s1
    have fresh : H1 (hp.objs.size + 1) = none := I1.hok.fresh (Nat.le_succ _)
    have old : ∀ b o, hp.get? b = some o → ((hp.push (PySem.W.kdv_tup [u])).push (PySem.HandSPX.excO C hp.objs.size)).get? b = some o := fun b o z => Heap.get?_push_of_some _ (Heap.get?_push_of_some _ z)
    have made : ((hp.push (PySem.W.kdv_tup [u])).push (PySem.HandSPX.excO C hp.objs.size)).get? (hp.objs.size + 1) = some (PySem.HandSPX.excO C hp.objs.size) := by heap_get
    have I2 := I1.laid (t' := tk) (a := hp.objs.size + 1) (o := exo (hp.objs.size + 1) C none) old (Nat.le_succ _) (exo_ok made)
    have rs2 : Vals [V.ref (hp.objs.size + 1), y] [Value.ref (hp.objs.size + 1), u] := .cons rfl (.cons ru .nil)
    have job := (Rb.mkO_of (K := X.K) (C := C) (f := f) (y := y) (W := Q) q1).2 (hp.objs.size + 1) fresh
    have many : [Value.ref (hp.objs.size + 1), u].length = sps.length := rs2.length.symm.trans (G.len _ _ _ _ job)
    refine wpAny_call (PySem.HandSPX.call_own FB tail isC (PySem.W.looks_findIn I1.kIn iC) (fun self => PySem.W.bind_fn I1.kIn self tI) (by show 1 ≤ sizeLine; rw [sizeLine_eq]; omega) ?_)
    refine codeAny_mono (G.run _ X.stack _ _ ⟨[Value.ref (hp.objs.size + 1), u], []⟩ [Value.ref (hp.objs.size + 1), u] _ _ (fun _ _ _ => False) (rm.make C [u] []) (I2.env0.make C [u] []) (hb _ _ I2.kIn many) rs2 job) fun r s' fin => ?_
    match r, fin with
    | .ok (.ret w), fin =>
      obtain ⟨v, H2, os2, bare, un, hok, rv, rfl, n, fs, ea, ed, hn, q2⟩ := fin
      exact ⟨rv, mk_end (raises_own T.ex T.ty) I1 (Nat.le_succ _) old un hok os2 bare ea ed hn q2⟩
    | .ok .next, fin => exact (fin : False).elim
    | .ok .brk, fin => exact (fin : False).elim
    | .ok .cont, fin => exact (fin : False).elim
    | .error er, fin =>
      obtain ⟨_, _, _, _, _, _, _, _, _, _, _, _, _, _, _, _, z⟩ := fin
end
section
variable {X : Cx} {E : XK} {C fI : Addr} {fd : FuncData} {lv : Nat} {x f : Str} {sps : List Str} {e : Expr} {fe : FE} {bs : List Value} {nw B ini : String} {p p2 pos : Pos}
/-- raise C(e) -/
theorem d_raiseE (hc : X.calm = true) (tk : Takes X (fun cls d _ H => E cls d H)) (FB : ExcBaseFacts B nw ini bs) (T : ErrC X.K C bs nw) (iC : PySem.W.findIn X.K (.ref C) "__init__" = some (some (.ref fI))) (tI : PySem.W.typeIn X.K (.ref fI) = some (.type "function"))
    (G : FnOk X.prog X.w X.K X.mg X.base CX0 lv fI fd sps (Rb.spIni X.K C f)) (rm : Room (lv + 1) X.A) (hb : Binds X.K fd sps []) (gl : Gl X x) (at_ : X.mg x = some (.ref C)) (he : PEd X (cE E) e fe)
    (ndb : (x == ("__debug__" : Str)) = false := by decide) (s1 : starEach [e] X.env = (false, eval e X.env) :: starEach [] X.env := by rfl) (s2 : (backTo p2 (starEach [] X.env)).any (·.1) = false := by rfl) :
    PSd X E (.Raise (some (.Call (.Name x p) [e] [] p2)) none pos) (dRaise x f fe) := by
  refine PS.imp (ps_raise hc tk (pmkE FB T iC tI G rm hb gl at_ he ndb s1 s2)) fun D σ H ⟨μ, S, ρ, De, Ed, w, en, hf, k, px⟩ => ?_
  exact tR_of w en hf px fun d S1 v H1 μ1 h1 f1 w1 en1 px1 r1 n free => px1 (x, [(f, d)]) S1 (.ref C) (some n) _ μ1 h1 (Fw.new free) (w1.new free) ⟨at_, n, [(f, v)], rfl, upd_same, .cons (r1.fw w1 (Fw.new free)) .nil⟩
end
end Pu
namespace Pu
open PySem PySem.Spec PyProof.Rows L2
/-! ## a class's own operators: a + b, a >> i, a == b, x in a, a(x) -/
/-- of a class of the row: the def under the name dn means F -/
def OpF (P : Program) (wo : World) (K : PySem.W.Frag) (mg : Str → Option Value) (b0 : Heap) (cx : CXT) (lv : Nat) (dn : Str) (x : Str) (F : FF) : Prop :=
  ∀ C, mg x = some (.ref C) → ∃ fn dat pars, (PySem.W.findIn K (.ref C) dn = some (some (.ref fn)) ∧ PySem.W.isFn K (.ref fn) = true ∧ PySem.W.fnIn K fn = true ∧ PySem.W.selfFirst K C = true) ∧ Rb.FnG P wo K mg b0 cx lv fn dat pars (spF (ct0 K mg) F) ∧ Binds K dat pars []
theorem op_of {P : Program} {wo : World} {K : PySem.W.Frag} {mg : Str → Option Value} {b0 : Heap} {cx : CXT} {lv : Nat} {dn x : Str} {F : FF} {C fn : Addr} {dat : FuncData} {pars : List Str} (g : mg x = some (.ref C)) (a : PySem.W.findIn K (.ref C) dn = some (some (.ref fn))) (b : PySem.W.isFn K (.ref fn) = true)
    (c : PySem.W.fnIn K fn = true) (d : PySem.W.selfFirst K C = true) (G : Rb.FnG P wo K mg b0 cx lv fn dat pars (spF (ct0 K mg) F)) (B : Binds K dat pars []) : OpF P wo K mg b0 cx lv dn x F := fun C' h => by
  rw [g] at h
  cases h
  exact ⟨fn, dat, pars, ⟨a, b, c, d⟩, G, B⟩
/-- what stands when both operands are there -/
def Two (X : Cx) (cx : CXT) (lv : Nat) (E1 : XK) (Q : VK) (x y : V) (H : Hp) (Y : Addr → Addr → V → Hp → Prop) : Prop :=
  ∃ (a C dx : Addr) (fv : List (Str × V)) (fn : Addr) (dat : FuncData) (pars : List Str) (F : FF) (d i : D) (μ : Mu) (S : Sto) (Qd : QD) (Ed : ED), (x = .ref a ∧ H a = some (.ins C dx fv) ∧ Y C fn y H) ∧
    Rb.FnG X.prog X.w X.K X.mg X.base cx lv fn dat pars (spF (ct X) F) ∧ Binds X.K dat pars [] ∧ Wd (ct X) μ S H ∧ Rp (ct X) μ H x d ∧ Rp (ct X) μ H y i ∧ F [d, i] S Qd Ed ∧ PostV (ct X) μ H Qd Q ∧ PX (ct X) μ H Ed E1
theorem noNI {v : V} {u : Value} (r : RelV v u) : u ≠ .notImplemented := fun z => by
  subst z
  cases v with
  | int _ => obtain ⟨_, e⟩ := r; cases e
  | str _ => obtain ⟨_, e⟩ := r; cases e
  | byt _ => obtain ⟨_, e⟩ := r; cases e
  | flt _ => obtain ⟨_, e⟩ := r; cases e
  | _ => cases r
theorem cmpBack {Q : Value → Shared → Prop} {u : Value} {s : Shared} (n : u ≠ .notImplemented) (q : Q u s) : PySem.W.CmpBack Q u s := by
  cases u <;> first | exact q | exact absurd rfl n
section
variable {X : Cx} {cx : CXT} {lv : Nat} {tab : List (Str × FF)}
theorem Two.run {pins : List (Addr × Obj)} {σ : L2.St} {s : Shared} {E1 : XK} {Q : VK} {x y : V} {v u : Value} {H : Hp} {Y : Addr → Addr → V → Hp → Prop} (gd : X.A.guards = some []) (rm : Room lv X.A) (ps : PassesAt cx X σ E1) (I : Inv X pins σ H s) (rx : RelV x v) (ry : RelV y u) (t : Two X cx lv E1 Q x y H Y) :
    ∃ (a C fn : Addr) (ox : Obj) (od : Option Obj) (m : Str → Option Value), v = .ref a ∧ Y C fn y H ∧ ox.data = .plain ∧ PySem.W.InstAt s.heap a ox C od ∧ Fr X.base X.env.locals s.heap m ∧ wpAny (model X.prog X.w) X.A (call (.ref fn) [.ref a, u]) (EP X pins σ Q) X.xe s := by
  obtain ⟨a, C, dx, fv, fn, dat, pars, F, d, i, μ, S, Qd, Ed, ⟨rfl, ea, hy⟩, c4, c5, w2, r1, r2, h2, q2, px2⟩ := t
  obtain rfl : v = Value.ref a := rx
  obtain ⟨mm, ob, _, _, _, _⟩ := ins_get I.hok ea
  obtain ⟨od, J, _⟩ := ob.look
  obtain ⟨m, fr⟩ := I.fr
  exact ⟨a, C, fn, _, od, m, rfl, hy, rfl, J, fr, runGS (us := [.ref a, u]) (xs := [.ref a, y]) c4 gd rm c5 ps I (.cons rfl (.cons ry .nil)) ⟨μ, S, [d, i], Qd, Ed, w2, .cons r1 (.cons r2 .nil), h2, q2, px2⟩⟩
/-- a == b, both of one class -/
def gEqO (tab : List (Str × FF)) : G2 := fun x y S Q => onSome (insOf S x) fun cf => onSome (insOf S y) fun cg => cg.1 = cf.1 ∧ onSome (tabF tab cf.1) fun F => F [x, y] S Q noE
theorem o_eqO (hct : ct X = ct0 X.K X.mg) (hx : ∀ p ∈ tab, OpF X.prog X.w X.K X.mg X.base CX0 lv "__eq__" p.1 p.2) (gd : X.A.guards = some []) (rm : Room lv X.A) : OpR X (compareOp .Eq) (rD2 (ct X) (gEqO tab)) := by
  intro pins s σ H x y v u Q I rx ry ⟨μ, S, d, i, Qd, w, r1, r2, h, q⟩
  obtain ⟨⟨n, fs⟩, e1, h⟩ := onSome_of h
  obtain ⟨⟨n', gs⟩, e2, ex, h1⟩ := onSome_of h
  clear h
  dsimp only at ex
  subst ex
  obtain ⟨F, e3, h⟩ := onSome_of h1
  obtain ⟨p, C, dx, fv, rfl, hp, hm, rf⟩ := id (r1.insT w e1)
  obtain ⟨p', C', dx', fv', rfl, hp', hm', rf'⟩ := id (r2.insT w e2)
  obtain ⟨fn, dat, pars, ⟨c1, c2, c3, c4⟩, c5, c6⟩ := hx _ (tabF_mem e3) C hm
  rw [hm] at hm'
  cases hm'
  rw [← hct] at c5
  obtain rfl : v = Value.ref p := rx
  obtain rfl : u = Value.ref p' := ry
  obtain ⟨mm, ob, _, _, _, _⟩ := ins_get I.hok hp
  obtain ⟨od, J, _⟩ := ob.look
  obtain ⟨mm', ob', _, _, _, _⟩ := ins_get I.hok hp'
  obtain ⟨od', J', _⟩ := ob'.look
  obtain ⟨m, fr⟩ := I.fr
  refine PySem.W.cmp_ofEq (PySem.W.cmp_K (op := .Eq) (tb := .ref C) rm.units0 fr I.ok.mod.kin J J'.type (by simp [PySem.W.notFirst]) c1 c2 (wpAny_mono (runGS (us := [.ref p, .ref p']) (xs := [.ref p, .ref p']) (Q := Q) (E1 := fun _ _ _ => False) c5 gd rm c6 (passG (E := fun _ _ _ _ => False) σ) I (.cons rfl (.cons rfl .nil))
    ⟨μ, S, [d, i], Qd, noE, w, .cons r1 (.cons r2 .nil), h, q, fun e S' cls dx H' μ' z => z.elim⟩) (fun u' s' hu => cmpBack (by obtain ⟨_, _, _, rv, _⟩ := hu; exact noNI rv) hu) fun _ _ z => z))
def asBl (Q : QD) : QD := fun r S => match r with
  | .bl b => Q (.bl b) S
  | _ => False
/-- x in a -/
def gInO (tab : List (Str × FF)) : G2 := fun x y S Q => onSome (insOf S y) fun cf => onSome (tabF tab cf.1) fun F => F [y, x] S (asBl Q) noE
theorem o_inO (hct : ct X = ct0 X.K X.mg) (hx : ∀ p ∈ tab, OpF X.prog X.w X.K X.mg X.base CX0 lv "__contains__" p.1 p.2) (gd : X.A.guards = some []) (rm : Room lv X.A) : OpR X (compareOp .In) (rD2 (ct X) (gInO tab)) := by
  intro pins s σ H x y v u Q I rx ry ⟨μ, S, d, i, Qd, w, r1, r2, h, q⟩
  obtain ⟨⟨n, fs⟩, e1, h⟩ := onSome_of h
  obtain ⟨F, e3, h⟩ := onSome_of h
  obtain ⟨p, C, dx, fv, rfl, hp, hm, rf⟩ := id (r2.insT w e1)
  obtain ⟨fn, dat, pars, ⟨c1, c2, c3, c4⟩, c5, c6⟩ := hx _ (tabF_mem e3) C hm
  rw [← hct] at c5
  obtain rfl : u = Value.ref p := ry
  obtain ⟨mm, ob, _, _, _, _⟩ := ins_get I.hok hp
  obtain ⟨od, J, _⟩ := ob.look
  obtain ⟨m, fr⟩ := I.fr
  refine PySem.W.in_K fr I.ok.mod.kin J c1 c2 (wpAny_mono (runGS (us := [.ref p, v]) (xs := [.ref p, x]) (Q := fun z H' => ∃ b, z = .bl b ∧ Q (.bl b) H') (E1 := fun _ _ _ => False) c5 gd rm c6 (passG (E := fun _ _ _ _ => False) σ) I (.cons rfl (.cons rx .nil))
    ⟨μ, S, [i, d], asBl Qd, noE, w, .cons r2 (.cons r1 .nil), h, fun d' S' v' H' μ' hq f w' r => by
      unfold asBl at hq
      split at hq
      · exact ⟨_, r.bl_inv, q _ S' _ H' μ' hq f w' (.bl _)⟩
      · exact hq.elim, fun e S' cls dx H' μ' z => z.elim⟩) (fun u' s' hu => ?_) fun _ _ z => z)
  obtain ⟨z, H', I', rz, b, rfl, hq⟩ := hu
  cases rz
  exact wpAny_truthy_bool ⟨.bl b, H', I', rfl, hq⟩
end
theorem isc_of {K : PySem.W.Frag} {mg : Str → Option Value} {x y : Str} {C D : Addr} {b : Bool} (g : mg x = some (.ref C)) (t : InsT K C) (gy : mg y = some (.ref D)) (k : PySem.W.kitOne K (.ref C) (.ref D) = some b) : ∀ C', mg x = some (.ref C') → InsT K C' ∧ ∀ D', mg y = some (.ref D') → PySem.W.kitOne K (.ref C') (.ref D') = some b := fun C' h => by
  rw [g] at h
  cases h
  refine ⟨t, fun D' h' => ?_⟩
  rw [gy] at h'
  cases h'
  exact k
end Pu
namespace Pu
open PySem PySem.Spec PyProof.Rows L2
/-! ## a != b by a class's own == -/
theorem ns_has {kit : PySem.W.Frag} {h : Heap} {N : Addr} {m : Str → Option Value} {n : Str} {v : Value} (X : kit.In h) (G : h.Ns N m) (e : PySem.W.nsIn kit N n = some (some v)) : m n = some v := by
  obtain ⟨o, es, ep, ho, hd, _, hf⟩ := G
  cases hk : kit.lookup N with
  | none => simp only [PySem.W.nsIn, hk] at e; cases e
  | some o' =>
    cases Option.some.inj ((X N o' hk).symm.trans ho)
    obtain ⟨c, d, data, sl⟩ := o
    dsimp only at hd
    subst hd
    simp only [PySem.W.nsIn, hk] at e
    rw [← hf n]
    split at e
    · rename_i en hen
      have ev : en.val = v := Option.some.inj (Option.some.inj e)
      unfold nsFind findBy
      first
        | rw [← Array.find?_toList, hen, ← ev]
          rfl
        | (rw [hen, ← ev]; rfl)
        | (rw [hen, ← ev])
    · split at e <;> cases e
/-- of a plain class: its == is the def at f, it has no != of its own -/
def NeC (K : PySem.W.Frag) (C f : Addr) : Prop :=
  (∃ nm q N bs hdct sn sub ab col dd k0 k1 k2 k3 k5 newId, K.lookup C = some (excClassObj nm q C N bs [.type "object"] hdct sn sub ab col dd k0 k1 k2 k3 k5 newId) ∧ PySem.W.nsOkIn K N = true ∧ PySem.W.nsIn K N "__eq__" = some (some (.ref f)) ∧ PySem.W.nsIn K N "__ne__" = some none) ∧
  ∃ o, K.lookup f = some o ∧ o.cls = .type "function"
def NeF (P : Program) (wo : World) (K : PySem.W.Frag) (mg : Str → Option Value) (b0 : Heap) (lv : Nat) (x : Str) (F : FF) : Prop :=
  ∀ C, mg x = some (.ref C) → ∃ fn dat pars, NeC K C fn ∧ Rb.FnG P wo K mg b0 CX0 lv fn dat pars (spF (ct0 K mg) F) ∧ Binds K dat pars []
theorem ne_of {P : Program} {wo : World} {K : PySem.W.Frag} {mg : Str → Option Value} {b0 : Heap} {lv : Nat} {x : Str} {F : FF} {C fn : Addr} {dat : FuncData} {pars : List Str} (g : mg x = some (.ref C)) (a : NeC K C fn) (G : Rb.FnG P wo K mg b0 CX0 lv fn dat pars (spF (ct0 K mg) F)) (B : Binds K dat pars []) : NeF P wo K mg b0 lv x F := fun C' h => by
  rw [g] at h
  cases h
  exact ⟨fn, dat, pars, a, G, B⟩
def asNb (Q : QD) : QD := fun r S => match r with
  | .bl b => Q (.bl (!b)) S
  | _ => False
def gNeO (tab : List (Str × FF)) : G2 := fun x y S Q => onSome (insOf S x) fun cf => onSome (insOf S y) fun cg => cg.1 = cf.1 ∧ onSome (tabF tab cf.1) fun F => F [x, y] S (asNb Q) noE
theorem o_neO {X : Cx} {lv : Nat} {tab : List (Str × FF)} (hct : ct X = ct0 X.K X.mg) (hx : ∀ p ∈ tab, NeF X.prog X.w X.K X.mg X.base lv p.1 p.2) (gd : X.A.guards = some []) (rm : Room (lv + 1) X.A) (hu : X.A.units + 64 < cLine) : OpR X (compareOp .NotEq) (rD2 (ct X) (gNeO tab)) := by
  intro pins s σ H x y v u Q I rx ry ⟨μ, S, d, i, Qd, w, r1, r2, h, q⟩
  obtain ⟨⟨n, fs⟩, e1, h⟩ := onSome_of h
  obtain ⟨⟨n', gs⟩, e2, ex, h1⟩ := onSome_of h
  clear h
  dsimp only at ex
  subst ex
  obtain ⟨F, e3, h⟩ := onSome_of h1
  obtain ⟨p, C, dx, fv, rfl, hp, hm, rf⟩ := id (r1.insT w e1)
  obtain ⟨p', C', dx', fv', rfl, hp', hm', rf'⟩ := id (r2.insT w e2)
  obtain ⟨fn, dat, pars, ⟨⟨nm, qn, N, bs, hdct, sn, sub, ab, col, dd, k0, k1, k2, k3, k5, newId, hC, ok, he, hn⟩, of, hf, hfc⟩, c5, c6⟩ := hx _ (tabF_mem e3) C hm
  rw [hm] at hm'
  cases hm'
  rw [← hct] at c5
  obtain rfl : v = Value.ref p := rx
  obtain rfl : u = Value.ref p' := ry
  obtain ⟨mm, ob, _, _, _, _⟩ := ins_get I.hok hp
  obtain ⟨od, J, _⟩ := ob.look
  obtain ⟨mm', ob', _, _, _, _⟩ := ins_get I.hok hp'
  obtain ⟨od', J', _⟩ := ob'.look
  have K1 := I.kIn
  have run := runGS1 (us := [.ref p, .ref p']) (xs := [.ref p, .ref p']) (Q := fun z H' => ∃ b, z = .bl b ∧ Q (.bl (!b)) H') (E1 := fun _ _ _ => False) c5 gd rm c6 (passG (E := fun _ _ _ _ => False) σ) I (.cons rfl (.cons rfl .nil))
    ⟨μ, S, [d, i], asNb Qd, noE, w, .cons r1 (.cons r2 .nil), h, fun d' S' v' H' μ' hq f w' r => by
      unfold asNb at hq
      split at hq
      · exact ⟨_, r.bl_inv, q _ S' _ H' μ' hq f w' (.bl _)⟩
      · exact hq.elim, fun e S' cls dx H' μ' z => z.elim⟩
  obtain ⟨hp0, g0, d0, t0, os0⟩ := s
  have ns : hp0.Ns N (hp0.nsMap N) := .of_isNs (PySem.W.isNs_of_in K1 ok)
  refine compareOp_ne_ownEq PySem.F.cmp_object (f := fn) ⟨_, of, nm, qn, N, bs, hdct, sn, sub, ab, col, dd, k0, k1, k2, k3, k5, newId, hp0.nsMap N, _, J.1, J.cls, K1 _ _ hC, ns, ns_has K1 ns he, K1 _ _ hf, hfc, rfl, rfl, PySem.W.nsMap_none_of_in K1 ok hn⟩ J'.1 J'.cls (by omega) (wpAny_mono run (fun u' s' hu' => ?_) fun _ _ z => z)
  obtain ⟨z, H', I', rz, b, rfl, hq⟩ := hu'
  cases rz
  exact ⟨b, rfl, .bl (!b), H', I', rfl, hq⟩
theorem ne_mk {K : PySem.W.Frag} {C f N : Addr} {nm q : Str} {bs : List Value} {hdct : Bool} {sn : List Str} {sub : List Value} {ab : Bool} {col : Option Bool} {dd : Option Addr} {k0 k1 k2 k3 k5 : Option Value} {newId : String} (h1 : K.lookup C = some (excClassObj nm q C N bs [.type "object"] hdct sn sub ab col dd k0 k1 k2 k3 k5 newId)) (h2 : PySem.W.nsOkIn K N = true)
    (h3 : PySem.W.nsIn K N "__eq__" = some (some (.ref f))) (h4 : PySem.W.nsIn K N "__ne__" = some none) (h5 : PySem.W.isFn K (.ref f) = true) : NeC K C f := by
  refine ⟨⟨nm, q, N, bs, hdct, sn, sub, ab, col, dd, k0, k1, k2, k3, k5, newId, h1, h2, h3, h4⟩, ?_⟩
  obtain ⟨o, ho, hc⟩ := Option.map_eq_some_iff.mp (show (K.lookup f).map (·.cls) = some (.type "function") from beq_iff_eq.mp h5)
  exact ⟨o, ho, hc⟩
/-! ## min of three whole numbers -/
end Pu
namespace Pu
open PySem PySem.Spec PyProof.Rows L2
/-! ## texts: sep.join(xs), f-strings -/
def onStr (d : D) (k : Str → Prop) : Prop := match d with | .str a => k a | _ => False
theorem onStr_of {d : D} {k : Str → Prop} (h : onStr d k) : ∃ a, d = .str a ∧ k a := by
  unfold onStr at h
  split at h
  · exact ⟨_, rfl, h⟩
  · exact h.elim
def strsOf : List D → Option (List Str)
  | [] => some []
  | .str x :: ds => match strsOf ds with | some xs => some (x :: xs) | none => none
  | _ :: _ => none
theorem strsOf_map : ∀ ys : List Str, strsOf (ys.map D.str) = some ys
  | [] => rfl
  | y :: ys => by
    show (match strsOf (ys.map D.str) with | some xs => some (y :: xs) | none => none) = _
    rw [strsOf_map ys]
theorem strsOf_vals {c : Ct} {μ : Mu} {H : Hp} : ∀ {vs : List V} {ds : List D} {ys : List Str}, RpAll c μ H vs ds → strsOf ds = some ys → vs = ys.map V.str
  | _, _, _, .nil, e => by cases e; rfl
  | _, _, _, .cons (d := d) (ds := ds) r rs, e => by
    cases d with
    | str x =>
      unfold strsOf at e
      cases hs : strsOf ds with
      | none => rw [hs] at e; cases e
      | some xs =>
        rw [hs] at e
        cases e
        cases r
        rw [strsOf_vals rs hs]
        rfl
    | _ => cases e
def dJoin (fo fe : FE) : FE := fun ρ S Q Ed => fo ρ S (fun x S1 => onStr x fun a => fe ρ S1 (fun d S2 => onSome (seqOf S2 d) fun es => onSome (strsOf es) fun ys => (ys.map (·.length)).sum + ys.length * a.length ≤ 100000 ∧ Q (.str (Txt.join a ys)) S2) Ed) Ed
section
variable {X : Cx} {E : L2.St → XK} {o e : Expr} {fo fe : FE}
theorem d_join {apos pos : Pos} (ho : PEd X E o fo) (he : PEd X E e fe) (hs : starEach [e] X.env = [(false, eval e X.env)] := by rfl) (hbase : attributeBase o "join" X.env (eval o X.env) = eval o X.env := by rfl) (hline : (apos.endLine == pos.line) = true := by rfl) :
    PEd X E (.Call (.Attribute o "join" apos) [e] [] pos) (dJoin fo fe) := by
  refine PE.imp (pe_join ho he hs hbase hline) fun σ H Q ⟨μ, S, ρ, Qd, Ed, w, en, hf, q, px⟩ => ?_
  refine tR_of w en hf px fun x S1 v H1 μ1 h1 f1 w1 en1 px1 r1 => ?_
  obtain ⟨a, rfl, h1⟩ := onStr_of h1
  cases r1
  refine ⟨⟨a, rfl⟩, ?_⟩
  refine tR_of w1 en1 h1 px1 fun d S2 u H2 μ2 h2 f2 w2 en2 px2 r2 => ?_
  obtain ⟨es, e1, h2⟩ := onSome_of h2
  obtain ⟨ys, e2, h2⟩ := onSome_of h2
  obtain ⟨p, vs, rfl, hp, rs⟩ := r2.seq w2 e1
  rw [strsOf_vals rs e2] at hp
  exact ⟨a, p, ys, rfl, rfl, hp, Nat.le_trans h2.1 (by decide), q _ _ _ _ _ h2.2 (f1.trans f2) w2 (.str _)⟩
end
end Pu
namespace Pu
open PySem PySem.Spec PyProof.Rows L2
/-! ## written dicts of two entries, d[x] -/
/-! ## str of an instance -/
def asStr (Q : QD) : QD := fun r S => match r with
  | .str x => Q (.str x) S
  | _ => False
def gStrO (tab : List (Str × FF)) : List D → Sto → QD → Prop := fun ds S Q => match ds with
  | [d] => onSome (insOf S d) fun cf => onSome (tabF tab cf.1) fun F => F [d] S (asStr Q) noE
  | _ => False
def StF (P : Program) (wo : World) (K : PySem.W.Frag) (mg : Str → Option Value) (b0 : Heap) (lv : Nat) (x : Str) (F : FF) : Prop :=
  ∀ C, mg x = some (.ref C) → ∃ fn dat pars, PySem.W.findIn K (.ref C) "__str__" = some (some (.ref fn)) ∧ PySem.W.isFn K (.ref fn) = true ∧ Rb.FnG P wo K mg b0 CX0 lv fn dat pars (spF (ct0 K mg) F) ∧ Binds K dat pars []
theorem runGS2 {X : Cx} {cx : CXT} {lv : Nat} {fn : Addr} {dat : FuncData} {pars : List Str} {sp : Sp} {pins : List (Addr × Obj)} {σ : L2.St} {H : Hp} {s : Shared} {Q : VK} {us : List Value} {xs : List V} {E1 : XK} (F : Rb.FnG X.prog X.w X.K X.mg X.base cx lv fn dat pars sp) (gd : X.A.guards = some []) (rm : Room (lv + 2) X.A)
    (bi : Binds X.K dat pars []) (ps : PassesAt cx X σ E1) (I : Inv X pins σ H s) (vx : Vals xs us) (pro : sp xs H Q E1) :
    wpAny (model X.prog X.w) X.A.in1.in1 (call (.ref fn) us) (EP X pins σ Q) X.xe s := by
  have l2 : (us ++ []).length = pars.length := by rw [List.append_nil]; exact vx.length ▸ F.many _ _ _ _ pro
  have b := bi s us I.kIn l2
  rw [List.append_nil] at b
  refine wpAny_call (codeAny_mono (F.goes X.A.in1.in1 X.stack s H ⟨us, []⟩ us xs Q E1 (Room.in1 (Room.in1 rm)) gd I.env0.in1.in1 b vx pro) ?_)
  intro res s2 fin
  match res, fin with
  | .error e, fin => exact ps pins H s e s2 I fin
  | .ok (.ret u), fin => exact I.after fin
  | .ok .next, fin => exact (fin : False).elim
  | .ok .brk, fin => exact (fin : False).elim
  | .ok .cont, fin => exact (fin : False).elim
theorem c_strO {X : Cx} {lv : Nat} {tab : List (Str × FF)} (hct : ct X = ct0 X.K X.mg) (hx : ∀ p ∈ tab, StF X.prog X.w X.K X.mg X.base lv p.1 p.2) (gd : X.A.guards = some []) (rm : Room (lv + 2) X.A) (hu : X.A.units + 64 < cLine) : CallR X (.type "str") (rDs (ct X) (gStrO tab)) := by
  intro pins s σ H vs us Q I r ⟨μ, S, ds, Qd, w, ra, hg, q⟩
  unfold gStrO at hg
  split at hg
  · obtain ⟨v, rfl, rv⟩ := ra.one
    obtain ⟨⟨x, fs⟩, e1, hg⟩ := onSome_of hg
    obtain ⟨F, e2, hg⟩ := onSome_of hg
    obtain ⟨a, C, dx, fv, rfl, ea, hm, rf⟩ := id (rv.insT w e1)
    obtain ⟨fn, dat, pars, c1, c2, c3, c4⟩ := hx _ (tabF_mem e2) C hm
    rw [← hct] at c3
    obtain ⟨u, rfl, ru⟩ := vals1 r
    obtain rfl : u = Value.ref a := ru
    obtain ⟨mm, ob, _, _, _, _⟩ := ins_get I.hok ea
    obtain ⟨od, J, _⟩ := ob.look
    have run := runGS2 (us := [.ref a]) (xs := [.ref a]) (Q := fun v H' => ∃ n, v = .str n ∧ Q (.str n) H') (E1 := fun _ _ _ => False) c3 gd rm c4 (passG (E := fun _ _ _ _ => False) σ) I (.cons rfl .nil) ⟨μ, S, [_], asStr Qd, noE, w, .cons rv .nil, hg, fun d S' v H' μ' hq f w' r => by
      unfold asStr at hq
      split at hq
      · cases r
        exact ⟨_, rfl, q _ S' _ H' μ' hq f w' (.str _)⟩
      · exact hq.elim, fun e S' cls dx H' μ' z => z.elim⟩
    refine PySem.W.kso_call (by show X.A.units + 1 + 1 < cLine; omega) I.kIn J c1 c2 (wpAny_mono run (fun u' s' hu => ?_) fun _ _ z => z)
    obtain ⟨v, H', I', rv', n, rfl, hq⟩ := hu
    obtain ⟨t, rfl⟩ := rv'
    exact ⟨.str n, H', I', ⟨_, rfl⟩, hq⟩
  · exact hg.elim
theorem st_of {P : Program} {wo : World} {K : PySem.W.Frag} {mg : Str → Option Value} {b0 : Heap} {lv : Nat} {x : Str} {F : FF} {C fn : Addr} {dat : FuncData} {pars : List Str} (g : mg x = some (.ref C)) (a : PySem.W.findIn K (.ref C) "__str__" = some (some (.ref fn))) (b : PySem.W.isFn K (.ref fn) = true)
    (G : Rb.FnG P wo K mg b0 CX0 lv fn dat pars (spF (ct0 K mg) F)) (B : Binds K dat pars []) : StF P wo K mg b0 lv x F := fun C' h => by
  rw [g] at h
  cases h
  exact ⟨fn, dat, pars, a, b, G, B⟩
/-! ## methods with one keyword-only parameter, whose default is None -/
end Pu
namespace Pu
open PySem PySem.Spec PyProof.Rows L2
/-! ## defs that are run whatever repr is under way (what a generator's body calls) -/
structure FnU (pr : Program) (wo : World) (K : PySem.W.Frag) (mg : Str → Option Value) (b0 : Heap) (cx : CXT) (lv : Nat) (fn : Addr) (dat : FuncData) (pars : List Str) (sp : Sp) : Prop where
  many : ∀ xs H Q E, sp xs H Q E → xs.length = pars.length
  goes : ∀ (A : Around) (out : List Env) (s : Shared) (H : Hp) (ar : Args) (us : List Value) (xs : List V) (Q : VK) (E : XK),
    Room lv A → Env0 pr wo K mg b0 A out s H → BindsTo s dat ar (pars.zip us) → Vals xs us → sp xs H Q E →
    codeAny (model pr wo) A (.call (.ref fn) ar) (CR cx out pr wo H s Q E) s
theorem FnU.g {pr : Program} {wo : World} {K : PySem.W.Frag} {mg : Str → Option Value} {b0 : Heap} {cx : CXT} {lv : Nat} {fn : Addr} {dat : FuncData} {pars : List Str} {sp : Sp} (F : FnU pr wo K mg b0 cx lv fn dat pars sp) : Rb.FnG pr wo K mg b0 cx lv fn dat pars sp :=
  ⟨F.many, fun A out s H ar us xs Q E h1 _ h2 h3 h4 h5 => F.goes A out s H ar us xs Q E h1 h2 h3 h4 h5⟩
end Pu
namespace Pu
open PySem PySem.Spec PyProof.Rows L2 GenW
/-! ## a generator's body: what is out so far goes along -/
theorem GS.imp {X : Cx} {st : Stmt} {t t' : TGn} (h : GS X st t) (k : ∀ D ys σ H, t' D ys σ H → t D ys σ H) : GS X st t' :=
  ⟨fun A S ip R n ys s₀ c fs K J gd lv s σ H D g hn kk hI ht => h.run A S ip R n ys s₀ c fs K J gd lv s σ H D g hn kk hI (k D ys σ H ht)⟩
theorem GSs.imp {X : Cx} {st : List Stmt} {t t' : TGn} (h : GSs X st t) (k : ∀ D ys σ H, t' D ys σ H → t D ys σ H) : GSs X st t' :=
  ⟨fun A S ip R n ys s₀ c fs K J gd lv s σ H D g hn kk hI ht => h.run A S ip R n ys s₀ c fs K J gd lv s σ H D g hn kk hI (k D ys σ H ht)⟩
/-! ## the def, its promise -/
end Pu
namespace Pu
open PySem PySem.Spec PyProof.Rows L2
/-! ## several except clauses, each of one class or of two, with a name or without -/
section
variable {X : Cx}
/-- an error in the hand of the clauses: sI is the state without it -/
structure InHand (X : Cx) (B : Heap) (a : Addr) (cls : Value) (d : Option Addr) (pins : List (Addr × Obj)) (σ : L2.St) (H : Hp) (sI s' : Shared) : Prop where
  inv : Inv X pins σ H sI
  gr : ∀ b o, sI.heap.get? b = some o → b ∉ frs X.stack → B.get? b = some o
  na : H a = none
  os : s'.os = sI.os
  ag : AllBare s'.gens
section
variable {B : Heap} {a : Addr} {cls : Value} {d : Option Addr} {pins : List (Addr × Obj)} {σ : L2.St} {H : Hp} {sI s' : Shared} {h : Heap}
theorem InHand.now (c : InHand X B a cls d pins σ H sI s') (f : HandSPX.FlyingZ B (X.env :: X.outer) a (Zc cls d) h) (u : sI.heap.UpToSlots h) : Inv X pins σ H { s' with heap := h } := c.inv.landed c.gr f.1 u c.os c.ag
end
end
end Pu
/-! sorted of tuples of whole numbers, of any lengths, the first one empty -/
namespace PuSt
open PySem PySem.Calls PySem.W PyProof.Rows
def IsTI (hp : Heap) (v : Value) (ns : List Int) : Prop := ∃ (a : Addr) (dd : Option Addr) (items : Array Value) (n : Nat) (sl : Array (Option Value)), v = .ref a ∧ hp.get? a = some { cls := .type "tuple", dict := dd, data := .seq items n, slots := sl } ∧ IntsAre items.toList ns
theorem IsTI.keeps {hp hp' : Heap} {v : Value} {ns : List Int} (x : IsTI hp v ns) (k : ∀ b o, hp.get? b = some o → o.cls = .type "tuple" → hp'.get? b = some o) : IsTI hp' v ns := by
  obtain ⟨a, dd, items, n, sl, e, g, i⟩ := x
  exact ⟨a, dd, items, n, sl, e, k _ _ g rfl, i⟩
theorem IsTI.type {M : Model} {hp : Heap} {v : Value} {ns : List Int} (x : IsTI hp v ns) : Looks M hp (typeOf v) (.type "tuple") := by
  obtain ⟨a, dd, items, n, sl, rfl, g, i⟩ := x
  exact (Looks.ld g).andThen .now
end PuSt
namespace Pu
open PySem PySem.Spec PyProof.Rows L2
/-! ## try with several clauses whose bodies may make and change lists -/
def noXC : Cl → Bool
  | .lst ds => noXs ds
  | .ins _ fs => noXf fs
def keepC (S S2 : Sto) : Prop := ∀ (i : Nat) (x : Cl), S2[i]? = some x → S[i]? = some x ∨ noXC x = true
theorem keepC.snoc {S S2 : Sto} {c : Cl} (k : keepC S S2) (n : noXC c = true) : keepC S (S2 ++ [c]) := fun i x h => by
  by_cases hi : i < S2.length
  · rw [List.getElem?_append_left hi] at h
    exact k i x h
  · rw [List.getElem?_append_right (by omega)] at h
    by_cases h0 : i - S2.length = 0
    · rw [h0] at h
      cases h
      exact .inr n
    · rw [List.getElem?_eq_none (by show 1 ≤ _; omega)] at h
      cases h
end Pu
namespace Pu
open PySem PySem.Spec PyProof.Rows L2
/-! ## a def that is called with the error that is handled -/
structure RmE (k : Nat) (A : Around) : Prop where
  dp : A.depth + 3 * k + 5 < recursionLimit
  un : A.units + 16 * k + 200 < cLine
theorem RmE.units {k : Nat} {A : Around} (r : RmE k A) : A.units + 64 < cLine := by have := r.un; omega
theorem RmE.mono {j k : Nat} {A : Around} (r : RmE k A) (h : j ≤ k) : RmE j A := ⟨by have := r.dp; omega, by have := r.un; omega⟩
theorem RmE.of {k : Nat} {A : Around} (r : Room k A) : RmE k A := ⟨r.dp, r.un⟩
end Pu
namespace Pu
open PySem PySem.Spec PyProof.Rows L2
/-! ## an operator of an own class, any plain value on its right -/
section
variable {X : Cx} {pins : List (Addr × Obj)} {σ : L2.St} {H : Hp} {s : Shared} {x : V} {u : Value}
theorem looks_cls {M : Model} {a : Addr} {T : Value} (h : ∃ o, s.heap.get? a = some o ∧ o.cls = T) : PySem.W.Looks M s.heap (typeOf (.ref a)) T := by
  obtain ⟨o, e, rfl⟩ := h
  exact (PySem.W.Looks.ld e).andThen .now
/-- the type that a plain value shows -/
theorem looks_ty {M : Model} {c : Ct} {μ : Mu} {S : Sto} {d : D} {b : Bool} (I : Inv X pins σ H s) (rx : RelV x u) (w : Wd c μ S H) (r : Rp c μ H x d) (e : isA .int S d = some b) : PySem.W.Looks M s.heap (typeOf u) (.type (tyOf d)) := by
  cases r with
  | non => cases (show u = Value.none from rx); exact PySem.W.Looks.of_pure rfl
  | bl k => cases (show u = Value.bool k from rx); exact PySem.W.Looks.of_pure rfl
  | int k => obtain ⟨t, rfl⟩ := rx; exact PySem.W.Looks.of_pure rfl
  | str k => obtain ⟨t, rfl⟩ := rx; exact PySem.W.Looks.of_pure rfl
  | @tup a vs ds hs _ =>
    cases (show u = Value.ref a from rx)
    obtain ⟨_, _, _, o, h1, h2, _⟩ := (show ObjOk X.prog X.w H s.heap a (.tup vs) from I.hok a _ hs)
    exact looks_cls ⟨o, h1, h2⟩
  | @lst a k vs ds hs _ _ _ _ =>
    cases (show u = Value.ref a from rx)
    obtain ⟨_, _, n, _, h1⟩ := (show ObjOk X.prog X.w H s.heap a (.lst vs) from I.hok a _ hs)
    exact looks_cls ⟨_, h1, rfl⟩
  | @dic a ps hd _ _ =>
    cases (show u = Value.ref a from rx)
    obtain ⟨_, _, vs, _, o, es, ep, h1, h2, _⟩ := (show ObjOk X.prog X.w H s.heap a (.dK (Rb.dicV ps)) from I.hok a _ hd)
    exact looks_cls ⟨o, h1, h2.1⟩
  | @cell n a hm =>
    cases (show u = Value.ref a from rx)
    obtain ⟨xs, e1, e2⟩ := Option.map_eq_some_iff.mp (show (lstAt S[n]?).map (fun _ => isL .int) = some b from e)
    obtain ⟨vs, h1, _⟩ := w.ok n _ _ hm (lstAt_inv e1)
    obtain ⟨_, _, m, _, h2⟩ := (show ObjOk X.prog X.w H s.heap a (.lst vs) from I.hok a _ h1)
    exact looks_cls ⟨_, h2, rfl⟩
  | _ => cases e
end
theorem tyOf_in (d : D) : tyOf d ∈ ["NoneType", "bool", "int", "str", "tuple", "dict", "list"] := by
  cases d <;> (unfold tyOf; simp)
end Pu
namespace Pu
open PySem PySem.Spec PyProof.Rows L2
/-! ## isinstance(v, C): v an instance, or any plain value -/
def dIsA (tab : List (Str × Str × Bool)) (y : Str) (fo : FE) : FE := fun ρ S Q Ed => fo ρ S (fun d S1 => match insOf S1 d with
  | some cf => onSome (lookX tab cf.1 y) fun b => Q (.bl b) S1
  | none => (isA .int S1 d).isSome = true ∧ Q (.bl false) S1) Ed
/-- no built-in type of a plain value is the own class or a subclass of it -/
structure NoTy (K : PySem.W.Frag) (D : Addr) : Prop where
  no : ∀ T ∈ ["NoneType", "bool", "int", "str", "tuple", "dict", "list"], PySem.W.kitOne K (.type T) (.ref D) = some false
theorem noty_of {K : PySem.W.Frag} {D : Addr} (t1 : PySem.W.kitOne K (.type "NoneType") (.ref D) = some false) (t2 : PySem.W.kitOne K (.type "bool") (.ref D) = some false) (t3 : PySem.W.kitOne K (.type "int") (.ref D) = some false) (t4 : PySem.W.kitOne K (.type "str") (.ref D) = some false)
    (t5 : PySem.W.kitOne K (.type "tuple") (.ref D) = some false) (t6 : PySem.W.kitOne K (.type "dict") (.ref D) = some false) (t7 : PySem.W.kitOne K (.type "list") (.ref D) = some false) : NoTy K D := ⟨fun T hT => by
  simp only [List.mem_cons, List.not_mem_nil, or_false] at hT
  rcases hT with rfl | rfl | rfl | rfl | rfl | rfl | rfl <;> assumption⟩
section
variable {X : Cx}
theorem d_isA {E : L2.St → XK} {a : Expr} {fa : FE} {y : Str} {D : Addr} {t2 : List (Str × Str × Bool)} {p2 p3 pos : Pos} (hx : ∀ z ∈ t2, ∀ C, X.mg z.1 = some (.ref C) → InsT X.K C ∧ ∀ D, X.mg z.2.1 = some (.ref D) → PySem.W.kitOne X.K (.ref C) (.ref D) = some z.2.2) (hn : NoTy X.K D) (hg : Gl X "isinstance") (hm : X.mg "isinstance" = none)
    (gy : Gl X y) (my : X.mg y = some (.ref D)) (ha : PEd X E a fa) (ndb : (y == ("__debug__" : Str)) = false := by decide)
    (s1 : starEach [a, .Name y p3] X.env = (false, eval a X.env) :: starEach [.Name y p3] X.env := by rfl) (s2 : starEach [.Name y p3] X.env = (false, eval (.Name y p3) X.env) :: starEach [] X.env := by rfl) (s3 : (backTo pos (starEach [.Name y p3] X.env)).any (·.1) = false := by rfl) :
    PEd X E (.Call (.Name "isinstance" p2) [a, .Name y p3] [] pos) (dIsA t2 y fa) := by
  refine PE.imp (pe_callB call_isi hg hm (show bootBuiltins "isinstance" = some (.builtin "isinstance") by decide +kernel) (pa_cons ha (pa_cons (pe_glob gy my (show RelV (V.ref D) _ from rfl) ndb) pa_nil s2) s1) (by decide) (by decide) s1 s3) fun σ H Q ⟨μ, S, ρ, Qd, Ed, w, en, hf, q, px⟩ => ?_
  refine tR_of w en hf px fun x S1 v H1 μ1 h1 f1 w1 en1 px1 r1 => ?_
  split at h1
  · rename_i cf e1
    obtain ⟨b, e2, h2⟩ := onSome_of h1
    obtain ⟨n, fs⟩ := cf
    obtain ⟨p, C, dx, fv, rfl, hp, hg', _⟩ := r1.insT w1 e1
    obtain ⟨T, hk⟩ := hx _ (lookX_mem e2) C hg'
    exact ⟨_, _, _, _, b, rfl, .own D, .base (.ins hp T.cl T.ha T.hn T.tk T.hm), hk D my, q _ S1 _ H1 μ1 h2 f1 w1 (.bl b)⟩
  · obtain ⟨hi, h1⟩ := h1
    obtain ⟨b, eb⟩ := Option.isSome_iff_exists.mp hi
    obtain ⟨t1, _⟩ := isA_ty w1 r1 eb
    exact ⟨_, _, _, _, false, rfl, .own D, t1, hn.no _ (tyOf_in x), q _ S1 _ H1 μ1 h1 f1 w1 (.bl false)⟩
end
end Pu
namespace Pu
open PySem PySem.Spec PyProof.Rows L2 Builtin Builtin.Str
/-! ## upper of a text -/
/-! ## replace with a count -/
/-! ## where a token has been given out -/
section
variable {X : Cx}
theorem PET.imp {e : Expr} {t t' : TE} (h : PET X e t) (k : ∀ σ H Q, t' σ H Q → t σ H Q) : PET X e t' := fun pins s σ H Q h0 I q => h pins s σ H Q h0 I (k σ H Q q)
theorem PST.imp {e : Stmt} {t t' : TS} (h : PST X e t) (k : ∀ D σ H, t' D σ H → t D σ H) : PST X e t' := fun pins s σ H D h0 I q => h pins s σ H D h0 I (k D σ H q)
theorem PSsT.imp {e : List Stmt} {t t' : TS} (h : PSsT X e t) (k : ∀ D σ H, t' D σ H → t D σ H) : PSsT X e t' := fun pins s σ H D h0 I q => h pins s σ H D h0 I (k D σ H q)
end
/-! ## what gives a token out -/
/-! ## a text, a few times -/
def gMulT : G2 := fun x y S Q => match x, y with
  | .str a, .int k => (0 ≤ k ∧ k ≤ 1000 ∧ a.length ≤ 1000) ∧ Q (.str (Txt.mul a k)) S
  | _, _ => False
theorem o_mulT {X : Cx} : OpR X (binaryOp .Mult) (rD2 (ct X) gMulT) := by
  intro pins s σ H x y v u Q I rx ry ⟨μ, S, dx, dy, Qd, w, r1, r2, hg, q⟩
  unfold gMulT at hg
  split at hg
  · rename_i a k
    obtain ⟨⟨h1, h2, h3⟩, hg⟩ := hg
    cases r1.str_inv
    cases r2.int_inv
    obtain ⟨t, rfl⟩ := rx
    obtain ⟨t2, rfl⟩ := ry
    obtain ⟨n, rfl⟩ : ∃ n : Nat, k = (n : Int) := ⟨k.toNat, by omega⟩
    refine SB.mul ⟨?_, fun n1 n2 => ?_, fun n1 n2 => ?_⟩ fun t' m => ⟨.str _, H, I.tok _, ⟨t', rfl⟩, q.same w (.str _) hg⟩
    · rw [Bool.or_eq_false_iff]
      exact ⟨decide_eq_false (by omega), decide_eq_false (by omega)⟩
    · have hn : (n : Int) ≠ 0 := by omega
      have : (1000 : Int) ≤ (2 ^ 63 - 1) / (n : Int) := by
        rw [Int.le_ediv_iff_mul_le (by omega)]
        omega
      omega
    · have e : (2 : Nat) ^ 24 = 16777216 := by decide
      unfold tooLong sizeLine
      have h4 : a.length * n ≤ 1000 * 1000 := Nat.mul_le_mul h3 (by omega)
      exact decide_eq_false (by show ¬ _ < a.length * n; omega)
  · exact hg.elim
/-! ## a text not in a text -/
end Pu
namespace Pu
open PySem PySem.Spec PyProof.Rows L2 Builtin PySem.W
/-! ## a whole number in a field of eight, with commas -/
def sp8 : Str := ">8,"
def f8 : Float.FormatSpec := match Float.parseFormatSpec sp8.cps.toList "int" 62 with
  | .ok f => f
  | .error _ => { align := 62 }
theorem f8_eq : Float.parseFormatSpec sp8.cps.toList "int" 62 = .ok f8 := by rfl
def fmt8 (i : Int) : Str := intSpecText f8 i
theorem ret_text8 {M : Model} {A : Around} {E : Value → Shared → Prop} {s : Shared} {x y : Str} {Q : PySem.Fin → Shared → Prop} (e : x = y) (hl : y.length ≤ sizeLine) (h : ∀ t k, Q (.done (.ret (.str y t))) { s with toks := k }) : wpAny M A (retStr x) Q E s := KXf.ret_text e (e ▸ hl) h
theorem meets8 {a : Int} {t u : Tok} (h0 : 0 ≤ a) (h1 : a < 10 ^ 10) (hl : (fmt8 a).length ≤ sizeLine) : Meets («int.__format__» ⟨[.int a t, .str sp8 u], []⟩) (fun _ R s => ∀ t' k, R (.ok (.ret (.str (fmt8 a) t'))) { s with toks := k }) := by
  refine KPc.meets_of fun prog w A s Q E h => ?_
  have hd : a.natAbs.log2 < 1920 := by
    have : a.natAbs < 2 ^ 1920 := Nat.lt_of_lt_of_le (show a.natAbs < 10 ^ 10 by omega) (by decide)
    by_cases z : a.natAbs = 0
    · rw [z]; decide
    · exact (Nat.log2_lt z).mpr this
  unfold Builtin.«int.__format__»
  refine wpAny_bind (wpAny_of_eq (a := (.int a t, .str sp8 u)) rfl (wpAny_bind (wpAny_of_eq (a := a) rfl ?_)))
  refine wpAny_ite (KPc.ite_no (fun z => nomatch (eq_of_beq z)) (wpAny_bind (wpAny_typeNameOf (T := "str") (typeIs_str _ _ _) (by decide) fun nm => ?_)))
  refine wpAny_bind (wpAny_of_eq (a := some sp8) rfl (wpAny_ite (KPc.ite_no (by decide +kernel) (wpAny_ite (KPc.ite_no (by decide +kernel) ?_)))))
  refine wpAny_bind (wpAny_typeNameOfCut_int ?_)
  rw [f8_eq]
  dsimp only
  refine wpAny_ite (KPc.ite_yes (by decide +kernel) ?_)
  have w0 : f8.width.getD 0 = 8 := by decide +kernel
  conv => arg 3; whnf
  refine wpAny_bind (wpAny_of_eq (PySem.overDigitLimit_small hd) ?_)
  show wpAny _ _ (if _ then _ else _) Q E s
  rw [if_neg (by decide +kernel)]
  show wpAny _ _ (retStr _) Q E s
  refine ret_text8 (y := fmt8 a) ?_ hl h
  kernel_rfl
section
variable {X : Cx} {E : L2.St → XK} {e : Expr} {te : TE} {fe : FE} {p1 p2 p3 pos : Pos} {j : Nat}
def tFld8 (te : TE) : TE := fun σ H Q => te σ H fun x H1 => ∃ i : Int, x = .int i ∧ 0 ≤ i ∧ i < 10 ^ 10 ∧ (fmt8 i).length ≤ sizeLine ∧ Q (.str (fmt8 i)) H1
theorem pe_fld8 (he : PE X e te) : PE X (.FormattedValue e (-1) (some (.JoinedStr [.Constant (.str ">8,") j p3] p2)) p1) (tFld8 te) := by
  refine ⟨fun pins s σ H Q I h => wpAny_FormattedValue_spec (thn (he.run pins s σ H _ I h) fun v s1 hv => ?_)⟩
  obtain ⟨x, H1, I1, r1, i, rfl, h0, h1, hl, q⟩ := hv
  obtain ⟨t, rfl⟩ := r1
  refine wpAny_JoinedStr_one (Calls.Constant_str ⟨sp8, _, rfl, ?_⟩)
  exact KXf.field_int (y := fmt8 i) (spec' := sp8) rfl (by decide +kernel) (by show 3 ≤ sizeLine; decide) (fun u => meets8 h0 h1 hl) fun t' k => ⟨.str (fmt8 i), H1, I1.tok _, ⟨t', rfl⟩, q⟩
/-- f"{x:>8,}" -/
def dFld8 (fe : FE) : FE := fun ρ S Q Ed => fe ρ S (fun d S1 => match d with
  | .int i => (0 ≤ i ∧ i < 10 ^ 10 ∧ (fmt8 i).length ≤ sizeLine) ∧ Q (.str (fmt8 i)) S1
  | _ => False) Ed
theorem d_fld8 (he : PEd X E e fe) : PEd X E (.JoinedStr [.FormattedValue e (-1) (some (.JoinedStr [.Constant (.str ">8,") j p3] p2)) p1] pos) (dFld8 fe) := by
  refine PE.imp (pe_joined1 (pe_fld8 he)) fun σ H Q ⟨μ, S, ρ, Qd, Ed, w, en, hf, q, px⟩ => ?_
  refine tR_of w en hf px fun x S1 v H1 μ1 h1 f1 w1 en1 px1 r1 => ?_
  split at h1
  · rename_i i
    cases r1
    obtain ⟨⟨a, b, c⟩, h1⟩ := h1
    exact ⟨i, rfl, a, b, c, q _ _ _ _ _ h1 f1 w1 (.str _)⟩
  · exact h1.elim
end
end Pu
namespace Pu
open PySem PySem.Spec PyProof.Rows L2 PySem.W
/-! ## == of a plain value and an object of an own class: the built-in == declines -/
section
variable {prog : Program} {w : World} {A : Around} {E : Value → Shared → Prop} {s : Shared} {Q : Value → Shared → Prop} {p C dx : Addr}
theorem no_int {i : Int} {t : Tok} : Meets (Builtin.«int.__eq__» ⟨[.int i t, .ref p], []⟩) (fun _ R s => s.heap.get? p = some (PySem.W.instObj C dx) ∧ R (.ok (.ret .notImplemented)) s) :=
  .of_wp fun _ _ _ _ s z => by
    obtain ⟨hp, g, d, tk, os⟩ := s
    obtain ⟨at_, z⟩ := z
    wp_walk using wpAny_loadPart' at_, wpAny_load at_
    exact ⟨_, rfl, z⟩
theorem no_bool {b : Bool} : Meets (Builtin.«int.__eq__» ⟨[.bool b, .ref p], []⟩) (fun _ R s => s.heap.get? p = some (PySem.W.instObj C dx) ∧ R (.ok (.ret .notImplemented)) s) :=
  .of_wp fun _ _ _ _ s z => by
    obtain ⟨hp, g, d, tk, os⟩ := s
    obtain ⟨at_, z⟩ := z
    wp_walk using wpAny_loadPart' at_, wpAny_load at_
    exact ⟨_, rfl, z⟩
theorem no_str {x : Str} {t : Tok} : Meets (Builtin.«str.__eq__» ⟨[.str x t, .ref p], []⟩) (fun _ R s => s.heap.get? p = some (PySem.W.instObj C dx) ∧ R (.ok (.ret .notImplemented)) s) :=
  .of_wp fun _ _ _ _ s z => by
    obtain ⟨hp, g, d, tk, os⟩ := s
    obtain ⟨at_, z⟩ := z
    wp_walk using wpAny_loadPart' at_, wpAny_load at_
    exact ⟨_, rfl, z⟩
theorem no_tup {a : Addr} : MeetsIn prog w (Builtin.«tuple.__eq__» ⟨[.ref a, .ref p], []⟩) (fun _ R s => Looks (model prog w) s.heap (isInstance (.ref p) (.type "tuple")) false ∧ R (.ok (.ret .notImplemented)) s) :=
  .of_wp fun _ _ s z => by
    refine wpAny_bind (wpAny_of_eq (a := (.ref a, [.ref p])) rfl (wpAny_bind (z.1.here ?_)))
    exact wpAny_pure ⟨_, rfl, z.2⟩
theorem no_lst {a : Addr} : MeetsIn prog w (Builtin.«list.__eq__» ⟨[.ref a, .ref p], []⟩) (fun _ R s => Looks (model prog w) s.heap (isInstance (.ref p) (.type "list")) false ∧ R (.ok (.ret .notImplemented)) s) :=
  .of_wp fun _ _ s z => by
    refine wpAny_bind (wpAny_of_eq (a := (.ref a, [.ref p])) rfl (wpAny_bind (z.1.here ?_)))
    exact wpAny_pure ⟨_, rfl, z.2⟩
theorem no_dic {a : Addr} : MeetsIn prog w (Builtin.«dict.__eq__» ⟨[.ref a, .ref p], []⟩) (fun _ R s => Looks (model prog w) s.heap (isInstance (.ref p) (.type "dict")) false ∧ R (.ok (.ret .notImplemented)) s) :=
  .of_wp fun _ _ s z => by
    refine wpAny_bind (wpAny_of_eq (a := (.ref a, .ref p)) rfl (wpAny_bind (z.1.here ?_)))
    exact wpAny_bind (wpAny_rule (wpAny_pure ⟨_, rfl, z.2⟩))
end
section
variable {X : Cx} {pins : List (Addr × Obj)} {σ : L2.St} {H : Hp} {s : Shared} {x : V} {u : Value} {c : Ct} {μ : Mu} {S : Sto} {d : D} {b : Bool}
theorem type_plain (I : Inv X pins σ H s) (rx : RelV x u) (w : Wd c μ S H) (r : Rp c μ H x d) (e : isA .int S d = some b) : s.TypeIs u (tyOf d) := by
  cases r with
  | non => cases (show u = Value.none from rx); rfl
  | bl k => cases (show u = Value.bool k from rx); rfl
  | int k => obtain ⟨t, rfl⟩ := rx; exact typeIs_int _ _ _
  | str k => obtain ⟨t, rfl⟩ := rx; exact typeIs_str _ _ _
  | @tup a vs ds hs _ =>
    cases (show u = Value.ref a from rx)
    obtain ⟨_, _, _, o, h1, h2, _⟩ := (show ObjOk X.prog X.w H s.heap a (.tup vs) from I.hok a _ hs)
    exact ⟨o, h1, h2⟩
  | @lst a k vs ds hs _ _ _ _ =>
    cases (show u = Value.ref a from rx)
    obtain ⟨_, _, n, _, h1⟩ := (show ObjOk X.prog X.w H s.heap a (.lst vs) from I.hok a _ hs)
    exact ⟨_, h1, rfl⟩
  | @dic a ps hd _ _ =>
    cases (show u = Value.ref a from rx)
    obtain ⟨_, _, vs, _, o, es, ep, h1, h2, _⟩ := (show ObjOk X.prog X.w H s.heap a (.dK (Rb.dicV ps)) from I.hok a _ hd)
    exact ⟨o, h1, h2.1⟩
  | @cell n a hm =>
    cases (show u = Value.ref a from rx)
    obtain ⟨xs, e1, e2⟩ := Option.map_eq_some_iff.mp (show (lstAt S[n]?).map (fun _ => isL .int) = some b from e)
    obtain ⟨vs, h1, _⟩ := w.ok n _ _ hm (lstAt_inv e1)
    obtain ⟨_, _, m, _, h2⟩ := (show ObjOk X.prog X.w H s.heap a (.lst vs) from I.hok a _ h1)
    exact ⟨_, h2, rfl⟩
  | _ => cases e
/-- the built-in == of a plain value hands an object of an own class on -/
theorem declines {A : Around} {E : Value → Shared → Prop} {p C dx : Addr} {Q : Option Value → Shared → Prop} (I : Inv X pins σ H s) (rx : RelV x u) (w : Wd c μ S H) (r : Rp c μ H x d) (e : isA .int S d = some b) (at_ : s.heap.get? p = some (PySem.W.instObj C dx))
    (k1 : Looks (model X.prog X.w) s.heap (isInstance (.ref p) (.type "tuple")) false) (k2 : Looks (model X.prog X.w) s.heap (isInstance (.ref p) (.type "list")) false) (k3 : Looks (model X.prog X.w) s.heap (isInstance (.ref p) (.type "dict")) false) (q : Q none s) :
    wpAny (model X.prog X.w) A (tryCompare u (cmpInfo .Eq).2.1 (.ref p)) Q E s := by
  have ty := type_plain I rx w r e
  cases r with
  | non =>
    cases (show u = Value.none from rx)
    exact wpAny_tryCompare_declines ty F.slot_NoneType_eq (call_gives F.slot_NoneType_eq ty F.entry_NoneType_eq (F.args_NoneType_eq_2 _ _) (SeqAt.NoneType___eq___none_ref_0 p) ⟨rfl, q⟩)
  | bl k =>
    cases (show u = Value.bool k from rx)
    exact wpAny_tryCompare_declines ty F.slot_bool_eq (call_meets F.slot_bool_eq ty F.entry_int_eq (F.args_int_eq_2 _ _) no_bool ⟨at_, rfl, q⟩)
  | int k =>
    obtain ⟨t, rfl⟩ := rx
    exact wpAny_tryCompare_declines ty F.slot_int_eq (call_meets F.slot_int_eq ty F.entry_int_eq (F.args_int_eq_2 _ _) no_int ⟨at_, rfl, q⟩)
  | str k =>
    obtain ⟨t, rfl⟩ := rx
    exact wpAny_tryCompare_declines ty F.slot_str_eq (call_meets F.slot_str_eq ty F.entry_str_eq (F.args_str_eq_2 _ _) no_str ⟨at_, rfl, q⟩)
  | @tup a vs ds hs _ =>
    cases (show u = Value.ref a from rx)
    exact wpAny_tryCompare_declines ty F.slot_tuple_eq (call_meetsIn F.slot_tuple_eq ty F.entry_tuple_eq (F.args_tuple_eq_2 _ _) no_tup ⟨k1, rfl, q⟩)
  | @lst a k vs ds hs _ _ _ _ =>
    cases (show u = Value.ref a from rx)
    exact wpAny_tryCompare_declines ty F.slot_list_eq (call_meetsIn F.slot_list_eq ty F.entry_list_eq (F.args_list_eq_2 _ _) no_lst ⟨k2, rfl, q⟩)
  | @dic a ps hd _ _ =>
    cases (show u = Value.ref a from rx)
    exact wpAny_tryCompare_declines ty F.slot_dict_eq (call_meetsIn F.slot_dict_eq ty F.entry_dict_eq (F.args_dict_eq_2 _ _) no_dic ⟨k3, rfl, q⟩)
  | @cell n a hm =>
    cases (show u = Value.ref a from rx)
    exact wpAny_tryCompare_declines ty F.slot_list_eq (call_meetsIn F.slot_list_eq ty F.entry_list_eq (F.args_list_eq_2 _ _) no_lst ⟨k2, rfl, q⟩)
  | _ => cases e
end
section
open PySem.W
variable {prog : Program} {w : World} {A : Around} {E : Value → Shared → Prop} {s : Shared} {K : Frag} {y D f : Addr} {L : Addr} {h₀ : Heap} {m : Str → Option Value} {oy : Obj} {od' : Option Obj} {a : Value} {T : String}
/-- a == y, a plain, y of an own class: the own method is asked in the end -/
theorem cmp_late {Q : Value → Shared → Prop} (hu : A.units < cLine) (F : Fr h₀ L s.heap m) (X₀ : K.In h₀) (ty : s.TypeIs a T) (tb : Looks (model prog w) s.heap (typeOf a) (.type T)) (I' : InstAt s.heap y oy D od') (sb : subIn K (.ref D) (.type T) = some false)
    (no : ∀ Q' : Option Value → Shared → Prop, Q' none s → wpAny (model prog w) A (tryCompare a (cmpInfo .Eq).2.1 (.ref y)) Q' E s)
    (hs : findIn K (.ref D) (cmpInfo .Eq).2.2 = some (some (.ref f))) (hf : isFn K (.ref f) = true)
    (h : wpAny (model prog w) A (call (.ref f) [.ref y, a]) (PySem.W.CmpBack Q) E s) : wpAny (model prog w) A (richCompare .Eq a (.ref y)) Q E s := by
  have X := X₀.keeps F.keep
  have one : wpAny (model prog w) A (tryCompare (.ref y) (cmpInfo .Eq).2.2 a) (fun r s' => ∃ v, r = some v ∧ Q v s') E s := by
    unfold tryCompare
    refine wpAny_bind (ifBound_K X I' hs hf (wpAny_mono h (fun v s' hv => ?_) fun _ _ e => e))
    cases v <;> first | exact hv.elim | exact wpAny_pure ⟨_, rfl, hv⟩
  unfold richCompare
  simp only [ty.oneThing_none]
  refine wpAny_holding (wpAny_bind (wpAny_cRoomFor hu (wpAny_bind (tb.here (wpAny_bind (I'.type.here ?_))))))
  rw [if_pos (show (Value.type T != Value.ref D) = true from rfl)]
  refine wpAny_bind ((looks_subIn X sb).here ?_)
  simp only [Bool.false_eq_true, if_false]
  refine wpAny_bind (no _ ?_)
  refine wpAny_bind (wpAny_mono one (fun r s' z => ?_) fun _ _ e => e)
  obtain ⟨v, rfl, hq⟩ := z
  exact wpAny_pure hq
end
/-- the facts of the built-in types beside an own class, for == -/
structure EqT (K : PySem.W.Frag) (C : Addr) (T : String) : Prop where
  up : PySem.W.subIn K (.type T) (.ref C) = some false
  dn : PySem.W.subIn K (.ref C) (.type T) = some false
structure EqAny (K : PySem.W.Frag) (mg : Str → Option Value) (x : Str) : Prop where
  ok : ∀ C, mg x = some (.ref C) → ∀ T ∈ ["NoneType", "bool", "int", "str", "tuple", "dict", "list"], EqT K C T
theorem eqany_of {K : PySem.W.Frag} {mg : Str → Option Value} {x : Str} {C : Addr} (h : mg x = some (.ref C)) (t1 : EqT K C "NoneType") (t2 : EqT K C "bool") (t3 : EqT K C "int") (t4 : EqT K C "str") (t5 : EqT K C "tuple") (t6 : EqT K C "dict") (t7 : EqT K C "list") : EqAny K mg x :=
  ⟨fun C' h' => by
    rw [h] at h'
    cases h'
    intro T hT
    simp only [List.mem_cons, List.not_mem_nil, or_false] at hT
    rcases hT with rfl | rfl | rfl | rfl | rfl | rfl | rfl <;> assumption⟩
/-- a == v, a of an own class, v plain -/
def gEqL (tab : List (Str × FF)) : G2 := fun x y S Q => onSome (insOf S x) fun cf => (isA .int S y).isSome = true ∧ onSome (tabF tab cf.1) fun F => F [x, y] S Q noE
/-- v == a -/
def gEqR (tab : List (Str × FF)) : G2 := fun x y S Q => onSome (insOf S y) fun cf => (isA .int S x).isSome = true ∧ onSome (tabF tab cf.1) fun F => F [y, x] S Q noE
section
variable {X : Cx} {lv : Nat} {tab : List (Str × FF)}
theorem o_eqL (hct : ct X = ct0 X.K X.mg) (hx : ∀ p ∈ tab, OpF X.prog X.w X.K X.mg X.base CX0 lv "__eq__" p.1 p.2 ∧ EqAny X.K X.mg p.1) (gd : X.A.guards = some []) (rm : Room lv X.A) : OpR X (compareOp .Eq) (rD2 (ct X) (gEqL tab)) := by
  intro pins s σ H x y v u Q I rx ry ⟨μ, S, d, i, Qd, w, r1, r2, h, q⟩
  obtain ⟨⟨n, fs⟩, e1, hi, h⟩ := onSome_of h
  obtain ⟨b, eb⟩ := Option.isSome_iff_exists.mp hi
  obtain ⟨p, C, dx, fv, rfl, hp, hm, rf⟩ := id (r1.insT w e1)
  obtain rfl : v = Value.ref p := rx
  obtain ⟨mm, ob, _, _, _, _⟩ := ins_get I.hok hp
  obtain ⟨od, J, _⟩ := ob.look
  obtain ⟨m, fr⟩ := I.fr
  obtain ⟨F, e3, h⟩ := onSome_of h
  obtain ⟨o1, o2⟩ := hx _ (tabF_mem e3)
  obtain ⟨fn, dat, pars, ⟨c1, c2, c3, c4⟩, c5, c6⟩ := o1 C hm
  rw [← hct] at c5
  have z := (o2.ok C hm _ (tyOf_in i)).up
  exact PySem.W.cmp_ofEq (PySem.W.cmp_K (op := .Eq) (tb := .type (tyOf i)) rm.units0 fr I.ok.mod.kin J (looks_ty I ry w r2 eb) (by unfold PySem.W.notFirst; rw [z]; simp) c1 c2 (wpAny_mono (runGS (us := [.ref p, u]) (xs := [.ref p, y]) (Q := Q) (E1 := fun _ _ _ => False) c5 gd rm c6 (passG (E := fun _ _ _ _ => False) σ) I (.cons rfl (.cons ry .nil))
    ⟨μ, S, [d, i], Qd, noE, w, .cons r1 (.cons r2 .nil), h, q, fun e S' cls dx H' μ' z => z.elim⟩) (fun u' s' hu => cmpBack (by obtain ⟨_, _, _, rv, _⟩ := hu; exact noNI rv) hu) fun _ _ z => z))
theorem o_eqR (hct : ct X = ct0 X.K X.mg) (hx : ∀ p ∈ tab, OpF X.prog X.w X.K X.mg X.base CX0 lv "__eq__" p.1 p.2 ∧ EqAny X.K X.mg p.1) (gd : X.A.guards = some []) (rm : Room lv X.A) : OpR X (compareOp .Eq) (rD2 (ct X) (gEqR tab)) := by
  intro pins s σ H x y v u Q I rx ry ⟨μ, S, i, d, Qd, w, r2, r1, h, q⟩
  obtain ⟨⟨n, fs⟩, e1, hi, h⟩ := onSome_of h
  obtain ⟨b, eb⟩ := Option.isSome_iff_exists.mp hi
  obtain ⟨p, C, dx, fv, rfl, hp, hm, rf⟩ := id (r1.insT w e1)
  obtain rfl : u = Value.ref p := ry
  obtain ⟨mm, ob, _, _, _, _⟩ := ins_get I.hok hp
  obtain ⟨od, J, _⟩ := ob.look
  obtain ⟨m, fr⟩ := I.fr
  obtain ⟨F, e3, h⟩ := onSome_of h
  obtain ⟨o1, o2⟩ := hx _ (tabF_mem e3)
  obtain ⟨fn, dat, pars, ⟨c1, c2, c3, c4⟩, c5, c6⟩ := o1 C hm
  rw [← hct] at c5
  have X1 := I.ok.mod.kin.keeps fr.keep
  have k : ∀ T ∈ ["NoneType", "bool", "int", "str", "tuple", "dict", "list"], PySem.W.Looks (model X.prog X.w) s.heap (isInstance (.ref p) (.type T)) false := fun T hT => J.type.andThen (PySem.W.looks_subIn X1 (o2.ok C hm T hT).dn)
  exact PySem.W.cmp_ofEq (cmp_late (T := tyOf i) rm.units0 fr I.ok.mod.kin (type_plain I rx w r2 eb) (looks_ty I rx w r2 eb) J (o2.ok C hm _ (tyOf_in i)).dn (fun Q' q' => declines I rx w r2 eb J.1 (k _ (by simp)) (k _ (by simp)) (k _ (by simp)) q') c1 c2 (wpAny_mono (runGS (us := [.ref p, v]) (xs := [.ref p, x]) (Q := Q) (E1 := fun _ _ _ => False) c5 gd rm c6 (passG (E := fun _ _ _ _ => False) σ) I (.cons rfl (.cons rx .nil))
    ⟨μ, S, [d, i], Qd, noE, w, .cons r1 (.cons r2 .nil), h, q, fun e S' cls dx H' μ' z => z.elim⟩) (fun u' s' hu => cmpBack (by obtain ⟨_, _, _, rv, _⟩ := hu; exact noNI rv) hu) fun _ _ z => z))
end
end Pu
namespace Pu
open PySem PySem.Spec PyProof.Rows L2
section
variable {prog : Program} {w : World} {A : Around} {E : Value → Shared → Prop} {h : Heap} {g : Array GenState} {d : Drawn} {t : Nat} {os : OsState} {C x f : Addr} {b : Value} {B T : String} {bm : List Value}
theorem ne_entry (X : h.OwnEqNoNe x C f B bm) (hu : A.units < cLine) {Q : PySem.Fin → Shared → Prop}
    (run : wpAny (model prog w) A (call (.ref f) [.ref x, b]) (fun v s' => ∃ k, v = .bool k ∧ Q (.done (.ret (.bool (!k)))) s') E ⟨h, g, d, t, os⟩) :
    wpAny (model prog w) A (Builtin.«object.__ne__» ⟨[.ref x, b], []⟩) Q E ⟨h, g, d, t, os⟩ := by
  unfold Builtin.«object.__ne__»
  repeat (first
    | with_reducible refine wpAny_cRoomFor hu ?_
    | (refine wpAny_bind (m := callSpecialIfBound? (.ref x) (Str.ofString "__eq__") [b])
        (wpAny_callSpecialIfBound?_own X.ownEq (wpAny_mono run (fun r s' z => by
          obtain ⟨k, rfl, z⟩ := z
          repeat (first | exact z | exact wpAny_pure z | exact wpAny_truthy_bool z | (refine wpAny_bind (m := truthy (.bool _)) (wpAny_truthy_bool ?_)) | wp_step)) fun _ _ z => z)))
    | wp_step)
theorem ne_try (FB : CmpFacts B bm) (X : h.OwnEqNoNe x C f B bm) (hu : A.units + 1 < cLine) {Q : Option Value → Shared → Prop}
    (run : wpAny (model prog w) A.in1 (call (.ref f) [.ref x, b]) (fun v s' => ∃ k, v = .bool k ∧ Q (some (.bool (!k))) s') E ⟨h, g, d, t, os⟩) :
    wpAny (model prog w) A (tryCompare (.ref x) "__ne__" b) Q E ⟨h, g, d, t, os⟩ := by
  obtain ⟨o, of, nm, q, N, bs, hdct, sn, sub, ab, col, dd, k0, k1, k2, k3, k5, newId, mN, yv, hx, hc, hC, hn, _, _, _, _, _, hne⟩ := id X
  simp only [tryCompare]
  refine wpAny_bind (wpAny_callSpecialIfBound?_inst hx hc hC hn hne FB.mro FB.ne (wpAny_call (codeAny_call_builtin FB.ne.plain F.cmpEntry_ne
    (wpAny_check_slot_inst F.cmpKind_ne F.cmpSplit_ne (F.cmpArgs_ne _ _) FB.hasObject hx hc hC
      (ne_entry (A := A.in1) X hu (wpAny_mono run (fun v s' z => ?_) fun _ _ z => z))))))
  obtain ⟨k, rfl, z⟩ := z
  first | exact ⟨k, rfl, wpAny_pure z⟩ | exact ⟨k, rfl, wpAny_pure (wpAny_pure z)⟩ | exact ⟨k, rfl, z⟩
theorem ne_rich (FB : CmpFacts B bm) (X : h.OwnEqNoNe x C f B bm) (tb : PySem.W.Looks (model prog w) h (typeOf b) (.type T)) (sb : PySem.W.Looks (model prog w) h (isSubtype (.type T) (.ref C)) false) (hu : A.units + 1 < cLine) {Q : Value → Shared → Prop}
    (run : wpAny (model prog w) A.in1 (call (.ref f) [.ref x, b]) (fun v s' => ∃ k, v = .bool k ∧ Q (.bool (!k)) s') E ⟨h, g, d, t, os⟩) :
    wpAny (model prog w) A (compareOp .NotEq (.ref x) b) Q E ⟨h, g, d, t, os⟩ := by
  obtain ⟨o, of, nm, q, N, bs, hdct, sn, sub, ab, col, dd, k0, k1, k2, k3, k5, newId, mN, yv, hx, hc, _⟩ := id X
  show wpAny _ _ (richCompare .NotEq (.ref x) b) Q E _
  unfold richCompare
  simp only [oneThing_ref]
  refine wpAny_holding (wpAny_bind (wpAny_cRoomFor (Nat.lt_of_succ_lt hu) ?_))
  rw [cmpInfo_NotEq]
  dsimp only
  refine wpAny_bind (wpAny_typeOf_ref hx ?_)
  rw [hc]
  refine wpAny_bind (tb.at ?_)
  rw [if_pos (show (Value.ref C != Value.type T) = true from rfl)]
  refine wpAny_bind (sb.at ?_)
  simp only [Bool.false_eq_true, if_false]
  refine wpAny_bind (ne_try FB X hu (wpAny_mono run (fun v s' z => ?_) fun _ _ z => z))
  obtain ⟨k, rfl, z⟩ := z
  first | exact ⟨k, rfl, wpAny_pure z⟩ | exact ⟨k, rfl, wpAny_pure (wpAny_pure z)⟩
end
/-- a != v, a of an own class, v plain -/
def gNeL (tab : List (Str × FF)) : G2 := fun x y S Q => onSome (insOf S x) fun cf => (isA .int S y).isSome = true ∧ onSome (tabF tab cf.1) fun F => F [x, y] S (asNb Q) noE
theorem o_neL {X : Cx} {lv : Nat} {tab : List (Str × FF)} (hct : ct X = ct0 X.K X.mg) (hx : ∀ p ∈ tab, NeF X.prog X.w X.K X.mg X.base lv p.1 p.2 ∧ EqAny X.K X.mg p.1) (gd : X.A.guards = some []) (rm : Room (lv + 1) X.A) (hu : X.A.units + 64 < cLine) : OpR X (compareOp .NotEq) (rD2 (ct X) (gNeL tab)) := by
  intro pins s σ H x y v u Q I rx ry ⟨μ, S, d, i, Qd, w, r1, r2, h, q⟩
  obtain ⟨⟨n, fs⟩, e1, hi, h⟩ := onSome_of h
  obtain ⟨b, eb⟩ := Option.isSome_iff_exists.mp hi
  obtain ⟨F, e3, h⟩ := onSome_of h
  obtain ⟨p, C, dx, fv, rfl, hp, hm, rf⟩ := id (r1.insT w e1)
  obtain ⟨o1, o2⟩ := hx _ (tabF_mem e3)
  obtain ⟨fn, dat, pars, ⟨⟨nm, qn, N, bs, hdct, sn, sub, ab, col, dd, k0, k1, k2, k3, k5, newId, hC, ok, he, hn⟩, of, hf, hfc⟩, c5, c6⟩ := o1 C hm
  rw [← hct] at c5
  obtain rfl : v = Value.ref p := rx
  obtain ⟨mm, ob, _, _, _, _⟩ := ins_get I.hok hp
  obtain ⟨od, J, _⟩ := ob.look
  have K1 := I.kIn
  have tb := looks_ty (M := model X.prog X.w) I ry w r2 eb
  have sb : PySem.W.Looks (model X.prog X.w) s.heap (isSubtype (.type (tyOf i)) (.ref C)) false := PySem.W.looks_subIn K1 (o2.ok C hm _ (tyOf_in i)).up
  have run := runGS1 (us := [.ref p, u]) (xs := [.ref p, y]) (Q := fun z H' => ∃ b, z = .bl b ∧ Q (.bl (!b)) H') (E1 := fun _ _ _ => False) c5 gd rm c6 (passG (E := fun _ _ _ _ => False) σ) I (.cons rfl (.cons ry .nil))
    ⟨μ, S, [d, i], asNb Qd, noE, w, .cons r1 (.cons r2 .nil), h, fun d' S' v' H' μ' hq f w' r => by
      unfold asNb at hq
      split at hq
      · exact ⟨_, r.bl_inv, q _ S' _ H' μ' hq f w' (.bl _)⟩
      · exact hq.elim, fun e S' cls dx H' μ' z => z.elim⟩
  obtain ⟨hp0, g0, d0, t0, os0⟩ := s
  have ns : hp0.Ns N (hp0.nsMap N) := .of_isNs (PySem.W.isNs_of_in K1 ok)
  refine ne_rich PySem.F.cmp_object (f := fn) ⟨_, of, nm, qn, N, bs, hdct, sn, sub, ab, col, dd, k0, k1, k2, k3, k5, newId, hp0.nsMap N, _, J.1, J.cls, K1 _ _ hC, ns, ns_has K1 ns he, K1 _ _ hf, hfc, rfl, rfl, PySem.W.nsMap_none_of_in K1 ok hn⟩ tb sb (by omega) (wpAny_mono run (fun u' s' hu' => ?_) fun _ _ z => z)
  obtain ⟨z, H', I', rz, b, rfl, hq⟩ := hu'
  cases rz
  exact ⟨b, rfl, .bl (!b), H', I', rfl, hq⟩
/-! ## v in a, v not in a: the class's own __contains__ -/
def asIn (neg : Bool) (Q : QD) : QD := fun r S => match r with
  | .bl b => Q (.bl (if neg = true then !b else b)) S
  | _ => False
def gInW (neg : Bool) (tab : List (Str × FF)) : G2 := fun x y S Q => onSome (insOf S y) fun cf => onSome (tabF tab cf.1) fun F => F [y, x] S (asIn neg Q) noE
section
variable {X : Cx} {lv : Nat} {tab : List (Str × FF)}
theorem in_run {neg : Bool} (hct : ct X = ct0 X.K X.mg) (hx : ∀ p ∈ tab, OpF X.prog X.w X.K X.mg X.base CX0 lv "__contains__" p.1 p.2) (gd : X.A.guards = some []) (rm : Room lv X.A) {pins : List (Addr × Obj)} {s : Shared} {σ : L2.St} {H : Hp} {x y : V} {v u : Value} {Q : VK}
    (go : ∀ {p C f L : Addr} {h₀ : Heap} {m : Str → Option Value} {ox : Obj} {od : Option Obj}, u = .ref p → Fr h₀ L s.heap m → X.K.In h₀ → PySem.W.InstAt s.heap p ox C od → PySem.W.findIn X.K (.ref C) "__contains__" = some (some (.ref f)) → PySem.W.isFn X.K (.ref f) = true →
      wpAny (model X.prog X.w) X.A (call (.ref f) [.ref p, v]) (fun r s' => ∃ b, r = .bool b ∧ EP X pins σ Q (.bool (if neg = true then !b else b)) s') X.xe s → wpAny (model X.prog X.w) X.A (compareOp (if neg = true then .NotIn else .In) v u) (EP X pins σ Q) X.xe s)
    (I : Inv X pins σ H s) (rx : RelV x v) (ry : RelV y u) (h : rD2 (ct X) (gInW neg tab) x y H Q) : wpAny (model X.prog X.w) X.A (compareOp (if neg = true then .NotIn else .In) v u) (EP X pins σ Q) X.xe s := by
  obtain ⟨μ, S, i, d, Qd, w, r2, r1, h, q⟩ := h
  obtain ⟨⟨n, fs⟩, e1, h⟩ := onSome_of h
  obtain ⟨F, e3, h⟩ := onSome_of h
  obtain ⟨p, C, dx, fv, rfl, hp, hm, rf⟩ := id (r1.insT w e1)
  obtain rfl : u = Value.ref p := ry
  obtain ⟨mm, ob, _, _, _, _⟩ := ins_get I.hok hp
  obtain ⟨od, J, _⟩ := ob.look
  obtain ⟨m, fr⟩ := I.fr
  obtain ⟨fn, dat, pars, ⟨c1, c2, c3, c4⟩, c5, c6⟩ := hx _ (tabF_mem e3) C hm
  rw [← hct] at c5
  refine go rfl fr I.ok.mod.kin J c1 c2 (wpAny_mono (runGS (us := [.ref p, v]) (xs := [.ref p, x]) (Q := fun z H' => ∃ b, z = .bl b ∧ Q (.bl (if neg = true then !b else b)) H') (E1 := fun _ _ _ => False) c5 gd rm c6 (passG (E := fun _ _ _ _ => False) σ) I (.cons rfl (.cons rx .nil))
    ⟨μ, S, [d, i], asIn neg Qd, noE, w, .cons r1 (.cons r2 .nil), h, fun d' S' v' H' μ' hq f w' r => by
      unfold asIn at hq
      split at hq
      · exact ⟨_, r.bl_inv, q _ S' _ H' μ' hq f w' (.bl _)⟩
      · exact hq.elim, fun e S' cls dx H' μ' z => z.elim⟩) (fun u' s' hu' => ?_) fun _ _ z => z)
  obtain ⟨z, H', I', rz, b, rfl, hq⟩ := hu'
  cases rz
  exact ⟨b, rfl, .bl _, H', I', rfl, hq⟩
theorem o_notInW (hct : ct X = ct0 X.K X.mg) (hx : ∀ p ∈ tab, OpF X.prog X.w X.K X.mg X.base CX0 lv "__contains__" p.1 p.2) (gd : X.A.guards = some []) (rm : Room lv X.A) : OpR X (compareOp .NotIn) (rD2 (ct X) (gInW true tab)) := fun pins s σ H x y v u Q I rx ry h =>
  in_run (neg := true) hct hx gd rm (fun e fr kin J a b run => by
    subst e
    refine PySem.W.notIn_K fr kin J a b (wpAny_mono run (fun r s' z => ?_) fun _ _ z => z)
    obtain ⟨k, rfl, z⟩ := z
    exact wpAny_truthy_bool z) I rx ry h
end
end Pu
namespace Pu
open PySem L2
def den_is_number_from : FS := (dSeq (dIfS (dOr (dTest (dUn (gIsi .bool) (dVar 0))) (dNot (dTest (dUn (gIsi .int) (dVar 0)))))
 (dRet (dC (.bl false)))
 dSkip)
 (dRet (dChain gLe gLe (dVar 1) (dVar 0) (dVar 2))))
@[irreducible] def F_is_number_from : FF := dDef 3 3 den_is_number_from
end Pu
namespace Pu
open PySem L2
def den_law_draws : FS := (dSeq (dAsg (dBin gAdd (dLc (st1 2) dYes (dB gAbs (dCons (dVar 2) dNil)) (dItS (dSl (dVar 0) dNoP (dPart (dC (.int 63)))))) (dBin gMul (dLst (dCons (dC (.int 0)) dNil)) (dB gToInt (dCons (dBin iEq (dB gLen (dCons (dVar 0) dNil)) (dC (.int 0))) dNil)))) (gN 1))
 (dRet (dLstC (dCons (dVar 1) (dCons (dC (.int 0)) (dCons (dLcC (st1 2) dYes (dBin gMul (dVar 2) (dB gToInt (dCons (dBin gGe (dVar 2) (dBin gPow (dC (.int 10)) (dC (.int 18)))) dNil))) (dItS (dVar 1))) dNil))))))
@[irreducible] def F_law_draws : FF := dDef 1 3 den_law_draws
def den_law_next : FS := (dSeq (dAsg (dVar 0) (gUn 3 (gsCons (gN 2) (gsCons (gN 3) (gsCons (gN 4) gsNil)))))
 (dSeq (dAsg (dBin gMod (dVar 3) (dB gLen (dCons (dVar 2) dNil))) (gN 5))
 (dSeq (dAsg (dBin gAdd (dVar 3) (dC (.int 1))) (gSetI (dVar 0) (dC (.int 1))))
 (dSeq (dIfS (dTest (dBin gGt (dBin gIx (dVar 4) (dVar 5)) (dC (.int 0))))
 (dSeq (dAsg (dBin gMod (dBin gIx (dVar 4) (dVar 5)) (dVar 1)) (gN 6))
 (dSeq (dAsg (dBin gFdiv (dBin gIx (dVar 4) (dVar 5)) (dVar 1)) (gSetI (dVar 4) (dVar 5)))
 (dRet (dVar 6))))
 dSkip)
 (dSeq (dAsg (dBin gMod (dBin gPow (dBin gAdd (dBin gAdd (dBin gMod (dBin gIx (dVar 2) (dVar 5)) (dC (.int 2147483629))) (dBin gMul (dC (.int 40037)) (dVar 3))) (dC (.int 9203))) (dC (.int 3))) (dC (.int 2147483587))) (gN 7))
 (dSeq (dAsg (dBin gMod (dBin gPow (dBin gAdd (dBin gAdd (dVar 7) (dBin gMul (dBin gMul (dC (.int 5039)) (dVar 3)) (dVar 3))) (dC (.int 43))) (dC (.int 3))) (dC (.int 2147483563))) (gN 7))
 (dRet (dBin gMod (dBin gFdiv (dBin gMod (dBin gMul (dVar 7) (dC (.int 65537))) (dC (.int 2305843009213693951))) (dC (.int 8))) (dVar 1)))))))))
@[irreducible] def F_law_next : FF := dDef 2 8 den_law_next
end Pu
namespace Pu
open PySem L2
def den_Party_starts : FS := (dRet (dFld ["Party"] "given" (dVar 0)))
@[irreducible] def F_Party_starts : FF := dDef 1 1 den_Party_starts
def den_is_starts : FS := (dSeq (dIfS (dOr (dNot (dTest (dUn (gIsi .tup) (dVar 0)))) (dNot (dTest (dChain gLe gLe (dC (.int 1)) (dB gLen (dCons (dVar 0) dNil)) (dC (.int 10))))))
 (dRet (dC (.bl false)))
 dSkip)
 (dSeq (dFor (dItS (dVar 0)) (gN 1)
 (dIfS (dNot (dTest (dCallW F_is_number_from (dCons (dVar 1) (dCons (dC (.int 0)) (dCons (dC (.int 1000000)) dNil))))))
 (dRet (dC (.bl false)))
 dSkip))
 (dRet (dC (.bl true)))))
@[irreducible] def F_is_starts : FF := dDef 1 2 den_is_starts
def den_law_odd_2 : FS := (dSeq (dAsg (dLst (dCons (dC .non) (dCons (dC (.bl true)) (dCons (dC (.bl false)) (dCons (dUn gNeg (dC (.int 1))) (dCons (dC (.int 0)) (dCons (dC (.int 1)) (dCons (dBin gPow (dC (.int 10)) (dC (.int 39))) (dCons (dC (.str "")) (dCons (dC (.str "0")) (dCons (dTup dNil) (dCons (dLst dNil) (dCons (dC (.dic [])) (dCons (dTup (dCons (dC (.int 0)) dNil)) (dCons (dLst (dCons (dC (.int 0)) dNil)) (dCons (dTup (dCons (dC (.int 1)) (dCons (dC (.bl true)) dNil))) (dCons (dTup (dCons (dTup (dCons (dC (.int 1)) dNil)) dNil)) (dCons (dTup (dCons (dC (.int 2)) (dCons (dUn gNeg (dC (.int 1))) dNil))) dNil)))))))))))))))))) (gN 1))
 (dRet (dBin gIx (dVar 1) (dCallW F_law_next (dCons (dVar 0) (dCons (dC (.int 17)) dNil))))))
@[irreducible] def F_law_odd_2 : FF := dDef 1 2 den_law_odd_2
def den_law_starts_5 : FS := (dSeq (dPar 2 3 (dCons (dBin gIx (dLst (dCons (dC (.int 2)) (dCons (dC (.int 30)) (dCons (dBin gAdd (dBin gPow (dC (.int 10)) (dC (.int 6))) (dC (.int 1))) dNil)))) (dCallW F_law_next (dCons (dVar 0) (dCons (dC (.int 3)) dNil)))) (dCons (dLstC dNil) dNil)))
 (dSeq (dFor (dRng1 (dCons (dBin gAdd (dC (.int 1)) (dCallW F_law_next (dCons (dVar 0) (dCons (dVar 1) dNil)))) dNil)) (gN 4)
 (dDrop (dML gAppend (dVar 3) (dCons (dBin gIx (dLst (dCons (dCallW F_law_next (dCons (dVar 0) (dCons (dVar 2) dNil))) (dCons (dC (.int 0)) (dCons (dBin gSub (dVar 2) (dC (.int 1))) dNil)))) (dBin gMod (dBin gMod (dCallW F_law_next (dCons (dVar 0) (dCons (dC (.int 8)) dNil))) (dC (.int 5))) (dC (.int 3)))) dNil))))
 (dRet (dB gTuple (dCons (dVar 3) dNil)))))
@[irreducible] def F_law_starts_5 : FF := dDefC 2 5 den_law_starts_5
def den_Party_init : FS := (dSeq (dIfS (dNot (dTest (dCallW F_is_starts (dCons (dVar 1) dNil))))
 (dRaise "BadStarts" "value" (dVar 1))
 dSkip)
 (dSeq (dStF ["Party"] "given" (dVar 0) (dVar 1))
 (dStF ["Party"] "ordered" (dVar 0) (dB gTuple (dCons (dB gSortTI (dCons (dVar 1) dNil)) dNil)))))
@[irreducible] def F_Party_init : FF := dDefX 2 2 den_Party_init
end Pu
namespace Pu
open PySem L2
def den_Trip_finish : FS := (dRet (dBin gIx (dBin gIx (dFld ["Trip"] "versions" (dVar 0)) (dUn gNeg (dC (.int 1)))) (dC (.int 2))))
@[irreducible] def F_Trip_finish : FF := dDef 1 1 den_Trip_finish
def den_Party_contains : FS := (dRet (dAndV (dCallW F_is_number_from (dCons (dVar 1) (dCons (dC (.int 0)) (dCons (dC (.int 1000000)) dNil)))) (dBin (gIn false) (dVar 1) (dFld ["Party"] "given" (dVar 0)))))
@[irreducible] def F_Party_contains : FF := dDef 2 2 den_Party_contains
end Pu
namespace Pu
open PySem L2
def den_law_grouped : FS := (dSeq (dPar 1 2 (dCons (dB gStr (dCons (dVar 0) dNil)) (dCons (dC (.str "")) dNil)))
 (dSeq (dWhile (dTest (dBin gGt (dB gLen (dCons (dVar 1) dNil)) (dC (.int 3))))
 (dPar 2 1 (dCons (dBin gAdd (dBin gAdd (dC (.str ",")) (dSl (dVar 1) (dPart (dUn gNeg (dC (.int 3)))) dNoP)) (dVar 2)) (dCons (dSl (dVar 1) dNoP (dPart (dUn gNeg (dC (.int 3))))) dNil))))
 (dRet (dBin gAdd (dVar 1) (dVar 2)))))
@[irreducible] def F_law_grouped : FF := dDef 1 3 den_law_grouped
def den_law_is_number_2 : FS := (dRet (dAndV (dUn (gIsi .int) (dVar 0)) (dNotV (dUn (gIsi .bool) (dVar 0)))))
@[irreducible] def F_law_is_number_2 : FF := dDef 1 1 den_law_is_number_2
def den_Party_str : FS := (dRet (dJoin (dC (.str "")) (dLc (st1 1) dYes (dFld8 (dVar 1)) (dItS (dFld ["Party"] "given" (dVar 0))))))
@[irreducible] def F_Party_str : FF := dDef 1 2 den_Party_str
def den_Party_eq_2 : FS := (dRet (dAndV (dIsA [("Party", "Party", true)] "Party" (dVar 1)) (dBin iEq (dFld ["Party"] "ordered" (dVar 0)) (dFld ["Party"] "ordered" (dVar 1)))))
@[irreducible] def F_Party_eq_2 : FF := dDef 2 2 den_Party_eq_2
def den_law_text_2 : FS := (dSeq (dAsg (dLstC dNil) (gN 1))
 (dSeq (dFor (dItS (dVar 0)) (gN 2)
 (dSeq (dAsg (dCallW F_law_grouped (dCons (dVar 2) dNil)) (gN 3))
 (dDrop (dML gAppend (dVar 1) (dCons (dBin gAdd (dBin gMulT (dC (.str " ")) (dB gMax (dCons (dC (.int 0)) (dCons (dBin gSub (dC (.int 8)) (dB gLen (dCons (dVar 3) dNil))) dNil)))) (dVar 3)) dNil)))))
 (dRet (dJoin (dC (.str "")) (dVar 1)))))
@[irreducible] def F_law_text_2 : FF := dDefC 1 4 den_law_text_2
def den_law_k29 : FS := (dSeq (dAsg (dCallW F_law_draws (dCons (dVar 0) dNil)) (gN 1))
 (dSeq (dFor (dRng1 (dCons (dC (.int 8)) dNil)) (gN 2)
 (dSeq (dAsg (dCall 2 F_law_starts_5 (dCons (dVar 1) (dCons (dC (.int 10)) dNil))) (gN 3))
 (dSeq (dPar 4 5 (dCons (dMake "Party" F_Party_init (dCons (dVar 3) dNil)) (dCons (dCallW F_law_next (dCons (dVar 1) (dCons (dB gLen (dCons (dVar 3) dNil)) dNil))) dNil)))
 (dSeq (dAsg (dBin gAdd (dBin gAdd (dSl (dVar 3) dNoP (dPart (dVar 5))) (dTup (dCons (dB gMinL (dCons (dBin gPow (dC (.int 10)) (dC (.int 6))) (dCons (dBin gAdd (dBin gIx (dVar 3) (dVar 5)) (dC (.int 1))) dNil))) dNil))) (dSl (dVar 3) (dPart (dBin gAdd (dVar 5) (dC (.int 1)))) dNoP)) (gN 6))
 (dSeq (dAsg (dLst (dCons (dVar 3) (dCons (dUn gRevT (dVar 3)) (dCons (dB gTuple (dCons (dB gSorted (dCons (dB gListN (dCons (dVar 3) dNil)) dNil)) dNil)) (dCons (dVar 6) (dCons (dSl (dVar 3) dNoP (dPart (dBin gAdd (dVar 5) (dC (.int 1))))) (dCons (dSl (dBin gAdd (dVar 3) (dVar 3)) dNoP (dPart (dC (.int 10)))) dNil))))))) (gN 7))
 (dSeq (dAsg (dBin gAdd (dVar 7) (dLst (dCons (dBin gAdd (dSl (dVar 3) (dPart (dVar 5)) dNoP) (dSl (dVar 3) dNoP (dPart (dVar 5)))) (dCons (dSl (dBin gAdd (dVar 3) (dTup (dCons (dC (.int 0)) dNil))) dNoP (dPart (dC (.int 10)))) (dCons (dCall 2 F_law_starts_5 (dCons (dVar 1) (dCons (dC (.int 10)) dNil))) dNil))))) (gN 7))
 (dSeq (dFor (dItS (dVar 7)) (gN 8)
 (dSeq (dPar 9 10 (dCons (dMake "Party" F_Party_init (dCons (dVar 8) dNil)) (dCons (dBin iEq (dB gSorted (dCons (dB gListN (dCons (dVar 8) dNil)) dNil)) (dB gSorted (dCons (dB gListN (dCons (dVar 3) dNil)) dNil))) dNil)))
 (dSeq (dIfS (dTest (dBin iNe (dB iRepr (dCons (dLst (dCons (dBin (gEqO [("Party", F_Party_eq_2)]) (dVar 4) (dVar 9)) (dCons (dBin (gNeO [("Party", F_Party_eq_2)]) (dVar 4) (dVar 9)) (dCons (dBin (gEqO [("Party", F_Party_eq_2)]) (dVar 9) (dVar 4)) dNil)))) dNil)) (dB iRepr (dCons (dLst (dCons (dVar 10) (dCons (dNotV (dVar 10)) (dCons (dVar 10) dNil)))) dNil))))
 (dRet (dC (.bl false)))
 dSkip)
 (dIfS (dOr (dTest (dBin iNe (dB (gStrO [("Party", F_Party_str)]) (dCons (dVar 9) dNil)) (dCall 0 F_law_text_2 (dCons (dVar 8) dNil)))) (dTest (dBin iNe (dProp [("Party", F_Party_starts)] (dVar 9)) (dVar 8))))
 (dRet (dC (.bl false)))
 dSkip))))
 (dSeq (dAsg (dBin gAdd (dB gListN (dCons (dVar 3) dNil)) (dLst (dCons (dBin gAdd (dBin gIx (dVar 3) (dVar 5)) (dC (.int 1))) (dCons (dUn gNeg (dC (.int 1))) (dCons (dC (.int 0)) (dCons (dC (.int 1)) (dCons (dC (.bl true)) (dCons (dC (.bl false)) (dCons (dC .non) (dCons (dB gStr (dCons (dBin gIx (dVar 3) (dVar 5)) dNil)) (dCons (dTup (dCons (dBin gIx (dVar 3) (dVar 5)) dNil)) dNil))))))))))) (gN 11))
 (dSeq (dFor (dItS (dBin gAdd (dVar 11) (dLst (dCons (dCallW F_law_odd_2 (dCons (dVar 1) dNil)) (dCons (dLst (dCons (dBin gIx (dVar 3) (dVar 5)) dNil)) (dCons (dBin gPow (dC (.int 10)) (dC (.int 39))) dNil)))))) (gN 12)
 (dSeq (dAsg (dAndV (dCallW F_law_is_number_2 (dCons (dVar 12) dNil)) (dBin (gIn false) (dVar 12) (dB gListN (dCons (dVar 3) dNil)))) (gN 10))
 (dIfS (dTest (dBin iNe (dB iRepr (dCons (dLst (dCons (dBin (gInO [("Party", F_Party_contains)]) (dVar 12) (dVar 4)) (dCons (dBin (gInW true [("Party", F_Party_contains)]) (dVar 12) (dVar 4)) dNil))) dNil)) (dB iRepr (dCons (dLst (dCons (dVar 10) (dCons (dNotV (dVar 10)) dNil))) dNil))))
 (dRet (dC (.bl false)))
 dSkip)))
 (dSeq (dFor (dItS (dLst (dCons (dVar 3) (dCons (dB gListN (dCons (dVar 3) dNil)) (dCons (dC .non) (dCons (dBin gIx (dVar 3) (dC (.int 0))) (dCons (dB (gStrO [("Party", F_Party_str)]) (dCons (dVar 4) dNil)) (dCons (dLst (dCons (dVar 4) dNil)) (dCons (dCallW F_law_odd_2 (dCons (dVar 1) dNil)) dNil))))))))) (gN 12)
 (dIfS (dTest (dBin iNe (dB iRepr (dCons (dLst (dCons (dBin (gEqL [("Party", F_Party_eq_2)]) (dVar 4) (dVar 12)) (dCons (dBin (gEqR [("Party", F_Party_eq_2)]) (dVar 12) (dVar 4)) (dCons (dBin (gNeL [("Party", F_Party_eq_2)]) (dVar 4) (dVar 12)) dNil)))) dNil)) (dB iRepr (dCons (dLst (dCons (dC (.bl false)) (dCons (dC (.bl false)) (dCons (dC (.bl true)) dNil)))) dNil))))
 (dRet (dC (.bl false)))
 dSkip))
 (dIfS (dTest (dBin iNe (dB iRepr (dCons (dProp [("Party", F_Party_starts)] (dVar 4)) dNil)) (dB iRepr (dCons (dVar 3) dNil))))
 (dRet (dC (.bl false)))
 dSkip)))))))))))
 (dRet (dBin iEq (dB (gStrO [("Party", F_Party_str)]) (dCons (dMake "Party" F_Party_init (dCons (dTup (dCons (dC (.int 12000)) (dCons (dC (.int 9)) dNil))) dNil)) dNil)) (dC (.str "  12,000       9"))))))
@[irreducible] def F_law_k29 : FF := dDef 1 13 den_law_k29
end Pu
namespace Pu
open PySem PySem.Spec PyProof.Rows L2
def topS (i : Nat) : Stmt := PySem.Challenge.pw_roadbikes_k29_parties_in_equal_and_text.main.body.getD i (.Pass ⟨0, 0, 0, 0⟩)
abbrev s_is_number_from : Stmt := topS 3
abbrev s_is_starts : Stmt := topS 4
abbrev s__law_draws : Stmt := topS 15
abbrev s__law_next : Stmt := topS 16
abbrev s__law_starts : Stmt := topS 17
abbrev s__law_odd : Stmt := topS 18
abbrev s__law_grouped : Stmt := topS 19
abbrev s__law_text : Stmt := topS 20
abbrev s__law_is_number : Stmt := topS 21
abbrev s_Party___init__ : Stmt := inClass (topS 13) 0
abbrev s_Party_starts : Stmt := inClass (topS 13) 1
abbrev s_Party___contains__ : Stmt := inClass (topS 13) 6
abbrev s_Party___str__ : Stmt := inClass (topS 13) 8
abbrev s_Party___eq__ : Stmt := inClass (topS 13) 9
abbrev s_law : Stmt := topS 22
abbrev si_BadStarts : Stmt := inClass (topS 7) 0
abbrev N_is_number_from : List Str := ["value", "least", "most"]
theorem sc_is_number_from : FnScope N_is_number_from ["value", "least", "most"] (defScope s_is_number_from) := ⟨rfl, rfl, rfl, by decide +kernel, rfl, by decide +kernel, by decide +kernel⟩
abbrev N_is_starts : List Str := ["value", "start"]
theorem sc_is_starts : FnScope N_is_starts ["value"] (defScope s_is_starts) := ⟨rfl, rfl, rfl, by decide +kernel, rfl, by decide +kernel, by decide +kernel⟩
abbrev N__law_draws : List Str := ["_law_script", "_law_cells", "_law_cell"]
theorem sc__law_draws : FnScope N__law_draws ["_law_script"] (defScope s__law_draws) := ⟨rfl, rfl, rfl, by decide +kernel, rfl, by decide +kernel, by decide +kernel⟩
abbrev N__law_next : List Str := ["_law_state", "_law_many", "_law_cells", "_law_count", "_law_rests", "_law_index", "_law_digit", "_law_mixed"]
theorem sc__law_next : FnScope N__law_next ["_law_state", "_law_many"] (defScope s__law_next) := ⟨rfl, rfl, rfl, by decide +kernel, rfl, by decide +kernel, by decide +kernel⟩
abbrev N__law_starts : List Str := ["_law_state", "_law_most", "_law_bound", "_law_found", "_law_k"]
theorem sc__law_starts : FnScope N__law_starts ["_law_state", "_law_most"] (defScope s__law_starts) := ⟨rfl, rfl, rfl, by decide +kernel, rfl, by decide +kernel, by decide +kernel⟩
abbrev N__law_odd : List Str := ["_law_state", "_law_some"]
theorem sc__law_odd : FnScope N__law_odd ["_law_state"] (defScope s__law_odd) := ⟨rfl, rfl, rfl, by decide +kernel, rfl, by decide +kernel, by decide +kernel⟩
abbrev N__law_grouped : List Str := ["_law_number", "_law_text_here", "_law_found"]
theorem sc__law_grouped : FnScope N__law_grouped ["_law_number"] (defScope s__law_grouped) := ⟨rfl, rfl, rfl, by decide +kernel, rfl, by decide +kernel, by decide +kernel⟩
abbrev N__law_text : List Str := ["_law_starts_here", "_law_parts", "_law_start", "_law_text_here"]
theorem sc__law_text : FnScope N__law_text ["_law_starts_here"] (defScope s__law_text) := ⟨rfl, rfl, rfl, by decide +kernel, rfl, by decide +kernel, by decide +kernel⟩
abbrev N__law_is_number : List Str := ["_law_value"]
theorem sc__law_is_number : FnScope N__law_is_number ["_law_value"] (defScope s__law_is_number) := ⟨rfl, rfl, rfl, by decide +kernel, rfl, by decide +kernel, by decide +kernel⟩
abbrev N_Party___init__ : List Str := ["self", "starts"]
theorem sc_Party___init__ : FnScope N_Party___init__ ["self", "starts"] (defScope s_Party___init__) := ⟨rfl, rfl, rfl, by decide +kernel, rfl, by decide +kernel, by decide +kernel⟩
abbrev N_Party_starts : List Str := ["self"]
theorem sc_Party_starts : FnScope N_Party_starts ["self"] (defScope s_Party_starts) := ⟨rfl, rfl, rfl, by decide +kernel, rfl, by decide +kernel, by decide +kernel⟩
abbrev N_Party___contains__ : List Str := ["self", "x"]
theorem sc_Party___contains__ : FnScope N_Party___contains__ ["self", "x"] (defScope s_Party___contains__) := ⟨rfl, rfl, rfl, by decide +kernel, rfl, by decide +kernel, by decide +kernel⟩
abbrev N_Party___str__ : List Str := ["self", "start"]
theorem sc_Party___str__ : FnScope N_Party___str__ ["self"] (defScope s_Party___str__) := ⟨rfl, rfl, rfl, by decide +kernel, rfl, by decide +kernel, by decide +kernel⟩
abbrev N_Party___eq__ : List Str := ["self", "other"]
theorem sc_Party___eq__ : FnScope N_Party___eq__ ["self", "other"] (defScope s_Party___eq__) := ⟨rfl, rfl, rfl, by decide +kernel, rfl, by decide +kernel, by decide +kernel⟩
abbrev N_law : List Str := ["_law_script", "_law_state", "_law_turn", "_law_starts_here", "_law_party", "_law_spot", "_law_near", "_law_rows", "_law_row", "_law_other", "_law_due", "_law_values", "_law_value"]
theorem sc_law : FnScope N_law ["_law_script"] (defScope s_law) := ⟨rfl, rfl, rfl, by decide +kernel, rfl, by decide +kernel, by decide +kernel⟩
theorem sci_BadStarts : FnScope ["self", "value"] ["self", "value"] (defScope si_BadStarts) := ⟨rfl, rfl, rfl, by decide +kernel, rfl, by decide +kernel, by decide +kernel⟩
structure Tx (K : PySem.W.Frag) (mg : Str → Option Value) where
  f_is_number_from : Addr
  fd_is_number_from : FuncData
  F_is_number_from : Fun K "is_number_from" "is_number_from" s_is_number_from f_is_number_from fd_is_number_from
  g_is_number_from : mg "is_number_from" = some (.ref f_is_number_from)
  b_is_number_from : Binds K fd_is_number_from ["value", "least", "most"] []
  f_is_starts : Addr
  fd_is_starts : FuncData
  F_is_starts : Fun K "is_starts" "is_starts" s_is_starts f_is_starts fd_is_starts
  g_is_starts : mg "is_starts" = some (.ref f_is_starts)
  b_is_starts : Binds K fd_is_starts ["value"] []
  f__law_draws : Addr
  fd__law_draws : FuncData
  F__law_draws : Fun K "_law_draws" "_law_draws" s__law_draws f__law_draws fd__law_draws
  g__law_draws : mg "_law_draws" = some (.ref f__law_draws)
  b__law_draws : Binds K fd__law_draws ["_law_script"] []
  f__law_next : Addr
  fd__law_next : FuncData
  F__law_next : Fun K "_law_next" "_law_next" s__law_next f__law_next fd__law_next
  g__law_next : mg "_law_next" = some (.ref f__law_next)
  b__law_next : Binds K fd__law_next ["_law_state", "_law_many"] []
  f__law_starts : Addr
  fd__law_starts : FuncData
  F__law_starts : Fun K "_law_starts" "_law_starts" s__law_starts f__law_starts fd__law_starts
  g__law_starts : mg "_law_starts" = some (.ref f__law_starts)
  b__law_starts : Binds K fd__law_starts ["_law_state", "_law_most"] []
  f__law_odd : Addr
  fd__law_odd : FuncData
  F__law_odd : Fun K "_law_odd" "_law_odd" s__law_odd f__law_odd fd__law_odd
  g__law_odd : mg "_law_odd" = some (.ref f__law_odd)
  b__law_odd : Binds K fd__law_odd ["_law_state"] []
  f__law_grouped : Addr
  fd__law_grouped : FuncData
  F__law_grouped : Fun K "_law_grouped" "_law_grouped" s__law_grouped f__law_grouped fd__law_grouped
  g__law_grouped : mg "_law_grouped" = some (.ref f__law_grouped)
  b__law_grouped : Binds K fd__law_grouped ["_law_number"] []
  f__law_text : Addr
  fd__law_text : FuncData
  F__law_text : Fun K "_law_text" "_law_text" s__law_text f__law_text fd__law_text
  g__law_text : mg "_law_text" = some (.ref f__law_text)
  b__law_text : Binds K fd__law_text ["_law_starts_here"] []
  f__law_is_number : Addr
  fd__law_is_number : FuncData
  F__law_is_number : Fun K "_law_is_number" "_law_is_number" s__law_is_number f__law_is_number fd__law_is_number
  g__law_is_number : mg "_law_is_number" = some (.ref f__law_is_number)
  b__law_is_number : Binds K fd__law_is_number ["_law_value"] []
  f_Party___init__ : Addr
  fd_Party___init__ : FuncData
  F_Party___init__ : Fun K "__init__" "Party.__init__" s_Party___init__ f_Party___init__ fd_Party___init__
  b_Party___init__ : Binds K fd_Party___init__ ["self", "starts"] []
  f_Party_starts : Addr
  fd_Party_starts : FuncData
  F_Party_starts : Fun K "starts" "Party.starts" s_Party_starts f_Party_starts fd_Party_starts
  b_Party_starts : Binds K fd_Party_starts ["self"] []
  f_Party___contains__ : Addr
  fd_Party___contains__ : FuncData
  F_Party___contains__ : Fun K "__contains__" "Party.__contains__" s_Party___contains__ f_Party___contains__ fd_Party___contains__
  b_Party___contains__ : Binds K fd_Party___contains__ ["self", "x"] []
  f_Party___str__ : Addr
  fd_Party___str__ : FuncData
  F_Party___str__ : Fun K "__str__" "Party.__str__" s_Party___str__ f_Party___str__ fd_Party___str__
  b_Party___str__ : Binds K fd_Party___str__ ["self"] []
  f_Party___eq__ : Addr
  fd_Party___eq__ : FuncData
  F_Party___eq__ : Fun K "__eq__" "Party.__eq__" s_Party___eq__ f_Party___eq__ fd_Party___eq__
  b_Party___eq__ : Binds K fd_Party___eq__ ["self", "other"] []
  f_law : Addr
  fd_law : FuncData
  F_law : Fun K "law" "law" s_law f_law fd_law
  g_law : mg "law" = some (.ref f_law)
  b_law : Binds K fd_law ["_law_script"] []
  C_BadStarts : Addr
  gC_BadStarts : mg "BadStarts" = some (.ref C_BadStarts)
  C_Party : Addr
  gC_Party : mg "Party" = some (.ref C_Party)
  cl_Party : Cls K C_Party
  na_Party_given : NoAttr K C_Party "given"
  na_Party_ordered : NoAttr K C_Party "ordered"
  mk_Party : Mk K C_Party f_Party___init__
  pa_Party_starts : Addr
  pr_Party_starts : PropOf K C_Party "starts" pa_Party_starts f_Party_starts
  it_Party : InsT K C_Party
  st_Party : PySem.W.findIn K (.ref C_Party) "__str__" = some (some (.ref f_Party___str__))
  stf_Party : PySem.W.isFn K (.ref f_Party___str__) = true
  kc_Party_Party : PySem.W.kitOne K (.ref C_Party) (.ref C_Party) = some true
  oa_Party_contains : PySem.W.findIn K (.ref C_Party) "__contains__" = some (some (.ref f_Party___contains__))
  ob_Party_contains : PySem.W.isFn K (.ref f_Party___contains__) = true
  oc_Party_contains : PySem.W.fnIn K f_Party___contains__ = true
  od_Party_contains : PySem.W.selfFirst K C_Party = true
  oa_Party_eq : PySem.W.findIn K (.ref C_Party) "__eq__" = some (some (.ref f_Party___eq__))
  ob_Party_eq : PySem.W.isFn K (.ref f_Party___eq__) = true
  oc_Party_eq : PySem.W.fnIn K f_Party___eq__ = true
  od_Party_eq : PySem.W.selfFirst K C_Party = true
  ne_Party : NeC K C_Party f_Party___eq__
  nt_Party : NoTy K C_Party
  ey_Party : EqAny K mg "Party"
  E_BadStarts : OwnI K C_BadStarts
  L_BadStarts : ErrC K C_BadStarts [.type "ValueError", .type "Exception", .type "BaseException", .type "object"] "ValueError.__new__"
  no_BadStarts : PySem.W.findIn K (.ref C_BadStarts) "value" = some none
  fI_BadStarts : Addr
  fdI_BadStarts : FuncData
  iC_BadStarts : PySem.W.findIn K (.ref C_BadStarts) "__init__" = some (some (.ref fI_BadStarts))
  tI_BadStarts : PySem.W.typeIn K (.ref fI_BadStarts) = some (.type "function")
  FI_BadStarts : Fun K "__init__" "BadStarts.__init__" si_BadStarts fI_BadStarts fdI_BadStarts
  bI_BadStarts : Binds K fdI_BadStarts ["self", "value"] []
  t_MAX_PEOPLE : Tok
  c_MAX_PEOPLE : mg "MAX_PEOPLE" = some (.int 10 t_MAX_PEOPLE)
  t_MAX_START : Tok
  c_MAX_START : mg "MAX_START" = some (.int 1000000 t_MAX_START)
  z_abs : mg "abs" = none
  z_bool : mg "bool" = none
  z_int : mg "int" = none
  z_isinstance : mg "isinstance" = none
  z_len : mg "len" = none
  z_list : mg "list" = none
  z_max : mg "max" = none
  z_min : mg "min" = none
  z_range : mg "range" = none
  z_repr : mg "repr" = none
  z_sorted : mg "sorted" = none
  z_str : mg "str" = none
  z_tuple : mg "tuple" = none
section
variable {P : Program} {w : World} {K : PySem.W.Frag} {mg : Str → Option Value} {base : Heap}
theorem Gi_BadStarts (T : Tx K mg) : FnOk P w K mg base CX0 1 T.fI_BadStarts T.fdI_BadStarts ["self", "value"] (Rb.spIni K T.C_BadStarts "value") :=
  iniE T.FI_BadStarts sci_BadStarts T.L_BadStarts T.no_BadStarts (fun _ _ _ _ _ _ => pss_one (ps_putE PySem.F.store_ValueError (pv 0) (pv 1)))
theorem G_is_number_from (T : Tx K mg) : Rb.FnG P w K mg base CX0 1 T.f_is_number_from T.fd_is_number_from ["value", "least", "most"] (spF (ct0 K mg) F_is_number_from) := by
  unfold F_is_number_from
  exact
   d_fn T.F_is_number_from sc_is_number_from fun cdv A out s H E hg hr => (d_seq (d_if (PW.pt (d_or (d_tval (d_isi (t := .bool) (by rfl) T.z_isinstance (d_var (pv 0)) (pe_bltn (by rfl) T.z_bool (show bootBuiltins "bool" = some (.type "bool") by decide +kernel) (show RelV (V.ty "bool") _ from rfl)))) (d_or1 (d_not (d_tval (d_isi (t := .int) (by rfl) T.z_isinstance (d_var (pv 0)) (pe_bltn (by rfl) T.z_int (show bootBuiltins "int" = some (.type "int") by decide +kernel) (show RelV (V.ty "int") _ from rfl))))))))
 (d_last (d_ret d_bl))
 d_end)
 (d_last (d_ret (d_chain o_le o_le (d_var (pv 1)) (d_var (pv 0)) (d_var (pv 2))))))
theorem G_law_draws (T : Tx K mg) : Rb.FnG P w K mg base CX0 1 T.f__law_draws T.fd__law_draws ["_law_script"] (spF (ct0 K mg) F_law_draws) := by
  unfold F_law_draws
  exact
   d_fn T.F__law_draws sc__law_draws fun cdv A out s H E hg hr => (d_seq (d_set (i := 1) sc__law_draws.nd rfl (.inl rfl) (d_bin o_add (d_lc (own := [("_law_cell", 2)]) (g := (gName 2)) (st := (st1 2)) lct1 (by rfl) sc__law_draws.nd (d_iseq (d_slice (d_var (pv 0)) d_noP (d_part d_int))) (blkOk_by (own := [("_law_cell", 2)]) (N := N__law_draws) (sc := defScope s__law_draws) (by decide +kernel)) (fun _ _ _ _ _ => (pg_name (i := 2) sc__law_draws.nd rfl (.inl rfl))) (fun _ _ _ _ _ => d_tnil) (fun _ _ _ _ _ => (d_callB c_abs (by rfl) T.z_abs (by decide +kernel) (d_cons (d_var (pv 2)) d_nil)))) (d_bin o_mul (d_lst (d_cons d_int d_nil)) (d_callT c_int (by rfl) T.z_int (by decide +kernel) (d_cons (d_cmp (o_ieq hr.units) (d_callB c_len (by rfl) T.z_len (by decide +kernel) (d_cons (d_var (pv 0)) d_nil)) d_int (nomark _)) d_nil)))))
 (d_last (d_ret (d_lstC (d_cons (d_var (pv 1)) (d_cons d_int (d_cons (d_lcC (own := [("_law_cell", 2)]) (g := (gName 2)) (st := (st1 2)) lct1 (by rfl) sc__law_draws.nd (d_iseq (d_var (pv 1))) (blkOk_by (own := [("_law_cell", 2)]) (N := N__law_draws) (sc := defScope s__law_draws) (by decide +kernel)) (fun _ _ _ _ _ => (pg_name (i := 2) sc__law_draws.nd rfl (.inl rfl))) (fun _ _ _ _ _ => d_tnil) (fun _ _ _ _ _ => (d_bin o_mul (d_var (pv 2)) (d_callT c_int (by rfl) T.z_int (by decide +kernel) (d_cons (d_cmp o_ge (d_var (pv 2)) (d_bin o_pow d_int d_int) (nomark _)) d_nil))))) d_nil)))))))
theorem G_law_next (T : Tx K mg) : Rb.FnG P w K mg base CX0 1 T.f__law_next T.fd__law_next ["_law_state", "_law_many"] (spF (ct0 K mg) F_law_next) := by
  unfold F_law_next
  exact
   d_fn T.F__law_next sc__law_next fun cdv A out s H E hg hr => (d_seq (d_asg (d_var (pv 0)) (d_gunl rfl (d_gcons (d_gn (pg_name (i := 2) sc__law_next.nd rfl (.inl rfl))) (d_gcons (d_gn (pg_name (i := 3) sc__law_next.nd rfl (.inl rfl))) (d_gcons (d_gn (pg_name (i := 4) sc__law_next.nd rfl (.inl rfl))) d_gnil)))))
 (d_seq (d_set (i := 5) sc__law_next.nd rfl (.inl rfl) (d_bin o_mod (d_var (pv 3)) (d_callB c_len (by rfl) T.z_len (by decide +kernel) (d_cons (d_var (pv 2)) d_nil))))
 (d_seq (d_asg (d_bin o_add (d_var (pv 3)) d_int) (d_gsub (d_var (pv 0)) d_int))
 (d_seq (d_if (d_tcmp o_gt (d_ix (d_var (pv 4)) (d_var (pv 5)) (fun _ _ => rfl)) d_int (nomark _))
 (d_seq (d_set (i := 6) sc__law_next.nd rfl (.inl rfl) (d_bin o_mod (d_ix (d_var (pv 4)) (d_var (pv 5)) (fun _ _ => rfl)) (d_var (pv 1))))
 (d_seq (d_asg (d_bin o_fdiv (d_ix (d_var (pv 4)) (d_var (pv 5)) (fun _ _ => rfl)) (d_var (pv 1))) (d_gsub (d_var (pv 4)) (d_var (pv 5))))
 (d_last (d_ret (d_var (pv 6))))))
 d_end)
 (d_seq (d_set (i := 7) sc__law_next.nd rfl (.inl rfl) (d_bin o_mod (d_bin o_pow (d_bin o_add (d_bin o_add (d_bin o_mod (d_ix (d_var (pv 2)) (d_var (pv 5)) (fun _ _ => rfl)) d_int) (d_bin o_mul d_int (d_var (pv 3)))) d_int) d_int) d_int))
 (d_seq (d_set (i := 7) sc__law_next.nd rfl (.inl rfl) (d_bin o_mod (d_bin o_pow (d_bin o_add (d_bin o_add (d_var (pv 7)) (d_bin o_mul (d_bin o_mul d_int (d_var (pv 3))) (d_var (pv 3)))) d_int) d_int) d_int))
 (d_last (d_ret (d_bin o_mod (d_bin o_fdiv (d_bin o_mod (d_bin o_mul (d_var (pv 7)) d_int) d_int) d_int) (d_var (pv 1)))))))))))
theorem G_law_grouped (T : Tx K mg) : Rb.FnG P w K mg base CX0 1 T.f__law_grouped T.fd__law_grouped ["_law_number"] (spF (ct0 K mg) F_law_grouped) := by
  unfold F_law_grouped
  exact
   d_fn T.F__law_grouped sc__law_grouped fun cdv A out s H E hg hr => (d_seq (d_par (i := 1) (j := 2) (by rfl) sc__law_grouped.nd rfl rfl (by decide) rfl rfl (d_cons (d_callT c_str (by rfl) T.z_str (by decide +kernel) (d_cons (d_var (pv 0)) d_nil)) (d_cons d_str d_nil)) (by rfl))
 (d_seq (d_while PassesOwn.never (d_tcmp o_gt (d_callB c_len (by rfl) T.z_len (by decide +kernel) (d_cons (d_var (pv 1)) d_nil)) d_int (nomark _))
 (d_last (d_par (i := 2) (j := 1) (by rfl) sc__law_grouped.nd rfl rfl (by decide) rfl rfl (d_cons (d_bin o_add (d_bin o_add d_str (d_slice (d_var (pv 1)) (d_part (d_un u_neg d_int)) d_noP)) (d_var (pv 2))) (d_cons (d_slice (d_var (pv 1)) d_noP (d_part (d_un u_neg d_int))) d_nil)) (by rfl))))
 (d_last (d_ret (d_bin o_add (d_var (pv 1)) (d_var (pv 2)))))))
theorem G_law_is_number (T : Tx K mg) : Rb.FnG P w K mg base CX0 1 T.f__law_is_number T.fd__law_is_number ["_law_value"] (spF (ct0 K mg) F_law_is_number_2) := by
  unfold F_law_is_number_2
  exact
   d_fn T.F__law_is_number sc__law_is_number fun cdv A out s H E hg hr => (d_last (d_ret (d_andV (d_isi (t := .int) (by rfl) T.z_isinstance (d_var (pv 0)) (pe_bltn (by rfl) T.z_int (show bootBuiltins "int" = some (.type "int") by decide +kernel) (show RelV (V.ty "int") _ from rfl))) (d_one (d_notV (d_isi (t := .bool) (by rfl) T.z_isinstance (d_var (pv 0)) (pe_bltn (by rfl) T.z_bool (show bootBuiltins "bool" = some (.type "bool") by decide +kernel) (show RelV (V.ty "bool") _ from rfl))))))))
theorem G_Party_starts (T : Tx K mg) : Rb.FnG P w K mg base CX0 1 T.f_Party_starts T.fd_Party_starts ["self"] (spF (ct0 K mg) F_Party_starts) := by
  unfold F_Party_starts
  exact
   d_fn T.F_Party_starts sc_Party_starts fun cdv A out s H E hg hr => (d_last (d_ret (d_fld (allS (clf T.cl_Party T.gC_Party T.na_Party_given) all0) (d_var (pv 0)))))
theorem PF_Party_starts (T : Tx K mg) {lv : Nat} (h : 1 ≤ lv) : PF P w K mg base lv "starts" "Party" F_Party_starts := pf_of T.gC_Party T.cl_Party T.pr_Party_starts (FnG_mono (G_Party_starts T) h) T.b_Party_starts
theorem G_Party_str (T : Tx K mg) : Rb.FnG P w K mg base CX0 1 T.f_Party___str__ T.fd_Party___str__ ["self"] (spF (ct0 K mg) F_Party_str) := by
  unfold F_Party_str
  exact
   d_fn T.F_Party___str__ sc_Party___str__ fun cdv A out s H E hg hr => (d_last (d_ret (d_join d_str (d_lc (own := [("start", 1)]) (g := (gName 1)) (st := (st1 1)) lct1 (by rfl) sc_Party___str__.nd (d_iseq (d_fld (allS (clf T.cl_Party T.gC_Party T.na_Party_given) all0) (d_var (pv 0)))) (blkOk_by (own := [("start", 1)]) (N := N_Party___str__) (sc := defScope s_Party___str__) (by decide +kernel)) (fun _ _ _ _ _ => (pg_name (i := 1) sc_Party___str__.nd rfl (.inl rfl))) (fun _ _ _ _ _ => d_tnil) (fun _ _ _ _ _ => (d_fld8 (d_var (pv 1))))))))
theorem StF_Party (T : Tx K mg) {lv : Nat} (h : 1 ≤ lv) : StF P w K mg base lv "Party" F_Party_str := st_of T.gC_Party T.st_Party T.stf_Party (FnG_mono (G_Party_str T) h) T.b_Party___str__
theorem G_Party_eq (T : Tx K mg) : Rb.FnG P w K mg base CX0 1 T.f_Party___eq__ T.fd_Party___eq__ ["self", "other"] (spF (ct0 K mg) F_Party_eq_2) := by
  unfold F_Party_eq_2
  exact
   d_fn T.F_Party___eq__ sc_Party___eq__ fun cdv A out s H E hg hr => (d_last (d_ret (d_andV (d_isA (allS (isc_of T.gC_Party T.it_Party T.gC_Party T.kc_Party_Party) all0) T.nt_Party (by rfl) T.z_isinstance (by rfl) T.gC_Party (d_var (pv 1))) (d_one (d_cmp (o_ieq hr.units) (d_fld (allS (clf T.cl_Party T.gC_Party T.na_Party_ordered) all0) (d_var (pv 0))) (d_fld (allS (clf T.cl_Party T.gC_Party T.na_Party_ordered) all0) (d_var (pv 1))) (nomark _))))))
theorem NF_Party (T : Tx K mg) {lv : Nat} (h : 1 ≤ lv) : NeF P w K mg base lv "Party" F_Party_eq_2 := ne_of T.gC_Party T.ne_Party (FnG_mono (G_Party_eq T) h) T.b_Party___eq__
theorem OF_Party_eq (T : Tx K mg) {lv : Nat} (h : 1 ≤ lv) : OpF P w K mg base CX0 lv "__eq__" "Party" F_Party_eq_2 := op_of T.gC_Party T.oa_Party_eq T.ob_Party_eq T.oc_Party_eq T.od_Party_eq (FnG_mono (G_Party_eq T) h) T.b_Party___eq__
theorem G_is_starts (T : Tx K mg) : Rb.FnG P w K mg base CX0 2 T.f_is_starts T.fd_is_starts ["value"] (spF (ct0 K mg) F_is_starts) := by
  unfold F_is_starts
  exact
   d_fn T.F_is_starts sc_is_starts fun cdv A out s H E hg hr => (d_seq (d_if (PW.pt (d_or (d_not (d_tval (d_isi (t := .tup) (by rfl) T.z_isinstance (d_var (pv 0)) (pe_bltn (by rfl) T.z_tuple (show bootBuiltins "tuple" = some (.type "tuple") by decide +kernel) (show RelV (V.ty "tuple") _ from rfl))))) (d_or1 (d_not (d_tchain o_le o_le d_int (d_callB c_len (by rfl) T.z_len (by decide +kernel) (d_cons (d_var (pv 0)) d_nil)) (d_gint (by rfl) T.c_MAX_PEOPLE))))))
 (d_last (d_ret d_bl))
 d_end)
 (d_seq (d_for PassesOwn.never rfl (d_iseq (d_var (pv 0))) (d_gn (pg_name (i := 1) sc_is_starts.nd rfl (.inl rfl)))
 (d_last (d_if (d_not (d_tval (d_callW (G_is_number_from T) hg hr (by rfl) T.g_is_number_from T.F_is_number_from.kp T.b_is_number_from passG (d_cons (d_var (pv 1)) (d_cons d_int (d_cons (d_gint (by rfl) T.c_MAX_START) d_nil))))))
 (d_last (d_ret d_bl))
 d_end)))
 (d_last (d_ret d_bl))))
theorem G_law_starts (T : Tx K mg) : Rb.FnG P w K mg base CX0 2 T.f__law_starts T.fd__law_starts ["_law_state", "_law_most"] (spF (ct0 K mg) F_law_starts_5) := by
  unfold F_law_starts_5
  exact
   d_fnC T.F__law_starts sc__law_starts fun cdv A out s H E hg hr => (d_seq (d_par (i := 2) (j := 3) (by rfl) sc__law_starts.nd rfl rfl (by decide) rfl rfl (d_cons (d_ix (d_lst (d_cons d_int (d_cons d_int (d_cons (d_bin o_add (d_bin o_pow d_int d_int) d_int) d_nil)))) (d_callW (G_law_next T) hg hr (by rfl) T.g__law_next T.F__law_next.kp T.b__law_next passG (d_cons (d_var (pv 0)) (d_cons d_int d_nil))) (fun _ _ => rfl)) (d_cons (d_lstC d_nil) d_nil)) (by rfl))
 (d_seq (d_for PassesOwn.never rfl (d_rng1 (by rfl) T.z_range (d_cons (d_bin o_add d_int (d_callW (G_law_next T) hg hr (by rfl) T.g__law_next T.F__law_next.kp T.b__law_next passG (d_cons (d_var (pv 0)) (d_cons (d_var (pv 1)) d_nil)))) d_nil)) (d_gn (pg_name (i := 4) sc__law_starts.nd rfl (.inl rfl)))
 (d_last (d_expr (d_ml PySem.F.slot_list_append PySem.F.type_list_append m_append (d_var (pv 3)) (d_cons (d_ix (d_lst (d_cons (d_callW (G_law_next T) hg hr (by rfl) T.g__law_next T.F__law_next.kp T.b__law_next passG (d_cons (d_var (pv 0)) (d_cons (d_var (pv 2)) d_nil))) (d_cons d_int (d_cons (d_bin o_sub (d_var (pv 2)) d_int) d_nil)))) (d_bin o_mod (d_bin o_mod (d_callW (G_law_next T) hg hr (by rfl) T.g__law_next T.F__law_next.kp T.b__law_next passG (d_cons (d_var (pv 0)) (d_cons d_int d_nil))) d_int) d_int) (fun _ _ => rfl)) d_nil)))))
 (d_last (d_ret (d_callT c_tuple (by rfl) T.z_tuple (by decide +kernel) (d_cons (d_var (pv 3)) d_nil))))))
theorem G_law_odd (T : Tx K mg) : Rb.FnG P w K mg base CX0 2 T.f__law_odd T.fd__law_odd ["_law_state"] (spF (ct0 K mg) F_law_odd_2) := by
  unfold F_law_odd_2
  exact
   d_fn T.F__law_odd sc__law_odd fun cdv A out s H E hg hr => (d_seq (d_set (i := 1) sc__law_odd.nd rfl (.inl rfl) (d_lst (d_cons d_non (d_cons d_bl (d_cons d_bl (d_cons (d_un u_neg d_int) (d_cons d_int (d_cons d_int (d_cons (d_bin o_pow d_int d_int) (d_cons d_str (d_cons d_str (d_cons (d_tup d_nil) (d_cons (d_lst d_nil) (d_cons d_dic0 (d_cons (d_tup (d_cons d_int d_nil)) (d_cons (d_lst (d_cons d_int d_nil)) (d_cons (d_tup (d_cons d_int (d_cons d_bl d_nil))) (d_cons (d_tup (d_cons (d_tup (d_cons d_int d_nil)) d_nil)) (d_cons (d_tup (d_cons d_int (d_cons (d_un u_neg d_int) d_nil))) d_nil)))))))))))))))))))
 (d_last (d_ret (d_ix (d_var (pv 1)) (d_callW (G_law_next T) hg hr (by rfl) T.g__law_next T.F__law_next.kp T.b__law_next passG (d_cons (d_var (pv 0)) (d_cons d_int d_nil))) (fun _ _ => rfl)))))
theorem G_law_text (T : Tx K mg) : Rb.FnG P w K mg base CX0 2 T.f__law_text T.fd__law_text ["_law_starts_here"] (spF (ct0 K mg) F_law_text_2) := by
  unfold F_law_text_2
  exact
   d_fnC T.F__law_text sc__law_text fun cdv A out s H E hg hr => (d_seq (d_set (i := 1) sc__law_text.nd rfl (.inl rfl) (d_lstC d_nil))
 (d_seq (d_for PassesOwn.never rfl (d_iseq (d_var (pv 0))) (d_gn (pg_name (i := 2) sc__law_text.nd rfl (.inl rfl)))
 (d_seq (d_set (i := 3) sc__law_text.nd rfl (.inl rfl) (d_callW (G_law_grouped T) hg hr (by rfl) T.g__law_grouped T.F__law_grouped.kp T.b__law_grouped passG (d_cons (d_var (pv 2)) d_nil)))
 (d_last (d_expr (d_ml PySem.F.slot_list_append PySem.F.type_list_append m_append (d_var (pv 1)) (d_cons (d_bin o_add (d_bin o_mulT d_str (d_callB (c_max rfl hr.units) (by rfl) T.z_max (by decide +kernel) (d_cons d_int (d_cons (d_bin o_sub d_int (d_callB c_len (by rfl) T.z_len (by decide +kernel) (d_cons (d_var (pv 3)) d_nil))) d_nil)))) (d_var (pv 3))) d_nil))))))
 (d_last (d_ret (d_join d_str (d_var (pv 1)))))))
theorem G_Party_contains (T : Tx K mg) : Rb.FnG P w K mg base CX0 2 T.f_Party___contains__ T.fd_Party___contains__ ["self", "x"] (spF (ct0 K mg) F_Party_contains) := by
  unfold F_Party_contains
  exact
   d_fn T.F_Party___contains__ sc_Party___contains__ fun cdv A out s H E hg hr => (d_last (d_ret (d_andV (d_callW (G_is_number_from T) hg hr (by rfl) T.g_is_number_from T.F_is_number_from.kp T.b_is_number_from passG (d_cons (d_var (pv 1)) (d_cons d_int (d_cons (d_gint (by rfl) T.c_MAX_START) d_nil)))) (d_one (d_cmp o_in (d_var (pv 1)) (d_fld (allS (clf T.cl_Party T.gC_Party T.na_Party_given) all0) (d_var (pv 0))) (by rfl))))))
theorem OF_Party_contains (T : Tx K mg) {lv : Nat} (h : 2 ≤ lv) : OpF P w K mg base CX0 lv "__contains__" "Party" F_Party_contains := op_of T.gC_Party T.oa_Party_contains T.ob_Party_contains T.oc_Party_contains T.od_Party_contains (FnG_mono (G_Party_contains T) h) T.b_Party___contains__
theorem G_Party_init (T : Tx K mg) : Rb.FnG P w K mg base (L2.CX P w) 3 T.f_Party___init__ T.fd_Party___init__ ["self", "starts"] (spF (ct0 K mg) F_Party_init) := by
  unfold F_Party_init
  exact
   d_fnX T.F_Party___init__ sc_Party___init__ fun cdv A out s H E hg hr => (d_seq (d_if (d_not (d_tval (d_callW (G_is_starts T) hg hr (by rfl) T.g_is_starts T.F_is_starts.kp T.b_is_starts passG (d_cons (d_var (pv 1)) d_nil))))
 (d_last (d_raiseE rfl (takes_of rfl rfl rfl rfl) PySem.F.excBase_ValueError T.L_BadStarts T.iC_BadStarts T.tI_BadStarts (Gi_BadStarts T) hr T.bI_BadStarts (by rfl) T.gC_BadStarts (d_var (pv 1))))
 d_end)
 (d_seq (d_stF (allS (clf T.cl_Party T.gC_Party T.na_Party_given) all0) (d_var (pv 0)) (d_var (pv 1)))
 (d_last (d_stF (allS (clf T.cl_Party T.gC_Party T.na_Party_ordered) all0) (d_var (pv 0)) (d_callT c_tuple (by rfl) T.z_tuple (by decide +kernel) (d_cons (d_callB c_sortTI (by rfl) T.z_sorted (by decide +kernel) (d_cons (d_var (pv 1)) d_nil)) d_nil))))))
theorem MkF_Party (T : Tx K mg) : MkF P w K mg base (L2.CX P w) 3 T.C_Party F_Party_init := ⟨_, _, _, T.mk_Party, G_Party_init T, T.b_Party___init__⟩
theorem G_law (T : Tx K mg) : Rb.FnG P w K mg base CX0 5 T.f_law T.fd_law ["_law_script"] (spF (ct0 K mg) F_law_k29) := by
  unfold F_law_k29
  exact
   d_fn T.F_law sc_law fun cdv A out s H E hg hr => (d_seq (d_set (i := 1) sc_law.nd rfl (.inl rfl) (d_callW (G_law_draws T) hg (hr.mono (by decide)) (by rfl) T.g__law_draws T.F__law_draws.kp T.b__law_draws passG (d_cons (d_var (pv 0)) d_nil)))
 (d_seq (d_for PassesOwn.never rfl (d_rng1 (by rfl) T.z_range (d_cons d_int d_nil)) (d_gn (pg_name (i := 2) sc_law.nd rfl (.inl rfl)))
 (d_seq (d_set (i := 3) sc_law.nd rfl (.inl rfl) (d_call 2 (G_law_starts T) hg (hr.mono (by decide)) (by rfl) T.g__law_starts T.F__law_starts.kp T.b__law_starts passG (d_cons (d_var (pv 1)) (d_cons d_int d_nil))))
 (d_seq (d_par (i := 4) (j := 5) (by rfl) sc_law.nd rfl rfl (by decide) rfl rfl (d_cons (d_make (lv := 3) (ct_calm rfl) (MkF_Party T) hg hr (by rfl) T.gC_Party passLG (d_cons (d_var (pv 3)) d_nil)) (d_cons (d_callW (G_law_next T) hg (hr.mono (by decide)) (by rfl) T.g__law_next T.F__law_next.kp T.b__law_next passG (d_cons (d_var (pv 1)) (d_cons (d_callB c_len (by rfl) T.z_len (by decide +kernel) (d_cons (d_var (pv 3)) d_nil)) d_nil))) d_nil)) (by rfl))
 (d_seq (d_set (i := 6) sc_law.nd rfl (.inl rfl) (d_bin o_add (d_bin o_add (d_slice (d_var (pv 3)) d_noP (d_part (d_var (pv 5)))) (d_tup (d_cons (d_callB (c_minL rfl) (by rfl) T.z_min (by decide +kernel) (d_cons (d_bin o_pow d_int d_int) (d_cons (d_bin o_add (d_ix (d_var (pv 3)) (d_var (pv 5)) (fun _ _ => rfl)) d_int) d_nil))) d_nil))) (d_slice (d_var (pv 3)) (d_part (d_bin o_add (d_var (pv 5)) d_int)) d_noP)))
 (d_seq (d_set (i := 7) sc_law.nd rfl (.inl rfl) (d_lst (d_cons (d_var (pv 3)) (d_cons (d_revT (d_var (pv 3))) (d_cons (d_callT c_tuple (by rfl) T.z_tuple (by decide +kernel) (d_cons (d_callB c_sorted (by rfl) T.z_sorted (by decide +kernel) (d_cons (d_callT c_listN (by rfl) T.z_list (by decide +kernel) (d_cons (d_var (pv 3)) d_nil)) d_nil)) d_nil)) (d_cons (d_var (pv 6)) (d_cons (d_slice (d_var (pv 3)) d_noP (d_part (d_bin o_add (d_var (pv 5)) d_int))) (d_cons (d_slice (d_bin o_add (d_var (pv 3)) (d_var (pv 3))) d_noP (d_part d_int)) d_nil))))))))
 (d_seq (d_set (i := 7) sc_law.nd rfl (.inl rfl) (d_bin o_add (d_var (pv 7)) (d_lst (d_cons (d_bin o_add (d_slice (d_var (pv 3)) (d_part (d_var (pv 5))) d_noP) (d_slice (d_var (pv 3)) d_noP (d_part (d_var (pv 5))))) (d_cons (d_slice (d_bin o_add (d_var (pv 3)) (d_tup (d_cons d_int d_nil))) d_noP (d_part d_int)) (d_cons (d_call 2 (G_law_starts T) hg (hr.mono (by decide)) (by rfl) T.g__law_starts T.F__law_starts.kp T.b__law_starts passG (d_cons (d_var (pv 1)) (d_cons d_int d_nil))) d_nil))))))
 (d_seq (d_for PassesOwn.never rfl (d_iseq (d_var (pv 7))) (d_gn (pg_name (i := 8) sc_law.nd rfl (.inl rfl)))
 (d_seq (d_par (i := 9) (j := 10) (by rfl) sc_law.nd rfl rfl (by decide) rfl rfl (d_cons (d_make (lv := 3) (ct_calm rfl) (MkF_Party T) hg hr (by rfl) T.gC_Party passLG (d_cons (d_var (pv 8)) d_nil)) (d_cons (d_cmp (o_ieq hr.units) (d_callB c_sorted (by rfl) T.z_sorted (by decide +kernel) (d_cons (d_callT c_listN (by rfl) T.z_list (by decide +kernel) (d_cons (d_var (pv 8)) d_nil)) d_nil)) (d_callB c_sorted (by rfl) T.z_sorted (by decide +kernel) (d_cons (d_callT c_listN (by rfl) T.z_list (by decide +kernel) (d_cons (d_var (pv 3)) d_nil)) d_nil)) (nomark _)) d_nil)) (by rfl))
 (d_seq (d_if (d_tcmp (o_ine hr.units) (d_callB (c_irepr hg hr.units) (by rfl) T.z_repr (by decide +kernel) (d_cons (d_lst (d_cons (d_cmp (o_eqO (lv := 1) (ct_calm rfl) (allS (OF_Party_eq T (by decide)) all0) hg (hr.mono (by decide))) (d_var (pv 4)) (d_var (pv 9)) (nomark _)) (d_cons (d_cmp (o_neO (lv := 1) (ct_calm rfl) (allS (NF_Party T (by decide)) all0) hg (hr.mono (by decide)) hr.units) (d_var (pv 4)) (d_var (pv 9)) (nomark _)) (d_cons (d_cmp (o_eqO (lv := 1) (ct_calm rfl) (allS (OF_Party_eq T (by decide)) all0) hg (hr.mono (by decide))) (d_var (pv 9)) (d_var (pv 4)) (nomark _)) d_nil)))) d_nil)) (d_callB (c_irepr hg hr.units) (by rfl) T.z_repr (by decide +kernel) (d_cons (d_lst (d_cons (d_var (pv 10)) (d_cons (d_notV (d_var (pv 10))) (d_cons (d_var (pv 10)) d_nil)))) d_nil)) (nomark _))
 (d_last (d_ret d_bl))
 d_end)
 (d_last (d_if (PW.pt (d_or (d_tcmp (o_ine hr.units) (d_callT (c_strO (lv := 1) (ct_calm rfl) (allS (StF_Party T (by decide)) all0) hg (hr.mono (by decide)) hr.units) (by rfl) T.z_str (by decide +kernel) (d_cons (d_var (pv 9)) d_nil)) (d_call 0 (G_law_text T) hg (hr.mono (by decide)) (by rfl) T.g__law_text T.F__law_text.kp T.b__law_text passG (d_cons (d_var (pv 8)) d_nil)) (nomark _)) (d_or1 (d_tcmp (o_ine hr.units) (d_prop (lv := 1) (ct_calm rfl) (allS (PF_Party_starts T (by decide)) all0) hg (hr.mono (by decide)) (d_var (pv 9))) (d_var (pv 8)) (nomark _)))))
 (d_last (d_ret d_bl))
 d_end)))))
 (d_seq (d_set (i := 11) sc_law.nd rfl (.inl rfl) (d_bin o_add (d_callT c_listN (by rfl) T.z_list (by decide +kernel) (d_cons (d_var (pv 3)) d_nil)) (d_lst (d_cons (d_bin o_add (d_ix (d_var (pv 3)) (d_var (pv 5)) (fun _ _ => rfl)) d_int) (d_cons (d_un u_neg d_int) (d_cons d_int (d_cons d_int (d_cons d_bl (d_cons d_bl (d_cons d_non (d_cons (d_callT c_str (by rfl) T.z_str (by decide +kernel) (d_cons (d_ix (d_var (pv 3)) (d_var (pv 5)) (fun _ _ => rfl)) d_nil)) (d_cons (d_tup (d_cons (d_ix (d_var (pv 3)) (d_var (pv 5)) (fun _ _ => rfl)) d_nil)) d_nil))))))))))))
 (d_seq (d_for PassesOwn.never rfl (d_iseq (d_bin o_add (d_var (pv 11)) (d_lst (d_cons (d_callW (G_law_odd T) hg (hr.mono (by decide)) (by rfl) T.g__law_odd T.F__law_odd.kp T.b__law_odd passG (d_cons (d_var (pv 1)) d_nil)) (d_cons (d_lst (d_cons (d_ix (d_var (pv 3)) (d_var (pv 5)) (fun _ _ => rfl)) d_nil)) (d_cons (d_bin o_pow d_int d_int) d_nil)))))) (d_gn (pg_name (i := 12) sc_law.nd rfl (.inl rfl)))
 (d_seq (d_set (i := 10) sc_law.nd rfl (.inl rfl) (d_andV (d_callW (G_law_is_number T) hg (hr.mono (by decide)) (by rfl) T.g__law_is_number T.F__law_is_number.kp T.b__law_is_number passG (d_cons (d_var (pv 12)) d_nil)) (d_one (d_cmp o_in (d_var (pv 12)) (d_callT c_listN (by rfl) T.z_list (by decide +kernel) (d_cons (d_var (pv 3)) d_nil)) (by rfl)))))
 (d_last (d_if (d_tcmp (o_ine hr.units) (d_callB (c_irepr hg hr.units) (by rfl) T.z_repr (by decide +kernel) (d_cons (d_lst (d_cons (d_cmp (o_inO (lv := 2) (ct_calm rfl) (allS (OF_Party_contains T (by decide)) all0) hg (hr.mono (by decide))) (d_var (pv 12)) (d_var (pv 4)) (by rfl)) (d_cons (d_cmp (o_notInW (lv := 2) (ct_calm rfl) (allS (OF_Party_contains T (by decide)) all0) hg (hr.mono (by decide))) (d_var (pv 12)) (d_var (pv 4)) (by rfl)) d_nil))) d_nil)) (d_callB (c_irepr hg hr.units) (by rfl) T.z_repr (by decide +kernel) (d_cons (d_lst (d_cons (d_var (pv 10)) (d_cons (d_notV (d_var (pv 10))) d_nil))) d_nil)) (nomark _))
 (d_last (d_ret d_bl))
 d_end))))
 (d_seq (d_for PassesOwn.never rfl (d_iseq (d_lst (d_cons (d_var (pv 3)) (d_cons (d_callT c_listN (by rfl) T.z_list (by decide +kernel) (d_cons (d_var (pv 3)) d_nil)) (d_cons d_non (d_cons (d_ix (d_var (pv 3)) d_int (fun _ _ => rfl)) (d_cons (d_callT (c_strO (lv := 1) (ct_calm rfl) (allS (StF_Party T (by decide)) all0) hg (hr.mono (by decide)) hr.units) (by rfl) T.z_str (by decide +kernel) (d_cons (d_var (pv 4)) d_nil)) (d_cons (d_lst (d_cons (d_var (pv 4)) d_nil)) (d_cons (d_callW (G_law_odd T) hg (hr.mono (by decide)) (by rfl) T.g__law_odd T.F__law_odd.kp T.b__law_odd passG (d_cons (d_var (pv 1)) d_nil)) d_nil))))))))) (d_gn (pg_name (i := 12) sc_law.nd rfl (.inl rfl)))
 (d_last (d_if (d_tcmp (o_ine hr.units) (d_callB (c_irepr hg hr.units) (by rfl) T.z_repr (by decide +kernel) (d_cons (d_lst (d_cons (d_cmp (o_eqL (lv := 1) (ct_calm rfl) (allS ⟨OF_Party_eq T (by decide), T.ey_Party⟩ all0) hg (hr.mono (by decide))) (d_var (pv 4)) (d_var (pv 12)) (nomark _)) (d_cons (d_cmp (o_eqR (lv := 1) (ct_calm rfl) (allS ⟨OF_Party_eq T (by decide), T.ey_Party⟩ all0) hg (hr.mono (by decide))) (d_var (pv 12)) (d_var (pv 4)) (nomark _)) (d_cons (d_cmp (o_neL (lv := 1) (ct_calm rfl) (allS ⟨NF_Party T (by decide), T.ey_Party⟩ all0) hg (hr.mono (by decide)) hr.units) (d_var (pv 4)) (d_var (pv 12)) (nomark _)) d_nil)))) d_nil)) (d_callB (c_irepr hg hr.units) (by rfl) T.z_repr (by decide +kernel) (d_cons (d_lst (d_cons d_bl (d_cons d_bl (d_cons d_bl d_nil)))) d_nil)) (nomark _))
 (d_last (d_ret d_bl))
 d_end)))
 (d_last (d_if (d_tcmp (o_ine hr.units) (d_callB (c_irepr hg hr.units) (by rfl) T.z_repr (by decide +kernel) (d_cons (d_prop (lv := 1) (ct_calm rfl) (allS (PF_Party_starts T (by decide)) all0) hg (hr.mono (by decide)) (d_var (pv 4))) d_nil)) (d_callB (c_irepr hg hr.units) (by rfl) T.z_repr (by decide +kernel) (d_cons (d_var (pv 3)) d_nil)) (nomark _))
 (d_last (d_ret d_bl))
 d_end))))))))))))
 (d_last (d_ret (d_cmp (o_ieq hr.units) (d_callT (c_strO (lv := 1) (ct_calm rfl) (allS (StF_Party T (by decide)) all0) hg (hr.mono (by decide)) hr.units) (by rfl) T.z_str (by decide +kernel) (d_cons (d_make (lv := 3) (ct_calm rfl) (MkF_Party T) hg hr (by rfl) T.gC_Party passLG (d_cons (d_tup (d_cons d_int (d_cons d_int d_nil))) d_nil)) d_nil)) d_str (nomark _))))))
end
end Pu
namespace Pu
open PySem L2
theorem ifT {b : Bool} {P Q : Prop} (h : b = true) (p : P) : if b = true then P else Q := by rw [if_pos h]; exact p
theorem ifF {b : Bool} {P Q : Prop} (h : b = false) (p : Q) : if b = true then P else Q := by rw [h, if_neg Bool.false_ne_true]; exact p
theorem ifB {b : Bool} {P Q : Prop} (h1 : b = true → P) (h2 : b = false → Q) : if b = true then P else Q := by
  cases b with
  | true => exact ifT rfl (h1 rfl)
  | false => exact ifF rfl (h2 rfl)
theorem onS {α : Type} {o : Option α} {a : α} {k : α → Prop} (h : o = some a) (p : k a) : onSome o k := by rw [h]; exact p
/-! ## numbers in a range, any value -/
def isNum (lo hi : Int) : D → Bool
  | .int i => decide (lo ≤ i) && decide (i ≤ hi)
  | _ => false
theorem number_ok {v : D} {lo hi : Int} {S : Sto} {Q : QD} {E : ED} (hv : (toPy v).isSome = true) (q : Q (.bl (isNum lo hi v)) S) : F_is_number_from [v, .int lo, .int hi] S Q E := by
  unfold F_is_number_from
  refine ⟨rfl, ?_⟩
  cases v with
  | int i =>
    show (onBl (.bl (decide (lo ≤ i))) fun k => if k = true then Q (.bl (decide (i ≤ hi))) S else Q (.bl false) S)
    by_cases h : lo ≤ i <;> simpa [isNum, h, onBl] using q
  | cell _ => cases hv
  | glo _ => cases hv
  | ty _ => cases hv
  | ins _ _ => cases hv
  | exc _ _ => cases hv
  | kls _ => cases hv
  | _ => exact q
/-! ## the deck -/
def deckS (cs : List Int) (n : Int) : Sto := [.lst (cs.map D.int), .lst [.cell 0, .int n]]
def Dk (S : Sto) (N : Int) (T : Sto) : Prop := ∃ cs n, S = deckS cs n ++ T ∧ cs.length ≤ 63 ∧ (∀ x ∈ cs, 0 ≤ x) ∧ 0 ≤ n ∧ n ≤ N
theorem Dk.le {S : Sto} {N M : Int} {T : Sto} (h : Dk S N T) (e : N ≤ M) : Dk S M T := by
  obtain ⟨cs, n, h1, h2, h3, h4, h5⟩ := h
  exact ⟨cs, n, h1, h2, h3, h4, by omega⟩
/-- a comprehension whose element changes nothing -/
theorem comp_map {st : D → Rho → Option Rho} {f : FE} {src : Src} {k : List D → Sto → Prop} {S : Sto} {ρ : Rho} {g : D → D} (hsrc : ∀ P : Prop, P → srcOk src S P) : ∀ (xs acc : List D), (∀ x ∈ xs, ∃ ρ1, st x ρ = some ρ1 ∧ ∀ Q : QD, Q (g x) S → f ρ1 S Q noE) → k (acc ++ xs.map g) S → dCompL st dYes f src xs acc ρ S k
  | [], acc, _, h => by rw [List.map_nil, List.append_nil] at h; exact h
  | x :: xs, acc, hx, h => by
    obtain ⟨ρ1, e, hf⟩ := hx x List.mem_cons_self
    refine onS e ?_
    refine ifT (b := true) (Q := srcOk src S (dCompL st dYes f src xs acc ρ S k)) rfl ?_
    refine hf _ (hsrc _ (comp_map hsrc xs _ (fun y hy => hx y (List.mem_cons_of_mem _ hy)) ?_))
    rw [List.append_assoc]
    exact h
def absI (i : Int) : Int := if i < 0 then -i else i
theorem absI_nn (i : Int) : 0 ≤ absI i := by unfold absI; split <;> omega
end Pu
namespace Pu
open PySem L2
/-- a loop by an invariant -/
theorem for_inv {g : FG} {fb : FS} {src : Src} {De : DEnds} {Ed : ED} {ρ : Rho} {S : Sto} (xs : List D) (I : Nat → Rho → Sto → Prop) (h0 : I 0 ρ S)
    (hs : ∀ (i : Nat) (x : D) (ρ : Rho) (S : Sto) (K : Rho → Sto → Prop), xs[i]? = some x → (∀ ρ' S', I (i + 1) ρ' S' → K ρ' S') → I i ρ S → g x ρ S (fun ρ1 S1 => fb ρ1 S1 ⟨K, De.rt, De.nx, K⟩ Ed) Ed)
    (hd : ∀ ρ S, I xs.length ρ S → De.nx ρ S) (hsrc : ∀ i ρ S, I i ρ S → ∀ P : Prop, P → srcOk src S P := by intro _ _ _ _ _ p; exact p) : dLoop g fb src xs ρ S De Ed := by
  have go : ∀ (m n : Nat) (ρ : Rho) (S : Sto), n + m = xs.length → I n ρ S → dLoop g fb src (xs.drop n) ρ S De Ed := by
    intro m
    induction m with
    | zero =>
      intro n ρ S e h
      have : n = xs.length := by omega
      subst this
      rw [List.drop_length]
      exact hd ρ S h
    | succ m ih =>
      intro n ρ S e h
      have hlt : n < xs.length := by omega
      have hx := List.getElem?_eq_getElem hlt
      rw [drop_cons hx]
      exact hs n _ ρ S _ hx (fun ρ' S' h' => hsrc _ _ _ h' _ (ih (n + 1) ρ' S' (by omega) h')) h
  exact go xs.length 0 ρ S (by omega) h0
theorem rangeD_len {lo : Int} {n : Nat} : (rangeD lo n).length = n := by unfold rangeD; rw [List.length_map, List.length_range]
theorem for_rng {g : FG} {fb : FS} {De : DEnds} {Ed : ED} {ρ : Rho} {S : Sto} (lo : Int) (n : Nat) (I : Nat → Rho → Sto → Prop) (h0 : I 0 ρ S)
    (hs : ∀ (i : Nat) (ρ : Rho) (S : Sto) (K : Rho → Sto → Prop), i < n → (∀ ρ' S', I (i + 1) ρ' S' → K ρ' S') → I i ρ S → g (.int (lo + (i : Int))) ρ S (fun ρ1 S1 => fb ρ1 S1 ⟨K, De.rt, De.nx, K⟩ Ed) Ed)
    (hd : ∀ ρ S, I n ρ S → De.nx ρ S) : dLoop g fb [] (rangeD lo n) ρ S De Ed := by
  refine for_inv (rangeD lo n) I h0 (fun i x ρ S K hx hK hI => ?_) (fun ρ S h => hd ρ S (by rw [rangeD_len] at h; exact h))
  obtain ⟨h1, rfl⟩ := rangeD_get hx
  exact hs i ρ S K h1 hK hI
theorem pick3 {α : Type} {x y z : α} {r : Int} (h0 : 0 ≤ r) (h1 : r < 3) : ∃ v, atI [x, y, z] r = some v ∧ (v = x ∨ v = y ∨ v = z) := by
  rcases (by omega : r = 0 ∨ r = 1 ∨ r = 2) with rfl | rfl | rfl
  · exact ⟨x, rfl, .inl rfl⟩
  · exact ⟨y, rfl, .inr (.inl rfl)⟩
  · exact ⟨z, rfl, .inr (.inr rfl)⟩
theorem pick3i {x y z r : Int} (h0 : 0 ≤ r) (h1 : r < 3) : ∃ v : Int, atI [D.int x, D.int y, D.int z] r = some (.int v) ∧ (v = x ∨ v = y ∨ v = z) := by
  obtain ⟨v, e, rfl | rfl | rfl⟩ := pick3 (x := D.int x) (y := D.int y) (z := D.int z) h0 h1
  · exact ⟨x, e, .inl rfl⟩
  · exact ⟨y, e, .inr (.inl rfl)⟩
  · exact ⟨z, e, .inr (.inr rfl)⟩
theorem szd {n : Nat} (h : n ≤ 100000) : n ≤ sizeLine := Rb.sz_le h
def roadV (wk rd : Int) (bs : List Int) : D := .tup [.int wk, .int rd, .tup (bs.map .int)]
end Pu
namespace Pu
open PySem L2
theorem py_ints (ns : List Int) : toPyAll (ns.map D.int) = some (ns.map .int) := by
  induction ns with
  | nil => rfl
  | cons n ns ih =>
    show (toPy (.int n)).bind (fun p => (toPyAll (ns.map D.int)).map (p :: ·)) = _
    rw [ih]
    rfl
end Pu
namespace Pu
open PySem L2
theorem szr {n : Nat} (h : Nat.ble n 100000 = true) : n ≤ sizeLine := szd (Nat.le_of_ble_eq_true h)
/-! ## any value, of a bounded size -/
structure Av (k n : Nat) (d : D) : Prop where
  py : ∃ p, toPy d = some p ∧ Rb.Nice k n p
  kn : known d = true
abbrev Avs (k n : Nat) (ds : List D) : Prop := ∀ d ∈ ds, Av k n d
theorem Av.some {k n : Nat} {d : D} (h : Av k n d) : (toPy d).isSome = true := by
  obtain ⟨p, e, _⟩ := h.py
  rw [e]
  rfl
theorem Av.mono {k n k' n' : Nat} {d : D} (h : Av k n d) (h1 : k ≤ k') (h2 : n ≤ n') : Av k' n' d := by
  obtain ⟨p, e, hn⟩ := h.py
  exact ⟨⟨p, e, hn.mono h1 h2⟩, h.kn⟩
theorem Av.int {i : Int} (h : i.natAbs < 10 ^ 99) : Av 0 0 (.int i) := ⟨⟨_, rfl, Rb.Nice.int h⟩, rfl⟩
theorem Av.non : Av 0 0 .non := ⟨⟨_, rfl, Rb.Nice.none⟩, rfl⟩
theorem Av.bl {b : Bool} : Av 0 0 (.bl b) := ⟨⟨_, rfl, Rb.Nice.bool⟩, rfl⟩
theorem avs_py {k n : Nat} : ∀ {ds : List D}, Avs k n ds → (∃ ps, toPyAll ds = some ps ∧ ps.length = ds.length ∧ ∀ p ∈ ps, Rb.Nice k n p) ∧ knownAll ds = true
  | [], _ => ⟨⟨[], rfl, rfl, fun _ z => nomatch z⟩, rfl⟩
  | d :: ds, h => by
    obtain ⟨⟨ps, e, hl, hn⟩, hk⟩ := avs_py (ds := ds) fun x hx => h x (List.mem_cons_of_mem _ hx)
    obtain ⟨⟨p, e1, h1⟩, k1⟩ := h d List.mem_cons_self
    refine ⟨⟨p :: ps, ?_, by rw [List.length_cons, List.length_cons, hl], fun q hq => ?_⟩, ?_⟩
    · show (toPy d).bind (fun p => (toPyAll ds).map (p :: ·)) = _
      rw [e1, e]
      rfl
    · rcases List.mem_cons.mp hq with rfl | hq
      · exact h1
      · exact hn q hq
    · show (known d && knownAll ds) = true
      rw [k1, hk]
      rfl
theorem Av.tup {k n m : Nat} {ds : List D} (h : Avs k n ds) (hm : ds.length * (n + 1) ≤ m) : Av (k + 1) m (.tup ds) := by
  obtain ⟨⟨ps, e, hl, hn⟩, hk⟩ := avs_py h
  refine ⟨⟨.tuple ps, ?_, Rb.Nice.tup hn (by rw [hl]; exact hm)⟩, hk⟩
  show (toPyAll ds).map PyData.tuple = _
  rw [e]
  rfl
theorem Av.lst {k n m : Nat} {ds : List D} (h : Avs k n ds) (hm : ds.length * (n + 1) ≤ m) : Av (k + 1) m (.lst true ds) := by
  obtain ⟨⟨ps, e, hl, hn⟩, hk⟩ := avs_py h
  refine ⟨⟨.list ps, ?_, Rb.Nice.lst hn (by rw [hl]; exact hm)⟩, hk⟩
  show (toPyAll ds).map PyData.list = _
  rw [e]
  rfl
theorem Avs.nil {k n : Nat} : Avs k n [] := fun _ z => nomatch z
theorem Avs.cons {k n : Nat} {d : D} {ds : List D} (h : Av k n d) (t : Avs k n ds) : Avs k n (d :: ds) := fun x hx => by
  rcases List.mem_cons.mp hx with rfl | hx
  · exact h
  · exact t x hx
theorem Avs.app {k n : Nat} {ds es : List D} (h : Avs k n ds) (t : Avs k n es) : Avs k n (ds ++ es) := fun x hx => by
  rcases List.mem_append.mp hx with hx | hx
  · exact h x hx
  · exact t x hx
theorem Avs.ints {ns : List Int} (h : ∀ i ∈ ns, i.natAbs < 10 ^ 99) : Avs 0 0 (ns.map D.int) := fun x hx => by
  obtain ⟨i, hi, rfl⟩ := List.mem_map.mp hx
  exact Av.int (h i hi)
theorem Avs.mono {k n k' n' : Nat} {ds : List D} (h : Avs k n ds) (h1 : k ≤ k') (h2 : n ≤ n') : Avs k' n' ds := fun x hx => (h x hx).mono h1 h2
theorem Avs.cut {k n : Nat} {ds : List D} (h : Avs k n ds) {lo hi : Option Int} : Avs k n (cutD ds lo hi) := fun x hx => h x (List.mem_of_mem_drop (List.mem_of_mem_take hx))
theorem Avs.rep {k n m : Nat} {ds : List D} (h : Avs k n ds) : Avs k n (List.replicate m ds).flatten := fun x hx => by
  obtain ⟨l, hl, hx⟩ := List.mem_flatten.mp hx
  rw [(List.mem_replicate.mp hl).2] at hx
  exact h x hx
theorem atI_mem {α : Type} {xs : List α} {r : Int} (h0 : 0 ≤ r) (h1 : r < xs.length) : ∃ d, atI xs r = some d ∧ d ∈ xs := by
  obtain ⟨j, rfl⟩ : ∃ j : Nat, r = (j : Int) := ⟨r.toNat, (Int.toNat_of_nonneg h0).symm⟩
  have hj : j < xs.length := by omega
  exact ⟨xs[j], atI_nat (List.getElem?_eq_getElem hj), List.getElem_mem hj⟩
/-! ## odd values -/
end Pu
namespace Pu
open PySem L2 Rb
/-! ## people, plans -/
def nI (r : List Nat) : List Int := r.map fun p : Nat => (p : Int)
theorem nI_len (r : List Nat) : (nI r).length = r.length := by unfold nI; rw [List.length_map]
structure PlanPre (bikes : List Int) (n : Nat) (plan : List (List Nat)) : Prop where
  asc : ∀ r ∈ plan, r.Pairwise (· < ·)
  lt : ∀ r ∈ plan, ∀ p ∈ r, p < n
  few : ∀ i, i < plan.length → (plan.getD i []).length ≤ (bikes.getD i 0).toNat + (brM plan i).length
theorem getD_app {α : Type} {l m : List α} {i : Nat} {d : α} (h : i < l.length) : (l ++ m).getD i d = l.getD i d := by
  rw [List.getD_eq_getElem?_getD, List.getD_eq_getElem?_getD, List.getElem?_append_left h]
theorem PlanPre.snoc {bikes : List Int} {n : Nat} {plan : List (List Nat)} {r : List Nat} (h : PlanPre bikes n plan) (h1 : r.Pairwise (· < ·)) (h2 : ∀ p ∈ r, p < n) (h3 : r.length ≤ (bikes.getD plan.length 0).toNat + (brM plan plan.length).length) : PlanPre bikes n (plan ++ [r]) := by
  refine ⟨fun s hs => ?_, fun s hs => ?_, fun i hi => ?_⟩
  · rcases List.mem_append.mp hs with g | g
    · exact h.asc s g
    · rw [List.mem_singleton.mp g]; exact h1
  · rcases List.mem_append.mp hs with g | g
    · exact h.lt s g
    · rw [List.mem_singleton.mp g]; exact h2
  · have hi : i < plan.length + 1 := by rw [List.length_append] at hi; exact hi
    have eb : brM (plan ++ [r]) i = brM plan i := by
      unfold brM
      split
      · rfl
      · exact getD_app (by omega)
    rw [eb]
    by_cases e : i < plan.length
    · rw [getD_app e]
      exact h.few i e
    · have e : i = plan.length := by omega
      subst e
      have : (plan ++ [r]).getD plan.length [] = r := by
        rw [List.getD_eq_getElem?_getD, List.getElem?_append_right (Nat.le_refl _), Nat.sub_self]
        rfl
      rw [this]
      exact h3
theorem PlanPre.ok {bikes : List Int} {n : Nat} {plan : List (List Nat)} (h : PlanPre bikes n plan) (hl : plan.length = bikes.length) (hn : ∀ b ∈ bikes, 0 ≤ b) : PlanOk bikes n plan := by
  refine ⟨hl, hn, h.asc, h.lt, fun i => ?_⟩
  by_cases hi : i < plan.length
  · have := h.few i hi
    have e : (brM plan i).length = if i = 0 then 0 else (plan.getD (i - 1) []).length := by
      unfold brM
      split <;> rfl
    rw [← e]
    exact this
  · rw [List.getD_eq_getElem?_getD, List.getElem?_eq_none (by omega)]
    exact Nat.zero_le _
/-! what is below -/
theorem below_ints {k : Nat} : ∀ (ns : List Int), belowAll k (ns.map D.int) = true
  | [] => rfl
  | n :: ns => below_ints ns
theorem cell_last {A : Sto} {xs : List D} : cellOf (A ++ [.lst xs]) (.cell A.length) = some (A.length, xs) := by
  show (lstAt (A ++ [Cl.lst xs])[A.length]?).map _ = _
  rw [List.getElem?_append_right (Nat.le_refl _), Nat.sub_self]
  rfl
theorem seq_last {A : Sto} {xs : List D} : seqOf (A ++ [.lst xs]) (.cell A.length) = some xs := by
  show lstAt (A ++ [Cl.lst xs])[A.length]? = _
  rw [List.getElem?_append_right (Nat.le_refl _), Nat.sub_self]
  rfl
theorem set_last {A : Sto} {c d : Cl} : (A ++ [c]).set A.length d = A ++ [d] := by
  rw [List.set_append_right _ _ (Nat.le_refl _), Nat.sub_self]
  rfl
theorem Dk.cut {S : Sto} {N : Int} {T : Sto} {c : Cl} (h : Dk S N (T ++ [c])) : ∃ A, S = A ++ [c] ∧ A.length = 2 + T.length ∧ Dk A N T ∧ ∀ d, Dk (A ++ [d]) N (T ++ [d]) := by
  obtain ⟨cs, n, rfl, h⟩ := h
  exact ⟨deckS cs n ++ T, by rw [List.append_assoc], by rw [List.length_append]; rfl, ⟨cs, n, rfl, h⟩, fun d => ⟨cs, n, by rw [List.append_assoc], h⟩⟩
theorem Dk.len {S : Sto} {N : Int} {T : Sto} (h : Dk S N T) : S.length = 2 + T.length := by
  obtain ⟨cs, n, rfl, _⟩ := h
  rw [List.length_append]
  rfl
theorem Dk.snoc {S : Sto} {N : Int} {T : Sto} (h : Dk S N T) (c : Cl) : Dk (S ++ [c]) N (T ++ [c]) := by
  obtain ⟨cs, n, rfl, h⟩ := h
  exact ⟨cs, n, by rw [List.append_assoc], h⟩
theorem Dk.take2 {S : Sto} {N : Int} {T : Sto} (h : Dk S N T) : Dk (S.take 2) N [] ∧ S.drop 2 = T ∧ (S.take 2).all (Cl.below 2) = true ∧ (S.take 2).length = 2 := by
  obtain ⟨cs, n, rfl, h⟩ := h
  refine ⟨⟨cs, n, rfl, h⟩, rfl, ?_, rfl⟩
  show (belowAll 2 (cs.map D.int) && ((true && (true && true)) && true)) = true
  rw [below_ints]
  rfl
end Pu
namespace Pu
open PySem L2 Rb
/-! ## what is a plan -/
/-! the law's own look -/
theorem eqv_ints : ∀ (ns ms : List Int), PyData.eqvAll (ns.map .int) (ms.map .int) = decide (ns = ms)
  | [], [] => rfl
  | [], _ :: _ => rfl
  | _ :: _, [] => rfl
  | n :: ns, m :: ms => by
    show ((n == m) && PyData.eqvAll (ns.map .int) (ms.map .int)) = _
    rw [eqv_ints ns ms]
    by_cases h : n = m
    · subst h
      by_cases h2 : ns = ms
      · subst h2; simp
      · simp [h2]
    · simp [h]
end Pu
namespace Pu
open PySem L2 Rb
def tupLe (k : Nat) : D → Bool
  | .tup xs => Nat.ble xs.length k
  | _ => true
def smallD (k : Nat) : D → Bool
  | .tup vs => vs.all (tupLe k)
  | _ => true
theorem tupLe_tup {k : Nat} {xs : List D} (h : xs.length ≤ k) : tupLe k (.tup xs) = true := Nat.ble_eq_true_of_le h
/-- an item of a plan -/
structure Ri (d : D) : Prop where
  av : Av 3 1000 d
  le : tupLe 60 d = true
structure Ok2 (d : D) : Prop where
  av : Av 5 40000 d
  sm : smallD 60 d = true
theorem Ri.tup {ds : List D} (h : Avs 2 20 ds) (hl : ds.length ≤ 40) : Ri (.tup ds) := ⟨Av.tup h (by omega), tupLe_tup (by omega)⟩
theorem Ri.lst {ds : List D} (h : Avs 2 20 ds) (hl : ds.length ≤ 40) : Ri (.lst true ds) := ⟨Av.lst h (by omega), rfl⟩
theorem Ok2.tup {ds : List D} (h : ∀ d ∈ ds, Ri d) (hl : ds.length ≤ 30) : Ok2 (.tup ds) := ⟨(Av.tup (k := 3) (n := 1000) (m := 40000) (fun d hd => (h d hd).av) (by omega)).mono (by decide) (by decide), List.all_eq_true.mpr fun d hd => (h d hd).le⟩
theorem Ok2.lst {ds : List D} (h : ∀ d ∈ ds, Ri d) (hl : ds.length ≤ 30) : Ok2 (.lst true ds) := ⟨(Av.lst (k := 3) (n := 1000) (m := 40000) (fun d hd => (h d hd).av) (by omega)).mono (by decide) (by decide), rfl⟩
end Pu
namespace Pu
open PySem L2 Rb
def tkD (ticks : List Int) : D := .tup (ticks.map D.int)
end Pu
namespace Pu
open PySem L2 Rb
theorem cut_to {xs : List D} {m : Nat} : cutD xs none (some (m : Int)) = xs.take m := by
  unfold cutD
  have h1 : HT.sIx xs.length 0 none = 0 := HT.sIx_none ..
  have h2 : HT.sIx xs.length xs.length (some (m : Int)) = min m xs.length := HT.sIx_nat ..
  rw [h1, h2, List.drop_zero, Nat.sub_zero]
  by_cases h : m ≤ xs.length
  · rw [Nat.min_eq_left h]
  · rw [Nat.min_eq_right (by omega), List.take_length, List.take_of_length_le (by omega)]
def countsM (bs : List Int) : List Int := (List.range bs.length).map fun k => (bs.take (k + 1)).sum
end Pu
namespace Pu
open PySem L2 Rb
/-! ## parts of a road -/
theorem getD_take {α : Type} {l : List α} {i k : Nat} {d : α} (h : i < k) : (l.take k).getD i d = l.getD i d := by
  rw [List.getD_eq_getElem?_getD, List.getD_eq_getElem?_getD, List.getElem?_take_of_lt h]
theorem PlanOk.take {bs : List Int} {n k : Nat} {plan : List (List Nat)} (ok : PlanOk bs n plan) (hk : k ≤ bs.length) : PlanOk (bs.take k) n (plan.take k) := by
  refine ⟨by rw [List.length_take, List.length_take, ok.len], fun b h => ok.nn b (List.mem_of_mem_take h), fun r h => ok.asc r (List.mem_of_mem_take h), fun r h => ok.lt r (List.mem_of_mem_take h), fun i => ?_⟩
  by_cases h : i < k
  · rw [getD_take h, getD_take h]
    have := ok.few i
    by_cases z : i = 0
    · rw [if_pos z] at this ⊢
      exact this
    · rw [if_neg z] at this ⊢
      rw [getD_take (by omega)]
      exact this
  · have : (plan.take k).getD i [] = [] := by
      rw [List.getD_eq_getElem?_getD, List.getElem?_eq_none (by rw [List.length_take]; omega)]
      rfl
    rw [this]
    exact Nat.zero_le _
/-! ## no tick is below 0: the bicycles that stand there come first -/
end Pu
namespace Pu
open PySem L2 Rb
/-! ## all ticks moved by one growing map: shifts and multiples -/
structure Grow (f : Int → Int) : Prop where
  lt : ∀ a b, a < b → f a < f b
  nn : ∀ t, 0 ≤ t → 0 ≤ f t
section
variable {f : Int → Int} (G : Grow f)
include G
theorem Grow.le {a b : Int} (h : a ≤ b) : f a ≤ f b := by
  rcases Int.lt_or_eq_of_le h with h | h
  · exact Int.le_of_lt (G.lt a b h)
  · rw [h]; exact Int.le_refl _
end
end Pu
namespace Pu
open PySem L2 Rb
/-! ## one road behind the other -/
theorem getD_right {α : Type} {l m : List α} {i : Nat} {d : α} : (l ++ m).getD (l.length + i) d = m.getD i d := by
  rw [List.getD_eq_getElem?_getD, List.getD_eq_getElem?_getD, List.getElem?_append_right (by omega), Nat.add_sub_cancel_left]
section
variable {wk rd : Int} {bs bs2 starts : List Int} {plan plan2 : List (List Nat)}
theorem PlanOk.join {n : Nat} (ok : PlanOk bs n plan) (ok2 : PlanOk bs2 n plan2) : PlanOk (bs ++ bs2) n (plan ++ plan2) := by
  have hl := ok.len
  refine ⟨by rw [List.length_append, List.length_append, ok.len, ok2.len], fun b h => ?_, fun r h => ?_, fun r h => ?_, fun i => ?_⟩
  · rcases List.mem_append.mp h with h | h
    · exact ok.nn b h
    · exact ok2.nn b h
  · rcases List.mem_append.mp h with h | h
    · exact ok.asc r h
    · exact ok2.asc r h
  · rcases List.mem_append.mp h with h | h
    · exact ok.lt r h
    · exact ok2.lt r h
  · by_cases h : i < bs.length
    · rw [getD_app (by omega), getD_app h]
      have := ok.few i
      by_cases z : i = 0
      · rw [if_pos z] at this ⊢
        exact this
      · rw [if_neg z] at this ⊢
        rw [getD_app (by omega)]
        exact this
    · obtain ⟨j, rfl⟩ : ∃ j, i = bs.length + j := ⟨i - bs.length, by omega⟩
      have e : (plan ++ plan2).getD (bs.length + j) [] = plan2.getD j [] := by rw [← hl]; exact getD_right
      rw [e, getD_right]
      have := ok2.few j
      by_cases z : j = 0
      · rw [if_pos z] at this
        omega
      · rw [if_neg z] at this
        rw [if_neg (by omega)]
        have e2 : bs.length + j - 1 = plan.length + (j - 1) := by omega
        rw [e2, getD_right]
        exact this
end
end Pu
namespace Pu
open PySem L2 Rb
structure RoadOk (wk rd : Int) (bs : List Int) : Prop where
  rd1 : 1 ≤ rd
  lt : rd < wk
  w2 : wk ≤ 1000
  l1 : 1 ≤ bs.length
  l2 : bs.length ≤ 12
  hb : ∀ b ∈ bs, 0 ≤ b ∧ b ≤ 12
end Pu
namespace Pu
open PySem L2 Rb
theorem RoadOk.take {wk rd : Int} {bs : List Int} (h : RoadOk wk rd bs) {k : Nat} (h1 : 1 ≤ k) : RoadOk wk rd (bs.take k) :=
  ⟨h.rd1, h.lt, h.w2, by rw [List.length_take]; have := h.l1; omega, by rw [List.length_take]; have := h.l2; omega, fun b hb => h.hb b (List.mem_of_mem_take hb)⟩
end Pu
namespace Pu
open PySem L2 Rb
theorem cell_at2 {A : Sto} {xs : List D} (h : A.length = 2) : cellOf (A ++ [.lst xs]) (.cell 2) = some (2, xs) := by
  have := cell_last (A := A) (xs := xs)
  rw [h] at this
  exact this
theorem seq_at2 {A : Sto} {xs : List D} (h : A.length = 2) : seqOf (A ++ [.lst xs]) (.cell 2) = some xs := by
  have := seq_last (A := A) (xs := xs)
  rw [h] at this
  exact this
theorem set_at2 {A : Sto} {c d : Cl} (h : A.length = 2) : (A ++ [c]).set 2 d = A ++ [d] := by
  have := set_last (A := A) (c := c) (d := d)
  rw [h] at this
  exact this
theorem frz_below {S : Sto} {n : Nat} {d : D} (hc : ∀ k, d ≠ .cell k) (h : below n d = true) : frz S n d = some d := by
  cases d with
  | cell k => exact absurd rfl (hc k)
  | _ => simp only [frz, h, if_true]
/-- a call that sees the deck only -/
theorem Dk.bel {S T : Sto} {N : Int} (h : Dk S N T) : (S.take 2).all (Cl.below 2) = true := h.take2.2.2.1
theorem Dk.app {S T : Sto} {N : Int} (h : Dk S N []) : Dk (S ++ T) N T := by
  obtain ⟨cs, n, rfl, h⟩ := h
  exact ⟨cs, n, by rw [List.append_nil], h⟩
theorem Dk.l2 {S T S1 : Sto} {N : Int} (h : Dk S N T) (l : S1.length = 2) : S1.length = (S.take 2).length := l.trans h.take2.2.2.2.symm
theorem Dk.back {S T S1 : Sto} {N M : Int} (h : Dk S N T) (d : Dk S1 M []) : Dk (S1 ++ S.drop 2) M T := by
  rw [h.take2.2.1]
  exact d.app
end Pu
namespace Pu
open PySem L2 Rb
/-! ## texts of small signs -/
def Fine (x : Str) : Prop := ∀ c ∈ x.cps.toList, c < 1114112
theorem app_cps (a b : Str) : (a ++ b).cps.toList = a.cps.toList ++ b.cps.toList := by
  show (a.cps ++ b.cps).toList = _
  exact Array.toList_append
theorem Fine.app {a b : Str} (ha : Fine a) (hb : Fine b) : Fine (a ++ b) := fun c hc => by
  rw [app_cps] at hc
  rcases List.mem_append.mp hc with h | h
  · exact ha c h
  · exact hb c h
theorem fine_of {x : Str} (h : x.cps.toList.all (fun c => decide (c < 1114112)) = true) : Fine x := fun c hc => of_decide_eq_true (List.all_eq_true.mp h c hc)
theorem fine_join {sep : Str} (hs : Fine sep) : ∀ {ts : List Str}, (∀ t ∈ ts, Fine t) → Fine (Str.join sep ts)
  | [], _ => fine_of rfl
  | [x], h => h x List.mem_cons_self
  | x :: y :: r, h => by
    show Fine (x ++ sep ++ Str.join sep (y :: r))
    exact ((h x List.mem_cons_self).app hs).app (fine_join hs fun t ht => h t (List.mem_cons_of_mem _ ht))
theorem fine_from : ∀ (ts : List Str) (k : Nat) (acc : Str), Fine acc → (∀ t ∈ ts, Fine t) → Fine (textFrom k acc ts)
  | [], _, acc, ha, _ => ha
  | t :: ts, k, acc, ha, h => by
    show Fine (textFrom (k + 1) (acc ++ (if k > 0 then ", " else "" : String) ++ t) ts)
    refine fine_from ts (k + 1) _ ((ha.app ?_).app (h t List.mem_cons_self)) fun x hx => h x (List.mem_cons_of_mem _ hx)
    split
    · exact fine_of (by decide)
    · exact fine_of (by decide)
theorem fine_int (i : Int) : Fine (PyData.int i).shown := fun c hc => by
  by_cases h : c < 1114112
  · exact h
  · exact absurd hc (PyProof.Rows.shown_int_free' ⟨by omega, by omega⟩ i)
theorem fine_list {ts : List Str} (h : ∀ t ∈ ts, Fine t) : Fine (listText ts) := (fine_from ts 0 _ (fine_of (by decide)) h).app (fine_of (by decide))
theorem fine_tuple {ts : List Str} (h : ∀ t ∈ ts, Fine t) : Fine (tupleText ts) := by
  unfold tupleText
  refine ((fine_of (by decide)).app (fine_join (fine_of (by decide)) h)).app ?_
  split
  · exact fine_of (by decide)
  · exact fine_of (by decide)
/-! ## repr and == of values without dicts -/
structure RepP (k n : Nat) (p : PyData) : Prop where
  nice : Rb.Nice k n p
  nod : p.hasDict = false
  lay : PyData.canLay0 p = true
  fine : Fine p.shown
structure Rep (k n : Nat) (d : D) : Prop where
  py : ∃ p, toPy d = some p ∧ RepP k n p
theorem RepP.mono {k n k' n' : Nat} {p : PyData} (h : RepP k n p) (h1 : k ≤ k') (h2 : n ≤ n') : RepP k' n' p := ⟨h.nice.mono h1 h2, h.nod, h.lay, h.fine⟩
theorem Rep.mono {k n k' n' : Nat} {d : D} (h : Rep k n d) (h1 : k ≤ k') (h2 : n ≤ n') : Rep k' n' d := by
  obtain ⟨p, e, hp⟩ := h.py
  exact ⟨p, e, hp.mono h1 h2⟩
theorem Rep.int {i : Int} (h1 : -1000000000000 ≤ i) (h2 : i ≤ 1000000000000) : Rep 0 0 (.int i) := ⟨_, rfl, Rb.Nice.int (Nat.lt_of_lt_of_le (show i.natAbs < 10000000000000 by omega) (by decide)), rfl, rfl, fine_int i⟩
theorem Rep.non : Rep 0 0 .non := ⟨_, rfl, Rb.Nice.none, rfl, rfl, fine_of (by decide)⟩
theorem Rep.bl {b : Bool} : Rep 0 0 (.bl b) := ⟨_, rfl, Rb.Nice.bool, rfl, rfl, by cases b <;> exact fine_of (by decide)⟩
theorem Rep.str {x : Str} {n : Nat} (h : x.cps.size ≤ n) (hx : ∀ c ∈ x.cps.toList, c < 16 ^ 8) (ho : PyData.canLay0 (.str x) = true) (hf : Fine (PyData.str x).shown) : Rep 0 n (.str x) := ⟨_, rfl, Rb.Nice.str h hx, rfl, ho, hf⟩
theorem reps_py {k n : Nat} : ∀ {ds : List D}, (∀ d ∈ ds, Rep k n d) → ∃ ps, toPyAll ds = some ps ∧ ps.length = ds.length ∧ (∀ p ∈ ps, Rb.Nice k n p) ∧ PyData.hasDictAll ps = false ∧ PyData.canLayAll0 ps = true ∧ ∀ t ∈ PyData.shownAll ps, Fine t
  | [], _ => ⟨[], rfl, rfl, (fun _ z => nomatch z), rfl, rfl, fun _ z => nomatch z⟩
  | d :: ds, h => by
    obtain ⟨p, e, hn, hd, hc, hf⟩ := (h d List.mem_cons_self).py
    obtain ⟨ps, e2, hl, hn2, hd2, hc2, hf2⟩ := reps_py (ds := ds) fun x hx => h x (List.mem_cons_of_mem _ hx)
    refine ⟨p :: ps, ?_, congrArg Nat.succ hl, fun q hq => ?_, ?_, ?_, fun t ht => ?_⟩
    · show (toPy d).bind _ = _
      rw [e, e2]
      rfl
    · rcases List.mem_cons.mp hq with rfl | hq
      · exact hn
      · exact hn2 q hq
    · simp only [PyData.hasDictAll, hd, hd2, Bool.or_self]
    · simp only [PyData.canLayAll0, hc, hc2, Bool.and_self]
    · rcases List.mem_cons.mp (show t ∈ p.shown :: PyData.shownAll ps from ht) with rfl | ht
      · exact hf
      · exact hf2 t ht
theorem Rep.tup {k n m : Nat} {ds : List D} (h : ∀ d ∈ ds, Rep k n d) (hm : ds.length * (n + 1) ≤ m) : Rep (k + 1) m (.tup ds) := by
  obtain ⟨ps, e, hl, hn, hd, hc, hf⟩ := reps_py h
  refine ⟨.tuple ps, ?_, Rb.Nice.tup hn (by rw [hl]; exact hm), ?_, ?_, ?_⟩
  · show (toPyAll ds).map PyData.tuple = _
    rw [e]
    rfl
  · simp only [PyData.hasDict, hd]
  · simp only [PyData.canLay0, hc]
  · simp only [PyData.shown]
    exact fine_tuple hf
theorem Rep.lst {k n m : Nat} {b : Bool} {ds : List D} (h : ∀ d ∈ ds, Rep k n d) (hm : ds.length * (n + 1) ≤ m) : Rep (k + 1) m (.lst b ds) := by
  obtain ⟨ps, e, hl, hn, hd, hc, hf⟩ := reps_py h
  refine ⟨.list ps, ?_, Rb.Nice.lst hn (by rw [hl]; exact hm), ?_, ?_, ?_⟩
  · show (toPyAll ds).map PyData.list = _
    rw [e]
    rfl
  · simp only [PyData.hasDict, hd]
  · simp only [PyData.canLay0, hc]
  · simp only [PyData.shown]
    exact fine_list hf
theorem Rep.ints {ns : List Int} {m : Nat} (h : ∀ i ∈ ns, -1000000000000 ≤ i ∧ i ≤ 1000000000000) (hm : ns.length ≤ m) : Rep 1 m (.tup (ns.map D.int)) :=
  Rep.tup (k := 0) (n := 0) (fun d hd => by
    obtain ⟨i, hi, rfl⟩ := List.mem_map.mp hd
    exact Rep.int (h i hi).1 (h i hi).2) (by rw [List.length_map]; omega)
theorem Rep.road {wk rd : Int} {bs : List Int} (R : RoadOk wk rd bs) : Rep 2 39 (roadV wk rd bs) := by
  have h1 := R.rd1
  have h2 := R.lt
  have h3 := R.w2
  refine Rep.tup (k := 1) (n := 12) (fun d hd => ?_) (Nat.le_of_ble_eq_true rfl)
  simp only [List.mem_cons, List.not_mem_nil, or_false] at hd
  rcases hd with rfl | rfl | rfl
  · exact (Rep.int (by omega) (by omega)).mono (by decide) (by decide)
  · exact (Rep.int (by omega) (by omega)).mono (by decide) (by decide)
  · exact Rep.ints (fun i hi => by have := R.hb i hi; omega) R.l2
theorem Rep.starts {starts : List Int} (n2 : starts.length ≤ 10) (hb : Bnd 1000000 starts) : Rep 1 10 (tkD starts) := Rep.ints (fun i hi => by have := hb i hi; omega) n2
theorem Rep.two {a b : D} {k n m : Nat} {f : Bool} (ha : Rep k n a) (hb : Rep k n b) (hm : 2 * (n + 1) ≤ m) : Rep (k + 1) m (.lst f [a, b]) :=
  Rep.lst (fun d hd => by
    simp only [List.mem_cons, List.not_mem_nil, or_false] at hd
    rcases hd with rfl | rfl
    · exact ha
    · exact hb) hm
def shw (d : D) : Str := match toPy d with
  | some p => p.shown
  | none => ""
theorem eqB_ok {neg : Bool} {x y : D} {S : Sto} {Q : QD} {p q : PyData} (h1 : pyC S x = some p) (h2 : pyC S y = some q) (s1 : SeqAt.shaped p = true) (s2 : SeqAt.shaped q = true) (r : Q (.bl (nb neg (PyData.eqv p q))) S) : iEqB neg x y S Q := by
  refine iEqB_of ?_
  unfold gEqB
  split
  · cases h1
    cases h2
    rename_i i j
    have e : PyData.eqv (.int i) (.int j) = decide (i = j) := by simp only [PyData.eqv]; by_cases h : i = j <;> simp [h]
    rw [e] at r
    exact r
  · cases h1
    cases h2
    rename_i i j
    have e : PyData.eqv (.str i) (.str j) = decide (i = j) := by simp only [PyData.eqv]; by_cases h : i = j <;> simp [h]
    rw [e] at r
    exact r
  · exact onS h1 (onS h2 ⟨⟨s1, s2⟩, r⟩)
theorem pyC_of {S : Sto} {d : D} {p : PyData} (h : toPy d = some p) : pyC S d = some p := by
  cases d with
  | cell n => cases h
  | _ => exact h
/-- what == can be asked of -/
structure Shp (k : Nat) (d : D) : Prop where
  py : ∃ p, toPy d = some p ∧ PyData.canLay0 p = true ∧ p.depth ≤ k
theorem Shp.mono {k k' : Nat} {d : D} (h : Shp k d) (h1 : k ≤ k') : Shp k' d := by
  obtain ⟨p, e, h2, h3⟩ := h.py
  exact ⟨p, e, h2, Nat.le_trans h3 h1⟩
theorem Shp.str {x : Str} (h : Fine x) : Shp 0 (.str x) := by
  refine ⟨_, rfl, ?_, Nat.le_refl _⟩
  show PyData.strOk x = true
  unfold PyData.strOk
  rw [← Array.all_toList, List.all_eq_true]
  intro c hc
  exact decide_eq_true (h c hc)
theorem shps_py {k : Nat} : ∀ {ds : List D}, (∀ d ∈ ds, Shp k d) → ∃ ps, toPyAll ds = some ps ∧ PyData.canLayAll0 ps = true ∧ PyData.depthAll ps ≤ k
  | [], _ => ⟨[], rfl, rfl, Nat.zero_le _⟩
  | d :: ds, h => by
    obtain ⟨p, e, hc, hd⟩ := (h d List.mem_cons_self).py
    obtain ⟨ps, e2, hc2, hd2⟩ := shps_py (ds := ds) fun x hx => h x (List.mem_cons_of_mem _ hx)
    refine ⟨p :: ps, ?_, ?_, ?_⟩
    · show (toPy d).bind _ = _
      rw [e, e2]
      rfl
    · simp only [PyData.canLayAll0, hc, hc2, Bool.and_self]
    · simp only [PyData.depthAll]
      exact Nat.max_le.mpr ⟨hd, hd2⟩
theorem Shp.lst {k : Nat} {b : Bool} {ds : List D} (h : ∀ d ∈ ds, Shp k d) : Shp (k + 1) (.lst b ds) := by
  obtain ⟨ps, e, hc, hd⟩ := shps_py h
  refine ⟨.list ps, ?_, ?_, ?_⟩
  · show (toPyAll ds).map PyData.list = _
    rw [e]
    rfl
  · simp only [PyData.canLay0, hc]
  · simp only [PyData.depth]
    omega
theorem Shp.tup {k : Nat} {ds : List D} (h : ∀ d ∈ ds, Shp k d) : Shp (k + 1) (.tup ds) := by
  obtain ⟨ps, e, hc, hd⟩ := shps_py h
  refine ⟨.tuple ps, ?_, ?_, ?_⟩
  · show (toPyAll ds).map PyData.tuple = _
    rw [e]
    rfl
  · simp only [PyData.canLay0, hc]
  · simp only [PyData.depth]
    omega
theorem Shp.int {i : Int} : Shp 0 (.int i) := ⟨_, rfl, rfl, Nat.le_refl _⟩
theorem Shp.sh {k : Nat} {d : D} (h : Shp k d) (hk : k ≤ 64) : ∃ p, toPy d = some p ∧ SeqAt.shaped p = true ∧ PyData.canLay0 p = true := by
  obtain ⟨p, e, hc, hd⟩ := h.py
  refine ⟨p, e, ?_, hc⟩
  unfold SeqAt.shaped
  rw [hc, decide_eq_true (Nat.le_trans hd hk)]
  rfl
/-- the same value twice -/
theorem eq_same {neg : Bool} {d d' : D} {S : Sto} {Q : QD} {k : Nat} (h : Shp k d) (e : toPy d = toPy d') (q : Q (.bl (nb neg true)) S) (hk : k ≤ 64 := by decide) : iEqB neg d d' S Q := by
  obtain ⟨p, e1, hs, hc⟩ := h.sh hk
  refine eqB_ok (pyC_of e1) (pyC_of (e ▸ e1)) hs hs ?_
  rw [SeqAt.eqv_refl _ hc]
  exact q
end Pu
namespace Pu
open PySem L2 Rb
/-! ## values that repr shows -/
structure Vv (d : D) (p : PyData) : Prop where
  py : toPy d = some p
  nice : Rb.Nice 3 8 p
  kn : p.hasDict = false ∨ known d = true
  fine : Fine p.shown
theorem Vv.isS {d : D} {p : PyData} (h : Vv d p) : (toPy d).isSome = true := by rw [h.py]; rfl
theorem Vv.rep {d : D} {p : PyData} {S : Sto} {Q : QD} (h : Vv d p) (q : Q (.str p.shown) S) : iRepr [d] S Q := by
  refine iRepr_of (onS h.py ⟨⟨h.nice.mono (by decide) (by decide), h.kn⟩, q⟩)
theorem Vv.size {d : D} {p : PyData} (h : Vv d p) : p.shown.cps.size ≤ 3000 := by
  have e := PyData.shown_le_bulk 100 (by decide) p h.nice.lv
  have := h.nice.blk
  have : p.shown.length = p.shown.cps.size := rfl
  omega
theorem Vv.two {d : D} {p : PyData} {S : Sto} {Q : QD} {f : Bool} {w : Str} (h : Vv d p) (hw : w.cps.size ≤ 3000) (hf : Fine w) (q : Q (.str (PyData.list [.str w, .str p.shown]).shown) S) : iRepr [.lst f [.str w, .str p.shown]] S Q := by
  refine iRepr_of ?_
  unfold gRepr
  dsimp only
  refine onS (show toPy (.lst f [.str w, .str p.shown]) = some (PyData.list [.str w, .str p.shown]) from rfl) ⟨⟨?_, .inl rfl⟩, q⟩
  refine (Rb.Nice.lst (k := 0) (n := 3000) (m := 6002) (fun x hx => ?_) (by show 2 * 3001 ≤ 6002; decide)).mono (by decide) (by decide)
  simp only [List.mem_cons, List.not_mem_nil, or_false] at hx
  rcases hx with rfl | rfl
  · exact Rb.Nice.str hw fun c hc => Nat.lt_trans (hf c hc) (by decide)
  · exact Rb.Nice.str h.size fun c hc => Nat.lt_trans (h.fine c hc) (by decide)
theorem Vv.int {i : Int} (h : i.natAbs < 10 ^ 99) : Vv (.int i) (.int i) := ⟨rfl, (Rb.Nice.int h).mono (by decide) (by decide), .inl rfl, fine_int i⟩
/-! ## a promise -/
end Pu
namespace Gm
/-! ## sums over sets of people, and the step of the rule -/
/-! ## the room of some stages -/
end Gm
namespace Pu
open PySem L2 Rb
/-! ## the latest people -/
def ordM (ticks : List Int) : List (Int × Int) := srtP (ticks.mapIdx fun p t => (-t, (p : Int)))
def grM (ticks : List Int) (c : Nat) : List Nat := (srt (((ordM ticks).take c).map (·.2))).map Int.toNat
theorem tickAt_get {ticks : List Int} {p : Nat} {t : Int} (h : ticks[p]? = some t) : tickAt ticks p = t := by
  unfold tickAt
  rw [List.getD_eq_getElem?_getD, h]
  rfl
theorem ord_len (ticks : List Int) : (ordM ticks).length = ticks.length := by
  unfold ordM
  rw [srtP_len, List.length_mapIdx]
end Pu
namespace Pu
open PySem L2 Rb
/-! ## the plan of the rule -/
def ruleRow (wk rd : Int) (ticks : List Int) (r : List Nat) : List Int := ticks.mapIdx fun p t => t + if p ∈ r then rd else wk
def rtk (wk rd : Int) (cs starts : List Int) : Nat → List Int
  | 0 => starts
  | i + 1 => ruleRow wk rd (rtk wk rd cs starts i) (grM (rtk wk rd cs starts i) (cs.getD i 0).toNat)
end Pu
namespace Pu
open PySem L2 Rb
/-! ## two cells at the end of the store -/
/-! ## the law's own way to the latest people -/
def mkp (ticks : List Int) (p : Nat) : Int × Int := (-(tickAt ticks p), (p : Int))
theorem filter_asc {lf : List Nat} {f : Nat → Bool} (h : lf.Pairwise (· < ·)) {b : Nat} {rest : List Nat} (e : lf.filter f = b :: rest) : b ∈ lf ∧ f b = true ∧ ∀ q ∈ lf, f q = true → b ≤ q := by
  have hm : b ∈ lf.filter f := by rw [e]; exact List.mem_cons_self
  obtain ⟨h1, h2⟩ := List.mem_filter.mp hm
  refine ⟨h1, h2, fun q hq hf => ?_⟩
  have hq2 : q ∈ lf.filter f := List.mem_filter.mpr ⟨hq, hf⟩
  have hp := h.filter f
  rw [e] at hp hq2
  rcases List.mem_cons.mp hq2 with rfl | hq2
  · exact Nat.le_refl _
  · exact Nat.le_of_lt ((List.pairwise_cons.mp hp).1 q hq2)
theorem next_best {ticks : List Int} {lf : List Nat} {j b : Nat} {rest : List Nat} (asc : lf.Pairwise (· < ·)) (pm : (lf.map (mkp ticks)).Perm ((ordM ticks).drop j)) (ne : lf ≠ []) (e : lf.filter (fun k => decide (tickAt ticks k = maxL (lf.map (tickAt ticks)))) = b :: rest) :
    (ordM ticks)[j]? = some (mkp ticks b) ∧ (ordM ticks).drop j = mkp ticks b :: (ordM ticks).drop (j + 1) ∧ b ∈ lf := by
  obtain ⟨h1, h2, h3⟩ := filter_asc asc e
  have h2 : tickAt ticks b = maxL (lf.map (tickAt ticks)) := of_decide_eq_true h2
  obtain ⟨m1, m2⟩ := maxL_spec (ns := lf.map (tickAt ticks)) (by simpa using ne)
  have ln := least_next (k := j) (m := mkp ticks b) (srtP_sorted _) pm (List.mem_map.mpr ⟨b, h1, rfl⟩) fun q hq => by
    obtain ⟨p, hp, rfl⟩ := List.mem_map.mp hq
    have hle := m2 (tickAt ticks p) (List.mem_map.mpr ⟨p, hp, rfl⟩)
    show -(tickAt ticks b) < -(tickAt ticks p) ∨ (-(tickAt ticks b) = -(tickAt ticks p) ∧ (b : Int) ≤ (p : Int))
    by_cases et : tickAt ticks p = tickAt ticks b
    · exact .inr ⟨by omega, by have := h3 p hp (decide_eq_true (by omega)); omega⟩
    · exact .inl (by omega)
  exact ⟨ln.1, ln.2, h1⟩
end Pu
namespace Pu
open PySem L2 Rb
/-- what the loop has chosen -/
structure Chosen (ticks : List Int) (c : Nat) (lf rs : List Nat) : Prop where
  asc : lf.Pairwise (· < ·)
  lt : ∀ p ∈ lf, p < ticks.length
  pm : (lf.map (mkp ticks)).Perm ((ordM ticks).drop rs.length)
  sel : nI rs = ((ordM ticks).take rs.length).map (·.2)
  le : rs.length ≤ c
theorem Chosen.start {ticks : List Int} {c : Nat} : Chosen ticks c (List.range ticks.length) [] where
  asc := List.pairwise_lt_range
  lt := fun p hp => List.mem_range.mp hp
  pm := by
    rw [List.length_nil, List.drop_zero]
    have e : (List.range ticks.length).map (mkp ticks) = ticks.mapIdx fun p t => (-t, (p : Int)) := by
      apply List.ext_getElem?
      intro i
      rw [List.getElem?_map, List.getElem?_mapIdx]
      by_cases hi : i < ticks.length
      · rw [List.getElem?_range hi, List.getElem?_eq_getElem hi]
        show some (-(tickAt ticks i), (i : Int)) = some (-ticks[i], (i : Int))
        rw [tickAt_get (List.getElem?_eq_getElem hi)]
      · rw [List.getElem?_eq_none (by rw [List.length_range]; omega), List.getElem?_eq_none (by omega)]
        rfl
    rw [e]
    exact (srtP_perm _).symm
  sel := rfl
  le := Nat.zero_le _
theorem Chosen.len {ticks : List Int} {c : Nat} {lf rs : List Nat} (h : Chosen ticks c lf rs) : lf.length + rs.length = ticks.length := by
  have h1 := h.pm.length_eq
  have h2 := congrArg List.length h.sel
  rw [List.length_map, List.length_drop, ord_len] at h1
  rw [nI_len, List.length_map, List.length_take, ord_len] at h2
  omega
theorem Chosen.next {ticks : List Int} {c : Nat} {lf rs : List Nat} (h : Chosen ticks c lf rs) {b j : Nat} {rest : List Nat} (hc : rs.length < c) (ne : lf ≠ []) (e : lf.filter (fun k => decide (tickAt ticks k = maxL (lf.map (tickAt ticks)))) = b :: rest) (hj : lf[j]? = some b) : Chosen ticks c (lf.eraseIdx j) (rs ++ [b]) := by
  obtain ⟨o1, o2, o3⟩ := next_best h.asc h.pm ne e
  have el : (rs ++ [b]).length = rs.length + 1 := by rw [List.length_append]; rfl
  refine ⟨h.asc.sublist (List.eraseIdx_sublist ..), fun p hp => h.lt p (List.mem_of_mem_eraseIdx hp), ?_, ?_, by omega⟩
  · rw [el]
    have hp := h.pm
    rw [o2] at hp
    have e1 : (lf.map (mkp ticks)).eraseIdx j = (lf.eraseIdx j).map (mkp ticks) := by
      clear hp o1 o2 o3 e ne el
      clear h
      induction lf generalizing j with
      | nil => simp
      | cons x l ih =>
        cases j with
        | zero => rfl
        | succ j => exact congrArg _ (ih hj)
    rw [← e1]
    exact erase_next (by rw [List.getElem?_map, hj]; rfl) hp
  · rw [el, List.take_add_one, o1, List.map_append, ← h.sel]
    unfold nI
    rw [List.map_append]
    rfl
theorem Chosen.done {ticks : List Int} {c : Nat} {lf rs : List Nat} (h : Chosen ticks c lf rs) (hd : lf = [] ∨ c ≤ rs.length) : nI rs = ((ordM ticks).take c).map (·.2) := by
  have hl := h.len
  have hle := h.le
  rw [h.sel]
  rcases hd with rfl | hd
  · have : rs.length = ticks.length := by simpa using hl
    rw [List.take_of_length_le (by rw [ord_len]; omega), List.take_of_length_le (by rw [ord_len]; omega)]
  · rw [show rs.length = c by omega]
end Pu
namespace Pu
open PySem L2 Rb Gm
/-! ## people exclude an end: no plan keeps it -/
/-! ## the least finish -/
def lfin (wk rd : Int) (bs starts : List Int) : Int := maxL (rtk wk rd (countsM bs) starts bs.length)
end Pu
namespace Pu
open PySem L2 Rb Gm
theorem cut_from {xs : List D} {m : Nat} : cutD xs (some (m : Int)) none = xs.drop m := by
  unfold cutD
  have h1 : HT.sIx xs.length xs.length none = xs.length := HT.sIx_none ..
  have h2 : HT.sIx xs.length 0 (some (m : Int)) = min m xs.length := HT.sIx_nat ..
  rw [h1, h2]
  by_cases h : m ≤ xs.length
  · rw [Nat.min_eq_left h, List.take_of_length_le (by rw [List.length_drop]; omega)]
  · rw [Nat.min_eq_right (by omega), List.drop_length, List.drop_of_length_le (by omega)]
    simp
theorem PlanOk.set {bs : List Int} {n : Nat} {plan : List (List Nat)} {sp : Nat} {r r' : List Nat} (ok : PlanOk bs n plan) (hr : plan[sp]? = some r) (h1 : r'.Pairwise (· < ·)) (h2 : ∀ p ∈ r', p < n) (h3 : r'.length = r.length) : PlanOk bs n (plan.set sp r') := by
  have el : ∀ i, ((plan.set sp r').getD i []).length = (plan.getD i []).length := fun i => by
    rw [List.getD_eq_getElem?_getD, List.getD_eq_getElem?_getD, List.getElem?_set]
    split
    · rename_i e
      subst e
      rw [hr, if_pos (List.getElem?_eq_some_iff.mp hr).1]
      exact h3
    · rfl
  refine ⟨by rw [List.length_set]; exact ok.len, ok.nn, fun x hx => ?_, fun x hx => ?_, fun i => ?_⟩
  · rcases List.mem_or_eq_of_mem_set hx with h | rfl
    · exact ok.asc x h
    · exact h1
  · rcases List.mem_or_eq_of_mem_set hx with h | rfl
    · exact ok.lt x h
    · exact h2
  · rw [el, el]
    exact ok.few i
end Pu
namespace Pu
open PySem L2 Rb Gm
/-! ## the other draws: a state of cells and rests -/
def stateS (cs rs : List Int) (n : Int) : Sto := [.lst (rs.map D.int), .lst [.lst false (cs.map D.int), .int n, .cell 0]]
def Nk (S : Sto) (N : Int) (T : Sto) : Prop := ∃ cs rs n, S = stateS cs rs n ++ T ∧ 1 ≤ cs.length ∧ cs.length ≤ 64 ∧ rs.length = cs.length ∧ (∀ x ∈ cs, 0 ≤ x) ∧ (∀ x ∈ rs, 0 ≤ x) ∧ 0 ≤ n ∧ n ≤ N
theorem Nk.le {S : Sto} {N M : Int} {T : Sto} (h : Nk S N T) (e : N ≤ M) : Nk S M T := by
  obtain ⟨cs, rs, n, h1, h2, h3, h4, h5, h6, h7, h8⟩ := h
  exact ⟨cs, rs, n, h1, h2, h3, h4, h5, h6, h7, by omega⟩
theorem next_ok {S T : Sto} {N lim : Int} {Q : QD} {E : ED} (h : Nk S N T) (hN : N ≤ 1000000) (h1 : 1 ≤ lim) (h2 : lim ≤ 1000000000) (q : ∀ r S', 0 ≤ r → r < lim → Nk S' (N + 1) T → Q (.int r) S') : F_law_next [.cell 1, .int lim] S Q E := by
  obtain ⟨cs, rs, n, rfl, c1, c2, hl, hc, hr, n0, n1⟩ := h
  unfold F_law_next
  have cml : (cs.map D.int).length = cs.length := List.length_map ..
  have y0 : 0 ≤ n % ((cs.map D.int).length : Int) := Int.emod_nonneg _ (by omega)
  have y1 : n % ((cs.map D.int).length : Int) < ((cs.map D.int).length : Int) := Int.emod_lt_of_pos _ (by omega)
  obtain ⟨j, hj⟩ : ∃ j : Nat, n % ((cs.map D.int).length : Int) = (j : Int) := ⟨_, (Int.toNat_of_nonneg y0).symm⟩
  rw [hj] at y0 y1
  have jc : j < cs.length := by omega
  have jr : j < rs.length := by omega
  have ar : atI (rs.map D.int) (n % ((cs.map D.int).length : Int)) = some (.int rs[j]) := by
    rw [hj]
    exact atI_nat (j := j) (by rw [List.getElem?_map, List.getElem?_eq_getElem jr]; rfl)
  have ac : atI (cs.map D.int) (n % ((cs.map D.int).length : Int)) = some (.int cs[j]) := by
    rw [hj]
    exact atI_nat (j := j) (by rw [List.getElem?_map, List.getElem?_eq_getElem jc]; rfl)
  have rj0 := hr _ (List.getElem_mem jr)
  have cj0 := hc _ (List.getElem_mem jc)
  refine ⟨rfl, rfl, by show 0 < ((cs.map D.int).length : Int); omega, ?_⟩
  refine onS ar ?_
  refine ifB (fun hb => ?_) fun hb => ?_
  · refine onS ar ⟨by show 0 < lim; omega, onS ar ⟨wide_div (b := 30) (by omega) (by omega) (by decide) (by decide), onS (a := j) ?_ ?_⟩⟩
    · show ixN (rs.map D.int).length (n % ((cs.map D.int).length : Int)) = some j
      rw [hj]
      unfold ixN
      rw [if_pos (by omega), if_pos (by rw [List.length_map]; omega), Int.toNat_natCast]
    · have em : (rs.map D.int).set j (D.int (rs[j] / lim)) = (rs.set j (rs[j] / lim)).map D.int := List.map_set.symm
      show Q (.int (rs[j] % lim)) (Cl.lst ((rs.map D.int).set j (D.int (rs[j] / lim))) :: Cl.lst [.lst false (cs.map D.int), .int (n + 1), .cell 0] :: T)
      rw [em]
      refine q _ _ (Int.emod_nonneg _ (by omega)) (Int.emod_lt_of_pos _ (by omega)) ⟨cs, rs.set j (rs[j] / lim), n + 1, rfl, c1, c2, by rw [List.length_set]; exact hl, hc, fun x hx => ?_, by omega, by omega⟩
      rcases List.mem_or_eq_of_mem_set hx with z | rfl
      · exact hr x z
      · exact Int.ediv_nonneg rj0 (by omega)
  · refine onS ac ?_
    generalize cs[j] = x at cj0
    have a1 := Int.emod_nonneg x (show (2147483629 : Int) ≠ 0 by decide)
    have a2 := Int.emod_lt_of_pos x (show (0 : Int) < 2147483629 by decide)
    have fin : ∀ m : Int, 0 ≤ m → Q (.int (m % lim)) (stateS cs rs (n + 1) ++ T) := fun m _ => q _ _ (Int.emod_nonneg _ (by omega)) (Int.emod_lt_of_pos _ (by omega)) ⟨cs, rs, n + 1, rfl, c1, c2, hl, hc, hr, by omega, by omega⟩
    refine ⟨by show (0 : Int) < _; decide, .inl (.inl ⟨by decide, by decide⟩), ⟨by decide, by decide, ?_⟩, by show (0 : Int) < _; decide, ?_⟩
    · show (x % 2147483629 + 40037 * n + 9203).natAbs < 2 ^ 64
      omega
    show gN 7 (D.int ((x % 2147483629 + 40037 * n + 9203) ^ (3 : Int).toNat % 2147483587)) _ _ _ _
    generalize hm1 : (x % 2147483629 + 40037 * n + 9203) ^ (3 : Int).toNat % 2147483587 = mm
    have b1 : 0 ≤ mm := by rw [← hm1]; exact Int.emod_nonneg _ (by decide)
    have b2 : mm < 2147483587 := by rw [← hm1]; exact Int.emod_lt_of_pos _ (by decide)
    have sq : 0 ≤ 5039 * n * n ∧ 5039 * n * n ≤ 5039000000 * 1000000 := ⟨Int.mul_nonneg (by omega) n0, Int.mul_le_mul (by omega) (by omega) n0 (by decide)⟩
    refine ⟨.inl (.inl ⟨by decide, by decide⟩), .inl (.inr ⟨by omega, by omega⟩), ⟨by decide, by decide, ?_⟩, by show (0 : Int) < _; decide, ?_⟩
    · show (mm + 5039 * n * n + 43).natAbs < 2 ^ 64
      generalize 5039 * n * n = s at sq
      omega
    show gN 7 (D.int ((mm + 5039 * n * n + 43) ^ (3 : Int).toNat % 2147483563)) _ _ _ _
    generalize hm2 : (mm + 5039 * n * n + 43) ^ (3 : Int).toNat % 2147483563 = m2
    have d1 : 0 ≤ m2 := by rw [← hm2]; exact Int.emod_nonneg _ (by decide)
    have d2 : m2 < 2147483563 := by rw [← hm2]; exact Int.emod_lt_of_pos _ (by decide)
    refine ⟨.inl (.inl ⟨by omega, by omega⟩), by show (0 : Int) < _; decide, wide_div (b := 30) (by decide) (by decide) (by decide) (by decide), by show 0 < lim; omega, ?_⟩
    exact fin _ (Int.ediv_nonneg (Int.emod_nonneg _ (by decide)) (by decide))
end Pu
namespace Pu
open PySem L2 Rb Gm
def restD : D → D
  | .int c => .int (c * if decide (10 ^ 18 ≤ c) = true then 1 else 0)
  | d => d
theorem state_ok {ns : List Int} {Q : QD} {E : ED} (q : ∀ S, Nk S 0 [] → Q (.cell 1) S) : F_law_draws [.kls (ns.map D.int)] [] Q E := by
  unfold F_law_draws
  refine ⟨rfl, ?_⟩
  have e : cutD (ns.map D.int) none (some 63) = (ns.take 63).map D.int := by
    rw [show (63 : Int) = ((63 : Nat) : Int) from rfl, cut_to, List.map_take]
  show (cutD (ns.map D.int) none (some 63)).length ≤ sizeLine ∧ dCompL (st1 2) dYes (dB gAbs (dCons (dVar 2) dNil)) [] (cutD (ns.map D.int) none (some 63)) [] _ [] _
  rw [e]
  refine ⟨szd (by rw [List.length_map, List.length_take]; omega), ?_⟩
  refine comp_map (src := []) (g := fun d => match d with | .int i => .int (absI i) | d => d) (fun _ p => p) _ [] ?_ ?_
  · intro x hx
    obtain ⟨i, _, rfl⟩ := List.mem_map.mp hx
    exact ⟨_, rfl, fun Q q => q⟩
  rw [List.nil_append, List.map_map]
  have ea : (ns.take 63).map ((fun d => match d with | .int i => .int (absI i) | d => d) ∘ D.int) = ((ns.take 63).map absI).map D.int := by
    rw [List.map_map]
    rfl
  rw [ea]
  have al : ((ns.take 63).map absI).length ≤ 63 := by rw [List.length_map, List.length_take]; omega
  have an : ∀ x ∈ (ns.take 63).map absI, 0 ≤ x := fun x hx => by
    obtain ⟨i, _, rfl⟩ := List.mem_map.mp hx
    exact absI_nn i
  have a0 : ns.length ≠ 0 → 1 ≤ ((ns.take 63).map absI).length := fun h => by rw [List.length_map, List.length_take]; omega
  generalize (ns.take 63).map absI = as at al an a0
  refine ⟨szr rfl, eq_int ?_⟩
  have kl : (ns.map D.int).length = ns.length := List.length_map ..
  have fin : ∀ cs : List Int, 1 ≤ cs.length → cs.length ≤ 64 → (∀ x ∈ cs, 0 ≤ x) → (dRet (dLstC (dCons (dVar 1) (dCons (dC (.int 0)) (dCons (dLcC (st1 2) dYes (dBin gMul (dVar 2) (dB gToInt (dCons (dBin gGe (dVar 2) (dBin gPow (dC (.int 10)) (dC (.int 18)))) dNil))) (dItS (dVar 1))) dNil))))) [some (.kls (ns.map D.int)), some (.lst false (cs.map D.int)), none] [] { nx := fun _ S' => Q .non S', rt := Q, bk := fun _ _ => False, ct := fun _ _ => False } noE := fun cs c1 c2 hc => by
    refine ⟨szd (by show (cs.map D.int).length ≤ 100000; rw [List.length_map]; omega), comp_map (src := []) (g := restD) (fun _ p => p) (cs.map D.int) [] (fun x hx => ?_) ⟨szr rfl, ?_⟩⟩
    · obtain ⟨c, hcm, rfl⟩ := List.mem_map.mp hx
      refine ⟨_, rfl, fun Q' q' => ⟨⟨by decide, by decide, by decide⟩, ⟨.inl (.inr ?_), q'⟩⟩⟩
      show -2 ^ 64 < (if decide ((10 : Int) ^ (18 : Int).toNat ≤ c) = true then (1 : Int) else 0) ∧ (if decide ((10 : Int) ^ (18 : Int).toNat ≤ c) = true then (1 : Int) else 0) < 2 ^ 64
      split <;> decide
    · refine q _ ⟨cs, cs.map fun c => c * if decide ((10 : Int) ^ 18 ≤ c) = true then 1 else 0, 0, ?_, c1, c2, by rw [List.length_map], hc, fun x hx => ?_, by decide, by decide⟩
      · show [Cl.lst _, Cl.lst _] = [Cl.lst _, Cl.lst _]
        rw [List.nil_append, List.map_map, List.map_map]
        rfl
      · obtain ⟨c, hcm, rfl⟩ := List.mem_map.mp hx
        have := hc c hcm
        show 0 ≤ c * if decide ((10 : Int) ^ 18 ≤ c) = true then 1 else 0
        split <;> omega
  by_cases z : ns.length = 0
  · have ez : decide (((ns.map D.int).length : Int) = 0) = true := decide_eq_true (by omega)
    rw [ez]
    refine ⟨⟨by decide, by decide, szr rfl⟩, szd (by show (as.map D.int).length + 1 ≤ 100000; rw [List.length_map]; omega), ?_⟩
    have f := fin (as ++ [0]) (by rw [List.length_append]; simp) (by rw [List.length_append]; simp; omega) fun x hx => by
      rcases List.mem_append.mp hx with h | h
      · exact an x h
      · rw [List.mem_singleton.mp h]
        exact Int.le_refl _
    rw [List.map_append] at f
    exact f
  · have ez : decide (((ns.map D.int).length : Int) = 0) = false := decide_eq_false (by omega)
    rw [ez]
    refine ⟨⟨by decide, by decide, szr rfl⟩, szd (by show (as.map D.int).length + 0 ≤ 100000; rw [List.length_map]; omega), ?_⟩
    have f := fin as (a0 z) (by omega) an
    rw [← List.append_nil (as.map D.int)] at f
    exact f
end Pu
namespace Pu
open PySem L2 Rb Gm
theorem Nk.cut {S : Sto} {N : Int} {T : Sto} {c : Cl} (h : Nk S N (T ++ [c])) : ∃ A, S = A ++ [c] ∧ A.length = 2 + T.length ∧ ∀ d, Nk (A ++ [d]) N (T ++ [d]) := by
  obtain ⟨cs, rs, n, rfl, h⟩ := h
  exact ⟨stateS cs rs n ++ T, by rw [List.append_assoc], by rw [List.length_append]; rfl, fun d => ⟨cs, rs, n, by rw [List.append_assoc], h⟩⟩
theorem Nk.len {S : Sto} {N : Int} {T : Sto} (h : Nk S N T) : S.length = 2 + T.length := by
  obtain ⟨cs, rs, n, rfl, _⟩ := h
  rw [List.length_append]
  rfl
theorem Nk.snoc {S : Sto} {N : Int} {T : Sto} (h : Nk S N T) (c : Cl) : Nk (S ++ [c]) N (T ++ [c]) := by
  obtain ⟨cs, rs, n, rfl, h⟩ := h
  exact ⟨cs, rs, n, by rw [List.append_assoc], h⟩
theorem Nk.take2 {S : Sto} {N : Int} {T : Sto} (h : Nk S N T) : Nk (S.take 2) N [] ∧ S.drop 2 = T ∧ (S.take 2).all (Cl.below 2) = true ∧ (S.take 2).length = 2 := by
  obtain ⟨cs, rs, n, rfl, h⟩ := h
  refine ⟨⟨cs, rs, n, rfl, h⟩, rfl, ?_, rfl⟩
  show (belowAll 2 (rs.map D.int) && ((belowAll 2 (cs.map D.int) && (true && (true && true))) && true)) = true
  rw [below_ints, below_ints]
  rfl
theorem Nk.bel {S T : Sto} {N : Int} (h : Nk S N T) : (S.take 2).all (Cl.below 2) = true := h.take2.2.2.1
theorem Nk.app {S T : Sto} {N : Int} (h : Nk S N []) : Nk (S ++ T) N T := by
  obtain ⟨cs, rs, n, rfl, h⟩ := h
  exact ⟨cs, rs, n, by rw [List.append_nil], h⟩
theorem Nk.l2 {S T S1 : Sto} {N : Int} (h : Nk S N T) (l : S1.length = 2) : S1.length = (S.take 2).length := l.trans h.take2.2.2.2.symm
theorem Nk.back {S T S1 : Sto} {N M : Int} (h : Nk S N T) (d : Nk S1 M []) : Nk (S1 ++ S.drop 2) M T := by
  rw [h.take2.2.1]
  exact d.app
theorem ret3 {S S' T : Sto} {N : Int} {d : D} {Q : QD} (hS : S.length = 2) (dk : Nk S' N T) (hb : ∃ d', frz S' 2 d = some d' ∧ ∀ S2, Nk S2 N [] → S2.length = 2 → Q d' S2) :
    ((S'.take S.length).length = S.length ∧ (S'.take S.length).all (Cl.below S.length) = true) ∧ onSome (frz S' S.length d) fun d' => Q d' (S'.take S.length) := by
  rw [hS]
  obtain ⟨d1, d2, d3, d4⟩ := dk.take2
  obtain ⟨d', e, q⟩ := hb
  exact ⟨⟨d4, d3⟩, onS e (q _ d1 d4)⟩
end Pu
namespace Pu
open PySem L2 Rb
structure Gv (k n : Nat) (v : D) : Prop where
  py : ∃ p, toPy v = some p ∧ Rb.Nice k n p
  kn : known v = true
  bl : below 0 v = true
  nx : noX v = true
theorem Gv.isS {k n : Nat} {v : D} (h : Gv k n v) : (toPy v).isSome = true := by
  obtain ⟨p, e, _⟩ := h.py
  rw [e]
  rfl
theorem Gv.mono {k n k' n' : Nat} {v : D} (h : Gv k n v) (h1 : k ≤ k') (h2 : n ≤ n') : Gv k' n' v := by
  obtain ⟨p, e, hp⟩ := h.py
  exact ⟨⟨p, e, hp.mono h1 h2⟩, h.kn, h.bl, h.nx⟩
theorem Gv.rep {k n : Nat} {v : D} {S : Sto} {Q : QD} (h : Gv k n v) (q : Q (.str (shw v)) S) (hk : k ≤ 20 := by decide) (hn : n ≤ 100000 := by decide) : iRepr [v] S Q := by
  obtain ⟨p, e, hp⟩ := h.py
  unfold shw at q
  rw [e] at q
  exact iRepr_of (onS e ⟨⟨hp.mono hk hn, .inr h.kn⟩, q⟩)
theorem gvs_all {k n : Nat} : ∀ {xs : List D}, (∀ x ∈ xs, Gv k n x) → (∃ ps, toPyAll xs = some ps ∧ ps.length = xs.length ∧ ∀ p ∈ ps, Rb.Nice k n p) ∧ knownAll xs = true ∧ belowAll 0 xs = true ∧ noXs xs = true
  | [], _ => ⟨⟨[], rfl, rfl, fun p h => absurd h List.not_mem_nil⟩, rfl, rfl, rfl⟩
  | x :: xs, h => by
    obtain ⟨⟨ps, e, l, hp⟩, a, b, c⟩ := gvs_all (xs := xs) fun y hy => h y (List.mem_cons_of_mem _ hy)
    have hx := h x List.mem_cons_self
    obtain ⟨p, ep, np⟩ := hx.py
    refine ⟨⟨p :: ps, ?_, by rw [List.length_cons, List.length_cons, l], fun y hy => ?_⟩, ?_, ?_, ?_⟩
    · show (toPy x).bind _ = _
      rw [ep, e]
      rfl
    · rcases List.mem_cons.mp hy with rfl | hy
      · exact np
      · exact hp y hy
    · show (known x && knownAll xs) = true
      rw [hx.kn, a]
      rfl
    · show (below 0 x && belowAll 0 xs) = true
      rw [hx.bl, b]
      rfl
    · show (noX x && noXs xs) = true
      rw [hx.nx, c]
      rfl
theorem Gv.tup {k n m : Nat} {xs : List D} (h : ∀ x ∈ xs, Gv k n x) (hm : xs.length * (n + 1) ≤ m) : Gv (k + 1) m (.tup xs) := by
  obtain ⟨⟨ps, e, l, hp⟩, a, b, c⟩ := gvs_all h
  refine ⟨⟨.tuple ps, ?_, Rb.Nice.tup hp (by rw [l]; exact hm)⟩, a, b, c⟩
  show (toPyAll xs).map _ = _
  rw [e]
  rfl
theorem Gv.lst {k n m : Nat} {xs : List D} (h : ∀ x ∈ xs, Gv k n x) (hm : xs.length * (n + 1) ≤ m) : Gv (k + 1) m (.lst true xs) := by
  obtain ⟨⟨ps, e, l, hp⟩, a, b, c⟩ := gvs_all h
  refine ⟨⟨.list ps, ?_, Rb.Nice.lst hp (by rw [l]; exact hm)⟩, a, b, c⟩
  show (toPyAll xs).map _ = _
  rw [e]
  rfl
theorem Gv.int {i : Int} (h : i.natAbs < 10 ^ 99) : Gv 0 0 (.int i) := ⟨⟨_, rfl, Rb.Nice.int h⟩, rfl, rfl, rfl⟩
theorem Gv.ints {ns : List Int} (h : ∀ i ∈ ns, 0 ≤ i ∧ i ≤ 10000000) (l : ns.length ≤ 30) : Gv 1 30 (.tup (ns.map D.int)) := Gv.tup (k := 0) (n := 0) (fun x hx => by
  obtain ⟨i, hi, rfl⟩ := List.mem_map.mp hx
  exact Gv.int (Nat.lt_of_lt_of_le (show i.natAbs < 100000000 by have := h i hi; omega) (by decide))) (by rw [List.length_map]; omega)
theorem pyAll_some : ∀ {xs : List D} {ps : List PyData}, toPyAll xs = some ps → ∀ x ∈ xs, (toPy x).isSome = true
  | [], _, _, x, h => absurd h List.not_mem_nil
  | y :: xs, ps, e, x, h => by
    have e : (toPy y).bind (fun z => (toPyAll xs).map (z :: ·)) = some ps := e
    obtain ⟨z, ez, e⟩ := Option.bind_eq_some_iff.mp e
    obtain ⟨zs, ezs, rfl⟩ := Option.map_eq_some_iff.mp e
    rcases List.mem_cons.mp h with rfl | h
    · rw [ez]; rfl
    · exact pyAll_some ezs x h
theorem tup_some {xs : List D} (h : (toPy (.tup xs)).isSome = true) : ∀ x ∈ xs, (toPy x).isSome = true := by
  obtain ⟨p, e⟩ := Option.isSome_iff_exists.mp h
  obtain ⟨ps, e2, _⟩ := Option.map_eq_some_iff.mp (show (toPyAll xs).map PyData.tuple = some p from e)
  exact pyAll_some e2
def isSt : D → Bool
  | .tup xs => (decide (1 ≤ xs.length) && decide (xs.length ≤ 10)) && xs.all (isNum 0 1000000)
  | _ => false
theorem isstarts_ok {v : D} {S : Sto} {Q : QD} {E : ED} (h : (toPy v).isSome = true) (q : Q (.bl (isSt v)) S) : F_is_starts [v] S Q E := by
  unfold F_is_starts
  refine ⟨rfl, ?_⟩
  cases v with
  | tup xs =>
    have hs := tup_some h
    by_cases c : 1 ≤ xs.length ∧ xs.length ≤ 10
    · have e1 : isSt (.tup xs) = xs.all (isNum 0 1000000) := by
        show ((decide (1 ≤ xs.length) && decide (xs.length ≤ 10)) && _) = _
        rw [decide_eq_true c.1, decide_eq_true c.2]
        rfl
      rw [e1] at q
      refine ifT (b := decide ((1 : Int) ≤ (xs.length : Int))) (decide_eq_true (by omega)) ?_
      refine ifF (b := !decide ((xs.length : Int) ≤ 10)) (by rw [decide_eq_true (by omega)]; rfl) ?_
      refine for_inv (src := []) xs (fun i ρ S' => S' = S ∧ (∃ y, ρ = [some (.tup xs), y]) ∧ ∀ x ∈ xs.take i, isNum 0 1000000 x = true) ⟨rfl, ⟨_, rfl⟩, fun x hx => by rw [List.take_zero] at hx; exact absurd hx List.not_mem_nil⟩ ?_ ?_
      · rintro i x ρ S' K hx hK ⟨rfl, ⟨y, rfl⟩, ht⟩
        refine number_ok (hs x (List.mem_of_getElem? hx)) ?_
        cases hn : isNum 0 1000000 x with
        | false =>
          rw [show xs.all (isNum 0 1000000) = false from List.all_eq_false.mpr ⟨x, List.mem_of_getElem? hx, by rw [hn]; decide⟩] at q
          exact q
        | true =>
          refine hK _ _ ⟨rfl, ⟨_, rfl⟩, fun z hz => ?_⟩
          rw [List.take_add_one, hx] at hz
          rcases List.mem_append.mp hz with h | h
          · exact ht z h
          · rw [List.mem_singleton.mp h]
            exact hn
      · rintro ρ S' ⟨rfl, ⟨y, rfl⟩, ht⟩
        rw [List.take_length] at ht
        rw [show xs.all (isNum 0 1000000) = true from List.all_eq_true.mpr ht] at q
        exact q
    · have e1 : isSt (.tup xs) = false := by
        show ((decide (1 ≤ xs.length) && decide (xs.length ≤ 10)) && _) = _
        rw [show (decide (1 ≤ xs.length) && decide (xs.length ≤ 10)) = false by
          rw [← Bool.decide_and]
          exact decide_eq_false c]
        rfl
      rw [e1] at q
      by_cases d : 1 ≤ xs.length
      · refine ifT (b := decide ((1 : Int) ≤ (xs.length : Int))) (decide_eq_true (by omega)) ?_
        exact ifT (b := !decide ((xs.length : Int) ≤ 10)) (by rw [decide_eq_false (by omega)]; rfl) q
      · exact ifF (b := decide ((1 : Int) ≤ (xs.length : Int))) (decide_eq_false (by omega)) q
  | cell _ => cases h
  | glo _ => cases h
  | ty _ => cases h
  | ins _ _ => cases h
  | exc _ _ => cases h
  | kls _ => cases h
  | _ => exact q
end Pu
namespace Pu
open PySem L2 Rb
theorem nums_intsB : ∀ {xs : List D}, (∀ x ∈ xs, isNum 0 1000000 x = true) → ∃ ns : List Int, xs = ns.map D.int ∧ ∀ i ∈ ns, 0 ≤ i ∧ i ≤ 1000000
  | [], _ => ⟨[], rfl, fun i h => absurd h List.not_mem_nil⟩
  | x :: xs, c => by
    obtain ⟨ns, rfl, hn⟩ := nums_intsB (xs := xs) fun y hy => c y (List.mem_cons_of_mem _ hy)
    have hx := c x List.mem_cons_self
    cases x with
    | int i =>
      have hx : (decide (0 ≤ i) && decide (i ≤ 1000000)) = true := hx
      rw [Bool.and_eq_true] at hx
      refine ⟨i :: ns, rfl, fun j hj => ?_⟩
      rcases List.mem_cons.mp hj with rfl | hj
      · exact ⟨of_decide_eq_true hx.1, of_decide_eq_true hx.2⟩
      · exact hn j hj
    | _ => cases hx
theorem isSt_ints {v : D} (h : isSt v = true) : ∃ ns : List Int, v = .tup (ns.map D.int) ∧ 1 ≤ ns.length ∧ ns.length ≤ 10 ∧ ∀ i ∈ ns, 0 ≤ i ∧ i ≤ 1000000 := by
  cases v with
  | tup xs =>
    have h : ((decide (1 ≤ xs.length) && decide (xs.length ≤ 10)) && xs.all (isNum 0 1000000)) = true := h
    rw [Bool.and_eq_true, Bool.and_eq_true] at h
    obtain ⟨⟨a, b⟩, c⟩ := h
    have a := of_decide_eq_true a
    have b := of_decide_eq_true b
    have c := List.all_eq_true.mp c
    have this := nums_intsB c
    obtain ⟨ns, rfl, hn⟩ := this
    rw [List.length_map] at a b
    exact ⟨ns, rfl, a, b, hn⟩
  | _ => cases h
theorem isSt_of {ns : List Int} (a : 1 ≤ ns.length) (b : ns.length ≤ 10) (c : ∀ i ∈ ns, 0 ≤ i ∧ i ≤ 1000000) : isSt (.tup (ns.map D.int)) = true := by
  show ((decide (1 ≤ (ns.map D.int).length) && decide ((ns.map D.int).length ≤ 10)) && (ns.map D.int).all (isNum 0 1000000)) = true
  rw [List.length_map, decide_eq_true a, decide_eq_true b]
  refine List.all_eq_true.mpr fun x hx => ?_
  obtain ⟨i, hi, rfl⟩ := List.mem_map.mp hx
  show (decide (0 ≤ i) && decide (i ≤ 1000000)) = true
  rw [decide_eq_true (c i hi).1, decide_eq_true (c i hi).2]
  rfl
def ptyF (ns : List Int) : List (Str × D) := [("given", .tup (ns.map D.int)), ("ordered", .tup ((srt ns).map D.int))]
theorem party_init {v : D} {S : Sto} {k : Nat} {Q : QD} {E : ED} (hv : (toPy v).isSome = true) (hk : S[k]? = some (.ins "Party" [])) (q1 : ∀ ns, v = .tup (ns.map D.int) → isSt v = true → Q .non (S.set k (.ins "Party" (ptyF ns)))) (q2 : isSt v = false → E ("BadStarts", [("value", v)]) S) : F_Party_init [.cell k, v] S Q E := by
  unfold F_Party_init
  refine ⟨rfl, isstarts_ok hv ?_⟩
  cases h : isSt v with
  | false => exact q2 h
  | true =>
    obtain ⟨ns, rfl, _, _, _⟩ := isSt_ints h
    have kl : k < S.length := (List.getElem?_eq_some_iff.mp hk).1
    have ci : cellIns S (.cell k) = some (k, ("Party" : Str), ([] : List (Str × D))) := by
      show (insAt S[k]?).map _ = _
      rw [hk]
      rfl
    refine onS ci ⟨⟨rfl, by show 0 ≤ 500; decide⟩, ?_⟩
    refine onS (intsOf_map ns) ?_
    have ci2 : cellIns (S.set k (.ins "Party" [("given", .tup (ns.map D.int))])) (.cell k) = some (k, ("Party" : Str), ([("given", .tup (ns.map D.int))] : List (Str × D))) := by
      show (insAt (S.set k (.ins "Party" [("given", .tup (ns.map D.int))]))[k]?).map _ = _
      rw [List.getElem?_set_self kl]
      rfl
    refine onS ci2 ⟨⟨rfl, by show 1 ≤ 500; decide⟩, ?_⟩
    have := q1 ns rfl h
    show Q .non ((S.set k (.ins "Party" [("given", .tup (ns.map D.int))])).set k (.ins "Party" (ptyF ns)))
    rw [List.set_set]
    exact this
theorem ins_cell {S : Sto} {k : Nat} {x : Str} {fs : List (Str × D)} (h : S[k]? = some (.ins x fs)) : insOf S (.cell k) = some (x, fs) := by
  show insAt S[k]? = _
  rw [h]
  rfl
theorem starts_ok27 {ns : List Int} {S : Sto} {k : Nat} {Q : QD} {E : ED} (hk : S[k]? = some (.ins "Party" (ptyF ns))) (q : Q (.tup (ns.map D.int)) S) : F_Party_starts [.cell k] S Q E := by
  unfold F_Party_starts
  exact ⟨rfl, onS (ins_cell hk) ⟨rfl, q⟩⟩
end Pu
namespace Pu
open PySem L2 Rb
def oddQ : List D := [.non, .bl true, .bl false, .int (-1), .int 0, .int 1, .int (10 ^ (39 : Int).toNat), .str "", .str "0", .tup [], .lst true [], .dic [], .tup [.int 0], .lst true [.int 0], .tup [.int 1, .bl true], .tup [.tup [.int 1]], .tup [.int 2, .int (-1)]]
theorem gv_dec {v : D} {p : PyData} (e : toPy v = some p) (h : (p.showable && p.leavesShort 100 && decide (p.depth ≤ 2) && decide (p.bulk ≤ 20) && known v && below 0 v && noX v) = true) : Gv 2 20 v := by
  simp only [Bool.and_eq_true, decide_eq_true_eq] at h
  obtain ⟨⟨⟨⟨⟨⟨a, b⟩, c⟩, d⟩, f⟩, g⟩, i⟩ := h
  exact ⟨⟨p, e, ⟨a, b, c, d⟩⟩, f, g, i⟩
theorem oddQ_gv : ∀ d ∈ oddQ, Gv 2 20 d := by
  intro d hd
  unfold oddQ at hd
  simp only [List.mem_cons, List.not_mem_nil, or_false] at hd
  rcases hd with rfl | rfl | rfl | rfl | rfl | rfl | rfl | rfl | rfl | rfl | rfl | rfl | rfl | rfl | rfl | rfl | rfl <;> exact gv_dec rfl (by decide +kernel)
theorem odd27_ok {S T : Sto} {N : Int} {Q : QD} {E : ED} (h : Nk S N T) (hN : N ≤ 900000) (q : ∀ d S', Gv 2 20 d → Nk S' (N + 1) T → Q d S') : F_law_odd_2 [.cell 1] S Q E := by
  unfold F_law_odd_2
  refine ⟨rfl, ⟨by decide, by decide, by decide⟩, szr rfl, szr rfl, szr rfl, szr rfl, szr rfl, szr rfl, szr rfl, szr rfl, szr rfl, ?_⟩
  refine next_ok h (by omega) (by decide) (by decide) fun r S' r0 r1 d1 => ?_
  obtain ⟨d, e, hd⟩ := atI_mem (xs := oddQ) r0 r1
  exact onS e (q d S' (oddQ_gv d hd) d1)
theorem starts5_ok {S : Sto} {N : Int} {Q : QD} {E : ED} (h : Nk S N []) (hN : N ≤ 800000)
    (q : ∀ starts S', 1 ≤ starts.length → starts.length ≤ 10 → (∀ s ∈ starts, 0 ≤ s ∧ s ≤ 1000000) → Nk S' (N + 50) [] → S'.length = 2 → Q (tkD starts) S') : F_law_starts_5 [.cell 1, .int 10] S Q E := by
  unfold F_law_starts_5
  have hS : S.length = 2 := h.len
  refine ⟨rfl, ⟨by decide, by decide, by decide⟩, szr rfl, next_ok h (by omega) (by decide) (by decide) fun rb Sb b0 b1 db => ?_⟩
  obtain ⟨t, et, ct⟩ := pick3i (x := 2) (y := 30) (z := 10 ^ (6 : Int).toNat + 1) b0 b1
  have t1 : 2 ≤ t ∧ t ≤ 1000001 := by
    have e6 : (10 : Int) ^ (6 : Int).toNat = 1000000 := by decide
    rw [e6] at ct
    omega
  have hSb : Sb.length = 2 := db.len
  refine onS et ⟨szr rfl, ?_⟩
  show F_law_next [.cell 1, .int 10] (Sb ++ [.lst []]) _ _
  rw [show (Cl.lst ([] : List D)) = Cl.lst (([] : List Int).map D.int) from rfl]
  refine next_ok (db.snoc _) (by omega) (by decide) (by decide) fun r S1 r0 r1 d1 => ⟨⟨by omega, by omega⟩, ?_⟩
  rw [hSb]
  refine for_rng 0 (1 + r).toNat (fun i ρ S' => ∃ (fs : List Int) (y4 : Option D), ρ = [some (.cell 1), some (.int 10), some (.int t), some (.cell 2), y4] ∧ fs.length = i ∧ (∀ s ∈ fs, 0 ≤ s ∧ s ≤ 1000000) ∧ Nk S' (N + 2 + 2 * i) [.lst (fs.map D.int)]) ?_ ?_ ?_
  · exact ⟨[], none, rfl, rfl, (fun _ z => nomatch z), d1.le (by omega)⟩
  · rintro i ρ S' K hi hK ⟨fs, y4, rfl, fl, hf, dk⟩
    obtain ⟨A, rfl, Al, dset⟩ := dk.cut (T := [])
    have Al : A.length = 2 := Al
    refine onS (cell_at2 Al) (next_ok dk (by omega) (by omega) (by omega) fun x S2 x0 x1 d2 => ⟨szr rfl, ?_⟩)
    refine next_ok d2 (by omega) (by decide) (by decide) fun y S4 y0 y1 d4 => ?_
    have m1 : 0 ≤ y % 5 % 3 := Int.emod_nonneg _ (by decide)
    have m2 : y % 5 % 3 < 3 := Int.emod_lt_of_pos _ (by decide)
    obtain ⟨z, ez, cz⟩ := pick3i (x := x) (y := 0) (z := t - 1) m1 m2
    refine ⟨by show (0 : Int) < 5; decide, by show (0 : Int) < 3; decide, onS ez ?_⟩
    obtain ⟨A4, rfl, Al4, dset4⟩ := d4.cut (T := [])
    have Al4 : A4.length = 2 := Al4
    refine onS (cell_at2 Al4) ⟨szd (by show (fs.map D.int).length < 100000; rw [List.length_map]; omega), ?_⟩
    have ee : fs.map D.int ++ [D.int z] = (fs ++ [z]).map D.int := by rw [List.map_append]; rfl
    refine hK _ _ ⟨fs ++ [z], _, rfl, by rw [List.length_append, fl]; rfl, fun s hs => ?_, ?_⟩
    · rcases List.mem_append.mp hs with w | w
      · exact hf s w
      · rw [List.mem_singleton.mp w]
        omega
    · show Nk ((A4 ++ [Cl.lst (fs.map D.int)]).set 2 (Cl.lst (fs.map D.int ++ [D.int z]))) _ _
      rw [set_at2 Al4, ee]
      exact (dset4 _).le (by omega)
  · rintro ρ S' ⟨fs, y4, rfl, fl, hf, dk⟩
    obtain ⟨A, rfl, Al, dset⟩ := dk.cut (T := [])
    have Al : A.length = 2 := Al
    refine onS (seq_at2 Al) ?_
    have := ret3 (S := S) (Q := Q) (d := tkD fs) hS dk ⟨_, frz_below (fun k z => nomatch z) (below_ints fs), fun S2 d2 l2 => q fs S2 (by omega) (by omega) hf (d2.le (by omega)) l2⟩
    rw [hS] at this ⊢
    exact this
end Pu
namespace Pu
open PySem L2 Rb Gm
/-! ## parties, races, trips: what their defs give -/
/-- starts as a party takes them -/
structure Sts (ns : List Int) : Prop where
  n1 : 1 ≤ ns.length
  n2 : ns.length ≤ 10
  sb : ∀ s ∈ ns, 0 ≤ s ∧ s ≤ 1000000
theorem Sts.nn {ns : List Int} (h : Sts ns) : ∀ s ∈ ns, 0 ≤ s := fun s hs => (h.sb s hs).1
theorem Sts.py {ns : List Int} : (toPy (.tup (ns.map D.int))).isSome = true := by
  show ((toPyAll (ns.map D.int)).map PyData.tuple).isSome = true
  rw [py_ints]
  rfl
end Pu
namespace Pu
open PySem L2 Rb Gm
/-- what a trip holds -/
def verV (wk rd : Int) (bs ns : List Int) : D := .tup [roadV wk rd bs, .tup (ns.map D.int), .int (lfin wk rd bs ns)]
def trpF (done vs : List D) : List (Str × D) := [("done", .tup done), ("versions", .tup vs), ("watched", .bl false)]
def rcF (wk rd : Int) (bs : List Int) (b : D) : List (Str × D) := [("course", roadV wk rd bs), ("least", b)]
def obD : Option Int → D
  | none => .non
  | some x => .int x
section
variable {S : Sto} {k j : Nat} {Q : QD} {E : ED} {ns ms : List Int} {wk rd : Int} {bs : List Int}
section
variable {done : List D} {vs : List D} {v1 v2 v3 : D}
theorem tr_finish (hk : S[k]? = some (.ins "Trip" (trpF done (vs ++ [.tup [v1, v2, v3]])))) (q : Q v3 S) : F_Trip_finish [.cell k] S Q E := by
  unfold F_Trip_finish
  refine ⟨rfl, onS (ins_cell hk) ⟨rfl, onS (a := .tup (vs ++ [.tup [v1, v2, v3]])) rfl ?_⟩⟩
  show onSome (atI (vs ++ [.tup [v1, v2, v3]]) (-1)) _
  exact onS (atI_last _ _) q
end
end
end Pu
namespace Pu
open PySem L2 Rb Gm
/-! ### cells behind the deck -/
section
variable {S T : Sto} {N : Int}
theorem Dk.get (h : Dk S N T) {j : Nat} {c : Cl} (e : T[j]? = some c) : S[2 + j]? = some c := by
  obtain ⟨cs, n, rfl, _⟩ := h
  show (deckS cs n ++ T)[2 + j]? = _
  rw [List.getElem?_append_right (by show (deckS cs n).length ≤ 2 + j; exact Nat.le_add_right _ _)]
  show T[2 + j - 2]? = _
  rw [Nat.add_sub_cancel_left]
  exact e
end
end Pu
namespace Pu
open PySem L2 Rb Gm
/-- all cells stand as before, but perhaps kr; there may be more -/
structure Ev (kr : Nat) (S S' : Sto) : Prop where
  le : S.length ≤ S'.length
  at_ : ∀ i, i < S.length → i ≠ kr → S'[i]? = S[i]?
section
variable {kr k : Nat} {S S' S2 T T' : Sto} {N N' : Int} {c : Cl}
theorem Ev.refl : Ev kr S S := ⟨Nat.le_refl _, fun _ _ _ => rfl⟩
theorem Ev.trans (a : Ev kr S S') (b : Ev kr S' S2) : Ev kr S S2 := ⟨Nat.le_trans a.le b.le, fun i hi h => (b.at_ i (Nat.lt_of_lt_of_le hi a.le) h).trans (a.at_ i hi h)⟩
theorem Ev.app : Ev kr S (S ++ [c]) := ⟨by rw [List.length_append]; omega, fun i hi _ => List.getElem?_append_left hi⟩
theorem Ev.set : Ev kr S (S.set kr c) := ⟨by rw [List.length_set]; exact Nat.le_refl _, fun i _ h => List.getElem?_set_ne (Ne.symm h)⟩
theorem Ev.get (e : Ev kr S S') (h : S[k]? = some c) (n : k ≠ kr) : S'[k]? = some c := (e.at_ k (List.getElem?_eq_some_iff.mp h).1 n).trans h
theorem Dk.any (h : Dk S N T) {k : Nat} (hk : 2 ≤ k) : S[k]? = T[k - 2]? := by
  obtain ⟨cs, n, rfl, _⟩ := h
  show (deckS cs n ++ T)[k]? = _
  rw [List.getElem?_append_right (show (deckS cs n).length ≤ k from hk)]
  rfl
theorem Dk.same (h : Dk S N T) (h' : Dk S' N' T) (hk : 2 ≤ k) (e : S[k]? = some c) : S'[k]? = some c := by rw [h'.any hk, ← h.any hk, e]
end
section
variable {S : Sto} {kt kp kr : Nat} {wk rd : Int} {bs ns : List Int} {a0 a2 a8 a9 a10 a11 a12 : Option D}
/-- the three objects of a turn -/
structure Obj3 (S : Sto) (kt kp kr : Nat) (wk rd : Int) (bs ns : List Int) (b : Option Int) : Prop where
  R : RoadOk wk rd bs
  st : Sts ns
  tr : S[kt]? = some (.ins "Trip" (trpF [] [verV wk rd bs ns]))
  pt : S[kp]? = some (.ins "Party" (ptyF ns))
  rc : S[kr]? = some (.ins "Race" (rcF wk rd bs (obD b)))
  n1 : kt ≠ kr
  n2 : kp ≠ kr
theorem Obj3.fin {Q : QD} {E : ED} {b : Option Int} (o : Obj3 S kt kp kr wk rd bs ns b) (q : Q (.int (lfin wk rd bs ns)) S) : F_Trip_finish [.cell kt] S Q E := tr_finish (vs := []) (v1 := roadV wk rd bs) (v2 := .tup (ns.map D.int)) (v3 := .int (lfin wk rd bs ns)) o.tr q
end
end Pu
namespace Pu
open PySem L2 Rb Gm
/-! ## the draws of k18 to k23: cells of any sign -/
def Mk (S : Sto) (N : Int) (T : Sto) : Prop := ∃ cs rs n, S = stateS cs rs n ++ T ∧ 1 ≤ cs.length ∧ cs.length ≤ 64 ∧ rs.length = cs.length ∧ (∀ x ∈ rs, 0 ≤ x) ∧ 0 ≤ n ∧ n ≤ N
theorem Mk.le {S : Sto} {N M : Int} {T : Sto} (h : Mk S N T) (e : N ≤ M) : Mk S M T := by
  obtain ⟨cs, rs, n, h1, h2, h3, h4, h6, h7, h8⟩ := h
  exact ⟨cs, rs, n, h1, h2, h3, h4, h6, h7, by omega⟩
theorem Mk.cut {S : Sto} {N : Int} {T : Sto} {c : Cl} (h : Mk S N (T ++ [c])) : ∃ A, S = A ++ [c] ∧ A.length = 2 + T.length ∧ ∀ d, Mk (A ++ [d]) N (T ++ [d]) := by
  obtain ⟨cs, rs, n, rfl, h⟩ := h
  exact ⟨stateS cs rs n ++ T, by rw [List.append_assoc], by rw [List.length_append]; rfl, fun d => ⟨cs, rs, n, by rw [List.append_assoc], h⟩⟩
theorem Mk.len {S : Sto} {N : Int} {T : Sto} (h : Mk S N T) : S.length = 2 + T.length := by
  obtain ⟨cs, rs, n, rfl, _⟩ := h
  rw [List.length_append]
  rfl
theorem Mk.snoc {S : Sto} {N : Int} {T : Sto} (h : Mk S N T) (c : Cl) : Mk (S ++ [c]) N (T ++ [c]) := by
  obtain ⟨cs, rs, n, rfl, h⟩ := h
  exact ⟨cs, rs, n, by rw [List.append_assoc], h⟩
theorem Mk.take2 {S : Sto} {N : Int} {T : Sto} (h : Mk S N T) : Mk (S.take 2) N [] ∧ S.drop 2 = T ∧ (S.take 2).all (Cl.below 2) = true ∧ (S.take 2).length = 2 := by
  obtain ⟨cs, rs, n, rfl, h⟩ := h
  refine ⟨⟨cs, rs, n, rfl, h⟩, rfl, ?_, rfl⟩
  show (belowAll 2 (rs.map D.int) && ((belowAll 2 (cs.map D.int) && (true && (true && true))) && true)) = true
  rw [below_ints, below_ints]
  rfl
theorem Mk.bel {S T : Sto} {N : Int} (h : Mk S N T) : (S.take 2).all (Cl.below 2) = true := h.take2.2.2.1
theorem Mk.app {S T : Sto} {N : Int} (h : Mk S N []) : Mk (S ++ T) N T := by
  obtain ⟨cs, rs, n, rfl, h⟩ := h
  exact ⟨cs, rs, n, by rw [List.append_nil], h⟩
theorem Mk.l2 {S T S1 : Sto} {N : Int} (h : Mk S N T) (l : S1.length = 2) : S1.length = (S.take 2).length := l.trans h.take2.2.2.2.symm
theorem Mk.back {S T S1 : Sto} {N M : Int} (h : Mk S N T) (d : Mk S1 M []) : Mk (S1 ++ S.drop 2) M T := by
  rw [h.take2.2.1]
  exact d.app
end Pu
namespace Pu
open PySem L2 Rb Gm
/-! ## the laws' own finish -/
/-! ## more bicycles at a station -/
def plM (bs : List Int) (j : Nat) (m : Int) : List Int := bs.take j ++ [bs.getD j 0 + m] ++ bs.drop (j + 1)
theorem plM_len {bs : List Int} {j : Nat} {m : Int} (h : j < bs.length) : (plM bs j m).length = bs.length := by
  unfold plM
  rw [List.length_append, List.length_append, List.length_take, List.length_drop, List.length_singleton]
  omega
/-! ## the least number -/
structure FewOk (f : Nat → Int) (e : Int) (n : Nat) (d : D) : Prop where
  w : (d = .non ∧ ∀ m : Nat, m ≤ n → e < f m) ∨ ∃ m : Nat, m ≤ n ∧ d = .int (m : Int) ∧ f m ≤ e ∧ ∀ k : Nat, k < m → e < f k
theorem FewOk.rep {f : Nat → Int} {e : Int} {n : Nat} {d : D} (h : FewOk f e n d) (hn : n ≤ 100) : Rep 0 0 d := by
  rcases h.w with ⟨rfl, a⟩ | ⟨m, m1, rfl, m2, m3⟩
  · exact Rep.non
  · exact Rep.int (by omega) (by omega)
end Pu
namespace Pu
open PySem L2 Rb Gm
/-! ## trips of either kind: a model -/
structure Vn where
  wk : Int
  rd : Int
  bs : List Int
  ns : List Int
structure VnOk (v : Vn) : Prop where
  R : RoadOk v.wk v.rd v.bs
  st : Sts v.ns
def Vn.rv (v : Vn) : D := roadV v.wk v.rd v.bs
def Vn.sv (v : Vn) : D := .tup (v.ns.map D.int)
def Vn.fin (v : Vn) : Int := lfin v.wk v.rd v.bs v.ns
def Vn.d (v : Vn) : D := .tup [v.rv, v.sv, .int v.fin]
inductive TKd where
  | plain
  | prom (L : Int)
def TKd.c : TKd → Str
  | .plain => "Trip"
  | .prom _ => "PromisedTrip"
def TKd.ex : TKd → List (Str × D)
  | .plain => []
  | .prom L => [("promised", .int L)]
def tF (t : TKd) (done vs : List D) (w : Bool) : List (Str × D) := ("done", .tup done) :: ("versions", .tup vs) :: ("watched", .bl w) :: t.ex
def tripC (t : TKd) (done vs : List D) (w : Bool) : Cl := .ins t.c (tF t done vs w)
/-! ### edits of any values -/
inductive Edt where
  | come (a : D)
  | leave (a : D)
  | place (a b : D)
  | take (a b : D)
def Edt.d : Edt → D
  | .come a => .tup [.str "come", a]
  | .leave a => .tup [.str "leave", a]
  | .place a b => .tup [.str "place", a, b]
  | .take a b => .tup [.str "take", a, b]
def Edt.Py : Edt → Prop
  | .come a => (toPy a).isSome = true
  | .leave a => (toPy a).isSome = true
  | .place a b => (toPy a).isSome = true ∧ (toPy b).isSome = true
  | .take a b => (toPy a).isSome = true ∧ (toPy b).isSome = true
def numIn (lo hi : Int) : D → Option Int
  | .int i => if isNum lo hi (.int i) = true then some i else none
  | _ => none
theorem numIn_none {lo hi : Int} {d : D} (h : isNum lo hi d = false) : numIn lo hi d = none := by
  cases d with
  | int i => exact if_neg (by rw [h]; decide)
  | _ => rfl
theorem numIn_some {lo hi : Int} {d : D} (h : isNum lo hi d = true) : ∃ i, d = .int i ∧ lo ≤ i ∧ i ≤ hi ∧ numIn lo hi d = some i := by
  cases d with
  | int i =>
    have h2 : (decide (lo ≤ i) && decide (i ≤ hi)) = true := h
    rw [Bool.and_eq_true] at h2
    exact ⟨i, rfl, of_decide_eq_true h2.1, of_decide_eq_true h2.2, if_pos h⟩
  | _ => cases h
theorem numIn_int {lo hi i : Int} (h1 : lo ≤ i) (h2 : i ≤ hi) : numIn lo hi (.int i) = some i := by
  refine if_pos ?_
  show (decide (lo ≤ i) && decide (i ≤ hi)) = true
  rw [decide_eq_true h1, decide_eq_true h2]
  rfl
def Edt.app : Edt → Vn → Except Er Vn
  | .come a, v => match numIn 0 1000000 a with
    | none => .error ("BadStart", [("value", a)])
    | some s => if 10 ≤ v.ns.length then .error ("TooManyPeople", []) else .ok { v with ns := v.ns ++ [s] }
  | .leave a, v => match numIn 0 ((v.ns.length : Int) - 1) a with
    | none => .error ("NoPerson", [("value", a)])
    | some p => if v.ns.length = 1 then .error ("LastPerson", []) else .ok { v with ns := v.ns.take p.toNat ++ v.ns.drop (p.toNat + 1) }
  | .place a b, v => match numIn 0 ((v.bs.length : Int) - 1) a with
    | none => .error ("NoStation", [("value", a)])
    | some x => match numIn 1 12 b with
      | none => .error ("BadCount", [("value", b)])
      | some n => if 12 < v.bs.getD x.toNat 0 + n then .error ("TooMuch", [("total", .int (v.bs.getD x.toNat 0 + n))]) else .ok { v with bs := plM v.bs x.toNat n }
  | .take a b, v => match numIn 0 ((v.bs.length : Int) - 1) a with
    | none => .error ("NoStation", [("value", a)])
    | some x => match numIn 1 12 b with
      | none => .error ("BadCount", [("value", b)])
      | some n => if v.bs.getD x.toNat 0 < n then .error ("TooFew", [("present", .int (v.bs.getD x.toNat 0))]) else .ok { v with bs := plM v.bs x.toNat (-n) }
section
variable {S : Sto} {Q : QD} {E : ED} {v : Vn}
theorem app_come {a : D} : (Edt.come a).app v = match numIn 0 1000000 a with
    | none => .error ("BadStart", [("value", a)])
    | some s => if 10 ≤ v.ns.length then .error ("TooManyPeople", []) else .ok { v with ns := v.ns ++ [s] } := rfl
theorem app_leave {a : D} : (Edt.leave a).app v = match numIn 0 ((v.ns.length : Int) - 1) a with
    | none => .error ("NoPerson", [("value", a)])
    | some p => if v.ns.length = 1 then .error ("LastPerson", []) else .ok { v with ns := v.ns.take p.toNat ++ v.ns.drop (p.toNat + 1) } := rfl
theorem app_place {a b : D} : (Edt.place a b).app v = match numIn 0 ((v.bs.length : Int) - 1) a with
    | none => .error ("NoStation", [("value", a)])
    | some x => match numIn 1 12 b with
      | none => .error ("BadCount", [("value", b)])
      | some n => if 12 < v.bs.getD x.toNat 0 + n then .error ("TooMuch", [("total", .int (v.bs.getD x.toNat 0 + n))]) else .ok { v with bs := plM v.bs x.toNat n } := rfl
theorem app_take {a b : D} : (Edt.take a b).app v = match numIn 0 ((v.bs.length : Int) - 1) a with
    | none => .error ("NoStation", [("value", a)])
    | some x => match numIn 1 12 b with
      | none => .error ("BadCount", [("value", b)])
      | some n => if v.bs.getD x.toNat 0 < n then .error ("TooFew", [("present", .int (v.bs.getD x.toNat 0))]) else .ok { v with bs := plM v.bs x.toNat (-n) } := rfl
end
/-- an edit keeps what a version must be -/
theorem plM_bd {bs : List Int} {j : Nat} {m : Int} (hb : ∀ b ∈ bs, 0 ≤ b ∧ b ≤ 12) (hj : j < bs.length) (h0 : 0 ≤ bs.getD j 0 + m) (h1 : bs.getD j 0 + m ≤ 12) : ∀ b ∈ plM bs j m, 0 ≤ b ∧ b ≤ 12 := fun b h => by
  unfold plM at h
  rcases List.mem_append.mp h with h | h
  · rcases List.mem_append.mp h with h | h
    · exact hb b (List.mem_of_mem_take h)
    · rw [List.mem_singleton.mp h]
      exact ⟨h0, h1⟩
  · exact hb b (List.mem_of_mem_drop h)
theorem getD_mem' {bs : List Int} {j : Nat} (hj : j < bs.length) : bs.getD j 0 ∈ bs := by
  rw [List.getD_eq_getElem?_getD, List.getElem?_eq_getElem hj]
  exact List.getElem_mem hj
theorem app_ok {e : Edt} {v v' : Vn} (ok : VnOk v) (h : e.app v = .ok v') : VnOk v' := by
  obtain ⟨wk, rd, bs, ns⟩ := v
  obtain ⟨R, st⟩ := ok
  dsimp only at R st
  have hl := st.n2
  have hl1 := st.n1
  cases e with
  | come a =>
    cases hn : numIn 0 1000000 a with
    | none =>
      unfold Edt.app at h
      dsimp only at h
      rw [hn] at h
      cases h
    | some s =>
      unfold Edt.app at h
      dsimp only at h
      rw [hn] at h
      dsimp only at h
      split at h
      · cases h
      · rename_i c
        cases h
        refine ⟨R, ?_, ?_, fun x hx => ?_⟩
        · show 1 ≤ (ns ++ [s]).length
          rw [List.length_append]; omega
        · show (ns ++ [s]).length ≤ 10
          rw [List.length_append, List.length_singleton]; omega
        · rcases List.mem_append.mp hx with z | z
          · exact st.sb x z
          · rw [List.mem_singleton.mp z]
            have : isNum 0 1000000 a = true := by
              cases hh : isNum 0 1000000 a with
              | true => rfl
              | false => rw [numIn_none hh] at hn; cases hn
            obtain ⟨i, rfl, i0, i1, e⟩ := numIn_some this
            rw [e] at hn
            cases hn
            exact ⟨i0, i1⟩
  | leave a =>
    cases hn : numIn 0 ((ns.length : Int) - 1) a with
    | none =>
      unfold Edt.app at h
      dsimp only at h
      rw [hn] at h
      cases h
    | some s =>
      unfold Edt.app at h
      dsimp only at h
      rw [hn] at h
      dsimp only at h
      split at h
      · cases h
      · rename_i c
        cases h
        have : isNum 0 ((ns.length : Int) - 1) a = true := by
          cases hh : isNum 0 ((ns.length : Int) - 1) a with
          | true => rfl
          | false => rw [numIn_none hh] at hn; cases hn
        obtain ⟨i, rfl, i0, i1, e⟩ := numIn_some this
        rw [e] at hn
        cases hn
        refine ⟨R, ?_, ?_, fun x hx => ?_⟩
        · show 1 ≤ (ns.take s.toNat ++ ns.drop (s.toNat + 1)).length
          rw [List.length_append, List.length_take, List.length_drop]; omega
        · show (ns.take s.toNat ++ ns.drop (s.toNat + 1)).length ≤ 10
          rw [List.length_append, List.length_take, List.length_drop]; omega
        · rcases List.mem_append.mp hx with z | z
          · exact st.sb x (List.mem_of_mem_take z)
          · exact st.sb x (List.mem_of_mem_drop z)
  | place a b =>
    cases hn : numIn 0 ((bs.length : Int) - 1) a with
    | none =>
      unfold Edt.app at h
      dsimp only at h
      rw [hn] at h
      cases h
    | some x =>
      cases hn2 : numIn 1 12 b with
      | none =>
        unfold Edt.app at h
        dsimp only at h
        rw [hn] at h
        dsimp only at h
        rw [hn2] at h
        cases h
      | some n =>
        unfold Edt.app at h
        dsimp only at h
        rw [hn] at h
        dsimp only at h
        rw [hn2] at h
        dsimp only at h
        split at h
        · cases h
        · rename_i c
          cases h
          have b1 : isNum 0 ((bs.length : Int) - 1) a = true := by
            cases hh : isNum 0 ((bs.length : Int) - 1) a with
            | true => rfl
            | false => rw [numIn_none hh] at hn; cases hn
          obtain ⟨i, rfl, i0, i1, e⟩ := numIn_some b1
          rw [e] at hn
          cases hn
          have b2 : isNum 1 12 b = true := by
            cases hh : isNum 1 12 b with
            | true => rfl
            | false => rw [numIn_none hh] at hn2; cases hn2
          obtain ⟨i2, rfl, j0, j1, e2⟩ := numIn_some b2
          rw [e2] at hn2
          cases hn2
          have hx : x.toNat < bs.length := by omega
          have hb := R.hb _ (getD_mem' hx)
          exact ⟨⟨R.rd1, R.lt, R.w2, by show 1 ≤ (plM bs x.toNat n).length; rw [plM_len hx]; exact R.l1, by show (plM bs x.toNat n).length ≤ 12; rw [plM_len hx]; exact R.l2, plM_bd R.hb hx (by omega) (by omega)⟩, st⟩
  | take a b =>
    cases hn : numIn 0 ((bs.length : Int) - 1) a with
    | none =>
      unfold Edt.app at h
      dsimp only at h
      rw [hn] at h
      cases h
    | some x =>
      cases hn2 : numIn 1 12 b with
      | none =>
        unfold Edt.app at h
        dsimp only at h
        rw [hn] at h
        dsimp only at h
        rw [hn2] at h
        cases h
      | some n =>
        unfold Edt.app at h
        dsimp only at h
        rw [hn] at h
        dsimp only at h
        rw [hn2] at h
        dsimp only at h
        split at h
        · cases h
        · rename_i c
          cases h
          have b1 : isNum 0 ((bs.length : Int) - 1) a = true := by
            cases hh : isNum 0 ((bs.length : Int) - 1) a with
            | true => rfl
            | false => rw [numIn_none hh] at hn; cases hn
          obtain ⟨i, rfl, i0, i1, e⟩ := numIn_some b1
          rw [e] at hn
          cases hn
          have b2 : isNum 1 12 b = true := by
            cases hh : isNum 1 12 b with
            | true => rfl
            | false => rw [numIn_none hh] at hn2; cases hn2
          obtain ⟨i2, rfl, j0, j1, e2⟩ := numIn_some b2
          rw [e2] at hn2
          cases hn2
          have hx : x.toNat < bs.length := by omega
          have hb := R.hb _ (getD_mem' hx)
          exact ⟨⟨R.rd1, R.lt, R.w2, by show 1 ≤ (plM bs x.toNat (-n)).length; rw [plM_len hx]; exact R.l1, by show (plM bs x.toNat (-n)).length ≤ 12; rw [plM_len hx]; exact R.l2, plM_bd R.hb hx (by omega) (by omega)⟩, st⟩
end Pu
namespace Pu
open PySem L2 Rb Gm
/-! ## a new trip, what it tells -/
def itx (i : Int) : Str := Str.ofString (toString i)
end Pu
namespace Pu
open PySem L2 Rb Gm TL
/-! ## the text of a trip -/
section
variable {S : Sto} {k : Nat} {Q : QD} {E : ED} {v : Vn} {t : TKd} {done vs : List D} {w : Bool}
theorem str_len (a b : Str) : (a ++ b).length = a.length + b.length := by
  show (a ++ b).cps.size = _
  rw [Str.cps_append, Array.size_append]
  rfl
end
end Pu
namespace Pu
open PySem L2 Rb Gm TL
theorem numIn_inv {lo hi i : Int} {d : D} (h : numIn lo hi d = some i) : d = .int i ∧ lo ≤ i ∧ i ≤ hi := by
  have e : isNum lo hi d = true := by
    cases hh : isNum lo hi d with
    | true => rfl
    | false => rw [numIn_none hh] at h; cases h
  obtain ⟨j, rfl, a, b, e⟩ := numIn_some e
  rw [e] at h
  cases h
  exact ⟨rfl, a, b⟩
/-- an edit that is right, and what comes of it -/
inductive Okk (v : Vn) : Edt → Vn → Prop
  | come (s : Int) (s0 : 0 ≤ s) (s1 : s ≤ 1000000) (h : v.ns.length ≤ 9) : Okk v (.come (.int s)) { v with ns := v.ns ++ [s] }
  | leave (p : Nat) (hp : p < v.ns.length) (h : 2 ≤ v.ns.length) : Okk v (.leave (.int (p : Int))) { v with ns := v.ns.take p ++ v.ns.drop (p + 1) }
  | place (x : Nat) (n : Int) (hx : x < v.bs.length) (n0 : 1 ≤ n) (n1 : n ≤ 12) (h : v.bs.getD x 0 + n ≤ 12) : Okk v (.place (.int (x : Int)) (.int n)) { v with bs := plM v.bs x n }
  | take (x : Nat) (n : Int) (hx : x < v.bs.length) (n0 : 1 ≤ n) (n1 : n ≤ 12) (h : n ≤ v.bs.getD x 0) : Okk v (.take (.int (x : Int)) (.int n)) { v with bs := plM v.bs x (-n) }
theorem Okk.app {v v' : Vn} {e : Edt} (h : Okk v e v') : e.app v = .ok v' := by
  cases h with
  | come s s0 s1 h =>
    rw [app_come, numIn_int s0 s1]
    exact if_neg (by omega)
  | leave p hp h =>
    rw [app_leave, numIn_int (by omega) (by omega)]
    exact if_neg (by omega)
  | place x n hx n0 n1 h =>
    rw [app_place, numIn_int (by omega) (by omega)]
    dsimp only
    rw [numIn_int n0 n1]
    exact if_neg (by rw [Int.toNat_natCast]; omega)
  | take x n hx n0 n1 h =>
    rw [app_take, numIn_int (by omega) (by omega)]
    dsimp only
    rw [numIn_int n0 n1]
    exact if_neg (by rw [Int.toNat_natCast]; omega)
theorem Okk.of {v v' : Vn} {e : Edt} (h1 : 1 ≤ v.ns.length) (h : e.app v = .ok v') : Okk v e v' := by
  cases e with
  | come a =>
    rw [app_come] at h
    cases hn : numIn 0 1000000 a with
    | none => rw [hn] at h; cases h
    | some s =>
      rw [hn] at h
      obtain ⟨rfl, a0, a1⟩ := numIn_inv hn
      dsimp only at h
      split at h
      · cases h
      · cases h; exact .come s a0 a1 (by omega)
  | leave a =>
    rw [app_leave] at h
    cases hn : numIn 0 ((v.ns.length : Int) - 1) a with
    | none => rw [hn] at h; cases h
    | some s =>
      rw [hn] at h
      obtain ⟨rfl, a0, a1⟩ := numIn_inv hn
      obtain ⟨p, rfl⟩ : ∃ p : Nat, s = (p : Int) := ⟨s.toNat, (Int.toNat_of_nonneg a0).symm⟩
      dsimp only at h
      split at h
      · cases h
      · cases h; exact .leave p (by omega) (by omega)
  | place a b =>
    rw [app_place] at h
    cases hn : numIn 0 ((v.bs.length : Int) - 1) a with
    | none => rw [hn] at h; cases h
    | some x =>
      rw [hn] at h
      obtain ⟨rfl, a0, a1⟩ := numIn_inv hn
      obtain ⟨p, rfl⟩ : ∃ p : Nat, x = (p : Int) := ⟨x.toNat, (Int.toNat_of_nonneg a0).symm⟩
      dsimp only at h
      cases hm : numIn 1 12 b with
      | none => rw [hm] at h; cases h
      | some n =>
        rw [hm] at h
        obtain ⟨rfl, b0, b1⟩ := numIn_inv hm
        dsimp only at h
        split at h
        · cases h
        · rename_i hc
          cases h
          rw [Int.toNat_natCast] at hc
          exact .place p n (by omega) b0 b1 (by omega)
  | take a b =>
    rw [app_take] at h
    cases hn : numIn 0 ((v.bs.length : Int) - 1) a with
    | none => rw [hn] at h; cases h
    | some x =>
      rw [hn] at h
      obtain ⟨rfl, a0, a1⟩ := numIn_inv hn
      obtain ⟨p, rfl⟩ : ∃ p : Nat, x = (p : Int) := ⟨x.toNat, (Int.toNat_of_nonneg a0).symm⟩
      dsimp only at h
      cases hm : numIn 1 12 b with
      | none => rw [hm] at h; cases h
      | some n =>
        rw [hm] at h
        obtain ⟨rfl, b0, b1⟩ := numIn_inv hm
        dsimp only at h
        split at h
        · cases h
        · rename_i hc
          cases h
          rw [Int.toNat_natCast] at hc
          exact .take p n (by omega) b0 b1 (by omega)
theorem Okk.py {v v' : Vn} {e : Edt} (h : Okk v e v') : e.Py := by cases h <;> first | rfl | exact ⟨rfl, rfl⟩
end Pu
namespace Pu
open PySem L2 Rb Gm TL
def TKd.L : TKd → Option Int
  | .plain => none
  | .prom l => some l
end Pu
namespace Pu
open PySem L2 Rb Gm TL
theorem VnOk.repS {v : Vn} (ok : VnOk v) : Rep 1 10 v.sv := Rep.starts ok.st.n2 fun s hs => ok.st.sb s hs
theorem VnOk.repR {v : Vn} (ok : VnOk v) : Rep 2 39 v.rv := Rep.road ok.R
theorem VnOk.rep {v : Vn} (ok : VnOk v) : Rep 3 80 (.tup [v.rv, v.sv]) := Rep.tup (k := 2) (n := 39) (fun d hd => by
  rcases List.mem_cons.mp hd with rfl | hd
  · exact ok.repR
  · rw [List.mem_singleton.mp hd]
    exact ok.repS.mono (by decide) (by decide)) (by show 2 * 40 ≤ 80; decide)
theorem rep_word {x : Str} (h : x.cps.size ≤ 5) (hx : x.cps.toList.all (fun c => decide (c < 16 ^ 8)) = true) (ho : PyData.canLay0 (.str x) = true) (hf : (PyData.str x).shown.cps.toList.all (fun c => decide (c < 1114112)) = true) : Rep 0 5 (.str x) := Rep.str h (fun c hc => of_decide_eq_true (List.all_eq_true.mp hx c hc)) ho (fine_of hf)
theorem Okk.rep {v v' : Vn} {e : Edt} (l2 : v.bs.length ≤ 12) (n2 : v.ns.length ≤ 10) (h : Okk v e v') : Rep 1 18 e.d := by
  have wc : Rep 0 5 (.str "come") := rep_word (by decide +kernel) (by decide +kernel) (by decide +kernel) (by decide +kernel)
  have wl : Rep 0 5 (.str "leave") := rep_word (by decide +kernel) (by decide +kernel) (by decide +kernel) (by decide +kernel)
  have wp : Rep 0 5 (.str "place") := rep_word (by decide +kernel) (by decide +kernel) (by decide +kernel) (by decide +kernel)
  have wt : Rep 0 5 (.str "take") := rep_word (by decide +kernel) (by decide +kernel) (by decide +kernel) (by decide +kernel)
  have int : ∀ {i : Int}, -1000000000000 ≤ i → i ≤ 1000000000000 → Rep 0 5 (.int i) := fun a b => (Rep.int a b).mono (by decide) (by decide)
  cases h with
  | come s s0 s1 h =>
    refine Rep.tup (n := 5) (fun d hd => ?_) (by show 2 * 6 ≤ 18; decide)
    simp only [List.mem_cons, List.not_mem_nil, or_false] at hd
    rcases hd with rfl | rfl
    · exact wc
    · exact int (by omega) (by omega)
  | leave p hp h =>
    refine Rep.tup (n := 5) (fun d hd => ?_) (by show 2 * 6 ≤ 18; decide)
    simp only [List.mem_cons, List.not_mem_nil, or_false] at hd
    rcases hd with rfl | rfl
    · exact wl
    · exact int (by omega) (by omega)
  | place x n hx n0 n1 h =>
    refine Rep.tup (n := 5) (fun d hd => ?_) (by show 3 * 6 ≤ 18; decide)
    simp only [List.mem_cons, List.not_mem_nil, or_false] at hd
    rcases hd with rfl | rfl | rfl
    · exact wp
    · exact int (by omega) (by omega)
    · exact int (by omega) (by omega)
  | take x n hx n0 n1 h =>
    refine Rep.tup (n := 5) (fun d hd => ?_) (by show 3 * 6 ≤ 18; decide)
    simp only [List.mem_cons, List.not_mem_nil, or_false] at hd
    rcases hd with rfl | rfl | rfl
    · exact wt
    · exact int (by omega) (by omega)
    · exact int (by omega) (by omega)
section
variable {S : Sto} {k j : Nat} {Q : QD} {E : ED} {v : Vn} {t : TKd} {done vs : List D} {w : Bool} {b : Bool}
theorem nat_bd {i : Int} (h : i.natAbs < 10 ^ 10) : i.natAbs < 2 ^ 1000 := Nat.lt_trans h (by decide)
end
end Pu
namespace Pu
open PySem L2 Rb Gm TL
/-- a trip and the law's list of its edits, in the cells behind the deck -/
structure TrW (T : Sto) (a b : Nat) (t : TKd) (es : List Edt) (us : List Vn) (v : Vn) : Prop where
  ha : T[a]? = some (.lst (es.map Edt.d))
  hb : T[b]? = some (tripC t (es.map Edt.d) (us.map Vn.d ++ [v.d]) false)
  ne : a ≠ b
  hl : us.length = es.length
  rep : ∀ d ∈ es.map Edt.d, Rep 1 18 d
  ok : VnOk v
theorem TrW.la {T : Sto} {a b : Nat} {t : TKd} {es : List Edt} {us : List Vn} {v : Vn} (h : TrW T a b t es us v) : a < T.length := (List.getElem?_eq_some_iff.mp h.ha).1
theorem TrW.lb {T : Sto} {a b : Nat} {t : TKd} {es : List Edt} {us : List Vn} {v : Vn} (h : TrW T a b t es us v) : b < T.length := (List.getElem?_eq_some_iff.mp h.hb).1
/-- after one more edit -/
theorem TrW.next {T : Sto} {a b : Nat} {t : TKd} {es : List Edt} {us : List Vn} {v v' : Vn} {e : Edt} (h : TrW T a b t es us v) (o : Okk v e v') : TrW ((T.set a (.lst (es.map Edt.d ++ [e.d]))).set b (tripC t (es.map Edt.d ++ [e.d]) (us.map Vn.d ++ [v.d] ++ [v'.d]) false)) a b t (es ++ [e]) (us ++ [v]) v' where
  ha := by
    rw [List.getElem?_set_ne (Ne.symm h.ne), List.getElem?_set_self h.la, List.map_append]
    rfl
  hb := by
    rw [List.getElem?_set_self (by rw [List.length_set]; exact h.lb), List.map_append, List.map_append]
    rfl
  ne := h.ne
  hl := by rw [List.length_append, List.length_append, h.hl]; rfl
  rep := fun d hd => by
    rw [List.map_append] at hd
    rcases List.mem_append.mp hd with z | z
    · exact h.rep d z
    · rw [List.mem_singleton.mp z]
      exact o.rep h.ok.R.l2 h.ok.st.n2
  ok := app_ok h.ok o.app
end Pu
namespace Pu
open PySem L2 Rb Gm TL
/-! ## numbers as texts -/
theorem tl_itx (n : Nat) : tl (itx (n : Int)) = numL n := tl_num n
theorem itx_nn {i : Int} (h : 0 ≤ i) : tl (itx i) = numL i.toNat := by
  obtain ⟨n, rfl⟩ : ∃ n : Nat, i = (n : Int) := ⟨i.toNat, (Int.toNat_of_nonneg h).symm⟩
  rw [tl_itx, Int.toNat_natCast]
theorem itx_inj {i j : Int} (hi : 0 ≤ i) (hj : 0 ≤ j) (h : itx i = itx j) : i = j := by
  have e := congrArg tl h
  rw [itx_nn hi, itx_nn hj] at e
  have := numL_inj e
  omega
theorem itx_free {i : Int} {s : Nat} (h : 0 ≤ i) (hs : s < 48 ∨ 57 < s) : s ∉ tl (itx i) := by
  rw [itx_nn h]
  exact numL_free hs
def numsTx (ns : List Int) : Str := Txt.join "," (ns.map itx)
theorem tl_comma : tl "," = [44] := by decide +kernel
theorem tl_slash : tl "/" = [47] := by decide +kernel
theorem kc : ("," : Str).cps.all (· < 256) = true := by decide +kernel
theorem ks : (" " : Str).cps.all (· < 256) = true := by decide +kernel
theorem kl : ("/" : Str).cps.all (· < 256) = true := by decide +kernel
theorem nums_split {ns : List Int} (h : ns ≠ []) (nn : ∀ i ∈ ns, 0 ≤ i) : Txt.split (numsTx ns) "," = ns.map itx := by
  refine split_join tl_comma kc (fun z => h (List.map_eq_nil_iff.mp z)) fun p hp => ?_
  obtain ⟨i, hi, rfl⟩ := List.mem_map.mp hp
  exact itx_free (nn i hi) (.inl (by decide))
theorem map_itx_inj : ∀ {l m : List Int}, (∀ i ∈ l, 0 ≤ i) → (∀ i ∈ m, 0 ≤ i) → l.map itx = m.map itx → l = m
  | [], [], _, _, _ => rfl
  | [], _ :: _, _, _, h => by simp at h
  | _ :: _, [], _, _, h => by simp at h
  | x :: l, y :: m, h1, h2, h => by
    obtain ⟨a, b⟩ := List.cons.inj h
    rw [itx_inj (h1 x List.mem_cons_self) (h2 y List.mem_cons_self) a, map_itx_inj (fun i hi => h1 i (List.mem_cons_of_mem _ hi)) (fun i hi => h2 i (List.mem_cons_of_mem _ hi)) b]
theorem nums_inj {l m : List Int} (hl : l ≠ []) (hm : m ≠ []) (h1 : ∀ i ∈ l, 0 ≤ i) (h2 : ∀ i ∈ m, 0 ≤ i) (h : numsTx l = numsTx m) : l = m := by
  have e := nums_split hl h1
  rw [h, nums_split hm h2] at e
  exact map_itx_inj h1 h2 e.symm
/-! ## the text of a trip -/
theorem ticks_split {wk rd : Int} (h1 : 0 ≤ wk) (h2 : 0 ≤ rd) : Txt.split (itx wk ++ "/" ++ itx rd) "/" = [itx wk, itx rd] := by
  have e : itx wk ++ "/" ++ itx rd = Txt.join "/" [itx wk, itx rd] := by
    refine ext_tl ?_
    rw [join_eq, tl_join, tl_append, tl_append]
    show _ = tl (itx wk) ++ (tl "/" ++ tl (itx rd))
    rw [List.append_assoc]
  rw [e]
  refine split_join tl_slash kl (by simp) fun p hp => ?_
  simp only [List.mem_cons, List.not_mem_nil, or_false] at hp
  rcases hp with rfl | rfl
  · exact itx_free h1 (.inl (by decide))
  · exact itx_free h2 (.inl (by decide))
end Pu
namespace Pu
open PySem L2 Rb Gm TL
/-! ## numbers that a text stands for -/
theorem numL_head : ∀ {n : Nat}, 0 < n → ∃ c r, numL n = c :: r ∧ c ≠ 48 := by
  intro n
  induction n using Nat.strongRecOn with
  | ind n ih =>
    intro h
    by_cases h1 : n < 10
    · exact ⟨48 + n, [], numL_lt h1, by omega⟩
    · obtain ⟨c, r, e, hc⟩ := ih (n / 10) (by omega) (by omega)
      exact ⟨c, r ++ [48 + n % 10], by rw [numL_step (by omega), e]; rfl, hc⟩
theorem itx_size (n : Nat) : (itx (n : Int)).length = (numL n).length := by
  rw [← tl_itx]
  rfl
end Pu
namespace Pu
open PySem L2 Rb Gm TL
/-! ## texts cut in words, words in numbers -/
/-- a word of numbers -/
structure GoodN (w : Str) (many : Nat) (most : Int) (ns : List Int) : Prop where
  e : w = numsTx ns
  ne : ns ≠ []
  len : ns.length ≤ many
  hb : ∀ i ∈ ns, 0 ≤ i ∧ i ≤ most
theorem GoodN.split {w : Str} {many : Nat} {most : Int} {ns : List Int} (h : GoodN w many most ns) : Txt.split w "," = ns.map itx := by
  rw [h.e]
  exact nums_split h.ne fun i hi => (h.hb i hi).1
theorem GoodN.one {w : Str} {many many' : Nat} {most most' : Int} {ns ns' : List Int} (h : GoodN w many most ns) (h' : GoodN w many' most' ns') : ns = ns' :=
  nums_inj h.ne h'.ne (fun i hi => (h.hb i hi).1) (fun i hi => (h'.hb i hi).1) (h.e.symm.trans h'.e)
end Pu
namespace Pu
open PySem L2 Rb Gm TL
structure GoodT (w : Str) (wk rd : Int) : Prop where
  e : w = itx wk ++ "/" ++ itx rd
  r1 : 1 ≤ rd
  lt : rd < wk
  w2 : wk ≤ 1000
theorem GoodT.split {w : Str} {wk rd : Int} (h : GoodT w wk rd) : Txt.split w "/" = [itx wk, itx rd] := by
  rw [h.e]
  have := h.r1
  have := h.lt
  exact ticks_split (by omega) (by omega)
section
variable {S : Sto} {Q : QD} {E : ED}
/-- what a word stands for at its place -/
inductive Pt : Nat → Str → D → Prop
  | ticks {w : Str} {wk rd : Int} (h : GoodT w wk rd) : Pt 0 w (.tup [.int wk, .int rd])
  | bikes {w : Str} {ns : List Int} (h : GoodN w 12 12 ns) : Pt 1 w (.tup (ns.map D.int))
  | joint : Pt 2 "from" (.str "from")
  | starts {w : Str} {ns : List Int} (h : GoodN w 10 1000000 ns) : Pt 3 w (.tup (ns.map D.int))
theorem Pt.data {i : Nat} {w : Str} {d : D} (h : Pt i w d) : noGlo d = true ∧ isNon d = false := by cases h <;> exact ⟨rfl, rfl⟩
theorem Pt.lt {i : Nat} {w : Str} {d : D} (h : Pt i w d) : i < 4 := by cases h <;> decide
end
end Pu
namespace Pu
open PySem L2 Rb Gm TL
/-! ## texts that are bent (k63, k56) -/
theorem cutS_len (z : Str) (lo hi : Option Int) : (cutS z lo hi).length ≤ z.length := by
  unfold cutS
  rw [len_tl, tl_mk, List.length_take, List.length_drop, len_tl z]
  show min _ ((tl z).length - _) ≤ _
  omega
end Pu
namespace Pu
open PySem L2 Rb Gm TL
/-! ## whole numbers with commas, in a field of eight -/
def grzL : Nat → List Nat → List Nat
  | 0, l => l
  | k + 1, l => if l.length ≤ 3 then l else grzL k (l.take (l.length - 3)) ++ 44 :: l.drop (l.length - 3)
theorem grzL_big {k : Nat} {l : List Nat} (h : 3 < l.length) : grzL (k + 1) l = grzL k (l.take (l.length - 3)) ++ 44 :: l.drop (l.length - 3) := by
  show (if l.length ≤ 3 then l else _) = _
  rw [if_neg (by omega)]
theorem grzL_small {k : Nat} {l : List Nat} (h : l.length ≤ 3) : grzL k l = l := by
  cases k with
  | zero => rfl
  | succ k =>
    show (if l.length ≤ 3 then l else _) = _
    rw [if_pos h]
theorem sIx_m3 (n d : Nat) : HT.sIx n d (some (-3)) = n - 3 := by
  show (if (-3 : Int) < 0 then ((-3 : Int) + (n : Int)).toNat else min (-3 : Int).toNat n) = n - 3
  rw [if_pos (show (-3 : Int) < 0 by decide)]
  omega
theorem tl_cutS (z : Str) (lo hi : Option Int) : tl (cutS z lo hi) = ((tl z).drop (HT.sIx z.length 0 lo)).take (HT.sIx z.length z.length hi - HT.sIx z.length 0 lo) := by
  unfold cutS tl
  rfl
theorem cut_last3 {z : Str} (h : 3 < z.length) : tl (cutS z (some (-3)) none) = (tl z).drop (z.length - 3) := by
  rw [tl_cutS, sIx_m3, HT.sIx_none]
  refine List.take_of_length_le ?_
  rw [List.length_drop, ← len_tl]
  omega
theorem cut_all3 {z : Str} (h : 3 < z.length) : tl (cutS z none (some (-3))) = (tl z).take (z.length - 3) := by
  rw [tl_cutS, sIx_m3, HT.sIx_none, List.drop_zero, Nat.sub_zero]
def grz (n : Nat) : Str := ⟨(grzL 2 (numL n)).toArray⟩
theorem tl_grz (n : Nat) : tl (grz n) = grzL 2 (numL n) := rfl
section
variable {S : Sto} {Q : QD} {E : ED}
theorem grouped_ok {n : Nat} (h : n < 10 ^ 7) (q : Q (.str (grz n)) S) : F_law_grouped [.int (n : Int)] S Q E := by
  have l7 := numL_len (n := n) (k := 7) (by decide) h
  unfold F_law_grouped
  refine ⟨rfl, nat_bd (by rw [Int.natAbs_natCast]; omega), ?_⟩
  show dSeq (dWhile _ _) _ [some (.int (n : Int)), some (.str (itx (n : Int))), some (.str "")] S _ noE
  refine ⟨fun m ρ S' => S' = S ∧ ∃ t f : Str, ρ = [some (.int (n : Int)), some (.str t), some (.str f)] ∧ t.length ≤ 3 + 3 * m ∧ m ≤ 2 ∧ f.length ≤ 20 - 8 * m ∧ grzL m (tl t) ++ tl f = grzL 2 (numL n), ⟨2, rfl, _, _, rfl, ?_, Nat.le_refl _, by decide, ?_⟩, ?_⟩
  · rw [itx_size]; omega
  · rw [tl_itx, show tl ("" : Str) = [] by decide +kernel, List.append_nil]
  rintro m ρ S' ⟨rfl, t, f, rfl, h1, h2, h3, h4⟩
  refine ⟨szd (by omega), ?_⟩
  refine ifB (b := decide ((3 : Int) < (t.length : Int))) (fun c => ?_) fun c => ?_
  · have c := of_decide_eq_true c
    have c3 : 3 < t.length := by omega
    obtain ⟨k, rfl⟩ : ∃ k, m = k + 1 := ⟨m - 1, by omega⟩
    have k1 : ("," : Str).length = 1 := by decide +kernel
    have c1 := cut_last3 c3
    have c2 := cut_all3 c3
    have s1 := cutS_len t (some (-3)) none
    have ll : (cutS t (some (-3)) none).length = 3 := by rw [len_tl, c1, List.length_drop, ← len_tl]; omega
    refine ⟨by show t.length ≤ sizeLine; exact szd (by omega), szd (by omega), szd (by rw [str_len]; omega), by show t.length ≤ sizeLine; exact szd (by omega), ?_⟩
    refine ⟨k, Nat.lt_succ_self k, rfl, _, _, rfl, ?_, by omega, ?_, ?_⟩
    · rw [len_tl, c2, List.length_take, ← len_tl]; omega
    · rw [str_len, str_len, k1, ll]; omega
    · rw [tl_append, tl_append, c1, c2, tl_comma]
      rw [grzL_big (by rw [← len_tl]; exact c3), ← len_tl] at h4
      rw [← h4]
      simp [List.append_assoc]
  · have c := of_decide_eq_false c
    have hg : grzL m (tl t) = tl t := grzL_small (by rw [← len_tl]; omega)
    rw [hg] at h4
    refine ⟨szd (by omega), ?_⟩
    have e : t ++ f = grz n := ext_tl (by rw [tl_append, h4, tl_grz])
    rw [e]
    exact q
end
def g8 : Builtin.Float.FormatSpec := { align := 62, width := some 8, grouping := some ',' }
theorem f8_g8 : f8 = g8 := by rfl
/-! ### what the field is, of the digits -/
theorem fd1 (a : Nat) : tl (PyProof.Rows.intField' g8 false [] [a] [] 3) = List.replicate (8 - (grzL 2 [a]).length) 32 ++ grzL 2 [a] := by
  kernel_rfl
theorem fd2 (a b : Nat) : tl (PyProof.Rows.intField' g8 false [] [a, b] [] 3) = List.replicate (8 - (grzL 2 [a, b]).length) 32 ++ grzL 2 [a, b] := by
  kernel_rfl
theorem fd3 (a b c : Nat) : tl (PyProof.Rows.intField' g8 false [] [a, b, c] [] 3) = List.replicate (8 - (grzL 2 [a, b, c]).length) 32 ++ grzL 2 [a, b, c] := by
  kernel_rfl
theorem fd4 (a b c d : Nat) : tl (PyProof.Rows.intField' g8 false [] [a, b, c, d] [] 3) = List.replicate (8 - (grzL 2 [a, b, c, d]).length) 32 ++ grzL 2 [a, b, c, d] := by
  kernel_rfl
theorem fd5 (a b c d e : Nat) : tl (PyProof.Rows.intField' g8 false [] [a, b, c, d, e] [] 3) = List.replicate (8 - (grzL 2 [a, b, c, d, e]).length) 32 ++ grzL 2 [a, b, c, d, e] := by
  kernel_rfl
theorem fd6 (a b c d e f : Nat) : tl (PyProof.Rows.intField' g8 false [] [a, b, c, d, e, f] [] 3) = List.replicate (8 - (grzL 2 [a, b, c, d, e, f]).length) 32 ++ grzL 2 [a, b, c, d, e, f] := by
  kernel_rfl
theorem fd7 (a b c d e f g : Nat) : tl (PyProof.Rows.intField' g8 false [] [a, b, c, d, e, f, g] [] 3) = List.replicate (8 - (grzL 2 [a, b, c, d, e, f, g]).length) 32 ++ grzL 2 [a, b, c, d, e, f, g] := by
  kernel_rfl
theorem fld_digits (l : List Nat) (h1 : 1 ≤ l.length) (h7 : l.length ≤ 7) : tl (PyProof.Rows.intField' g8 false [] l [] 3) = List.replicate (8 - (grzL 2 l).length) 32 ++ grzL 2 l := by
  match l, h1, h7 with
  | [a], _, _ => exact fd1 _
  | [a, b], _, _ => exact fd2 _ _
  | [a, b, c], _, _ => exact fd3 _ _ _
  | [a, b, c, d], _, _ => exact fd4 _ _ _ _
  | [a, b, c, d, e], _, _ => exact fd5 _ _ _ _ _
  | [a, b, c, d, e, f], _, _ => exact fd6 _ _ _ _ _ _
  | [a, b, c, d, e, f, g], _, _ => exact fd7 _ _ _ _ _ _ _
theorem fmt8_tl {n : Nat} (h : n < 10 ^ 7) : tl (fmt8 (n : Int)) = List.replicate (8 - (grz n).length) 32 ++ tl (grz n) := by
  have l7 := numL_len (n := n) (k := 7) (by decide) h
  have l1 : 1 ≤ (numL n).length := by
    rcases Nat.eq_zero_or_pos n with rfl | hp
    · rw [numL_lt (by decide)]; decide
    · obtain ⟨c, r, e, _⟩ := numL_head hp
      rw [e]; exact Nat.succ_pos _
  have e : fmt8 (n : Int) = PyProof.Rows.intField' g8 false [] (numL n) [] 3 := by
    unfold fmt8 PyProof.Rows.intSpecText
    rw [f8_g8, show decide ((n : Int) < 0) = false from decide_eq_false (by omega), Int.natAbs_natCast]
    rfl
  rw [e, fld_digits _ l1 l7, len_tl, tl_grz]
theorem fmt8_len {n : Nat} (h : n < 10 ^ 7) : (fmt8 (n : Int)).length ≤ 20 := by
  have l7 := numL_len (n := n) (k := 7) (by decide) h
  have g : (grzL 2 (numL n)).length ≤ 9 := by
    have : ∀ (k : Nat) (l : List Nat), (grzL k l).length ≤ l.length + k := by
      intro k
      induction k with
      | zero => intro l; exact Nat.le_refl _
      | succ k ih =>
        intro l
        by_cases c : l.length ≤ 3
        · rw [grzL_small c]; omega
        · rw [grzL_big (by omega), List.length_append, List.length_cons, List.length_drop]
          have := ih (l.take (l.length - 3))
          rw [List.length_take] at this
          omega
    have := this 2 (numL n)
    omega
  rw [len_tl, fmt8_tl h, List.length_append, List.length_replicate, len_tl, tl_grz]
  omega
theorem mul_few : (List.range 9).all (fun n => tl (Txt.mul " " ((n : Nat) : Int)) == List.replicate n 32) = true := by decide +kernel
theorem tl_mulS {n : Nat} (h : n ≤ 8) : tl (Txt.mul " " (n : Int)) = List.replicate n 32 := eq_of_beq (List.all_eq_true.mp mul_few n (List.mem_range.mpr (by omega)))
theorem pad_ok {n : Nat} (h : n < 10 ^ 7) (m : Int) (hm : m = if (8 - ((grz n).length : Int)) > 0 then 8 - ((grz n).length : Int) else 0) : Txt.mul " " m ++ grz n = fmt8 (n : Int) := by
  obtain ⟨k, rfl, hk, h8⟩ : ∃ k : Nat, m = (k : Int) ∧ k = 8 - (grz n).length ∧ k ≤ 8 := by
    split at hm
    · exact ⟨m.toNat, by omega, by omega, by omega⟩
    · exact ⟨0, by omega, by omega, by omega⟩
  refine ext_tl ?_
  rw [tl_append, tl_mulS h8, fmt8_tl h, hk]
end Pu
namespace Pu
open PySem L2 Rb Gm TL
/-! ## a party as a text -/
def InB (ns : List Int) : Prop := ∀ i ∈ ns, 0 ≤ i ∧ i ≤ 1000000
def ptx (ns : List Int) : Str := Txt.join "" (ns.map fmt8)
theorem fmt8_int {i : Int} (h : 0 ≤ i ∧ i ≤ 1000000) : (fmt8 i).length ≤ 20 := by
  obtain ⟨n, rfl⟩ : ∃ n : Nat, i = (n : Int) := ⟨i.toNat, by omega⟩
  exact fmt8_len (by omega)
theorem sum_fmt8 : ∀ {ns : List Int}, InB ns → (((ns.map fmt8).map (·.length)).sum ≤ 20 * ns.length)
  | [], _ => Nat.zero_le _
  | i :: r, h => by
    have ih := sum_fmt8 (ns := r) fun j hj => h j (List.mem_cons_of_mem _ hj)
    have hi := fmt8_int (h i List.mem_cons_self)
    simp only [List.map_cons, List.sum_cons, List.length_cons]
    omega
theorem join_sz {ns : List Int} (h : InB ns) (l : ns.length ≤ 30) : ((ns.map fmt8).map (·.length)).sum + (ns.map fmt8).length * ("" : Str).length ≤ 100000 := by
  have s := sum_fmt8 h
  have k0 : ("" : Str).length = 0 := by decide +kernel
  rw [k0, Nat.mul_zero]
  omega
def txD : D → D
  | .int i => .str (fmt8 i)
  | d => d
theorem map_txD (ns : List Int) : (ns.map D.int).map txD = (ns.map fmt8).map D.str := by
  rw [List.map_map, List.map_map]
  rfl
section
variable {S : Sto} {Q : QD} {E : ED} {k : Nat} {ns : List Int}
theorem pstr_ok (hk : S[k]? = some (.ins "Party" (ptyF ns))) (h : InB ns) (l : ns.length ≤ 30) (q : Q (.str (ptx ns)) S) : F_Party_str [.cell k] S Q E := by
  have el : (ns.map D.int).length = ns.length := List.length_map ..
  unfold F_Party_str
  refine ⟨rfl, ?_⟩
  refine onS (ins_cell hk) ⟨rfl, ?_⟩
  refine onS (o := some (D.tup (ns.map D.int))) rfl ?_
  refine onS (o := seqOf S (D.tup (ns.map D.int))) (a := ns.map D.int) rfl ?_
  refine ⟨szd (by show (ns.map D.int).length ≤ 100000; omega), ?_⟩
  refine comp_map (src := []) (g := txD) (fun _ p => p) (ns.map D.int) [] (fun x hx => ?_) ?_
  · obtain ⟨i, hi, rfl⟩ := List.mem_map.mp hx
    have hi := h i hi
    exact ⟨_, rfl, fun Q' q' => ⟨⟨hi.1, by omega, szd (by have := fmt8_int hi; omega)⟩, q'⟩⟩
  rw [List.nil_append, map_txD]
  refine onS (a := (ns.map fmt8).map D.str) rfl (onS (strsOf_map _) ⟨join_sz h l, q⟩)
theorem forT {i j : Nat} {body R : FS} {ρ : Rho} {De : DEnds} {ds : List D} (g : getV ρ i = some (.tup ds)) (h : dLoop (gN j) body [] ds ρ S { De with nx := fun ρ' S' => R ρ' S' De noE } noE) : dSeq (dFor (dItS (dVar i)) (gN j) body) R ρ S De noE := by
  show onSome (getV ρ i) _
  rw [g]
  exact h
def appT : FS := (dDrop (dML gAppend (dVar 1) (dCons (dBin gAdd (dBin gMulT (dC (.str " ")) (dB gMax (dCons (dC (.int 0)) (dCons (dBin gSub (dC (.int 8)) (dB gLen (dCons (dVar 3) dNil))) dNil)))) (dVar 3)) dNil)))
def turnT : FS := (dSeq (dAsg (dCallW F_law_grouped (dCons (dVar 2) dNil)) (gN 3))
 (dDrop (dML gAppend (dVar 1) (dCons (dBin gAdd (dBin gMulT (dC (.str " ")) (dB gMax (dCons (dC (.int 0)) (dCons (dBin gSub (dC (.int 8)) (dB gLen (dCons (dVar 3) dNil))) dNil)))) (dVar 3)) dNil))))
theorem grz_len {n : Nat} (h : n < 10 ^ 7) : (grz n).length ≤ 20 := by
  have := fmt8_len h
  have e := pad_ok h _ rfl
  rw [← e, str_len] at this
  omega
theorem turnT_ok {i : Int} {ds : List D} {y0 y3 : Option D} {De : DEnds} (hi : 0 ≤ i ∧ i ≤ 1000000) (hl : ds.length ≤ 100) (q : ∀ y3, De.nx [y0, some (.cell 0), some (.int i), y3] [.lst (ds ++ [.str (fmt8 i)])]) : turnT [y0, some (.cell 0), some (.int i), y3] [.lst ds] De noE := by
  obtain ⟨n, rfl⟩ : ∃ n : Nat, i = (n : Int) := ⟨i.toNat, by omega⟩
  have hn : n < 10 ^ 7 := by omega
  have gl := grz_len hn
  unfold turnT
  refine grouped_ok hn ?_
  show appT [y0, some (.cell 0), some (.int (n : Int)), some (.str (grz n))] [.lst ds] De noE
  unfold appT
  have hc : cellOf [Cl.lst ds] (.cell 0) = some (0, ds) := rfl
  have k1 : (" " : Str).length = 1 := by decide +kernel
  obtain ⟨m, hm⟩ : ∃ m : Int, m = if (8 - ((grz n).length : Int)) > 0 then 8 - ((grz n).length : Int) else 0 := ⟨_, rfl⟩
  have e := pad_ok hn m hm
  have fl := fmt8_len hn
  rw [← e, str_len] at fl
  dsimp only [dDrop, dML, dVar]
  refine onS (a := D.cell 0) rfl (onS (o := cellOf [Cl.lst ds] (.cell 0)) hc ?_)
  refine ⟨szd (by omega), ?_⟩
  show (0 ≤ (if (8 - ((grz n).length : Int)) > 0 then 8 - ((grz n).length : Int) else 0) ∧ _ ∧ _) ∧ _
  rw [← hm]
  have m0 : 0 ≤ m ∧ m ≤ 8 := by split at hm <;> omega
  refine ⟨⟨m0.1, by omega, by rw [k1]; decide⟩, ?_⟩
  refine onS (a := D.str (grz n)) rfl ?_
  refine ⟨szd (by omega), ?_⟩
  unfold gAppend
  dsimp only [dNil]
  refine onS hc ?_
  refine ⟨szd (by show ds.length + 1 ≤ 100000; omega), ?_⟩
  rw [e]
  exact q _
theorem ltext29_ok (h : InB ns) (l : ns.length ≤ 30) (q : Q (.str (ptx ns)) []) : F_law_text_2 [.tup (ns.map D.int)] [] Q E := by
  unfold F_law_text_2
  refine ⟨rfl, szr rfl, ?_⟩
  show dSeq (dFor (dItS (dVar 0)) (gN 2) turnT) (dRet (dJoin (dC (.str "")) (dVar 1))) [some (.tup (ns.map D.int)), some (.cell 0), none, none] [.lst []] _ noE
  refine forT rfl ?_
  refine for_inv (src := []) (ns.map D.int) (fun i ρ S' => ∃ y2 y3, S' = [.lst (((ns.take i).map fmt8).map D.str)] ∧ ρ = [some (.tup (ns.map D.int)), some (.cell 0), y2, y3]) ⟨_, _, rfl, rfl⟩ ?_ ?_
  · rintro i x ρ S' K hx hK ⟨y2, y3, rfl, rfl⟩
    rw [List.getElem?_map] at hx
    obtain ⟨z, hz, rfl⟩ := Option.map_eq_some_iff.mp hx
    refine turnT_ok (h z (List.mem_of_getElem? hz)) (by rw [List.length_map, List.length_map, List.length_take]; omega) fun y3 => hK _ _ ⟨_, _, ?_, rfl⟩
    rw [List.take_add_one, hz, Option.toList, List.map_append, List.map_append]
    rfl
  · rintro ρ S' ⟨y2, y3, rfl, rfl⟩
    rw [List.length_map, List.take_length]
    dsimp only [dRet, dJoin, dC, dVar, onStr]
    refine onS (a := D.cell 0) rfl ?_
    refine onS (a := (ns.map fmt8).map D.str) rfl ?_
    refine onS (strsOf_map _) ?_
    refine ⟨join_sz h l, ?_⟩
    exact ⟨⟨rfl, rfl⟩, onS (a := .str (ptx ns)) rfl q⟩
end
end Pu
namespace Pu
open PySem L2 Rb Gm
/-- more cells, none changed -/
def Gw (S S' : Sto) : Prop := ∃ G, S' = S ++ G
section
variable {S S' S2 : Sto} {k j : Nat} {c : Cl} {Q : QD} {E : ED} {as bs ns : List Int}
theorem Gw.refl : Gw S S := ⟨[], (List.append_nil S).symm⟩
theorem Gw.trans (a : Gw S S') (b : Gw S' S2) : Gw S S2 := by
  obtain ⟨G, rfl⟩ := a
  obtain ⟨G2, rfl⟩ := b
  exact ⟨G ++ G2, List.append_assoc ..⟩
theorem Gw.get (g : Gw S S') (h : S[k]? = some c) : S'[k]? = some c := by
  obtain ⟨G, rfl⟩ := g
  rw [List.getElem?_append_left (List.getElem?_eq_some_iff.mp h).1]
  exact h
end
section
variable {S : Sto} {k0 k1 k2 : Nat} {a b c : List Int} {one more : Int}
theorem Sts.app {a b : List Int} (h1 : Sts a) (h2 : Sts b) (l : a.length + b.length ≤ 10) : Sts (a ++ b) := ⟨by rw [List.length_append]; have := h1.n1; omega, by rw [List.length_append]; exact l, fun s hs => by
  rcases List.mem_append.mp hs with hs | hs
  · exact h1.sb s hs
  · exact h2.sb s hs⟩
variable {a5 a6 : Option D} {Q : Bool → Sto → Prop}
end
end Pu
namespace Gm
/-! ## plans counted: forwards, backwards, and by listing -/
def sm (n : Nat) (f : Nat → Int) : Int := ((List.range n).map f).sum
end Gm
namespace Gm
end Gm
namespace Pu
open PySem L2 Rb Gm
theorem nk_any {S T : Sto} {N : Int} {k : Nat} (h : Nk S N T) (hk : 2 ≤ k) : S[k]? = T[k - 2]? := by
  obtain ⟨cs, rs, n, rfl, _⟩ := h
  show (stateS cs rs n ++ T)[k]? = _
  rw [List.getElem?_append_right (show (stateS cs rs n).length ≤ k from hk)]
  rfl
theorem nk_same {S T S' : Sto} {N N' : Int} {k : Nat} {c : Cl} (h : Nk S N T) (h' : Nk S' N' T) (hk : 2 ≤ k) (e : S[k]? = some c) : S'[k]? = some c := by rw [nk_any h' hk, ← nk_any h hk, e]
end Pu
namespace Pu
open PySem L2 Rb Gm TL
/-! ## parties side by side -/
def inV29 (ns : List Int) : D → Bool
  | .int i => decide (i ∈ ns)
  | _ => false
def isI29 : D → Bool
  | .int _ => true
  | _ => false
section
variable {S : Sto} {Q : QD} {E : ED} {k a b : Nat} {ns ms : List Int} {v : D}
theorem contains29 (hk : S[k]? = some (.ins "Party" (ptyF ns))) (h : InB ns) (hv : (toPy v).isSome = true) (q : Q (.bl (inV29 ns v)) S) : F_Party_contains [.cell k, v] S Q E := by
  unfold F_Party_contains
  refine ⟨rfl, number_ok hv ?_⟩
  cases c : isNum 0 1000000 v with
  | false =>
    have : inV29 ns v = false := by
      cases v with
      | int i =>
        have c : (decide (0 ≤ i) && decide (i ≤ 1000000)) = false := c
        refine decide_eq_false fun z => ?_
        have := h i z
        rw [decide_eq_true this.1, decide_eq_true this.2] at c
        cases c
      | _ => rfl
    rw [this] at q
    exact q
  | true =>
    cases v with
    | int i =>
      refine onS (ins_cell hk) ⟨rfl, ?_⟩
      refine onS (o := some (D.tup (ns.map D.int))) rfl ?_
      unfold gIn
      refine onS (a := ns.map D.int) rfl ?_
      refine onS (intsOf_map ns) ?_
      exact q
    | _ => cases c
theorem isnum29 (hv : (toPy v).isSome = true) (q : Q (.bl (isI29 v)) S) : F_law_is_number_2 [v] S Q E := by
  unfold F_law_is_number_2
  refine ⟨rfl, ?_⟩
  cases v with
  | non => exact q
  | bl k => exact q
  | int k => exact q
  | str k => exact q
  | tup k => exact q
  | lst k ks => exact q
  | dic k => exact q
  | _ => cases hv
theorem eqT_ints {neg : Bool} {as bs : List Int} (q : Q (.bl (nb neg (decide (as = bs)))) S) : iEqB neg (.tup (as.map D.int)) (.tup (bs.map D.int)) S Q := by
  have e : ∀ ns : List Int, toPy (.tup (ns.map D.int)) = some (.tuple (ns.map PyData.int)) := fun ns => by
    show (toPyAll (ns.map D.int)).map PyData.tuple = _
    rw [py_ints]
    rfl
  have sh : ∀ ns : List Int, SeqAt.shaped (.tuple (ns.map PyData.int)) = true := fun ns => by
    have s : Shp 1 (.tup (ns.map D.int)) := Shp.tup fun d hd => by
      obtain ⟨i, _, rfl⟩ := List.mem_map.mp hd
      exact Shp.int
    obtain ⟨p, e1, h1, _⟩ := s.sh (by decide)
    rw [e] at e1
    cases e1
    exact h1
  refine eqB_ok (pyC_of (e as)) (pyC_of (e bs)) (sh as) (sh bs) ?_
  simp only [PyData.eqv, eqv_ints]
  exact q
theorem eqL_ints {neg f g : Bool} {as bs : List Int} (q : Q (.bl (nb neg (decide (as = bs)))) S) : iEqB neg (.lst f (as.map D.int)) (.lst g (bs.map D.int)) S Q := by
  have e : ∀ (f : Bool) (ns : List Int), toPy (.lst f (ns.map D.int)) = some (.list (ns.map PyData.int)) := fun f ns => by
    show (toPyAll (ns.map D.int)).map PyData.list = _
    rw [py_ints]
    rfl
  have sh : ∀ ns : List Int, SeqAt.shaped (.list (ns.map PyData.int)) = true := fun ns => by
    have s : Shp 1 (.lst true (ns.map D.int)) := Shp.lst fun d hd => by
      obtain ⟨i, _, rfl⟩ := List.mem_map.mp hd
      exact Shp.int
    obtain ⟨p, e1, h1, _⟩ := s.sh (by decide)
    rw [e] at e1
    cases e1
    exact h1
  refine eqB_ok (pyC_of (e f as)) (pyC_of (e g bs)) (sh as) (sh bs) ?_
  simp only [PyData.eqv, eqv_ints]
  exact q
theorem pty29_eq (ha : S[a]? = some (.ins "Party" (ptyF ns))) (hb : S[b]? = some (.ins "Party" (ptyF ms))) (q : Q (.bl (decide (srt ns = srt ms))) S) : F_Party_eq_2 [.cell a, .cell b] S Q E := by
  unfold F_Party_eq_2
  refine ⟨rfl, ?_⟩
  show (match insOf S (.cell b) with | some cf => _ | none => _)
  rw [ins_cell hb]
  refine onS (a := true) rfl ?_
  refine onS (ins_cell ha) ⟨rfl, onS (a := D.tup ((srt ns).map D.int)) rfl ?_⟩
  refine onS (ins_cell hb) ⟨rfl, onS (a := D.tup ((srt ms).map D.int)) rfl ?_⟩
  exact eqT_ints q
theorem pty29_no (h1 : insOf S v = none) (h2 : (isA .int S v).isSome = true) (q : Q (.bl false) S) : F_Party_eq_2 [.cell k, v] S Q E := by
  unfold F_Party_eq_2
  refine ⟨rfl, ?_⟩
  show (match insOf S v with | some cf => _ | none => _)
  rw [h1]
  exact ⟨h2, q⟩
theorem pty29_new (h : isSt (tkD ns) = true) (q : Q .non (S ++ [.ins "Party" (ptyF ns)])) : F_Party_init [.cell S.length, tkD ns] (S ++ [.ins "Party" []]) Q E := by
  have nk : (S ++ [Cl.ins "Party" []])[S.length]? = some (.ins "Party" []) := by rw [List.getElem?_append_right (Nat.le_refl _), Nat.sub_self]; rfl
  obtain ⟨ns', e, l1, l2, hb⟩ := isSt_ints h
  have en : ns' = ns := by
    have e2 : ns.map D.int = ns'.map D.int := D.tup.inj e
    have := intsOf_map ns
    rw [e2, intsOf_map] at this
    exact Option.some.inj this
  subst en
  have hv : (toPy (tkD ns')).isSome = true := by
    show ((toPyAll (ns'.map D.int)).map PyData.tuple).isSome = true
    rw [py_ints]
    rfl
  refine party_init hv nk (fun ns2 e' _ => ?_) fun h' => absurd (h.symm.trans h') (by decide)
  have en : ns2 = ns' := by
    have e2 : ns'.map D.int = ns2.map D.int := D.tup.inj e'
    have := intsOf_map ns'
    rw [e2, intsOf_map] at this
    exact Option.some.inj this
  subst en
  rw [show (S ++ [Cl.ins "Party" []]).set S.length (.ins "Party" (ptyF ns2)) = S ++ [.ins "Party" (ptyF ns2)] from set_last]
  exact q
end
end Pu
namespace Pu
open PySem L2 Rb Gm TL
def p292 : FS := (dRet (dBin iEq (dB (gStrO [("Party", F_Party_str)]) (dCons (dMake "Party" F_Party_init (dCons (dTup (dCons (dC (.int 12000)) (dCons (dC (.int 9)) dNil))) dNil)) dNil)) (dC (.str "  12,000       9"))))
def p291b9 : FS := (dIfS (dTest (dBin iNe (dB iRepr (dCons (dProp [("Party", F_Party_starts)] (dVar 4)) dNil)) (dB iRepr (dCons (dVar 3) dNil))))
 (dRet (dC (.bl false)))
 dSkip)
def p291b8b : FS := (dIfS (dTest (dBin iNe (dB iRepr (dCons (dLst (dCons (dBin (gEqL [("Party", F_Party_eq_2)]) (dVar 4) (dVar 12)) (dCons (dBin (gEqR [("Party", F_Party_eq_2)]) (dVar 12) (dVar 4)) (dCons (dBin (gNeL [("Party", F_Party_eq_2)]) (dVar 4) (dVar 12)) dNil)))) dNil)) (dB iRepr (dCons (dLst (dCons (dC (.bl false)) (dCons (dC (.bl false)) (dCons (dC (.bl true)) dNil)))) dNil))))
 (dRet (dC (.bl false)))
 dSkip)
def p291b8 : FS := (dSeq (dFor (dItS (dLst (dCons (dVar 3) (dCons (dB gListN (dCons (dVar 3) dNil)) (dCons (dC .non) (dCons (dBin gIx (dVar 3) (dC (.int 0))) (dCons (dB (gStrO [("Party", F_Party_str)]) (dCons (dVar 4) dNil)) (dCons (dLst (dCons (dVar 4) dNil)) (dCons (dCallW F_law_odd_2 (dCons (dVar 1) dNil)) dNil))))))))) (gN 12) p291b8b) p291b9)
def p291b7b1 : FS := (dIfS (dTest (dBin iNe (dB iRepr (dCons (dLst (dCons (dBin (gInO [("Party", F_Party_contains)]) (dVar 12) (dVar 4)) (dCons (dBin (gInW true [("Party", F_Party_contains)]) (dVar 12) (dVar 4)) dNil))) dNil)) (dB iRepr (dCons (dLst (dCons (dVar 10) (dCons (dNotV (dVar 10)) dNil))) dNil))))
 (dRet (dC (.bl false)))
 dSkip)
def p291b7b0 : FS := (dSeq (dAsg (dAndV (dCallW F_law_is_number_2 (dCons (dVar 12) dNil)) (dBin (gIn false) (dVar 12) (dB gListN (dCons (dVar 3) dNil)))) (gN 10)) p291b7b1)
def p291b7 : FS := (dSeq (dFor (dItS (dBin gAdd (dVar 11) (dLst (dCons (dCallW F_law_odd_2 (dCons (dVar 1) dNil)) (dCons (dLst (dCons (dBin gIx (dVar 3) (dVar 5)) dNil)) (dCons (dBin gPow (dC (.int 10)) (dC (.int 39))) dNil)))))) (gN 12) p291b7b0) p291b8)
def p291b6 : FS := (dSeq (dAsg (dBin gAdd (dB gListN (dCons (dVar 3) dNil)) (dLst (dCons (dBin gAdd (dBin gIx (dVar 3) (dVar 5)) (dC (.int 1))) (dCons (dUn gNeg (dC (.int 1))) (dCons (dC (.int 0)) (dCons (dC (.int 1)) (dCons (dC (.bl true)) (dCons (dC (.bl false)) (dCons (dC .non) (dCons (dB gStr (dCons (dBin gIx (dVar 3) (dVar 5)) dNil)) (dCons (dTup (dCons (dBin gIx (dVar 3) (dVar 5)) dNil)) dNil))))))))))) (gN 11)) p291b7)
def p291b5b2 : FS := (dIfS (dOr (dTest (dBin iNe (dB (gStrO [("Party", F_Party_str)]) (dCons (dVar 9) dNil)) (dCall 0 F_law_text_2 (dCons (dVar 8) dNil)))) (dTest (dBin iNe (dProp [("Party", F_Party_starts)] (dVar 9)) (dVar 8))))
 (dRet (dC (.bl false)))
 dSkip)
def p291b5b1 : FS := (dSeq (dIfS (dTest (dBin iNe (dB iRepr (dCons (dLst (dCons (dBin (gEqO [("Party", F_Party_eq_2)]) (dVar 4) (dVar 9)) (dCons (dBin (gNeO [("Party", F_Party_eq_2)]) (dVar 4) (dVar 9)) (dCons (dBin (gEqO [("Party", F_Party_eq_2)]) (dVar 9) (dVar 4)) dNil)))) dNil)) (dB iRepr (dCons (dLst (dCons (dVar 10) (dCons (dNotV (dVar 10)) (dCons (dVar 10) dNil)))) dNil))))
 (dRet (dC (.bl false)))
 dSkip) p291b5b2)
def p291b5b0 : FS := (dSeq (dPar 9 10 (dCons (dMake "Party" F_Party_init (dCons (dVar 8) dNil)) (dCons (dBin iEq (dB gSorted (dCons (dB gListN (dCons (dVar 8) dNil)) dNil)) (dB gSorted (dCons (dB gListN (dCons (dVar 3) dNil)) dNil))) dNil))) p291b5b1)
def p291b5 : FS := (dSeq (dFor (dItS (dVar 7)) (gN 8) p291b5b0) p291b6)
def p291b4 : FS := (dSeq (dAsg (dBin gAdd (dVar 7) (dLst (dCons (dBin gAdd (dSl (dVar 3) (dPart (dVar 5)) dNoP) (dSl (dVar 3) dNoP (dPart (dVar 5)))) (dCons (dSl (dBin gAdd (dVar 3) (dTup (dCons (dC (.int 0)) dNil))) dNoP (dPart (dC (.int 10)))) (dCons (dCall 2 F_law_starts_5 (dCons (dVar 1) (dCons (dC (.int 10)) dNil))) dNil))))) (gN 7)) p291b5)
def p291b3 : FS := (dSeq (dAsg (dLst (dCons (dVar 3) (dCons (dUn gRevT (dVar 3)) (dCons (dB gTuple (dCons (dB gSorted (dCons (dB gListN (dCons (dVar 3) dNil)) dNil)) dNil)) (dCons (dVar 6) (dCons (dSl (dVar 3) dNoP (dPart (dBin gAdd (dVar 5) (dC (.int 1))))) (dCons (dSl (dBin gAdd (dVar 3) (dVar 3)) dNoP (dPart (dC (.int 10)))) dNil))))))) (gN 7)) p291b4)
def p291b2 : FS := (dSeq (dAsg (dBin gAdd (dBin gAdd (dSl (dVar 3) dNoP (dPart (dVar 5))) (dTup (dCons (dB gMinL (dCons (dBin gPow (dC (.int 10)) (dC (.int 6))) (dCons (dBin gAdd (dBin gIx (dVar 3) (dVar 5)) (dC (.int 1))) dNil))) dNil))) (dSl (dVar 3) (dPart (dBin gAdd (dVar 5) (dC (.int 1)))) dNoP)) (gN 6)) p291b3)
def p291b1 : FS := (dSeq (dPar 4 5 (dCons (dMake "Party" F_Party_init (dCons (dVar 3) dNil)) (dCons (dCallW F_law_next (dCons (dVar 1) (dCons (dB gLen (dCons (dVar 3) dNil)) dNil))) dNil))) p291b2)
def p291b0 : FS := (dSeq (dAsg (dCall 2 F_law_starts_5 (dCons (dVar 1) (dCons (dC (.int 10)) dNil))) (gN 3)) p291b1)
def p291 : FS := (dSeq (dFor (dRng1 (dCons (dC (.int 8)) dNil)) (gN 2) p291b0) p292)
abbrev e29 (y0 y2 : Option D) (st : List Int) (kk : Nat) (sp : Int) (y6 y7 y8 y9 y10 y11 y12 : Option D) : Rho := [y0, some (.cell 1), y2, some (tkD st), some (.cell kk), some (.int sp), y6, y7, y8, y9, y10, y11, y12]
def Row (d : D) : Prop := ∃ ns, d = tkD ns ∧ 1 ≤ ns.length ∧ ns.length ≤ 10 ∧ InB ns
theorem Row.st {ns : List Int} (h1 : 1 ≤ ns.length) (h2 : ns.length ≤ 10) (h : InB ns) : isSt (tkD ns) = true := isSt_of h1 h2 h
theorem gv_bl (b : Bool) : Gv 0 0 (.bl b) := by cases b <;> exact ⟨⟨_, rfl, Rb.Nice.bool⟩, rfl, rfl, rfl⟩
theorem gv_bls {bs : List Bool} (h : bs.length ≤ 10) : Gv 1 20 (.lst true (bs.map D.bl)) := Gv.lst (k := 0) (n := 0) (fun x hx => by
  obtain ⟨b, _, rfl⟩ := List.mem_map.mp hx
  exact gv_bl b) (by rw [List.length_map]; omega)
theorem same_rep {fa fb : FE} {ρ : Rho} {S : Sto} {De : DEnds} {k n : Nat} {x : D} (g : Gv k n x) (ha : ∀ K : QD, K x S → fa ρ S K noE) (hb : ∀ K : QD, K x S → fb ρ S K noE) (q : De.nx ρ S) (hk : k ≤ 20 := by decide) (hn : n ≤ 100000 := by decide) :
    dIfS (dTest (dBin iNe (dB iRepr (dCons fa dNil)) (dB iRepr (dCons fb dNil)))) (dRet (dC (.bl false))) dSkip ρ S De noE := by
  refine ha _ (g.rep (hb _ (g.rep (ne_str rfl ?_) hk hn)) hk hn)
  exact q
section
variable {S T : Sto} {N : Int} {De : DEnds} {st : List Int} {kk : Nat} {sp : Int} {y0 y2 y6 y7 y8 y9 y10 y11 y12 : Option D}
/-- the last test of a turn -/
theorem b9_ok (hk : S[kk]? = some (.ins "Party" (ptyF st))) (hb : InB st) (hl : st.length ≤ 10) (q : De.nx (e29 y0 y2 st kk sp y6 y7 y8 y9 y10 y11 y12) S) : p291b9 (e29 y0 y2 st kk sp y6 y7 y8 y9 y10 y11 y12) S De noE := by
  have g : Gv 1 30 (tkD st) := Gv.ints (fun i hi => by have := hb i hi; omega) (by omega)
  unfold p291b9
  refine same_rep g (fun K hK => ?_) (fun K hK => ?_) q
  · exact onS (ins_cell hk) (onS (a := F_Party_starts) rfl (starts_ok27 hk hK))
  · exact hK
/-- what is no party -/
def NoP (S : Sto) (d : D) : Prop := insOf S d = none ∧ (isA .int S d).isSome = true
theorem b8b_ok {d : D} (hk : S[kk]? = some (.ins "Party" (ptyF st))) (hd : NoP S d) (q : De.nx (e29 y0 y2 st kk sp y6 y7 y8 y9 y10 y11 (some d)) S) : p291b8b (e29 y0 y2 st kk sp y6 y7 y8 y9 y10 y11 (some d)) S De noE := by
  unfold p291b8b
  refine same_rep (gv_bls (bs := [false, false, true]) (by decide)) (fun K hK => ?_) (fun K hK => ?_) q
  · refine onS (ins_cell hk) ⟨hd.2, onS (a := F_Party_eq_2) rfl (pty29_no hd.1 hd.2 ?_)⟩
    refine onS (ins_cell hk) ⟨hd.2, onS (a := F_Party_eq_2) rfl (pty29_no hd.1 hd.2 ?_)⟩
    refine onS (ins_cell hk) ⟨hd.2, onS (a := F_Party_eq_2) rfl (pty29_no hd.1 hd.2 ?_)⟩
    exact ⟨szr rfl, hK⟩
  · exact ⟨szr rfl, hK⟩
theorem noP_of {d : D} (h : (toPy d).isSome = true) : NoP S d := by
  cases d with
  | cell n => cases h
  | glo x => cases h
  | ty n => cases h
  | ins x fs => cases h
  | exc x fs => cases h
  | kls xs => cases h
  | _ => exact ⟨rfl, rfl⟩
theorem b7b_ok {d : D} (hk : S[kk]? = some (.ins "Party" (ptyF st))) (hb : InB st) (hd : (toPy d).isSome = true) (q : ∀ y10, De.nx (e29 y0 y2 st kk sp y6 y7 y8 y9 y10 y11 (some d)) S) : p291b7b0 (e29 y0 y2 st kk sp y6 y7 y8 y9 y10 y11 (some d)) S De noE := by
  unfold p291b7b0
  refine isnum29 hd ?_
  have fin : p291b7b1 (e29 y0 y2 st kk sp y6 y7 y8 y9 (some (.bl (inV29 st d))) y11 (some d)) S De noE := by
    unfold p291b7b1
    refine same_rep (gv_bls (bs := [inV29 st d, !inV29 st d]) (by show 2 ≤ 10; decide)) (fun K hK => ?_) (fun K hK => ?_) (q _)
    · refine onS (ins_cell hk) (onS (a := F_Party_contains) rfl (contains29 hk hb hd ?_))
      refine onS (ins_cell hk) (onS (a := F_Party_contains) rfl (contains29 hk hb hd ?_))
      exact ⟨szr rfl, hK⟩
    · exact ⟨szr rfl, hK⟩
  cases d with
  | int i =>
    dsimp only [onBl, isI29]
    refine ifT rfl ?_
    dsimp only [dBin, dB, dCons, dNil, dVar]
    refine onS (a := D.int i) rfl (onS (a := tkD st) rfl ?_)
    unfold gListN
    refine onS (a := st.map D.int) rfl ?_
    unfold gIn
    refine onS (a := st.map D.int) rfl ?_
    refine onS (intsOf_map st) ?_
    exact fin
  | _ => exact fin
end
end Pu
namespace Pu
open PySem L2 Rb Gm TL
theorem sq29 {f g : FS} {ρ : Rho} {S : Sto} {De : DEnds} {Ed : ED} (h : f ρ S { De with nx := fun ρ' S' => g ρ' S' De Ed } Ed) : dSeq f g ρ S De Ed := h
theorem listN29 {i : Nat} {ρ : Rho} {S : Sto} {Q : QD} {Ed : ED} {ms : List Int} (g : getV ρ i = some (tkD ms)) (q : Q (.lst true (ms.map D.int)) S) : dB gListN (dCons (dVar i) dNil) ρ S Q Ed := by
  refine onS g ?_
  exact q
theorem sortL29 {i : Nat} {ρ : Rho} {S : Sto} {Q : QD} {Ed : ED} {ms : List Int} (g : getV ρ i = some (tkD ms)) (q : Q (.lst false ((srt ms).map D.int)) S) : dB gSorted (dCons (dB gListN (dCons (dVar i) dNil)) dNil) ρ S Q Ed := by
  refine onS g ?_
  exact Or.inl ⟨ms, rfl, q⟩
theorem ixI29 {i j : Nat} {ρ : Rho} {S : Sto} {Q : QD} {Ed : ED} {ms : List Int} {x : Int} {f : FE} (g : getV ρ i = some (tkD ms)) (hf : ∀ K : QD, K (.int (j : Int)) S → f ρ S K Ed) (h : ms[j]? = some x) (q : Q (.int x) S) : dBin gIx (dVar i) f ρ S Q Ed := by
  refine onS g (hf _ ?_)
  show onSome (atI (ms.map D.int) (j : Int)) _
  exact onS (atI_nat (j := j) (by rw [List.getElem?_map, h]; rfl)) q
theorem strO29 {i k : Nat} {ρ : Rho} {S : Sto} {Q : QD} {Ed : ED} {ms : List Int} (g : getV ρ i = some (.cell k)) (hk : S[k]? = some (.ins "Party" (ptyF ms))) (hb : InB ms) (hl : ms.length ≤ 30) (q : Q (.str (ptx ms)) S) : dB (gStrO [("Party", F_Party_str)]) (dCons (dVar i) dNil) ρ S Q Ed := by
  refine onS g ?_
  exact onS (ins_cell hk) (onS (a := F_Party_str) rfl (pstr_ok hk hb hl q))
section
variable {S T : Sto} {N : Int} {De : DEnds} {st ms : List Int} {kk j : Nat} {sp : Int} {y0 y2 y6 y7 y8 y9 y10 y11 y12 : Option D}
theorem b5b2_ok (hj : S[j]? = some (.ins "Party" (ptyF ms))) (hb : InB ms) (hl : ms.length ≤ 10) (q : De.nx (e29 y0 y2 st kk sp y6 y7 (some (tkD ms)) (some (.cell j)) y10 y11 y12) S) : p291b5b2 (e29 y0 y2 st kk sp y6 y7 (some (tkD ms)) (some (.cell j)) y10 y11 y12) S De noE := by
  unfold p291b5b2
  refine onS (ins_cell hj) (onS (a := F_Party_str) rfl (pstr_ok hj hb (by omega) ?_))
  refine ⟨⟨?_, rfl⟩, ?_⟩
  · show (belowAll 0 (ms.map D.int) && true) = true
    rw [below_ints]
    rfl
  refine ltext29_ok hb (by omega) ⟨rfl, ne_str rfl ?_⟩
  refine onS (ins_cell hj) (onS (a := F_Party_starts) rfl (starts_ok27 hj ?_))
  have sh : Shp 1 (.tup (ms.map D.int)) := Shp.tup fun d hd => by
    obtain ⟨i, _, rfl⟩ := List.mem_map.mp hd
    exact Shp.int
  refine eq_same sh rfl ?_
  exact q
theorem b5b1_ok (hk : S[kk]? = some (.ins "Party" (ptyF st))) (hj : S[j]? = some (.ins "Party" (ptyF ms))) (hb : InB ms) (hl : ms.length ≤ 10) (q : De.nx (e29 y0 y2 st kk sp y6 y7 (some (tkD ms)) (some (.cell j)) (some (.bl (decide (srt ms = srt st)))) y11 y12) S) :
    p291b5b1 (e29 y0 y2 st kk sp y6 y7 (some (tkD ms)) (some (.cell j)) (some (.bl (decide (srt ms = srt st)))) y11 y12) S De noE := by
  unfold p291b5b1
  have ec : decide (srt st = srt ms) = decide (srt ms = srt st) := decide_eq_decide.mpr eq_comm
  refine sq29 (same_rep (gv_bls (bs := [decide (srt ms = srt st), !decide (srt ms = srt st), decide (srt ms = srt st)]) (by show 3 ≤ 10; decide)) (fun K hK => ?_) (fun K hK => ?_) ?_)
  · refine onS (ins_cell hk) (onS (ins_cell hj) ⟨rfl, onS (a := F_Party_eq_2) rfl (pty29_eq hk hj ?_)⟩)
    refine onS (ins_cell hk) (onS (ins_cell hj) ⟨rfl, onS (a := F_Party_eq_2) rfl (pty29_eq hk hj ?_)⟩)
    refine onS (ins_cell hj) (onS (ins_cell hk) ⟨rfl, onS (a := F_Party_eq_2) rfl (pty29_eq hj hk ?_)⟩)
    rw [ec]
    exact ⟨szr rfl, hK⟩
  · exact ⟨szr rfl, hK⟩
  · exact b5b2_ok hj hb hl q
theorem b5turn_ok (m1 : 1 ≤ ms.length) (hl : ms.length ≤ 10) (hb : InB ms) (dk : Nk S N T) (hk : S[kk]? = some (.ins "Party" (ptyF st))) (q : ∀ S' T' y9 y10, Nk S' N T' → S'[kk]? = some (.ins "Party" (ptyF st)) → De.nx (e29 y0 y2 st kk sp y6 y7 (some (tkD ms)) y9 y10 y11 y12) S') :
    p291b5b0 (e29 y0 y2 st kk sp y6 y7 (some (tkD ms)) y9 y10 y11 y12) S De noE := by
  unfold p291b5b0
  refine pty29_new (Row.st m1 hl hb) ⟨rfl, ?_⟩
  have d1 := dk.snoc (.ins "Party" (ptyF ms))
  have hj : (S ++ [Cl.ins "Party" (ptyF ms)])[S.length]? = some (.ins "Party" (ptyF ms)) := by rw [List.getElem?_append_right (Nat.le_refl _), Nat.sub_self]; rfl
  have hk1 : (S ++ [Cl.ins "Party" (ptyF ms)])[kk]? = some (.ins "Party" (ptyF st)) := by rw [List.getElem?_append_left (List.getElem?_eq_some_iff.mp hk).1]; exact hk
  generalize S.length = j at hj ⊢
  generalize S ++ [Cl.ins "Party" (ptyF ms)] = S1 at d1 hj hk1 ⊢
  dsimp only [dCons, dBin, dNil]
  refine sortL29 (ms := ms) rfl (sortL29 (ms := st) rfl (eqL_ints ?_))
  show p291b5b1 (e29 y0 y2 st kk sp y6 y7 (some (tkD ms)) (some (.cell j)) (some (.bl (decide (srt ms = srt st)))) y11 y12) S1 De noE
  exact b5b1_ok hk1 hj hb hl (q _ _ _ _ d1 hk1)
/-- the rows, one behind the other -/
theorem b5loop_ok {rows : List D} (hr : ∀ d ∈ rows, Row d) (dk : Nk S N T) (hk : S[kk]? = some (.ins "Party" (ptyF st))) (q : ∀ S' T' y8 y9 y10, Nk S' N T' → S'[kk]? = some (.ins "Party" (ptyF st)) → De.nx (e29 y0 y2 st kk sp y6 y7 y8 y9 y10 y11 y12) S') :
    dLoop (gN 8) p291b5b0 [] rows (e29 y0 y2 st kk sp y6 y7 y8 y9 y10 y11 y12) S De noE := by
  refine for_inv (src := []) rows (fun i ρ S' => ∃ T' z8 z9 z10, ρ = e29 y0 y2 st kk sp y6 y7 z8 z9 z10 y11 y12 ∧ Nk S' N T' ∧ S'[kk]? = some (.ins "Party" (ptyF st))) ⟨_, _, _, _, rfl, dk, hk⟩ ?_ ?_
  · rintro i x ρ S' K hx hK ⟨T', z8, z9, z10, rfl, d', k'⟩
    obtain ⟨ms, rfl, m1, m2, mb⟩ := hr x (List.mem_of_getElem? hx)
    exact b5turn_ok m1 m2 mb d' k' fun S2 T2 y9 y10 d2 k2 => hK _ _ ⟨_, _, _, _, rfl, d2, k2⟩
  · rintro ρ S' ⟨T', z8, z9, z10, rfl, d', k'⟩
    exact q _ _ _ _ _ d' k'
theorem b8_ok (n1 : 1 ≤ st.length) (hl : st.length ≤ 10) (hb : InB st) (dk : Nk S N T) (hN : N ≤ 900000) (hk : S[kk]? = some (.ins "Party" (ptyF st))) (k2 : 2 ≤ kk) (q : ∀ S' y12, Nk S' (N + 1) T → De.nx (e29 y0 y2 st kk sp y6 y7 y8 y9 y10 y11 y12) S') : p291b8 (e29 y0 y2 st kk sp y6 y7 y8 y9 y10 y11 y12) S De noE := by
  have s0 : st[0]? = some st[0] := List.getElem?_eq_getElem (by omega)
  have pT : (toPy (tkD st)).isSome = true := by
    show ((toPyAll (st.map D.int)).map PyData.tuple).isSome = true
    rw [py_ints]
    rfl
  have pL : (toPy (.lst true (st.map D.int))).isSome = true := by
    show ((toPyAll (st.map D.int)).map PyData.list).isSome = true
    rw [py_ints]
    rfl
  unfold p291b8
  dsimp only [dSeq, dFor, dItS, dLst, dCons]
  refine onS (a := tkD st) rfl ?_
  refine listN29 (ms := st) rfl ?_
  dsimp only [dC]
  refine ixI29 (ms := st) (j := 0) (x := st[0]) rfl (fun K hK => hK) s0 ?_
  refine strO29 (ms := st) (k := kk) rfl hk hb (by omega) ?_
  refine onS (a := D.cell kk) rfl ?_
  refine ⟨szr rfl, ?_⟩
  refine odd27_ok dk (by omega) fun o S1 go d1 => ⟨szr rfl, ?_⟩
  have hk1 := nk_same dk d1 k2 hk
  have hall : ∀ d ∈ [tkD st, .lst true (st.map D.int), .non, .int st[0], .str (ptx st), .lst true [.cell kk], o], NoP S1 d := fun d hd => by
    simp only [List.mem_cons, List.not_mem_nil, or_false] at hd
    rcases hd with rfl | rfl | rfl | rfl | rfl | rfl | rfl
    · exact noP_of pT
    · exact noP_of pL
    · exact ⟨rfl, rfl⟩
    · exact ⟨rfl, rfl⟩
    · exact ⟨rfl, rfl⟩
    · exact ⟨rfl, rfl⟩
    · exact noP_of go.isS
  refine onS (a := [tkD st, .lst true (st.map D.int), .non, .int st[0], .str (ptx st), .lst true [.cell kk], o]) rfl ?_
  generalize [tkD st, .lst true (st.map D.int), .non, .int st[0], .str (ptx st), .lst true [.cell kk], o] = L at hall ⊢
  refine for_inv (src := []) L (fun i ρ S' => ∃ z12, ρ = e29 y0 y2 st kk sp y6 y7 y8 y9 y10 y11 z12 ∧ S' = S1) ⟨_, rfl, rfl⟩ ?_ ?_
  · rintro i x ρ S' K hx hK ⟨z12, rfl, rfl⟩
    exact b8b_ok hk1 (hall x (List.mem_of_getElem? hx)) (hK _ _ ⟨_, rfl, rfl⟩)
  · rintro ρ S' ⟨z12, rfl, rfl⟩
    exact b9_ok hk1 hb hl (q _ _ d1)
end
end Pu
namespace Pu
open PySem L2 Rb Gm TL
/-! ## expressions that change nothing: what they come to -/
def EvX (f : FE) (ρ : Rho) (S : Sto) (d : D) : Prop := ∀ K : QD, K d S → f ρ S K noE
theorem add_lst29 {f g : Bool} {xs ys : List D} {S : Sto} {Q : QD} (l : xs.length + ys.length ≤ 100000) (q : Q (.lst false (xs ++ ys)) S) : gAdd (.lst f xs) (.lst g ys) S Q := ⟨szd l, q⟩
section
variable {f g : FE} {ρ : Rho} {S : Sto} {ms ns : List Int} {i j : Nat} {x y : Int} {d : D}
theorem EvX.to (h : EvX f ρ S d) {Q : QD} (q : Q d S) : f ρ S Q noE := h Q q
theorem ev_var (e : getV ρ i = some d) : EvX (dVar i) ρ S d := fun K q => onS e q
theorem bin_go {g2 : G2} {Q : QD} {Ed : ED} (h : f ρ S (fun x S1 => g ρ S1 (fun y S2 => g2 x y S2 Q) Ed) Ed) : dBin g2 f g ρ S Q Ed := h
theorem ev_c : EvX (dC d) ρ S d := fun K q => q
theorem ev_sl (h : EvX f ρ S (tkD ms)) (hg : EvX g ρ S (.int (j : Int))) : EvX (dSl f (dPart g) dNoP) ρ S (tkD (ms.drop j)) := fun K q => by
  refine h.to (hg.to ?_)
  show K (.tup (cutD (ms.map D.int) (some (j : Int)) none)) S
  rw [cut_from, ← List.map_drop]
  exact q
theorem ev_sr (h : EvX f ρ S (tkD ms)) (hg : EvX g ρ S (.int (j : Int))) : EvX (dSl f dNoP (dPart g)) ρ S (tkD (ms.take j)) := fun K q => by
  refine h.to (hg.to ?_)
  show K (.tup (cutD (ms.map D.int) none (some (j : Int)))) S
  rw [cut_to, ← List.map_take]
  exact q
theorem ev_addT (h : EvX f ρ S (tkD ms)) (hg : EvX g ρ S (tkD ns)) (l : ms.length + ns.length ≤ 1000) : EvX (dBin gAdd f g) ρ S (tkD (ms ++ ns)) := fun K q => by
  refine h.to (hg.to ⟨szd (by rw [List.length_map, List.length_map]; omega), ?_⟩)
  rw [← List.map_append]
  exact q
theorem ev_ix (h : EvX f ρ S (tkD ms)) (hg : EvX g ρ S (.int (j : Int))) (e : ms[j]? = some x) : EvX (dBin gIx f g) ρ S (.int x) := fun K q => by
  refine h.to (hg.to ?_)
  show onSome (atI (ms.map D.int) (j : Int)) _
  exact onS (atI_nat (j := j) (by rw [List.getElem?_map, e]; rfl)) q
theorem ev_add (h : EvX f ρ S (.int x)) (hg : EvX g ρ S (.int y)) : EvX (dBin gAdd f g) ρ S (.int (x + y)) := fun K q => h.to (hg.to q)
theorem ev_addN (h : EvX f ρ S (.int (i : Int))) (hg : EvX g ρ S (.int (j : Int))) : EvX (dBin gAdd f g) ρ S (.int ((i + j : Nat) : Int)) := fun K q => by
  refine h.to (hg.to ?_)
  show K (.int ((i : Int) + (j : Int))) S
  rw [← Int.natCast_add]
  exact q
theorem ev_tup1 (h : EvX f ρ S (.int x)) : EvX (dTup (dCons f dNil)) ρ S (tkD [x]) := fun K q => h.to ⟨szr rfl, q⟩
theorem ev_srt (h : EvX f ρ S (tkD ms)) : EvX (dB gTuple (dCons (dB gSorted (dCons (dB gListN (dCons f dNil)) dNil)) dNil)) ρ S (tkD (srt ms)) := fun K q => by
  refine h.to ?_
  refine Or.inl ⟨ms, rfl, ?_⟩
  exact q
theorem ev_rev (h : EvX f ρ S (tkD ms)) : EvX (dUn gRevT f) ρ S (tkD ms.reverse) := fun K q => by
  refine h.to ?_
  show K (.tup (ms.map D.int).reverse) S
  rw [← List.map_reverse]
  exact q
theorem ev_min (h : EvX f ρ S (.int x)) (hg : EvX g ρ S (.int y)) : EvX (dB gMinL (dCons f (dCons g dNil))) ρ S (.int (if y < x then y else x)) := fun K q => h.to (hg.to q)
theorem ev_10_6 : EvX (dBin gPow (dC (.int 10)) (dC (.int 6))) ρ S (.int 1000000) := fun K q => by
  refine ⟨⟨by decide, by decide, by decide⟩, ?_⟩
  have e6 : (10 : Int) ^ (6 : Int).toNat = 1000000 := by decide
  show K (.int ((10 : Int) ^ (6 : Int).toNat)) S
  rw [e6]
  exact q
theorem ev_str (h : EvX f ρ S (.int x)) (l : x.natAbs < 2 ^ 64) : EvX (dB gStr (dCons f dNil)) ρ S (.str (toString x)) := fun K q => h.to ⟨Nat.lt_of_lt_of_le l (by decide +kernel), q⟩
abbrev EvA (f : FA) (ρ : Rho) (S : Sto) (ds : List D) : Prop := ∀ K : List D → Sto → Prop, K ds S → f ρ S K noE
theorem ea_nil : EvA dNil ρ S [] := fun K q => q
theorem ea_cons {fa : FA} {ds : List D} (h : EvX f ρ S d) (ha : EvA fa ρ S ds) : EvA (dCons f fa) ρ S (d :: ds) := fun K q => h.to (ha _ q)
theorem ev_lst {fa : FA} {ds : List D} (ha : EvA fa ρ S ds) (l : ds.length ≤ 1000) : EvX (dLst fa) ρ S (.lst true ds) := fun K q => ha _ ⟨szd (by omega), q⟩
theorem ev_addL {a b : Bool} {xs ys : List D} (h : EvX f ρ S (.lst a xs)) (hg : EvX g ρ S (.lst b ys)) (l : xs.length + ys.length ≤ 1000) : EvX (dBin gAdd f g) ρ S (.lst false (xs ++ ys)) := fun K q => h.to (hg.to (add_lst29 (by omega) q))
theorem ev_listN (h : EvX f ρ S (tkD ms)) : EvX (dB gListN (dCons f dNil)) ρ S (.lst true (ms.map D.int)) := fun K q => h.to (show K _ S from q)
theorem ev_neg (h : EvX f ρ S (.int x)) : EvX (dUn gNeg f) ρ S (.int (-x)) := fun K q => h.to q
theorem asg_ev {De : DEnds} {G : FG} {R : FS} (h : EvX f ρ S d) (q : G d ρ S (fun ρ' S' => R ρ' S' De noE) noE) : dSeq (dAsg f G) R ρ S De noE := h.to q
end
section
variable {S T : Sto} {N : Int} {De : DEnds} {st ms : List Int} {kk j : Nat} {sp : Int} {y0 y2 y3 y4 y5 y6 y7 y8 y9 y10 y11 y12 : Option D}
theorem InB.app {a b : List Int} (ha : InB a) (hb : InB b) : InB (a ++ b) := fun i hi => (List.mem_append.mp hi).elim (ha i) (hb i)
theorem InB.sub {a b : List Int} (ha : InB a) (h : ∀ i ∈ b, i ∈ a) : InB b := fun i hi => ha i (h i hi)
theorem b7_ok {f : Bool} {L : List D} (hL : ∀ d ∈ L, (toPy d).isSome = true) (lL : L.length ≤ 100) (n1 : 1 ≤ st.length) (hl : st.length ≤ 10) (hb : InB st) (hj : j < st.length) (dk : Nk S N T) (hN : N ≤ 800000) (hk : S[kk]? = some (.ins "Party" (ptyF st))) (k2 : 2 ≤ kk) (q : ∀ S' y10 y12, Nk S' (N + 2) T → De.nx (e29 y0 y2 st kk (j : Int) y6 y7 y8 y9 y10 (some (.lst f L)) y12) S') :
    p291b7 (e29 y0 y2 st kk (j : Int) y6 y7 y8 y9 y10 (some (.lst f L)) y12) S De noE := by
  have sj : st[j]? = some st[j] := List.getElem?_eq_getElem hj
  unfold p291b7
  dsimp only [dSeq, dFor, dItS, dBin, dLst, dCons]
  refine onS (a := D.lst f L) rfl ?_
  refine odd27_ok dk (by omega) fun o S1 go d1 => ?_
  have hk1 := nk_same dk d1 k2 hk
  refine EvX.to (ev_ix (ms := st) (j := j) (ev_var rfl) (ev_var rfl) sj) ?_
  refine ⟨szr rfl, ?_⟩
  refine ⟨⟨by decide, by decide, by decide⟩, ?_⟩
  refine ⟨szr rfl, ?_⟩
  refine add_lst29 (xs := L) (ys := [o, .lst true [.int st[j]], .int (10 ^ (39 : Int).toNat)]) (by show L.length + 3 ≤ 100000; omega) ?_
  refine onS (a := L ++ [o, .lst true [.int st[j]], .int (10 ^ (39 : Int).toNat)]) rfl ?_
  have hM : ∀ d ∈ L ++ [o, .lst true [.int st[j]], .int (10 ^ (39 : Int).toNat)], (toPy d).isSome = true := fun d hd => by
    rcases List.mem_append.mp hd with h | h
    · exact hL d h
    · simp only [List.mem_cons, List.not_mem_nil, or_false] at h
      rcases h with rfl | rfl | rfl
      · exact go.isS
      · rfl
      · rfl
  generalize L ++ [o, .lst true [.int st[j]], .int (10 ^ (39 : Int).toNat)] = M at hM ⊢
  refine for_inv (src := []) M (fun i ρ S' => ∃ z10 z12, ρ = e29 y0 y2 st kk (j : Int) y6 y7 y8 y9 z10 (some (.lst f L)) z12 ∧ S' = S1) ⟨_, _, rfl, rfl⟩ ?_ ?_
  · rintro i x ρ S' K hx hK ⟨z10, z12, rfl, rfl⟩
    exact b7b_ok hk1 hb (hM x (List.mem_of_getElem? hx)) fun z => hK _ _ ⟨_, _, rfl, rfl⟩
  · rintro ρ S' ⟨z10, z12, rfl, rfl⟩
    exact b8_ok n1 hl hb d1 (by omega) hk1 k2 fun S2 z d2 => q _ _ _ (d2.le (by omega))
theorem b6_ok (n1 : 1 ≤ st.length) (hl : st.length ≤ 10) (hb : InB st) (hj : j < st.length) (dk : Nk S N T) (hN : N ≤ 800000) (hk : S[kk]? = some (.ins "Party" (ptyF st))) (k2 : 2 ≤ kk) (q : ∀ S' y10 y11 y12, Nk S' (N + 2) T → De.nx (e29 y0 y2 st kk (j : Int) y6 y7 y8 y9 y10 y11 y12) S') :
    p291b6 (e29 y0 y2 st kk (j : Int) y6 y7 y8 y9 y10 y11 y12) S De noE := by
  have sj : st[j]? = some st[j] := List.getElem?_eq_getElem hj
  have bj := hb _ (List.getElem_mem hj)
  have ix : EvX (dBin gIx (dVar 3) (dVar 5)) (e29 y0 y2 st kk (j : Int) y6 y7 y8 y9 y10 y11 y12) S (.int st[j]) := ev_ix (ms := st) (j := j) (ev_var rfl) (ev_var rfl) sj
  have ixs := ev_str ix (by omega)
  have ixt := ev_tup1 ix
  have ixa := ev_add (g := dC (.int 1)) ix ev_c
  generalize st[j] = x at ixs ixt ixa ix bj
  have key := ev_addL (ev_listN (f := dVar 3) (ρ := e29 y0 y2 st kk (j : Int) y6 y7 y8 y9 y10 y11 y12) (S := S) (ms := st) (ev_var rfl)) (ev_lst (ea_cons ixa (ea_cons (ev_neg (x := 1) (f := dC (.int 1)) ev_c) (ea_cons (ev_c (d := .int 0)) (ea_cons (ev_c (d := .int 1)) (ea_cons (ev_c (d := .bl true)) (ea_cons (ev_c (d := .bl false)) (ea_cons (ev_c (d := .non)) (ea_cons ixs (ea_cons ixt ea_nil)))))))))
    (by show 9 ≤ 1000; decide)) (by rw [List.length_map]; show st.length + 9 ≤ 1000; omega)
  have hM : ∀ d ∈ st.map D.int ++ [.int (x + 1), .int (-1), .int 0, .int 1, .bl true, .bl false, .non, .str (toString x), tkD [x]], (toPy d).isSome = true := fun d hd => by
    rcases List.mem_append.mp hd with h | h
    · obtain ⟨i, _, rfl⟩ := List.mem_map.mp h
      rfl
    · simp only [List.mem_cons, List.not_mem_nil, or_false] at h
      rcases h with rfl | rfl | rfl | rfl | rfl | rfl | rfl | rfl | rfl <;> rfl
  have lM : (st.map D.int ++ [.int (x + 1), .int (-1), .int 0, .int 1, .bl true, .bl false, .non, .str (toString x), tkD [x]]).length ≤ 100 := by
    rw [List.length_append, List.length_map]
    show st.length + 9 ≤ 100
    omega
  generalize st.map D.int ++ [.int (x + 1), .int (-1), .int 0, .int 1, .bl true, .bl false, .non, .str (toString x), tkD [x]] = M at hM lM key
  unfold p291b6
  refine asg_ev key ?_
  show p291b7 (e29 y0 y2 st kk (j : Int) y6 y7 y8 y9 y10 (some (.lst false M)) y12) S De noE
  exact b7_ok hM lM n1 hl hb hj dk hN hk k2 fun S' z10 z12 d => q _ _ _ _ d
theorem b5_ok {f : Bool} {rows : List D} (hr : ∀ d ∈ rows, Row d) (n1 : 1 ≤ st.length) (hl : st.length ≤ 10) (hb : InB st) (hj : j < st.length) (dk : Nk S N T) (hN : N ≤ 800000) (hk : S[kk]? = some (.ins "Party" (ptyF st))) (k2 : 2 ≤ kk) (q : ∀ S' T' y8 y9 y10 y11 y12, Nk S' (N + 2) T' → De.nx (e29 y0 y2 st kk (j : Int) y6 (some (.lst f rows)) y8 y9 y10 y11 y12) S') :
    p291b5 (e29 y0 y2 st kk (j : Int) y6 (some (.lst f rows)) y8 y9 y10 y11 y12) S De noE := by
  unfold p291b5
  dsimp only [dSeq, dFor, dItS, dVar]
  refine onS (a := D.lst f rows) rfl (onS (a := rows) rfl ?_)
  refine b5loop_ok hr dk hk fun S' T' z8 z9 z10 d' k' => ?_
  exact b6_ok n1 hl hb hj d' hN k' k2 fun S2 z10 z11 z12 d2 => q _ _ _ _ _ _ _ d2
theorem b4_ok {f : Bool} {rows : List D} (hr : ∀ d ∈ rows, Row d) (lr : rows.length ≤ 10) (n1 : 1 ≤ st.length) (hl : st.length ≤ 10) (hb : InB st) (hj : j < st.length) (dk : Nk S N T) (hN : N ≤ 700000) (hk : S[kk]? = some (.ins "Party" (ptyF st))) (k2 : 2 ≤ kk) (q : ∀ S' T' y7 y8 y9 y10 y11 y12, Nk S' (N + 52) T' → De.nx (e29 y0 y2 st kk (j : Int) y6 y7 y8 y9 y10 y11 y12) S') :
    p291b4 (e29 y0 y2 st kk (j : Int) y6 (some (.lst f rows)) y8 y9 y10 y11 y12) S De noE := by
  unfold p291b4
  have ev3 : EvX (dVar 3) (e29 y0 y2 st kk (j : Int) y6 (some (.lst f rows)) y8 y9 y10 y11 y12) S (tkD st) := ev_var rfl
  have ev5 : EvX (dVar 5) (e29 y0 y2 st kk (j : Int) y6 (some (.lst f rows)) y8 y9 y10 y11 y12) S (.int (j : Int)) := ev_var rfl
  have r1 := ev_addT (ev_sl ev3 ev5) (ev_sr ev3 ev5) (by rw [List.length_drop, List.length_take]; omega)
  have r2 := ev_sr (j := 10) (ev_addT ev3 (ev_tup1 (x := 0) ev_c) (by show st.length + 1 ≤ 1000; omega)) (g := dC (.int 10)) ev_c
  have R1 : Row (tkD (st.drop j ++ st.take j)) := ⟨_, rfl, by rw [List.length_append, List.length_drop, List.length_take]; omega, by rw [List.length_append, List.length_drop, List.length_take]; omega, (hb.sub fun i hi => List.mem_of_mem_drop hi).app (hb.sub fun i hi => List.mem_of_mem_take hi)⟩
  have R2 : Row (tkD ((st ++ [0]).take 10)) := ⟨_, rfl, by rw [List.length_take, List.length_append]; omega, by rw [List.length_take]; omega, (hb.app (b := [0]) fun i hi => by rw [List.mem_singleton.mp hi]; decide).sub fun i hi => List.mem_of_mem_take hi⟩
  dsimp only [dSeq, dAsg]
  refine bin_go ?_
  refine EvX.to (d := .lst f rows) (ev_var rfl) ?_
  dsimp only [dLst, dCons]
  refine r1.to ?_
  refine r2.to ?_
  refine ⟨⟨rfl, dk.bel⟩, starts5_ok dk.take2.1 (by omega) fun st2 S0 m1 m2 sb d1 ll => ⟨dk.l2 ll, ?_⟩⟩
  replace d1 := dk.back d1
  generalize S0 ++ List.drop 2 S = S1 at d1
  have hk1 := nk_same dk d1 k2 hk
  refine ⟨szr rfl, ?_⟩
  refine add_lst29 (xs := rows) (ys := [tkD (st.drop j ++ st.take j), tkD ((st ++ [0]).take 10), tkD st2]) (by show rows.length + 3 ≤ 100000; omega) ?_
  have hr2 : ∀ d ∈ rows ++ [tkD (st.drop j ++ st.take j), tkD ((st ++ [0]).take 10), tkD st2], Row d := fun d hd => by
    rcases List.mem_append.mp hd with h | h
    · exact hr d h
    · simp only [List.mem_cons, List.not_mem_nil, or_false] at h
      rcases h with rfl | rfl | rfl
      · exact R1
      · exact R2
      · exact ⟨_, rfl, m1, m2, sb⟩
  generalize rows ++ [tkD (st.drop j ++ st.take j), tkD ((st ++ [0]).take 10), tkD st2] = M at hr2 ⊢
  show p291b5 (e29 y0 y2 st kk (j : Int) y6 (some (.lst false M)) y8 y9 y10 y11 y12) S1 De noE
  exact b5_ok hr2 n1 hl hb hj d1 (by omega) hk1 k2 fun S' T' z8 z9 z10 z11 z12 d' => q _ _ _ _ _ _ _ _ (d'.le (by omega))
theorem b3_ok {near : List Int} (hnr : Row (tkD near)) (n1 : 1 ≤ st.length) (hl : st.length ≤ 10) (hb : InB st) (hj : j < st.length) (dk : Nk S N T) (hN : N ≤ 700000) (hk : S[kk]? = some (.ins "Party" (ptyF st))) (k2 : 2 ≤ kk) (q : ∀ S' T' y7 y8 y9 y10 y11 y12, Nk S' (N + 52) T' → De.nx (e29 y0 y2 st kk (j : Int) (some (tkD near)) y7 y8 y9 y10 y11 y12) S') :
    p291b3 (e29 y0 y2 st kk (j : Int) (some (tkD near)) y7 y8 y9 y10 y11 y12) S De noE := by
  unfold p291b3
  have ev3 : EvX (dVar 3) (e29 y0 y2 st kk (j : Int) (some (tkD near)) y7 y8 y9 y10 y11 y12) S (tkD st) := ev_var rfl
  have ev5 : EvX (dVar 5) (e29 y0 y2 st kk (j : Int) (some (tkD near)) y7 y8 y9 y10 y11 y12) S (.int (j : Int)) := ev_var rfl
  have ev6 : EvX (dVar 6) (e29 y0 y2 st kk (j : Int) (some (tkD near)) y7 y8 y9 y10 y11 y12) S (tkD near) := ev_var rfl
  have r1 := ev_rev ev3
  have r2 := ev_srt ev3
  have r3 := ev_sr ev3 (ev_addN (j := 1) (g := dC (.int 1)) ev5 ev_c)
  have r4 := ev_sr (j := 10) (ev_addT ev3 ev3 (by omega)) (g := dC (.int 10)) ev_c
  have ls := (srt_perm st).length_eq
  have R1 : Row (tkD st.reverse) := ⟨_, rfl, by rw [List.length_reverse]; omega, by rw [List.length_reverse]; omega, hb.sub fun i hi => List.mem_reverse.mp hi⟩
  have R2 : Row (tkD (srt st)) := ⟨_, rfl, by omega, by omega, hb.sub fun i hi => (srt_perm st).mem_iff.mp hi⟩
  have R3 : Row (tkD (st.take (j + 1))) := ⟨_, rfl, by rw [List.length_take]; omega, by rw [List.length_take]; omega, hb.sub fun i hi => List.mem_of_mem_take hi⟩
  have R4 : Row (tkD ((st ++ st).take 10)) := ⟨_, rfl, by rw [List.length_take, List.length_append]; omega, by rw [List.length_take]; omega, (hb.app hb).sub fun i hi => List.mem_of_mem_take hi⟩
  have R0 : Row (tkD st) := ⟨_, rfl, n1, hl, hb⟩
  dsimp only [dSeq, dAsg, dLst, dCons]
  refine ev3.to ?_
  refine r1.to ?_
  refine r2.to ?_
  refine ev6.to ?_
  refine r3.to ?_
  refine r4.to ?_
  refine ⟨szr rfl, ?_⟩
  have hr2 : ∀ d ∈ [tkD st, tkD st.reverse, tkD (srt st), tkD near, tkD (st.take (j + 1)), tkD ((st ++ st).take 10)], Row d := fun d hd => by
    simp only [List.mem_cons, List.not_mem_nil, or_false] at hd
    rcases hd with rfl | rfl | rfl | rfl | rfl | rfl <;> assumption
  have lM : [tkD st, tkD st.reverse, tkD (srt st), tkD near, tkD (st.take (j + 1)), tkD ((st ++ st).take 10)].length ≤ 10 := by show 6 ≤ 10; decide
  generalize [tkD st, tkD st.reverse, tkD (srt st), tkD near, tkD (st.take (j + 1)), tkD ((st ++ st).take 10)] = M at hr2 lM ⊢
  show p291b4 (e29 y0 y2 st kk (j : Int) (some (tkD near)) (some (.lst true M)) y8 y9 y10 y11 y12) S De noE
  exact b4_ok hr2 lM n1 hl hb hj dk hN hk k2 q
theorem b2_ok (n1 : 1 ≤ st.length) (hl : st.length ≤ 10) (hb : InB st) (hj : j < st.length) (dk : Nk S N T) (hN : N ≤ 700000) (hk : S[kk]? = some (.ins "Party" (ptyF st))) (k2 : 2 ≤ kk) (q : ∀ S' T' y6 y7 y8 y9 y10 y11 y12, Nk S' (N + 52) T' → De.nx (e29 y0 y2 st kk (j : Int) y6 y7 y8 y9 y10 y11 y12) S') :
    p291b2 (e29 y0 y2 st kk (j : Int) y6 y7 y8 y9 y10 y11 y12) S De noE := by
  unfold p291b2
  have sj : st[j]? = some st[j] := List.getElem?_eq_getElem hj
  have bj := hb _ (List.getElem_mem hj)
  have ev3 : EvX (dVar 3) (e29 y0 y2 st kk (j : Int) y6 y7 y8 y9 y10 y11 y12) S (tkD st) := ev_var rfl
  have ev5 : EvX (dVar 5) (e29 y0 y2 st kk (j : Int) y6 y7 y8 y9 y10 y11 y12) S (.int (j : Int)) := ev_var rfl
  have ix := ev_ix ev3 ev5 sj
  generalize st[j] = x at ix bj
  have m1 := ev_min ev_10_6 (ev_add (g := dC (.int 1)) ix ev_c)
  have xb : 0 ≤ (if x + 1 < 1000000 then x + 1 else (1000000 : Int)) ∧ (if x + 1 < 1000000 then x + 1 else (1000000 : Int)) ≤ 1000000 := by split <;> omega
  generalize (if x + 1 < 1000000 then x + 1 else (1000000 : Int)) = z at m1 xb
  have r := ev_addT (ev_addT (ev_sr ev3 ev5) (ev_tup1 m1) (by rw [List.length_take]; show _ + 1 ≤ 1000; omega)) (ev_sl ev3 (ev_addN (j := 1) (g := dC (.int 1)) ev5 ev_c)) (by rw [List.length_append, List.length_take, List.length_drop]; show _ + 1 + _ ≤ 1000; omega)
  have R : Row (tkD (st.take j ++ [z] ++ st.drop (j + 1))) := ⟨_, rfl, by rw [List.length_append, List.length_append, List.length_take, List.length_drop]; show 1 ≤ _ + 1 + _; omega, by rw [List.length_append, List.length_append, List.length_take, List.length_drop]; show _ + 1 + _ ≤ 10; omega,
    (((hb.sub fun i hi => List.mem_of_mem_take hi).app (b := [z]) fun i hi => by rw [List.mem_singleton.mp hi]; exact xb).app (hb.sub fun i hi => List.mem_of_mem_drop hi))⟩
  generalize st.take j ++ [z] ++ st.drop (j + 1) = near at r R
  refine r.to (d := tkD near) ?_
  show p291b3 (e29 y0 y2 st kk (j : Int) (some (tkD near)) y7 y8 y9 y10 y11 y12) S De noE
  exact b3_ok R n1 hl hb hj dk hN hk k2 fun S' T' => q _ _ _
theorem b0_ok (dk : Nk S N T) (hN : N ≤ 600000) (q : ∀ S' T' y3 y4 y5 y6 y7 y8 y9 y10 y11 y12, Nk S' (N + 110) T' → De.nx [y0, some (.cell 1), y2, y3, y4, y5, y6, y7, y8, y9, y10, y11, y12] S') :
    p291b0 [y0, some (.cell 1), y2, y3, y4, y5, y6, y7, y8, y9, y10, y11, y12] S De noE := by
  unfold p291b0
  refine ⟨⟨rfl, dk.bel⟩, starts5_ok dk.take2.1 (by omega) fun st S0 m1 m2 sb d1 ll => ⟨dk.l2 ll, ?_⟩⟩
  replace d1 := dk.back d1
  generalize S0 ++ List.drop 2 S = S1 at d1
  show p291b1 [y0, some (.cell 1), y2, some (tkD st), y4, y5, y6, y7, y8, y9, y10, y11, y12] S1 De noE
  unfold p291b1
  refine pty29_new (isSt_of m1 m2 sb) ⟨rfl, ?_⟩
  have d2 := d1.snoc (.ins "Party" (ptyF st))
  have hk1 : (S1 ++ [Cl.ins "Party" (ptyF st)])[S1.length]? = some (.ins "Party" (ptyF st)) := by rw [List.getElem?_append_right (Nat.le_refl _), Nat.sub_self]; rfl
  have k2 : 2 ≤ S1.length := by rw [d1.len]; omega
  have lm : (st.map D.int).length = st.length := List.length_map ..
  generalize S1.length = kk at hk1 k2 ⊢
  generalize S1 ++ [Cl.ins "Party" (ptyF st)] = S2 at d2 hk1 ⊢
  refine next_ok d2 (by omega) (by omega) (by omega) fun sp S3 s0 s1 d3 => ?_
  obtain ⟨j, rfl⟩ : ∃ j : Nat, sp = (j : Int) := ⟨sp.toNat, by omega⟩
  have hk2 := nk_same d2 d3 k2 hk1
  show p291b2 (e29 y0 y2 st kk (j : Int) y6 y7 y8 y9 y10 y11 y12) S3 De noE
  exact b2_ok m1 m2 sb (by omega) d3 (by omega) hk2 k2 fun S' T' z6 z7 z8 z9 z10 z11 z12 d' => q _ _ _ _ _ _ _ _ _ _ _ _ (d'.le (by omega))
end
end Pu
namespace Pu
open PySem L2 Rb Gm TL
theorem ptx_last : ptx [12000, 9] = "  12,000       9" := by decide +kernel
theorem law_ok : ∀ ns : List Int, ns.length ≤ 63 → F_law_k29 [.kls (ns.map D.int)] [] (fun d _ => d = .bl true) noE := by
  intro ns _
  unfold F_law_k29
  refine ⟨rfl, state_ok fun S dk => ?_⟩
  show p291 [some (.kls (ns.map D.int)), some (.cell 1), none, none, none, none, none, none, none, none, none, none, none] S _ noE
  unfold p291
  refine ⟨⟨by decide, by decide⟩, ?_⟩
  refine for_rng 0 8 (fun i ρ S' => (∃ y2 y3 y4 y5 y6 y7 y8 y9 y10 y11 y12, ρ = [some (.kls (ns.map D.int)), some (.cell 1), y2, y3, y4, y5, y6, y7, y8, y9, y10, y11, y12]) ∧ ∃ T, Nk S' (110 * i) T) ⟨⟨_, _, _, _, _, _, _, _, _, _, _, rfl⟩, [], dk.le (by omega)⟩ ?_ ?_
  · rintro i ρ S' K hi hK ⟨⟨y2, y3, y4, y5, y6, y7, y8, y9, y10, y11, y12, rfl⟩, T, hk⟩
    exact b0_ok hk (by omega) fun S2 T2 z3 z4 z5 z6 z7 z8 z9 z10 z11 z12 hk2 => hK _ _ ⟨⟨_, _, _, _, _, _, _, _, _, _, _, rfl⟩, T2, hk2.le (by omega)⟩
  · rintro ρ S' ⟨⟨y2, y3, y4, y5, y6, y7, y8, y9, y10, y11, y12, rfl⟩, T, hk⟩
    show p292 [some (.kls (ns.map D.int)), some (.cell 1), y2, y3, y4, y5, y6, y7, y8, y9, y10, y11, y12] S' _ noE
    unfold p292
    have ib : InB [12000, 9] := fun i hi => by
      simp only [List.mem_cons, List.not_mem_nil, or_false] at hi
      rcases hi with rfl | rfl <;> decide
    refine ⟨szr rfl, ?_⟩
    refine pty29_new (ns := [12000, 9]) (isSt_of (by decide) (by decide) ib) ⟨rfl, ?_⟩
    have nk : (S' ++ [Cl.ins "Party" (ptyF [12000, 9])])[S'.length]? = some (.ins "Party" (ptyF [12000, 9])) := by rw [List.getElem?_append_right (Nat.le_refl _), Nat.sub_self]; rfl
    generalize S' ++ [Cl.ins "Party" (ptyF [12000, 9])] = S2 at nk ⊢
    refine onS (ins_cell nk) (onS (a := F_Party_str) rfl (pstr_ok nk ib (by decide) ?_))
    rw [ptx_last]
    exact eq_str rfl
end Pu
namespace Pu
open PySem PySem.Spec PyProof.Rows L2
theorem all_mk {l : PySem.W.OpenLaw} {w : World} {K : PySem.W.Frag} {h : Heap} {mg : Str → Option Value} {fa : Addr} (X : K.In h) (G : h.Ns mainGlobals mg) (hfa : mg "law" = some (.ref fa))
    {C_BadStarts : Addr}
    (aC_BadStarts : PySem.W.nsIn K mainGlobals "BadStarts" = some (some (.ref C_BadStarts)))
    {C_Party : Addr}
    (aC_Party : PySem.W.nsIn K mainGlobals "Party" = some (some (.ref C_Party)))
    {f_is_number_from : Addr} {od_is_number_from an_is_number_from : Option Addr} {sl_is_number_from : Array (Option Value)} {oc_is_number_from kV_is_number_from dc_is_number_from pm_is_number_from cd_is_number_from ct_is_number_from : Value}
    (a_is_number_from : PySem.W.nsIn K mainGlobals "is_number_from" = some (some (.ref f_is_number_from)))
    (l_is_number_from : K.lookup f_is_number_from = some ⟨oc_is_number_from, od_is_number_from, .func (PySem.W.fnOf "is_number_from" "is_number_from" (defArgs s_is_number_from) (defBody s_is_number_from) (defScope s_is_number_from) .none kV_is_number_from dc_is_number_from pm_is_number_from an_is_number_from cd_is_number_from ct_is_number_from), sl_is_number_from⟩)
    (c_is_number_from : PySem.W.codeIn K cd_is_number_from "is_number_from" = true)
    (k_is_number_from : PySem.W.keepIn K (.ref f_is_number_from) = true)
    {f_is_starts : Addr} {od_is_starts an_is_starts : Option Addr} {sl_is_starts : Array (Option Value)} {oc_is_starts kV_is_starts dc_is_starts pm_is_starts cd_is_starts ct_is_starts : Value}
    (a_is_starts : PySem.W.nsIn K mainGlobals "is_starts" = some (some (.ref f_is_starts)))
    (l_is_starts : K.lookup f_is_starts = some ⟨oc_is_starts, od_is_starts, .func (PySem.W.fnOf "is_starts" "is_starts" (defArgs s_is_starts) (defBody s_is_starts) (defScope s_is_starts) .none kV_is_starts dc_is_starts pm_is_starts an_is_starts cd_is_starts ct_is_starts), sl_is_starts⟩)
    (c_is_starts : PySem.W.codeIn K cd_is_starts "is_starts" = true)
    (k_is_starts : PySem.W.keepIn K (.ref f_is_starts) = true)
    {f__law_draws : Addr} {od__law_draws an__law_draws : Option Addr} {sl__law_draws : Array (Option Value)} {oc__law_draws kV__law_draws dc__law_draws pm__law_draws cd__law_draws ct__law_draws : Value}
    (a__law_draws : PySem.W.nsIn K mainGlobals "_law_draws" = some (some (.ref f__law_draws)))
    (l__law_draws : K.lookup f__law_draws = some ⟨oc__law_draws, od__law_draws, .func (PySem.W.fnOf "_law_draws" "_law_draws" (defArgs s__law_draws) (defBody s__law_draws) (defScope s__law_draws) .none kV__law_draws dc__law_draws pm__law_draws an__law_draws cd__law_draws ct__law_draws), sl__law_draws⟩)
    (c__law_draws : PySem.W.codeIn K cd__law_draws "_law_draws" = true)
    (k__law_draws : PySem.W.keepIn K (.ref f__law_draws) = true)
    {f__law_next : Addr} {od__law_next an__law_next : Option Addr} {sl__law_next : Array (Option Value)} {oc__law_next kV__law_next dc__law_next pm__law_next cd__law_next ct__law_next : Value}
    (a__law_next : PySem.W.nsIn K mainGlobals "_law_next" = some (some (.ref f__law_next)))
    (l__law_next : K.lookup f__law_next = some ⟨oc__law_next, od__law_next, .func (PySem.W.fnOf "_law_next" "_law_next" (defArgs s__law_next) (defBody s__law_next) (defScope s__law_next) .none kV__law_next dc__law_next pm__law_next an__law_next cd__law_next ct__law_next), sl__law_next⟩)
    (c__law_next : PySem.W.codeIn K cd__law_next "_law_next" = true)
    (k__law_next : PySem.W.keepIn K (.ref f__law_next) = true)
    {f__law_starts : Addr} {od__law_starts an__law_starts : Option Addr} {sl__law_starts : Array (Option Value)} {oc__law_starts kV__law_starts dc__law_starts pm__law_starts cd__law_starts ct__law_starts : Value}
    (a__law_starts : PySem.W.nsIn K mainGlobals "_law_starts" = some (some (.ref f__law_starts)))
    (l__law_starts : K.lookup f__law_starts = some ⟨oc__law_starts, od__law_starts, .func (PySem.W.fnOf "_law_starts" "_law_starts" (defArgs s__law_starts) (defBody s__law_starts) (defScope s__law_starts) .none kV__law_starts dc__law_starts pm__law_starts an__law_starts cd__law_starts ct__law_starts), sl__law_starts⟩)
    (c__law_starts : PySem.W.codeIn K cd__law_starts "_law_starts" = true)
    (k__law_starts : PySem.W.keepIn K (.ref f__law_starts) = true)
    {f__law_odd : Addr} {od__law_odd an__law_odd : Option Addr} {sl__law_odd : Array (Option Value)} {oc__law_odd kV__law_odd dc__law_odd pm__law_odd cd__law_odd ct__law_odd : Value}
    (a__law_odd : PySem.W.nsIn K mainGlobals "_law_odd" = some (some (.ref f__law_odd)))
    (l__law_odd : K.lookup f__law_odd = some ⟨oc__law_odd, od__law_odd, .func (PySem.W.fnOf "_law_odd" "_law_odd" (defArgs s__law_odd) (defBody s__law_odd) (defScope s__law_odd) .none kV__law_odd dc__law_odd pm__law_odd an__law_odd cd__law_odd ct__law_odd), sl__law_odd⟩)
    (c__law_odd : PySem.W.codeIn K cd__law_odd "_law_odd" = true)
    (k__law_odd : PySem.W.keepIn K (.ref f__law_odd) = true)
    {f__law_grouped : Addr} {od__law_grouped an__law_grouped : Option Addr} {sl__law_grouped : Array (Option Value)} {oc__law_grouped kV__law_grouped dc__law_grouped pm__law_grouped cd__law_grouped ct__law_grouped : Value}
    (a__law_grouped : PySem.W.nsIn K mainGlobals "_law_grouped" = some (some (.ref f__law_grouped)))
    (l__law_grouped : K.lookup f__law_grouped = some ⟨oc__law_grouped, od__law_grouped, .func (PySem.W.fnOf "_law_grouped" "_law_grouped" (defArgs s__law_grouped) (defBody s__law_grouped) (defScope s__law_grouped) .none kV__law_grouped dc__law_grouped pm__law_grouped an__law_grouped cd__law_grouped ct__law_grouped), sl__law_grouped⟩)
    (c__law_grouped : PySem.W.codeIn K cd__law_grouped "_law_grouped" = true)
    (k__law_grouped : PySem.W.keepIn K (.ref f__law_grouped) = true)
    {f__law_text : Addr} {od__law_text an__law_text : Option Addr} {sl__law_text : Array (Option Value)} {oc__law_text kV__law_text dc__law_text pm__law_text cd__law_text ct__law_text : Value}
    (a__law_text : PySem.W.nsIn K mainGlobals "_law_text" = some (some (.ref f__law_text)))
    (l__law_text : K.lookup f__law_text = some ⟨oc__law_text, od__law_text, .func (PySem.W.fnOf "_law_text" "_law_text" (defArgs s__law_text) (defBody s__law_text) (defScope s__law_text) .none kV__law_text dc__law_text pm__law_text an__law_text cd__law_text ct__law_text), sl__law_text⟩)
    (c__law_text : PySem.W.codeIn K cd__law_text "_law_text" = true)
    (k__law_text : PySem.W.keepIn K (.ref f__law_text) = true)
    {f__law_is_number : Addr} {od__law_is_number an__law_is_number : Option Addr} {sl__law_is_number : Array (Option Value)} {oc__law_is_number kV__law_is_number dc__law_is_number pm__law_is_number cd__law_is_number ct__law_is_number : Value}
    (a__law_is_number : PySem.W.nsIn K mainGlobals "_law_is_number" = some (some (.ref f__law_is_number)))
    (l__law_is_number : K.lookup f__law_is_number = some ⟨oc__law_is_number, od__law_is_number, .func (PySem.W.fnOf "_law_is_number" "_law_is_number" (defArgs s__law_is_number) (defBody s__law_is_number) (defScope s__law_is_number) .none kV__law_is_number dc__law_is_number pm__law_is_number an__law_is_number cd__law_is_number ct__law_is_number), sl__law_is_number⟩)
    (c__law_is_number : PySem.W.codeIn K cd__law_is_number "_law_is_number" = true)
    (k__law_is_number : PySem.W.keepIn K (.ref f__law_is_number) = true)
    {f_Party___init__ : Addr} {od_Party___init__ an_Party___init__ : Option Addr} {sl_Party___init__ : Array (Option Value)} {oc_Party___init__ kV_Party___init__ dc_Party___init__ pm_Party___init__ cd_Party___init__ ct_Party___init__ : Value}
    (w_Party___init__ : PySem.W.findIn K (.ref C_Party) "__init__" = some (some (.ref f_Party___init__)))
    (l_Party___init__ : K.lookup f_Party___init__ = some ⟨oc_Party___init__, od_Party___init__, .func (PySem.W.fnOf "__init__" "Party.__init__" (defArgs s_Party___init__) (defBody s_Party___init__) (defScope s_Party___init__) .none kV_Party___init__ dc_Party___init__ pm_Party___init__ an_Party___init__ cd_Party___init__ ct_Party___init__), sl_Party___init__⟩)
    (c_Party___init__ : PySem.W.codeIn K cd_Party___init__ "Party.__init__" = true)
    (k_Party___init__ : PySem.W.keepIn K (.ref f_Party___init__) = true)
    {f_Party_starts : Addr} {od_Party_starts an_Party_starts : Option Addr} {sl_Party_starts : Array (Option Value)} {oc_Party_starts kV_Party_starts dc_Party_starts pm_Party_starts cd_Party_starts ct_Party_starts : Value}
    {p_Party_starts : Addr} {r_Party_starts : List Value}
    (w_Party_starts : PySem.W.findIn K (.ref C_Party) "starts" = some (some (.ref p_Party_starts)))
    (rc_Party_starts : PySem.W.recIn K p_Party_starts "property" = some (.ref f_Party_starts :: r_Party_starts))
    (l_Party_starts : K.lookup f_Party_starts = some ⟨oc_Party_starts, od_Party_starts, .func (PySem.W.fnOf "starts" "Party.starts" (defArgs s_Party_starts) (defBody s_Party_starts) (defScope s_Party_starts) .none kV_Party_starts dc_Party_starts pm_Party_starts an_Party_starts cd_Party_starts ct_Party_starts), sl_Party_starts⟩)
    (c_Party_starts : PySem.W.codeIn K cd_Party_starts "Party.starts" = true)
    (k_Party_starts : PySem.W.keepIn K (.ref f_Party_starts) = true)
    {f_Party___contains__ : Addr} {od_Party___contains__ an_Party___contains__ : Option Addr} {sl_Party___contains__ : Array (Option Value)} {oc_Party___contains__ kV_Party___contains__ dc_Party___contains__ pm_Party___contains__ cd_Party___contains__ ct_Party___contains__ : Value}
    (w_Party___contains__ : PySem.W.findIn K (.ref C_Party) "__contains__" = some (some (.ref f_Party___contains__)))
    (l_Party___contains__ : K.lookup f_Party___contains__ = some ⟨oc_Party___contains__, od_Party___contains__, .func (PySem.W.fnOf "__contains__" "Party.__contains__" (defArgs s_Party___contains__) (defBody s_Party___contains__) (defScope s_Party___contains__) .none kV_Party___contains__ dc_Party___contains__ pm_Party___contains__ an_Party___contains__ cd_Party___contains__ ct_Party___contains__), sl_Party___contains__⟩)
    (c_Party___contains__ : PySem.W.codeIn K cd_Party___contains__ "Party.__contains__" = true)
    (k_Party___contains__ : PySem.W.keepIn K (.ref f_Party___contains__) = true)
    {f_Party___str__ : Addr} {od_Party___str__ an_Party___str__ : Option Addr} {sl_Party___str__ : Array (Option Value)} {oc_Party___str__ kV_Party___str__ dc_Party___str__ pm_Party___str__ cd_Party___str__ ct_Party___str__ : Value}
    (w_Party___str__ : PySem.W.findIn K (.ref C_Party) "__str__" = some (some (.ref f_Party___str__)))
    (l_Party___str__ : K.lookup f_Party___str__ = some ⟨oc_Party___str__, od_Party___str__, .func (PySem.W.fnOf "__str__" "Party.__str__" (defArgs s_Party___str__) (defBody s_Party___str__) (defScope s_Party___str__) .none kV_Party___str__ dc_Party___str__ pm_Party___str__ an_Party___str__ cd_Party___str__ ct_Party___str__), sl_Party___str__⟩)
    (c_Party___str__ : PySem.W.codeIn K cd_Party___str__ "Party.__str__" = true)
    (k_Party___str__ : PySem.W.keepIn K (.ref f_Party___str__) = true)
    {f_Party___eq__ : Addr} {od_Party___eq__ an_Party___eq__ : Option Addr} {sl_Party___eq__ : Array (Option Value)} {oc_Party___eq__ kV_Party___eq__ dc_Party___eq__ pm_Party___eq__ cd_Party___eq__ ct_Party___eq__ : Value}
    (w_Party___eq__ : PySem.W.findIn K (.ref C_Party) "__eq__" = some (some (.ref f_Party___eq__)))
    (l_Party___eq__ : K.lookup f_Party___eq__ = some ⟨oc_Party___eq__, od_Party___eq__, .func (PySem.W.fnOf "__eq__" "Party.__eq__" (defArgs s_Party___eq__) (defBody s_Party___eq__) (defScope s_Party___eq__) .none kV_Party___eq__ dc_Party___eq__ pm_Party___eq__ an_Party___eq__ cd_Party___eq__ ct_Party___eq__), sl_Party___eq__⟩)
    (c_Party___eq__ : PySem.W.codeIn K cd_Party___eq__ "Party.__eq__" = true)
    (k_Party___eq__ : PySem.W.keepIn K (.ref f_Party___eq__) = true)
    {f_law : Addr} {od_law an_law : Option Addr} {sl_law : Array (Option Value)} {oc_law kV_law dc_law pm_law cd_law ct_law : Value}
    (a_law : PySem.W.nsIn K mainGlobals "law" = some (some (.ref f_law)))
    (l_law : K.lookup f_law = some ⟨oc_law, od_law, .func (PySem.W.fnOf "law" "law" (defArgs s_law) (defBody s_law) (defScope s_law) .none kV_law dc_law pm_law an_law cd_law ct_law), sl_law⟩)
    (c_law : PySem.W.codeIn K cd_law "law" = true)
    (k_law : PySem.W.keepIn K (.ref f_law) = true)
    (pg_Party : PySem.W.plainGet K C_Party Str.empty = true)
    (hd_Party : PySem.W.hasDictIn K C_Party = true)
    (po_Party : PySem.W.plainOver K C_Party = true)
    (sa_Party : PySem.W.findIn K (.ref C_Party) "__setattr__" = some (some (.builtin "object.__setattr__")))
    (na_Party_given : PySem.W.findIn K (.ref C_Party) "given" = some none)
    (na_Party_ordered : PySem.W.findIn K (.ref C_Party) "ordered" = some none)
    (mm_Party : PySem.W.makesIn K C_Party = true)
    (mi_Party : PySem.W.findIn K (.ref C_Party) "__init__" = some (some (.ref f_Party___init__)))
    (mf_Party : PySem.W.isFn K (.ref f_Party___init__) = true)
    (mk_Party : PySem.W.keepIn K (.ref C_Party) = true)
    (st_Party : PySem.W.findIn K (.ref C_Party) "__str__" = some (some (.ref f_Party___str__)))
    (stf_Party : PySem.W.isFn K (.ref f_Party___str__) = true)
    (pa_Party_starts : PySem.W.findIn K (.ref C_Party) "starts" = some (some (.ref p_Party_starts)))
    (pg2_Party_starts : PySem.W.specialIn K (.ref p_Party_starts) "__get__" = some (some (.builtin "property.__get__")))
    (pt_Party_starts : PySem.W.takesIn K (.ref p_Party_starts) = some true)
    (oa_Party_contains : PySem.W.findIn K (.ref C_Party) "__contains__" = some (some (.ref f_Party___contains__)))
    (ob_Party_contains : PySem.W.isFn K (.ref f_Party___contains__) = true)
    (oc_Party_contains : PySem.W.fnIn K f_Party___contains__ = true)
    (od_Party_contains : PySem.W.selfFirst K C_Party = true)
    (oa_Party_eq : PySem.W.findIn K (.ref C_Party) "__eq__" = some (some (.ref f_Party___eq__)))
    (ob_Party_eq : PySem.W.isFn K (.ref f_Party___eq__) = true)
    (oc_Party_eq : PySem.W.fnIn K f_Party___eq__ = true)
    (od_Party_eq : PySem.W.selfFirst K C_Party = true)
    {nm_nParty q_nParty : Str} {N_nParty : Addr} {bs_nParty : List Value} {hd_nParty : Bool} {sn_nParty : List Str} {sub_nParty : List Value} {ab_nParty : Bool} {col_nParty : Option Bool} {dd_nParty : Option Addr} {m0_nParty m1_nParty m2_nParty m3_nParty m5_nParty : Option Value} {nw_nParty : String}
    (ne1_Party : K.lookup C_Party = some (excClassObj nm_nParty q_nParty C_Party N_nParty bs_nParty [.type "object"] hd_nParty sn_nParty sub_nParty ab_nParty col_nParty dd_nParty m0_nParty m1_nParty m2_nParty m3_nParty m5_nParty nw_nParty))
    (ne2_Party : PySem.W.nsOkIn K N_nParty = true)
    (ne3_Party : PySem.W.nsIn K N_nParty "__eq__" = some (some (.ref f_Party___eq__)))
    (ne4_Party : PySem.W.nsIn K N_nParty "__ne__" = some none)
    (ne5_Party : PySem.W.isFn K (.ref f_Party___eq__) = true)
    (nt_NoneType_Party : PySem.W.kitOne K (.type "NoneType") (.ref C_Party) = some false)
    (nt_bool_Party : PySem.W.kitOne K (.type "bool") (.ref C_Party) = some false)
    (nt_int_Party : PySem.W.kitOne K (.type "int") (.ref C_Party) = some false)
    (nt_str_Party : PySem.W.kitOne K (.type "str") (.ref C_Party) = some false)
    (nt_tuple_Party : PySem.W.kitOne K (.type "tuple") (.ref C_Party) = some false)
    (nt_dict_Party : PySem.W.kitOne K (.type "dict") (.ref C_Party) = some false)
    (nt_list_Party : PySem.W.kitOne K (.type "list") (.ref C_Party) = some false)
    (eu_NoneType_Party : PySem.W.subIn K (.type "NoneType") (.ref C_Party) = some false)
    (ed_NoneType_Party : PySem.W.subIn K (.ref C_Party) (.type "NoneType") = some false)
    (eu_bool_Party : PySem.W.subIn K (.type "bool") (.ref C_Party) = some false)
    (ed_bool_Party : PySem.W.subIn K (.ref C_Party) (.type "bool") = some false)
    (eu_int_Party : PySem.W.subIn K (.type "int") (.ref C_Party) = some false)
    (ed_int_Party : PySem.W.subIn K (.ref C_Party) (.type "int") = some false)
    (eu_str_Party : PySem.W.subIn K (.type "str") (.ref C_Party) = some false)
    (ed_str_Party : PySem.W.subIn K (.ref C_Party) (.type "str") = some false)
    (eu_tuple_Party : PySem.W.subIn K (.type "tuple") (.ref C_Party) = some false)
    (ed_tuple_Party : PySem.W.subIn K (.ref C_Party) (.type "tuple") = some false)
    (eu_dict_Party : PySem.W.subIn K (.type "dict") (.ref C_Party) = some false)
    (ed_dict_Party : PySem.W.subIn K (.ref C_Party) (.type "dict") = some false)
    (eu_list_Party : PySem.W.subIn K (.type "list") (.ref C_Party) = some false)
    (ed_list_Party : PySem.W.subIn K (.ref C_Party) (.type "list") = some false)
    (cgE : PySem.W.specialIn K (.builtin "object.__class__") "__get__" = some (some (.builtin "getset_descriptor.__get__")))
    (ctE : PySem.W.takesIn K (.builtin "object.__class__") = some true)
    (ic_Party : PySem.W.findIn K (.ref C_Party) "__class__" = some (some (.builtin "object.__class__")))
    (io_Party : PySem.W.mroIn K C_Party (.type "object") = some true)
    (kc_Party_Party : PySem.W.kitOne K (.ref C_Party) (.ref C_Party) = some true)
    (xmk_BadStarts : PySem.W.excInitIn K C_BadStarts [.type "ValueError", .type "Exception", .type "BaseException", .type "object"] "ValueError.__new__" = true)
    (xov_BadStarts : PySem.W.excOver K C_BadStarts [.type "ValueError", .type "Exception", .type "BaseException", .type "object"] = true)
    (xsa_BadStarts : PySem.W.findIn K (.ref C_BadStarts) "__setattr__" = some (some (.builtin "object.__setattr__")))
    (xga_BadStarts : PySem.W.findIn K (.ref C_BadStarts) "__getattribute__" = some (some (.builtin "BaseException.__getattribute__")))
    (xgg_BadStarts : PySem.W.findIn K (.ref C_BadStarts) "__getattr__" = some none)
    (xnb_BadStarts : PySem.W.findIn K (.ref C_BadStarts) "value" = some none)
    (xcl_BadStarts : PySem.W.findIn K (.ref C_BadStarts) "__class__" = some (some (.builtin "object.__class__")))
    (xco_BadStarts : PySem.W.mroIn K C_BadStarts (.type "object") = some true)
    (xkC_BadStarts : PySem.W.keepIn K (.ref C_BadStarts) = true)
    (xhd_BadStarts : PySem.W.hasDictIn K C_BadStarts = true)
    (xiC_BadStarts : PySem.W.isClsIn K C_BadStarts = true)
    (xtC_BadStarts : PySem.W.typeIn K (.ref C_BadStarts) = some (.type "type"))
    (xeC_BadStarts : PySem.W.subIn K (.ref C_BadStarts) (.type "BaseException") = some true)
    {f_iBadStarts : Addr} {od_iBadStarts an_iBadStarts : Option Addr} {sl_iBadStarts : Array (Option Value)} {oc_iBadStarts kV_iBadStarts dc_iBadStarts pm_iBadStarts cd_iBadStarts ct_iBadStarts : Value}
    (ini_BadStarts : PySem.W.findIn K (.ref C_BadStarts) "__init__" = some (some (.ref f_iBadStarts)))
    (tI_BadStarts : PySem.W.typeIn K (.ref f_iBadStarts) = some (.type "function"))
    (lI_BadStarts : K.lookup f_iBadStarts = some ⟨oc_iBadStarts, od_iBadStarts, .func (PySem.W.fnOf "__init__" "BadStarts.__init__" (defArgs si_BadStarts) (defBody si_BadStarts) (defScope si_BadStarts) .none kV_iBadStarts dc_iBadStarts pm_iBadStarts an_iBadStarts cd_iBadStarts ct_iBadStarts), sl_iBadStarts⟩)
    (cI_BadStarts : PySem.W.codeIn K cd_iBadStarts "BadStarts.__init__" = true)
    (kI_BadStarts : PySem.W.keepIn K (.ref f_iBadStarts) = true)
    {t_MAX_PEOPLE : Tok}
    (v_MAX_PEOPLE : PySem.W.nsIn K mainGlobals "MAX_PEOPLE" = some (some (.int 10 t_MAX_PEOPLE)))
    {t_MAX_START : Tok}
    (v_MAX_START : PySem.W.nsIn K mainGlobals "MAX_START" = some (some (.int 1000000 t_MAX_START)))
    (z_abs : PySem.W.nsIn K mainGlobals "abs" = some none)
    (z_bool : PySem.W.nsIn K mainGlobals "bool" = some none)
    (z_int : PySem.W.nsIn K mainGlobals "int" = some none)
    (z_isinstance : PySem.W.nsIn K mainGlobals "isinstance" = some none)
    (z_len : PySem.W.nsIn K mainGlobals "len" = some none)
    (z_list : PySem.W.nsIn K mainGlobals "list" = some none)
    (z_max : PySem.W.nsIn K mainGlobals "max" = some none)
    (z_min : PySem.W.nsIn K mainGlobals "min" = some none)
    (z_range : PySem.W.nsIn K mainGlobals "range" = some none)
    (z_repr : PySem.W.nsIn K mainGlobals "repr" = some none)
    (z_sorted : PySem.W.nsIn K mainGlobals "sorted" = some none)
    (z_str : PySem.W.nsIn K mainGlobals "str" = some none)
    (z_tuple : PySem.W.nsIn K mainGlobals "tuple" = some none)
    : ∃ fd : FuncData, (∀ (s : Shared) (v : Value), BindsTo s fd ⟨[v], []⟩ [("_law_script", v)]) ∧ ∀ base : Heap, K.In base → base.Ns mainGlobals mg → Rb.FnG l.prog w K mg base CX0 5 fa fd ["_law_script"] (spF (Pu.ct0 K mg) F_law_k29) := by
  cases hfa.symm.trans (PySem.W.mg_of X G a_law)
  have F_is_number_from := fun_mk (st := s_is_number_from) l_is_number_from c_is_number_from k_is_number_from
  have b_is_number_from := F_is_number_from.binds (ps := ["value", "least", "most"]) fun _ _ _ _ _ _ us hl => match us, hl with | [_, _, _], _ => rfl
  have F_is_starts := fun_mk (st := s_is_starts) l_is_starts c_is_starts k_is_starts
  have b_is_starts := F_is_starts.binds (ps := ["value"]) fun _ _ _ _ _ _ us hl => match us, hl with | [_], _ => rfl
  have F__law_draws := fun_mk (st := s__law_draws) l__law_draws c__law_draws k__law_draws
  have b__law_draws := F__law_draws.binds (ps := ["_law_script"]) fun _ _ _ _ _ _ us hl => match us, hl with | [_], _ => rfl
  have F__law_next := fun_mk (st := s__law_next) l__law_next c__law_next k__law_next
  have b__law_next := F__law_next.binds (ps := ["_law_state", "_law_many"]) fun _ _ _ _ _ _ us hl => match us, hl with | [_, _], _ => rfl
  have F__law_starts := fun_mk (st := s__law_starts) l__law_starts c__law_starts k__law_starts
  have b__law_starts := F__law_starts.binds (ps := ["_law_state", "_law_most"]) fun _ _ _ _ _ _ us hl => match us, hl with | [_, _], _ => rfl
  have F__law_odd := fun_mk (st := s__law_odd) l__law_odd c__law_odd k__law_odd
  have b__law_odd := F__law_odd.binds (ps := ["_law_state"]) fun _ _ _ _ _ _ us hl => match us, hl with | [_], _ => rfl
  have F__law_grouped := fun_mk (st := s__law_grouped) l__law_grouped c__law_grouped k__law_grouped
  have b__law_grouped := F__law_grouped.binds (ps := ["_law_number"]) fun _ _ _ _ _ _ us hl => match us, hl with | [_], _ => rfl
  have F__law_text := fun_mk (st := s__law_text) l__law_text c__law_text k__law_text
  have b__law_text := F__law_text.binds (ps := ["_law_starts_here"]) fun _ _ _ _ _ _ us hl => match us, hl with | [_], _ => rfl
  have F__law_is_number := fun_mk (st := s__law_is_number) l__law_is_number c__law_is_number k__law_is_number
  have b__law_is_number := F__law_is_number.binds (ps := ["_law_value"]) fun _ _ _ _ _ _ us hl => match us, hl with | [_], _ => rfl
  have F_Party___init__ := fun_mk (st := s_Party___init__) l_Party___init__ c_Party___init__ k_Party___init__
  have b_Party___init__ := F_Party___init__.binds (ps := ["self", "starts"]) fun _ _ _ _ _ _ us hl => match us, hl with | [_, _], _ => rfl
  have F_Party_starts := fun_mk (st := s_Party_starts) l_Party_starts c_Party_starts k_Party_starts
  have b_Party_starts := F_Party_starts.binds (ps := ["self"]) fun _ _ _ _ _ _ us hl => match us, hl with | [_], _ => rfl
  have F_Party___contains__ := fun_mk (st := s_Party___contains__) l_Party___contains__ c_Party___contains__ k_Party___contains__
  have b_Party___contains__ := F_Party___contains__.binds (ps := ["self", "x"]) fun _ _ _ _ _ _ us hl => match us, hl with | [_, _], _ => rfl
  have F_Party___str__ := fun_mk (st := s_Party___str__) l_Party___str__ c_Party___str__ k_Party___str__
  have b_Party___str__ := F_Party___str__.binds (ps := ["self"]) fun _ _ _ _ _ _ us hl => match us, hl with | [_], _ => rfl
  have F_Party___eq__ := fun_mk (st := s_Party___eq__) l_Party___eq__ c_Party___eq__ k_Party___eq__
  have b_Party___eq__ := F_Party___eq__.binds (ps := ["self", "other"]) fun _ _ _ _ _ _ us hl => match us, hl with | [_, _], _ => rfl
  have F_law := fun_mk (st := s_law) l_law c_law k_law
  have b_law := F_law.binds (ps := ["_law_script"]) fun _ _ _ _ _ _ us hl => match us, hl with | [_], _ => rfl
  have cl_Party : Cls K C_Party := ⟨pg_Party, hd_Party, po_Party, sa_Party⟩
  have E_BadStarts : OwnI K C_BadStarts := ⟨⟨xga_BadStarts, xgg_BadStarts, xeC_BadStarts, xhd_BadStarts⟩, xiC_BadStarts, xcl_BadStarts, cgE, ctE, xco_BadStarts⟩
  have L_BadStarts : ErrC K C_BadStarts [.type "ValueError", .type "Exception", .type "BaseException", .type "object"] "ValueError.__new__" := ⟨xmk_BadStarts, xov_BadStarts, xhd_BadStarts, xsa_BadStarts, xeC_BadStarts, xtC_BadStarts, xkC_BadStarts⟩
  have FI_BadStarts := fun_mk (st := si_BadStarts) lI_BadStarts cI_BadStarts kI_BadStarts
  have bI_BadStarts := FI_BadStarts.binds (ps := ["self", "value"]) fun _ _ _ _ _ _ us hl => match us, hl with | [_, _], _ => rfl
  exact ⟨_, fun s v => .of_eq rfl, fun base _ _ => G_law (⟨_, _, F_is_number_from, PySem.W.mg_of X G a_is_number_from, b_is_number_from, _, _, F_is_starts, PySem.W.mg_of X G a_is_starts, b_is_starts, _, _, F__law_draws, PySem.W.mg_of X G a__law_draws, b__law_draws, _, _, F__law_next, PySem.W.mg_of X G a__law_next, b__law_next, _, _, F__law_starts, PySem.W.mg_of X G a__law_starts, b__law_starts, _, _, F__law_odd, PySem.W.mg_of X G a__law_odd, b__law_odd, _, _, F__law_grouped, PySem.W.mg_of X G a__law_grouped, b__law_grouped, _, _, F__law_text, PySem.W.mg_of X G a__law_text, b__law_text, _, _, F__law_is_number, PySem.W.mg_of X G a__law_is_number, b__law_is_number, _, _, F_Party___init__, b_Party___init__, _, _, F_Party_starts, b_Party_starts, _, _, F_Party___contains__, b_Party___contains__, _, _, F_Party___str__, b_Party___str__, _, _, F_Party___eq__, b_Party___eq__, _, _, F_law, PySem.W.mg_of X G a_law, b_law, _, PySem.W.mg_of X G aC_BadStarts, _, PySem.W.mg_of X G aC_Party, cl_Party, na_Party_given, na_Party_ordered, ⟨mm_Party, mi_Party, mf_Party, mk_Party⟩, _, ⟨pa_Party_starts, pg2_Party_starts, pt_Party_starts, _, rc_Party_starts⟩, ⟨cl_Party, ic_Party, cgE, ctE, io_Party⟩, st_Party, stf_Party, kc_Party_Party, oa_Party_contains, ob_Party_contains, oc_Party_contains, od_Party_contains, oa_Party_eq, ob_Party_eq, oc_Party_eq, od_Party_eq, ne_mk ne1_Party ne2_Party ne3_Party ne4_Party ne5_Party, noty_of nt_NoneType_Party nt_bool_Party nt_int_Party nt_str_Party nt_tuple_Party nt_dict_Party nt_list_Party, eqany_of (PySem.W.mg_of X G aC_Party) ⟨eu_NoneType_Party, ed_NoneType_Party⟩ ⟨eu_bool_Party, ed_bool_Party⟩ ⟨eu_int_Party, ed_int_Party⟩ ⟨eu_str_Party, ed_str_Party⟩ ⟨eu_tuple_Party, ed_tuple_Party⟩ ⟨eu_dict_Party, ed_dict_Party⟩ ⟨eu_list_Party, ed_list_Party⟩, E_BadStarts, L_BadStarts, xnb_BadStarts, _, _, ini_BadStarts, tI_BadStarts, FI_BadStarts, bI_BadStarts, _, PySem.W.mg_of X G v_MAX_PEOPLE, _, PySem.W.mg_of X G v_MAX_START, PySem.W.mg_none_of X G z_abs, PySem.W.mg_none_of X G z_bool, PySem.W.mg_none_of X G z_int, PySem.W.mg_none_of X G z_isinstance, PySem.W.mg_none_of X G z_len, PySem.W.mg_none_of X G z_list, PySem.W.mg_none_of X G z_max, PySem.W.mg_none_of X G z_min, PySem.W.mg_none_of X G z_range, PySem.W.mg_none_of X G z_repr, PySem.W.mg_none_of X G z_sorted, PySem.W.mg_none_of X G z_str, PySem.W.mg_none_of X G z_tuple⟩ : Tx K mg)⟩
end Pu
open PySem PySem.W PyProof.Rows
set_option maxHeartbeats 0 in
theorem PySem.Challenge.cw_roadbikes_k29_parties_in_equal_and_text_holds : PySem.Challenge.rw_roadbikes_k29_parties_in_equal_and_text.Holds := by
  w_on; o_law; k_head; (case hw => w_witness2)
  k_fill
  refine Pu.endP (l := PySem.Challenge.rw_roadbikes_k29_parties_in_equal_and_text) (n := 63) (lv := 5) (x := "_law_script") (FL := Pu.F_law_k29) rfl (by decide) rfl ⟨rfl, by decide, by decide⟩ (fun w h Y => PySem.W.kIn_of Y) ?F Pu.law_ok
  case F =>
    intro w mg fa h KX G hmg
    refine' Pu.all_mk KX G hmg ?aC_BadStarts ?aC_Party ?a_is_number_from ?l_is_number_from ?c_is_number_from ?k_is_number_from ?a_is_starts ?l_is_starts ?c_is_starts ?k_is_starts ?a__law_draws ?l__law_draws ?c__law_draws ?k__law_draws ?a__law_next ?l__law_next ?c__law_next ?k__law_next ?a__law_starts ?l__law_starts ?c__law_starts ?k__law_starts ?a__law_odd ?l__law_odd ?c__law_odd ?k__law_odd ?a__law_grouped ?l__law_grouped ?c__law_grouped ?k__law_grouped ?a__law_text ?l__law_text ?c__law_text ?k__law_text ?a__law_is_number ?l__law_is_number ?c__law_is_number ?k__law_is_number ?w_Party___init__ ?l_Party___init__ ?c_Party___init__ ?k_Party___init__ ?w_Party_starts ?rc_Party_starts ?l_Party_starts ?c_Party_starts ?k_Party_starts ?w_Party___contains__ ?l_Party___contains__ ?c_Party___contains__ ?k_Party___contains__ ?w_Party___str__ ?l_Party___str__ ?c_Party___str__ ?k_Party___str__ ?w_Party___eq__ ?l_Party___eq__ ?c_Party___eq__ ?k_Party___eq__ ?a_law ?l_law ?c_law ?k_law ?pg_Party ?hd_Party ?po_Party ?sa_Party ?na_Party_given ?na_Party_ordered ?mm_Party ?mi_Party ?mf_Party ?mk_Party ?st_Party ?stf_Party ?pa_Party_starts ?pg2_Party_starts ?pt_Party_starts ?oa_Party_contains ?ob_Party_contains ?oc_Party_contains ?od_Party_contains ?oa_Party_eq ?ob_Party_eq ?oc_Party_eq ?od_Party_eq ?ne1_Party ?ne2_Party ?ne3_Party ?ne4_Party ?ne5_Party ?nt_NoneType_Party ?nt_bool_Party ?nt_int_Party ?nt_str_Party ?nt_tuple_Party ?nt_dict_Party ?nt_list_Party ?eu_NoneType_Party ?ed_NoneType_Party ?eu_bool_Party ?ed_bool_Party ?eu_int_Party ?ed_int_Party ?eu_str_Party ?ed_str_Party ?eu_tuple_Party ?ed_tuple_Party ?eu_dict_Party ?ed_dict_Party ?eu_list_Party ?ed_list_Party ?cgE ?ctE ?ic_Party ?io_Party ?kc_Party_Party ?xmk_BadStarts ?xov_BadStarts ?xsa_BadStarts ?xga_BadStarts ?xgg_BadStarts ?xnb_BadStarts ?xcl_BadStarts ?xco_BadStarts ?xkC_BadStarts ?xhd_BadStarts ?xiC_BadStarts ?xtC_BadStarts ?xeC_BadStarts ?ini_BadStarts ?tI_BadStarts ?lI_BadStarts ?cI_BadStarts ?kI_BadStarts ?v_MAX_PEOPLE ?v_MAX_START ?z_abs ?z_bool ?z_int ?z_isinstance ?z_len ?z_list ?z_max ?z_min ?z_range ?z_repr ?z_sorted ?z_str ?z_tuple
    (case aC_BadStarts => k_is); (case aC_Party => k_is); (case a_is_number_from => k_is); (case l_is_number_from => k_is); (case c_is_number_from => k_is); (case k_is_number_from => k_is); (case a_is_starts => k_is); (case l_is_starts => k_is); (case c_is_starts => k_is); (case k_is_starts => k_is); (case a__law_draws => k_is); (case l__law_draws => k_is); (case c__law_draws => k_is); (case k__law_draws => k_is); (case a__law_next => k_is); (case l__law_next => k_is); (case c__law_next => k_is); (case k__law_next => k_is); (case a__law_starts => k_is); (case l__law_starts => k_is); (case c__law_starts => k_is); (case k__law_starts => k_is); (case a__law_odd => k_is); (case l__law_odd => k_is); (case c__law_odd => k_is); (case k__law_odd => k_is); (case a__law_grouped => k_is); (case l__law_grouped => k_is); (case c__law_grouped => k_is); (case k__law_grouped => k_is); (case a__law_text => k_is); (case l__law_text => k_is); (case c__law_text => k_is); (case k__law_text => k_is); (case a__law_is_number => k_is); (case l__law_is_number => k_is); (case c__law_is_number => k_is); (case k__law_is_number => k_is); (case w_Party___init__ => k_is); (case l_Party___init__ => k_is); (case c_Party___init__ => k_is); (case k_Party___init__ => k_is); (case w_Party_starts => k_is); (case rc_Party_starts => k_is); (case l_Party_starts => k_is); (case c_Party_starts => k_is); (case k_Party_starts => k_is); (case w_Party___contains__ => k_is); (case l_Party___contains__ => k_is); (case c_Party___contains__ => k_is); (case k_Party___contains__ => k_is); (case w_Party___str__ => k_is); (case l_Party___str__ => k_is); (case c_Party___str__ => k_is); (case k_Party___str__ => k_is); (case w_Party___eq__ => k_is); (case l_Party___eq__ => k_is); (case c_Party___eq__ => k_is); (case k_Party___eq__ => k_is); (case a_law => k_is); (case l_law => k_is); (case c_law => k_is); (case k_law => k_is); (case pg_Party => k_is); (case hd_Party => k_is); (case po_Party => k_is); (case sa_Party => k_is); (case na_Party_given => k_is); (case na_Party_ordered => k_is); (case mm_Party => k_is); (case mi_Party => k_is); (case mf_Party => k_is); (case mk_Party => k_is); (case st_Party => k_is); (case stf_Party => k_is); (case pa_Party_starts => k_is); (case pg2_Party_starts => k_is); (case pt_Party_starts => k_is); (case oa_Party_contains => k_is); (case ob_Party_contains => k_is); (case oc_Party_contains => k_is); (case od_Party_contains => k_is); (case oa_Party_eq => k_is); (case ob_Party_eq => k_is); (case oc_Party_eq => k_is); (case od_Party_eq => k_is); (case ne1_Party => k_is); (case ne2_Party => kernel_rfl); (case ne3_Party => k_is); (case ne4_Party => k_is); (case ne5_Party => k_is); (case nt_NoneType_Party => kit_is); (case nt_bool_Party => kit_is); (case nt_int_Party => kit_is); (case nt_str_Party => kit_is); (case nt_tuple_Party => kit_is); (case nt_dict_Party => kit_is); (case nt_list_Party => kit_is); (case eu_NoneType_Party => k_is); (case ed_NoneType_Party => k_is); (case eu_bool_Party => k_is); (case ed_bool_Party => k_is); (case eu_int_Party => k_is); (case ed_int_Party => k_is); (case eu_str_Party => k_is); (case ed_str_Party => k_is); (case eu_tuple_Party => k_is); (case ed_tuple_Party => k_is); (case eu_dict_Party => k_is); (case ed_dict_Party => k_is); (case eu_list_Party => k_is); (case ed_list_Party => k_is); (case cgE => k_is); (case ctE => k_is); (case ic_Party => k_is); (case io_Party => k_is); (case kc_Party_Party => kit_is); (case xmk_BadStarts => kx_is); (case xov_BadStarts => kx_is); (case xsa_BadStarts => k_is); (case xga_BadStarts => k_is); (case xgg_BadStarts => k_is); (case xnb_BadStarts => k_is); (case xcl_BadStarts => k_is); (case xco_BadStarts => k_is); (case xkC_BadStarts => k_is); (case xhd_BadStarts => k_is); (case xiC_BadStarts => k_is); (case xtC_BadStarts => k_is); (case xeC_BadStarts => k_is); (case ini_BadStarts => k_is); (case tI_BadStarts => k_is); (case lI_BadStarts => k_is); (case cI_BadStarts => k_is); (case kI_BadStarts => k_is); (case v_MAX_PEOPLE => k_is); (case v_MAX_START => k_is); (case z_abs => k_is); (case z_bool => k_is); (case z_int => k_is); (case z_isinstance => k_is); (case z_len => k_is); (case z_list => k_is); (case z_max => k_is); (case z_min => k_is); (case z_range => k_is); (case z_repr => k_is); (case z_sorted => k_is); (case z_str => k_is); (case z_tuple => k_is)
