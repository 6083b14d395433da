import PyProof.Rows.All
import Wide.All
import OpenK.AllK
import Wide.FinOn
import HandS.ForMost
import HandS.Wide
import HandS.TupAny
import HandS.TupMul
import HandS.Style
import HandS.Conv
import HandS.Zip
import PyProof.ReprRoads
import PyProof.SumWalkG
import PyProof.WalksMore
import KE.DataMinMax
import HandS.Evl
import PyProof.ReprBulk
import PyProof.FitsInt
import KE.GoesMore
import PyProof.Draws
import HandS.SortRule
import HandS.Walk
import KE.DatumOrd
import KE.DataFind
import HandS.SetFor
import PyProof.Rows.RowBridgeK
import KE.KExcIs
import HandS.Star
import HandS.ExcInit
import HandS.ExcField
import HandS.ExcOwn
import HandS.WordsExc
import HandS.NoneIn
import HandS.IsInst
import HandS.SortInts
import HandS.Strs
import HandS.TupLe
import HandS.Property
import KE.KExcInit
import KE.KOpsOwn
import PyProof.InstNe
import HandS.Flt
import HandS.FStr
import HandS.Text
import KE.KCallOwn
import HandS.Defaults
import HandS.ClsMeth
import HandS.GenList
import HandS.Iter
import HandS.StrMore
import HandS.TryMany
import KE.KTryMore
import HandS.NamedTupSort
import PyProof.EqKinds
import PyProof.FactsAll.dict_1
import KE.DataEq
import PyProof.StrBlock2
import HandS.HotCalls
import PyProof.Rows.ReprOcc
import KE.KExcLine
import KE.OsRunLaw
import PySem.Challenge.RW_roadbikes_k28_parties_joined_and_later
set_option Elab.async false
set_option linter.all false
set_option maxRecDepth 100000
set_option maxHeartbeats 4000000
namespace Rb
open PySem PySem.Spec PyProof.Rows L2
/-! repr of data -/
/-! sum of a tuple of ints -/
theorem isTup_isTuple {h : Heap} {a : Addr} {items : Array Value} (x : IsTup h a items) : h.IsTuple a items := by
  obtain ⟨o, e, c, n, d⟩ := x
  exact ⟨o, e, c, n, d⟩
end Rb
namespace Rb
open PySem PySem.Spec PyProof.Rows L2
/-! defs that are run where no repr is under way -/
structure FnG (pr : Program) (wo : World) (K : PySem.W.Frag) (mg : Str → Option Value) (b0 : Heap) (cx : CXT) (lv : Nat) (fn : Addr) (dat : FuncData) (pars : List Str) (sp : Sp) : Prop where
  many : ∀ xs H Q E, sp xs H Q E → xs.length = pars.length
  goes : ∀ (A : Around) (out : List Env) (s : Shared) (H : Hp) (ar : Args) (us : List Value) (xs : List V) (Q : VK) (E : XK),
    Room lv A → A.guards = some [] → Env0 pr wo K mg b0 A out s H → BindsTo s dat ar (pars.zip us) → Vals xs us → sp xs H Q E →
    codeAny (model pr wo) A (.call (.ref fn) ar) (CR cx out pr wo H s Q E) s
section
variable {pr : Program} {wo : World} {K : PySem.W.Frag} {mg : Str → Option Value} {b0 : Heap} {cx : CXT} {lv : Nat} {fn : Addr} {dat : FuncData} {pars : List Str} {sp : Sp}
theorem FnG.of (F : FnOk pr wo K mg b0 cx lv fn dat pars sp) : FnG pr wo K mg b0 cx lv fn dat pars sp :=
  ⟨F.len, fun A out s H ar us xs Q E h1 _ h2 h3 h4 h5 => F.run A out s H ar us xs Q E h1 h2 h3 h4 h5⟩
end
section
variable {pr : Program} {wo : World} {K : PySem.W.Frag} {mg : Str → Option Value} {b0 : Heap} {lv : Nat} {sp : Sp}
theorem fnG_of {cx : CXT} {fn : Addr} {nm qn : Str} {pm : Arguments} {bd : List Stmt} {sco : Scope} {dV kV dc pv cdv ct oc : Value} {an od : Option Addr} {osl : Array (Option Value)} {NN pars : List Str}
    (at_ : K.lookup fn = some ⟨oc, od, .func (PySem.W.fnOf nm qn pm bd sco dV kV dc pv an cdv ct), osl⟩) (code : PySem.W.codeIn K cdv qn = true) (S : FnScope NN pars sco)
    (many : ∀ xs H Q E, sp xs H Q E → xs.length = pars.length)
    (body : ∀ (A : Around) (out : List Env) (s : Shared) (H : Hp) (xs : List V) (Q : VK) (E : XK), A.guards = some [] → Room lv (A.deeper (envOfC qn sco s.heap.objs.size fn cdv)) → sp xs H Q E →
      ∃ t, PSs (cxOf cx pr wo K mg b0 NN qn sco fn cdv A out s H E) bd t ∧ t { nx := fun _ H' => Q .non H', rt := Q } (start NN xs) H) :
    FnG pr wo K mg b0 cx (lv + 1) fn (PySem.W.fnOf nm qn pm bd sco dV kV dc pv an cdv ct) pars sp := by
  constructor
  · exact many
  intro A out s H ar us xs Q E rm gd e0 bi vx pro
  have old : ∀ b o, b0.get? b = some o → s.heap.get? b = some o := fun b o e => (e0.bs b o e).1
  have kin : K.In s.heap := e0.mod.kin.keeps old
  refine codeAny_call_function rm.depth (kin _ _ at_) rfl S.co S.gen rfl (PySem.W.codeRec_of kin code) (bi _ _ _ _ ?_)
  refine wpAny_newFunctionEnv_cells S.kind ?_ ?_
  · rintro ⟨n, v⟩ hy
    cases S.par n (List.of_mem_zip hy).1 with
    | inl q => exact Or.inl q
    | inr q => exact Or.inr ⟨q, PySem.W.cellsFrom_some _ _ _ (Or.inl q)⟩
  intro env he s1 ic
  subst he
  refine ⟨(e0.mod.nolimit.keeps old).keeps ic.toInCall.keep, codeAny_func ?_⟩
  obtain ⟨t, ht, rd⟩ := body A out s H xs Q E gd (rm.deeper _) pro
  have I : Inv (cxOf cx pr wo K mg b0 NN qn sco fn cdv A out s H E) [] (start NN xs) H s1 := inv_start S rm.hd e0 (many _ _ _ _ pro) vx ic
  refine wpAny_mono (ht.run [] s1 (start NN xs) H _ I rd) ?_ (fun _ _ z => z)
  intro fl s2 hs
  match fl, hs with
  | .ret u, ⟨v, σ2, H2, J, rv, q⟩ => exact ⟨v, H2, J.os, J.bare, J.base, J.hok, rv, q⟩
  | .next, ⟨σ2, H2, J, q⟩ => exact ⟨V.non, H2, J.os, J.bare, J.base, J.hok, rfl, q⟩
  | .brk, ⟨_, _, _, q⟩ => exact (q : False).elim
  | .cont, ⟨_, _, _, q⟩ => exact (q : False).elim
/-- a def of the text that is run where no repr is under way -/
theorem okG {x qn : Str} {st : Stmt} {fn : Addr} {dat : FuncData} {NN pars : List Str} (F : Fun K x qn st fn dat) (S : FnScope NN pars (defScope st)) (many : ∀ xs H Q E, sp xs H Q E → xs.length = pars.length)
    (body : ∀ (cdv : Value) (A : Around) (out : List Env) (s : Shared) (H : Hp) (xs : List V) (Q : VK) (E : XK), A.guards = some [] → Room lv (A.deeper (envOfC qn (defScope st) s.heap.objs.size fn cdv)) → sp xs H Q E →
      ∃ t, PSs (cxOf CX0 pr wo K mg b0 NN qn (defScope st) fn cdv A out s H E).nox (defBody st) t ∧ t { nx := fun _ H' => Q .non H', rt := Q } (start NN xs) H) :
    FnG pr wo K mg b0 CX0 (lv + 1) fn dat pars sp := by
  obtain ⟨oc, od, kV, dc, pv, an, cdv, ct, osl, rfl, at_, code⟩ := F.ex
  refine fnG_of at_ code S many fun A out s H xs Q E gd rm pro => ?_
  obtain ⟨t, h, q⟩ := body cdv A out s H xs Q E gd rm pro
  exact ⟨t, h.nox, q⟩
end
/-- the law's own call: the script is all that is known of the heap -/
theorem lawG {pr : Program} {wo : World} {K : PySem.W.Frag} {mg mb : Str → Option Value} {lv : Nat} {fn sc : Addr} {dat : FuncData} {x : Str} {sp : Sp} {s : Shared} {us : List Value} {ns : List Int}
    (kin : K.In s.heap) (gns : s.heap.Ns mainGlobals mg) (bns : s.heap.Ns builtinsNs mb) (boot : ∀ y : Str, y ≠ "__name__" → mb y = bootBuiltins y) (nol : s.heap.NoLimit) (ge : s.gens = #[])
    (at_ : s.heap.get? sc = some { cls := .type "list", data := .seq us.toArray }) (ia : IntsAre us ns) (few : ns.length ≤ sizeLine) (rm : Room lv callerA)
    (F : ∀ b0 : Heap, K.In b0 → b0.Ns mainGlobals mg → FnG pr wo K mg b0 CX0 lv fn dat [x] sp) (bi : ∀ (z : Shared) (u : Value), BindsTo z dat ⟨[u], []⟩ [(x, u)])
    (pro : ∀ H : Hp, SqL K H sc (ns.map V.int) → sp [.ref sc] H (fun v _ => v = .bl true) fun _ _ _ => False) :
    codeAny (model pr wo) callerA (.call (.ref fn) ⟨[.ref sc], []⟩) (fun r z => r = .ok (.ret (.bool true)) ∧ OldK s.heap z.heap ∧ z.os = s.os ∧ AllBare z.gens) s := by
  have go : ∀ H : Hp, (∀ b o, H b = some o → b = sc ∧ ∃ ob xs, o = .frz ob (.lst xs)) → SqL K H sc (ns.map V.int) → HOk pr wo H s.heap → (H sc ≠ none → K.lookup sc = none) →
      codeAny (model pr wo) callerA (.call (.ref fn) ⟨[.ref sc], []⟩) (fun r z => r = .ok (.ret (.bool true)) ∧ OldK s.heap z.heap ∧ z.os = s.os ∧ AllBare z.gens) s := by
    intro H one sq hok notK
    have dicts : ∀ {b : Addr} {o : Obj} {es : Array DictEntry} {ep : Nat}, s.heap.get? b = some o → o.data = .dict es ep → H b = none := by
      intro b o es ep e d
      match q : H b with
      | none => rfl
      | some u =>
        obtain ⟨rfl, _⟩ := one b u q
        rw [at_] at e
        cases e
        cases (show Data.seq us.toArray _ = Data.dict es ep from d)
    have names : ∀ {b : Addr} {m : Str → Option Value}, s.heap.Ns b m → (hidT s.heap H).Ns b m := by
      rintro b m ⟨o, es, ep, e, d, r⟩
      exact ⟨o, es, ep, hidT_get e (dicts e d), d, r⟩
    have kin2 : K.In (hidT s.heap H) := by
      intro b o e
      refine hidT_get (kin b o e) ?_
      match q : H b with
      | none => rfl
      | some u =>
        obtain ⟨rfl, _⟩ := one b u q
        rw [notK (by rw [q]; exact Option.some_ne_none u)] at e
        cases e
    have md : Mod K mg (hidT s.heap H) := by
      obtain ⟨mc, n1, n2⟩ := nol
      exact ⟨kin2, names gns, ⟨mb, names bns, boot⟩, ⟨mc, names n1, n2⟩⟩
    have env : Env0 pr wo K mg (hidT s.heap H) callerA [] s H :=
      { frames := rfl, mod := md, bs := fun _ _ e => of_hidT e, bsz := Nat.le_of_eq (hidT_size _ _), funs := trivial, frf := (fun _ z => nomatch z), hok := hok, bare := .of_eq ge }
    refine codeAny_mono ((F _ kin2 (names gns)).goes callerA [] s H ⟨[.ref sc], []⟩ [.ref sc] [.ref sc] _ _ rm rfl env (bi s (.ref sc)) (.cons rfl .nil) (pro H sq)) ?_
    intro res z fin
    match res, fin with
    | .error e, fin => exact (fin : False).elim
    | .ok .next, fin => exact (fin : False).elim
    | .ok .brk, fin => exact (fin : False).elim
    | .ok .cont, fin => exact (fin : False).elim
    | .ok (.ret u), ⟨v, H2, os, bare, un, hok2, rv, q⟩ =>
      cases (q : v = .bl true)
      cases (rv : u = Value.bool true)
      refine ⟨rfl, OldK.of_keep ?_, os, bare⟩
      intro b o e
      match w : H b with
      | none => exact un.keep b o e w (fun z => nomatch z) (fun z => nomatch z)
      | some uo =>
        obtain ⟨rfl, ob, xs, rfl⟩ := one b uo w
        have e1 := (hok b _ w).1
        have e2 := (hok2 b _ (un.frzs b ob _ w)).1
        exact e2.trans (e1.symm.trans e)
  have vx := vals_ints ia
  have ln := ia.length
  match kk : K.lookup sc with
  | some o =>
    have e := kin sc o kk
    rw [at_] at e
    cases e
    exact go (fun _ => none) (fun _ _ z => nomatch z) (.inr ⟨_, us.toArray, _, kk, rfl, rfl, rfl, by rw [List.size_toArray, ln]; exact few, by simpa using vx⟩) (fun _ _ z => nomatch z) (fun z => absurd rfl z)
  | none =>
    let one : HO := .frz { cls := .type "list", data := .seq us.toArray } (.lst (ns.map V.int))
    refine go (upd (fun _ => none) sc one) ?_ (.inl (.inr ⟨_, upd_same⟩)) ?_ (fun _ => kk)
    · intro b o z
      by_cases hb : b = sc
      · subst hb
        rw [upd_same] at z
        cases z
        exact ⟨rfl, _, _, rfl⟩
      · rw [upd_ne hb] at z
        cases z
    · intro b o z
      by_cases hb : b = sc
      · subst hb
        rw [upd_same] at z
        cases z
        exact ⟨at_, by rw [List.length_map]; exact few, us, _, vx, at_⟩
      · rw [upd_ne hb] at z
        cases z
end Rb
namespace Rb
open PySem PySem.Spec PyProof.Rows L2
/-! the deck: a list of the cells and the count of draws -/
def Dk (H : Hp) (d c : Addr) (N : Int) : Prop := ∃ (cs : List Int) (n : Int), H d = some (.lst [.ref c, .int n]) ∧ H c = some (.lst (cs.map V.int)) ∧ cs.length ≤ 63 ∧ (∀ x ∈ cs, 0 ≤ x) ∧ 0 ≤ n ∧ n ≤ N
/-- all but the deck is kept -/
def Kp (d c : Addr) (H H' : Hp) : Prop := ∀ b o, H b = some o → b ≠ d → b ≠ c → H' b = some o
theorem Kp.refl {d c : Addr} {H : Hp} : Kp d c H H := fun _ _ e _ _ => e
theorem Kp.trans {d c : Addr} {H H1 H2 : Hp} (a : Kp d c H H1) (b : Kp d c H1 H2) : Kp d c H H2 := fun x o e n1 n2 => b x o (a x o e n1 n2) n1 n2
theorem Kp.ex {d c : Addr} {H H1 : Hp} (a : Evl.Ex H H1) : Kp d c H H1 := fun x o e _ _ => a x o e
theorem Kp.new {d c : Addr} {H : Hp} {p : Addr} {o : HO} (h : H p = none) : Kp d c H (upd H p o) := Kp.ex (Evl.Ex.new h)
theorem Dk.ex {H H' : Hp} {d c : Addr} {N : Int} (h : Dk H d c N) (e : Evl.Ex H H') : Dk H' d c N := by
  obtain ⟨cs, n, h1, h2, r⟩ := h
  exact ⟨cs, n, e _ _ h1, e _ _ h2, r⟩
theorem Dk.new {H : Hp} {d c p : Addr} {N : Int} {o : HO} (h : Dk H d c N) (hp : H p = none) : Dk (upd H p o) d c N := h.ex (Evl.Ex.new hp)
theorem Dk.le {H : Hp} {d c : Addr} {N M : Int} (h : Dk H d c N) (e : N ≤ M) : Dk H d c M := by
  obtain ⟨cs, n, h1, h2, h3, h4, h5, h6⟩ := h
  exact ⟨cs, n, h1, h2, h3, h4, h5, by omega⟩
theorem Dk.ne1 {H : Hp} {d c p : Addr} {N : Int} (h : Dk H d c N) (hp : H p = none) : p ≠ d := by
  obtain ⟨cs, n, h1, _⟩ := h
  rintro rfl
  rw [h1] at hp
  cases hp
theorem Dk.ne2 {H : Hp} {d c p : Addr} {N : Int} (h : Dk H d c N) (hp : H p = none) : p ≠ c := by
  obtain ⟨cs, n, _, h1, _⟩ := h
  rintro rfl
  rw [h1] at hp
  cases hp
/-- fresh behind is fresh before -/
theorem Kp.fresh {d c p : Addr} {H H' : Hp} {N : Int} (k : Kp d c H H') (h : Dk H' d c N) (hp : H' p = none) : H p = none := by
  cases e : H p with
  | none => rfl
  | some o =>
    rw [k p o e (h.ne1 hp) (h.ne2 hp)] at hp
    cases hp
theorem Kp.sqT {K : PySem.W.Frag} {d c a : Addr} {H H' : Hp} {N : Int} {xs : List V} (k : Kp d c H H') (h : Dk H d c N) (hs : SqT K H a xs) : SqT K H' a xs := by
  obtain ⟨cs, n, h1, h2, _⟩ := h
  have go : ∀ u : HO, (∀ ys, u ≠ .lst ys) → H a = some u → H' a = some u := fun u nu e => k a u e
    (by rintro rfl; rw [h1] at e; exact nu _ (Option.some.inj e).symm) (by rintro rfl; rw [h2] at e; exact nu _ (Option.some.inj e).symm)
  rcases hs with (e | ⟨o, e⟩) | e
  · exact .inl (.inl (go _ (fun _ z => nomatch z) e))
  · exact .inl (.inr ⟨o, go _ (fun _ z => nomatch z) e⟩)
  · exact .inr e
theorem tupOf {K : PySem.W.Frag} {H : Hp} {a : Addr} {xs : List V} (h : H a = some (.tup xs)) : SqT K H a xs := .inl (.inl h)
theorem lstOf {K : PySem.W.Frag} {H : Hp} {a : Addr} {xs : List V} (h : H a = some (.lst xs)) : SqL K H a xs := .inl (.inl h)
/-! picks from short lists -/
theorem pick3 {x y z : V} {r : Int} (h0 : 0 ≤ r) (h1 : r < 3) : ∃ v, atI [x, y, z] r = some v ∧ (v = x ∨ v = y ∨ v = z) := by
  rcases (by omega : r = 0 ∨ r = 1 ∨ r = 2) with rfl | rfl | rfl
  · exact ⟨x, rfl, .inl rfl⟩
  · exact ⟨y, rfl, .inr (.inl rfl)⟩
  · exact ⟨z, rfl, .inr (.inr rfl)⟩
theorem pick3i {x y z r : Int} (h0 : 0 ≤ r) (h1 : r < 3) : ∃ v : Int, atI [V.int x, V.int y, V.int z] r = some (V.int v) ∧ (v = x ∨ v = y ∨ v = z) := by
  rcases (by omega : r = 0 ∨ r = 1 ∨ r = 2) with rfl | rfl | rfl
  · exact ⟨x, rfl, .inl rfl⟩
  · exact ⟨y, rfl, .inr (.inl rfl)⟩
  · exact ⟨z, rfl, .inr (.inr rfl)⟩
theorem sz_le {n : Nat} (h : n ≤ 100000) : n ≤ sizeLine := Evl.sz_of h
/-- slices from the beginning -/
theorem cut_to {xs : List V} {k : Nat} : cutV xs none (some (k : Int)) = xs.take k := by
  unfold cutV
  rw [HT.sIx_none, HT.sIx_nat]
  show List.take (min k xs.length - 0) (xs.drop 0) = _
  rw [List.drop_zero, Nat.sub_zero]
  rcases Nat.le_total k xs.length with h | h
  · rw [Nat.min_eq_left h]
  · rw [Nat.min_eq_right h, List.take_length, List.take_of_length_le h]
/-! a road -/
def Road (K : PySem.W.Frag) (H : Hp) (v : V) (w r : Int) (bs : List Int) : Prop := ∃ a b, v = .ref a ∧ SqT K H a [.int w, .int r, .ref b] ∧ SqT K H b (bs.map V.int)
theorem Road.kp {K : PySem.W.Frag} {d c : Addr} {H H' : Hp} {N : Int} {v : V} {w r : Int} {bs : List Int} (x : Road K H v w r bs) (k : Kp d c H H') (h : Dk H d c N) : Road K H' v w r bs := by
  obtain ⟨a, b, e, h1, h2⟩ := x
  exact ⟨a, b, e, k.sqT h h1, k.sqT h h2⟩
theorem Road.ex {K : PySem.W.Frag} {H H' : Hp} {v : V} {w r : Int} {bs : List Int} (x : Road K H v w r bs) (k : Evl.Ex H H') : Road K H' v w r bs := by
  obtain ⟨a, b, e, h1, h2⟩ := x
  exact ⟨a, b, e, Evl.ex_t k h1, Evl.ex_t k h2⟩
/-! data of ints: what repr shows -/
theorem DpAll.ints {K : PySem.W.Frag} {H : Hp} : ∀ ns : List Int, DpAll K H (ns.map V.int) (ns.map PyData.int)
  | [] => .nil
  | n :: ns => .cons (.int n) (DpAll.ints ns)
theorem Dp.tupI {K : PySem.W.Frag} {H : Hp} {a : Addr} {ns : List Int} (h : SqT K H a (ns.map V.int)) : Dp K H (.ref a) (.tuple (ns.map .int)) := .tup h (DpAll.ints ns)
def roadD (w r : Int) (bs : List Int) : PyData := .tuple [.int w, .int r, .tuple (bs.map .int)]
theorem Road.dp {K : PySem.W.Frag} {H : Hp} {v : V} {w r : Int} {bs : List Int} (x : Road K H v w r bs) : Dp K H v (roadD w r bs) := by
  obtain ⟨a, b, rfl, h1, h2⟩ := x
  exact .tup h1 (.cons (.int w) (.cons (.int r) (.cons (Dp.tupI h2) .nil)))
/-! data that repr shows: what it asks, by parts -/
structure Nice (k n : Nat) (d : PyData) : Prop where
  sh : d.showable = true
  lv : d.leavesShort 100 = true
  dep : d.depth ≤ k
  blk : d.bulk ≤ n
theorem Nice.mono {k n k' n' : Nat} {d : PyData} (h : Nice k n d) (h1 : k ≤ k') (h2 : n ≤ n') : Nice k' n' d := ⟨h.sh, h.lv, Nat.le_trans h.dep h1, Nat.le_trans h.blk h2⟩
theorem Nice.int {i : Int} (h : i.natAbs < 10 ^ 99) : Nice 0 0 (.int i) := by
  refine ⟨?_, ?_, Nat.le_refl _, Nat.le_refl _⟩
  · simp only [PyData.showable, decide_eq_true_eq]
    by_cases z : i.natAbs = 0
    · rw [z]; decide
    · refine (Nat.log2_lt z).mpr (Nat.lt_of_lt_of_le h ?_)
      decide +kernel
  · simp only [PyData.leavesShort, decide_eq_true_eq, PyData.shown]
    refine decide_eq_true ?_
    rw [PySem.ofString_length]
    exact int_text_length_le10 (k := 99) (by decide) h
theorem Nice.none : Nice 0 0 .none := ⟨rfl, rfl, Nat.le_refl _, Nat.le_refl _⟩
theorem Nice.bool {b : Bool} : Nice 0 0 (.bool b) := ⟨rfl, rfl, Nat.le_refl _, Nat.le_refl _⟩
theorem Nice.str {x : Str} {n : Nat} (h : x.cps.size ≤ n) (hx : ∀ c ∈ x.cps.toList, c < 16 ^ 8) : Nice 0 n (.str x) := by
  refine ⟨rfl, ?_, Nat.le_refl _, h⟩
  simpa only [PyData.leavesShort, List.all_eq_true, decide_eq_true_eq] using hx
theorem nice_all {k n : Nat} : ∀ {xs : List PyData}, (∀ x ∈ xs, Nice k n x) → PyData.showableAll xs = true ∧ PyData.leavesShortAll 100 xs = true ∧ PyData.depthAll xs ≤ k ∧ PyData.bulkAll xs ≤ xs.length * (n + 1)
  | [], _ => ⟨rfl, rfl, Nat.zero_le _, Nat.zero_le _⟩
  | x :: xs, h => by
    obtain ⟨a, b, c, d⟩ := nice_all (xs := xs) fun y hy => h y (List.mem_cons_of_mem _ hy)
    have hx := h x List.mem_cons_self
    refine ⟨?_, ?_, ?_, ?_⟩
    · simp only [PyData.showableAll, hx.sh, a, Bool.and_true]
    · simp only [PyData.leavesShortAll, hx.lv, b, Bool.and_true]
    · simp only [PyData.depthAll]
      exact Nat.max_le.mpr ⟨hx.dep, c⟩
    · simp only [PyData.bulkAll, List.length_cons]
      have := hx.blk
      rw [Nat.add_mul]
      omega
theorem Nice.tup {k n m : Nat} {xs : List PyData} (h : ∀ x ∈ xs, Nice k n x) (hm : xs.length * (n + 1) ≤ m) : Nice (k + 1) m (.tuple xs) := by
  obtain ⟨a, b, c, d⟩ := nice_all h
  exact ⟨by simpa only [PyData.showable] using a, by simpa only [PyData.leavesShort] using b, by simp only [PyData.depth]; omega, by simp only [PyData.bulk]; omega⟩
theorem Nice.lst {k n m : Nat} {xs : List PyData} (h : ∀ x ∈ xs, Nice k n x) (hm : xs.length * (n + 1) ≤ m) : Nice (k + 1) m (.list xs) := by
  obtain ⟨a, b, c, d⟩ := nice_all h
  exact ⟨by simpa only [PyData.showable] using a, by simpa only [PyData.leavesShort] using b, by simp only [PyData.depth]; omega, by simp only [PyData.bulk]; omega⟩
theorem Nice.ints {ns : List Int} {m : Nat} (h : ∀ i ∈ ns, i.natAbs < 10 ^ 99) (hm : ns.length ≤ m) : Nice 1 m (.tuple (ns.map .int)) := by
  refine Nice.tup (k := 0) (n := 0) (fun x hx => ?_) (by rw [List.length_map]; omega)
  obtain ⟨i, hi, rfl⟩ := List.mem_map.mp hx
  exact Nice.int (h i hi)
theorem Nice.fits {k : Nat} {d : PyData} (n : Nice k 100000 d) : d.shown.length ≤ sizeLine := by
  have e := PyData.shown_le_bulk 100 (by decide) d n.lv
  have := n.blk
  have : (16777216 : Nat) ≤ sizeLine := by decide
  omega
/-! comprehensions whose element changes nothing -/
end Rb
namespace Rb
open PySem PySem.Spec PyProof.Rows L2
/-! data without lists: it never changes -/
mutual
inductive Tp (K : PySem.W.Frag) (H : Hp) : V → PyData → Prop
  | non : Tp K H .non .none
  | bl (b : Bool) : Tp K H (.bl b) (.bool b)
  | int (i : Int) : Tp K H (.int i) (.int i)
  | str (x : Str) : Tp K H (.str x) (.str x)
  | tup {a : Addr} {xs : List V} {ds : List PyData} : SqT K H a xs → TpAll K H xs ds → Tp K H (.ref a) (.tuple ds)
inductive TpAll (K : PySem.W.Frag) (H : Hp) : List V → List PyData → Prop
  | nil : TpAll K H [] []
  | cons {v : V} {vs : List V} {d : PyData} {ds : List PyData} : Tp K H v d → TpAll K H vs ds → TpAll K H (v :: vs) (d :: ds)
end
section
variable {K : PySem.W.Frag} {H H' : Hp}
mutual
theorem Tp.dp : ∀ (d : PyData) (v : V), Tp K H v d → Dp K H v d
  | .none, _, h => by cases h; exact .non
  | .bool b, _, h => by cases h; exact .bl b
  | .int i, _, h => by cases h; exact .int i
  | .str x, _, h => by cases h; exact .str x
  | .list _, _, h => by cases h
  | .dict _, _, h => by cases h
  | .tuple ds, _, h => by
    cases h with
    | tup hs ha => exact .tup hs (TpAll.dp ds _ ha)
theorem TpAll.dp : ∀ (ds : List PyData) (vs : List V), TpAll K H vs ds → DpAll K H vs ds
  | [], _, h => by cases h; exact .nil
  | d :: ds, _, h => by
    cases h with
    | cons h1 h2 => exact .cons (Tp.dp d _ h1) (TpAll.dp ds _ h2)
end
mutual
theorem Tp.keep (k : ∀ a xs, SqT K H a xs → SqT K H' a xs) : ∀ (d : PyData) (v : V), Tp K H v d → Tp K H' v d
  | .none, _, h => by cases h; exact .non
  | .bool b, _, h => by cases h; exact .bl b
  | .int i, _, h => by cases h; exact .int i
  | .str x, _, h => by cases h; exact .str x
  | .list _, _, h => by cases h
  | .dict _, _, h => by cases h
  | .tuple ds, _, h => by
    cases h with
    | tup hs ha => exact .tup (k _ _ hs) (TpAll.keep k ds _ ha)
theorem TpAll.keep (k : ∀ a xs, SqT K H a xs → SqT K H' a xs) : ∀ (ds : List PyData) (vs : List V), TpAll K H vs ds → TpAll K H' vs ds
  | [], _, h => by cases h; exact .nil
  | d :: ds, _, h => by
    cases h with
    | cons h1 h2 => exact .cons (Tp.keep k d _ h1) (TpAll.keep k ds _ h2)
end
theorem Tp.ex {v : V} {d : PyData} (h : Tp K H v d) (e : Evl.Ex H H') : Tp K H' v d := Tp.keep (fun _ _ z => Evl.ex_t e z) d v h
theorem TpAll.ex {vs : List V} {ds : List PyData} (h : TpAll K H vs ds) (e : Evl.Ex H H') : TpAll K H' vs ds := TpAll.keep (fun _ _ z => Evl.ex_t e z) ds vs h
theorem Tp.kp {d c : Addr} {N : Int} {v : V} {x : PyData} (h : Tp K H v x) (k : Kp d c H H') (dk : Dk H d c N) : Tp K H' v x := Tp.keep (fun _ _ z => k.sqT dk z) x v h
theorem TpAll.kp {d c : Addr} {N : Int} {vs : List V} {ds : List PyData} (h : TpAll K H vs ds) (k : Kp d c H H') (dk : Dk H d c N) : TpAll K H' vs ds := TpAll.keep (fun _ _ z => k.sqT dk z) ds vs h
theorem TpAll.snoc {v : V} {d : PyData} : ∀ {vs : List V} {ds : List PyData}, TpAll K H vs ds → Tp K H v d → TpAll K H (vs ++ [v]) (ds ++ [d])
  | _, _, .nil, h => .cons h .nil
  | _, _, .cons h1 h2, h => .cons h1 (TpAll.snoc h2 h)
theorem TpAll.length : ∀ {vs : List V} {ds : List PyData}, TpAll K H vs ds → vs.length = ds.length
  | _, _, .nil => rfl
  | _, _, .cons _ h => congrArg (· + 1) (TpAll.length h)
theorem TpAll.ints : ∀ ns : List Int, TpAll K H (ns.map V.int) (ns.map PyData.int)
  | [] => .nil
  | n :: ns => .cons (.int n) (TpAll.ints ns)
theorem Tp.tupI {a : Addr} {ns : List Int} (h : SqT K H a (ns.map V.int)) : Tp K H (.ref a) (.tuple (ns.map .int)) := .tup h (TpAll.ints ns)
theorem Road.tp {v : V} {w r : Int} {bs : List Int} (x : Road K H v w r bs) : Tp K H v (roadD w r bs) := by
  obtain ⟨a, b, rfl, h1, h2⟩ := x
  exact .tup h1 (.cons (.int w) (.cons (.int r) (.cons (Tp.tupI h2) .nil)))
end
/-! a comprehension over a range whose elements are such data -/
end Rb
namespace Rb
open PySem PySem.Spec PyProof.Rows L2
/-! enumerate of a tuple -/
/-! loops over pairs: the pair is a new tuple -/
end Rb
namespace Rb
/-! ### plans and ticks: the mathematics -/
def leP (p q : Int × Int) : Prop := p.1 < q.1 ∨ (p.1 = q.1 ∧ p.2 ≤ q.2)
instance (p q : Int × Int) : Decidable (leP p q) := inferInstanceAs (Decidable (p.1 < q.1 ∨ (p.1 = q.1 ∧ p.2 ≤ q.2)))
def insB {α : Type} (le : α → α → Bool) (x : α) : List α → List α
  | [] => [x]
  | y :: ys => if le x y = true then x :: y :: ys else y :: insB le x ys
def sortB {α : Type} (le : α → α → Bool) : List α → List α
  | [] => []
  | x :: xs => insB le x (sortB le xs)
theorem insB_perm {α : Type} (le : α → α → Bool) (x : α) : ∀ l : List α, (insB le x l).Perm (x :: l)
  | [] => List.Perm.refl _
  | y :: ys => by
    unfold insB
    split
    · exact List.Perm.refl _
    · exact ((insB_perm le x ys).cons y).trans (List.Perm.swap x y ys)
theorem sortB_perm {α : Type} (le : α → α → Bool) : ∀ l : List α, (sortB le l).Perm l
  | [] => List.Perm.refl _
  | x :: xs => (insB_perm le x _).trans ((sortB_perm le xs).cons x)
theorem insB_sorted {α : Type} {le : α → α → Bool} (tr : ∀ a b c, le a b = true → le b c = true → le a c = true) (tot : ∀ a b, le a b = true ∨ le b a = true) (x : α) : ∀ l : List α, l.Pairwise (fun a b => le a b = true) → (insB le x l).Pairwise (fun a b => le a b = true)
  | [], _ => List.pairwise_singleton _ _
  | y :: ys, h => by
    have hy := List.pairwise_cons.mp h
    unfold insB
    split
    · rename_i c
      refine List.pairwise_cons.mpr ⟨fun z hz => ?_, h⟩
      rcases List.mem_cons.mp hz with rfl | hz
      · exact c
      · exact tr _ _ _ c (hy.1 z hz)
    · rename_i c
      refine List.pairwise_cons.mpr ⟨fun z hz => ?_, insB_sorted tr tot x ys hy.2⟩
      rcases List.mem_cons.mp ((insB_perm le x ys).mem_iff.mp hz) with rfl | hz
      · exact (tot z y).resolve_left c
      · exact hy.1 z hz
theorem sortB_sorted {α : Type} {le : α → α → Bool} (tr : ∀ a b c, le a b = true → le b c = true → le a c = true) (tot : ∀ a b, le a b = true ∨ le b a = true) : ∀ l : List α, (sortB le l).Pairwise (fun a b => le a b = true)
  | [] => List.Pairwise.nil
  | x :: xs => insB_sorted tr tot x _ (sortB_sorted tr tot xs)
def srt (l : List Int) : List Int := sortB (fun a b => decide (a ≤ b)) l
def srtP (l : List (Int × Int)) : List (Int × Int) := sortB (fun a b => decide (leP a b)) l
theorem srt_perm (l : List Int) : (srt l).Perm l := sortB_perm _ l
theorem srtP_perm (l : List (Int × Int)) : (srtP l).Perm l := sortB_perm _ l
theorem srt_sorted (l : List Int) : (srt l).Pairwise (· ≤ ·) := by
  have h := sortB_sorted (le := fun a b : Int => decide (a ≤ b)) (fun a b c h1 h2 => by simp only [decide_eq_true_eq] at *; omega) (fun a b => by simp only [decide_eq_true_eq]; omega) l
  exact h.imp fun h => of_decide_eq_true h
theorem leP_trans {a b c : Int × Int} (h1 : leP a b) (h2 : leP b c) : leP a c := by
  unfold leP at *
  omega
theorem leP_total (a b : Int × Int) : leP a b ∨ leP b a := by
  unfold leP
  omega
theorem srtP_sorted (l : List (Int × Int)) : (srtP l).Pairwise leP := by
  have h := sortB_sorted (le := fun a b : Int × Int => decide (leP a b)) (fun a b c h1 h2 => decide_eq_true (leP_trans (of_decide_eq_true h1) (of_decide_eq_true h2))) (fun a b => by rcases leP_total a b with h | h <;> simp [h]) l
  exact h.imp fun h => of_decide_eq_true h
theorem leP_anti {a b : Int × Int} (h1 : leP a b) (h2 : leP b a) : a = b := by
  obtain ⟨a1, a2⟩ := a
  obtain ⟨b1, b2⟩ := b
  simp only [leP] at h1 h2
  have : a1 = b1 := by omega
  have : a2 = b2 := by omega
  simp [*]
theorem srt_uniq {l m : List Int} (hp : m.Perm l) (hs : m.Pairwise (· ≤ ·)) : m = srt l :=
  List.Perm.eq_of_pairwise (fun a b _ _ h1 h2 => Int.le_antisymm h1 h2) hs (srt_sorted l) (hp.trans (srt_perm l).symm)
theorem srtP_len (l : List (Int × Int)) : (srtP l).length = l.length := (srtP_perm l).length_eq
/-! one stage -/
section
variable (ticks : List Int) (riders brought : List Nat) (st : Nat) (walk ride : Int)
def tickAt (p : Nat) : Int := ticks.getD p 0
end
/-! a whole plan: the ticks at each station -/
structure PlanOk (bikes : List Int) (n : Nat) (plan : List (List Nat)) : Prop where
  len : plan.length = bikes.length
  nn : ∀ b ∈ bikes, 0 ≤ b
  asc : ∀ r ∈ plan, r.Pairwise (· < ·)
  lt : ∀ r ∈ plan, ∀ p ∈ r, p < n
  few : ∀ i, (plan.getD i []).length ≤ (bikes.getD i 0).toNat + (if i = 0 then 0 else (plan.getD (i - 1) []).length)
def brM (plan : List (List Nat)) (i : Nat) : List Nat := if i = 0 then [] else plan.getD (i - 1) []
/-! waits -/
/-- a least item of what is left is the next in order -/
theorem least_next {S l : List (Int × Int)} {k : Nat} {m : Int × Int} (hs : S.Pairwise leP) (hp : l.Perm (S.drop k)) (hm : m ∈ l) (hle : ∀ q ∈ l, leP m q) : S[k]? = some m ∧ S.drop k = m :: S.drop (k + 1) := by
  have hm2 := hp.mem_iff.mp hm
  have kl : k < S.length := by
    rcases Nat.lt_or_ge k S.length with c | c
    · exact c
    · rw [List.drop_of_length_le c] at hm2
      cases hm2
  have ed : S.drop k = S[k] :: S.drop (k + 1) := List.drop_eq_getElem_cons kl
  have h1 : leP m S[k] := hle _ (hp.mem_iff.mpr (by rw [ed]; exact List.mem_cons_self))
  have h2 : leP S[k] m := by
    have hs2 : (S.drop k).Pairwise leP := hs.sublist (List.drop_sublist _ _)
    rw [ed] at hs2 hm2
    rcases List.mem_cons.mp hm2 with e | e
    · rw [e]
      exact .inr ⟨rfl, Int.le_refl _⟩
    · exact (List.pairwise_cons.mp hs2).1 m e
  have e := leP_anti h1 h2
  exact ⟨by rw [List.getElem?_eq_getElem kl, e], by rw [e]; exact ed⟩
theorem erase_next {α : Type} {l r : List α} {m : α} {j : Nat} (hj : l[j]? = some m) (hp : l.Perm (m :: r)) : (l.eraseIdx j).Perm r := by
  have h : (m :: l.eraseIdx j).Perm l := by
    clear hp
    induction l generalizing j with
    | nil => simp at hj
    | cons x l ih =>
      cases j with
      | zero =>
        cases hj
        exact List.Perm.refl _
      | succ j => exact (List.Perm.swap x m _).trans ((ih hj).cons x)
  exact (h.trans hp).cons_inv
/-! bounds -/
end Rb
namespace Rb
open PySem PySem.Spec PyProof.Rows L2
/-! pairs of ints in a list: min, remove, sorted -/
def pairD (p : Int × Int) : PyData := .tuple [.int p.1, .int p.2]
/-- the list's items are pairs, as told -/
def Prs (H : Hp) (xs : List V) (ps : List (Int × Int)) : Prop := xs.length = ps.length ∧ ∀ (i : Nat) (p : Int × Int), ps[i]? = some p → ∃ t, xs[i]? = some (.ref t) ∧ H t = some (.tup [.int p.1, .int p.2])
theorem Prs.nil {H : Hp} : Prs H [] [] := ⟨rfl, fun i p h => by simp at h⟩
theorem Prs.keep {H H' : Hp} {xs : List V} {ps : List (Int × Int)} (h : Prs H xs ps) (k : ∀ a ys, H a = some (.tup ys) → H' a = some (.tup ys)) : Prs H' xs ps :=
  ⟨h.1, fun i p hp => by
    obtain ⟨t, h1, h2⟩ := h.2 i p hp
    exact ⟨t, h1, k _ _ h2⟩⟩
theorem Prs.snoc {H : Hp} {xs : List V} {ps : List (Int × Int)} {t : Addr} {p : Int × Int} (h : Prs H xs ps) (ht : H t = some (.tup [.int p.1, .int p.2])) : Prs H (xs ++ [.ref t]) (ps ++ [p]) := by
  refine ⟨by rw [List.length_append, List.length_append, h.1]; rfl, fun i q hq => ?_⟩
  rw [List.getElem?_append] at hq
  split at hq
  · rename_i hi
    obtain ⟨t2, h1, h2⟩ := h.2 i q hq
    exact ⟨t2, by rw [List.getElem?_append_left (by rw [h.1]; exact hi)]; exact h1, h2⟩
  · rename_i hi
    have e : i - ps.length = 0 := by
      rcases Nat.eq_zero_or_pos (i - ps.length) with e | e
      · exact e
      · rw [List.getElem?_eq_none (by show 1 ≤ i - ps.length; exact e)] at hq
        cases hq
    rw [e] at hq
    cases hq
    refine ⟨t, ?_, ht⟩
    rw [List.getElem?_append_right (by rw [h.1]; omega), h.1, e]
    rfl
theorem Prs.dp {K : PySem.W.Frag} {H : Hp} : ∀ {xs : List V} {ps : List (Int × Int)}, Prs H xs ps → DpAll K H xs (ps.map pairD)
  | [], [], _ => .nil
  | [], _ :: _, h => by cases h.1
  | _ :: _, [], h => by cases h.1
  | x :: xs, p :: ps, h => by
    obtain ⟨t, h1, h2⟩ := h.2 0 p rfl
    cases (Option.some.inj h1)
    refine .cons (.tup (tupOf h2) (.cons (.int _) (.cons (.int _) .nil))) (Prs.dp ⟨Nat.succ.inj h.1, fun i q hq => ?_⟩)
    exact h.2 (i + 1) q hq
end Rb
namespace Rb
open PySem PySem.Spec PyProof.Rows L2
/-- rows: refs of tuples of ints -/
def Rws (K : PySem.W.Frag) (H : Hp) (xs : List V) (rows : List (List Int)) : Prop := xs.length = rows.length ∧ ∀ (i : Nat) (r : List Int), rows[i]? = some r → ∃ t, xs[i]? = some (.ref t) ∧ SqT K H t (r.map V.int)
section
variable {K : PySem.W.Frag} {H H' : Hp} {xs : List V} {rows : List (List Int)}
theorem Rws.nil : Rws K H [] [] := ⟨rfl, fun i p h => by simp at h⟩
theorem Rws.keep (h : Rws K H xs rows) (k : ∀ a ys, SqT K H a ys → SqT K H' a ys) : Rws K H' xs rows :=
  ⟨h.1, fun i p hp => by
    obtain ⟨t, h1, h2⟩ := h.2 i p hp
    exact ⟨t, h1, k _ _ h2⟩⟩
theorem Rws.ex (h : Rws K H xs rows) (e : Evl.Ex H H') : Rws K H' xs rows := h.keep fun _ _ z => Evl.ex_t e z
theorem Rws.kp {d c : Addr} {N : Int} (h : Rws K H xs rows) (k : Kp d c H H') (dk : Dk H d c N) : Rws K H' xs rows := h.keep fun _ _ z => k.sqT dk z
theorem Rws.snoc {t : Addr} {r : List Int} (h : Rws K H xs rows) (ht : SqT K H t (r.map V.int)) : Rws K H (xs ++ [.ref t]) (rows ++ [r]) := by
  refine ⟨by rw [List.length_append, List.length_append, h.1]; rfl, fun i q hq => ?_⟩
  rw [List.getElem?_append] at hq
  split at hq
  · rename_i hi
    obtain ⟨t2, h1, h2⟩ := h.2 i q hq
    exact ⟨t2, by rw [List.getElem?_append_left (by rw [h.1]; exact hi)]; exact h1, h2⟩
  · rename_i hi
    have e : i - rows.length = 0 := by
      rcases Nat.eq_zero_or_pos (i - rows.length) with e | e
      · exact e
      · rw [List.getElem?_eq_none (by show 1 ≤ i - rows.length; exact e)] at hq
        cases hq
    rw [e] at hq
    cases hq
    refine ⟨t, ?_, ht⟩
    rw [List.getElem?_append_right (by rw [h.1]; omega), h.1, e]
    rfl
theorem Rws.tp : ∀ {xs : List V} {rows : List (List Int)}, Rws K H xs rows → TpAll K H xs (rows.map fun r => .tuple (r.map .int))
  | [], [], _ => .nil
  | [], _ :: _, h => by cases h.1
  | _ :: _, [], h => by cases h.1
  | x :: xs, p :: ps, h => by
    obtain ⟨t, h1, h2⟩ := h.2 0 p rfl
    cases (Option.some.inj h1)
    exact .cons (Tp.tupI h2) (Rws.tp ⟨Nat.succ.inj h.1, fun i q hq => h.2 (i + 1) q hq⟩)
end
/-! comprehensions over enumerate(list), and whose elements are new pairs -/
/-! sorted pairs -/
end Rb
namespace Rb
open PySem PySem.Spec PyProof.Rows L2
/-! a tuple times a number: once is the tuple itself -/
open AutoSeq1 (wpAny_loadPart') in
theorem tupMul1 (t : Addr) (its : Array Value) (n : Nat) (dc : Option Addr) (sl : Array (Option Value)) (u : Tok) :
    Meets (Builtin.«tuple.__mul__» ⟨[.ref t, .int 1 u], []⟩) (fun _ R s => s.heap.get? t = some { cls := .type "tuple", dict := dc, data := .seq its n, slots := sl } ∧ R (.ok (.ret (Value.ref t))) s) := by
  refine .of_wp fun pr wo A R s h => ?_
  obtain ⟨hp, g, d, tk, os⟩ := s
  obtain ⟨ht, h⟩ := h
  have f1 := AutoSeq1.idx_int
  wp_walk using wpAny_loadPart' ht
  repeat (first
    | (refine wpAny_ite_false (by decide) ?_; wp_walk using wpAny_loadPart' ht)
    | (refine wpAny_ite_true (decide_eq_true (by cases its.isEmpty <;> rfl)) ?_; wp_walk using wpAny_loadPart' ht))
  exact ⟨_, rfl, h⟩
/-! max of a tuple of ints -/
end Rb
namespace Rb
/-! waits by the ticks alone -/
end Rb
namespace Rb
open PySem PySem.Spec PyProof.Rows L2
end Rb
namespace Rb
open PySem PySem.Spec PyProof.Rows L2
/-! own errors with one field: made, raised, caught, asked for their class -/
/-- __init__(self, f): self.f = f -/
def spIni (K : PySem.W.Frag) (C : Addr) (f : Str) : Sp := fun vs H Q _ => ∃ (a : Addr) (y : V), vs = [.ref a, y] ∧ H a = some (exo a C none) ∧ ∀ dx, H dx = none → dx ≠ a → Q .non (upd (upd H dx (exd dx [(f, y)])) a (exo a C (some dx)))
theorem made_eq {H : Hp} {a d C : Addr} {f : Str} {y : V} (ha : H a = none) (hd : d ≠ a) :
    upd (del (upd (upd (upd H a (exo a C none)) d (exd d [(f, y)])) a (exo a C (some d))) a) d (.xd [(f, y)]) = upd H d (.xd [(f, y)]) := by
  funext b
  by_cases h1 : b = d
  · subst h1
    rw [upd_same, upd_same]
  · rw [upd_ne h1, upd_ne h1]
    by_cases h2 : b = a
    · subst h2
      rw [del_same, ha]
    · rw [del_ne h2, upd_ne h2, upd_ne h1, upd_ne h2]
/-- what remains to show of raise C(e) -/
theorem mkO_of {K : PySem.W.Frag} {C : Addr} {f : Str} {H1 : Hp} {y : V} {W : XK} (q : ∀ d, H1 d = none → W (.ref C) (some d) (upd H1 d (.xd [(f, y)]))) :
    [y].length ≤ 1000 ∧ ∀ a, H1 a = none → spIni K C f (.ref a :: ([y] ++ [])) (upd H1 a (exo a C none))
      (fun v H2 => v = .non ∧ ∃ (d : Addr) (fs : List (Str × V)), H2 a = some (exo a C (some d)) ∧ H2 d = some (exd d fs) ∧ H1 d = none ∧ W (.ref C) (some d) (upd (del H2 a) d (.xd fs))) (fun _ _ _ => False) := by
  refine ⟨by show 1 ≤ 1000; decide, fun a ha => ⟨a, y, rfl, upd_same, fun d hd ne => ⟨rfl, d, [(f, y)], upd_same, ?_, ?_, ?_⟩⟩⟩
  · rw [upd_ne ne, upd_same]
  · rw [upd_ne ne] at hd
    exact hd
  · rw [made_eq ha ne]
    rw [upd_ne ne] at hd
    exact q d hd
/-! ### isinstance of the error that a suite holds -/
end Rb
namespace Rb
open PySem PySem.Spec PyProof.Rows L2
/-! roads one behind the other -/
abbrev Rd := Int × Int × List Int
/-- roads in a sequence -/
def Rds (K : PySem.W.Frag) (H : Hp) (xs : List V) (rs : List Rd) : Prop := xs.length = rs.length ∧ ∀ (i : Nat) (r : Rd), rs[i]? = some r → ∃ v, xs[i]? = some v ∧ Road K H v r.1 r.2.1 r.2.2
section
variable {K : PySem.W.Frag} {H H' : Hp} {xs : List V} {rs : List Rd}
theorem Rds.nil : Rds K H [] [] := ⟨rfl, fun i r h => by simp at h⟩
theorem Road.keep {v : V} {w r : Int} {bs : List Int} (x : Road K H v w r bs) (k : ∀ a ys, SqT K H a ys → SqT K H' a ys) : Road K H' v w r bs := by
  obtain ⟨a, b, rfl, h1, h2⟩ := x
  exact ⟨a, b, rfl, k _ _ h1, k _ _ h2⟩
theorem Rds.keep (h : Rds K H xs rs) (k : ∀ a ys, SqT K H a ys → SqT K H' a ys) : Rds K H' xs rs :=
  ⟨h.1, fun i r e => by
    obtain ⟨v, h1, h2⟩ := h.2 i r e
    exact ⟨v, h1, h2.keep k⟩⟩
theorem Rds.ex (h : Rds K H xs rs) (e : Evl.Ex H H') : Rds K H' xs rs := h.keep fun _ _ z => Evl.ex_t e z
theorem Rds.kp {d c : Addr} {N : Int} (h : Rds K H xs rs) (k : Kp d c H H') (dk : Dk H d c N) : Rds K H' xs rs := h.keep fun _ _ z => k.sqT dk z
theorem Rds.cons {v : V} {r : Rd} (h1 : Road K H v r.1 r.2.1 r.2.2) (h : Rds K H xs rs) : Rds K H (v :: xs) (r :: rs) := by
  refine ⟨by rw [List.length_cons, List.length_cons, h.1], fun i s e => ?_⟩
  cases i with
  | zero =>
    cases e
    exact ⟨v, rfl, h1⟩
  | succ i => exact h.2 i s e
theorem Rds.snoc {v : V} {r : Rd} (h : Rds K H xs rs) (h1 : Road K H v r.1 r.2.1 r.2.2) : Rds K H (xs ++ [v]) (rs ++ [r]) := by
  refine ⟨by simp [h.1], fun i s e => ?_⟩
  by_cases hi : i < rs.length
  · rw [List.getElem?_append_left hi] at e
    obtain ⟨u, h2, h3⟩ := h.2 i s e
    exact ⟨u, by rw [List.getElem?_append_left (by rw [h.1]; exact hi)]; exact h2, h3⟩
  · have hl := (List.getElem?_eq_some_iff.mp e).1
    rw [List.length_append] at hl
    have hi2 : i = rs.length := by simp at hl; omega
    subst hi2
    rw [List.getElem?_concat_length] at e
    cases e
    exact ⟨v, by rw [← h.1]; exact List.getElem?_concat_length, h1⟩
theorem Rds.uncons {v : V} {r : Rd} (h : Rds K H (v :: xs) (r :: rs)) : Road K H v r.1 r.2.1 r.2.2 ∧ Rds K H xs rs := by
  refine ⟨?_, by have := h.1; rw [List.length_cons, List.length_cons] at this; omega, fun i s e => h.2 (i + 1) s e⟩
  obtain ⟨u, h1, h2⟩ := h.2 0 r rfl
  cases h1
  exact h2
theorem Rds.at {i : Nat} {v : V} (h : Rds K H xs rs) (hv : xs[i]? = some v) : ∃ r, rs[i]? = some r ∧ Road K H v r.1 r.2.1 r.2.2 := by
  have hl := (List.getElem?_eq_some_iff.mp hv).1
  have e : rs[i]? = some (rs[i]'(by rw [← h.1]; exact hl)) := List.getElem?_eq_getElem _
  obtain ⟨u, h1, h2⟩ := h.2 i _ e
  rw [hv] at h1
  cases h1
  exact ⟨_, e, h2⟩
theorem Rds.set {i : Nat} {v : V} {r : Rd} (h : Rds K H xs rs) (h1 : Road K H v r.1 r.2.1 r.2.2) : Rds K H (xs.set i v) (rs.set i r) := by
  refine ⟨by simp [h.1], fun j s e => ?_⟩
  by_cases hij : i = j
  · subst hij
    by_cases hl : i < rs.length
    · rw [List.getElem?_set_self hl] at e
      cases e
      exact ⟨v, List.getElem?_set_self (by rw [h.1]; exact hl), h1⟩
    · rw [List.getElem?_eq_none (by simp; omega)] at e
      cases e
  · rw [List.getElem?_set_ne hij] at e
    obtain ⟨u, h2, h3⟩ := h.2 j s e
    exact ⟨u, by rw [List.getElem?_set_ne hij]; exact h2, h3⟩
theorem Rds.dp : ∀ {xs : List V} {rs : List Rd}, Rds K H xs rs → DpAll K H xs (rs.map fun r => roadD r.1 r.2.1 r.2.2)
  | [], [], _ => .nil
  | [], _ :: _, h => by cases h.1
  | _ :: _, [], h => by cases h.1
  | x :: xs, r :: rs, h => by
    obtain ⟨h1, h2⟩ := h.uncons
    exact .cons h1.dp (Rds.dp h2)
/-! the two ends of a road -/
end
/-! a result: plain immutable data, or a new list of a text and a number -/
def Res (K : PySem.W.Frag) (H0 H : Hp) (v : V) (d : PyData) : Prop := Tp K H v d ∨ ∃ (q : Addr) (x : Str) (n : Int), v = .ref q ∧ H0 q = none ∧ H q = some (.lst [.str x, .int n]) ∧ d = .list [.str x, .int n]
theorem Res.ex {K : PySem.W.Frag} {H0 H H' : Hp} {v : V} {d : PyData} (h : Res K H0 H v d) (e : Evl.Ex H H') : Res K H0 H' v d := by
  rcases h with h | ⟨q, x, n, h1, h2, h3, h4⟩
  · exact .inl (h.ex e)
  · exact .inr ⟨q, x, n, h1, h2, e _ _ h3, h4⟩
theorem Res.old {K : PySem.W.Frag} {H0 H1 H : Hp} {v : V} {d : PyData} (h : Res K H1 H v d) (e : Evl.Ex H0 H1) : Res K H0 H v d := by
  rcases h with h | ⟨q, x, n, h1, h2, h3, h4⟩
  · exact .inl h
  · refine .inr ⟨q, x, n, h1, ?_, h3, h4⟩
    cases z : H0 q with
    | none => rfl
    | some o => rw [e _ _ z] at h2; cases h2
theorem Res.dp {K : PySem.W.Frag} {H0 H : Hp} {v : V} {d : PyData} (h : Res K H0 H v d) : Dp K H v d := by
  rcases h with h | ⟨q, x, n, h1, h2, h3, h4⟩
  · exact Tp.dp _ _ h
  · subst h1 h4
    exact .lst (lstOf h3) (.cons (.str x) (.cons (.int n) .nil))
/-- the same of all, the lists none of them at D -/
inductive ResAll (K : PySem.W.Frag) (D : Addr) (H : Hp) : List V → List PyData → Prop
  | nil : ResAll K D H [] []
  | tp {v : V} {d : PyData} {vs : List V} {ds : List PyData} : Tp K H v d → ResAll K D H vs ds → ResAll K D H (v :: vs) (d :: ds)
  | ls {q : Addr} {x : Str} {n : Int} {vs : List V} {ds : List PyData} : q ≠ D → H q = some (.lst [.str x, .int n]) → ResAll K D H vs ds → ResAll K D H (.ref q :: vs) (.list [.str x, .int n] :: ds)
section
variable {K : PySem.W.Frag} {D : Addr} {H H' : Hp}
theorem ResAll.dp : ∀ {vs : List V} {ds : List PyData}, ResAll K D H vs ds → DpAll K H vs ds
  | _, _, .nil => .nil
  | _, _, .tp h r => .cons (Tp.dp _ _ h) r.dp
  | _, _, .ls _ h r => .cons (.lst (lstOf h) (.cons (.str _) (.cons (.int _) .nil))) r.dp
theorem ResAll.ex (e : Evl.Ex H H') : ∀ {vs : List V} {ds : List PyData}, ResAll K D H vs ds → ResAll K D H' vs ds
  | _, _, .nil => .nil
  | _, _, .tp h r => .tp (h.ex e) (r.ex e)
  | _, _, .ls n h r => .ls n (e _ _ h) (r.ex e)
theorem ResAll.snoc {H0 : Hp} {v : V} {d : PyData} {o : HO} (hv : Res K H0 H v d) (hD : H0 D = some o) : ∀ {vs : List V} {ds : List PyData}, ResAll K D H vs ds → ResAll K D H (vs ++ [v]) (ds ++ [d])
  | _, _, .nil => by
    rcases hv with h | ⟨q, x, n, h1, h2, h3, h4⟩
    · exact .tp h .nil
    · subst h1 h4
      exact .ls (fun z => by rw [z, hD] at h2; cases h2) h3 .nil
  | _, _, .tp h r => .tp h (r.snoc hv hD)
  | _, _, .ls n h r => .ls n h (r.snoc hv hD)
theorem ResAll.length : ∀ {vs : List V} {ds : List PyData}, ResAll K D H vs ds → vs.length = ds.length
  | _, _, .nil => rfl
  | _, _, .tp _ r => congrArg Nat.succ r.length
  | _, _, .ls _ _ r => congrArg Nat.succ r.length
end
end Rb
namespace Rb
open PySem PySem.Spec PyProof.Rows L2
/-! any value: plain data, small dicts from texts to ints among it -/
def dicV (ps : List (Str × Int)) : List (Key × V) := ps.map fun p => (Sum.inr p.1, V.int p.2)
def dicD (ps : List (Str × Int)) : PyData := .dict (ps.map fun p => (.str p.1, .int p.2))
mutual
inductive Ap (K : PySem.W.Frag) (S : List Addr) (H : Hp) : V → PyData → Prop
  | non : Ap K S H .non .none
  | bl (b : Bool) : Ap K S H (.bl b) (.bool b)
  | int (i : Int) : Ap K S H (.int i) (.int i)
  | str (x : Str) : Ap K S H (.str x) (.str x)
  | lst {a : Addr} {xs : List V} {ds : List PyData} : a ∉ S → L2.Rd H a (.lst xs) → ApAll K S H xs ds → Ap K S H (.ref a) (.list ds)
  | tup {a : Addr} {xs : List V} {ds : List PyData} : SqT K H a xs → ApAll K S H xs ds → Ap K S H (.ref a) (.tuple ds)
  | dic {a : Addr} {ps : List (Str × Int)} : H a = some (.dK (dicV ps)) → Ap K S H (.ref a) (dicD ps)
inductive ApAll (K : PySem.W.Frag) (S : List Addr) (H : Hp) : List V → List PyData → Prop
  | nil : ApAll K S H [] []
  | cons {v : V} {vs : List V} {d : PyData} {ds : List PyData} : Ap K S H v d → ApAll K S H vs ds → ApAll K S H (v :: vs) (d :: ds)
end
section
variable {X : Cx} {pins : List (Addr × Obj)} {σ : L2.St} {H : Hp} {s : Shared} {S : List Addr}
theorem dic_reads {h : Heap} : ∀ {ps : List (Str × Int)} {vs : List (Key × Value)} {es : List DictEntry}, KV (dicV ps) vs → Pairs (mixKind X.prog X.w) es vs →
    ReadsAll h (es.map (·.key)) (ps.map fun p => PyData.str p.1) [] ∧ ReadsAll h (es.map (·.val)) (ps.map fun p => PyData.int p.2) []
  | [], _, _, .nil, .nil => ⟨.nil, .nil⟩
  | p :: ps, _, _, .cons hp r, .cons h1 h2 h3 => by
    obtain ⟨q1, q2⟩ := dic_reads r h3
    obtain ⟨e1, t, e2⟩ := hp
    have hk : keyIs (Sum.inr p.1) _ = true := e1 ▸ h1
    rcases keyIs_shape hk with ⟨i, t, z, _⟩ | ⟨x, t2, z, e3⟩
    · cases z
    · cases z
      refine ⟨?_, ?_⟩
      · rw [List.map_cons, List.map_cons, e3]
        exact ReadsAll.cons (as := []) (bs := []) (.str _ _) q1
      · rw [List.map_cons, List.map_cons, h2, e2]
        exact ReadsAll.cons (as := []) (bs := []) (.int _ _) q2
mutual
theorem Ap.reads (hm : sysModules ∈ S) (I : Inv X pins σ H s) : ∀ (d : PyData) (v : V) (u : Value), Ap X.K S H v d → RelV v u → ∃ as, Reads s.heap u d as ∧ sysModules ∉ as
  | .none, _, _, h, r => by
    cases h
    cases r
    exact ⟨_, Reads.none, (fun z => nomatch z)⟩
  | .bool b, _, _, h, r => by
    cases h
    cases r
    exact ⟨_, Reads.bool b, (fun z => nomatch z)⟩
  | .int i, _, _, h, r => by
    cases h
    obtain ⟨t, rfl⟩ := r
    exact ⟨_, Reads.int i t, (fun z => nomatch z)⟩
  | .str x, _, _, h, r => by
    cases h
    obtain ⟨t, rfl⟩ := r
    exact ⟨_, Reads.str x t, (fun z => nomatch z)⟩
  | .list ds, _, _, h, r => by
    cases h with
    | lst ne hs ha =>
      cases r
      obtain ⟨its, rv, ⟨o, n, ho, hc, _, hd⟩, _⟩ := I.list (show SqL X.K H _ _ from .inl hs)
      obtain ⟨as, hr, no⟩ := Ap.readsAll hm I ds _ its ha rv
      refine ⟨_, Reads.list ho hc hd hr, fun z => ?_⟩
      rcases List.mem_cons.mp z with z | z
      · exact ne (z ▸ hm)
      · exact no z
  | .tuple ds, _, _, h, r => by
    cases h with
    | tup hs ha =>
      cases r
      obtain ⟨its, rv, ⟨o, ho, hc, n, hd⟩, _⟩ := I.tuple hs
      obtain ⟨as, hr, no⟩ := Ap.readsAll hm I ds _ its ha rv
      exact ⟨_, Reads.tuple ho hc hd hr, no⟩
  | .dict kvs, _, _, h, r => by
    generalize e : PyData.dict kvs = dd at h
    cases h with
    | non => cases e
    | bl => cases e
    | int => cases e
    | str => cases e
    | lst => cases e
    | tup => cases e
    | @dic a ps hd =>
      cases (PyData.dict.inj e)
      cases r
      obtain ⟨_, ne, vs, rel, o, es, ep, ho, hx, hdat, _, hp, _⟩ := dk_of I.hok hd
      obtain ⟨q1, q2⟩ := dic_reads (X := X) (h := s.heap) rel hp
      have e1 : (ps.map fun p => ((PyData.str p.1, PyData.int p.2) : PyData × PyData)).map (·.1) = ps.map fun p => PyData.str p.1 := by rw [List.map_map]; rfl
      have e2 : (ps.map fun p => ((PyData.str p.1, PyData.int p.2) : PyData × PyData)).map (·.2) = ps.map fun p => PyData.int p.2 := by rw [List.map_map]; rfl
      refine ⟨_, Reads.dict (as := []) (bs := []) ho hx.1 hdat (by rw [e1]; exact q1) (by rw [e2]; exact q2), fun z => ?_⟩
      rcases List.mem_cons.mp z with z | z
      · rw [← z] at ne
        cases ne
      · cases z
theorem Ap.readsAll (hm : sysModules ∈ S) (I : Inv X pins σ H s) : ∀ (ds : List PyData) (vs : List V) (us : List Value), ApAll X.K S H vs ds → Vals vs us → ∃ as, ReadsAll s.heap us ds as ∧ sysModules ∉ as
  | [], _, _, h, r => by
    cases h
    cases r
    exact ⟨_, ReadsAll.nil, (fun z => nomatch z)⟩
  | d :: ds, _, _, h, r => by
    cases h with
    | cons h1 h2 =>
      cases r with
      | cons r1 r2 =>
        obtain ⟨as, q1, n1⟩ := Ap.reads hm I d _ _ h1 r1
        obtain ⟨bs, q2, n2⟩ := Ap.readsAll hm I ds _ _ h2 r2
        refine ⟨_, ReadsAll.cons q1 q2, fun z => ?_⟩
        rcases List.mem_append.mp z with z | z
        · exact n1 z
        · exact n2 z
end
end
/-! what stays -/
section
variable {K : PySem.W.Frag} {H H' : Hp} {S : List Addr}
mutual
theorem Ap.keep (kl : ∀ a xs, a ∉ S → L2.Rd H a (.lst xs) → L2.Rd H' a (.lst xs)) (kt : ∀ a xs, SqT K H a xs → SqT K H' a xs) (kd : ∀ a ps, H a = some (.dK ps) → H' a = some (.dK ps)) : ∀ (d : PyData) (v : V), Ap K S H v d → Ap K S H' v d
  | .none, _, h => by cases h; exact .non
  | .bool b, _, h => by cases h; exact .bl b
  | .int i, _, h => by cases h; exact .int i
  | .str x, _, h => by cases h; exact .str x
  | .list ds, _, h => by
    cases h with
    | lst ne hs ha => exact .lst ne (kl _ _ ne hs) (ApAll.keep kl kt kd ds _ ha)
  | .tuple ds, _, h => by
    cases h with
    | tup hs ha => exact .tup (kt _ _ hs) (ApAll.keep kl kt kd ds _ ha)
  | .dict kvs, _, h => by
    generalize e : PyData.dict kvs = dd at h ⊢
    cases h with
    | non => cases e
    | bl => cases e
    | int => cases e
    | str => cases e
    | lst => cases e
    | tup => cases e
    | dic hd => exact .dic (kd _ _ hd)
theorem ApAll.keep (kl : ∀ a xs, a ∉ S → L2.Rd H a (.lst xs) → L2.Rd H' a (.lst xs)) (kt : ∀ a xs, SqT K H a xs → SqT K H' a xs) (kd : ∀ a ps, H a = some (.dK ps) → H' a = some (.dK ps)) : ∀ (ds : List PyData) (vs : List V), ApAll K S H vs ds → ApAll K S H' vs ds
  | [], _, h => by cases h; exact .nil
  | d :: ds, _, h => by
    cases h with
    | cons h1 h2 => exact .cons (Ap.keep kl kt kd d _ h1) (ApAll.keep kl kt kd ds _ h2)
end
theorem Ap.ex {v : V} {d : PyData} (h : Ap K S H v d) (e : Evl.Ex H H') : Ap K S H' v d := Ap.keep (fun _ _ _ z => Evl.ex_rd e z) (fun _ _ z => Evl.ex_t e z) (fun _ _ z => e _ _ z) d v h
theorem ApAll.ex {vs : List V} {ds : List PyData} (h : ApAll K S H vs ds) (e : Evl.Ex H H') : ApAll K S H' vs ds := ApAll.keep (fun _ _ _ z => Evl.ex_rd e z) (fun _ _ z => Evl.ex_t e z) (fun _ _ z => e _ _ z) ds vs h
theorem ApAll.length : ∀ {vs : List V} {ds : List PyData}, ApAll K S H vs ds → vs.length = ds.length
  | _, _, .nil => rfl
  | _, _, .cons _ r => congrArg Nat.succ r.length
theorem ApAll.at : ∀ {vs : List V} {ds : List PyData} {i : Nat} {v : V}, ApAll K S H vs ds → vs[i]? = some v → ∃ d, ds[i]? = some d ∧ Ap K S H v d
  | _, _, i, _, .nil, h => by simp at h
  | _, _, 0, _, .cons h1 _, h => by
    cases h
    exact ⟨_, rfl, h1⟩
  | _, _, i + 1, _, .cons _ h2, h => ApAll.at (i := i) h2 h
theorem ApAll.append : ∀ {vs ws : List V} {ds es : List PyData}, ApAll K S H vs ds → ApAll K S H ws es → ApAll K S H (vs ++ ws) (ds ++ es)
  | _, _, _, _, .nil, h => h
  | _, _, _, _, .cons h1 h2, h => .cons h1 (h2.append h)
mutual
theorem Tp.ap : ∀ (d : PyData) (v : V), Tp K H v d → Ap K S H v d
  | .none, _, h => by cases h; exact .non
  | .bool b, _, h => by cases h; exact .bl b
  | .int i, _, h => by cases h; exact .int i
  | .str x, _, h => by cases h; exact .str x
  | .list ds, _, h => by cases h
  | .tuple ds, _, h => by
    cases h with
    | tup hs ha => exact .tup hs (TpAll.ap ds _ ha)
  | .dict kvs, _, h => by cases h
theorem TpAll.ap : ∀ (ds : List PyData) (vs : List V), TpAll K H vs ds → ApAll K S H vs ds
  | [], _, h => by cases h; exact .nil
  | d :: ds, _, h => by
    cases h with
    | cons h1 h2 => exact .cons (Tp.ap d _ h1) (TpAll.ap ds _ h2)
end
end
/-! the deck's two lists apart -/
theorem Kp.rd {d c a : Addr} {H H' : Hp} {u : HO} (k : Kp d c H H') (n1 : a ≠ d) (n2 : a ≠ c) (hs : L2.Rd H a u) : L2.Rd H' a u := by
  rcases hs with h | ⟨o, h⟩
  · exact .inl (k _ _ h n1 n2)
  · exact .inr ⟨o, k _ _ h n1 n2⟩
theorem Kp.dic {d c a : Addr} {H H' : Hp} {N : Int} {ps : List (Key × V)} (k : Kp d c H H') (dk : Dk H d c N) (h : H a = some (.dK ps)) : H' a = some (.dK ps) := by
  obtain ⟨cs, n, h1, h2, _⟩ := dk
  refine k _ _ h (fun z => ?_) (fun z => ?_)
  · rw [z, h1] at h
    cases h
  · rw [z, h2] at h
    cases h
/-- addresses that lists of values keep away from: the table of modules, the deck's two lists, and others that stand already -/
structure Sok (H : Hp) (d c : Addr) (S : List Addr) : Prop where
  m : sysModules ∈ S
  d : d ∈ S
  c : c ∈ S
  old : ∀ a ∈ S, a = sysModules ∨ ∃ o, H a = some o
theorem Sok.kp {H H' : Hp} {d c : Addr} {S : List Addr} {N M : Int} (h : Sok H d c S) (k : Kp d c H H') (dk : Dk H' d c M) : Sok H' d c S := by
  refine ⟨h.m, h.d, h.c, fun a ha => ?_⟩
  obtain ⟨cs, n, h1, h2, _⟩ := dk
  by_cases e1 : a = d
  · subst e1
    exact .inr ⟨_, h1⟩
  by_cases e2 : a = c
  · subst e2
    exact .inr ⟨_, h2⟩
  rcases h.old a ha with e | ⟨o, e⟩
  · exact .inl e
  · exact .inr ⟨o, k _ _ e e1 e2⟩
theorem Sok.ex {H H' : Hp} {d c : Addr} {S : List Addr} (h : Sok H d c S) (e : Evl.Ex H H') : Sok H' d c S := ⟨h.m, h.d, h.c, fun a ha => by
  rcases h.old a ha with z | ⟨o, z⟩
  · exact .inl z
  · exact .inr ⟨o, e _ _ z⟩⟩
theorem Sok.new {H : Hp} {d c p : Addr} {S : List Addr} (h : Sok H d c S) (np : H p = none) (ns : p ≠ sysModules) : p ∉ S := fun z => by
  rcases h.old p z with e | ⟨o, e⟩
  · exact ns e
  · rw [np] at e
    cases e
theorem Ap.kp {K : PySem.W.Frag} {d c : Addr} {S : List Addr} {H H' : Hp} {N : Int} {v : V} {x : PyData} (h : Ap K S H v x) (ok : Sok H d c S) (k : Kp d c H H') (dk : Dk H d c N) : Ap K S H' v x :=
  Ap.keep (fun a _ n z => k.rd (fun e => n (e ▸ ok.d)) (fun e => n (e ▸ ok.c)) z) (fun _ _ z => k.sqT dk z) (fun _ _ z => k.dic dk z) x v h
theorem ApAll.kp {K : PySem.W.Frag} {d c : Addr} {S : List Addr} {H H' : Hp} {N : Int} {vs : List V} {xs : List PyData} (h : ApAll K S H vs xs) (ok : Sok H d c S) (k : Kp d c H H') (dk : Dk H d c N) : ApAll K S H' vs xs :=
  ApAll.keep (fun a _ n z => k.rd (fun e => n (e ▸ ok.d)) (fun e => n (e ▸ ok.c)) z) (fun _ _ z => k.sqT dk z) (fun _ _ z => k.dic dk z) xs vs h
/-! one more address that lists keep away from, because it was free -/
/-! an address of S may be forgotten -/
/-! repr, ==, != of any such value -/
/-! lists that stand apart from the table of modules -/
def tLstN (t : TA) : TE := fun σ H Q => t σ H fun xs H1 => xs.length ≤ sizeLine ∧ ∀ p, H1 p = none → p ≠ sysModules → Q (.ref p) (upd H1 p (.lst xs))
theorem pe_lstN {X : Cx} {es : List Expr} {t : TA} {pos : Pos} (h : PA X es t) : PE X (.List es pos) (tLstN t) := by
  refine ⟨fun pins s σ H Q I hq => ?_⟩
  refine wpAny_List_spliced (thn (h.run pos pins s σ H _ I hq) fun us s1 ⟨xs, H1, I1, r, z, q⟩ => ⟨by rw [← r.length]; exact z, ?_⟩)
  have hf : H1 s1.heap.objs.size = none := I1.hok.fresh (Nat.le_refl _)
  refine ⟨.ref s1.heap.objs.size, upd H1 s1.heap.objs.size (.lst xs), I1.laid (t' := s1.toks) (fun b u e => Heap.get?_push_of_some _ e) (Nat.le_refl _) ?_, rfl, q _ hf (Nat.ne_of_gt I1.big)⟩
  exact ⟨z, us, 0, r, Heap.get?_push_size _ rfl⟩
/-! the type of a value -/
def tyD : PyData → String
  | .none => "NoneType"
  | .bool _ => "bool"
  | .int _ => "int"
  | .str _ => "str"
  | .list _ => "list"
  | .tuple _ => "tuple"
  | .dict _ => "dict"
theorem Ap.ty {K : PySem.W.Frag} {S : List Addr} {H : Hp} {v : V} {d : PyData} (h : Ap K S H v d) : TyX K H v (.type (tyD d)) := by
  cases h with
  | non => exact .base .non
  | bl b => exact .base (.bl b)
  | int i => exact .base (.int i)
  | str x => exact .base (.str x)
  | lst ne hs _ =>
    rcases hs with hs | ⟨o, hs⟩
    · exact .base (.lst hs)
    · exact .base (.frz hs)
  | tup hs _ =>
    rcases hs with (hs | ⟨o, hs⟩) | ⟨o, its, n, h1, h2, _⟩
    · exact .base (.tup hs)
    · exact .fTuple hs
    · exact .kTuple h1 h2
  | dic hd => exact .base (.dK hd)
end Rb
/-! t[::-1], t a tuple that is not empty -/
namespace Rb
open PySem PySem.Spec PyProof.Rows L2 HT
/-! any value of a bounded size -/
def Av (K : PySem.W.Frag) (S : List Addr) (H : Hp) (k n : Nat) (v : V) : Prop := ∃ x, Ap K S H v x ∧ Nice k n x
def Avs (K : PySem.W.Frag) (S : List Addr) (H : Hp) (k n : Nat) (xs : List V) : Prop := ∀ v ∈ xs, Av K S H k n v
section
variable {K : PySem.W.Frag} {S S' : List Addr} {d c D : Addr} {H H' : Hp} {N : Int} {k n k' n' : Nat} {v : V} {xs ys : List V}
theorem Av.ex (h : Av K S H k n v) (e : Evl.Ex H H') : Av K S H' k n v := by
  obtain ⟨x, h1, h2⟩ := h
  exact ⟨x, h1.ex e, h2⟩
theorem Av.kp (h : Av K S H k n v) (ok : Sok H d c S) (e : Kp d c H H') (dk : Dk H d c N) : Av K S H' k n v := by
  obtain ⟨x, h1, h2⟩ := h
  exact ⟨x, h1.kp ok e dk, h2⟩
theorem Av.mono (h : Av K S H k n v) (h1 : k ≤ k') (h2 : n ≤ n') : Av K S H k' n' v := by
  obtain ⟨x, h3, h4⟩ := h
  exact ⟨x, h3, h4.mono h1 h2⟩
theorem Avs.ex (h : Avs K S H k n xs) (e : Evl.Ex H H') : Avs K S H' k n xs := fun v hv => (h v hv).ex e
theorem Avs.kp (h : Avs K S H k n xs) (ok : Sok H d c S) (e : Kp d c H H') (dk : Dk H d c N) : Avs K S H' k n xs := fun v hv => (h v hv).kp ok e dk
theorem Avs.mono (h : Avs K S H k n xs) (h1 : k ≤ k') (h2 : n ≤ n') : Avs K S H k' n' xs := fun v hv => (h v hv).mono h1 h2
theorem Avs.nil : Avs K S H k n [] := fun _ z => nomatch z
theorem Avs.cons (h1 : Av K S H k n v) (h : Avs K S H k n xs) : Avs K S H k n (v :: xs) := fun u hu => by
  rcases List.mem_cons.mp hu with rfl | hu
  · exact h1
  · exact h u hu
theorem Avs.append (h1 : Avs K S H k n xs) (h2 : Avs K S H k n ys) : Avs K S H k n (xs ++ ys) := fun u hu => by
  rcases List.mem_append.mp hu with hu | hu
  · exact h1 u hu
  · exact h2 u hu
theorem Avs.sub (h : Avs K S H k n xs) (hs : ∀ v ∈ ys, v ∈ xs) : Avs K S H k n ys := fun u hu => h u (hs u hu)
theorem Avs.data : ∀ {xs : List V}, Avs K S H k n xs → ∃ ds, ApAll K S H xs ds ∧ ∀ x ∈ ds, Nice k n x
  | [], _ => ⟨[], .nil, fun _ z => nomatch z⟩
  | v :: xs, h => by
    obtain ⟨x, h1, h2⟩ := h v List.mem_cons_self
    obtain ⟨ds, h3, h4⟩ := Avs.data fun u hu => h u (List.mem_cons_of_mem _ hu)
    refine ⟨x :: ds, .cons h1 h3, fun y hy => ?_⟩
    rcases List.mem_cons.mp hy with rfl | hy
    · exact h2
    · exact h4 y hy
theorem Av.tup {a : Addr} {m : Nat} (hs : SqT K H a xs) (h : Avs K S H k n xs) (hm : xs.length * (n + 1) ≤ m) : Av K S H (k + 1) m (.ref a) := by
  obtain ⟨ds, h1, h2⟩ := h.data
  exact ⟨_, .tup hs h1, Nice.tup h2 (by rw [← h1.length]; exact hm)⟩
theorem Av.lst {a : Addr} {m : Nat} (hn : a ∉ S) (hs : L2.Rd H a (.lst xs)) (h : Avs K S H k n xs) (hm : xs.length * (n + 1) ≤ m) : Av K S H (k + 1) m (.ref a) := by
  obtain ⟨ds, h1, h2⟩ := h.data
  exact ⟨_, .lst hn hs h1, Nice.lst h2 (by rw [← h1.length]; exact hm)⟩
theorem Av.int {i : Int} (h : i.natAbs < 10 ^ 99) : Av K S H k n (.int i) := ⟨_, .int i, (Nice.int h).mono (Nat.zero_le _) (Nat.zero_le _)⟩
theorem Av.bl {b : Bool} : Av K S H k n (.bl b) := ⟨_, .bl b, Nice.bool.mono (Nat.zero_le _) (Nat.zero_le _)⟩
theorem Avs.ints {ns : List Int} (h : ∀ i ∈ ns, i.natAbs < 10 ^ 99) : Avs K S H k n (ns.map V.int) := fun v hv => by
  obtain ⟨i, hi, rfl⟩ := List.mem_map.mp hv
  exact Av.int (h i hi)
end
/-! comprehensions over such values -/
end Rb
namespace Pu
open PySem PySem.Spec PyProof.Rows L2
/-! ## values without addresses (lst: k tells that the list is known to stand apart from the table of modules) -/
inductive D where
  | non | bl (b : Bool) | int (i : Int) | str (x : Str)
  | tup (xs : List D) | lst (k : Bool) (xs : List D) | dic (ps : List (Str × Int))
  | kls (xs : List D) | cell (n : Nat) | glo (x : Str) | ty (n : String)
  | ins (c : Str) (fs : List (Str × D))
  | exc (c : Str) (fs : List (Str × D))
instance : Inhabited D := ⟨.non⟩
/-- what stands in a cell -/
inductive Cl where
  | lst (xs : List D) | ins (c : Str) (fs : List (Str × D))
abbrev Sto := List Cl
abbrev Rho := List (Option D)
/-- the addresses of the cells; addresses that no value mentions -/
structure Mu where
  m : List Addr
  av : List Addr
/-- the row's written part and names -/
structure Ct where
  K : PySem.W.Frag
  mg : Str → Option Value
  hx : Addr → Option (Value × Option Addr)
/-- where no error is held -/
abbrev ct0 (K : PySem.W.Frag) (mg : Str → Option Value) : Ct := ⟨K, mg, fun _ => none⟩
section
variable (c : Ct) (μ : Mu) (H : Hp)
mutual
inductive Rp : V → D → Prop
  | non : Rp .non .non
  | bl (b : Bool) : Rp (.bl b) (.bl b)
  | int (i : Int) : Rp (.int i) (.int i)
  | str (x : Str) : Rp (.str x) (.str x)
  | tup {a : Addr} {vs : List V} {ds : List D} : H a = some (.tup vs) → RpAll vs ds → Rp (.ref a) (.tup ds)
  | lst {a : Addr} {k : Bool} {vs : List V} {ds : List D} : H a = some (.lst vs) → a ∉ μ.m → a ∉ μ.av → (k = true → a ≠ sysModules) → RpAll vs ds → Rp (.ref a) (.lst k ds)
  | kls {a : Addr} {vs : List V} {ds : List D} : L2.Rd H a (.lst vs) → a ∉ μ.m → a ∉ μ.av → RpAll vs ds → Rp (.ref a) (.kls ds)
  | klsK {a : Addr} {vs : List V} {ds : List D} (o : Obj) (its : Array Value) (n : Nat) : c.K.lookup a = some o → o.cls = .type "list" → o.dict = none → o.data = .seq its n → its.size ≤ sizeLine → Vals vs its.toList → RpAll vs ds → Rp (.ref a) (.kls ds)
  | dic {a : Addr} {ps : List (Str × Int)} : H a = some (.dK (Rb.dicV ps)) → a ∉ μ.m → a ∉ μ.av → Rp (.ref a) (.dic ps)
  | cell {n : Nat} {a : Addr} : μ.m[n]? = some a → Rp (.ref a) (.cell n)
  | glo {x : Str} {v : V} {u : Value} : c.mg x = some u → RelV v u → Rp v (.glo x)
  | ty (n : String) : Rp (.ty n) (.ty n)
  | ins {a C dx : Addr} {x : Str} {fv : List (Str × V)} {fs : List (Str × D)} : H a = some (.ins C dx fv) → a ∉ μ.m → a ∉ μ.av → c.mg x = some (.ref C) → RpFs fv fs → Rp (.ref a) (.ins x fs)
  | exc0 {a : Addr} {x : Str} {cls : Value} : c.hx a = some (cls, none) → c.mg x = some cls → Rp (.ref a) (.exc x [])
  | exc1 {a dx : Addr} {x : Str} {cls : Value} {fv : List (Str × V)} {fs : List (Str × D)} : c.hx a = some (cls, some dx) → c.mg x = some cls → H dx = some (.xd fv) → RpFs fv fs → Rp (.ref a) (.exc x fs)
inductive RpAll : List V → List D → Prop
  | nil : RpAll [] []
  | cons {v : V} {vs : List V} {d : D} {ds : List D} : Rp v d → RpAll vs ds → RpAll (v :: vs) (d :: ds)
inductive RpFs : List (Str × V) → List (Str × D) → Prop
  | nil : RpFs [] []
  | cons {f : Str} {v : V} {vs : List (Str × V)} {d : D} {ds : List (Str × D)} : Rp v d → RpFs vs ds → RpFs ((f, v) :: vs) ((f, d) :: ds)
end
end
/-! ## what stays -/
/-- from one state to a later one: cells may have changed, new ones may have come; all else is kept -/
structure Fw (μ : Mu) (H : Hp) (μ' : Mu) (H' : Hp) : Prop where
  pre : ∃ t, μ'.m = μ.m ++ t
  av : μ'.av = μ.av
  keep : ∀ a o, H a = some o → a ∉ μ.m → H' a = some o ∧ a ∉ μ'.m
theorem Fw.refl {μ : Mu} {H : Hp} : Fw μ H μ H := ⟨⟨[], by simp⟩, rfl, fun _ _ e n => ⟨e, n⟩⟩
theorem Fw.trans {μ μ1 μ2 : Mu} {H H1 H2 : Hp} (a : Fw μ H μ1 H1) (b : Fw μ1 H1 μ2 H2) : Fw μ H μ2 H2 := by
  obtain ⟨t, e⟩ := a.pre
  obtain ⟨u, e'⟩ := b.pre
  exact ⟨⟨t ++ u, by rw [e', e, List.append_assoc]⟩, b.av.trans a.av, fun x o e n => let ⟨h1, h2⟩ := a.keep x o e n; b.keep x o h1 h2⟩
theorem Fw.at {μ μ' : Mu} {H H' : Hp} (f : Fw μ H μ' H') {n : Nat} {a : Addr} (h : μ.m[n]? = some a) : μ'.m[n]? = some a := by
  obtain ⟨t, e⟩ := f.pre
  rw [e, List.getElem?_append_left (List.getElem?_eq_some_iff.mp h).1]
  exact h
theorem Fw.new {μ : Mu} {H : Hp} {p : Addr} {o : HO} (hp : H p = none) : Fw μ H μ (upd H p o) :=
  ⟨⟨[], by simp⟩, rfl, fun a u e n => ⟨by rw [upd_ne (ne_of_none e hp)]; exact e, n⟩⟩
/-- a new object that becomes a cell -/
theorem Fw.newC {μ : Mu} {H : Hp} {p : Addr} {o : HO} (hp : H p = none) : Fw μ H ⟨μ.m ++ [p], μ.av⟩ (upd H p o) :=
  ⟨⟨[p], rfl⟩, rfl, fun a u e n => ⟨by rw [upd_ne (ne_of_none e hp)]; exact e, fun z => by
    rcases List.mem_append.mp z with z | z
    · exact n z
    · exact ne_of_none e hp (List.mem_singleton.mp z)⟩⟩
/-- a cell is written -/
theorem Fw.write {μ : Mu} {H : Hp} {p : Addr} {o : HO} (hp : p ∈ μ.m) : Fw μ H μ (upd H p o) :=
  ⟨⟨[], by simp⟩, rfl, fun a u e n => ⟨by rw [upd_ne (fun z => n (by rw [z]; exact hp))]; exact e, n⟩⟩
section
variable {c : Ct} {μ μ' : Mu} {H H' : Hp}
/-- the general form: what a value leans on is kept -/
structure Kp (c : Ct) (μ : Mu) (H : Hp) (μ' : Mu) (H' : Hp) : Prop where
  t : ∀ a xs, H a = some (.tup xs) → H' a = some (.tup xs)
  l : ∀ a xs, L2.Rd H a (.lst xs) → a ∉ μ.m → a ∉ μ.av → L2.Rd H' a (.lst xs) ∧ a ∉ μ'.m ∧ a ∉ μ'.av
  m : ∀ a xs, H a = some (.lst xs) → a ∉ μ.m → a ∉ μ.av → H' a = some (.lst xs) ∧ a ∉ μ'.m ∧ a ∉ μ'.av
  d : ∀ a ps, H a = some (.dK ps) → a ∉ μ.m → a ∉ μ.av → H' a = some (.dK ps) ∧ a ∉ μ'.m ∧ a ∉ μ'.av
  i : ∀ a C dx fs, H a = some (.ins C dx fs) → a ∉ μ.m → a ∉ μ.av → H' a = some (.ins C dx fs) ∧ a ∉ μ'.m ∧ a ∉ μ'.av
  cl : ∀ (n : Nat) (a : Addr), μ.m[n]? = some a → μ'.m[n]? = some a
  x : ∀ a fv, H a = some (.xd fv) → H' a = some (.xd fv)
mutual
theorem Rp.kp (k : Kp c μ H μ' H') : ∀ {v : V} {d : D}, Rp c μ H v d → Rp c μ' H' v d
  | _, _, .non => .non
  | _, _, .bl b => .bl b
  | _, _, .int i => .int i
  | _, _, .str x => .str x
  | _, _, .tup h r => .tup (k.t _ _ h) (RpAll.kp k r)
  | _, _, .lst h n1 n2 n3 r => let ⟨a, b, d⟩ := k.m _ _ h n1 n2; .lst a b d n3 (RpAll.kp k r)
  | _, _, .kls h n1 n2 r => let ⟨a, b, d⟩ := k.l _ _ h n1 n2; .kls a b d (RpAll.kp k r)
  | _, _, .klsK o its n h1 h2 h3 h4 h5 h6 r => .klsK o its n h1 h2 h3 h4 h5 h6 (RpAll.kp k r)
  | _, _, .dic h n n2 => let ⟨a, b, d⟩ := k.d _ _ h n n2; .dic a b d
  | _, _, .cell h => .cell (k.cl _ _ h)
  | _, _, .glo h r => .glo h r
  | _, _, .ty n => .ty n
  | _, _, .ins h n n2 g r => let ⟨a, b, d⟩ := k.i _ _ _ _ h n n2; .ins a b d g (RpFs.kp k r)
  | _, _, .exc0 h g => .exc0 h g
  | _, _, .exc1 h g e r => .exc1 h g (k.x _ _ e) (RpFs.kp k r)
theorem RpAll.kp (k : Kp c μ H μ' H') : ∀ {vs : List V} {ds : List D}, RpAll c μ H vs ds → RpAll c μ' H' vs ds
  | _, _, .nil => .nil
  | _, _, .cons h r => .cons (Rp.kp k h) (RpAll.kp k r)
theorem RpFs.kp (k : Kp c μ H μ' H') : ∀ {vs : List (Str × V)} {ds : List (Str × D)}, RpFs c μ H vs ds → RpFs c μ' H' vs ds
  | _, _, .nil => .nil
  | _, _, .cons h r => .cons (Rp.kp k h) (RpFs.kp k r)
end
end
/-- a cell's object -/
def ClOk (c : Ct) (μ : Mu) (H : Hp) (a : Addr) : Cl → Prop
  | .lst ds => ∃ vs, H a = some (.lst vs) ∧ RpAll c μ H vs ds
  | .ins x fs => ∃ C dx fv, H a = some (.ins C dx fv) ∧ c.mg x = some (.ref C) ∧ RpFs c μ H fv fs
structure Wd (c : Ct) (μ : Mu) (S : Sto) (H : Hp) : Prop where
  nd : μ.m.Nodup
  len : μ.m.length = S.length
  ap : ∀ a ∈ μ.m, a ∉ μ.av
  avs : ∀ a ∈ μ.av, H a ≠ none
  ok : ∀ (i : Nat) (a : Addr) (x : Cl), μ.m[i]? = some a → S[i]? = some x → ClOk c μ H a x
theorem upd_some {H : Hp} {p a : Addr} {o : HO} (h : H a ≠ none) : upd H p o a ≠ none := by
  unfold upd
  split
  · exact fun z => nomatch z
  · exact h
theorem ClOk.there {c : Ct} {μ : Mu} {H : Hp} {a : Addr} : ∀ {x : Cl}, ClOk c μ H a x → ∃ o, H a = some o ∧ (∀ xs, o ≠ .tup xs) ∧ (∀ ob u, o ≠ .frz ob u) ∧ ∀ fv, o ≠ .xd fv
  | .lst _, ⟨_, h, _⟩ => ⟨_, h, (fun _ z => nomatch z), (fun _ _ z => nomatch z), fun _ z => nomatch z⟩
  | .ins _ _, ⟨_, _, _, h, _⟩ => ⟨_, h, (fun _ z => nomatch z), (fun _ _ z => nomatch z), fun _ z => nomatch z⟩
theorem Wd.there {c : Ct} {μ : Mu} {S : Sto} {H : Hp} (w : Wd c μ S H) {a : Addr} (h : a ∈ μ.m) : ∃ o, H a = some o ∧ (∀ xs, o ≠ .tup xs) ∧ (∀ ob u, o ≠ .frz ob u) ∧ ∀ fv, o ≠ .xd fv := by
  obtain ⟨i, hi, e⟩ := List.getElem_of_mem h
  have h1 : μ.m[i]? = some a := List.getElem?_eq_some_iff.mpr ⟨hi, e⟩
  have h2 : i < S.length := by rw [← w.len]; exact hi
  exact (w.ok i a S[i] h1 (List.getElem?_eq_getElem h2)).there
theorem Wd.fresh {c : Ct} {μ : Mu} {S : Sto} {H : Hp} (w : Wd c μ S H) {p : Addr} (hp : H p = none) : p ∉ μ.m := fun z => by
  obtain ⟨o, e, _⟩ := w.there z
  rw [hp] at e
  cases e
theorem Wd.tupK {c : Ct} {μ μ' : Mu} {S : Sto} {H H' : Hp} (w : Wd c μ S H) (f : Fw μ H μ' H') {a : Addr} {xs : List V} (e : H a = some (.tup xs)) : H' a = some (.tup xs) := by
  refine (f.keep a _ e fun z => ?_).1
  obtain ⟨o, e', n, _⟩ := w.there z
  rw [e] at e'
  exact n xs (Option.some.inj e').symm
theorem Wd.xdK {c : Ct} {μ μ' : Mu} {S : Sto} {H H' : Hp} (w : Wd c μ S H) (f : Fw μ H μ' H') {a : Addr} {fv : List (Str × V)} (e : H a = some (.xd fv)) : H' a = some (.xd fv) := by
  refine (f.keep a _ e fun z => ?_).1
  obtain ⟨o, e', _, _, n⟩ := w.there z
  rw [e] at e'
  exact n fv (Option.some.inj e').symm
theorem Wd.kp {c : Ct} {μ μ' : Mu} {S : Sto} {H H' : Hp} (w : Wd c μ S H) (f : Fw μ H μ' H') : Kp c μ H μ' H' where
  t := fun _ _ h => w.tupK f h
  l := fun a xs h n1 n2 => by
    rcases h with e | ⟨o, e⟩
    · exact ⟨.inl (f.keep a _ e n1).1, (f.keep a _ e n1).2, f.av ▸ n2⟩
    · exact ⟨.inr ⟨o, (f.keep a _ e n1).1⟩, (f.keep a _ e n1).2, f.av ▸ n2⟩
  m := fun a xs e n1 n2 => ⟨(f.keep a _ e n1).1, (f.keep a _ e n1).2, f.av ▸ n2⟩
  d := fun a ps e n1 n2 => ⟨(f.keep a _ e n1).1, (f.keep a _ e n1).2, f.av ▸ n2⟩
  i := fun a C dx fs e n1 n2 => ⟨(f.keep a _ e n1).1, (f.keep a _ e n1).2, f.av ▸ n2⟩
  cl := fun n a h => f.at h
  x := fun _ _ h => w.xdK f h
section
variable {c : Ct} {μ μ' : Mu} {S : Sto} {H H' : Hp} {v : V} {d : D} {vs : List V} {ds : List D}
theorem Rp.fw (r : Rp c μ H v d) (w : Wd c μ S H) (f : Fw μ H μ' H') : Rp c μ' H' v d := r.kp (w.kp f)
theorem RpAll.fw (r : RpAll c μ H vs ds) (w : Wd c μ S H) (f : Fw μ H μ' H') : RpAll c μ' H' vs ds := r.kp (w.kp f)
theorem ClOk.kp (k : Kp c μ H μ' H') {a : Addr} (g : ∀ o, H a = some o → H' a = some o) : ∀ {x : Cl}, ClOk c μ H a x → ClOk c μ' H' a x
  | .lst _, ⟨vs, h, r⟩ => ⟨vs, g _ h, r.kp k⟩
  | .ins _ _, ⟨C, dx, fv, h, e, r⟩ => ⟨C, dx, fv, g _ h, e, r.kp k⟩
/-- a new object that is no cell -/
theorem Wd.new (w : Wd c μ S H) {p : Addr} {o : HO} (hp : H p = none) : Wd c μ S (upd H p o) :=
  ⟨w.nd, w.len, w.ap, fun a h => upd_some (w.avs a h), fun i a x h1 h2 => ClOk.kp (w.kp (Fw.new hp)) (fun u e => by rw [upd_ne (ne_of_none e hp)]; exact e) (w.ok i a x h1 h2)⟩
theorem RpAll.length : ∀ {vs : List V} {ds : List D}, RpAll c μ H vs ds → vs.length = ds.length
  | _, _, .nil => rfl
  | _, _, .cons _ r => congrArg Nat.succ r.length
theorem RpAll.at : ∀ {vs : List V} {ds : List D} {i : Nat} {d : D}, RpAll c μ H vs ds → ds[i]? = some d → ∃ v, vs[i]? = some v ∧ Rp c μ H v d
  | _, _, i, _, .nil, h => by simp at h
  | _, _, 0, _, .cons h1 _, h => by cases h; exact ⟨_, rfl, h1⟩
  | _, _, i + 1, _, .cons _ h2, h => RpAll.at (i := i) h2 h
theorem RpAll.append : ∀ {vs ws : List V} {ds es : List D}, RpAll c μ H vs ds → RpAll c μ H ws es → RpAll c μ H (vs ++ ws) (ds ++ es)
  | _, _, _, _, .nil, h => h
  | _, _, _, _, .cons h1 h2, h => .cons h1 (h2.append h)
theorem RpAll.take : ∀ {vs : List V} {ds : List D} (n : Nat), RpAll c μ H vs ds → RpAll c μ H (vs.take n) (ds.take n)
  | _, _, 0, _ => .nil
  | _, _, _ + 1, .nil => .nil
  | _, _, n + 1, .cons h r => .cons h (RpAll.take n r)
theorem RpAll.drop : ∀ {vs : List V} {ds : List D} (n : Nat), RpAll c μ H vs ds → RpAll c μ H (vs.drop n) (ds.drop n)
  | _, _, 0, r => r
  | _, _, _ + 1, .nil => .nil
  | _, _, n + 1, .cons _ r => RpAll.drop n r
theorem RpAll.set {v : V} {d : D} (h : Rp c μ H v d) : ∀ {vs : List V} {ds : List D} (n : Nat), RpAll c μ H vs ds → RpAll c μ H (vs.set n v) (ds.set n d)
  | _, _, _, .nil => .nil
  | _, _, 0, .cons _ r => .cons h r
  | _, _, n + 1, .cons q r => .cons q (RpAll.set h n r)
theorem RpAll.rep : ∀ (n : Nat), RpAll c μ H vs ds → RpAll c μ H (List.replicate n vs).flatten (List.replicate n ds).flatten
  | 0, _ => .nil
  | n + 1, r => by
    rw [List.replicate_succ, List.replicate_succ, List.flatten_cons, List.flatten_cons]
    exact r.append (RpAll.rep n r)
end
theorem ix_uniq {N : List Addr} (hN : N.Nodup) {i j : Nat} {x : Addr} (a : N[i]? = some x) (b : N[j]? = some x) : i = j := by
  obtain ⟨h1, e1⟩ := List.getElem?_eq_some_iff.mp a
  obtain ⟨h2, e2⟩ := List.getElem?_eq_some_iff.mp b
  exact (List.getElem_inj hN).mp (e1.trans e2.symm)
/-- one write to a cell -/
theorem Wd.set {c : Ct} {μ : Mu} {S : Sto} {H : Hp} (w : Wd c μ S H) {n : Nat} {a : Addr} {o : HO} {x : Cl} (h : μ.m[n]? = some a) (hx : ClOk c μ (upd H a o) a x) : Wd c μ (S.set n x) (upd H a o) := by
  have hm : a ∈ μ.m := List.mem_of_getElem? h
  refine ⟨w.nd, by rw [List.length_set]; exact w.len, w.ap, fun a h => upd_some (w.avs a h), fun i b y h1 h2 => ?_⟩
  by_cases hi : n = i
  · subst hi
    rw [h] at h1
    cases h1
    have : n < S.length := by rw [← w.len]; exact (List.getElem?_eq_some_iff.mp h).1
    rw [List.getElem?_set_self this] at h2
    cases h2
    exact hx
  · rw [List.getElem?_set_ne hi] at h2
    have ne : b ≠ a := fun z => by
      subst z
      exact hi (ix_uniq w.nd h h1)
    exact ClOk.kp (w.kp (Fw.write hm)) (fun u e => by rw [upd_ne ne]; exact e) (w.ok i b y h1 h2)
/-- a new cell -/
theorem Wd.newC {c : Ct} {μ : Mu} {S : Sto} {H : Hp} (w : Wd c μ S H) {p : Addr} {o : HO} {x : Cl} (hp : H p = none) (hx : ClOk c ⟨μ.m ++ [p], μ.av⟩ (upd H p o) p x) : Wd c ⟨μ.m ++ [p], μ.av⟩ (S ++ [x]) (upd H p o) := by
  have nm := w.fresh hp
  refine ⟨?_, by simp [w.len], fun a h => ?_, fun a h => upd_some (w.avs a h), fun i a y h1 h2 => ?_⟩
  · rw [List.nodup_append]
    exact ⟨w.nd, by simp, fun a ha b hb e => nm (by rw [List.mem_singleton.mp hb] at e; exact e ▸ ha)⟩
  · rcases List.mem_append.mp h with h | h
    · exact w.ap a h
    · rw [List.mem_singleton.mp h]; exact fun z => w.avs p z hp
  · have hl := w.len
    by_cases hi : i < μ.m.length
    · rw [List.getElem?_append_left hi] at h1
      rw [List.getElem?_append_left (by omega)] at h2
      exact ClOk.kp (w.kp (Fw.newC hp)) (fun u e => by rw [upd_ne (ne_of_none e hp)]; exact e) (w.ok i a y h1 h2)
    · have hi2 : i = μ.m.length := by
        have := (List.getElem?_eq_some_iff.mp h1).1
        simp at this
        omega
      subst hi2
      rw [List.getElem?_append_right (Nat.le_refl _), Nat.sub_self] at h1
      cases h1
      rw [List.getElem?_append_right (by omega), hl, Nat.sub_self] at h2
      cases h2
      exact hx
end Pu
namespace Pu
open PySem PySem.Spec PyProof.Rows L2
/-! ## meanings: what must hold so that a piece of code ends as wanted, over values without addresses -/
abbrev QD := D → Sto → Prop
/-- an error: its class, its fields -/
abbrev Er := Str × List (Str × D)
abbrev ED := Er → Sto → Prop
abbrev FX (α : Type) := Rho → Sto → (α → Sto → Prop) → ED → Prop
abbrev FE := FX D
abbrev FT := FX Bool
abbrev FA := FX (List D)
abbrev FO := FX (Option Int)
structure DEnds where
  nx : Rho → Sto → Prop
  rt : QD
  bk : Rho → Sto → Prop
  ct : Rho → Sto → Prop
abbrev FS := Rho → Sto → DEnds → ED → Prop
abbrev FG := D → Rho → Sto → (Rho → Sto → Prop) → ED → Prop
abbrev FGs := List D → Rho → Sto → (Rho → Sto → Prop) → ED → Prop
/-- a def -/
abbrev FF := List D → Sto → QD → ED → Prop
def hxOf (pn : List (Addr × Obj)) (a : Addr) : Option (Value × Option Addr) := match pn with
  | (b, o) :: _ => if b = a then some (o.cls, o.dict) else none
  | [] => none
def ct (X : Cx) : Ct := ⟨X.K, X.mg, if X.calm = true then fun _ => none else hxOf X.pn⟩
/-- what leaves by an error, whatever the slots -/
abbrev cE (E : XK) : L2.St → XK := fun _ => E
structure EnvR (c : Ct) (μ : Mu) (H : Hp) (σ : L2.St) (ρ : Rho) : Prop where
  len : σ.length = ρ.length
  ok : ∀ (i : Nat) (d : D), ρ[i]? = some (some d) → ∃ v, σ[i]? = some (some v) ∧ Rp c μ H v d
def RpX (c : Ct) (μ : Mu) (H : Hp) (cls : Value) (dx : Option Addr) (e : Er) : Prop :=
  c.mg e.1 = some cls ∧ match e.2 with
    | [] => dx = none
    | f :: fs => ∃ a fv, dx = some a ∧ H a = some (.xd fv) ∧ RpFs c μ H fv (f :: fs)
def PX (c : Ct) (μ : Mu) (H : Hp) (Ed : ED) (E : XK) : Prop := ∀ e S' cls dx H' μ', Ed e S' → Fw μ H μ' H' → Wd c μ' S' H' → RpX c μ' H' cls dx e → E cls dx H'
section
variable {c : Ct} {μ μ' : Mu} {S S' : Sto} {H H' : Hp} {σ : L2.St} {ρ : Rho} {Ed : ED} {E : XK}
theorem EnvR.fw (en : EnvR c μ H σ ρ) (w : Wd c μ S H) (f : Fw μ H μ' H') : EnvR c μ' H' σ ρ := ⟨en.len, fun i d h => let ⟨v, e, r⟩ := en.ok i d h; ⟨v, e, r.fw w f⟩⟩
theorem EnvR.kp (en : EnvR c μ H σ ρ) (k : Kp c μ H μ' H') : EnvR c μ' H' σ ρ := ⟨en.len, fun i d h => let ⟨v, e, r⟩ := en.ok i d h; ⟨v, e, r.kp k⟩⟩
theorem PX.fw (p : PX c μ H Ed E) (f : Fw μ H μ' H') : PX c μ' H' Ed E := fun e S' cls dx H2 μ2 h g w r => p e S' cls dx H2 μ2 h (f.trans g) w r
theorem EnvR.set (en : EnvR c μ H σ ρ) {i : Nat} {v : V} {d : D} (r : Rp c μ H v d) : EnvR c μ H (σ.set i (some v)) (ρ.set i (some d)) := by
  refine ⟨by rw [List.length_set, List.length_set]; exact en.len, fun j x h => ?_⟩
  by_cases e : i = j
  · subst e
    have hl : i < ρ.length := by
      have := (List.getElem?_eq_some_iff.mp h).1
      rwa [List.length_set] at this
    rw [List.getElem?_set_self hl] at h
    cases h
    exact ⟨v, by rw [List.getElem?_set_self (by rw [en.len]; exact hl)], r⟩
  · rw [List.getElem?_set_ne e] at h ⊢
    exact en.ok j x h
end
/-- the reading that a meaning gives -/
def tR {α β : Type} (c : Ct) (R : Mu → Hp → β → α → Prop) (E : L2.St → XK) (f : FX α) : L2.St → Hp → (β → Hp → Prop) → Prop := fun σ H Q =>
  ∃ μ S ρ Qd Ed, Wd c μ S H ∧ EnvR c μ H σ ρ ∧ f ρ S Qd Ed ∧ (∀ d S' v H' μ', Qd d S' → Fw μ H μ' H' → Wd c μ' S' H' → R μ' H' v d → Q v H') ∧ PX c μ H Ed (E σ)
theorem tR_of {α β : Type} {c : Ct} {R : Mu → Hp → β → α → Prop} {E : L2.St → XK} {f : FX α} {σ : L2.St} {H : Hp} {Q : β → Hp → Prop} {μ : Mu} {S : Sto} {ρ : Rho} {Qd : α → Sto → Prop} {Ed : ED}
    (w : Wd c μ S H) (en : EnvR c μ H σ ρ) (h : f ρ S Qd Ed) (px : PX c μ H Ed (E σ))
    (q : ∀ d S' v H' μ', Qd d S' → Fw μ H μ' H' → Wd c μ' S' H' → EnvR c μ' H' σ ρ → PX c μ' H' Ed (E σ) → R μ' H' v d → Q v H') : tR c R E f σ H Q :=
  ⟨μ, S, ρ, Qd, Ed, w, en, h, fun d S' v H' μ' h1 h2 h3 h4 => q d S' v H' μ' h1 h2 h3 (en.fw w h2) (px.fw h2) h4, px⟩
def rEqB {α : Type} : Mu → Hp → α → α → Prop := fun _ _ a b => a = b
abbrev tD (c : Ct) (E : L2.St → XK) (f : FE) : TE := tR c (Rp c) E f
abbrev tT (c : Ct) (E : L2.St → XK) (f : FT) : TT := tR c rEqB E f
abbrev tAr (c : Ct) (E : L2.St → XK) (f : FA) : TA := tR c (RpAll c) E f
abbrev tOp' (c : Ct) (E : L2.St → XK) (f : FO) : TO := tR c rEqB E f
abbrev PEd (X : Cx) (E : L2.St → XK) (e : Expr) (f : FE) : Prop := PE X e (tD (ct X) E f)
abbrev PTd (X : Cx) (E : L2.St → XK) (e : Expr) (f : FT) : Prop := PT X e (tT (ct X) E f)
abbrev PWd (X : Cx) (E : L2.St → XK) (e : Expr) (f : FT) : Prop := PW X e (tT (ct X) E f)
abbrev PAd (X : Cx) (E : L2.St → XK) (es : List Expr) (f : FA) : Prop := PA X es (tAr (ct X) E f)
abbrev POd (X : Cx) (E : L2.St → XK) (e : Option Expr) (f : FO) : Prop := PO X e (tOp' (ct X) E f)
section
variable {X : Cx}
theorem PE.imp {e : Expr} {t t' : TE} (h : PE X e t) (k : ∀ σ H Q, t' σ H Q → t σ H Q) : PE X e t' := ⟨fun pins s σ H Q I q => h.run pins s σ H Q I (k σ H Q q)⟩
theorem PT.imp {e : Expr} {t t' : TT} (h : PT X e t) (k : ∀ σ H Q, t' σ H Q → t σ H Q) : PT X e t' := ⟨fun pins s σ H Q I q => h.run pins s σ H Q I (k σ H Q q)⟩
theorem PW.imp {e : Expr} {t t' : TT} (h : PW X e t) (k : ∀ σ H Q, t' σ H Q → t σ H Q) : PW X e t' := ⟨fun wh pins s σ H Q I q => h.run wh pins s σ H Q I (k σ H Q q)⟩
theorem PA.imp {e : List Expr} {t t' : TA} (h : PA X e t) (k : ∀ σ H Q, t' σ H Q → t σ H Q) : PA X e t' := ⟨fun p pins s σ H Q I q => h.run p pins s σ H Q I (k σ H Q q)⟩
theorem PO.imp {e : Option Expr} {t t' : TO} (h : PO X e t) (k : ∀ σ H Q, t' σ H Q → t σ H Q) : PO X e t' := ⟨fun pins s σ H Q I q => h.run pins s σ H Q I (k σ H Q q)⟩
theorem PS.imp {e : Stmt} {t t' : TS} (h : PS X e t) (k : ∀ D σ H, t' D σ H → t D σ H) : PS X e t' := ⟨fun pins s σ H D I q => h.run pins s σ H D I (k D σ H q)⟩
theorem PSs.imp {e : List Stmt} {t t' : TS} (h : PSs X e t) (k : ∀ D σ H, t' D σ H → t D σ H) : PSs X e t' := ⟨fun pins s σ H D I q => h.run pins s σ H D I (k D σ H q)⟩
theorem PG.imp {e : Expr} {t t' : TG} (h : PG X e t) (k : ∀ v σ H Q, t' v σ H Q → t v σ H Q) : PG X e t' := ⟨fun pins s σ H v u Q I r q => h.run pins s σ H v u Q I r (k v σ H Q q)⟩
end
/-! ### names, constants -/
def getV : Rho → Nat → Option D
  | [], _ => none
  | x :: _, 0 => x
  | _ :: r, n + 1 => getV r n
theorem getV_some : ∀ {ρ : Rho} {i : Nat} {d : D}, getV ρ i = some d → ρ[i]? = some (some d)
  | [], _, _, h => by cases h
  | _ :: _, 0, _, h => by
    rw [List.getElem?_cons_zero]
    exact congrArg some h
  | _ :: r, n + 1, _, h => by
    rw [List.getElem?_cons_succ]
    exact getV_some (ρ := r) h
def onSome {α : Type} (o : Option α) (k : α → Prop) : Prop := match o with | some a => k a | none => False
theorem onSome_of {α : Type} {o : Option α} {k : α → Prop} (h : onSome o k) : ∃ a, o = some a ∧ k a := by
  cases o with
  | none => exact h.elim
  | some a => exact ⟨a, rfl, h⟩
def dVar (i : Nat) : FE := fun ρ S Q _ => onSome (getV ρ i) fun d => Q d S
def dC {α : Type} (d : α) : FX α := fun _ S Q _ => Q d S
section
variable {X : Cx} {E : L2.St → XK} {pos : Pos}
theorem d_var {i : Nat} {e : Expr} (h : PE X e (tVar i)) : PEd X E e (dVar i) := by
  refine PE.imp h fun σ H Q ⟨μ, S, ρ, Qd, Ed, w, en, hf, q, px⟩ => ?_
  obtain ⟨d, e1, hd⟩ := onSome_of hf
  obtain ⟨v, e2, r⟩ := en.ok i d (getV_some e1)
  exact ⟨v, e2, q d S v H μ hd Fw.refl w r⟩
theorem d_const {v : V} {d : D} {e : Expr} (h : PE X e (tC v)) (r : ∀ μ H, Rp (ct X) μ H v d) : PEd X E e (dC d) :=
  PE.imp h fun σ H Q ⟨μ, S, ρ, Qd, Ed, w, en, hf, q, px⟩ => q d S v H μ hf Fw.refl w (r μ H)
theorem d_int {i j} : PEd X E (.Constant (.int i) j pos) (dC (.int i)) := d_const pe_int fun _ _ => .int i
theorem d_bl {b j} : PEd X E (.Constant (.bool b) j pos) (dC (.bl b)) := d_const pe_bl fun _ _ => .bl b
theorem d_non {j} : PEd X E (.Constant .none j pos) (dC .non) := d_const pe_non fun _ _ => .non
theorem d_str {x j} : PEd X E (.Constant (.str x) j pos) (dC (.str x)) := d_const pe_str fun _ _ => .str x
/-- a module's int -/
theorem d_gint {x : Str} {i : Int} {t : Tok} (hg : Gl X x) (hm : X.mg x = some (.int i t)) (hd : (x == ("__debug__" : Str)) = false := by decide) : PEd X E (.Name x pos) (dC (.int i)) :=
  d_const (pe_glob hg hm (show RelV (V.int i) _ from ⟨_, rfl⟩) hd) fun _ _ => .int i
end
/-! ### argument lists -/
def dNil : FA := fun _ S Q _ => Q [] S
def dCons (f : FE) (g : FA) : FA := fun ρ S Q Ed => f ρ S (fun x S1 => g ρ S1 (fun xs S2 => Q (x :: xs) S2) Ed) Ed
section
variable {X : Cx} {E : L2.St → XK} {pos : Pos} {a b e : Expr} {es : List Expr} {fa fb : FE} {fs : FA}
theorem d_nil : PAd X E [] dNil := PA.imp pa_nil fun σ H Q ⟨μ, S, ρ, Qd, Ed, w, en, hf, q, px⟩ => q [] S [] H μ hf Fw.refl w .nil
theorem d_cons (ha : PEd X E e fa) (hr : PAd X E es fs) (hs : starEach (e :: es) X.env = (false, eval e X.env) :: starEach es X.env := by rfl) : PAd X E (e :: es) (dCons fa fs) := by
  refine PA.imp (pa_cons ha hr hs) fun σ H Q ⟨μ, S, ρ, Qd, Ed, w, en, hf, q, px⟩ => ?_
  refine tR_of w en hf px fun x S1 v H1 μ1 h1 f1 w1 en1 px1 r1 => ?_
  refine tR_of w1 en1 h1 px1 fun xs S2 vs H2 μ2 h2 f2 w2 en2 px2 r2 => ?_
  exact q _ S2 _ H2 μ2 h2 (f1.trans f2) w2 (.cons (r1.fw w1 f2) r2)
/-! ### operators by values -/
abbrev G2 := D → D → Sto → QD → Prop
def PostV (c : Ct) (μ : Mu) (H : Hp) (Qd : QD) (Q : VK) : Prop := ∀ d S' v H' μ', Qd d S' → Fw μ H μ' H' → Wd c μ' S' H' → Rp c μ' H' v d → Q v H'
def rD2 (c : Ct) (g : G2) : R2 := fun x y H Q => ∃ μ S dx dy Qd, Wd c μ S H ∧ Rp c μ H x dx ∧ Rp c μ H y dy ∧ g dx dy S Qd ∧ PostV c μ H Qd Q
def rD1 (c : Ct) (g : D → Sto → QD → Prop) : V → Hp → VK → Prop := fun x H Q => ∃ μ S dx Qd, Wd c μ S H ∧ Rp c μ H x dx ∧ g dx S Qd ∧ PostV c μ H Qd Q
def rDs (c : Ct) (g : List D → Sto → QD → Prop) : List V → Hp → VK → Prop := fun xs H Q => ∃ μ S ds Qd, Wd c μ S H ∧ RpAll c μ H xs ds ∧ g ds S Qd ∧ PostV c μ H Qd Q
def rDm (c : Ct) (g : D → List D → Sto → QD → Prop) : V → List V → Hp → VK → Prop := fun x xs H Q => ∃ μ S d ds Qd, Wd c μ S H ∧ Rp c μ H x d ∧ RpAll c μ H xs ds ∧ g d ds S Qd ∧ PostV c μ H Qd Q
def dBin (g : G2) (fa fb : FE) : FE := fun ρ S Q Ed => fa ρ S (fun x S1 => fb ρ S1 (fun y S2 => g x y S2 Q) Ed) Ed
def dUn (g : D → Sto → QD → Prop) (fa : FE) : FE := fun ρ S Q Ed => fa ρ S (fun x S1 => g x S1 Q) Ed
def dB (g : List D → Sto → QD → Prop) (fa : FA) : FE := fun ρ S Q Ed => fa ρ S (fun ds S1 => g ds S1 Q) Ed
theorem tBin {g : G2} {σ : L2.St} {H : Hp} {Q : VK} {c : Ct} (h : tD c E (dBin g fa fb) σ H Q) : tOp (rD2 c g) (tD c E fa) (tD c E fb) σ H Q := by
  obtain ⟨μ, S, ρ, Qd, Ed, w, en, hf, q, px⟩ := h
  refine tR_of w en hf px fun x S1 v H1 μ1 h1 f1 w1 en1 px1 r1 => ?_
  refine tR_of w1 en1 h1 px1 fun y S2 u H2 μ2 h2 f2 w2 en2 px2 r2 => ?_
  exact ⟨μ2, S2, x, y, Qd, w2, r1.fw w1 f2, r2, h2, fun d S' v' H' μ' h f w' r => q d S' v' H' μ' h (f1.trans (f2.trans f)) w' r⟩
theorem d_bin {op : Operator} {g : G2} (ho : OpR X (binaryOp op) (rD2 (ct X) g)) (ha : PEd X E a fa) (hb : PEd X E b fb) : PEd X E (.BinOp a op b pos) (dBin g fa fb) :=
  PE.imp (pe_op ho ha hb) fun _ _ _ h => tBin h
theorem d_un {op : UnaryOp} {g : D → Sto → QD → Prop} (ho : UnR X (unaryOp op) (rD1 (ct X) g)) (ha : PEd X E a fa) : PEd X E (.UnaryOp op a pos) (dUn g fa) := by
  refine PE.imp (pe_un ho ha) fun σ H Q ⟨μ, S, ρ, Qd, Ed, w, en, hf, q, px⟩ => ?_
  refine tR_of w en hf px fun x S1 v H1 μ1 h1 f1 w1 en1 px1 r1 => ?_
  exact ⟨μ1, S1, x, Qd, w1, r1, h1, fun d S' v' H' μ' h f w' r => q d S' v' H' μ' h (f1.trans f) w' r⟩
theorem d_cmp {op : CmpOp} {g : G2} (ho : OpR X (compareOp op) (rD2 (ct X) g)) (ha : PEd X E a fa) (hb : PEd X E b fb) (hm : behindInMarks op b = false) : PEd X E (.Compare a [op] [b] pos) (dBin g fa fb) :=
  PE.imp (pe_cmpR ho ha hb hm) fun _ _ _ h => tBin h
/-- a bool's test -/
def onBl (d : D) (k : Bool → Prop) : Prop := match d with | .bl b => k b | _ => False
theorem onBl_of {d : D} {k : Bool → Prop} (h : onBl d k) : ∃ b, d = .bl b ∧ k b := by
  cases d with
  | bl b => exact ⟨b, rfl, h⟩
  | _ => exact h.elim
def dTest (f : FE) : FT := fun ρ S Q Ed => f ρ S (fun d S1 => onBl d fun b => Q b S1) Ed
theorem Rp.bl_inv {c : Ct} {μ : Mu} {H : Hp} {v : V} {b : Bool} (h : Rp c μ H v (.bl b)) : v = .bl b := by cases h; rfl
theorem tTest_of {f : FE} {σ : L2.St} {H : Hp} {Q : Bool → Hp → Prop} {c : Ct} (h : tT c E (dTest f) σ H Q) : tD c E f σ H (fun x H' => ∃ k, x = .bl k ∧ Q k H') := by
  obtain ⟨μ, S, ρ, Qd, Ed, w, en, hf, q, px⟩ := h
  refine tR_of w en hf px fun x S1 v H1 μ1 h1 f1 w1 en1 px1 r1 => ?_
  obtain ⟨b, rfl, hb⟩ := onBl_of h1
  exact ⟨b, r1.bl_inv, q b S1 b H1 μ1 hb f1 w1 rfl⟩
theorem d_tcmp {op : CmpOp} {g : G2} (ho : OpR X (compareOp op) (rD2 (ct X) g)) (ha : PEd X E a fa) (hb : PEd X E b fb) (hm : behindInMarks op b = false) : PTd X E (.Compare a [op] [b] pos) (dTest (dBin g fa fb)) := by
  refine PT.imp (pt_cmpR ho ha hb hm) fun σ H Q h => ?_
  obtain ⟨μ, S, ρ, Qd, Ed, w, en, hf, q, px⟩ := h
  show tOp _ _ _ σ H _
  refine tBin ⟨μ, S, ρ, _, Ed, w, en, hf, fun d S' v H' μ' h1 f1 w1 r1 => ?_, px⟩
  obtain ⟨b, rfl, hb⟩ := onBl_of h1
  exact ⟨b, r1.bl_inv, q b S' b H' μ' hb f1 w1 rfl⟩
/-- an expression that is a bool, as a test -/
theorem d_tval {f : FE} (h : PEd X E e f) (he : ∀ whole, isTrue e X.env whole = (do let v ← whole; standAt e.pos; holding [v] (truthy v)) := by intro _; rfl) : PTd X E e (dTest f) :=
  PT.imp (pt_val h he) fun _ _ _ h => tTest_of h
end
/-! ### and, or, not, if -/
def dOr (f g : FT) : FT := fun ρ S Q Ed => f ρ S (fun b S1 => if b = true then Q true S1 else g ρ S1 Q Ed) Ed
def dNot (f : FT) : FT := fun ρ S Q Ed => f ρ S (fun b S1 => Q (!b) S1) Ed
def dIf {α : Type} (t : FT) (f g : FX α) : FX α := fun ρ S Q Ed => t ρ S (fun b S1 => if b = true then f ρ S1 Q Ed else g ρ S1 Q Ed) Ed
section
variable {X : Cx} {E : L2.St → XK} {pos : Pos} {a b c e : Expr} {rest : List Expr} {f g : FT} {fa fb : FE}
theorem d_or1 (ha : PTd X E a f) : PWd X E (.BoolOp .Or [a] pos) f := pw_or1 ha
theorem d_or (ha : PTd X E a f) (hb : PWd X E (.BoolOp .Or (b :: rest) pos) g) : PWd X E (.BoolOp .Or (a :: b :: rest) pos) (dOr f g) := by
  refine PW.imp (pw_or ha hb) fun σ H Q ⟨μ, S, ρ, Qd, Ed, w, en, hf, q, px⟩ => ?_
  refine tR_of w en hf px fun x S1 v H1 μ1 h1 f1 w1 en1 px1 r1 => ?_
  cases (r1 : v = x)
  split
  · rename_i hv
    rw [if_pos hv] at h1
    exact q true S1 true H1 μ1 h1 f1 w1 rfl
  · rename_i hv
    rw [if_neg hv] at h1
    exact tR_of w1 en1 h1 px1 fun y S2 u H2 μ2 h2 f2 w2 en2 px2 r2 => q y S2 u H2 μ2 h2 (f1.trans f2) w2 r2
theorem d_not (ha : PTd X E a f) : PTd X E (.UnaryOp .Not a pos) (dNot f) := by
  refine PT.imp (pt_not ha) fun σ H Q ⟨μ, S, ρ, Qd, Ed, w, en, hf, q, px⟩ => ?_
  refine tR_of w en hf px fun x S1 v H1 μ1 h1 f1 w1 en1 px1 r1 => ?_
  cases (r1 : v = x)
  exact q _ S1 _ H1 μ1 h1 f1 w1 rfl
theorem d_ifE (ht : PTd X E c f) (ha : PEd X E a fa) (hb : PEd X E b fb) : PEd X E (.IfExp c a b pos) (dIf f fa fb) := by
  refine PE.imp (pe_ifExp ht ha hb) fun σ H Q ⟨μ, S, ρ, Qd, Ed, w, en, hf, q, px⟩ => ?_
  refine tR_of w en hf px fun x S1 v H1 μ1 h1 f1 w1 en1 px1 r1 => ?_
  cases (r1 : v = x)
  split
  · rename_i hv
    rw [if_pos hv] at h1
    exact tR_of w1 en1 h1 px1 fun y S2 u H2 μ2 h2 f2 w2 en2 px2 r2 => q y S2 u H2 μ2 h2 (f1.trans f2) w2 r2
  · rename_i hv
    rw [if_neg hv] at h1
    exact tR_of w1 en1 h1 px1 fun y S2 u H2 μ2 h2 f2 w2 en2 px2 r2 => q y S2 u H2 μ2 h2 (f1.trans f2) w2 r2
end
/-! ### two comparisons in a row -/
def dChain (g g' : G2) (fa fb fc : FE) : FE := fun ρ S Q Ed => fa ρ S (fun x S1 => fb ρ S1 (fun y S2 => g x y S2 fun z S3 => onBl z fun k => if k = true then fc ρ S3 (fun u S4 => g' y u S4 Q) Ed else Q (.bl false) S3) Ed) Ed
section
variable {X : Cx} {E : L2.St → XK} {pos : Pos} {a b c : Expr} {fa fb fc : FE} {op op' : CmpOp} {g g' : G2}
theorem tChain_of {σ : L2.St} {H : Hp} {Q : VK} {x : Ct} (h : tD x E (dChain g g' fa fb fc) σ H Q) : tChain (rD2 x g) (rD2 x g') (tD x E fa) (tD x E fb) (tD x E fc) σ H Q := by
  obtain ⟨μ, S, ρ, Qd, Ed, w, en, hf, q, px⟩ := h
  refine tR_of w en hf px fun x S1 v H1 μ1 h1 f1 w1 en1 px1 r1 => ?_
  refine tR_of w1 en1 h1 px1 fun y S2 u H2 μ2 h2 f2 w2 en2 px2 r2 => ?_
  refine ⟨μ2, S2, x, y, _, w2, r1.fw w1 f2, r2, h2, fun d S' v' H3 μ3 h f3 w3 r3 => ?_⟩
  obtain ⟨k, rfl, hk⟩ := onBl_of h
  refine ⟨k, r3.bl_inv, ?_⟩
  split
  · rename_i hv
    rw [if_pos hv] at hk
    refine tR_of w3 (en2.fw w2 f3) hk (px2.fw f3) fun z S4 vz H4 μ4 h4 f4 w4 en4 px4 r4 => ?_
    exact ⟨μ4, S4, y, z, Qd, w4, (r2.fw w2 f3).fw w3 f4, r4, h4, fun d S' v' H' μ' h f w' r => q d S' v' H' μ' h (f1.trans (f2.trans (f3.trans (f4.trans f)))) w' r⟩
  · rename_i hv
    rw [if_neg hv] at hk
    exact q _ _ _ _ _ hk (f1.trans (f2.trans f3)) w3 (.bl false)
theorem d_chain (ho : OpR X (compareOp op) (rD2 (ct X) g)) (ho' : OpR X (compareOp op') (rD2 (ct X) g')) (ha : PEd X E a fa) (hb : PEd X E b fb) (hc : PEd X E c fc)
    (hm : lastMarks [op, op'] [b, c] = false := by with_unfolding_all rfl) : PEd X E (.Compare a [op, op'] [b, c] pos) (dChain g g' fa fb fc) :=
  PE.imp (pe_chain ho ho' ha hb hc hm) fun _ _ _ h => tChain_of h
theorem d_tchain (ho : OpR X (compareOp op) (rD2 (ct X) g)) (ho' : OpR X (compareOp op') (rD2 (ct X) g')) (ha : PEd X E a fa) (hb : PEd X E b fb) (hc : PEd X E c fc)
    (hm : lastMarks [op, op'] [b, c] = false := by with_unfolding_all rfl) : PTd X E (.Compare a [op, op'] [b, c] pos) (dTest (dChain g g' fa fb fc)) := by
  refine PT.imp (pt_chain ho ho' ha hb hc hm) fun σ H Q h => ?_
  obtain ⟨μ, S, ρ, Qd, Ed, w, en, hf, q, px⟩ := h
  refine tChain_of ⟨μ, S, ρ, _, Ed, w, en, hf, fun d S' v H' μ' h1 f1 w1 r1 => ?_, px⟩
  obtain ⟨b, rfl, hb⟩ := onBl_of h1
  exact ⟨b, r1.bl_inv, q b S' b H' μ' hb f1 w1 rfl⟩
end
end Pu
namespace Pu
open PySem PySem.Spec PyProof.Rows L2
/-! ## reading data -/
def lstAt : Option Cl → Option (List D)
  | some (.lst xs) => some xs
  | _ => none
theorem lstAt_inv {o : Option Cl} {xs : List D} (h : lstAt o = some xs) : o = some (.lst xs) := by
  cases o with
  | none => cases h
  | some x =>
    cases x with
    | lst ys => cases h; rfl
    | ins _ _ => cases h
def seqOf (S : Sto) : D → Option (List D)
  | .tup xs => some xs
  | .lst _ xs => some xs
  | .kls xs => some xs
  | .cell n => lstAt S[n]?
  | _ => none
def lstOf (S : Sto) : D → Option (List D)
  | .lst _ xs => some xs
  | .cell n => lstAt S[n]?
  | _ => none
def cellOf (S : Sto) : D → Option (Nat × List D)
  | .cell n => (lstAt S[n]?).map ((n, ·))
  | _ => none
section
variable {c : Ct} {μ μ' : Mu} {S : Sto} {H H' : Hp} {v : V} {d : D} {xs : List D}
theorem Wd.atCell (w : Wd c μ S H) {n : Nat} {x : Cl} (h : S[n]? = some x) : ∃ a, μ.m[n]? = some a ∧ ClOk c μ H a x := by
  have h1 : n < μ.m.length := by rw [w.len]; exact (List.getElem?_eq_some_iff.mp h).1
  exact ⟨μ.m[n], List.getElem?_eq_getElem h1, w.ok n _ x (List.getElem?_eq_getElem h1) h⟩
theorem cellOf_inv {n : Nat} (e : cellOf S d = some (n, xs)) : d = .cell n ∧ S[n]? = some (.lst xs) := by
  cases d with
  | cell k =>
    obtain ⟨ys, h, e2⟩ := Option.map_eq_some_iff.mp (show (lstAt S[k]?).map ((k, ·)) = some (n, xs) from e)
    cases e2
    exact ⟨rfl, lstAt_inv h⟩
  | _ => cases e
theorem Wd.cellL (w : Wd c μ S H) (r : Rp c μ H v d) {n : Nat} (e : cellOf S d = some (n, xs)) : ∃ a vs, v = .ref a ∧ μ.m[n]? = some a ∧ H a = some (.lst vs) ∧ RpAll c μ H vs xs := by
  obtain ⟨rfl, h⟩ := cellOf_inv e
  cases r with
  | cell hm =>
    obtain ⟨vs, h1, h2⟩ := w.ok n _ _ hm h
    exact ⟨_, vs, rfl, hm, h1, h2⟩
theorem Rp.lstT (w : Wd c μ S H) (r : Rp c μ H v d) (e : lstOf S d = some xs) : ∃ a vs, v = .ref a ∧ H a = some (.lst vs) ∧ RpAll c μ H vs xs := by
  cases r with
  | lst h _ _ _ ra => cases e; exact ⟨_, _, rfl, h, ra⟩
  | @cell n a hm =>
    obtain ⟨vs, h1, h2⟩ := w.ok n _ _ hm (lstAt_inv e)
    exact ⟨_, vs, rfl, h1, h2⟩
  | _ => cases e
theorem Rp.seq (w : Wd c μ S H) (r : Rp c μ H v d) (e : seqOf S d = some xs) : ∃ a vs, v = .ref a ∧ (SqL c.K H a vs ∨ SqT c.K H a vs) ∧ RpAll c μ H vs xs := by
  cases r with
  | tup h ra => cases e; exact ⟨_, _, rfl, .inr (SqT.of h), ra⟩
  | lst h _ _ _ ra => cases e; exact ⟨_, _, rfl, .inl (SqL.of h), ra⟩
  | kls h _ _ ra => cases e; exact ⟨_, _, rfl, .inl (.inl h), ra⟩
  | klsK o its n h1 h2 h3 h4 h5 h6 ra => cases e; exact ⟨_, _, rfl, .inl (.inr ⟨o, its, n, h1, h2, h3, h4, h5, h6⟩), ra⟩
  | @cell n a hm =>
    obtain ⟨vs, h1, h2⟩ := w.ok n _ _ hm (lstAt_inv e)
    exact ⟨_, vs, rfl, .inl (SqL.of h1), h2⟩
  | _ => cases e
/-! what a new object is worth -/
theorem PostV.tup {Qd : QD} {Q : VK} (q : PostV c μ H Qd Q) (w : Wd c μ S H) {vs : List V} {ds : List D} (r : RpAll c μ H vs ds) (h : Qd (.tup ds) S) {p : Addr} (hp : H p = none) : Q (.ref p) (upd H p (.tup vs)) :=
  q _ S _ _ μ h (Fw.new hp) (w.new hp) (.tup upd_same (r.fw w (Fw.new hp)))
theorem Wd.newL (w : Wd c μ S H) {vs : List V} {ds : List D} (r : RpAll c μ H vs ds) {p : Addr} (hp : H p = none) {k : Bool} (hk : k = true → p ≠ sysModules) : Rp c μ (upd H p (.lst vs)) (.ref p) (.lst k ds) :=
  .lst upd_same (w.fresh hp) (fun z => w.avs p z hp) hk (r.fw w (Fw.new hp))
theorem PostV.lst {Qd : QD} {Q : VK} (q : PostV c μ H Qd Q) (w : Wd c μ S H) {vs : List V} {ds : List D} (r : RpAll c μ H vs ds) (h : Qd (.lst false ds) S) {p : Addr} (hp : H p = none) : Q (.ref p) (upd H p (.lst vs)) :=
  q _ S _ _ μ h (Fw.new hp) (w.new hp) (w.newL r hp fun z => nomatch z)
theorem PostV.lstN {Qd : QD} {Q : VK} (q : PostV c μ H Qd Q) (w : Wd c μ S H) {vs : List V} {ds : List D} (r : RpAll c μ H vs ds) (h : Qd (.lst true ds) S) {p : Addr} (hp : H p = none) (hs : p ≠ sysModules) : Q (.ref p) (upd H p (.lst vs)) :=
  q _ S _ _ μ h (Fw.new hp) (w.new hp) (w.newL r hp fun _ => hs)
theorem PostV.same {Qd : QD} {Q : VK} (q : PostV c μ H Qd Q) (w : Wd c μ S H) (r : Rp c μ H v d) (h : Qd d S) : Q v H := q _ S _ _ μ h Fw.refl w r
/-- a cell is written, a value given back -/
theorem PostV.cell {Qd : QD} {Q : VK} (q : PostV c μ H Qd Q) (w : Wd c μ S H) {n : Nat} {a : Addr} {vs : List V} {ds : List D} (hm : μ.m[n]? = some a) (r : RpAll c μ H vs ds) (rv : Rp c μ H v d) (h : Qd d (S.set n (.lst ds))) : Q v (upd H a (.lst vs)) := by
  have f : Fw μ H μ (upd H a (.lst vs)) := Fw.write (List.mem_of_getElem? hm)
  exact q _ _ _ _ μ h f (w.set hm ⟨vs, upd_same, r.fw w f⟩) (rv.fw w f)
end
/-! ints -/
def intsOf : List D → Option (List Int)
  | [] => some []
  | .int i :: r => (intsOf r).map (i :: ·)
  | _ :: _ => none
theorem intsOf_map (ns : List Int) : intsOf (ns.map D.int) = some ns := by
  induction ns with
  | nil => rfl
  | cons n ns ih => show (intsOf (ns.map D.int)).map (n :: ·) = _; rw [ih]; rfl
theorem intsOf_inv : ∀ {ds : List D} {ns : List Int}, intsOf ds = some ns → ds = ns.map D.int
  | [], ns, h => by cases h; rfl
  | .int i :: r, ns, h => by
    obtain ⟨ms, e, rfl⟩ := Option.map_eq_some_iff.mp (show (intsOf r).map (i :: ·) = some ns from h)
    rw [intsOf_inv e]
    rfl
  | .non :: _, _, h => by cases h
  | .bl _ :: _, _, h => by cases h
  | .str _ :: _, _, h => by cases h
  | .tup _ :: _, _, h => by cases h
  | .lst _ _ :: _, _, h => by cases h
  | .dic _ :: _, _, h => by cases h
  | .kls _ :: _, _, h => by cases h
  | .cell _ :: _, _, h => by cases h
  | .glo _ :: _, _, h => by cases h
  | .ty _ :: _, _, h => by cases h
  | .ins _ _ :: _, _, h => by cases h
  | .exc _ _ :: _, _, h => by cases h
section
variable {c : Ct} {μ : Mu} {H : Hp}
theorem RpAll.ints : ∀ {vs : List V} {ns : List Int}, RpAll c μ H vs (ns.map D.int) → vs = ns.map V.int
  | _, [], h => by cases h; rfl
  | _, n :: ns, h => by
    cases h with
    | cons h1 h2 =>
      cases h1
      rw [RpAll.ints h2]
      rfl
theorem RpAll.ofInts : ∀ (ns : List Int), RpAll c μ H (ns.map V.int) (ns.map D.int)
  | [] => .nil
  | n :: ns => .cons (.int n) (RpAll.ofInts ns)
end
/-! ## displays -/
def dTup (f : FA) : FE := fun ρ S Q Ed => f ρ S (fun ds S1 => ds.length ≤ sizeLine ∧ Q (.tup ds) S1) Ed
def dLst (f : FA) : FE := fun ρ S Q Ed => f ρ S (fun ds S1 => ds.length ≤ sizeLine ∧ Q (.lst true ds) S1) Ed
/-- a list that will be changed -/
def dLstC (f : FA) : FE := fun ρ S Q Ed => f ρ S (fun ds S1 => ds.length ≤ sizeLine ∧ Q (.cell S1.length) (S1 ++ [.lst ds])) Ed
section
variable {X : Cx} {E : L2.St → XK} {pos : Pos} {es : List Expr} {fa : FA}
theorem d_tup {x1} (h : PAd X E es fa) : PEd X E (.Tuple es x1 pos) (dTup fa) := by
  refine PE.imp (pe_tup h) fun σ H Q ⟨μ, S, ρ, Qd, Ed, w, en, hf, q, px⟩ => ?_
  refine tR_of w en hf px fun ds S1 vs H1 μ1 h1 f1 w1 en1 px1 r1 => ⟨by rw [r1.length]; exact h1.1, fun p hp => ?_⟩
  exact PostV.tup (fun d S' v H' μ' h f w' r => q d S' v H' μ' h (f1.trans f) w' r) w1 r1 h1.2 hp
theorem d_lst (h : PAd X E es fa) : PEd X E (.List es pos) (dLst fa) := by
  refine PE.imp (Rb.pe_lstN h) fun σ H Q ⟨μ, S, ρ, Qd, Ed, w, en, hf, q, px⟩ => ?_
  refine tR_of w en hf px fun ds S1 vs H1 μ1 h1 f1 w1 en1 px1 r1 => ⟨by rw [r1.length]; exact h1.1, fun p hp hs => ?_⟩
  exact PostV.lstN (fun d S' v H' μ' h f w' r => q d S' v H' μ' h (f1.trans f) w' r) w1 r1 h1.2 hp hs
theorem Wd.lay {c : Ct} {μ : Mu} {S : Sto} {H : Hp} (w : Wd c μ S H) {vs : List V} {ds : List D} (r : RpAll c μ H vs ds) {p : Addr} (hp : H p = none) :
    Fw μ H ⟨μ.m ++ [p], μ.av⟩ (upd H p (.lst vs)) ∧ Wd c ⟨μ.m ++ [p], μ.av⟩ (S ++ [.lst ds]) (upd H p (.lst vs)) ∧ Rp c ⟨μ.m ++ [p], μ.av⟩ (upd H p (.lst vs)) (.ref p) (.cell S.length) := by
  have f : Fw μ H ⟨μ.m ++ [p], μ.av⟩ (upd H p (.lst vs)) := Fw.newC hp
  refine ⟨f, w.newC hp ⟨vs, upd_same, r.fw w f⟩, .cell ?_⟩
  show (μ.m ++ [p])[S.length]? = some p
  rw [← w.len, List.getElem?_append_right (Nat.le_refl _), Nat.sub_self]
  rfl
theorem d_lstC (h : PAd X E es fa) : PEd X E (.List es pos) (dLstC fa) := by
  refine PE.imp (pe_lst h) fun σ H Q ⟨μ, S, ρ, Qd, Ed, w, en, hf, q, px⟩ => ?_
  refine tR_of w en hf px fun ds S1 vs H1 μ1 h1 f1 w1 en1 px1 r1 => ⟨by rw [r1.length]; exact h1.1, fun p hp => ?_⟩
  obtain ⟨f2, w2, r2⟩ := w1.lay r1 hp
  exact q _ _ _ _ _ h1.2 (f1.trans f2) w2 r2
end
/-! ## built-ins that make a new list: as a value, as a cell -/
section
variable {X : Cx} {E : L2.St → XK} {e : Expr} {es : List Expr} {fa : FA} {id : String} {x : Str} {pos p2 : Pos}
theorem d_callB {g : List D → Sto → QD → Prop} (hc : CallR X (.builtin id) (rDs (ct X) g)) (hg : Gl X x) (hm : X.mg x = none) (hv : bootBuiltins x = some (.builtin id)) (ha : PAd X E (e :: es) fa) (hn : x ≠ "__name__" := by decide) (hdb : (x == ("__debug__" : Str)) = false := by decide)
    (hs : starEach (e :: es) X.env = (false, eval e X.env) :: starEach es X.env := by rfl) (hf2 : (backTo pos (starEach es X.env)).any (·.1) = false := by rfl) : PEd X E (.Call (.Name x p2) (e :: es) [] pos) (dB g fa) := by
  refine PE.imp (pe_callB hc hg hm hv ha hn hdb hs hf2) fun σ H Q ⟨μ, S, ρ, Qd, Ed, w, en, hf, q, px⟩ => ?_
  refine tR_of w en hf px fun ds S1 vs H1 μ1 h1 f1 w1 en1 px1 r1 => ?_
  exact ⟨μ1, S1, ds, Qd, w1, r1, h1, fun d S' v H' μ' h f w' r => q d S' v H' μ' h (f1.trans f) w' r⟩
theorem d_callT {T : String} {g : List D → Sto → QD → Prop} (hc : CallR X (.type T) (rDs (ct X) g)) (hg : Gl X x) (hm : X.mg x = none) (hv : bootBuiltins x = some (.type T)) (ha : PAd X E (e :: es) fa) (hn : x ≠ "__name__" := by decide) (hdb : (x == ("__debug__" : Str)) = false := by decide)
    (hs : starEach (e :: es) X.env = (false, eval e X.env) :: starEach es X.env := by rfl) (hf2 : (backTo pos (starEach es X.env)).any (·.1) = false := by rfl) : PEd X E (.Call (.Name x p2) (e :: es) [] pos) (dB g fa) := by
  refine PE.imp (pe_callTy hc hg hm hv ha hn hdb hs hf2) fun σ H Q ⟨μ, S, ρ, Qd, Ed, w, en, hf, q, px⟩ => ?_
  refine tR_of w en hf px fun ds S1 vs H1 μ1 h1 f1 w1 en1 px1 r1 => ?_
  exact ⟨μ1, S1, ds, Qd, w1, r1, h1, fun d S' v H' μ' h f w' r => q d S' v H' μ' h (f1.trans f) w' r⟩
end
end Pu
namespace Pu
open PySem PySem.Spec PyProof.Rows L2
/-! ## arithmetic -/
def gInt (f : Int → Int → D) (C : Int → Int → Prop) : G2 := fun x y S Q => match x, y with
  | .int i, .int j => C i j ∧ Q (f i j) S
  | _, _ => False
def gInt0 (f : Int → Int → D) : G2 := fun x y S Q => match x, y with
  | .int i, .int j => Q (f i j) S
  | _, _ => False
theorem gInt_inv {f : Int → Int → D} {C : Int → Int → Prop} {x y : D} {S : Sto} {Q : QD} (h : gInt f C x y S Q) : ∃ i j, x = .int i ∧ y = .int j ∧ C i j ∧ Q (f i j) S := by
  unfold gInt at h
  split at h
  · exact ⟨_, _, rfl, rfl, h⟩
  · exact h.elim
theorem gInt0_inv {f : Int → Int → D} {x y : D} {S : Sto} {Q : QD} (h : gInt0 f x y S Q) : ∃ i j, x = .int i ∧ y = .int j ∧ Q (f i j) S := by
  unfold gInt0 at h
  split at h
  · exact ⟨_, _, rfl, rfl, h⟩
  · exact h.elim
section
variable {c : Ct} {μ : Mu} {H : Hp} {v : V}
theorem Rp.int_inv {i : Int} (h : Rp c μ H v (.int i)) : v = .int i := by cases h; rfl
theorem Rp.str_inv {x : Str} (h : Rp c μ H v (.str x)) : v = .str x := by cases h; rfl
theorem Rp.tup_inv {ds : List D} (h : Rp c μ H v (.tup ds)) : ∃ a vs, v = .ref a ∧ H a = some (.tup vs) ∧ RpAll c μ H vs ds := by
  cases h with
  | tup h r => exact ⟨_, _, rfl, h, r⟩
end
section
variable {X : Cx}
theorem opInt {f : Value → Value → Sem Value} {C : Int → Int → Prop} {g : Int → Int → Int} (h : OpR X f (rI C fun i j => .int (g i j))) : OpR X f (rD2 (ct X) (gInt (fun i j => .int (g i j)) C)) := by
  intro pins s σ H x y v u Q I rx ry ⟨μ, S, dx, dy, Qd, w, r1, r2, hg, q⟩
  obtain ⟨i, j, rfl, rfl, hC, hq⟩ := gInt_inv hg
  exact h pins s σ H x y v u Q I rx ry ⟨i, j, r1.int_inv, r2.int_inv, hC, q.same w (.int _) hq⟩
theorem opInt0 {f : Value → Value → Sem Value} {g : Int → Int → Int} (h : OpR X f (rI0 fun i j => .int (g i j))) : OpR X f (rD2 (ct X) (gInt0 (fun i j => .int (g i j)))) := by
  intro pins s σ H x y v u Q I rx ry ⟨μ, S, dx, dy, Qd, w, r1, r2, hg, q⟩
  obtain ⟨i, j, rfl, rfl, hq⟩ := gInt0_inv hg
  exact h pins s σ H x y v u Q I rx ry ⟨i, j, r1.int_inv, r2.int_inv, q.same w (.int _) hq⟩
theorem opBl0 {f : Value → Value → Sem Value} {g : Int → Int → Bool} (h : OpR X f (rI0 fun i j => .bl (g i j))) : OpR X f (rD2 (ct X) (gInt0 (fun i j => .bl (g i j)))) := by
  intro pins s σ H x y v u Q I rx ry ⟨μ, S, dx, dy, Qd, w, r1, r2, hg, q⟩
  obtain ⟨i, j, rfl, rfl, hq⟩ := gInt0_inv hg
  exact h pins s σ H x y v u Q I rx ry ⟨i, j, r1.int_inv, r2.int_inv, q.same w (.bl _) hq⟩
end
abbrev gSub : G2 := gInt0 fun i j => .int (i - j)
abbrev gFdiv : G2 := gInt (fun i j => .int (i / j)) CDivW
abbrev gMod : G2 := gInt (fun i j => .int (i % j)) fun _ j => 0 < j
abbrev gPow : G2 := gInt (fun i j => .int (i ^ j.toNat)) CPow
abbrev gLe : G2 := gInt0 fun i j => .bl (decide (i ≤ j))
abbrev gGt : G2 := gInt0 fun i j => .bl (decide (j < i))
abbrev gGe : G2 := gInt0 fun i j => .bl (decide (j ≤ i))
section
variable {X : Cx}
theorem o_sub : OpR X (binaryOp .Sub) (rD2 (ct X) gSub) := opInt0 op_sub
theorem o_fdiv : OpR X (binaryOp .FloorDiv) (rD2 (ct X) gFdiv) := opInt op_fdivW
theorem o_mod : OpR X (binaryOp .Mod) (rD2 (ct X) gMod) := opInt op_mod
theorem o_pow : OpR X (binaryOp .Pow) (rD2 (ct X) gPow) := opInt op_pow
theorem o_le : OpR X (compareOp .LtE) (rD2 (ct X) gLe) := opBl0 op_le
theorem o_gt : OpR X (compareOp .Gt) (rD2 (ct X) gGt) := opBl0 op_gt
theorem o_ge : OpR X (compareOp .GtE) (rD2 (ct X) gGe) := opBl0 op_ge
end
def gNeg : D → Sto → QD → Prop := fun x S Q => match x with
  | .int i => Q (.int (-i)) S
  | _ => False
def gAdd : G2 := fun x y S Q => match x, y with
  | .int i, .int j => Q (.int (i + j)) S
  | .tup xs, .tup ys => xs.length + ys.length ≤ sizeLine ∧ Q (.tup (xs ++ ys)) S
  | .str a, .str b => a.length + b.length ≤ sizeLine ∧ Q (.str (a ++ b)) S
  | x, y => onSome (lstOf S x) fun xs => onSome (lstOf S y) fun ys => xs.length + ys.length ≤ sizeLine ∧ Q (.lst false (xs ++ ys)) S
def gMul : G2 := fun x y S Q => match x, y with
  | .int i, .int j => (CMul i j ∨ CMulW i j) ∧ Q (.int (i * j)) S
  | .tup xs, .int k => (xs ≠ [] ∧ 1 ≤ k ∧ k ≤ 1000 ∧ xs.length ≤ 1000) ∧ Q (.tup (List.replicate k.toNat xs).flatten) S
  | x, .int k => onSome (lstOf S x) fun xs => (-(2 ^ 63) ≤ k ∧ k < 2 ^ 63 ∧ xs.length * k.toNat ≤ sizeLine) ∧ Q (.lst false (List.replicate k.toNat xs).flatten) S
  | _, _ => False
section
variable {X : Cx}
theorem u_neg : UnR X (unaryOp .USub) (rD1 (ct X) gNeg) := by
  intro pins s σ H x v Q I rx ⟨μ, S, dx, Qd, w, r1, hg, q⟩
  unfold gNeg at hg
  split at hg
  · exact un_neg pins s σ H x v Q I rx ⟨_, r1.int_inv, q.same w (.int _) hg⟩
  · exact hg.elim
theorem o_add : OpR X (binaryOp .Add) (rD2 (ct X) gAdd) := by
  intro pins s σ H x y v u Q I rx ry ⟨μ, S, dx, dy, Qd, w, r1, r2, hg, q⟩
  unfold gAdd at hg
  split at hg
  · exact op_add pins s σ H x y v u Q I rx ry ⟨_, _, r1.int_inv, r2.int_inv, q.same w (.int _) hg⟩
  · rename_i xs ys
    obtain ⟨a, vs, rfl, ha, ra⟩ := r1.tup_inv
    obtain ⟨b, ws, rfl, hb, rb⟩ := r2.tup_inv
    refine op_catA pins s σ H _ _ v u Q I rx ry ⟨a, b, vs, ws, rfl, rfl, SqT.of ha, SqT.of hb, by rw [ra.length, rb.length]; exact hg.1, fun e => ?_, fun _ e => ?_, fun _ _ p hp => ?_⟩
    · subst e
      cases ra
      exact q.same w (.tup hb rb) hg.2
    · subst e
      cases rb
      have h2 := hg.2
      rw [List.append_nil] at h2
      exact q.same w (.tup ha ra) h2
    · exact q.tup w (ra.append rb) hg.2 hp
  · exact op_add_str pins s σ H x y v u Q I rx ry ⟨_, _, r1.str_inv, r2.str_inv, hg.1, q.same w (.str _) hg.2⟩
  · obtain ⟨xs, e1, hg⟩ := onSome_of hg
    obtain ⟨ys, e2, hg⟩ := onSome_of hg
    obtain ⟨a, vs, rfl, ha, ra⟩ := r1.lstT w e1
    obtain ⟨b, ws, rfl, hb, rb⟩ := r2.lstT w e2
    exact op_cat pins s σ H _ _ v u Q I rx ry ⟨a, b, vs, ws, rfl, rfl, ha, hb, by rw [ra.length, rb.length]; exact hg.1, fun p hp => q.lst w (ra.append rb) hg.2 hp⟩
open Rb in
theorem op_rep1 : OpR X (binaryOp .Mult) (fun x y H Q => ∃ (l : Addr) (xs : List V), x = .ref l ∧ y = .int 1 ∧ SqT X.K H l xs ∧ Q (.ref l) H) := by
  intro pins s σ H x y v u Q I rx ry h
  obtain ⟨l, xs, rfl, rfl, hT, q⟩ := h
  cases rx
  obtain ⟨t, rfl⟩ := ry
  obtain ⟨its, r, ⟨⟨cls, dd, data, sl⟩, ho, hc, n, hd⟩, hs⟩ := I.tuple hT
  simp only at hc hd
  subst hc hd
  refine wpAny_binaryOp_repeat_ref (T := "tuple") (U := "int") (by decide) ⟨_, ho, rfl⟩ (fun s' => typeIs_int s' 1 t) noFill_tuple_mul F.fills_int_mul F.slot_int_rmul repeat_tuple F.slot_int_index.lookup
    (call_meets F.slot_int_rmul (typeIs_int s 1 t) F.entry_int_rmul (F.args_int_rmul_2 _ _) (int_rmul_tuple 1 t l its.toArray n dd sl)
      ⟨ho, rfl, ⟨_, ho, rfl⟩, call_meets F.slot_tuple_mul ⟨_, ho, rfl⟩ F.entry_tuple_mul (F.args_tuple_mul_2 _ _) (tupMul1 l its.toArray n dd sl t) ⟨ho, ?_⟩⟩)
  exact ⟨.ref l, H, I, rfl, q⟩
theorem o_mul : OpR X (binaryOp .Mult) (rD2 (ct X) gMul) := by
  intro pins s σ H x y v u Q I rx ry ⟨μ, S, dx, dy, Qd, w, r1, r2, hg, q⟩
  unfold gMul at hg
  split at hg
  · rcases hg.1 with hc | hc
    · exact op_mul pins s σ H x y v u Q I rx ry ⟨_, _, r1.int_inv, r2.int_inv, hc, q.same w (.int _) hg.2⟩
    · exact op_mulW pins s σ H x y v u Q I rx ry ⟨_, _, r1.int_inv, r2.int_inv, hc, q.same w (.int _) hg.2⟩
  · rename_i xs k
    obtain ⟨a, vs, rfl, ha, ra⟩ := r1.tup_inv
    obtain ⟨⟨ne, h1, h2, h3⟩, hq⟩ := hg
    have nv : vs ≠ [] := fun e => by
      subst e
      cases ra
      exact ne rfl
    by_cases hk : k = 1
    · subst hk
      refine op_rep1 pins s σ H _ _ v u Q I rx ry ⟨a, vs, rfl, r2.int_inv, SqT.of ha, ?_⟩
      have e : (List.replicate (1 : Int).toNat xs).flatten = xs := by show (List.replicate 1 xs).flatten = xs; simp
      rw [e] at hq
      exact q.same w (.tup ha ra) hq
    · refine op_repT pins s σ H _ _ v u Q I rx ry ⟨a, k, vs, rfl, r2.int_inv, SqT.of ha, nv, by omega, h2, by rw [ra.length]; exact h3, fun p hp => q.tup w (ra.rep _) hq hp⟩
  · rename_i k _ _
    obtain ⟨xs, e1, hg⟩ := onSome_of hg
    obtain ⟨a, vs, rfl, ha, ra⟩ := r1.lstT w e1
    exact op_rep pins s σ H _ _ v u Q I rx ry ⟨a, k, vs, rfl, r2.int_inv, ha, hg.1.1, hg.1.2.1, by rw [ra.length]; exact hg.1.2.2, fun p hp => q.lst w (ra.rep _) hg.2 hp⟩
  · exact hg.elim
end
end Pu
namespace Pu
open PySem PySem.Spec PyProof.Rows L2
/-! ## plain data -/
mutual
def toPy : D → Option PyData
  | .non => some .none
  | .bl b => some (.bool b)
  | .int i => some (.int i)
  | .str x => some (.str x)
  | .tup xs => (toPyAll xs).map .tuple
  | .lst _ xs => (toPyAll xs).map .list
  | .kls _ => none
  | .dic ps => some (Rb.dicD ps)
  | .cell _ => none
  | .glo _ => none
  | .ty _ => none
  | .ins _ _ => none
  | .exc _ _ => none
def toPyAll : List D → Option (List PyData)
  | [] => some []
  | x :: xs => (toPy x).bind fun p => (toPyAll xs).map (p :: ·)
end
mutual
/-- all lists in it are known to stand apart from the table of modules -/
def known : D → Bool
  | .tup xs => knownAll xs
  | .lst k xs => k && knownAll xs
  | .kls _ => false
  | _ => true
def knownAll : List D → Bool
  | [] => true
  | x :: xs => known x && knownAll xs
end
def pyC (S : Sto) : D → Option PyData
  | .cell n => (lstAt S[n]?).bind fun xs => (toPyAll xs).map .list
  | d => toPy d
section
variable {X : Cx} {pins : List (Addr × Obj)} {σ : L2.St} {H : Hp} {s : Shared} {μ : Mu}
mutual
theorem Rp.reads (I : Inv X pins σ H s) : ∀ (d : D) (v : V) (u : Value) (p : PyData), Rp (ct X) μ H v d → RelV v u → toPy d = some p → ∃ as, Reads s.heap u p as ∧ (known d = true → sysModules ∉ as)
  | .non, _, _, _, h, r, e => by
    cases h; cases r; cases e
    exact ⟨_, Reads.none, fun _ z => nomatch z⟩
  | .bl b, _, _, _, h, r, e => by
    cases h; cases r; cases e
    exact ⟨_, Reads.bool b, fun _ z => nomatch z⟩
  | .int i, _, _, _, h, r, e => by
    cases h; cases e
    obtain ⟨t, rfl⟩ := r
    exact ⟨_, Reads.int i t, fun _ z => nomatch z⟩
  | .str x, _, _, _, h, r, e => by
    cases h; cases e
    obtain ⟨t, rfl⟩ := r
    exact ⟨_, Reads.str x t, fun _ z => nomatch z⟩
  | .tup ds, _, _, _, h, r, e => by
    cases h with
    | tup hs ha =>
      cases r
      obtain ⟨ps, e1, rfl⟩ := Option.map_eq_some_iff.mp (show (toPyAll ds).map PyData.tuple = some _ from e)
      obtain ⟨its, rv, ⟨o, ho, hc, n, hd⟩, _⟩ := I.tuple (SqT.of hs)
      obtain ⟨as, hr, no⟩ := RpAll.reads I ds _ its ps ha rv e1
      exact ⟨_, Reads.tuple ho hc hd hr, fun hk => no hk⟩
  | .lst k ds, _, _, _, h, r, e => by
    cases h with
    | lst hs _ _ ne ha =>
      cases r
      obtain ⟨ps, e1, rfl⟩ := Option.map_eq_some_iff.mp (show (toPyAll ds).map PyData.list = some _ from e)
      obtain ⟨its, rv, ⟨o, n, ho, hc, _, hd⟩, _⟩ := I.list (SqL.of hs)
      obtain ⟨as, hr, no⟩ := RpAll.reads I ds _ its ps ha rv e1
      refine ⟨_, Reads.list ho hc hd hr, fun hk z => ?_⟩
      obtain ⟨h1, h2⟩ := Bool.and_eq_true_iff.mp (show (k && knownAll ds) = true from hk)
      rcases List.mem_cons.mp z with z | z
      · exact ne h1 z.symm
      · exact no h2 z
  | .kls _, _, _, _, _, _, e => by cases e
  | .dic qs, _, _, _, h, r, e => by
    cases h with
    | dic hd _ _ =>
      cases e
      obtain ⟨as, h1, h2⟩ := Rb.Ap.reads (S := [sysModules]) List.mem_cons_self I (Rb.dicD qs) _ _ (.dic hd) r
      exact ⟨as, h1, fun _ => h2⟩
  | .cell _, _, _, _, _, _, e => by cases e
  | .glo _, _, _, _, _, _, e => by cases e
  | .ty _, _, _, _, _, _, e => by cases e
  | .ins _ _, _, _, _, _, _, e => by cases e
  | .exc _ _, _, _, _, _, _, e => by cases e
theorem RpAll.reads (I : Inv X pins σ H s) : ∀ (ds : List D) (vs : List V) (us : List Value) (ps : List PyData), RpAll (ct X) μ H vs ds → Vals vs us → toPyAll ds = some ps → ∃ as, ReadsAll s.heap us ps as ∧ (knownAll ds = true → sysModules ∉ as)
  | [], _, _, _, h, r, e => by
    cases h; cases r; cases e
    exact ⟨_, ReadsAll.nil, fun _ z => nomatch z⟩
  | d :: ds, _, _, _, h, r, e => by
    cases h with
    | cons h1 h2 =>
      cases r with
      | cons r1 r2 =>
        obtain ⟨p, e1, e2⟩ := Option.bind_eq_some_iff.mp (show (toPy d).bind (fun p => (toPyAll ds).map (p :: ·)) = some _ from e)
        obtain ⟨ps, e3, rfl⟩ := Option.map_eq_some_iff.mp e2
        obtain ⟨as, q1, n1⟩ := Rp.reads I d _ _ p h1 r1 e1
        obtain ⟨bs, q2, n2⟩ := RpAll.reads I ds _ _ ps h2 r2 e3
        refine ⟨_, ReadsAll.cons q1 q2, fun hk z => ?_⟩
        obtain ⟨k1, k2⟩ := Bool.and_eq_true_iff.mp (show (known d && knownAll ds) = true from hk)
        rcases List.mem_append.mp z with z | z
        · exact n1 k1 z
        · exact n2 k2 z
end
theorem Wd.reads {S : Sto} (w : Wd (ct X) μ S H) (I : Inv X pins σ H s) {d : D} {v : V} {u : Value} {p : PyData} (h : Rp (ct X) μ H v d) (r : RelV v u) (e : pyC S d = some p) : ∃ as, Reads s.heap u p as := by
  by_cases hc : ∃ n, d = .cell n
  · obtain ⟨n, rfl⟩ := hc
    obtain ⟨xs, e1, e2⟩ := Option.bind_eq_some_iff.mp (show (lstAt S[n]?).bind (fun xs => (toPyAll xs).map .list) = some p from e)
    obtain ⟨ps, e3, rfl⟩ := Option.map_eq_some_iff.mp e2
    obtain ⟨a, vs, rfl, ha, ra⟩ := h.lstT w (show lstOf S (.cell n) = some xs from e1)
    cases r
    obtain ⟨its, rv, ⟨o, k, ho, hc, _, hd⟩, _⟩ := I.list (SqL.of ha)
    obtain ⟨as, hr, no⟩ := RpAll.reads I xs _ its ps ra rv e3
    exact ⟨_, Reads.list ho hc hd hr⟩
  · have e' : toPy d = some p := by
      cases d with
      | cell n => exact absurd ⟨n, rfl⟩ hc
      | _ => exact e
    obtain ⟨as, h1, _⟩ := Rp.reads I d v u p h r e'
    exact ⟨as, h1⟩
end
/-! ## repr -/
def gRepr : List D → Sto → QD → Prop := fun ds S Q => match ds with
  | [d] => onSome (toPy d) fun p => (Rb.Nice 20 100000 p ∧ (p.hasDict = false ∨ known d = true)) ∧ Q (.str p.shown) S
  | _ => False
theorem Rp.glo_py {c : Ct} {μ : Mu} {H : Hp} {v : V} {d : D} {p : PyData} (h : Rp c μ H v d) (e : toPy d = some p) : (∃ a, v = .ref a) ∨ (v = .non ∧ p = .none) ∨ (∃ b, v = .bl b ∧ p = .bool b) ∨ (∃ i, v = .int i ∧ p = .int i) ∨ ∃ x, v = .str x ∧ p = .str x := by
  cases h with
  | non => cases e; exact .inr (.inl ⟨rfl, rfl⟩)
  | bl b => cases e; exact .inr (.inr (.inl ⟨b, rfl, rfl⟩))
  | int i => cases e; exact .inr (.inr (.inr (.inl ⟨i, rfl, rfl⟩)))
  | str x => cases e; exact .inr (.inr (.inr (.inr ⟨x, rfl, rfl⟩)))
  | glo _ _ => cases e
  | ty _ => cases e
  | _ => exact .inl ⟨_, rfl⟩
theorem c_repr {X : Cx} (hg : X.A.guards = some []) (hu : X.A.units + 64 < cLine) : CallR X (.builtin "repr") (rDs (ct X) gRepr) := by
  intro pins s σ H vs us Q I r ⟨μ, S, ds, Qd, w, ra, hr, q⟩
  unfold gRepr at hr
  split at hr
  · rename_i d
    obtain ⟨p, e, ⟨hn, hk⟩, hq⟩ := onSome_of hr
    cases ra with
    | cons rd r0 =>
      cases r0
      obtain ⟨u, rfl, ru⟩ := vals1 r
      have fin := q.same w (.str p.shown) hq
      obtain ⟨as, rr, no⟩ := Rp.reads I d _ u p rd ru e
      have hsz := hn.fits
      have hdep := hn.dep
      have hs := hn.sh
      rcases rd.glo_py e with ⟨a, rfl⟩ | ⟨rfl, rfl⟩ | ⟨b, rfl, rfl⟩ | ⟨i, rfl, rfl⟩ | ⟨x, rfl, rfl⟩
      · cases ru
        refine repr_of_reads' rr hs (fun z => ?_) hg (by omega) (fun _ _ e => e) (fun h' t tk hk => ?_) hsz
        · rcases hk with hk | hk
          · rw [hk] at z; cases z
          · exact no hk
        · exact ⟨.str _, H, I.kept hk, ⟨_, rfl⟩, fin⟩
      · cases ru
        simp only [PyData.shown] at fin
        exact PySem.P.repr_of_none ⟨.str _, H, I.tok _, ⟨_, rfl⟩, fin⟩
      · cases ru
        simp only [PyData.shown] at fin
        exact PySem.P.repr_of_bool ⟨.str _, H, I.tok _, ⟨_, rfl⟩, fin⟩
      · obtain ⟨t, rfl⟩ := ru
        simp only [PyData.showable, decide_eq_true_eq] at hs
        simp only [PyData.shown] at fin
        exact PySem.P.repr_of_int hs ⟨.str _, H, I.tok _, ⟨_, rfl⟩, fin⟩
      · obtain ⟨t, rfl⟩ := ru
        simp only [PyData.shown] at fin hsz
        exact PySem.P.repr_of_str ⟨.str _, H, I.tok _, ⟨_, rfl⟩, fin⟩ hsz
  · exact hr.elim
/-! ## == and != -/
def nb : Bool → Bool → Bool
  | true, b => !b
  | false, b => b
def gEqB (neg : Bool) : G2 := fun x y S Q => match x, y with
  | .int i, .int j => Q (.bl (nb neg (decide (i = j)))) S
  | .str a, .str b => Q (.bl (nb neg (decide (a = b)))) S
  | x, y => onSome (pyC S x) fun p => onSome (pyC S y) fun q => (SeqAt.shaped p = true ∧ SeqAt.shaped q = true) ∧ Q (.bl (nb neg (PyData.eqv p q))) S
abbrev gEq : G2 := gEqB false
abbrev gNe : G2 := gEqB true
section
variable {X : Cx}
theorem dec_i {i j : Int} : decide (V.int i = V.int j) = decide (i = j) := by
  by_cases h : i = j
  · subst h; simp
  · rw [decide_eq_false h, decide_eq_false (fun z => h (V.int.inj z))]
theorem dec_s {i j : Str} : decide (V.str i = V.str j) = decide (i = j) := by
  by_cases h : i = j
  · subst h; simp
  · rw [decide_eq_false h, decide_eq_false (fun z => h (V.str.inj z))]
theorem o_eq (hu : X.A.units + 64 < cLine) : OpR X (compareOp .Eq) (rD2 (ct X) gEq) := by
  intro pins s σ H x y v u Q I rx ry ⟨μ, S, dx, dy, Qd, w, r1, r2, hg, q⟩
  unfold gEq gEqB at hg
  split at hg
  · cases r1.int_inv
    cases r2.int_inv
    refine op_eq pins s σ H _ _ v u Q I rx ry ⟨rfl, ?_⟩
    rw [dec_i]
    exact q.same w (.bl _) hg
  · cases r1.str_inv
    cases r2.str_inv
    refine op_eq pins s σ H _ _ v u Q I rx ry ⟨rfl, ?_⟩
    rw [dec_s]
    exact q.same w (.bl _) hg
  · obtain ⟨p, e1, hg⟩ := onSome_of hg
    obtain ⟨p', e2, ⟨s1, s2⟩, hg⟩ := onSome_of hg
    obtain ⟨as, h1⟩ := w.reads I r1 rx e1
    obtain ⟨bs, h2⟩ := w.reads I r2 ry e2
    exact SeqAt.compareEq_shaped h1 h2 s1 s2 hu ⟨.bl _, H, I, rfl, q.same w (.bl _) hg⟩
theorem o_ne (hu : X.A.units + 64 < cLine) : OpR X (compareOp .NotEq) (rD2 (ct X) gNe) := by
  intro pins s σ H x y v u Q I rx ry ⟨μ, S, dx, dy, Qd, w, r1, r2, hg, q⟩
  unfold gNe gEqB at hg
  split at hg
  · cases r1.int_inv
    cases r2.int_inv
    refine op_ne pins s σ H _ _ v u Q I rx ry ⟨rfl, ?_⟩
    rw [dec_i]
    exact q.same w (.bl _) hg
  · cases r1.str_inv
    cases r2.str_inv
    refine op_ne pins s σ H _ _ v u Q I rx ry ⟨rfl, ?_⟩
    rw [dec_s]
    exact q.same w (.bl _) hg
  · obtain ⟨p, e1, hg⟩ := onSome_of hg
    obtain ⟨p', e2, ⟨s1, s2⟩, hg⟩ := onSome_of hg
    obtain ⟨as, h1⟩ := w.reads I r1 rx e1
    obtain ⟨bs, h2⟩ := w.reads I r2 ry e2
    exact SeqAt.compareNe_shaped h1 h2 s1 s2 hu ⟨.bl _, H, I, rfl, q.same w (.bl _) hg⟩
end
/-! ## is None -/
/-! ## isinstance of a built-in type -/
inductive Ty6 where
  | int | bool | tup | lst | str | dic
def Ty6.name : Ty6 → String
  | .int => "int"
  | .bool => "bool"
  | .tup => "tuple"
  | .lst => "list"
  | .str => "str"
  | .dic => "dict"
def isL : Ty6 → Bool
  | .lst => true
  | _ => false
def isA (t : Ty6) (S : Sto) : D → Option Bool
  | .non => some false
  | .bl _ => some (match t with | .int => true | .bool => true | _ => false)
  | .int _ => some (match t with | .int => true | _ => false)
  | .str _ => some (match t with | .str => true | _ => false)
  | .tup _ => some (match t with | .tup => true | _ => false)
  | .lst _ _ => some (match t with | .lst => true | _ => false)
  | .kls _ => none
  | .dic _ => some (match t with | .dic => true | _ => false)
  | .cell n => (lstAt S[n]?).map fun _ => isL t
  | .glo _ => none
  | .ty _ => none
  | .ins _ _ => none
  | .exc _ _ => none
def gIsi (t : Ty6) : D → Sto → QD → Prop := fun d S Q => onSome (isA t S d) fun b => Q (.bl b) S
def tyOf : D → String
  | .non => "NoneType"
  | .bl _ => "bool"
  | .int _ => "int"
  | .str _ => "str"
  | .tup _ => "tuple"
  | .dic _ => "dict"
  | _ => "list"
theorem isA_ty {c : Ct} {μ : Mu} {S : Sto} {H : Hp} {v : V} {d : D} {t : Ty6} {b : Bool} (w : Wd c μ S H) (h : Rp c μ H v d) (e : isA t S d = some b) : TyX c.K H v (.type (tyOf d)) ∧ PySem.W.kitOne c.K (.type (tyOf d)) (.type t.name) = some b := by
  cases h with
  | non => cases e; exact ⟨.base .non, by cases t <;> exact kit_ty (by dsimp only [tyOf]; decide +kernel)⟩
  | bl k => cases e; exact ⟨.base (.bl k), by cases t <;> exact kit_ty (by dsimp only [tyOf]; decide +kernel)⟩
  | int k => cases e; exact ⟨.base (.int k), by cases t <;> exact kit_ty (by dsimp only [tyOf]; decide +kernel)⟩
  | str k => cases e; exact ⟨.base (.str k), by cases t <;> exact kit_ty (by dsimp only [tyOf]; decide +kernel)⟩
  | tup hs _ => cases e; exact ⟨.base (.tup hs), by cases t <;> exact kit_ty (by dsimp only [tyOf]; decide +kernel)⟩
  | lst hs _ _ _ _ => cases e; exact ⟨.base (.lst hs), by cases t <;> exact kit_ty (by dsimp only [tyOf]; decide +kernel)⟩
  | dic hd _ _ => cases e; exact ⟨.base (.dK hd), by cases t <;> exact kit_ty (by dsimp only [tyOf]; decide +kernel)⟩
  | @cell n a hm =>
    obtain ⟨xs, e1, e2⟩ := Option.map_eq_some_iff.mp (show (lstAt S[n]?).map (fun _ => isL t) = some b from e)
    subst e2
    obtain ⟨vs, h1, _⟩ := w.ok n _ _ hm (lstAt_inv e1)
    exact ⟨.base (.lst h1), by cases t <;> exact kit_ty (by dsimp only [tyOf]; decide +kernel)⟩
  | _ => cases e
section
variable {X : Cx} {E : L2.St → XK} {a b : Expr} {fa : FE} {pos p2 : Pos}
theorem d_isi {t : Ty6} (hg : Gl X "isinstance") (hm : X.mg "isinstance" = none) (ha : PEd X E a fa) (hb : PE X b (tC (.ty t.name)))
    (hs1 : starEach [a, b] X.env = (false, eval a X.env) :: starEach [b] X.env := by rfl) (hs2 : starEach [b] X.env = (false, eval b X.env) :: starEach [] X.env := by rfl) (hf2 : (backTo pos (starEach [b] X.env)).any (·.1) = false := by rfl) :
    PEd X E (.Call (.Name "isinstance" p2) [a, b] [] pos) (dUn (gIsi t) fa) := by
  refine PE.imp (pe_callB call_isi hg hm (show bootBuiltins "isinstance" = some (.builtin "isinstance") by decide +kernel) (pa_cons ha (pa_cons hb pa_nil hs2) hs1) (by decide) (by decide) hs1 hf2) fun σ H Q ⟨μ, S, ρ, Qd, Ed, w, en, hf, q, px⟩ => ?_
  refine tR_of w en hf px fun x S1 v H1 μ1 h1 f1 w1 en1 px1 r1 => ?_
  obtain ⟨k, e, hq⟩ := onSome_of h1
  obtain ⟨t1, t2⟩ := isA_ty w1 r1 e
  exact ⟨v, _, _, _, k, rfl, .ty _, t1, t2, q _ S1 _ H1 μ1 hq f1 w1 (.bl k)⟩
end
end Pu
namespace Pu
open PySem PySem.Spec PyProof.Rows L2
section
variable {c : Ct} {μ : Mu} {S : Sto} {H : Hp}
theorem RpAll.one {vs : List V} {d : D} (h : RpAll c μ H vs [d]) : ∃ v, vs = [v] ∧ Rp c μ H v d := by
  cases h with
  | cons h1 h2 => cases h2; exact ⟨_, rfl, h1⟩
theorem RpAll.two {vs : List V} {d e : D} (h : RpAll c μ H vs [d, e]) : ∃ v u, vs = [v, u] ∧ Rp c μ H v d ∧ Rp c μ H u e := by
  cases h with
  | cons h1 h2 =>
    obtain ⟨u, rfl, h3⟩ := h2.one
    exact ⟨_, _, rfl, h1, h3⟩
theorem Rp.seq2 {v : V} {d : D} {xs : List D} (w : Wd c μ S H) (r : Rp c μ H v d) (e : seqOf S d = some xs) : (∃ a vs, d = .tup xs ∧ v = .ref a ∧ H a = some (.tup vs) ∧ RpAll c μ H vs xs) ∨ ∃ a vs, v = .ref a ∧ SqL c.K H a vs ∧ RpAll c μ H vs xs := by
  cases r with
  | tup h ra => cases e; exact .inl ⟨_, _, rfl, rfl, h, ra⟩
  | lst h _ _ _ ra => cases e; exact .inr ⟨_, _, rfl, SqL.of h, ra⟩
  | kls h _ _ ra => cases e; exact .inr ⟨_, _, rfl, .inl h, ra⟩
  | klsK o its n h1 h2 h3 h4 h5 h6 ra => cases e; exact .inr ⟨_, _, rfl, .inr ⟨o, its, n, h1, h2, h3, h4, h5, h6⟩, ra⟩
  | @cell n a hm =>
    obtain ⟨vs, h1, h2⟩ := w.ok n _ _ hm (lstAt_inv e)
    exact .inr ⟨_, vs, rfl, SqL.of h1, h2⟩
  | _ => cases e
end
/-! ## len, abs, int, sum, min, max, tuple, list, str, sorted -/
def gLen : List D → Sto → QD → Prop := fun ds S Q => match ds with
  | [.str x] => x.length ≤ sizeLine ∧ Q (.int x.length) S
  | [.dic ps] => Q (.int ps.length) S
  | [d] => onSome (seqOf S d) fun xs => Q (.int xs.length) S
  | _ => False
def gAbs : List D → Sto → QD → Prop := fun ds S Q => match ds with
  | [.int i] => Q (.int (if i < 0 then -i else i)) S
  | _ => False
def gToInt : List D → Sto → QD → Prop := fun ds S Q => match ds with
  | [.int i] => Q (.int i) S
  | [.bl b] => Q (.int (if b then 1 else 0)) S
  | _ => False
/-- the first greatest, the first least -/
def maxL : List Int → Int
  | [] => 0
  | [x] => x
  | x :: xs => max x (maxL xs)
theorem maxL_spec : ∀ {ns : List Int}, ns ≠ [] → maxL ns ∈ ns ∧ ∀ y ∈ ns, y ≤ maxL ns
  | [], h => absurd rfl h
  | [x], _ => ⟨List.mem_cons_self, fun y hy => by rw [List.mem_singleton.mp hy]; exact Int.le_refl _⟩
  | x :: y :: r, _ => by
    obtain ⟨h1, h2⟩ := maxL_spec (ns := y :: r) (fun z => nomatch z)
    have e : maxL (x :: y :: r) = max x (maxL (y :: r)) := rfl
    rw [e]
    refine ⟨?_, fun z hz => ?_⟩
    · rcases Int.le_total x (maxL (y :: r)) with h | h
      · rw [Int.max_eq_right h]; exact List.mem_cons_of_mem _ h1
      · rw [Int.max_eq_left h]; exact List.mem_cons_self
    · rcases List.mem_cons.mp hz with rfl | hz
      · exact Int.le_max_left _ _
      · exact Int.le_trans (h2 z hz) (Int.le_max_right _ _)
def gTuple : List D → Sto → QD → Prop := fun ds S Q => match ds with
  | [d] => onSome (seqOf S d) fun xs => Q (.tup xs) S
  | _ => False
section
variable {X : Cx}
theorem c_len : CallR X (.builtin "len") (rDs (ct X) gLen) := by
  intro pins s σ H vs us Q I r ⟨μ, S, ds, Qd, w, ra, hg, q⟩
  unfold gLen at hg
  split at hg
  · obtain ⟨v, rfl, rv⟩ := ra.one
    cases rv.str_inv
    exact call_len pins s σ H _ us Q I r ⟨_, _, rfl, ⟨hg.1, rfl⟩, q.same w (.int _) hg.2⟩
  · obtain ⟨v, rfl, rv⟩ := ra.one
    cases rv with
    | dic hd _ _ =>
      refine call_lenD pins s σ H _ us Q I r ⟨_, _, rfl, hd, ?_⟩
      rw [show (Rb.dicV _).length = _ from List.length_map ..]
      exact q.same w (.int _) hg
  · obtain ⟨v, rfl, rv⟩ := ra.one
    obtain ⟨xs, e, hg⟩ := onSome_of hg
    obtain ⟨a, ws, rfl, hs, rs⟩ := rv.seq w e
    refine call_len_seq pins s σ H _ us Q I r ⟨a, ws, rfl, hs, ?_⟩
    rw [rs.length]
    exact q.same w (.int _) hg
  · exact hg.elim
theorem c_abs : CallR X (.builtin "abs") (rDs (ct X) gAbs) := by
  intro pins s σ H vs us Q I r ⟨μ, S, ds, Qd, w, ra, hg, q⟩
  unfold gAbs at hg
  split at hg
  · obtain ⟨v, rfl, rv⟩ := ra.one
    cases rv.int_inv
    exact call_abs pins s σ H _ us Q I r ⟨_, rfl, q.same w (.int _) hg⟩
  · exact hg.elim
theorem c_int : CallR X (.type "int") (rDs (ct X) gToInt) := by
  intro pins s σ H vs us Q I r ⟨μ, S, ds, Qd, w, ra, hg, q⟩
  unfold gToInt at hg
  split at hg
  · obtain ⟨v, rfl, rv⟩ := ra.one
    cases rv.int_inv
    exact call_int1 pins s σ H _ us Q I r (.inl ⟨_, rfl, q.same w (.int _) hg⟩)
  · obtain ⟨v, rfl, rv⟩ := ra.one
    cases rv.bl_inv
    exact call_int1 pins s σ H _ us Q I r (.inr ⟨_, rfl, q.same w (.int _) hg⟩)
  · exact hg.elim
theorem c_tuple : CallR X (.type "tuple") (rDs (ct X) gTuple) := by
  intro pins s σ H vs us Q I r ⟨μ, S, ds, Qd, w, ra, hg, q⟩
  unfold gTuple at hg
  split at hg
  · rename_i d
    obtain ⟨v, rfl, rv⟩ := ra.one
    obtain ⟨xs, e, hg⟩ := onSome_of hg
    rcases rv.seq2 w e with ⟨a, ws, rfl, rfl, ha, rs⟩ | ⟨a, ws, rfl, hs, rs⟩
    · exact call_tuple_of pins s σ H _ us Q I r ⟨a, ws, rfl, .inr ⟨SqT.of ha, q.same w (.tup ha rs) hg⟩⟩
    · exact call_tuple_of pins s σ H _ us Q I r ⟨a, ws, rfl, .inl ⟨hs, fun p hp => q.tup w rs hg hp⟩⟩
  · exact hg.elim
theorem PostV.lay {c : Ct} {μ : Mu} {S : Sto} {H : Hp} {Qd : QD} {Q : VK} (q : PostV c μ H Qd Q) (w : Wd c μ S H) {vs : List V} {ds : List D} (r : RpAll c μ H vs ds) (h : Qd (.cell S.length) (S ++ [.lst ds])) {p : Addr} (hp : H p = none) : Q (.ref p) (upd H p (.lst vs)) := by
  obtain ⟨f2, w2, r2⟩ := w.lay r hp
  exact q _ _ _ _ _ h f2 w2 r2
end
/-! ## sorted: ints, pairs of ints -/
end Pu
namespace Pu
open PySem PySem.Spec PyProof.Rows L2
/-! ## subscripts, slices, in -/
theorem atI_map {α β : Type} {R : α → β → Prop} {xs : List α} {ys : List β} (hl : xs.length = ys.length) (h : ∀ (i : Nat) y, ys[i]? = some y → ∃ x, xs[i]? = some x ∧ R x y) {i : Int} {y : β} (e : atI ys i = some y) : ∃ x, atI xs i = some x ∧ R x y := by
  unfold atI at e ⊢
  rw [hl]
  obtain ⟨j, e1, e2⟩ := Option.bind_eq_some_iff.mp e
  obtain ⟨x, e3, r⟩ := h j y e2
  exact ⟨x, by rw [e1]; exact e3, r⟩
def gIx : G2 := fun x y S Q => match x, y with
  | .str z, .int i => z.length ≤ sizeLine ∧ onSome (atI z.cps.toList i) fun c => Q (.str ⟨#[c]⟩) S
  | x, .int i => onSome (seqOf S x) fun xs => onSome (atI xs i) fun d => Q d S
  | _, _ => False
/-- the items of xs[lo:hi] -/
def cutD (xs : List D) (lo hi : Option Int) : List D := (xs.drop (HT.sIx xs.length 0 lo)).take (HT.sIx xs.length xs.length hi - HT.sIx xs.length 0 lo)
def gSl : D → Option Int → Option Int → Sto → QD → Prop := fun x lo hi S Q => match x with
  | .tup xs => Q (.tup (cutD xs lo hi)) S
  | .str z => z.length ≤ sizeLine ∧ Q (.str (cutS z lo hi)) S
  | x => onSome (seqOf S x) fun xs => Q (.lst false (cutD xs lo hi)) S
def rDsl (c : Ct) (g : D → Option Int → Option Int → Sto → QD → Prop) : V → Option Int → Option Int → Hp → VK → Prop := fun x lo hi H Q => ∃ μ S d Qd, Wd c μ S H ∧ Rp c μ H x d ∧ g d lo hi S Qd ∧ PostV c μ H Qd Q
def dSl (fe : FE) (fl fh : FO) : FE := fun ρ S Q Ed => fe ρ S (fun x S1 => fl ρ S1 (fun l S2 => fh ρ S2 (fun h S3 => gSl x l h S3 Q) Ed) Ed) Ed
def dPart (f : FE) : FO := fun ρ S Q Ed => f ρ S (fun d S1 => match d with | .int i => Q (some i) S1 | _ => False) Ed
def dNoP : FO := fun _ S Q _ => Q none S
section
variable {c : Ct} {μ : Mu} {S : Sto} {H : Hp}
theorem cutV_eq {vs : List V} {ds : List D} (r : RpAll c μ H vs ds) (lo hi : Option Int) : RpAll c μ H (cutV vs lo hi) (cutD ds lo hi) := by
  unfold cutV cutD
  rw [r.length]
  exact (r.drop _).take _
end
section
variable {X : Cx} {E : L2.St → XK} {a b e : Expr} {fa fb fe : FE} {lo hi : Option Expr} {fl fh : FO} {pos p2 : Pos}
theorem ix_D : IxR X (rD2 (ct X) gIx) := by
  intro value slice pins s σ H x y v u Q I rx ry ⟨μ, S, dx, dy, Qd, w, r1, r2, hg, q⟩ hs
  unfold gIx at hg
  split at hg
  · obtain ⟨hz, hg⟩ := hg
    obtain ⟨c, e, hg⟩ := onSome_of hg
    cases r1.str_inv
    cases r2.int_inv
    exact ix_str value slice pins s σ H _ _ v u Q I rx ry ⟨_, _, c, rfl, rfl, hz, e, q.same w (.str _) hg⟩ hs
  · obtain ⟨xs, e1, hg⟩ := onSome_of hg
    obtain ⟨d, e2, hg⟩ := onSome_of hg
    obtain ⟨a, ws, rfl, hq, rs⟩ := r1.seq w e1
    cases r2.int_inv
    obtain ⟨z, e3, rz⟩ := atI_map rs.length (fun i y h => rs.at h) e2
    have fin := q.same w rz hg
    rcases hq with hq | hq
    · exact ix_list value slice pins s σ H _ _ v u Q I rx ry ⟨a, ws, _, z, rfl, rfl, hq, e3, fin⟩ hs
    · exact ix_tup value slice pins s σ H _ _ v u Q I rx ry ⟨a, ws, _, z, rfl, rfl, hq, e3, fin⟩ hs
  · exact hg.elim
theorem d_ix (ha : PEd X E a fa) (hb : PEd X E b fb) (hs : PlainIx b) : PEd X E (.Subscript a b pos) (dBin gIx fa fb) := PE.imp (pe_ix ix_D ha hb hs) fun _ _ _ h => tBin h
theorem sl_D : SlR X (rDsl (ct X) gSl) := by
  intro pins s σ H x v vl vu lo hi sl Q I rx hs pl pu ⟨μ, S, d, Qd, w, r1, hg, q⟩
  unfold gSl at hg
  split at hg
  · obtain ⟨a, ws, rfl, ha, rs⟩ := r1.tup_inv
    refine sl_tupA pins s σ H _ v vl vu lo hi sl Q I rx hs pl pu ⟨a, ws, rfl, SqT.of ha, fun hw => ?_, fun hw p hp => q.tup w (cutV_eq rs lo hi) hg hp⟩
    refine q.same w (.tup ha ?_) hg
    have : cutV ws lo hi = ws := by
      unfold cutV
      rw [hw.1, hw.2, List.drop_zero, Nat.sub_zero, List.take_length]
    rw [← this]
    exact cutV_eq rs lo hi
  · cases r1.str_inv
    exact sl_str pins s σ H _ v vl vu lo hi sl Q I rx hs pl pu ⟨_, rfl, hg.1, q.same w (.str _) hg.2⟩
  · rename_i hnt0 hnt1
    obtain ⟨xs, e1, hg⟩ := onSome_of hg
    rcases r1.seq2 w e1 with ⟨a, ws, rfl, rfl, ha, rs⟩ | ⟨a, ws, rfl, hq, rs⟩
    · exact absurd rfl (hnt0 _)
    · exact sl_list pins s σ H _ v vl vu lo hi sl Q I rx hs pl pu ⟨a, ws, rfl, hq, fun p hp => q.lst w (cutV_eq rs lo hi) hg hp⟩
theorem d_slice (he : PEd X E e fe) (hl : POd X E lo fl) (hh : POd X E hi fh) : PEd X E (.Subscript e (.Slice lo hi none p2) pos) (dSl fe fl fh) := by
  refine PE.imp (pe_slice sl_D he hl hh) fun σ H Q ⟨μ, S, ρ, Qd, Ed, w, en, hf, q, px⟩ => ?_
  refine tR_of w en hf px fun x S1 v H1 μ1 h1 f1 w1 en1 px1 r1 => ?_
  refine tR_of w1 en1 h1 px1 fun l S2 l' H2 μ2 h2 f2 w2 en2 px2 r2 => ?_
  cases (r2 : l' = l)
  refine tR_of w2 en2 h2 px2 fun h S3 h' H3 μ3 h3 f3 w3 en3 px3 r3 => ?_
  cases (r3 : h' = h)
  exact ⟨μ3, S3, x, Qd, w3, (r1.fw w1 f2).fw w2 f3, h3, fun d S' v' H' μ' h f w' r => q d S' v' H' μ' h (f1.trans (f2.trans (f3.trans f))) w' r⟩
theorem d_noP : POd X E none dNoP := PO.imp po_none fun σ H Q ⟨μ, S, ρ, Qd, Ed, w, en, hf, q, px⟩ => q none S none H μ hf Fw.refl w rfl
theorem d_part (he : PEd X E e fe) : POd X E (some e) (dPart fe) := by
  refine PO.imp (po_some he) fun σ H Q ⟨μ, S, ρ, Qd, Ed, w, en, hf, q, px⟩ => ?_
  refine tR_of w en hf px fun x S1 v H1 μ1 h1 f1 w1 en1 px1 r1 => ?_
  split at h1
  · exact ⟨_, r1.int_inv, q _ S1 _ H1 μ1 h1 f1 w1 rfl⟩
  · exact h1.elim
end
/-! ## methods of lists -/
abbrev GM := D → List D → Sto → QD → Prop
def dML (g : GM) (fo : FE) (fa : FA) : FE := fun ρ S Q Ed => fo ρ S (fun x S1 => onSome (cellOf S1 x) fun _ => fa ρ S1 (fun ds S2 => g x ds S2 Q) Ed) Ed
def gAppend : GM := fun x ds S Q => match ds with
  | [d] => onSome (cellOf S x) fun nx => nx.2.length < sizeLine ∧ Q .non (S.set nx.1 (.lst (nx.2 ++ [d])))
  | _ => False
section
variable {X : Cx} {E : L2.St → XK} {o e : Expr} {es : List Expr} {fo : FE} {fa : FA} {name : Str} {id : String} {apos cpos : Pos}
theorem d_ml {g : GM} (slot : Slot "list" name id) (hty : typeOf (.builtin id) = pure (.type "method_descriptor")) (hm : MtR X id (rDm (ct X) g)) (ho : PEd X E o fo) (ha : PAd X E (e :: es) fa)
    (hbase : attributeBase o name X.env (eval o X.env) = eval o X.env := by rfl)
    (hfew : ((backTo cpos (starEach (e :: es) X.env)).all (fun x => !x.1) && (backToKw cpos (keywordEach [] X.env)).all (fun x => x.1.isSome)
      && decide ((e :: es).length + ([] : List Keyword).length + (if ([] : List Keyword).isEmpty then 0 else 1) < 30)) = true := by rfl)
    (hline : (apos.endLine == cpos.line) = true := by rfl) (hs : starEach (e :: es) X.env = (false, eval e X.env) :: starEach es X.env := by rfl) (hplain : (backTo cpos (starEach es X.env)).any (·.1) = false := by rfl) :
    PEd X E (.Call (.Attribute o name apos) (e :: es) [] cpos) (dML g fo fa) := by
  refine PE.imp (pe_bm PySem.F.plainAttrs_list slot hty hm ho ha hbase hfew hline hs hplain) fun σ H Q ⟨μ, S, ρ, Qd, Ed, w, en, hf, q, px⟩ => ?_
  refine tR_of w en hf px fun x S1 v H1 μ1 h1 f1 w1 en1 px1 r1 => ?_
  obtain ⟨nx, e1, h1⟩ := onSome_of h1
  obtain ⟨a, vs, rfl, hm', ha', ra⟩ := w1.cellL r1 e1
  refine ⟨.inl ⟨rfl, vs, SqL.of ha'⟩, ?_⟩
  refine tR_of w1 en1 h1 px1 fun ds S2 us H2 μ2 h2 f2 w2 en2 px2 r2 => ?_
  exact ⟨μ2, S2, x, ds, Qd, w2, r1.fw w1 f2, r2, h2, fun d S' v' H' μ' h f w' r => q d S' v' H' μ' h (f1.trans (f2.trans f)) w' r⟩
theorem m_append : MtR X "list.append" (rDm (ct X) gAppend) := by
  intro pins s σ H x xs v us Q I rx rs ⟨μ, S, d, ds, Qd, w, r1, ra, hg, q⟩
  unfold gAppend at hg
  split at hg
  · obtain ⟨y, rfl, ry⟩ := ra.one
    obtain ⟨⟨n, zs⟩, e, hz, hg⟩ := onSome_of hg
    obtain ⟨a, vs, rfl, hm, ha, rz⟩ := w.cellL r1 e
    exact mt_append pins s σ H _ _ v us Q I rx rs ⟨a, vs, y, rfl, rfl, ha, by rw [rz.length]; exact hz, q.cell w hm (rz.append (.cons ry .nil)) .non hg⟩
  · exact hg.elim
end
end Pu
namespace Pu
open PySem PySem.Spec PyProof.Rows L2
/-! ## statements -/
structure EndsOk (c : Ct) (μ : Mu) (H : Hp) (De : DEnds) (D : Ends) : Prop where
  nx : ∀ ρ' S' σ' H' μ', De.nx ρ' S' → Fw μ H μ' H' → Wd c μ' S' H' → EnvR c μ' H' σ' ρ' → D.nx σ' H'
  rt : PostV c μ H De.rt D.rt
  bk : ∀ ρ' S' σ' H' μ', De.bk ρ' S' → Fw μ H μ' H' → Wd c μ' S' H' → EnvR c μ' H' σ' ρ' → D.bk σ' H'
  ct : ∀ ρ' S' σ' H' μ', De.ct ρ' S' → Fw μ H μ' H' → Wd c μ' S' H' → EnvR c μ' H' σ' ρ' → D.ct σ' H'
theorem PostV.fw {c : Ct} {μ μ' : Mu} {H H' : Hp} {Qd : QD} {Q : VK} (q : PostV c μ H Qd Q) (f : Fw μ H μ' H') : PostV c μ' H' Qd Q := fun d S' v H2 μ2 h g w r => q d S' v H2 μ2 h (f.trans g) w r
theorem EndsOk.fw {c : Ct} {μ μ' : Mu} {H H' : Hp} {De : DEnds} {D : Ends} (k : EndsOk c μ H De D) (f : Fw μ H μ' H') : EndsOk c μ' H' De D :=
  ⟨fun ρ S σ H2 μ2 h g w e => k.nx ρ S σ H2 μ2 h (f.trans g) w e, k.rt.fw f, fun ρ S σ H2 μ2 h g w e => k.bk ρ S σ H2 μ2 h (f.trans g) w e, fun ρ S σ H2 μ2 h g w e => k.ct ρ S σ H2 μ2 h (f.trans g) w e⟩
def tS (c : Ct) (E : XK) (f : FS) : TS := fun D σ H => ∃ μ S ρ De Ed, Wd c μ S H ∧ EnvR c μ H σ ρ ∧ f ρ S De Ed ∧ EndsOk c μ H De D ∧ PX c μ H Ed E
abbrev PSd (X : Cx) (E : XK) (st : Stmt) (f : FS) : Prop := PS X st (tS (ct X) E f)
abbrev PBd (X : Cx) (E : XK) (sts : List Stmt) (f : FS) : Prop := PSs X sts (tS (ct X) E f)
def dSkip : FS := fun ρ S De _ => De.nx ρ S
def dSeq (f g : FS) : FS := fun ρ S De Ed => f ρ S { De with nx := fun ρ' S' => g ρ' S' De Ed } Ed
/-- a word between the two -/
def dCut (f g : FS) : FS := fun ρ S De Ed => ∃ Mid : Rho → Sto → Prop, f ρ S { De with nx := Mid } Ed ∧ ∀ ρ' S', Mid ρ' S' → g ρ' S' De Ed
def dDrop (f : FE) : FS := fun ρ S De Ed => f ρ S (fun _ S1 => De.nx ρ S1) Ed
def dRet (f : FE) : FS := fun ρ S De Ed => f ρ S De.rt Ed
def dIfS (t : FT) (f g : FS) : FS := fun ρ S De Ed => t ρ S (fun b S1 => if b = true then f ρ S1 De Ed else g ρ S1 De Ed) Ed
def dAsg (f : FE) (g : FG) : FS := fun ρ S De Ed => f ρ S (fun d S1 => g d ρ S1 De.nx Ed) Ed
section
variable {X : Cx} {E : XK} {st : Stmt} {rest : List Stmt} {f g : FS} {e : Expr} {fe : FE} {pos : Pos}
theorem d_end : PBd X E [] dSkip := PSs.imp pss_nil fun D σ H ⟨μ, S, ρ, De, Ed, w, en, hf, k, px⟩ => k.nx ρ S σ H μ hf Fw.refl w en
theorem d_seq (h1 : PSd X E st f) (h2 : PBd X E rest g) : PBd X E (st :: rest) (dSeq f g) := by
  refine PSs.imp (pss_cons h1 h2) fun D σ H ⟨μ, S, ρ, De, Ed, w, en, hf, k, px⟩ => ?_
  exact ⟨μ, S, ρ, _, Ed, w, en, hf, ⟨fun ρ' S' σ' H' μ' h fw w' en' => ⟨μ', S', ρ', De, Ed, w', en', h, k.fw fw, px.fw fw⟩, k.rt, k.bk, k.ct⟩, px⟩
theorem d_cut (h1 : PSd X E st f) (h2 : PBd X E rest g) : PBd X E (st :: rest) (dCut f g) := by
  refine PSs.imp (pss_cons h1 h2) fun D σ H ⟨μ, S, ρ, De, Ed, w, en, ⟨Mid, hf, hm⟩, k, px⟩ => ?_
  exact ⟨μ, S, ρ, _, Ed, w, en, hf, ⟨fun ρ' S' σ' H' μ' h fw w' en' => ⟨μ', S', ρ', De, Ed, w', en', hm ρ' S' h, k.fw fw, px.fw fw⟩, k.rt, k.bk, k.ct⟩, px⟩
theorem d_last (h1 : PSd X E st f) : PBd X E [st] f := pss_one h1
theorem d_expr (he : PEd X (cE E) e fe) (hs : swapsWith e none pos.line X.env = pure false := by rfl) : PSd X E (.Expr e pos) (dDrop fe) := by
  refine PS.imp (ps_expr he hs) fun D σ H ⟨μ, S, ρ, De, Ed, w, en, hf, k, px⟩ => ?_
  exact tR_of w en hf px fun x S1 v H1 μ1 h1 f1 w1 en1 px1 r1 => k.nx ρ S1 σ H1 μ1 h1 f1 w1 en1
theorem d_ret (he : PEd X (cE E) e fe) : PSd X E (.Return (some e) pos) (dRet fe) := by
  refine PS.imp (ps_ret he) fun D σ H ⟨μ, S, ρ, De, Ed, w, en, hf, k, px⟩ => ?_
  exact tR_of w en hf px fun x S1 v H1 μ1 h1 f1 w1 en1 px1 r1 => k.rt x S1 v H1 μ1 h1 f1 w1 r1
theorem d_if {c : Expr} {a b : List Stmt} {t : FT} (hc : PTd X (cE E) c t) (ha : PBd X E a f) (hb : PBd X E b g) : PSd X E (.If c a b pos) (dIfS t f g) := by
  refine PS.imp (ps_if hc ha hb) fun D σ H ⟨μ, S, ρ, De, Ed, w, en, hf, k, px⟩ => ?_
  refine tR_of w en hf px fun x S1 v H1 μ1 h1 f1 w1 en1 px1 r1 => ?_
  cases (r1 : v = x)
  split
  · rename_i hv
    rw [if_pos hv] at h1
    exact ⟨μ1, S1, ρ, De, Ed, w1, en1, h1, k.fw f1, px1⟩
  · rename_i hv
    rw [if_neg hv] at h1
    exact ⟨μ1, S1, ρ, De, Ed, w1, en1, h1, k.fw f1, px1⟩
end
/-! ## targets -/
def tG (c : Ct) (E : XK) (g : FG) : TG := fun v σ H Q => ∃ μ S ρ d Qd Ed, Wd c μ S H ∧ EnvR c μ H σ ρ ∧ Rp c μ H v d ∧ g d ρ S Qd Ed ∧ (∀ ρ' S' σ' H' μ', Qd ρ' S' → Fw μ H μ' H' → Wd c μ' S' H' → EnvR c μ' H' σ' ρ' → Q σ' H') ∧ PX c μ H Ed E
def tGs (c : Ct) (E : XK) (g : FGs) : TGs := fun vs σ H Q => ∃ μ S ρ ds Qd Ed, Wd c μ S H ∧ EnvR c μ H σ ρ ∧ RpAll c μ H vs ds ∧ g ds ρ S Qd Ed ∧ (∀ ρ' S' σ' H' μ', Qd ρ' S' → Fw μ H μ' H' → Wd c μ' S' H' → EnvR c μ' H' σ' ρ' → Q σ' H') ∧ PX c μ H Ed E
abbrev PGd (X : Cx) (E : XK) (tg : Expr) (g : FG) : Prop := PG X tg (tG (ct X) E g)
abbrev PGsd (X : Cx) (E : XK) (tgs : List Expr) (g : FGs) : Prop := PGs X tgs (tGs (ct X) E g)
/-- the slot i is filled, the list of slots written out -/
def setK : Rho → Nat → D → (Rho → Prop) → Prop
  | [], _, _, k => k []
  | _ :: r, 0, d, k => k (some d :: r)
  | x :: r, n + 1, d, k => setK r n d fun r' => k (x :: r')
theorem setK_eq : ∀ {ρ : Rho} {i : Nat} {d : D} {k : Rho → Prop}, setK ρ i d k → k (ρ.set i (some d))
  | [], _, _, _, h => h
  | _ :: r, 0, d, k, h => h
  | x :: r, n + 1, d, k, h => setK_eq (ρ := r) (i := n) (d := d) (k := fun r' => k (x :: r')) h
def gN (i : Nat) : FG := fun d ρ S Q _ => setK ρ i d fun ρ' => Q ρ' S
def gsNil : FGs := fun ds ρ S Q _ => match ds with
  | [] => Q ρ S
  | _ => False
def gsCons (g : FG) (gs : FGs) : FGs := fun ds ρ S Q Ed => match ds with
  | d :: r => g d ρ S (fun ρ1 S1 => gs r ρ1 S1 Q Ed) Ed
  | [] => False
def gUn (n : Nat) (gs : FGs) : FG := fun d ρ S Q Ed => onSome (lstOf S d) fun ds => ds.length = n ∧ gs ds ρ S Q Ed
/-- o[i] = .. -/
def gSetI (fo fi : FE) : FG := fun d ρ S Q Ed => fo ρ S (fun x S1 => fi ρ S1 (fun y S2 => match y with
  | .int k => onSome (cellOf S2 x) fun nx => onSome (ixN nx.2.length k) fun j => Q ρ (S2.set nx.1 (.lst (nx.2.set j d)))
  | _ => False) Ed) Ed
section
variable {X : Cx} {E : XK} {pos : Pos} {tg e o ie : Expr} {es : List Expr} {g : FG} {gs : FGs} {fe fo fi : FE}
theorem PGs.imp {t t' : TGs} (h : PGs X es t) (k : ∀ v σ H Q, t' v σ H Q → t v σ H Q) : PGs X es t' := ⟨fun pins s σ H v u Q I r q => h.run pins s σ H v u Q I r (k v σ H Q q)⟩
theorem d_gn {i : Nat} (h : PG X tg (gName i)) : PGd X E tg (gN i) :=
  PG.imp h fun v σ H Q ⟨μ, S, ρ, d, Qd, Ed, w, en, r, hg, q, px⟩ => q _ S _ H μ (setK_eq (k := fun ρ' => Qd ρ' S) hg) Fw.refl w (en.set r)
theorem d_gnil : PGsd X E [] gsNil := by
  refine PGs.imp pgs_nil fun vs σ H Q ⟨μ, S, ρ, ds, Qd, Ed, w, en, r, hg, q, px⟩ => ?_
  unfold gsNil at hg
  split at hg
  · cases r
    exact ⟨rfl, q ρ S σ H μ hg Fw.refl w en⟩
  · exact hg.elim
theorem d_gcons (h1 : PGd X E e g) (h2 : PGsd X E es gs) (hs : (assignEach (e :: es) X.env).map (·.2) = assign e X.env :: (assignEach es X.env).map (·.2) := by rfl) : PGsd X E (e :: es) (gsCons g gs) := by
  refine PGs.imp (pgs_cons h1 h2 hs) fun vs σ H Q ⟨μ, S, ρ, ds, Qd, Ed, w, en, r, hg, q, px⟩ => ?_
  unfold gsCons at hg
  split at hg
  · cases r with
    | cons r1 r2 =>
      refine ⟨_, _, rfl, μ, S, ρ, _, _, Ed, w, en, r1, hg, fun ρ1 S1 σ1 H1 μ1 h1 f1 w1 en1 => ?_, px⟩
      exact ⟨μ1, S1, ρ1, _, Qd, Ed, w1, en1, r2.fw w f1, h1, fun ρ2 S2 σ2 H2 μ2 h2 f2 w2 en2 => q ρ2 S2 σ2 H2 μ2 h2 (f1.trans f2) w2 en2, px.fw f1⟩
  · exact hg.elim
theorem d_gunl {k n : Nat} (hc : X.calm = true) (h : PGsd X E es gs) (hn : (assignEach es X.env).length = n := by rfl) (hst : (assignEach es X.env).findIdx? (·.1) = none := by rfl) : PGd X E (.Tuple es k pos) (gUn n gs) := by
  refine PG.imp (pg_unl hc h hn hst) fun v σ H Q ⟨μ, S, ρ, d, Qd, Ed, w, en, r, hg, q, px⟩ => ?_
  obtain ⟨ds, e, hl, hg⟩ := onSome_of hg
  obtain ⟨a, ws, rfl, ha, rs⟩ := r.lstT w e
  exact ⟨a, ws, rfl, SqL.of ha, by rw [rs.length]; exact hl, μ, S, ρ, _, Qd, Ed, w, en, rs, hg, q, px⟩
theorem d_gsub (ho : PEd X (cE E) o fo) (hi : PEd X (cE E) ie fi)
    (ha : ∀ v, assign (.Subscript o ie pos) X.env v = (do
      let ov ← holding [v] (eval o X.env)
      let iv ← holding [v, ov] (eval ie X.env)
      standAt pos
      holding [v, ov, iv] (setItem ov iv v)
      release [v, ov, iv] []) := by intro _; rfl) : PGd X E (.Subscript o ie pos) (gSetI fo fi) := by
  refine PG.imp (pg_sub ho hi set_list ha) fun v σ H Q ⟨μ, S, ρ, d, Qd, Ed, w, en, r, hg, q, px⟩ => ?_
  refine tR_of w en hg px fun x S1 vx H1 μ1 h1 f1 w1 en1 px1 r1 => ?_
  refine tR_of w1 en1 h1 px1 fun y S2 vy H2 μ2 h2 f2 w2 en2 px2 r2 => ?_
  split at h2
  · obtain ⟨⟨n, zs⟩, e, h2⟩ := onSome_of h2
    obtain ⟨j, e2, h2⟩ := onSome_of h2
    obtain ⟨a, vs, rfl, hm, hl, rz⟩ := w2.cellL (r1.fw w1 f2) e
    have fw : Fw μ2 H2 μ2 (upd H2 a (.lst (vs.set j v))) := Fw.write (List.mem_of_getElem? hm)
    have rd := ((r.fw w f1).fw w1 f2)
    refine ⟨a, vs, _, j, rfl, r2.int_inv, hl, by rw [rz.length]; exact e2, ?_⟩
    exact q ρ _ σ _ μ2 h2 (f1.trans (f2.trans fw)) (w2.set hm ⟨_, upd_same, (rz.set rd j).fw w2 fw⟩) (en2.fw w2 fw)
  · exact h2.elim
theorem d_asg (he : PEd X (cE E) e fe) (hg : PGd X E tg g) (hs : swapsWithSole [tg] e pos.line X.env = pure false := by rfl) (hw : swappedStores [tg] e X.env = pure none := by rfl)
    (h1 : (assignEach [tg] X.env).map (·.2) = [assign tg X.env] := by rfl) : PSd X E (.Assign [tg] e pos) (dAsg fe g) := by
  refine PS.imp (ps_asg he hg hs hw h1) fun D σ H ⟨μ, S, ρ, De, Ed, w, en, hf, k, px⟩ => ?_
  refine tR_of w en hf px fun x S1 v H1 μ1 h1 f1 w1 en1 px1 r1 => ?_
  exact ⟨μ1, S1, ρ, x, _, Ed, w1, en1, r1, h1, fun ρ2 S2 σ2 H2 μ2 h2 f2 w2 en2 => k.nx ρ2 S2 σ2 H2 μ2 h2 (f1.trans f2) w2 en2, px1⟩
theorem d_set {i : Nat} {x : Str} {pos' : Pos} (hN : X.N.Nodup) (hi : X.N[i]? = some x) (hx : Loc X.env.scope x) (he : PEd X (cE E) e fe) (hs : swapsWith e (some (.Name x pos')) pos.line X.env = pure false := by rfl)
    (hf : X.fn x = true ∨ X.env.scope.names.lookup x = some .local := by first | exact .inl rfl | exact .inr rfl | assumption) : PSd X E (.Assign [.Name x pos'] e pos) (dAsg fe (gN i)) := by
  refine PS.imp (ps_set hN hi hx he hs hf) fun D σ H ⟨μ, S, ρ, De, Ed, w, en, hf, k, px⟩ => ?_
  refine tR_of w en hf px fun x S1 v H1 μ1 h1 f1 w1 en1 px1 r1 => ?_
  exact k.nx _ S1 _ H1 μ1 (setK_eq (k := fun ρ' => De.nx ρ' S1) h1) f1 w1 (en1.set r1)
end
/-- a, b = x, y -/
def dPar (i j : Nat) (fa : FA) : FS := fun ρ S De Ed => fa ρ S (fun ds S1 => match ds with
  | [d, e] => setK ρ i d fun ρ1 => setK ρ1 j e fun ρ2 => De.nx ρ2 S1
  | _ => False) Ed
section
variable {X : Cx} {E : XK} {pos : Pos} {a b c : Expr} {fa : FA}
theorem d_par {i j : Nat} {x y : Str} {px py pt : Pos} {kt k2 pt2} (hc : X.calm = true) (hN : X.N.Nodup) (hi : X.N[i]? = some x) (hj : X.N[j]? = some y) (hij : i ≠ j)
    (hx : X.env.scope.names.lookup x = some .local) (hy : X.env.scope.names.lookup y = some .local) (ha : PAd X (cE E) [a, b] fa)
    (hw : swappedStores [.Tuple [.Name x px, .Name y py] kt pt] (.Tuple [a, b] k2 pt2) X.env = pure (some [x, y]))
    (hs : swapsWithSole [.Tuple [.Name x px, .Name y py] kt pt] (.Tuple [a, b] k2 pt2) pos.line X.env = pure false := by rfl) :
    PSd X E (.Assign [.Tuple [.Name x px, .Name y py] kt pt] (.Tuple [a, b] k2 pt2) pos) (dPar i j fa) := by
  refine PS.imp (ps_par hc hN hi hj hij hx hy ha hw hs) fun D σ H ⟨μ, S, ρ, De, Ed, w, en, hf, k, px⟩ => ?_
  refine tR_of w en hf px fun ds S1 vs H1 μ1 h1 f1 w1 en1 px1 r1 => ?_
  split at h1
  · obtain ⟨u, v, rfl, ru, rv⟩ := r1.two
    exact ⟨u, v, rfl, k.nx _ S1 _ H1 μ1 (setK_eq (k := fun ρ2 => De.nx ρ2 S1) (setK_eq (k := fun ρ1 => setK ρ1 _ _ fun ρ2 => De.nx ρ2 S1) h1)) f1 w1 ((en1.set ru).set rv)⟩
  · exact h1.elim
end
end Pu
namespace Pu
open PySem PySem.Spec PyProof.Rows L2
/-! ## what a loop walks: its items, the cells that must stay as they are -/
abbrev Src := List (Nat × List D)
def srcOk : Src → Sto → Prop → Prop
  | [], _, P => P
  | (n, xs) :: r, S, P => S[n]? = some (.lst xs) ∧ srcOk r S P
theorem srcOk_iff {src : Src} {S : Sto} {P : Prop} : srcOk src S P ↔ (∀ p ∈ src, S[p.1]? = some (.lst p.2)) ∧ P := by
  induction src with
  | nil => exact ⟨fun h => ⟨(fun _ z => nomatch z), h⟩, fun h => h.2⟩
  | cons p r ih =>
    obtain ⟨n, xs⟩ := p
    constructor
    · rintro ⟨h1, h2⟩
      obtain ⟨h3, h4⟩ := ih.mp h2
      refine ⟨fun q hq => ?_, h4⟩
      rcases List.mem_cons.mp hq with rfl | hq
      · exact h1
      · exact h3 q hq
    · rintro ⟨h1, h2⟩
      exact ⟨h1 _ List.mem_cons_self, ih.mpr ⟨fun q hq => h1 q (List.mem_cons_of_mem _ hq), h2⟩⟩
def src1 (n : Nat) : Option (List D) → Src
  | some xs => [(n, xs)]
  | none => []
def srcOf (S : Sto) : D → Src
  | .cell n => src1 n (lstAt S[n]?)
  | _ => []
theorem srcOf_seq {S S' : Sto} {d : D} {xs : List D} (e : seqOf S d = some xs) (h : ∀ p ∈ srcOf S d, S'[p.1]? = some (.lst p.2)) : seqOf S' d = some xs := by
  cases d with
  | cell n =>
    have e' : lstAt S[n]? = some xs := e
    have h1 : srcOf S (.cell n) = [(n, xs)] := by show src1 n (lstAt S[n]?) = _; rw [e']; rfl
    rw [h1] at h
    have := h (n, xs) List.mem_cons_self
    show lstAt S'[n]? = some xs
    rw [this]
    rfl
  | _ => exact e
structure ItOk (c : Ct) (J : It) (items : List D) (src : Src) (Anc : Mu → Hp → Prop) : Prop where
  keep : ∀ {μ H μ' H'}, Anc μ H → Kp c μ H μ' H' → Anc μ' H'
  go : ∀ {μ S H}, Anc μ H → Wd c μ S H → (∀ p ∈ src, S[p.1]? = some (.lst p.2)) → ∀ (i : Nat) (d : D), items[i]? = some d → J.go i H ∧ ∀ x H', J.yld i H x H' → Fw μ H μ H' ∧ Wd c μ S H' ∧ Rp c μ H' x d
  stop : ∀ {μ S H}, Anc μ H → Wd c μ S H → (∀ p ∈ src, S[p.1]? = some (.lst p.2)) → J.stop items.length H
abbrev FI := FX (List D × Src)
def tI (c : Ct) (E : L2.St → XK) (fi : FI) : TI := fun σ H R => ∃ μ S ρ Qi Ed, Wd c μ S H ∧ EnvR c μ H σ ρ ∧ fi ρ S Qi Ed ∧
  (∀ is S' H' μ' J Anc, Qi is S' → Fw μ H μ' H' → Wd c μ' S' H' → ItOk c J is.1 is.2 Anc → Anc μ' H' → (∀ p ∈ is.2, S'[p.1]? = some (.lst p.2)) → R J H') ∧ PX c μ H Ed (E σ)
abbrev PId (X : Cx) (E : L2.St → XK) (tg e : Expr) (fi : FI) : Prop := PI X tg e (tI (ct X) E fi)
theorem PI.imp {X : Cx} {tg e : Expr} {t t' : TI} (h : PI X tg e t) (k : ∀ σ H R, t' σ H R → t σ H R) : PI X tg e t' := ⟨fun pins s σ H R I q => h.run pins s σ H R I (k σ H R q)⟩
theorem srcOf_ok {S : Sto} {d : D} {xs : List D} (e : seqOf S d = some xs) : ∀ p ∈ srcOf S d, S[p.1]? = some (.lst p.2) := by
  intro p hp
  cases d with
  | cell n =>
    have e' : lstAt S[n]? = some xs := e
    have h1 : srcOf S (.cell n) = [(n, xs)] := by show src1 n (lstAt S[n]?) = _; rw [e']; rfl
    rw [h1] at hp
    cases List.mem_singleton.mp hp
    exact lstAt_inv e'
  | _ => cases hp
/-! ### a list or a tuple -/
def iSeq (K : PySem.W.Frag) (tl : TE) : TI := fun σ H R => tl σ H fun x H1 => ∃ a, x = .ref a ∧ (((∃ xs, SqL K H1 a xs) ∧ R (Itl K a) H1) ∨ ((∃ xs, SqT K H1 a xs) ∧ R (Itt K a) H1))
section
variable {X : Cx} {E : L2.St → XK} {tg e : Expr} {fe : FE} {fa : FA}
theorem pi_seq {tl : TE} (hl : PE X e tl) : PI X tg e (iSeq X.K tl) := by
  constructor
  intro pins s σ H R I h
  refine thn (hl.run pins s σ H _ I h) fun v s1 hv => ?_
  obtain ⟨x, H1, I1, r1, a, rfl, q⟩ := hv
  cases r1
  have own : ∀ b, b ∈ [s1.heap.objs.size] → FpOk X pins H1 b := fun b hb => by
    rw [List.mem_singleton.mp hb]
    exact I1.fpOk (Nat.le_refl _) (I1.hok.fresh (Nat.le_refl _))
  rcases q with ⟨⟨xs, hq⟩, q⟩ | ⟨⟨xs, hq⟩, q⟩
  · obtain ⟨its, rv, pl, _⟩ := I1.list hq
    exact wpAny_pyIter_list pl.isList
      ⟨_, _, _, _, H1, rfl, I1.kept (t' := s1.toks) (fun b o eb => Heap.get?_push_of_some _ eb), turn_list a _, ⟨_, Heap.get?_push_size _ rfl, rfl, rfl⟩, own, q⟩
  · obtain ⟨its, rv, pl, _⟩ := I1.tuple hq
    exact wpAny_pyIter_tuple (Rb.isTup_isTuple pl)
      ⟨_, _, _, _, H1, rfl, I1.kept (t' := s1.toks) (fun b o eb => Heap.get?_push_of_some _ eb), turn_tuple a _, ⟨_, Heap.get?_push_size _ rfl, rfl, rfl⟩, own, q⟩
def dItS (fe : FE) : FI := fun ρ S Q Ed => fe ρ S (fun d S1 => onSome (seqOf S1 d) fun xs => Q (xs, srcOf S1 d) S1) Ed
theorem itl_ok {c : Ct} {S0 : Sto} {a : Addr} {d : D} {xs : List D} (hn : ∀ ys, d ≠ .tup ys) (e : seqOf S0 d = some xs) : ItOk c (Itl c.K a) xs (srcOf S0 d) (fun μ H => Rp c μ H (.ref a) d) where
  keep := fun r k => r.kp k
  go := fun {μ S H} r w hs i x hx => by
    rcases r.seq2 w (srcOf_seq e hs) with ⟨_, _, rfl, _⟩ | ⟨b, vs, eb, hq, rs⟩
    · exact absurd rfl (hn _)
    cases eb
    obtain ⟨v, ev, rv⟩ := rs.at hx
    refine ⟨⟨vs, v, hq, ev⟩, fun y H' hy => ?_⟩
    obtain ⟨rfl, hy⟩ := hy
    have := hy vs hq
    rw [ev] at this
    cases this
    exact ⟨Fw.refl, w, rv⟩
  stop := fun {μ S H} r w hs => by
    rcases r.seq2 w (srcOf_seq e hs) with ⟨_, _, rfl, _⟩ | ⟨b, vs, eb, hq, rs⟩
    · exact absurd rfl (hn _)
    cases eb
    exact ⟨vs, hq, by rw [rs.length]; exact Nat.le_refl _⟩
theorem itt_ok {c : Ct} {a : Addr} {xs : List D} : ItOk c (Itt c.K a) xs [] (fun μ H => Rp c μ H (.ref a) (.tup xs)) where
  keep := fun r k => r.kp k
  go := fun {μ S H} r w hs i x hx => by
    obtain ⟨b, vs, eb, ha, rs⟩ := r.tup_inv
    cases eb
    obtain ⟨v, ev, rv⟩ := rs.at hx
    refine ⟨⟨vs, v, SqT.of ha, ev⟩, fun y H' hy => ?_⟩
    obtain ⟨rfl, hy⟩ := hy
    have := hy vs (SqT.of ha)
    rw [ev] at this
    cases this
    exact ⟨Fw.refl, w, rv⟩
  stop := fun {μ S H} r w hs => by
    obtain ⟨b, vs, eb, ha, rs⟩ := r.tup_inv
    cases eb
    exact ⟨vs, SqT.of ha, by rw [rs.length]; exact Nat.le_refl _⟩
theorem d_iseq (he : PEd X E e fe) : PId X E tg e (dItS fe) := by
  refine PI.imp (pi_seq he) fun σ H R ⟨μ, S, ρ, Qi, Ed, w, en, hf, q, px⟩ => ?_
  refine tR_of w en hf px fun d S1 v H1 μ1 h1 f1 w1 en1 px1 r1 => ?_
  obtain ⟨xs, e1, hq⟩ := onSome_of h1
  rcases r1.seq2 w1 e1 with ⟨a, vs, rfl, rfl, ha, rs⟩ | ⟨a, vs, rfl, hs, rs⟩
  · exact ⟨a, rfl, .inr ⟨⟨vs, SqT.of ha⟩, q _ S1 H1 μ1 _ _ hq f1 w1 itt_ok r1 (fun _ z => nomatch z)⟩⟩
  · by_cases ht : ∃ ys, d = .tup ys
    · obtain ⟨ys, rfl⟩ := ht
      cases e1
      obtain ⟨b, ws, eb, hb, rs'⟩ := r1.tup_inv
      cases eb
      exact ⟨a, rfl, .inr ⟨⟨ws, SqT.of hb⟩, q _ S1 H1 μ1 _ _ hq f1 w1 itt_ok r1 (fun _ z => nomatch z)⟩⟩
    · exact ⟨a, rfl, .inl ⟨⟨vs, hs⟩, q _ S1 H1 μ1 _ _ hq f1 w1 (itl_ok (fun ys z => ht ⟨ys, z⟩) e1) r1 (srcOf_ok e1)⟩⟩
/-! ### range -/
def rangeD (lo : Int) (n : Nat) : List D := (List.range n).map fun i : Nat => D.int (lo + (i : Int))
theorem rangeD_get {lo : Int} {n i : Nat} {d : D} (h : (rangeD lo n)[i]? = some d) : i < n ∧ d = .int (lo + (i : Int)) := by
  unfold rangeD at h
  rw [List.getElem?_map] at h
  obtain ⟨j, e1, rfl⟩ := Option.map_eq_some_iff.mp h
  obtain ⟨h1, h2⟩ := List.getElem?_eq_some_iff.mp e1
  rw [List.getElem_range] at h2
  rw [List.length_range] at h1
  subst h2
  exact ⟨h1, rfl⟩
theorem itr_ok {c : Ct} {lo : Int} {n : Nat} : ItOk c (Itr lo n) (rangeD lo n) [] (fun _ _ => True) where
  keep := fun _ _ => trivial
  go := fun {μ S H} _ w _ i d hd => by
    obtain ⟨h1, rfl⟩ := rangeD_get hd
    refine ⟨h1, fun x H' hy => ?_⟩
    obtain ⟨rfl, rfl⟩ := hy
    exact ⟨Fw.refl, w, .int _⟩
  stop := fun {μ S H} _ _ _ => by
    show n ≤ (rangeD lo n).length
    unfold rangeD
    rw [List.length_map, List.length_range]
    exact Nat.le_refl _
def dRng1 (fa : FA) : FI := fun ρ S Q Ed => fa ρ S (fun ds S1 => match ds with
  | [.int j] => (-(2 ^ 62) ≤ j ∧ j < 2 ^ 62) ∧ Q (rangeD 0 j.toNat, []) S1
  | _ => False) Ed
theorem d_rng1 {a : Expr} {p pos : Pos} (hg : Gl X "range") (hm : X.mg "range" = none) (ha : PAd X E [a] fa) (hs : starEach [a] X.env = [(false, eval a X.env)] := by rfl) : PId X E tg (.Call (.Name "range" p) [a] [] pos) (dRng1 fa) := by
  refine PI.imp (pi_range1 hg hm ha hs) fun σ H R ⟨μ, S, ρ, Qi, Ed, w, en, hf, q, px⟩ => ?_
  refine tR_of w en hf px fun ds S1 vs H1 μ1 h1 f1 w1 en1 px1 r1 => ?_
  split at h1
  · obtain ⟨v, rfl, rv⟩ := r1.one
    cases rv.int_inv
    exact ⟨_, rfl, h1.1.1, h1.1.2, q _ S1 H1 μ1 _ _ h1.2 f1 w1 itr_ok trivial (fun _ z => nomatch z)⟩
  · exact h1.elim
/-! ### enumerate -/
/-! ### zip -/
end
/-! ## for -/
def dLoop (g : FG) (fb : FS) (src : Src) : List D → FS
  | [], ρ, S, De, _ => De.nx ρ S
  | x :: xs, ρ, S, De, Ed => g x ρ S (fun ρ1 S1 => fb ρ1 S1 { nx := fun ρ2 S2 => srcOk src S2 (dLoop g fb src xs ρ2 S2 De Ed), ct := fun ρ2 S2 => srcOk src S2 (dLoop g fb src xs ρ2 S2 De Ed), bk := De.nx, rt := De.rt } Ed) Ed
def dFor (fi : FI) (g : FG) (fb : FS) : FS := fun ρ S De Ed => fi ρ S (fun is S1 => dLoop g fb is.2 is.1 ρ S1 De Ed) Ed
section
variable {X : Cx} {E : XK} {tg iter : Expr} {body : List Stmt} {fi : FI} {g : FG} {fb : FS} {pos : Pos}
theorem drop_cons {α : Type} {xs : List α} {i : Nat} {x : α} (h : xs[i]? = some x) : xs.drop i = x :: xs.drop (i + 1) := by
  obtain ⟨h1, h2⟩ := List.getElem?_eq_some_iff.mp h
  rw [List.drop_eq_getElem_cons h1, h2]
theorem d_for (hp : PassesOwn (model X.prog X.w) X.A X.env X.xe) (hc : X.calm = true) (hi : PId X (cE E) tg iter fi) (hg : PGd X E tg g) (hb : PBd X E body fb) (hs : ∀ x, foldedSetIterable iter X.env x = pure x := by intro _; rfl) : PSd X E (.For tg iter body [] pos) (dFor fi g fb) := by
  refine PS.imp (ps_for hp hc hi hg hb hs) fun D σ H ⟨μ, S, ρ, De, Ed, w, en, hf, k, px⟩ => ?_
  refine ⟨μ, S, ρ, _, Ed, w, en, hf, fun is S1 H1 μ1 J Anc h1 f1 w1 ok anc hsrc => ?_, px⟩
  obtain ⟨items, src⟩ := is
  refine ⟨fun i m σ' H' => m = items.length - i ∧ i ≤ items.length ∧ ∃ μ' S' ρ', Fw μ1 H1 μ' H' ∧ Wd (ct X) μ' S' H' ∧ EnvR (ct X) μ' H' σ' ρ' ∧ Anc μ' H' ∧ (∀ p ∈ src, S'[p.1]? = some (.lst p.2)) ∧ dLoop g fb src (items.drop i) ρ' S' De Ed,
    ⟨_, rfl, Nat.zero_le _, μ1, S1, ρ, Fw.refl, w1, en.fw w f1, anc, hsrc, h1⟩, ?_⟩
  rintro i m σ' H' ⟨rfl, hi, μ', S', ρ', f', w', en', anc', hs', h'⟩
  by_cases hlt : i < items.length
  · have hx := List.getElem?_eq_getElem hlt
    obtain ⟨go, yl⟩ := ok.go anc' w' hs' i _ hx
    rw [drop_cons hx] at h'
    refine .inr ⟨go, fun σ2 H2 => i + 1 ≤ items.length ∧ ∃ μ2 S2 ρ2, Fw μ1 H1 μ2 H2 ∧ Wd (ct X) μ2 S2 H2 ∧ EnvR (ct X) μ2 H2 σ2 ρ2 ∧ Anc μ2 H2 ∧ (∀ p ∈ src, S2[p.1]? = some (.lst p.2)) ∧ dLoop g fb src (items.drop (i + 1)) ρ2 S2 De Ed,
      fun σ2 H2 hN => ⟨_, by omega, rfl, hN.1, hN.2⟩, fun x H2 hy => ?_⟩
    obtain ⟨fy, wy, ry⟩ := yl x H2 hy
    refine ⟨μ', S', ρ', _, _, Ed, wy, en'.fw w' fy, ry, h', fun ρ3 S3 σ3 H3 μ3 h3 f3 w3 en3 => ?_, (px.fw f1).fw (f'.trans fy)⟩
    have ff := f1.trans (f'.trans (fy.trans f3))
    refine ⟨μ3, S3, ρ3, _, Ed, w3, en3, h3, ⟨fun ρ4 S4 σ4 H4 μ4 h4 f4 w4 en4 => ?_, k.rt.fw ff, fun ρ4 S4 σ4 H4 μ4 h4 f4 w4 en4 => k.nx ρ4 S4 σ4 H4 μ4 h4 (ff.trans f4) w4 en4, fun ρ4 S4 σ4 H4 μ4 h4 f4 w4 en4 => ?_⟩, px.fw ff⟩
    · obtain ⟨q1, q2⟩ := srcOk_iff.mp h4
      exact ⟨hlt, μ4, S4, ρ4, f'.trans (fy.trans (f3.trans f4)), w4, en4, ok.keep (ok.keep (ok.keep anc' (w'.kp fy)) (wy.kp f3)) (w3.kp f4), q1, q2⟩
    · obtain ⟨q1, q2⟩ := srcOk_iff.mp h4
      exact ⟨hlt, μ4, S4, ρ4, f'.trans (fy.trans (f3.trans f4)), w4, en4, ok.keep (ok.keep (ok.keep anc' (w'.kp fy)) (wy.kp f3)) (w3.kp f4), q1, q2⟩
  · have e : i = items.length := by omega
    subst e
    rw [List.drop_length] at h'
    exact .inl ⟨ok.stop anc' w' hs', k.nx ρ' S' σ' H' μ' h' (f1.trans f') w' en'⟩
end
end Pu
namespace Pu
open PySem PySem.Spec PyProof.Rows L2
/-! ## comprehensions -/
def noE : ED := fun _ _ => False
def dYes : FT := fun _ S Q _ => Q true S
def dCompL (st : D → Rho → Option Rho) (t : FT) (f : FE) (src : Src) : List D → List D → Rho → Sto → (List D → Sto → Prop) → Prop
  | [], acc, _, S, k => k acc S
  | x :: xs, acc, ρ, S, k => onSome (st x ρ) fun ρ1 => t ρ1 S (fun b S1 => if b = true then f ρ1 S1 (fun y S2 => srcOk src S2 (dCompL st t f src xs (acc ++ [y]) ρ S2 k)) noE else srcOk src S1 (dCompL st t f src xs acc ρ S1 k)) noE
def dLc (st : D → Rho → Option Rho) (t : FT) (f : FE) (fi : FI) : FE := fun ρ S Q Ed => fi ρ S (fun is S1 => is.1.length ≤ sizeLine ∧ dCompL st t f is.2 is.1 [] ρ S1 fun acc S2 => Q (.lst false acc) S2) Ed
/-- a list that will be changed -/
def dLcC (st : D → Rho → Option Rho) (t : FT) (f : FE) (fi : FI) : FE := fun ρ S Q Ed => fi ρ S (fun is S1 => is.1.length ≤ sizeLine ∧ dCompL st t f is.2 is.1 [] ρ S1 fun acc S2 => Q (.cell S2.length) (S2 ++ [.lst acc])) Ed
def st1 (j : Nat) : D → Rho → Option Rho := fun x ρ => some (ρ.set j (some x))
def st2 (i j : Nat) : D → Rho → Option Rho := fun x ρ => match x with
  | .tup [a, b] => some ((ρ.set i (some a)).set j (some b))
  | _ => none
/-- what the target does -/
def LcT (c : Ct) (g : TG) (st : D → Rho → Option Rho) (vs : List Nat) : Prop :=
  ∀ {μ : Mu} {S : Sto} {H : Hp} {σ : L2.St} {ρ ρ1 : Rho} {x : V} {d : D} {k : L2.St → Hp → Prop}, Wd c μ S H → EnvR c μ H σ ρ → Rp c μ H x d → st d ρ = some ρ1 → (∀ σ2, EnvR c μ H σ2 ρ1 → wipe σ2 vs = wipe σ vs → k σ2 H) → g x (wipe σ vs) H k
theorem lct1 {c : Ct} {j : Nat} : LcT c (gName j) (st1 j) [j] := by
  intro μ S H σ ρ ρ1 x d k w en r e h
  cases e
  show k ((σ.set j none).set j (some x)) H
  rw [List.set_set]
  exact h _ (en.set r) (by show ((σ.set j (some x)).set j none) = σ.set j none; rw [List.set_set])
section
variable {c : Ct} {m av : List Addr} {D1 : Addr} {H : Hp} {S : Sto} {vs : List V}
theorem kpD {ws : List V} (hD : H D1 = some (.lst vs)) : Kp c ⟨m, D1 :: av⟩ H ⟨m, D1 :: av⟩ (upd H D1 (.lst ws)) where
  t := fun a xs e => by rw [upd_ne (fun z => by rw [z, hD] at e; cases e)]; exact e
  l := fun a xs e n1 n2 => by
    have ne : a ≠ D1 := fun z => n2 (by rw [z]; exact List.mem_cons_self)
    rcases e with e | ⟨o, e⟩
    · exact ⟨.inl (by rw [upd_ne ne]; exact e), n1, n2⟩
    · exact ⟨.inr ⟨o, by rw [upd_ne ne]; exact e⟩, n1, n2⟩
  m := fun a xs e n1 n2 => ⟨by rw [upd_ne (fun z => n2 (by rw [z]; exact List.mem_cons_self))]; exact e, n1, n2⟩
  d := fun a ps e n n2 => ⟨by rw [upd_ne (fun z => by rw [z, hD] at e; cases e)]; exact e, n, n2⟩
  i := fun a C dx fs e n n2 => ⟨by rw [upd_ne (fun z => by rw [z, hD] at e; cases e)]; exact e, n, n2⟩
  cl := fun _ _ h => h
  x := fun a fv e => by rw [upd_ne (fun z => by rw [z, hD] at e; cases e)]; exact e
theorem wdD {ws : List V} (w : Wd c ⟨m, D1 :: av⟩ S H) (hD : H D1 = some (.lst vs)) : Wd c ⟨m, D1 :: av⟩ S (upd H D1 (.lst ws)) :=
  ⟨w.nd, w.len, w.ap, fun a h => upd_some (w.avs a h), fun i a x h1 h2 => ClOk.kp (kpD hD) (fun o e => by
    rw [upd_ne (fun z => w.ap a (List.mem_of_getElem? h1) (by rw [z]; exact List.mem_cons_self))]
    exact e) (w.ok i a x h1 h2)⟩
theorem kpStart {μ : Mu} (hD : H D1 = none) : Kp c μ H ⟨μ.m, D1 :: μ.av⟩ (upd H D1 (.lst [])) := by
  have av2 : ∀ {a : Addr} {o : HO}, H a = some o → a ∉ μ.av → a ∉ D1 :: μ.av := fun e n z => by
    rcases List.mem_cons.mp z with z | z
    · exact ne_of_none e hD z
    · exact n z
  refine ⟨fun a xs e => ?_, fun a xs e n1 n2 => ?_, fun a xs e n1 n2 => ⟨?_, n1, av2 e n2⟩, fun a ps e n n2 => ⟨?_, n, av2 e n2⟩, fun a C dx fs e n n2 => ⟨?_, n, av2 e n2⟩, (fun _ _ h => h), fun a fv e => ?_⟩
  · rw [upd_ne (ne_of_none e hD)]; exact e
  · rcases e with e | ⟨o, e⟩
    · exact ⟨.inl (by rw [upd_ne (ne_of_none e hD)]; exact e), n1, av2 e n2⟩
    · exact ⟨.inr ⟨o, by rw [upd_ne (ne_of_none e hD)]; exact e⟩, n1, av2 e n2⟩
  · rw [upd_ne (ne_of_none e hD)]; exact e
  · rw [upd_ne (ne_of_none e hD)]; exact e
  · rw [upd_ne (ne_of_none e hD)]; exact e
  · rw [upd_ne (ne_of_none e hD)]; exact e
theorem wdStart {μ : Mu} (w : Wd c μ S H) (hD : H D1 = none) : Wd c ⟨μ.m, D1 :: μ.av⟩ S (upd H D1 (.lst [])) :=
  ⟨w.nd, w.len, fun a h z => by
    rcases List.mem_cons.mp z with z | z
    · exact w.fresh hD (z ▸ h)
    · exact w.ap a h z, fun a h => by
    rcases List.mem_cons.mp h with h | h
    · rw [h, upd_same]; exact fun z => nomatch z
    · exact upd_some (w.avs a h), fun i a x h1 h2 => ClOk.kp (kpStart hD) (fun o e => by rw [upd_ne (ne_of_none e hD)]; exact e) (w.ok i a x h1 h2)⟩
theorem kpEnd : Kp c ⟨m, D1 :: av⟩ H ⟨m, av⟩ H :=
  ⟨fun _ _ e => e, fun _ _ e n1 n2 => ⟨e, n1, fun z => n2 (List.mem_cons_of_mem _ z)⟩, fun _ _ e n1 n2 => ⟨e, n1, fun z => n2 (List.mem_cons_of_mem _ z)⟩, fun _ _ e n1 n2 => ⟨e, n1, fun z => n2 (List.mem_cons_of_mem _ z)⟩, fun _ _ _ _ e n1 n2 => ⟨e, n1, fun z => n2 (List.mem_cons_of_mem _ z)⟩, (fun _ _ h => h), fun _ _ e => e⟩
theorem kpEndC (hD : H D1 = some (.lst vs)) : Kp c ⟨m, D1 :: av⟩ H ⟨m ++ [D1], av⟩ H := by
  have nm : ∀ {a : Addr}, a ∉ m → a ≠ D1 → a ∉ m ++ [D1] := fun n1 n2 z => by
    rcases List.mem_append.mp z with z | z
    · exact n1 z
    · exact n2 (List.mem_singleton.mp z)
  have ne : ∀ {a : Addr}, a ∉ D1 :: av → a ≠ D1 := fun n z => n (by rw [z]; exact List.mem_cons_self)
  refine ⟨fun _ _ e => e, fun _ _ e n1 n2 => ⟨e, nm n1 (ne n2), fun z => n2 (List.mem_cons_of_mem _ z)⟩, fun _ _ e n1 n2 => ⟨e, nm n1 (ne n2), fun z => n2 (List.mem_cons_of_mem _ z)⟩, fun a _ e n1 n2 => ⟨e, nm n1 (ne n2), fun z => n2 (List.mem_cons_of_mem _ z)⟩,
    fun a _ _ _ e n1 n2 => ⟨e, nm n1 (ne n2), fun z => n2 (List.mem_cons_of_mem _ z)⟩, fun n a h => ?_, fun _ _ e => e⟩
  show (m ++ [D1])[n]? = some a
  rw [List.getElem?_append_left (List.getElem?_eq_some_iff.mp (show m[n]? = some a from h)).1]
  exact h
end
/-- the state of a comprehension: D1 the list that is made -/
def LcI (c : Ct) (μ1 : Mu) (H1 : Hp) (D1 : Addr) (σ : L2.St) (ρ : Rho) (Anc : Mu → Hp → Prop) (src : Src) (i : Nat) (go : List D → Sto → Prop) (H : Hp) : Prop :=
  ∃ m' S' acc vs, acc.length ≤ i ∧ Wd c ⟨m', D1 :: μ1.av⟩ S' H ∧ (∃ t, m' = μ1.m ++ t) ∧ (∀ a o, H1 a = some o → a ∉ μ1.m → H a = some o ∧ a ∉ m') ∧ H D1 = some (.lst vs) ∧ RpAll c ⟨m', D1 :: μ1.av⟩ H vs acc ∧
    EnvR c ⟨m', D1 :: μ1.av⟩ H σ ρ ∧ Anc ⟨m', D1 :: μ1.av⟩ H ∧ (∀ p ∈ src, S'[p.1]? = some (.lst p.2)) ∧ go acc S'
theorem pxNo {c : Ct} {μ : Mu} {H : Hp} {E : XK} : PX c μ H noE E := fun _ _ _ _ _ _ h => h.elim
theorem lc_W {c : Ct} {g : TG} {st : D → Rho → Option Rho} {t : FT} {f : FE} {vs : List Nat} {μ1 : Mu} {S1 : Sto} {H1 : Hp} {σ : L2.St} {ρ : Rho} {J : It} {items : List D} {src : Src} {Anc : Mu → Hp → Prop} {k : List D → Sto → Prop} {D1 : Addr} {Qd : Hp → Prop} {E : L2.St → XK}
    (hT : LcT c g st vs) (w1 : Wd c μ1 S1 H1) (en1 : EnvR c μ1 H1 σ ρ) (ok : ItOk c J items src Anc) (anc : Anc μ1 H1) (hsrc : ∀ p ∈ src, S1[p.1]? = some (.lst p.2)) (hz : items.length ≤ sizeLine)
    (h : dCompL st t f src items [] ρ S1 k) (nD : H1 D1 = none) (fin : ∀ H, LcI c μ1 H1 D1 σ ρ Anc src items.length k H → Qd H) :
    ∃ W : Nat → Nat → Hp → Prop, (∃ m, W 0 m (upd H1 D1 (.lst []))) ∧ ∀ i m H, W i m H →
      (J.stop i H ∧ Qd H) ∨ (J.go i H ∧ ∃ Nx : Hp → Prop, (∀ H', Nx H' → ∃ m', m' < m ∧ W (i + 1) m' H') ∧ ∀ x H', J.yld i H x H' → g x (wipe σ vs) H' fun σ2 H2 => wipe σ2 vs = wipe σ vs ∧ tT c E t σ2 H2 fun b H3 =>
        if b = true then tD c E f σ2 H3 fun y H4 => ∃ acc, H4 D1 = some (.lst acc) ∧ acc.length < sizeLine ∧ Nx (upd H4 D1 (.lst (acc ++ [y]))) else Nx H3) := by
  refine ⟨fun i m H => m = items.length - i ∧ i ≤ items.length ∧ LcI c μ1 H1 D1 σ ρ Anc src i (fun acc S => dCompL st t f src (items.drop i) acc ρ S k) H, ⟨_, rfl, Nat.zero_le _, ?_⟩, ?_⟩
  · refine ⟨μ1.m, S1, [], [], Nat.le_refl _, wdStart w1 nD, ⟨[], by simp⟩, fun a o e n => ⟨?_, n⟩, upd_same, .nil, en1.kp (kpStart nD), ok.keep anc (kpStart nD), hsrc, h⟩
    rw [upd_ne (ne_of_none e nD)]
    exact e
  · rintro i m H ⟨rfl, hi, m', S', acc, ws, hl, w, ⟨tt, em⟩, keep, hD, ra, en, anc', hs', h'⟩
    by_cases hlt : i < items.length
    · have hx := List.getElem?_eq_getElem hlt
      obtain ⟨go, yl⟩ := ok.go anc' w hs' i _ hx
      rw [drop_cons hx] at h'
      refine .inr ⟨go, fun H' => i + 1 ≤ items.length ∧ LcI c μ1 H1 D1 σ ρ Anc src (i + 1) (fun acc S => dCompL st t f src (items.drop (i + 1)) acc ρ S k) H', fun H' hN => ⟨_, by omega, rfl, hN.1, hN.2⟩, fun x H2 hy => ?_⟩
      obtain ⟨fy, wy, ry⟩ := yl x H2 hy
      obtain ⟨ρ1, e1, h1⟩ := onSome_of h'
      refine hT wy (en.fw w fy) ry e1 fun σ2 en2 hw => ⟨hw, ?_⟩
      refine tR_of wy en2 h1 pxNo fun b S3 b' H3 μ3 h3 f3 w3 en3 px3 r3 => ?_
      cases (r3 : b' = b)
      have nDm : ∀ {μ : Mu} {S : Sto} {HH : Hp}, Wd c μ S HH → μ.av = D1 :: μ1.av → D1 ∉ μ.m := fun wx ex z => wx.ap D1 z (by rw [ex]; exact List.mem_cons_self)
      have all3 : ∀ {μ4 : Mu} {H4 : Hp} {S4 : Sto}, Wd c μ4 S4 H4 → Fw ⟨m', D1 :: μ1.av⟩ H μ4 H4 → μ4 = ⟨μ4.m, D1 :: μ1.av⟩ ∧ (∃ t, μ4.m = μ1.m ++ t) ∧ (∀ a o, H1 a = some o → a ∉ μ1.m → H4 a = some o ∧ a ∉ μ4.m) ∧ H4 D1 = some (.lst ws) ∧ RpAll c μ4 H4 ws acc ∧ EnvR c μ4 H4 σ ρ ∧ Anc μ4 H4 := fun {μ4 H4 S4} w4 ff => by
        have eav : μ4.av = D1 :: μ1.av := ff.av
        refine ⟨by rw [← eav], ?_, fun a o e n => ?_, (ff.keep D1 _ hD (nDm w rfl)).1, ra.fw w ff, en.fw w ff, ok.keep anc' (w.kp ff)⟩
        · obtain ⟨t2, e2⟩ := ff.pre
          exact ⟨tt ++ t2, by rw [e2]; show m' ++ t2 = _; rw [em, List.append_assoc]⟩
        · obtain ⟨q1, q2⟩ := keep a o e n
          exact ff.keep a o q1 q2
      split
      · rename_i hb
        rw [if_pos hb] at h3
        refine tR_of w3 en3 h3 pxNo fun y S4 vy H4 μ4 h4 f4 w4 en4 px4 r4 => ?_
        obtain ⟨e4, t4, k4, D4, ra4, en4', anc4⟩ := all3 w4 (fy.trans (f3.trans f4))
        rw [e4] at w4 ra4 en4' anc4 r4
        obtain ⟨q1, q2⟩ := srcOk_iff.mp h4
        refine ⟨ws, D4, by rw [ra4.length]; omega, hlt, ?_⟩
        refine ⟨μ4.m, S4, acc ++ [y], ws ++ [vy], by rw [List.length_append]; show acc.length + 1 ≤ i + 1; omega, wdD w4 D4, t4, fun a o e n => ?_, upd_same, (ra4.append (.cons r4 .nil)).kp (kpD D4), en4'.kp (kpD D4), ok.keep anc4 (kpD D4), q1, q2⟩
        obtain ⟨z1, z2⟩ := k4 a o e n
        refine ⟨?_, z2⟩
        rw [upd_ne (ne_of_none e nD)]
        exact z1
      · rename_i hb
        rw [if_neg hb] at h3
        obtain ⟨e4, t4, k4, D4, ra4, en4', anc4⟩ := all3 w3 (fy.trans f3)
        rw [e4] at w3 ra4 en4' anc4
        obtain ⟨q1, q2⟩ := srcOk_iff.mp h3
        exact ⟨hlt, μ3.m, S3, acc, ws, by omega, w3, t4, k4, D4, ra4, en4', anc4, q1, q2⟩
    · have e : i = items.length := by omega
      subst e
      rw [List.drop_length] at h'
      exact .inl ⟨ok.stop anc' w hs', fin H ⟨m', S', acc, ws, hl, w, ⟨tt, em⟩, keep, hD, ra, en, anc', hs', h'⟩⟩
section
variable {X : Cx} {E : L2.St → XK} {elt tg iter : Expr} {ifs : List Expr} {scope : Scope} {own : List (Str × Nat)} {pos : Pos} {fi : FI} {g : TG} {st : D → Rho → Option Rho} {t : FT} {f : FE}
theorem d_tnil : PTs X [] (tT (ct X) E dYes) := ⟨fun pins s σ H Q I ⟨μ, S, ρ, Qd, Ed, w, en, hf, q, px⟩ => pts_nil.run pins s σ H Q I (q true S true H μ hf Fw.refl w rfl)⟩
theorem d_tone {c : Expr} (h : PTd X E c t) : PTs X [c] (tT (ct X) E t) := pts_one h
theorem lc_end {c : Ct} {μ μ1 : Mu} {S S1 : Sto} {H H1 : Hp} {σ : L2.St} {ρ : Rho} {Anc : Mu → Hp → Prop} {src : Src} {n : Nat} {Qd : QD} {Q : VK} {D1 : Addr} (q : ∀ d S' v H' μ', Qd d S' → Fw μ H μ' H' → Wd c μ' S' H' → Rp c μ' H' v d → Q v H') (f1 : Fw μ H μ1 H1) (w1 : Wd c μ1 S1 H1) (nD : H1 D1 = none)
    {H' : Hp} (h : LcI c μ1 H1 D1 σ ρ Anc src n (fun acc S2 => Qd (.lst false acc) S2) H') : Q (.ref D1) H' := by
  obtain ⟨m', S', acc, ws, hl, w, ⟨tt, em⟩, keep, hD, ra, en, anc', hs', h'⟩ := h
  have f2 : Fw μ1 H1 ⟨m', μ1.av⟩ H' := ⟨⟨tt, em⟩, rfl, keep⟩
  have nm : D1 ∉ m' := fun z => w.ap D1 z List.mem_cons_self
  refine q _ S' _ H' ⟨m', μ1.av⟩ h' (f1.trans f2) ⟨w.nd, w.len, fun a h z => w.ap a h (List.mem_cons_of_mem _ z), fun a h => w.avs a (List.mem_cons_of_mem _ h), fun i a x h1 h2 => ClOk.kp kpEnd (fun _ e => e) (w.ok i a x h1 h2)⟩ ?_
  exact .lst hD nm (fun z => w1.avs D1 z nD) (fun z => nomatch z) (ra.kp kpEnd)
theorem lc_endC {c : Ct} {μ μ1 : Mu} {S S1 : Sto} {H H1 : Hp} {σ : L2.St} {ρ : Rho} {Anc : Mu → Hp → Prop} {src : Src} {n : Nat} {Qd : QD} {Q : VK} {D1 : Addr} (q : ∀ d S' v H' μ', Qd d S' → Fw μ H μ' H' → Wd c μ' S' H' → Rp c μ' H' v d → Q v H') (f1 : Fw μ H μ1 H1) (w1 : Wd c μ1 S1 H1) (nD : H1 D1 = none)
    {H' : Hp} (h : LcI c μ1 H1 D1 σ ρ Anc src n (fun acc S2 => Qd (.cell S2.length) (S2 ++ [.lst acc])) H') : Q (.ref D1) H' := by
  obtain ⟨m', S', acc, ws, hl, w, ⟨tt, em⟩, keep, hD, ra, en, anc', hs', h'⟩ := h
  have nm : D1 ∉ m' := fun z => w.ap D1 z List.mem_cons_self
  have f2 : Fw μ1 H1 ⟨m' ++ [D1], μ1.av⟩ H' := ⟨⟨tt ++ [D1], by show m' ++ [D1] = _; rw [em, List.append_assoc]⟩, rfl, fun a o e n => ⟨(keep a o e n).1, fun z => by
    rcases List.mem_append.mp z with z | z
    · exact (keep a o e n).2 z
    · exact ne_of_none e nD (List.mem_singleton.mp z)⟩⟩
  have hlen : m'.length = S'.length := w.len
  refine q _ _ _ H' ⟨m' ++ [D1], μ1.av⟩ h' (f1.trans f2) ⟨?_, ?_, fun a h z => ?_, fun a h => w.avs a (List.mem_cons_of_mem _ h), fun i a x h1 h2 => ?_⟩ (.cell ?_)
  · show (m' ++ [D1]).Nodup
    rw [List.nodup_append]
    exact ⟨w.nd, by simp, fun a ha b hb e => nm (by rw [List.mem_singleton.mp hb] at e; exact e ▸ ha)⟩
  · show (m' ++ [D1]).length = (S' ++ [Cl.lst acc]).length
    rw [List.length_append, List.length_append, hlen]
    rfl
  · rcases List.mem_append.mp h with h | h
    · exact w.ap a h (List.mem_cons_of_mem _ z)
    · rw [List.mem_singleton.mp h] at z
      exact w1.avs D1 z nD
  · by_cases hi : i < m'.length
    · have h1' : m'[i]? = some a := by rw [← List.getElem?_append_left hi]; exact h1
      rw [List.getElem?_append_left (by omega)] at h2
      exact ClOk.kp (kpEndC hD) (fun _ e => e) (w.ok i a x h1' h2)
    · have h1' : (m' ++ [D1])[i]? = some a := h1
      have hi2 : i = m'.length := by
        have := (List.getElem?_eq_some_iff.mp h1').1
        simp at this
        omega
      subst hi2
      rw [List.getElem?_append_right (Nat.le_refl _), Nat.sub_self] at h1'
      cases h1'
      rw [List.getElem?_append_right (by omega), hlen, Nat.sub_self] at h2
      cases h2
      exact ⟨ws, hD, ra.kp (kpEndC hD)⟩
  · show (m' ++ [D1])[S'.length]? = some D1
    rw [← hlen, List.getElem?_append_right (Nat.le_refl _), Nat.sub_self]
    rfl
theorem d_lc (hT : LcT (ct X) g st (own.map (·.2))) (hc : X.calm = true) (hN : X.N.Nodup) (hi : PId X E tg iter fi) (ok : BlkOk X.N X.env.scope scope own)
    (hg : ∀ (s : Shared) (H : Hp) (C : Addr) (cl : List (Str × Addr)) (fp : List Addr), PG (X.blk s H scope (compEnvC scope cl C X.env) fp) tg g)
    (ht : ∀ (s : Shared) (H : Hp) (C : Addr) (cl : List (Str × Addr)) (fp : List Addr), PTs (X.blk s H scope (compEnvC scope cl C X.env) fp) ifs (tT (ct X) (cE E0) t))
    (he : ∀ (s : Shared) (H : Hp) (C : Addr) (cl : List (Str × Addr)) (fp : List Addr), PE (X.blk s H scope (compEnvC scope cl C X.env) fp) elt (tD (ct X) (cE E0) f)) (hs : ∀ x, foldedSetIterable iter X.env x = pure x := by intro _; rfl) :
    PEd X E (.ListComp elt [⟨tg, iter, ifs, 0⟩] scope pos) (dLc st t f fi) := by
  refine PE.imp (pe_lc hc hN hi ok hg ht he hs) fun σ H Q ⟨μ, S, ρ, Qd, Ed, w, en, hf, q, px⟩ => ?_
  refine ⟨μ, S, ρ, _, Ed, w, en, hf, fun is S1 H1 μ1 J Anc h1 f1 w1 ok' anc hsrc D1 nD => ?_, px⟩
  exact lc_W hT w1 (en.fw w f1) ok' anc hsrc h1.1 h1.2 nD fun H' h => lc_end (S := S) q f1 w1 nD h
theorem d_lcC (hT : LcT (ct X) g st (own.map (·.2))) (hc : X.calm = true) (hN : X.N.Nodup) (hi : PId X E tg iter fi) (ok : BlkOk X.N X.env.scope scope own)
    (hg : ∀ (s : Shared) (H : Hp) (C : Addr) (cl : List (Str × Addr)) (fp : List Addr), PG (X.blk s H scope (compEnvC scope cl C X.env) fp) tg g)
    (ht : ∀ (s : Shared) (H : Hp) (C : Addr) (cl : List (Str × Addr)) (fp : List Addr), PTs (X.blk s H scope (compEnvC scope cl C X.env) fp) ifs (tT (ct X) (cE E0) t))
    (he : ∀ (s : Shared) (H : Hp) (C : Addr) (cl : List (Str × Addr)) (fp : List Addr), PE (X.blk s H scope (compEnvC scope cl C X.env) fp) elt (tD (ct X) (cE E0) f)) (hs : ∀ x, foldedSetIterable iter X.env x = pure x := by intro _; rfl) :
    PEd X E (.ListComp elt [⟨tg, iter, ifs, 0⟩] scope pos) (dLcC st t f fi) := by
  refine PE.imp (pe_lc hc hN hi ok hg ht he hs) fun σ H Q ⟨μ, S, ρ, Qd, Ed, w, en, hf, q, px⟩ => ?_
  refine ⟨μ, S, ρ, _, Ed, w, en, hf, fun is S1 H1 μ1 J Anc h1 f1 w1 ok' anc hsrc D1 nD => ?_, px⟩
  exact lc_W hT w1 (en.fw w f1) ok' anc hsrc h1.1 h1.2 nD fun H' h => lc_endC (S := S) q f1 w1 nD h
/-- name = [..] on one row -/
theorem d_setLc {E2 : XK} {i : Nat} {y : Str} {py spos : Pos} (hT : LcT (ct X) g st (own.map (·.2))) (hc : X.calm = true) (hN : X.N.Nodup) (hy : X.N[i]? = some y) (hyl : X.env.scope.names.lookup y = some .local)
    (hsw : swapsWith (.ListComp elt [⟨tg, iter, ifs, 0⟩] scope pos) (some (.Name y py)) spos.line X.env = pure true) (hi : PId X (cE E2) tg iter fi) (ok : BlkOk X.N X.env.scope scope own)
    (hg : ∀ (s : Shared) (H : Hp) (C : Addr) (cl : List (Str × Addr)) (fp : List Addr), PG (X.blk s H scope (compEnvC scope cl C X.env) fp) tg g)
    (ht : ∀ (s : Shared) (H : Hp) (C : Addr) (cl : List (Str × Addr)) (fp : List Addr), PTs (X.blk s H scope (compEnvC scope cl C X.env) fp) ifs (tT (ct X) (cE E0) t))
    (he : ∀ (s : Shared) (H : Hp) (C : Addr) (cl : List (Str × Addr)) (fp : List Addr), PE (X.blk s H scope (compEnvC scope cl C X.env) fp) elt (tD (ct X) (cE E0) f)) (hs : ∀ x, foldedSetIterable iter X.env x = pure x := by intro _; rfl) :
    PSd X E2 (.Assign [.Name y py] (.ListComp elt [⟨tg, iter, ifs, 0⟩] scope pos) spos) (dAsg (dLc st t f fi) (gN i)) := by
  refine PS.imp (ps_setLc hc hN hy hyl hsw hi ok hg ht he hs) fun D σ H ⟨μ, S, ρ, De, Ed, w, en, hf, k, px⟩ => ?_
  refine ⟨μ, S, ρ, _, Ed, w, en, hf, fun is S1 H1 μ1 J Anc h1 f1 w1 ok' anc hsrc D1 nD => ?_, px⟩
  refine lc_W (Qd := fun H' => D.nx (σ.set i (some (.ref D1))) H') hT w1 (en.fw w f1) ok' anc hsrc h1.1 h1.2 nD fun H' h => ?_
  exact lc_end (S := S) (Q := fun v H' => D.nx (σ.set i (some v)) H') (fun d S' v H' μ' hq ff w' r => k.nx _ S' _ H' μ' (setK_eq (k := fun ρ' => De.nx ρ' S') hq) ff w' ((en.fw w ff).set r)) f1 w1 nD h
end
end Pu
namespace Pu
open PySem PySem.Spec PyProof.Rows L2
/-! ## defs and their calls -/
def spF (c : Ct) (F : FF) : Sp := fun vs H Q E => ∃ μ S ds Qd Ed, Wd c μ S H ∧ RpAll c μ H vs ds ∧ F ds S Qd Ed ∧ PostV c μ H Qd Q ∧ PX c μ H Ed E
/-- a call in which the callee sees all cells -/
def dCallW (F : FF) (fa : FA) : FE := fun ρ S Q Ed => fa ρ S (fun ds S1 => F ds S1 Q Ed) Ed
mutual
/-- it mentions no cell but the first k -/
def below (k : Nat) : D → Bool
  | .cell n => decide (n < k)
  | .tup xs => belowAll k xs
  | .lst _ xs => belowAll k xs
  | .kls xs => belowAll k xs
  | .ins _ fs => belowFs k fs
  | .exc _ fs => belowFs k fs
  | _ => true
def belowAll (k : Nat) : List D → Bool
  | [] => true
  | x :: xs => below k x && belowAll k xs
def belowFs (k : Nat) : List (Str × D) → Bool
  | [] => true
  | (_, x) :: xs => below k x && belowFs k xs
end
def Cl.below (k : Nat) : Cl → Bool
  | .lst xs => belowAll k xs
  | .ins _ fs => belowFs k fs
/-- a call in which the callee sees the first k cells -/
def dCall (k : Nat) (F : FF) (fa : FA) : FE := fun ρ S Q Ed => fa ρ S (fun ds S1 => (belowAll k ds = true ∧ (S1.take k).all (Cl.below k) = true) ∧
  F ds (S1.take k) (fun d S2 => S2.length = (S1.take k).length ∧ Q d (S2 ++ S1.drop k)) fun e S2 => S2.length = (S1.take k).length ∧ Ed e (S2 ++ S1.drop k)) Ed
section
variable {c : Ct} {μ : Mu} {H : Hp} {k : Nat}
def sub (μ : Mu) (k : Nat) : Mu := ⟨μ.m.take k, μ.m.drop k ++ μ.av⟩
theorem not_sub {a : Addr} (h1 : a ∉ μ.m) (h2 : a ∉ μ.av) : a ∉ (sub μ k).m ∧ a ∉ (sub μ k).av :=
  ⟨fun z => h1 (List.mem_of_mem_take z), fun z => by
    rcases List.mem_append.mp z with z | z
    · exact h1 (List.mem_of_mem_drop z)
    · exact h2 z⟩
theorem of_sub {a : Addr} (h1 : a ∉ (sub μ k).m) (h2 : a ∉ (sub μ k).av) : a ∉ μ.m ∧ a ∉ μ.av :=
  ⟨fun z => by
    rw [← List.take_append_drop k μ.m] at z
    rcases List.mem_append.mp z with z | z
    · exact h1 z
    · exact h2 (List.mem_append_left _ z), fun z => h2 (List.mem_append_right _ z)⟩
mutual
theorem Rp.sub : ∀ {v : V} {d : D}, Rp c μ H v d → below k d = true → Rp c (Pu.sub μ k) H v d
  | _, _, .non, _ => .non
  | _, _, .bl b, _ => .bl b
  | _, _, .int i, _ => .int i
  | _, _, .str x, _ => .str x
  | _, _, .tup h r, b => .tup h (RpAll.sub r b)
  | _, _, .lst h n1 n2 n3 r, b => .lst h (not_sub n1 n2).1 (not_sub n1 n2).2 n3 (RpAll.sub r b)
  | _, _, .kls h n1 n2 r, b => .kls h (not_sub n1 n2).1 (not_sub n1 n2).2 (RpAll.sub r b)
  | _, _, .klsK o its n h1 h2 h3 h4 h5 h6 r, b => .klsK o its n h1 h2 h3 h4 h5 h6 (RpAll.sub r b)
  | _, _, .dic h n n2, _ => .dic h (not_sub n n2).1 (not_sub n n2).2
  | _, _, .cell h, b => .cell (by
    show (μ.m.take k)[_]? = _
    rw [List.getElem?_take_of_lt (of_decide_eq_true b)]
    exact h)
  | _, _, .glo h r, _ => .glo h r
  | _, _, .ty n, _ => .ty n
  | _, _, .ins h n n2 g r, b => .ins h (not_sub n n2).1 (not_sub n n2).2 g (RpFs.sub r b)
  | _, _, .exc0 h g, _ => .exc0 h g
  | _, _, .exc1 h g e r, b => .exc1 h g e (RpFs.sub r b)
theorem RpAll.sub : ∀ {vs : List V} {ds : List D}, RpAll c μ H vs ds → belowAll k ds = true → RpAll c (Pu.sub μ k) H vs ds
  | _, _, .nil, _ => .nil
  | _, _, .cons h r, b => .cons (Rp.sub h (Bool.and_eq_true_iff.mp b).1) (RpAll.sub r (Bool.and_eq_true_iff.mp b).2)
theorem RpFs.sub : ∀ {vs : List (Str × V)} {ds : List (Str × D)}, RpFs c μ H vs ds → belowFs k ds = true → RpFs c (Pu.sub μ k) H vs ds
  | _, _, .nil, _ => .nil
  | _, _, .cons h r, b => .cons (Rp.sub h (Bool.and_eq_true_iff.mp b).1) (RpFs.sub r (Bool.and_eq_true_iff.mp b).2)
end
theorem Wd.disj {S : Sto} (w : Wd c μ S H) {a : Addr} (h1 : a ∈ μ.m.take k) (h2 : a ∈ μ.m.drop k) : False := by
  have nd := w.nd
  rw [← List.take_append_drop k μ.m, List.nodup_append] at nd
  exact nd.2.2 a h1 a h2 rfl
theorem Wd.sub {S : Sto} (w : Wd c μ S H) (hb : (S.take k).all (Cl.below k) = true) : Wd c (Pu.sub μ k) (S.take k) H := by
  refine ⟨?_, ?_, fun a h z => ?_, fun a h => ?_, fun i a x h1 h2 => ?_⟩
  · show (μ.m.take k).Nodup
    have nd := w.nd
    rw [← List.take_append_drop k μ.m, List.nodup_append] at nd
    exact nd.1
  · show (μ.m.take k).length = (S.take k).length
    rw [List.length_take, List.length_take, w.len]
  · rcases List.mem_append.mp z with z | z
    · exact w.disj h z
    · exact w.ap a (List.mem_of_mem_take h) z
  · rcases List.mem_append.mp h with h | h
    · obtain ⟨o, e, _⟩ := w.there (List.mem_of_mem_drop h)
      rw [e]
      exact fun z => nomatch z
    · exact w.avs a h
  · have hi : i < k := by
      have := (List.getElem?_eq_some_iff.mp (show (μ.m.take k)[i]? = some a from h1)).1
      rw [List.length_take] at this
      omega
    have e1 : μ.m[i]? = some a := by
      rw [← List.getElem?_take_of_lt hi]
      exact h1
    have e2 : S[i]? = some x := by
      rw [← List.getElem?_take_of_lt hi]
      exact h2
    have bx : Cl.below k x = true := List.all_eq_true.mp hb x (List.mem_of_getElem? h2)
    have o := w.ok i a x e1 e2
    cases x with
    | lst ds =>
      obtain ⟨vs, h3, h4⟩ := o
      exact ⟨vs, h3, h4.sub bx⟩
    | ins cn fs =>
      obtain ⟨C, dx, fv, h3, h4, h5⟩ := o
      exact ⟨C, dx, fv, h3, h4, h5.sub bx⟩
theorem kp_unsub : Kp c (Pu.sub μ k) H μ H := by
  have cl : ∀ (n : Nat) (a : Addr), (μ.m.take k)[n]? = some a → μ.m[n]? = some a := fun n a h => by
    have hi : n < k := by
      have := (List.getElem?_eq_some_iff.mp h).1
      rw [List.length_take] at this
      omega
    rw [← List.getElem?_take_of_lt hi]
    exact h
  exact ⟨fun _ _ e => e, fun _ _ e n1 n2 => ⟨e, (of_sub n1 n2).1, (of_sub n1 n2).2⟩, fun _ _ e n1 n2 => ⟨e, (of_sub n1 n2).1, (of_sub n1 n2).2⟩, fun _ _ e n1 n2 => ⟨e, (of_sub n1 n2).1, (of_sub n1 n2).2⟩, fun _ _ _ _ e n1 n2 => ⟨e, (of_sub n1 n2).1, (of_sub n1 n2).2⟩, cl, fun _ _ e => e⟩
/-- back from a callee that saw the first k cells -/
theorem Wd.back {S S2 : Sto} {H' : Hp} {μ' : Mu} (w : Wd c μ S H) (f : Fw (Pu.sub μ k) H μ' H') (w' : Wd c μ' S2 H') (hl : S2.length = (S.take k).length) :
    Fw μ H μ H' ∧ Wd c μ (S2 ++ S.drop k) H' ∧ μ' = Pu.sub μ k := by
  obtain ⟨t, e⟩ := f.pre
  have hmt : (μ.m.take k).length = (S.take k).length := by rw [List.length_take, List.length_take, w.len]
  have ht : t = [] := by
    have h1 := w'.len
    rw [e, List.length_append] at h1
    have h2 : (Pu.sub μ k).m.length = (S.take k).length := hmt
    have : t.length = 0 := by omega
    exact List.length_eq_zero_iff.mp this
  subst ht
  rw [List.append_nil] at e
  have em : μ' = Pu.sub μ k := by
    cases μ'
    cases e
    cases (show _ = (Pu.sub μ k).av from f.av)
    rfl
  subst em
  have fw : Fw μ H μ H' := ⟨⟨[], by simp⟩, rfl, fun a o ea na => ⟨(f.keep a o ea fun z => na (List.mem_of_mem_take z)).1, na⟩⟩
  refine ⟨fw, ⟨w.nd, ?_, w.ap, fun a h => ?_, fun i a x h1 h2 => ?_⟩, rfl⟩
  · rw [List.length_append, hl, List.length_take, List.length_drop, w.len]
    omega
  · exact w'.avs a (List.mem_append_right _ h)
  · by_cases hi : i < S2.length
    · rw [List.getElem?_append_left hi] at h2
      have hk : i < k := by rw [hl, List.length_take] at hi; omega
      have e1 : (Pu.sub μ k).m[i]? = some a := by
        show (μ.m.take k)[i]? = some a
        rw [List.getElem?_take_of_lt hk]
        exact h1
      exact ClOk.kp kp_unsub (fun _ z => z) (w'.ok i a x e1 h2)
    · have hge : S2.length ≤ i := by omega
      rw [List.getElem?_append_right hge, List.getElem?_drop] at h2
      have hlt : k + (i - S2.length) < S.length := (List.getElem?_eq_some_iff.mp h2).1
      have hl2 : S2.length = k := by rw [hl, List.length_take]; omega
      have ei : k + (i - S2.length) = i := by omega
      rw [ei] at h2
      have nt : a ∉ (Pu.sub μ k).m := fun z => by
        obtain ⟨j, hj, ej⟩ := List.getElem_of_mem (show a ∈ μ.m.take k from z)
        have hj2 : (μ.m.take k)[j]? = some a := List.getElem?_eq_some_iff.mpr ⟨hj, ej⟩
        have hjk : j < k := by rw [List.length_take] at hj; omega
        rw [List.getElem?_take_of_lt hjk] at hj2
        have := ix_uniq w.nd hj2 h1
        omega
      exact ClOk.kp (w.kp fw) (fun o eo => (f.keep a o eo nt).1) (w.ok i a x h1 h2)
end
section
variable {X : Cx} {cx : CXT} {lv : Nat} {fn : Addr} {dat : FuncData} {pars : List Str} {sp : Sp} {E : L2.St → XK} {nm : Str} {p1 p2 : Pos} {a0 : Expr} {as : List Expr} {ta : TA}
theorem passG : ∀ σ, PassesAt CX0 X σ (E σ) := fun _ _ _ _ _ _ _ z => z.elim
theorem runGS {pins : List (Addr × Obj)} {σ : L2.St} {H : Hp} {s : Shared} {Q : VK} {us : List Value} {xs : List V} {E1 : XK} (F : Rb.FnG X.prog X.w X.K X.mg X.base cx lv fn dat pars sp) (gd : X.A.guards = some []) (rm : Room lv X.A)
    (bi : Binds X.K dat pars []) (ps : PassesAt cx X σ E1) (I : Inv X pins σ H s) (vx : Vals xs us) (pro : sp xs H Q E1) :
    wpAny (model X.prog X.w) X.A (call (.ref fn) us) (EP X pins σ Q) X.xe s := by
  have l2 : (us ++ []).length = pars.length := by rw [List.append_nil]; exact vx.length ▸ F.many _ _ _ _ pro
  have b := bi s us I.kIn l2
  rw [List.append_nil] at b
  refine wpAny_call (codeAny_mono (F.goes X.A X.stack s H ⟨us, []⟩ us xs Q E1 rm gd I.env0 b vx pro) ?_)
  intro res s2 fin
  match res, fin with
  | .error e, fin => exact ps pins H s e s2 I fin
  | .ok (.ret u), fin => exact I.after fin
  | .ok .next, fin => exact (fin : False).elim
  | .ok .brk, fin => exact (fin : False).elim
  | .ok .cont, fin => exact (fin : False).elim
theorem pe_callGS (F : Rb.FnG X.prog X.w X.K X.mg X.base cx lv fn dat pars sp) (gd : X.A.guards = some []) (rm : Room lv X.A) (gl : Gl X nm) (at_ : X.mg nm = some (.ref fn)) (kp : PySem.W.keepIn X.K (.ref fn) = true)
    (bi : Binds X.K dat pars []) (ps : ∀ σ, PassesAt cx X σ (E σ)) (pa : PA X (a0 :: as) ta) (ndb : (nm == ("__debug__" : Str)) = false := by decide)
    (st1 : starEach (a0 :: as) X.env = (false, eval a0 X.env) :: starEach as X.env := by rfl) (st2 : (backTo p2 (starEach as X.env)).any (·.1) = false := by rfl) :
    PE X (.Call (.Name nm p1) (a0 :: as) [] p2) (tCallS sp E ta) := by
  constructor
  intro pins s σ H Q I pre
  refine wpAny_Call_Name_kw (ld_glob I gl at_ ?_ ndb)
  exact PySem.W.callWith_K (h₀ := X.base) I.ok.mod.kin kp (thn (pa.run p2 pins s σ H _ I pre) fun us s1 ⟨xs, H1, I1, rx, q1⟩ => ⟨I1.kIn, runGS F gd rm bi (ps σ) I1 rx q1⟩) st1 st2
end
section
variable {X : Cx} {E : L2.St → XK} {cx : CXT} {lv : Nat} {fn : Addr} {dat : FuncData} {pars : List Str} {nm : Str} {p1 p2 : Pos} {a0 : Expr} {as : List Expr} {FN : FF} {fa : FA}
theorem d_callW (F : Rb.FnG X.prog X.w X.K X.mg X.base cx lv fn dat pars (spF (ct X) FN)) (gd : X.A.guards = some []) (rm : Room lv X.A) (gl : Gl X nm) (at_ : X.mg nm = some (.ref fn)) (kp : PySem.W.keepIn X.K (.ref fn) = true)
    (bi : Binds X.K dat pars []) (ps : ∀ σ, PassesAt cx X σ (E σ)) (pa : PAd X E (a0 :: as) fa) (ndb : (nm == ("__debug__" : Str)) = false := by decide)
    (s1 : starEach (a0 :: as) X.env = (false, eval a0 X.env) :: starEach as X.env := by rfl) (s2 : (backTo p2 (starEach as X.env)).any (·.1) = false := by rfl) : PEd X E (.Call (.Name nm p1) (a0 :: as) [] p2) (dCallW FN fa) := by
  refine PE.imp (pe_callGS F gd rm gl at_ kp bi ps pa ndb s1 s2) fun σ H Q ⟨μ, S, ρ, Qd, Ed, w, en, hf, q, px⟩ => ?_
  refine tR_of w en hf px fun ds S1 vs H1 μ1 h1 f1 w1 en1 px1 r1 => ?_
  exact ⟨μ1, S1, ds, Qd, Ed, w1, r1, h1, PostV.fw q f1, px1⟩
theorem d_call (k : Nat) (F : Rb.FnG X.prog X.w X.K X.mg X.base cx lv fn dat pars (spF (ct X) FN)) (gd : X.A.guards = some []) (rm : Room lv X.A) (gl : Gl X nm) (at_ : X.mg nm = some (.ref fn)) (kp : PySem.W.keepIn X.K (.ref fn) = true)
    (bi : Binds X.K dat pars []) (ps : ∀ σ, PassesAt cx X σ (E σ)) (pa : PAd X E (a0 :: as) fa) (ndb : (nm == ("__debug__" : Str)) = false := by decide)
    (s1 : starEach (a0 :: as) X.env = (false, eval a0 X.env) :: starEach as X.env := by rfl) (s2 : (backTo p2 (starEach as X.env)).any (·.1) = false := by rfl) : PEd X E (.Call (.Name nm p1) (a0 :: as) [] p2) (dCall k FN fa) := by
  refine PE.imp (pe_callGS F gd rm gl at_ kp bi ps pa ndb s1 s2) fun σ H Q ⟨μ, S, ρ, Qd, Ed, w, en, hf, q, px⟩ => ?_
  refine tR_of w en hf px fun ds S1 vs H1 μ1 h1 f1 w1 en1 px1 r1 => ?_
  obtain ⟨⟨b1, b2⟩, h1⟩ := h1
  refine ⟨sub μ1 k, S1.take k, ds, _, _, w1.sub b2, r1.sub b1, h1, fun d S2 v H2 μ2 h2 f2 w2 r2 => ?_, fun e S2 cls dx H2 μ2 h2 f2 w2 r2 => ?_⟩
  · obtain ⟨f3, w3, rfl⟩ := w1.back f2 w2 h2.1
    exact q d _ v H2 μ1 h2.2 (f1.trans f3) w3 (r2.kp kp_unsub)
  · obtain ⟨f3, w3, rfl⟩ := w1.back f2 w2 h2.1
    refine px1 e _ cls dx H2 μ1 h2.2 f3 w3 ⟨r2.1, ?_⟩
    have r3 := r2.2
    split at r3
    · exact r3
    · obtain ⟨a, fv, z1, z2, z3⟩ := r3
      exact ⟨a, fv, z1, z2, z3.kp kp_unsub⟩
end
/-! ### what a def does -/
def startD (n : Nat) (ds : List D) : Rho := ds.map some ++ List.replicate (n - ds.length) none
theorem startD_env {c : Ct} {μ : Mu} {H : Hp} {N : List Str} {vs : List V} {ds : List D} (r : RpAll c μ H vs ds) : EnvR c μ H (L2.start N vs) (startD N.length ds) := by
  refine ⟨?_, fun i d h => ?_⟩
  · unfold L2.start startD
    rw [List.length_append, List.length_append, List.length_map, List.length_map, List.length_replicate, List.length_replicate, r.length]
  · unfold L2.start
    unfold startD at h
    have hl := r.length
    by_cases hi : i < ds.length
    · rw [List.getElem?_append_left (by rw [List.length_map]; exact hi), List.getElem?_map] at h
      obtain ⟨d', e1, e2⟩ := Option.map_eq_some_iff.mp h
      cases e2
      obtain ⟨v, e3, rv⟩ := r.at e1
      refine ⟨v, ?_, rv⟩
      rw [List.getElem?_append_left (by rw [List.length_map]; omega), List.getElem?_map, e3]
      rfl
    · rw [List.getElem?_append_right (by rw [List.length_map]; omega)] at h
      have := List.mem_of_getElem? h
      cases (List.mem_replicate.mp this).2
/-- a def without cells of its own, or one whose new cells stay -/
def dDef (np n : Nat) (fb : FS) : FF := fun ds S Q Ed => ds.length = np ∧ fb (startD n ds) S { nx := fun _ S' => Q .non S', rt := Q, bk := fun _ _ => False, ct := fun _ _ => False } noE
/-- .. that may raise -/
def dDefX (np n : Nat) (fb : FS) : FF := fun ds S Q Ed => ds.length = np ∧ fb (startD n ds) S { nx := fun _ S' => Q .non S', rt := Q, bk := fun _ _ => False, ct := fun _ _ => False } Ed
/-- a value that leaves a def whose cells, from n on, are gone -/
def frz (S : Sto) (n : Nat) : D → Option D
  | .cell k => if k < n then some (.cell k) else match S[k]? with
    | some (.lst xs) => if belowAll n xs = true then some (.lst false xs) else none
    | some (.ins x fs) => if belowFs n fs = true then some (.ins x fs) else none
    | none => none
  | d => if below n d = true then some d else none
/-- a def with cells of its own -/
def dDefC (np n : Nat) (fb : FS) : FF := fun ds S Q Ed => ds.length = np ∧ fb (startD n ds) S
  { nx := fun _ S' => ((S'.take S.length).length = S.length ∧ (S'.take S.length).all (Cl.below S.length) = true) ∧ Q .non (S'.take S.length),
    rt := fun d S' => ((S'.take S.length).length = S.length ∧ (S'.take S.length).all (Cl.below S.length) = true) ∧ onSome (frz S' S.length d) fun d' => Q d' (S'.take S.length), bk := fun _ _ => False, ct := fun _ _ => False } noE
section
variable {pr : Program} {wo : World} {K : PySem.W.Frag} {mg : Str → Option Value} {b0 : Heap} {lv : Nat} {x qn : Str} {st : Stmt} {fn : Addr} {dat : FuncData} {NN pars : List Str} {fb : FS}
theorem d_fn (F : Fun K x qn st fn dat) (S : FnScope NN pars (defScope st))
    (body : ∀ (cdv : Value) (A : Around) (out : List Env) (s : Shared) (H : Hp) (E : XK), A.guards = some [] → Room lv (A.deeper (envOfC qn (defScope st) s.heap.objs.size fn cdv)) → PBd (cxOf CX0 pr wo K mg b0 NN qn (defScope st) fn cdv A out s H E).nox E0 (defBody st) fb) :
    Rb.FnG pr wo K mg b0 CX0 (lv + 1) fn dat pars (spF (ct0 K mg) (dDef pars.length NN.length fb)) := by
  refine Rb.okG F S (fun xs H Q E pro => ?_) fun cdv A out s H xs Q E gd rm pro => ⟨_, body cdv A out s H E gd rm, ?_⟩
  · obtain ⟨μ, S, ds, Qd, Ed, w, r, ⟨hl, _⟩, _⟩ := pro
    rw [r.length]
    exact hl
  · obtain ⟨μ, S, ds, Qd, Ed, w, r, ⟨hl, h⟩, q, px⟩ := pro
    exact ⟨μ, S, _, _, noE, w, startD_env r, h, ⟨fun ρ' S' σ' H' μ' hq f w' en => q .non S' .non H' μ' hq f w' .non, q, fun _ _ _ _ _ z => z.elim, fun _ _ _ _ _ z => z.elim⟩, pxNo⟩
theorem Wd.drop {c : Ct} {μ μ' : Mu} {S S' : Sto} {H H' : Hp} (w : Wd c μ S H) (f : Fw μ H μ' H') (w' : Wd c μ' S' H') (hb : (S'.take S.length).all (Cl.below S.length) = true) :
    Fw μ H μ H' ∧ Wd c μ (S'.take S.length) H' ∧ (Kp c (Pu.sub μ' S.length) H' μ H') := by
  obtain ⟨t, e⟩ := f.pre
  have em : (Pu.sub μ' S.length).m = μ.m := by
    show μ'.m.take S.length = μ.m
    rw [e, ← w.len, List.take_append_of_le_length (Nat.le_refl _), List.take_length]
  have ws := w'.sub hb
  have av2 : ∀ {a : Addr}, a ∉ (Pu.sub μ' S.length).av → a ∉ μ.av := fun n z => n (List.mem_append_right _ (by rw [f.av]; exact z))
  have kp : Kp c (Pu.sub μ' S.length) H' μ H' := ⟨fun _ _ e => e, fun _ _ e n1 n2 => ⟨e, em ▸ n1, av2 n2⟩, fun _ _ e n1 n2 => ⟨e, em ▸ n1, av2 n2⟩, fun _ _ e n1 n2 => ⟨e, em ▸ n1, av2 n2⟩, fun _ _ _ _ e n1 n2 => ⟨e, em ▸ n1, av2 n2⟩, (fun n a h => by rw [← em]; exact h), fun _ _ e => e⟩
  refine ⟨⟨⟨[], by simp⟩, rfl, fun a o ea na => ⟨(f.keep a o ea na).1, na⟩⟩, ⟨w.nd, ?_, w.ap, fun a h => ?_, fun i a x h1 h2 => ClOk.kp kp (fun _ z => z) (ws.ok i a x (by rw [em]; exact h1) h2)⟩, kp⟩
  · rw [← em]; exact ws.len
  · exact ws.avs a (List.mem_append_right _ (by rw [f.av]; exact h))
theorem d_fnC (F : Fun K x qn st fn dat) (S : FnScope NN pars (defScope st))
    (body : ∀ (cdv : Value) (A : Around) (out : List Env) (s : Shared) (H : Hp) (E : XK), A.guards = some [] → Room lv (A.deeper (envOfC qn (defScope st) s.heap.objs.size fn cdv)) → PBd (cxOf CX0 pr wo K mg b0 NN qn (defScope st) fn cdv A out s H E).nox E0 (defBody st) fb) :
    Rb.FnG pr wo K mg b0 CX0 (lv + 1) fn dat pars (spF (ct0 K mg) (dDefC pars.length NN.length fb)) := by
  refine Rb.okG F S (fun xs H Q E pro => ?_) fun cdv A out s H xs Q E gd rm pro => ⟨_, body cdv A out s H E gd rm, ?_⟩
  · obtain ⟨μ, S, ds, Qd, Ed, w, r, ⟨hl, _⟩, _⟩ := pro
    rw [r.length]
    exact hl
  · obtain ⟨μ, S, ds, Qd, Ed, w, r, ⟨hl, h⟩, q, px⟩ := pro
    refine ⟨μ, S, _, _, noE, w, startD_env r, h, ⟨fun ρ' S' σ' H' μ' hq f w' en => ?_, fun d S' v H' μ' hq f w' rv => ?_, fun _ _ _ _ _ z => z.elim, fun _ _ _ _ _ z => z.elim⟩, pxNo⟩
    · obtain ⟨f2, w2, _⟩ := w.drop f w' hq.1.2
      exact q .non _ .non H' μ hq.2 f2 w2 .non
    · obtain ⟨⟨_, hb⟩, hq⟩ := hq
      obtain ⟨f2, w2, kp⟩ := w.drop f w' hb
      obtain ⟨d', e, hq⟩ := onSome_of hq
      refine q d' _ v H' μ hq f2 w2 ?_
      unfold frz at e
      split at e
      · rename_i k
        split at e
        · rename_i hk
          cases e
          exact (rv.sub (k := S.length) (decide_eq_true hk)).kp kp
        · rename_i hk
          cases rv with
          | @cell k2 a hm =>
          have hmem := List.mem_of_getElem? hm
          have nm : a ∉ μ.m := fun z => by
            obtain ⟨t, et⟩ := f.pre
            obtain ⟨j, hj, ej⟩ := List.getElem_of_mem z
            have hj2 : μ'.m[j]? = some (μ.m[j]) := by rw [et, List.getElem?_append_left hj]; exact List.getElem?_eq_getElem hj
            rw [ej] at hj2
            have := ix_uniq w'.nd hj2 hm
            have := w.len
            omega
          split at e
          · rename_i ys e1
            split at e
            · rename_i hb2
              cases e
              obtain ⟨vs, h1, h2⟩ := w'.ok k _ _ hm e1
              exact .lst h1 nm (fun z => w'.ap _ hmem (by rw [f.av]; exact z)) (fun z => nomatch z) ((h2.sub hb2).kp kp)
            · cases e
          · rename_i y gs e1
            split at e
            · rename_i hb2
              cases e
              obtain ⟨C, dx, fv, h1, h2, h3⟩ := w'.ok k _ _ hm e1
              exact .ins h1 nm (fun z => w'.ap _ hmem (by rw [f.av]; exact z)) h2 ((h3.sub hb2).kp kp)
            · cases e
          · cases e
      · split at e
        · rename_i hb2
          cases e
          exact (rv.sub hb2).kp kp
        · cases e
end
/-- from what the law's own meaning gives to the row's claim -/
theorem endP {l : PySem.W.OpenLaw} {n lv : Nat} {q : Program} {loose : List Str} {XP : (Str → Option Value) → Heap → Prop} {YP : World → Heap → Prop} {d : DefRec} {KK : Params → PySem.W.Frag} {FL : FF} {x : Str}
    (most : l.most = some n) (few : n ≤ sizeLine) (nodef : d.params.defaults = []) (rm : Room lv callerA) (inY : ∀ (w : World) (h : Heap), YP w h → (KK w.params).In h)
    (F : ∀ (w : World) (mg : Str → Option Value) (fn : Addr) (h : Heap), (KK w.params).In h → h.Ns mainGlobals mg → mg d.name = some (.ref fn) →
      ∃ dat : FuncData, (∀ (s : Shared) (u : Value), BindsTo s dat ⟨[u], []⟩ [(x, u)]) ∧ ∀ b0 : Heap, (KK w.params).In b0 → b0.Ns mainGlobals mg → Rb.FnG l.prog w (KK w.params) mg b0 CX0 lv fn dat [x] (spF (ct0 (KK w.params) mg) FL))
    (law : ∀ ns : List Int, ns.length ≤ n → FL [.kls (ns.map D.int)] [] (fun d _ => d = .bl true) noE) :
    PySem.W.WalkO q loose XP YP l.row.toRowW d [] (fun f vs => PySem.call f vs) := by
  refine Att.attach_call most nodef ?_
  intro w s0 s1 mg mb fn o pm cd dc a us ns G Y at_ dd cdd gm ob ia ln ge
  obtain ⟨dat, bi, ok⟩ := F w mg fn _ (inY w _ Y) G.T.g gm
  refine Rb.lawG (inY w _ Y) G.T.g G.T.b G.T.builtins G.T.nolimit ge ob ia (Nat.le_trans ln few) rm ok bi fun H sq => ?_
  refine ⟨⟨[], []⟩, [], _, _, noE, ⟨List.nodup_nil, rfl, (fun _ z => nomatch z), (fun _ z => nomatch z), fun _ _ _ z => nomatch z⟩, .cons ?_ .nil, law ns ln, fun d S' v H' μ' hq _ _ r => ?_, pxNo⟩
  · rcases sq with sq | ⟨o, its, k, h1, h2, h3, h4, h5, h6⟩
    · exact .kls sq (fun z => nomatch z) (fun z => nomatch z) (RpAll.ofInts ns)
    · exact .klsK o its k h1 h2 h3 h4 h5 h6 (RpAll.ofInts ns)
  · cases (hq : d = .bl true)
    exact r.bl_inv
end Pu
namespace Pu
open PySem PySem.Spec PyProof.Rows L2
/-! ## small dicts, list(range(n)), tuple(range(n)) -/
section
variable {X : Cx} {E : L2.St → XK} {pos : Pos} {a : Expr} {fe : FE}
theorem PostV.dic {c : Ct} {μ : Mu} {S : Sto} {H : Hp} {Qd : QD} {Q : VK} (q : PostV c μ H Qd Q) (w : Wd c μ S H) {ps : List (Str × Int)} (h : Qd (.dic ps) S) {p : Addr} (hp : H p = none) : Q (.ref p) (upd H p (.dK (Rb.dicV ps))) :=
  q _ S _ _ μ h (Fw.new hp) (w.new hp) (.dic upd_same (w.fresh hp) fun z => w.avs p z hp)
theorem d_dic0 : PEd X E (.Dict [] [] pos) (dC (.dic [])) :=
  PE.imp pe_dnewK fun σ H Q ⟨μ, S, ρ, Qd, Ed, w, en, hf, q, px⟩ p hp => PostV.dic (ps := []) q w hf hp
def rngOk (n : Int) : Prop := 0 ≤ n ∧ n ≤ 16777216
theorem rngOk.of {n : Int} (h : rngOk n) : RgOk 0 n := RgOk.of_le (Int.le_refl _) h.2 (by decide) h.1
variable {p p2 p3 : Pos}
end
end Pu
namespace Pu
open PySem PySem.Spec PyProof.Rows L2
/-! ## code that is never come to -/
def dNever : FS := fun _ _ _ _ => False
section
variable {X : Cx} {E : XK} {st : Stmt}
theorem d_never : PSd X E st dNever := PS.imp ps_never fun D σ H ⟨μ, S, ρ, De, Ed, w, en, hf, k, px⟩ => hf
end
/-! ## sorted(set(t)), t a tuple of ints -/
/-! ## defs with *rest -/
end Pu
namespace Pu
open PySem PySem.Spec PyProof.Rows L2
/-! ## min of a tuple or a list -/
/-! ## while -/
/-! ## remove, extend, pop() on a list that is a cell -/
/-! ## repr and == that are not looked into -/
@[irreducible] def iRepr : List D → Sto → QD → Prop := gRepr
@[irreducible] def iEqB (neg : Bool) : G2 := gEqB neg
abbrev iEq : G2 := iEqB false
abbrev iNe : G2 := iEqB true
theorem iRepr_of {ds : List D} {S : Sto} {Q : QD} (h : gRepr ds S Q) : iRepr ds S Q := by
  unfold iRepr
  exact h
theorem iEqB_of {neg : Bool} {x y : D} {S : Sto} {Q : QD} (h : gEqB neg x y S Q) : iEqB neg x y S Q := by
  unfold iEqB
  exact h
theorem eq_str {neg : Bool} {a b : Str} {S : Sto} {Q : QD} (q : Q (.bl (nb neg (decide (a = b)))) S) : iEqB neg (.str a) (.str b) S Q := iEqB_of q
theorem eq_int {neg : Bool} {a b : Int} {S : Sto} {Q : QD} (q : Q (.bl (nb neg (decide (a = b)))) S) : iEqB neg (.int a) (.int b) S Q := iEqB_of q
theorem ne_str {neg : Bool} {a b : Str} {S : Sto} {Q : QD} (e : a = b) (q : Q (.bl (nb neg true)) S) : iEqB neg (.str a) (.str b) S Q := eq_str (by rw [decide_eq_true e]; exact q)
theorem ne_int {neg : Bool} {a b : Int} {S : Sto} {Q : QD} (e : a = b) (q : Q (.bl (nb neg true)) S) : iEqB neg (.int a) (.int b) S Q := eq_int (by rw [decide_eq_true e]; exact q)
section
variable {X : Cx}
theorem c_irepr (hg : X.A.guards = some []) (hu : X.A.units + 64 < cLine) : CallR X (.builtin "repr") (rDs (ct X) iRepr) := by
  unfold iRepr
  exact c_repr hg hu
theorem o_ieq (hu : X.A.units + 64 < cLine) : OpR X (compareOp .Eq) (rD2 (ct X) iEq) := by
  unfold iEq iEqB
  exact o_eq hu
theorem o_ine (hu : X.A.units + 64 < cLine) : OpR X (compareOp .NotEq) (rD2 (ct X) iNe) := by
  unfold iNe iEqB
  exact o_ne hu
end
/-! ## enumerate of a tuple or of a list -/
end Pu
namespace Pu
open PySem PySem.Spec PyProof.Rows L2
/-! ## instances: fields, methods, properties, new ones -/
def insAt : Option Cl → Option (Str × List (Str × D))
  | some (.ins x fs) => some (x, fs)
  | _ => none
theorem insAt_inv {o : Option Cl} {x : Str} {fs : List (Str × D)} (h : insAt o = some (x, fs)) : o = some (.ins x fs) := by
  cases o with
  | none => cases h
  | some y =>
    cases y with
    | lst _ => cases h
    | ins _ _ => cases h; rfl
def insOf (S : Sto) : D → Option (Str × List (Str × D))
  | .cell n => insAt S[n]?
  | .ins x fs => some (x, fs)
  | _ => none
def cellIns (S : Sto) : D → Option (Nat × Str × List (Str × D))
  | .cell n => (insAt S[n]?).map fun p => (n, p.1, p.2)
  | _ => none
/-- the field by its name -/
def lookF (f : Str) : List (Str × D) → Option D
  | [] => none
  | (g, d) :: r => if g = f then some d else lookF f r
def putD (f : Str) (v : D) : List (Str × D) → List (Str × D)
  | [] => [(f, v)]
  | (g, x) :: r => if g = f then (g, v) :: r else (g, x) :: putD f v r
section
variable {c : Ct} {μ : Mu} {S : Sto} {H : Hp} {v : V} {d : D} {f : Str}
theorem Rp.insT (w : Wd c μ S H) (r : Rp c μ H v d) {x : Str} {fs : List (Str × D)} (e : insOf S d = some (x, fs)) : ∃ a C dx fv, v = .ref a ∧ H a = some (.ins C dx fv) ∧ c.mg x = some (.ref C) ∧ RpFs c μ H fv fs := by
  cases r with
  | ins h _ _ g rf => cases e; exact ⟨_, _, _, _, rfl, h, g, rf⟩
  | @cell n a hm =>
    obtain ⟨C, dx, fv, h1, h2, h3⟩ := w.ok n _ _ hm (insAt_inv e)
    exact ⟨_, C, dx, fv, rfl, h1, h2, h3⟩
  | _ => cases e
theorem Wd.cellI (w : Wd c μ S H) (r : Rp c μ H v d) {n : Nat} {x : Str} {fs : List (Str × D)} (e : cellIns S d = some (n, x, fs)) : ∃ a C dx fv, v = .ref a ∧ μ.m[n]? = some a ∧ H a = some (.ins C dx fv) ∧ c.mg x = some (.ref C) ∧ RpFs c μ H fv fs := by
  cases r with
  | @cell k a hm =>
    obtain ⟨p, h, e2⟩ := Option.map_eq_some_iff.mp (show (insAt S[k]?).map (fun p => (k, p.1, p.2)) = some (n, x, fs) from e)
    obtain ⟨y, gs⟩ := p
    cases e2
    obtain ⟨C, dx, fv, h1, h2, h3⟩ := w.ok _ _ _ hm (insAt_inv h)
    exact ⟨_, C, dx, fv, rfl, hm, h1, h2, h3⟩
  | _ => cases e
theorem RpFs.look : ∀ {fv : List (Str × V)} {fs : List (Str × D)} {d : D}, RpFs c μ H fv fs → lookF f fs = some d → ∃ v, fv.lookup f = some v ∧ Rp c μ H v d
  | _, _, _, .nil, e => by cases e
  | _, _, _, .cons (f := g) h r, e => by
    unfold lookF at e
    by_cases z : g = f
    · rw [if_pos z] at e
      cases e
      refine ⟨_, ?_, h⟩
      rw [List.lookup_cons, show (f == g) = true by rw [z]; exact beq_self_eq_true f]
    · rw [if_neg z] at e
      obtain ⟨v, e1, e2⟩ := RpFs.look r e
      refine ⟨v, ?_, e2⟩
      rw [List.lookup_cons, show (f == g) = false by exact beq_eq_false_iff_ne.mpr fun q => z q.symm]
      exact e1
theorem RpFs.none : ∀ {fv : List (Str × V)} {fs : List (Str × D)}, RpFs c μ H fv fs → lookF f fs = none → fv.lookup f = none
  | _, _, .nil, _ => rfl
  | _, _, .cons (f := g) h r, e => by
    unfold lookF at e
    by_cases z : g = f
    · rw [if_pos z] at e
      cases e
    · rw [if_neg z] at e
      rw [List.lookup_cons, show (f == g) = false by exact beq_eq_false_iff_ne.mpr fun q => z q.symm]
      exact RpFs.none r e
theorem RpFs.length : ∀ {fv : List (Str × V)} {fs : List (Str × D)}, RpFs c μ H fv fs → fv.length = fs.length
  | _, _, .nil => rfl
  | _, _, .cons _ r => congrArg Nat.succ (RpFs.length r)
theorem RpFs.put {y : V} {e : D} (ry : Rp c μ H y e) : ∀ {fv : List (Str × V)} {fs : List (Str × D)}, RpFs c μ H fv fs → RpFs c μ H (putF f y fv) (putD f e fs)
  | _, _, .nil => .cons ry .nil
  | _, _, .cons (f := g) h r => by
    unfold putF putD
    by_cases z : g = f
    · rw [if_pos z, if_pos z]
      exact .cons ry r
    · rw [if_neg z, if_neg z]
      exact .cons h (RpFs.put ry r)
theorem RpFs.fw {μ' : Mu} {H' : Hp} {fv : List (Str × V)} {fs : List (Str × D)} (r : RpFs c μ H fv fs) (w : Wd c μ S H) (g : Fw μ H μ' H') : RpFs c μ' H' fv fs := r.kp (w.kp g)
end
/-! ### fields -/
/-- of a class of the row: its instances are plain, the name is no attribute of it -/
def ClF (K : PySem.W.Frag) (mg : Str → Option Value) (f x : Str) : Prop := ∀ C, mg x = some (.ref C) → Cls K C ∧ NoAttr K C f
def dFld (xs : List Str) (f : Str) (fo : FE) : FE := fun ρ S Q Ed => fo ρ S (fun d S1 => onSome (insOf S1 d) fun cf => xs.contains cf.1 = true ∧ onSome (lookF f cf.2) fun v => Q v S1) Ed
def dStF (xs : List Str) (f : Str) (fo fe : FE) : FS := fun ρ S De Ed => fe ρ S (fun v S1 => fo ρ S1 (fun d S2 => onSome (cellIns S2 d) fun q => (xs.contains q.2.1 = true ∧ q.2.2.length ≤ 500) ∧ De.nx ρ (S2.set q.1 (.ins q.2.1 (putD f v q.2.2)))) Ed) Ed
section
variable {X : Cx} {E : L2.St → XK} {E1 : XK} {e o value : Expr} {fo fe : FE} {f : Str} {xs : List Str} {pos pos' : Pos}
theorem mem_of_contains {x : Str} (h : xs.contains x = true) : x ∈ xs := List.contains_iff_mem.mp h
theorem d_fld (hx : ∀ x ∈ xs, ClF X.K X.mg f x) (he : PEd X E e fo) (hab : attributeBase e f X.env (eval e X.env) = eval e X.env := by rfl) : PEd X E (.Attribute e f pos) (dFld xs f fo) := by
  refine PE.imp (pe_fld he hab) fun σ H Q ⟨μ, S, ρ, Qd, Ed, w, en, hf, q, px⟩ => ?_
  refine tR_of w en hf px fun d S1 v H1 μ1 h1 f1 w1 en1 px1 r1 => ?_
  obtain ⟨⟨x, fs⟩, e1, hc, h1⟩ := onSome_of h1
  obtain ⟨u, e2, hq⟩ := onSome_of h1
  obtain ⟨a, C, dx, fv, rfl, ha, hm, rf⟩ := r1.insT w1 e1
  obtain ⟨y, e3, ry⟩ := rf.look e2
  obtain ⟨c1, c2⟩ := hx x (mem_of_contains hc) C hm
  exact ⟨a, C, dx, fv, y, rfl, ha, c1, c2, e3, q u S1 y H1 μ1 hq f1 w1 ry⟩
theorem d_stF (hx : ∀ x ∈ xs, ClF X.K X.mg f x) (ho : PEd X (cE E1) o fo) (hv : PEd X (cE E1) value fe) (hs : swapsWith value (some (.Attribute o f pos')) pos.line X.env = pure false := by rfl) : PSd X E1 (.Assign [.Attribute o f pos'] value pos) (dStF xs f fo fe) := by
  refine PS.imp (ps_fld ho hv hs) fun D σ H ⟨μ, S, ρ, De, Ed, w, en, hf, k, px⟩ => ?_
  refine tR_of w en hf px fun y S1 vy H1 μ1 h1 f1 w1 en1 px1 r1 => ?_
  refine tR_of w1 en1 h1 px1 fun d S2 v H2 μ2 h2 f2 w2 en2 px2 r2 => ?_
  obtain ⟨⟨n, x, fs⟩, e1, ⟨hc, hl⟩, hq⟩ := onSome_of h2
  obtain ⟨a, C, dx, fv, rfl, hm, ha, hg, rf⟩ := w2.cellI r2 e1
  obtain ⟨c1, c2⟩ := hx x (mem_of_contains hc) C hg
  have hl' : fs.length ≤ 500 := hl
  refine ⟨a, C, dx, fv, rfl, ha, c1, c2, by rw [rf.length]; omega, ?_⟩
  have fw : Fw μ2 H2 μ2 (upd H2 a (.ins C dx (putF f vy fv))) := Fw.write (List.mem_of_getElem? hm)
  exact k.nx ρ _ σ _ μ2 hq (f1.trans (f2.trans fw)) (w2.set hm ⟨C, dx, _, upd_same, hg, (RpFs.put (r1.fw w1 f2) rf).fw w2 fw⟩) (en2.fw w2 fw)
end
/-! ### a constant of the class -/
/-! ### methods: the def by the object's class -/
def tabF : List (Str × FF) → Str → Option FF
  | [], _ => none
  | (y, F) :: r, x => if y = x then some F else tabF r x
theorem tabF_mem : ∀ {tab : List (Str × FF)} {x : Str} {F : FF}, tabF tab x = some F → (x, F) ∈ tab
  | [], _, _, h => by cases h
  | (y, G) :: r, x, F, h => by
    unfold tabF at h
    by_cases z : y = x
    · rw [if_pos z] at h
      cases h
      rw [z]
      exact List.mem_cons_self
    · rw [if_neg z] at h
      exact List.mem_cons_of_mem _ (tabF_mem h)
end Pu
namespace Pu
open PySem PySem.Spec PyProof.Rows L2
/-! ## properties, new instances -/
section
variable {X : Cx} {k : Nat} {C p g a dx : Addr} {fs : List (Str × V)} {f : Str} {fd : FuncData} {ps : List Str} {sp : Sp} {E : XK}
theorem getpropG {pins : List (Addr × Obj)} {σ : L2.St} {H : Hp} {s : Shared} {Q : VK} {b : Bool} {E' : Value → Shared → Prop} (I : Inv X pins σ H s) (ea : H a = some (.ins C dx fs)) (c : Cls X.K C) (hp : PropOf X.K C f p g)
    (F : Rb.FnG X.prog X.w X.K X.mg X.base CX0 k g fd ps sp) (gd : X.A.guards = some []) (hr : Room (k + 1) X.A) (hb : Binds X.K fd ps []) (h : sp [.ref a] H Q E) : wpAny (model X.prog X.w) X.A (getAttr (.ref a) f b) (EP X pins σ Q) E' s := by
  obtain ⟨mm, ob, _, _, _, _⟩ := ins_get I.hok ea
  obtain ⟨od, J, _⟩ := ob.look
  obtain ⟨more, hrc⟩ := hp.rec_
  have J1 := I.tok (s.toks + 1)
  have hl : ([Value.ref a] ++ []).length = ps.length := by
    rw [← F.many _ _ _ _ h]
    rfl
  have hcl : (PySem.W.clsIn X.K C).isSome = true := by
    obtain ⟨cda, hcl, _⟩ := PySem.W.any_some c.hd
    rw [hcl]
    rfl
  refine PySem.W.get_bind I.kIn J (PySem.W.plainGet_of (c.get f)).1 (PySem.W.findObj_data hcl hp.at_ hp.get hp.tak) (PySem.W.plainGet_of (c.get f)).2 (wpAny_call (PySem.W.prop_get (s := { s with toks := s.toks + 1 }) I.kIn hrc ?_))
  refine codeAny_mono (F.goes X.A.in1 X.stack { s with toks := s.toks + 1 } H ⟨[.ref a], []⟩ [.ref a] [.ref a] Q E hr.in1 gd J1.env0.in1 (by have := hb _ [.ref a] J1.kIn hl; rw [List.append_nil] at this; exact this) (.cons rfl .nil) h) fun r s' hqq => ?_
  cases r with
  | error er => exact False.elim hqq
  | ok fl =>
    cases fl with
    | ret u =>
      obtain ⟨v, H', J3, rvv, qq3⟩ := J1.after hqq
      show wpAny _ X.A (handedOut u) _ _ _
      rw [PySem.W.handedOut_of (handed_of rvv)]
      exact wpAny_pure ⟨v, H', J3, rvv, qq3⟩
    | next => exact False.elim hqq
    | brk => exact False.elim hqq
    | cont => exact False.elim hqq
end
/-- of a class of the row: the name is a property whose getter means F -/
def PF (P : Program) (wo : World) (K : PySem.W.Frag) (mg : Str → Option Value) (b0 : Heap) (lv : Nat) (f : Str) (x : Str) (F : FF) : Prop :=
  ∀ C, mg x = some (.ref C) → ∃ p fn dat pars, Cls K C ∧ PropOf K C f p fn ∧ Rb.FnG P wo K mg b0 CX0 lv fn dat pars (spF (ct0 K mg) F) ∧ Binds K dat pars []
def dProp (tab : List (Str × FF)) (fo : FE) : FE := fun ρ S Q Ed => fo ρ S (fun d S1 => onSome (insOf S1 d) fun cf => onSome (tabF tab cf.1) fun F => F [d] S1 Q Ed) Ed
section
variable {X : Cx} {lv : Nat} {E : L2.St → XK} {e : Expr} {fo : FE} {f : Str} {tab : List (Str × FF)} {pos : Pos}
theorem d_prop (hct : ct X = ct0 X.K X.mg) (hx : ∀ p ∈ tab, PF X.prog X.w X.K X.mg X.base lv f p.1 p.2) (gd : X.A.guards = some []) (rm : Room (lv + 1) X.A) (he : PEd X E e fo)
    (hab : attributeBase e f X.env (eval e X.env) = eval e X.env := by rfl) : PEd X E (.Attribute e f pos) (dProp tab fo) := by
  refine ⟨fun pins s σ H Q I ⟨μ, S, ρ, Qd, Ed, w, en, hf, q, px⟩ => ?_⟩
  refine attr_of hab (thn (he.run pins s σ H (fun v H1 => ∃ a C dx fv p fn dat pars F d μ1 S1, v = .ref a ∧ H1 a = some (.ins C dx fv) ∧ Cls X.K C ∧ PropOf X.K C f p fn ∧ Rb.FnG X.prog X.w X.K X.mg X.base CX0 lv fn dat pars (spF (ct X) F) ∧ Binds X.K dat pars [] ∧
      Wd (ct X) μ1 S1 H1 ∧ Rp (ct X) μ1 H1 v d ∧ F [d] S1 Qd Ed ∧ PostV (ct X) μ1 H1 Qd Q ∧ PX (ct X) μ1 H1 Ed (E σ)) I ?_) fun u s1 hu => ?_)
  · refine tR_of w en hf px fun d S1 v H1 μ1 h1 f1 w1 en1 px1 r1 => ?_
    obtain ⟨⟨x, fs⟩, e1, h1⟩ := onSome_of h1
    obtain ⟨F, e2, h1⟩ := onSome_of h1
    obtain ⟨a, C, dx, fv, rfl, ha', hm, rf⟩ := id (r1.insT w1 e1)
    obtain ⟨p, fn, dat, pars, c1, c2, c3, c4⟩ := hx _ (tabF_mem e2) C hm
    rw [← hct] at c3
    exact ⟨a, C, dx, fv, p, fn, dat, pars, F, d, μ1, S1, rfl, ha', c1, c2, c3, c4, w1, r1, h1, PostV.fw q f1, px1⟩
  · obtain ⟨x, H1, J1, rel, a, C, dx, fv, p, fn, dat, pars, F, d, μ1, S1, rfl, ea, c1, c2, c3, c4, w1, r1, h1, q1, px1⟩ := hu
    obtain rfl : u = Value.ref a := rel
    exact getpropG J1 ea c1 c2 c3 gd rm c4 ⟨μ1, S1, [d], Qd, Ed, w1, .cons r1 .nil, h1, q1, px1⟩
end
/-! ### C(..) -/
section
variable {X : Cx} {cx : CXT} {k : Nat} {C f : Addr} {fd : FuncData} {ps : List Str} {sp : Sp} {E : XK}
theorem run_makeG {pins : List (Addr × Obj)} {σ : L2.St} {H : Hp} {s : Shared} {Q : VK} {us : List Value} {vs : List V} (M : Mk X.K C f) (F : Rb.FnG X.prog X.w X.K X.mg X.base cx k f fd ps sp) (gd : X.A.guards = some []) (hr : Room (k + 1) X.A) (hb : Binds X.K fd ps [])
    (hx : PassesAt cx X σ E) (I : Inv X pins σ H s) (r : Vals vs us)
    (h : ∀ x dx, H x = none → H dx = none → dx ≠ x → sp (.ref x :: vs) (upd (upd H dx (.own x)) x (.ins C dx [])) (fun v H2 => v = .non ∧ Q (.ref x) H2) E) : wpAny (model X.prog X.w) X.A (call (.ref C) us) (EP X pins σ Q) X.xe s := by
  have hqq := h (s.heap.objs.size + 1) s.heap.objs.size (I.hok.fresh (Nat.le_succ _)) (I.hok.fresh (Nat.le_refl _)) (Nat.ne_of_lt (Nat.lt_succ_self _))
  have J2 := Inv.made (C := C) I
  have rr2 : Vals (V.ref (s.heap.objs.size + 1) :: vs) (Value.ref (s.heap.objs.size + 1) :: us) := .cons rfl r
  have hl : (Value.ref (s.heap.objs.size + 1) :: us ++ []).length = ps.length := by
    rw [List.append_nil]
    have e := rr2.length
    rw [F.many _ _ _ _ hqq] at e
    exact e.symm
  have b := hb { s with heap := _ } (Value.ref (s.heap.objs.size + 1) :: us) J2.kIn hl
  rw [List.append_nil] at b
  refine wpAny_call (make_map (f := f) I.kIn M.makes M.init (beq_iff_eq.mp M.fn) (codeAny_mono (F.goes _ X.stack _ _ ⟨Value.ref (s.heap.objs.size + 1) :: us, []⟩ (Value.ref (s.heap.objs.size + 1) :: us) _ _ E (hr.make C us []) ?_
    (J2.env0.make C us []) b rr2 hqq) fun r s' hqz => ?_))
  · have e : (X.A.under (.builtin "type.__call__" ⟨Value.ref C :: us, []⟩)).guards = X.A.guards := by
      have z : (Code.builtin "type.__call__" ⟨Value.ref C :: us, []⟩).guards = [] := by
        unfold Code.guards
        rw [show (Code.builtin "type.__call__" ⟨Value.ref C :: us, []⟩).isGuard = false by with_unfolding_all rfl]
        rfl
      unfold Around.under
      simp only [z]
      cases X.A.guards <;> rfl
    rw [e]
    exact gd
  cases r with
  | error e => exact hx pins _ _ e s' J2 hqz
  | ok fl =>
    cases fl with
    | ret u =>
      obtain ⟨v, H', J3, rvv, ev, qq3⟩ := J2.after hqz
      subst ev
      exact ⟨rvv, ⟨V.ref (s.heap.objs.size + 1), H', J3, rfl, qq3⟩⟩
    | next => exact False.elim hqz
    | brk => exact False.elim hqz
    | cont => exact False.elim hqz
end
/-- of a class of the row: its __init__ means F -/
def MkF (P : Program) (wo : World) (K : PySem.W.Frag) (mg : Str → Option Value) (b0 : Heap) (cx : CXT) (lv : Nat) (C : Addr) (F : FF) : Prop :=
  ∃ fn dat pars, Mk K C fn ∧ Rb.FnG P wo K mg b0 cx lv fn dat pars (spF (ct0 K mg) F) ∧ Binds K dat pars []
def dMake (x : Str) (F : FF) (fa : FA) : FE := fun ρ S Q Ed => fa ρ S (fun ds S1 => F (.cell S1.length :: ds) (S1 ++ [.ins x []]) (fun d S2 => d = .non ∧ Q (.cell S1.length) S2) Ed) Ed
section
variable {X : Cx} {cx : CXT} {lv : Nat} {E : L2.St → XK} {C : Addr} {F : FF} {x : Str} {e : Expr} {es : List Expr} {fa : FA} {p pos : Pos}
theorem d_make (hct : ct X = ct0 X.K X.mg) (hC : MkF X.prog X.w X.K X.mg X.base cx lv C F) (gd : X.A.guards = some []) (rm : Room (lv + 1) X.A) (hg : Gl X x) (hm : X.mg x = some (.ref C)) (ps : ∀ σ, PassesAt cx X σ (E σ)) (ha : PAd X E (e :: es) fa)
    (ndb : (x == ("__debug__" : Str)) = false := by decide) (he : starEach (e :: es) X.env = (false, eval e X.env) :: starEach es X.env := by rfl) (hpl : (backTo pos (starEach es X.env)).any (·.1) = false := by rfl) :
    PEd X E (.Call (.Name x p) (e :: es) [] pos) (dMake x F fa) := by
  obtain ⟨fn, dat, pars, M, G, B⟩ := hC
  rw [← hct] at G
  refine ⟨fun pins s σ H Q I ⟨μ, S, ρ, Qd, Ed, w, en, hf, q, px⟩ => ?_⟩
  refine wpAny_Call_Name_kw (ld_glob I hg hm ?_ ndb)
  refine PySem.W.callWith_K (h₀ := X.base) I.ok.mod.kin M.kp (thn (ha.run pos pins s σ H (fun vs H1 => ∀ a dx, H1 a = none → H1 dx = none → dx ≠ a → spF (ct X) F (.ref a :: vs) (upd (upd H1 dx (.own a)) a (.ins C dx [])) (fun v H2 => v = .non ∧ Q (.ref a) H2) (E σ)) I ?_) fun us s1 ⟨vs, H1, J1, r, q1⟩ => ⟨J1.kIn, run_makeG M G gd rm B (ps σ) J1 r q1⟩) he hpl
  refine tR_of w en hf px fun ds S1 vs H1 μ1 h1 f1 w1 en1 px1 r1 a dx na nd ne => ?_
  have fA : Fw μ1 H1 μ1 (upd H1 dx (.own a)) := Fw.new nd
  have wA := w1.new (o := .own a) nd
  have na2 : upd H1 dx (HO.own a) a = none := by rw [upd_ne (Ne.symm ne)]; exact na
  have fB : Fw μ1 (upd H1 dx (.own a)) ⟨μ1.m ++ [a], μ1.av⟩ (upd (upd H1 dx (.own a)) a (.ins C dx [])) := Fw.newC na2
  have wB : Wd (ct X) ⟨μ1.m ++ [a], μ1.av⟩ (S1 ++ [.ins x []]) (upd (upd H1 dx (.own a)) a (.ins C dx [])) := wA.newC na2 ⟨C, dx, [], upd_same, hm, .nil⟩
  have rc : Rp (ct X) ⟨μ1.m ++ [a], μ1.av⟩ (upd (upd H1 dx (.own a)) a (.ins C dx [])) (.ref a) (.cell S1.length) := .cell (by
    show (μ1.m ++ [a])[S1.length]? = some a
    rw [← w1.len, List.getElem?_append_right (Nat.le_refl _), Nat.sub_self]
    rfl)
  refine ⟨⟨μ1.m ++ [a], μ1.av⟩, _, _, _, Ed, wB, .cons rc ((r1.fw w1 fA).fw wA fB), h1, fun d S' v H' μ' hqq fw w' r' => ?_, (px1.fw fA).fw fB⟩
  obtain ⟨rfl, hqq⟩ := hqq
  cases r'
  exact ⟨rfl, q _ S' _ H' μ' hqq (f1.trans (fA.trans (fB.trans fw))) w' (rc.fw wB fw)⟩
end
end Pu
namespace Pu
open PySem PySem.Spec PyProof.Rows L2
/-! ## values without a held error -/
mutual
def noX : D → Bool
  | .exc _ _ => false
  | .tup xs => noXs xs
  | .lst _ xs => noXs xs
  | .kls xs => noXs xs
  | .ins _ fs => noXf fs
  | _ => true
def noXs : List D → Bool
  | [] => true
  | x :: xs => noX x && noXs xs
def noXf : List (Str × D) → Bool
  | [] => true
  | (_, x) :: xs => noX x && noXf xs
end
/-- the same row, more errors held -/
structure CtLe (c c' : Ct) : Prop where
  K : c.K = c'.K
  mg : c.mg = c'.mg
  hx : ∀ a z, c.hx a = some z → c'.hx a = some z
section
variable {c c' : Ct} {μ : Mu} {H : Hp}
mutual
theorem Rp.ct (k : CtLe c c') : ∀ {v : V} {d : D}, Rp c μ H v d → Rp c' μ H v d
  | _, _, .non => .non
  | _, _, .bl b => .bl b
  | _, _, .int i => .int i
  | _, _, .str x => .str x
  | _, _, .tup h r => .tup h (RpAll.ct k r)
  | _, _, .lst h n1 n2 n3 r => .lst h n1 n2 n3 (RpAll.ct k r)
  | _, _, .kls h n1 n2 r => .kls h n1 n2 (RpAll.ct k r)
  | _, _, .klsK o its n h1 h2 h3 h4 h5 h6 r => .klsK o its n (k.K ▸ h1) h2 h3 h4 h5 h6 (RpAll.ct k r)
  | _, _, .dic h n n2 => .dic h n n2
  | _, _, .cell h => .cell h
  | _, _, .glo h r => .glo (k.mg ▸ h) r
  | _, _, .ty n => .ty n
  | _, _, .ins h n n2 g r => .ins h n n2 (k.mg ▸ g) (RpFs.ct k r)
  | _, _, .exc0 h g => .exc0 (k.hx _ _ h) (k.mg ▸ g)
  | _, _, .exc1 h g e r => .exc1 (k.hx _ _ h) (k.mg ▸ g) e (RpFs.ct k r)
theorem RpAll.ct (k : CtLe c c') : ∀ {vs : List V} {ds : List D}, RpAll c μ H vs ds → RpAll c' μ H vs ds
  | _, _, .nil => .nil
  | _, _, .cons h r => .cons (Rp.ct k h) (RpAll.ct k r)
theorem RpFs.ct (k : CtLe c c') : ∀ {vs : List (Str × V)} {ds : List (Str × D)}, RpFs c μ H vs ds → RpFs c' μ H vs ds
  | _, _, .nil => .nil
  | _, _, .cons h r => .cons (Rp.ct k h) (RpFs.ct k r)
end
/-! back, where no held error is mentioned -/
mutual
theorem Rp.un (eK : c'.K = c.K) (eg : c'.mg = c.mg) : ∀ {v : V} {d : D}, Rp c' μ H v d → noX d = true → Rp c μ H v d
  | _, _, .non, _ => .non
  | _, _, .bl b, _ => .bl b
  | _, _, .int i, _ => .int i
  | _, _, .str x, _ => .str x
  | _, _, .tup h r, n => .tup h (RpAll.un eK eg r n)
  | _, _, .lst h n1 n2 n3 r, n => .lst h n1 n2 n3 (RpAll.un eK eg r n)
  | _, _, .kls h n1 n2 r, n => .kls h n1 n2 (RpAll.un eK eg r n)
  | _, _, .klsK o its k h1 h2 h3 h4 h5 h6 r, n => .klsK o its k (eK ▸ h1) h2 h3 h4 h5 h6 (RpAll.un eK eg r n)
  | _, _, .dic h n n2, _ => .dic h n n2
  | _, _, .cell h, _ => .cell h
  | _, _, .glo h r, _ => .glo (eg ▸ h) r
  | _, _, .ty n, _ => .ty n
  | _, _, .ins h n1 n2 g r, n => .ins h n1 n2 (eg ▸ g) (RpFs.un eK eg r n)
  | _, _, .exc0 _ _, n => nomatch n
  | _, _, .exc1 _ _ _ _, n => nomatch n
theorem RpAll.un (eK : c'.K = c.K) (eg : c'.mg = c.mg) : ∀ {vs : List V} {ds : List D}, RpAll c' μ H vs ds → noXs ds = true → RpAll c μ H vs ds
  | _, _, .nil, _ => .nil
  | _, _, .cons h r, n => have n' := Bool.and_eq_true_iff.mp n; .cons (Rp.un eK eg h n'.1) (RpAll.un eK eg r n'.2)
theorem RpFs.un (eK : c'.K = c.K) (eg : c'.mg = c.mg) : ∀ {vs : List (Str × V)} {ds : List (Str × D)}, RpFs c' μ H vs ds → noXf ds = true → RpFs c μ H vs ds
  | _, _, .nil, _ => .nil
  | _, _, .cons h r, n => have n' := Bool.and_eq_true_iff.mp n; .cons (Rp.un eK eg h n'.1) (RpFs.un eK eg r n'.2)
end
/-! where none is held, none is mentioned -/
mutual
theorem Rp.free (no : ∀ a, c.hx a = none) : ∀ {v : V} {d : D}, Rp c μ H v d → noX d = true
  | _, _, .non => rfl
  | _, _, .bl b => rfl
  | _, _, .int i => rfl
  | _, _, .str x => rfl
  | _, _, .tup h r => RpAll.free no r
  | _, _, .lst h n1 n2 n3 r => RpAll.free no r
  | _, _, .kls h n1 n2 r => RpAll.free no r
  | _, _, .klsK o its k h1 h2 h3 h4 h5 h6 r => RpAll.free no r
  | _, _, .dic h n n2 => rfl
  | _, _, .cell h => rfl
  | _, _, .glo h r => rfl
  | _, _, .ty n => rfl
  | _, _, .ins h n1 n2 g r => RpFs.free no r
  | _, _, .exc0 h _ => by rw [no] at h; cases h
  | _, _, .exc1 h _ _ _ => by rw [no] at h; cases h
theorem RpAll.free (no : ∀ a, c.hx a = none) : ∀ {vs : List V} {ds : List D}, RpAll c μ H vs ds → noXs ds = true
  | _, _, .nil => rfl
  | _, _, .cons h r => Bool.and_eq_true_iff.mpr ⟨Rp.free no h, RpAll.free no r⟩
theorem RpFs.free (no : ∀ a, c.hx a = none) : ∀ {vs : List (Str × V)} {ds : List (Str × D)}, RpFs c μ H vs ds → noXf ds = true
  | _, _, .nil => rfl
  | _, _, .cons h r => Bool.and_eq_true_iff.mpr ⟨Rp.free no h, RpFs.free no r⟩
end
end
section
variable {c c' : Ct} {μ μ' : Mu} {S : Sto} {H H' : Hp} {σ : L2.St} {ρ : Rho}
theorem Wd.ct (k : CtLe c c') (w : Wd c μ S H) : Wd c' μ S H := ⟨w.nd, w.len, w.ap, w.avs, fun i a x h1 h2 => by
  have := w.ok i a x h1 h2
  cases x with
  | lst ds =>
    obtain ⟨vs, e, r⟩ := this
    exact ⟨vs, e, r.ct k⟩
  | ins y fs =>
    obtain ⟨C, dx, fv, e, g, r⟩ := this
    exact ⟨C, dx, fv, e, k.mg ▸ g, r.ct k⟩⟩
theorem EnvR.ct (k : CtLe c c') (en : EnvR c μ H σ ρ) : EnvR c' μ H σ ρ := ⟨en.len, fun i d h => let ⟨v, e, r⟩ := en.ok i d h; ⟨v, e, r.ct k⟩⟩
/-- the cells as they were before -/
theorem Wd.un (eK : c'.K = c.K) (eg : c'.mg = c.mg) (no : ∀ a, c.hx a = none) (w0 : Wd c μ S H) (w : Wd c' μ' S H') : Wd c μ' S H' := ⟨w.nd, w.len, w.ap, w.avs, fun i a x h1 h2 => by
  obtain ⟨a0, e0, o0⟩ := w0.atCell h2
  have := w.ok i a x h1 h2
  cases x with
  | lst ds =>
    obtain ⟨vs0, _, r0⟩ := o0
    obtain ⟨vs, e, r⟩ := this
    exact ⟨vs, e, r.un eK eg (r0.free no)⟩
  | ins y fs =>
    obtain ⟨_, _, fv0, _, _, r0⟩ := o0
    obtain ⟨C, dx, fv, e, g, r⟩ := this
    exact ⟨C, dx, fv, e, eg ▸ g, r.un eK eg (r0.free no)⟩⟩
/-- the slots as they were before, or without a held error -/
def sameX : Rho → Rho → Prop
  | [], [] => True
  | x :: r, y :: s => (x = y ∨ y = none ∨ ∃ d, y = some d ∧ noX d = true) ∧ sameX r s
  | _, _ => False
theorem sameX_at : ∀ {ρ ρ' : Rho} {i : Nat} {d : D}, sameX ρ ρ' → ρ'[i]? = some (some d) → ρ[i]? = some (some d) ∨ noX d = true
  | [], [], i, d, _, h => by simp at h
  | x :: r, y :: s, 0, d, h, e => by
    have e' : y = some d := by simpa using e
    rcases h.1 with z | z | ⟨d', z, n⟩
    · exact .inl (by rw [z, e']; rfl)
    · rw [z] at e'; cases e'
    · rw [z] at e'; cases e'; exact .inr n
  | x :: r, y :: s, i + 1, d, h, e => by
    rw [List.getElem?_cons_succ] at e ⊢
    exact sameX_at h.2 e
  | [], _ :: _, _, _, h, _ => h.elim
  | _ :: _, [], _, _, h, _ => h.elim
theorem EnvR.un {ρ0 : Rho} {σ0 : L2.St} {μ0 : Mu} {H0 : Hp} (eK : c'.K = c.K) (eg : c'.mg = c.mg) (no : ∀ a, c.hx a = none) (en0 : EnvR c μ0 H0 σ0 ρ0) (s : sameX ρ0 ρ) (en : EnvR c' μ H σ ρ) : EnvR c μ H σ ρ := ⟨en.len, fun i d h => by
  obtain ⟨v, e, r⟩ := en.ok i d h
  refine ⟨v, e, r.un eK eg ?_⟩
  rcases sameX_at s h with z | z
  · obtain ⟨_, _, r0⟩ := en0.ok i d z
    exact r0.free no
  · exact z⟩
theorem EnvR.unset {i : Nat} (en : EnvR c μ H σ ρ) : EnvR c μ H (σ.set i none) (ρ.set i none) := by
  refine ⟨by rw [List.length_set, List.length_set]; exact en.len, fun j x h => ?_⟩
  by_cases e : i = j
  · subst e
    have hl : i < ρ.length := by
      have := (List.getElem?_eq_some_iff.mp h).1
      rwa [List.length_set] at this
    rw [List.getElem?_set_self hl] at h
    cases h
  · rw [List.getElem?_set_ne e] at h ⊢
    exact en.ok j x h
end
/-! ## raise -/
def dRaise (x f : Str) (fe : FE) : FS := fun ρ S De Ed => fe ρ S (fun d S1 => Ed (x, [(f, d)]) S1) Ed
/-! ## statements in a try: what leaves by an error leans on the slots at their beginning -/
def tSx (c : Ct) (E : L2.St → XK) (f : FS) : TS := fun D σ H => ∃ μ S ρ De Ed, Wd c μ S H ∧ EnvR c μ H σ ρ ∧ f ρ S De Ed ∧ EndsOk c μ H De D ∧ PX c μ H Ed (E σ)
abbrev PSx (X : Cx) (E : L2.St → XK) (st : Stmt) (f : FS) : Prop := PS X st (tSx (ct X) E f)
abbrev PBx (X : Cx) (E : L2.St → XK) (sts : List Stmt) (f : FS) : Prop := PSs X sts (tSx (ct X) E f)
def dSeqN (f g : FS) : FS := fun ρ S De Ed => f ρ S { De with nx := fun ρ' S' => g ρ' S' De noE } Ed
section
variable {X : Cx} {E : L2.St → XK} {st : Stmt} {rest a b : List Stmt} {f g : FS} {e c : Expr} {fe : FE} {t : FT} {pos : Pos}
theorem x_last (h1 : PSx X E st f) : PBx X E [st] f := pss_one h1
theorem x_ret (he : PEd X E e fe) : PSx X E (.Return (some e) pos) (dRet fe) := by
  refine PS.imp (ps_ret he) fun D σ H ⟨μ, S, ρ, De, Ed, w, en, hf, k, px⟩ => ?_
  exact tR_of w en hf px fun x S1 v H1 μ1 h1 f1 w1 en1 px1 r1 => k.rt x S1 v H1 μ1 h1 f1 w1 r1
theorem x_seqN (h1 : PSx X E st f) (h2 : PBx X E rest g) : PBx X E (st :: rest) (dSeqN f g) := by
  refine PSs.imp (pss_cons h1 h2) fun D σ H ⟨μ, S, ρ, De, Ed, w, en, hf, k, px⟩ => ?_
  exact ⟨μ, S, ρ, _, Ed, w, en, hf, ⟨fun ρ' S' σ' H' μ' h fw w' en' => ⟨μ', S', ρ', De, noE, w', en', h, k.fw fw, pxNo⟩, k.rt, k.bk, k.ct⟩, px⟩
end
section
variable {X : Cx} {E : L2.St → XK} {e : Expr} {fe : FE} {pos : Pos}
theorem x_set {i : Nat} {x : Str} {pos' : Pos} (hN : X.N.Nodup) (hi : X.N[i]? = some x) (hx : Loc X.env.scope x) (he : PEd X E e fe) (hs : swapsWith e (some (.Name x pos')) pos.line X.env = pure false := by rfl)
    (hf : X.fn x = true ∨ X.env.scope.names.lookup x = some .local := by first | exact .inl rfl | exact .inr rfl | assumption) : PSx X E (.Assign [.Name x pos'] e pos) (dAsg fe (gN i)) := by
  refine PS.imp (ps_set hN hi hx he hs hf) fun D σ H ⟨μ, S, ρ, De, Ed, w, en, hf, k, px⟩ => ?_
  refine tR_of w en hf px fun x S1 v H1 μ1 h1 f1 w1 en1 px1 r1 => ?_
  exact k.nx _ S1 _ H1 μ1 (setK_eq (k := fun ρ' => De.nx ρ' S1) h1) f1 w1 (en1.set r1)
end
/-! ## try: .. except C as n: .. -/
def lookB : List (Str × Bool) → Str → Option Bool
  | [], _ => none
  | (y, b) :: r, x => if y = x then some b else lookB r x
def dTry (i : Nat) (tab : List (Str × Bool)) (fb fh : FS) : FS := fun ρ S De Ed => fb ρ S De fun er S1 => onSome (lookB tab er.1) fun b =>
  if b = true then fh (ρ.set i (some (.exc er.1 er.2))) S1 { nx := fun ρ' S2 => (S2 = S1 ∧ sameX ρ (ρ'.set i none)) ∧ De.nx (ρ'.set i none) S2, rt := fun d S2 => (S2 = S1 ∧ noX d = true) ∧ De.rt d S2, bk := fun _ _ => False, ct := fun _ _ => False } noE
  else Ed er S1
def cH (K : PySem.W.Frag) (mg : Str → Option Value) (a : Addr) (cls : Value) (d : Option Addr) : Ct := ⟨K, mg, fun b => if a = b then some (cls, d) else none⟩
theorem ct_suite {X : Cx} {a : Addr} {oe : Obj} {pn : List (Addr × Obj)} : ct (X.suite a ((a, oe) :: pn)) = cH X.K X.mg a oe.cls oe.dict := by
  unfold ct cH
  congr 1
theorem ct_calm {X : Cx} (h : X.calm = true) : ct X = ct0 X.K X.mg := by
  unfold ct
  rw [if_pos h]
section
variable {X : Cx} {E : XK} {x n : Str} {cv : Value} {i : Nat} {tab : List (Str × Bool)} {body suite : List Stmt} {b0 : Stmt} {np pos p2 : Pos} {fb fh : FS}
theorem d_try (hcal : X.calm = true) (hs : X.stack = X.env :: X.outer) (hf : X.env.frame = some X.env.locals) (hN : X.N.Nodup) (hi : X.N[i]? = some n) (hln : X.env.kindOf n = some .local) (hc : Names X x cv) (tk : Takes X (fun cls d _ H => E cls d H))
    (ht : ∀ y b, lookB tab y = some b → ∀ cls, X.mg y = some cls → PySem.W.exmOne X.K cls cv = some b)
    (hb : ∀ (W : WX) (pn : List (Addr × Obj)) (xe : Value → Shared → Prop), Takes (X.tr pn xe) W → PassesOwn (model X.prog X.w) X.A X.env xe → PBx (X.tr pn xe) (WE W) body fb)
    (hsu : ∀ (a : Addr) (oe : Obj) (pn : List (Addr × Obj)), (∃ vs, oe.data = .fields vs) → PBd (X.suite a ((a, oe) :: pn)) E0 (b0 :: suite) fh) :
    PSd X E (.Try body [.ExceptHandler (some (.Name x np)) (some n) (b0 :: suite) p2] [] [] pos) (dTry i tab fb fh) := by
  have ec := ct_calm hcal
  have e1 : ∀ (pn : List (Addr × Obj)) (xe : Value → Shared → Prop), ct (X.tr pn xe) = ct X := fun pn xe => by
    rw [ec]
    exact ct_calm (X := X.tr pn xe) hcal
  have no : ∀ a, (ct X).hx a = none := fun a => by rw [ec]
  refine PS.imp (ps_try_as (i := i) (tb := fun W => tSx (ct X) (WE W) fb) (ts := fun a cls d => tS (cH X.K X.mg a cls d) E0 fh) (Wout := fun cls d _ H => E cls d H) hs hf hN hi hln hc tk (fun W pn xe tk po => ?_) (fun a oe cls d pn hz hf => ?_)) fun D σ H ⟨μ, S, ρ, De, Ed, w, en, hff, k, px⟩ => ?_
  · have this : PSs (X.tr pn xe) body (tSx (ct (X.tr pn xe)) (WE W) fb) := hb W pn xe tk po
    have e := e1 pn xe
    generalize ct (X.tr pn xe) = c1 at this e
    subst e
    exact this
  · have this : PSs (X.suite a ((a, oe) :: pn)) (b0 :: suite) (tS (ct (X.suite a ((a, oe) :: pn))) E0 fh) := hsu a oe pn hf
    have e : ct (X.suite a ((a, oe) :: pn)) = cH X.K X.mg a cls d := by rw [ct_suite, hz.1, hz.2]
    generalize ct (X.suite a ((a, oe) :: pn)) = c1 at this e
    subst e
    exact this
  refine ⟨μ, S, ρ, De, _, w, en, hff, k, fun er S1 cls dx H1 μ1 hE f1 w1 rx => ?_⟩
  obtain ⟨b, eb, hE⟩ := onSome_of hE
  refine ⟨b, ht _ b eb cls rx.1, fun hb1 a na => ?_, fun hb0 => ?_⟩
  · rw [if_pos hb1] at hE
    have le : CtLe (ct X) (cH X.K X.mg a cls dx) := ⟨rfl, rfl, fun b z h => by rw [no] at h; cases h⟩
    have en1 := en.fw w f1
    have rexc : Rp (cH X.K X.mg a cls dx) μ1 H1 (.ref a) (.exc er.1 er.2) := by
      obtain ⟨xn, fs⟩ := er
      obtain ⟨g, r⟩ := rx
      have hh : (cH X.K X.mg a cls dx).hx a = some (cls, dx) := if_pos rfl
      cases fs with
      | nil =>
        have r' : dx = none := r
        rw [r'] at hh ⊢
        exact .exc0 hh g
      | cons f fs =>
        obtain ⟨d1, fv, r1, r2, r3⟩ := r
        rw [r1] at hh ⊢
        exact .exc1 hh g r2 (r3.ct (r1 ▸ le))
    refine ⟨μ1, S1, _, _, noE, w1.ct le, (en1.ct le).set rexc, hE, ⟨fun ρ' S' σ' H' μ' hq fw w' en' => ?_, fun d S' v H' μ' hq fw w' r => ?_, fun _ _ _ _ _ z => z.elim, fun _ _ _ _ _ z => z.elim⟩, pxNo⟩
    · obtain ⟨⟨rfl, sx⟩, hn⟩ := hq
      exact k.nx _ S' _ H' μ' hn (f1.trans fw) (Wd.un (c' := cH X.K X.mg a cls dx) rfl rfl no w1 w') (EnvR.un (c' := cH X.K X.mg a cls dx) rfl rfl no en1 sx en'.unset)
    · obtain ⟨⟨rfl, nx⟩, hn⟩ := hq
      exact k.rt d S' v H' μ' hn (f1.trans fw) (Wd.un (c' := cH X.K X.mg a cls dx) rfl rfl no w1 w') (Rp.un (c := ct X) (c' := cH X.K X.mg a cls dx) rfl rfl r nx)
  · rw [if_neg (by rw [hb0]; exact Bool.false_ne_true)] at hE
    exact px er S1 cls dx H1 μ1 hE f1 w1 rx
end
end Pu
namespace Pu
open PySem PySem.Spec PyProof.Rows L2
/-! ## what a handler asks of its error -/
def onExc (o : Option D) (k : Str → List (Str × D) → Prop) : Prop := match o with | some (.exc x fs) => k x fs | _ => False
theorem onExc_of {o : Option D} {k : Str → List (Str × D) → Prop} (h : onExc o k) : ∃ x fs, o = some (.exc x fs) ∧ k x fs := by
  match o, h with
  | some (.exc x fs), h => exact ⟨x, fs, rfl, h⟩
/-- e.f -/
def dXf (xs : List Str) (i : Nat) (f : Str) : FE := fun ρ S Q _ => onExc (getV ρ i) fun x fs => xs.contains x = true ∧ onSome (lookF f fs) fun v => Q v S
theorem rp_exc_inv {X : Cx} {a : Addr} {oe : Obj} {pn : List (Addr × Obj)} {μ : Mu} {H : Hp} {v : V} {x : Str} {fs : List (Str × D)} (r : Rp (ct (X.suite a ((a, oe) :: pn))) μ H v (.exc x fs)) :
    v = .ref a ∧ X.mg x = some oe.cls ∧ ((oe.dict = none ∧ fs = []) ∨ ∃ dx fv, oe.dict = some dx ∧ H dx = some (.xd fv) ∧ RpFs (ct (X.suite a ((a, oe) :: pn))) μ H fv fs) := by
  cases r with
  | @exc0 b _ cls hh g =>
    rw [ct_suite] at hh
    unfold cH at hh
    dsimp only at hh
    by_cases e : a = b
    · rw [if_pos e] at hh
      have hh' := Prod.mk.inj (Option.some.inj hh)
      exact ⟨by rw [e], by rw [hh'.1]; exact g, .inl ⟨hh'.2, rfl⟩⟩
    · rw [if_neg e] at hh
      cases hh
  | @exc1 b dx _ cls fv _ hh g hd rf =>
    rw [ct_suite] at hh
    unfold cH at hh
    dsimp only at hh
    by_cases e : a = b
    · rw [if_pos e] at hh
      have hh' := Prod.mk.inj (Option.some.inj hh)
      exact ⟨by rw [e], by rw [hh'.1]; exact g, .inr ⟨dx, fv, hh'.2, hd, rf⟩⟩
    · rw [if_neg e] at hh
      cases hh
section
variable {X : Cx} {E : L2.St → XK} {a : Addr} {oe : Obj} {pn : List (Addr × Obj)} {i : Nat} {f : Str} {xs : List Str} {e : Expr} {pos : Pos}
theorem d_xf (hfd : ∃ vs, oe.data = .fields vs) (hT : ∀ y ∈ xs, ∃ C, X.mg y = some (.ref C) ∧ XfC X.K C ∧ PySem.W.findIn X.K (.ref C) f = some none) (he : PE (X.suite a ((a, oe) :: pn)) e (tVar i))
    (hab : attributeBase e f X.env (eval e X.env) = eval e X.env := by rfl) : PEd (X.suite a ((a, oe) :: pn)) E (.Attribute e f pos) (dXf xs i f) := by
  refine ⟨fun pins s σ H Q I ⟨μ, S, ρ, Qd, Ed, w, en, hf, q, px⟩ => ?_⟩
  obtain ⟨x, fs, e1, hc, h1⟩ := onExc_of hf
  obtain ⟨d, e2, hq⟩ := onSome_of h1
  obtain ⟨v, ev, rv⟩ := en.ok i _ (getV_some e1)
  obtain ⟨rfl, g, alt⟩ := rp_exc_inv rv
  obtain ⟨C, gC, T, hno⟩ := hT x (mem_of_contains hc)
  have ec : oe.cls = .ref C := by rw [g] at gC; exact Option.some.inj gC
  rcases alt with ⟨_, rfl⟩ | ⟨dx, fv, ed, hd, rf⟩
  · cases e2
  · obtain ⟨y, ey, ry⟩ := rf.look e2
    refine (pe_xf (cls := oe.cls) (d := oe.dict) T hno ⟨rfl, rfl⟩ hfd he hab).run pins s σ H Q I ?_
    exact ⟨.ref a, ev, rfl, ec, dx, fv, y, ed, hd, ey, q d S y H μ hq Fw.refl w ry⟩
end
/-! ### isinstance -/
/-- of a class of errors x and a class named y (of the row or built in): whether y is above x -/
def lookX : List (Str × Str × Bool) → Str → Str → Option Bool
  | [], _, _ => none
  | (x, y, b) :: r, u, v => if x = u ∧ y = v then some b else lookX r u v
theorem lookX_mem : ∀ {tab : List (Str × Str × Bool)} {u v : Str} {b : Bool}, lookX tab u v = some b → (u, v, b) ∈ tab
  | [], _, _, _, h => by cases h
  | (x, y, c) :: r, u, v, b, h => by
    unfold lookX at h
    by_cases z : x = u ∧ y = v
    · rw [if_pos z] at h
      cases h
      obtain ⟨rfl, rfl⟩ := z
      exact List.mem_cons_self
    · rw [if_neg z] at h
      exact List.mem_cons_of_mem _ (lookX_mem h)
/-- what isinstance asks of a class of errors -/
structure OwnI (K : PySem.W.Frag) (C : Addr) : Prop where
  xf : XfC K C
  is : PySem.W.isClsIn K C = true
  cl : PySem.W.findIn K (.ref C) "__class__" = some (some (.builtin "object.__class__"))
  cg : PySem.W.specialIn K (.builtin "object.__class__") "__get__" = some (some (.builtin "getset_descriptor.__get__"))
  ct : PySem.W.takesIn K (.builtin "object.__class__") = some true
  co : PySem.W.mroIn K C (.type "object") = some true
def clsV (mg : Str → Option Value) (y : Str) (u : Value) : Prop := mg y = some u ∨ (mg y = none ∧ bootBuiltins y = some u)
def XI (K : PySem.W.Frag) (mg : Str → Option Value) (x y : Str) (b : Bool) : Prop := ∃ C, mg x = some (.ref C) ∧ OwnI K C ∧ ∀ u, clsV mg y u → PySem.W.kitOne K (.ref C) u = some b
/-- isinstance(e, C) -/
def dIsX (tab : List (Str × Str × Bool)) (i : Nat) (y : Str) : FE := fun ρ S Q _ => onExc (getV ρ i) fun x _ => onSome (lookX tab x y) fun b => Q (.bl b) S
def anyX (tab : List (Str × Str × Bool)) (x : Str) : List Str → Option Bool
  | [] => some false
  | y :: r => match lookX tab x y with | some true => some true | some false => anyX tab x r | none => none
/-- isinstance(e, (C, ..)) -/
def dIsXT (tab : List (Str × Str × Bool)) (i : Nat) (ys : List Str) : FE := fun ρ S Q _ => onExc (getV ρ i) fun x _ => onSome (anyX tab x ys) fun b => Q (.bl b) S
def rIsY (K : PySem.W.Frag) (a : Addr) (oe : Obj) : List V → Hp → VK → Prop := fun xs H Q => ∃ (C : Addr) (cv : V) (b : Bool), oe.cls = .ref C ∧ OwnI K C ∧ (oe.dict = none ∨ ∃ dx fv, oe.dict = some dx ∧ H dx = some (.xd fv)) ∧ xs = [.ref a, cv] ∧
  ((∃ u, ClsV cv u ∧ PySem.W.kitOne K (.ref C) u = some b) ∨ ∃ tp cs us, cv = .ref tp ∧ H tp = some (.tup cs) ∧ Paired ClsV cs us ∧ PySem.W.kitAny K (.ref C) us = some b) ∧ Q (.bl b) H
theorem call_isY {X : Cx} {a : Addr} {oe : Obj} {pn : List (Addr × Obj)} (hfd : ∃ vs, oe.data = .fields vs) : CallR (X.suite a ((a, oe) :: pn)) (.builtin "isinstance") (rIsY X.K a oe) := by
  intro pins s σ H xs us Q I r h
  obtain ⟨C, cv, b, ecl, W, hdict, rfl, alt, q⟩ := h
  cases r with
  | cons ra rr =>
    cases rr with
    | cons rt rr =>
      cases rr
      cases ra
      obtain ⟨hget, _⟩ := I.pin (a, oe) (List.mem_append.mpr (.inl List.mem_cons_self))
      obtain ⟨vs, hv⟩ := hfd
      have noc : PySem.W.notCls oe = true := by unfold PySem.W.notCls; rw [hv] <;> rfl
      have J : ∃ od, PySem.W.InstAt s.heap a oe C od := by
        rcases hdict with ed | ⟨dx, fv, ed, hx⟩
        · exact ⟨none, hget, ecl, noc, by rw [ed]; trivial⟩
        · have ho : ObjOk X.prog X.w H s.heap dx (.xd fv) := I.hok dx _ hx
          obtain ⟨mm, hns, _⟩ := ho
          obtain ⟨od, ho, _⟩ := lookIn_ns hns
          exact ⟨some od, hget, ecl, noc, by rw [ed]; exact ho⟩
      obtain ⟨od, J⟩ := J
      have Z := PySem.W.kitx_exc (x := a) (ox := oe) (od := od) W.is W.xf.ga W.xf.gg W.xf.exC W.cl W.cg W.ct W.co
      rcases alt with ⟨u, cu, e⟩ | ⟨tp, cs, uu, rfl, ht, pr, e⟩
      · rw [cu.eq rt]
        exact PySem.W.kia_one Z I.kIn J e (fun z => nomatch z) fun tk => ⟨.bl b, H, I.kept (t' := tk) fun _ _ z => z, rfl, q⟩
      · cases rt
        have hto : ObjOk X.prog X.w H s.heap tp (.tup cs) := I.hok tp _ ht
        obtain ⟨_, ws, rv, ⟨o, hoc, hcl, n, hdat⟩⟩ := hto
        have eu := ClsV.all pr rv
        subst eu
        obtain ⟨oc, odd, oda, osl⟩ := o
        dsimp only at hcl hdat
        subst hcl hdat
        exact PySem.W.kia_tup Z I.kIn J hoc e (fun z => nomatch z) fun tk => ⟨.bl b, H, I.kept (t' := tk) fun _ _ z => z, rfl, q⟩
/-- a class by its name, in an expression -/
structure ClE (X : Cx) (e : Expr) (y : Str) (u : Value) : Prop where
  ex : ∃ v, PE X e (tC v) ∧ ClsV v u
  at_ : clsV X.mg y u
theorem cl_own {X : Cx} {y : Str} {C : Addr} {pos : Pos} (hg : Gl X y) (hm : X.mg y = some (.ref C)) (hd : (y == ("__debug__" : Str)) = false := by decide) : ClE X (.Name y pos) y (.ref C) :=
  ⟨⟨.ref C, pe_glob hg hm (show RelV (V.ref C) _ from rfl) hd, .own C⟩, .inl hm⟩
theorem cl_ty {X : Cx} {y : Str} {n : String} {pos : Pos} (hg : Gl X y) (hm : X.mg y = none) (hv : bootBuiltins y = some (.type n)) (hn : y ≠ "__name__" := by decide) (hd : (y == ("__debug__" : Str)) = false := by decide) : ClE X (.Name y pos) y (.type n) :=
  ⟨⟨.ty n, pe_bltn hg hm hv (show RelV (V.ty n) _ from rfl) hn hd, .ty n⟩, .inr ⟨hm, hv⟩⟩
/-- classes by their names -/
inductive ClEs (X : Cx) : List Expr → List Str → List Value → Prop where
  | nil : ClEs X [] [] []
  | cons {e : Expr} {es : List Expr} {y : Str} {ys : List Str} {u : Value} {us : List Value} (h : ClE X e y u) (r : ClEs X es ys us) (hs : starEach (e :: es) X.env = (false, eval e X.env) :: starEach es X.env := by rfl) : ClEs X (e :: es) (y :: ys) (u :: us)
theorem ClEs.pa {X : Cx} : ∀ {es : List Expr} {ys : List Str} {us : List Value}, ClEs X es ys us → ∃ vs, PA X es (fun _ H Q => Q vs H) ∧ Paired ClsV vs us
  | _, _, _, .nil => ⟨[], pa_nil, .nil⟩
  | _, _, _, .cons h r hs => by
    obtain ⟨v, h1, h2⟩ := h.ex
    obtain ⟨vs, h3, h4⟩ := ClEs.pa r
    exact ⟨v :: vs, PA.imp (pa_cons h1 h3 hs) fun σ H Q q => q, .cons h2 h4⟩
section
variable {X : Cx} {E : L2.St → XK} {a : Addr} {oe : Obj} {pn : List (Addr × Obj)} {i : Nat} {tab : List (Str × Str × Bool)} {e ce : Expr} {ces : List Expr} {y : Str} {ys : List Str} {u : Value} {us : List Value} {p pos tpos : Pos} {kt : Nat}
theorem exc_dict {μ : Mu} {H : Hp} {v : V} {x : Str} {fs : List (Str × D)} (r : Rp (ct (X.suite a ((a, oe) :: pn))) μ H v (.exc x fs)) : v = .ref a ∧ X.mg x = some oe.cls ∧ (oe.dict = none ∨ ∃ dx fv, oe.dict = some dx ∧ H dx = some (.xd fv)) := by
  obtain ⟨h1, h2, h3⟩ := rp_exc_inv r
  refine ⟨h1, h2, ?_⟩
  rcases h3 with ⟨h3, _⟩ | ⟨dx, fv, h3, h4, _⟩
  · exact .inl h3
  · exact .inr ⟨dx, fv, h3, h4⟩
theorem d_isX (hfd : ∃ vs, oe.data = .fields vs) (ht : ∀ z ∈ tab, XI X.K X.mg z.1 z.2.1 z.2.2) (hg : Gl X "isinstance") (hm : X.mg "isinstance" = none) (he : PE (X.suite a ((a, oe) :: pn)) e (tVar i)) (hc : ClE (X.suite a ((a, oe) :: pn)) ce y u)
    (s1 : starEach [e, ce] X.env = (false, eval e X.env) :: starEach [ce] X.env := by rfl) (s2 : starEach [ce] X.env = (false, eval ce X.env) :: starEach [] X.env := by rfl) (s3 : (backTo pos (starEach [ce] X.env)).any (·.1) = false := by rfl) :
    PEd (X.suite a ((a, oe) :: pn)) E (.Call (.Name "isinstance" p) [e, ce] [] pos) (dIsX tab i y) := by
  obtain ⟨vc, hvc, cv⟩ := hc.ex
  refine PE.imp (pe_callB (call_isY hfd) hg hm (show bootBuiltins "isinstance" = some (.builtin "isinstance") by decide +kernel) (pa_cons he (pa_cons hvc pa_nil s2) s1) (by decide) (by decide) s1 s3) fun σ H Q ⟨μ, S, ρ, Qd, Ed, w, en, hf, q, px⟩ => ?_
  obtain ⟨x, fs, e1, h1⟩ := onExc_of hf
  obtain ⟨b, e2, hq⟩ := onSome_of h1
  obtain ⟨v, ev, rv⟩ := en.ok i _ (getV_some e1)
  obtain ⟨rfl, g, alt⟩ := exc_dict rv
  obtain ⟨C, gC, W, hk⟩ := ht _ (lookX_mem e2)
  have ec : oe.cls = .ref C := by rw [g] at gC; exact Option.some.inj gC
  exact ⟨.ref a, ev, C, vc, b, ec, W, alt, rfl, .inl ⟨u, cv, hk u hc.at_⟩, q _ S _ H μ hq Fw.refl w (.bl b)⟩
theorem ClEs.any {K : PySem.W.Frag} {x : Str} {C : Addr} {X' : Cx} (hx : X'.mg x = some (.ref C)) (ht : ∀ z ∈ tab, XI K X'.mg z.1 z.2.1 z.2.2) : ∀ {es : List Expr} {ys : List Str} {us : List Value} {b : Bool}, ClEs X' es ys us → anyX tab x ys = some b → PySem.W.kitAny K (.ref C) us = some b
  | _, _, _, b, .nil, e => by cases e; rfl
  | _, _, _, b, .cons (y := y) h r _, e => by
    unfold anyX at e
    unfold PySem.W.kitAny
    cases e1 : lookX tab x y with
    | none => rw [e1] at e; cases e
    | some k =>
      rw [e1] at e
      obtain ⟨C', gC, _, hk⟩ := ht _ (lookX_mem e1)
      have : C' = C := by
        have z : X'.mg x = some (.ref C') := gC
        rw [hx] at z
        cases z
        rfl
      subst this
      rw [hk _ h.at_]
      cases k with
      | true => cases e; rfl
      | false => exact ClEs.any hx ht r e
theorem d_isXT (hfd : ∃ vs, oe.data = .fields vs) (ht : ∀ z ∈ tab, XI X.K X.mg z.1 z.2.1 z.2.2) (hg : Gl X "isinstance") (hm : X.mg "isinstance" = none) (he : PE (X.suite a ((a, oe) :: pn)) e (tVar i)) (hc : ClEs (X.suite a ((a, oe) :: pn)) ces (y :: ys) us) (hl : us.length ≤ 100)
    (s1 : starEach [e, .Tuple ces kt tpos] X.env = (false, eval e X.env) :: starEach [.Tuple ces kt tpos] X.env := by rfl) (s2 : starEach [.Tuple ces kt tpos] X.env = (false, eval (.Tuple ces kt tpos) X.env) :: starEach [] X.env := by rfl) (s3 : (backTo pos (starEach [.Tuple ces kt tpos] X.env)).any (·.1) = false := by rfl) :
    PEd (X.suite a ((a, oe) :: pn)) E (.Call (.Name "isinstance" p) [e, .Tuple ces kt tpos] [] pos) (dIsXT tab i (y :: ys)) := by
  obtain ⟨vs, hvs, pr⟩ := hc.pa
  refine PE.imp (pe_callB (call_isY hfd) hg hm (show bootBuiltins "isinstance" = some (.builtin "isinstance") by decide +kernel) (pa_cons he (pa_cons (pe_tup hvs) pa_nil s2) s1) (by decide) (by decide) s1 s3) fun σ H Q ⟨μ, S, ρ, Qd, Ed, w, en, hf, q, px⟩ => ?_
  obtain ⟨x, fs, e1, h1⟩ := onExc_of hf
  obtain ⟨b, e2, hq⟩ := onSome_of h1
  obtain ⟨v, ev, rv⟩ := en.ok i _ (getV_some e1)
  obtain ⟨rfl, g, alt⟩ := exc_dict rv
  have pl : vs.length = us.length := by
    clear hvs hc hl
    induction pr with
    | nil => rfl
    | cons _ _ ih => exact congrArg Nat.succ ih
  refine ⟨.ref a, ev, by rw [pl]; exact Nat.le_trans hl (by rw [sizeLine_eq]; omega), fun tp ntp => ?_⟩
  obtain ⟨C, gC, W⟩ : ∃ C, X.mg x = some (.ref C) ∧ OwnI X.K C := by
    have e3 := e2
    unfold anyX at e3
    cases e4 : lookX tab x y with
    | none => rw [e4] at e3; cases e3
    | some k =>
      obtain ⟨C, gC, W, _⟩ := ht _ (lookX_mem e4)
      exact ⟨C, gC, W⟩
  have ec : oe.cls = .ref C := by rw [g] at gC; exact Option.some.inj gC
  have ka := ClEs.any (K := X.K) (X' := X.suite a ((a, oe) :: pn)) gC ht hc e2
  have fN : Fw μ H μ (upd H tp (.tup vs)) := Fw.new ntp
  refine ⟨C, .ref tp, b, ec, W, ?_, rfl, .inr ⟨tp, vs, us, rfl, upd_same, pr, ka⟩, q _ S _ _ μ hq fN (w.new ntp) (.bl b)⟩
  rcases alt with z | ⟨dx, fv, z1, z2⟩
  · exact .inl z
  · exact .inr ⟨dx, fv, z1, w.xdK fN z2⟩
end
end Pu
namespace Pu
open PySem PySem.Spec PyProof.Rows L2
/-! ## defs that may raise -/
theorem FnG_mono {pr : Program} {wo : World} {K : PySem.W.Frag} {mg : Str → Option Value} {b0 : Heap} {cx : CXT} {lv l2 : Nat} {fn : Addr} {dat : FuncData} {pars : List Str} {sp : Sp} (F : Rb.FnG pr wo K mg b0 cx lv fn dat pars sp) (h : lv ≤ l2) : Rb.FnG pr wo K mg b0 cx l2 fn dat pars sp :=
  ⟨F.many, fun A out s H ar us xs Q E r g e b v p => F.goes A out s H ar us xs Q E (r.mono h) g e b v p⟩
theorem passLG {X : Cx} : ∀ σ, PassesAt (L2.CX X.prog X.w) X σ (cE E0 σ) := fun σ pins H s e s' I z => (passL (X := X) pins σ H s e s' I z)
theorem passX {X : Cx} {E : XK} (tk : Takes X (fun cls d _ H => E cls d H)) : ∀ σ, PassesAt (L2.CX X.prog X.w) X σ (cE E σ) := fun σ => passAt tk σ
theorem passW {X : Cx} {W : WX} (tk : Takes X W) : ∀ σ, PassesAt (L2.CX X.prog X.w) X σ (WE W σ) := fun σ => passAt tk σ
section
variable {pr : Program} {wo : World} {K : PySem.W.Frag} {mg : Str → Option Value} {b0 : Heap} {lv : Nat} {x qn : Str} {st : Stmt} {fn : Addr} {dat : FuncData} {NN pars : List Str} {fb : FS}
theorem d_fnX (F : Fun K x qn st fn dat) (S : FnScope NN pars (defScope st))
    (body : ∀ (cdv : Value) (A : Around) (out : List Env) (s : Shared) (H : Hp) (E : XK), A.guards = some [] → Room lv (A.deeper (envOfC qn (defScope st) s.heap.objs.size fn cdv)) → PBd (cxOf (L2.CX pr wo) pr wo K mg b0 NN qn (defScope st) fn cdv A out s H E) E (defBody st) fb) :
    Rb.FnG pr wo K mg b0 (L2.CX pr wo) (lv + 1) fn dat pars (spF (ct0 K mg) (dDefX pars.length NN.length fb)) := by
  obtain ⟨oc, od, kV, dc, pv, an, cdv, ct, osl, rfl, at_, code⟩ := F.ex
  refine Rb.fnG_of at_ code S (fun xs H Q E pro => ?_) fun A out s H xs Q E gd rm pro => ⟨_, body cdv A out s H E gd rm, ?_⟩
  · obtain ⟨μ, S, ds, Qd, Ed, w, r, ⟨hl, _⟩, _⟩ := pro
    rw [r.length]
    exact hl
  · obtain ⟨μ, S, ds, Qd, Ed, w, r, ⟨hl, h⟩, q, px⟩ := pro
    exact ⟨μ, S, _, _, Ed, w, startD_env r, h, ⟨fun ρ' S' σ' H' μ' hq f w' en => q .non S' .non H' μ' hq f w' .non, q, fun _ _ _ _ _ z => z.elim, fun _ _ _ _ _ z => z.elim⟩, px⟩
end
/-! ## list.count of bools -/
def blsOf : List D → Option (List Bool)
  | [] => some []
  | .bl b :: r => (blsOf r).map (b :: ·)
  | _ :: _ => none
theorem blsOf_vals {c : Ct} {μ : Mu} {H : Hp} : ∀ {vs : List V} {ds : List D} {bs : List Bool}, RpAll c μ H vs ds → blsOf ds = some bs → vs = bs.map V.bl
  | _, [], _, .nil, e => by cases e; rfl
  | _, d :: ds, bs, .cons h r, e => by
    cases d with
    | bl b =>
      obtain ⟨cs, e1, rfl⟩ := Option.map_eq_some_iff.mp (show (blsOf ds).map (b :: ·) = some bs from e)
      rw [h.bl_inv, blsOf_vals r e1]
      rfl
    | _ => cases e
def gCountB : GM := fun x ds S Q => match ds with
  | [.bl b] => onSome (lstOf S x) fun xs => onSome (blsOf xs) fun bs => Q (.int (bs.count b : Nat)) S
  | _ => False
def eqb (k : Bool) (v : Value) : Bool := match v with
  | .bool n => n == k
  | _ => false
theorem vals_bls : ∀ {bs : List Bool} {us : List Value}, Vals (bs.map V.bl) us → us = bs.map Value.bool
  | [], _, .nil => rfl
  | b :: r, _, .cons h t => by
    rw [vals_bls t, List.map_cons]
    exact congrArg (· :: _) h
theorem m_countB {X : Cx} : MtR X "list.count" (rDm (ct X) gCountB) := by
  intro pins s σ H x xs v us Q I rx rxs ⟨μ, S, d, ds, Qd, w, r1, ra, hg, q⟩
  unfold gCountB at hg
  split at hg
  · rename_i b
    obtain ⟨y, rfl, ry⟩ := ra.one
    cases ry.bl_inv
    obtain ⟨zs, e1, hg⟩ := onSome_of hg
    obtain ⟨bs, e2, hg⟩ := onSome_of hg
    obtain ⟨l, vs, rfl, hl, rl⟩ := r1.lstT w e1
    rw [blsOf_vals rl e2] at hl
    cases rx
    obtain ⟨u, rfl, ru⟩ := rxs.one
    cases ru
    obtain ⟨its, rv, ⟨⟨cls, dd, data, sl⟩, n, ho, hc, hdn, hd⟩, hlen⟩ := I.list (SqL.of hl)
    simp only at hc hd
    subst hc hd
    have ei := vals_bls rv
    subst ei
    refine call_meets PySem.F.slot_list_count ⟨_, ho, rfl⟩ PySem.F.entry_list_count (PySem.F.args_list_count_2 _ _) (SeqAt.list_countAt l _ n dd sl (.bool b) (eqb b)) ⟨ho, fun y hy => ?_, ?_⟩
    · have hy' : y ∈ bs.map Value.bool := List.mem_toArray.mp hy
      obtain ⟨k, _, rfl⟩ := List.mem_map.mp hy'
      exact SeqAt.EqAt.bool_bool k b
    · have ec : ((bs.map Value.bool).toArray.toList.countP (eqb b)) = bs.count b := by
        rw [List.countP_map]
        rfl
      refine ⟨.int (bs.count b : Nat), H, I.tok _, ⟨s.toks, ?_⟩, q.same w (.int _) hg⟩
      rw [ec]
  · exact hg.elim
/-- a method of a list that stays as it is -/
def dMLv (g : GM) (fo : FE) (fa : FA) : FE := fun ρ S Q Ed => fo ρ S (fun x S1 => onSome (lstOf S1 x) fun _ => fa ρ S1 (fun ds S2 => g x ds S2 Q) Ed) Ed
section
variable {X : Cx} {E : L2.St → XK} {o e : Expr} {es : List Expr} {fo : FE} {fa : FA} {name : Str} {id : String} {apos cpos : Pos}
theorem d_mlv {g : GM} (slot : Slot "list" name id) (hty : typeOf (.builtin id) = pure (.type "method_descriptor")) (hm : MtR X id (rDm (ct X) g)) (ho : PEd X E o fo) (ha : PAd X E (e :: es) fa)
    (hbase : attributeBase o name X.env (eval o X.env) = eval o X.env := by rfl)
    (hfew : ((backTo cpos (starEach (e :: es) X.env)).all (fun x => !x.1) && (backToKw cpos (keywordEach [] X.env)).all (fun x => x.1.isSome) && decide ((e :: es).length + ([] : List Keyword).length + (if ([] : List Keyword).isEmpty then 0 else 1) < 30)) = true := by rfl)
    (hline : (apos.endLine == cpos.line) = true := by rfl) (hs : starEach (e :: es) X.env = (false, eval e X.env) :: starEach es X.env := by rfl) (hplain : (backTo cpos (starEach es X.env)).any (·.1) = false := by rfl) :
    PEd X E (.Call (.Attribute o name apos) (e :: es) [] cpos) (dMLv g fo fa) := by
  refine PE.imp (pe_bm PySem.F.plainAttrs_list slot hty hm ho ha hbase hfew hline hs hplain) fun σ H Q ⟨μ, S, ρ, Qd, Ed, w, en, hf, q, px⟩ => ?_
  refine tR_of w en hf px fun x S1 v H1 μ1 h1 f1 w1 en1 px1 r1 => ?_
  obtain ⟨xs, e1, h1⟩ := onSome_of h1
  obtain ⟨a, vs, rfl, ha', ra⟩ := r1.lstT w1 e1
  refine ⟨.inl ⟨rfl, vs, SqL.of ha'⟩, ?_⟩
  refine tR_of w1 en1 h1 px1 fun ds S2 us H2 μ2 h2 f2 w2 en2 px2 r2 => ?_
  exact ⟨μ2, S2, x, ds, Qd, w2, r1.fw w1 f2, r2, h2, fun d S' v' H' μ' h f w' r => q d S' v' H' μ' h (f1.trans (f2.trans f)) w' r⟩
end
/-! ## isinstance of values, instances among them -/
/-- of a class of the row: what isinstance asks of its instances -/
structure InsT (K : PySem.W.Frag) (C : Addr) : Prop where
  cl : Cls K C
  ha : PySem.W.findIn K (.ref C) "__class__" = some (some (.builtin "object.__class__"))
  hn : PySem.W.specialIn K (.builtin "object.__class__") "__get__" = some (some (.builtin "getset_descriptor.__get__"))
  tk : PySem.W.takesIn K (.builtin "object.__class__") = some true
  hm : PySem.W.mroIn K C (.type "object") = some true
end Pu
namespace Pu
open PySem PySem.Spec PyProof.Rows L2
/-! ## small words for the printed terms -/
theorem all0 {α : Type} {P : α → Prop} : ∀ x ∈ ([] : List α), P x := fun _ z => nomatch z
theorem allS {α : Type} {P : α → Prop} {a : α} {l : List α} (h : P a) (r : ∀ x ∈ l, P x) : ∀ x ∈ a :: l, P x := fun x hx => by
  rcases List.mem_cons.mp hx with rfl | hx
  · exact h
  · exact r x hx
section
variable {K : PySem.W.Frag} {mg : Str → Option Value} {x f y : Str} {C : Addr}
theorem clf (c : Cls K C) (g : mg x = some (.ref C)) (n : NoAttr K C f) : ClF K mg f x := fun C' h => by
  rw [g] at h
  cases h
  exact ⟨c, n⟩
theorem pf_of {P : Program} {w : World} {b0 : Heap} {lv : Nat} {F : FF} {fn p : Addr} {dat : FuncData} {pars : List Str} (g : mg x = some (.ref C)) (c : Cls K C) (h : PropOf K C f p fn) (G : Rb.FnG P w K mg b0 CX0 lv fn dat pars (spF (ct0 K mg) F)) (b : Binds K dat pars []) : PF P w K mg b0 lv f x F := fun C' z => by
  rw [g] at z
  cases z
  exact ⟨_, _, _, _, c, h, G, b⟩
theorem xi_own {D : Addr} {b : Bool} (g : mg x = some (.ref C)) (e : OwnI K C) (gy : mg y = some (.ref D)) (k : PySem.W.kitOne K (.ref C) (.ref D) = some b) : XI K mg x y b := ⟨C, g, e, fun u hu => by
  rcases hu with h | ⟨h, _⟩
  · rw [gy] at h
    cases h
    exact k
  · rw [gy] at h
    cases h⟩
theorem xi_ty {n : String} {b : Bool} (g : mg x = some (.ref C)) (e : OwnI K C) (gy : mg y = none) (bo : bootBuiltins y = some (.type n)) (k : PySem.W.kitOne K (.ref C) (.type n) = some b) : XI K mg x y b := ⟨C, g, e, fun u hu => by
  rcases hu with h | ⟨_, h⟩
  · rw [gy] at h
    cases h
  · rw [bo] at h
    cases h
    exact k⟩
/-- which errors an except clause takes -/
theorem xt_of {cv : Value} {b : Bool} (g : mg x = some (.ref C)) (k : PySem.W.exmOne K (.ref C) cv = some b) : ∀ cls, mg x = some cls → PySem.W.exmOne K cls cv = some b := fun cls h => by
  rw [g] at h
  cases h
  exact k
theorem tab_of {cv : Value} : ∀ {tab : List (Str × Bool)}, (∀ z ∈ tab, ∀ cls, mg z.1 = some cls → PySem.W.exmOne K cls cv = some z.2) → ∀ y b, lookB tab y = some b → ∀ cls, mg y = some cls → PySem.W.exmOne K cls cv = some b
  | [], _, _, _, h => by cases h
  | (z, k) :: r, ht, y, b, h => by
    unfold lookB at h
    by_cases e : z = y
    · rw [if_pos e] at h
      cases h
      subst e
      exact ht _ List.mem_cons_self
    · rw [if_neg e] at h
      exact tab_of (fun u hu => ht u (List.mem_cons_of_mem _ hu)) y b h
end
theorem takes0E {X : Cx} : Takes X (fun cls d _ H => E0 cls d H) := fun _ _ z => by
  obtain ⟨_, _, _, _, _, _, _, _, _, _, _, _, _, _, _, _, z⟩ := z
  exact z.elim
end Pu
namespace Pu
open PySem PySem.Spec PyProof.Rows L2
/-- sorted of a tuple of whole numbers -/
def gSortTI : List D → Sto → QD → Prop := fun ds S Q => match ds with
  | [.tup xs] => onSome (intsOf xs) fun ns => Q (.lst false ((Rb.srt ns).map D.int)) S
  | _ => False
theorem c_sortTI {X : Cx} : CallR X (.builtin "sorted") (rDs (ct X) gSortTI) := by
  intro pins s σ H vs us Q I r ⟨μ, S, ds, Qd, w, ra, hg, q⟩
  unfold gSortTI at hg
  split at hg
  · obtain ⟨v, rfl, rv⟩ := ra.one
    obtain ⟨ns, e, hg⟩ := onSome_of hg
    obtain ⟨a, ws, rfl, ha, rs⟩ := rv.tup_inv
    rw [intsOf_inv e] at rs
    rw [rs.ints] at ha
    obtain ⟨u, rfl, ru⟩ := vals1 r
    obtain rfl : u = Value.ref a := ru
    obtain ⟨its, rt, ⟨o, ho, hc, n, hd⟩, hz⟩ := I.tuple (SqT.of ha)
    have are : IntsAre its ns := rt.ints
    have len : its.length ≤ sizeLine := by rw [← rt.length]; exact hz
    refine Calls.call_function_entry kind_sorted plain_sorted entry_sorted (args_sorted1 _) ?_
    unfold Builtin.«sorted»
    refine wpAny_bind (m := checkCount "sorted" 1 1 _) (wpAny_pure (wpAny_bind (wpAny_collect_seq a (.inr rfl) ho hc hd (fun h' hk => ?_) (by rw [List.size_toArray]; exact len))))
    rw [show its.toArray.toList = its from rfl]
    have I1 := I.kept (t' := s.toks) hk
    refine wpAny_bind (wpAny_newList ?_ len)
    have at1 : (h'.push (seqObj "list" its.toArray 0)).get? h'.objs.size = some (seqObj "list" its.toArray 0) := Heap.get?_push_size _ rfl
    refine wpAny_bind (wpAny_holding (wpAny_call_entry PyProof.Rows.slot_list_sort ⟨_, at1, rfl⟩ PyProof.Rows.entry_list_sort (SrtO.list_sort_ord SrtO.swo_int at1 len (fun h2 => SrtO.ints_sortable are h2) fun out c1 c2 => ⟨_, rfl, ?_⟩) (PyProof.Rows.args_list_sort _)))
    obtain ⟨a1, a2, a3⟩ := SrtO.ints_out are c1 c2
    obtain ⟨c, hc2⟩ := PyProof.Rows.sortedHeap_at (vs := its) (out := out.toArray) at1
    have fin := q.lst (μ := μ) w (RpAll.ofInts _) hg (I1.hok.fresh (Nat.le_refl _))
    rw [← Rb.srt_uniq a2 a3] at fin
    refine wpAny_pure ⟨_, rfl, .ref h'.objs.size, upd H h'.objs.size (.lst ((out.map SrtO.iv).map V.int)), I1.laid (t' := s.toks) (fun b x e => ?_) (Nat.le_refl _) ⟨?_, out, c, vals_of_ints a1, hc2⟩, rfl, fin⟩
    · have bl := Heap.lt_size e
      show (PyProof.Rows.sortedHeap (h'.push (seqObj "list" its.toArray 0)) h'.objs.size its out.toArray).get? b = some x
      rw [PyProof.Rows.sortedHeap_old (Nat.ne_of_lt bl) (by rw [Heap.size_push]; exact Nat.lt_succ_of_lt bl)]
      exact Heap.get?_push_of_some _ e
    · rw [List.length_map, a2.length_eq, ← are.length]
      exact len
  · exact hg.elim
end Pu
namespace Pu
open PySem PySem.Spec PyProof.Rows L2
/-! ## own errors over any built-in class: with one field, or with none -/
/-- of a class of errors: over the built-in class whose order of classes is bs, whose objects nw makes -/
structure ErrC (kit : PySem.W.Frag) (at_ : Addr) (bs : List Value) (nw : String) : Prop where
  mkd : PySem.W.excInitIn kit at_ bs nw = true
  ov : PySem.W.excOver kit at_ bs = true
  hd : PySem.W.hasDictIn kit at_ = true
  sa : PySem.W.findIn kit (.ref at_) "__setattr__" = some (some (.builtin "object.__setattr__"))
  ex : PySem.W.subIn kit (.ref at_) (.type "BaseException") = some true
  ty : PySem.W.typeIn kit (.ref at_) = some (.type "type")
  kp : PySem.W.keepIn kit (.ref at_) = true
section
variable {X : Cx} {pins : List (Addr × Obj)} {σ : L2.St} {H : Hp} {s : Shared} {a C : Addr} {f : Str} {y : V} {u : Value} {bs : List Value} {nw B : String}
theorem upd_twice {a b : Addr} {o p q : HO} (n : a ≠ b) : upd (upd (upd H b o) a p) b q = upd (upd H b q) a p := by
  funext z
  by_cases h1 : z = b
  · subst h1
    rw [upd_same, upd_ne (Ne.symm n), upd_same]
  · rw [upd_ne h1]
    by_cases h2 : z = a
    · subst h2
      rw [upd_same, upd_same]
    · rw [upd_ne h2, upd_ne h2, upd_ne h1, upd_ne h1]
/-- the first field of an error that is being made: in three steps, the empty dict, the error that has it, the field in it -/
theorem put_first (T : ErrC X.K C bs nw) (SF : StoreFacts B bs "object.__setattr__" "object") (I : Inv X pins σ H s) (at_ : H a = some (exo a C none)) (no : PySem.W.findIn X.K (.ref C) f = some none) (ry : RelV y u) {A : Around} {Q : Unit → Shared → Prop} {E : Value → Shared → Prop}
    (k : ∀ n s', H n = none → n ≠ a → Inv X pins σ (upd (upd H n (exd n [(f, y)])) a (exo a C (some n))) s' → Q () s') : wpAny (model X.prog X.w) A (setAttr (.ref a) f u) Q E s := by
  obtain ⟨t1, here⟩ := exo_at I.hok at_
  obtain ⟨cd, hc, hasd⟩ := PySem.W.any_some T.hd
  obtain ⟨hp, gs, dr, tk, os⟩ := s
  have lt : a < hp.objs.size := Heap.lt_size here
  have tkr : PySem.W.takerIn X.K C f = some none := by unfold PySem.W.takerIn; rw [no]; rfl
  refine PySem.W.set_plain I.kIn (od := none) ⟨here, rfl, rfl, trivial⟩ T.sa (PySem.W.osa_openX (od := none) SF I.kIn ⟨here, rfl, rfl, trivial⟩ T.ov tkr fun b => ?_)
  refine wpAny_bind (wpAny_pure (wpAny_bind (PySem.W.instanceDict_exc here (PySem.W.looks_clsIn I.kIn hc) hasd ?_)))
  have newd : (hp.push (PySem.W.dictOf [] 0)).get? hp.objs.size = some (PySem.W.dictOf [] 0) := Heap.get?_push_at rfl rfl
  have empty : (hp.push (PySem.W.dictOf [] 0)).Ns hp.objs.size (fun _ => none) := ⟨_, #[], _, newd, rfl, fun e he => absurd he (by simp), fun _ => rfl⟩
  have stay : ∀ b o, b ≠ a → (hp.push (PySem.W.dictOf [] 0)).get? b = some o → ((hp.push (PySem.W.dictOf [] 0)).update a fun o => { o with dict := some hp.objs.size }).get? b = some o := fun b o n q => (Heap.get?_update_ne _ _ _ _ n).trans q
  have has : ((hp.push (PySem.W.dictOf [] 0)).update a fun o => { o with dict := some hp.objs.size }).get? a = some ({ cls := .ref C, dict := some hp.objs.size, data := .fields #[.ref t1, .none, .none, .none, .bool false, .none] } : Obj) := Heap.get?_update_self _ (Heap.get?_push_of_some _ here) rfl
  have I1 := I.laid (a := hp.objs.size) (o := exd hp.objs.size []) (h' := hp.push (PySem.W.dictOf [] 0)) (t' := tk) (fun b o q => Heap.get?_push_of_some _ q) (Nat.le_refl _) (exd_ok (Heap.Ns1.of_empty empty) fun _ => True.intro)
  have I2 := I1.write (x := a) (e := a) (o := exo a C (some hp.objs.size)) (t' := tk) (by rw [upd_ne (Nat.ne_of_lt lt), at_]; exact True.intro) (.inl rfl) stay ⟨_, has⟩ (exo_ok has)
  show wpAny _ _ (Builtin.ObjectAttr.storeInDict hp.objs.size (.str f _) f u) _ _ _
  refine PySem.HandSPX.store_in_new ⟨_, #[], _, stay _ _ (Nat.ne_of_gt lt) newd, rfl, fun e he => absurd he (by simp), fun _ => rfl⟩ fun h' t' named same => ?_
  have I3 := I2.write (x := hp.objs.size) (e := hp.objs.size) (o := exd hp.objs.size [(f, y)]) (t' := t') (h' := h') (by rw [upd_ne (Nat.ne_of_gt lt), upd_same]; exact True.intro) (.inl rfl) (fun b o n q => (same.2 b n).trans q)
    (by obtain ⟨o, _, _, e', _⟩ := named; exact ⟨o, e'⟩) (exd_ok named (relO_put (fs := []) ry fun _ => True.intro))
  rw [upd_twice (Nat.ne_of_lt lt)] at I3
  exact k _ _ (I.hok.fresh (Nat.le_refl _)) (Nat.ne_of_gt lt) I3
/-- self.f = e in the __init__ of such a class -/
def tPutE (K : PySem.W.Frag) (bs : List Value) (nw : String) (f : Str) (to te : TE) : TS := fun D σ H => te σ H fun y H1 => to σ H1 fun x H2 => ∃ a C : Addr, (x = .ref a ∧ H2 a = some (exo a C none)) ∧ ErrC K C bs nw ∧ PySem.W.findIn K (.ref C) f = some none ∧
  ∀ n, H2 n = none → n ≠ a → D.nx σ (upd (upd H2 n (exd n [(f, y)])) a (exo a C (some n)))
theorem ps_putE (SF : StoreFacts B bs "object.__setattr__" "object") {o e : Expr} {to te : TE} {p' pos : Pos} (ho : PE X o to) (he : PE X e te) (sw : swapsWith e (some (.Attribute o f p')) pos.line X.env = pure false := by rfl) :
    PS X (.Assign [.Attribute o f p'] e pos) (tPutE X.K bs nw f to te) := by
  refine ⟨fun pins s σ H D I pre => plainObj_wpAny_Assign_Attribute (thn (he.run pins s σ H _ I pre) fun _ s1 ⟨y, H1, I1, ry, q1⟩ => thn (ho.run pins s1 σ H1 _ I1 q1) fun _ s2 ⟨x, H2, I2, rx, a, C, ⟨ex, at_⟩, T, no, go⟩ => ?_) sw⟩
  subst ex
  cases rx
  exact put_first T SF I2 at_ no ry fun n s' fresh ne J => ⟨σ, _, J, go n fresh ne⟩
/-- __init__(self, f): self.f = f -/
theorem iniE {P : Program} {w : World} {K : PySem.W.Frag} {mg : Str → Option Value} {base : Heap} {fI : Addr} {fd : FuncData} {x qn : Str} {st : Stmt} {s0 : Str} (F : Fun K x qn st fI fd) (S : FnScope [s0, f] [s0, f] (defScope st)) (T : ErrC K C bs nw) (no : PySem.W.findIn K (.ref C) f = some none)
    (b : ∀ (cdv : Value) (A : Around) (out : List Env) (s : Shared) (H : Hp) (E : XK), PSs (cxOf CX0 P w K mg base [s0, f] qn (defScope st) fI cdv A out s H E).nox (defBody st) (tPutE K bs nw f (tVar 0) (tVar 1))) : FnOk P w K mg base CX0 1 fI fd [s0, f] (Rb.spIni K C f) := by
  refine F.ok S (fun vs H Q E ⟨a, y, e, _⟩ => by rw [e]; rfl) fun cdv A outer s H vs Q E rm ⟨a, y, e, at_, go⟩ => ?_
  subst e
  exact ⟨_, b cdv A outer s H E, _, rfl, _, rfl, a, C, ⟨rfl, at_⟩, T, no, go⟩
/-- C(e): the error is made, its one field is the value -/
theorem pmkE {ini : String} {x : Str} {e : Expr} {te : TE} {fI : Addr} {lv : Nat} {fd : FuncData} {sps : List Str} {p pos : Pos} (FB : ExcBaseFacts B nw ini bs) (T : ErrC X.K C bs nw) (iC : PySem.W.findIn X.K (.ref C) "__init__" = some (some (.ref fI)))
    (tI : PySem.W.typeIn X.K (.ref fI) = some (.type "function")) (G : FnOk X.prog X.w X.K X.mg X.base CX0 lv fI fd sps (Rb.spIni X.K C f)) (rm : Room (lv + 1) X.A) (hb : Binds X.K fd sps []) (gl : Gl X x) (at_ : X.mg x = some (.ref C)) (he : PE X e te)
    (ndb : (x == ("__debug__" : Str)) = false := by decide) (s1 : starEach [e] X.env = (false, eval e X.env) :: starEach [] X.env := by rfl) (s2 : (backTo pos (starEach [] X.env)).any (·.1) = false := by rfl) :
    PMk X (.Call (.Name x p) [e] [] pos) (fun σ H Q => te σ H fun y H1 => ∀ n, H1 n = none → Q (.ref C) (some n) (upd H1 n (.xd [(f, y)]))) := by
  intro pins s σ H Q I pre
  have pa : PA X [e] (tCons te tNil) := pa_cons he pa_nil s1
  refine wpAny_Call_Name_kw (ld_glob I gl at_ ?_ ndb)
  refine PySem.W.callWith_K (h₀ := X.base) I.ok.mod.kin T.kp (thn (pa.run pos pins s σ H (fun vs H1 => match vs with | [y] => ∀ n, H1 n = none → Q (.ref C) (some n) (upd H1 n (.xd [(f, y)])) | _ => False) I pre) fun us s1 ⟨vs, H1, I1, rs, q1⟩ => ⟨I1.kIn, ?_⟩) s1 s2
  match vs, q1 with
  | [y], q1 =>
    obtain ⟨u, rfl, ru⟩ := rs.one
    obtain ⟨nm, N, qn, bs', bm, hdct, sn, sub, ab, col, dd, k0, k1, k2, k3, k5, isC, tail⟩ := PySem.W.excInit_of I1.kIn T.mkd
    obtain ⟨hp, gs, dr, tk, os⟩ := s1
    have fresh : H1 (hp.objs.size + 1) = none := I1.hok.fresh (Nat.le_succ _)
    have old : ∀ b o, hp.get? b = some o → ((hp.push (PySem.W.kdv_tup [u])).push (PySem.HandSPX.excO C hp.objs.size)).get? b = some o := fun b o z => Heap.get?_push_of_some _ (Heap.get?_push_of_some _ z)
    have made : ((hp.push (PySem.W.kdv_tup [u])).push (PySem.HandSPX.excO C hp.objs.size)).get? (hp.objs.size + 1) = some (PySem.HandSPX.excO C hp.objs.size) := by heap_get
    have I2 := I1.laid (t' := tk) (a := hp.objs.size + 1) (o := exo (hp.objs.size + 1) C none) old (Nat.le_succ _) (exo_ok made)
    have rs2 : Vals [V.ref (hp.objs.size + 1), y] [Value.ref (hp.objs.size + 1), u] := .cons rfl (.cons ru .nil)
    have job := (Rb.mkO_of (K := X.K) (C := C) (f := f) (y := y) (W := Q) q1).2 (hp.objs.size + 1) fresh
    have many : [Value.ref (hp.objs.size + 1), u].length = sps.length := rs2.length.symm.trans (G.len _ _ _ _ job)
    refine wpAny_call (PySem.HandSPX.call_own FB tail isC (PySem.W.looks_findIn I1.kIn iC) (fun self => PySem.W.bind_fn I1.kIn self tI) (by show 1 ≤ sizeLine; rw [sizeLine_eq]; omega) ?_)
    refine codeAny_mono (G.run _ X.stack _ _ ⟨[Value.ref (hp.objs.size + 1), u], []⟩ [Value.ref (hp.objs.size + 1), u] _ _ (fun _ _ _ => False) (rm.make C [u] []) (I2.env0.make C [u] []) (hb _ _ I2.kIn many) rs2 job) fun r s' fin => ?_
    match r, fin with
    | .ok (.ret w), fin =>
      obtain ⟨v, H2, os2, bare, un, hok, rv, rfl, n, fs, ea, ed, hn, q2⟩ := fin
      exact ⟨rv, mk_end (raises_own T.ex T.ty) I1 (Nat.le_succ _) old un hok os2 bare ea ed hn q2⟩
    | .ok .next, fin => exact (fin : False).elim
    | .ok .brk, fin => exact (fin : False).elim
    | .ok .cont, fin => exact (fin : False).elim
    | .error er, fin =>
      obtain ⟨_, _, _, _, _, _, _, _, _, _, _, _, _, _, _, _, z⟩ := fin
/-- C(): no field -/
theorem pmkE0 {ini : String} {x : Str} {p pos : Pos} (FB : ExcBaseFacts B nw ini bs) (q : PySem.W.excIn X.K C bs nw = true) (kp : PySem.W.keepIn X.K (.ref C) = true) (r : Raises X (.ref C)) (gl : Gl X x) (at_ : X.mg x = some (.ref C)) (ndb : (x == ("__debug__" : Str)) = false := by decide) :
    PMk X (.Call (.Name x p) [] [] pos) (fun _ H Q => Q (.ref C) none H) := by
  intro pins s σ H Q I pre
  refine wpAny_Call_Name_kw (ld_glob I gl at_ (PySem.W.callWith_K0 I.kIn kp ?_) ndb)
  obtain ⟨bm, N, nm, qn, bs', hdct, sn, sub, ab, col, dd, k0, k1, k2, k3, k5, mN, isC, isN, noI, T⟩ := exc_obj I.kIn q
  obtain ⟨hp, gs, dr, tk, os⟩ := s
  exact wpAny_call_exc_subT FB T isC isN noI (fun h' e made => mk_of I made r pre (I.hok.gone made.new)) (Nat.zero_le _)
end
section
variable {X : Cx} {E : XK} {C fI : Addr} {fd : FuncData} {lv : Nat} {x f : Str} {sps : List Str} {e : Expr} {fe : FE} {bs : List Value} {nw B ini : String} {p p2 pos : Pos}
/-- raise C(e) -/
theorem d_raiseE (hc : X.calm = true) (tk : Takes X (fun cls d _ H => E cls d H)) (FB : ExcBaseFacts B nw ini bs) (T : ErrC X.K C bs nw) (iC : PySem.W.findIn X.K (.ref C) "__init__" = some (some (.ref fI))) (tI : PySem.W.typeIn X.K (.ref fI) = some (.type "function"))
    (G : FnOk X.prog X.w X.K X.mg X.base CX0 lv fI fd sps (Rb.spIni X.K C f)) (rm : Room (lv + 1) X.A) (hb : Binds X.K fd sps []) (gl : Gl X x) (at_ : X.mg x = some (.ref C)) (he : PEd X (cE E) e fe)
    (ndb : (x == ("__debug__" : Str)) = false := by decide) (s1 : starEach [e] X.env = (false, eval e X.env) :: starEach [] X.env := by rfl) (s2 : (backTo p2 (starEach [] X.env)).any (·.1) = false := by rfl) :
    PSd X E (.Raise (some (.Call (.Name x p) [e] [] p2)) none pos) (dRaise x f fe) := by
  refine PS.imp (ps_raise hc tk (pmkE FB T iC tI G rm hb gl at_ he ndb s1 s2)) fun D σ H ⟨μ, S, ρ, De, Ed, w, en, hf, k, px⟩ => ?_
  exact tR_of w en hf px fun d S1 v H1 μ1 h1 f1 w1 en1 px1 r1 n free => px1 (x, [(f, d)]) S1 (.ref C) (some n) _ μ1 h1 (Fw.new free) (w1.new free) ⟨at_, n, [(f, v)], rfl, upd_same, .cons (r1.fw w1 (Fw.new free)) .nil⟩
/-- raise C() -/
def dRaise0 (x : Str) : FS := fun _ S _ Ed => Ed (x, []) S
theorem d_raiseE0 (hc : X.calm = true) (tk : Takes X (fun cls d _ H => E cls d H)) (FB : ExcBaseFacts B nw ini bs) (q : PySem.W.excIn X.K C bs nw = true) (kp : PySem.W.keepIn X.K (.ref C) = true) (ex : PySem.W.subIn X.K (.ref C) (.type "BaseException") = some true) (ty : PySem.W.typeIn X.K (.ref C) = some (.type "type"))
    (gl : Gl X x) (at_ : X.mg x = some (.ref C)) (ndb : (x == ("__debug__" : Str)) = false := by decide) : PSd X E (.Raise (some (.Call (.Name x p) [] [] p2)) none pos) (dRaise0 x) := by
  refine PS.imp (ps_raise hc tk (pmkE0 FB q kp (raises_own ex ty) gl at_ ndb)) fun D σ H ⟨μ, S, ρ, De, Ed, w, en, hf, k, px⟩ => ?_
  exact px (x, []) S (.ref C) none H μ hf Fw.refl w ⟨at_, rfl⟩
end
end Pu
namespace Pu
open PySem PySem.Spec PyProof.Rows L2
/-! ## a class's own operators: a + b, a >> i, a == b, x in a, a(x) -/
/-- of a class of the row: the def under the name dn means F -/
def OpF (P : Program) (wo : World) (K : PySem.W.Frag) (mg : Str → Option Value) (b0 : Heap) (cx : CXT) (lv : Nat) (dn : Str) (x : Str) (F : FF) : Prop :=
  ∀ C, mg x = some (.ref C) → ∃ fn dat pars, (PySem.W.findIn K (.ref C) dn = some (some (.ref fn)) ∧ PySem.W.isFn K (.ref fn) = true ∧ PySem.W.fnIn K fn = true ∧ PySem.W.selfFirst K C = true) ∧ Rb.FnG P wo K mg b0 cx lv fn dat pars (spF (ct0 K mg) F) ∧ Binds K dat pars []
theorem op_of {P : Program} {wo : World} {K : PySem.W.Frag} {mg : Str → Option Value} {b0 : Heap} {cx : CXT} {lv : Nat} {dn x : Str} {F : FF} {C fn : Addr} {dat : FuncData} {pars : List Str} (g : mg x = some (.ref C)) (a : PySem.W.findIn K (.ref C) dn = some (some (.ref fn))) (b : PySem.W.isFn K (.ref fn) = true)
    (c : PySem.W.fnIn K fn = true) (d : PySem.W.selfFirst K C = true) (G : Rb.FnG P wo K mg b0 cx lv fn dat pars (spF (ct0 K mg) F)) (B : Binds K dat pars []) : OpF P wo K mg b0 cx lv dn x F := fun C' h => by
  rw [g] at h
  cases h
  exact ⟨fn, dat, pars, ⟨a, b, c, d⟩, G, B⟩
/-- a op b, both of one class -/
def dOpO (tab : List (Str × FF)) (fo fi : FE) : FE := fun ρ S Q Ed => fo ρ S (fun d S1 => fi ρ S1 (fun i S2 => onSome (insOf S2 d) fun cf => onSome (insOf S2 i) fun cg => cg.1 = cf.1 ∧ onSome (tabF tab cf.1) fun F => F [d, i] S2 Q Ed) Ed) Ed
/-- what stands when both operands are there -/
def Two (X : Cx) (cx : CXT) (lv : Nat) (E1 : XK) (Q : VK) (x y : V) (H : Hp) (Y : Addr → Addr → V → Hp → Prop) : Prop :=
  ∃ (a C dx : Addr) (fv : List (Str × V)) (fn : Addr) (dat : FuncData) (pars : List Str) (F : FF) (d i : D) (μ : Mu) (S : Sto) (Qd : QD) (Ed : ED), (x = .ref a ∧ H a = some (.ins C dx fv) ∧ Y C fn y H) ∧
    Rb.FnG X.prog X.w X.K X.mg X.base cx lv fn dat pars (spF (ct X) F) ∧ Binds X.K dat pars [] ∧ Wd (ct X) μ S H ∧ Rp (ct X) μ H x d ∧ Rp (ct X) μ H y i ∧ F [d, i] S Qd Ed ∧ PostV (ct X) μ H Qd Q ∧ PX (ct X) μ H Ed E1
theorem noNI {v : V} {u : Value} (r : RelV v u) : u ≠ .notImplemented := fun z => by
  subst z
  cases v with
  | int _ => obtain ⟨_, e⟩ := r; cases e
  | str _ => obtain ⟨_, e⟩ := r; cases e
  | byt _ => obtain ⟨_, e⟩ := r; cases e
  | flt _ => obtain ⟨_, e⟩ := r; cases e
  | _ => cases r
theorem cmpBack {Q : Value → Shared → Prop} {u : Value} {s : Shared} (n : u ≠ .notImplemented) (q : Q u s) : PySem.W.CmpBack Q u s := by
  cases u <;> first | exact q | exact absurd rfl n
section
variable {X : Cx} {cx : CXT} {lv : Nat} {tab : List (Str × FF)}
theorem Two.run {pins : List (Addr × Obj)} {σ : L2.St} {s : Shared} {E1 : XK} {Q : VK} {x y : V} {v u : Value} {H : Hp} {Y : Addr → Addr → V → Hp → Prop} (gd : X.A.guards = some []) (rm : Room lv X.A) (ps : PassesAt cx X σ E1) (I : Inv X pins σ H s) (rx : RelV x v) (ry : RelV y u) (t : Two X cx lv E1 Q x y H Y) :
    ∃ (a C fn : Addr) (ox : Obj) (od : Option Obj) (m : Str → Option Value), v = .ref a ∧ Y C fn y H ∧ ox.data = .plain ∧ PySem.W.InstAt s.heap a ox C od ∧ Fr X.base X.env.locals s.heap m ∧ wpAny (model X.prog X.w) X.A (call (.ref fn) [.ref a, u]) (EP X pins σ Q) X.xe s := by
  obtain ⟨a, C, dx, fv, fn, dat, pars, F, d, i, μ, S, Qd, Ed, ⟨rfl, ea, hy⟩, c4, c5, w2, r1, r2, h2, q2, px2⟩ := t
  obtain rfl : v = Value.ref a := rx
  obtain ⟨mm, ob, _, _, _, _⟩ := ins_get I.hok ea
  obtain ⟨od, J, _⟩ := ob.look
  obtain ⟨m, fr⟩ := I.fr
  exact ⟨a, C, fn, _, od, m, rfl, hy, rfl, J, fr, runGS (us := [.ref a, u]) (xs := [.ref a, y]) c4 gd rm c5 ps I (.cons rfl (.cons ry .nil)) ⟨μ, S, [d, i], Qd, Ed, w2, .cons r1 (.cons r2 .nil), h2, q2, px2⟩⟩
/-- the two operands, evaluated -/
theorem two_op {E : L2.St → XK} {a b : Expr} {fa fb : FE} {op : Operator} {pos : Pos} {G : D → D → Sto → QD → ED → Prop} {Y : Addr → Addr → V → Hp → Prop}
    (hG : ∀ {d i : D} {S : Sto} {Qd : QD} {Ed : ED} {μ : Mu} {H : Hp} {v u : V}, G d i S Qd Ed → Wd (ct X) μ S H → Rp (ct X) μ H v d → Rp (ct X) μ H u i → ∃ (a C dx : Addr) (fv : List (Str × V)) (fn : Addr) (dat : FuncData) (pars : List Str) (F : FF), (v = .ref a ∧ H a = some (.ins C dx fv) ∧ Y C fn u H) ∧
      Rb.FnG X.prog X.w X.K X.mg X.base cx lv fn dat pars (spF (ct X) F) ∧ Binds X.K dat pars [] ∧ F [d, i] S Qd Ed)
    (gd : X.A.guards = some []) (rm : Room lv X.A) (ps : ∀ σ, PassesAt cx X σ (E σ)) (ha : PEd X E a fa) (hb : PEd X E b fb)
    (fin : ∀ {pins : List (Addr × Obj)} {σ : L2.St} {s : Shared} {Q : VK} {H : Hp} {p C fn : Addr} {ox : Obj} {od : Option Obj} {m : Str → Option Value} {y : V} {u : Value}, Inv X pins σ H s → RelV y u → Y C fn y H → ox.data = .plain → PySem.W.InstAt s.heap p ox C od → Fr X.base X.env.locals s.heap m →
      wpAny (model X.prog X.w) X.A (call (.ref fn) [.ref p, u]) (EP X pins σ Q) X.xe s → wpAny (model X.prog X.w) X.A (binaryOp op (.ref p) u) (EP X pins σ Q) X.xe s) :
    PEd X E (.BinOp a op b pos) (fun ρ S Q Ed => fa ρ S (fun d S1 => fb ρ S1 (fun i S2 => G d i S2 Q Ed) Ed) Ed) := by
  refine ⟨fun pins s σ H Q I h => wpAny_BinOp (binT ha hb I (R := fun x y H2 => Two X cx lv (E σ) Q x y H2 Y) ?_ fun v u s2 x y H2 I2 rx ry q => ?_)⟩
  · obtain ⟨μ, S, ρ, Qd, Ed, w, en, hf, q, px⟩ := h
    refine tR_of w en hf px fun d S1 v H1 μ1 h1 f1 w1 en1 px1 r1 => ?_
    refine tR_of w1 en1 h1 px1 fun i S2 u H2 μ2 h2 f2 w2 en2 px2 r2 => ?_
    have r1' := r1.fw w1 f2
    obtain ⟨a, C, dx, fv, fn, dat, pars, F, y1, y2, y3, y4⟩ := hG h2 w2 r1' r2
    exact ⟨a, C, dx, fv, fn, dat, pars, F, d, i, μ2, S2, Qd, Ed, y1, y2, y3, w2, r1', r2, y4, PostV.fw (PostV.fw q f1) f2, px2⟩
  · obtain ⟨p, C, fn, ox, od, m, rfl, hy, hd, J, fr, run⟩ := q.run gd rm (ps σ) I2 rx ry
    exact fin I2 ry hy hd J fr run
theorem d_opO {E : L2.St → XK} {a b : Expr} {fa fb : FE} {op : Operator} {dn : Str} {pos : Pos} (hdn : PySem.dunder op.info.2 = dn) (hct : ct X = ct0 X.K X.mg) (hx : ∀ p ∈ tab, OpF X.prog X.w X.K X.mg X.base cx lv dn p.1 p.2) (gd : X.A.guards = some []) (rm : Room lv X.A) (ps : ∀ σ, PassesAt cx X σ (E σ))
    (ha : PEd X E a fa) (hb : PEd X E b fb) : PEd X E (.BinOp a op b pos) (dOpO tab fa fb) := by
  refine two_op (Y := fun C fn y H => (PySem.W.findIn X.K (.ref C) dn = some (some (.ref fn)) ∧ PySem.W.isFn X.K (.ref fn) = true ∧ PySem.W.selfFirst X.K C = true) ∧ ∃ (b dy : Addr) (gv : List (Str × V)), y = .ref b ∧ H b = some (.ins C dy gv)) (fun {d i S Qd Ed μ H v u} h w r1 r2 => ?_) gd rm ps ha hb (fun {pins σ s Q H p C fn ox od m y u} I ry ⟨⟨c1, c2, c3⟩, b, dy, gv, ey, eb⟩ hd J fr run => ?_)
  · obtain ⟨⟨x, fs⟩, e1, h⟩ := onSome_of h
    obtain ⟨⟨x', gs⟩, e2, ex, h1⟩ := onSome_of h
    clear h
    dsimp only at ex
    subst ex
    obtain ⟨F, e3, h⟩ := onSome_of h1
    obtain ⟨p, C, dx, fv, rfl, hp, hm, rf⟩ := id (r1.insT w e1)
    obtain ⟨p', C', dx', fv', rfl, hp', hm', rf'⟩ := id (r2.insT w e2)
    obtain ⟨fn, dat, pars, ⟨c1, c2, c3, c4⟩, c5, c6⟩ := hx _ (tabF_mem e3) C hm
    rw [hm] at hm'
    cases hm'
    rw [← hct] at c5
    exact ⟨p, C, dx, fv, fn, dat, pars, F, ⟨rfl, hp, ⟨c1, c2, c4⟩, p', dx', fv', rfl, hp'⟩, c5, c6, h⟩
  · subst ey
    obtain rfl : u = Value.ref b := ry
    obtain ⟨mm, ob, _, _, _, _⟩ := ins_get I.hok eb
    obtain ⟨od', J', _⟩ := ob.look
    exact PySem.W.binop_K fr I.ok.mod.kin J J'.type c3 (hdn ▸ c1) c2 (wpAny_mono run (fun u' s' hu => cmpBack (by obtain ⟨_, _, _, rv, _⟩ := hu; exact noNI rv) hu) fun _ _ z => z)
/-- isinstance(a, C), a an instance -/
def dIsC (tab : List (Str × Str × Bool)) (y : Str) (fo : FE) : FE := fun ρ S Q Ed => fo ρ S (fun d S1 => onSome (insOf S1 d) fun cf => onSome (lookX tab cf.1 y) fun b => Q (.bl b) S1) Ed
theorem d_isC {E : L2.St → XK} {a : Expr} {fa : FE} {y : Str} {D : Addr} {t2 : List (Str × Str × Bool)} {p2 p3 pos : Pos} (hx : ∀ z ∈ t2, ∀ C, X.mg z.1 = some (.ref C) → InsT X.K C ∧ ∀ D, X.mg z.2.1 = some (.ref D) → PySem.W.kitOne X.K (.ref C) (.ref D) = some z.2.2) (hg : Gl X "isinstance") (hm : X.mg "isinstance" = none)
    (gy : Gl X y) (my : X.mg y = some (.ref D)) (ha : PEd X E a fa) (ndb : (y == ("__debug__" : Str)) = false := by decide)
    (s1 : starEach [a, .Name y p3] X.env = (false, eval a X.env) :: starEach [.Name y p3] X.env := by rfl) (s2 : starEach [.Name y p3] X.env = (false, eval (.Name y p3) X.env) :: starEach [] X.env := by rfl) (s3 : (backTo pos (starEach [.Name y p3] X.env)).any (·.1) = false := by rfl) :
    PEd X E (.Call (.Name "isinstance" p2) [a, .Name y p3] [] pos) (dIsC t2 y fa) := by
  refine PE.imp (pe_callB call_isi hg hm (show bootBuiltins "isinstance" = some (.builtin "isinstance") by decide +kernel) (pa_cons ha (pa_cons (pe_glob gy my (show RelV (V.ref D) _ from rfl) ndb) pa_nil s2) s1) (by decide) (by decide) s1 s3) fun σ H Q ⟨μ, S, ρ, Qd, Ed, w, en, hf, q, px⟩ => ?_
  refine tR_of w en hf px fun x S1 v H1 μ1 h1 f1 w1 en1 px1 r1 => ?_
  obtain ⟨⟨n, fs⟩, e1, h1⟩ := onSome_of h1
  obtain ⟨b, e2, h1⟩ := onSome_of h1
  obtain ⟨p, C, dx, fv, rfl, hp, hg', _⟩ := r1.insT w1 e1
  obtain ⟨T, hk⟩ := hx _ (lookX_mem e2) C hg'
  exact ⟨_, _, _, _, b, rfl, .own D, .base (.ins hp T.cl T.ha T.hn T.tk T.hm), hk D my, q _ S1 _ H1 μ1 h1 f1 w1 (.bl b)⟩
end
theorem isc_of {K : PySem.W.Frag} {mg : Str → Option Value} {x y : Str} {C D : Addr} {b : Bool} (g : mg x = some (.ref C)) (t : InsT K C) (gy : mg y = some (.ref D)) (k : PySem.W.kitOne K (.ref C) (.ref D) = some b) : ∀ C', mg x = some (.ref C') → InsT K C' ∧ ∀ D', mg y = some (.ref D') → PySem.W.kitOne K (.ref C') (.ref D') = some b := fun C' h => by
  rw [g] at h
  cases h
  refine ⟨t, fun D' h' => ?_⟩
  rw [gy] at h'
  cases h'
  exact k
end Pu
namespace Pu
open PySem PySem.Spec PyProof.Rows L2
/-! ## defs that are run whatever repr is under way (what a generator's body calls) -/
structure FnU (pr : Program) (wo : World) (K : PySem.W.Frag) (mg : Str → Option Value) (b0 : Heap) (cx : CXT) (lv : Nat) (fn : Addr) (dat : FuncData) (pars : List Str) (sp : Sp) : Prop where
  many : ∀ xs H Q E, sp xs H Q E → xs.length = pars.length
  goes : ∀ (A : Around) (out : List Env) (s : Shared) (H : Hp) (ar : Args) (us : List Value) (xs : List V) (Q : VK) (E : XK),
    Room lv A → Env0 pr wo K mg b0 A out s H → BindsTo s dat ar (pars.zip us) → Vals xs us → sp xs H Q E →
    codeAny (model pr wo) A (.call (.ref fn) ar) (CR cx out pr wo H s Q E) s
theorem FnU.g {pr : Program} {wo : World} {K : PySem.W.Frag} {mg : Str → Option Value} {b0 : Heap} {cx : CXT} {lv : Nat} {fn : Addr} {dat : FuncData} {pars : List Str} {sp : Sp} (F : FnU pr wo K mg b0 cx lv fn dat pars sp) : Rb.FnG pr wo K mg b0 cx lv fn dat pars sp :=
  ⟨F.many, fun A out s H ar us xs Q E h1 _ h2 h3 h4 h5 => F.goes A out s H ar us xs Q E h1 h2 h3 h4 h5⟩
end Pu
namespace Pu
open PySem PySem.Spec PyProof.Rows L2 GenW
/-! ## a generator's body: what is out so far goes along -/
theorem GS.imp {X : Cx} {st : Stmt} {t t' : TGn} (h : GS X st t) (k : ∀ D ys σ H, t' D ys σ H → t D ys σ H) : GS X st t' :=
  ⟨fun A S ip R n ys s₀ c fs K J gd lv s σ H D g hn kk hI ht => h.run A S ip R n ys s₀ c fs K J gd lv s σ H D g hn kk hI (k D ys σ H ht)⟩
theorem GSs.imp {X : Cx} {st : List Stmt} {t t' : TGn} (h : GSs X st t) (k : ∀ D ys σ H, t' D ys σ H → t D ys σ H) : GSs X st t' :=
  ⟨fun A S ip R n ys s₀ c fs K J gd lv s σ H D g hn kk hI ht => h.run A S ip R n ys s₀ c fs K J gd lv s σ H D g hn kk hI (k D ys σ H ht)⟩
/-! ## the def, its promise -/
end Pu
namespace Pu
open PySem PySem.Spec PyProof.Rows L2
/-! ## several except clauses, each of one class or of two, with a name or without -/
section
variable {X : Cx}
/-- an error in the hand of the clauses: sI is the state without it -/
structure InHand (X : Cx) (B : Heap) (a : Addr) (cls : Value) (d : Option Addr) (pins : List (Addr × Obj)) (σ : L2.St) (H : Hp) (sI s' : Shared) : Prop where
  inv : Inv X pins σ H sI
  gr : ∀ b o, sI.heap.get? b = some o → b ∉ frs X.stack → B.get? b = some o
  na : H a = none
  os : s'.os = sI.os
  ag : AllBare s'.gens
section
variable {B : Heap} {a : Addr} {cls : Value} {d : Option Addr} {pins : List (Addr × Obj)} {σ : L2.St} {H : Hp} {sI s' : Shared} {h : Heap}
theorem InHand.now (c : InHand X B a cls d pins σ H sI s') (f : HandSPX.FlyingZ B (X.env :: X.outer) a (Zc cls d) h) (u : sI.heap.UpToSlots h) : Inv X pins σ H { s' with heap := h } := c.inv.landed c.gr f.1 u c.os c.ag
theorem flying_apart (f : HandSPX.FlyingZ B (X.env :: X.outer) a (Zc cls d) h) : a ∉ frs (X.env :: X.outer) := by
  obtain ⟨o, vs, e1, _, e2⟩ := f.there
  intro z
  obtain ⟨_, o', e3, nf⟩ := f.2.2.1.mem z
  rw [e1] at e3
  cases e3
  exact nf _ e2
theorem InHand.suite (c : InHand X B a cls d pins σ H sI s') (hf : X.env.frame = some X.env.locals) (f : HandSPX.FlyingZ B (X.env :: X.outer) a (Zc cls d) h) (u : sI.heap.UpToSlots h) :
    ∃ oe vs, h.get? a = some oe ∧ Zc cls d oe ∧ oe.data = .fields vs ∧ Inv (X.suite a ((a, oe) :: (X.pn ++ pins))) [] σ H { s' with heap := h } := by
  obtain ⟨o, vs, e1, z, e2⟩ := f.there
  have ap := flying_apart f
  refine ⟨o, vs, e1, z, e2, (c.now f u).suite e1 e2 c.na (fun w => ap ?_) fun w => ap ?_⟩
  · exact List.mem_filterMap.mpr ⟨X.env, List.mem_cons_self, w ▸ hf⟩
  · obtain ⟨e, m1, m2⟩ := List.mem_filterMap.mp w
    exact List.mem_filterMap.mpr ⟨e, List.mem_cons_of_mem _ m1, m2⟩
end
end
end Pu
/-! sorted of tuples of whole numbers, of any lengths, the first one empty -/
namespace PuSt
open PySem PySem.Calls PySem.W PyProof.Rows
def IsTI (hp : Heap) (v : Value) (ns : List Int) : Prop := ∃ (a : Addr) (dd : Option Addr) (items : Array Value) (n : Nat) (sl : Array (Option Value)), v = .ref a ∧ hp.get? a = some { cls := .type "tuple", dict := dd, data := .seq items n, slots := sl } ∧ IntsAre items.toList ns
theorem IsTI.keeps {hp hp' : Heap} {v : Value} {ns : List Int} (x : IsTI hp v ns) (k : ∀ b o, hp.get? b = some o → o.cls = .type "tuple" → hp'.get? b = some o) : IsTI hp' v ns := by
  obtain ⟨a, dd, items, n, sl, e, g, i⟩ := x
  exact ⟨a, dd, items, n, sl, e, k _ _ g rfl, i⟩
theorem IsTI.type {M : Model} {hp : Heap} {v : Value} {ns : List Int} (x : IsTI hp v ns) : Looks M hp (typeOf v) (.type "tuple") := by
  obtain ⟨a, dd, items, n, sl, rfl, g, i⟩ := x
  exact (Looks.ld g).andThen .now
end PuSt
namespace Pu
open PySem PySem.Spec PyProof.Rows L2 PySem.SeqAt
/-! ## x == [], x != [] of a list of any values: what is in it is not asked -/
def gEqN (neg : Bool) : G2 := fun x y S Q => onSome (pyC S x) fun p => onSome (pyC S y) fun q => match p, q with
  | .list ps, .list [] => Q (.bl (nb neg ps.isEmpty)) S
  | _, _ => False
section
variable {X : Cx}
theorem rc_empty {A : Around} {s : Shared} {u v : Value} {ps : List PyData} {as bs : List Addr} (h1 : Reads s.heap u (.list ps) as) (h2 : Reads s.heap v (.list []) bs) (hu : A.units + 64 < cLine) : RcAt A s u v ps.isEmpty ∧ RcNeAt A s u v (!ps.isEmpty) := by
  cases h1 with
  | @list l o vs n _ as₁ k1 k2 k3 k4 =>
    cases h2 with
    | @list l' o' vs' n' _ bs₁ j1 j2 j3 j4 =>
      have hl : s.heap.IsList l vs := ⟨_, k1, k2, _, k3⟩
      have hl' : s.heap.IsList l' vs' := ⟨_, j1, j2, _, j3⟩
      have n1 : vs.size = ps.length := by simpa using ReadsAll.length _ _ _ k4
      have n2 : vs'.size = 0 := by simpa using ReadsAll.length _ _ _ j4
      have hr : A.units < cLine := Nat.lt_of_le_of_lt (Nat.le_add_right _ _) hu
      cases ps with
      | nil =>
        have z : vs.size = 0 := n1
        have e1 := RcAt.lists (e := fun _ => true) hl hl' (by omega) hr (fun j j1 _ => absurd j1 (by omega))
        have e2 := RcNeAt.lists (e := fun _ => true) hl hl' (by omega) hr (fun j j1 _ => absurd j1 (by omega))
        rw [z] at e1 e2
        exact ⟨e1, e2⟩
      | cons p ps =>
        have z : (vs.size != vs'.size) = true := by
          rw [n1, n2]
          rfl
        exact ⟨RcAt.lists_lengths hl hl' z hr, RcNeAt.lists_lengths hl hl' z hr⟩
theorem o_neN (hu : X.A.units + 64 < cLine) : OpR X (compareOp .NotEq) (rD2 (ct X) (gEqN true)) := by
  intro pins s σ H x y v u Q I rx ry ⟨μ, S, dx, dy, Qd, w, r1, r2, hg, q⟩
  obtain ⟨p, e1, hg⟩ := onSome_of hg
  obtain ⟨p', e2, hg⟩ := onSome_of hg
  obtain ⟨as, h1⟩ := w.reads I r1 rx e1
  obtain ⟨bs, h2⟩ := w.reads I r2 ry e2
  split at hg
  · exact (rc_empty h1 h2 hu).2 _ _ _ _ ⟨.bl _, H, I, rfl, q.same w (.bl _) hg⟩
  · exact hg.elim
end
/-! ## ==, != of values with any texts in them, and no dict -/
/-! ## the first place of a truth value in a list of truth values -/
end Pu
namespace Pu
open PySem PySem.Spec PyProof.Rows L2
/-! ## try with several clauses whose bodies may make and change lists -/
def noXC : Cl → Bool
  | .lst ds => noXs ds
  | .ins _ fs => noXf fs
def keepC (S S2 : Sto) : Prop := ∀ (i : Nat) (x : Cl), S2[i]? = some x → S[i]? = some x ∨ noXC x = true
theorem keepC.snoc {S S2 : Sto} {c : Cl} (k : keepC S S2) (n : noXC c = true) : keepC S (S2 ++ [c]) := fun i x h => by
  by_cases hi : i < S2.length
  · rw [List.getElem?_append_left hi] at h
    exact k i x h
  · rw [List.getElem?_append_right (by omega)] at h
    by_cases h0 : i - S2.length = 0
    · rw [h0] at h
      cases h
      exact .inr n
    · rw [List.getElem?_eq_none (by show 1 ≤ _; omega)] at h
      cases h
end Pu
namespace Pu
open PySem PySem.Spec PyProof.Rows L2
/-! ## a def that is called with the error that is handled -/
structure RmE (k : Nat) (A : Around) : Prop where
  dp : A.depth + 3 * k + 5 < recursionLimit
  un : A.units + 16 * k + 200 < cLine
theorem RmE.units {k : Nat} {A : Around} (r : RmE k A) : A.units + 64 < cLine := by have := r.un; omega
theorem RmE.mono {j k : Nat} {A : Around} (r : RmE k A) (h : j ≤ k) : RmE j A := ⟨by have := r.dp; omega, by have := r.un; omega⟩
theorem RmE.of {k : Nat} {A : Around} (r : Room k A) : RmE k A := ⟨r.dp, r.un⟩
abbrev xNo : XK := fun _ _ _ => False
structure FnE (pr : Program) (wo : World) (K : PySem.W.Frag) (mg : Str → Option Value) (b0 : Heap) (lv : Nat) (fn : Addr) (dat : FuncData) (pars : List Str) (F : FF) : Prop where
  many : ∀ c xs H Q E, spF c F xs H Q E → xs.length = pars.length
  goes : ∀ (A : Around) (out : List Env) (s : Shared) (H : Hp) (ar : Args) (us : List Value) (xs : List V) (Q : VK) (a : Addr) (oe : Obj),
    RmE lv A → A.guards = some [] → (∃ vs, oe.data = .fields vs) → L2H.PinOk out H s (a, oe) → Env0 pr wo K mg b0 (A.mark (some (.ref a))) out s H → BindsTo s dat ar (pars.zip us) → Vals xs us →
    spF (cH K mg a oe.cls oe.dict) F xs H Q xNo → codeAny (model pr wo) (A.mark (some (.ref a))) (.call (.ref fn) ar) (CR CX0 out pr wo H s Q xNo) s
section
variable {pr : Program} {wo : World} {K : PySem.W.Frag} {mg : Str → Option Value} {b0 : Heap} {lv : Nat} {x qn : Str} {st : Stmt} {fn : Addr} {dat : FuncData} {NN pars : List Str} {fb : FS}
/-- the context of its body -/
abbrev cxE (pr : Program) (wo : World) (K : PySem.W.Frag) (mg : Str → Option Value) (b0 : Heap) (NN : List Str) (qn : Str) (sco : Scope) (fn : Addr) (cdv : Value) (A : Around) (out : List Env) (s : Shared) (H : Hp) : Cx :=
  cxOf CX0 pr wo K mg b0 NN qn sco fn cdv A out s H xNo
theorem d_fnE (F : Fun K x qn st fn dat) (S : FnScope NN pars (defScope st))
    (body : ∀ (cdv : Value) (A : Around) (out : List Env) (s : Shared) (H : Hp) (a : Addr) (oe : Obj) (pn : List (Addr × Obj)), A.guards = some [] → RmE lv (A.deeper (envOfC qn (defScope st) s.heap.objs.size fn cdv)) → (∃ vs, oe.data = .fields vs) →
      PBd ((cxE pr wo K mg b0 NN qn (defScope st) fn cdv A out s H).suite a ((a, oe) :: pn)) E0 (defBody st) fb) :
    FnE pr wo K mg b0 (lv + 1) fn dat pars (dDef pars.length NN.length fb) := by
  obtain ⟨oc, od, kV, dc, pv, an, cdv, ct', osl, rfl, at_, code⟩ := F.ex
  refine ⟨fun c xs H Q E pro => ?_, fun A out s H ar us xs Q a oe rm gd hfd pin e0 bi vx pro => ?_⟩
  · obtain ⟨μ, S, ds, Qd, Ed, w, r, ⟨hl, _⟩, _⟩ := pro
    rw [r.length]
    exact hl
  have hl : xs.length = pars.length := by
    obtain ⟨μ, S, ds, Qd, Ed, w, r, ⟨hl, _⟩, _⟩ := pro
    rw [r.length]
    exact hl
  have kin : K.In s.heap := e0.mod.kin.keeps fun b o e => (e0.bs b o e).1
  have lim : s.heap.NoLimit := e0.mod.nolimit.keeps fun b o e => (e0.bs b o e).1
  have hdep : (A.mark (some (.ref a))).depth < recursionLimit := by have := rm.dp; show A.depth < _; omega
  refine codeAny_call_function hdep (kin _ _ at_) rfl S.co S.gen rfl (PySem.W.codeRec_of kin code) (bi _ _ _ _ ?_)
  refine wpAny_newFunctionEnv_cells S.kind ?_ ?_
  · rintro ⟨n, v⟩ hy
    cases S.par n (List.of_mem_zip hy).1 with
    | inl q => exact Or.inl q
    | inr q => exact Or.inr ⟨q, PySem.W.cellsFrom_some _ _ _ (Or.inl q)⟩
  intro env he s1 ic
  subst he
  refine ⟨lim.keeps ic.toInCall.keep, codeAny_func ?_⟩
  have I0 : Inv (L2H.cxH CX0 pr wo K mg b0 NN qn (defScope st) fn cdv (A.mark (some (.ref a))) out s H xNo (a, oe)) [] (L2.start NN xs) H s1 := L2H.inv_startH S pin e0 hl vx ic
  have rmb : RmE lv (A.deeper (envOfC qn (defScope st) s.heap.objs.size fn cdv)) := ⟨by have := rm.dp; show A.depth + 1 + 3 * lv + 5 < _; omega, by have := rm.un; show A.units + 3 + 16 * lv + 200 < _; omega⟩
  have B := body cdv A out s H a oe [] gd rmb hfd
  obtain ⟨μ, S, ds, Qd, Ed, w, r, ⟨hn, h⟩, q, px⟩ := pro
  have ec : ct ((cxE pr wo K mg b0 NN qn (defScope st) fn cdv A out s H).suite a [(a, oe)]) = cH K mg a oe.cls oe.dict := ct_suite
  have rd : tS (ct ((cxE pr wo K mg b0 NN qn (defScope st) fn cdv A out s H).suite a [(a, oe)])) E0 fb { nx := fun _ H' => Q .non H', rt := Q } (L2.start NN xs) H := by
    rw [ec]
    exact ⟨μ, S, _, _, noE, w, startD_env r, h, ⟨fun ρ' S' σ' H' μ' hq f w' en => q .non S' .non H' μ' hq f w' .non, q, fun _ _ _ _ _ z => z.elim, fun _ _ _ _ _ z => z.elim⟩, pxNo⟩
  have B2 : PSs (L2H.cxH CX0 pr wo K mg b0 NN qn (defScope st) fn cdv (A.mark (some (.ref a))) out s H xNo (a, oe)) (defBody st) _ := PSs.nox (X := L2H.cxH CX0 pr wo K mg b0 NN qn (defScope st) fn cdv (A.mark (some (.ref a))) out s H xNo (a, oe)) B
  refine wpAny_mono (B2.run [] s1 (L2.start NN xs) H _ I0 rd) ?_ (fun _ _ z => z)
  intro fl s2 hs
  match fl, hs with
  | .ret u, ⟨v, σ2, H2, J, rv, q⟩ => exact ⟨v, H2, J.os, J.bare, J.base, J.hok, rv, q⟩
  | .next, ⟨σ2, H2, J, q⟩ => exact ⟨V.non, H2, J.os, J.bare, J.base, J.hok, rfl, q⟩
  | .brk, ⟨_, _, _, q⟩ => exact (q : False).elim
  | .cont, ⟨_, _, _, q⟩ => exact (q : False).elim
end
section
variable {X : Cx} {lv : Nat} {fn a : Addr} {oe : Obj} {pn : List (Addr × Obj)} {dat : FuncData} {pars : List Str} {F : FF} {nm : Str} {p1 p2 : Pos} {a0 : Expr} {as : List Expr} {fa : FA}
/-- its call, where an error is handled -/
theorem d_callE (G : FnE X.prog X.w X.K X.mg X.base lv fn dat pars F) (hfd : ∃ vs, oe.data = .fields vs) (gd : X.A.guards = some []) (rm : RmE lv X.A) (gl : Gl X nm) (at_ : X.mg nm = some (.ref fn)) (kp : PySem.W.keepIn X.K (.ref fn) = true)
    (bi : Binds X.K dat pars []) (pa : PAd (X.suite a ((a, oe) :: pn)) (cE E0) (a0 :: as) fa) (ndb : (nm == ("__debug__" : Str)) = false := by decide)
    (st1 : starEach (a0 :: as) X.env = (false, eval a0 X.env) :: starEach as X.env := by rfl) (st2 : (backTo p2 (starEach as X.env)).any (·.1) = false := by rfl) :
    PEd (X.suite a ((a, oe) :: pn)) (cE E0) (.Call (.Name nm p1) (a0 :: as) [] p2) (dCallW F fa) := by
  have ec : ct (X.suite a ((a, oe) :: pn)) = cH X.K X.mg a oe.cls oe.dict := ct_suite
  refine ⟨fun pins s σ H Q I ⟨μ, S, ρ, Qd, Ed, w, en, hf, q, px⟩ => ?_⟩
  refine wpAny_Call_Name_kw (ld_glob I gl at_ ?_ ndb)
  refine PySem.W.callWith_K (h₀ := X.base) I.ok.mod.kin kp (thn (pa.run p2 pins s σ H (fun xs H1 => spF (cH X.K X.mg a oe.cls oe.dict) F xs H1 Q xNo) I ?_) fun us s1 ⟨xs, H1, I1, rx, q1⟩ => ⟨I1.kIn, ?_⟩) st1 st2
  · refine ⟨μ, S, ρ, _, Ed, w, en, hf, fun ds S1 vs H1 μ1 h1 f1 w1 r1 => ?_, px⟩
    rw [ec] at w1 r1
    exact ⟨μ1, S1, ds, Qd, Ed, w1, r1, h1, fun d S' v H' μ' hq f w' r => q d S' v H' μ' hq (f1.trans f) (by rw [ec]; exact w') (by rw [ec]; exact r), fun e S' cls dx H' μ' he f w' rx => (px e S' cls dx H' μ' he (f1.trans f) (by rw [ec]; exact w') (by rw [ec]; exact rx)).elim⟩
  · have hl : us.length = pars.length := by rw [← rx.length]; exact G.many _ _ _ _ _ q1
    have b := bi s1 us I1.kIn (by rw [List.append_nil]; exact hl)
    rw [List.append_nil] at b
    have P1 := I1.pin (a, oe) (List.mem_append_left _ List.mem_cons_self)
    have hpin : L2H.PinOk X.stack H1 s1 (a, oe) := ⟨P1.1, P1.2.1, fun hm => (List.mem_cons.mp (I1.stkSub a hm)).elim P1.2.2.1 P1.2.2.2.1, P1.2.2.2.2⟩
    refine wpAny_call (codeAny_mono (G.goes X.A X.stack s1 H1 ⟨us, []⟩ us xs Q a oe rm gd hfd hpin I1.env0 b rx q1) fun r s' hq => ?_)
    match r, hq with
    | .error e, fin => exact (fin : False).elim
    | .ok (.ret u), fin => exact I1.after fin
    | .ok .next, fin => exact (fin : False).elim
    | .ok .brk, fin => exact (fin : False).elim
    | .ok .cont, fin => exact (fin : False).elim
end
end Pu
namespace Pu
open PySem PySem.Spec PyProof.Rows L2
/-! ## an operator of an own class, any plain value on its right -/
section
variable {X : Cx} {pins : List (Addr × Obj)} {σ : L2.St} {H : Hp} {s : Shared} {x : V} {u : Value}
theorem looks_cls {M : Model} {a : Addr} {T : Value} (h : ∃ o, s.heap.get? a = some o ∧ o.cls = T) : PySem.W.Looks M s.heap (typeOf (.ref a)) T := by
  obtain ⟨o, e, rfl⟩ := h
  exact (PySem.W.Looks.ld e).andThen .now
/-- the type that a plain value shows -/
theorem looks_ty {M : Model} {c : Ct} {μ : Mu} {S : Sto} {d : D} {b : Bool} (I : Inv X pins σ H s) (rx : RelV x u) (w : Wd c μ S H) (r : Rp c μ H x d) (e : isA .int S d = some b) : PySem.W.Looks M s.heap (typeOf u) (.type (tyOf d)) := by
  cases r with
  | non => cases (show u = Value.none from rx); exact PySem.W.Looks.of_pure rfl
  | bl k => cases (show u = Value.bool k from rx); exact PySem.W.Looks.of_pure rfl
  | int k => obtain ⟨t, rfl⟩ := rx; exact PySem.W.Looks.of_pure rfl
  | str k => obtain ⟨t, rfl⟩ := rx; exact PySem.W.Looks.of_pure rfl
  | @tup a vs ds hs _ =>
    cases (show u = Value.ref a from rx)
    obtain ⟨_, _, _, o, h1, h2, _⟩ := (show ObjOk X.prog X.w H s.heap a (.tup vs) from I.hok a _ hs)
    exact looks_cls ⟨o, h1, h2⟩
  | @lst a k vs ds hs _ _ _ _ =>
    cases (show u = Value.ref a from rx)
    obtain ⟨_, _, n, _, h1⟩ := (show ObjOk X.prog X.w H s.heap a (.lst vs) from I.hok a _ hs)
    exact looks_cls ⟨_, h1, rfl⟩
  | @dic a ps hd _ _ =>
    cases (show u = Value.ref a from rx)
    obtain ⟨_, _, vs, _, o, es, ep, h1, h2, _⟩ := (show ObjOk X.prog X.w H s.heap a (.dK (Rb.dicV ps)) from I.hok a _ hd)
    exact looks_cls ⟨o, h1, h2.1⟩
  | @cell n a hm =>
    cases (show u = Value.ref a from rx)
    obtain ⟨xs, e1, e2⟩ := Option.map_eq_some_iff.mp (show (lstAt S[n]?).map (fun _ => isL .int) = some b from e)
    obtain ⟨vs, h1, _⟩ := w.ok n _ _ hm (lstAt_inv e1)
    obtain ⟨_, _, m, _, h2⟩ := (show ObjOk X.prog X.w H s.heap a (.lst vs) from I.hok a _ h1)
    exact looks_cls ⟨_, h2, rfl⟩
  | _ => cases e
end
/-- the facts of one built-in type beside an own class -/
structure OpT (K : PySem.W.Frag) (dn dr : Str) (C : Addr) (T : String) : Prop where
  ex : ∃ fo ro, PySem.W.findIn K (.type T) dn = some fo ∧ PySem.W.findIn K (.type T) dr = some ro
  no : PySem.W.subIn K (.type T) (.ref C) = some false
structure OpAny (K : PySem.W.Frag) (mg : Str → Option Value) (dn dr x : Str) : Prop where
  ok : ∀ C, mg x = some (.ref C) → PySem.W.findIn K (.ref C) dr = some none ∧ ∀ T ∈ ["NoneType", "bool", "int", "str", "tuple", "dict", "list"], OpT K dn dr C T
theorem opany_of {K : PySem.W.Frag} {mg : Str → Option Value} {dn dr x : Str} {C : Addr} (h : mg x = some (.ref C)) (h0 : PySem.W.findIn K (.ref C) dr = some none)
    (t1 : OpT K dn dr C "NoneType") (t2 : OpT K dn dr C "bool") (t3 : OpT K dn dr C "int") (t4 : OpT K dn dr C "str") (t5 : OpT K dn dr C "tuple") (t6 : OpT K dn dr C "dict") (t7 : OpT K dn dr C "list") : OpAny K mg dn dr x :=
  ⟨fun C' h' => by
    rw [h] at h'
    cases h'
    refine ⟨h0, fun T hT => ?_⟩
    simp only [List.mem_cons, List.not_mem_nil, or_false] at hT
    rcases hT with rfl | rfl | rfl | rfl | rfl | rfl | rfl <;> assumption⟩
theorem tyOf_in (d : D) : tyOf d ∈ ["NoneType", "bool", "int", "str", "tuple", "dict", "list"] := by
  cases d <;> (unfold tyOf; simp)
section
open PySem.W
variable {K : Frag} {h0 : Heap} {prog : Program} {wo : World} {A : Around} {E : Value → Shared → Prop} {s : Shared} {x f L C : Addr} {ox : Obj} {od : Option Obj} {T : String} {m : Str → Option Value}
/-- own op built-in: the own method alone is asked, as the right type is no subclass of the left one -/
theorem own_right {op : Operator} {b : Value} {fo ro : Option Value} {Q : Value → Shared → Prop} (fr : Fr h0 L s.heap m) (kin : K.In h0) (J : InstAt s.heap x ox C od)
    (tb : Looks (model prog wo) s.heap (typeOf b) (.type T)) (first : selfFirst K C = true) (own : findIn K (.ref C) (PySem.dunder op.info.2) = some (some (.ref f))) (isf : isFn K (.ref f) = true)
    (none_r : findIn K (.ref C) (dunderR op.info.2) = some none) (to : findIn K (.type T) (PySem.dunder op.info.2) = some fo) (tr : findIn K (.type T) (dunderR op.info.2) = some ro) (nosub : subIn K (.type T) (.ref C) = some false)
    (run : wpAny (model prog wo) A (call (.ref f) [.ref x, b]) (PySem.W.CmpBack Q) E s) : wpAny (model prog wo) A (binaryOp op (.ref x) b) Q E s := by
  have kin' := kin.keeps fr.keep
  obtain ⟨cd, rest, hcd, hmro⟩ := ksp_first first
  rcases ei : op.info with ⟨sym, n2⟩
  rw [ei] at own none_r to tr
  dsimp only at own none_r to tr
  have mine := ksp_try kin' J own isf run
  obtain ⟨hh, gg, dd, tk, oo⟩ := s
  have tx : Looks (model prog wo) hh (typeOf (.ref x)) (.ref C) := J.type
  have tb' : Looks (model prog wo) hh (typeOf b) (.type T) := tb
  have fx : Looks (model prog wo) hh (fillsNumberSlot (.ref C) n2) true := fills_K kin' hcd hmro own
  have fb := ksp_fillsT (M := model prog wo) kin' to tr
  have sb : Looks (model prog wo) hh (isSubtype (.type T) (.ref C)) false := looks_subIn kin' nosub
  have px : Looks (model prog wo) hh (numberSlotInPython (.ref C) n2) true := ksp_inPy kin' own none_r (.inl rfl)
  have pb : Looks (model prog wo) hh (numberSlotInPython (.type T) n2) false := Looks.of_pure rfl
  have lr : Looks (model prog wo) hh (typeLookup (.type T) (dunderR n2)) ro := looks_findIn kin' tr
  generalize ((fo.isSome && !isSeqSlot fo) || (ro.isSome && !isSeqSlot ro)) = rb at fb
  have apart : (Value.ref C == Value.type T) = false := Bool.eq_false_iff.mpr fun z => by cases beq_iff_eq.mp z
  simp only [binaryOp, ei]
  refine wpAny_holding (wpAny_bind ?_)
  unfold binaryOp1
  refine wpAny_bind (tx.at (wpAny_bind (tb'.at (wpAny_bind (fx.at ?_)))))
  simp only [apart, Bool.false_eq_true, if_false]
  cases rb <;> (ksp_lk; refine wpAny_mono mine (fun r s' hr => ?_) fun _ _ z => z; obtain ⟨v, rfl, hq⟩ := hr; ksp_lk; exact hq)
end
/-- a op v, v any plain value -/
def dOpP (tab : List (Str × FF)) (fo fi : FE) : FE := fun ρ S Q Ed => fo ρ S (fun d S1 => fi ρ S1 (fun i S2 => (isA .int S2 i).isSome = true ∧ onSome (insOf S2 d) fun cf => onSome (tabF tab cf.1) fun F => F [d, i] S2 Q Ed) Ed) Ed
section
variable {X : Cx} {cx : CXT} {lv : Nat} {tab : List (Str × FF)}
theorem d_opP {E : L2.St → XK} {a b : Expr} {fa fb : FE} {op : Operator} {dn dr : Str} {pos : Pos} (hdn : PySem.dunder op.info.2 = dn) (hdr : dunderR op.info.2 = dr) (hct : ct X = ct0 X.K X.mg) (hx : ∀ p ∈ tab, OpF X.prog X.w X.K X.mg X.base cx lv dn p.1 p.2 ∧ OpAny X.K X.mg dn dr p.1) (gd : X.A.guards = some []) (rm : Room lv X.A) (ps : ∀ σ, PassesAt cx X σ (E σ))
    (ha : PEd X E a fa) (hb : PEd X E b fb) : PEd X E (.BinOp a op b pos) (dOpP tab fa fb) := by
  refine two_op (Y := fun C fn y H => (PySem.W.findIn X.K (.ref C) dn = some (some (.ref fn)) ∧ PySem.W.isFn X.K (.ref fn) = true ∧ PySem.W.selfFirst X.K C = true) ∧ PySem.W.findIn X.K (.ref C) dr = some none ∧
    ∃ (T : String) (i : D) (μ : Mu) (S : Sto) (b : Bool), OpT X.K dn dr C T ∧ tyOf i = T ∧ Wd (ct X) μ S H ∧ Rp (ct X) μ H y i ∧ isA .int S i = some b) (fun {d i S Qd Ed μ H v u} h w r1 r2 => ?_) gd rm ps ha hb (fun {pins σ s Q H p C fn ox od m y u} I ry ⟨⟨c1, c2, c3⟩, b1, T, i, μ, S, b, o2, eT, w, r2, eA⟩ hd J fr run => ?_)
  · obtain ⟨hi, h⟩ := h
    obtain ⟨⟨x, fs⟩, e1, h⟩ := onSome_of h
    obtain ⟨F, e3, h⟩ := onSome_of h
    obtain ⟨p, C, dx, fv, rfl, hp, hm, rf⟩ := id (r1.insT w e1)
    obtain ⟨o1, o2⟩ := hx _ (tabF_mem e3)
    obtain ⟨fn, dat, pars, ⟨c1, c2, c3, c4⟩, c5, c6⟩ := o1 C hm
    rw [← hct] at c5
    obtain ⟨b, eb⟩ := Option.isSome_iff_exists.mp hi
    obtain ⟨n1, n2⟩ := o2.ok C hm
    exact ⟨p, C, dx, fv, fn, dat, pars, F, ⟨rfl, hp, ⟨c1, c2, c4⟩, n1, tyOf i, i, μ, S, b, n2 _ (tyOf_in i), rfl, w, r2, eb⟩, c5, c6, h⟩
  · subst eT
    obtain ⟨⟨fo, ro, z1, z2⟩, z3⟩ := o2
    exact own_right fr I.ok.mod.kin J (looks_ty I ry w r2 eA) c3 (hdn ▸ c1) c2 (hdr ▸ b1) (hdn ▸ z1) (hdr ▸ z2) z3 (wpAny_mono run (fun u' s' hu => cmpBack (by obtain ⟨_, _, _, rv, _⟩ := hu; exact noNI rv) hu) fun _ _ z => z)
end
end Pu
namespace Pu
open PySem L2
def den_is_number_from : FS := (dSeq (dIfS (dOr (dTest (dUn (gIsi .bool) (dVar 0))) (dNot (dTest (dUn (gIsi .int) (dVar 0)))))
 (dRet (dC (.bl false)))
 dSkip)
 (dRet (dChain gLe gLe (dVar 1) (dVar 0) (dVar 2))))
@[irreducible] def F_is_number_from : FF := dDef 3 3 den_is_number_from
end Pu
namespace Pu
open PySem L2
def den_law_draws : FS := (dSeq (dAsg (dBin gAdd (dLc (st1 2) dYes (dB gAbs (dCons (dVar 2) dNil)) (dItS (dSl (dVar 0) dNoP (dPart (dC (.int 63)))))) (dBin gMul (dLst (dCons (dC (.int 0)) dNil)) (dB gToInt (dCons (dBin iEq (dB gLen (dCons (dVar 0) dNil)) (dC (.int 0))) dNil)))) (gN 1))
 (dRet (dLstC (dCons (dVar 1) (dCons (dC (.int 0)) (dCons (dLcC (st1 2) dYes (dBin gMul (dVar 2) (dB gToInt (dCons (dBin gGe (dVar 2) (dBin gPow (dC (.int 10)) (dC (.int 18)))) dNil))) (dItS (dVar 1))) dNil))))))
@[irreducible] def F_law_draws : FF := dDef 1 3 den_law_draws
def den_law_next : FS := (dSeq (dAsg (dVar 0) (gUn 3 (gsCons (gN 2) (gsCons (gN 3) (gsCons (gN 4) gsNil)))))
 (dSeq (dAsg (dBin gMod (dVar 3) (dB gLen (dCons (dVar 2) dNil))) (gN 5))
 (dSeq (dAsg (dBin gAdd (dVar 3) (dC (.int 1))) (gSetI (dVar 0) (dC (.int 1))))
 (dSeq (dIfS (dTest (dBin gGt (dBin gIx (dVar 4) (dVar 5)) (dC (.int 0))))
 (dSeq (dAsg (dBin gMod (dBin gIx (dVar 4) (dVar 5)) (dVar 1)) (gN 6))
 (dSeq (dAsg (dBin gFdiv (dBin gIx (dVar 4) (dVar 5)) (dVar 1)) (gSetI (dVar 4) (dVar 5)))
 (dRet (dVar 6))))
 dSkip)
 (dSeq (dAsg (dBin gMod (dBin gPow (dBin gAdd (dBin gAdd (dBin gMod (dBin gIx (dVar 2) (dVar 5)) (dC (.int 2147483629))) (dBin gMul (dC (.int 40037)) (dVar 3))) (dC (.int 9203))) (dC (.int 3))) (dC (.int 2147483587))) (gN 7))
 (dSeq (dAsg (dBin gMod (dBin gPow (dBin gAdd (dBin gAdd (dVar 7) (dBin gMul (dBin gMul (dC (.int 5039)) (dVar 3)) (dVar 3))) (dC (.int 43))) (dC (.int 3))) (dC (.int 2147483563))) (gN 7))
 (dRet (dBin gMod (dBin gFdiv (dBin gMod (dBin gMul (dVar 7) (dC (.int 65537))) (dC (.int 2305843009213693951))) (dC (.int 8))) (dVar 1)))))))))
@[irreducible] def F_law_next : FF := dDef 2 8 den_law_next
end Pu
namespace Pu
open PySem L2
def den_Party_starts : FS := (dRet (dFld ["Party"] "given" (dVar 0)))
@[irreducible] def F_Party_starts : FF := dDef 1 1 den_Party_starts
def den_is_starts : FS := (dSeq (dIfS (dOr (dNot (dTest (dUn (gIsi .tup) (dVar 0)))) (dNot (dTest (dChain gLe gLe (dC (.int 1)) (dB gLen (dCons (dVar 0) dNil)) (dC (.int 10))))))
 (dRet (dC (.bl false)))
 dSkip)
 (dSeq (dFor (dItS (dVar 0)) (gN 1)
 (dIfS (dNot (dTest (dCallW F_is_number_from (dCons (dVar 1) (dCons (dC (.int 0)) (dCons (dC (.int 1000000)) dNil))))))
 (dRet (dC (.bl false)))
 dSkip))
 (dRet (dC (.bl true)))))
@[irreducible] def F_is_starts : FF := dDef 1 2 den_is_starts
def den_law_odd_2 : FS := (dSeq (dAsg (dLst (dCons (dC .non) (dCons (dC (.bl true)) (dCons (dC (.bl false)) (dCons (dUn gNeg (dC (.int 1))) (dCons (dC (.int 0)) (dCons (dC (.int 1)) (dCons (dBin gPow (dC (.int 10)) (dC (.int 39))) (dCons (dC (.str "")) (dCons (dC (.str "0")) (dCons (dTup dNil) (dCons (dLst dNil) (dCons (dC (.dic [])) (dCons (dTup (dCons (dC (.int 0)) dNil)) (dCons (dLst (dCons (dC (.int 0)) dNil)) (dCons (dTup (dCons (dC (.int 1)) (dCons (dC (.bl true)) dNil))) (dCons (dTup (dCons (dTup (dCons (dC (.int 1)) dNil)) dNil)) (dCons (dTup (dCons (dC (.int 2)) (dCons (dUn gNeg (dC (.int 1))) dNil))) dNil)))))))))))))))))) (gN 1))
 (dRet (dBin gIx (dVar 1) (dCallW F_law_next (dCons (dVar 0) (dCons (dC (.int 17)) dNil))))))
@[irreducible] def F_law_odd_2 : FF := dDef 1 2 den_law_odd_2
def den_law_starts_5 : FS := (dSeq (dPar 2 3 (dCons (dBin gIx (dLst (dCons (dC (.int 2)) (dCons (dC (.int 30)) (dCons (dBin gAdd (dBin gPow (dC (.int 10)) (dC (.int 6))) (dC (.int 1))) dNil)))) (dCallW F_law_next (dCons (dVar 0) (dCons (dC (.int 3)) dNil)))) (dCons (dLstC dNil) dNil)))
 (dSeq (dFor (dRng1 (dCons (dBin gAdd (dC (.int 1)) (dCallW F_law_next (dCons (dVar 0) (dCons (dVar 1) dNil)))) dNil)) (gN 4)
 (dDrop (dML gAppend (dVar 3) (dCons (dBin gIx (dLst (dCons (dCallW F_law_next (dCons (dVar 0) (dCons (dVar 2) dNil))) (dCons (dC (.int 0)) (dCons (dBin gSub (dVar 2) (dC (.int 1))) dNil)))) (dBin gMod (dBin gMod (dCallW F_law_next (dCons (dVar 0) (dCons (dC (.int 8)) dNil))) (dC (.int 5))) (dC (.int 3)))) dNil))))
 (dRet (dB gTuple (dCons (dVar 3) dNil)))))
@[irreducible] def F_law_starts_5 : FF := dDefC 2 5 den_law_starts_5
def den_Party_init : FS := (dSeq (dIfS (dNot (dTest (dCallW F_is_starts (dCons (dVar 1) dNil))))
 (dRaise "BadStarts" "value" (dVar 1))
 dSkip)
 (dSeq (dStF ["Party"] "given" (dVar 0) (dVar 1))
 (dStF ["Party"] "ordered" (dVar 0) (dB gTuple (dCons (dB gSortTI (dCons (dVar 1) dNil)) dNil)))))
@[irreducible] def F_Party_init : FF := dDefX 2 2 den_Party_init
end Pu
namespace Pu
open PySem L2
def den_Party_add : FS := (dSeq (dIfS (dNot (dTest (dIsC [("Party", "Party", true)] "Party" (dVar 1))))
 dNever
 dSkip)
 (dSeq (dAsg (dBin gAdd (dFld ["Party"] "given" (dVar 0)) (dFld ["Party"] "given" (dVar 1))) (gN 2))
 (dSeq (dIfS (dTest (dBin gGt (dB gLen (dCons (dVar 2) dNil)) (dC (.int 10))))
 (dRaise0 "TooManyPeople")
 dSkip)
 (dRet (dMake "Party" F_Party_init (dCons (dVar 2) dNil))))))
@[irreducible] def F_Party_add : FF := dDefX 2 3 den_Party_add
def den_Party_rshift : FS := (dSeq (dIfS (dNot (dTest (dCallW F_is_number_from (dCons (dVar 1) (dCons (dC (.int 0)) (dCons (dC (.int 1000000)) dNil))))))
 (dRaise "BadTicks" "value" (dVar 1))
 dSkip)
 (dSeq (dAsg (dLc (st1 3) dYes (dBin gAdd (dVar 3) (dVar 1)) (dItS (dFld ["Party"] "given" (dVar 0)))) (gN 2))
 (dSeq (dFor (dItS (dVar 2)) (gN 3)
 (dIfS (dTest (dBin gGt (dVar 3) (dC (.int 1000000))))
 (dRaise "TooLate" "tick" (dVar 3))
 dSkip))
 (dRet (dMake "Party" F_Party_init (dCons (dB gTuple (dCons (dVar 2) dNil)) dNil))))))
@[irreducible] def F_Party_rshift : FF := dDefX 2 4 den_Party_rshift
end Pu
namespace Pu
open PySem L2
def den_law_word_2 : FS := (dSeq (dAsg (dLst (dCons (dIsX [("TooManyPeople", "TooManyPeople", true), ("BadTicks", "TooManyPeople", false), ("TooLate", "TooManyPeople", false)] 0 "TooManyPeople") (dCons (dIsX [("TooManyPeople", "BadTicks", false), ("BadTicks", "BadTicks", true), ("TooLate", "BadTicks", false)] 0 "BadTicks") (dCons (dIsX [("TooManyPeople", "TooLate", false), ("BadTicks", "TooLate", false), ("TooLate", "TooLate", true)] 0 "TooLate") dNil)))) (gN 1))
 (dSeq (dIfS (dOr (dTest (dBin iNe (dMLv gCountB (dVar 1) (dCons (dC (.bl true)) dNil)) (dC (.int 1)))) (dTest (dIsXT [("TooManyPeople", "BadParty", false), ("TooManyPeople", "BadStarts", false), ("TooManyPeople", "LookupError", false), ("BadTicks", "BadParty", false), ("BadTicks", "BadStarts", false), ("BadTicks", "LookupError", false), ("TooLate", "BadParty", false), ("TooLate", "BadStarts", false), ("TooLate", "LookupError", false)] 0 ["BadParty", "BadStarts", "LookupError"])))
 (dRet (dLst (dCons (dC (.str "other")) dNil)))
 dSkip)
 (dSeq (dIfS (dTest (dBin gIx (dVar 1) (dC (.int 0))))
 (dRet (dLst (dCons (dC (.str "people")) dNil)))
 dSkip)
 (dRet (dIf (dTest (dBin gIx (dVar 1) (dC (.int 1)))) (dLst (dCons (dC (.str "ticks")) (dCons (dXf ["BadStarts", "BadTicks"] 0 "value") dNil))) (dLst (dCons (dC (.str "late")) (dCons (dXf ["TooLate"] 0 "tick") dNil))))))))
@[irreducible] def F_law_word_2 : FF := dDef 1 2 den_law_word_2
def den_law_due_later : FS := (dSeq (dIfS (dOr (dTest (dUn (gIsi .bool) (dVar 1))) (dOr (dNot (dTest (dUn (gIsi .int) (dVar 1)))) (dNot (dTest (dChain gLe gLe (dC (.int 0)) (dVar 1) (dBin gPow (dC (.int 10)) (dC (.int 6))))))))
 (dRet (dLst (dCons (dC (.str "ticks")) (dCons (dVar 1) dNil))))
 dSkip)
 (dSeq (dAsg (dB gTuple (dCons (dLc (st1 4) dYes (dBin gAdd (dVar 4) (dVar 1)) (dItS (dVar 0))) dNil)) (gN 2))
 (dSeq (dAsg (dLc (st1 4) (dTest (dBin gGt (dVar 4) (dBin gPow (dC (.int 10)) (dC (.int 6))))) (dVar 4) (dItS (dVar 2))) (gN 3))
 (dRet (dIf (dTest (dBin (gEqN true) (dVar 3) (dLst dNil))) (dLst (dCons (dC (.str "late")) (dCons (dBin gIx (dVar 3) (dC (.int 0))) dNil))) (dTup (dCons (dVar 2) (dCons (dC (.bl true)) dNil))))))))
@[irreducible] def F_law_due_later : FF := dDef 2 5 den_law_due_later
def den_law_one_2 : FS := (dRet (dBin gIx (dVar 1) (dCallW F_law_next (dCons (dVar 0) (dCons (dB gLen (dCons (dVar 1) dNil)) dNil)))))
@[irreducible] def F_law_one_2 : FF := dDef 2 2 den_law_one_2
def den_law_joined : FS := (dTry 3 [("TooManyPeople", true), ("BadTicks", true), ("TooLate", true)] (dSeqN (dAsg (dOpO [("Party", F_Party_add)] (dVar 0) (dVar 1)) (gN 2)) (dRet (dTup (dCons (dProp [("Party", F_Party_starts)] (dVar 2)) (dCons (dIsC [("Party", "Party", true)] "Party" (dVar 2)) dNil)))))
 (dRet (dCallW F_law_word_2 (dCons (dVar 3) dNil))))
@[irreducible] def F_law_joined : FF := dDef 2 4 den_law_joined
def den_law_later : FS := (dTry 3 [("TooManyPeople", true), ("BadTicks", true), ("TooLate", true)] (dSeqN (dAsg (dOpP [("Party", F_Party_rshift)] (dVar 0) (dVar 1)) (gN 2)) (dRet (dTup (dCons (dProp [("Party", F_Party_starts)] (dVar 2)) (dCons (dIsC [("Party", "Party", true)] "Party" (dVar 2)) dNil)))))
 (dRet (dCallW F_law_word_2 (dCons (dVar 3) dNil))))
@[irreducible] def F_law_later : FF := dDef 2 4 den_law_later
def den_law_k28 : FS := (dSeq (dAsg (dCallW F_law_draws (dCons (dVar 0) dNil)) (gN 1))
 (dSeq (dFor (dRng1 (dCons (dC (.int 8)) dNil)) (gN 2)
 (dSeq (dAsg (dLc (st1 5) dYes (dCall 2 F_law_starts_5 (dCons (dVar 1) (dCons (dBin gIx (dLst (dCons (dC (.int 10)) (dCons (dC (.int 5)) (dCons (dC (.int 3)) (dCons (dC (.int 7)) dNil))))) (dVar 5)) dNil))) (dRng1 (dCons (dC (.int 4)) dNil))) (gN 3))
 (dSeq (dAsg (dLc (st1 14) dYes (dMake "Party" F_Party_init (dCons (dVar 14) dNil)) (dItS (dVar 3))) (gN 4))
 (dSeq (dFor (dRng1 (dCons (dC (.int 10)) dNil)) (gN 5)
 (dSeq (dPar 6 7 (dCons (dCallW F_law_next (dCons (dVar 1) (dCons (dC (.int 4)) dNil))) (dCons (dCallW F_law_next (dCons (dVar 1) (dCons (dC (.int 4)) dNil))) dNil)))
 (dSeq (dAsg (dTup (dCons (dBin gAdd (dBin gIx (dVar 3) (dVar 6)) (dBin gIx (dVar 3) (dVar 7))) (dCons (dC (.bl true)) dNil))) (gN 8))
 (dCut (dIfS (dTest (dBin gGt (dBin gAdd (dB gLen (dCons (dBin gIx (dVar 3) (dVar 6)) dNil)) (dB gLen (dCons (dBin gIx (dVar 3) (dVar 7)) dNil))) (dC (.int 10))))
 (dAsg (dLst (dCons (dC (.str "people")) dNil)) (gN 8))
 dSkip)
 (dSeq (dIfS (dTest (dBin iNe (dB iRepr (dCons (dCallW F_law_joined (dCons (dBin gIx (dVar 4) (dVar 6)) (dCons (dBin gIx (dVar 4) (dVar 7)) dNil))) dNil)) (dB iRepr (dCons (dVar 8) dNil))))
 (dRet (dC (.bl false)))
 dSkip)
 (dSeq (dAsg (dBin gSub (dBin gPow (dC (.int 10)) (dC (.int 6))) (dCallW F_law_one_2 (dCons (dVar 1) (dCons (dBin gIx (dVar 3) (dVar 6)) dNil)))) (gN 9))
 (dSeq (dAsg (dLst (dCons (dCallW F_law_one_2 (dCons (dVar 1) (dCons (dLst (dCons (dC (.int 0)) (dCons (dC (.int 1)) (dCons (dBin gPow (dC (.int 10)) (dC (.int 6))) (dCons (dBin gAdd (dBin gPow (dC (.int 10)) (dC (.int 6))) (dC (.int 1))) (dCons (dVar 9) (dCons (dBin gAdd (dVar 9) (dC (.int 1))) dNil))))))) dNil))) (dCons (dCallW F_law_next (dCons (dVar 1) (dCons (dC (.int 50)) dNil))) (dCons (dCallW F_law_odd_2 (dCons (dVar 1) dNil)) dNil)))) (gN 10))
 (dFor (dItS (dVar 10)) (gN 11)
 (dIfS (dTest (dBin iNe (dB iRepr (dCons (dCallW F_law_later (dCons (dBin gIx (dVar 4) (dVar 6)) (dCons (dVar 11) dNil))) dNil)) (dB iRepr (dCons (dCallW F_law_due_later (dCons (dBin gIx (dVar 3) (dVar 6)) (dCons (dVar 11) dNil))) dNil))))
 (dRet (dC (.bl false)))
 dSkip)))))))))
 (dIfS (dTest (dBin iNe (dB iRepr (dCons (dLc (st1 15) dYes (dProp [("Party", F_Party_starts)] (dVar 15)) (dItS (dVar 4))) dNil)) (dB iRepr (dCons (dVar 3) dNil))))
 (dRet (dC (.bl false)))
 dSkip)))))
 (dSeq (dAsg (dMake "Party" F_Party_init (dCons (dTup (dCons (dC (.int 0)) (dCons (dBin gPow (dC (.int 10)) (dC (.int 6))) (dCons (dBin gSub (dBin gPow (dC (.int 10)) (dC (.int 6))) (dC (.int 1))) dNil)))) dNil)) (gN 12))
 (dSeq (dAsg (dLst (dCons (dCallW F_law_later (dCons (dVar 12) (dCons (dC (.int 0)) dNil))) (dCons (dCallW F_law_later (dCons (dVar 12) (dCons (dC (.int 1)) dNil))) (dCons (dCallW F_law_later (dCons (dVar 12) (dCons (dC (.int 2)) dNil))) (dCons (dCallW F_law_later (dCons (dVar 12) (dCons (dC (.bl true)) dNil))) dNil))))) (gN 13))
 (dSeq (dAsg (dLst (dCons (dTup (dCons (dTup (dCons (dC (.int 0)) (dCons (dBin gPow (dC (.int 10)) (dC (.int 6))) (dCons (dBin gSub (dBin gPow (dC (.int 10)) (dC (.int 6))) (dC (.int 1))) dNil)))) (dCons (dC (.bl true)) dNil))) (dCons (dLst (dCons (dC (.str "late")) (dCons (dBin gAdd (dBin gPow (dC (.int 10)) (dC (.int 6))) (dC (.int 1))) dNil))) (dCons (dLst (dCons (dC (.str "late")) (dCons (dBin gAdd (dBin gPow (dC (.int 10)) (dC (.int 6))) (dC (.int 2))) dNil))) (dCons (dLst (dCons (dC (.str "ticks")) (dCons (dC (.bl true)) dNil))) dNil))))) (gN 8))
 (dRet (dBin iEq (dB iRepr (dCons (dVar 13) dNil)) (dB iRepr (dCons (dVar 8) dNil)))))))))
@[irreducible] def F_law_k28 : FF := dDef 1 16 den_law_k28
end Pu
namespace Pu
open PySem PySem.Spec PyProof.Rows L2
def topS (i : Nat) : Stmt := PySem.Challenge.pw_roadbikes_k28_parties_joined_and_later.main.body.getD i (.Pass ⟨0, 0, 0, 0⟩)
abbrev s_is_number_from : Stmt := topS 3
abbrev s_is_starts : Stmt := topS 4
abbrev s__law_draws : Stmt := topS 16
abbrev s__law_next : Stmt := topS 17
abbrev s__law_one : Stmt := topS 18
abbrev s__law_starts : Stmt := topS 19
abbrev s__law_odd : Stmt := topS 20
abbrev s__law_word : Stmt := topS 21
abbrev s__law_joined : Stmt := topS 22
abbrev s__law_later : Stmt := topS 23
abbrev s__law_due_later : Stmt := topS 24
abbrev s_Party___init__ : Stmt := inClass (topS 14) 0
abbrev s_Party_starts : Stmt := inClass (topS 14) 1
abbrev s_Party___add__ : Stmt := inClass (topS 14) 4
abbrev s_Party___rshift__ : Stmt := inClass (topS 14) 5
abbrev s_law : Stmt := topS 25
abbrev si_BadStarts : Stmt := inClass (topS 7) 0
abbrev si_BadTicks : Stmt := inClass (topS 9) 0
abbrev si_TooLate : Stmt := inClass (topS 10) 0
abbrev N_is_number_from : List Str := ["value", "least", "most"]
theorem sc_is_number_from : FnScope N_is_number_from ["value", "least", "most"] (defScope s_is_number_from) := ⟨rfl, rfl, rfl, by decide +kernel, rfl, by decide +kernel, by decide +kernel⟩
abbrev N_is_starts : List Str := ["value", "start"]
theorem sc_is_starts : FnScope N_is_starts ["value"] (defScope s_is_starts) := ⟨rfl, rfl, rfl, by decide +kernel, rfl, by decide +kernel, by decide +kernel⟩
abbrev N__law_draws : List Str := ["_law_script", "_law_cells", "_law_cell"]
theorem sc__law_draws : FnScope N__law_draws ["_law_script"] (defScope s__law_draws) := ⟨rfl, rfl, rfl, by decide +kernel, rfl, by decide +kernel, by decide +kernel⟩
abbrev N__law_next : List Str := ["_law_state", "_law_many", "_law_cells", "_law_count", "_law_rests", "_law_index", "_law_digit", "_law_mixed"]
theorem sc__law_next : FnScope N__law_next ["_law_state", "_law_many"] (defScope s__law_next) := ⟨rfl, rfl, rfl, by decide +kernel, rfl, by decide +kernel, by decide +kernel⟩
abbrev N__law_one : List Str := ["_law_state", "_law_items"]
theorem sc__law_one : FnScope N__law_one ["_law_state", "_law_items"] (defScope s__law_one) := ⟨rfl, rfl, rfl, by decide +kernel, rfl, by decide +kernel, by decide +kernel⟩
abbrev N__law_starts : List Str := ["_law_state", "_law_most", "_law_bound", "_law_found", "_law_k"]
theorem sc__law_starts : FnScope N__law_starts ["_law_state", "_law_most"] (defScope s__law_starts) := ⟨rfl, rfl, rfl, by decide +kernel, rfl, by decide +kernel, by decide +kernel⟩
abbrev N__law_odd : List Str := ["_law_state", "_law_some"]
theorem sc__law_odd : FnScope N__law_odd ["_law_state"] (defScope s__law_odd) := ⟨rfl, rfl, rfl, by decide +kernel, rfl, by decide +kernel, by decide +kernel⟩
abbrev N__law_word : List Str := ["_law_error", "_law_flags"]
theorem sc__law_word : FnScope N__law_word ["_law_error"] (defScope s__law_word) := ⟨rfl, rfl, rfl, by decide +kernel, rfl, by decide +kernel, by decide +kernel⟩
abbrev N__law_joined : List Str := ["_law_one_here", "_law_other", "_law_found", "_law_error"]
theorem sc__law_joined : FnScope N__law_joined ["_law_one_here", "_law_other"] (defScope s__law_joined) := ⟨rfl, rfl, rfl, by decide +kernel, rfl, by decide +kernel, by decide +kernel⟩
abbrev N__law_later : List Str := ["_law_party", "_law_value", "_law_found", "_law_error"]
theorem sc__law_later : FnScope N__law_later ["_law_party", "_law_value"] (defScope s__law_later) := ⟨rfl, rfl, rfl, by decide +kernel, rfl, by decide +kernel, by decide +kernel⟩
abbrev N__law_due_later : List Str := ["_law_starts_here", "_law_value", "_law_later_here", "_law_great", "_law_start"]
theorem sc__law_due_later : FnScope N__law_due_later ["_law_starts_here", "_law_value"] (defScope s__law_due_later) := ⟨rfl, rfl, rfl, by decide +kernel, rfl, by decide +kernel, by decide +kernel⟩
abbrev N_Party___init__ : List Str := ["self", "starts"]
theorem sc_Party___init__ : FnScope N_Party___init__ ["self", "starts"] (defScope s_Party___init__) := ⟨rfl, rfl, rfl, by decide +kernel, rfl, by decide +kernel, by decide +kernel⟩
abbrev N_Party_starts : List Str := ["self"]
theorem sc_Party_starts : FnScope N_Party_starts ["self"] (defScope s_Party_starts) := ⟨rfl, rfl, rfl, by decide +kernel, rfl, by decide +kernel, by decide +kernel⟩
abbrev N_Party___add__ : List Str := ["self", "other", "starts"]
theorem sc_Party___add__ : FnScope N_Party___add__ ["self", "other"] (defScope s_Party___add__) := ⟨rfl, rfl, rfl, by decide +kernel, rfl, by decide +kernel, by decide +kernel⟩
abbrev N_Party___rshift__ : List Str := ["self", "other", "later", "start"]
theorem sc_Party___rshift__ : FnScope N_Party___rshift__ ["self", "other"] (defScope s_Party___rshift__) := ⟨rfl, rfl, rfl, by decide +kernel, rfl, by decide +kernel, by decide +kernel⟩
abbrev N_law : List Str := ["_law_script", "_law_state", "_law_turn", "_law_rows", "_law_parties", "_law_k", "_law_one_here", "_law_other", "_law_due", "_law_top", "_law_some", "_law_value", "_law_full", "_law_found", "_law_row", "_law_party"]
theorem sc_law : FnScope N_law ["_law_script"] (defScope s_law) := ⟨rfl, rfl, rfl, by decide +kernel, rfl, by decide +kernel, by decide +kernel⟩
theorem sci_BadStarts : FnScope ["self", "value"] ["self", "value"] (defScope si_BadStarts) := ⟨rfl, rfl, rfl, by decide +kernel, rfl, by decide +kernel, by decide +kernel⟩
theorem sci_BadTicks : FnScope ["self", "value"] ["self", "value"] (defScope si_BadTicks) := ⟨rfl, rfl, rfl, by decide +kernel, rfl, by decide +kernel, by decide +kernel⟩
theorem sci_TooLate : FnScope ["self", "tick"] ["self", "tick"] (defScope si_TooLate) := ⟨rfl, rfl, rfl, by decide +kernel, rfl, by decide +kernel, by decide +kernel⟩
structure Tx (K : PySem.W.Frag) (mg : Str → Option Value) where
  f_is_number_from : Addr
  fd_is_number_from : FuncData
  F_is_number_from : Fun K "is_number_from" "is_number_from" s_is_number_from f_is_number_from fd_is_number_from
  g_is_number_from : mg "is_number_from" = some (.ref f_is_number_from)
  b_is_number_from : Binds K fd_is_number_from ["value", "least", "most"] []
  f_is_starts : Addr
  fd_is_starts : FuncData
  F_is_starts : Fun K "is_starts" "is_starts" s_is_starts f_is_starts fd_is_starts
  g_is_starts : mg "is_starts" = some (.ref f_is_starts)
  b_is_starts : Binds K fd_is_starts ["value"] []
  f__law_draws : Addr
  fd__law_draws : FuncData
  F__law_draws : Fun K "_law_draws" "_law_draws" s__law_draws f__law_draws fd__law_draws
  g__law_draws : mg "_law_draws" = some (.ref f__law_draws)
  b__law_draws : Binds K fd__law_draws ["_law_script"] []
  f__law_next : Addr
  fd__law_next : FuncData
  F__law_next : Fun K "_law_next" "_law_next" s__law_next f__law_next fd__law_next
  g__law_next : mg "_law_next" = some (.ref f__law_next)
  b__law_next : Binds K fd__law_next ["_law_state", "_law_many"] []
  f__law_one : Addr
  fd__law_one : FuncData
  F__law_one : Fun K "_law_one" "_law_one" s__law_one f__law_one fd__law_one
  g__law_one : mg "_law_one" = some (.ref f__law_one)
  b__law_one : Binds K fd__law_one ["_law_state", "_law_items"] []
  f__law_starts : Addr
  fd__law_starts : FuncData
  F__law_starts : Fun K "_law_starts" "_law_starts" s__law_starts f__law_starts fd__law_starts
  g__law_starts : mg "_law_starts" = some (.ref f__law_starts)
  b__law_starts : Binds K fd__law_starts ["_law_state", "_law_most"] []
  f__law_odd : Addr
  fd__law_odd : FuncData
  F__law_odd : Fun K "_law_odd" "_law_odd" s__law_odd f__law_odd fd__law_odd
  g__law_odd : mg "_law_odd" = some (.ref f__law_odd)
  b__law_odd : Binds K fd__law_odd ["_law_state"] []
  f__law_word : Addr
  fd__law_word : FuncData
  F__law_word : Fun K "_law_word" "_law_word" s__law_word f__law_word fd__law_word
  g__law_word : mg "_law_word" = some (.ref f__law_word)
  b__law_word : Binds K fd__law_word ["_law_error"] []
  f__law_joined : Addr
  fd__law_joined : FuncData
  F__law_joined : Fun K "_law_joined" "_law_joined" s__law_joined f__law_joined fd__law_joined
  g__law_joined : mg "_law_joined" = some (.ref f__law_joined)
  b__law_joined : Binds K fd__law_joined ["_law_one_here", "_law_other"] []
  f__law_later : Addr
  fd__law_later : FuncData
  F__law_later : Fun K "_law_later" "_law_later" s__law_later f__law_later fd__law_later
  g__law_later : mg "_law_later" = some (.ref f__law_later)
  b__law_later : Binds K fd__law_later ["_law_party", "_law_value"] []
  f__law_due_later : Addr
  fd__law_due_later : FuncData
  F__law_due_later : Fun K "_law_due_later" "_law_due_later" s__law_due_later f__law_due_later fd__law_due_later
  g__law_due_later : mg "_law_due_later" = some (.ref f__law_due_later)
  b__law_due_later : Binds K fd__law_due_later ["_law_starts_here", "_law_value"] []
  f_Party___init__ : Addr
  fd_Party___init__ : FuncData
  F_Party___init__ : Fun K "__init__" "Party.__init__" s_Party___init__ f_Party___init__ fd_Party___init__
  b_Party___init__ : Binds K fd_Party___init__ ["self", "starts"] []
  f_Party_starts : Addr
  fd_Party_starts : FuncData
  F_Party_starts : Fun K "starts" "Party.starts" s_Party_starts f_Party_starts fd_Party_starts
  b_Party_starts : Binds K fd_Party_starts ["self"] []
  f_Party___add__ : Addr
  fd_Party___add__ : FuncData
  F_Party___add__ : Fun K "__add__" "Party.__add__" s_Party___add__ f_Party___add__ fd_Party___add__
  b_Party___add__ : Binds K fd_Party___add__ ["self", "other"] []
  f_Party___rshift__ : Addr
  fd_Party___rshift__ : FuncData
  F_Party___rshift__ : Fun K "__rshift__" "Party.__rshift__" s_Party___rshift__ f_Party___rshift__ fd_Party___rshift__
  b_Party___rshift__ : Binds K fd_Party___rshift__ ["self", "other"] []
  f_law : Addr
  fd_law : FuncData
  F_law : Fun K "law" "law" s_law f_law fd_law
  g_law : mg "law" = some (.ref f_law)
  b_law : Binds K fd_law ["_law_script"] []
  C_TripError : Addr
  gC_TripError : mg "TripError" = some (.ref C_TripError)
  C_BadStarts : Addr
  gC_BadStarts : mg "BadStarts" = some (.ref C_BadStarts)
  C_TooManyPeople : Addr
  gC_TooManyPeople : mg "TooManyPeople" = some (.ref C_TooManyPeople)
  C_BadTicks : Addr
  gC_BadTicks : mg "BadTicks" = some (.ref C_BadTicks)
  C_TooLate : Addr
  gC_TooLate : mg "TooLate" = some (.ref C_TooLate)
  C_BadParty : Addr
  gC_BadParty : mg "BadParty" = some (.ref C_BadParty)
  C_Party : Addr
  gC_Party : mg "Party" = some (.ref C_Party)
  cl_Party : Cls K C_Party
  na_Party_given : NoAttr K C_Party "given"
  na_Party_ordered : NoAttr K C_Party "ordered"
  mk_Party : Mk K C_Party f_Party___init__
  pa_Party_starts : Addr
  pr_Party_starts : PropOf K C_Party "starts" pa_Party_starts f_Party_starts
  it_Party : InsT K C_Party
  kc_Party_Party : PySem.W.kitOne K (.ref C_Party) (.ref C_Party) = some true
  oa_Party_add : PySem.W.findIn K (.ref C_Party) "__add__" = some (some (.ref f_Party___add__))
  ob_Party_add : PySem.W.isFn K (.ref f_Party___add__) = true
  oc_Party_add : PySem.W.fnIn K f_Party___add__ = true
  od_Party_add : PySem.W.selfFirst K C_Party = true
  oa_Party_rshift : PySem.W.findIn K (.ref C_Party) "__rshift__" = some (some (.ref f_Party___rshift__))
  ob_Party_rshift : PySem.W.isFn K (.ref f_Party___rshift__) = true
  oc_Party_rshift : PySem.W.fnIn K f_Party___rshift__ = true
  od_Party_rshift : PySem.W.selfFirst K C_Party = true
  oy_Party_rshift : OpAny K mg "__rshift__" "__rrshift__" "Party"
  E_BadStarts : OwnI K C_BadStarts
  L_BadStarts : ErrC K C_BadStarts [.type "ValueError", .type "Exception", .type "BaseException", .type "object"] "ValueError.__new__"
  no_BadStarts : PySem.W.findIn K (.ref C_BadStarts) "value" = some none
  fI_BadStarts : Addr
  fdI_BadStarts : FuncData
  iC_BadStarts : PySem.W.findIn K (.ref C_BadStarts) "__init__" = some (some (.ref fI_BadStarts))
  tI_BadStarts : PySem.W.typeIn K (.ref fI_BadStarts) = some (.type "function")
  FI_BadStarts : Fun K "__init__" "BadStarts.__init__" si_BadStarts fI_BadStarts fdI_BadStarts
  bI_BadStarts : Binds K fdI_BadStarts ["self", "value"] []
  E_TooManyPeople : OwnI K C_TooManyPeople
  q_TooManyPeople : PySem.W.excIn K C_TooManyPeople [.type "ValueError", .type "Exception", .type "BaseException", .type "object"] "ValueError.__new__" = true
  kp_TooManyPeople : PySem.W.keepIn K (.ref C_TooManyPeople) = true
  bx_TooManyPeople : PySem.W.subIn K (.ref C_TooManyPeople) (.type "BaseException") = some true
  ty_TooManyPeople : PySem.W.typeIn K (.ref C_TooManyPeople) = some (.type "type")
  E_BadTicks : OwnI K C_BadTicks
  L_BadTicks : ErrC K C_BadTicks [.type "ValueError", .type "Exception", .type "BaseException", .type "object"] "ValueError.__new__"
  no_BadTicks : PySem.W.findIn K (.ref C_BadTicks) "value" = some none
  fI_BadTicks : Addr
  fdI_BadTicks : FuncData
  iC_BadTicks : PySem.W.findIn K (.ref C_BadTicks) "__init__" = some (some (.ref fI_BadTicks))
  tI_BadTicks : PySem.W.typeIn K (.ref fI_BadTicks) = some (.type "function")
  FI_BadTicks : Fun K "__init__" "BadTicks.__init__" si_BadTicks fI_BadTicks fdI_BadTicks
  bI_BadTicks : Binds K fdI_BadTicks ["self", "value"] []
  E_TooLate : OwnI K C_TooLate
  L_TooLate : ErrC K C_TooLate [.type "ValueError", .type "Exception", .type "BaseException", .type "object"] "ValueError.__new__"
  no_TooLate : PySem.W.findIn K (.ref C_TooLate) "tick" = some none
  fI_TooLate : Addr
  fdI_TooLate : FuncData
  iC_TooLate : PySem.W.findIn K (.ref C_TooLate) "__init__" = some (some (.ref fI_TooLate))
  tI_TooLate : PySem.W.typeIn K (.ref fI_TooLate) = some (.type "function")
  FI_TooLate : Fun K "__init__" "TooLate.__init__" si_TooLate fI_TooLate fdI_TooLate
  bI_TooLate : Binds K fdI_TooLate ["self", "tick"] []
  xi_BadTicks_BadParty : XI K mg "BadTicks" "BadParty" false
  xi_BadTicks_BadStarts : XI K mg "BadTicks" "BadStarts" false
  xi_BadTicks_BadTicks : XI K mg "BadTicks" "BadTicks" true
  xi_BadTicks_LookupError : XI K mg "BadTicks" "LookupError" false
  xi_BadTicks_TooLate : XI K mg "BadTicks" "TooLate" false
  xi_BadTicks_TooManyPeople : XI K mg "BadTicks" "TooManyPeople" false
  xi_TooLate_BadParty : XI K mg "TooLate" "BadParty" false
  xi_TooLate_BadStarts : XI K mg "TooLate" "BadStarts" false
  xi_TooLate_BadTicks : XI K mg "TooLate" "BadTicks" false
  xi_TooLate_LookupError : XI K mg "TooLate" "LookupError" false
  xi_TooLate_TooLate : XI K mg "TooLate" "TooLate" true
  xi_TooLate_TooManyPeople : XI K mg "TooLate" "TooManyPeople" false
  xi_TooManyPeople_BadParty : XI K mg "TooManyPeople" "BadParty" false
  xi_TooManyPeople_BadStarts : XI K mg "TooManyPeople" "BadStarts" false
  xi_TooManyPeople_BadTicks : XI K mg "TooManyPeople" "BadTicks" false
  xi_TooManyPeople_LookupError : XI K mg "TooManyPeople" "LookupError" false
  xi_TooManyPeople_TooLate : XI K mg "TooManyPeople" "TooLate" false
  xi_TooManyPeople_TooManyPeople : XI K mg "TooManyPeople" "TooManyPeople" true
  x_BadTicks_TripError : PySem.W.exmOne K (.ref C_BadTicks) (.ref C_TripError) = some true
  x_TooLate_TripError : PySem.W.exmOne K (.ref C_TooLate) (.ref C_TripError) = some true
  x_TooManyPeople_TripError : PySem.W.exmOne K (.ref C_TooManyPeople) (.ref C_TripError) = some true
  t_MAX_PEOPLE : Tok
  c_MAX_PEOPLE : mg "MAX_PEOPLE" = some (.int 10 t_MAX_PEOPLE)
  t_MAX_START : Tok
  c_MAX_START : mg "MAX_START" = some (.int 1000000 t_MAX_START)
  z_LookupError : mg "LookupError" = none
  z_NotImplemented : mg "NotImplemented" = none
  z_abs : mg "abs" = none
  z_bool : mg "bool" = none
  z_int : mg "int" = none
  z_isinstance : mg "isinstance" = none
  z_len : mg "len" = none
  z_range : mg "range" = none
  z_repr : mg "repr" = none
  z_sorted : mg "sorted" = none
  z_tuple : mg "tuple" = none
section
variable {P : Program} {w : World} {K : PySem.W.Frag} {mg : Str → Option Value} {base : Heap}
theorem Gi_BadStarts (T : Tx K mg) : FnOk P w K mg base CX0 1 T.fI_BadStarts T.fdI_BadStarts ["self", "value"] (Rb.spIni K T.C_BadStarts "value") :=
  iniE T.FI_BadStarts sci_BadStarts T.L_BadStarts T.no_BadStarts (fun _ _ _ _ _ _ => pss_one (ps_putE PySem.F.store_ValueError (pv 0) (pv 1)))
theorem Gi_BadTicks (T : Tx K mg) : FnOk P w K mg base CX0 1 T.fI_BadTicks T.fdI_BadTicks ["self", "value"] (Rb.spIni K T.C_BadTicks "value") :=
  iniE T.FI_BadTicks sci_BadTicks T.L_BadTicks T.no_BadTicks (fun _ _ _ _ _ _ => pss_one (ps_putE PySem.F.store_ValueError (pv 0) (pv 1)))
theorem Gi_TooLate (T : Tx K mg) : FnOk P w K mg base CX0 1 T.fI_TooLate T.fdI_TooLate ["self", "tick"] (Rb.spIni K T.C_TooLate "tick") :=
  iniE T.FI_TooLate sci_TooLate T.L_TooLate T.no_TooLate (fun _ _ _ _ _ _ => pss_one (ps_putE PySem.F.store_ValueError (pv 0) (pv 1)))
theorem G_is_number_from (T : Tx K mg) : Rb.FnG P w K mg base CX0 1 T.f_is_number_from T.fd_is_number_from ["value", "least", "most"] (spF (ct0 K mg) F_is_number_from) := by
  unfold F_is_number_from
  exact
   d_fn T.F_is_number_from sc_is_number_from fun cdv A out s H E hg hr => (d_seq (d_if (PW.pt (d_or (d_tval (d_isi (t := .bool) (by rfl) T.z_isinstance (d_var (pv 0)) (pe_bltn (by rfl) T.z_bool (show bootBuiltins "bool" = some (.type "bool") by decide +kernel) (show RelV (V.ty "bool") _ from rfl)))) (d_or1 (d_not (d_tval (d_isi (t := .int) (by rfl) T.z_isinstance (d_var (pv 0)) (pe_bltn (by rfl) T.z_int (show bootBuiltins "int" = some (.type "int") by decide +kernel) (show RelV (V.ty "int") _ from rfl))))))))
 (d_last (d_ret d_bl))
 d_end)
 (d_last (d_ret (d_chain o_le o_le (d_var (pv 1)) (d_var (pv 0)) (d_var (pv 2))))))
theorem G_law_draws (T : Tx K mg) : Rb.FnG P w K mg base CX0 1 T.f__law_draws T.fd__law_draws ["_law_script"] (spF (ct0 K mg) F_law_draws) := by
  unfold F_law_draws
  exact
   d_fn T.F__law_draws sc__law_draws fun cdv A out s H E hg hr => (d_seq (d_set (i := 1) sc__law_draws.nd rfl (.inl rfl) (d_bin o_add (d_lc (own := [("_law_cell", 2)]) (g := (gName 2)) (st := (st1 2)) lct1 (by rfl) sc__law_draws.nd (d_iseq (d_slice (d_var (pv 0)) d_noP (d_part d_int))) (blkOk_by (own := [("_law_cell", 2)]) (N := N__law_draws) (sc := defScope s__law_draws) (by decide +kernel)) (fun _ _ _ _ _ => (pg_name (i := 2) sc__law_draws.nd rfl (.inl rfl))) (fun _ _ _ _ _ => d_tnil) (fun _ _ _ _ _ => (d_callB c_abs (by rfl) T.z_abs (by decide +kernel) (d_cons (d_var (pv 2)) d_nil)))) (d_bin o_mul (d_lst (d_cons d_int d_nil)) (d_callT c_int (by rfl) T.z_int (by decide +kernel) (d_cons (d_cmp (o_ieq hr.units) (d_callB c_len (by rfl) T.z_len (by decide +kernel) (d_cons (d_var (pv 0)) d_nil)) d_int (nomark _)) d_nil)))))
 (d_last (d_ret (d_lstC (d_cons (d_var (pv 1)) (d_cons d_int (d_cons (d_lcC (own := [("_law_cell", 2)]) (g := (gName 2)) (st := (st1 2)) lct1 (by rfl) sc__law_draws.nd (d_iseq (d_var (pv 1))) (blkOk_by (own := [("_law_cell", 2)]) (N := N__law_draws) (sc := defScope s__law_draws) (by decide +kernel)) (fun _ _ _ _ _ => (pg_name (i := 2) sc__law_draws.nd rfl (.inl rfl))) (fun _ _ _ _ _ => d_tnil) (fun _ _ _ _ _ => (d_bin o_mul (d_var (pv 2)) (d_callT c_int (by rfl) T.z_int (by decide +kernel) (d_cons (d_cmp o_ge (d_var (pv 2)) (d_bin o_pow d_int d_int) (nomark _)) d_nil))))) d_nil)))))))
theorem G_law_next (T : Tx K mg) : Rb.FnG P w K mg base CX0 1 T.f__law_next T.fd__law_next ["_law_state", "_law_many"] (spF (ct0 K mg) F_law_next) := by
  unfold F_law_next
  exact
   d_fn T.F__law_next sc__law_next fun cdv A out s H E hg hr => (d_seq (d_asg (d_var (pv 0)) (d_gunl rfl (d_gcons (d_gn (pg_name (i := 2) sc__law_next.nd rfl (.inl rfl))) (d_gcons (d_gn (pg_name (i := 3) sc__law_next.nd rfl (.inl rfl))) (d_gcons (d_gn (pg_name (i := 4) sc__law_next.nd rfl (.inl rfl))) d_gnil)))))
 (d_seq (d_set (i := 5) sc__law_next.nd rfl (.inl rfl) (d_bin o_mod (d_var (pv 3)) (d_callB c_len (by rfl) T.z_len (by decide +kernel) (d_cons (d_var (pv 2)) d_nil))))
 (d_seq (d_asg (d_bin o_add (d_var (pv 3)) d_int) (d_gsub (d_var (pv 0)) d_int))
 (d_seq (d_if (d_tcmp o_gt (d_ix (d_var (pv 4)) (d_var (pv 5)) (fun _ _ => rfl)) d_int (nomark _))
 (d_seq (d_set (i := 6) sc__law_next.nd rfl (.inl rfl) (d_bin o_mod (d_ix (d_var (pv 4)) (d_var (pv 5)) (fun _ _ => rfl)) (d_var (pv 1))))
 (d_seq (d_asg (d_bin o_fdiv (d_ix (d_var (pv 4)) (d_var (pv 5)) (fun _ _ => rfl)) (d_var (pv 1))) (d_gsub (d_var (pv 4)) (d_var (pv 5))))
 (d_last (d_ret (d_var (pv 6))))))
 d_end)
 (d_seq (d_set (i := 7) sc__law_next.nd rfl (.inl rfl) (d_bin o_mod (d_bin o_pow (d_bin o_add (d_bin o_add (d_bin o_mod (d_ix (d_var (pv 2)) (d_var (pv 5)) (fun _ _ => rfl)) d_int) (d_bin o_mul d_int (d_var (pv 3)))) d_int) d_int) d_int))
 (d_seq (d_set (i := 7) sc__law_next.nd rfl (.inl rfl) (d_bin o_mod (d_bin o_pow (d_bin o_add (d_bin o_add (d_var (pv 7)) (d_bin o_mul (d_bin o_mul d_int (d_var (pv 3))) (d_var (pv 3)))) d_int) d_int) d_int))
 (d_last (d_ret (d_bin o_mod (d_bin o_fdiv (d_bin o_mod (d_bin o_mul (d_var (pv 7)) d_int) d_int) d_int) (d_var (pv 1)))))))))))
theorem GE_law_word (T : Tx K mg) : FnE P w K mg base 1 T.f__law_word T.fd__law_word ["_law_error"] F_law_word_2 := by
  unfold F_law_word_2
  exact
   d_fnE T.F__law_word sc__law_word fun cdv A out s H a oe pn hg hr hfd => (d_seq (d_set (i := 1) sc__law_word.nd rfl (.inl rfl) (d_lst (d_cons (d_isX hfd (allS T.xi_TooManyPeople_TooManyPeople (allS T.xi_BadTicks_TooManyPeople (allS T.xi_TooLate_TooManyPeople all0))) (by rfl) T.z_isinstance (pv 0) (cl_own (by rfl) T.gC_TooManyPeople)) (d_cons (d_isX hfd (allS T.xi_TooManyPeople_BadTicks (allS T.xi_BadTicks_BadTicks (allS T.xi_TooLate_BadTicks all0))) (by rfl) T.z_isinstance (pv 0) (cl_own (by rfl) T.gC_BadTicks)) (d_cons (d_isX hfd (allS T.xi_TooManyPeople_TooLate (allS T.xi_BadTicks_TooLate (allS T.xi_TooLate_TooLate all0))) (by rfl) T.z_isinstance (pv 0) (cl_own (by rfl) T.gC_TooLate)) d_nil)))))
 (d_seq (d_if (PW.pt (d_or (d_tcmp (o_ine hr.units) (d_mlv PySem.F.slot_list_count PySem.F.type_list_count m_countB (d_var (pv 1)) (d_cons d_bl d_nil)) d_int (nomark _)) (d_or1 (d_tval (d_isXT hfd (allS T.xi_TooManyPeople_BadParty (allS T.xi_TooManyPeople_BadStarts (allS T.xi_TooManyPeople_LookupError (allS T.xi_BadTicks_BadParty (allS T.xi_BadTicks_BadStarts (allS T.xi_BadTicks_LookupError (allS T.xi_TooLate_BadParty (allS T.xi_TooLate_BadStarts (allS T.xi_TooLate_LookupError all0))))))))) (by rfl) T.z_isinstance (pv 0) (ClEs.cons (cl_own (by rfl) T.gC_BadParty) (ClEs.cons (cl_own (by rfl) T.gC_BadStarts) (ClEs.cons (cl_ty (n := "LookupError") (by rfl) T.z_LookupError (by decide +kernel)) ClEs.nil))) (Nat.le_of_ble_eq_true rfl))))))
 (d_last (d_ret (d_lst (d_cons d_str d_nil))))
 d_end)
 (d_seq (d_if (d_tval (d_ix (d_var (pv 1)) d_int (fun _ _ => rfl)))
 (d_last (d_ret (d_lst (d_cons d_str d_nil))))
 d_end)
 (d_last (d_ret (d_ifE (d_tval (d_ix (d_var (pv 1)) d_int (fun _ _ => rfl))) (d_lst (d_cons d_str (d_cons (d_xf hfd (allS ⟨_, T.gC_BadStarts, T.E_BadStarts.xf, T.no_BadStarts⟩ (allS ⟨_, T.gC_BadTicks, T.E_BadTicks.xf, T.no_BadTicks⟩ all0)) (pv 0)) d_nil))) (d_lst (d_cons d_str (d_cons (d_xf hfd (allS ⟨_, T.gC_TooLate, T.E_TooLate.xf, T.no_TooLate⟩ all0) (pv 0)) d_nil)))))))))
theorem G_law_due_later (T : Tx K mg) : Rb.FnG P w K mg base CX0 1 T.f__law_due_later T.fd__law_due_later ["_law_starts_here", "_law_value"] (spF (ct0 K mg) F_law_due_later) := by
  unfold F_law_due_later
  exact
   d_fn T.F__law_due_later sc__law_due_later fun cdv A out s H E hg hr => (d_seq (d_if (PW.pt (d_or (d_tval (d_isi (t := .bool) (by rfl) T.z_isinstance (d_var (pv 1)) (pe_bltn (by rfl) T.z_bool (show bootBuiltins "bool" = some (.type "bool") by decide +kernel) (show RelV (V.ty "bool") _ from rfl)))) (d_or (d_not (d_tval (d_isi (t := .int) (by rfl) T.z_isinstance (d_var (pv 1)) (pe_bltn (by rfl) T.z_int (show bootBuiltins "int" = some (.type "int") by decide +kernel) (show RelV (V.ty "int") _ from rfl))))) (d_or1 (d_not (d_tchain o_le o_le d_int (d_var (pv 1)) (d_bin o_pow d_int d_int)))))))
 (d_last (d_ret (d_lst (d_cons d_str (d_cons (d_var (pv 1)) d_nil)))))
 d_end)
 (d_seq (d_set (i := 2) sc__law_due_later.nd rfl (.inl rfl) (d_callT c_tuple (by rfl) T.z_tuple (by decide +kernel) (d_cons (d_lc (own := [("_law_start", 4)]) (g := (gName 4)) (st := (st1 4)) lct1 (by rfl) sc__law_due_later.nd (d_iseq (d_var (pv 0))) (blkOk_by (own := [("_law_start", 4)]) (N := N__law_due_later) (sc := defScope s__law_due_later) (by decide +kernel)) (fun _ _ _ _ _ => (pg_name (i := 4) sc__law_due_later.nd rfl (.inl rfl))) (fun _ _ _ _ _ => d_tnil) (fun _ _ _ _ _ => (d_bin o_add (d_var (pv 4)) (d_var (pv 1))))) d_nil)))
 (d_seq (d_setLc (i := 3) (own := [("_law_start", 4)]) (g := (gName 4)) (st := (st1 4)) lct1 (by rfl) sc__law_due_later.nd rfl rfl (sw_true rfl rfl rfl (by decide +kernel)) (d_iseq (d_var (pv 2))) (blkOk_by (own := [("_law_start", 4)]) (N := N__law_due_later) (sc := defScope s__law_due_later) (by decide +kernel)) (fun _ _ _ _ _ => (pg_name (i := 4) sc__law_due_later.nd rfl (.inl rfl))) (fun _ _ _ _ _ => (d_tone (d_tcmp o_gt (d_var (pv 4)) (d_bin o_pow d_int d_int) (nomark _)))) (fun _ _ _ _ _ => (d_var (pv 4))))
 (d_last (d_ret (d_ifE (d_tcmp (o_neN hr.units) (d_var (pv 3)) (d_lst d_nil) (nomark _)) (d_lst (d_cons d_str (d_cons (d_ix (d_var (pv 3)) d_int (fun _ _ => rfl)) d_nil))) (d_tup (d_cons (d_var (pv 2)) (d_cons d_bl d_nil)))))))))
theorem G_Party_starts (T : Tx K mg) : Rb.FnG P w K mg base CX0 1 T.f_Party_starts T.fd_Party_starts ["self"] (spF (ct0 K mg) F_Party_starts) := by
  unfold F_Party_starts
  exact
   d_fn T.F_Party_starts sc_Party_starts fun cdv A out s H E hg hr => (d_last (d_ret (d_fld (allS (clf T.cl_Party T.gC_Party T.na_Party_given) all0) (d_var (pv 0)))))
theorem PF_Party_starts (T : Tx K mg) {lv : Nat} (h : 1 ≤ lv) : PF P w K mg base lv "starts" "Party" F_Party_starts := pf_of T.gC_Party T.cl_Party T.pr_Party_starts (FnG_mono (G_Party_starts T) h) T.b_Party_starts
theorem G_is_starts (T : Tx K mg) : Rb.FnG P w K mg base CX0 2 T.f_is_starts T.fd_is_starts ["value"] (spF (ct0 K mg) F_is_starts) := by
  unfold F_is_starts
  exact
   d_fn T.F_is_starts sc_is_starts fun cdv A out s H E hg hr => (d_seq (d_if (PW.pt (d_or (d_not (d_tval (d_isi (t := .tup) (by rfl) T.z_isinstance (d_var (pv 0)) (pe_bltn (by rfl) T.z_tuple (show bootBuiltins "tuple" = some (.type "tuple") by decide +kernel) (show RelV (V.ty "tuple") _ from rfl))))) (d_or1 (d_not (d_tchain o_le o_le d_int (d_callB c_len (by rfl) T.z_len (by decide +kernel) (d_cons (d_var (pv 0)) d_nil)) (d_gint (by rfl) T.c_MAX_PEOPLE))))))
 (d_last (d_ret d_bl))
 d_end)
 (d_seq (d_for PassesOwn.never rfl (d_iseq (d_var (pv 0))) (d_gn (pg_name (i := 1) sc_is_starts.nd rfl (.inl rfl)))
 (d_last (d_if (d_not (d_tval (d_callW (G_is_number_from T) hg hr (by rfl) T.g_is_number_from T.F_is_number_from.kp T.b_is_number_from passG (d_cons (d_var (pv 1)) (d_cons d_int (d_cons (d_gint (by rfl) T.c_MAX_START) d_nil))))))
 (d_last (d_ret d_bl))
 d_end)))
 (d_last (d_ret d_bl))))
theorem G_law_one (T : Tx K mg) : Rb.FnG P w K mg base CX0 2 T.f__law_one T.fd__law_one ["_law_state", "_law_items"] (spF (ct0 K mg) F_law_one_2) := by
  unfold F_law_one_2
  exact
   d_fn T.F__law_one sc__law_one fun cdv A out s H E hg hr => (d_last (d_ret (d_ix (d_var (pv 1)) (d_callW (G_law_next T) hg hr (by rfl) T.g__law_next T.F__law_next.kp T.b__law_next passG (d_cons (d_var (pv 0)) (d_cons (d_callB c_len (by rfl) T.z_len (by decide +kernel) (d_cons (d_var (pv 1)) d_nil)) d_nil))) (fun _ _ => rfl))))
theorem G_law_starts (T : Tx K mg) : Rb.FnG P w K mg base CX0 2 T.f__law_starts T.fd__law_starts ["_law_state", "_law_most"] (spF (ct0 K mg) F_law_starts_5) := by
  unfold F_law_starts_5
  exact
   d_fnC T.F__law_starts sc__law_starts fun cdv A out s H E hg hr => (d_seq (d_par (i := 2) (j := 3) (by rfl) sc__law_starts.nd rfl rfl (by decide) rfl rfl (d_cons (d_ix (d_lst (d_cons d_int (d_cons d_int (d_cons (d_bin o_add (d_bin o_pow d_int d_int) d_int) d_nil)))) (d_callW (G_law_next T) hg hr (by rfl) T.g__law_next T.F__law_next.kp T.b__law_next passG (d_cons (d_var (pv 0)) (d_cons d_int d_nil))) (fun _ _ => rfl)) (d_cons (d_lstC d_nil) d_nil)) (by rfl))
 (d_seq (d_for PassesOwn.never rfl (d_rng1 (by rfl) T.z_range (d_cons (d_bin o_add d_int (d_callW (G_law_next T) hg hr (by rfl) T.g__law_next T.F__law_next.kp T.b__law_next passG (d_cons (d_var (pv 0)) (d_cons (d_var (pv 1)) d_nil)))) d_nil)) (d_gn (pg_name (i := 4) sc__law_starts.nd rfl (.inl rfl)))
 (d_last (d_expr (d_ml PySem.F.slot_list_append PySem.F.type_list_append m_append (d_var (pv 3)) (d_cons (d_ix (d_lst (d_cons (d_callW (G_law_next T) hg hr (by rfl) T.g__law_next T.F__law_next.kp T.b__law_next passG (d_cons (d_var (pv 0)) (d_cons (d_var (pv 2)) d_nil))) (d_cons d_int (d_cons (d_bin o_sub (d_var (pv 2)) d_int) d_nil)))) (d_bin o_mod (d_bin o_mod (d_callW (G_law_next T) hg hr (by rfl) T.g__law_next T.F__law_next.kp T.b__law_next passG (d_cons (d_var (pv 0)) (d_cons d_int d_nil))) d_int) d_int) (fun _ _ => rfl)) d_nil)))))
 (d_last (d_ret (d_callT c_tuple (by rfl) T.z_tuple (by decide +kernel) (d_cons (d_var (pv 3)) d_nil))))))
theorem G_law_odd (T : Tx K mg) : Rb.FnG P w K mg base CX0 2 T.f__law_odd T.fd__law_odd ["_law_state"] (spF (ct0 K mg) F_law_odd_2) := by
  unfold F_law_odd_2
  exact
   d_fn T.F__law_odd sc__law_odd fun cdv A out s H E hg hr => (d_seq (d_set (i := 1) sc__law_odd.nd rfl (.inl rfl) (d_lst (d_cons d_non (d_cons d_bl (d_cons d_bl (d_cons (d_un u_neg d_int) (d_cons d_int (d_cons d_int (d_cons (d_bin o_pow d_int d_int) (d_cons d_str (d_cons d_str (d_cons (d_tup d_nil) (d_cons (d_lst d_nil) (d_cons d_dic0 (d_cons (d_tup (d_cons d_int d_nil)) (d_cons (d_lst (d_cons d_int d_nil)) (d_cons (d_tup (d_cons d_int (d_cons d_bl d_nil))) (d_cons (d_tup (d_cons (d_tup (d_cons d_int d_nil)) d_nil)) (d_cons (d_tup (d_cons d_int (d_cons (d_un u_neg d_int) d_nil))) d_nil)))))))))))))))))))
 (d_last (d_ret (d_ix (d_var (pv 1)) (d_callW (G_law_next T) hg hr (by rfl) T.g__law_next T.F__law_next.kp T.b__law_next passG (d_cons (d_var (pv 0)) (d_cons d_int d_nil))) (fun _ _ => rfl)))))
theorem G_Party_init (T : Tx K mg) : Rb.FnG P w K mg base (L2.CX P w) 3 T.f_Party___init__ T.fd_Party___init__ ["self", "starts"] (spF (ct0 K mg) F_Party_init) := by
  unfold F_Party_init
  exact
   d_fnX T.F_Party___init__ sc_Party___init__ fun cdv A out s H E hg hr => (d_seq (d_if (d_not (d_tval (d_callW (G_is_starts T) hg hr (by rfl) T.g_is_starts T.F_is_starts.kp T.b_is_starts passG (d_cons (d_var (pv 1)) d_nil))))
 (d_last (d_raiseE rfl (takes_of rfl rfl rfl rfl) PySem.F.excBase_ValueError T.L_BadStarts T.iC_BadStarts T.tI_BadStarts (Gi_BadStarts T) hr T.bI_BadStarts (by rfl) T.gC_BadStarts (d_var (pv 1))))
 d_end)
 (d_seq (d_stF (allS (clf T.cl_Party T.gC_Party T.na_Party_given) all0) (d_var (pv 0)) (d_var (pv 1)))
 (d_last (d_stF (allS (clf T.cl_Party T.gC_Party T.na_Party_ordered) all0) (d_var (pv 0)) (d_callT c_tuple (by rfl) T.z_tuple (by decide +kernel) (d_cons (d_callB c_sortTI (by rfl) T.z_sorted (by decide +kernel) (d_cons (d_var (pv 1)) d_nil)) d_nil))))))
theorem MkF_Party (T : Tx K mg) : MkF P w K mg base (L2.CX P w) 3 T.C_Party F_Party_init := ⟨_, _, _, T.mk_Party, G_Party_init T, T.b_Party___init__⟩
theorem G_Party_add (T : Tx K mg) : Rb.FnG P w K mg base (L2.CX P w) 5 T.f_Party___add__ T.fd_Party___add__ ["self", "other"] (spF (ct0 K mg) F_Party_add) := by
  unfold F_Party_add
  exact
   d_fnX T.F_Party___add__ sc_Party___add__ fun cdv A out s H E hg hr => (d_seq (d_if (d_not (d_tval (d_isC (allS (isc_of T.gC_Party T.it_Party T.gC_Party T.kc_Party_Party) all0) (by rfl) T.z_isinstance (by rfl) T.gC_Party (d_var (pv 1)))))
 (d_last d_never)
 d_end)
 (d_seq (d_set (i := 2) sc_Party___add__.nd rfl (.inl rfl) (d_bin o_add (d_fld (allS (clf T.cl_Party T.gC_Party T.na_Party_given) all0) (d_var (pv 0))) (d_fld (allS (clf T.cl_Party T.gC_Party T.na_Party_given) all0) (d_var (pv 1)))))
 (d_seq (d_if (d_tcmp o_gt (d_callB c_len (by rfl) T.z_len (by decide +kernel) (d_cons (d_var (pv 2)) d_nil)) (d_gint (by rfl) T.c_MAX_PEOPLE) (nomark _))
 (d_last (d_raiseE0 rfl (takes_of rfl rfl rfl rfl) PySem.F.excBase_ValueError T.q_TooManyPeople T.kp_TooManyPeople T.bx_TooManyPeople T.ty_TooManyPeople (by rfl) T.gC_TooManyPeople))
 d_end)
 (d_last (d_ret (d_make (lv := 3) (ct_calm rfl) (MkF_Party T) hg hr (by rfl) T.gC_Party (passX (takes_of rfl rfl rfl rfl)) (d_cons (d_var (pv 2)) d_nil)))))))
theorem OF_Party_add (T : Tx K mg) {lv : Nat} (h : 5 ≤ lv) : OpF P w K mg base (L2.CX P w) lv "__add__" "Party" F_Party_add := op_of T.gC_Party T.oa_Party_add T.ob_Party_add T.oc_Party_add T.od_Party_add (FnG_mono (G_Party_add T) h) T.b_Party___add__
theorem G_Party_rshift (T : Tx K mg) : Rb.FnG P w K mg base (L2.CX P w) 5 T.f_Party___rshift__ T.fd_Party___rshift__ ["self", "other"] (spF (ct0 K mg) F_Party_rshift) := by
  unfold F_Party_rshift
  exact
   d_fnX T.F_Party___rshift__ sc_Party___rshift__ fun cdv A out s H E hg hr => (d_seq (d_if (d_not (d_tval (d_callW (G_is_number_from T) hg (hr.mono (by decide)) (by rfl) T.g_is_number_from T.F_is_number_from.kp T.b_is_number_from passG (d_cons (d_var (pv 1)) (d_cons d_int (d_cons (d_gint (by rfl) T.c_MAX_START) d_nil))))))
 (d_last (d_raiseE rfl (takes_of rfl rfl rfl rfl) PySem.F.excBase_ValueError T.L_BadTicks T.iC_BadTicks T.tI_BadTicks (Gi_BadTicks T) (hr.mono (by decide)) T.bI_BadTicks (by rfl) T.gC_BadTicks (d_var (pv 1))))
 d_end)
 (d_seq (d_setLc (i := 2) (own := [("start", 3)]) (g := (gName 3)) (st := (st1 3)) lct1 (by rfl) sc_Party___rshift__.nd rfl rfl (sw_true rfl rfl rfl (by decide +kernel)) (d_iseq (d_fld (allS (clf T.cl_Party T.gC_Party T.na_Party_given) all0) (d_var (pv 0)))) (blkOk_by (own := [("start", 3)]) (N := N_Party___rshift__) (sc := defScope s_Party___rshift__) (by decide +kernel)) (fun _ _ _ _ _ => (pg_name (i := 3) sc_Party___rshift__.nd rfl (.inl rfl))) (fun _ _ _ _ _ => d_tnil) (fun _ _ _ _ _ => (d_bin o_add (d_var (pv 3)) (d_var (pv 1)))))
 (d_seq (d_for (passes_of rfl) rfl (d_iseq (d_var (pv 2))) (d_gn (pg_name (i := 3) sc_Party___rshift__.nd rfl (.inl rfl)))
 (d_last (d_if (d_tcmp o_gt (d_var (pv 3)) (d_gint (by rfl) T.c_MAX_START) (nomark _))
 (d_last (d_raiseE rfl (takes_of rfl rfl rfl rfl) PySem.F.excBase_ValueError T.L_TooLate T.iC_TooLate T.tI_TooLate (Gi_TooLate T) (hr.mono (by decide)) T.bI_TooLate (by rfl) T.gC_TooLate (d_var (pv 3))))
 d_end)))
 (d_last (d_ret (d_make (lv := 3) (ct_calm rfl) (MkF_Party T) hg hr (by rfl) T.gC_Party (passX (takes_of rfl rfl rfl rfl)) (d_cons (d_callT c_tuple (by rfl) T.z_tuple (by decide +kernel) (d_cons (d_var (pv 2)) d_nil)) d_nil)))))))
theorem OF_Party_rshift (T : Tx K mg) {lv : Nat} (h : 5 ≤ lv) : OpF P w K mg base (L2.CX P w) lv "__rshift__" "Party" F_Party_rshift := op_of T.gC_Party T.oa_Party_rshift T.ob_Party_rshift T.oc_Party_rshift T.od_Party_rshift (FnG_mono (G_Party_rshift T) h) T.b_Party___rshift__
theorem G_law_joined (T : Tx K mg) : Rb.FnG P w K mg base CX0 7 T.f__law_joined T.fd__law_joined ["_law_one_here", "_law_other"] (spF (ct0 K mg) F_law_joined) := by
  unfold F_law_joined
  exact
   d_fn T.F__law_joined sc__law_joined fun cdv A out s H E hg hr => (d_last (d_try (i := 3) rfl rfl rfl sc__law_joined.nd rfl rfl ⟨by rfl, by decide, Or.inl T.gC_TripError⟩ takes0E (tab_of (allS (xt_of T.gC_TooManyPeople T.x_TooManyPeople_TripError) (allS (xt_of T.gC_BadTicks T.x_BadTicks_TripError) (allS (xt_of T.gC_TooLate T.x_TooLate_TripError) all0))))
 (fun W pn xe tk _ => (x_seqN (x_set (i := 2) sc__law_joined.nd rfl (.inl rfl) (d_opO (lv := 5) (cx := L2.CX P w) (dn := "__add__") rfl (ct_calm rfl) (allS (OF_Party_add T (by decide)) all0) hg (hr.mono (by decide)) (passW tk) (d_var (pv 0)) (d_var (pv 1)))) (x_last (x_ret (d_tup (d_cons (d_prop (lv := 1) (ct_calm rfl) (allS (PF_Party_starts T (by decide)) all0) hg (hr.mono (by decide)) (d_var (pv 2))) (d_cons (d_isC (allS (isc_of T.gC_Party T.it_Party T.gC_Party T.kc_Party_Party) all0) (by rfl) T.z_isinstance (by rfl) T.gC_Party (d_var (pv 2))) d_nil)))))))
 (fun a oe pn hfd => (d_last (d_ret (d_callE (GE_law_word T) hfd hg (RmE.of (hr.mono (by decide))) (by rfl) T.g__law_word T.F__law_word.kp T.b__law_word (d_cons (d_var (pv 3)) d_nil)))))))
theorem G_law_later (T : Tx K mg) : Rb.FnG P w K mg base CX0 7 T.f__law_later T.fd__law_later ["_law_party", "_law_value"] (spF (ct0 K mg) F_law_later) := by
  unfold F_law_later
  exact
   d_fn T.F__law_later sc__law_later fun cdv A out s H E hg hr => (d_last (d_try (i := 3) rfl rfl rfl sc__law_later.nd rfl rfl ⟨by rfl, by decide, Or.inl T.gC_TripError⟩ takes0E (tab_of (allS (xt_of T.gC_TooManyPeople T.x_TooManyPeople_TripError) (allS (xt_of T.gC_BadTicks T.x_BadTicks_TripError) (allS (xt_of T.gC_TooLate T.x_TooLate_TripError) all0))))
 (fun W pn xe tk _ => (x_seqN (x_set (i := 2) sc__law_later.nd rfl (.inl rfl) (d_opP (lv := 5) (cx := L2.CX P w) (dn := "__rshift__") (dr := "__rrshift__") rfl rfl (ct_calm rfl) (allS ⟨OF_Party_rshift T (by decide), T.oy_Party_rshift⟩ all0) hg (hr.mono (by decide)) (passW tk) (d_var (pv 0)) (d_var (pv 1)))) (x_last (x_ret (d_tup (d_cons (d_prop (lv := 1) (ct_calm rfl) (allS (PF_Party_starts T (by decide)) all0) hg (hr.mono (by decide)) (d_var (pv 2))) (d_cons (d_isC (allS (isc_of T.gC_Party T.it_Party T.gC_Party T.kc_Party_Party) all0) (by rfl) T.z_isinstance (by rfl) T.gC_Party (d_var (pv 2))) d_nil)))))))
 (fun a oe pn hfd => (d_last (d_ret (d_callE (GE_law_word T) hfd hg (RmE.of (hr.mono (by decide))) (by rfl) T.g__law_word T.F__law_word.kp T.b__law_word (d_cons (d_var (pv 3)) d_nil)))))))
theorem G_law (T : Tx K mg) : Rb.FnG P w K mg base CX0 8 T.f_law T.fd_law ["_law_script"] (spF (ct0 K mg) F_law_k28) := by
  unfold F_law_k28
  exact
   d_fn T.F_law sc_law fun cdv A out s H E hg hr => (d_seq (d_set (i := 1) sc_law.nd rfl (.inr rfl) (d_callW (G_law_draws T) hg (hr.mono (by decide)) (by rfl) T.g__law_draws T.F__law_draws.kp T.b__law_draws passG (d_cons (d_var (pv 0)) d_nil)))
 (d_seq (d_for PassesOwn.never rfl (d_rng1 (by rfl) T.z_range (d_cons d_int d_nil)) (d_gn (pg_name (i := 2) sc_law.nd rfl (.inl rfl)))
 (d_seq (d_setLc (i := 3) (own := [("_law_k", 5)]) (g := (gName 5)) (st := (st1 5)) lct1 (by rfl) sc_law.nd rfl rfl (sw_true rfl rfl rfl (by decide +kernel)) (d_rng1 (by rfl) T.z_range (d_cons d_int d_nil)) (blkOk_by (own := [("_law_k", 5)]) (N := N_law) (sc := defScope s_law) (by decide +kernel)) (fun _ _ _ _ _ => (pg_name (i := 5) sc_law.nd rfl (.inl rfl))) (fun _ _ _ _ _ => d_tnil) (fun _ _ _ _ _ => (d_call 2 (G_law_starts T) hg (hr.mono (by decide)) (by rfl) T.g__law_starts T.F__law_starts.kp T.b__law_starts passG (d_cons (d_var (pv 1)) (d_cons (d_ix (d_lst (d_cons d_int (d_cons d_int (d_cons d_int (d_cons d_int d_nil))))) (d_var (pv 5)) (fun _ _ => rfl)) d_nil)))))
 (d_seq (d_setLc (i := 4) (own := [("_law_row", 14)]) (g := (gName 14)) (st := (st1 14)) lct1 (by rfl) sc_law.nd rfl rfl (sw_true rfl rfl rfl (by decide +kernel)) (d_iseq (d_var (pv 3))) (blkOk_by (own := [("_law_row", 14)]) (N := N_law) (sc := defScope s_law) (by decide +kernel)) (fun _ _ _ _ _ => (pg_name (i := 14) sc_law.nd rfl (.inl rfl))) (fun _ _ _ _ _ => d_tnil) (fun _ _ _ _ _ => (d_make (lv := 3) (ct_calm rfl) (MkF_Party T) hg (hr.mono (by decide)) (by rfl) T.gC_Party passLG (d_cons (d_var (pv 14)) d_nil))))
 (d_seq (d_for PassesOwn.never rfl (d_rng1 (by rfl) T.z_range (d_cons d_int d_nil)) (d_gn (pg_name (i := 5) sc_law.nd rfl (.inl rfl)))
 (d_seq (d_par (i := 6) (j := 7) (by rfl) sc_law.nd rfl rfl (by decide) rfl rfl (d_cons (d_callW (G_law_next T) hg (hr.mono (by decide)) (by rfl) T.g__law_next T.F__law_next.kp T.b__law_next passG (d_cons (d_var (pv 1)) (d_cons d_int d_nil))) (d_cons (d_callW (G_law_next T) hg (hr.mono (by decide)) (by rfl) T.g__law_next T.F__law_next.kp T.b__law_next passG (d_cons (d_var (pv 1)) (d_cons d_int d_nil))) d_nil)) (by rfl))
 (d_seq (d_set (i := 8) sc_law.nd rfl (.inl rfl) (d_tup (d_cons (d_bin o_add (d_ix (d_var (pv 3)) (d_var (pv 6)) (fun _ _ => rfl)) (d_ix (d_var (pv 3)) (d_var (pv 7)) (fun _ _ => rfl))) (d_cons d_bl d_nil))))
 (d_cut (d_if (d_tcmp o_gt (d_bin o_add (d_callB c_len (by rfl) T.z_len (by decide +kernel) (d_cons (d_ix (d_var (pv 3)) (d_var (pv 6)) (fun _ _ => rfl)) d_nil)) (d_callB c_len (by rfl) T.z_len (by decide +kernel) (d_cons (d_ix (d_var (pv 3)) (d_var (pv 7)) (fun _ _ => rfl)) d_nil))) d_int (nomark _))
 (d_last (d_set (i := 8) sc_law.nd rfl (.inl rfl) (d_lst (d_cons d_str d_nil))))
 d_end)
 (d_seq (d_if (d_tcmp (o_ine hr.units) (d_callB (c_irepr hg hr.units) (by rfl) T.z_repr (by decide +kernel) (d_cons (d_callW (G_law_joined T) hg hr (by rfl) T.g__law_joined T.F__law_joined.kp T.b__law_joined passG (d_cons (d_ix (d_var (pv 4)) (d_var (pv 6)) (fun _ _ => rfl)) (d_cons (d_ix (d_var (pv 4)) (d_var (pv 7)) (fun _ _ => rfl)) d_nil))) d_nil)) (d_callB (c_irepr hg hr.units) (by rfl) T.z_repr (by decide +kernel) (d_cons (d_var (pv 8)) d_nil)) (nomark _))
 (d_last (d_ret d_bl))
 d_end)
 (d_seq (d_set (i := 9) sc_law.nd rfl (.inl rfl) (d_bin o_sub (d_bin o_pow d_int d_int) (d_callW (G_law_one T) hg (hr.mono (by decide)) (by rfl) T.g__law_one T.F__law_one.kp T.b__law_one passG (d_cons (d_var (pv 1)) (d_cons (d_ix (d_var (pv 3)) (d_var (pv 6)) (fun _ _ => rfl)) d_nil)))))
 (d_seq (d_set (i := 10) sc_law.nd rfl (.inl rfl) (d_lst (d_cons (d_callW (G_law_one T) hg (hr.mono (by decide)) (by rfl) T.g__law_one T.F__law_one.kp T.b__law_one passG (d_cons (d_var (pv 1)) (d_cons (d_lst (d_cons d_int (d_cons d_int (d_cons (d_bin o_pow d_int d_int) (d_cons (d_bin o_add (d_bin o_pow d_int d_int) d_int) (d_cons (d_var (pv 9)) (d_cons (d_bin o_add (d_var (pv 9)) d_int) d_nil))))))) d_nil))) (d_cons (d_callW (G_law_next T) hg (hr.mono (by decide)) (by rfl) T.g__law_next T.F__law_next.kp T.b__law_next passG (d_cons (d_var (pv 1)) (d_cons d_int d_nil))) (d_cons (d_callW (G_law_odd T) hg (hr.mono (by decide)) (by rfl) T.g__law_odd T.F__law_odd.kp T.b__law_odd passG (d_cons (d_var (pv 1)) d_nil)) d_nil)))))
 (d_last (d_for PassesOwn.never rfl (d_iseq (d_var (pv 10))) (d_gn (pg_name (i := 11) sc_law.nd rfl (.inl rfl)))
 (d_last (d_if (d_tcmp (o_ine hr.units) (d_callB (c_irepr hg hr.units) (by rfl) T.z_repr (by decide +kernel) (d_cons (d_callW (G_law_later T) hg hr (by rfl) T.g__law_later T.F__law_later.kp T.b__law_later passG (d_cons (d_ix (d_var (pv 4)) (d_var (pv 6)) (fun _ _ => rfl)) (d_cons (d_var (pv 11)) d_nil))) d_nil)) (d_callB (c_irepr hg hr.units) (by rfl) T.z_repr (by decide +kernel) (d_cons (d_callW (G_law_due_later T) hg (hr.mono (by decide)) (by rfl) T.g__law_due_later T.F__law_due_later.kp T.b__law_due_later passG (d_cons (d_ix (d_var (pv 3)) (d_var (pv 6)) (fun _ _ => rfl)) (d_cons (d_var (pv 11)) d_nil))) d_nil)) (nomark _))
 (d_last (d_ret d_bl))
 d_end)))))))))))
 (d_last (d_if (d_tcmp (o_ine hr.units) (d_callB (c_irepr hg hr.units) (by rfl) T.z_repr (by decide +kernel) (d_cons (d_lc (own := [("_law_party", 15)]) (g := (gName 15)) (st := (st1 15)) lct1 (by rfl) sc_law.nd (d_iseq (d_var (pv 4))) (blkOk_by (own := [("_law_party", 15)]) (N := N_law) (sc := defScope s_law) (by decide +kernel)) (fun _ _ _ _ _ => (pg_name (i := 15) sc_law.nd rfl (.inl rfl))) (fun _ _ _ _ _ => d_tnil) (fun _ _ _ _ _ => (d_prop (lv := 1) (ct_calm rfl) (allS (PF_Party_starts T (by decide)) all0) hg (hr.mono (by decide)) (d_var (pv 15))))) d_nil)) (d_callB (c_irepr hg hr.units) (by rfl) T.z_repr (by decide +kernel) (d_cons (d_var (pv 3)) d_nil)) (nomark _))
 (d_last (d_ret d_bl))
 d_end))))))
 (d_seq (d_set (i := 12) sc_law.nd rfl (.inl rfl) (d_make (lv := 3) (ct_calm rfl) (MkF_Party T) hg (hr.mono (by decide)) (by rfl) T.gC_Party passLG (d_cons (d_tup (d_cons d_int (d_cons (d_bin o_pow d_int d_int) (d_cons (d_bin o_sub (d_bin o_pow d_int d_int) d_int) d_nil)))) d_nil)))
 (d_seq (d_set (i := 13) sc_law.nd rfl (.inl rfl) (d_lst (d_cons (d_callW (G_law_later T) hg hr (by rfl) T.g__law_later T.F__law_later.kp T.b__law_later passG (d_cons (d_var (pv 12)) (d_cons d_int d_nil))) (d_cons (d_callW (G_law_later T) hg hr (by rfl) T.g__law_later T.F__law_later.kp T.b__law_later passG (d_cons (d_var (pv 12)) (d_cons d_int d_nil))) (d_cons (d_callW (G_law_later T) hg hr (by rfl) T.g__law_later T.F__law_later.kp T.b__law_later passG (d_cons (d_var (pv 12)) (d_cons d_int d_nil))) (d_cons (d_callW (G_law_later T) hg hr (by rfl) T.g__law_later T.F__law_later.kp T.b__law_later passG (d_cons (d_var (pv 12)) (d_cons d_bl d_nil))) d_nil))))))
 (d_seq (d_set (i := 8) sc_law.nd rfl (.inl rfl) (d_lst (d_cons (d_tup (d_cons (d_tup (d_cons d_int (d_cons (d_bin o_pow d_int d_int) (d_cons (d_bin o_sub (d_bin o_pow d_int d_int) d_int) d_nil)))) (d_cons d_bl d_nil))) (d_cons (d_lst (d_cons d_str (d_cons (d_bin o_add (d_bin o_pow d_int d_int) d_int) d_nil))) (d_cons (d_lst (d_cons d_str (d_cons (d_bin o_add (d_bin o_pow d_int d_int) d_int) d_nil))) (d_cons (d_lst (d_cons d_str (d_cons d_bl d_nil))) d_nil))))))
 (d_last (d_ret (d_cmp (o_ieq hr.units) (d_callB (c_irepr hg hr.units) (by rfl) T.z_repr (by decide +kernel) (d_cons (d_var (pv 13)) d_nil)) (d_callB (c_irepr hg hr.units) (by rfl) T.z_repr (by decide +kernel) (d_cons (d_var (pv 8)) d_nil)) (nomark _)))))))))
end
end Pu
namespace Pu
open PySem L2
theorem ifT {b : Bool} {P Q : Prop} (h : b = true) (p : P) : if b = true then P else Q := by rw [if_pos h]; exact p
theorem ifF {b : Bool} {P Q : Prop} (h : b = false) (p : Q) : if b = true then P else Q := by rw [h, if_neg Bool.false_ne_true]; exact p
theorem ifB {b : Bool} {P Q : Prop} (h1 : b = true → P) (h2 : b = false → Q) : if b = true then P else Q := by
  cases b with
  | true => exact ifT rfl (h1 rfl)
  | false => exact ifF rfl (h2 rfl)
theorem onS {α : Type} {o : Option α} {a : α} {k : α → Prop} (h : o = some a) (p : k a) : onSome o k := by rw [h]; exact p
/-! ## numbers in a range, any value -/
def isNum (lo hi : Int) : D → Bool
  | .int i => decide (lo ≤ i) && decide (i ≤ hi)
  | _ => false
theorem number_ok {v : D} {lo hi : Int} {S : Sto} {Q : QD} {E : ED} (hv : (toPy v).isSome = true) (q : Q (.bl (isNum lo hi v)) S) : F_is_number_from [v, .int lo, .int hi] S Q E := by
  unfold F_is_number_from
  refine ⟨rfl, ?_⟩
  cases v with
  | int i =>
    show (onBl (.bl (decide (lo ≤ i))) fun k => if k = true then Q (.bl (decide (i ≤ hi))) S else Q (.bl false) S)
    by_cases h : lo ≤ i <;> simpa [isNum, h, onBl] using q
  | cell _ => cases hv
  | glo _ => cases hv
  | ty _ => cases hv
  | ins _ _ => cases hv
  | exc _ _ => cases hv
  | kls _ => cases hv
  | _ => exact q
/-! ## the deck -/
def deckS (cs : List Int) (n : Int) : Sto := [.lst (cs.map D.int), .lst [.cell 0, .int n]]
def Dk (S : Sto) (N : Int) (T : Sto) : Prop := ∃ cs n, S = deckS cs n ++ T ∧ cs.length ≤ 63 ∧ (∀ x ∈ cs, 0 ≤ x) ∧ 0 ≤ n ∧ n ≤ N
theorem Dk.le {S : Sto} {N M : Int} {T : Sto} (h : Dk S N T) (e : N ≤ M) : Dk S M T := by
  obtain ⟨cs, n, h1, h2, h3, h4, h5⟩ := h
  exact ⟨cs, n, h1, h2, h3, h4, by omega⟩
/-- a comprehension whose element changes nothing -/
theorem comp_map {st : D → Rho → Option Rho} {f : FE} {src : Src} {k : List D → Sto → Prop} {S : Sto} {ρ : Rho} {g : D → D} (hsrc : ∀ P : Prop, P → srcOk src S P) : ∀ (xs acc : List D), (∀ x ∈ xs, ∃ ρ1, st x ρ = some ρ1 ∧ ∀ Q : QD, Q (g x) S → f ρ1 S Q noE) → k (acc ++ xs.map g) S → dCompL st dYes f src xs acc ρ S k
  | [], acc, _, h => by rw [List.map_nil, List.append_nil] at h; exact h
  | x :: xs, acc, hx, h => by
    obtain ⟨ρ1, e, hf⟩ := hx x List.mem_cons_self
    refine onS e ?_
    refine ifT (b := true) (Q := srcOk src S (dCompL st dYes f src xs acc ρ S k)) rfl ?_
    refine hf _ (hsrc _ (comp_map hsrc xs _ (fun y hy => hx y (List.mem_cons_of_mem _ hy)) ?_))
    rw [List.append_assoc]
    exact h
def absI (i : Int) : Int := if i < 0 then -i else i
theorem absI_nn (i : Int) : 0 ≤ absI i := by unfold absI; split <;> omega
end Pu
namespace Pu
open PySem L2
/-- a loop by an invariant -/
theorem for_inv {g : FG} {fb : FS} {src : Src} {De : DEnds} {Ed : ED} {ρ : Rho} {S : Sto} (xs : List D) (I : Nat → Rho → Sto → Prop) (h0 : I 0 ρ S)
    (hs : ∀ (i : Nat) (x : D) (ρ : Rho) (S : Sto) (K : Rho → Sto → Prop), xs[i]? = some x → (∀ ρ' S', I (i + 1) ρ' S' → K ρ' S') → I i ρ S → g x ρ S (fun ρ1 S1 => fb ρ1 S1 ⟨K, De.rt, De.nx, K⟩ Ed) Ed)
    (hd : ∀ ρ S, I xs.length ρ S → De.nx ρ S) (hsrc : ∀ i ρ S, I i ρ S → ∀ P : Prop, P → srcOk src S P := by intro _ _ _ _ _ p; exact p) : dLoop g fb src xs ρ S De Ed := by
  have go : ∀ (m n : Nat) (ρ : Rho) (S : Sto), n + m = xs.length → I n ρ S → dLoop g fb src (xs.drop n) ρ S De Ed := by
    intro m
    induction m with
    | zero =>
      intro n ρ S e h
      have : n = xs.length := by omega
      subst this
      rw [List.drop_length]
      exact hd ρ S h
    | succ m ih =>
      intro n ρ S e h
      have hlt : n < xs.length := by omega
      have hx := List.getElem?_eq_getElem hlt
      rw [drop_cons hx]
      exact hs n _ ρ S _ hx (fun ρ' S' h' => hsrc _ _ _ h' _ (ih (n + 1) ρ' S' (by omega) h')) h
  exact go xs.length 0 ρ S (by omega) h0
theorem rangeD_len {lo : Int} {n : Nat} : (rangeD lo n).length = n := by unfold rangeD; rw [List.length_map, List.length_range]
theorem for_rng {g : FG} {fb : FS} {De : DEnds} {Ed : ED} {ρ : Rho} {S : Sto} (lo : Int) (n : Nat) (I : Nat → Rho → Sto → Prop) (h0 : I 0 ρ S)
    (hs : ∀ (i : Nat) (ρ : Rho) (S : Sto) (K : Rho → Sto → Prop), i < n → (∀ ρ' S', I (i + 1) ρ' S' → K ρ' S') → I i ρ S → g (.int (lo + (i : Int))) ρ S (fun ρ1 S1 => fb ρ1 S1 ⟨K, De.rt, De.nx, K⟩ Ed) Ed)
    (hd : ∀ ρ S, I n ρ S → De.nx ρ S) : dLoop g fb [] (rangeD lo n) ρ S De Ed := by
  refine for_inv (rangeD lo n) I h0 (fun i x ρ S K hx hK hI => ?_) (fun ρ S h => hd ρ S (by rw [rangeD_len] at h; exact h))
  obtain ⟨h1, rfl⟩ := rangeD_get hx
  exact hs i ρ S K h1 hK hI
theorem pick3 {α : Type} {x y z : α} {r : Int} (h0 : 0 ≤ r) (h1 : r < 3) : ∃ v, atI [x, y, z] r = some v ∧ (v = x ∨ v = y ∨ v = z) := by
  rcases (by omega : r = 0 ∨ r = 1 ∨ r = 2) with rfl | rfl | rfl
  · exact ⟨x, rfl, .inl rfl⟩
  · exact ⟨y, rfl, .inr (.inl rfl)⟩
  · exact ⟨z, rfl, .inr (.inr rfl)⟩
theorem pick3i {x y z r : Int} (h0 : 0 ≤ r) (h1 : r < 3) : ∃ v : Int, atI [D.int x, D.int y, D.int z] r = some (.int v) ∧ (v = x ∨ v = y ∨ v = z) := by
  obtain ⟨v, e, rfl | rfl | rfl⟩ := pick3 (x := D.int x) (y := D.int y) (z := D.int z) h0 h1
  · exact ⟨x, e, .inl rfl⟩
  · exact ⟨y, e, .inr (.inl rfl)⟩
  · exact ⟨z, e, .inr (.inr rfl)⟩
theorem szd {n : Nat} (h : n ≤ 100000) : n ≤ sizeLine := Rb.sz_le h
def roadV (wk rd : Int) (bs : List Int) : D := .tup [.int wk, .int rd, .tup (bs.map .int)]
end Pu
namespace Pu
open PySem L2
/-- a comprehension over a range whose element changes cells -/
theorem comp_rng {f : FE} {k : List D → Sto → Prop} {ρ : Rho} {S : Sto} {n j : Nat} (I : Nat → List D → Sto → Prop) (h0 : I 0 [] S)
    (hs : ∀ (i : Nat) (acc : List D) (S : Sto) (K : QD), i < n → (∀ y S', I (i + 1) (acc ++ [y]) S' → K y S') → I i acc S → f (ρ.set j (some (.int (0 + (i : Int))))) S K noE) (hd : ∀ acc S, I n acc S → k acc S) : dCompL (st1 j) dYes f [] (rangeD 0 n) [] ρ S k := by
  have go : ∀ (m p : Nat) (acc : List D) (S : Sto), p + m = n → I p acc S → dCompL (st1 j) dYes f [] ((rangeD 0 n).drop p) acc ρ S k := by
    intro m
    induction m with
    | zero =>
      intro p acc S e h
      have : p = (rangeD 0 n).length := by rw [rangeD_len]; omega
      rw [this, List.drop_length]
      exact hd acc S (by have : p = n := by omega
                         exact this ▸ h)
    | succ m ih =>
      intro p acc S e h
      have hlt : p < (rangeD 0 n).length := by rw [rangeD_len]; omega
      have hx := List.getElem?_eq_getElem hlt
      obtain ⟨_, ex⟩ := rangeD_get hx
      rw [drop_cons hx, ex]
      refine ifT (b := true) (Q := dCompL (st1 j) dYes f [] ((rangeD 0 n).drop (p + 1)) acc ρ S k) rfl ?_
      exact hs p acc S _ (by omega) (fun y S' h' => ih (p + 1) _ S' (by omega) h') h
  exact go n 0 [] S (by omega) h0
theorem py_ints (ns : List Int) : toPyAll (ns.map D.int) = some (ns.map .int) := by
  induction ns with
  | nil => rfl
  | cons n ns ih =>
    show (toPy (.int n)).bind (fun p => (toPyAll (ns.map D.int)).map (p :: ·)) = _
    rw [ih]
    rfl
end Pu
namespace Pu
open PySem L2
theorem szr {n : Nat} (h : Nat.ble n 100000 = true) : n ≤ sizeLine := szd (Nat.le_of_ble_eq_true h)
/-! ## any value, of a bounded size -/
structure Av (k n : Nat) (d : D) : Prop where
  py : ∃ p, toPy d = some p ∧ Rb.Nice k n p
  kn : known d = true
abbrev Avs (k n : Nat) (ds : List D) : Prop := ∀ d ∈ ds, Av k n d
theorem Av.some {k n : Nat} {d : D} (h : Av k n d) : (toPy d).isSome = true := by
  obtain ⟨p, e, _⟩ := h.py
  rw [e]
  rfl
theorem Av.mono {k n k' n' : Nat} {d : D} (h : Av k n d) (h1 : k ≤ k') (h2 : n ≤ n') : Av k' n' d := by
  obtain ⟨p, e, hn⟩ := h.py
  exact ⟨⟨p, e, hn.mono h1 h2⟩, h.kn⟩
theorem Av.int {i : Int} (h : i.natAbs < 10 ^ 99) : Av 0 0 (.int i) := ⟨⟨_, rfl, Rb.Nice.int h⟩, rfl⟩
theorem Av.non : Av 0 0 .non := ⟨⟨_, rfl, Rb.Nice.none⟩, rfl⟩
theorem Av.bl {b : Bool} : Av 0 0 (.bl b) := ⟨⟨_, rfl, Rb.Nice.bool⟩, rfl⟩
theorem avs_py {k n : Nat} : ∀ {ds : List D}, Avs k n ds → (∃ ps, toPyAll ds = some ps ∧ ps.length = ds.length ∧ ∀ p ∈ ps, Rb.Nice k n p) ∧ knownAll ds = true
  | [], _ => ⟨⟨[], rfl, rfl, fun _ z => nomatch z⟩, rfl⟩
  | d :: ds, h => by
    obtain ⟨⟨ps, e, hl, hn⟩, hk⟩ := avs_py (ds := ds) fun x hx => h x (List.mem_cons_of_mem _ hx)
    obtain ⟨⟨p, e1, h1⟩, k1⟩ := h d List.mem_cons_self
    refine ⟨⟨p :: ps, ?_, by rw [List.length_cons, List.length_cons, hl], fun q hq => ?_⟩, ?_⟩
    · show (toPy d).bind (fun p => (toPyAll ds).map (p :: ·)) = _
      rw [e1, e]
      rfl
    · rcases List.mem_cons.mp hq with rfl | hq
      · exact h1
      · exact hn q hq
    · show (known d && knownAll ds) = true
      rw [k1, hk]
      rfl
theorem Av.tup {k n m : Nat} {ds : List D} (h : Avs k n ds) (hm : ds.length * (n + 1) ≤ m) : Av (k + 1) m (.tup ds) := by
  obtain ⟨⟨ps, e, hl, hn⟩, hk⟩ := avs_py h
  refine ⟨⟨.tuple ps, ?_, Rb.Nice.tup hn (by rw [hl]; exact hm)⟩, hk⟩
  show (toPyAll ds).map PyData.tuple = _
  rw [e]
  rfl
theorem Av.lst {k n m : Nat} {ds : List D} (h : Avs k n ds) (hm : ds.length * (n + 1) ≤ m) : Av (k + 1) m (.lst true ds) := by
  obtain ⟨⟨ps, e, hl, hn⟩, hk⟩ := avs_py h
  refine ⟨⟨.list ps, ?_, Rb.Nice.lst hn (by rw [hl]; exact hm)⟩, hk⟩
  show (toPyAll ds).map PyData.list = _
  rw [e]
  rfl
theorem Avs.nil {k n : Nat} : Avs k n [] := fun _ z => nomatch z
theorem Avs.cons {k n : Nat} {d : D} {ds : List D} (h : Av k n d) (t : Avs k n ds) : Avs k n (d :: ds) := fun x hx => by
  rcases List.mem_cons.mp hx with rfl | hx
  · exact h
  · exact t x hx
theorem Avs.app {k n : Nat} {ds es : List D} (h : Avs k n ds) (t : Avs k n es) : Avs k n (ds ++ es) := fun x hx => by
  rcases List.mem_append.mp hx with hx | hx
  · exact h x hx
  · exact t x hx
theorem Avs.ints {ns : List Int} (h : ∀ i ∈ ns, i.natAbs < 10 ^ 99) : Avs 0 0 (ns.map D.int) := fun x hx => by
  obtain ⟨i, hi, rfl⟩ := List.mem_map.mp hx
  exact Av.int (h i hi)
theorem Avs.mono {k n k' n' : Nat} {ds : List D} (h : Avs k n ds) (h1 : k ≤ k') (h2 : n ≤ n') : Avs k' n' ds := fun x hx => (h x hx).mono h1 h2
theorem Avs.cut {k n : Nat} {ds : List D} (h : Avs k n ds) {lo hi : Option Int} : Avs k n (cutD ds lo hi) := fun x hx => h x (List.mem_of_mem_drop (List.mem_of_mem_take hx))
theorem Avs.rep {k n m : Nat} {ds : List D} (h : Avs k n ds) : Avs k n (List.replicate m ds).flatten := fun x hx => by
  obtain ⟨l, hl, hx⟩ := List.mem_flatten.mp hx
  rw [(List.mem_replicate.mp hl).2] at hx
  exact h x hx
theorem atI_mem {α : Type} {xs : List α} {r : Int} (h0 : 0 ≤ r) (h1 : r < xs.length) : ∃ d, atI xs r = some d ∧ d ∈ xs := by
  obtain ⟨j, rfl⟩ : ∃ j : Nat, r = (j : Int) := ⟨r.toNat, (Int.toNat_of_nonneg h0).symm⟩
  have hj : j < xs.length := by omega
  exact ⟨xs[j], atI_nat (List.getElem?_eq_getElem hj), List.getElem_mem hj⟩
/-! ## odd values -/
end Pu
namespace Pu
open PySem L2 Rb
/-! ## people, plans -/
def nI (r : List Nat) : List Int := r.map fun p : Nat => (p : Int)
theorem nI_len (r : List Nat) : (nI r).length = r.length := by unfold nI; rw [List.length_map]
structure PlanPre (bikes : List Int) (n : Nat) (plan : List (List Nat)) : Prop where
  asc : ∀ r ∈ plan, r.Pairwise (· < ·)
  lt : ∀ r ∈ plan, ∀ p ∈ r, p < n
  few : ∀ i, i < plan.length → (plan.getD i []).length ≤ (bikes.getD i 0).toNat + (brM plan i).length
theorem getD_app {α : Type} {l m : List α} {i : Nat} {d : α} (h : i < l.length) : (l ++ m).getD i d = l.getD i d := by
  rw [List.getD_eq_getElem?_getD, List.getD_eq_getElem?_getD, List.getElem?_append_left h]
theorem PlanPre.snoc {bikes : List Int} {n : Nat} {plan : List (List Nat)} {r : List Nat} (h : PlanPre bikes n plan) (h1 : r.Pairwise (· < ·)) (h2 : ∀ p ∈ r, p < n) (h3 : r.length ≤ (bikes.getD plan.length 0).toNat + (brM plan plan.length).length) : PlanPre bikes n (plan ++ [r]) := by
  refine ⟨fun s hs => ?_, fun s hs => ?_, fun i hi => ?_⟩
  · rcases List.mem_append.mp hs with g | g
    · exact h.asc s g
    · rw [List.mem_singleton.mp g]; exact h1
  · rcases List.mem_append.mp hs with g | g
    · exact h.lt s g
    · rw [List.mem_singleton.mp g]; exact h2
  · have hi : i < plan.length + 1 := by rw [List.length_append] at hi; exact hi
    have eb : brM (plan ++ [r]) i = brM plan i := by
      unfold brM
      split
      · rfl
      · exact getD_app (by omega)
    rw [eb]
    by_cases e : i < plan.length
    · rw [getD_app e]
      exact h.few i e
    · have e : i = plan.length := by omega
      subst e
      have : (plan ++ [r]).getD plan.length [] = r := by
        rw [List.getD_eq_getElem?_getD, List.getElem?_append_right (Nat.le_refl _), Nat.sub_self]
        rfl
      rw [this]
      exact h3
theorem PlanPre.ok {bikes : List Int} {n : Nat} {plan : List (List Nat)} (h : PlanPre bikes n plan) (hl : plan.length = bikes.length) (hn : ∀ b ∈ bikes, 0 ≤ b) : PlanOk bikes n plan := by
  refine ⟨hl, hn, h.asc, h.lt, fun i => ?_⟩
  by_cases hi : i < plan.length
  · have := h.few i hi
    have e : (brM plan i).length = if i = 0 then 0 else (plan.getD (i - 1) []).length := by
      unfold brM
      split <;> rfl
    rw [← e]
    exact this
  · rw [List.getD_eq_getElem?_getD, List.getElem?_eq_none (by omega)]
    exact Nat.zero_le _
/-! what is below -/
theorem below_ints {k : Nat} : ∀ (ns : List Int), belowAll k (ns.map D.int) = true
  | [] => rfl
  | n :: ns => below_ints ns
theorem cell_last {A : Sto} {xs : List D} : cellOf (A ++ [.lst xs]) (.cell A.length) = some (A.length, xs) := by
  show (lstAt (A ++ [Cl.lst xs])[A.length]?).map _ = _
  rw [List.getElem?_append_right (Nat.le_refl _), Nat.sub_self]
  rfl
theorem seq_last {A : Sto} {xs : List D} : seqOf (A ++ [.lst xs]) (.cell A.length) = some xs := by
  show lstAt (A ++ [Cl.lst xs])[A.length]? = _
  rw [List.getElem?_append_right (Nat.le_refl _), Nat.sub_self]
  rfl
theorem set_last {A : Sto} {c d : Cl} : (A ++ [c]).set A.length d = A ++ [d] := by
  rw [List.set_append_right _ _ (Nat.le_refl _), Nat.sub_self]
  rfl
theorem Dk.cut {S : Sto} {N : Int} {T : Sto} {c : Cl} (h : Dk S N (T ++ [c])) : ∃ A, S = A ++ [c] ∧ A.length = 2 + T.length ∧ Dk A N T ∧ ∀ d, Dk (A ++ [d]) N (T ++ [d]) := by
  obtain ⟨cs, n, rfl, h⟩ := h
  exact ⟨deckS cs n ++ T, by rw [List.append_assoc], by rw [List.length_append]; rfl, ⟨cs, n, rfl, h⟩, fun d => ⟨cs, n, by rw [List.append_assoc], h⟩⟩
theorem Dk.len {S : Sto} {N : Int} {T : Sto} (h : Dk S N T) : S.length = 2 + T.length := by
  obtain ⟨cs, n, rfl, _⟩ := h
  rw [List.length_append]
  rfl
theorem Dk.snoc {S : Sto} {N : Int} {T : Sto} (h : Dk S N T) (c : Cl) : Dk (S ++ [c]) N (T ++ [c]) := by
  obtain ⟨cs, n, rfl, h⟩ := h
  exact ⟨cs, n, by rw [List.append_assoc], h⟩
theorem Dk.take2 {S : Sto} {N : Int} {T : Sto} (h : Dk S N T) : Dk (S.take 2) N [] ∧ S.drop 2 = T ∧ (S.take 2).all (Cl.below 2) = true ∧ (S.take 2).length = 2 := by
  obtain ⟨cs, n, rfl, h⟩ := h
  refine ⟨⟨cs, n, rfl, h⟩, rfl, ?_, rfl⟩
  show (belowAll 2 (cs.map D.int) && ((true && (true && true)) && true)) = true
  rw [below_ints]
  rfl
end Pu
namespace Pu
open PySem L2 Rb
def tupLe (k : Nat) : D → Bool
  | .tup xs => Nat.ble xs.length k
  | _ => true
def smallD (k : Nat) : D → Bool
  | .tup vs => vs.all (tupLe k)
  | _ => true
theorem tupLe_tup {k : Nat} {xs : List D} (h : xs.length ≤ k) : tupLe k (.tup xs) = true := Nat.ble_eq_true_of_le h
/-- an item of a plan -/
structure Ri (d : D) : Prop where
  av : Av 3 1000 d
  le : tupLe 60 d = true
structure Ok2 (d : D) : Prop where
  av : Av 5 40000 d
  sm : smallD 60 d = true
theorem Ri.tup {ds : List D} (h : Avs 2 20 ds) (hl : ds.length ≤ 40) : Ri (.tup ds) := ⟨Av.tup h (by omega), tupLe_tup (by omega)⟩
theorem Ri.lst {ds : List D} (h : Avs 2 20 ds) (hl : ds.length ≤ 40) : Ri (.lst true ds) := ⟨Av.lst h (by omega), rfl⟩
theorem Ok2.tup {ds : List D} (h : ∀ d ∈ ds, Ri d) (hl : ds.length ≤ 30) : Ok2 (.tup ds) := ⟨(Av.tup (k := 3) (n := 1000) (m := 40000) (fun d hd => (h d hd).av) (by omega)).mono (by decide) (by decide), List.all_eq_true.mpr fun d hd => (h d hd).le⟩
theorem Ok2.lst {ds : List D} (h : ∀ d ∈ ds, Ri d) (hl : ds.length ≤ 30) : Ok2 (.lst true ds) := ⟨(Av.lst (k := 3) (n := 1000) (m := 40000) (fun d hd => (h d hd).av) (by omega)).mono (by decide) (by decide), rfl⟩
end Pu
namespace Pu
open PySem L2 Rb
def tkD (ticks : List Int) : D := .tup (ticks.map D.int)
end Pu
namespace Pu
open PySem L2 Rb
theorem nI_mem {r : List Nat} {p : Nat} : (p : Int) ∈ nI r ↔ p ∈ r := by
  unfold nI
  constructor
  · intro h
    obtain ⟨q, hq, e⟩ := List.mem_map.mp h
    have : q = p := by omega
    exact this ▸ hq
  · intro h
    exact List.mem_map.mpr ⟨p, h, rfl⟩
end Pu
namespace Pu
open PySem L2 Rb
theorem cut_to {xs : List D} {m : Nat} : cutD xs none (some (m : Int)) = xs.take m := by
  unfold cutD
  have h1 : HT.sIx xs.length 0 none = 0 := HT.sIx_none ..
  have h2 : HT.sIx xs.length xs.length (some (m : Int)) = min m xs.length := HT.sIx_nat ..
  rw [h1, h2, List.drop_zero, Nat.sub_zero]
  by_cases h : m ≤ xs.length
  · rw [Nat.min_eq_left h]
  · rw [Nat.min_eq_right (by omega), List.take_length, List.take_of_length_le (by omega)]
def countsM (bs : List Int) : List Int := (List.range bs.length).map fun k => (bs.take (k + 1)).sum
end Pu
namespace Pu
open PySem L2 Rb
/-! ## parts of a road -/
theorem getD_take {α : Type} {l : List α} {i k : Nat} {d : α} (h : i < k) : (l.take k).getD i d = l.getD i d := by
  rw [List.getD_eq_getElem?_getD, List.getD_eq_getElem?_getD, List.getElem?_take_of_lt h]
theorem PlanOk.take {bs : List Int} {n k : Nat} {plan : List (List Nat)} (ok : PlanOk bs n plan) (hk : k ≤ bs.length) : PlanOk (bs.take k) n (plan.take k) := by
  refine ⟨by rw [List.length_take, List.length_take, ok.len], fun b h => ok.nn b (List.mem_of_mem_take h), fun r h => ok.asc r (List.mem_of_mem_take h), fun r h => ok.lt r (List.mem_of_mem_take h), fun i => ?_⟩
  by_cases h : i < k
  · rw [getD_take h, getD_take h]
    have := ok.few i
    by_cases z : i = 0
    · rw [if_pos z] at this ⊢
      exact this
    · rw [if_neg z] at this ⊢
      rw [getD_take (by omega)]
      exact this
  · have : (plan.take k).getD i [] = [] := by
      rw [List.getD_eq_getElem?_getD, List.getElem?_eq_none (by rw [List.length_take]; omega)]
      rfl
    rw [this]
    exact Nat.zero_le _
/-! ## no tick is below 0: the bicycles that stand there come first -/
end Pu
namespace Pu
open PySem L2 Rb
/-! ## all ticks moved by one growing map: shifts and multiples -/
structure Grow (f : Int → Int) : Prop where
  lt : ∀ a b, a < b → f a < f b
  nn : ∀ t, 0 ≤ t → 0 ≤ f t
section
variable {f : Int → Int} (G : Grow f)
include G
theorem Grow.le {a b : Int} (h : a ≤ b) : f a ≤ f b := by
  rcases Int.lt_or_eq_of_le h with h | h
  · exact Int.le_of_lt (G.lt a b h)
  · rw [h]; exact Int.le_refl _
end
end Pu
namespace Pu
open PySem L2 Rb
/-! ## one road behind the other -/
theorem getD_right {α : Type} {l m : List α} {i : Nat} {d : α} : (l ++ m).getD (l.length + i) d = m.getD i d := by
  rw [List.getD_eq_getElem?_getD, List.getD_eq_getElem?_getD, List.getElem?_append_right (by omega), Nat.add_sub_cancel_left]
section
variable {wk rd : Int} {bs bs2 starts : List Int} {plan plan2 : List (List Nat)}
theorem PlanOk.join {n : Nat} (ok : PlanOk bs n plan) (ok2 : PlanOk bs2 n plan2) : PlanOk (bs ++ bs2) n (plan ++ plan2) := by
  have hl := ok.len
  refine ⟨by rw [List.length_append, List.length_append, ok.len, ok2.len], fun b h => ?_, fun r h => ?_, fun r h => ?_, fun i => ?_⟩
  · rcases List.mem_append.mp h with h | h
    · exact ok.nn b h
    · exact ok2.nn b h
  · rcases List.mem_append.mp h with h | h
    · exact ok.asc r h
    · exact ok2.asc r h
  · rcases List.mem_append.mp h with h | h
    · exact ok.lt r h
    · exact ok2.lt r h
  · by_cases h : i < bs.length
    · rw [getD_app (by omega), getD_app h]
      have := ok.few i
      by_cases z : i = 0
      · rw [if_pos z] at this ⊢
        exact this
      · rw [if_neg z] at this ⊢
        rw [getD_app (by omega)]
        exact this
    · obtain ⟨j, rfl⟩ : ∃ j, i = bs.length + j := ⟨i - bs.length, by omega⟩
      have e : (plan ++ plan2).getD (bs.length + j) [] = plan2.getD j [] := by rw [← hl]; exact getD_right
      rw [e, getD_right]
      have := ok2.few j
      by_cases z : j = 0
      · rw [if_pos z] at this
        omega
      · rw [if_neg z] at this
        rw [if_neg (by omega)]
        have e2 : bs.length + j - 1 = plan.length + (j - 1) := by omega
        rw [e2, getD_right]
        exact this
end
end Pu
namespace Pu
open PySem L2 Rb
structure RoadOk (wk rd : Int) (bs : List Int) : Prop where
  rd1 : 1 ≤ rd
  lt : rd < wk
  w2 : wk ≤ 1000
  l1 : 1 ≤ bs.length
  l2 : bs.length ≤ 12
  hb : ∀ b ∈ bs, 0 ≤ b ∧ b ≤ 12
end Pu
namespace Pu
open PySem L2 Rb
theorem RoadOk.take {wk rd : Int} {bs : List Int} (h : RoadOk wk rd bs) {k : Nat} (h1 : 1 ≤ k) : RoadOk wk rd (bs.take k) :=
  ⟨h.rd1, h.lt, h.w2, by rw [List.length_take]; have := h.l1; omega, by rw [List.length_take]; have := h.l2; omega, fun b hb => h.hb b (List.mem_of_mem_take hb)⟩
end Pu
namespace Pu
open PySem L2 Rb
theorem cell_at2 {A : Sto} {xs : List D} (h : A.length = 2) : cellOf (A ++ [.lst xs]) (.cell 2) = some (2, xs) := by
  have := cell_last (A := A) (xs := xs)
  rw [h] at this
  exact this
theorem seq_at2 {A : Sto} {xs : List D} (h : A.length = 2) : seqOf (A ++ [.lst xs]) (.cell 2) = some xs := by
  have := seq_last (A := A) (xs := xs)
  rw [h] at this
  exact this
theorem set_at2 {A : Sto} {c d : Cl} (h : A.length = 2) : (A ++ [c]).set 2 d = A ++ [d] := by
  have := set_last (A := A) (c := c) (d := d)
  rw [h] at this
  exact this
theorem frz_below {S : Sto} {n : Nat} {d : D} (hc : ∀ k, d ≠ .cell k) (h : below n d = true) : frz S n d = some d := by
  cases d with
  | cell k => exact absurd rfl (hc k)
  | _ => simp only [frz, h, if_true]
/-- a call that sees the deck only -/
theorem Dk.bel {S T : Sto} {N : Int} (h : Dk S N T) : (S.take 2).all (Cl.below 2) = true := h.take2.2.2.1
theorem Dk.app {S T : Sto} {N : Int} (h : Dk S N []) : Dk (S ++ T) N T := by
  obtain ⟨cs, n, rfl, h⟩ := h
  exact ⟨cs, n, by rw [List.append_nil], h⟩
theorem Dk.l2 {S T S1 : Sto} {N : Int} (h : Dk S N T) (l : S1.length = 2) : S1.length = (S.take 2).length := l.trans h.take2.2.2.2.symm
theorem Dk.back {S T S1 : Sto} {N M : Int} (h : Dk S N T) (d : Dk S1 M []) : Dk (S1 ++ S.drop 2) M T := by
  rw [h.take2.2.1]
  exact d.app
end Pu
namespace Pu
open PySem L2 Rb
/-! ## texts of small signs -/
def Fine (x : Str) : Prop := ∀ c ∈ x.cps.toList, c < 1114112
theorem app_cps (a b : Str) : (a ++ b).cps.toList = a.cps.toList ++ b.cps.toList := by
  show (a.cps ++ b.cps).toList = _
  exact Array.toList_append
theorem Fine.app {a b : Str} (ha : Fine a) (hb : Fine b) : Fine (a ++ b) := fun c hc => by
  rw [app_cps] at hc
  rcases List.mem_append.mp hc with h | h
  · exact ha c h
  · exact hb c h
theorem fine_of {x : Str} (h : x.cps.toList.all (fun c => decide (c < 1114112)) = true) : Fine x := fun c hc => of_decide_eq_true (List.all_eq_true.mp h c hc)
theorem fine_join {sep : Str} (hs : Fine sep) : ∀ {ts : List Str}, (∀ t ∈ ts, Fine t) → Fine (Str.join sep ts)
  | [], _ => fine_of rfl
  | [x], h => h x List.mem_cons_self
  | x :: y :: r, h => by
    show Fine (x ++ sep ++ Str.join sep (y :: r))
    exact ((h x List.mem_cons_self).app hs).app (fine_join hs fun t ht => h t (List.mem_cons_of_mem _ ht))
theorem fine_from : ∀ (ts : List Str) (k : Nat) (acc : Str), Fine acc → (∀ t ∈ ts, Fine t) → Fine (textFrom k acc ts)
  | [], _, acc, ha, _ => ha
  | t :: ts, k, acc, ha, h => by
    show Fine (textFrom (k + 1) (acc ++ (if k > 0 then ", " else "" : String) ++ t) ts)
    refine fine_from ts (k + 1) _ ((ha.app ?_).app (h t List.mem_cons_self)) fun x hx => h x (List.mem_cons_of_mem _ hx)
    split
    · exact fine_of (by decide)
    · exact fine_of (by decide)
theorem fine_int (i : Int) : Fine (PyData.int i).shown := fun c hc => by
  by_cases h : c < 1114112
  · exact h
  · exact absurd hc (PyProof.Rows.shown_int_free' ⟨by omega, by omega⟩ i)
theorem fine_list {ts : List Str} (h : ∀ t ∈ ts, Fine t) : Fine (listText ts) := (fine_from ts 0 _ (fine_of (by decide)) h).app (fine_of (by decide))
theorem fine_tuple {ts : List Str} (h : ∀ t ∈ ts, Fine t) : Fine (tupleText ts) := by
  unfold tupleText
  refine ((fine_of (by decide)).app (fine_join (fine_of (by decide)) h)).app ?_
  split
  · exact fine_of (by decide)
  · exact fine_of (by decide)
/-! ## repr and == of values without dicts -/
structure RepP (k n : Nat) (p : PyData) : Prop where
  nice : Rb.Nice k n p
  nod : p.hasDict = false
  lay : PyData.canLay0 p = true
  fine : Fine p.shown
structure Rep (k n : Nat) (d : D) : Prop where
  py : ∃ p, toPy d = some p ∧ RepP k n p
theorem RepP.mono {k n k' n' : Nat} {p : PyData} (h : RepP k n p) (h1 : k ≤ k') (h2 : n ≤ n') : RepP k' n' p := ⟨h.nice.mono h1 h2, h.nod, h.lay, h.fine⟩
theorem Rep.mono {k n k' n' : Nat} {d : D} (h : Rep k n d) (h1 : k ≤ k') (h2 : n ≤ n') : Rep k' n' d := by
  obtain ⟨p, e, hp⟩ := h.py
  exact ⟨p, e, hp.mono h1 h2⟩
theorem Rep.int {i : Int} (h1 : -1000000000000 ≤ i) (h2 : i ≤ 1000000000000) : Rep 0 0 (.int i) := ⟨_, rfl, Rb.Nice.int (Nat.lt_of_lt_of_le (show i.natAbs < 10000000000000 by omega) (by decide)), rfl, rfl, fine_int i⟩
theorem Rep.non : Rep 0 0 .non := ⟨_, rfl, Rb.Nice.none, rfl, rfl, fine_of (by decide)⟩
theorem Rep.bl {b : Bool} : Rep 0 0 (.bl b) := ⟨_, rfl, Rb.Nice.bool, rfl, rfl, by cases b <;> exact fine_of (by decide)⟩
theorem Rep.str {x : Str} {n : Nat} (h : x.cps.size ≤ n) (hx : ∀ c ∈ x.cps.toList, c < 16 ^ 8) (ho : PyData.canLay0 (.str x) = true) (hf : Fine (PyData.str x).shown) : Rep 0 n (.str x) := ⟨_, rfl, Rb.Nice.str h hx, rfl, ho, hf⟩
theorem reps_py {k n : Nat} : ∀ {ds : List D}, (∀ d ∈ ds, Rep k n d) → ∃ ps, toPyAll ds = some ps ∧ ps.length = ds.length ∧ (∀ p ∈ ps, Rb.Nice k n p) ∧ PyData.hasDictAll ps = false ∧ PyData.canLayAll0 ps = true ∧ ∀ t ∈ PyData.shownAll ps, Fine t
  | [], _ => ⟨[], rfl, rfl, (fun _ z => nomatch z), rfl, rfl, fun _ z => nomatch z⟩
  | d :: ds, h => by
    obtain ⟨p, e, hn, hd, hc, hf⟩ := (h d List.mem_cons_self).py
    obtain ⟨ps, e2, hl, hn2, hd2, hc2, hf2⟩ := reps_py (ds := ds) fun x hx => h x (List.mem_cons_of_mem _ hx)
    refine ⟨p :: ps, ?_, congrArg Nat.succ hl, fun q hq => ?_, ?_, ?_, fun t ht => ?_⟩
    · show (toPy d).bind _ = _
      rw [e, e2]
      rfl
    · rcases List.mem_cons.mp hq with rfl | hq
      · exact hn
      · exact hn2 q hq
    · simp only [PyData.hasDictAll, hd, hd2, Bool.or_self]
    · simp only [PyData.canLayAll0, hc, hc2, Bool.and_self]
    · rcases List.mem_cons.mp (show t ∈ p.shown :: PyData.shownAll ps from ht) with rfl | ht
      · exact hf
      · exact hf2 t ht
theorem Rep.tup {k n m : Nat} {ds : List D} (h : ∀ d ∈ ds, Rep k n d) (hm : ds.length * (n + 1) ≤ m) : Rep (k + 1) m (.tup ds) := by
  obtain ⟨ps, e, hl, hn, hd, hc, hf⟩ := reps_py h
  refine ⟨.tuple ps, ?_, Rb.Nice.tup hn (by rw [hl]; exact hm), ?_, ?_, ?_⟩
  · show (toPyAll ds).map PyData.tuple = _
    rw [e]
    rfl
  · simp only [PyData.hasDict, hd]
  · simp only [PyData.canLay0, hc]
  · simp only [PyData.shown]
    exact fine_tuple hf
theorem Rep.lst {k n m : Nat} {b : Bool} {ds : List D} (h : ∀ d ∈ ds, Rep k n d) (hm : ds.length * (n + 1) ≤ m) : Rep (k + 1) m (.lst b ds) := by
  obtain ⟨ps, e, hl, hn, hd, hc, hf⟩ := reps_py h
  refine ⟨.list ps, ?_, Rb.Nice.lst hn (by rw [hl]; exact hm), ?_, ?_, ?_⟩
  · show (toPyAll ds).map PyData.list = _
    rw [e]
    rfl
  · simp only [PyData.hasDict, hd]
  · simp only [PyData.canLay0, hc]
  · simp only [PyData.shown]
    exact fine_list hf
theorem Rep.ints {ns : List Int} {m : Nat} (h : ∀ i ∈ ns, -1000000000000 ≤ i ∧ i ≤ 1000000000000) (hm : ns.length ≤ m) : Rep 1 m (.tup (ns.map D.int)) :=
  Rep.tup (k := 0) (n := 0) (fun d hd => by
    obtain ⟨i, hi, rfl⟩ := List.mem_map.mp hd
    exact Rep.int (h i hi).1 (h i hi).2) (by rw [List.length_map]; omega)
theorem Rep.two {a b : D} {k n m : Nat} {f : Bool} (ha : Rep k n a) (hb : Rep k n b) (hm : 2 * (n + 1) ≤ m) : Rep (k + 1) m (.lst f [a, b]) :=
  Rep.lst (fun d hd => by
    simp only [List.mem_cons, List.not_mem_nil, or_false] at hd
    rcases hd with rfl | rfl
    · exact ha
    · exact hb) hm
def shw (d : D) : Str := match toPy d with
  | some p => p.shown
  | none => ""
theorem repr_ok {d : D} {S : Sto} {Q : QD} {k n : Nat} (h : Rep k n d) (q : Q (.str (shw d)) S) (hk : k ≤ 20 := by decide) (hn : n ≤ 100000 := by decide) : iRepr [d] S Q := by
  refine iRepr_of ?_
  obtain ⟨p, e, hp⟩ := (h.mono hk hn).py
  refine onS e ⟨⟨hp.nice, .inl hp.nod⟩, ?_⟩
  unfold shw at q
  rw [e] at q
  exact q
theorem pyC_of {S : Sto} {d : D} {p : PyData} (h : toPy d = some p) : pyC S d = some p := by
  cases d with
  | cell n => cases h
  | _ => exact h
/-- what == can be asked of -/
structure Shp (k : Nat) (d : D) : Prop where
  py : ∃ p, toPy d = some p ∧ PyData.canLay0 p = true ∧ p.depth ≤ k
theorem Shp.mono {k k' : Nat} {d : D} (h : Shp k d) (h1 : k ≤ k') : Shp k' d := by
  obtain ⟨p, e, h2, h3⟩ := h.py
  exact ⟨p, e, h2, Nat.le_trans h3 h1⟩
theorem Shp.str {x : Str} (h : Fine x) : Shp 0 (.str x) := by
  refine ⟨_, rfl, ?_, Nat.le_refl _⟩
  show PyData.strOk x = true
  unfold PyData.strOk
  rw [← Array.all_toList, List.all_eq_true]
  intro c hc
  exact decide_eq_true (h c hc)
theorem shps_py {k : Nat} : ∀ {ds : List D}, (∀ d ∈ ds, Shp k d) → ∃ ps, toPyAll ds = some ps ∧ PyData.canLayAll0 ps = true ∧ PyData.depthAll ps ≤ k
  | [], _ => ⟨[], rfl, rfl, Nat.zero_le _⟩
  | d :: ds, h => by
    obtain ⟨p, e, hc, hd⟩ := (h d List.mem_cons_self).py
    obtain ⟨ps, e2, hc2, hd2⟩ := shps_py (ds := ds) fun x hx => h x (List.mem_cons_of_mem _ hx)
    refine ⟨p :: ps, ?_, ?_, ?_⟩
    · show (toPy d).bind _ = _
      rw [e, e2]
      rfl
    · simp only [PyData.canLayAll0, hc, hc2, Bool.and_self]
    · simp only [PyData.depthAll]
      exact Nat.max_le.mpr ⟨hd, hd2⟩
theorem Shp.lst {k : Nat} {b : Bool} {ds : List D} (h : ∀ d ∈ ds, Shp k d) : Shp (k + 1) (.lst b ds) := by
  obtain ⟨ps, e, hc, hd⟩ := shps_py h
  refine ⟨.list ps, ?_, ?_, ?_⟩
  · show (toPyAll ds).map PyData.list = _
    rw [e]
    rfl
  · simp only [PyData.canLay0, hc]
  · simp only [PyData.depth]
    omega
theorem Shp.tup {k : Nat} {ds : List D} (h : ∀ d ∈ ds, Shp k d) : Shp (k + 1) (.tup ds) := by
  obtain ⟨ps, e, hc, hd⟩ := shps_py h
  refine ⟨.tuple ps, ?_, ?_, ?_⟩
  · show (toPyAll ds).map PyData.tuple = _
    rw [e]
    rfl
  · simp only [PyData.canLay0, hc]
  · simp only [PyData.depth]
    omega
theorem Shp.int {i : Int} : Shp 0 (.int i) := ⟨_, rfl, rfl, Nat.le_refl _⟩
theorem Shp.sh {k : Nat} {d : D} (h : Shp k d) (hk : k ≤ 64) : ∃ p, toPy d = some p ∧ SeqAt.shaped p = true ∧ PyData.canLay0 p = true := by
  obtain ⟨p, e, hc, hd⟩ := h.py
  refine ⟨p, e, ?_, hc⟩
  unfold SeqAt.shaped
  rw [hc, decide_eq_true (Nat.le_trans hd hk)]
  rfl
end Pu
namespace Pu
open PySem L2 Rb
/-! ## values that repr shows -/
structure Vv (d : D) (p : PyData) : Prop where
  py : toPy d = some p
  nice : Rb.Nice 3 8 p
  kn : p.hasDict = false ∨ known d = true
  fine : Fine p.shown
theorem Vv.isS {d : D} {p : PyData} (h : Vv d p) : (toPy d).isSome = true := by rw [h.py]; rfl
theorem Vv.rep {d : D} {p : PyData} {S : Sto} {Q : QD} (h : Vv d p) (q : Q (.str p.shown) S) : iRepr [d] S Q := by
  refine iRepr_of (onS h.py ⟨⟨h.nice.mono (by decide) (by decide), h.kn⟩, q⟩)
theorem Vv.size {d : D} {p : PyData} (h : Vv d p) : p.shown.cps.size ≤ 3000 := by
  have e := PyData.shown_le_bulk 100 (by decide) p h.nice.lv
  have := h.nice.blk
  have : p.shown.length = p.shown.cps.size := rfl
  omega
theorem Vv.two {d : D} {p : PyData} {S : Sto} {Q : QD} {f : Bool} {w : Str} (h : Vv d p) (hw : w.cps.size ≤ 3000) (hf : Fine w) (q : Q (.str (PyData.list [.str w, .str p.shown]).shown) S) : iRepr [.lst f [.str w, .str p.shown]] S Q := by
  refine iRepr_of ?_
  unfold gRepr
  dsimp only
  refine onS (show toPy (.lst f [.str w, .str p.shown]) = some (PyData.list [.str w, .str p.shown]) from rfl) ⟨⟨?_, .inl rfl⟩, q⟩
  refine (Rb.Nice.lst (k := 0) (n := 3000) (m := 6002) (fun x hx => ?_) (by show 2 * 3001 ≤ 6002; decide)).mono (by decide) (by decide)
  simp only [List.mem_cons, List.not_mem_nil, or_false] at hx
  rcases hx with rfl | rfl
  · exact Rb.Nice.str hw fun c hc => Nat.lt_trans (hf c hc) (by decide)
  · exact Rb.Nice.str h.size fun c hc => Nat.lt_trans (h.fine c hc) (by decide)
theorem Vv.int {i : Int} (h : i.natAbs < 10 ^ 99) : Vv (.int i) (.int i) := ⟨rfl, (Rb.Nice.int h).mono (by decide) (by decide), .inl rfl, fine_int i⟩
/-! ## a promise -/
theorem isX_of {tab : List (Str × Str × Bool)} {i : Nat} {x y : Str} {fs : List (Str × D)} {b : Bool} {ρ : Rho} {S : Sto} {Q : QD} {E : ED} (h : getV ρ i = some (.exc x fs)) (e : lookX tab x y = some b) (q : Q (.bl b) S) : dIsX tab i y ρ S Q E := by
  unfold dIsX
  rw [h]
  exact onS e q
theorem isXT_of {tab : List (Str × Str × Bool)} {i : Nat} {x : Str} {ys : List Str} {fs : List (Str × D)} {b : Bool} {ρ : Rho} {S : Sto} {Q : QD} {E : ED} (h : getV ρ i = some (.exc x fs)) (e : anyX tab x ys = some b) (q : Q (.bl b) S) : dIsXT tab i ys ρ S Q E := by
  unfold dIsXT
  rw [h]
  exact onS e q
theorem xf_of {xs : List Str} {i : Nat} {f x : Str} {fs : List (Str × D)} {v : D} {ρ : Rho} {S : Sto} {Q : QD} {E : ED} (h : getV ρ i = some (.exc x fs)) (hx : xs.contains x = true) (e : lookF f fs = some v) (q : Q v S) : dXf xs i f ρ S Q E := by
  unfold dXf
  rw [h]
  exact ⟨hx, onS e q⟩
end Pu
namespace Pu
open PySem L2 Rb
theorem ix_lst {b : Bool} {xs : List D} {i : Int} {d : D} {S : Sto} {Q : QD} (e : atI xs i = some d) (q : Q d S) : gIx (.lst b xs) (.int i) S Q := by
  show onSome (atI xs i) fun d => Q d S
  exact onS e q
end Pu
namespace Gm
/-! ## sums over sets of people, and the step of the rule -/
/-! ## the room of some stages -/
end Gm
namespace Pu
open PySem L2 Rb
/-! ## the latest people -/
def ordM (ticks : List Int) : List (Int × Int) := srtP (ticks.mapIdx fun p t => (-t, (p : Int)))
def grM (ticks : List Int) (c : Nat) : List Nat := (srt (((ordM ticks).take c).map (·.2))).map Int.toNat
theorem tickAt_get {ticks : List Int} {p : Nat} {t : Int} (h : ticks[p]? = some t) : tickAt ticks p = t := by
  unfold tickAt
  rw [List.getD_eq_getElem?_getD, h]
  rfl
theorem ord_len (ticks : List Int) : (ordM ticks).length = ticks.length := by
  unfold ordM
  rw [srtP_len, List.length_mapIdx]
theorem ord_mem {ticks : List Int} {z : Int × Int} : z ∈ ordM ticks ↔ ∃ p : Nat, p < ticks.length ∧ z = (-(tickAt ticks p), (p : Int)) := by
  unfold ordM
  rw [(srtP_perm _).mem_iff]
  constructor
  · intro h
    obtain ⟨p, hp, e⟩ := List.getElem_of_mem h
    rw [List.length_mapIdx] at hp
    rw [List.getElem_mapIdx] at e
    exact ⟨p, hp, by rw [tickAt_get (List.getElem?_eq_getElem hp)]; exact e.symm⟩
  · rintro ⟨p, hp, rfl⟩
    rw [tickAt_get (List.getElem?_eq_getElem hp)]
    refine List.mem_of_getElem? (i := p) ?_
    rw [List.getElem?_mapIdx, List.getElem?_eq_getElem hp]
    rfl
theorem take_snd {ticks : List Int} {c : Nat} {y : Int} (h : y ∈ ((ordM ticks).take c).map (·.2)) : ∃ p : Nat, p < ticks.length ∧ y = (p : Int) := by
  obtain ⟨z, hz, rfl⟩ := List.mem_map.mp h
  obtain ⟨p, hp, rfl⟩ := ord_mem.mp (List.mem_of_mem_take hz)
  exact ⟨p, hp, rfl⟩
theorem nI_toNat_of {l : List Int} (h : ∀ y ∈ l, ∃ p : Nat, y = (p : Int)) : nI (l.map Int.toNat) = l := by
  unfold nI
  rw [List.map_map]
  have e : ∀ y ∈ l, ((fun p : Nat => (p : Int)) ∘ Int.toNat) y = y := fun y hy => by
    obtain ⟨p, rfl⟩ := h y hy
    rfl
  rw [List.map_congr_left e, List.map_id']
theorem nI_grM {ticks : List Int} {c : Nat} : nI (grM ticks c) = srt (((ordM ticks).take c).map (·.2)) :=
  nI_toNat_of fun y hy => by
    obtain ⟨p, _, e⟩ := take_snd ((srt_perm _).mem_iff.mp hy)
    exact ⟨p, e⟩
end Pu
namespace Pu
open PySem L2 Rb
/-! ## the plan of the rule -/
def ruleRow (wk rd : Int) (ticks : List Int) (r : List Nat) : List Int := ticks.mapIdx fun p t => t + if p ∈ r then rd else wk
def rtk (wk rd : Int) (cs starts : List Int) : Nat → List Int
  | 0 => starts
  | i + 1 => ruleRow wk rd (rtk wk rd cs starts i) (grM (rtk wk rd cs starts i) (cs.getD i 0).toNat)
end Pu
namespace Pu
open PySem L2 Rb
/-! ## two cells at the end of the store -/
/-! ## the law's own way to the latest people -/
def mkp (ticks : List Int) (p : Nat) : Int × Int := (-(tickAt ticks p), (p : Int))
theorem filter_asc {lf : List Nat} {f : Nat → Bool} (h : lf.Pairwise (· < ·)) {b : Nat} {rest : List Nat} (e : lf.filter f = b :: rest) : b ∈ lf ∧ f b = true ∧ ∀ q ∈ lf, f q = true → b ≤ q := by
  have hm : b ∈ lf.filter f := by rw [e]; exact List.mem_cons_self
  obtain ⟨h1, h2⟩ := List.mem_filter.mp hm
  refine ⟨h1, h2, fun q hq hf => ?_⟩
  have hq2 : q ∈ lf.filter f := List.mem_filter.mpr ⟨hq, hf⟩
  have hp := h.filter f
  rw [e] at hp hq2
  rcases List.mem_cons.mp hq2 with rfl | hq2
  · exact Nat.le_refl _
  · exact Nat.le_of_lt ((List.pairwise_cons.mp hp).1 q hq2)
theorem next_best {ticks : List Int} {lf : List Nat} {j b : Nat} {rest : List Nat} (asc : lf.Pairwise (· < ·)) (pm : (lf.map (mkp ticks)).Perm ((ordM ticks).drop j)) (ne : lf ≠ []) (e : lf.filter (fun k => decide (tickAt ticks k = maxL (lf.map (tickAt ticks)))) = b :: rest) :
    (ordM ticks)[j]? = some (mkp ticks b) ∧ (ordM ticks).drop j = mkp ticks b :: (ordM ticks).drop (j + 1) ∧ b ∈ lf := by
  obtain ⟨h1, h2, h3⟩ := filter_asc asc e
  have h2 : tickAt ticks b = maxL (lf.map (tickAt ticks)) := of_decide_eq_true h2
  obtain ⟨m1, m2⟩ := maxL_spec (ns := lf.map (tickAt ticks)) (by simpa using ne)
  have ln := least_next (k := j) (m := mkp ticks b) (srtP_sorted _) pm (List.mem_map.mpr ⟨b, h1, rfl⟩) fun q hq => by
    obtain ⟨p, hp, rfl⟩ := List.mem_map.mp hq
    have hle := m2 (tickAt ticks p) (List.mem_map.mpr ⟨p, hp, rfl⟩)
    show -(tickAt ticks b) < -(tickAt ticks p) ∨ (-(tickAt ticks b) = -(tickAt ticks p) ∧ (b : Int) ≤ (p : Int))
    by_cases et : tickAt ticks p = tickAt ticks b
    · exact .inr ⟨by omega, by have := h3 p hp (decide_eq_true (by omega)); omega⟩
    · exact .inl (by omega)
  exact ⟨ln.1, ln.2, h1⟩
end Pu
namespace Pu
open PySem L2 Rb
/-- what the loop has chosen -/
structure Chosen (ticks : List Int) (c : Nat) (lf rs : List Nat) : Prop where
  asc : lf.Pairwise (· < ·)
  lt : ∀ p ∈ lf, p < ticks.length
  pm : (lf.map (mkp ticks)).Perm ((ordM ticks).drop rs.length)
  sel : nI rs = ((ordM ticks).take rs.length).map (·.2)
  le : rs.length ≤ c
theorem Chosen.start {ticks : List Int} {c : Nat} : Chosen ticks c (List.range ticks.length) [] where
  asc := List.pairwise_lt_range
  lt := fun p hp => List.mem_range.mp hp
  pm := by
    rw [List.length_nil, List.drop_zero]
    have e : (List.range ticks.length).map (mkp ticks) = ticks.mapIdx fun p t => (-t, (p : Int)) := by
      apply List.ext_getElem?
      intro i
      rw [List.getElem?_map, List.getElem?_mapIdx]
      by_cases hi : i < ticks.length
      · rw [List.getElem?_range hi, List.getElem?_eq_getElem hi]
        show some (-(tickAt ticks i), (i : Int)) = some (-ticks[i], (i : Int))
        rw [tickAt_get (List.getElem?_eq_getElem hi)]
      · rw [List.getElem?_eq_none (by rw [List.length_range]; omega), List.getElem?_eq_none (by omega)]
        rfl
    rw [e]
    exact (srtP_perm _).symm
  sel := rfl
  le := Nat.zero_le _
theorem Chosen.len {ticks : List Int} {c : Nat} {lf rs : List Nat} (h : Chosen ticks c lf rs) : lf.length + rs.length = ticks.length := by
  have h1 := h.pm.length_eq
  have h2 := congrArg List.length h.sel
  rw [List.length_map, List.length_drop, ord_len] at h1
  rw [nI_len, List.length_map, List.length_take, ord_len] at h2
  omega
theorem Chosen.next {ticks : List Int} {c : Nat} {lf rs : List Nat} (h : Chosen ticks c lf rs) {b j : Nat} {rest : List Nat} (hc : rs.length < c) (ne : lf ≠ []) (e : lf.filter (fun k => decide (tickAt ticks k = maxL (lf.map (tickAt ticks)))) = b :: rest) (hj : lf[j]? = some b) : Chosen ticks c (lf.eraseIdx j) (rs ++ [b]) := by
  obtain ⟨o1, o2, o3⟩ := next_best h.asc h.pm ne e
  have el : (rs ++ [b]).length = rs.length + 1 := by rw [List.length_append]; rfl
  refine ⟨h.asc.sublist (List.eraseIdx_sublist ..), fun p hp => h.lt p (List.mem_of_mem_eraseIdx hp), ?_, ?_, by omega⟩
  · rw [el]
    have hp := h.pm
    rw [o2] at hp
    have e1 : (lf.map (mkp ticks)).eraseIdx j = (lf.eraseIdx j).map (mkp ticks) := by
      clear hp o1 o2 o3 e ne el
      clear h
      induction lf generalizing j with
      | nil => simp
      | cons x l ih =>
        cases j with
        | zero => rfl
        | succ j => exact congrArg _ (ih hj)
    rw [← e1]
    exact erase_next (by rw [List.getElem?_map, hj]; rfl) hp
  · rw [el, List.take_add_one, o1, List.map_append, ← h.sel]
    unfold nI
    rw [List.map_append]
    rfl
theorem Chosen.done {ticks : List Int} {c : Nat} {lf rs : List Nat} (h : Chosen ticks c lf rs) (hd : lf = [] ∨ c ≤ rs.length) : nI rs = ((ordM ticks).take c).map (·.2) := by
  have hl := h.len
  have hle := h.le
  rw [h.sel]
  rcases hd with rfl | hd
  · have : rs.length = ticks.length := by simpa using hl
    rw [List.take_of_length_le (by rw [ord_len]; omega), List.take_of_length_le (by rw [ord_len]; omega)]
  · rw [show rs.length = c by omega]
theorem Chosen.sorted {ticks : List Int} {c : Nat} {lf rs : List Nat} (h : Chosen ticks c lf rs) (hd : lf = [] ∨ c ≤ rs.length) : srt (nI rs) = nI (grM ticks c) := by rw [h.done hd, nI_grM]
theorem Chosen.mem {ticks : List Int} {c : Nat} {lf rs : List Nat} (h : Chosen ticks c lf rs) (hd : lf = [] ∨ c ≤ rs.length) {p : Nat} : p ∈ rs ↔ p ∈ grM ticks c := by
  rw [← nI_mem, ← nI_mem (r := grM ticks c), ← h.sorted hd, (srt_perm _).mem_iff]
end Pu
namespace Pu
open PySem L2 Rb Gm
/-! ## people exclude an end: no plan keeps it -/
/-! ## the least finish -/
def lfin (wk rd : Int) (bs starts : List Int) : Int := maxL (rtk wk rd (countsM bs) starts bs.length)
end Pu
namespace Pu
open PySem L2 Rb Gm
theorem PlanOk.set {bs : List Int} {n : Nat} {plan : List (List Nat)} {sp : Nat} {r r' : List Nat} (ok : PlanOk bs n plan) (hr : plan[sp]? = some r) (h1 : r'.Pairwise (· < ·)) (h2 : ∀ p ∈ r', p < n) (h3 : r'.length = r.length) : PlanOk bs n (plan.set sp r') := by
  have el : ∀ i, ((plan.set sp r').getD i []).length = (plan.getD i []).length := fun i => by
    rw [List.getD_eq_getElem?_getD, List.getD_eq_getElem?_getD, List.getElem?_set]
    split
    · rename_i e
      subst e
      rw [hr, if_pos (List.getElem?_eq_some_iff.mp hr).1]
      exact h3
    · rfl
  refine ⟨by rw [List.length_set]; exact ok.len, ok.nn, fun x hx => ?_, fun x hx => ?_, fun i => ?_⟩
  · rcases List.mem_or_eq_of_mem_set hx with h | rfl
    · exact ok.asc x h
    · exact h1
  · rcases List.mem_or_eq_of_mem_set hx with h | rfl
    · exact ok.lt x h
    · exact h2
  · rw [el, el]
    exact ok.few i
end Pu
namespace Pu
open PySem L2 Rb Gm
/-! ## the other draws: a state of cells and rests -/
def stateS (cs rs : List Int) (n : Int) : Sto := [.lst (rs.map D.int), .lst [.lst false (cs.map D.int), .int n, .cell 0]]
def Nk (S : Sto) (N : Int) (T : Sto) : Prop := ∃ cs rs n, S = stateS cs rs n ++ T ∧ 1 ≤ cs.length ∧ cs.length ≤ 64 ∧ rs.length = cs.length ∧ (∀ x ∈ cs, 0 ≤ x) ∧ (∀ x ∈ rs, 0 ≤ x) ∧ 0 ≤ n ∧ n ≤ N
theorem Nk.le {S : Sto} {N M : Int} {T : Sto} (h : Nk S N T) (e : N ≤ M) : Nk S M T := by
  obtain ⟨cs, rs, n, h1, h2, h3, h4, h5, h6, h7, h8⟩ := h
  exact ⟨cs, rs, n, h1, h2, h3, h4, h5, h6, h7, by omega⟩
theorem next_ok {S T : Sto} {N lim : Int} {Q : QD} {E : ED} (h : Nk S N T) (hN : N ≤ 1000000) (h1 : 1 ≤ lim) (h2 : lim ≤ 1000000000) (q : ∀ r S', 0 ≤ r → r < lim → Nk S' (N + 1) T → Q (.int r) S') : F_law_next [.cell 1, .int lim] S Q E := by
  obtain ⟨cs, rs, n, rfl, c1, c2, hl, hc, hr, n0, n1⟩ := h
  unfold F_law_next
  have cml : (cs.map D.int).length = cs.length := List.length_map ..
  have y0 : 0 ≤ n % ((cs.map D.int).length : Int) := Int.emod_nonneg _ (by omega)
  have y1 : n % ((cs.map D.int).length : Int) < ((cs.map D.int).length : Int) := Int.emod_lt_of_pos _ (by omega)
  obtain ⟨j, hj⟩ : ∃ j : Nat, n % ((cs.map D.int).length : Int) = (j : Int) := ⟨_, (Int.toNat_of_nonneg y0).symm⟩
  rw [hj] at y0 y1
  have jc : j < cs.length := by omega
  have jr : j < rs.length := by omega
  have ar : atI (rs.map D.int) (n % ((cs.map D.int).length : Int)) = some (.int rs[j]) := by
    rw [hj]
    exact atI_nat (j := j) (by rw [List.getElem?_map, List.getElem?_eq_getElem jr]; rfl)
  have ac : atI (cs.map D.int) (n % ((cs.map D.int).length : Int)) = some (.int cs[j]) := by
    rw [hj]
    exact atI_nat (j := j) (by rw [List.getElem?_map, List.getElem?_eq_getElem jc]; rfl)
  have rj0 := hr _ (List.getElem_mem jr)
  have cj0 := hc _ (List.getElem_mem jc)
  refine ⟨rfl, rfl, by show 0 < ((cs.map D.int).length : Int); omega, ?_⟩
  refine onS ar ?_
  refine ifB (fun hb => ?_) fun hb => ?_
  · refine onS ar ⟨by show 0 < lim; omega, onS ar ⟨wide_div (b := 30) (by omega) (by omega) (by decide) (by decide), onS (a := j) ?_ ?_⟩⟩
    · show ixN (rs.map D.int).length (n % ((cs.map D.int).length : Int)) = some j
      rw [hj]
      unfold ixN
      rw [if_pos (by omega), if_pos (by rw [List.length_map]; omega), Int.toNat_natCast]
    · have em : (rs.map D.int).set j (D.int (rs[j] / lim)) = (rs.set j (rs[j] / lim)).map D.int := List.map_set.symm
      show Q (.int (rs[j] % lim)) (Cl.lst ((rs.map D.int).set j (D.int (rs[j] / lim))) :: Cl.lst [.lst false (cs.map D.int), .int (n + 1), .cell 0] :: T)
      rw [em]
      refine q _ _ (Int.emod_nonneg _ (by omega)) (Int.emod_lt_of_pos _ (by omega)) ⟨cs, rs.set j (rs[j] / lim), n + 1, rfl, c1, c2, by rw [List.length_set]; exact hl, hc, fun x hx => ?_, by omega, by omega⟩
      rcases List.mem_or_eq_of_mem_set hx with z | rfl
      · exact hr x z
      · exact Int.ediv_nonneg rj0 (by omega)
  · refine onS ac ?_
    generalize cs[j] = x at cj0
    have a1 := Int.emod_nonneg x (show (2147483629 : Int) ≠ 0 by decide)
    have a2 := Int.emod_lt_of_pos x (show (0 : Int) < 2147483629 by decide)
    have fin : ∀ m : Int, 0 ≤ m → Q (.int (m % lim)) (stateS cs rs (n + 1) ++ T) := fun m _ => q _ _ (Int.emod_nonneg _ (by omega)) (Int.emod_lt_of_pos _ (by omega)) ⟨cs, rs, n + 1, rfl, c1, c2, hl, hc, hr, by omega, by omega⟩
    refine ⟨by show (0 : Int) < _; decide, .inl (.inl ⟨by decide, by decide⟩), ⟨by decide, by decide, ?_⟩, by show (0 : Int) < _; decide, ?_⟩
    · show (x % 2147483629 + 40037 * n + 9203).natAbs < 2 ^ 64
      omega
    show gN 7 (D.int ((x % 2147483629 + 40037 * n + 9203) ^ (3 : Int).toNat % 2147483587)) _ _ _ _
    generalize hm1 : (x % 2147483629 + 40037 * n + 9203) ^ (3 : Int).toNat % 2147483587 = mm
    have b1 : 0 ≤ mm := by rw [← hm1]; exact Int.emod_nonneg _ (by decide)
    have b2 : mm < 2147483587 := by rw [← hm1]; exact Int.emod_lt_of_pos _ (by decide)
    have sq : 0 ≤ 5039 * n * n ∧ 5039 * n * n ≤ 5039000000 * 1000000 := ⟨Int.mul_nonneg (by omega) n0, Int.mul_le_mul (by omega) (by omega) n0 (by decide)⟩
    refine ⟨.inl (.inl ⟨by decide, by decide⟩), .inl (.inr ⟨by omega, by omega⟩), ⟨by decide, by decide, ?_⟩, by show (0 : Int) < _; decide, ?_⟩
    · show (mm + 5039 * n * n + 43).natAbs < 2 ^ 64
      generalize 5039 * n * n = s at sq
      omega
    show gN 7 (D.int ((mm + 5039 * n * n + 43) ^ (3 : Int).toNat % 2147483563)) _ _ _ _
    generalize hm2 : (mm + 5039 * n * n + 43) ^ (3 : Int).toNat % 2147483563 = m2
    have d1 : 0 ≤ m2 := by rw [← hm2]; exact Int.emod_nonneg _ (by decide)
    have d2 : m2 < 2147483563 := by rw [← hm2]; exact Int.emod_lt_of_pos _ (by decide)
    refine ⟨.inl (.inl ⟨by omega, by omega⟩), by show (0 : Int) < _; decide, wide_div (b := 30) (by decide) (by decide) (by decide) (by decide), by show 0 < lim; omega, ?_⟩
    exact fin _ (Int.ediv_nonneg (Int.emod_nonneg _ (by decide)) (by decide))
end Pu
namespace Pu
open PySem L2 Rb Gm
def restD : D → D
  | .int c => .int (c * if decide (10 ^ 18 ≤ c) = true then 1 else 0)
  | d => d
theorem state_ok {ns : List Int} {Q : QD} {E : ED} (q : ∀ S, Nk S 0 [] → Q (.cell 1) S) : F_law_draws [.kls (ns.map D.int)] [] Q E := by
  unfold F_law_draws
  refine ⟨rfl, ?_⟩
  have e : cutD (ns.map D.int) none (some 63) = (ns.take 63).map D.int := by
    rw [show (63 : Int) = ((63 : Nat) : Int) from rfl, cut_to, List.map_take]
  show (cutD (ns.map D.int) none (some 63)).length ≤ sizeLine ∧ dCompL (st1 2) dYes (dB gAbs (dCons (dVar 2) dNil)) [] (cutD (ns.map D.int) none (some 63)) [] _ [] _
  rw [e]
  refine ⟨szd (by rw [List.length_map, List.length_take]; omega), ?_⟩
  refine comp_map (src := []) (g := fun d => match d with | .int i => .int (absI i) | d => d) (fun _ p => p) _ [] ?_ ?_
  · intro x hx
    obtain ⟨i, _, rfl⟩ := List.mem_map.mp hx
    exact ⟨_, rfl, fun Q q => q⟩
  rw [List.nil_append, List.map_map]
  have ea : (ns.take 63).map ((fun d => match d with | .int i => .int (absI i) | d => d) ∘ D.int) = ((ns.take 63).map absI).map D.int := by
    rw [List.map_map]
    rfl
  rw [ea]
  have al : ((ns.take 63).map absI).length ≤ 63 := by rw [List.length_map, List.length_take]; omega
  have an : ∀ x ∈ (ns.take 63).map absI, 0 ≤ x := fun x hx => by
    obtain ⟨i, _, rfl⟩ := List.mem_map.mp hx
    exact absI_nn i
  have a0 : ns.length ≠ 0 → 1 ≤ ((ns.take 63).map absI).length := fun h => by rw [List.length_map, List.length_take]; omega
  generalize (ns.take 63).map absI = as at al an a0
  refine ⟨szr rfl, eq_int ?_⟩
  have kl : (ns.map D.int).length = ns.length := List.length_map ..
  have fin : ∀ cs : List Int, 1 ≤ cs.length → cs.length ≤ 64 → (∀ x ∈ cs, 0 ≤ x) → (dRet (dLstC (dCons (dVar 1) (dCons (dC (.int 0)) (dCons (dLcC (st1 2) dYes (dBin gMul (dVar 2) (dB gToInt (dCons (dBin gGe (dVar 2) (dBin gPow (dC (.int 10)) (dC (.int 18)))) dNil))) (dItS (dVar 1))) dNil))))) [some (.kls (ns.map D.int)), some (.lst false (cs.map D.int)), none] [] { nx := fun _ S' => Q .non S', rt := Q, bk := fun _ _ => False, ct := fun _ _ => False } noE := fun cs c1 c2 hc => by
    refine ⟨szd (by show (cs.map D.int).length ≤ 100000; rw [List.length_map]; omega), comp_map (src := []) (g := restD) (fun _ p => p) (cs.map D.int) [] (fun x hx => ?_) ⟨szr rfl, ?_⟩⟩
    · obtain ⟨c, hcm, rfl⟩ := List.mem_map.mp hx
      refine ⟨_, rfl, fun Q' q' => ⟨⟨by decide, by decide, by decide⟩, ⟨.inl (.inr ?_), q'⟩⟩⟩
      show -2 ^ 64 < (if decide ((10 : Int) ^ (18 : Int).toNat ≤ c) = true then (1 : Int) else 0) ∧ (if decide ((10 : Int) ^ (18 : Int).toNat ≤ c) = true then (1 : Int) else 0) < 2 ^ 64
      split <;> decide
    · refine q _ ⟨cs, cs.map fun c => c * if decide ((10 : Int) ^ 18 ≤ c) = true then 1 else 0, 0, ?_, c1, c2, by rw [List.length_map], hc, fun x hx => ?_, by decide, by decide⟩
      · show [Cl.lst _, Cl.lst _] = [Cl.lst _, Cl.lst _]
        rw [List.nil_append, List.map_map, List.map_map]
        rfl
      · obtain ⟨c, hcm, rfl⟩ := List.mem_map.mp hx
        have := hc c hcm
        show 0 ≤ c * if decide ((10 : Int) ^ 18 ≤ c) = true then 1 else 0
        split <;> omega
  by_cases z : ns.length = 0
  · have ez : decide (((ns.map D.int).length : Int) = 0) = true := decide_eq_true (by omega)
    rw [ez]
    refine ⟨⟨by decide, by decide, szr rfl⟩, szd (by show (as.map D.int).length + 1 ≤ 100000; rw [List.length_map]; omega), ?_⟩
    have f := fin (as ++ [0]) (by rw [List.length_append]; simp) (by rw [List.length_append]; simp; omega) fun x hx => by
      rcases List.mem_append.mp hx with h | h
      · exact an x h
      · rw [List.mem_singleton.mp h]
        exact Int.le_refl _
    rw [List.map_append] at f
    exact f
  · have ez : decide (((ns.map D.int).length : Int) = 0) = false := decide_eq_false (by omega)
    rw [ez]
    refine ⟨⟨by decide, by decide, szr rfl⟩, szd (by show (as.map D.int).length + 0 ≤ 100000; rw [List.length_map]; omega), ?_⟩
    have f := fin as (a0 z) (by omega) an
    rw [← List.append_nil (as.map D.int)] at f
    exact f
end Pu
namespace Pu
open PySem L2 Rb Gm
theorem Nk.cut {S : Sto} {N : Int} {T : Sto} {c : Cl} (h : Nk S N (T ++ [c])) : ∃ A, S = A ++ [c] ∧ A.length = 2 + T.length ∧ ∀ d, Nk (A ++ [d]) N (T ++ [d]) := by
  obtain ⟨cs, rs, n, rfl, h⟩ := h
  exact ⟨stateS cs rs n ++ T, by rw [List.append_assoc], by rw [List.length_append]; rfl, fun d => ⟨cs, rs, n, by rw [List.append_assoc], h⟩⟩
theorem Nk.len {S : Sto} {N : Int} {T : Sto} (h : Nk S N T) : S.length = 2 + T.length := by
  obtain ⟨cs, rs, n, rfl, _⟩ := h
  rw [List.length_append]
  rfl
theorem Nk.snoc {S : Sto} {N : Int} {T : Sto} (h : Nk S N T) (c : Cl) : Nk (S ++ [c]) N (T ++ [c]) := by
  obtain ⟨cs, rs, n, rfl, h⟩ := h
  exact ⟨cs, rs, n, by rw [List.append_assoc], h⟩
theorem Nk.take2 {S : Sto} {N : Int} {T : Sto} (h : Nk S N T) : Nk (S.take 2) N [] ∧ S.drop 2 = T ∧ (S.take 2).all (Cl.below 2) = true ∧ (S.take 2).length = 2 := by
  obtain ⟨cs, rs, n, rfl, h⟩ := h
  refine ⟨⟨cs, rs, n, rfl, h⟩, rfl, ?_, rfl⟩
  show (belowAll 2 (rs.map D.int) && ((belowAll 2 (cs.map D.int) && (true && (true && true))) && true)) = true
  rw [below_ints, below_ints]
  rfl
theorem Nk.bel {S T : Sto} {N : Int} (h : Nk S N T) : (S.take 2).all (Cl.below 2) = true := h.take2.2.2.1
theorem Nk.app {S T : Sto} {N : Int} (h : Nk S N []) : Nk (S ++ T) N T := by
  obtain ⟨cs, rs, n, rfl, h⟩ := h
  exact ⟨cs, rs, n, by rw [List.append_nil], h⟩
theorem Nk.l2 {S T S1 : Sto} {N : Int} (h : Nk S N T) (l : S1.length = 2) : S1.length = (S.take 2).length := l.trans h.take2.2.2.2.symm
theorem Nk.back {S T S1 : Sto} {N M : Int} (h : Nk S N T) (d : Nk S1 M []) : Nk (S1 ++ S.drop 2) M T := by
  rw [h.take2.2.1]
  exact d.app
theorem ret3 {S S' T : Sto} {N : Int} {d : D} {Q : QD} (hS : S.length = 2) (dk : Nk S' N T) (hb : ∃ d', frz S' 2 d = some d' ∧ ∀ S2, Nk S2 N [] → S2.length = 2 → Q d' S2) :
    ((S'.take S.length).length = S.length ∧ (S'.take S.length).all (Cl.below S.length) = true) ∧ onSome (frz S' S.length d) fun d' => Q d' (S'.take S.length) := by
  rw [hS]
  obtain ⟨d1, d2, d3, d4⟩ := dk.take2
  obtain ⟨d', e, q⟩ := hb
  exact ⟨⟨d4, d3⟩, onS e (q _ d1 d4)⟩
end Pu
namespace Pu
open PySem L2 Rb
structure Gv (k n : Nat) (v : D) : Prop where
  py : ∃ p, toPy v = some p ∧ Rb.Nice k n p
  kn : known v = true
  bl : below 0 v = true
  nx : noX v = true
theorem Gv.isS {k n : Nat} {v : D} (h : Gv k n v) : (toPy v).isSome = true := by
  obtain ⟨p, e, _⟩ := h.py
  rw [e]
  rfl
theorem Gv.mono {k n k' n' : Nat} {v : D} (h : Gv k n v) (h1 : k ≤ k') (h2 : n ≤ n') : Gv k' n' v := by
  obtain ⟨p, e, hp⟩ := h.py
  exact ⟨⟨p, e, hp.mono h1 h2⟩, h.kn, h.bl, h.nx⟩
theorem Gv.rep {k n : Nat} {v : D} {S : Sto} {Q : QD} (h : Gv k n v) (q : Q (.str (shw v)) S) (hk : k ≤ 20 := by decide) (hn : n ≤ 100000 := by decide) : iRepr [v] S Q := by
  obtain ⟨p, e, hp⟩ := h.py
  unfold shw at q
  rw [e] at q
  exact iRepr_of (onS e ⟨⟨hp.mono hk hn, .inr h.kn⟩, q⟩)
theorem gvs_all {k n : Nat} : ∀ {xs : List D}, (∀ x ∈ xs, Gv k n x) → (∃ ps, toPyAll xs = some ps ∧ ps.length = xs.length ∧ ∀ p ∈ ps, Rb.Nice k n p) ∧ knownAll xs = true ∧ belowAll 0 xs = true ∧ noXs xs = true
  | [], _ => ⟨⟨[], rfl, rfl, fun p h => absurd h List.not_mem_nil⟩, rfl, rfl, rfl⟩
  | x :: xs, h => by
    obtain ⟨⟨ps, e, l, hp⟩, a, b, c⟩ := gvs_all (xs := xs) fun y hy => h y (List.mem_cons_of_mem _ hy)
    have hx := h x List.mem_cons_self
    obtain ⟨p, ep, np⟩ := hx.py
    refine ⟨⟨p :: ps, ?_, by rw [List.length_cons, List.length_cons, l], fun y hy => ?_⟩, ?_, ?_, ?_⟩
    · show (toPy x).bind _ = _
      rw [ep, e]
      rfl
    · rcases List.mem_cons.mp hy with rfl | hy
      · exact np
      · exact hp y hy
    · show (known x && knownAll xs) = true
      rw [hx.kn, a]
      rfl
    · show (below 0 x && belowAll 0 xs) = true
      rw [hx.bl, b]
      rfl
    · show (noX x && noXs xs) = true
      rw [hx.nx, c]
      rfl
theorem Gv.tup {k n m : Nat} {xs : List D} (h : ∀ x ∈ xs, Gv k n x) (hm : xs.length * (n + 1) ≤ m) : Gv (k + 1) m (.tup xs) := by
  obtain ⟨⟨ps, e, l, hp⟩, a, b, c⟩ := gvs_all h
  refine ⟨⟨.tuple ps, ?_, Rb.Nice.tup hp (by rw [l]; exact hm)⟩, a, b, c⟩
  show (toPyAll xs).map _ = _
  rw [e]
  rfl
theorem Gv.lst {k n m : Nat} {xs : List D} (h : ∀ x ∈ xs, Gv k n x) (hm : xs.length * (n + 1) ≤ m) : Gv (k + 1) m (.lst true xs) := by
  obtain ⟨⟨ps, e, l, hp⟩, a, b, c⟩ := gvs_all h
  refine ⟨⟨.list ps, ?_, Rb.Nice.lst hp (by rw [l]; exact hm)⟩, a, b, c⟩
  show (toPyAll xs).map _ = _
  rw [e]
  rfl
theorem Gv.int {i : Int} (h : i.natAbs < 10 ^ 99) : Gv 0 0 (.int i) := ⟨⟨_, rfl, Rb.Nice.int h⟩, rfl, rfl, rfl⟩
theorem Gv.ints {ns : List Int} (h : ∀ i ∈ ns, 0 ≤ i ∧ i ≤ 10000000) (l : ns.length ≤ 30) : Gv 1 30 (.tup (ns.map D.int)) := Gv.tup (k := 0) (n := 0) (fun x hx => by
  obtain ⟨i, hi, rfl⟩ := List.mem_map.mp hx
  exact Gv.int (Nat.lt_of_lt_of_le (show i.natAbs < 100000000 by have := h i hi; omega) (by decide))) (by rw [List.length_map]; omega)
theorem pyAll_some : ∀ {xs : List D} {ps : List PyData}, toPyAll xs = some ps → ∀ x ∈ xs, (toPy x).isSome = true
  | [], _, _, x, h => absurd h List.not_mem_nil
  | y :: xs, ps, e, x, h => by
    have e : (toPy y).bind (fun z => (toPyAll xs).map (z :: ·)) = some ps := e
    obtain ⟨z, ez, e⟩ := Option.bind_eq_some_iff.mp e
    obtain ⟨zs, ezs, rfl⟩ := Option.map_eq_some_iff.mp e
    rcases List.mem_cons.mp h with rfl | h
    · rw [ez]; rfl
    · exact pyAll_some ezs x h
theorem tup_some {xs : List D} (h : (toPy (.tup xs)).isSome = true) : ∀ x ∈ xs, (toPy x).isSome = true := by
  obtain ⟨p, e⟩ := Option.isSome_iff_exists.mp h
  obtain ⟨ps, e2, _⟩ := Option.map_eq_some_iff.mp (show (toPyAll xs).map PyData.tuple = some p from e)
  exact pyAll_some e2
def isSt : D → Bool
  | .tup xs => (decide (1 ≤ xs.length) && decide (xs.length ≤ 10)) && xs.all (isNum 0 1000000)
  | _ => false
theorem isstarts_ok {v : D} {S : Sto} {Q : QD} {E : ED} (h : (toPy v).isSome = true) (q : Q (.bl (isSt v)) S) : F_is_starts [v] S Q E := by
  unfold F_is_starts
  refine ⟨rfl, ?_⟩
  cases v with
  | tup xs =>
    have hs := tup_some h
    by_cases c : 1 ≤ xs.length ∧ xs.length ≤ 10
    · have e1 : isSt (.tup xs) = xs.all (isNum 0 1000000) := by
        show ((decide (1 ≤ xs.length) && decide (xs.length ≤ 10)) && _) = _
        rw [decide_eq_true c.1, decide_eq_true c.2]
        rfl
      rw [e1] at q
      refine ifT (b := decide ((1 : Int) ≤ (xs.length : Int))) (decide_eq_true (by omega)) ?_
      refine ifF (b := !decide ((xs.length : Int) ≤ 10)) (by rw [decide_eq_true (by omega)]; rfl) ?_
      refine for_inv (src := []) xs (fun i ρ S' => S' = S ∧ (∃ y, ρ = [some (.tup xs), y]) ∧ ∀ x ∈ xs.take i, isNum 0 1000000 x = true) ⟨rfl, ⟨_, rfl⟩, fun x hx => by rw [List.take_zero] at hx; exact absurd hx List.not_mem_nil⟩ ?_ ?_
      · rintro i x ρ S' K hx hK ⟨rfl, ⟨y, rfl⟩, ht⟩
        refine number_ok (hs x (List.mem_of_getElem? hx)) ?_
        cases hn : isNum 0 1000000 x with
        | false =>
          rw [show xs.all (isNum 0 1000000) = false from List.all_eq_false.mpr ⟨x, List.mem_of_getElem? hx, by rw [hn]; decide⟩] at q
          exact q
        | true =>
          refine hK _ _ ⟨rfl, ⟨_, rfl⟩, fun z hz => ?_⟩
          rw [List.take_add_one, hx] at hz
          rcases List.mem_append.mp hz with h | h
          · exact ht z h
          · rw [List.mem_singleton.mp h]
            exact hn
      · rintro ρ S' ⟨rfl, ⟨y, rfl⟩, ht⟩
        rw [List.take_length] at ht
        rw [show xs.all (isNum 0 1000000) = true from List.all_eq_true.mpr ht] at q
        exact q
    · have e1 : isSt (.tup xs) = false := by
        show ((decide (1 ≤ xs.length) && decide (xs.length ≤ 10)) && _) = _
        rw [show (decide (1 ≤ xs.length) && decide (xs.length ≤ 10)) = false by
          rw [← Bool.decide_and]
          exact decide_eq_false c]
        rfl
      rw [e1] at q
      by_cases d : 1 ≤ xs.length
      · refine ifT (b := decide ((1 : Int) ≤ (xs.length : Int))) (decide_eq_true (by omega)) ?_
        exact ifT (b := !decide ((xs.length : Int) ≤ 10)) (by rw [decide_eq_false (by omega)]; rfl) q
      · exact ifF (b := decide ((1 : Int) ≤ (xs.length : Int))) (decide_eq_false (by omega)) q
  | cell _ => cases h
  | glo _ => cases h
  | ty _ => cases h
  | ins _ _ => cases h
  | exc _ _ => cases h
  | kls _ => cases h
  | _ => exact q
end Pu
namespace Pu
open PySem L2 Rb
theorem nums_intsB : ∀ {xs : List D}, (∀ x ∈ xs, isNum 0 1000000 x = true) → ∃ ns : List Int, xs = ns.map D.int ∧ ∀ i ∈ ns, 0 ≤ i ∧ i ≤ 1000000
  | [], _ => ⟨[], rfl, fun i h => absurd h List.not_mem_nil⟩
  | x :: xs, c => by
    obtain ⟨ns, rfl, hn⟩ := nums_intsB (xs := xs) fun y hy => c y (List.mem_cons_of_mem _ hy)
    have hx := c x List.mem_cons_self
    cases x with
    | int i =>
      have hx : (decide (0 ≤ i) && decide (i ≤ 1000000)) = true := hx
      rw [Bool.and_eq_true] at hx
      refine ⟨i :: ns, rfl, fun j hj => ?_⟩
      rcases List.mem_cons.mp hj with rfl | hj
      · exact ⟨of_decide_eq_true hx.1, of_decide_eq_true hx.2⟩
      · exact hn j hj
    | _ => cases hx
theorem isSt_ints {v : D} (h : isSt v = true) : ∃ ns : List Int, v = .tup (ns.map D.int) ∧ 1 ≤ ns.length ∧ ns.length ≤ 10 ∧ ∀ i ∈ ns, 0 ≤ i ∧ i ≤ 1000000 := by
  cases v with
  | tup xs =>
    have h : ((decide (1 ≤ xs.length) && decide (xs.length ≤ 10)) && xs.all (isNum 0 1000000)) = true := h
    rw [Bool.and_eq_true, Bool.and_eq_true] at h
    obtain ⟨⟨a, b⟩, c⟩ := h
    have a := of_decide_eq_true a
    have b := of_decide_eq_true b
    have c := List.all_eq_true.mp c
    have this := nums_intsB c
    obtain ⟨ns, rfl, hn⟩ := this
    rw [List.length_map] at a b
    exact ⟨ns, rfl, a, b, hn⟩
  | _ => cases h
theorem isSt_of {ns : List Int} (a : 1 ≤ ns.length) (b : ns.length ≤ 10) (c : ∀ i ∈ ns, 0 ≤ i ∧ i ≤ 1000000) : isSt (.tup (ns.map D.int)) = true := by
  show ((decide (1 ≤ (ns.map D.int).length) && decide ((ns.map D.int).length ≤ 10)) && (ns.map D.int).all (isNum 0 1000000)) = true
  rw [List.length_map, decide_eq_true a, decide_eq_true b]
  refine List.all_eq_true.mpr fun x hx => ?_
  obtain ⟨i, hi, rfl⟩ := List.mem_map.mp hx
  show (decide (0 ≤ i) && decide (i ≤ 1000000)) = true
  rw [decide_eq_true (c i hi).1, decide_eq_true (c i hi).2]
  rfl
def ptyF (ns : List Int) : List (Str × D) := [("given", .tup (ns.map D.int)), ("ordered", .tup ((srt ns).map D.int))]
theorem party_init {v : D} {S : Sto} {k : Nat} {Q : QD} {E : ED} (hv : (toPy v).isSome = true) (hk : S[k]? = some (.ins "Party" [])) (q1 : ∀ ns, v = .tup (ns.map D.int) → isSt v = true → Q .non (S.set k (.ins "Party" (ptyF ns)))) (q2 : isSt v = false → E ("BadStarts", [("value", v)]) S) : F_Party_init [.cell k, v] S Q E := by
  unfold F_Party_init
  refine ⟨rfl, isstarts_ok hv ?_⟩
  cases h : isSt v with
  | false => exact q2 h
  | true =>
    obtain ⟨ns, rfl, _, _, _⟩ := isSt_ints h
    have kl : k < S.length := (List.getElem?_eq_some_iff.mp hk).1
    have ci : cellIns S (.cell k) = some (k, ("Party" : Str), ([] : List (Str × D))) := by
      show (insAt S[k]?).map _ = _
      rw [hk]
      rfl
    refine onS ci ⟨⟨rfl, by show 0 ≤ 500; decide⟩, ?_⟩
    refine onS (intsOf_map ns) ?_
    have ci2 : cellIns (S.set k (.ins "Party" [("given", .tup (ns.map D.int))])) (.cell k) = some (k, ("Party" : Str), ([("given", .tup (ns.map D.int))] : List (Str × D))) := by
      show (insAt (S.set k (.ins "Party" [("given", .tup (ns.map D.int))]))[k]?).map _ = _
      rw [List.getElem?_set_self kl]
      rfl
    refine onS ci2 ⟨⟨rfl, by show 1 ≤ 500; decide⟩, ?_⟩
    have := q1 ns rfl h
    show Q .non ((S.set k (.ins "Party" [("given", .tup (ns.map D.int))])).set k (.ins "Party" (ptyF ns)))
    rw [List.set_set]
    exact this
theorem ins_cell {S : Sto} {k : Nat} {x : Str} {fs : List (Str × D)} (h : S[k]? = some (.ins x fs)) : insOf S (.cell k) = some (x, fs) := by
  show insAt S[k]? = _
  rw [h]
  rfl
theorem starts_ok27 {ns : List Int} {S : Sto} {k : Nat} {Q : QD} {E : ED} (hk : S[k]? = some (.ins "Party" (ptyF ns))) (q : Q (.tup (ns.map D.int)) S) : F_Party_starts [.cell k] S Q E := by
  unfold F_Party_starts
  exact ⟨rfl, onS (ins_cell hk) ⟨rfl, q⟩⟩
end Pu
namespace Pu
open PySem L2 Rb Gm
/-! ## parties, races, trips: what their defs give -/
/-- starts as a party takes them -/
structure Sts (ns : List Int) : Prop where
  n1 : 1 ≤ ns.length
  n2 : ns.length ≤ 10
  sb : ∀ s ∈ ns, 0 ≤ s ∧ s ≤ 1000000
theorem Sts.nn {ns : List Int} (h : Sts ns) : ∀ s ∈ ns, 0 ≤ s := fun s hs => (h.sb s hs).1
theorem Sts.is {ns : List Int} (h : Sts ns) : isSt (.tup (ns.map D.int)) = true := isSt_of h.n1 h.n2 h.sb
theorem Sts.py {ns : List Int} : (toPy (.tup (ns.map D.int))).isSome = true := by
  show ((toPyAll (ns.map D.int)).map PyData.tuple).isSome = true
  rw [py_ints]
  rfl
section
variable {S : Sto} {k : Nat} {Q : QD} {E : ED} {ns : List Int}
theorem pty_make (h : Sts ns) (q : Q .non (S ++ [.ins "Party" (ptyF ns)])) : F_Party_init [.cell S.length, .tup (ns.map D.int)] (S ++ [.ins "Party" []]) Q E := by
  refine party_init Sts.py (by rw [List.getElem?_append_right (Nat.le_refl _), Nat.sub_self]; rfl) (fun ms e _ => ?_) fun z => by rw [h.is] at z; cases z
  have : ns = ms := by
    have go : ∀ {l m : List Int}, l.map D.int = m.map D.int → l = m := by
      intro l
      induction l with
      | nil => intro m h; cases m with | nil => rfl | cons _ _ => cases h
      | cons x l ih =>
        intro m h
        cases m with
        | nil => cases h
        | cons y m =>
          obtain ⟨h1, h2⟩ := List.cons.inj h
          rw [D.int.inj h1, ih h2]
    exact go (D.tup.inj e)
  subst this
  rw [show (S ++ [Cl.ins "Party" []]).set S.length (.ins "Party" (ptyF ns)) = S ++ [.ins "Party" (ptyF ns)] from set_last]
  exact q
end
end Pu
namespace Pu
open PySem L2 Rb Gm
/-- what a trip holds -/
def verV (wk rd : Int) (bs ns : List Int) : D := .tup [roadV wk rd bs, .tup (ns.map D.int), .int (lfin wk rd bs ns)]
def trpF (done vs : List D) : List (Str × D) := [("done", .tup done), ("versions", .tup vs), ("watched", .bl false)]
def rcF (wk rd : Int) (bs : List Int) (b : D) : List (Str × D) := [("course", roadV wk rd bs), ("least", b)]
def obD : Option Int → D
  | none => .non
  | some x => .int x
section
variable {S : Sto} {k j : Nat} {Q : QD} {E : ED} {ns ms : List Int} {wk rd : Int} {bs : List Int}
theorem pty_add (hk : S[k]? = some (.ins "Party" (ptyF ns))) (hj : S[j]? = some (.ins "Party" (ptyF ms))) (h : Sts (ns ++ ms)) (q : Q (.cell S.length) (S ++ [.ins "Party" (ptyF (ns ++ ms))])) : F_Party_add [.cell k, .cell j] S Q E := by
  unfold F_Party_add
  refine ⟨rfl, onS (ins_cell hj) (onS (a := true) rfl ?_)⟩
  refine onS (ins_cell hk) ⟨rfl, onS (a := .tup (ns.map D.int)) rfl ?_⟩
  refine onS (ins_cell hj) ⟨rfl, onS (a := .tup (ms.map D.int)) rfl ?_⟩
  have l2 := h.n2
  rw [List.length_append] at l2
  refine ⟨szd (by show (ns.map D.int).length + (ms.map D.int).length ≤ 100000; rw [List.length_map, List.length_map]; omega), ?_⟩
  rw [← List.map_append]
  refine ifF (b := decide ((10 : Int) < (((ns ++ ms).map D.int).length : Int))) (decide_eq_false (by rw [List.length_map, List.length_append]; omega)) ?_
  exact pty_make h ⟨rfl, q⟩
theorem pty_shift {d : Int} (hk : S[k]? = some (.ins "Party" (ptyF ns))) (d0 : 0 ≤ d) (d1 : d ≤ 1000000) (h0 : Sts ns) (h : Sts (ns.map fun s => s + d)) (q : Q (.cell S.length) (S ++ [.ins "Party" (ptyF (ns.map fun s => s + d))])) : F_Party_rshift [.cell k, .int d] S Q E := by
  unfold F_Party_rshift
  refine ⟨rfl, number_ok rfl ?_⟩
  rw [show isNum 0 1000000 (.int d) = true by
    show (decide (0 ≤ d) && decide (d ≤ 1000000)) = true
    rw [decide_eq_true d0, decide_eq_true d1]
    rfl]
  refine onS (ins_cell hk) ⟨rfl, onS (a := .tup (ns.map D.int)) rfl (onS (a := ns.map D.int) rfl ⟨szd (by show (ns.map D.int).length ≤ 100000; rw [List.length_map]; have := h0.n2; omega), ?_⟩)⟩
  refine comp_map (src := []) (g := fun x => match x with | .int i => .int (i + d) | x => x) (fun _ p => p) (ns.map D.int) [] (fun x hx => ?_) ?_
  · obtain ⟨i, hi, rfl⟩ := List.mem_map.mp hx
    exact ⟨_, rfl, fun Q' q' => q'⟩
  rw [List.nil_append, List.map_map]
  have em : ns.map ((fun x => match x with | .int i => D.int (i + d) | x => x) ∘ D.int) = (ns.map fun s => s + d).map D.int := by
    rw [List.map_map]
    rfl
  rw [em]
  generalize hm : (ns.map fun s => s + d) = ms at h q
  refine for_inv (src := []) (ms.map D.int) (fun _ ρ S' => S' = S ∧ ∃ y3, ρ = [some (.cell k), some (.int d), some (.lst false (ms.map D.int)), y3]) ⟨rfl, _, rfl⟩ ?_ ?_
  · rintro i x ρ S' K hx hK ⟨rfl, y3, rfl⟩
    rw [List.getElem?_map] at hx
    obtain ⟨s, hs, rfl⟩ := Option.map_eq_some_iff.mp hx
    have := h.sb s (List.mem_of_getElem? hs)
    exact ifF (b := decide ((1000000 : Int) < s)) (decide_eq_false (by omega)) (hK _ _ ⟨rfl, _, rfl⟩)
  · rintro ρ S' ⟨rfl, y3, rfl⟩
    exact pty_make h ⟨rfl, q⟩
theorem get_new {c : Cl} : (S ++ [c])[S.length]? = some c := by
  rw [List.getElem?_append_right (Nat.le_refl _), Nat.sub_self]
  rfl
end
end Pu
namespace Pu
open PySem L2 Rb Gm
/-! ### cells behind the deck -/
section
variable {S T : Sto} {N : Int}
theorem Dk.get (h : Dk S N T) {j : Nat} {c : Cl} (e : T[j]? = some c) : S[2 + j]? = some c := by
  obtain ⟨cs, n, rfl, _⟩ := h
  show (deckS cs n ++ T)[2 + j]? = _
  rw [List.getElem?_append_right (by show (deckS cs n).length ≤ 2 + j; exact Nat.le_add_right _ _)]
  show T[2 + j - 2]? = _
  rw [Nat.add_sub_cancel_left]
  exact e
end
end Pu
namespace Pu
open PySem L2 Rb Gm
/-- all cells stand as before, but perhaps kr; there may be more -/
structure Ev (kr : Nat) (S S' : Sto) : Prop where
  le : S.length ≤ S'.length
  at_ : ∀ i, i < S.length → i ≠ kr → S'[i]? = S[i]?
section
variable {kr k : Nat} {S S' S2 T T' : Sto} {N N' : Int} {c : Cl}
theorem Ev.refl : Ev kr S S := ⟨Nat.le_refl _, fun _ _ _ => rfl⟩
theorem Ev.trans (a : Ev kr S S') (b : Ev kr S' S2) : Ev kr S S2 := ⟨Nat.le_trans a.le b.le, fun i hi h => (b.at_ i (Nat.lt_of_lt_of_le hi a.le) h).trans (a.at_ i hi h)⟩
theorem Ev.app : Ev kr S (S ++ [c]) := ⟨by rw [List.length_append]; omega, fun i hi _ => List.getElem?_append_left hi⟩
theorem Ev.set : Ev kr S (S.set kr c) := ⟨by rw [List.length_set]; exact Nat.le_refl _, fun i _ h => List.getElem?_set_ne (Ne.symm h)⟩
theorem Ev.get (e : Ev kr S S') (h : S[k]? = some c) (n : k ≠ kr) : S'[k]? = some c := (e.at_ k (List.getElem?_eq_some_iff.mp h).1 n).trans h
theorem Dk.any (h : Dk S N T) {k : Nat} (hk : 2 ≤ k) : S[k]? = T[k - 2]? := by
  obtain ⟨cs, n, rfl, _⟩ := h
  show (deckS cs n ++ T)[k]? = _
  rw [List.getElem?_append_right (show (deckS cs n).length ≤ k from hk)]
  rfl
theorem Dk.same (h : Dk S N T) (h' : Dk S' N' T) (hk : 2 ≤ k) (e : S[k]? = some c) : S'[k]? = some c := by rw [h'.any hk, ← h.any hk, e]
theorem Dk.ev (h : Dk S N T) (e : Ev kr S S') (hk : 2 ≤ kr) : ∃ T', Dk S' N T' := by
  obtain ⟨cs, n, rfl, h⟩ := h
  have dl : (deckS cs n).length = 2 := rfl
  refine ⟨S'.drop 2, cs, n, ?_, h⟩
  have hl : 2 ≤ S'.length := by have := e.le; rw [List.length_append, dl] at this; omega
  have key : S'.take 2 = deckS cs n := by
    refine List.ext_getElem? fun i => ?_
    by_cases hi : i < 2
    · rw [List.getElem?_take_of_lt hi, e.at_ i (by rw [List.length_append, dl]; omega) (by omega), List.getElem?_append_left (by rw [dl]; exact hi)]
    · rw [List.getElem?_eq_none (by rw [List.length_take]; omega), List.getElem?_eq_none (by rw [dl]; omega)]
  rw [← key, List.take_append_drop]
end
section
variable {S : Sto} {kt kp kr : Nat} {wk rd : Int} {bs ns : List Int} {a0 a2 a8 a9 a10 a11 a12 : Option D}
/-- the three objects of a turn -/
structure Obj3 (S : Sto) (kt kp kr : Nat) (wk rd : Int) (bs ns : List Int) (b : Option Int) : Prop where
  R : RoadOk wk rd bs
  st : Sts ns
  tr : S[kt]? = some (.ins "Trip" (trpF [] [verV wk rd bs ns]))
  pt : S[kp]? = some (.ins "Party" (ptyF ns))
  rc : S[kr]? = some (.ins "Race" (rcF wk rd bs (obD b)))
  n1 : kt ≠ kr
  n2 : kp ≠ kr
theorem Obj3.ev {S' : Sto} {b b' : Option Int} (o : Obj3 S kt kp kr wk rd bs ns b) (e : Ev kr S S') (h : S'[kr]? = some (.ins "Race" (rcF wk rd bs (obD b')))) : Obj3 S' kt kp kr wk rd bs ns b' := ⟨o.R, o.st, e.get o.tr o.n1, e.get o.pt o.n2, h, o.n1, o.n2⟩
end
end Pu
namespace Pu
open PySem L2 Rb Gm
/-- more cells, none changed -/
def Gw (S S' : Sto) : Prop := ∃ G, S' = S ++ G
section
variable {S S' S2 : Sto} {k j : Nat} {c : Cl} {Q : QD} {E : ED} {as bs ns : List Int}
theorem Gw.refl : Gw S S := ⟨[], (List.append_nil S).symm⟩
theorem Gw.trans (a : Gw S S') (b : Gw S' S2) : Gw S S2 := by
  obtain ⟨G, rfl⟩ := a
  obtain ⟨G2, rfl⟩ := b
  exact ⟨G ++ G2, List.append_assoc ..⟩
theorem Gw.get (g : Gw S S') (h : S[k]? = some c) : S'[k]? = some c := by
  obtain ⟨G, rfl⟩ := g
  rw [List.getElem?_append_left (List.getElem?_eq_some_iff.mp h).1]
  exact h
theorem Gw.ev {kr : Nat} (g : Gw S S') : Ev kr S S' := by
  obtain ⟨G, rfl⟩ := g
  exact ⟨by rw [List.length_append]; omega, fun i hi _ => List.getElem?_append_left hi⟩
abbrev PtyAt (S : Sto) (k : Nat) (ns : List Int) : Prop := S[k]? = some (.ins "Party" (ptyF ns))
theorem add' (p1 : PtyAt S k as) (p2 : PtyAt S j bs) (h : Sts (as ++ bs)) (q : ∀ S' n, Gw S S' → PtyAt S' n (as ++ bs) → Q (.cell n) S') : F_Party_add [.cell k, .cell j] S Q E := pty_add p1 p2 h (q _ _ ⟨_, rfl⟩ get_new)
theorem shift' {d : Int} (p1 : PtyAt S k ns) (d0 : 0 ≤ d) (d1 : d ≤ 1000000) (h0 : Sts ns) (h : Sts (ns.map fun s => s + d)) (q : ∀ S' n, Gw S S' → PtyAt S' n (ns.map fun s => s + d) → Q (.cell n) S') : F_Party_rshift [.cell k, .int d] S Q E := pty_shift p1 d0 d1 h0 h (q _ _ ⟨_, rfl⟩ get_new)
end
section
variable {S : Sto} {k0 k1 k2 : Nat} {a b c : List Int} {one more : Int}
theorem Sts.app {a b : List Int} (h1 : Sts a) (h2 : Sts b) (l : a.length + b.length ≤ 10) : Sts (a ++ b) := ⟨by rw [List.length_append]; have := h1.n1; omega, by rw [List.length_append]; exact l, fun s hs => by
  rcases List.mem_append.mp hs with hs | hs
  · exact h1.sb s hs
  · exact h2.sb s hs⟩
/-- the three parties of a turn -/
structure Tri (S : Sto) (k0 k1 k2 : Nat) (a b c : List Int) : Prop where
  sa : Sts a
  sb : Sts b
  sc : Sts c
  la : a.length ≤ 5
  lb : b.length ≤ 3
  lc : c.length ≤ 2
  ma : ∀ s ∈ a, s ≤ 500000
  mb : ∀ s ∈ b, s ≤ 500000
  pa : PtyAt S k0 a
  pb : PtyAt S k1 b
  pc : PtyAt S k2 c
theorem Tri.gw {S' : Sto} (t : Tri S k0 k1 k2 a b c) (g : Gw S S') : Tri S' k0 k1 k2 a b c := ⟨t.sa, t.sb, t.sc, t.la, t.lb, t.lc, t.ma, t.mb, g.get t.pa, g.get t.pb, g.get t.pc⟩
variable {a5 a6 : Option D} {Q : Bool → Sto → Prop}
end
end Pu
namespace Pu
open PySem L2 Rb
def oddQ : List D := [.non, .bl true, .bl false, .int (-1), .int 0, .int 1, .int (10 ^ (39 : Int).toNat), .str "", .str "0", .tup [], .lst true [], .dic [], .tup [.int 0], .lst true [.int 0], .tup [.int 1, .bl true], .tup [.tup [.int 1]], .tup [.int 2, .int (-1)]]
theorem gv_dec {v : D} {p : PyData} (e : toPy v = some p) (h : (p.showable && p.leavesShort 100 && decide (p.depth ≤ 2) && decide (p.bulk ≤ 20) && known v && below 0 v && noX v) = true) : Gv 2 20 v := by
  simp only [Bool.and_eq_true, decide_eq_true_eq] at h
  obtain ⟨⟨⟨⟨⟨⟨a, b⟩, c⟩, d⟩, f⟩, g⟩, i⟩ := h
  exact ⟨⟨p, e, ⟨a, b, c, d⟩⟩, f, g, i⟩
theorem oddQ_gv : ∀ d ∈ oddQ, Gv 2 20 d := by
  intro d hd
  unfold oddQ at hd
  simp only [List.mem_cons, List.not_mem_nil, or_false] at hd
  rcases hd with rfl | rfl | rfl | rfl | rfl | rfl | rfl | rfl | rfl | rfl | rfl | rfl | rfl | rfl | rfl | rfl | rfl <;> exact gv_dec rfl (by decide +kernel)
theorem odd27_ok {S T : Sto} {N : Int} {Q : QD} {E : ED} (h : Nk S N T) (hN : N ≤ 900000) (q : ∀ d S', Gv 2 20 d → Nk S' (N + 1) T → Q d S') : F_law_odd_2 [.cell 1] S Q E := by
  unfold F_law_odd_2
  refine ⟨rfl, ⟨by decide, by decide, by decide⟩, szr rfl, szr rfl, szr rfl, szr rfl, szr rfl, szr rfl, szr rfl, szr rfl, szr rfl, ?_⟩
  refine next_ok h (by omega) (by decide) (by decide) fun r S' r0 r1 d1 => ?_
  obtain ⟨d, e, hd⟩ := atI_mem (xs := oddQ) r0 r1
  exact onS e (q d S' (oddQ_gv d hd) d1)
end Pu
namespace Pu
open PySem L2 Rb Gm
/-! ## parties joined and later, with their errors (k28) -/
section
variable {S : Sto} {Q : QD} {E : ED}
theorem word_people (q : Q (.lst true [.str "people"]) S) : F_law_word_2 [.exc "TooManyPeople" []] S Q E := by
  unfold F_law_word_2
  refine ⟨rfl, ?_⟩
  show den_law_word_2 [some (.exc "TooManyPeople" []), none] S _ _
  unfold den_law_word_2
  dsimp only [dSeq, dAsg, dLst, dCons, dNil]
  refine isX_of (b := true) (x := "TooManyPeople") (fs := []) rfl (by decide) ?_
  refine isX_of (b := false) (x := "TooManyPeople") (fs := []) rfl (by decide) ?_
  refine isX_of (b := false) (x := "TooManyPeople") (fs := []) rfl (by decide) ?_
  refine ⟨szr rfl, ?_⟩
  dsimp only [gN, setK]
  dsimp only [dIfS, dOr, dTest, dBin]
  refine ne_int (by decide) ?_
  dsimp only [onBl]
  rw [if_neg (show ¬ nb true true = true by decide)]
  refine isXT_of (b := false) (x := "TooManyPeople") (fs := []) rfl (by decide) ?_
  simp only [onBl, Bool.false_eq_true, if_false]
  dsimp only [dSkip]
  have a1 : atI [D.bl true, .bl false, .bl false] 0 = some (.bl true) := atI_nat (j := 0) rfl
  refine onS (a := .lst true [D.bl true, .bl false, .bl false]) rfl ?_
  dsimp only [dC]
  refine ix_lst a1 ?_
  simp only [onBl, if_true]
  exact ⟨szr rfl, q⟩
theorem word_ticks {v : D} (q : Q (.lst true [.str "ticks", v]) S) : F_law_word_2 [.exc "BadTicks" [("value", v)]] S Q E := by
  unfold F_law_word_2
  refine ⟨rfl, ?_⟩
  show den_law_word_2 [some (.exc "BadTicks" [("value", v)]), none] S _ _
  unfold den_law_word_2
  dsimp only [dSeq, dAsg, dLst, dCons, dNil]
  refine isX_of (b := false) (x := "BadTicks") (fs := [("value", v)]) rfl (by decide) ?_
  refine isX_of (b := true) (x := "BadTicks") (fs := [("value", v)]) rfl (by decide) ?_
  refine isX_of (b := false) (x := "BadTicks") (fs := [("value", v)]) rfl (by decide) ?_
  refine ⟨szr rfl, ?_⟩
  dsimp only [gN, setK]
  dsimp only [dIfS, dOr, dTest, dBin]
  refine ne_int (by decide) ?_
  dsimp only [onBl]
  rw [if_neg (show ¬ nb true true = true by decide)]
  refine isXT_of (b := false) (x := "BadTicks") (fs := [("value", v)]) rfl (by decide) ?_
  simp only [onBl, Bool.false_eq_true, if_false]
  dsimp only [dSkip]
  have a1 : atI [D.bl false, .bl true, .bl false] 0 = some (.bl false) := atI_nat (j := 0) rfl
  have a2 : atI [D.bl false, .bl true, .bl false] 1 = some (.bl true) := atI_nat (j := 1) rfl
  refine onS (a := .lst true [D.bl false, .bl true, .bl false]) rfl ?_
  dsimp only [dC]
  refine ix_lst a1 ?_
  simp only [onBl, Bool.false_eq_true, if_false]
  dsimp only [dRet, dIf, dTest, dBin]
  refine onS (a := .lst true [D.bl false, .bl true, .bl false]) rfl ?_
  dsimp only [dC]
  refine ix_lst a2 ?_
  simp only [onBl, if_true]
  dsimp only [dLst, dCons, dC, dNil]
  exact xf_of (v := v) (x := "BadTicks") (fs := [("value", v)]) rfl (by decide) rfl ⟨szr rfl, q⟩
theorem word_late {v : D} (q : Q (.lst true [.str "late", v]) S) : F_law_word_2 [.exc "TooLate" [("tick", v)]] S Q E := by
  unfold F_law_word_2
  refine ⟨rfl, ?_⟩
  show den_law_word_2 [some (.exc "TooLate" [("tick", v)]), none] S _ _
  unfold den_law_word_2
  dsimp only [dSeq, dAsg, dLst, dCons, dNil]
  refine isX_of (b := false) (x := "TooLate") (fs := [("tick", v)]) rfl (by decide) ?_
  refine isX_of (b := false) (x := "TooLate") (fs := [("tick", v)]) rfl (by decide) ?_
  refine isX_of (b := true) (x := "TooLate") (fs := [("tick", v)]) rfl (by decide) ?_
  refine ⟨szr rfl, ?_⟩
  dsimp only [gN, setK]
  dsimp only [dIfS, dOr, dTest, dBin]
  refine ne_int (by decide) ?_
  dsimp only [onBl]
  rw [if_neg (show ¬ nb true true = true by decide)]
  refine isXT_of (b := false) (x := "TooLate") (fs := [("tick", v)]) rfl (by decide) ?_
  simp only [onBl, Bool.false_eq_true, if_false]
  dsimp only [dSkip]
  have a1 : atI [D.bl false, .bl false, .bl true] 0 = some (.bl false) := atI_nat (j := 0) rfl
  have a2 : atI [D.bl false, .bl false, .bl true] 1 = some (.bl false) := atI_nat (j := 1) rfl
  refine onS (a := .lst true [D.bl false, .bl false, .bl true]) rfl ?_
  dsimp only [dC]
  refine ix_lst a1 ?_
  simp only [onBl, Bool.false_eq_true, if_false]
  dsimp only [dRet, dIf, dTest, dBin]
  refine onS (a := .lst true [D.bl false, .bl false, .bl true]) rfl ?_
  dsimp only [dC]
  refine ix_lst a2 ?_
  simp only [onBl, Bool.false_eq_true, if_false]
  dsimp only [dLst, dCons, dC, dNil]
  exact xf_of (v := v) (x := "TooLate") (fs := [("tick", v)]) rfl (by decide) rfl ⟨szr rfl, q⟩
variable {k j : Nat} {a b : List Int}
theorem add_many (p1 : PtyAt S k a) (p2 : PtyAt S j b) (la : a.length ≤ 10) (lb : b.length ≤ 10) (l : 10 < a.length + b.length) (q : E ("TooManyPeople", []) S) : F_Party_add [.cell k, .cell j] S Q E := by
  unfold F_Party_add
  refine ⟨rfl, onS (ins_cell p2) (onS (a := true) rfl ?_)⟩
  refine onS (ins_cell p1) ⟨rfl, onS (a := .tup (a.map D.int)) rfl ?_⟩
  refine onS (ins_cell p2) ⟨rfl, onS (a := .tup (b.map D.int)) rfl ?_⟩
  refine ⟨szd (by show (a.map D.int).length + (b.map D.int).length ≤ 100000; rw [List.length_map, List.length_map]; omega), ?_⟩
  rw [← List.map_append]
  exact ifT (b := decide ((10 : Int) < (((a ++ b).map D.int).length : Int))) (decide_eq_true (by rw [List.length_map, List.length_append]; omega)) q
/-- what a party, joined with another, is told to be -/
def joinD (a b : List Int) : D := if a.length + b.length ≤ 10 then .tup [tkD (a ++ b), .bl true] else .lst true [.str "people"]
theorem joined28 (p1 : PtyAt S k a) (p2 : PtyAt S j b) (sa : Sts a) (sb : Sts b) (q : ∀ S', Gw S S' → Q (joinD a b) S') : F_law_joined [.cell k, .cell j] S Q E := by
  unfold F_law_joined
  refine ⟨rfl, ?_⟩
  unfold den_law_joined
  by_cases l : a.length + b.length ≤ 10
  · have e : joinD a b = .tup [tkD (a ++ b), .bl true] := if_pos l
    rw [e] at q
    refine onS (ins_cell p1) (onS (ins_cell p2) ⟨rfl, onS (a := F_Party_add) rfl (add' p1 p2 (sa.app sb l) fun S1 n1 g1 p => ?_)⟩)
    show onSome (insOf S1 (.cell n1)) _
    refine onS (ins_cell p) (onS (a := F_Party_starts) rfl (starts_ok27 p ?_))
    refine onS (ins_cell p) (onS (a := true) rfl ⟨szr rfl, q _ g1⟩)
  · have e : joinD a b = .lst true [.str "people"] := if_neg l
    rw [e] at q
    refine onS (ins_cell p1) (onS (ins_cell p2) ⟨rfl, onS (a := F_Party_add) rfl (add_many p1 p2 sa.n2 sb.n2 (by omega) ?_)⟩)
    refine onS (a := true) rfl ?_
    rw [if_pos rfl]
    exact word_people ⟨⟨rfl, rfl⟩, q _ Gw.refl⟩
/-- starts that are too late -/
def great (a : List Int) (d : Int) : List Int := (a.map fun s => s + d).filter fun s => decide (1000000 < s)
def laterD (a : List Int) : D → D
  | .int d => if isNum 0 1000000 (.int d) = true then (match great a d with
    | [] => .tup [tkD (a.map fun s => s + d), .bl true]
    | x :: _ => .lst true [.str "late", .int x]) else .lst true [.str "ticks", .int d]
  | v => .lst true [.str "ticks", v]
theorem laterD_bad {v : D} (h : isNum 0 1000000 v = false) : laterD a v = .lst true [.str "ticks", v] := by
  cases v with
  | int d =>
    show (if isNum 0 1000000 (.int d) = true then _ else _) = _
    rw [if_neg (by rw [h]; decide)]
  | _ => rfl
theorem num_int {v : D} {lo hi : Int} (h : isNum lo hi v = true) : ∃ d, v = .int d ∧ lo ≤ d ∧ d ≤ hi := by
  cases v with
  | int d =>
    have h : (decide (lo ≤ d) && decide (d ≤ hi)) = true := h
    rw [Bool.and_eq_true] at h
    exact ⟨d, rfl, of_decide_eq_true h.1, of_decide_eq_true h.2⟩
  | _ => cases h
theorem shift_bad {v : D} (hv : (toPy v).isSome = true) (h : isNum 0 1000000 v = false) (q : E ("BadTicks", [("value", v)]) S) : F_Party_rshift [.cell k, v] S Q E := by
  unfold F_Party_rshift
  refine ⟨rfl, number_ok hv ?_⟩
  rw [h]
  exact q
theorem shift_late {d x : Int} {r : List Int} (p : PtyAt S k a) (sa : Sts a) (d0 : 0 ≤ d) (d1 : d ≤ 1000000) (h : great a d = x :: r) (q : E ("TooLate", [("tick", .int x)]) S) : F_Party_rshift [.cell k, .int d] S Q E := by
  unfold F_Party_rshift
  refine ⟨rfl, number_ok rfl ?_⟩
  rw [show isNum 0 1000000 (.int d) = true by
    show (decide (0 ≤ d) && decide (d ≤ 1000000)) = true
    rw [decide_eq_true d0, decide_eq_true d1]
    rfl]
  refine onS (ins_cell p) ⟨rfl, onS (a := .tup (a.map D.int)) rfl (onS (a := a.map D.int) rfl ⟨szd (by show (a.map D.int).length ≤ 100000; rw [List.length_map]; have := sa.n2; omega), ?_⟩)⟩
  refine comp_map (src := []) (g := fun x => match x with | .int i => .int (i + d) | x => x) (fun _ p => p) (a.map D.int) [] (fun x hx => ?_) ?_
  · obtain ⟨i, hi, rfl⟩ := List.mem_map.mp hx
    exact ⟨_, rfl, fun Q' q' => q'⟩
  rw [List.nil_append, List.map_map]
  have em : a.map ((fun x => match x with | .int i => D.int (i + d) | x => x) ∘ D.int) = (a.map fun s => s + d).map D.int := by
    rw [List.map_map]
    rfl
  rw [em]
  unfold great at h
  generalize (a.map fun s => s + d) = ms at h
  refine for_inv (src := []) (ms.map D.int) (fun i ρ S' => S' = S ∧ (∃ y3, ρ = [some (.cell k), some (.int d), some (.lst false (ms.map D.int)), y3]) ∧ ∀ s ∈ ms.take i, ¬ 1000000 < s) ⟨rfl, ⟨_, rfl⟩, fun s hs => by rw [List.take_zero] at hs; exact absurd hs List.not_mem_nil⟩ ?_ ?_
  · rintro i y ρ S' K hx hK ⟨rfl, ⟨y3, rfl⟩, hl⟩
    rw [List.getElem?_map] at hx
    obtain ⟨s, hs, rfl⟩ := Option.map_eq_some_iff.mp hx
    refine ifB (b := decide ((1000000 : Int) < s)) (fun c => ?_) fun c => hK _ _ ⟨rfl, ⟨_, rfl⟩, fun z hz => ?_⟩
    · have hi := (List.getElem?_eq_some_iff.mp hs).1
      have es : ms = ms.take i ++ s :: ms.drop (i + 1) := by
        conv => lhs; rw [← List.take_append_drop i ms]
        rw [drop_cons hs]
      have c := of_decide_eq_true c
      rw [es, List.filter_append, List.filter_eq_nil_iff.mpr (fun z hz => by have := hl z hz; simpa using this), List.nil_append, List.filter_cons_of_pos (by simpa using c)] at h
      rw [(List.cons.inj h).1]
      exact q
    · rw [List.take_add_one, hs] at hz
      rcases List.mem_append.mp hz with w | w
      · exact hl z w
      · rw [List.mem_singleton.mp w]
        exact of_decide_eq_false c
  · rintro ρ S' ⟨rfl, ⟨y3, rfl⟩, hl⟩
    exfalso
    rw [List.length_map, List.take_length] at hl
    rw [List.filter_eq_nil_iff.mpr (fun z hz => by have := hl z hz; simpa using this)] at h
    cases h
theorem isA_some {v : D} (hv : (toPy v).isSome = true) : (isA .int S v).isSome = true := by
  cases v with
  | cell _ => cases hv
  | glo _ => cases hv
  | ty _ => cases hv
  | ins _ _ => cases hv
  | exc _ _ => cases hv
  | kls _ => cases hv
  | _ => rfl
theorem later28 {v : D} (hv : (toPy v).isSome = true) (nx : noX v = true) (p : PtyAt S k a) (sa : Sts a) (q : ∀ S', Gw S S' → Q (laterD a v) S') : F_law_later [.cell k, v] S Q E := by
  unfold F_law_later
  refine ⟨rfl, ?_⟩
  unfold den_law_later
  cases h : isNum 0 1000000 v with
  | false =>
    rw [laterD_bad h] at q
    refine ⟨isA_some hv, onS (ins_cell p) (onS (a := F_Party_rshift) rfl (shift_bad hv h ?_))⟩
    refine onS (a := true) rfl ?_
    rw [if_pos rfl]
    refine word_ticks ⟨⟨rfl, ?_⟩, q _ Gw.refl⟩
    show (true && (noX v && true)) = true
    rw [nx]
    rfl
  | true =>
    obtain ⟨d, rfl, d0, d1⟩ := num_int h
    have el : laterD a (.int d) = (match great a d with
      | [] => .tup [tkD (a.map fun s => s + d), .bl true]
      | x :: _ => .lst true [.str "late", .int x]) := if_pos h
    cases hg : great a d with
    | nil =>
      rw [el, hg] at q
      have hs : Sts (a.map fun s => s + d) := ⟨by rw [List.length_map]; exact sa.n1, by rw [List.length_map]; exact sa.n2, fun s hs => by
        have h1 : ¬ 1000000 < s := by simpa using List.filter_eq_nil_iff.mp hg s hs
        obtain ⟨x, hx, rfl⟩ := List.mem_map.mp hs
        have := sa.sb x hx
        omega⟩
      refine ⟨rfl, onS (ins_cell p) (onS (a := F_Party_rshift) rfl (shift' p d0 d1 sa hs fun S1 n1 g1 p1 => ?_))⟩
      show onSome (insOf S1 (.cell n1)) _
      refine onS (ins_cell p1) (onS (a := F_Party_starts) rfl (starts_ok27 p1 ?_))
      refine onS (ins_cell p1) (onS (a := true) rfl ⟨szr rfl, q _ g1⟩)
    | cons x r =>
      rw [el, hg] at q
      refine ⟨rfl, onS (ins_cell p) (onS (a := F_Party_rshift) rfl (shift_late p sa d0 d1 hg ?_))⟩
      refine onS (a := true) rfl ?_
      rw [if_pos rfl]
      exact word_late ⟨⟨rfl, rfl⟩, q _ Gw.refl⟩
end
end Pu
namespace Gm
/-! ## plans counted: forwards, backwards, and by listing -/
def sm (n : Nat) (f : Nat → Int) : Int := ((List.range n).map f).sum
end Gm
namespace Gm
end Gm
namespace Pu
open PySem L2 Rb Gm
theorem comp_fltA {α : Type} {st : D → Rho → Option Rho} {t : FT} {fe : FE} {src : Src} {k : List D → Sto → Prop} {S : Sto} {ρ : Rho} (f : α → D) (p : α → Bool) (g : α → D) (hsrc : ∀ P : Prop, P → srcOk src S P) : ∀ (xs : List α) (acc : List D),
    (∀ x ∈ xs, ∃ ρ1, st (f x) ρ = some ρ1 ∧ (∀ Q : Bool → Sto → Prop, Q (p x) S → t ρ1 S Q noE) ∧ (p x = true → ∀ Q : QD, Q (g x) S → fe ρ1 S Q noE)) → k (acc ++ (xs.filter p).map g) S → dCompL st t fe src (xs.map f) acc ρ S k
  | [], acc, _, h => by rw [List.filter_nil, List.map_nil, List.append_nil] at h; exact h
  | x :: xs, acc, hx, h => by
    obtain ⟨ρ1, e, ht, hf⟩ := hx x List.mem_cons_self
    have ih := fun acc' h' => comp_fltA (st := st) (t := t) (fe := fe) (src := src) (k := k) (S := S) (ρ := ρ) f p g hsrc xs acc' (fun y hy => hx y (List.mem_cons_of_mem _ hy)) h'
    refine onS e (ht _ ?_)
    cases hp : p x with
    | true =>
      rw [List.filter_cons, hp] at h
      refine hf hp _ (hsrc _ (ih _ ?_))
      rw [List.append_assoc]
      exact h
    | false =>
      rw [List.filter_cons, hp] at h
      exact hsrc _ (ih _ h)
end Pu
namespace Pu
open PySem L2 Rb Gm
theorem eqN_ok2 {neg f f2 : Bool} {xs : List D} {S : Sto} {Q : QD} (h : ∀ x ∈ xs, (toPy x).isSome = true) (q : Q (.bl (nb neg xs.isEmpty)) S) : gEqN neg (.lst f xs) (.lst f2 []) S Q := by
  have all : ∀ {xs : List D}, (∀ x ∈ xs, (toPy x).isSome = true) → ∃ ps, toPyAll xs = some ps ∧ ps.isEmpty = xs.isEmpty := by
    intro xs
    induction xs with
    | nil => intro _; exact ⟨[], rfl, rfl⟩
    | cons x xs ih =>
      intro h
      obtain ⟨ps, e, _⟩ := ih fun y hy => h y (List.mem_cons_of_mem _ hy)
      obtain ⟨p, ep⟩ := Option.isSome_iff_exists.mp (h x List.mem_cons_self)
      refine ⟨p :: ps, ?_, rfl⟩
      show (toPy x).bind _ = _
      rw [ep, e]
      rfl
  obtain ⟨ps, e, ee⟩ := all h
  refine onS (pyC_of (p := .list ps) (by show (toPyAll xs).map _ = _; rw [e]; rfl)) (onS (pyC_of (d := .lst f2 []) (p := .list []) rfl) ?_)
  show Q (.bl (nb neg ps.isEmpty)) S
  rw [ee]
  exact q
theorem starts5_any {S : Sto} {N lim : Int} {Q : QD} {E : ED} (h : Nk S N []) (hN : N ≤ 800000) (m1 : 1 ≤ lim) (m2 : lim ≤ 10)
    (q : ∀ starts S', 1 ≤ starts.length → (starts.length : Int) ≤ lim → (∀ s ∈ starts, 0 ≤ s ∧ s ≤ 1000000) → Nk S' (N + 50) [] → S'.length = 2 → Q (tkD starts) S') : F_law_starts_5 [.cell 1, .int lim] S Q E := by
  unfold F_law_starts_5
  have hS : S.length = 2 := h.len
  refine ⟨rfl, ⟨by decide, by decide, by decide⟩, szr rfl, next_ok h (by omega) (by decide) (by decide) fun rb Sb b0 b1 db => ?_⟩
  obtain ⟨t, et, ct⟩ := pick3i (x := 2) (y := 30) (z := 10 ^ (6 : Int).toNat + 1) b0 b1
  have t1 : 2 ≤ t ∧ t ≤ 1000001 := by
    have e6 : (10 : Int) ^ (6 : Int).toNat = 1000000 := by decide
    rw [e6] at ct
    omega
  have hSb : Sb.length = 2 := db.len
  refine onS et ⟨szr rfl, ?_⟩
  show F_law_next [.cell 1, .int lim] (Sb ++ [.lst []]) _ _
  rw [show (Cl.lst ([] : List D)) = Cl.lst (([] : List Int).map D.int) from rfl]
  refine next_ok (db.snoc _) (by omega) (by omega) (by omega) fun r S1 r0 r1 d1 => ⟨⟨by omega, by omega⟩, ?_⟩
  rw [hSb]
  refine for_rng 0 (1 + r).toNat (fun i ρ S' => ∃ (fs : List Int) (y4 : Option D), ρ = [some (.cell 1), some (.int lim), some (.int t), some (.cell 2), y4] ∧ fs.length = i ∧ (∀ s ∈ fs, 0 ≤ s ∧ s ≤ 1000000) ∧ Nk S' (N + 2 + 2 * i) [.lst (fs.map D.int)]) ?_ ?_ ?_
  · exact ⟨[], none, rfl, rfl, (fun _ z => nomatch z), d1.le (by omega)⟩
  · rintro i ρ S' K hi hK ⟨fs, y4, rfl, fl, hf, dk⟩
    obtain ⟨A, rfl, Al, dset⟩ := dk.cut (T := [])
    have Al : A.length = 2 := Al
    refine onS (cell_at2 Al) (next_ok dk (by omega) (by omega) (by omega) fun x S2 x0 x1 d2 => ⟨szr rfl, ?_⟩)
    refine next_ok d2 (by omega) (by decide) (by decide) fun y S4 y0 y1 d4 => ?_
    have mm1 : 0 ≤ y % 5 % 3 := Int.emod_nonneg _ (by decide)
    have mm2 : y % 5 % 3 < 3 := Int.emod_lt_of_pos _ (by decide)
    obtain ⟨z, ez, cz⟩ := pick3i (x := x) (y := 0) (z := t - 1) mm1 mm2
    refine ⟨by show (0 : Int) < 5; decide, by show (0 : Int) < 3; decide, onS ez ?_⟩
    obtain ⟨A4, rfl, Al4, dset4⟩ := d4.cut (T := [])
    have Al4 : A4.length = 2 := Al4
    refine onS (cell_at2 Al4) ⟨szd (by show (fs.map D.int).length < 100000; rw [List.length_map]; omega), ?_⟩
    have ee : fs.map D.int ++ [D.int z] = (fs ++ [z]).map D.int := by rw [List.map_append]; rfl
    refine hK _ _ ⟨fs ++ [z], _, rfl, by rw [List.length_append, fl]; rfl, fun s hs => ?_, ?_⟩
    · rcases List.mem_append.mp hs with w | w
      · exact hf s w
      · rw [List.mem_singleton.mp w]
        omega
    · show Nk ((A4 ++ [Cl.lst (fs.map D.int)]).set 2 (Cl.lst (fs.map D.int ++ [D.int z]))) _ _
      rw [set_at2 Al4, ee]
      exact (dset4 _).le (by omega)
  · rintro ρ S' ⟨fs, y4, rfl, fl, hf, dk⟩
    obtain ⟨A, rfl, Al, dset⟩ := dk.cut (T := [])
    have Al : A.length = 2 := Al
    refine onS (seq_at2 Al) ?_
    have := ret3 (S := S) (Q := Q) (d := tkD fs) hS dk ⟨_, frz_below (fun k z => nomatch z) (below_ints fs), fun S2 d2 l2 => q fs S2 (by omega) (by omega) hf (d2.le (by omega)) l2⟩
    rw [hS] at this ⊢
    exact this
def dl3 : FS := (dRet (dIf (dTest (dBin (gEqN true) (dVar 3) (dLst dNil))) (dLst (dCons (dC (.str "late")) (dCons (dBin gIx (dVar 3) (dC (.int 0))) dNil))) (dTup (dCons (dVar 2) (dCons (dC (.bl true)) dNil)))))
def dl2 : FS := (dSeq (dAsg (dLc (st1 4) (dTest (dBin gGt (dVar 4) (dBin gPow (dC (.int 10)) (dC (.int 6))))) (dVar 4) (dItS (dVar 2))) (gN 3)) dl3)
def dl1 : FS := (dSeq (dAsg (dB gTuple (dCons (dLc (st1 4) dYes (dBin gAdd (dVar 4) (dVar 1)) (dItS (dVar 0))) dNil)) (gN 2)) dl2)
section
variable {S : Sto} {Q : QD} {E : ED} {a : List Int}
theorem due_later28 {v : D} (hv : (toPy v).isSome = true) (sa : Sts a) (q : Q (laterD a v) S) : F_law_due_later [tkD a, v] S Q E := by
  unfold F_law_due_later
  refine ⟨rfl, ?_⟩
  have bad : isNum 0 1000000 v = false → Q (.lst true [.str "ticks", v]) S := fun h => by rw [← laterD_bad (a := a) h]; exact q
  have e6 : (10 : Int) ^ (6 : Int).toNat = 1000000 := by decide
  have oth : isA .bool S v = some false → isA .int S v = some false → isNum 0 1000000 v = false → den_law_due_later (startD 5 [tkD a, v]) S { nx := fun _ S' => Q .non S', rt := Q, bk := fun _ _ => False, ct := fun _ _ => False } noE := fun h1 h2 h3 => by
    refine onS h1 ?_
    refine onS h2 ?_
    exact ⟨szr rfl, bad h3⟩
  cases v with
  | int d =>
    have hb : isA .bool S (.int d) = some false := rfl
    have hi : isA .int S (.int d) = some true := rfl
    clear oth
    generalize hw : D.int d = w at hb hi ⊢
    refine onS hb ?_
    refine onS hi ?_
    subst hw
    refine ifB (b := decide ((0 : Int) ≤ d)) (fun c0 => ?_) fun c0 => ⟨szr rfl, bad ?_⟩
    · refine ⟨⟨by decide, by decide, by decide⟩, ?_⟩
      refine ifB (b := !decide (d ≤ (10 : Int) ^ (6 : Int).toNat)) (fun c1 => ⟨szr rfl, bad ?_⟩) fun c1 => ?_
      · rw [e6] at c1
        have c1 : ¬ d ≤ 1000000 := by simpa using c1
        show (decide (0 ≤ d) && decide (d ≤ 1000000)) = false
        rw [decide_eq_false c1, Bool.and_false]
      · rw [e6] at c1
        have c1 : d ≤ 1000000 := by simpa using c1
        have c0 := of_decide_eq_true c0
        have hn : isNum 0 1000000 (.int d) = true := by
          show (decide (0 ≤ d) && decide (d ≤ 1000000)) = true
          rw [decide_eq_true c0, decide_eq_true c1]
          rfl
        have el : laterD a (.int d) = (match great a d with
          | [] => .tup [tkD (a.map fun s => s + d), .bl true]
          | x :: _ => .lst true [.str "late", .int x]) := if_pos hn
        rw [el] at q
        have la := sa.n2
        show dl1 [some (tkD a), some (.int d), none, none, none] S _ noE
        unfold dl1
        dsimp only [dSeq, dAsg, dB, dCons, dNil, dLc, dItS, dVar]
        refine onS (a := tkD a) rfl ?_
        refine onS (a := a.map D.int) rfl ?_
        refine ⟨szd (by rw [List.length_map]; omega), ?_⟩
        refine comp_map (src := []) (g := fun x => match x with | .int i => .int (i + d) | x => x) (fun _ p => p) (a.map D.int) [] (fun x hx => ?_) ?_
        · obtain ⟨i, hi, rfl⟩ := List.mem_map.mp hx
          exact ⟨_, rfl, fun Q' q' => q'⟩
        rw [List.nil_append, List.map_map]
        have em : a.map ((fun x => match x with | .int i => D.int (i + d) | x => x) ∘ D.int) = (a.map fun s => s + d).map D.int := by
          rw [List.map_map]
          rfl
        rw [em]
        unfold great at q
        have lm : (a.map fun s => s + d).length ≤ 10 := by rw [List.length_map]; omega
        generalize (a.map fun s => s + d) = ms at q lm
        refine ⟨szd (by show (ms.map D.int).length ≤ 100000; rw [List.length_map]; omega), ?_⟩
        refine comp_fltA (src := []) (f := D.int) (p := fun s => decide (1000000 < s)) (g := D.int) (fun _ p => p) ms [] (fun x hx => ⟨_, rfl, fun Q' q' => ?_, fun _ Q' q' => q'⟩) ?_
        · refine ⟨⟨by decide, by decide, by decide⟩, ?_⟩
          show Q' (decide ((10 : Int) ^ (6 : Int).toNat < x)) S
          rw [e6]
          exact q'
        rw [List.nil_append]
        generalize ms.filter (fun s => decide (1000000 < s)) = gs at q
        cases gs with
        | nil => exact ⟨szr rfl, eqN_ok2 (fun x hx => nomatch hx) ⟨szr rfl, q⟩⟩
        | cons x r =>
          refine ⟨szr rfl, eqN_ok2 (fun y hy => ?_) ?_⟩
          · obtain ⟨i, _, rfl⟩ := List.mem_map.mp hy
            rfl
          · have ea : atI ((x :: r).map D.int) 0 = some (.int x) := atI_nat (j := 0) rfl
            exact onS ea ⟨szr rfl, q⟩
    · show (decide (0 ≤ d) && decide (d ≤ 1000000)) = false
      rw [c0]
      rfl
  | bl b =>
    have hb : isA .bool S (.bl b) = some true := rfl
    have bad' := bad rfl
    clear oth bad
    generalize D.bl b = w at hb bad' ⊢
    refine onS hb ?_
    exact ⟨szr rfl, bad'⟩
  | cell _ => cases hv
  | glo _ => cases hv
  | ty _ => cases hv
  | ins _ _ => cases hv
  | exc _ _ => cases hv
  | kls _ => cases hv
  | non => exact oth rfl rfl rfl
  | str _ => exact oth rfl rfl rfl
  | tup _ => exact oth rfl rfl rfl
  | lst _ _ => exact oth rfl rfl rfl
  | dic _ => exact oth rfl rfl rfl
end
end Pu
namespace Pu
open PySem L2 Rb Gm
abbrev RcAt' (S : Sto) (kr : Nat) (wk rd : Int) (bs : List Int) (b : Option Int) : Prop := S[kr]? = some (.ins "Race" (rcF wk rd bs (obD b)))
section
variable {S : Sto} {kr k1 k2 j : Nat} {wk rd : Int} {bs a b ns : List Int} {bo : Option Int} {Q : QD} {E : ED} {one : Int}
/-- a race and two parties -/
structure Duo (S : Sto) (kr k1 k2 : Nat) (wk rd : Int) (bs a b : List Int) (bo : Option Int) : Prop where
  R : RoadOk wk rd bs
  sa : Sts a
  sb : Sts b
  sab : Sts (a ++ b)
  rc : RcAt' S kr wk rd bs bo
  pa : PtyAt S k1 a
  pb : PtyAt S k2 b
  n1 : k1 ≠ kr
  n2 : k2 ≠ kr
theorem Duo.ev {S' : Sto} {bo' : Option Int} (d : Duo S kr k1 k2 wk rd bs a b bo) (e : Ev kr S S') (h : RcAt' S' kr wk rd bs bo') : Duo S' kr k1 k2 wk rd bs a b bo' := ⟨d.R, d.sa, d.sb, d.sab, h, e.get d.pa d.n1, e.get d.pb d.n2, d.n1, d.n2⟩
theorem Duo.gw {S' : Sto} (d : Duo S kr k1 k2 wk rd bs a b bo) (g : Gw S S') : Duo S' kr k1 k2 wk rd bs a b bo := d.ev g.ev (g.get d.rc)
variable {a4 a5 a6 a7 a8 : Option D}
end
end Pu
namespace Pu
open PySem L2 Rb Gm
/-- all cells stand as before, but those of X; there may be more -/
structure Kx (X : Nat → Prop) (S S' : Sto) : Prop where
  le : S.length ≤ S'.length
  at_ : ∀ i, i < S.length → ¬ X i → S'[i]? = S[i]?
section
variable {X : Nat → Prop} {k : Nat} {S S' S2 T : Sto} {N N' : Int} {c : Cl}
theorem Kx.refl : Kx X S S := ⟨Nat.le_refl _, fun _ _ _ => rfl⟩
theorem Kx.trans (a : Kx X S S') (b : Kx X S' S2) : Kx X S S2 := ⟨Nat.le_trans a.le b.le, fun i hi h => (b.at_ i (Nat.lt_of_lt_of_le hi a.le) h).trans (a.at_ i hi h)⟩
theorem Kx.set (h : X k) : Kx X S (S.set k c) := ⟨by rw [List.length_set]; exact Nat.le_refl _, fun i _ n => List.getElem?_set_ne fun e => n (by rw [← e]; exact h)⟩
theorem Kx.ev {kr : Nat} (e : Ev kr S S') (h : X kr) : Kx X S S' := ⟨e.le, fun i hi n => e.at_ i hi fun z => n (z ▸ h)⟩
theorem Kx.gw (g : Gw S S') : Kx X S S' := by
  obtain ⟨G, rfl⟩ := g
  exact ⟨by rw [List.length_append]; omega, fun i hi _ => List.getElem?_append_left hi⟩
theorem Kx.get (e : Kx X S S') (h : S[k]? = some c) (n : ¬ X k) : S'[k]? = some c := (e.at_ k (List.getElem?_eq_some_iff.mp h).1 n).trans h
theorem Nk.any (h : Nk S N T) (hk : 2 ≤ k) : S[k]? = T[k - 2]? := by
  obtain ⟨cs, rs, n, rfl, _⟩ := h
  show (stateS cs rs n ++ T)[k]? = _
  rw [List.getElem?_append_right (show (stateS cs rs n).length ≤ k from hk)]
  rfl
theorem Nk.same (h : Nk S N T) (h' : Nk S' N' T) (hk : 2 ≤ k) (e : S[k]? = some c) : S'[k]? = some c := by rw [h'.any hk, ← h.any hk, e]
end
def lim3 (j : Nat) : Nat := if j = 0 then 5 else if j = 1 then 3 else 2
/-- the parties made so far -/
def Made (S : Sto) (kq : Nat) (L : List (Nat × List Int)) : Prop := S[kq]? = some (.lst (L.map fun x => D.cell x.1)) ∧ ∀ j x, L[j]? = some x → PtyAt S x.1 x.2 ∧ Sts x.2 ∧ x.2.length ≤ lim3 j ∧ (∀ s ∈ x.2, s ≤ 500000) ∧ kq < x.1
theorem Made.nk {S S' T : Sto} {N N' : Int} {kq : Nat} {L : List (Nat × List Int)} (h : Made S kq L) (d : Nk S N T) (d' : Nk S' N' T) (h2 : 2 ≤ kq) : Made S' kq L := ⟨d.same d' h2 h.1, fun j x e => by
  obtain ⟨a, b, c, f, g⟩ := h.2 j x e
  exact ⟨d.same d' (by omega) a, b, c, f, g⟩⟩
end Pu
namespace Pu
open PySem L2 Rb Gm
/-! ## the four parties of a turn (k28) -/
theorem Nk.gw {S S' T : Sto} {N : Int} (h : Nk S N T) (g : Gw S S') : ∃ T', Nk S' N T' := by
  obtain ⟨G, rfl⟩ := g
  obtain ⟨cs, rs, n, h1, h⟩ := h
  exact ⟨T ++ G, cs, rs, n, by rw [h1, List.append_assoc], h⟩
theorem comp_lst {st : D → Rho → Option Rho} {f : FE} {src : Src} {k : List D → Sto → Prop} {ρ : Rho} {S : Sto} (xs : List D) (I : Nat → List D → Sto → Prop) (h0 : I 0 [] S)
    (hs : ∀ (i : Nat) (x : D) (acc : List D) (S : Sto) (K : QD), xs[i]? = some x → (∀ y S', I (i + 1) (acc ++ [y]) S' → K y S') → I i acc S → ∃ ρ1, st x ρ = some ρ1 ∧ f ρ1 S K noE) (hd : ∀ acc S, I xs.length acc S → k acc S)
    (hsrc : ∀ i acc S, I i acc S → ∀ P : Prop, P → srcOk src S P) : dCompL st dYes f src xs [] ρ S k := by
  have go : ∀ (m p : Nat) (acc : List D) (S : Sto), p + m = xs.length → I p acc S → dCompL st dYes f src (xs.drop p) acc ρ S k := by
    intro m
    induction m with
    | zero =>
      intro p acc S e h
      have : p = xs.length := by omega
      subst this
      rw [List.drop_length]
      exact hd acc S h
    | succ m ih =>
      intro p acc S e h
      have hlt : p < xs.length := by omega
      have hx := List.getElem?_eq_getElem hlt
      rw [drop_cons hx]
      obtain ⟨ρ1, e1, hf⟩ := hs p _ acc S (fun y S2 => srcOk src S2 (dCompL st dYes f src (xs.drop (p + 1)) (acc ++ [y]) ρ S2 k)) hx (fun y S' h' => hsrc _ _ _ h' _ (ih (p + 1) _ S' (by omega) h')) h
      refine onS e1 ?_
      exact ifT (b := true) (Q := srcOk src S (dCompL st dYes f src (xs.drop (p + 1)) acc ρ S k)) rfl hf
  exact go xs.length 0 [] S (by omega) h0
structure P4 (S : Sto) (rows : List (List Int)) (ks : List Nat) : Prop where
  l1 : rows.length = 4
  l2 : ks.length = 4
  st : ∀ r ∈ rows, Sts r
  at_ : ∀ (i : Nat) (r : List Int) (k : Nat), rows[i]? = some r → ks[i]? = some k → 2 ≤ k ∧ PtyAt S k r
section
variable {S S' T : Sto} {N N' : Int} {rows : List (List Int)} {ks : List Nat}
theorem P4.gw (p : P4 S rows ks) (g : Gw S S') : P4 S' rows ks := ⟨p.l1, p.l2, p.st, fun i r k h1 h2 => ⟨(p.at_ i r k h1 h2).1, g.get (p.at_ i r k h1 h2).2⟩⟩
theorem P4.nk (p : P4 S rows ks) (h : Nk S N T) (h' : Nk S' N' T) : P4 S' rows ks := ⟨p.l1, p.l2, p.st, fun i r k h1 h2 => ⟨(p.at_ i r k h1 h2).1, h.same h' (p.at_ i r k h1 h2).1 (p.at_ i r k h1 h2).2⟩⟩
theorem P4.pick (p : P4 S rows ks) {r : Int} (r0 : 0 ≤ r) (r1 : r < 4) : ∃ a k, atI (rows.map tkD) r = some (tkD a) ∧ atI (ks.map D.cell) r = some (.cell k) ∧ Sts a ∧ ∀ S', P4 S' rows ks → PtyAt S' k a := by
  obtain ⟨j, rfl⟩ : ∃ j : Nat, r = (j : Int) := ⟨r.toNat, (Int.toNat_of_nonneg r0).symm⟩
  have h1 : j < rows.length := by rw [p.l1]; omega
  have h2 : j < ks.length := by rw [p.l2]; omega
  have e1 := List.getElem?_eq_getElem h1
  have e2 := List.getElem?_eq_getElem h2
  exact ⟨rows[j], ks[j], atI_nat (by rw [List.getElem?_map, e1]; rfl), atI_nat (by rw [List.getElem?_map, e2]; rfl), p.st _ (List.getElem_mem h1), fun S' p' => (p'.at_ j _ _ e1 e2).2⟩
variable {Q : QD} {E : ED}
theorem one_tup {xs : List D} (h : Nk S N T) (hN : N ≤ 900000) (l1 : 1 ≤ xs.length) (l2 : xs.length ≤ 100) (q : ∀ d S', d ∈ xs → Nk S' (N + 1) T → Q d S') : F_law_one_2 [.cell 1, .tup xs] S Q E := by
  unfold F_law_one_2
  refine ⟨rfl, ?_⟩
  refine next_ok (lim := (xs.length : Int)) h (by omega) (by omega) (by omega) fun r S1 r0 r1 d1 => ?_
  obtain ⟨d, e, hd⟩ := atI_mem (xs := xs) r0 r1
  exact onS e (q d S1 hd d1)
theorem one_lst {xs : List D} (h : Nk S N T) (hN : N ≤ 900000) (l1 : 1 ≤ xs.length) (l2 : xs.length ≤ 100) (q : ∀ d S', d ∈ xs → Nk S' (N + 1) T → Q d S') : F_law_one_2 [.cell 1, .lst true xs] S Q E := by
  unfold F_law_one_2
  refine ⟨rfl, ?_⟩
  refine next_ok (lim := (xs.length : Int)) h (by omega) (by omega) (by omega) fun r S1 r0 r1 d1 => ?_
  obtain ⟨d, e, hd⟩ := atI_mem (xs := xs) r0 r1
  exact onS e (q d S1 hd d1)
end
theorem gv_join {a b : List Int} (sa : Sts a) (sb : Sts b) : Gv 4 500 (joinD a b) := by
  unfold joinD
  split
  · rename_i l
    have s := sa.app sb l
    have g1 : Gv 2 30 (tkD (a ++ b)) := (Gv.ints (fun i hi => by have := s.sb i hi; omega) (by have := s.n2; omega)).mono (by decide) (Nat.le_refl _)
    have g2 : Gv 2 30 (.bl true) := (gv_dec rfl (by decide +kernel)).mono (Nat.le_refl _) (by decide)
    exact (Gv.tup (k := 2) (n := 30) (m := 62) (fun x hx => by
      simp only [List.mem_cons, List.not_mem_nil, or_false] at hx
      rcases hx with rfl | rfl
      · exact g1
      · exact g2) (by show 2 * (30 + 1) ≤ 62; decide)).mono (by decide) (by decide)
  · exact (gv_dec rfl (by decide +kernel)).mono (by decide) (by decide)
theorem gv_later {a : List Int} {v : D} (sa : Sts a) (g : Gv 2 20 v) : Gv 4 500 (laterD a v) := by
  have bad : Gv 4 500 (.lst true [.str "ticks", v]) := (Gv.lst (k := 2) (n := 20) (m := 42) (fun x hx => by
      simp only [List.mem_cons, List.not_mem_nil, or_false] at hx
      rcases hx with rfl | rfl
      · exact gv_dec rfl (by decide +kernel)
      · exact g) (by show 2 * (20 + 1) ≤ 42; decide)).mono (by decide) (by decide)
  cases h : isNum 0 1000000 v with
  | false => rw [laterD_bad h]; exact bad
  | true =>
    obtain ⟨d, rfl, d0, d1⟩ := num_int h
    have el : laterD a (.int d) = (match great a d with
      | [] => .tup [tkD (a.map fun s => s + d), .bl true]
      | x :: _ => .lst true [.str "late", .int x]) := if_pos h
    rw [el]
    have hs : ∀ x ∈ a.map (fun s => s + d), 0 ≤ x ∧ x ≤ 10000000 := fun x hx => by
      obtain ⟨s, hs, rfl⟩ := List.mem_map.mp hx
      have := sa.sb s hs
      omega
    cases hg : great a d with
    | nil =>
      have g1 : Gv 2 30 (tkD (a.map fun s => s + d)) := (Gv.ints hs (by rw [List.length_map]; have := sa.n2; omega)).mono (by decide) (Nat.le_refl _)
      have g2 : Gv 2 30 (.bl true) := (gv_dec rfl (by decide +kernel)).mono (Nat.le_refl _) (by decide)
      exact (Gv.tup (k := 2) (n := 30) (m := 62) (fun x hx => by
        simp only [List.mem_cons, List.not_mem_nil, or_false] at hx
        rcases hx with rfl | rfl
        · exact g1
        · exact g2) (by show 2 * (30 + 1) ≤ 62; decide)).mono (by decide) (by decide)
    | cons x r =>
      have hx : x ∈ a.map (fun s => s + d) := (List.mem_filter.mp (show x ∈ great a d by rw [hg]; exact List.mem_cons_self)).1
      have gx : Gv 2 20 (.int x) := (Gv.int (Nat.lt_of_lt_of_le (show x.natAbs < 100000000 by have := hs x hx; omega) (by decide))).mono (by decide) (by decide)
      exact (Gv.lst (k := 2) (n := 20) (m := 42) (fun y hy => by
        simp only [List.mem_cons, List.not_mem_nil, or_false] at hy
        rcases hy with rfl | rfl
        · exact gv_dec rfl (by decide +kernel)
        · exact gx) (by show 2 * (20 + 1) ≤ 42; decide)).mono (by decide) (by decide)
end Pu
namespace Pu
open PySem L2 Rb Gm
def g28_5 : FS := (dRet (dBin iEq (dB iRepr (dCons (dVar 13) dNil)) (dB iRepr (dCons (dVar 8) dNil))))
def g28_4 : FS := (dSeq (dAsg (dLst (dCons (dTup (dCons (dTup (dCons (dC (.int 0)) (dCons (dBin gPow (dC (.int 10)) (dC (.int 6))) (dCons (dBin gSub (dBin gPow (dC (.int 10)) (dC (.int 6))) (dC (.int 1))) dNil)))) (dCons (dC (.bl true)) dNil))) (dCons (dLst (dCons (dC (.str "late")) (dCons (dBin gAdd (dBin gPow (dC (.int 10)) (dC (.int 6))) (dC (.int 1))) dNil))) (dCons (dLst (dCons (dC (.str "late")) (dCons (dBin gAdd (dBin gPow (dC (.int 10)) (dC (.int 6))) (dC (.int 2))) dNil))) (dCons (dLst (dCons (dC (.str "ticks")) (dCons (dC (.bl true)) dNil))) dNil))))) (gN 8)) g28_5)
def g28_3 : FS := (dSeq (dAsg (dLst (dCons (dCallW F_law_later (dCons (dVar 12) (dCons (dC (.int 0)) dNil))) (dCons (dCallW F_law_later (dCons (dVar 12) (dCons (dC (.int 1)) dNil))) (dCons (dCallW F_law_later (dCons (dVar 12) (dCons (dC (.int 2)) dNil))) (dCons (dCallW F_law_later (dCons (dVar 12) (dCons (dC (.bl true)) dNil))) dNil))))) (gN 13)) g28_4)
def g28_2 : FS := (dSeq (dAsg (dMake "Party" F_Party_init (dCons (dTup (dCons (dC (.int 0)) (dCons (dBin gPow (dC (.int 10)) (dC (.int 6))) (dCons (dBin gSub (dBin gPow (dC (.int 10)) (dC (.int 6))) (dC (.int 1))) dNil)))) dNil)) (gN 12)) g28_3)
def g28_1b3 : FS := (dIfS (dTest (dBin iNe (dB iRepr (dCons (dLc (st1 15) dYes (dProp [("Party", F_Party_starts)] (dVar 15)) (dItS (dVar 4))) dNil)) (dB iRepr (dCons (dVar 3) dNil))))
 (dRet (dC (.bl false)))
 dSkip)
def g28_1b2b6b : FS := (dIfS (dTest (dBin iNe (dB iRepr (dCons (dCallW F_law_later (dCons (dBin gIx (dVar 4) (dVar 6)) (dCons (dVar 11) dNil))) dNil)) (dB iRepr (dCons (dCallW F_law_due_later (dCons (dBin gIx (dVar 3) (dVar 6)) (dCons (dVar 11) dNil))) dNil))))
 (dRet (dC (.bl false)))
 dSkip)
def g28_1b2b6 : FS := (dFor (dItS (dVar 10)) (gN 11) g28_1b2b6b)
def g28_1b2b5 : FS := (dSeq (dAsg (dLst (dCons (dCallW F_law_one_2 (dCons (dVar 1) (dCons (dLst (dCons (dC (.int 0)) (dCons (dC (.int 1)) (dCons (dBin gPow (dC (.int 10)) (dC (.int 6))) (dCons (dBin gAdd (dBin gPow (dC (.int 10)) (dC (.int 6))) (dC (.int 1))) (dCons (dVar 9) (dCons (dBin gAdd (dVar 9) (dC (.int 1))) dNil))))))) dNil))) (dCons (dCallW F_law_next (dCons (dVar 1) (dCons (dC (.int 50)) dNil))) (dCons (dCallW F_law_odd_2 (dCons (dVar 1) dNil)) dNil)))) (gN 10)) g28_1b2b6)
def g28_1b2b4 : FS := (dSeq (dAsg (dBin gSub (dBin gPow (dC (.int 10)) (dC (.int 6))) (dCallW F_law_one_2 (dCons (dVar 1) (dCons (dBin gIx (dVar 3) (dVar 6)) dNil)))) (gN 9)) g28_1b2b5)
def g28_1b2b3 : FS := (dSeq (dIfS (dTest (dBin iNe (dB iRepr (dCons (dCallW F_law_joined (dCons (dBin gIx (dVar 4) (dVar 6)) (dCons (dBin gIx (dVar 4) (dVar 7)) dNil))) dNil)) (dB iRepr (dCons (dVar 8) dNil))))
 (dRet (dC (.bl false)))
 dSkip) g28_1b2b4)
def g28_1b2b2 : FS := (dCut (dIfS (dTest (dBin gGt (dBin gAdd (dB gLen (dCons (dBin gIx (dVar 3) (dVar 6)) dNil)) (dB gLen (dCons (dBin gIx (dVar 3) (dVar 7)) dNil))) (dC (.int 10))))
 (dAsg (dLst (dCons (dC (.str "people")) dNil)) (gN 8))
 dSkip) g28_1b2b3)
def g28_1b2b1 : FS := (dSeq (dAsg (dTup (dCons (dBin gAdd (dBin gIx (dVar 3) (dVar 6)) (dBin gIx (dVar 3) (dVar 7))) (dCons (dC (.bl true)) dNil))) (gN 8)) g28_1b2b2)
def g28_1b2b0 : FS := (dSeq (dPar 6 7 (dCons (dCallW F_law_next (dCons (dVar 1) (dCons (dC (.int 4)) dNil))) (dCons (dCallW F_law_next (dCons (dVar 1) (dCons (dC (.int 4)) dNil))) dNil))) g28_1b2b1)
def g28_1b2 : FS := (dSeq (dFor (dRng1 (dCons (dC (.int 10)) dNil)) (gN 5) g28_1b2b0) g28_1b3)
def g28_1b1 : FS := (dSeq (dAsg (dLc (st1 14) dYes (dMake "Party" F_Party_init (dCons (dVar 14) dNil)) (dItS (dVar 3))) (gN 4)) g28_1b2)
def g28_1b0 : FS := (dSeq (dAsg (dLc (st1 5) dYes (dCall 2 F_law_starts_5 (dCons (dVar 1) (dCons (dBin gIx (dLst (dCons (dC (.int 10)) (dCons (dC (.int 5)) (dCons (dC (.int 3)) (dCons (dC (.int 7)) dNil))))) (dVar 5)) dNil))) (dRng1 (dCons (dC (.int 4)) dNil))) (gN 3)) g28_1b1)
def g28_1 : FS := (dSeq (dFor (dRng1 (dCons (dC (.int 8)) dNil)) (gN 2) g28_1b0) g28_2)
theorem sub_ok {i j : Int} {S : Sto} {Q : QD} (q : Q (.int (i - j)) S) : gSub (.int i) (.int j) S Q := q
theorem gN_ok {i : Nat} {d : D} {ρ ρ1 : Rho} {S : Sto} {K : Rho → Sto → Prop} {E : ED} (e : ∀ k : Rho → Prop, k ρ1 → setK ρ i d k) (h : K ρ1 S) : gN i d ρ S K E := e _ h
abbrev e28 (y0 y2 y3 y4 y5 y6 y7 y8 y9 y10 y11 y12 y13 y14 y15 : Option D) : Rho := [y0, some (.cell 1), y2, y3, y4, y5, y6, y7, y8, y9, y10, y11, y12, y13, y14, y15]
abbrev rowsD (rows : List (List Int)) : D := .lst false (rows.map tkD)
abbrev psD (ks : List Nat) : D := .lst false (ks.map D.cell)
section
variable {S T : Sto} {N : Int} {rows : List (List Int)} {ks : List Nat} {y0 y2 y5 y7 y8 y9 y10 y11 y12 y13 y14 y15 : Option D} {De : DEnds}
theorem g6b_ok {r : Int} {v : D} (p : P4 S rows ks) (r0 : 0 ≤ r) (r1 : r < 4) (g : Gv 2 20 v) (q : ∀ S', Gw S S' → De.nx (e28 y0 y2 (some (rowsD rows)) (some (psD ks)) y5 (some (.int r)) y7 y8 y9 y10 (some v) y12 y13 y14 y15) S') :
    g28_1b2b6b (e28 y0 y2 (some (rowsD rows)) (some (psD ks)) y5 (some (.int r)) y7 y8 y9 y10 (some v) y12 y13 y14 y15) S De noE := by
  obtain ⟨a, k, ea, ek, sa, pa⟩ := p.pick r0 r1
  unfold g28_1b2b6b
  refine onS ek ?_
  refine later28 g.isS g.nx (pa S p) sa fun S1 g1 => ?_
  have gv := gv_later sa g
  refine gv.rep ?_
  refine onS ea ?_
  refine due_later28 g.isS sa ?_
  exact gv.rep (ne_str rfl (q S1 g1))
theorem g6_ok {r : Int} {V : List D} (p : P4 S rows ks) (hk : Nk S N T) (r0 : 0 ≤ r) (r1 : r < 4) (g : ∀ v ∈ V, Gv 2 20 v) (q : ∀ S' T' y11, P4 S' rows ks → Nk S' N T' → De.nx (e28 y0 y2 (some (rowsD rows)) (some (psD ks)) y5 (some (.int r)) y7 y8 y9 (some (.lst true V)) y11 y12 y13 y14 y15) S') :
    g28_1b2b6 (e28 y0 y2 (some (rowsD rows)) (some (psD ks)) y5 (some (.int r)) y7 y8 y9 (some (.lst true V)) y11 y12 y13 y14 y15) S De noE := by
  unfold g28_1b2b6
  dsimp only [dFor, dItS, dVar]
  refine onS (a := D.lst true V) rfl ?_
  refine onS (a := V) rfl ?_
  refine for_inv (src := []) V (fun i ρ S' => (∃ y11, ρ = e28 y0 y2 (some (rowsD rows)) (some (psD ks)) y5 (some (.int r)) y7 y8 y9 (some (.lst true V)) y11 y12 y13 y14 y15) ∧ P4 S' rows ks ∧ ∃ T', Nk S' N T') ⟨⟨_, rfl⟩, p, T, hk⟩ ?_ ?_
  · rintro i v ρ S' K hx hK ⟨⟨z11, rfl⟩, p', T', hk'⟩
    exact g6b_ok p' r0 r1 (g v (List.mem_of_getElem? hx)) fun S2 g2 => hK _ _ ⟨⟨_, rfl⟩, p'.gw g2, hk'.gw g2⟩
  · rintro ρ S' ⟨⟨z11, rfl⟩, p', T', hk'⟩
    exact q _ _ _ p' hk'
theorem g5_ok {r top : Int} (p : P4 S rows ks) (hk : Nk S N T) (hN : N ≤ 800000) (r0 : 0 ≤ r) (r1 : r < 4) (t0 : 0 ≤ top) (t1 : top ≤ 1000000) (q : ∀ S' T' y10 y11, P4 S' rows ks → Nk S' (N + 3) T' → De.nx (e28 y0 y2 (some (rowsD rows)) (some (psD ks)) y5 (some (.int r)) y7 y8 (some (.int top)) y10 y11 y12 y13 y14 y15) S') :
    g28_1b2b5 (e28 y0 y2 (some (rowsD rows)) (some (psD ks)) y5 (some (.int r)) y7 y8 (some (.int top)) y10 y11 y12 y13 y14 y15) S De noE := by
  unfold g28_1b2b5
  have e6 : (10 : Int) ^ (6 : Int).toNat = 1000000 := by decide
  have gi : ∀ i : Int, 0 ≤ i → i ≤ 2000000 → Gv 2 20 (.int i) := fun i h0 h1 => (Gv.int (Nat.lt_of_lt_of_le (show i.natAbs < 100000000 by omega) (by decide))).mono (by decide) (by decide)
  refine ⟨⟨by decide, by decide, by decide⟩, ⟨by decide, by decide, by decide⟩, szr rfl, ?_⟩
  refine one_lst (xs := [.int 0, .int 1, .int (10 ^ (6 : Int).toNat), .int (10 ^ (6 : Int).toNat + 1), .int top, .int (top + 1)]) hk (by omega) (by show 1 ≤ 6; decide) (by show 6 ≤ 100; decide) fun d S1 hd k1 => ?_
  have gd : Gv 2 20 d := by
    rw [e6] at hd
    simp only [List.mem_cons, List.not_mem_nil, or_false] at hd
    rcases hd with rfl | rfl | rfl | rfl | rfl | rfl <;> exact gi _ (by omega) (by omega)
  refine next_ok (lim := 50) k1 (by omega) (by decide) (by decide) fun x S2 x0 x1 k2 => ?_
  refine odd27_ok k2 (by omega) fun o S3 go k3 => ?_
  refine ⟨szr rfl, ?_⟩
  show g28_1b2b6 (e28 y0 y2 (some (rowsD rows)) (some (psD ks)) y5 (some (.int r)) y7 y8 (some (.int top)) (some (.lst true [d, .int x, o])) y11 y12 y13 y14 y15) S3 De noE
  have p3 : P4 S3 rows ks := p.nk hk k3
  refine g6_ok p3 (k3.le (show N + 1 + 1 + 1 ≤ N + 3 by omega)) r0 r1 (fun v hv => ?_) fun S' T' z11 p' hk' => q _ _ _ _ p' hk'
  simp only [List.mem_cons, List.not_mem_nil, or_false] at hv
  rcases hv with rfl | rfl | rfl
  · exact gd
  · exact gi _ (by omega) (by omega)
  · exact go
theorem g4_ok {r : Int} (p : P4 S rows ks) (hk : Nk S N T) (hN : N ≤ 700000) (r0 : 0 ≤ r) (r1 : r < 4) (q : ∀ S' T' y9 y10 y11, P4 S' rows ks → Nk S' (N + 4) T' → De.nx (e28 y0 y2 (some (rowsD rows)) (some (psD ks)) y5 (some (.int r)) y7 y8 y9 y10 y11 y12 y13 y14 y15) S') :
    g28_1b2b4 (e28 y0 y2 (some (rowsD rows)) (some (psD ks)) y5 (some (.int r)) y7 y8 y9 y10 y11 y12 y13 y14 y15) S De noE := by
  obtain ⟨a, k, ea, ek, sa, pa⟩ := p.pick r0 r1
  have e6 : (10 : Int) ^ (6 : Int).toNat = 1000000 := by decide
  unfold g28_1b2b4
  have n1 := sa.n1
  have n2 := sa.n2
  have key : ∀ x : Int, x = 1000000 → dCallW F_law_one_2 (dCons (dVar 1) (dCons (dBin gIx (dVar 3) (dVar 6)) dNil)) (e28 y0 y2 (some (rowsD rows)) (some (psD ks)) y5 (some (.int r)) y7 y8 y9 y10 y11 y12 y13 y14 y15) S (fun y S2 => gSub (.int x) y S2 fun d S1 => gN 9 d (e28 y0 y2 (some (rowsD rows)) (some (psD ks)) y5 (some (.int r)) y7 y8 y9 y10 y11 y12 y13 y14 y15) S1 (fun ρ' S' => g28_1b2b5 ρ' S' De noE) noE) noE := fun x ex => by
    refine onS ea ?_
    refine one_tup (xs := a.map D.int) hk (by omega) (by rw [List.length_map]; omega) (by rw [List.length_map]; omega) fun d S1 hd k1 => ?_
    obtain ⟨i, hi, rfl⟩ := List.mem_map.mp hd
    have hb := sa.sb i hi
    refine sub_ok ?_
    refine gN_ok (ρ1 := e28 y0 y2 (some (rowsD rows)) (some (psD ks)) y5 (some (.int r)) y7 y8 (some (.int (x - i))) y10 y11 y12 y13 y14 y15) (fun _ h => h) ?_
    exact g5_ok (p.nk hk k1) k1 (by omega) r0 r1 (by omega) (by omega) fun S' T' z10 z11 p' hk' => q _ _ _ _ _ p' (hk'.le (by omega))
  exact ⟨⟨by decide, by decide, by decide⟩, key _ e6⟩
theorem g3_ok {r o : Int} {a b : List Int} (p : P4 S rows ks) (hk : Nk S N T) (hN : N ≤ 700000) (r0 : 0 ≤ r) (r1 : r < 4) (o0 : 0 ≤ o) (o1 : o < 4) (ea : atI (rows.map tkD) r = some (tkD a)) (eb : atI (rows.map tkD) o = some (tkD b)) (q : ∀ S' T' y9 y10 y11, P4 S' rows ks → Nk S' (N + 4) T' → De.nx (e28 y0 y2 (some (rowsD rows)) (some (psD ks)) y5 (some (.int r)) (some (.int o)) (some (joinD a b)) y9 y10 y11 y12 y13 y14 y15) S') :
    g28_1b2b3 (e28 y0 y2 (some (rowsD rows)) (some (psD ks)) y5 (some (.int r)) (some (.int o)) (some (joinD a b)) y9 y10 y11 y12 y13 y14 y15) S De noE := by
  obtain ⟨a', k, ea', ek, sa, pa⟩ := p.pick r0 r1
  obtain ⟨b', j, eb', ej, sb, pb⟩ := p.pick o0 o1
  have inj : ∀ {x y : List Int}, tkD x = tkD y → x = y := fun {x y} h => by
    have h : x.map D.int = y.map D.int := D.tup.inj h
    have := intsOf_map x
    rw [h, intsOf_map] at this
    exact (Option.some.inj this).symm
  have e1 : a' = a := inj (Option.some.inj (ea'.symm.trans ea))
  have e2 : b' = b := inj (Option.some.inj (eb'.symm.trans eb))
  subst e1 e2
  unfold g28_1b2b3
  refine onS ek ?_
  refine onS ej ?_
  refine joined28 (pa S p) (pb S p) sa sb fun S1 g1 => ?_
  have gv := gv_join sa sb
  refine gv.rep (gv.rep (ne_str rfl ?_))
  obtain ⟨T1, k1⟩ := hk.gw g1
  exact g4_ok (p.gw g1) k1 hN r0 r1 q
theorem g1_ok {r o : Int} (p : P4 S rows ks) (hk : Nk S N T) (hN : N ≤ 700000) (r0 : 0 ≤ r) (r1 : r < 4) (o0 : 0 ≤ o) (o1 : o < 4) (q : ∀ S' T' y8 y9 y10 y11, P4 S' rows ks → Nk S' (N + 4) T' → De.nx (e28 y0 y2 (some (rowsD rows)) (some (psD ks)) y5 (some (.int r)) (some (.int o)) y8 y9 y10 y11 y12 y13 y14 y15) S') :
    g28_1b2b1 (e28 y0 y2 (some (rowsD rows)) (some (psD ks)) y5 (some (.int r)) (some (.int o)) y8 y9 y10 y11 y12 y13 y14 y15) S De noE := by
  obtain ⟨a, k, ea, ek, sa, pa⟩ := p.pick r0 r1
  obtain ⟨b, j, eb, ej, sb, pb⟩ := p.pick o0 o1
  have la := sa.n2
  have lb := sb.n2
  have ml : (a.map D.int).length = a.length := List.length_map ..
  have nl : (b.map D.int).length = b.length := List.length_map ..
  unfold g28_1b2b1
  refine onS ea ?_
  refine onS eb ?_
  refine ⟨szd (by show (a.map D.int).length + (b.map D.int).length ≤ 100000; omega), szr rfl, ?_⟩
  rw [← List.map_append]
  show g28_1b2b2 (e28 y0 y2 (some (rowsD rows)) (some (psD ks)) y5 (some (.int r)) (some (.int o)) (some (.tup [tkD (a ++ b), .bl true])) y9 y10 y11 y12 y13 y14 y15) S De noE
  unfold g28_1b2b2
  refine ⟨fun ρ' S' => ρ' = e28 y0 y2 (some (rowsD rows)) (some (psD ks)) y5 (some (.int r)) (some (.int o)) (some (joinD a b)) y9 y10 y11 y12 y13 y14 y15 ∧ S' = S, ?_, ?_⟩
  · show onSome (atI (rows.map tkD) r) _
    refine onS ea ?_
    show onSome (atI (rows.map tkD) o) _
    refine onS eb ?_
    refine ifB (b := decide ((10 : Int) < ((a.map D.int).length : Int) + ((b.map D.int).length : Int))) (fun c => ?_) fun c => ?_
    · have c := of_decide_eq_true c
      refine ⟨szr rfl, ?_, rfl⟩
      unfold joinD
      rw [if_neg (by omega)]
    · have c := of_decide_eq_false c
      refine ⟨?_, rfl⟩
      unfold joinD
      rw [if_pos (by omega)]
  · rintro ρ' S' ⟨rfl, rfl⟩
    exact g3_ok p hk hN r0 r1 o0 o1 ea eb fun S' T' z9 z10 z11 p' hk' => q _ _ _ _ _ _ p' hk'
end
end Pu
namespace Pu
open PySem L2 Rb Gm
section
variable {S T : Sto} {N : Int} {rows : List (List Int)} {ks : List Nat} {y0 y2 y3 y4 y5 y6 y7 y8 y9 y10 y11 y12 y13 y14 y15 : Option D} {De : DEnds}
theorem g0_ok (p : P4 S rows ks) (hk : Nk S N T) (hN : N ≤ 600000) (q : ∀ S' T' y6 y7 y8 y9 y10 y11, P4 S' rows ks → Nk S' (N + 6) T' → De.nx (e28 y0 y2 (some (rowsD rows)) (some (psD ks)) y5 y6 y7 y8 y9 y10 y11 y12 y13 y14 y15) S') :
    g28_1b2b0 (e28 y0 y2 (some (rowsD rows)) (some (psD ks)) y5 y6 y7 y8 y9 y10 y11 y12 y13 y14 y15) S De noE := by
  unfold g28_1b2b0
  refine next_ok (lim := 4) hk (by omega) (by decide) (by decide) fun r S1 r0 r1 k1 => ?_
  refine next_ok (lim := 4) k1 (by omega) (by decide) (by decide) fun o S2 o0 o1 k2 => ?_
  have p2 : P4 S2 rows ks := p.nk hk k2
  show g28_1b2b1 (e28 y0 y2 (some (rowsD rows)) (some (psD ks)) y5 (some (.int r)) (some (.int o)) y8 y9 y10 y11 y12 y13 y14 y15) S2 De noE
  exact g1_ok p2 k2 (by omega) r0 r1 o0 o1 fun S' T' z8 z9 z10 z11 p' hk' => q _ _ _ _ _ _ _ _ p' (hk'.le (by omega))
theorem shw_lst {xs : List D} : ∀ f : Bool, shw (.lst f xs) = shw (.lst true xs) := fun f => by cases f <;> rfl
theorem rows_rep {f : Bool} {Q : QD} (h : ∀ r ∈ rows, Sts r) (l : rows.length ≤ 4) (q : Q (.str (shw (.lst true (rows.map tkD)))) S) : iRepr [.lst f (rows.map tkD)] S Q := by
  have g : Rep 2 124 (.lst f (rows.map tkD)) := Rep.lst (k := 1) (n := 30) (fun x hx => by
    obtain ⟨r, hr, rfl⟩ := List.mem_map.mp hx
    have s := h r hr
    exact Rep.ints (fun i hi => by have := s.sb i hi; omega) (by have := s.n2; omega)) (by rw [List.length_map]; omega)
  refine repr_ok g ?_
  rw [shw_lst]
  exact q
theorem g3b_ok (p : P4 S rows ks) (q : De.nx (e28 y0 y2 (some (rowsD rows)) (some (psD ks)) y5 y6 y7 y8 y9 y10 y11 y12 y13 y14 y15) S) :
    g28_1b3 (e28 y0 y2 (some (rowsD rows)) (some (psD ks)) y5 y6 y7 y8 y9 y10 y11 y12 y13 y14 y15) S De noE := by
  unfold g28_1b3
  have l1 := p.l1
  have l2 := p.l2
  dsimp only [dIfS, dTest, dBin, dB, dCons, dNil, dLc, dItS, dVar]
  refine onS (a := psD ks) rfl ?_
  refine onS (a := ks.map D.cell) rfl ?_
  refine ⟨szd (by rw [List.length_map]; omega), ?_⟩
  refine comp_lst (src := []) (ks.map D.cell) (fun i acc S' => S' = S ∧ acc = (rows.take i).map tkD) ⟨rfl, rfl⟩ ?_ ?_ (fun _ _ _ _ _ h => h)
  · rintro i x acc S' K hx hK ⟨rfl, rfl⟩
    rw [List.getElem?_map] at hx
    obtain ⟨k, hk, rfl⟩ := Option.map_eq_some_iff.mp hx
    have hi : i < rows.length := by have := (List.getElem?_eq_some_iff.mp hk).1; omega
    have er := List.getElem?_eq_getElem hi
    have pk := (p.at_ i _ k er hk).2
    refine ⟨_, rfl, ?_⟩
    refine onS (ins_cell pk) (onS (a := F_Party_starts) rfl (starts_ok27 pk (hK _ _ ⟨rfl, ?_⟩)))
    rw [List.take_add_one, er, List.map_append]
    rfl
  · rintro acc S' ⟨rfl, rfl⟩
    rw [List.length_map, show ks.length = rows.length by omega, List.take_length]
    refine rows_rep p.st (by omega) ?_
    refine onS (a := rowsD rows) rfl ?_
    exact rows_rep p.st (by omega) (ne_str rfl q)
theorem g2_ok (p : P4 S rows ks) (hk : Nk S N T) (hN : N ≤ 500000) (q : ∀ S' T' y5 y6 y7 y8 y9 y10 y11, Nk S' (N + 60) T' → De.nx (e28 y0 y2 (some (rowsD rows)) (some (psD ks)) y5 y6 y7 y8 y9 y10 y11 y12 y13 y14 y15) S') :
    g28_1b2 (e28 y0 y2 (some (rowsD rows)) (some (psD ks)) y5 y6 y7 y8 y9 y10 y11 y12 y13 y14 y15) S De noE := by
  unfold g28_1b2
  refine ⟨⟨by decide, by decide⟩, ?_⟩
  refine for_rng 0 10 (fun i ρ S' => (∃ y5 y6 y7 y8 y9 y10 y11, ρ = e28 y0 y2 (some (rowsD rows)) (some (psD ks)) y5 y6 y7 y8 y9 y10 y11 y12 y13 y14 y15) ∧ P4 S' rows ks ∧ ∃ T', Nk S' (N + 6 * i) T') ⟨⟨_, _, _, _, _, _, _, rfl⟩, p, T, hk.le (by omega)⟩ ?_ ?_
  · rintro i ρ S' K hi hK ⟨⟨z5, z6, z7, z8, z9, z10, z11, rfl⟩, p', T', hk'⟩
    exact g0_ok p' hk' (by omega) fun S2 T2 z6 z7 z8 z9 z10 z11 p2 hk2 => hK _ _ ⟨⟨_, _, _, _, _, _, _, rfl⟩, p2, T2, hk2.le (by omega)⟩
  · rintro ρ S' ⟨⟨z5, z6, z7, z8, z9, z10, z11, rfl⟩, p', T', hk'⟩
    exact g3b_ok p' (q _ _ _ _ _ _ _ _ _ (hk'.le (by omega)))
theorem g1b1_ok (l : rows.length = 4) (hs : ∀ r ∈ rows, Sts r) (hk : Nk S N T) (hN : N ≤ 500000) (q : ∀ ks S' T' y5 y6 y7 y8 y9 y10 y11, Nk S' (N + 60) T' → De.nx (e28 y0 y2 (some (rowsD rows)) (some (psD ks)) y5 y6 y7 y8 y9 y10 y11 y12 y13 y14 y15) S') :
    g28_1b1 (e28 y0 y2 (some (rowsD rows)) y4 y5 y6 y7 y8 y9 y10 y11 y12 y13 y14 y15) S De noE := by
  unfold g28_1b1
  dsimp only [dSeq, dAsg, dLc, dItS, dVar]
  refine onS (a := rowsD rows) rfl ?_
  refine onS (a := rows.map tkD) rfl ?_
  refine ⟨szd (by rw [List.length_map]; omega), ?_⟩
  refine comp_lst (src := []) (rows.map tkD) (fun i acc S' => ∃ ks : List Nat, acc = ks.map D.cell ∧ ks.length = i ∧ (∀ (j : Nat) (r : List Int) (k : Nat), rows[j]? = some r → ks[j]? = some k → 2 ≤ k ∧ PtyAt S' k r) ∧ ∃ T', Nk S' N T') ⟨[], rfl, rfl, (fun j r k _ h => by cases h), T, hk⟩ ?_ ?_ (fun _ _ _ _ _ h => h)
  · rintro i x acc S' K hx hK ⟨ks, rfl, kl, hat, T', hk'⟩
    rw [List.getElem?_map] at hx
    obtain ⟨r, hr, rfl⟩ := Option.map_eq_some_iff.mp hx
    refine ⟨_, rfl, ?_⟩
    refine pty_make (hs r (List.mem_of_getElem? hr)) ⟨rfl, ?_⟩
    refine hK _ _ ⟨ks ++ [S'.length], by rw [List.map_append]; rfl, by rw [List.length_append, kl]; rfl, fun j r' k h1 h2 => ?_, T' ++ [.ins "Party" (ptyF r)], hk'.snoc _⟩
    have gw : Gw S' (S' ++ [.ins "Party" (ptyF r)]) := ⟨_, rfl⟩
    by_cases hj : j < ks.length
    · rw [List.getElem?_append_left hj] at h2
      exact ⟨(hat j r' k h1 h2).1, gw.get (hat j r' k h1 h2).2⟩
    · have jl := (List.getElem?_eq_some_iff.mp h2).1
      rw [List.length_append] at jl
      have jl : j < ks.length + 1 := jl
      have : j = ks.length := by omega
      subst this
      rw [List.getElem?_append_right (Nat.le_refl _), Nat.sub_self] at h2
      cases h2
      rw [kl, hr] at h1
      cases h1
      exact ⟨by rw [hk'.len]; omega, get_new⟩
  · rintro acc S' ⟨ks, rfl, kl, hat, T', hk'⟩
    rw [List.length_map] at kl
    show g28_1b2 (e28 y0 y2 (some (rowsD rows)) (some (psD ks)) y5 y6 y7 y8 y9 y10 y11 y12 y13 y14 y15) S' De noE
    exact g2_ok ⟨l, by omega, hs, hat⟩ hk' hN fun S2 T2 z5 z6 z7 z8 z9 z10 z11 hk2 => q _ _ _ _ _ _ _ _ _ _ hk2
theorem g1b0_ok (hk : Nk S N T) (hN : N ≤ 400000) (q : ∀ S' T' y3 y4 y5 y6 y7 y8 y9 y10 y11, Nk S' (N + 300) T' → De.nx (e28 y0 y2 y3 y4 y5 y6 y7 y8 y9 y10 y11 y12 y13 y14 y15) S') :
    g28_1b0 (e28 y0 y2 y3 y4 y5 y6 y7 y8 y9 y10 y11 y12 y13 y14 y15) S De noE := by
  unfold g28_1b0
  refine ⟨⟨by decide, by decide⟩, szr rfl, ?_⟩
  refine comp_rng (n := 4) (fun m acc S' => ∃ rows : List (List Int), acc = rows.map tkD ∧ rows.length = m ∧ (∀ r ∈ rows, Sts r) ∧ Nk S' (N + 50 * m) T) ⟨[], rfl, rfl, fun r h => absurd h List.not_mem_nil, hk.le (by omega)⟩ ?_ ?_
  · rintro m acc S' K hm hK ⟨rows, rfl, rl, hs, hk'⟩
    obtain ⟨lim, el, l0, l1⟩ : ∃ lim : Int, atI [D.int 10, .int 5, .int 3, .int 7] (0 + (m : Int)) = some (.int lim) ∧ 1 ≤ lim ∧ lim ≤ 10 := by
      have : m = 0 ∨ m = 1 ∨ m = 2 ∨ m = 3 := by omega
      rcases this with rfl | rfl | rfl | rfl
      · exact ⟨10, rfl, by decide, by decide⟩
      · exact ⟨5, rfl, by decide, by decide⟩
      · exact ⟨3, rfl, by decide, by decide⟩
      · exact ⟨7, rfl, by decide, by decide⟩
    refine ⟨szr rfl, ?_⟩
    show onSome (atI [D.int 10, .int 5, .int 3, .int 7] (0 + (m : Int))) _
    refine onS el ?_
    refine ⟨⟨rfl, hk'.bel⟩, starts5_any hk'.take2.1 (by omega) l0 l1 fun st S0 n1 n2 sb d1 ll => ⟨hk'.l2 ll, ?_⟩⟩
    replace d1 := hk'.back d1
    refine hK _ _ ⟨rows ++ [st], by rw [List.map_append]; rfl, by rw [List.length_append, rl]; rfl, fun r hr => ?_, d1.le (by omega)⟩
    rcases List.mem_append.mp hr with h | h
    · exact hs r h
    · rw [List.mem_singleton.mp h]
      exact ⟨n1, by omega, sb⟩
  · rintro acc S' ⟨rows, rfl, rl, hs, hk'⟩
    show g28_1b1 (e28 y0 y2 (some (rowsD rows)) y4 y5 y6 y7 y8 y9 y10 y11 y12 y13 y14 y15) S' De noE
    exact g1b1_ok rl hs hk' (by omega) fun ks S2 T2 z5 z6 z7 z8 z9 z10 z11 hk2 => q _ _ _ _ _ _ _ _ _ _ _ (hk2.le (by omega))
end
end Pu
namespace Pu
open PySem L2 Rb Gm
abbrev full28 : List Int := [0, 1000000, 999999]
theorem full_sts : Sts full28 := ⟨by decide, by decide, by decide⟩
theorem full0 : laterD full28 (.int 0) = .tup [tkD full28, .bl true] := rfl
theorem full1 : laterD full28 (.int 1) = .lst true [.str "late", .int 1000001] := rfl
theorem full2 : laterD full28 (.int 2) = .lst true [.str "late", .int 1000002] := rfl
theorem full3 : laterD full28 (.bl true) = .lst true [.str "ticks", .bl true] := rfl
theorem p6 : (10 : Int) ^ (6 : Int).toNat = 1000000 := by decide
section
variable {S T : Sto} {N : Int} {y0 y2 y3 y4 y5 y6 y7 y8 y9 y10 y11 y12 y13 y14 y15 : Option D} {De : DEnds}
theorem full_gv : Gv 5 2100 (.lst true [laterD full28 (.int 0), laterD full28 (.int 1), laterD full28 (.int 2), laterD full28 (.bl true)]) := Gv.lst (k := 4) (n := 500) (fun x hx => by
  simp only [List.mem_cons, List.not_mem_nil, or_false] at hx
  rcases hx with rfl | rfl | rfl | rfl
  all_goals exact gv_later full_sts (gv_dec rfl (by decide +kernel))) (by show 4 * (500 + 1) ≤ 2100; decide)
theorem r5_ok (q : De.rt (.bl true) S) : g28_5 (e28 y0 y2 y3 y4 y5 y6 y7 (some (.lst true [.tup [tkD full28, .bl true], .lst true [.str "late", .int 1000001], .lst true [.str "late", .int 1000002], .lst true [.str "ticks", .bl true]])) y9 y10 y11 y12 (some (.lst true [laterD full28 (.int 0), laterD full28 (.int 1), laterD full28 (.int 2), laterD full28 (.bl true)])) y14 y15) S De noE := by
  unfold g28_5
  have g := full_gv
  rw [full0, full1, full2, full3] at g ⊢
  refine g.rep ?_
  refine g.rep ?_
  refine eq_str ?_
  rw [decide_eq_true rfl]
  exact q
theorem r4_ok (q : De.rt (.bl true) S) : g28_4 (e28 y0 y2 y3 y4 y5 y6 y7 y8 y9 y10 y11 y12 (some (.lst true [laterD full28 (.int 0), laterD full28 (.int 1), laterD full28 (.int 2), laterD full28 (.bl true)])) y14 y15) S De noE := by
  unfold g28_4
  have key : ∀ a b c d e : Int, a = 1000000 → b = 999999 → c = 1000001 → d = 1000002 → g28_5 (e28 y0 y2 y3 y4 y5 y6 y7 (some (.lst true [.tup [.tup [.int 0, .int a, .int b], .bl true], .lst true [.str "late", .int c], .lst true [.str "late", .int d], .lst true [.str "ticks", .bl true]])) y9 y10 y11 y12 (some (.lst true [laterD full28 (.int 0), laterD full28 (.int 1), laterD full28 (.int 2), laterD full28 (.bl true)])) y14 y15) S De noE := fun a b c d e h1 h2 h3 h4 => by
    subst h1 h2 h3 h4
    exact r5_ok q
  refine ⟨⟨by decide, by decide, by decide⟩, ⟨by decide, by decide, by decide⟩, szr rfl, szr rfl, ⟨by decide, by decide, by decide⟩, szr rfl, ⟨by decide, by decide, by decide⟩, szr rfl, szr rfl, szr rfl, ?_⟩
  exact key ((10 : Int) ^ (6 : Int).toNat) ((10 : Int) ^ (6 : Int).toNat - 1) ((10 : Int) ^ (6 : Int).toNat + 1) ((10 : Int) ^ (6 : Int).toNat + 2) 0 p6 (by rw [p6]; rfl) (by rw [p6]; rfl) (by rw [p6]; rfl)
theorem r3_ok {k : Nat} (p : PtyAt S k full28) (q : ∀ S', De.rt (.bl true) S') : g28_3 (e28 y0 y2 y3 y4 y5 y6 y7 y8 y9 y10 y11 (some (.cell k)) y13 y14 y15) S De noE := by
  unfold g28_3
  refine later28 (v := .int 0) rfl rfl p full_sts fun S1 g1 => ?_
  refine later28 (v := .int 1) rfl rfl (g1.get p) full_sts fun S2 g2 => ?_
  refine later28 (v := .int 2) rfl rfl (g2.get (g1.get p)) full_sts fun S3 g3 => ?_
  refine later28 (v := .bl true) rfl rfl (g3.get (g2.get (g1.get p))) full_sts fun S4 g4 => ?_
  refine ⟨szr rfl, ?_⟩
  exact r4_ok (q S4)
theorem r2_ok (q : ∀ S', De.rt (.bl true) S') : g28_2 (e28 y0 y2 y3 y4 y5 y6 y7 y8 y9 y10 y11 y12 y13 y14 y15) S De noE := by
  unfold g28_2
  have key : ∀ (a b : Int) (Q : QD), a = 1000000 → b = 999999 → Q .non (S ++ [.ins "Party" (ptyF full28)]) → F_Party_init [.cell S.length, .tup [.int 0, .int a, .int b]] (S ++ [.ins "Party" []]) Q noE := fun a b Q h1 h2 hq => by
    subst h1 h2
    exact pty_make (ns := full28) full_sts hq
  refine ⟨⟨by decide, by decide, by decide⟩, ⟨by decide, by decide, by decide⟩, szr rfl, ?_⟩
  refine key ((10 : Int) ^ (6 : Int).toNat) ((10 : Int) ^ (6 : Int).toNat - 1) _ p6 (by rw [p6]; rfl) ⟨rfl, ?_⟩
  exact r3_ok get_new q
end
theorem law_ok : ∀ ns : List Int, ns.length ≤ 63 → F_law_k28 [.kls (ns.map D.int)] [] (fun d _ => d = .bl true) noE := by
  intro ns _
  unfold F_law_k28
  refine ⟨rfl, state_ok fun S dk => ?_⟩
  show g28_1 (e28 (some (.kls (ns.map D.int))) none none none none none none none none none none none none none none) S _ noE
  unfold g28_1
  refine ⟨⟨by decide, by decide⟩, ?_⟩
  refine for_rng 0 8 (fun i ρ S' => (∃ y2 y3 y4 y5 y6 y7 y8 y9 y10 y11 y12 y13 y14 y15, ρ = e28 (some (.kls (ns.map D.int))) y2 y3 y4 y5 y6 y7 y8 y9 y10 y11 y12 y13 y14 y15) ∧ ∃ T, Nk S' (300 * i) T) ⟨⟨_, _, _, _, _, _, _, _, _, _, _, _, _, _, rfl⟩, [], dk.le (by omega)⟩ ?_ ?_
  · rintro i ρ S' K hi hK ⟨⟨y2, y3, y4, y5, y6, y7, y8, y9, y10, y11, y12, y13, y14, y15, rfl⟩, T, hk⟩
    exact g1b0_ok hk (by omega) fun S2 T2 z3 z4 z5 z6 z7 z8 z9 z10 z11 hk2 => hK _ _ ⟨⟨_, _, _, _, _, _, _, _, _, _, _, _, _, _, rfl⟩, T2, hk2.le (by omega)⟩
  · rintro ρ S' ⟨⟨y2, y3, y4, y5, y6, y7, y8, y9, y10, y11, y12, y13, y14, y15, rfl⟩, T, hk⟩
    exact r2_ok fun S2 => rfl
end Pu
namespace Pu
open PySem PySem.Spec PyProof.Rows L2
theorem all_mk {l : PySem.W.OpenLaw} {w : World} {K : PySem.W.Frag} {h : Heap} {mg : Str → Option Value} {fa : Addr} (X : K.In h) (G : h.Ns mainGlobals mg) (hfa : mg "law" = some (.ref fa))
    {C_TripError : Addr}
    (aC_TripError : PySem.W.nsIn K mainGlobals "TripError" = some (some (.ref C_TripError)))
    {C_BadStarts : Addr}
    (aC_BadStarts : PySem.W.nsIn K mainGlobals "BadStarts" = some (some (.ref C_BadStarts)))
    {C_TooManyPeople : Addr}
    (aC_TooManyPeople : PySem.W.nsIn K mainGlobals "TooManyPeople" = some (some (.ref C_TooManyPeople)))
    {C_BadTicks : Addr}
    (aC_BadTicks : PySem.W.nsIn K mainGlobals "BadTicks" = some (some (.ref C_BadTicks)))
    {C_TooLate : Addr}
    (aC_TooLate : PySem.W.nsIn K mainGlobals "TooLate" = some (some (.ref C_TooLate)))
    {C_BadParty : Addr}
    (aC_BadParty : PySem.W.nsIn K mainGlobals "BadParty" = some (some (.ref C_BadParty)))
    {C_Party : Addr}
    (aC_Party : PySem.W.nsIn K mainGlobals "Party" = some (some (.ref C_Party)))
    {f_is_number_from : Addr} {od_is_number_from an_is_number_from : Option Addr} {sl_is_number_from : Array (Option Value)} {oc_is_number_from kV_is_number_from dc_is_number_from pm_is_number_from cd_is_number_from ct_is_number_from : Value}
    (a_is_number_from : PySem.W.nsIn K mainGlobals "is_number_from" = some (some (.ref f_is_number_from)))
    (l_is_number_from : K.lookup f_is_number_from = some ⟨oc_is_number_from, od_is_number_from, .func (PySem.W.fnOf "is_number_from" "is_number_from" (defArgs s_is_number_from) (defBody s_is_number_from) (defScope s_is_number_from) .none kV_is_number_from dc_is_number_from pm_is_number_from an_is_number_from cd_is_number_from ct_is_number_from), sl_is_number_from⟩)
    (c_is_number_from : PySem.W.codeIn K cd_is_number_from "is_number_from" = true)
    (k_is_number_from : PySem.W.keepIn K (.ref f_is_number_from) = true)
    {f_is_starts : Addr} {od_is_starts an_is_starts : Option Addr} {sl_is_starts : Array (Option Value)} {oc_is_starts kV_is_starts dc_is_starts pm_is_starts cd_is_starts ct_is_starts : Value}
    (a_is_starts : PySem.W.nsIn K mainGlobals "is_starts" = some (some (.ref f_is_starts)))
    (l_is_starts : K.lookup f_is_starts = some ⟨oc_is_starts, od_is_starts, .func (PySem.W.fnOf "is_starts" "is_starts" (defArgs s_is_starts) (defBody s_is_starts) (defScope s_is_starts) .none kV_is_starts dc_is_starts pm_is_starts an_is_starts cd_is_starts ct_is_starts), sl_is_starts⟩)
    (c_is_starts : PySem.W.codeIn K cd_is_starts "is_starts" = true)
    (k_is_starts : PySem.W.keepIn K (.ref f_is_starts) = true)
    {f__law_draws : Addr} {od__law_draws an__law_draws : Option Addr} {sl__law_draws : Array (Option Value)} {oc__law_draws kV__law_draws dc__law_draws pm__law_draws cd__law_draws ct__law_draws : Value}
    (a__law_draws : PySem.W.nsIn K mainGlobals "_law_draws" = some (some (.ref f__law_draws)))
    (l__law_draws : K.lookup f__law_draws = some ⟨oc__law_draws, od__law_draws, .func (PySem.W.fnOf "_law_draws" "_law_draws" (defArgs s__law_draws) (defBody s__law_draws) (defScope s__law_draws) .none kV__law_draws dc__law_draws pm__law_draws an__law_draws cd__law_draws ct__law_draws), sl__law_draws⟩)
    (c__law_draws : PySem.W.codeIn K cd__law_draws "_law_draws" = true)
    (k__law_draws : PySem.W.keepIn K (.ref f__law_draws) = true)
    {f__law_next : Addr} {od__law_next an__law_next : Option Addr} {sl__law_next : Array (Option Value)} {oc__law_next kV__law_next dc__law_next pm__law_next cd__law_next ct__law_next : Value}
    (a__law_next : PySem.W.nsIn K mainGlobals "_law_next" = some (some (.ref f__law_next)))
    (l__law_next : K.lookup f__law_next = some ⟨oc__law_next, od__law_next, .func (PySem.W.fnOf "_law_next" "_law_next" (defArgs s__law_next) (defBody s__law_next) (defScope s__law_next) .none kV__law_next dc__law_next pm__law_next an__law_next cd__law_next ct__law_next), sl__law_next⟩)
    (c__law_next : PySem.W.codeIn K cd__law_next "_law_next" = true)
    (k__law_next : PySem.W.keepIn K (.ref f__law_next) = true)
    {f__law_one : Addr} {od__law_one an__law_one : Option Addr} {sl__law_one : Array (Option Value)} {oc__law_one kV__law_one dc__law_one pm__law_one cd__law_one ct__law_one : Value}
    (a__law_one : PySem.W.nsIn K mainGlobals "_law_one" = some (some (.ref f__law_one)))
    (l__law_one : K.lookup f__law_one = some ⟨oc__law_one, od__law_one, .func (PySem.W.fnOf "_law_one" "_law_one" (defArgs s__law_one) (defBody s__law_one) (defScope s__law_one) .none kV__law_one dc__law_one pm__law_one an__law_one cd__law_one ct__law_one), sl__law_one⟩)
    (c__law_one : PySem.W.codeIn K cd__law_one "_law_one" = true)
    (k__law_one : PySem.W.keepIn K (.ref f__law_one) = true)
    {f__law_starts : Addr} {od__law_starts an__law_starts : Option Addr} {sl__law_starts : Array (Option Value)} {oc__law_starts kV__law_starts dc__law_starts pm__law_starts cd__law_starts ct__law_starts : Value}
    (a__law_starts : PySem.W.nsIn K mainGlobals "_law_starts" = some (some (.ref f__law_starts)))
    (l__law_starts : K.lookup f__law_starts = some ⟨oc__law_starts, od__law_starts, .func (PySem.W.fnOf "_law_starts" "_law_starts" (defArgs s__law_starts) (defBody s__law_starts) (defScope s__law_starts) .none kV__law_starts dc__law_starts pm__law_starts an__law_starts cd__law_starts ct__law_starts), sl__law_starts⟩)
    (c__law_starts : PySem.W.codeIn K cd__law_starts "_law_starts" = true)
    (k__law_starts : PySem.W.keepIn K (.ref f__law_starts) = true)
    {f__law_odd : Addr} {od__law_odd an__law_odd : Option Addr} {sl__law_odd : Array (Option Value)} {oc__law_odd kV__law_odd dc__law_odd pm__law_odd cd__law_odd ct__law_odd : Value}
    (a__law_odd : PySem.W.nsIn K mainGlobals "_law_odd" = some (some (.ref f__law_odd)))
    (l__law_odd : K.lookup f__law_odd = some ⟨oc__law_odd, od__law_odd, .func (PySem.W.fnOf "_law_odd" "_law_odd" (defArgs s__law_odd) (defBody s__law_odd) (defScope s__law_odd) .none kV__law_odd dc__law_odd pm__law_odd an__law_odd cd__law_odd ct__law_odd), sl__law_odd⟩)
    (c__law_odd : PySem.W.codeIn K cd__law_odd "_law_odd" = true)
    (k__law_odd : PySem.W.keepIn K (.ref f__law_odd) = true)
    {f__law_word : Addr} {od__law_word an__law_word : Option Addr} {sl__law_word : Array (Option Value)} {oc__law_word kV__law_word dc__law_word pm__law_word cd__law_word ct__law_word : Value}
    (a__law_word : PySem.W.nsIn K mainGlobals "_law_word" = some (some (.ref f__law_word)))
    (l__law_word : K.lookup f__law_word = some ⟨oc__law_word, od__law_word, .func (PySem.W.fnOf "_law_word" "_law_word" (defArgs s__law_word) (defBody s__law_word) (defScope s__law_word) .none kV__law_word dc__law_word pm__law_word an__law_word cd__law_word ct__law_word), sl__law_word⟩)
    (c__law_word : PySem.W.codeIn K cd__law_word "_law_word" = true)
    (k__law_word : PySem.W.keepIn K (.ref f__law_word) = true)
    {f__law_joined : Addr} {od__law_joined an__law_joined : Option Addr} {sl__law_joined : Array (Option Value)} {oc__law_joined kV__law_joined dc__law_joined pm__law_joined cd__law_joined ct__law_joined : Value}
    (a__law_joined : PySem.W.nsIn K mainGlobals "_law_joined" = some (some (.ref f__law_joined)))
    (l__law_joined : K.lookup f__law_joined = some ⟨oc__law_joined, od__law_joined, .func (PySem.W.fnOf "_law_joined" "_law_joined" (defArgs s__law_joined) (defBody s__law_joined) (defScope s__law_joined) .none kV__law_joined dc__law_joined pm__law_joined an__law_joined cd__law_joined ct__law_joined), sl__law_joined⟩)
    (c__law_joined : PySem.W.codeIn K cd__law_joined "_law_joined" = true)
    (k__law_joined : PySem.W.keepIn K (.ref f__law_joined) = true)
    {f__law_later : Addr} {od__law_later an__law_later : Option Addr} {sl__law_later : Array (Option Value)} {oc__law_later kV__law_later dc__law_later pm__law_later cd__law_later ct__law_later : Value}
    (a__law_later : PySem.W.nsIn K mainGlobals "_law_later" = some (some (.ref f__law_later)))
    (l__law_later : K.lookup f__law_later = some ⟨oc__law_later, od__law_later, .func (PySem.W.fnOf "_law_later" "_law_later" (defArgs s__law_later) (defBody s__law_later) (defScope s__law_later) .none kV__law_later dc__law_later pm__law_later an__law_later cd__law_later ct__law_later), sl__law_later⟩)
    (c__law_later : PySem.W.codeIn K cd__law_later "_law_later" = true)
    (k__law_later : PySem.W.keepIn K (.ref f__law_later) = true)
    {f__law_due_later : Addr} {od__law_due_later an__law_due_later : Option Addr} {sl__law_due_later : Array (Option Value)} {oc__law_due_later kV__law_due_later dc__law_due_later pm__law_due_later cd__law_due_later ct__law_due_later : Value}
    (a__law_due_later : PySem.W.nsIn K mainGlobals "_law_due_later" = some (some (.ref f__law_due_later)))
    (l__law_due_later : K.lookup f__law_due_later = some ⟨oc__law_due_later, od__law_due_later, .func (PySem.W.fnOf "_law_due_later" "_law_due_later" (defArgs s__law_due_later) (defBody s__law_due_later) (defScope s__law_due_later) .none kV__law_due_later dc__law_due_later pm__law_due_later an__law_due_later cd__law_due_later ct__law_due_later), sl__law_due_later⟩)
    (c__law_due_later : PySem.W.codeIn K cd__law_due_later "_law_due_later" = true)
    (k__law_due_later : PySem.W.keepIn K (.ref f__law_due_later) = true)
    {f_Party___init__ : Addr} {od_Party___init__ an_Party___init__ : Option Addr} {sl_Party___init__ : Array (Option Value)} {oc_Party___init__ kV_Party___init__ dc_Party___init__ pm_Party___init__ cd_Party___init__ ct_Party___init__ : Value}
    (w_Party___init__ : PySem.W.findIn K (.ref C_Party) "__init__" = some (some (.ref f_Party___init__)))
    (l_Party___init__ : K.lookup f_Party___init__ = some ⟨oc_Party___init__, od_Party___init__, .func (PySem.W.fnOf "__init__" "Party.__init__" (defArgs s_Party___init__) (defBody s_Party___init__) (defScope s_Party___init__) .none kV_Party___init__ dc_Party___init__ pm_Party___init__ an_Party___init__ cd_Party___init__ ct_Party___init__), sl_Party___init__⟩)
    (c_Party___init__ : PySem.W.codeIn K cd_Party___init__ "Party.__init__" = true)
    (k_Party___init__ : PySem.W.keepIn K (.ref f_Party___init__) = true)
    {f_Party_starts : Addr} {od_Party_starts an_Party_starts : Option Addr} {sl_Party_starts : Array (Option Value)} {oc_Party_starts kV_Party_starts dc_Party_starts pm_Party_starts cd_Party_starts ct_Party_starts : Value}
    {p_Party_starts : Addr} {r_Party_starts : List Value}
    (w_Party_starts : PySem.W.findIn K (.ref C_Party) "starts" = some (some (.ref p_Party_starts)))
    (rc_Party_starts : PySem.W.recIn K p_Party_starts "property" = some (.ref f_Party_starts :: r_Party_starts))
    (l_Party_starts : K.lookup f_Party_starts = some ⟨oc_Party_starts, od_Party_starts, .func (PySem.W.fnOf "starts" "Party.starts" (defArgs s_Party_starts) (defBody s_Party_starts) (defScope s_Party_starts) .none kV_Party_starts dc_Party_starts pm_Party_starts an_Party_starts cd_Party_starts ct_Party_starts), sl_Party_starts⟩)
    (c_Party_starts : PySem.W.codeIn K cd_Party_starts "Party.starts" = true)
    (k_Party_starts : PySem.W.keepIn K (.ref f_Party_starts) = true)
    {f_Party___add__ : Addr} {od_Party___add__ an_Party___add__ : Option Addr} {sl_Party___add__ : Array (Option Value)} {oc_Party___add__ kV_Party___add__ dc_Party___add__ pm_Party___add__ cd_Party___add__ ct_Party___add__ : Value}
    (w_Party___add__ : PySem.W.findIn K (.ref C_Party) "__add__" = some (some (.ref f_Party___add__)))
    (l_Party___add__ : K.lookup f_Party___add__ = some ⟨oc_Party___add__, od_Party___add__, .func (PySem.W.fnOf "__add__" "Party.__add__" (defArgs s_Party___add__) (defBody s_Party___add__) (defScope s_Party___add__) .none kV_Party___add__ dc_Party___add__ pm_Party___add__ an_Party___add__ cd_Party___add__ ct_Party___add__), sl_Party___add__⟩)
    (c_Party___add__ : PySem.W.codeIn K cd_Party___add__ "Party.__add__" = true)
    (k_Party___add__ : PySem.W.keepIn K (.ref f_Party___add__) = true)
    {f_Party___rshift__ : Addr} {od_Party___rshift__ an_Party___rshift__ : Option Addr} {sl_Party___rshift__ : Array (Option Value)} {oc_Party___rshift__ kV_Party___rshift__ dc_Party___rshift__ pm_Party___rshift__ cd_Party___rshift__ ct_Party___rshift__ : Value}
    (w_Party___rshift__ : PySem.W.findIn K (.ref C_Party) "__rshift__" = some (some (.ref f_Party___rshift__)))
    (l_Party___rshift__ : K.lookup f_Party___rshift__ = some ⟨oc_Party___rshift__, od_Party___rshift__, .func (PySem.W.fnOf "__rshift__" "Party.__rshift__" (defArgs s_Party___rshift__) (defBody s_Party___rshift__) (defScope s_Party___rshift__) .none kV_Party___rshift__ dc_Party___rshift__ pm_Party___rshift__ an_Party___rshift__ cd_Party___rshift__ ct_Party___rshift__), sl_Party___rshift__⟩)
    (c_Party___rshift__ : PySem.W.codeIn K cd_Party___rshift__ "Party.__rshift__" = true)
    (k_Party___rshift__ : PySem.W.keepIn K (.ref f_Party___rshift__) = true)
    {f_law : Addr} {od_law an_law : Option Addr} {sl_law : Array (Option Value)} {oc_law kV_law dc_law pm_law cd_law ct_law : Value}
    (a_law : PySem.W.nsIn K mainGlobals "law" = some (some (.ref f_law)))
    (l_law : K.lookup f_law = some ⟨oc_law, od_law, .func (PySem.W.fnOf "law" "law" (defArgs s_law) (defBody s_law) (defScope s_law) .none kV_law dc_law pm_law an_law cd_law ct_law), sl_law⟩)
    (c_law : PySem.W.codeIn K cd_law "law" = true)
    (k_law : PySem.W.keepIn K (.ref f_law) = true)
    (pg_Party : PySem.W.plainGet K C_Party Str.empty = true)
    (hd_Party : PySem.W.hasDictIn K C_Party = true)
    (po_Party : PySem.W.plainOver K C_Party = true)
    (sa_Party : PySem.W.findIn K (.ref C_Party) "__setattr__" = some (some (.builtin "object.__setattr__")))
    (na_Party_given : PySem.W.findIn K (.ref C_Party) "given" = some none)
    (na_Party_ordered : PySem.W.findIn K (.ref C_Party) "ordered" = some none)
    (mm_Party : PySem.W.makesIn K C_Party = true)
    (mi_Party : PySem.W.findIn K (.ref C_Party) "__init__" = some (some (.ref f_Party___init__)))
    (mf_Party : PySem.W.isFn K (.ref f_Party___init__) = true)
    (mk_Party : PySem.W.keepIn K (.ref C_Party) = true)
    (pa_Party_starts : PySem.W.findIn K (.ref C_Party) "starts" = some (some (.ref p_Party_starts)))
    (pg2_Party_starts : PySem.W.specialIn K (.ref p_Party_starts) "__get__" = some (some (.builtin "property.__get__")))
    (pt_Party_starts : PySem.W.takesIn K (.ref p_Party_starts) = some true)
    (oa_Party_add : PySem.W.findIn K (.ref C_Party) "__add__" = some (some (.ref f_Party___add__)))
    (ob_Party_add : PySem.W.isFn K (.ref f_Party___add__) = true)
    (oc_Party_add : PySem.W.fnIn K f_Party___add__ = true)
    (od_Party_add : PySem.W.selfFirst K C_Party = true)
    (oa_Party_rshift : PySem.W.findIn K (.ref C_Party) "__rshift__" = some (some (.ref f_Party___rshift__)))
    (ob_Party_rshift : PySem.W.isFn K (.ref f_Party___rshift__) = true)
    (oc_Party_rshift : PySem.W.fnIn K f_Party___rshift__ = true)
    (od_Party_rshift : PySem.W.selfFirst K C_Party = true)
    (oy0_Party_rshift : PySem.W.findIn K (.ref C_Party) "__rrshift__" = some none)
    {fy_NoneType_Party_rshift ry_NoneType_Party_rshift : Option Value}
    (oy1_NoneType_Party_rshift : PySem.W.findIn K (.type "NoneType") "__rshift__" = some fy_NoneType_Party_rshift)
    (oy2_NoneType_Party_rshift : PySem.W.findIn K (.type "NoneType") "__rrshift__" = some ry_NoneType_Party_rshift)
    (oy3_NoneType_Party_rshift : PySem.W.subIn K (.type "NoneType") (.ref C_Party) = some false)
    {fy_bool_Party_rshift ry_bool_Party_rshift : Option Value}
    (oy1_bool_Party_rshift : PySem.W.findIn K (.type "bool") "__rshift__" = some fy_bool_Party_rshift)
    (oy2_bool_Party_rshift : PySem.W.findIn K (.type "bool") "__rrshift__" = some ry_bool_Party_rshift)
    (oy3_bool_Party_rshift : PySem.W.subIn K (.type "bool") (.ref C_Party) = some false)
    {fy_int_Party_rshift ry_int_Party_rshift : Option Value}
    (oy1_int_Party_rshift : PySem.W.findIn K (.type "int") "__rshift__" = some fy_int_Party_rshift)
    (oy2_int_Party_rshift : PySem.W.findIn K (.type "int") "__rrshift__" = some ry_int_Party_rshift)
    (oy3_int_Party_rshift : PySem.W.subIn K (.type "int") (.ref C_Party) = some false)
    {fy_str_Party_rshift ry_str_Party_rshift : Option Value}
    (oy1_str_Party_rshift : PySem.W.findIn K (.type "str") "__rshift__" = some fy_str_Party_rshift)
    (oy2_str_Party_rshift : PySem.W.findIn K (.type "str") "__rrshift__" = some ry_str_Party_rshift)
    (oy3_str_Party_rshift : PySem.W.subIn K (.type "str") (.ref C_Party) = some false)
    {fy_tuple_Party_rshift ry_tuple_Party_rshift : Option Value}
    (oy1_tuple_Party_rshift : PySem.W.findIn K (.type "tuple") "__rshift__" = some fy_tuple_Party_rshift)
    (oy2_tuple_Party_rshift : PySem.W.findIn K (.type "tuple") "__rrshift__" = some ry_tuple_Party_rshift)
    (oy3_tuple_Party_rshift : PySem.W.subIn K (.type "tuple") (.ref C_Party) = some false)
    {fy_dict_Party_rshift ry_dict_Party_rshift : Option Value}
    (oy1_dict_Party_rshift : PySem.W.findIn K (.type "dict") "__rshift__" = some fy_dict_Party_rshift)
    (oy2_dict_Party_rshift : PySem.W.findIn K (.type "dict") "__rrshift__" = some ry_dict_Party_rshift)
    (oy3_dict_Party_rshift : PySem.W.subIn K (.type "dict") (.ref C_Party) = some false)
    {fy_list_Party_rshift ry_list_Party_rshift : Option Value}
    (oy1_list_Party_rshift : PySem.W.findIn K (.type "list") "__rshift__" = some fy_list_Party_rshift)
    (oy2_list_Party_rshift : PySem.W.findIn K (.type "list") "__rrshift__" = some ry_list_Party_rshift)
    (oy3_list_Party_rshift : PySem.W.subIn K (.type "list") (.ref C_Party) = some false)
    (cgE : PySem.W.specialIn K (.builtin "object.__class__") "__get__" = some (some (.builtin "getset_descriptor.__get__")))
    (ctE : PySem.W.takesIn K (.builtin "object.__class__") = some true)
    (ic_Party : PySem.W.findIn K (.ref C_Party) "__class__" = some (some (.builtin "object.__class__")))
    (io_Party : PySem.W.mroIn K C_Party (.type "object") = some true)
    (kc_Party_Party : PySem.W.kitOne K (.ref C_Party) (.ref C_Party) = some true)
    (xmk_BadStarts : PySem.W.excInitIn K C_BadStarts [.type "ValueError", .type "Exception", .type "BaseException", .type "object"] "ValueError.__new__" = true)
    (xov_BadStarts : PySem.W.excOver K C_BadStarts [.type "ValueError", .type "Exception", .type "BaseException", .type "object"] = true)
    (xsa_BadStarts : PySem.W.findIn K (.ref C_BadStarts) "__setattr__" = some (some (.builtin "object.__setattr__")))
    (xga_BadStarts : PySem.W.findIn K (.ref C_BadStarts) "__getattribute__" = some (some (.builtin "BaseException.__getattribute__")))
    (xgg_BadStarts : PySem.W.findIn K (.ref C_BadStarts) "__getattr__" = some none)
    (xnb_BadStarts : PySem.W.findIn K (.ref C_BadStarts) "value" = some none)
    (xcl_BadStarts : PySem.W.findIn K (.ref C_BadStarts) "__class__" = some (some (.builtin "object.__class__")))
    (xco_BadStarts : PySem.W.mroIn K C_BadStarts (.type "object") = some true)
    (xkC_BadStarts : PySem.W.keepIn K (.ref C_BadStarts) = true)
    (xhd_BadStarts : PySem.W.hasDictIn K C_BadStarts = true)
    (xiC_BadStarts : PySem.W.isClsIn K C_BadStarts = true)
    (xtC_BadStarts : PySem.W.typeIn K (.ref C_BadStarts) = some (.type "type"))
    (xeC_BadStarts : PySem.W.subIn K (.ref C_BadStarts) (.type "BaseException") = some true)
    {f_iBadStarts : Addr} {od_iBadStarts an_iBadStarts : Option Addr} {sl_iBadStarts : Array (Option Value)} {oc_iBadStarts kV_iBadStarts dc_iBadStarts pm_iBadStarts cd_iBadStarts ct_iBadStarts : Value}
    (ini_BadStarts : PySem.W.findIn K (.ref C_BadStarts) "__init__" = some (some (.ref f_iBadStarts)))
    (tI_BadStarts : PySem.W.typeIn K (.ref f_iBadStarts) = some (.type "function"))
    (lI_BadStarts : K.lookup f_iBadStarts = some ⟨oc_iBadStarts, od_iBadStarts, .func (PySem.W.fnOf "__init__" "BadStarts.__init__" (defArgs si_BadStarts) (defBody si_BadStarts) (defScope si_BadStarts) .none kV_iBadStarts dc_iBadStarts pm_iBadStarts an_iBadStarts cd_iBadStarts ct_iBadStarts), sl_iBadStarts⟩)
    (cI_BadStarts : PySem.W.codeIn K cd_iBadStarts "BadStarts.__init__" = true)
    (kI_BadStarts : PySem.W.keepIn K (.ref f_iBadStarts) = true)
    (xq_TooManyPeople : PySem.W.excIn K C_TooManyPeople [.type "ValueError", .type "Exception", .type "BaseException", .type "object"] "ValueError.__new__" = true)
    (xsa_TooManyPeople : PySem.W.findIn K (.ref C_TooManyPeople) "__setattr__" = some (some (.builtin "object.__setattr__")))
    (xga_TooManyPeople : PySem.W.findIn K (.ref C_TooManyPeople) "__getattribute__" = some (some (.builtin "BaseException.__getattribute__")))
    (xgg_TooManyPeople : PySem.W.findIn K (.ref C_TooManyPeople) "__getattr__" = some none)
    (xcl_TooManyPeople : PySem.W.findIn K (.ref C_TooManyPeople) "__class__" = some (some (.builtin "object.__class__")))
    (xco_TooManyPeople : PySem.W.mroIn K C_TooManyPeople (.type "object") = some true)
    (xkC_TooManyPeople : PySem.W.keepIn K (.ref C_TooManyPeople) = true)
    (xhd_TooManyPeople : PySem.W.hasDictIn K C_TooManyPeople = true)
    (xiC_TooManyPeople : PySem.W.isClsIn K C_TooManyPeople = true)
    (xtC_TooManyPeople : PySem.W.typeIn K (.ref C_TooManyPeople) = some (.type "type"))
    (xeC_TooManyPeople : PySem.W.subIn K (.ref C_TooManyPeople) (.type "BaseException") = some true)
    (xmk_BadTicks : PySem.W.excInitIn K C_BadTicks [.type "ValueError", .type "Exception", .type "BaseException", .type "object"] "ValueError.__new__" = true)
    (xov_BadTicks : PySem.W.excOver K C_BadTicks [.type "ValueError", .type "Exception", .type "BaseException", .type "object"] = true)
    (xsa_BadTicks : PySem.W.findIn K (.ref C_BadTicks) "__setattr__" = some (some (.builtin "object.__setattr__")))
    (xga_BadTicks : PySem.W.findIn K (.ref C_BadTicks) "__getattribute__" = some (some (.builtin "BaseException.__getattribute__")))
    (xgg_BadTicks : PySem.W.findIn K (.ref C_BadTicks) "__getattr__" = some none)
    (xnb_BadTicks : PySem.W.findIn K (.ref C_BadTicks) "value" = some none)
    (xcl_BadTicks : PySem.W.findIn K (.ref C_BadTicks) "__class__" = some (some (.builtin "object.__class__")))
    (xco_BadTicks : PySem.W.mroIn K C_BadTicks (.type "object") = some true)
    (xkC_BadTicks : PySem.W.keepIn K (.ref C_BadTicks) = true)
    (xhd_BadTicks : PySem.W.hasDictIn K C_BadTicks = true)
    (xiC_BadTicks : PySem.W.isClsIn K C_BadTicks = true)
    (xtC_BadTicks : PySem.W.typeIn K (.ref C_BadTicks) = some (.type "type"))
    (xeC_BadTicks : PySem.W.subIn K (.ref C_BadTicks) (.type "BaseException") = some true)
    {f_iBadTicks : Addr} {od_iBadTicks an_iBadTicks : Option Addr} {sl_iBadTicks : Array (Option Value)} {oc_iBadTicks kV_iBadTicks dc_iBadTicks pm_iBadTicks cd_iBadTicks ct_iBadTicks : Value}
    (ini_BadTicks : PySem.W.findIn K (.ref C_BadTicks) "__init__" = some (some (.ref f_iBadTicks)))
    (tI_BadTicks : PySem.W.typeIn K (.ref f_iBadTicks) = some (.type "function"))
    (lI_BadTicks : K.lookup f_iBadTicks = some ⟨oc_iBadTicks, od_iBadTicks, .func (PySem.W.fnOf "__init__" "BadTicks.__init__" (defArgs si_BadTicks) (defBody si_BadTicks) (defScope si_BadTicks) .none kV_iBadTicks dc_iBadTicks pm_iBadTicks an_iBadTicks cd_iBadTicks ct_iBadTicks), sl_iBadTicks⟩)
    (cI_BadTicks : PySem.W.codeIn K cd_iBadTicks "BadTicks.__init__" = true)
    (kI_BadTicks : PySem.W.keepIn K (.ref f_iBadTicks) = true)
    (xmk_TooLate : PySem.W.excInitIn K C_TooLate [.type "ValueError", .type "Exception", .type "BaseException", .type "object"] "ValueError.__new__" = true)
    (xov_TooLate : PySem.W.excOver K C_TooLate [.type "ValueError", .type "Exception", .type "BaseException", .type "object"] = true)
    (xsa_TooLate : PySem.W.findIn K (.ref C_TooLate) "__setattr__" = some (some (.builtin "object.__setattr__")))
    (xga_TooLate : PySem.W.findIn K (.ref C_TooLate) "__getattribute__" = some (some (.builtin "BaseException.__getattribute__")))
    (xgg_TooLate : PySem.W.findIn K (.ref C_TooLate) "__getattr__" = some none)
    (xnb_TooLate : PySem.W.findIn K (.ref C_TooLate) "tick" = some none)
    (xcl_TooLate : PySem.W.findIn K (.ref C_TooLate) "__class__" = some (some (.builtin "object.__class__")))
    (xco_TooLate : PySem.W.mroIn K C_TooLate (.type "object") = some true)
    (xkC_TooLate : PySem.W.keepIn K (.ref C_TooLate) = true)
    (xhd_TooLate : PySem.W.hasDictIn K C_TooLate = true)
    (xiC_TooLate : PySem.W.isClsIn K C_TooLate = true)
    (xtC_TooLate : PySem.W.typeIn K (.ref C_TooLate) = some (.type "type"))
    (xeC_TooLate : PySem.W.subIn K (.ref C_TooLate) (.type "BaseException") = some true)
    {f_iTooLate : Addr} {od_iTooLate an_iTooLate : Option Addr} {sl_iTooLate : Array (Option Value)} {oc_iTooLate kV_iTooLate dc_iTooLate pm_iTooLate cd_iTooLate ct_iTooLate : Value}
    (ini_TooLate : PySem.W.findIn K (.ref C_TooLate) "__init__" = some (some (.ref f_iTooLate)))
    (tI_TooLate : PySem.W.typeIn K (.ref f_iTooLate) = some (.type "function"))
    (lI_TooLate : K.lookup f_iTooLate = some ⟨oc_iTooLate, od_iTooLate, .func (PySem.W.fnOf "__init__" "TooLate.__init__" (defArgs si_TooLate) (defBody si_TooLate) (defScope si_TooLate) .none kV_iTooLate dc_iTooLate pm_iTooLate an_iTooLate cd_iTooLate ct_iTooLate), sl_iTooLate⟩)
    (cI_TooLate : PySem.W.codeIn K cd_iTooLate "TooLate.__init__" = true)
    (kI_TooLate : PySem.W.keepIn K (.ref f_iTooLate) = true)
    (kx_BadTicks_BadParty : PySem.W.kitOne K (.ref C_BadTicks) (.ref C_BadParty) = some false)
    (kx_BadTicks_BadStarts : PySem.W.kitOne K (.ref C_BadTicks) (.ref C_BadStarts) = some false)
    (kx_BadTicks_BadTicks : PySem.W.kitOne K (.ref C_BadTicks) (.ref C_BadTicks) = some true)
    (kx_BadTicks_LookupError : PySem.W.kitOne K (.ref C_BadTicks) (.type "LookupError") = some false)
    (kx_BadTicks_TooLate : PySem.W.kitOne K (.ref C_BadTicks) (.ref C_TooLate) = some false)
    (kx_BadTicks_TooManyPeople : PySem.W.kitOne K (.ref C_BadTicks) (.ref C_TooManyPeople) = some false)
    (kx_TooLate_BadParty : PySem.W.kitOne K (.ref C_TooLate) (.ref C_BadParty) = some false)
    (kx_TooLate_BadStarts : PySem.W.kitOne K (.ref C_TooLate) (.ref C_BadStarts) = some false)
    (kx_TooLate_BadTicks : PySem.W.kitOne K (.ref C_TooLate) (.ref C_BadTicks) = some false)
    (kx_TooLate_LookupError : PySem.W.kitOne K (.ref C_TooLate) (.type "LookupError") = some false)
    (kx_TooLate_TooLate : PySem.W.kitOne K (.ref C_TooLate) (.ref C_TooLate) = some true)
    (kx_TooLate_TooManyPeople : PySem.W.kitOne K (.ref C_TooLate) (.ref C_TooManyPeople) = some false)
    (kx_TooManyPeople_BadParty : PySem.W.kitOne K (.ref C_TooManyPeople) (.ref C_BadParty) = some false)
    (kx_TooManyPeople_BadStarts : PySem.W.kitOne K (.ref C_TooManyPeople) (.ref C_BadStarts) = some false)
    (kx_TooManyPeople_BadTicks : PySem.W.kitOne K (.ref C_TooManyPeople) (.ref C_BadTicks) = some false)
    (kx_TooManyPeople_LookupError : PySem.W.kitOne K (.ref C_TooManyPeople) (.type "LookupError") = some false)
    (kx_TooManyPeople_TooLate : PySem.W.kitOne K (.ref C_TooManyPeople) (.ref C_TooLate) = some false)
    (kx_TooManyPeople_TooManyPeople : PySem.W.kitOne K (.ref C_TooManyPeople) (.ref C_TooManyPeople) = some true)
    (ex_BadTicks_TripError : PySem.W.exmOne K (.ref C_BadTicks) (.ref C_TripError) = some true)
    (ex_TooLate_TripError : PySem.W.exmOne K (.ref C_TooLate) (.ref C_TripError) = some true)
    (ex_TooManyPeople_TripError : PySem.W.exmOne K (.ref C_TooManyPeople) (.ref C_TripError) = some true)
    {t_MAX_PEOPLE : Tok}
    (v_MAX_PEOPLE : PySem.W.nsIn K mainGlobals "MAX_PEOPLE" = some (some (.int 10 t_MAX_PEOPLE)))
    {t_MAX_START : Tok}
    (v_MAX_START : PySem.W.nsIn K mainGlobals "MAX_START" = some (some (.int 1000000 t_MAX_START)))
    (z_LookupError : PySem.W.nsIn K mainGlobals "LookupError" = some none)
    (z_NotImplemented : PySem.W.nsIn K mainGlobals "NotImplemented" = some none)
    (z_abs : PySem.W.nsIn K mainGlobals "abs" = some none)
    (z_bool : PySem.W.nsIn K mainGlobals "bool" = some none)
    (z_int : PySem.W.nsIn K mainGlobals "int" = some none)
    (z_isinstance : PySem.W.nsIn K mainGlobals "isinstance" = some none)
    (z_len : PySem.W.nsIn K mainGlobals "len" = some none)
    (z_range : PySem.W.nsIn K mainGlobals "range" = some none)
    (z_repr : PySem.W.nsIn K mainGlobals "repr" = some none)
    (z_sorted : PySem.W.nsIn K mainGlobals "sorted" = some none)
    (z_tuple : PySem.W.nsIn K mainGlobals "tuple" = some none)
    : ∃ fd : FuncData, (∀ (s : Shared) (v : Value), BindsTo s fd ⟨[v], []⟩ [("_law_script", v)]) ∧ ∀ base : Heap, K.In base → base.Ns mainGlobals mg → Rb.FnG l.prog w K mg base CX0 8 fa fd ["_law_script"] (spF (Pu.ct0 K mg) F_law_k28) := by
  cases hfa.symm.trans (PySem.W.mg_of X G a_law)
  have F_is_number_from := fun_mk (st := s_is_number_from) l_is_number_from c_is_number_from k_is_number_from
  have b_is_number_from := F_is_number_from.binds (ps := ["value", "least", "most"]) fun _ _ _ _ _ _ us hl => match us, hl with | [_, _, _], _ => rfl
  have F_is_starts := fun_mk (st := s_is_starts) l_is_starts c_is_starts k_is_starts
  have b_is_starts := F_is_starts.binds (ps := ["value"]) fun _ _ _ _ _ _ us hl => match us, hl with | [_], _ => rfl
  have F__law_draws := fun_mk (st := s__law_draws) l__law_draws c__law_draws k__law_draws
  have b__law_draws := F__law_draws.binds (ps := ["_law_script"]) fun _ _ _ _ _ _ us hl => match us, hl with | [_], _ => rfl
  have F__law_next := fun_mk (st := s__law_next) l__law_next c__law_next k__law_next
  have b__law_next := F__law_next.binds (ps := ["_law_state", "_law_many"]) fun _ _ _ _ _ _ us hl => match us, hl with | [_, _], _ => rfl
  have F__law_one := fun_mk (st := s__law_one) l__law_one c__law_one k__law_one
  have b__law_one := F__law_one.binds (ps := ["_law_state", "_law_items"]) fun _ _ _ _ _ _ us hl => match us, hl with | [_, _], _ => rfl
  have F__law_starts := fun_mk (st := s__law_starts) l__law_starts c__law_starts k__law_starts
  have b__law_starts := F__law_starts.binds (ps := ["_law_state", "_law_most"]) fun _ _ _ _ _ _ us hl => match us, hl with | [_, _], _ => rfl
  have F__law_odd := fun_mk (st := s__law_odd) l__law_odd c__law_odd k__law_odd
  have b__law_odd := F__law_odd.binds (ps := ["_law_state"]) fun _ _ _ _ _ _ us hl => match us, hl with | [_], _ => rfl
  have F__law_word := fun_mk (st := s__law_word) l__law_word c__law_word k__law_word
  have b__law_word := F__law_word.binds (ps := ["_law_error"]) fun _ _ _ _ _ _ us hl => match us, hl with | [_], _ => rfl
  have F__law_joined := fun_mk (st := s__law_joined) l__law_joined c__law_joined k__law_joined
  have b__law_joined := F__law_joined.binds (ps := ["_law_one_here", "_law_other"]) fun _ _ _ _ _ _ us hl => match us, hl with | [_, _], _ => rfl
  have F__law_later := fun_mk (st := s__law_later) l__law_later c__law_later k__law_later
  have b__law_later := F__law_later.binds (ps := ["_law_party", "_law_value"]) fun _ _ _ _ _ _ us hl => match us, hl with | [_, _], _ => rfl
  have F__law_due_later := fun_mk (st := s__law_due_later) l__law_due_later c__law_due_later k__law_due_later
  have b__law_due_later := F__law_due_later.binds (ps := ["_law_starts_here", "_law_value"]) fun _ _ _ _ _ _ us hl => match us, hl with | [_, _], _ => rfl
  have F_Party___init__ := fun_mk (st := s_Party___init__) l_Party___init__ c_Party___init__ k_Party___init__
  have b_Party___init__ := F_Party___init__.binds (ps := ["self", "starts"]) fun _ _ _ _ _ _ us hl => match us, hl with | [_, _], _ => rfl
  have F_Party_starts := fun_mk (st := s_Party_starts) l_Party_starts c_Party_starts k_Party_starts
  have b_Party_starts := F_Party_starts.binds (ps := ["self"]) fun _ _ _ _ _ _ us hl => match us, hl with | [_], _ => rfl
  have F_Party___add__ := fun_mk (st := s_Party___add__) l_Party___add__ c_Party___add__ k_Party___add__
  have b_Party___add__ := F_Party___add__.binds (ps := ["self", "other"]) fun _ _ _ _ _ _ us hl => match us, hl with | [_, _], _ => rfl
  have F_Party___rshift__ := fun_mk (st := s_Party___rshift__) l_Party___rshift__ c_Party___rshift__ k_Party___rshift__
  have b_Party___rshift__ := F_Party___rshift__.binds (ps := ["self", "other"]) fun _ _ _ _ _ _ us hl => match us, hl with | [_, _], _ => rfl
  have F_law := fun_mk (st := s_law) l_law c_law k_law
  have b_law := F_law.binds (ps := ["_law_script"]) fun _ _ _ _ _ _ us hl => match us, hl with | [_], _ => rfl
  have cl_Party : Cls K C_Party := ⟨pg_Party, hd_Party, po_Party, sa_Party⟩
  have E_BadStarts : OwnI K C_BadStarts := ⟨⟨xga_BadStarts, xgg_BadStarts, xeC_BadStarts, xhd_BadStarts⟩, xiC_BadStarts, xcl_BadStarts, cgE, ctE, xco_BadStarts⟩
  have L_BadStarts : ErrC K C_BadStarts [.type "ValueError", .type "Exception", .type "BaseException", .type "object"] "ValueError.__new__" := ⟨xmk_BadStarts, xov_BadStarts, xhd_BadStarts, xsa_BadStarts, xeC_BadStarts, xtC_BadStarts, xkC_BadStarts⟩
  have FI_BadStarts := fun_mk (st := si_BadStarts) lI_BadStarts cI_BadStarts kI_BadStarts
  have bI_BadStarts := FI_BadStarts.binds (ps := ["self", "value"]) fun _ _ _ _ _ _ us hl => match us, hl with | [_, _], _ => rfl
  have E_TooManyPeople : OwnI K C_TooManyPeople := ⟨⟨xga_TooManyPeople, xgg_TooManyPeople, xeC_TooManyPeople, xhd_TooManyPeople⟩, xiC_TooManyPeople, xcl_TooManyPeople, cgE, ctE, xco_TooManyPeople⟩
  have E_BadTicks : OwnI K C_BadTicks := ⟨⟨xga_BadTicks, xgg_BadTicks, xeC_BadTicks, xhd_BadTicks⟩, xiC_BadTicks, xcl_BadTicks, cgE, ctE, xco_BadTicks⟩
  have L_BadTicks : ErrC K C_BadTicks [.type "ValueError", .type "Exception", .type "BaseException", .type "object"] "ValueError.__new__" := ⟨xmk_BadTicks, xov_BadTicks, xhd_BadTicks, xsa_BadTicks, xeC_BadTicks, xtC_BadTicks, xkC_BadTicks⟩
  have FI_BadTicks := fun_mk (st := si_BadTicks) lI_BadTicks cI_BadTicks kI_BadTicks
  have bI_BadTicks := FI_BadTicks.binds (ps := ["self", "value"]) fun _ _ _ _ _ _ us hl => match us, hl with | [_, _], _ => rfl
  have E_TooLate : OwnI K C_TooLate := ⟨⟨xga_TooLate, xgg_TooLate, xeC_TooLate, xhd_TooLate⟩, xiC_TooLate, xcl_TooLate, cgE, ctE, xco_TooLate⟩
  have L_TooLate : ErrC K C_TooLate [.type "ValueError", .type "Exception", .type "BaseException", .type "object"] "ValueError.__new__" := ⟨xmk_TooLate, xov_TooLate, xhd_TooLate, xsa_TooLate, xeC_TooLate, xtC_TooLate, xkC_TooLate⟩
  have FI_TooLate := fun_mk (st := si_TooLate) lI_TooLate cI_TooLate kI_TooLate
  have bI_TooLate := FI_TooLate.binds (ps := ["self", "tick"]) fun _ _ _ _ _ _ us hl => match us, hl with | [_, _], _ => rfl
  exact ⟨_, fun s v => .of_eq rfl, fun base _ _ => G_law (⟨_, _, F_is_number_from, PySem.W.mg_of X G a_is_number_from, b_is_number_from, _, _, F_is_starts, PySem.W.mg_of X G a_is_starts, b_is_starts, _, _, F__law_draws, PySem.W.mg_of X G a__law_draws, b__law_draws, _, _, F__law_next, PySem.W.mg_of X G a__law_next, b__law_next, _, _, F__law_one, PySem.W.mg_of X G a__law_one, b__law_one, _, _, F__law_starts, PySem.W.mg_of X G a__law_starts, b__law_starts, _, _, F__law_odd, PySem.W.mg_of X G a__law_odd, b__law_odd, _, _, F__law_word, PySem.W.mg_of X G a__law_word, b__law_word, _, _, F__law_joined, PySem.W.mg_of X G a__law_joined, b__law_joined, _, _, F__law_later, PySem.W.mg_of X G a__law_later, b__law_later, _, _, F__law_due_later, PySem.W.mg_of X G a__law_due_later, b__law_due_later, _, _, F_Party___init__, b_Party___init__, _, _, F_Party_starts, b_Party_starts, _, _, F_Party___add__, b_Party___add__, _, _, F_Party___rshift__, b_Party___rshift__, _, _, F_law, PySem.W.mg_of X G a_law, b_law, _, PySem.W.mg_of X G aC_TripError, _, PySem.W.mg_of X G aC_BadStarts, _, PySem.W.mg_of X G aC_TooManyPeople, _, PySem.W.mg_of X G aC_BadTicks, _, PySem.W.mg_of X G aC_TooLate, _, PySem.W.mg_of X G aC_BadParty, _, PySem.W.mg_of X G aC_Party, cl_Party, na_Party_given, na_Party_ordered, ⟨mm_Party, mi_Party, mf_Party, mk_Party⟩, _, ⟨pa_Party_starts, pg2_Party_starts, pt_Party_starts, _, rc_Party_starts⟩, ⟨cl_Party, ic_Party, cgE, ctE, io_Party⟩, kc_Party_Party, oa_Party_add, ob_Party_add, oc_Party_add, od_Party_add, oa_Party_rshift, ob_Party_rshift, oc_Party_rshift, od_Party_rshift, opany_of (PySem.W.mg_of X G aC_Party) oy0_Party_rshift ⟨⟨_, _, oy1_NoneType_Party_rshift, oy2_NoneType_Party_rshift⟩, oy3_NoneType_Party_rshift⟩ ⟨⟨_, _, oy1_bool_Party_rshift, oy2_bool_Party_rshift⟩, oy3_bool_Party_rshift⟩ ⟨⟨_, _, oy1_int_Party_rshift, oy2_int_Party_rshift⟩, oy3_int_Party_rshift⟩ ⟨⟨_, _, oy1_str_Party_rshift, oy2_str_Party_rshift⟩, oy3_str_Party_rshift⟩ ⟨⟨_, _, oy1_tuple_Party_rshift, oy2_tuple_Party_rshift⟩, oy3_tuple_Party_rshift⟩ ⟨⟨_, _, oy1_dict_Party_rshift, oy2_dict_Party_rshift⟩, oy3_dict_Party_rshift⟩ ⟨⟨_, _, oy1_list_Party_rshift, oy2_list_Party_rshift⟩, oy3_list_Party_rshift⟩, E_BadStarts, L_BadStarts, xnb_BadStarts, _, _, ini_BadStarts, tI_BadStarts, FI_BadStarts, bI_BadStarts, E_TooManyPeople, xq_TooManyPeople, xkC_TooManyPeople, xeC_TooManyPeople, xtC_TooManyPeople, E_BadTicks, L_BadTicks, xnb_BadTicks, _, _, ini_BadTicks, tI_BadTicks, FI_BadTicks, bI_BadTicks, E_TooLate, L_TooLate, xnb_TooLate, _, _, ini_TooLate, tI_TooLate, FI_TooLate, bI_TooLate, xi_own (PySem.W.mg_of X G aC_BadTicks) E_BadTicks (PySem.W.mg_of X G aC_BadParty) kx_BadTicks_BadParty, xi_own (PySem.W.mg_of X G aC_BadTicks) E_BadTicks (PySem.W.mg_of X G aC_BadStarts) kx_BadTicks_BadStarts, xi_own (PySem.W.mg_of X G aC_BadTicks) E_BadTicks (PySem.W.mg_of X G aC_BadTicks) kx_BadTicks_BadTicks, xi_ty (PySem.W.mg_of X G aC_BadTicks) E_BadTicks (PySem.W.mg_none_of X G z_LookupError) (by decide +kernel) kx_BadTicks_LookupError, xi_own (PySem.W.mg_of X G aC_BadTicks) E_BadTicks (PySem.W.mg_of X G aC_TooLate) kx_BadTicks_TooLate, xi_own (PySem.W.mg_of X G aC_BadTicks) E_BadTicks (PySem.W.mg_of X G aC_TooManyPeople) kx_BadTicks_TooManyPeople, xi_own (PySem.W.mg_of X G aC_TooLate) E_TooLate (PySem.W.mg_of X G aC_BadParty) kx_TooLate_BadParty, xi_own (PySem.W.mg_of X G aC_TooLate) E_TooLate (PySem.W.mg_of X G aC_BadStarts) kx_TooLate_BadStarts, xi_own (PySem.W.mg_of X G aC_TooLate) E_TooLate (PySem.W.mg_of X G aC_BadTicks) kx_TooLate_BadTicks, xi_ty (PySem.W.mg_of X G aC_TooLate) E_TooLate (PySem.W.mg_none_of X G z_LookupError) (by decide +kernel) kx_TooLate_LookupError, xi_own (PySem.W.mg_of X G aC_TooLate) E_TooLate (PySem.W.mg_of X G aC_TooLate) kx_TooLate_TooLate, xi_own (PySem.W.mg_of X G aC_TooLate) E_TooLate (PySem.W.mg_of X G aC_TooManyPeople) kx_TooLate_TooManyPeople, xi_own (PySem.W.mg_of X G aC_TooManyPeople) E_TooManyPeople (PySem.W.mg_of X G aC_BadParty) kx_TooManyPeople_BadParty, xi_own (PySem.W.mg_of X G aC_TooManyPeople) E_TooManyPeople (PySem.W.mg_of X G aC_BadStarts) kx_TooManyPeople_BadStarts, xi_own (PySem.W.mg_of X G aC_TooManyPeople) E_TooManyPeople (PySem.W.mg_of X G aC_BadTicks) kx_TooManyPeople_BadTicks, xi_ty (PySem.W.mg_of X G aC_TooManyPeople) E_TooManyPeople (PySem.W.mg_none_of X G z_LookupError) (by decide +kernel) kx_TooManyPeople_LookupError, xi_own (PySem.W.mg_of X G aC_TooManyPeople) E_TooManyPeople (PySem.W.mg_of X G aC_TooLate) kx_TooManyPeople_TooLate, xi_own (PySem.W.mg_of X G aC_TooManyPeople) E_TooManyPeople (PySem.W.mg_of X G aC_TooManyPeople) kx_TooManyPeople_TooManyPeople, ex_BadTicks_TripError, ex_TooLate_TripError, ex_TooManyPeople_TripError, _, PySem.W.mg_of X G v_MAX_PEOPLE, _, PySem.W.mg_of X G v_MAX_START, PySem.W.mg_none_of X G z_LookupError, PySem.W.mg_none_of X G z_NotImplemented, PySem.W.mg_none_of X G z_abs, PySem.W.mg_none_of X G z_bool, PySem.W.mg_none_of X G z_int, PySem.W.mg_none_of X G z_isinstance, PySem.W.mg_none_of X G z_len, PySem.W.mg_none_of X G z_range, PySem.W.mg_none_of X G z_repr, PySem.W.mg_none_of X G z_sorted, PySem.W.mg_none_of X G z_tuple⟩ : Tx K mg)⟩
end Pu
open PySem PySem.W PyProof.Rows
set_option maxHeartbeats 0 in
theorem PySem.Challenge.cw_roadbikes_k28_parties_joined_and_later_holds : PySem.Challenge.rw_roadbikes_k28_parties_joined_and_later.Holds := by
  w_on; o_law; k_head; (case hw => w_witness2)
  k_fill
  refine Pu.endP (l := PySem.Challenge.rw_roadbikes_k28_parties_joined_and_later) (n := 63) (lv := 8) (x := "_law_script") (FL := Pu.F_law_k28) rfl (by decide) rfl ⟨rfl, by decide, by decide⟩ (fun w h Y => PySem.W.kIn_of Y) ?F Pu.law_ok
  case F =>
    intro w mg fa h KX G hmg
    refine' Pu.all_mk KX G hmg ?aC_TripError ?aC_BadStarts ?aC_TooManyPeople ?aC_BadTicks ?aC_TooLate ?aC_BadParty ?aC_Party ?a_is_number_from ?l_is_number_from ?c_is_number_from ?k_is_number_from ?a_is_starts ?l_is_starts ?c_is_starts ?k_is_starts ?a__law_draws ?l__law_draws ?c__law_draws ?k__law_draws ?a__law_next ?l__law_next ?c__law_next ?k__law_next ?a__law_one ?l__law_one ?c__law_one ?k__law_one ?a__law_starts ?l__law_starts ?c__law_starts ?k__law_starts ?a__law_odd ?l__law_odd ?c__law_odd ?k__law_odd ?a__law_word ?l__law_word ?c__law_word ?k__law_word ?a__law_joined ?l__law_joined ?c__law_joined ?k__law_joined ?a__law_later ?l__law_later ?c__law_later ?k__law_later ?a__law_due_later ?l__law_due_later ?c__law_due_later ?k__law_due_later ?w_Party___init__ ?l_Party___init__ ?c_Party___init__ ?k_Party___init__ ?w_Party_starts ?rc_Party_starts ?l_Party_starts ?c_Party_starts ?k_Party_starts ?w_Party___add__ ?l_Party___add__ ?c_Party___add__ ?k_Party___add__ ?w_Party___rshift__ ?l_Party___rshift__ ?c_Party___rshift__ ?k_Party___rshift__ ?a_law ?l_law ?c_law ?k_law ?pg_Party ?hd_Party ?po_Party ?sa_Party ?na_Party_given ?na_Party_ordered ?mm_Party ?mi_Party ?mf_Party ?mk_Party ?pa_Party_starts ?pg2_Party_starts ?pt_Party_starts ?oa_Party_add ?ob_Party_add ?oc_Party_add ?od_Party_add ?oa_Party_rshift ?ob_Party_rshift ?oc_Party_rshift ?od_Party_rshift ?oy0_Party_rshift ?oy1_NoneType_Party_rshift ?oy2_NoneType_Party_rshift ?oy3_NoneType_Party_rshift ?oy1_bool_Party_rshift ?oy2_bool_Party_rshift ?oy3_bool_Party_rshift ?oy1_int_Party_rshift ?oy2_int_Party_rshift ?oy3_int_Party_rshift ?oy1_str_Party_rshift ?oy2_str_Party_rshift ?oy3_str_Party_rshift ?oy1_tuple_Party_rshift ?oy2_tuple_Party_rshift ?oy3_tuple_Party_rshift ?oy1_dict_Party_rshift ?oy2_dict_Party_rshift ?oy3_dict_Party_rshift ?oy1_list_Party_rshift ?oy2_list_Party_rshift ?oy3_list_Party_rshift ?cgE ?ctE ?ic_Party ?io_Party ?kc_Party_Party ?xmk_BadStarts ?xov_BadStarts ?xsa_BadStarts ?xga_BadStarts ?xgg_BadStarts ?xnb_BadStarts ?xcl_BadStarts ?xco_BadStarts ?xkC_BadStarts ?xhd_BadStarts ?xiC_BadStarts ?xtC_BadStarts ?xeC_BadStarts ?ini_BadStarts ?tI_BadStarts ?lI_BadStarts ?cI_BadStarts ?kI_BadStarts ?xq_TooManyPeople ?xsa_TooManyPeople ?xga_TooManyPeople ?xgg_TooManyPeople ?xcl_TooManyPeople ?xco_TooManyPeople ?xkC_TooManyPeople ?xhd_TooManyPeople ?xiC_TooManyPeople ?xtC_TooManyPeople ?xeC_TooManyPeople ?xmk_BadTicks ?xov_BadTicks ?xsa_BadTicks ?xga_BadTicks ?xgg_BadTicks ?xnb_BadTicks ?xcl_BadTicks ?xco_BadTicks ?xkC_BadTicks ?xhd_BadTicks ?xiC_BadTicks ?xtC_BadTicks ?xeC_BadTicks ?ini_BadTicks ?tI_BadTicks ?lI_BadTicks ?cI_BadTicks ?kI_BadTicks ?xmk_TooLate ?xov_TooLate ?xsa_TooLate ?xga_TooLate ?xgg_TooLate ?xnb_TooLate ?xcl_TooLate ?xco_TooLate ?xkC_TooLate ?xhd_TooLate ?xiC_TooLate ?xtC_TooLate ?xeC_TooLate ?ini_TooLate ?tI_TooLate ?lI_TooLate ?cI_TooLate ?kI_TooLate ?kx_BadTicks_BadParty ?kx_BadTicks_BadStarts ?kx_BadTicks_BadTicks ?kx_BadTicks_LookupError ?kx_BadTicks_TooLate ?kx_BadTicks_TooManyPeople ?kx_TooLate_BadParty ?kx_TooLate_BadStarts ?kx_TooLate_BadTicks ?kx_TooLate_LookupError ?kx_TooLate_TooLate ?kx_TooLate_TooManyPeople ?kx_TooManyPeople_BadParty ?kx_TooManyPeople_BadStarts ?kx_TooManyPeople_BadTicks ?kx_TooManyPeople_LookupError ?kx_TooManyPeople_TooLate ?kx_TooManyPeople_TooManyPeople ?ex_BadTicks_TripError ?ex_TooLate_TripError ?ex_TooManyPeople_TripError ?v_MAX_PEOPLE ?v_MAX_START ?z_LookupError ?z_NotImplemented ?z_abs ?z_bool ?z_int ?z_isinstance ?z_len ?z_range ?z_repr ?z_sorted ?z_tuple
    (case aC_TripError => k_is); (case aC_BadStarts => k_is); (case aC_TooManyPeople => k_is); (case aC_BadTicks => k_is); (case aC_TooLate => k_is); (case aC_BadParty => k_is); (case aC_Party => k_is); (case a_is_number_from => k_is); (case l_is_number_from => k_is); (case c_is_number_from => k_is); (case k_is_number_from => k_is); (case a_is_starts => k_is); (case l_is_starts => k_is); (case c_is_starts => k_is); (case k_is_starts => k_is); (case a__law_draws => k_is); (case l__law_draws => k_is); (case c__law_draws => k_is); (case k__law_draws => k_is); (case a__law_next => k_is); (case l__law_next => k_is); (case c__law_next => k_is); (case k__law_next => k_is); (case a__law_one => k_is); (case l__law_one => k_is); (case c__law_one => k_is); (case k__law_one => k_is); (case a__law_starts => k_is); (case l__law_starts => k_is); (case c__law_starts => k_is); (case k__law_starts => k_is); (case a__law_odd => k_is); (case l__law_odd => k_is); (case c__law_odd => k_is); (case k__law_odd => k_is); (case a__law_word => k_is); (case l__law_word => k_is); (case c__law_word => k_is); (case k__law_word => k_is); (case a__law_joined => k_is); (case l__law_joined => k_is); (case c__law_joined => k_is); (case k__law_joined => k_is); (case a__law_later => k_is); (case l__law_later => k_is); (case c__law_later => k_is); (case k__law_later => k_is); (case a__law_due_later => k_is); (case l__law_due_later => k_is); (case c__law_due_later => k_is); (case k__law_due_later => k_is); (case w_Party___init__ => k_is); (case l_Party___init__ => k_is); (case c_Party___init__ => k_is); (case k_Party___init__ => k_is); (case w_Party_starts => k_is); (case rc_Party_starts => k_is); (case l_Party_starts => k_is); (case c_Party_starts => k_is); (case k_Party_starts => k_is); (case w_Party___add__ => k_is); (case l_Party___add__ => k_is); (case c_Party___add__ => k_is); (case k_Party___add__ => k_is); (case w_Party___rshift__ => k_is); (case l_Party___rshift__ => k_is); (case c_Party___rshift__ => k_is); (case k_Party___rshift__ => k_is); (case a_law => k_is); (case l_law => k_is); (case c_law => k_is); (case k_law => k_is); (case pg_Party => k_is); (case hd_Party => k_is); (case po_Party => k_is); (case sa_Party => k_is); (case na_Party_given => k_is); (case na_Party_ordered => k_is); (case mm_Party => k_is); (case mi_Party => k_is); (case mf_Party => k_is); (case mk_Party => k_is); (case pa_Party_starts => k_is); (case pg2_Party_starts => k_is); (case pt_Party_starts => k_is); (case oa_Party_add => k_is); (case ob_Party_add => k_is); (case oc_Party_add => k_is); (case od_Party_add => k_is); (case oa_Party_rshift => k_is); (case ob_Party_rshift => k_is); (case oc_Party_rshift => k_is); (case od_Party_rshift => k_is); (case oy0_Party_rshift => k_is); (case oy1_NoneType_Party_rshift => k_is); (case oy2_NoneType_Party_rshift => k_is); (case oy3_NoneType_Party_rshift => k_is); (case oy1_bool_Party_rshift => k_is); (case oy2_bool_Party_rshift => k_is); (case oy3_bool_Party_rshift => k_is); (case oy1_int_Party_rshift => k_is); (case oy2_int_Party_rshift => k_is); (case oy3_int_Party_rshift => k_is); (case oy1_str_Party_rshift => k_is); (case oy2_str_Party_rshift => k_is); (case oy3_str_Party_rshift => k_is); (case oy1_tuple_Party_rshift => k_is); (case oy2_tuple_Party_rshift => k_is); (case oy3_tuple_Party_rshift => k_is); (case oy1_dict_Party_rshift => k_is); (case oy2_dict_Party_rshift => k_is); (case oy3_dict_Party_rshift => k_is); (case oy1_list_Party_rshift => k_is); (case oy2_list_Party_rshift => k_is); (case oy3_list_Party_rshift => k_is); (case cgE => k_is); (case ctE => k_is); (case ic_Party => k_is); (case io_Party => k_is); (case kc_Party_Party => kit_is); (case xmk_BadStarts => kx_is); (case xov_BadStarts => kx_is); (case xsa_BadStarts => k_is); (case xga_BadStarts => k_is); (case xgg_BadStarts => k_is); (case xnb_BadStarts => k_is); (case xcl_BadStarts => k_is); (case xco_BadStarts => k_is); (case xkC_BadStarts => k_is); (case xhd_BadStarts => k_is); (case xiC_BadStarts => k_is); (case xtC_BadStarts => k_is); (case xeC_BadStarts => k_is); (case ini_BadStarts => k_is); (case tI_BadStarts => k_is); (case lI_BadStarts => k_is); (case cI_BadStarts => k_is); (case kI_BadStarts => k_is); (case xq_TooManyPeople => k_exc); (case xsa_TooManyPeople => k_is); (case xga_TooManyPeople => k_is); (case xgg_TooManyPeople => k_is); (case xcl_TooManyPeople => k_is); (case xco_TooManyPeople => k_is); (case xkC_TooManyPeople => k_is); (case xhd_TooManyPeople => k_is); (case xiC_TooManyPeople => k_is); (case xtC_TooManyPeople => k_is); (case xeC_TooManyPeople => k_is); (case xmk_BadTicks => kx_is); (case xov_BadTicks => kx_is); (case xsa_BadTicks => k_is); (case xga_BadTicks => k_is); (case xgg_BadTicks => k_is); (case xnb_BadTicks => k_is); (case xcl_BadTicks => k_is); (case xco_BadTicks => k_is); (case xkC_BadTicks => k_is); (case xhd_BadTicks => k_is); (case xiC_BadTicks => k_is); (case xtC_BadTicks => k_is); (case xeC_BadTicks => k_is); (case ini_BadTicks => k_is); (case tI_BadTicks => k_is); (case lI_BadTicks => k_is); (case cI_BadTicks => k_is); (case kI_BadTicks => k_is); (case xmk_TooLate => kx_is); (case xov_TooLate => kx_is); (case xsa_TooLate => k_is); (case xga_TooLate => k_is); (case xgg_TooLate => k_is); (case xnb_TooLate => k_is); (case xcl_TooLate => k_is); (case xco_TooLate => k_is); (case xkC_TooLate => k_is); (case xhd_TooLate => k_is); (case xiC_TooLate => k_is); (case xtC_TooLate => k_is); (case xeC_TooLate => k_is); (case ini_TooLate => k_is); (case tI_TooLate => k_is); (case lI_TooLate => k_is); (case cI_TooLate => k_is); (case kI_TooLate => k_is); (case kx_BadTicks_BadParty => kit_is); (case kx_BadTicks_BadStarts => kit_is); (case kx_BadTicks_BadTicks => kit_is); (case kx_BadTicks_LookupError => kit_is); (case kx_BadTicks_TooLate => kit_is); (case kx_BadTicks_TooManyPeople => kit_is); (case kx_TooLate_BadParty => kit_is); (case kx_TooLate_BadStarts => kit_is); (case kx_TooLate_BadTicks => kit_is); (case kx_TooLate_LookupError => kit_is); (case kx_TooLate_TooLate => kit_is); (case kx_TooLate_TooManyPeople => kit_is); (case kx_TooManyPeople_BadParty => kit_is); (case kx_TooManyPeople_BadStarts => kit_is); (case kx_TooManyPeople_BadTicks => kit_is); (case kx_TooManyPeople_LookupError => kit_is); (case kx_TooManyPeople_TooLate => kit_is); (case kx_TooManyPeople_TooManyPeople => kit_is); (case ex_BadTicks_TripError => kts_exm); (case ex_TooLate_TripError => kts_exm); (case ex_TooManyPeople_TripError => kts_exm); (case v_MAX_PEOPLE => k_is); (case v_MAX_START => k_is); (case z_LookupError => k_is); (case z_NotImplemented => k_is); (case z_abs => k_is); (case z_bool => k_is); (case z_int => k_is); (case z_isinstance => k_is); (case z_len => k_is); (case z_range => k_is); (case z_repr => k_is); (case z_sorted => k_is); (case z_tuple => k_is)
